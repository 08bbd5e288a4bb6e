import PyProof.Rows.All
import Wide.All
import OpenK.AllK
import Wide.FinOn
import Lean
import PyProof.EqAt
import PyProof.EqKinds
import PyProof.TupleCall
import PyProof.ReprRoads
import PyProof.P3Eq
import PyProof.NeData
import PyProof.ReprLen
import PyProof.Rows.RegStrFacts
import OpenK.KOwn
import PyProof.StationsW
import PyProof.Rows.Catch
import PyProof.Rows.Own
import PyProof.RulesAs
import PyProof.ExcBaseAll.ValueError
import PyProof.NsDelKeeps
import PyProof.ExcArgsOwn
import PyProof.ExcAttrAll.ValueError
import PyProof.CompFree
import PyProof.CompMap
import PyProof.ConsumeWalk
import PyProof.SumWalk
import PyProof.Rows.TupIter
import PyProof.Rows.SumGenD
import PyProof.FString
import PyProof.Rows.FStr
import PyProof.Rows.RuleIs
import PyProof.FactsAll.tuple_iterator_1
import PyProof.FactsAll.tuple_2
import PyProof.FactsAll.list_3
import PyProof.Cells
import PyProof.ZipIter
import PyProof.EnumMake
import PyProof.EnumFor
import PyProof.ListRange
import PyProof.TupleOfSeq
import PyProof.Rows.SetFrom
import PyProof.Rows.SortShell
import PyProof.CollectWalk
import PyProof.FactsAll.set_1
import PyProof.Rows.SortWalk
import PyProof.FactsAll.set_2
import KE.KDictSum
import KE.KSortTup
import PyProof.TupleKey
import PyProof.IsRules
import KE.KTupSum
import PyProof.WalkInts
import PyProof.SeqI3
import PyProof.Conv_int_bool
import PySem.Challenge.RW_fadewalk_k33_rings_looked_at
def qAA:Lean.Syntax:=.node .none `Lean.Parser.Tactic.tacticSeq #[.node .none `Lean.Parser.Tactic.tacticSeq1Indented #[.node .none `null #[.node .none `Lean.Parser.Tactic.tacticRfl #[.atom .none "rfl"]]]]
theorem qqq(h:True:=by decide):True:=h
def qAB:Lean.Syntax:=qqq._auto_1
section
open PySem PySem.Spec PySem.W PySem.Calls PyProof.Rows
def Te:=@wpAny_bind
def Tf:=@Heap.get?_push_of_some
def Th:=@wpAny_pure
def Ti:=@List.getElem?_eq_some_iff
def Tj:=@List.getElem?_eq_getElem
def Tp:=@Option.map_eq_some_iff
def Tq:=@Nat.le_refl
def Tr:=@List.mem_range
def Tt:=@Heap.lt_size
def Tu:=@Heap.get?_push_size
def Tv:=@if_pos
def Tw:=@if_neg
def Tz:=@List.length_map
def TF:=@Nat.ne_of_lt
def TJ:=@Option.some.inj
def TQ:=@List.mem_singleton
def TV:=@List.mem_cons
def TX:=@List.size_toArray
def TY:=@Nat.lt_of_lt_of_le
def T3:=@List.length_append
def T4:=@List.mem_append
def T5:=@List.getElem?_append_left
def T6:=@List.mem_cons_self
def T7:=@Bool.eq_iff_iff
def T8:=@List.getElem?_map
def T9:=@List.mem_of_getElem?
def Ua:=@List.mem_filter
def Ub:=@Bool.false_ne_true
def Uc:=@Heap.size_push
def Ud:=@Option.bind_eq_some_iff
def Ue:=@Nat.le_trans
def Ug:=@wpAny_newObj_type
def Uh:=@List.all_eq_true
def Ui:=@List.mem_cons_of_mem
def Uj:=@PyProof.Rows.callWith_type1
def Uk:=@decide_eq_true
def Ul:=@List.getElem?_eq_none_iff
def Um:=@wpAny_mono
def Uo:=@List.length_range
def Up:=@Nat.zero_add
def Uq:=@List.length_filter_le
def Ur:=@wpAny_callSpecial?_slot
def Us:=@List.mem_map
def Ut:=@PassesOwn.leaving
def Uu:=@List.map_cons
def Uv:=@PySem.W.mg_none_of
def Uw:=@wpAny_call_entry
def Ux:=@decide_eq_false
def Uy:=@wpAny_holding
def Uz:=@List.getElem?_eq_none
def UG:=@of_decide_eq_true
def UJ:=@List.getElem?_set_self
def UL:=@wpAny_field
def UT:=@List.map_map
def UV:=@List.getElem_mem
def UW:=@List.mem_append_right
def U0:=@Array.getElem?_eq_getElem
def U3:=@Array.getD_eq_getD_getElem?
def U4:=@List.mem_iff_getElem
def U5:=@Bool.and_eq_true
def U6:=@decide_eq_true_eq
def U7:=@List.getElem?_append_right
def U8:=@Around.under_plainId
def U9:=@List.pairwise_cons
def Va:=@PyProof.Rows.F.plain_set_update_loop
def Vb:=@Array.length_toList
def Vc:=@List.getD_eq_getElem?_getD
def Vd:=@Bool.not_eq_true
def Ve:=@List.length_cons
def Vf:=@Nat.lt_succ_of_lt
def Vg:=@wpAny_setState_of
def Vh:=@codeAny_builtin
def Vi:=@Nat.lt_succ_self
def Vj:=@PySem.mem_of_lookup
def Vk:=@List.replicate_succ
def Vl:=@Nat.zero_le
def Vm:=@PyProof.Rows.slot_tuple_getitem
def Vn:=@List.getElem?_set_ne
def Vo:=@Nat.mod_lt
def Vp:=@Heap.SameBut.update
def Vq:=@Int.toNat_natCast
def Vr:=@wpAny_pyIter_list
def Vs:=@Nat.lt_irrefl
def Vt:=@List.length_replicate
def Vu:=@PySem.W.kia_one
def Vv:=@List.mem_append_left
def Vw:=@codeAny_mono
def Vx:=@wpAny_setField
def Vy:=@List.flatten_cons
def Vz:=@List.getElem?_range
def VB:=@List.pairwise_iff_getElem
def VD:=@PyProof.Rows.callWith_builtin1
def VF:=@List.mem_iff_getElem?
def VG:=@List.length_take
def VH:=@PyProof.Rows.F.entry_set_update_loop
def VJ:=@List.length_drop
def VL:=@List.any_eq_true
def VM:=@sizeLine_eq
def VN:=@wpAny_rule
def VP:=@wpAny_seqItems
def VR:=@List.mem_of_mem_drop
def V0:=@List.filter_cons_of_pos
def V1:=@wpAny_truthy_bool
def V2:=@List.foldl_cons
def V3:=@List.filterMap_cons
def V4:=@wpAny_setEntries_of
def V5:=@beq_eq_false_iff_ne
def V6:=@Nat.le_of_lt
def V7:=@Heap.get?_update_other
def V8:=@Nat.mod_eq_of_lt
def V9:=@Calls.spliced_cons
def Wb:=@List.mem_of_mem_take
def Wc:=@List.map_append
def Wd:=@Nat.not_lt
def We:=@Calls.spliced_nil
def Wf:=@List.append_assoc
def Wg:=@wpAny_attempt
def Wh:=@List.lookup_cons
def Wi:=@wpAny_askSetting
def Wj:=@List.filter_eq_nil_iff
def Wk:=@List.pairwise_lt_range
def Wl:=@Nat.ne_of_gt
def Wm:=@assignInOrder_cons
def Wn:=@wpAny_typeOf
def Wo:=@List.of_mem_zip
def Wq:=@wpAny_passesOwn
def Wr:=@List.append_nil
def Ws:=@Array.getElem?_toList
def Wt:=@plainId_quiet
def Wu:=@F.plain_list_iadd
def Wv:=@Bool.eq_false_iff
def Ww:=@List.drop_eq_getElem_cons
def Wx:=@List.map_congr_left
def Wy:=@Heap.get?_update_ne
def Wz:=@List.filter_cons_of_neg
def WD:=@List.getElem?_replicate
def WF:=@listUpdate_at
def WL:=@wpAny_standAt
def WM:=@pushCells_keeps
def WN:=@List.length_set
def WP:=@Option.map_some
def WQ:=@List.take_of_length_le
def WR:=@List.nodup_append
def WT:=@List.pairwise_map
def WW:=@List.ext_getElem?
def WX:=@fits_of_scanBound
def WY:=@F.slot_enumerate_next
def W0:=@List.take_append_drop
def W2:=@IntsAre.length
def W3:=@Nat.lt_trans
def W4:=@ReprK.of_reads
def W5:=@wpAny_fieldsOf
def W6:=@Heap.get?_update_self
def W7:=@wpAny_runValue
def W8:=@F.args_object_init_3
def W9:=@Array.getElem?_eq_none_iff
def Xa:=@Array.getElem?_eq_some_iff
def Xb:=@slot_tupleiter_next
def Xc:=@get?_update_seq
def Xd:=@Calls.call_function_entry
def Xe:=@wpAny_loadPart'
def Xf:=@AutoSeq1.wpAny_loadPart'
def Xg:=@SetTable.toList_insertAt
def Xh:=@IsTup.new
def Xi:=@wpAny_Call_Name_kw
def Xj:=@PySem.F.args_tuple_add_2
def Xk:=@Option.isSome_iff_exists
def Xl:=@PySem.F.slot_list_append
def Xm:=@PySem.F.type_list_append
def Xn:=@callType_new
def Xo:=@Nat.lt_of_le_of_lt
def Xp:=@wpAny_bindName
def Xq:=@PySem.F.plainAttrs_list
def Xr:=@PySem.F.entry_tuple_add
def Xu:=@List.length_eq_zero_iff
def Xv:=@Nat.le_of_lt_succ
def Xw:=@List.filter_congr
def Xx:=@Nat.lt_trichotomy
def Xy:=@wpAny_storeSet_of
def Xz:=@Heap.get?_push_ne
def XC:=@Bool.not_eq_false
def XD:=@PySem.F.slot_tuple_add
def XF:=@List.all_cons
def XH:=@List.any_cons
def XJ:=@List.isEmpty_iff
def XM:=@F.typeCall_zip_2
def XN:=@Heap.size_update
def XQ:=@List.ext_getElem
def XR:=@wpAny_isInstance
def XS:=@List.mem_flatMap
def XX:=@F.plain_proto_collect
def X3:=@F.entry_proto_collect
def X4:=@iter_tuple
def X5:=@List.nodup_cons
def X6:=@wpAny_execs_nil
def X7:=@intKind_is
def X8:=@List.nil_append
def Yb:=@F.entry_zip_new
def Yc:=@beq_iff_eq
def Yd:=@call_meets
def Ye:=@codeAny_of_tree
def Yg:=@F.slot_int_rmul
def Yh:=@F.newCall_zip_2
def Yi:=@wpAny_call
def Yj:=@weight_type_call_type
end
set_option Elab.async false
set_option maxRecDepth 100000
set_option maxHeartbeats 8000000
namespace T
open PySem PySem.W PyProof.Rows
/-- the top's run over a tree -/
noncomputable def runT(p:Program)(w:World)(m:Nat)(a:Option Value):Nat->SharedT->Thread->Option SharedT
 | 0,_,_=>none
 | n + 1,s,t=>match through t with
   | true=>some s
   | false=>match stepOk m a t with
     | false=>none
     | true=>match stepT (denote treeTable) p w s t with
       | some r=>runT p w m a n r.1 r.2
       | none=>none
theorem run_of{p:Program}{w:World}{m:Nat}{a:Option Value}:∀ {n:Nat}{s s':SharedT}{t:Thread},runT p w m a n s t=some s'->topRun treeTable p w m a n s.abs t=some s'.abs
 | 0,_,_,_,h=>by cases h
 | n + 1,s,s',t,h=>by
   unfold runT at h;unfold topRun;cases ht:through t with
   | true=>rw [ht]at h;cases h;rfl
   | false=>
     rw [ht]at h;cases hk:stepOk m a t with
     | false=>rw [hk]at h;cases h
     | true=>
       rw [hk]at h;cases hs:stepT (denote treeTable) p w s t with
       | none=>rw [hs]at h;cases h
       | some r=>obtain ⟨s2,t2⟩:=r;rw [hs]at h;rw [stepT_spec hs];exact run_of h
noncomputable def grow:List Obj->Nat->BT->BT
 | [],_,t=>t
 | o::l,n,t=>grow l (n + 1) (t.ins n o)
noncomputable def bootT(B:Heap)(os:OsState):SharedT:=⟨grow B.objs.toList 0 .nil,B.objs.size,B.life,#[],boot_drawn,boot_toks,os⟩
noncomputable def bootA(w:World)(os:OsState):Shared:=⟨boot_heap w.params,#[],boot_drawn,boot_toks,os⟩
theorem boot_abs(w:World)(os:OsState):(bootT (boot_heap w.params) os).abs=bootA w os:=by kernel_rfl
theorem boot_ns(w:World):((boot_heap w.params).isNs mainGlobals && (#[]:Array GenState).size == 0)=true:=by kernel_rfl
noncomputable def chk{α:Type}(p q:Program)(loose:List Str)(Xt:Shared->Bool)(Yf:Shared->α)(N:Nat)(B:Heap)(w:World)(os:OsState):=
 (runT p w B.objs.size (B.nsMap mainGlobals "__annotations__") N (bootT B os) (topStub p)).map λs=>
   (staticsOk (importedModules p.main.body) B s.abs.heap && namesBound p s.abs.heap && gensDone s.abs && laidKept B s.abs.heap,openSeen q loose (importedModules p.main.body) Xt true s.abs,Yf s.abs)
theorem left{α:Type}{p q:Program}{loose:List Str}{Xt:Shared->Bool}{Yf:Shared->α}{Ya:World->α}{N:Nat}(e:opening p=plainProg p.main.scope.names)(hN:Nat.ble 600 N=true)(f:∀ s,fenceModules? p s=some s)
  (h:∀ (w:World) (os:OsState),chk p q loose Xt Yf N (boot_heap w.params) w os=some (true,openGood q loose,Ya w)):LeftO p q loose Xt Yf Ya N:=λw=>by
 obtain ⟨⟨hh,gs,d,k,os⟩,e1,e2⟩:=Tp.mp (boot_open (N:=N) e hN f w);obtain ⟨rfl,rfl,rfl,rfl⟩:hh=boot_heap w.params/\gs=#[]/\d=boot_drawn/\k=boot_toks:=by simpa using e2
 obtain ⟨s,r1,r2⟩:=Tp.mp (h w os);have r:=run_of r1;rw [boot_abs]at r;obtain ⟨l1,l2,l3⟩:_/\_/\_:=by simpa only [Prod.mk.injEq] using r2
 unfold openEnds topFrom;rw [e1];show (match (boot_heap w.params).isNs mainGlobals && (#[]:Array GenState).size == 0 with | true=>_ | false=>_:Option Shared).map _=_
 rw [boot_ns];show ((topRun treeTable p w (boot_heap w.params).objs.size _ N (bootA w os) (topStub p)).bind _).map _=_;rw [r];show (match staticsOk (importedModules p.main.body) (boot_heap w.params) s.abs.heap && namesBound p s.abs.heap && gensDone s.abs && laidKept (boot_heap w.params) s.abs.heap with | true=>_ | false=>_:Option Shared).map _=_
 rw [l1];show some (openSeen q loose (importedModules p.main.body) Xt true s.abs,Yf s.abs)=some _;rw [l2,l3]
noncomputable def tp(i:Nat):Stmt:=PySem.Challenge.pw_fadewalk_k33_rings_looked_at.main.body.getD i (.Pass ⟨0,0,0,0⟩)
noncomputable def view:Program:={ PySem.Challenge.pw_fadewalk_k33_rings_looked_at with main:={ PySem.Challenge.pw_fadewalk_k33_rings_looked_at.main with body:=[tp 0,tp 2,tp 3,tp 5,tp 7,tp 8,tp 9,tp 10,tp 11,tp 12,tp 13,tp 15,tp 17,tp 18,tp 20,tp 21,tp 23,tp 24,tp 25,tp 26,tp 27,tp 28,tp 29,tp 30,tp 31,tp 32,tp 33,tp 34,tp 35,tp 36,tp 37,tp 38,tp 39,tp 40,tp 41] } }
noncomputable def loos:List Str:=["Walk"]
noncomputable def lvs:List (Str×WData):=[]
noncomputable def lhs(B:Heap)(as:List Addr)(w:World)(os:OsState):=chk PySem.Challenge.pw_fadewalk_k33_rings_looked_at view loos (λs=>xlAt view lvs s && recOk (RowW.records (OpenRow.toRowW (OpenLaw.row PySem.Challenge.rw_fadewalk_k33_rings_looked_at))) s) (λs=>as.map s.heap.get?) 3694 B w os
noncomputable def rhs(K:Params->Frag)(w:World):=some (true,openGood view loos,(K w.params).map λp=>some p.2)
lay_quick T.lhs T.rhs
theorem hook{K:Params->Frag}{as:List Addr}{e:∀ P,as=(K P).map (·.1)}(h:∀ (w:World) (os:OsState),PySem.W.Fast.tw12313586583820656202 (boot_heap w.params) as w os=PySem.W.Fast.tw7420988445182104193 K w):
  LeftO PySem.Challenge.pw_fadewalk_k33_rings_looked_at view loos (λs=>xlAt view lvs s && recOk (RowW.records (OpenRow.toRowW (OpenLaw.row PySem.Challenge.rw_fadewalk_k33_rings_looked_at))) s) (Hook.obs (kHook K as e)) (Hook.val (kHook K as e)) 3694:=
 left rfl (by decide) (λ_=>rfl) λw os=>by show lhs (boot_heap w.params) as w os=rhs K w;rw [PySem.W.Fast.te12313586583820656202,PySem.W.Fast.te7420988445182104193];exact h w os
local macro_rules
 | `(tactic| o_head $H)=>`(tactic| (
   have hα:PySem.W.Hook.α $H=List (Option PySem.Obj):=rfl
   clear hα;refine PySem.W.holds_open (q:=T.view) (loose:=T.loos)
    (Xt:=λs=>PySem.W.xlAt T.view T.lvs s && PySem.W.recOk (PySem.W.RowW.records (PySem.W.OpenRow.toRowW (PySem.W.OpenLaw.row PySem.Challenge.rw_fadewalk_k33_rings_looked_at))) s)
    (XP:=PySem.W.XL T.view T.lvs) (Yf:=PySem.W.Hook.obs $H) (Ya:=PySem.W.Hook.val $H)
    (YP:=PySem.W.Hook.says $H) (N:=3694) ?hl (PySem.W.Hook.of $H) (PySem.W.Hook.keeps $H)
    (λs e=>PySem.W.xl_of s (Bool.and_eq_true_iff.mp e).1) PySem.W.XL.keeps rfl rfl rfl
    (λs e=>PySem.W.recFacts_of (Bool.and_eq_true_iff.mp e).2) rfl
    (by first | assumption | decide +kernel) (by decide +kernel)
    ⟨rfl,rfl,rfl,rfl,rfl,by decide +kernel⟩ ?hw ?hc;(case hl=>exact T.hook (λw os=>by kernel_rfl))))
open_top cut for PySem.Challenge.rw_fadewalk_k33_rings_looked_at
end T
set_option linter.all false
set_option tactic.hygienic false
set_option bootstrap.genMatcherCode false
namespace L2
open PySem PySem.Spec PyProof.Rows
noncomputable abbrev Key:=Sum Int Str
noncomputable def keyIs:Key->Value->Bool
 |.inl k,v=>Value.isInt k v
 |.inr x,v=>Value.isStrOf x v
noncomputable def keyH(w:World):Key->Int
 |.inl k=>hashInt k
 |.inr x=>hashStr w x
theorem keyIs_shape:∀ {k:Key}{v:Value},keyIs k v=true->(∃ i t,k=Sum.inl i/\v=Value.int i t)\/(∃ x t,k=Sum.inr x/\v=Value.str x t)
 |.inl i,v,h=>by obtain⟨t,e⟩:=Value.isInt_shape (k:=i) (v:=v) h;exact .inl ⟨i,t,rfl,e⟩
 |.inr x,v,h=>by obtain⟨t,e⟩:=Value.isStrOf_shape (x:=x) (v:=v) h;exact .inr ⟨x,t,rfl,e⟩
theorem keyIs_int(i:Int)(t:Tok):keyIs (.inl i) (.int i t)=true:=by simp[keyIs,Value.isInt]
theorem keyIs_str(x:Str)(t:Tok):keyIs (.inr x) (.str x t)=true:=by simp[keyIs,Value.isStrOf]
theorem key_ll(a b:Int):decide ((Sum.inl a:Key)=Sum.inl b)=(a==b):=by
 by_cases e:a=b
 ·subst e;simp
 ·have h:¬ (Sum.inl a:Key)=Sum.inl b:=λq=>e (Sum.inl.inj q)
  rw[Ux h];exact (V5.mpr e).symm
theorem key_rr(a b:Str):decide ((Sum.inr a:Key)=Sum.inr b)=decide (a=b):=by
 by_cases e:a=b
 ·subst e;simp
 ·have h:¬ (Sum.inr a:Key)=Sum.inr b:=λq=>e (Sum.inr.inj q)
  rw[Ux h,Ux e]
theorem key_lr(a:Int)(b:Str):decide ((Sum.inl a:Key)=Sum.inr b)=false:=Ux (λq=>nomatch q)
theorem key_rl(a:Str)(b:Int):decide ((Sum.inr a:Key)=Sum.inl b)=false:=Ux (λq=>nomatch q)
noncomputable def mixKind(prog:Program)(w:World):PySem.KeyKind prog w Key where
 is:=keyIs
 hash:=keyH w
 inj:=λv a b ha hb=>by
  rcases keyIs_shape ha with ⟨i,t,rfl,rfl⟩ | ⟨x,t,rfl,rfl⟩
  ·rcases keyIs_shape hb with ⟨j,u,rfl,e⟩ | ⟨y,u,rfl,e⟩
   ·injection e with e1 _;rw[e1]
   ·exact nomatch e
  ·rcases keyIs_shape hb with ⟨j,u,rfl,e⟩ | ⟨y,u,rfl,e⟩
   ·exact nomatch e
   ·injection e with e1 _;rw[e1]
 byValue:=λk v h=>by rcases keyIs_shape h with ⟨i,t,rfl,rfl⟩ | ⟨x,t,rfl,rfl⟩<;>rfl
 pyHash:=λhv h=>by
  rcases keyIs_shape hv with ⟨i,t,rfl,rfl⟩ | ⟨x,t,rfl,rfl⟩
  ·exact wpAny_pyHash_int h
  ·exact wpAny_pyHash_str h
 eqBool:=λhu hv h=>by
  rcases keyIs_shape hu with ⟨i,t,rfl,rfl⟩ | ⟨x,t,rfl,rfl⟩
  ·rcases keyIs_shape hv with ⟨j,u,rfl,rfl⟩ | ⟨y,u,rfl,rfl⟩
   ·rw[key_ll]at h;exact wpAny_eqBool_int h
   ·rw[key_lr]at h;exact SeqAt.EqAt.int_str i t y u _ _ _ _ h
  ·rcases keyIs_shape hv with ⟨j,u,rfl,rfl⟩ | ⟨y,u,rfl,rfl⟩
   ·rw[key_rl]at h;exact SeqAt.EqAt.str_int x t j u _ _ _ _ h
   ·rw[key_rr]at h;exact wpAny_eqBool_str h
 «strs»:=λk x t v h=>by
  rcases keyIs_shape h with ⟨i,u,rfl,e⟩ | ⟨y,u,rfl,e⟩
  ·exact nomatch e
  ·injection e with e1 _
   subst e1;cases v<;>rfl
theorem mixKind_int(prog:Program)(w:World)(i:Int)(t:Tok):(mixKind prog w).is (.inl i) (.int i t)=true:=keyIs_int i t
theorem mixKind_str(prog:Program)(w:World)(x:Str)(t:Tok):(mixKind prog w).is (.inr x) (.str x t)=true:=keyIs_str x t
open PySem PySem.Spec PyProof.Rows
inductive V where
 |non | bl (b:Bool) | int (i:Int) | str (x:Str) | byt (b:Array UInt8) | flt (b:UInt64) | ref (a:Addr) | ty (n:String)
 deriving DecidableEq
noncomputable def RelV:V->Value->Prop
 |.non,u=>u=Value.none
 |.bl b,u=>u=Value.bool b
 |.int i,u=>∃t,u=Value.int i t
 |.str x,u=>∃t,u=Value.str x t
 |.byt b,u=>∃t,u=Value.bytes b t
 |.flt b,u=>∃t,u=Value.float b t
 |.ref a,u=>u=Value.ref a
 |.ty n,u=>u=Value.type n
noncomputable abbrev Vals:List V->List Value->Prop:=Paired RelV
theorem Vals.length(r:Vals xs us):xs.length=us.length:=Paired.length r
theorem Vals.get:∀ {xs:List V}{us:List Value}{i:Nat}{x:V},Vals xs us->xs[i]?=some x->∃ u,us[i]?=some u/\RelV x u
 |_,_,_,_,.nil,e=>by simp at e
 |_,_,0,_,.cons r _,e=>by simp at e;subst e;exact⟨_,rfl,r⟩
 |_,_,i+1,x,.cons _ t,e=>by
   obtain⟨u,h1,h2⟩:=Vals.get (i:=i) (x:=x) t (by simpa using e)
   exact⟨u,by simpa using h1,h2⟩
theorem Vals.set(r:RelV x u):∀{xs:List V}{us:List Value} (i:Nat),Vals xs us->Vals (xs.set i x) (us.set i u)
 |_,_,_,.nil=>.nil
 |_,_,0,.cons _ t=>.cons r t
 |_,_,i+1,.cons q t=>.cons q (Vals.set r i t)
theorem Vals.append:∀{xs ys:List V}{us ws:List Value},Vals xs us->Vals ys ws->Vals (xs++ys) (us++ws)
 |_,_,_,_,.nil,s=>s
 |_,_,_,_,.cons r t,s=>.cons r (Vals.append t s)
theorem Vals.take:∀{xs:List V}{us:List Value} (n:Nat),Vals xs us->Vals (xs.take n) (us.take n)
 |_,_,0,_=>.nil
 |_,_,_+1,.nil=>.nil
 |_,_,n+1,.cons r t=>.cons r (Vals.take n t)
theorem Vals.drop:∀{xs:List V}{us:List Value} (n:Nat),Vals xs us->Vals (xs.drop n) (us.drop n)
 |_,_,0,r=>r
 |_,_,_+1,.nil=>.nil
 |_,_,n+1,.cons _ t=>Vals.drop n t
theorem Vals.none_of:∀{xs:List V}{us:List Value}{i:Nat},Vals xs us->xs[i]?=none->us[i]?=none:=λ{xs us i} r e=>by have h1:=r.length;have h2:xs.length<=i:=Ul.mp e;exact Ul.mpr (by lia)
noncomputable def RelO:Option V->Option Value->Prop
 |some v,some u=>RelV v u
 |none,none=>True
 |_,_=>False
noncomputable def KV{κ:Type}:List (κ×V)->List (κ×Value)->Prop:=Paired λ(p:κ×V) (q:κ×Value)=>p.1=q.1/\RelV p.2 q.2
noncomputable def kV:Key->V
 |.inl i=>.int i
 |.inr x=>.str x
inductive HO where
 /-- a list -/
 |lst (xs:List V)
 /-- a tuple (never changes) -/
 |tup (xs:List V)
 /-- a dict whose keys are ints and texts;one whose keys are tuples of ints and texts (the empty one is both) -/
 |dK (kvs:List (Key×V)) | dT (kvs:List (List Key×V))
 /-- a set of ints: its members,its size -/
 |set (S:Int->Bool) (n:Nat)
 /-- an instance of the class at C,its dict at dx,its attributes -/
 |ins (C dx:Addr) (fs:List (Str×V))
 /-- the dict of the instance at x -/
 |own (x:Addr)
 /-- the dict of an exception -/
 |xd (fs:List (Str×V))
 /-- a bound method,f of x -/
 |met (f x:Addr)
 /-- a range object lo,lo+1,.. below hi -/
 |rng (lo hi:Int)
 /-- a thing that is known to the object (the script;a dict while a loop walks it): read,never written while it is so -/
 |frz (o:Obj) (u:HO)
 /-- a code object's table -/
 |tbl (ps:Array Value)
 /-- any other thing,by what is true of its one object (a def of one's own: SetO a S n:=HO.ext λh=>..) -/
 |ext (φ:Heap->Prop)
noncomputable abbrev Hp:=Addr->Option HO
noncomputable def upd(H:Hp)(a:Addr)(o:HO):Hp:=λb=>if b=a then some o else H b
theorem upd_same{H:Hp}{a:Addr}{o:HO}:upd H a o a=some o:=by unfold upd;rw[Tv rfl]
theorem upd_ne{H:Hp}{a b:Addr}{o:HO}(h:b≠a):upd H a o b=H b:=by unfold upd;rw[Tw h]
theorem upd_upd:upd (upd H a o) a u=upd H a u:=by funext b;unfold upd;split<;>rfl
theorem ne_of_none{H:Hp}{a b:Addr}{o:HO}(h:H a=some o)(h':H b=none):a≠b:=by intro e;subst e;rw[h]at h';cases h'
noncomputable def RecAt(H:Hp)(v:Value):Prop:=∃c o fs q t,v=.ref c/\H c=some (.frz o (.own c))/\o.data=.fields fs/\fs[1]?=some (.str q t)
section
variable(P:Program)(w:World)
noncomputable def ObjOk(H:Hp)(h:Heap)(a:Addr):HO->Prop
 |.lst xs=>xs.length<=sizeLine/\∃(its:List Value) (n:Nat),Vals xs its/\h.get? a=some { cls:=.type "list",data:=.seq its.toArray n }
 |.tup xs=>xs.length<=sizeLine/\∃its:List Value,Vals xs its/\IsTup h a its.toArray
 |.dK kvs=>kvs.length<=sizeLine/\(a==sysModules)=false/\∃vs,KV kvs vs/\h.DictOf (mixKind P w) a vs
 |.dT kvs=>kvs.length<=sizeLine/\(a==sysModules)=false/\∃xs:List (List Key×Addr×Value),
   Paired (λ(p:List Key×V) (q:List Key×Addr×Value)=>p.1=q.1/\H q.2.1=some (.tup (p.1.map kV))/\RelV p.2 q.2.2) kvs xs /\
   ∃o es ep,h.get? a=some o/\o.ExactDict/\o.data=.dict es ep/\es.toList=xs.map (entryOfKey (tupleKind (mixKind P w)))/\(xs.map (·.1)).Nodup
 |.set S n=>h.SetOf (intKind P w) a S n
 |.ins C dx fs=>H dx=some (.own a)/\fs.length<=1000/\dx≠a/\h.get? a=some (PySem.W.instObj C dx) /\
   ∃mA,h.Ns1 dx mA/\(∀f,RelO (fs.lookup f) (mA f))/\PySem.Within mA (fs.map (·.1))
 |.own _=>∃o,h.get? a=some o
 |.xd fs=>∃mA,h.Ns1 a mA/\∀f,RelO (fs.lookup f) (mA f)
 |.rng lo hi=>∃t u v,h.get? a=some { cls:=.type "range",data:=.fields #[.int lo t,.int hi u,.int 1 v] }
 |.frz o u=>h.get? a=some o/\ObjOk H h a u
 |.tbl _=>∃ps:Array Value,h.get? a=some { cls:=.none,data:=.fields ps }/\TriplesOk ps.toList/\∀pos cv,codeAmong pos ps.toList=some cv->RecAt H cv
 |.met f x=>h.get? a=some (PySem.W.methodObj (.ref f) (.ref x))
 |.ext φ=>φ h/\(∃o,h.get? a=some o)/\∀h1 h2:Heap,φ h1->(∀o,h1.get? a=some o->h2.get? a=some o)->φ h2
noncomputable def HOk(H:Hp)(h:Heap):Prop:=∀a o,H a=some o->ObjOk P w H h a o
end
section
variable{P:Program}{w:World}{H H':Hp}{h h':Heap}{a:Addr}{o:HO}
theorem ObjOk.lt(x:ObjOk P w H h a o):a<h.objs.size:=by
 cases o with
 |lst xs=>obtain⟨_,_,_,_,e⟩:=x;exact Tt e
 |tup xs=>obtain⟨_,_,_,p⟩:=x;exact p.lt
 |dK kvs=>obtain⟨_,_,_,_,o,_,_,e,_⟩:=x;exact Tt e
 |dT kvs=>obtain⟨_,_,_,_,o,_,_,e,_⟩:=x;exact Tt e
 |set S n=>obtain⟨o,_,_,_,e,_⟩:=x;exact Tt e
 |ins C dx fs=>obtain⟨_,_,_,e,_⟩:=x;exact Tt e
 |own y=>obtain⟨_,e⟩:=x;exact Tt e
 |xd fs=>obtain⟨_,⟨_,_,_,e,_⟩,_⟩:=x;exact Tt e
 |rng lo hi=>obtain⟨_,_,_,e⟩:=x;exact Tt e
 |frz ob u=>obtain⟨e,_⟩:=x;exact Tt e
 |tbl ps=>obtain⟨_,e,_⟩:=x;exact Tt e
 |met f y=>exact Tt (show h.get? a=some _ from x)
 |ext φ=>obtain⟨_,⟨_,e⟩,_⟩:=x;exact Tt e
theorem Paired.mapP:∀{l₁:List α}{l₂:List β},Paired F l₁ l₂->(∀a b,F a b->G a b)->Paired G l₁ l₂
 |_,_,.nil,_=>.nil
 |_,_,.cons r t,f=>.cons (f _ _ r) (Paired.mapP t f)
theorem ObjOk.stay(x:ObjOk P w H h a o)(k:∀ b u,(b=a\/H b=some (.own a))->h.get? b=some u->h'.get? b=some u)
  (ho:∀b,H b=some (.own a)->H' b=some (.own a)) (ht:∀b xs,H b=some (.tup xs)->H' b=some (.tup xs)) (hf:∀b o,H b=some (.frz o (.own b))->H' b=some (.frz o (.own b)):=by exact λs s q=>q):ObjOk P w H' h' a o:=by
 induction o with
 |lst xs=>obtain⟨z,its,n,r,e⟩:=x;exact⟨z,its,n,r,k _ _ (.inl rfl) e⟩
 |tup xs=>obtain⟨z,its,r,ob,e,c⟩:=x;exact⟨z,its,r,ob,k _ _ (.inl rfl) e,c⟩
 |dK kvs=>obtain⟨z,y,vs,r,ob,es,ep,e,c⟩:=x;exact⟨z,y,vs,r,ob,es,ep,k _ _ (.inl rfl) e,c⟩
 |dT kvs=>obtain⟨z,y,xs,r,ob,es,ep,e,c⟩:=x;exact⟨z,y,xs,Paired.mapP r λp q z=>⟨z.1,ht _ _ z.2.1,z.2.2⟩,ob,es,ep,k _ _ (.inl rfl) e,c⟩
 |set S n=>obtain⟨ob,es,ep,t,e,c⟩:=x;exact⟨ob,es,ep,t,k _ _ (.inl rfl) e,c⟩
 |ins C dx fs=>obtain⟨d,z,ne,e,mA,⟨od,es,ep,e2,c⟩,r⟩:=x;exact⟨ho _ d,z,ne,k _ _ (.inl rfl) e,mA,⟨od,es,ep,k _ _ (.inr d) e2,c⟩,r⟩
 |own y=>obtain⟨ob,e⟩:=x;exact⟨ob,k _ _ (.inl rfl) e⟩
 |xd fs=>obtain⟨mA,⟨od,es,ep,e,c⟩,r⟩:=x;exact⟨mA,⟨od,es,ep,k _ _ (.inl rfl) e,c⟩,r⟩
 |rng lo hi=>obtain⟨t,u,v,e⟩:=x;exact⟨t,u,v,k _ _ (.inl rfl) e⟩
 |frz ob u ih=>obtain⟨e,q⟩:=x;exact⟨k _ _ (.inl rfl) e,ih q⟩
 |tbl ps=>obtain⟨ps',e,z,r⟩:=x;exact⟨ps',k a _ (.inl rfl) e,z,λpos cv q=>let ⟨c,o,fs,q',t,g1,g2,g3⟩:=r pos cv q;⟨c,o,fs,q',t,g1,hf c o g2,g3⟩⟩
 |met f y=>have e:h.get? a=some (PySem.W.methodObj (.ref f) (.ref y)):=x;show h'.get? a=some (PySem.W.methodObj (.ref f) (.ref y));exact k a _ (.inl rfl) e
 |ext φ=>obtain⟨p,⟨o,e⟩,st⟩:=x;exact⟨st _ _ p λo q=>k _ _ (.inl rfl) q,⟨o,k _ _ (.inl rfl) e⟩,st⟩
theorem HOk.lt(x:HOk P w H h)(e:H a=some o):a<h.objs.size:=(x a o e).lt
theorem HOk.fresh(x:HOk P w H h)(e:h.objs.size<=a):H a=none:=by
 cases q:H a with
 |none=>rfl
 |some u=>exact absurd (TY (x.lt q) e) (Vs _)
theorem HOk.kept(x:HOk P w H h)(k:∀b u,h.get? b=some u->h'.get? b=some u):HOk P w H h':=λa o e=>
 (x a o e).stay (λb u z q=>k b u q) (λz q=>q) λz z q=>q
theorem HOk.laid(x:HOk P w H h)(k:∀b u,h.get? b=some u->h'.get? b=some u)(hp:h.objs.size<=a)(new:ObjOk P w (upd H a o) h' a o):HOk P w (upd H a o) h':=λb u e=>by
 have hn:=x.fresh hp;by_cases hb:b=a
 ·subst hb;rw[upd_same]at e;cases e;exact new
 ·rw[upd_ne hb]at e;exact (x b u e).stay (λc v z q=>k c v q) (λc q=>by rw[upd_ne (ne_of_none q hn)];exact q) (λc xs q=>by rw[upd_ne (ne_of_none q hn)];exact q) λc o q=>by rw[upd_ne (ne_of_none q hn)];exact q
end
noncomputable def Rd(H:Hp)(a:Addr)(u:HO):Prop:=H a=some u\/∃o,H a=some (.frz o u)
theorem Rd.ok(r:Rd H a u)(x:HOk P w H h):ObjOk P w H h a u:=by
 rcases r with r | ⟨o,r⟩
 ·exact x a u r
 ·obtain⟨_,q⟩:=x a _ r;exact q
noncomputable def Mut:Option HO->Prop
 |some (.lst _)=>True
 |some (.dK _)=>True
 |some (.dT _)=>True
 |some (.set _ _)=>True
 |some (.ins _ _ _)=>True
 |some (.ext _)=>True
 |_=>False
section
variable{P:Program}{w:World}{H:Hp}{h h':Heap}{x e:Addr}{o':HO}
theorem HOk.write(ok:HOk P w H h)(mu:Mut (H x))(he:e=x\/H e=some (.own x))(k:∀ b u,b≠e->h.get? b=some u->h'.get? b=some u)(heo:∃ u,h'.get? e=some u)
  (new:ObjOk P w (upd H x o') h' x o'):HOk P w (upd H x o') h':=λb u q=>by
 have nown:∀c y,H c=some (.own y)->c≠x:=λc y r z=>by subst z;rw[r]at mu;exact mu
 have ntup:∀c xs,H c=some (.tup xs)->c≠x:=λc xs r z=>by subst z;rw[r]at mu;exact mu
 have nfrz:∀c o u,H c=some (.frz o u)->c≠x:=λc o u r z=>by subst z;rw[r]at mu;exact mu
 by_cases hb:b=x
 ·subst hb;rw[upd_same]at q;cases q;exact new
 ·rw [upd_ne hb]at q;by_cases hbe:b=e
  ·have q':H b=some (.own x):=by
    rcases he with z | z
    ·exact absurd (hbe.trans z) hb
    ·rw[hbe];exact z
   rw[q]at q';cases q';obtain⟨v,hv⟩:=heo;exact⟨v,by rw[hbe];exact hv⟩
  ·refine (ok b u q).stay (λc v hc r=>k c v ?_ r) (λc r=>by rw[upd_ne (nown c b r)];exact r) (λc xs r=>by rw[upd_ne (ntup c xs r)];exact r) λc o r=>by rw[upd_ne (nfrz c o _ r)];exact r
   rcases hc with rfl | hc
   ·exact hbe
   ·rintro rfl;rcases he with z | z
    ·exact nown c b hc z
    ·rw[hc]at z;cases z;exact hb rfl
end
structure Un(fs ex:List Addr)(H H':Hp)(h h':Heap):Prop where
 keep:∀b o,h.get? b=some o->H b=none->b∉fs->b∉ex->h'.get? b=some o
 slot:∀b o,h.get? b=some o->H b=none->b∈fs->b∉ex->∃sl,h'.get? b=some { o with slots:=sl }
 free:∀b o,h.get? b=some o->H b=none->b∉ex->H' b=none
 there:∀b o,h.get? b=some o->b∉ex->∃o',h'.get? b=some o'
 tups:∀b xs,H b=some (.tup xs)->H' b=some (.tup xs)
 frzs:∀b o u,H b=some (.frz o u)->H' b=some (.frz o u)
 tbls:∀b ps,H b=some (.tbl ps)->∃more,H' b=some (.tbl (ps++more))
section
variable{fs fs' ex ex':List Addr}{H H1 H2:Hp}{h h1 h2 h':Heap}{a x e:Addr}{o:HO}
theorem Un.any(u:Un fs ex H H1 h h1)(q:h.get? b=some ob)(n:H b=none)(hx:b∉ex):∃sl,h1.get? b=some { ob with slots:=sl }:=by
 by_cases hb:b∈fs
 ·exact u.slot b ob q n hb hx
 ·exact⟨ob.slots,u.keep b ob q n hb hx⟩
theorem Un.kept(k:∀b u,h.get? b=some u->h'.get? b=some u):Un fs ex H H h h':=
 ⟨λb ob q z z z=>k b ob q,λb ob q z z z=>⟨ob.slots,k b ob q⟩,λz z z n z=>n,λb ob q z=>⟨ob,k b ob q⟩,λz z q=>q,λz z z q=>q,λz ps q=>⟨#[],by rw[q];simp⟩⟩
theorem Un.refl:Un fs ex H H h h:=Un.kept λz z q=>q
theorem Un.laid(k:∀b u,h.get? b=some u->h'.get? b=some u)(hp:h.objs.size<=a)(hn:H a=none):Un fs ex H (upd H a o) h h' where
 keep:=λb u q z z z=>k b u q
 slot:=λb u q z z z=>⟨u.slots,k b u q⟩
 free:=λb u q n z=>by rw[upd_ne (TF (TY (Tt q) hp))];exact n
 there:=λb u q z=>⟨u,k b u q⟩
 tups:=λb xs q=>by rw[upd_ne (ne_of_none q hn)];exact q
 frzs:=λb u xs q=>by rw[upd_ne (ne_of_none q hn)];exact q
 tbls:=λb ps q=>⟨#[],by rw[upd_ne (ne_of_none q hn),q];simp⟩
theorem Un.write(mu:Mut (H x))(he:e=x\/H e=some (.own x))(k:∀b u,b≠e->h.get? b=some u->h'.get? b=some u)(heo:∃u,h'.get? e=some u):Un fs ex H (upd H x o) h h':=by
 have hx:∀b,H b=none->b≠x:=λb n z=>by subst z;rw[n]at mu;exact mu
 have hb:∀b,H b=none->b≠e:=λb n z=>by
  subst z;rcases he with r | r
  ·exact hx b n r
  ·rw[n]at r;cases r
 have hm:∀b u,H b=some u->¬ Mut (some u)->b≠x:=λb u q nm z=>by subst z;rw[q]at mu;exact nm mu
 refine⟨λb u q n y y=>k b u (hb b n) q,λb u q n y y=>⟨u.slots,k b u (hb b n) q⟩,λb u q n y=>by rw[upd_ne (hx b n)];exact n,λb u q y=>?_,
  λb xs q=>by rw[upd_ne (hm b _ q λz=>z)];exact q,λb u xs q=>by rw[upd_ne (hm b _ q λz=>z)];exact q,λb ps q=>⟨#[],by rw[upd_ne (hm b _ q λz=>z),q];simp⟩⟩
 by_cases hbe:b=e
 ·subst hbe;exact heo
 ·exact⟨u,k b u hbe q⟩
end
noncomputable def trk(h:Heap)(H:Hp):List Addr:=(List.range h.objs.size).filter λa=>(H a).isSome
noncomputable def hidT(h:Heap)(H:Hp):Heap:=PySem.W.hideAll h (trk h H)
theorem hidT_size(h:Heap)(H:Hp):(hidT h H).objs.size=h.objs.size:=PySem.W.hideAll_size _ _
theorem hidT_get(e:h.get? b=some o)(n:H b=none):(hidT h H).get? b=some o:=
 PySem.W.hideAll_get _ e λhm=>by have q:(H b).isSome=true:=(Ua.mp hm).2;rw[n]at q;simp at q
theorem of_hidT(e:(hidT h H).get? b=some o):h.get? b=some o/\H b=none:=by
 have e':h.get? b=some o:=PySem.W.of_hideAll (trk h H) e;refine⟨e',?_⟩;cases q:H b with
 |none=>rfl
 |some x=>
   have hm:b∈trk h H:=Ua.mpr ⟨Tr.mpr (Tt e'),by simp[q]⟩
   have z:(hidT h H).get? b=none:=PySem.W.hideAll_none (trk h H) hm;rw[z]at e;cases e
noncomputable def allNews(g h:Heap)(L:Addr):List (Addr×Obj):=(List.range h.objs.size).filterMap λa=>if a=L\/(g.get? a).isSome=true then none else (h.get? a).map λo=>(a,o)
noncomputable def rest(g h:Heap)(L d:Addr):List (Addr×Obj):=(allNews g h L).filter λp=>decide (p.1≠d)
open PySem PySem.Spec PyProof.Rows
structure Mod(K:PySem.W.Frag)(mg:Str->Option Value)(base:Heap):Prop where
 kin:K.In base
 glob:base.Ns mainGlobals mg
 blt:∃mb,base.Ns builtinsNs mb/\∀x:Str,x≠"__name__"->mb x=bootBuiltins x
 nolimit:base.NoLimit
structure Cx where
 prog:Program
 w:World
 K:PySem.W.Frag
 mg:Str->Option Value
 base:Heap
 A:Around
 N:List Str
 s₀:Shared
 H₀:Hp
 env:Env
 outer:List Env
 stack:List Env
 ex:List Addr
 fn:Str->Bool
 calm:Bool
 pn:List (Addr×Obj)
 xe:Value->Shared->Prop
noncomputable def frs(l:List Env):List Addr:=l.filterMap (·.frame)
noncomputable abbrev Cx.fs(X:Cx):List Addr:=frs X.outer
noncomputable def Vis(sc:Scope)(x:Str):Prop:=sc.names.lookup x=some .local\/sc.names.lookup x=some .cell\/sc.names.lookup x=some .free
noncomputable def Loc(sc:Scope)(x:Str):Prop:=sc.names.lookup x=some .local\/sc.names.lookup x=some .cell
noncomputable def Look(env:Env)(h:Heap)(m:Str->Option Value)(x:Str)(u:Value):Prop:=
 (env.kindOf x=some .local/\m x=some u)\/((env.kindOf x=some .cell\/env.kindOf x=some .free)/\∃c,env.cells.lookup x=some c/\h.IsCell c (some u))
structure Cx.Ok(X:Cx):Prop where
 mod:Mod X.K X.mg X.base
 kind:X.env.scope.kind=.function
 glob:X.env.globals=mainGlobals
 blt:X.env.builtins=builtinsNs
 above:X.s₀.heap.objs.size<=X.env.locals
 inj:∀x y c,X.env.cells.lookup x=some c->X.env.cells.lookup y=some c->x=y
 has:∀x,(X.env.kindOf x=some .cell\/X.env.kindOf x=some .free)->∃c,X.env.cells.lookup x=some c
 cab:∀x c,X.fn x=true->X.env.cells.lookup x=some c->X.s₀.heap.objs.size<=c
 hd:X.calm=true->X.A.handled=none
 frames:X.A.frames=some X.stack
 stk:X.stack=X.outer\/(X.stack=X.env::X.outer/\X.env.frame=some X.env.locals)
 exf:∀b∈X.ex,b≠X.env.locals/\∀x c,X.env.cells.lookup x=some c->c≠b
 bs:∀b o,X.base.get? b=some o->X.s₀.heap.get? b=some o/\X.H₀ b=none
 bsz:X.base.objs.size<=X.s₀.heap.objs.size
 noex:∀b o,X.base.get? b=some o->b∉X.ex
 exfs:∀b∈X.ex,b∉X.fs
 funs:X.s₀.heap.FunFrames X.base X.outer
 frf:∀b∈X.fs,X.H₀ b=none
structure Inv(X:Cx)(Yk:List (Addr×Obj))(σ:List (Option V))(H:Hp)(s:Shared):Prop where
 ok:X.Ok
 os:s.os=X.s₀.os
 bare:AllBare s.gens
 base:Un X.fs X.ex X.H₀ H X.s₀.heap s.heap
 loc:∃m,s.heap.Ns X.env.locals m/\∀(i:Nat) (x:Str) (v:V),X.N[i]?=some x->σ[i]?=some (some v)->Vis X.env.scope x->∃u,RelV v u/\Look X.env s.heap m x u
 cell:∀x c,X.env.cells.lookup x=some c->∃v,s.heap.IsCell c v
 free:H X.env.locals=none
 freeC:∀x c,X.env.cells.lookup x=some c->H c=none
 pin:∀p∈X.pn++Yk,s.heap.get? p.1=some p.2/\H p.1=none/\p.1≠X.env.locals/\p.1∉X.fs/\∀v,p.2.data≠.cell v
 hok:HOk X.prog X.w H s.heap
 len:σ.length=X.N.length
section
variable{X:Cx}{Yk:List (Addr×Obj)}{σ:List (Option V)}{H H':Hp}{s:Shared}{h':Heap}
theorem Cx.Ok.nofr(ok:X.Ok)(e:X.base.get? b=some o):b∉X.fs:=λhb=>by have:=(ok.funs.mem hb).1;rw[e]at this;cases this
theorem Inv.bs(I:Inv X Yk σ H s):∀b o,X.base.get? b=some o->s.heap.get? b=some o/\H b=none:=λb o e=>
 ⟨I.base.keep b o (I.ok.bs b o e).1 (I.ok.bs b o e).2 (I.ok.nofr e) (I.ok.noex b o e),I.base.free b o (I.ok.bs b o e).1 (I.ok.bs b o e).2 (I.ok.noex b o e)⟩
theorem Inv.bk(I:Inv X Yk σ H s):∀b o,X.base.get? b=some o->s.heap.get? b=some o:=λb o e=>(I.bs b o e).1
theorem Inv.mod(I:Inv X Yk σ H s):Mod X.K X.mg X.base:=I.ok.mod
theorem Inv.kIn(I:Inv X Yk σ H s):X.K.In s.heap:=I.ok.mod.kin.keeps I.bk
theorem Inv.lt(I:Inv X Yk σ H s):X.env.locals<s.heap.objs.size:=let ⟨_,hn,_⟩:=I.loc;hn.lt
theorem Inv.sz(I:Inv X Yk σ H s):X.s₀.heap.objs.size<=s.heap.objs.size:=Ue I.ok.above (V6 I.lt)
theorem Inv.nofs(I:Inv X Yk σ H s)(h:s.heap.objs.size<=a):a∉X.fs:=λhb=>by obtain⟨_,o,ho,_⟩:=I.ok.funs.mem hb;exact absurd (TY (Tt ho) (Ue I.sz h)) (Vs _)
theorem Inv.cne(I:Inv X Yk σ H s):∀x c,X.env.cells.lookup x=some c->c≠X.env.locals:=λx c e z=>by obtain⟨v,o,ho,hd⟩:=I.cell x c e;obtain⟨m,⟨o',es,ep,ho',hd',_⟩,_⟩:=I.loc;rw[z,ho']at ho;cases ho;rw[hd']at hd;cases hd
theorem Inv.funs(I:Inv X Yk σ H s):s.heap.FunFrames X.base X.outer:=by
 have all:∀ (l:List Env),(∀ b∈frs l,b∈X.fs)->X.s₀.heap.FunFrames X.base l->s.heap.FunFrames X.base l:=by
  intro l;induction l with
  |nil=>intro _ _;trivial
  |cons env r ih=>
    intro hs hl;obtain⟨hk,⟨L,o,hf,hn,ho,hd⟩,hr⟩:=hl;have hL:L∈X.fs:=hs L (by unfold frs;rw[V3,hf];exact T6)
    obtain⟨sl,e⟩:=I.base.slot L o ho (I.ok.frf L hL) hL λz=>I.ok.exfs L z hL
    exact⟨hk,⟨L,_,hf,hn,e,hd⟩,ih (λb hb=>hs b (by unfold frs;rw[V3,hf];exact Ui _ hb)) hr⟩
 exact all X.outer (λy hb=>hb) I.ok.funs
theorem Inv.stack(I:Inv X Yk σ H s):s.heap.FunFrames X.base X.stack:=by
 rcases I.ok.stk with e | ⟨e,hf⟩
 ·rw[e];exact I.funs
 ·rw[e];obtain⟨m,hn,_⟩:=I.loc;refine .cons (by rw[I.ok.kind];decide) hf hn ?_ I.funs
  exact Heap.get?_none_of_le (Ue I.ok.bsz I.ok.above)
theorem Inv.stkSub(I:Inv X Yk σ H s):∀b∈frs X.stack,b∈X.env.locals::X.fs:=λb hb=>by
 rcases I.ok.stk with e | ⟨e,hf⟩
 ·rw[e]at hb;exact Ui _ hb
 ·rw[e]at hb;unfold frs at hb;rw[V3,hf]at hb;exact hb
theorem Inv.stkFree(I:Inv X Yk σ H s):∀b∈frs X.stack,H b=none:=λb hb=>by
 rcases TV.mp (I.stkSub b hb) with e | hb
 ·rw[e];exact I.free
 ·obtain⟨_,o,ho,_⟩:=I.ok.funs.mem hb;exact I.base.free b o ho (I.ok.frf b hb) λz=>I.ok.exfs b z hb
theorem Inv.step{g':Array GenState}{t':Nat}{ch:List Addr}(I:Inv X Yk σ H s)
  (hch:∀b∈ch,(b∈X.ex\/X.s₀.heap.objs.size<=b)/\b≠X.env.locals/\(∀x c,X.env.cells.lookup x=some c->c≠b)/\∀p∈X.pn++Yk,p.1≠b)
  (keep:∀b o,b≠X.env.locals->b∉X.fs->b∉ch->s.heap.get? b=some o->H b=none->h'.get? b=some o)
  (slot:∀b o,b≠X.env.locals->b∈X.fs->b∉ch->s.heap.get? b=some o->H b=none->∃sl,h'.get? b=some { o with slots:=sl }) (free:∀b o,b∉ch->s.heap.get? b=some o->H b=none->H' b=none)
  (there:∀b o,b∉ch->s.heap.get? b=some o->∃o',h'.get? b=some o')
  (tups:∀b xs,H b=some (.tup xs)->H' b=some (.tup xs)) (frzs:∀b o u,H b=some (.frz o u)->H' b=some (.frz o u)) (tbls:∀b ps,H b=some (.tbl ps)->∃more,H' b=some (.tbl (ps++more)))
  (ns:∀m,s.heap.Ns X.env.locals m->h'.Ns X.env.locals m) (hok:HOk X.prog X.w H' h') (hg:AllBare g') :
  Inv X Yk σ H' { s with heap:=h',gens:=g',drawn:=d',toks:=t' }:=by
 have neL:∀b o,X.s₀.heap.get? b=some o->b≠X.env.locals:=λb o e=>TF (TY (Tt e) I.ok.above)
 have neC:∀b o,X.s₀.heap.get? b=some o->b∉X.ex->b∉ch:=λb o e hx hb=>by
  rcases (hch b hb).1 with z | z
  ·exact hx z
  ·exact absurd (TY (Tt e) z) (Vs _)
 have cellK:∀x c,X.env.cells.lookup x=some c->∀v,s.heap.IsCell c v->h'.IsCell c v:=λx c e v ⟨o,ho,hd⟩=>by
  have nch:c∉ch:=λz=>(hch c z).2.2.1 x c e rfl
  by_cases hc:c∈X.fs
  ·obtain⟨sl,q⟩:=slot c o (I.cne x c e) hc nch ho (I.freeC x c e);exact⟨_,q,hd⟩
  ·exact⟨o,keep c o (I.cne x c e) hc nch ho (I.freeC x c e),hd⟩
 refine⟨I.ok,I.os,hg,⟨λb o e n hb hx=>?_,λb o e n hb hx=>?_,λb o e n hx=>?_,λb o e hx=>?_,λb xs e=>tups b xs (I.base.tups b xs e),λb o xs e=>frzs b o xs (I.base.frzs b o xs e),λb ps e=>?_⟩,?_,λx c e=>?_,?_,λx c e=>?_,λp hp=>?_,hok,I.len⟩
 ·exact keep b o (neL b o e) hb (neC b o e hx) (I.base.keep b o e n hb hx) (I.base.free b o e n hx)
 ·obtain⟨sl,e1⟩:=I.base.slot b o e n hb hx;obtain⟨sl',e2⟩:=slot b _ (neL b o e) hb (neC b o e hx) e1 (I.base.free b o e n hx);exact⟨sl',e2⟩
 ·obtain⟨o',e1⟩:=I.base.there b o e hx;exact free b o' (neC b o e hx) e1 (I.base.free b o e n hx)
 ·obtain⟨o',e1⟩:=I.base.there b o e hx;exact there b o' (neC b o e hx) e1
 ·obtain⟨m1,e1⟩:=I.base.tbls b ps e;obtain⟨m2,e2⟩:=tbls b _ e1;exact⟨m1++m2,by rw[e2,Array.append_assoc]⟩
 ·obtain⟨m,hn,hl⟩:=I.loc;refine⟨m,ns m hn,λi x v e1 e2 e3=>?_⟩
  obtain⟨u,r,l⟩:=hl i x v e1 e2 e3;refine⟨u,r,?_⟩;rcases l with l | ⟨k,c,e,z⟩
  ·exact .inl l
  ·exact .inr ⟨k,c,e,cellK x c e _ z⟩
 ·obtain⟨v,z⟩:=I.cell x c e;exact⟨v,cellK x c e v z⟩
 ·obtain⟨m,⟨o,_,_,ho,_⟩,_⟩:=I.loc;exact free _ o (λz=>(hch _ z).2.1 rfl) ho I.free
 ·obtain⟨v,o,ho,hd⟩:=I.cell x c e;exact free c o (λz=>(hch c z).2.2.1 x c e rfl) ho (I.freeC x c e)
 ·obtain⟨e,n,ne,nf,d⟩:=I.pin p hp;have nch:p.1∉ch:=λz=>(hch p.1 z).2.2.2 p hp rfl
  exact⟨keep p.1 p.2 ne nf nch e n,free p.1 p.2 nch e n,ne,nf,d⟩
theorem Inv.un{t':Nat}(I:Inv X Yk σ H s)(u:Un X.fs [] H H' s.heap h')(hok:HOk X.prog X.w H' h'):Inv X Yk σ H' { s with heap:=h',toks:=t' }:=by
 obtain⟨m,⟨o,es,ep,ho,r⟩,_⟩:=id I.loc;obtain⟨sl,hL⟩:=u.any ho I.free (by simp)
 exact I.step (g':=s.gens) (d':=s.drawn) (ch:=[]) (λy z=>nomatch z) (λb o y hb y e n=>u.keep b o e n hb (by simp)) (λb o y hb y e n=>u.slot b o e n hb (by simp)) (λb o y e n=>u.free b o e n (by simp)) (λb o y e=>u.there b o e (by simp)) u.tups u.frzs u.tbls (λm' hm=>by obtain⟨o',es',ep',ho',r'⟩:=hm;rw[ho]at ho';cases ho';exact⟨_,es',ep',hL,r'⟩) hok I.bare
theorem Inv.call{g':Array GenState}{t':Nat}{ch:List Addr}(I:Inv X Yk σ H s)(u:Un (frs X.stack) ch H H' s.heap h')(hok:HOk X.prog X.w H' h')(hg:AllBare g')
  (hch:∀b∈ch,(b∈X.ex\/X.s₀.heap.objs.size<=b)/\b≠X.env.locals/\(∀x c,X.env.cells.lookup x=some c->c≠b)/\∀p∈X.pn++Yk,p.1≠b) :
  Inv X Yk σ H' { s with heap:=h',gens:=g',drawn:=d',toks:=t' }:=by
 obtain⟨m,⟨o,es,ep,ho,r⟩,_⟩:=id I.loc;obtain⟨sl,hL⟩:=u.any ho I.free λz=>(hch _ z).2.1 rfl
 exact I.step (ch:=ch) hch (λb o hL hb hc e n=>u.keep b o e n (λz=>(TV.mp (I.stkSub b z)).elim hL hb) hc) (λb o y y hc e n=>u.any e n hc) (λb o hc e n=>u.free b o e n hc) (λb o hc e=>u.there b o e hc) u.tups u.frzs u.tbls (λm' hm=>by obtain⟨o',es',ep',ho',r'⟩:=hm;rw[ho]at ho';cases ho';exact⟨_,es',ep',hL,r'⟩) hok hg
theorem Inv.turned{t':Nat}(I:Inv X Yk σ H s)(k:∀b o,b≠it->s.heap.get? b=some o->h'.get? b=some o)(hn:H it=none)(hL:it≠X.env.locals)
  (h1:it∈X.ex\/X.s₀.heap.objs.size<=it) (h2:∀x c,X.env.cells.lookup x=some c->c≠it) (h3:∀p∈X.pn++Yk,p.1≠it):Inv X Yk σ H { s with heap:=h',toks:=t' }:=by
 have nit:∀b u,H b=some u->b≠it:=λb u e z=>by rw[z,hn]at e;cases e
 refine I.step (g':=s.gens) (d':=s.drawn) (ch:=[it]) (λb hb=>?_) (λb o y y hc e y=>k b o (λz=>hc (by simp[z])) e) (λb o y y hc e y=>⟨o.slots,k b o (λz=>hc (by simp[z])) e⟩) (λy y y y n=>n)
  (λb o hc e=>⟨o,k b o (λz=>hc (by simp[z])) e⟩) (λy y e=>e) (λy y y e=>e) (λb ps e=>⟨#[],by rw[e];simp⟩) (λm hm=>?_) (λb u e=>?_) I.bare
 ·have e:b=it:=by simpa using hb
  subst e;exact⟨h1,hL,h2,h3⟩
 ·obtain⟨o,es,ep,ho,r⟩:=hm;exact⟨o,es,ep,k _ o (Ne.symm hL) ho,r⟩
 ·refine (I.hok b u e).stay (λc v hc q=>k c v ?_ q) (λy q=>q) λy y q=>q
  rcases hc with z | z
  ·rw[z];exact nit b u e
  ·exact nit c _ z
theorem Inv.tok(I:Inv X Yk σ H s)(t:Nat):Inv X Yk σ H { s with toks:=t }:=I.un (h':=s.heap) (t':=t) Un.refl I.hok
theorem Inv.kept(I:Inv X Yk σ H s)(k:∀b u,s.heap.get? b=some u->h'.get? b=some u):Inv X Yk σ H { s with heap:=h',toks:=t' }:=I.un (Un.kept k) (I.hok.kept k)
theorem Inv.laid(I:Inv X Yk σ H s)(k:∀b u,s.heap.get? b=some u->h'.get? b=some u)(hp:s.heap.objs.size<=a)(new:ObjOk X.prog X.w (upd H a o) h' a o):
  Inv X Yk σ (upd H a o) { s with heap:=h',toks:=t' }:=I.un (Un.laid k hp (I.hok.fresh hp)) (I.hok.laid k hp new)
theorem Inv.write(I:Inv X Yk σ H s)(mu:Mut (H x))(he:e=x\/H e=some (.own x))(k:∀b u,b≠e->s.heap.get? b=some u->h'.get? b=some u)(heo:∃u,h'.get? e=some u)
  (new:ObjOk X.prog X.w (upd H x o) h' x o):Inv X Yk σ (upd H x o) { s with heap:=h',toks:=t' }:=I.un (Un.write mu he k heo) (I.hok.write mu he k heo new)
theorem Inv.pins_of(I:Inv X Yk σ H s)(h:∀p∈pins',s.heap.get? p.1=some p.2/\H p.1=none/\p.1≠X.env.locals/\p.1∉X.fs/\∀v,p.2.data≠.cell v):Inv X pins' σ H s:=
 ⟨I.ok,I.os,I.bare,I.base,I.loc,I.cell,I.free,I.freeC,λp hp=>(T4.mp hp).elim (λz=>I.pin p (Vv _ z)) (h p),I.hok,I.len⟩
theorem nodup_ix{N:List Str}(hN:N.Nodup){i j:Nat}(a:N[i]?=some x)(b:N[j]?=some x):i=j:=by obtain⟨h1,e1⟩:=Ti.mp a;obtain⟨h2,e2⟩:=Ti.mp b;exact (List.getElem_inj hN).mp (e1.trans e2.symm)
theorem store_ok2{E:Value->Shared->Prop}{i:Nat}{Q:Unit->Shared->Prop}(I:Inv X Yk σ H s)(hN:X.N.Nodup)(hi:X.N[i]?=some x)(hx:Loc X.env.scope x)(r:RelV v u)
  (h:∀s',Inv X Yk (σ.set i (some v)) H s'->(∃a,Heap.SameBut a s.heap s'.heap/\(a=X.env.locals\/X.env.cells.lookup x=some a))->Q () s') (hf:X.fn x=true\/X.env.scope.names.lookup x=some .local:=by first | exact .inl rfl | exact .inr rfl | assumption):wpAny M A (storeName X.env x u) Q E s:=by
 obtain⟨m,hn,hl⟩:=id I.loc;have hcls:(X.env.scope.kind==.class || (X.env.scope.kind==.module&&X.env.locals != X.env.globals))=false:=by rw[I.ok.kind];rfl
 have hiσ:i<σ.length:=by rw[I.len];exact (Ti.mp hi).1
 have cne:=I.cne;have tracked:∀{a:Addr}{h':Heap},(∃o,s.heap.get? a=some o/\H a=none)->Heap.SameBut a s.heap h'->HOk X.prog X.w H h':=λ{a h'} ha hs b ob e=>by
  obtain⟨_,_,hfree⟩:=ha;refine (I.hok b ob e).stay (λc w' hc q=>(hs.2 c ?_).trans q) (λt q=>q) λt t q=>q
  rintro rfl;rcases hc with rfl | hc
  ·rw[hfree]at e;cases e
  ·rw[hfree]at hc;cases hc
 rcases hx with hk | hk
 ·refine wpAny_storeName_local hk hn (λh' hn' hs=>?_) hcls
  obtain⟨oL,_,_,hoL,_⟩:=id hn;refine h _ ⟨I.ok,I.os,I.bare,⟨λb o e n hb hx=>?_,λb o e n hb hx=>?_,I.base.free,λb o e hx=>?_,I.base.tups,I.base.frzs,I.base.tbls⟩,⟨_,hn',λj y v' e1 e2 e3=>?_⟩,λy c e=>?_,I.free,I.freeC,λp hp=>?_,tracked ⟨oL,hoL,I.free⟩ hs,by simpa using I.len⟩ ⟨_,hs,.inl rfl⟩
  ·exact (hs.2 b (TF (TY (Tt e) I.ok.above))).trans (I.base.keep b o e n hb hx)
  ·obtain⟨sl,e1⟩:=I.base.slot b o e n hb hx;exact⟨sl,(hs.2 b (TF (TY (Tt e) I.ok.above))).trans e1⟩
  ·obtain⟨o',e1⟩:=I.base.there b o e hx;exact⟨o',(hs.2 b (TF (TY (Tt e) I.ok.above))).trans e1⟩
  ·by_cases hj:j=i
   ·subst hj;rw[hi]at e1;cases e1;rw[UJ hiσ]at e2;cases e2;exact⟨u,r,.inl ⟨hk,by simp⟩⟩
   ·rw[Vn (Ne.symm hj)]at e2;obtain⟨u',r',q⟩:=hl j y v' e1 e2 e3;refine⟨u',r',?_⟩;rcases q with ⟨k,e⟩ | ⟨k,c,e,z⟩
    ·refine .inl ⟨k,?_⟩;have:y≠x:=λe=>hj (nodup_ix hN e1 (e ▸ hi))
     simp[this,e]
    ·exact .inr ⟨k,c,e,z.sameBut hs (cne y c e)⟩
  ·obtain⟨w',z⟩:=I.cell y c e;exact⟨w',z.sameBut hs (cne y c e)⟩
  ·obtain⟨e,n,ne,nf,d⟩:=I.pin p hp;exact⟨(hs.2 p.1 ne).trans e,n,ne,nf,d⟩
 ·have hfn:X.fn x=true:=by
   rcases hf with z | z
   ·exact z
   ·rw[z]at hk;cases hk
  obtain⟨c,hc⟩:=I.ok.has x (.inl hk);obtain⟨w',z⟩:=I.cell x c hc;refine wpAny_storeName_cell I.ok.kind hk hc z (λh' hc' hs=>?_)
  obtain⟨oc,hoc,hocd⟩:=id z;refine h { s with heap:=h' } ⟨I.ok,I.os,I.bare,⟨λb o e n hb hx=>?_,λb o e n hb hx=>?_,I.base.free,λb o e hx=>?_,I.base.tups,I.base.frzs,I.base.tbls⟩,⟨m,hn.sameBut hs (Ne.symm (cne x c hc)),λj y v' e1 e2 e3=>?_⟩,λy c' e=>?_,I.free,I.freeC,λp hp=>?_,tracked ⟨oc,hoc,I.freeC x c hc⟩ hs,by simpa using I.len⟩ ⟨c,hs,.inr hc⟩
  ·exact (hs.2 b (TF (TY (Tt e) (I.ok.cab x c hfn hc)))).trans (I.base.keep b o e n hb hx)
  ·obtain⟨sl,e1⟩:=I.base.slot b o e n hb hx;exact⟨sl,(hs.2 b (TF (TY (Tt e) (I.ok.cab x c hfn hc)))).trans e1⟩
  ·obtain⟨o',e1⟩:=I.base.there b o e hx;exact⟨o',(hs.2 b (TF (TY (Tt e) (I.ok.cab x c hfn hc)))).trans e1⟩
  ·by_cases hj:j=i
   ·subst hj;rw[hi]at e1;cases e1;rw[UJ hiσ]at e2;cases e2;exact⟨u,r,.inr ⟨.inl hk,c,hc,hc'⟩⟩
   ·rw[Vn (Ne.symm hj)]at e2;obtain⟨u',r',q⟩:=hl j y v' e1 e2 e3;refine⟨u',r',?_⟩;rcases q with q | ⟨k,c',e,z'⟩
    ·exact .inl q
    ·refine .inr ⟨k,c',e,z'.sameBut hs ?_⟩;rintro rfl;exact hj (nodup_ix hN e1 (I.ok.inj _ _ _ e hc ▸ hi))
  ·by_cases hcc:c'=c
   ·subst hcc;exact⟨_,hc'⟩
   ·obtain⟨w2,z2⟩:=I.cell y c' e;exact⟨w2,z2.sameBut hs hcc⟩
  ·obtain⟨e,n,ne,nf,d⟩:=I.pin p hp;refine⟨(hs.2 p.1 ?_).trans e,n,ne,nf,d⟩;intro q;rw[q,hoc]at e;have q':oc=p.2:=TJ e;exact d w' (by rw[<-q'];exact hocd)
theorem store_ok(I:Inv X Yk σ H s)(hN:X.N.Nodup)(hi:X.N[i]?=some x)(hx:Loc X.env.scope x)(r:RelV v u)
  (h:∀s',Inv X Yk (σ.set i (some v)) H s'->Q () s') (hf:X.fn x=true\/X.env.scope.names.lookup x=some .local:=by first | exact .inl rfl | exact .inr rfl | assumption):wpAny M A (storeName X.env x u) Q E s:=
 store_ok2 I hN hi hx r (λs' I' z=>h s' I') hf
theorem Inv.call'(I:Inv X Yk σ H s)(ho:s'.os=s.os)(u:Un (frs X.stack) ch H H' s.heap s'.heap)(hok:HOk X.prog X.w H' s'.heap)(hg:AllBare s'.gens)
  (hch:∀b∈ch,(b∈X.ex\/X.s₀.heap.objs.size<=b)/\b≠X.env.locals/\(∀x c,X.env.cells.lookup x=some c->c≠b)/\∀p∈X.pn++Yk,p.1≠b):Inv X Yk σ H' s':=by
 obtain⟨h',g',d',t',o'⟩:=s';have e:o'=s.os:=ho;subst e;exact I.call (g':=g') (t':=t') (d':=d') u hok hg hch
end
noncomputable abbrev XK:=Value->Option Addr->Hp->Prop
noncomputable abbrev St:=List (Option V)
noncomputable abbrev VK:=V->Hp->Prop
noncomputable abbrev TE:=St->Hp->VK->Prop
noncomputable abbrev TT:=St->Hp->(Bool->Hp->Prop)->Prop
noncomputable abbrev TA:=St->Hp->(List V->Hp->Prop)->Prop
structure Ends where
 nx:St->Hp->Prop
 rt:VK
 bk:St->Hp->Prop:=λ_ _=>False
 ct:St->Hp->Prop:=λ_ _=>False
noncomputable abbrev TS:=Ends->St->Hp->Prop
noncomputable def EP(X:Cx)(Yk:List (Addr×Obj))(σ:St)(Q:VK)(u:Value)(s':Shared):Prop:=∃v H',Inv X Yk σ H' s'/\RelV v u/\Q v H'
noncomputable def TP(X:Cx)(Yk:List (Addr×Obj))(σ:St)(Q:Bool->Hp->Prop)(b:Bool)(s':Shared):Prop:=∃H',Inv X Yk σ H' s'/\Q b H'
noncomputable def AP(X:Cx)(Yk:List (Addr×Obj))(σ:St)(Q:List V->Hp->Prop)(us:List Value)(s':Shared):Prop:=∃vs H',Inv X Yk σ H' s'/\Vals vs us/\Q vs H'
noncomputable def SP(X:Cx)(Yk:List (Addr×Obj))(D:Ends)(f:Flow)(s':Shared):Prop:=
 match f with
 |.next=>∃σ' H',Inv X Yk σ' H' s'/\D.nx σ' H'
 |.brk=>∃σ' H',Inv X Yk σ' H' s'/\D.bk σ' H'
 |.cont=>∃σ' H',Inv X Yk σ' H' s'/\D.ct σ' H'
 |.ret u=>∃v σ' H',Inv X Yk σ' H' s'/\RelV v u/\D.rt v H'
noncomputable def PE(X:Cx)(e:Expr)(t:TE):Prop:=
 ∀(Yk:List (Addr×Obj)) (s:Shared) (σ:St) (H:Hp) (Q:VK),Inv X Yk σ H s->t σ H Q->wpAny (model X.prog X.w) X.A (eval e X.env) (EP X Yk σ Q) X.xe s
noncomputable def PT(X:Cx)(e:Expr)(t:TT):Prop:=
 ∀(Yk:List (Addr×Obj)) (s:Shared) (σ:St) (H:Hp) (Q:Bool->Hp->Prop),Inv X Yk σ H s->t σ H Q->wpAny (model X.prog X.w) X.A (isTrue e X.env (eval e X.env)) (TP X Yk σ Q) X.xe s
noncomputable def PW(X:Cx)(e:Expr)(t:TT):Prop:=
 ∀(whole:Sem Value) (Yk:List (Addr×Obj)) (s:Shared) (σ:St) (H:Hp) (Q:Bool->Hp->Prop),Inv X Yk σ H s->t σ H Q->wpAny (model X.prog X.w) X.A (isTrue e X.env whole) (TP X Yk σ Q) X.xe s
theorem PW.pt(h:PW X e t):PT X e t:=h _
noncomputable def PA(X:Cx)(es:List Expr)(t:TA):Prop:=
 ∀(pos:Pos) (Yk:List (Addr×Obj)) (s:Shared) (σ:St) (H:Hp) (Q:List V->Hp->Prop),Inv X Yk σ H s->t σ H Q->wpAny (model X.prog X.w) X.A (spliced (backTo pos (starEach es X.env))) (AP X Yk σ Q) X.xe s
noncomputable def PS(X:Cx)(st:Stmt)(t:TS):Prop:=
 ∀(Yk:List (Addr×Obj)) (s:Shared) (σ:St) (H:Hp) (D:Ends),Inv X Yk σ H s->t D σ H->wpAny (model X.prog X.w) X.A (exec st X.env) (SP X Yk D) X.xe s
noncomputable def PSs(X:Cx)(st:List Stmt)(t:TS):Prop:=
 ∀(Yk:List (Addr×Obj)) (s:Shared) (σ:St) (H:Hp) (D:Ends),Inv X Yk σ H s->t D σ H->wpAny (model X.prog X.w) X.A (execs st X.env) (SP X Yk D) X.xe s
theorem thn(h:wpAny M A t Q E s)(hQ:∀a s,Q a s->Q' a s):wpAny M A t Q' E s:=Um h hQ λz z x=>x
open PySem PySem.Spec PyProof.Rows
section
variable{X:Cx}
theorem bin(ha:PE X a ta)(hb:PE X b tb){Yk:List (Addr×Obj)}{R:V->V->Hp->Prop}(I:Inv X Yk σ H s)(h:ta σ H λx H1=>tb σ H1 λy H2=>R x y H2)
  {α:Type}{Q:α->Shared->Prop}{f:Value->Value->Sem α}
  (hf:∀v u s2 x y H2,Inv X Yk σ H2 s2->RelV x v->RelV y u->R x y H2->wpAny (model X.prog X.w) X.A (f v u) Q X.xe s2) :
  wpAny (model X.prog X.w) X.A (eval a X.env) (λv s₁=>wpAny (model X.prog X.w) X.A (eval b X.env) (λu s₂=>wpAny (model X.prog X.w) X.A (f v u) Q X.xe s₂) X.xe s₁) X.xe s:=by
 refine thn (ha Yk s σ H _ I h) λv s1 ⟨x,H1,I1,r1,q1⟩=>?_
 refine thn (hb Yk s1 σ H1 _ I1 q1) λu s2 ⟨y,H2,I2,r2,q2⟩=>?_
 exact hf v u s2 x y H2 I2 r1 r2 q2
noncomputable def tVar(i:Nat):TE:=λσ H Q=>∃v,σ[i]?=some (some v)/\Q v H
noncomputable def tC(v:V):TE:=λz H Q=>Q v H
theorem pe_var(hN:X.N[i]?=some x)(hv:Vis X.env.scope x)(hd:autoParam ((x==("__debug__":Str))=false) qAB)(hcd:autoParam ((x==("__classdict__":Str))=false) qAB):PE X (.Name x pos) (tVar i):=by
 intro Yk s σ H Q I h;obtain⟨v,e,h⟩:=h;obtain⟨m,hn,hl⟩:=I.loc;obtain⟨u,r,l⟩:=hl i x v hN e hv;have fin:EP X Yk σ Q u s:=⟨v,H,I,r,h⟩;rcases l with ⟨hk,hm⟩ | ⟨hk,c,hc,hcell⟩
 ·exact wpAny_Name (wpAny_loadName_local I.ok.kind hk hn hm fin) hd
 ·rcases hk with hk | hk
  ·exact wpAny_Name (wpAny_loadName_cell I.ok.kind hk hc hcell fin) hd
  ·exact wpAny_Name (wpAny_loadName_free I.ok.kind hk hc hcell fin hcd) hd
theorem pe_int{i j pos}:PE X (.Constant (.int i) j pos) (tC (.int i)):=λz z z H z I h=>wpAny_Constant_int ⟨.int i,H,I.tok _,⟨_,rfl⟩,h⟩
theorem pe_bl{b j pos}:PE X (.Constant (.bool b) j pos) (tC (.bl b)):=λz z z H z I h=>Constant_bool ⟨.bl b,H,I,rfl,h⟩
theorem pe_non{j pos}:PE X (.Constant .none j pos) (tC .non):=λz z z H z I h=>Constant_none ⟨.non,H,I,rfl,h⟩
theorem pe_str{x j pos}:PE X (.Constant (.str x) j pos) (tC (.str x)):=λz z z H z I h=>Calls.Constant_str ⟨.str x,H,I.tok _,⟨_,rfl⟩,h⟩
noncomputable def Gl(X:Cx)(x:Str):Prop:=X.env.kindOf x=some .globalImplicit
theorem ld_glob(I:Inv X Yk σ H s)(hg:Gl X x)(hm:X.mg x=some u)(h:Q u s)
  (hd:autoParam ((x==("__debug__":Str))=false) qAB):wpAny (model X.prog X.w) X.A (eval (.Name x pos) X.env) Q E s:=
 Calls.Name_function_global I.ok.kind hg (Calls.loadGlobal_global (by rw[I.ok.glob];exact I.mod.glob.keeps I.bk) hm h) hd
theorem ld_blt(I:Inv X Yk σ H s)(hg:Gl X x)(hm:X.mg x=none)(hv:bootBuiltins x=some u)(h:Q u s)
  (hn:autoParam (x≠"__name__") qAB) (hd:autoParam ((x==("__debug__":Str))=false) qAB):wpAny (model X.prog X.w) X.A (eval (.Name x pos) X.env) Q E s:=by
 obtain⟨mb,h1,h2⟩:=I.mod.blt;exact Calls.Name_function_global I.ok.kind hg (Calls.loadGlobal_builtin (by rw[I.ok.glob];exact I.mod.glob.keeps I.bk) hm (by rw[I.ok.blt];exact h1.keeps I.bk) ((h2 x hn).trans hv) h) hd
theorem pe_glob(hg:Gl X x)(hm:X.mg x=some u)(r:RelV v u)(hd:autoParam ((x==("__debug__":Str))=false) qAB):PE X (.Name x pos) (tC v):=
 λz z z H z I h=>ld_glob I hg hm ⟨v,H,I,r,h⟩ hd
theorem pe_bltn(hg:Gl X x)(hm:X.mg x=none)(hv:bootBuiltins x=some u)(r:RelV v u)(hn:autoParam (x≠"__name__") qAB)(hd:autoParam ((x==("__debug__":Str))=false) qAB):PE X (.Name x pos) (tC v):=
 λz z z H z I h=>ld_blt I hg hm hv ⟨v,H,I,r,h⟩ hn hd
variable{a b:Expr}{ta tb:TE}{pos:Pos}
variable{tA tB':TT}{rest:List Expr}
noncomputable def tAnd(t u:TT):TT:=λσ H Q=>t σ H λc H1=>if c=true then u σ H1 Q else Q false H1
noncomputable def tOr(t u:TT):TT:=λσ H Q=>t σ H λc H1=>if c=true then Q true H1 else u σ H1 Q
noncomputable def tNot(t:TT):TT:=λσ H Q=>t σ H λc H1=>Q (!c) H1
theorem pw_and1(ha:PT X a tA):PW X (.BoolOp .And [a] pos) tA:=by
 intro wh Yk s σ H Q I h;refine isTrue_and (thn (ha Yk s σ H Q I h) λc s1 e=>?_)
 cases c with
 |true=>exact isTrue_and_nil e
 |false=>exact e
theorem pw_or1(ha:PT X a tA):PW X (.BoolOp .Or [a] pos) tA:=by
 intro wh Yk s σ H Q I h;refine isTrue_or (thn (ha Yk s σ H Q I h) λc s1 e=>?_)
 cases c with
 |false=>exact isTrue_or_nil e
 |true=>exact e
theorem pw_and(ha:PT X a tA)(hb:PW X (.BoolOp .And (b::rest) pos) tB'):PW X (.BoolOp .And (a::b::rest) pos) (tAnd tA tB'):=by
 intro wh Yk s σ H Q I h;refine isTrue_and (thn (ha Yk s σ H _ I h) λc s1 ⟨H1,I1,q1⟩=>?_)
 cases c with
 |true=>exact hb wh Yk s1 σ H1 Q I1 q1
 |false=>exact⟨H1,I1,q1⟩
theorem pw_or(ha:PT X a tA)(hb:PW X (.BoolOp .Or (b::rest) pos) tB'):PW X (.BoolOp .Or (a::b::rest) pos) (tOr tA tB'):=by
 intro wh Yk s σ H Q I h;refine isTrue_or (thn (ha Yk s σ H _ I h) λc s1 ⟨H1,I1,q1⟩=>?_)
 cases c with
 |true=>exact⟨H1,I1,q1⟩
 |false=>exact hb wh Yk s1 σ H1 Q I1 q1
theorem pt_not(ha:PT X a tA):PT X (.UnaryOp .Not a pos) (tNot tA):=by intro Yk s σ H Q I h;exact isTrue_not (ha Yk s σ H (λc H1=>Q (!c) H1) I h)
noncomputable def tAndV(ta tb:TE):TE:=λσ H Q=>ta σ H λx H1=>∃c,x=.bl c/\if c=true then tb σ H1 Q else Q (.bl false) H1
noncomputable def tNotV(ta:TE):TE:=λσ H Q=>ta σ H λx H1=>∃c,x=.bl c/\Q (.bl (!c)) H1
theorem pe_one{op}(h:PE X a t):PE X (.BoolOp op [a] pos) t:=λYk s σ H Q I hw=>BoolOp_one (h Yk s σ H Q I hw)
theorem pe_and(ha:PE X a ta)(hb:PE X (.BoolOp .And (b::rest) pos) tb):PE X (.BoolOp .And (a::b::rest) pos) (tAndV ta tb):=by
 intro Yk s σ H Q I h;refine BoolOp_and (thn (ha Yk s σ H _ I h) λv s1 ⟨x,H1,I1,r1,q1⟩=>?_)
 obtain⟨c,rfl,q1⟩:=q1;cases r1;refine V1 ?_;cases c with
 |true=>exact hb Yk s1 σ H1 Q I1 q1
 |false=>exact⟨.bl false,H1,I1,rfl,q1⟩
theorem pe_not(ha:PE X a ta):PE X (.UnaryOp .Not a pos) (tNotV ta):=by
 intro Yk s σ H Q I h;refine UnaryOp_ (thn (ha Yk s σ H _ I h) λv s1 ⟨x,H1,I1,r1,q1⟩=>?_)
 obtain⟨c,rfl,q1⟩:=q1;cases r1;exact not_of (V1 ⟨.bl (!c),H1,I1,rfl,q1⟩)
end
open PySem PySem.Spec PyProof.Rows
noncomputable def SqL(K:PySem.W.Frag)(H:Hp)(a:Addr)(xs:List V):Prop:=
 Rd H a (.lst xs) \/
  ∃(o:Obj) (its:Array Value) (n:Nat),K.lookup a=some o/\o.cls=.type "list"/\o.dict=none/\o.data=.seq its n/\its.size<=sizeLine/\Vals xs its.toList
noncomputable def SqT(K:PySem.W.Frag)(H:Hp)(a:Addr)(xs:List V):Prop:=
 Rd H a (.tup xs) \/
  ∃(o:Obj) (its:Array Value) (n:Nat),K.lookup a=some o/\o.cls=.type "tuple"/\o.data=.seq its n/\its.size<=sizeLine/\Vals xs its.toList
noncomputable def absV:Value->Option V
 |.none=>some .non
 |.bool b=>some (.bl b)
 |.int i _=>some (.int i)
 |.str x _=>some (.str x)
 |.bytes b _=>some (.byt b)
 |.float b _=>some (.flt b)
 |.ref a=>some (.ref a)
 |.type n=>some (.ty n)
 |_=>none
theorem RelV.abs(r:RelV x u):absV u=some x:=by
 cases x with
 |non=>cases r;rfl
 |bl _=>cases r;rfl
 |int _=>obtain⟨t,rfl⟩:=r;rfl
 |str _=>obtain⟨t,rfl⟩:=r;rfl
 |byt _=>obtain⟨t,rfl⟩:=r;rfl
 |flt _=>obtain⟨t,rfl⟩:=r;rfl
 |ref _=>cases r;rfl
 |ty _=>cases r;rfl
theorem RelV.inj(r:RelV x u)(q:RelV y u):x=y:=TJ (r.abs.symm.trans q.abs)
theorem Vals.inj:∀{xs ys:List V}{us:List Value},Vals xs us->Vals ys us->xs=ys
 |_,_,_,.nil,.nil=>rfl
 |_,_,_,.cons r t,.cons r' t'=>by rw[r.inj r',Vals.inj t t']
section
variable{X:Cx}{Yk:List (Addr×Obj)}{σ:St}{H:Hp}{s:Shared}{a:Addr}{xs ys:List V}
theorem SqL.of{K:PySem.W.Frag}(h:H a=some (.lst xs)):SqL K H a xs:=.inl (.inl h)
theorem SqT.of{K:PySem.W.Frag}(h:H a=some (.tup xs)):SqT K H a xs:=.inl (.inl h)
theorem Inv.list(I:Inv X Yk σ H s)(h:SqL X.K H a xs):∃its:List Value,Vals xs its/\PlainL s.heap a its.toArray/\xs.length<=sizeLine:=by
 rcases h with h | ⟨o,its,n,hk,hc,hd,hs,hz,r⟩
 ·obtain⟨z,its,n,r,e⟩:=h.ok I.hok;exact⟨its,r,⟨_,n,e,rfl,rfl,rfl⟩,z⟩
 ·refine⟨its.toList,r,⟨o,n,I.kIn a o hk,hc,hd,by simpa using hs⟩,?_⟩
  have e:=r.length;simp only[Array.length_toList]at e
  lia
theorem Inv.tuple(I:Inv X Yk σ H s)(h:SqT X.K H a xs):∃its:List Value,Vals xs its/\IsTup s.heap a its.toArray/\xs.length<=sizeLine:=by
 rcases h with h | ⟨o,its,n,hk,hc,hs,hz,r⟩
 ·obtain⟨z,its,r,p⟩:=h.ok I.hok;exact⟨its,r,p,z⟩
 ·refine⟨its.toList,r,⟨o,I.kIn a o hk,hc,n,by simpa using hs⟩,?_⟩
  have e:=r.length;simp only[Array.length_toList]at e
  lia
theorem Inv.list_inj(I:Inv X Yk σ H s)(h:SqL X.K H a xs)(h':SqL X.K H a ys):xs=ys:=by
 obtain⟨its,r,⟨o,n,e,_,_,d⟩,_⟩:=I.list h;obtain⟨its',r',⟨o',n',e',_,_,d'⟩,_⟩:=I.list h';rw[e]at e';cases e';rw[d]at d';injection d' with d1 _
 have:its=its':=by simpa using congrArg Array.toList d1
 subst this;exact r.inj r'
theorem Inv.tuple_inj(I:Inv X Yk σ H s)(h:SqT X.K H a xs)(h':SqT X.K H a ys):xs=ys:=by
 obtain⟨its,r,⟨o,e,_,n,d⟩,_⟩:=I.tuple h;obtain⟨its',r',⟨o',e',_,n',d'⟩,_⟩:=I.tuple h';rw[e]at e';cases e';rw[d]at d';injection d' with d1 _
 have:its=its':=by simpa using congrArg Array.toList d1
 subst this;exact r.inj r'
end
section
variable{X:Cx}{st:Stmt}{rest:List Stmt}{t u:TS}{e:Expr}{te:TE}{pos:Pos}
noncomputable def tNext:TS:=λD σ H=>D.nx σ H
noncomputable def tSeq(t u:TS):TS:=λD σ H=>t { D with nx:=u D } σ H
theorem pss_nil:PSs X [] tNext:=λ_ _ σ H _ I h=>X6 ⟨σ,H,I,h⟩
theorem pss_cons(h1:PS X st t)(h2:PSs X rest u):PSs X (st::rest) (tSeq t u):=by
 intro Yk s σ H D I h;refine wpAny_execs_cons (thn (h1 Yk s σ H { D with nx:=u D } I h) λf s1 q=>?_)
 cases f with
 |next=>obtain⟨σ',H',I',q⟩:=q;exact h2 Yk s1 σ' H' D I' q
 |ret v=>exact q
 |brk=>exact q
 |cont=>exact q
theorem pss_one(h1:PS X st t):PSs X [st] t:=by
 intro Yk s σ H D I h;refine wpAny_execs_cons (thn (h1 Yk s σ H D I h) λf s1 q=>?_)
 cases f with
 |next=>exact X6 q
 |ret v=>exact q
 |brk=>exact q
 |cont=>exact q
theorem Inv.quiet(I:Inv X Yk σ H s):interactive X.env=false:=by simp[interactive,I.ok.kind]
noncomputable def tDrop(te:TE):TS:=λD σ H=>te σ H λz H1=>D.nx σ H1
theorem ps_expr(he:PE X e te)(hs:autoParam (swapsWith e none pos.line X.env=pure false) qAA):PS X (.Expr e pos) (tDrop te):=by intro Yk s σ H D I h;exact wpAny_Expr_any (thn (he Yk s σ H _ I h) λv s1 ⟨x,H1,I1,r1,q1⟩=>⟨σ,H1,I1,q1⟩) I.quiet hs
noncomputable def tRet(te:TE):TS:=λD σ H=>te σ H D.rt
theorem ps_ret(he:PE X e te):PS X (.Return (some e) pos) (tRet te):=by intro Yk s σ H D I h;exact wpAny_Return_some (thn (he Yk s σ H _ I h) λv s1 ⟨x,H1,I1,r1,q1⟩=>⟨x,σ,H1,I1,r1,q1⟩)
noncomputable def tIfS(c:TT)(t u:TS):TS:=λD σ H=>c σ H λb H1=>if b=true then t D σ H1 else u D σ H1
theorem ps_if(hc:PT X c tc)(ha:PSs X a t)(hb:PSs X b u):PS X (.If c a b pos) (tIfS tc t u):=by
 intro Yk s σ H D I h;refine wpAny_If (thn (hc Yk s σ H _ I h) λd s1 ⟨H1,I1,q1⟩=>?_)
 cases d with
 |true=>exact ha Yk s1 σ H1 D I1 q1
 |false=>exact hb Yk s1 σ H1 D I1 q1
end
noncomputable abbrev TG:=V->St->Hp->(St->Hp->Prop)->Prop
noncomputable abbrev TGs:=List V->St->Hp->(St->Hp->Prop)->Prop
noncomputable def PG(X:Cx)(target:Expr)(t:TG):Prop:=
 ∀(Yk:List (Addr×Obj)) (s:Shared) (σ:St) (H:Hp) (v:V) (u:Value) (Q:St->Hp->Prop),Inv X Yk σ H s->RelV v u->t v σ H Q->
   wpAny (model X.prog X.w) X.A (assign target X.env u) (λz s'=>∃σ' H',Inv X Yk σ' H' s'/\Q σ' H') X.xe s
noncomputable def PGs(X:Cx)(ts:List Expr)(t:TGs):Prop:=
 ∀(Yk:List (Addr×Obj)) (s:Shared) (σ:St) (H:Hp) (vs:List V) (us:List Value) (Q:St->Hp->Prop),Inv X Yk σ H s->Vals vs us->t vs σ H Q->
   wpAny (model X.prog X.w) X.A (assignInOrder ((assignEach ts X.env).map (·.2)) us) (λz s'=>∃σ' H',Inv X Yk σ' H' s'/\Q σ' H') X.xe s
noncomputable abbrev TSet:=V->V->V->Hp->(Hp->Prop)->Prop
noncomputable def PSet(X:Cx)(t:TSet):Prop:=
 ∀(Yk:List (Addr×Obj)) (s:Shared) (σ:St) (H:Hp) (o i v:V) (ov iv u:Value) (Q:Hp->Prop),Inv X Yk σ H s->RelV o ov->RelV i iv->RelV v u->t o i v H Q->
   wpAny (model X.prog X.w) X.A (setItem ov iv u) (λz s'=>∃H',Inv X Yk σ H' s'/\Q H') X.xe s
noncomputable abbrev TIp:=V->V->Hp->VK->Prop
noncomputable def PIp(X:Cx)(op:Operator)(t:TIp):Prop:=
 ∀(Yk:List (Addr×Obj)) (s:Shared) (σ:St) (H:Hp) (x y:V) (v u:Value) (Q:VK),Inv X Yk σ H s->RelV x v->RelV y u->t x y H Q->
   wpAny (model X.prog X.w) X.A (inplaceOp op v u) (EP X Yk σ Q) X.xe s
section
variable{X:Cx}{pos:Pos}
noncomputable def gName(i:Nat):TG:=λv σ H Q=>Q (σ.set i (some v)) H
theorem pg_name(hN:X.N.Nodup)(hi:X.N[i]?=some x)(hx:Loc X.env.scope x)(hf:X.fn x=true\/X.env.scope.names.lookup x=some .local:=by first | exact .inl rfl | exact .inr rfl | assumption):PG X (.Name x pos) (gName i):=by intro Yk s σ H v u Q I r h;exact wpAny_assign_Name (store_ok I hN hi hx r (λs' I'=>⟨_,H,I',h⟩) hf)
noncomputable def gNil:TGs:=λvs σ H Q=>vs=[]/\Q σ H
noncomputable def gCons(t:TG)(u:TGs):TGs:=λvs σ H Q=>∃v r,vs=v::r/\t v σ H λσ' H'=>u r σ' H' Q
theorem pgs_nil:PGs X [] gNil:=by intro Yk s σ H vs us Q I r h;obtain⟨e,h⟩:=h;subst e;cases r;exact assignInOrder_nil ⟨σ,H,I,h⟩
theorem pgs_cons(h1:PG X e t)(h2:PGs X es u)
  (hs:autoParam ((assignEach (e::es) X.env).map (·.2)=assign e X.env::(assignEach es X.env).map (·.2)) qAA):PGs X (e::es) (gCons t u):=by
 intro Yk s σ H vs us Q I r h;obtain⟨v,vr,e1,h⟩:=h;subst e1;cases r with
 |cons r rr=>
   rw[hs];refine Wm (thn (h1 Yk s σ H _ _ _ I r h) λ_ s1 ⟨σ1,H1,I1,q1⟩=>?_)
   exact h2 Yk s1 σ1 H1 _ _ Q I1 rr q1
noncomputable def gTup(K:PySem.W.Frag)(n:Nat)(t:TGs):TG:=λv σ H Q=>∃a xs,v=.ref a/\SqT K H a xs/\xs.length=n/\t xs σ H Q
theorem pg_tup(hc:X.calm=true)(h:PGs X es t)
  (hn:autoParam ((assignEach es X.env).length=n) qAA) (hst:autoParam ((assignEach es X.env).findIdx? (·.1)=none) qAA):PG X (.Tuple es k pos) (gTup X.K n t):=by
 intro Yk s σ H v u Q I r hw;obtain⟨a,xs,e1,hq,hl,hw⟩:=hw;subst e1;cases r;obtain⟨its,rv,ht,hz⟩:=I.tuple hq;refine assign_Tuple_tuple (I.ok.hd hc) ht (by simp[hn,<-hl,rv.length]) hst λh' hx=>?_
 have I1:Inv X Yk σ H { s with heap:=h' }:=I.kept (t':=s.toks) λb o e=>hx b o (TF (Tt e)) e
 exact h Yk _ σ H xs _ Q I1 (by simpa using rv) hw
noncomputable def gSub(to ti:TE)(t:TSet):TG:=λv σ H Q=>to σ H λo H1=>ti σ H1 λi H2=>t o i v H2 λH3=>Q σ H3
theorem pg_sub(ho:PE X o to)(hi:PE X i ti)(hs:PSet X t)
  (ha:∀v,assign (.Subscript o i pos) X.env v=(do
    let ov <-holding [v] (eval o X.env)
    let iv <-holding [v,ov] (eval i X.env)
    standAt pos
    holding [v,ov,iv] (setItem ov iv v)
    release [v,ov,iv] []):=by intro _;rfl):PG X (.Subscript o i pos) (gSub to ti t):=by
 intro Yk s σ H v u Q I r h;rw[ha];refine Te (Uy (thn (ho Yk s σ H _ I h) λov s1 ⟨x,H1,I1,r1,q1⟩=>?_))
 refine Te (Uy (thn (hi Yk s1 σ H1 _ I1 q1) λiv s2 ⟨y,H2,I2,r2,q2⟩=>?_))
 refine Te (WL (Te (Uy (thn (hs Yk s2 σ H2 x y v ov iv u _ I2 r1 r2 r q2) λ_ s3 ⟨H3,I3,q3⟩=>?_))))
 exact wpAny_release ⟨σ,H3,I3,q3⟩
noncomputable def tAsg(te:TE)(g:TG):TS:=λD σ H=>te σ H λx H1=>g x σ H1 D.nx
theorem ps_asg(he:PE X e te)(hg:PG X tg g)(hs:autoParam (swapsWithSole [tg] e pos.line X.env=pure false) qAA)(hw:autoParam (swappedStores [tg] e X.env=pure none) qAA)
  (h1:autoParam ((assignEach [tg] X.env).map (·.2)=[assign tg X.env]) qAA):PS X (.Assign [tg] e pos) (tAsg te g):=by
 intro Yk s σ H D I h;refine wpAny_Assign_stores (thn (he Yk s σ H _ I h) λv s1 ⟨x,H1,I1,r1,q1⟩=>?_) hs hw
 rw[h1];exact thn (hg Yk s1 σ H1 x v _ I1 r1 q1) λz s2 q=>q
theorem ps_set(hN:X.N.Nodup)(hi:X.N[i]?=some x)(hx:Loc X.env.scope x)(he:PE X e te)(hs:autoParam (swapsWith e (some (.Name x pos')) pos.line X.env=pure false) qAA)(hf:X.fn x=true\/X.env.scope.names.lookup x=some .local:=by first | exact .inl rfl | exact .inr rfl | assumption):
  PS X (.Assign [.Name x pos'] e pos) (tAsg te (gName i)):=by
 intro Yk s σ H D I h;refine wpAny_Assign_Name (thn (he Yk s σ H _ I h) λv s1 ⟨y,H1,I1,r1,q1⟩=>?_) hs
 exact store_ok I1 hN hi hx r1 (λs2 I2=>⟨_,H1,I2,q1⟩) hf
noncomputable def tPar(i j:Nat)(ta:TA):TS:=λD σ H=>ta σ H λvs H1=>∃v w,vs=[v,w]/\D.nx ((σ.set i (some v)).set j (some w)) H1
theorem ps_par{kt k2 pt2}(hc:X.calm=true)(hN:X.N.Nodup)(hi:X.N[i]?=some x)(hj:X.N[j]?=some y)(hij:i≠j)
  (hx:X.env.scope.names.lookup x=some .local) (hy:X.env.scope.names.lookup y=some .local) (ha:PA X [a,b] ta)
  (hw:swappedStores [.Tuple [.Name x px,.Name y py] kt pt] (.Tuple [a,b] k2 pt2) X.env=pure (some [x,y]))
  (hs:autoParam (swapsWithSole [.Tuple [.Name x px,.Name y py] kt pt] (.Tuple [a,b] k2 pt2) pos.line X.env=pure false) qAA) :
  PS X (.Assign [.Tuple [.Name x px,.Name y py] kt pt] (.Tuple [a,b] k2 pt2) pos) (tPar i j ta):=by
 intro Yk s σ H D I h;rw[exec_Assign_arm];refine Te (WL ?_);rw[hs];refine Te (Th ?_);rw[Tw (by decide)]
 refine Te (Tuple_ (thn (ha _ Yk s σ H _ I h) λus s1 ⟨vs,H1,I1,r1,q1⟩=>?_))
 obtain⟨v,w,e1,q1⟩:=q1;subst e1;obtain ⟨u1,u2,rfl,rv,rw'⟩:∃ u1 u2,us=[u1,u2]/\RelV v u1/\RelV w u2:=by
  cases r1 with
  | cons p q=>
    cases q with
    |cons p' q'=>cases q';exact⟨_,_,rfl,p,p'⟩
 refine Ug ?_ (by show 2<=sizeLine;decide)
 have I2:Inv X Yk σ H1 { s1 with heap:=s1.heap.push { cls:=.type "tuple",data:=.seq [u1,u2].toArray } }:=I1.kept (t':=s1.toks) λb o e=>Tf _ e
 rw[hw];refine Te (Th ?_);show wpAny (model X.prog X.w) X.A (do rule "assign.swapped-stores";let items <-unpackItems (.ref s1.heap.objs.size) 2 none;assignInOrder [λv=>bindName X.env y v,λv=>bindName X.env x v] items.reverse;pure Flow.next) _ _ _
 refine Te (VN (Te (unpackItems_tuple (items:=#[u1,u2]) (I.ok.hd hc) (Xh s1.heap _) λh' hx'=>?_)))
 have I3:=I2.kept (h':=h') (t':=s1.toks) λb o e=>hx' b o (TF (Tt e)) e
 show wpAny _ _ (assignInOrder [λv=>bindName X.env y v,λv=>bindName X.env x v] [u2,u1]>>=λz=>pure Flow.next) _ _ _
 refine Te (Wm (Xp (store_ok I3 hN hj (.inl hy) rw' (λs2 I4=>?_) (.inr hy))))
 refine Wm (Xp (store_ok I4 hN hi (.inl hx) rv (λs3 I5=>assignInOrder_nil (Th ?_)) (.inr hx)))
 rw[List.set_comm _ _ (Ne.symm hij)]at I5;exact⟨_,H1,I5,q1⟩
noncomputable def tAugS(to ti te:TE)(tget:V->V->Hp->VK->Prop)(tip:TIp)(tset:TSet):TS:=λD σ H=>to σ H λo H1=>ti σ H1 λi H2=>tget o i H2 λx H3=>te σ H3 λy H4=>tip x y H4 λz H5=>tset o i z H5 λH6=>D.nx σ H6
noncomputable def PGet(X:Cx)(t:V->V->Hp->VK->Prop):Prop:=
 ∀(Yk:List (Addr×Obj)) (s:Shared) (σ:St) (H:Hp) (o i:V) (ov iv:Value) (Q:VK),Inv X Yk σ H s->RelV o ov->RelV i iv->t o i H Q->
   wpAny (model X.prog X.w) X.A (getItem ov iv) (EP X Yk σ Q) X.xe s
theorem ps_augS(ho:PE X o to)(hi:PE X i ti)(hg:PGet X tget)(he:PE X e te)(hp:PIp X op tip)(hs:PSet X tset)
  (ha:∀ov iv new,augStore i ov iv new=(do holding [new,ov,iv] (setItem ov iv new);release [new,ov,iv] [];pure .next):=by intros;rfl):PS X (.AugAssign (.Subscript o i tpos) op e pos) (tAugS to ti te tget tip tset):=by
 intro Yk s σ H D I h;refine wpAny_AugAssign_SubscriptAny (thn (ho Yk s σ H _ I h) λov s1 ⟨x1,H1,I1,r1,q1⟩=>?_) ha
 refine thn (hi Yk s1 σ H1 _ I1 q1) λiv s2 ⟨x2,H2,I2,r2,q2⟩=>?_
 refine thn (hg Yk s2 σ H2 x1 x2 ov iv _ I2 r1 r2 q2) λold s3 ⟨x3,H3,I3,r3,q3⟩=>?_
 refine thn (he Yk s3 σ H3 _ I3 q3) λv s4 ⟨x4,H4,I4,r4,q4⟩=>?_
 refine thn (hp Yk s4 σ H4 x3 x4 old v _ I4 r3 r4 q4) λnew s5 ⟨x5,H5,I5,r5,q5⟩=>?_
 exact thn (hs Yk s5 σ H5 x1 x2 x5 ov iv new _ I5 r1 r2 r5 q5) λ_ s6 ⟨H6,I6,q6⟩=>⟨σ,H6,I6,q6⟩
end
section
variable{X:Cx}{pos:Pos}
noncomputable def tWhile(c:TT)(tb:TS):TS:=λD σ H=>∃W:Nat->St->Hp->Prop,(∃m,W m σ H)/\∀m σ H,W m σ H->
 c σ H λb H1=>if b=true then ∃N:St->Hp->Prop,(∀σ' H',N σ' H'->∃m',m'<m/\W m' σ' H')/\tb { D with nx:=N,ct:=N,bk:=D.nx } σ H1 else D.nx σ H1
theorem ps_while(hp:PassesOwn (model X.prog X.w) X.A X.env X.xe)(hc:PT X c tc)(hb:PSs X body tb):PS X (.While c body [] pos) (tWhile tc tb):=by
 intro Yk s σ H D I h;obtain⟨W,⟨m0,w0⟩,turn⟩:=h;refine wpAny_While (codeAny_whileLoop (λn s'=>∃σ' H',Inv X Yk σ' H' s'/\W n σ' H') ?_ m0 ⟨σ,H,I,w0⟩)
 rintro n s1 ⟨σ1,H1,I1,w1⟩;refine Wq hp (thn (hc Yk s1 σ1 H1 _ I1 (turn n σ1 H1 w1)) λb s2 ⟨H2,I2,q2⟩=>?_)
 cases b with
 | true=>
   obtain⟨N,hN,q2⟩:=q2;rw[Tv rfl];refine Wq hp (thn (hb Yk s2 σ1 H2 _ I2 q2) λf s3 q3=>?_)
   cases f with
   |next=>obtain⟨σ3,H3,I3,n3⟩:=q3;obtain⟨m',hm,w3⟩:=hN σ3 H3 n3;exact⟨m',hm,σ3,H3,I3,w3⟩
   |cont=>obtain⟨σ3,H3,I3,n3⟩:=q3;obtain⟨m',hm,w3⟩:=hN σ3 H3 n3;exact⟨m',hm,σ3,H3,I3,w3⟩
   |brk=>exact q3
   |ret v=>exact q3
 |false=>rw[Tw Ub];exact X6 ⟨σ1,H2,I2,q2⟩
end
structure It where
 go:Nat->Hp->Prop
 yld:Nat->Hp->V->Hp->Prop
 stop:Nat->Hp->Prop
noncomputable def FpOk(X:Cx)(Yk:List (Addr×Obj))(H:Hp)(b:Addr):Prop:=
 H b=none/\b≠X.env.locals/\b∉X.fs/\(b∈X.ex\/X.s₀.heap.objs.size<=b)/\(∀x c,X.env.cells.lookup x=some c->c≠b)/\∀p∈X.pn++Yk,p.1≠b
theorem Inv.fpOk(I:Inv X Yk σ H s)(hb:s.heap.objs.size<=b)(hn:H' b=none):FpOk X Yk H' b:=by
 refine⟨hn,Wl (TY I.lt hb),I.nofs hb,.inr (Ue I.sz hb),λx c e z=>?_,λp hp z=>?_⟩
 ·obtain⟨v,q⟩:=I.cell x c e;exact absurd (TY q.lt (by rw[z];exact hb)) (Vs _)
 ·exact absurd (TY (Tt (I.pin p hp).1) (by rw[z];exact hb)) (Vs _)
structure Turn(P:Program)(w:World)(K:PySem.W.Frag)(tg:Expr)(J:It)(fp:List Addr)(it:Addr)(tn:Nat->Heap->Prop):Prop where
 mem:it∈fp
 obj:∀i h,tn i h->∀b∈fp,∃o,h.get? b=some o/\∀v,o.data≠.cell v
 keep:∀i h h',tn i h->(∀b∈fp,∀o,h.get? b=some o->h'.get? b=some o)->tn i h'
 item:∀(X:Cx),X.prog=P->X.w=w->X.K=K->X.calm=true->∀(i:Nat) (Yk:List (Addr×Obj)) (s:Shared) (σ:St) (H:Hp) (E:Value->Shared->Prop),Inv X Yk σ H s->(∀b∈fp,FpOk X Yk H b)->tn i s.heap->J.go i H->
  wpAny (model P w) X.A (pyNext (.ref it)) (λr s1=>∃u,r=some u /\
   wpAny (model P w) X.A (letOwnedTupleGo tg (.ref it) u) (λ_ s2=>∃x H',Inv X Yk σ H' s2/\RelV x u/\J.yld i H x H'/\tn (i+1) s2.heap/\∀b∈fp,H' b=none) E s1) E s
 done:∀(X:Cx),X.prog=P->X.w=w->X.K=K->X.calm=true->∀(i:Nat) (Yk:List (Addr×Obj)) (s:Shared) (σ:St) (H:Hp) (E:Value->Shared->Prop),Inv X Yk σ H s->(∀b∈fp,FpOk X Yk H b)->tn i s.heap->J.stop i H->
  wpAny (model P w) X.A (pyNext (.ref it)) (λr s1=>r=none/\Inv X Yk σ H s1) E s
 self:∀(A:Around) (i:Nat) (s:Shared) (Q:Value->Shared->Prop) (E:Value->Shared->Prop),tn i s.heap->Q (.ref it) s->wpAny (model P w) A (pyIter (.ref it)) Q E s
noncomputable abbrev TI:=St->Hp->(It->Hp->Prop)->Prop
noncomputable def PIE(X:Cx)(Yk:List (Addr×Obj))(σ:St)(tg:Expr)(R:It->Hp->Prop)(itv:Value)(s2:Shared):Prop:=
 ∃(it:Addr) (fp:List Addr) (tn:Nat->Heap->Prop) (J:It) (H':Hp),itv=.ref it/\Inv X Yk σ H' s2/\Turn X.prog X.w X.K tg J fp it tn/\tn 0 s2.heap/\(∀b∈fp,FpOk X Yk H' b)/\R J H'
noncomputable def PI(X:Cx)(tg iter:Expr)(wi:TI):Prop:=
 ∀(Yk:List (Addr×Obj)) (s:Shared) (σ:St) (H:Hp) (R:It->Hp->Prop),Inv X Yk σ H s->wi σ H R->
   wpAny (model X.prog X.w) X.A (eval iter X.env) (λv s1=>wpAny (model X.prog X.w) X.A (pyIter v) (PIE X Yk σ tg R) X.xe s1) X.xe s
theorem go_of(ho:s.heap.get? it=some o)(hc:o.cls=.type n)(hd:o.data=.fields vs)
  (hn:["enumerate", "zip", "dict_itemiterator", "dict_reverseitemiterator", "odict_iterator", "itertools.zip_longest", "itertools.pairwise"].contains n=false) (hQ:Q () s):wpAny M A (letOwnedTupleGo tg (.ref it) u) Q E s:=by
 unfold letOwnedTupleGo;cases tg<;>first
  |exact Th hQ
  | (cases u<;>first
      |exact Th hQ
      | (refine wpAny_bind (wpAny_load ho ?_)
         rw[hc,hd];show wpAny M A (if (["enumerate", "zip", "dict_itemiterator", "dict_reverseitemiterator", "odict_iterator", "itertools.zip_longest", "itertools.pairwise"].contains n&&vs[0]?==some (rawInt _))=true then _ else _) Q E s
         rw[Tw (by intro h;rw[hn,Bool.false_and]at h;cases h)]
         exact Th hQ))
noncomputable def Itl(K:PySem.W.Frag)(a:Addr):It:=
 ⟨λi H=>∃xs x,SqL K H a xs/\xs[i]?=some x,λi H x H'=>H'=H/\∀xs,SqL K H a xs->xs[i]?=some x,λi H=>∃xs,SqL K H a xs/\xs.length<=i⟩
noncomputable def Itt(K:PySem.W.Frag)(a:Addr):It:=
 ⟨λi H=>∃xs x,SqT K H a xs/\xs[i]?=some x,λi H x H'=>H'=H/\∀xs,SqT K H a xs->xs[i]?=some x,λi H=>∃xs,SqT K H a xs/\xs.length<=i⟩
noncomputable def Itr(lo:Int)(n:Nat):It:=⟨λi z=>i<n,λi H x H'=>H'=H/\x=.int (lo+i),λi z=>n<=i⟩
theorem turn_list{P:Program}{w:World}{K:PySem.W.Frag}{tg:Expr}(a it:Addr):Turn P w K tg (Itl K a) [it] it (λi h=>h.IsListIter it a i) where
 mem:=by simp
 obj:=λi h st b hb=>by
  have e:b=it:=by simpa using hb
  subst e;obtain⟨o,e,c,d⟩:=st;exact⟨o,e,λv z=>by rw[d]at z;cases z⟩
 keep:=λi h h' st k=>st.at λo e=>k it (by simp) o e
 item:=by
  intro X hP hw hK hc i Yk s σ H E I hf st hg;subst hP hw hK;obtain⟨xs,x,hq,hx⟩:=hg;obtain⟨its,rv,p,hz⟩:=I.list hq;obtain⟨u,hu,ru⟩:=rv.get hx;obtain⟨f0,f1,f2,f3,f4,f5⟩:=hf it (by simp)
  refine wpAny_pyNext_list_item st p.isList (x:=u) (by simpa using hu) λh' st' sb=>?_
  have I1:Inv X Yk σ H { s with heap:=h' }:=I.turned (t':=s.toks) (λb o hb e=>(sb.2 b hb).trans e) f0 f1 f3 f4 f5
  obtain⟨o,e,c,d⟩:=id st';exact⟨u,rfl,go_of (s:={ s with heap:=h' }) e c d (by decide) ⟨x,H,I1,ru,⟨rfl,λys hy=>by rw[I.list_inj hy hq];exact hx⟩,st',λb hb=>(hf b hb).1⟩⟩
 done:=by
  intro X hP hw hK hc i Yk s σ H E I hf st hg;subst hP hw hK;obtain⟨xs,hq,hx⟩:=hg;obtain⟨its,rv,p,hz⟩:=I.list hq;obtain⟨f0,f1,f2,f3,f4,f5⟩:=hf it (by simp)
  have hl:=rv.length;exact wpAny_pyNext_list_end (I.ok.hd hc) st p.isList (by simp;lia) λh' eb=>⟨rfl,I.turned (t':=s.toks) (λb o hb e=>eb b o hb e) f0 f1 f3 f4 f5⟩
 self:=λy y y y y st h=>wpAny_pyIter_listiter st h
theorem turn_tuple{P:Program}{w:World}{K:PySem.W.Frag}{tg:Expr}(a it:Addr):Turn P w K tg (Itt K a) [it] it (λi h=>h.IsTupleIter it a i) where
 mem:=by simp
 obj:=λi h st b hb=>by
  have e:b=it:=by simpa using hb
  subst e;obtain⟨o,e,c,d⟩:=st;exact⟨o,e,λv z=>by rw[d]at z;cases z⟩
 keep:=λi h h' st k=>st.at λo e=>k it (by simp) o e
 item:=by
  intro X hP hw hK hc i Yk s σ H E I hf st hg;subst hP hw hK;obtain⟨xs,x,hq,hx⟩:=hg;obtain⟨its,rv,p,hz⟩:=I.tuple hq;obtain⟨u,hu,ru⟩:=rv.get hx;obtain⟨f0,f1,f2,f3,f4,f5⟩:=hf it (by simp)
  refine wpAny_pyNext_tuple_item st (show s.heap.IsTuple a its.toArray from p) (x:=u) (by simpa using hu) λh' st' sb=>?_
  have I1:Inv X Yk σ H { s with heap:=h' }:=I.turned (t':=s.toks) (λb o hb e=>(sb.2 b hb).trans e) f0 f1 f3 f4 f5
  obtain⟨o,e,c,d⟩:=id st';exact⟨u,rfl,go_of (s:={ s with heap:=h' }) e c d (by decide) ⟨x,H,I1,ru,⟨rfl,λys hy=>by rw[I.tuple_inj hy hq];exact hx⟩,st',λb hb=>(hf b hb).1⟩⟩
 done:=by
  intro X hP hw hK hc i Yk s σ H E I hf st hg;subst hP hw hK;obtain⟨xs,hq,hx⟩:=hg;obtain⟨its,rv,p,hz⟩:=I.tuple hq;obtain⟨f0,f1,f2,f3,f4,f5⟩:=hf it (by simp)
  have hl:=rv.length;exact wpAny_pyNext_tuple_end (I.ok.hd hc) st (show s.heap.IsTuple a its.toArray from p) (by simp;lia) λh' eb=>⟨rfl,I.turned (t':=s.toks) (λb o hb e=>eb b o hb e) f0 f1 f3 f4 f5⟩
 self:=λy y y y y st h=>wpAny_pyIter_tupleiter st h
theorem turn_range{P:Program}{w:World}{K:PySem.W.Frag}{tg:Expr}(it:Addr)(lo:Int)(n:Nat):Turn P w K tg (Itr lo n) [it] it (λi h=>IsRangeIter h it (lo + (i:Nat) * 1) ((n:Int) - (i:Nat)) 1) where
 mem:=by simp
 obj:=λi h st b hb=>by
  have e:b=it:=by simpa using hb
  subst e;exact⟨_,st,λv z=>by have z':Data.fields _=Data.cell v:=z;cases z'⟩
 keep:=λi h h' st k=>k it (by simp) _ st
 item:=by
  intro X hP hw hK hc i Yk s σ H E I hf st hg;subst hP hw hK;obtain⟨f0,f1,f2,f3,f4,f5⟩:=hf it (by simp)
  have W:=Walks.range (prog:=X.prog) (w:=X.w) (I.ok.hd hc) it lo 1 n;refine W.item i s _ _ hg st λv h' tk hv st' kk=>?_
  obtain⟨t,rfl⟩:=hv;have I1:Inv X Yk σ H { s with heap:=h',toks:=tk }:=I.turned (λb o hb e=>kk b o (by simpa using hb) e) f0 f1 f3 f4 f5
  refine⟨_,rfl,go_of (s:={ s with heap:=h',toks:=tk }) (n := "range_iterator") st' rfl rfl (by decide) ⟨.int (lo+i),H,I1,⟨t,?_⟩,⟨rfl,rfl⟩,st',λb hb=>(hf b hb).1⟩⟩
  rw[Int.mul_one]
 done:=by
  intro X hP hw hK hc i Yk s σ H E I hf st hg;subst hP hw hK;obtain⟨f0,f1,f2,f3,f4,f5⟩:=hf it (by simp)
  exact wpAny_pyNext_range_end (I.ok.hd hc) st (by have:n<=i:=hg;lia) λh' eb=>⟨rfl,I.turned (t':=s.toks) (λb o hb e=>eb b o hb e) f0 f1 f3 f4 f5⟩
 self:=λy y y y y st h=>wpAny_pyIter_rangeiter st h
open PySem PySem.Spec PyProof.Rows
section
variable{X:Cx}{tg:Expr}
noncomputable def iList(K:PySem.W.Frag)(tl:TE):TI:=λσ H R=>tl σ H λx H1=>∃a,x=.ref a/\(∃xs,SqL K H1 a xs)/\R (Itl K a) H1
noncomputable def iTup(K:PySem.W.Frag)(tl:TE):TI:=λσ H R=>tl σ H λx H1=>∃a,x=.ref a/\(∃xs,SqT K H1 a xs)/\R (Itt K a) H1
theorem pi_list{l:Expr}{tl:TE}(hl:PE X l tl):PI X tg l (iList X.K tl):=by
 intro Yk s σ H R I h;refine thn (hl Yk s σ H _ I h) λv s1 ⟨x,H1,I1,r1,q1⟩=>?_
 obtain⟨a,e,⟨xs,hq⟩,q⟩:=q1;subst e;cases r1;obtain⟨its,rv,p,hz⟩:=I1.list hq;refine Vr p.isList ?_;refine⟨s1.heap.objs.size,[s1.heap.objs.size],_,_,H1,rfl,I1.kept (t':=s1.toks) λb o e=>Tf _ e,turn_list a _,⟨_,Tu _ rfl,rfl,rfl⟩,λb hb=>?_,q⟩
 have e:b=s1.heap.objs.size:=by simpa using hb
 subst e;exact I1.fpOk (Tq _) (I1.hok.fresh (Tq _))
theorem pi_tup{l:Expr}{tl:TE}(hl:PE X l tl):PI X tg l (iTup X.K tl):=by
 intro Yk s σ H R I h;refine thn (hl Yk s σ H _ I h) λv s1 ⟨x,H1,I1,r1,q1⟩=>?_
 obtain⟨a,e,⟨xs,hq⟩,q⟩:=q1;subst e;cases r1;obtain⟨its,rv,p,hz⟩:=I1.tuple hq;refine wpAny_pyIter_tuple (show s1.heap.IsTuple a its.toArray from p) ?_
 refine⟨s1.heap.objs.size,[s1.heap.objs.size],_,_,H1,rfl,I1.kept (t':=s1.toks) λb o e=>Tf _ e,turn_tuple a _,⟨_,Tu _ rfl,rfl,rfl⟩,λb hb=>?_,q⟩
 have e:b=s1.heap.objs.size:=by simpa using hb
 subst e;exact I1.fpOk (Tq _) (I1.hok.fresh (Tq _))
theorem range_it{Yk:List (Addr×Obj)}{R:It->Hp->Prop}{E:Value->Shared->Prop}{lo hi:Int}{tk:Nat}(I:Inv X Yk σ H s)(h1:-(2^62)<=lo)(h2:lo<2^62)(h3:-(2^62)<=hi)(h4:hi<2^62)
  (q:R (Itr lo (hi-lo).toNat) H):wpAny (model X.prog X.w) X.A (pyIter (.ref s.heap.objs.size)) (PIE X Yk σ tg R) E { s with heap:=s.heap.push { cls:=.type "range",data:=.fields #[.int lo t,.int hi u,.int 1 v] },toks:=tk }:=by
 refine wpAny_pyIter_range (IsRange.new ..) (small_one h1 h2 h3 h4) ?_;have I1:Inv X Yk σ H { s with heap:=s.heap.push { cls:=.type "range",data:=.fields #[.int lo t,.int hi u,.int 1 v] },toks:=tk }:=I.kept λb o e=>Tf _ e
 refine⟨(s.heap.push { cls:=.type "range",data:=.fields #[.int lo t,.int hi u,.int 1 v] }).objs.size,[(s.heap.push { cls:=.type "range",data:=.fields #[.int lo t,.int hi u,.int 1 v] }).objs.size],_,_,H,rfl,
  I1.kept (t':=tk) λb o e=>Tf _ e,turn_range _ lo (hi-lo).toNat,?_,λb hb=>?_,q⟩
 ·have e1:lo+((0:Nat):Int)*1=lo:=by simp
  have e2:(((hi-lo).toNat:Nat):Int)-((0:Nat):Int)=Builtin.Range.rangeSize lo hi 1:=by rw[rangeSize_one];split<;>lia
  show IsRangeIter _ _ (lo+((0:Nat):Int)*1) ((((hi-lo).toNat:Nat):Int)-((0:Nat):Int)) 1;rw[e1,e2];exact Tu _ rfl
 ·have e:b=(s.heap.push { cls:=.type "range",data:=.fields #[.int lo t,.int hi u,.int 1 v] }).objs.size:=by simpa using hb
  subst e;exact I1.fpOk (Tq _) (I1.hok.fresh (Tq _))
noncomputable def iRng1(ta:TA):TI:=λσ H R=>ta σ H λvs H1=>∃j:Int,vs=[.int j]/\-(2^62)<=j/\j<2^62/\R (Itr 0 j.toNat) H1
noncomputable def iRng2(ta:TA):TI:=λσ H R=>ta σ H λvs H1=>∃i j:Int,vs=[.int i,.int j]/\(-(2^62)<=i/\i<2^62/\-(2^62)<=j/\j<2^62)/\R (Itr i (j-i).toNat) H1
theorem pi_range1(hg:Gl X "range")(hm:X.mg "range"=none)(ha:PA X [a] ta)(hs:autoParam (starEach [a] X.env=[(false,eval a X.env)]) qAA):PI X tg (.Call (.Name "range" p) [a] [] pos) (iRng1 ta):=by
 intro Yk s σ H R I h;refine Call_ (ld_blt I hg hm boot_range (Uj (thn (ha pos Yk s σ H _ I h) λus s1 ⟨vs,H1,I1,r1,q1⟩=>?_) hs rfl))
 obtain⟨j,e,q1,q2,q⟩:=q1;subst e;cases r1 with
 |cons r rr=>cases rr;obtain⟨t,rfl⟩:=r;exact call_range_1 (range_it I1 (by lia) (by lia) q1 q2 (by simpa using q))
theorem pi_range2(hg:Gl X "range")(hm:X.mg "range"=none)(ha:PA X [a,b] ta)(hs:autoParam (starEach [a,b] X.env=[(false,eval a X.env),(false,eval b X.env)]) qAA)(hs2:autoParam (starEach [b] X.env=[(false,eval b X.env)]) qAA):
  PI X tg (.Call (.Name "range" p) [a,b] [] pos) (iRng2 ta):=by
 intro Yk s σ H R I h;refine Call_ (ld_blt I hg hm boot_range (Uj (thn (ha pos Yk s σ H _ I h) λus s1 ⟨vs,H1,I1,r1,q1⟩=>?_) (by rw[hs,hs2]) (by rw[hs2];rfl)))
 obtain⟨i,j,e,⟨q1,q2,q3,q4⟩,q⟩:=q1;subst e;cases r1 with
 | cons r rr=>
   cases rr with
   |cons r' rr=>cases rr;obtain⟨t,rfl⟩:=r;obtain⟨t',rfl⟩:=r';exact call_range_2 (range_it I1 q1 q2 q3 q4 q)
noncomputable def tFor(wi:TI)(g:TG)(tb:TS):TS:=λD σ H=>wi σ H λJ H1=>∃W:Nat->Nat->St->Hp->Prop,(∃m,W 0 m σ H1)/\∀i m σ H,W i m σ H->
 (J.stop i H/\D.nx σ H)\/(J.go i H/\∃N:St->Hp->Prop,(∀σ' H',N σ' H'->∃m',m'<m/\W (i+1) m' σ' H')/\∀x H',J.yld i H x H'->g x σ H' λσ2 H2=>tb { D with nx:=N,ct:=N,bk:=D.nx } σ2 H2)
noncomputable def pinsAt(fp:List Addr)(h:Heap):List (Addr×Obj):=fp.filterMap λb=>(h.get? b).map λo=>(b,o)
theorem mem_pinsAt(hb:b∈fp)(e:h.get? b=some o):(b,o)∈pinsAt fp h:=List.mem_filterMap.mpr ⟨b,hb,by rw[e];rfl⟩
theorem of_pinsAt(hp:p∈pinsAt fp h):p.1∈fp/\h.get? p.1=some p.2:=by
 obtain⟨b,hb,e⟩:=List.mem_filterMap.mp hp;cases q:h.get? b with
 |none=>rw[q]at e;cases e
 |some o=>rw[q]at e;have e':(b,o)=p:=TJ e;subst e';exact⟨hb,q⟩
theorem Inv.pinned(I:Inv X Yk σ H s)(hf:∀b∈fp,FpOk X Yk H b)(ho:∀b∈fp,∃o,s.heap.get? b=some o/\∀v,o.data≠.cell v):Inv X (Yk++pinsAt fp s.heap) σ H s:=
 I.pins_of λp hp=>(T4.mp hp).elim (λz=>I.pin p (UW _ z)) λz=>by obtain⟨hb,e⟩:=of_pinsAt z;obtain⟨f0,f1,f2,_⟩:=hf p.1 hb;obtain⟨o,e',d⟩:=ho p.1 hb;rw[e]at e';cases e';exact⟨e,f0,f1,f2,d⟩
theorem Inv.unpinned(I:Inv X (Yk++pl) σ H s):Inv X Yk σ H s:=I.pins_of λp hp=>I.pin p (UW _ (Vv _ hp))
theorem ps_for(hp:PassesOwn (model X.prog X.w) X.A X.env X.xe)(hc:X.calm=true)(hi:PI X tg iter wi)(hg:PG X tg g)(hb:PSs X body tb)
  (hs:∀x,foldedSetIterable iter X.env x=pure x:=by intro _;rfl):PS X (.For tg iter body [] pos) (tFor wi g tb):=by
 intro Yk s σ H D I h;refine wpAny_For (thn (hi Yk s σ H _ I h) λv s1 h1=>thn h1 λitv s2 h2=>?_) hs
 obtain⟨it,fp,tn,J,H2,e,I2,T,st2,f2,W,⟨m0,w0⟩,turn⟩:=h2;subst e
 -- what stays true of the iterator's objects through the loop
 have stat:∀{H':Hp},(∀b∈fp,H' b=none)->∀b∈fp,FpOk X Yk H' b:=λhn b hb=>⟨hn b hb,(f2 b hb).2⟩
 refine codeAny_forLoop_any (λn s'=>∃i σ' H',Inv X Yk σ' H' s'/\tn i s'.heap/\(∀b∈fp,H' b=none)/\W i n σ' H') ?_ m0 ⟨0,σ,H2,I2,st2,λb hb=>(f2 b hb).1,w0⟩
 rintro n s3 ⟨i,σ3,H3,I3,st3,fr3,w3⟩;rcases turn i n σ3 H3 w3 with ⟨stop,qn⟩ | ⟨go,N,hN,step⟩
 ·refine Wq hp (thn (T.done X rfl rfl rfl hc i Yk s3 σ3 H3 X.xe I3 (stat fr3) st3 stop) λr s4 ⟨hr,I4⟩=>?_)
  subst hr;exact X6 ⟨σ3,H3,I4,qn⟩
 ·refine Wq hp (thn (T.item X rfl rfl rfl hc i Yk s3 σ3 H3 X.xe I3 (stat fr3) st3 go) λr s4 ⟨u,hr,h4⟩=>?_)
  subst hr;refine Wq hp (thn h4 λ_ s5 ⟨x,H5,I5,r5,y5,st5,fr5⟩=>?_)
  have I5':=I5.pinned (stat fr5) (T.obj _ _ st5);refine Wq hp (thn (hg _ s5 σ3 H5 x u _ I5' r5 (step x H5 y5)) λ_ s6 ⟨σ6,H6,I6,q6⟩=>?_)
  refine Wq hp (thn (hb _ s6 σ6 H6 _ I6 q6) λf s7 q7=>?_)
  have again:∀{σ7:St}{H7:Hp},Inv X (Yk++pinsAt fp s5.heap) σ7 H7 s7->N σ7 H7->∃m,m<n/\∃i σ' H',Inv X Yk σ' H' s7/\tn i s7.heap/\(∀b∈fp,H' b=none)/\W i m σ' H':=λ{σ7 H7} I7 n7=>by
   obtain⟨m',hm,w7⟩:=hN σ7 H7 n7;refine⟨m',hm,i+1,σ7,H7,I7.unpinned,T.keep _ _ _ st5 λb hb o e=>(I7.pin (b,o) (UW _ (UW _ (mem_pinsAt hb e)))).1,λb hb=>?_,w7⟩
   obtain⟨o,e,d⟩:=T.obj _ _ st5 b hb;exact (I7.pin (b,o) (UW _ (UW _ (mem_pinsAt hb e)))).2.1
  cases f with
  |next=>obtain⟨σ7,H7,I7,n7⟩:=q7;exact again I7 n7
  |cont=>obtain⟨σ7,H7,I7,n7⟩:=q7;exact again I7 n7
  |brk=>obtain⟨σ7,H7,I7,q7⟩:=q7;exact⟨σ7,H7,I7.unpinned,q7⟩
  |ret v=>obtain⟨x7,σ7,H7,I7,r7,q7⟩:=q7;exact⟨x7,σ7,H7,I7.unpinned,r7,q7⟩
end
open PySem PySem.Spec PyProof.Rows
noncomputable abbrev R2:=V->V->Hp->VK->Prop
noncomputable def OpR(X:Cx)(f:Value->Value->Sem Value)(r:R2):Prop:=
 ∀(Yk:List (Addr×Obj)) (s:Shared) (σ:St) (H:Hp) (x y:V) (v u:Value) (Q:VK),Inv X Yk σ H s->RelV x v->RelV y u->r x y H Q->
   wpAny (model X.prog X.w) X.A (f v u) (EP X Yk σ Q) X.xe s
noncomputable def UnR(X:Cx)(f:Value->Sem Value)(r:V->Hp->VK->Prop):Prop:=
 ∀(Yk:List (Addr×Obj)) (s:Shared) (σ:St) (H:Hp) (x:V) (v:Value) (Q:VK),Inv X Yk σ H s->RelV x v->r x H Q->
   wpAny (model X.prog X.w) X.A (f v) (EP X Yk σ Q) X.xe s
noncomputable def CallR(X:Cx)(f:Value)(r:List V->Hp->VK->Prop):Prop:=
 ∀(Yk:List (Addr×Obj)) (s:Shared) (σ:St) (H:Hp) (xs:List V) (us:List Value) (Q:VK),Inv X Yk σ H s->Vals xs us->r xs H Q->
   wpAny (model X.prog X.w) X.A (call f us) (EP X Yk σ Q) X.xe s
noncomputable def TruR(X:Cx)(r:V->Hp->(Bool->Hp->Prop)->Prop):Prop:=
 ∀(Yk:List (Addr×Obj)) (s:Shared) (σ:St) (H:Hp) (x:V) (v:Value) (Q:Bool->Hp->Prop),Inv X Yk σ H s->RelV x v->r x H Q->
   wpAny (model X.prog X.w) X.A (truthy v) (TP X Yk σ Q) X.xe s
noncomputable def tOp(r:R2)(ta tb:TE):TE:=λσ H Q=>ta σ H λx H1=>tb σ H1 λy H2=>r x y H2 Q
noncomputable def tUn(r:V->Hp->VK->Prop)(ta:TE):TE:=λσ H Q=>ta σ H λx H1=>r x H1 Q
noncomputable def rI(C:Int->Int->Prop)(g:Int->Int->V):R2:=λx y H Q=>∃i j,x=.int i/\y=.int j/\C i j/\Q (g i j) H
noncomputable def rI0(g:Int->Int->V):R2:=λx y H Q=>∃i j,x=.int i/\y=.int j/\Q (g i j) H
noncomputable def rU(g:Int->V):V->Hp->VK->Prop:=λx H Q=>∃i,x=.int i/\Q (g i) H
section
variable{X:Cx}{a b c:Expr}{ta tb tc:TE}{pos:Pos}
theorem binT(ha:PE X a ta)(hb:PE X b tb){Yk:List (Addr×Obj)}{R:V->V->Hp->Prop}(I:Inv X Yk σ H s)
  (h:ta σ H λx H1=>tb σ H1 λy H2=>R x y H2) {Q:Value->Shared->Prop}{f:Value->Value->Sem Value}
  (hf:∀v u s2 x y H2,Inv X Yk σ H2 s2->RelV x v->RelV y u->R x y H2->wpAny (model X.prog X.w) X.A (f v u) Q X.xe s2) :
  wpAny (model X.prog X.w) X.A (eval a X.env) (λv s₁=>wpAny (model X.prog X.w) X.A (eval b X.env) (λu s₂=>wpAny (model X.prog X.w) X.A (f v u) Q X.xe s₂) X.xe s₁) X.xe s:=by
 refine thn (ha Yk s σ H _ I h) λv s1 ⟨x,H1,I1,r1,q1⟩=>?_
 refine thn (hb Yk s1 σ H1 _ I1 q1) λu s2 ⟨y,H2,I2,r2,q2⟩=>?_
 exact hf v u s2 x y H2 I2 r1 r2 q2
theorem pe_op(ho:OpR X (binaryOp op) r)(ha:PE X a ta)(hb:PE X b tb):PE X (.BinOp a op b pos) (tOp r ta tb):=by intro Yk s σ H Q I h;exact wpAny_BinOp (binT ha hb I h λv u s2 x y H2 I2 rx ry q=>ho Yk s2 σ H2 x y v u Q I2 rx ry q)
theorem pe_un(ho:UnR X (unaryOp op) r)(ha:PE X a ta):PE X (.UnaryOp op a pos) (tUn r ta):=by intro Yk s σ H Q I h;exact UnaryOp_ (thn (ha Yk s σ H _ I h) λv s1 ⟨x,H1,I1,r1,q1⟩=>ho Yk s1 σ H1 x v Q I1 r1 q1)
theorem opI{f:Value->Value->Sem Value}{C:Int->Int->Prop}{g:Int->Int->Int}
  (rule:∀(i j:Int) (t u:Tok) (s:Shared) (Q:Value->Shared->Prop) (E:Value->Shared->Prop),C i j->Q (.int (g i j) s.toks) { s with toks:=s.toks+1 }->wpAny (model X.prog X.w) X.A (f (.int i t) (.int j u)) Q E s) :
  OpR X f (rI C λi j=>.int (g i j)):=by
 intro Yk s σ H x y v u Q I rx ry h;obtain⟨i,j,rfl,rfl,hc,q⟩:=h;obtain⟨t,rfl⟩:=rx;obtain⟨t',rfl⟩:=ry;exact rule i j t t' s _ _ hc ⟨.int (g i j),H,I.tok _,⟨_,rfl⟩,q⟩
theorem opI0{f:Value->Value->Sem Value}{g:Int->Int->Int}
  (rule:∀(i j:Int) (t u:Tok) (s:Shared) (Q:Value->Shared->Prop) (E:Value->Shared->Prop),Q (.int (g i j) s.toks) { s with toks:=s.toks+1 }->wpAny (model X.prog X.w) X.A (f (.int i t) (.int j u)) Q E s) :
  OpR X f (rI0 λi j=>.int (g i j)):=by
 intro Yk s σ H x y v u Q I rx ry h;obtain⟨i,j,rfl,rfl,q⟩:=h;obtain⟨t,rfl⟩:=rx;obtain⟨t',rfl⟩:=ry;exact rule i j t t' s _ _ ⟨.int (g i j),H,I.tok _,⟨_,rfl⟩,q⟩
theorem opB0{f:Value->Value->Sem Value}{g:Int->Int->Bool}
  (rule:∀(i j:Int) (t u:Tok) (s:Shared) (Q:Value->Shared->Prop) (E:Value->Shared->Prop),Q (.bool (g i j)) s->wpAny (model X.prog X.w) X.A (f (.int i t) (.int j u)) Q E s) :
  OpR X f (rI0 λi j=>.bl (g i j)):=by
 intro Yk s σ H x y v u Q I rx ry h;obtain⟨i,j,rfl,rfl,q⟩:=h;obtain⟨t,rfl⟩:=rx;obtain⟨t',rfl⟩:=ry;exact rule i j t t' s _ _ ⟨.bl (g i j),H,I,rfl,q⟩
noncomputable def CPow(i j:Int):Prop:=0<=j/\j<=1000000/\i.natAbs<2^64
theorem op_add:OpR X (binaryOp .Add) (rI0 λi j=>.int (i+j)):=opI0 λz z z z z z z q=>add_int q
theorem op_sub:OpR X (binaryOp .Sub) (rI0 λi j=>.int (i-j)):=opI0 λz z z z z z z q=>sub_int q
theorem op_mod:OpR X (binaryOp .Mod) (rI (λz j=>0<j) λi j=>.int (i%j)):=opI λi j z z z z z hc q=>by have h1:(0:Int)<j:=hc;exact mod_int' (by lia) (by rw[Int.fmod_eq_emod_of_nonneg i (by lia)];exact q)
theorem op_pow:OpR X (binaryOp .Pow) (rI CPow λi j=>.int (i^j.toNat)):=opI λz z z z z z z hc q=>pow_int_small hc.1 hc.2.1 hc.2.2 q
theorem iop_add:OpR X (inplaceOp .Add) (rI0 λi j=>.int (i+j)):=opI0 λz z z z z z z q=>iadd_int q
theorem unI{f:Value->Sem Value}{g:Int->Int}
  (rule:∀(i:Int) (t:Tok) (s:Shared) (Q:Value->Shared->Prop) (E:Value->Shared->Prop),Q (.int (g i) s.toks) { s with toks:=s.toks+1 }->wpAny (model X.prog X.w) X.A (f (.int i t)) Q E s) :
  UnR X f (rU λi=>.int (g i)):=by
 intro Yk s σ H x v Q I rx h;obtain⟨i,rfl,q⟩:=h;obtain⟨t,rfl⟩:=rx;exact rule i t s _ _ ⟨.int (g i),H,I.tok _,⟨_,rfl⟩,q⟩
theorem un_neg:UnR X (unaryOp .USub) (rU λi=>.int (-i)):=unI λz z z z z q=>neg_int q
end
noncomputable def scal:V->V->Bool
 |.non,.non=>true | .non,.int _=>true | .int _,.non=>true | .non,.bl _=>true | .bl _,.non=>true | .non,.str _=>true | .str _,.non=>true
 |.int _,.int _=>true | .bl _,.bl _=>true | .str _,.str _=>true | .byt _,.byt _=>true
 |.int _,.str _=>true | .str _,.int _=>true | .bl _,.str _=>true | .str _,.bl _=>true
 |_,_=>false
noncomputable def rEq:R2:=λx y H Q=>scal x y=true/\Q (.bl (decide (x=y))) H
noncomputable def rNe:R2:=λx y H Q=>scal x y=true/\Q (.bl (!decide (x=y))) H
theorem dec_int:decide (V.int i=V.int j)=(i==j):=by rw[T7];simp
theorem dec_bl:decide (V.bl i=V.bl j)=(i==j):=by rw[T7];simp
theorem dec_str:decide (V.str i=V.str j)=(i==j):=by rw[T7];simp
theorem dec_byt:decide (V.byt i=V.byt j)=(i.toList==j.toList):=by rw[T7];cases i;cases j;simp
section
variable{X:Cx}{a b c:Expr}{ta tb tc:TE}{pos:Pos}
theorem fin_bl(I:Inv X Yk σ H s)(q:Q (.bl k) H)(e:k=k'):EP X Yk σ Q (.bool k') s:=by subst e;exact⟨.bl k,H,I,rfl,q⟩
theorem op_eq:OpR X (compareOp .Eq) rEq:=by
 intro Yk s σ H x y v u Q I rx ry h;obtain⟨hs,q⟩:=h;cases x with
 |non=>
   cases rx;cases y with
   |non=>cases ry;exact PySem.EqNone.eq_none_none (fin_bl I q (by simp))
   |bl j=>cases ry;exact PySem.EqNone.eq_none_bool (fin_bl I q (by simp))
   |int j=>obtain⟨t',rfl⟩:=ry;exact PySem.EqNone.eq_none_int (fin_bl I q (by simp))
   |str j=>obtain⟨t',rfl⟩:=ry;exact PySem.EqNone.eq_none_str (fin_bl I q (by simp))
   |_=>exact absurd (show false=true from hs) Ub
 |bl i=>
   cases rx;cases y with
   |non=>cases ry;exact PySem.EqNone.eq_bool_none (fin_bl I q (by simp))
   |bl j=>cases ry;exact eq_bool (fin_bl I q dec_bl)
   |str j=>obtain⟨t',rfl⟩:=ry;exact PySem.EqMixed.eq_bool_str (fin_bl I q (by simp))
   |_=>exact absurd (show false=true from hs) Ub
 |int i=>
   obtain⟨t,rfl⟩:=rx;cases y with
   |non=>cases ry;exact PySem.EqNone.eq_int_none (fin_bl I q (by simp))
   |int j=>obtain⟨t',rfl⟩:=ry;exact eq_int (fin_bl I q dec_int)
   |str j=>obtain⟨t',rfl⟩:=ry;exact PySem.EqMixed.eq_int_str (fin_bl I q (by simp))
   |_=>exact absurd (show false=true from hs) Ub
 |str i=>
   obtain⟨t,rfl⟩:=rx;cases y with
   |non=>cases ry;exact PySem.EqNone.eq_str_none (fin_bl I q (by simp))
   |bl j=>cases ry;exact PySem.EqMixed.eq_str_bool (fin_bl I q (by simp))
   |int j=>obtain⟨t',rfl⟩:=ry;exact PySem.EqMixed.eq_str_int (fin_bl I q (by simp))
   |str j=>obtain⟨t',rfl⟩:=ry;exact eq_str (fin_bl I q dec_str)
   |_=>exact absurd (show false=true from hs) Ub
 |byt i=>
   obtain⟨t,rfl⟩:=rx;cases y with
   |byt j=>obtain⟨t',rfl⟩:=ry;exact PySem.W.eq_bytes (fin_bl I q dec_byt)
   |_=>exact absurd (show false=true from hs) Ub
 |_=>cases y<;>exact absurd (show false=true from hs) Ub
theorem op_ne:OpR X (compareOp .NotEq) rNe:=by
 intro Yk s σ H x y v u Q I rx ry h;obtain⟨hs,q⟩:=h;cases x with
 |non=>
   cases rx;cases y with
   |non=>cases ry;exact PySem.EqNone.ne_none_none (fin_bl I q (by simp))
   |bl j=>cases ry;exact PySem.EqNone.ne_none_bool (fin_bl I q (by simp))
   |int j=>obtain⟨t',rfl⟩:=ry;exact PySem.EqNone.ne_none_int (fin_bl I q (by simp))
   |str j=>obtain⟨t',rfl⟩:=ry;exact PySem.EqNone.ne_none_str (fin_bl I q (by simp))
   |_=>exact absurd (show false=true from hs) Ub
 |bl i=>
   cases rx;cases y with
   |non=>cases ry;exact PySem.EqNone.ne_bool_none (fin_bl I q (by simp))
   |bl j=>cases ry;exact ne_bool (fin_bl I q (congrArg not dec_bl))
   |str j=>obtain⟨t',rfl⟩:=ry;exact PySem.EqMixed.ne_bool_str (fin_bl I q (by simp))
   |_=>exact absurd (show false=true from hs) Ub
 |int i=>
   obtain⟨t,rfl⟩:=rx;cases y with
   |non=>cases ry;exact PySem.EqNone.ne_int_none (fin_bl I q (by simp))
   |int j=>obtain⟨t',rfl⟩:=ry;exact ne_int (fin_bl I q (congrArg not dec_int))
   |str j=>obtain⟨t',rfl⟩:=ry;exact PySem.EqMixed.ne_int_str (fin_bl I q (by simp))
   |_=>exact absurd (show false=true from hs) Ub
 |str i=>
   obtain⟨t,rfl⟩:=rx;cases y with
   |non=>cases ry;exact PySem.EqNone.ne_str_none (fin_bl I q (by simp))
   |bl j=>cases ry;exact PySem.EqMixed.ne_str_bool (fin_bl I q (by simp))
   |int j=>obtain⟨t',rfl⟩:=ry;exact PySem.EqMixed.ne_str_int (fin_bl I q (by simp))
   |str j=>obtain⟨t',rfl⟩:=ry;exact ne_str (fin_bl I q (congrArg not dec_str))
   |_=>exact absurd (show false=true from hs) Ub
 |byt i=>
   obtain⟨t,rfl⟩:=rx;cases y with
   |byt j=>obtain⟨t',rfl⟩:=ry;exact PySem.W.ne_bytes (fin_bl I q (congrArg not dec_byt))
   |_=>exact absurd (show false=true from hs) Ub
 |_=>cases y<;>exact absurd (show false=true from hs) Ub
theorem op_lt:OpR X (compareOp .Lt) (rI0 λi j=>.bl (decide (i<j))):=opB0 λz z z z z z z q=>lt_int q
theorem op_le:OpR X (compareOp .LtE) (rI0 λi j=>.bl (decide (i<=j))):=opB0 λz z z z z z z q=>le_int q
theorem op_gt:OpR X (compareOp .Gt) (rI0 λi j=>.bl (decide (j<i))):=opB0 λz z z z z z z q=>gt_int q
theorem op_ge:OpR X (compareOp .GtE) (rI0 λi j=>.bl (decide (j<=i))):=opB0 λz z z z z z z q=>ge_int q
theorem OpR.or(h:OpR X f r)(h':OpR X f r'):OpR X f (λx y H Q=>r x y H Q\/r' x y H Q):=by
 intro Yk s σ H x y v u Q I rx ry q;rcases q with q | q
 ·exact h Yk s σ H x y v u Q I rx ry q
 ·exact h' Yk s σ H x y v u Q I rx ry q
theorem nomark(b:Expr)(h:autoParam (op≠.In) qAB)(h2:autoParam (op≠.NotIn) qAB):behindInMarks op b=false:=by
 have e1:(op==CmpOp.In)=false:=by cases op<;>first | rfl | exact absurd rfl h
 have e2:(op==CmpOp.NotIn)=false:=by cases op<;>first | rfl | exact absurd rfl h2
 cases b<;>simp[behindInMarks,e1,e2]
theorem pe_cmpR(ho:OpR X (compareOp op) r)(ha:PE X a ta)(hb:PE X b tb)(hm:behindInMarks op b=false):PE X (.Compare a [op] [b] pos) (tOp r ta tb):=by intro Yk s σ H Q I h;exact wpAny_Compare1 (binT ha hb I h λv u s2 x y H2 I2 rx ry q=>ho Yk s2 σ H2 x y v u Q I2 rx ry q) hm
noncomputable def tTest(t:TE):TT:=λσ H Q=>t σ H λx H'=>∃k,x=.bl k/\Q k H'
theorem pt_cmpR(ho:OpR X (compareOp op) r)(ha:PE X a ta)(hb:PE X b tb)(hm:behindInMarks op b=false):PT X (.Compare a [op] [b] pos) (tTest (tOp r ta tb)):=by
 intro Yk s σ H Q I h;refine wpAny_isTrue_Compare1 (thn (ha Yk s σ H _ I h) λv s1 ⟨x,H1,I1,r1,q1⟩=>thn (hb Yk s1 σ H1 _ I1 q1) λu s2 ⟨y,H2,I2,r2,q2⟩=>
  thn (ho Yk s2 σ H2 x y v u _ I2 r1 r2 q2) λc s3 ⟨z,H3,I3,r3,k,e,q3⟩=>?_) hm
 subst e;cases r3;exact V1 ⟨H3,I3,q3⟩
noncomputable def tChain(r r':R2)(ta tb tc:TE):TE:=λσ H Q=>ta σ H λx H1=>tb σ H1 λy H2=>r x y H2 λz H3=>∃k,z=.bl k /\
 (if k=true then tc σ H3 λw' H4=>r' y w' H4 Q else Q (.bl false) H3)
theorem pe_chain(ho:OpR X (compareOp op) r)(ho':OpR X (compareOp op') r')(ha:PE X a ta)(hb:PE X b tb)(hc:PE X c tc)
  (hm:lastMarks [op,op'] [b,c]=false:=by with_unfolding_all rfl):PE X (.Compare a [op,op'] [b,c] pos) (tChain r r' ta tb tc):=by
 intro Yk s σ H Q I h;refine Compare_chain (thn (ha Yk s σ H _ I h) λv s1 ⟨x,H1,I1,r1,q1⟩=>chain_link (thn (hb Yk s1 σ H1 _ I1 q1) λu s2 ⟨y,H2,I2,r2,q2⟩=>
  thn (ho Yk s2 σ H2 x y v u _ I2 r1 r2 q2) λd s3 ⟨z,H3,I3,r3,k,e,q3⟩=>?_)) hm
 subst e;cases r3;refine V1 ?_;cases k with
 |false=>exact ite_ff ⟨.bl false,H3,I3,rfl,q3⟩
 |true=>exact ite_tt (chain_last (thn (hc Yk s3 σ H3 _ I3 q3) λw' s4 ⟨z',H4,I4,r4,q4⟩=>ho' Yk s4 σ H4 y z' u w' Q I4 r2 r4 q4))
theorem pt_chain(ho:OpR X (compareOp op) r)(ho':OpR X (compareOp op') r')(ha:PE X a ta)(hb:PE X b tb)(hc:PE X c tc)
  (hm:lastMarks [op,op'] [b,c]=false:=by with_unfolding_all rfl):PT X (.Compare a [op,op'] [b,c] pos) (tTest (tChain r r' ta tb tc)):=by
 intro Yk s σ H Q I h;refine isTrue_chain (thn (ha Yk s σ H _ I h) λv s1 ⟨x,H1,I1,r1,q1⟩=>test_link (thn (hb Yk s1 σ H1 _ I1 q1) λu s2 ⟨y,H2,I2,r2,q2⟩=>
  thn (ho Yk s2 σ H2 x y v u _ I2 r1 r2 q2) λd s3 ⟨z,H3,I3,r3,k,e,q3⟩=>?_)) hm
 subst e;cases r3;refine V1 ?_;cases k with
 |false=>obtain⟨k',e',q'⟩:=q3;cases e';exact ite_ff ⟨H3,I3,q'⟩
 |true=>
   refine ite_tt (test_last (thn (hc Yk s3 σ H3 _ I3 q3) λw' s4 ⟨z',H4,I4,r4,q4⟩=>thn (ho' Yk s4 σ H4 y z' u w' _ I4 r2 r4 q4) λd' s5 ⟨z2,H5,I5,r5,k2,e2,q5⟩=>?_))
   subst e2;cases r5;exact V1 ⟨H5,I5,q5⟩
noncomputable def TruV(K:PySem.W.Frag)(x:V)(H:Hp)(k:Bool):Prop:=
 match x with
 |.non=>k=false
 |.bl b=>k=b
 |.int i=>k=(i != 0)
 |.str y=>y.length<=sizeLine/\k=((y.length:Int) != 0)
 |.byt y=>y.size<=sizeLine/\k=((y.size:Int) != 0)
 |.ref p=>(∃xs,SqL K H p xs/\k=!xs.isEmpty)\/(∃xs,SqT K H p xs/\k=!xs.isEmpty)\/∃kvs,H p=some (.dK kvs)/\k=!kvs.isEmpty
 |_=>False
theorem isEmpty_kv(r:KV kvs vs):(!vs.isEmpty)=!kvs.isEmpty:=by cases r<;>rfl
theorem isEmpty_of(r:Vals xs its):(!its.toArray.isEmpty)=!xs.isEmpty:=by cases r<;>simp
theorem line63:(sizeLine:Nat)<2^63:=by rw[VM];decide
theorem tru_ok:TruR X (λx H Q=>∃ k,TruV X.K x H k/\Q k H):=by
 intro Yk s σ H x v Q I rx h;obtain⟨k,e,q⟩:=h;have hl:=line63;have hs:sizeLine=16777216:=VM;cases x with
 |non=>cases rx;have e':k=false:=e;subst e';exact truthy_none ⟨H,I,q⟩
 |bl b=>cases rx;have e':k=b:=e;subst e';exact V1 ⟨H,I,q⟩
 |int i=>obtain⟨t,rfl⟩:=rx;have e':k=(i != 0):=e;subst e';exact PySem.P.truthy_int ⟨H,I,q⟩
 |str y=>obtain⟨t,rfl⟩:=rx;obtain⟨hy,e'⟩:y.length<=sizeLine/\k=((y.length:Int) != 0):=e;subst e';exact PySem.P.truthy_str (by lia) ⟨H,I.tok _,q⟩
 |byt y=>obtain⟨t,rfl⟩:=rx;obtain⟨hy,e'⟩:y.size<=sizeLine/\k=((y.size:Int) != 0):=e;subst e';exact PySem.W.truthy_bytes (by lia) ⟨H,I.tok _,q⟩
 | ref p=>
   cases rx;have e':(∃xs,SqL X.K H p xs/\k=!xs.isEmpty)\/(∃xs,SqT X.K H p xs/\k=!xs.isEmpty)\/∃kvs,H p=some (.dK kvs)/\k=!kvs.isEmpty:=e;rcases e' with ⟨xs,hx,e'⟩ | ⟨xs,hx,e'⟩ | ⟨kvs,hx,e'⟩
   ·subst e';obtain⟨its,r,pl,hz⟩:=I.list hx;have hlen:=r.length;exact wpAny_truthy_list pl.isList (by simp only[List.size_toArray];lia) ⟨H,I.tok _,by rw[isEmpty_of r];exact q⟩
   ·subst e';obtain⟨its,r,pl,hz⟩:=I.tuple hx;have hlen:=r.length;exact truthy_tuple pl (by simp only[List.size_toArray];lia) ⟨H,I.tok _,by rw[isEmpty_of r];exact q⟩
   ·subst e';obtain⟨hz,hS,vs,r,m⟩:kvs.length<=sizeLine/\(p==sysModules)=false/\∃vs,KV kvs vs/\s.heap.DictOf (mixKind X.prog X.w) p vs:=I.hok p _ hx;have hlen:kvs.length=vs.length:=Paired.length r;exact wpAny_truthy_dict hS m (by lia) ⟨H,I.tok _,by rw[isEmpty_kv r];exact q⟩
 |_=>exact (show False from e).elim
theorem pt_truth(ha:PE X a ta)(he:∀whole,isTrue a X.env whole=(do let v <-whole;standAt a.pos;holding [v] (truthy v))):
  PT X a (λσ H Q=>ta σ H λx H'=>∃k,TruV X.K x H' k/\Q k H'):=by
 intro Yk s σ H Q I h;exact isTrue_plain (thn (ha Yk s σ H _ I h) λv s1 ⟨x,H1,I1,r1,q1⟩=>tru_ok Yk s1 σ H1 x v Q I1 r1 q1) (he _)
theorem op_add_str:OpR X (binaryOp .Add) (λx y H Q=>∃i j,x=.str i/\y=.str j/\i.length+j.length<=sizeLine/\Q (.str (i++j)) H):=by intro Yk s σ H x y v u Q I rx ry h;obtain⟨i,j,rfl,rfl,hz,q⟩:=h;obtain⟨t,rfl⟩:=rx;obtain⟨t',rfl⟩:=ry;exact add_str (λt' tk=>⟨.str (i++j),H,I.tok _,⟨_,rfl⟩,q⟩) hz
theorem vals1(r:Vals [x] us):∃u,us=[u]/\RelV x u:=by
 cases r with
 |cons r1 r2=>cases r2;exact⟨_,rfl,r1⟩
theorem vals2(r:Vals [x,y] us):∃ u w',us=[u,w']/\RelV x u/\RelV y w':=by
 cases r with
 |cons r1 r2=>
   cases r2 with
   |cons r3 r4=>cases r4;exact⟨_,_,rfl,r1,r3⟩
theorem call_max2(hc:X.calm=true):CallR X (.builtin "max") (λxs H Q=>∃i j,xs=[.int i,.int j]/\Q (.int (if j > i then j else i)) H):=by
 intro Yk s σ H xs us Q I r h;obtain⟨i,j,rfl,q⟩:=h;obtain⟨u,w',rfl,⟨t,rfl⟩,⟨t',rfl⟩⟩:=vals2 r;refine max_two_ints (I.ok.hd hc) λh' tk k=>⟨_,H,I.kept k,?_,q⟩
 by_cases hj:j > i
 ·rw[Tv hj,Tv hj];exact⟨_,rfl⟩
 ·rw[Tw hj,Tw hj];exact⟨_,rfl⟩
end
open PySem PySem.Spec PyProof.Rows
structure ObjM(h:Heap)(x dx C:Addr)(mA:Str->Option Value):Prop where
 obj:h.get? x=some (PySem.W.instObj C dx)
 ns:h.Ns1 dx mA
 ne:dx≠x
set_option tactic.hygienic true in
theorem lookIn_ns{h:Heap}{dx:Addr}{mA:Str->Option Value}(n:h.Ns1 dx mA):∃ od,h.get? dx=some od/\∀ name,PySem.W.lookIn name od=some (mA name):=by
 obtain⟨o,es,ep,ho,hd,hk,_,hm⟩:=n;refine⟨o,ho,λname=>?_⟩
 have e:=hm name;unfold nsFind findBy at e;rw[<-Array.find?_toList]at e;unfold PySem.W.lookIn;rw[hd];dsimp only;split
 ·rename_i y q;rw[q]at e;exact congrArg some e
 ·rename_i q;rw[q]at e;have a:es.toList.any (·.refKey)=false:=by rw[List.any_eq_false];intro y hy;obtain⟨z,t,hkey⟩:=hk y (Array.mem_toList_iff.mp hy);simp[DictEntry.refKey,hkey]
  have a':¬ es.toList.any (·.refKey)=true:=by rw[a];exact Ub
  rw[Tw a'];exact congrArg some e
theorem ObjM.look(I:ObjM h x dx C mA):∃od,PySem.W.InstAt h x (PySem.W.instObj C dx) C (some od)/\∀name,PySem.W.lookIn name od=some (mA name):=
 let ⟨od,ho,hl⟩:=lookIn_ns I.ns
 ⟨od,⟨I.obj,rfl,rfl,ho⟩,hl⟩
section
variable{prog:Program}{w:World}{A:Around}{E:Value->Shared->Prop}{s:Shared}{K:PySem.W.Frag}{x dx C f:Addr}{mA:Str->Option Value}{name:Str}{v:Value}
theorem get_map(X:K.In s.heap)(I:ObjM s.heap x dx C mA)(hg:PySem.W.plainGet K C name=true)(hh:PySem.W.hasDictIn K C=true)
  (ha:PySem.W.findIn K (.ref C) name=some none) (hv:mA name=some v) (hv':PySem.W.handedIn v=true) (h:Q v { s with toks:=s.toks+1 }) :
  wpAny (model prog w) A (getAttr (.ref x) name expr) Q E s:=by
 obtain⟨od,J,hl⟩:=I.look;exact PySem.W.get_value X J (PySem.W.plainGet_of hg).1 (PySem.W.findObj_own hh ha rfl (by rw[hl,hv])) hv' h
theorem set_map(X:K.In s.heap)(I:ObjM s.heap x dx C mA)
  (hs:PySem.W.findIn K (.ref C) "__setattr__"=some (some (.builtin "object.__setattr__"))) (hp:PySem.W.plainOver K C=true) (ht:PySem.W.takerIn K C name=some none) (hh:PySem.W.hasDictIn K C=true)
  (hw:PySem.Within mA ns) (hsz:ns.length<=sizeLine)
  (h:∀h',ObjM h' x dx C (λy=>if y=name then some v else mA y)->Heap.SameBut dx s.heap h'->Q () { s with heap:=h',toks:=s.toks+2 }) :
  wpAny (model prog w) A (setAttr (.ref x) name v) Q E s:=by
 obtain⟨od,J,hl⟩:=I.look;refine PySem.W.set_plain X J hs (PySem.W.osa_open (s:={ s with toks:=s.toks+1 }) (r:=none) X J hp ht λb=>?_)
 obtain⟨cd,hc,hd'⟩:=PySem.W.any_some hh;have hx:s.heap.get? x=some ⟨.ref C,some dx,.plain,#[]⟩:=I.obj;refine Te (Th (Te (Te (wpAny_loadPart hx (Te (PySem.W.Looks.here (s:={ s with toks:=s.toks+1 }) (PySem.W.looks_clsIn X hc) ?_))))))
 rw[hd'];refine Th (a:=some dx) (Te (Th (Te ?_)));refine wpAny_nsSet1 (s:={ s with toks:=s.toks+1 }) I.ns λh' hn2 hs2=>?_
 obtain⟨oD,esD,epD,hoD,hdD,hcD⟩:=hn2.count (PySem.Within.cons name v hw);refine Te (wpAny_lookBehind hoD (by rw[hdD];exact pastItsLine_dict (Ue hcD (by rw[Ve];lia))) ?_)
 exact Th (h _ ⟨(hs2.2 _ (Ne.symm I.ne)).trans I.obj,hn2,I.ne⟩ hs2)
theorem make_map(X:K.In s.heap)(hm:PySem.W.makesIn K C=true)
  (hi:PySem.W.findIn K (.ref C) "__init__"=some (some (.ref f))) (hf:PySem.W.typeIn K (.ref f)=some (.type "function"))
  (h:codeAny (model prog w) (A.under (.builtin "type.__call__" ⟨.ref C::vs,kw⟩)) (.call (.ref f) ⟨.ref (s.heap.objs.size+1)::vs,kw⟩) (PySem.W.InitBack (s.heap.objs.size+1) R)
    { s with heap:=(s.heap.push PySem.W.emptyDict).push (PySem.W.instObj C s.heap.objs.size) }) :
  codeAny (model prog w) A (.call (.ref C) ⟨vs,kw⟩) R s:=by
 obtain⟨hh,g,d,t,os⟩:=s;exact PySem.W.make_core (PySem.W.makes_of X hm) (PySem.W.looks_findIn X hi) (λself=>PySem.W.bind_fn X self hf) (.inl rfl) h
end
noncomputable def putF(f:Str)(v:V):List (Str×V)->List (Str×V)
 |[]=>[(f,v)]
 |(g,x)::r=>if g=f then (g,v)::r else (g,x)::putF f v r
theorem lookup_putF(f g:Str)(v:V):∀ fs:List (Str×V),(putF f v fs).lookup g=if g=f then some v else fs.lookup g
 | []=>by
   show List.lookup g [(f,v)]=_;by_cases h:g=f
   ·have hb:(g==f)=true:=Yc.mpr h;simp only[List.lookup,hb,if_pos h]
   ·have hb:(g==f)=false:=V5.mpr h;simp only[List.lookup,hb,if_neg h]
 | (k,x)::r=>by
   have ih:=lookup_putF f g v r;rw[show putF f v ((k,x)::r)=(if k=f then (k,v)::r else (k,x)::putF f v r) from rfl]
   by_cases hk:k=f
   ·rw[Tv hk];by_cases h:g=k
    ·have hb:(g==k)=true:=Yc.mpr h;simp only[List.lookup,hb,if_pos (h.trans hk)]
    ·have hb:(g==k)=false:=V5.mpr h;simp only[List.lookup,hb,if_neg (λe:g=f=>h (e.trans hk.symm))]
   ·rw[Tw hk];by_cases h:g=k
    ·have hb:(g==k)=true:=Yc.mpr h;simp only[List.lookup,hb,if_neg (λe:g=f=>hk (h.symm.trans e))]
    ·have hb:(g==k)=false:=V5.mpr h;simp only[List.lookup,hb];exact ih
theorem keys_putF(f:Str)(v:V):∀ fs:List (Str×V),f∈(putF f v fs).map (·.1)/\∀ g,g∈fs.map (·.1)->g∈(putF f v fs).map (·.1)
 |[]=>⟨by simp[putF],λg h=>by simp at h⟩
 | (k,x)::r=>by
   obtain⟨i1,i2⟩:=keys_putF f v r;rw[show putF f v ((k,x)::r)=(if k=f then (k,v)::r else (k,x)::putF f v r) from rfl]
   by_cases hk:k=f
   ·rw[Tv hk];subst hk;exact⟨by simp,λg h=>by simpa using h⟩
   ·rw[Tw hk];refine⟨?_,λg h=>?_⟩
    ·rw[Uu];exact Ui _ i1
    ·rw[Uu]at h ⊢
     rcases TV.mp h with e | e
     ·exact TV.mpr (.inl e)
     ·exact Ui _ (i2 g e)
theorem length_putF(f:Str)(v:V):∀ fs:List (Str×V),(putF f v fs).length<=fs.length + 1
 |[]=>by simp[putF]
 |(k,x)::r=>by
   have ih:=length_putF f v r;rw[show putF f v ((k,x)::r)=(if k=f then (k,v)::r else (k,x)::putF f v r) from rfl]
   by_cases hk:k=f
   ·rw[Tv hk,Ve,Ve];lia
   ·rw[Tw hk,Ve,Ve];lia
theorem RelO.some_of(r:RelO (some v) o):∃u,o=some u/\RelV v u:=by
 cases o with
 |none=>exact (show False from r).elim
 |some u=>exact⟨u,rfl,r⟩
theorem handed_of(r:RelV v u):PySem.W.handedIn u=true:=by
 cases v with
 |non=>cases (show u=Value.none from r);rfl
 |bl b=>cases (show u=Value.bool b from r);rfl
 |int i=>obtain⟨t,e⟩:=(show ∃t,u=Value.int i t from r);cases e;rfl
 |str x=>obtain⟨t,e⟩:=(show ∃t,u=Value.str x t from r);cases e;rfl
 |byt b=>obtain⟨t,e⟩:=(show ∃t,u=Value.bytes b t from r);cases e;rfl
 |flt b=>obtain⟨t,e⟩:=(show ∃t,u=Value.float b t from r);cases e;rfl
 |ref a=>cases (show u=Value.ref a from r);rfl
 |ty n=>cases (show u=Value.type n from r);rfl
section
variable{P:Program}{w:World}{H H':Hp}{h h':Heap}{a C dx:Addr}{fs fs':List (Str×V)}
theorem ins_get(hok:HOk P w H h)(e:H a=some (.ins C dx fs)):∃mA,ObjM h a dx C mA/\(∀f,RelO (fs.lookup f) (mA f))/\PySem.Within mA (fs.map (·.1))/\fs.length<=1000/\H dx=some (.own a):=by
 obtain⟨d,z,ne,ob,mA,n,r,q⟩:=(show ObjOk P w H h a (.ins C dx fs) from hok a _ e)
 exact⟨mA,⟨ob,n,ne⟩,r,q,z,d⟩
end
structure Cls(K:PySem.W.Frag)(C:Addr):Prop where
 pg:PySem.W.plainGet K C Str.empty=true
 hd:PySem.W.hasDictIn K C=true
 po:PySem.W.plainOver K C=true
 sa:PySem.W.findIn K (.ref C) "__setattr__"=some (some (.builtin "object.__setattr__"))
theorem Cls.get{K:PySem.W.Frag}{C:Addr}(c:Cls K C)(f:Str):PySem.W.plainGet K C f=true:=c.pg
noncomputable def NoAttr(K:PySem.W.Frag)(C:Addr)(f:Str):Prop:=PySem.W.findIn K (.ref C) f=some none
theorem NoAttr.taker{K:PySem.W.Frag}{C:Addr}{f:Str}(n:NoAttr K C f):PySem.W.takerIn K C f=some none:=by
 unfold PySem.W.takerIn;rw[show PySem.W.findIn K (.ref C) f=some none from n]
 rfl
section
variable{X:Cx}{Yk:List (Addr×Obj)}{σ:St}{H:Hp}{s:Shared}{a C dx:Addr}{fs:List (Str×V)}{f:Str}{v:V}{A:Around}{E:Value->Shared->Prop}
theorem getattr_ok(I:Inv X Yk σ H s)(e:H a=some (.ins C dx fs))(c:Cls X.K C)(n:NoAttr X.K C f)(l:fs.lookup f=some v)
  (h:∀u s',Inv X Yk σ H s'->RelV v u->Q u s'):wpAny (model X.prog X.w) A (getAttr (.ref a) f b) Q E s:=by
 obtain⟨mA,O,r,_,_,_⟩:=ins_get I.hok e;obtain⟨u,hu,ru⟩:=RelO.some_of (v:=v) (o:=mA f) (by rw[<-l];exact r f)
 exact get_map I.kIn O (c.get f) c.hd n hu (handed_of ru) (h u _ (I.tok _) ru)
theorem setattr_ok(I:Inv X Yk σ H s)(e:H a=some (.ins C dx fs))(c:Cls X.K C)(n:NoAttr X.K C f)(hl:fs.length<1000)(ry:RelV y u)
  (h:∀s',Inv X Yk σ (upd H a (.ins C dx (putF f y fs))) s'->Q () s'):wpAny (model X.prog X.w) A (setAttr (.ref a) f u) Q E s:=by
 obtain⟨mA,O,r,wi,_,ho⟩:=ins_get I.hok e;have hz:(fs.map (·.1)).length<=sizeLine:=by rw[Tz,VM];lia
 refine set_map I.kIn O c.sa c.po n.taker c.hd wi hz λh' O' sb=>h _ ?_
 have hd:∃o,h'.get? dx=some o:=let ⟨o,_,_,e',_⟩:=O'.ns;⟨o,e'⟩
 refine I.write (x:=a) (e:=dx) (by rw[e];exact True.intro) (.inr ho) (λb q hb z=>(sb.2 b hb).trans z) hd ?_
 refine⟨by rw[upd_ne O.ne];exact ho,?_,O.ne,O'.obj,_,O'.ns,λg=>?_,λg hg=>?_⟩
 ·have:=length_putF f y fs;lia
 ·show RelO ((putF f y fs).lookup g) (if g=f then some u else mA g)
  rw[lookup_putF];by_cases q:g=f
  ·rw[Tv q,Tv q];exact ry
  ·rw[Tw q,Tw q];exact r g
 ·by_cases q:g=f
  ·rw[q];exact (keys_putF f y fs).1
  ·refine (keys_putF f y fs).2 g (wi g λz=>hg ?_)
   show (if g=f then some u else mA g)=none
   rw[Tw q];exact z
theorem Inv.made(I:Inv X Yk σ H s):Inv X Yk σ (upd (upd H s.heap.objs.size (.own (s.heap.objs.size+1))) (s.heap.objs.size+1) (.ins C s.heap.objs.size []))
  { s with heap:=(s.heap.push PySem.W.emptyDict).push (PySem.W.instObj C s.heap.objs.size) }:=by
 have e1:(s.heap.push PySem.W.emptyDict).get? s.heap.objs.size=some PySem.W.emptyDict:=Tu s.heap rfl;have e2:((s.heap.push PySem.W.emptyDict).push (PySem.W.instObj C s.heap.objs.size)).get? (s.heap.objs.size+1)=some (PySem.W.instObj C s.heap.objs.size):=by
  have:=Tu (s.heap.push PySem.W.emptyDict) (o:=PySem.W.instObj C s.heap.objs.size) rfl
  rwa [Uc]at this
 have e3:(s.heap.push PySem.W.emptyDict).Ns s.heap.objs.size (λz=>none):=⟨PySem.W.emptyDict,#[],_,e1,rfl,(λe he=>absurd he (by simp)),λz=>rfl⟩
 have I1:=I.laid (a:=s.heap.objs.size) (o:=.own (s.heap.objs.size+1)) (h':=s.heap.push PySem.W.emptyDict) (t':=s.toks) (λb u q=>Tf _ q) (Tq _) ⟨_,e1⟩
 refine I1.laid (a:=s.heap.objs.size+1) (o:=.ins C s.heap.objs.size []) (t':=s.toks) (λb u q=>Tf _ q) (Nat.le_of_eq (Uc _ _)) ?_
 have ne:s.heap.objs.size≠s.heap.objs.size+1:=TF (Vi _);refine⟨by rw[upd_ne ne,upd_same],Vl _,ne,e2,λz=>none,(Heap.Ns1.of_empty e3).at λo q=>Tf _ q,λz=>True.intro,λy hy=>absurd rfl hy⟩
theorem attr_of(hb:attributeBase e f env (eval e env)=eval e env)
  (h:wpAny (model prog w) A (eval e env) (λo s₁=>wpAny (model prog w) A (getAttr o f true) Q E s₁) E s):wpAny (model prog w) A (eval (.Attribute e f pos) env) Q E s:=
 Attribute_any_ h (by rw[arm_eval_Attribute,hb])
end
noncomputable def tFld(K:PySem.W.Frag)(ta:TE)(f:Str):TE:=λσ H Q=>ta σ H λx H1=>∃a C dx fs v,x=.ref a/\H1 a=some (.ins C dx fs)/\Cls K C/\NoAttr K C f/\fs.lookup f=some v/\Q v H1
noncomputable def sFld(K:PySem.W.Frag)(ta tv:TE)(f:Str):TS:=λD σ H=>tv σ H λy H1=>ta σ H1 λx H2=>∃a C dx fs,x=.ref a/\H2 a=some (.ins C dx fs)/\Cls K C/\NoAttr K C f/\fs.length<1000 /\
 D.nx σ (upd H2 a (.ins C dx (putF f y fs)))
section
variable{X:Cx}{o e value:Expr}{f:Str}{pos pos' tpos:Pos}{ta tv:TE}
theorem pe_fld(he:PE X e ta)(hb:attributeBase e f X.env (eval e X.env)=eval e X.env):PE X (.Attribute e f pos) (tFld X.K ta f):=by
 intro Yk s σ H Q I h;refine attr_of hb (thn (he Yk s σ H _ I h) λu s1 ⟨x,H1,I1,rx,a,C,dx,fs,v,ex,ea,c,n,l,q⟩=>?_)
 subst ex;obtain rfl:u=Value.ref a:=rx;exact getattr_ok I1 ea c n l λu' s2 I2 ru=>⟨v,H1,I2,ru,q⟩
theorem ps_fld(ha:PE X o ta)(hv:PE X value tv)(hs:swapsWith value (some (.Attribute o f pos')) pos.line X.env=pure false):PS X (.Assign [.Attribute o f pos'] value pos) (sFld X.K ta tv f):=by
 intro Yk s σ H D I h;refine plainObj_wpAny_Assign_Attribute (thn (hv Yk s σ H _ I h) λu s1 ⟨y,H1,I1,ry,q⟩=>thn (ha Yk s1 σ H1 _ I1 q) λov s2 ⟨x,H2,I2,rx,a,C,dx,fs,ex,ea,c,n,l,q2⟩=>?_) hs
 subst ex;obtain rfl:ov=Value.ref a:=rx;exact setattr_ok I2 ea c n l ry λs3 I3=>⟨σ,_,I3,q2⟩
end
section
variable{X:Cx}{Yk:List (Addr×Obj)}{σ:St}{H:Hp}{s:Shared}{A:Around}{E:Value->Shared->Prop}{Q:Value->Shared->Prop}{c:Value}{b:Bool}
inductive TyOf(K:PySem.W.Frag)(H:Hp):V->Value->Prop where
 |non:TyOf K H .non (.type "NoneType")
 |bl (x:Bool):TyOf K H (.bl x) (.type "bool")
 |int (i:Int):TyOf K H (.int i) (.type "int")
 |str (x:Str):TyOf K H (.str x) (.type "str")
 |flt (x:UInt64):TyOf K H (.flt x) (.type "float")
 |lst {a:Addr}{xs:List V} (e:H a=some (.lst xs)):TyOf K H (.ref a) (.type "list")
 |frz {a:Addr}{o:Obj}{xs:List V} (e:H a=some (.frz o (.lst xs))):TyOf K H (.ref a) (.type "list")
 |tup {a:Addr}{xs:List V} (e:H a=some (.tup xs)):TyOf K H (.ref a) (.type "tuple")
 |dK {a:Addr}{kvs:List (Key×V)} (e:H a=some (.dK kvs)):TyOf K H (.ref a) (.type "dict")
 |dT {a:Addr}{kvs:List (List Key×V)} (e:H a=some (.dT kvs)):TyOf K H (.ref a) (.type "dict")
 |ins {a C dx:Addr}{fs:List (Str×V)} (e:H a=some (.ins C dx fs)) (cl:Cls K C) (ha:PySem.W.findIn K (.ref C) "__class__"=some (some (.builtin "object.__class__")))
   (hn:PySem.W.specialIn K (.builtin "object.__class__") "__get__"=some (some (.builtin "getset_descriptor.__get__"))) (htk:PySem.W.takesIn K (.builtin "object.__class__")=some true)
   (hm:PySem.W.mroIn K C (.type "object")=some true):TyOf K H (.ref a) (.ref C)
theorem isinst_ok(I:Inv X Yk σ H s)(rx:RelV x u)(ty:TyOf X.K H x t)(e:PySem.W.kitOne X.K t c=some b)(h:∀ tk,Q (.bool b) { s with toks:=tk }):
  wpAny (model X.prog X.w) A (call (.builtin "isinstance") [u,c]) Q E s:=by
 cases ty with
 |non=>cases (show u=Value.none from rx);exact Vu PySem.W.kitx_none I.kIn True.intro e (λz=>nomatch z) h
 |bl y=>cases (show u=Value.bool y from rx);exact Vu PySem.W.kitx_bool I.kIn True.intro e (λz=>nomatch z) h
 |int i=>obtain⟨t,q⟩:=(show ∃t,u=Value.int i t from rx);cases q;exact Vu PySem.W.kitx_int I.kIn True.intro e (λz=>nomatch z) h
 |str y=>obtain⟨t,q⟩:=(show ∃t,u=Value.str y t from rx);cases q;exact Vu PySem.W.kitx_str I.kIn True.intro e (λz=>nomatch z) h
 |flt y=>obtain⟨t,q⟩:=(show ∃t,u=Value.float y t from rx);cases q;exact Vu PySem.W.kitx_float I.kIn True.intro e (λz=>nomatch z) h
 | @lst a xs ea=>
   cases (show u=Value.ref a from rx)
   obtain⟨_,_,n,_,h1⟩:=(show ObjOk X.prog X.w H s.heap a (.lst xs) from I.hok a _ ea)
   exact Vu PySem.W.kitx_list I.kIn ⟨_,h1,rfl⟩ e (λz=>nomatch z) h
 | @frz a ob xs ea=>
   cases (show u=Value.ref a from rx)
   obtain⟨_,_,_,n,_,h1⟩:=(show ObjOk X.prog X.w H s.heap a (.frz ob (.lst xs)) from I.hok a _ ea)
   exact Vu PySem.W.kitx_list I.kIn ⟨_,h1,rfl⟩ e (λz=>nomatch z) h
 | @tup a xs ea=>
   cases (show u=Value.ref a from rx)
   obtain⟨_,_,_,p⟩:=(show ObjOk X.prog X.w H s.heap a (.tup xs) from I.hok a _ ea)
   obtain⟨o,h1,h2,_⟩:=p;exact Vu PySem.W.kitx_tuple I.kIn ⟨o,h1,h2⟩ e (λz=>nomatch z) h
 | @dK a kvs ea=>
   cases (show u=Value.ref a from rx)
   obtain⟨_,_,vs,_,p⟩:=(show ObjOk X.prog X.w H s.heap a (.dK kvs) from I.hok a _ ea)
   obtain⟨o,es,ep,h1,h2,_⟩:=p;exact Vu PySem.W.kitx_dict I.kIn ⟨o,h1,h2.1⟩ e (λz=>nomatch z) h
 | @dT a kvs ea=>
   cases (show u=Value.ref a from rx)
   obtain⟨_,_,xs,_,o,es,ep,h1,h2,_⟩:=(show ObjOk X.prog X.w H s.heap a (.dT kvs) from I.hok a _ ea)
   exact Vu PySem.W.kitx_dict I.kIn ⟨o,h1,h2.1⟩ e (λz=>nomatch z) h
 | @ins a C dx fs ea cl ha hn htk hm=>
   cases (show u=Value.ref a from rx)
   obtain⟨mA,O,_⟩:=ins_get I.hok ea;obtain⟨od,J,_⟩:=O.look;exact Vu (PySem.W.kitx_own (cl.get _) cl.hd ha hn htk hm) I.kIn J e (λz=>nomatch z) h
end
open PySem PySem.Spec PyProof.Rows
structure Room(k:Nat)(A:Around):Prop where
 hd:A.handled=none
 dp:A.depth+3*k+5<recursionLimit
 un:A.units+16*k+200<cLine
 gd:A.guards=some []
theorem Room.mono(r:Room k A)(h:j<=k):Room j A:=⟨r.hd,by have:=r.dp;lia,by have:=r.un;lia,r.gd⟩
theorem Room.deeper(r:Room (k+1) A)(env:Env):Room k (A.deeper env):=
 ⟨r.hd,by have:=r.dp;show A.depth+1+3*k+5<_;lia,by have:=r.un;show A.units+3+16*k+200<_;lia,r.gd⟩
theorem Room.in1(r:Room (k+1) A):Room k A.in1:=
 ⟨r.hd,by have:=r.dp;show A.depth+3*k+5<_;lia,by have:=r.un;show A.units+1+16*k+200<_;lia,r.gd⟩
theorem make_depth{A:Around}{C:Addr}{us:List Value}{kw:List (Str×Value)}:(A.under (.builtin "type.__call__" ⟨.ref C::us,kw⟩)).depth=A.depth+1:=by
 first | rfl | simp[Around.under,Code.weight,Code.isCreation,Code.isGuard,Code.isCaller,Code.frames,Code.isFrame,guardIds]
theorem make_units{A:Around}{C:Addr}{us:List Value}{kw:List (Str×Value)}:(A.under (.builtin "type.__call__" ⟨.ref C::us,kw⟩)).units=A.units+1:=by
 first | rfl | simp[Around.under,Code.cUnits,Code.frames,Code.isFrame]
theorem Ag{A:Around}{C:Addr}{us:List Value}{kw:List (Str×Value)}:(A.under (.builtin "type.__call__" ⟨.ref C::us,kw⟩)).guards=A.guards:=by simp[Around.under,Code.guards,Code.isGuard,guardIds,pushGuards]
theorem Room.make(r:Room (k+1) A)(C:Addr)(us:List Value)(kw:List (Str×Value)):Room k (A.under (.builtin "type.__call__" ⟨.ref C::us,kw⟩)):=
 ⟨r.hd,by have:=r.dp;rw[make_depth];lia,by have:=r.un;rw[make_units];lia,by first | (rw[Ag];exact r.gd) | exact r.gd⟩
theorem Room.depth(r:Room k A):A.depth<recursionLimit:=by have:=r.dp;lia
theorem Room.units(r:Room k A):A.units+64<cLine:=by have:=r.un;lia
noncomputable def tNil:TA:=λz H Q=>Q [] H
noncomputable def tCons(ta:TE)(tr:TA):TA:=λσ H Q=>ta σ H λx H1=>tr σ H1 λxs H2=>Q (x::xs) H2
section
variable{X:Cx}{e:Expr}{es:List Expr}{te:TE}{t:TA}{pos:Pos}
theorem pa_nil:PA X [] tNil:=λz z z z H Q I h=>We ⟨[],H,I,.nil,h⟩
theorem pa_cons(ha:PE X e te)(hr:PA X es t)(hs:autoParam (starEach (e::es) X.env=(false,eval e X.env)::starEach es X.env) qAA):PA X (e::es) (tCons te t):=by
 intro pos Yk s σ H Q I h;rw[hs];show wpAny _ _ (spliced ((false,eval e X.env)::backTo pos (starEach es X.env))) _ _ s;refine V9 (thn (ha Yk s σ H _ I h) λu s1 ⟨x,H1,I1,r1,q1⟩=>?_)
 exact thn (hr pos Yk s1 σ H1 _ I1 q1) λus s2 ⟨xs,H2,I2,r2,q2⟩=>⟨x::xs,H2,I2,.cons r1 r2,q2⟩
noncomputable def tTup(t:TA):TE:=λσ H Q=>t σ H λxs H1=>xs.length<=sizeLine/\∀p,H1 p=none->Q (.ref p) (upd H1 p (.tup xs))
noncomputable def tLst(t:TA):TE:=λσ H Q=>t σ H λxs H1=>xs.length<=sizeLine/\∀p,H1 p=none->Q (.ref p) (upd H1 p (.lst xs))
theorem pe_tup{x1}(h:PA X es t):PE X (.Tuple es x1 pos) (tTup t):=by
 intro Yk s σ H Q I hq;refine wpAny_Tuple_spliced (thn (h pos Yk s σ H _ I hq) λus s1 ⟨xs,H1,I1,r,z,q⟩=>⟨by rw[<-r.length];exact z,?_⟩)
 have hf:H1 s1.heap.objs.size=none:=I1.hok.fresh (Tq _);refine⟨.ref s1.heap.objs.size,upd H1 s1.heap.objs.size (.tup xs),I1.laid (t':=s1.toks) (λb u e=>Tf _ e) (Tq _) ?_,rfl,q _ hf⟩
 exact⟨z,us,r,⟨_,Tu _ rfl,rfl,_,rfl⟩⟩
theorem pe_lst(h:PA X es t):PE X (.List es pos) (tLst t):=by
 intro Yk s σ H Q I hq;refine wpAny_List_spliced (thn (h pos Yk s σ H _ I hq) λus s1 ⟨xs,H1,I1,r,z,q⟩=>⟨by rw[<-r.length];exact z,?_⟩)
 have hf:H1 s1.heap.objs.size=none:=I1.hok.fresh (Tq _);refine⟨.ref s1.heap.objs.size,upd H1 s1.heap.objs.size (.lst xs),I1.laid (t':=s1.toks) (λb u e=>Tf _ e) (Tq _) ?_,rfl,q _ hf⟩
 exact⟨z,us,0,r,Tu _ rfl⟩
end
noncomputable abbrev Sp:=List V->Hp->VK->XK->Prop
noncomputable abbrev CXT:=List Env->Hp->Shared->XK->Value->Shared->Prop
structure Env0(P:Program)(w:World)(K:PySem.W.Frag)(mg:Str->Option Value)(base:Heap)(A:Around)(outer:List Env)(s:Shared)(H:Hp):Prop where
 frames:A.frames=some outer
 mod:Mod K mg base
 bs:∀b o,base.get? b=some o->s.heap.get? b=some o/\H b=none
 bsz:base.objs.size<=s.heap.objs.size
 funs:s.heap.FunFrames base outer
 frf:∀b∈frs outer,H b=none
 hok:HOk P w H s.heap
 bare:AllBare s.gens
noncomputable def CE(outer:List Env)(P:Program)(w:World)(H:Hp)(s:Shared)(Q:VK)(u:Value)(s':Shared):Prop:=
 ∃v H',s'.os=s.os/\AllBare s'.gens/\Un (frs outer) [] H H' s.heap s'.heap/\HOk P w H' s'.heap/\RelV v u/\Q v H'
noncomputable def CR(CX:CXT)(outer:List Env)(P:Program)(w:World)(H:Hp)(s:Shared)(Q:VK)(E:XK)(r:Result)(s':Shared):Prop:=
 match r with
 |.ok (.ret u)=>CE outer P w H s Q u s'
 |.ok _=>False
 |.error e=>CX outer H s E e s'
structure FnOk(P:Program)(w:World)(K:PySem.W.Frag)(mg:Str->Option Value)(base:Heap)(CX:CXT)(k:Nat)(f:Addr)(fd:FuncData)(ps:List Str)(sp:Sp):Prop where
 len:∀vs H Q E,sp vs H Q E->vs.length=ps.length
 run:∀(A:Around) (outer:List Env) (s:Shared) (H:Hp) (args:Args) (us:List Value) (vs:List V) (Q:VK) (E:XK),Room k A->Env0 P w K mg base A outer s H->BindsTo s fd args (ps.zip us)->Vals vs us->sp vs H Q E->
  codeAny (model P w) A (.call (.ref f) args) (CR CX outer P w H s Q E) s
theorem FnOk.mono{P:Program}{w:World}{K:PySem.W.Frag}{mg:Str->Option Value}{base:Heap}{CX:CXT}{j k:Nat}{f:Addr}{fd:FuncData}{ps:List Str}{sp:Sp}(F:FnOk P w K mg base CX j f fd ps sp)(h:j<=k):
  FnOk P w K mg base CX k f fd ps sp:=⟨F.len,λA outer s H args us vs Q E hr=>F.run A outer s H args us vs Q E (hr.mono h)⟩
theorem FnOk.imp{P:Program}{w:World}{K:PySem.W.Frag}{mg:Str->Option Value}{base:Heap}{CX:CXT}{k:Nat}{f:Addr}{fd:FuncData}{ps:List Str}{sp sp':Sp}(F:FnOk P w K mg base CX k f fd ps sp)
  (h:∀vs H Q E,sp' vs H Q E->sp vs H Q E):FnOk P w K mg base CX k f fd ps sp':=
 ⟨λvs H Q E q=>F.len vs H Q E (h _ _ _ _ q),λA outer s H args us vs Q E hr he hb hv hs=>F.run A outer s H args us vs Q E hr he hb hv (h _ _ _ _ hs)⟩
theorem Env0.make{P:Program}{w:World}{K:PySem.W.Frag}{mg:Str->Option Value}{base:Heap}{A:Around}{outer:List Env}{s:Shared}{H:Hp}(e:Env0 P w K mg base A outer s H)(C:Addr)(us:List Value)(kw:List (Str×Value)):
  Env0 P w K mg base (A.under (.builtin "type.__call__" ⟨.ref C::us,kw⟩)) outer s H:=⟨by first | exact e.frames | (simpa[Around.under,Code.envs,Code.isFrame,pushEnvs] using e.frames),e.mod,e.bs,e.bsz,e.funs,e.frf,e.hok,e.bare⟩
section
variable{X:Cx}{Yk:List (Addr×Obj)}{σ:St}{H:Hp}{s s':Shared}
theorem Inv.env0(I:Inv X Yk σ H s):Env0 X.prog X.w X.K X.mg X.base X.A X.stack s H:=
 ⟨I.ok.frames,I.ok.mod,I.bs,Ue I.ok.bsz I.sz,I.stack,I.stkFree,I.hok,I.bare⟩
theorem Inv.after(I:Inv X Yk σ H s)(h:CE X.stack X.prog X.w H s Q u s'):EP X Yk σ Q u s':=by obtain⟨v,H',os,bare,un,hok,r,q⟩:=h;obtain⟨hh,g,d,t,os'⟩:=s';obtain rfl:os'=s.os:=os;exact⟨v,H',I.call (h':=hh) (g':=g) (d':=d) (t':=t) (ch:=[]) un hok bare (λb z=>absurd z (by simp)),r,q⟩
end
noncomputable def tCall(sp:Sp)(dvs:List V)(E:XK)(t:TA):TE:=λσ H Q=>t σ H λvs H1=>sp (vs++dvs) H1 Q E
noncomputable def tMake(C:Addr)(sp:Sp)(dvs:List V)(E:XK)(t:TA):TE:=λσ H Q=>t σ H λvs H1=>∀x dx,H1 x=none->H1 dx=none->dx≠x->
 sp (.ref x::(vs++dvs)) (upd (upd H1 dx (.own x)) x (.ins C dx [])) (λv H2=>v=.non/\Q (.ref x) H2) E
noncomputable def Binds(K:PySem.W.Frag)(fd:FuncData)(ps:List Str)(ds:List Value):Prop:=
 ∀(s:Shared) (us:List Value),K.In s.heap->(us++ds).length=ps.length->BindsTo s fd ⟨us,[]⟩ (ps.zip (us++ds))
theorem Binds.all{K:PySem.W.Frag}{fd:FuncData}{ps:List Str}(h:∀us:List Value,us.length=ps.length->bindArgs fd ⟨us,[]⟩=pure (ps.zip us)):Binds K fd ps []:=λs us z hl=>by
 rw[Wr]at hl ⊢
 exact .of_eq (h us hl)
noncomputable def Passes(CX:CXT)(X:Cx)(E:XK):Prop:=∀(Yk:List (Addr×Obj)) (σ:St) (H:Hp) (s:Shared) (e:Value) (s':Shared),Inv X Yk σ H s->CX X.stack H s E e s'->X.xe e s'
section
variable{X:Cx}{CX:CXT}{k:Nat}{f C:Addr}{fd:FuncData}{ps:List Str}{sp:Sp}{dvs:List V}{ds:List Value}{E:XK}{x m:Str}{p pos apos:Pos}{e o:Expr}{es:List Expr}{ta:TE}{t:TA}
theorem run_fn(F:FnOk X.prog X.w X.K X.mg X.base CX k f fd ps sp)(hr:Room k X.A)(hb:Binds X.K fd ps ds)(hd:Vals dvs ds)(hx:Passes CX X E)
  (I:Inv X Yk σ H s) (r:Vals vs us) (h:sp (vs++dvs) H Q E):wpAny (model X.prog X.w) X.A (call (.ref f) us) (EP X Yk σ Q) X.xe s:=by
 have r2:Vals (vs++dvs) (us++ds):=r.append hd;have hl:(us++ds).length=ps.length:=by rw[<-r2.length];exact F.len _ _ _ _ h
 refine Yi (Vw (F.run X.A X.stack s H ⟨us,[]⟩ (us++ds) (vs++dvs) Q E hr I.env0 (hb s us I.kIn hl) r2 h) λr s' hq=>?_)
 cases r with
 |error e=>exact hx Yk σ H s e s' I hq
 |ok fl=>
   cases fl with
   |ret u=>exact I.after hq
   |next=>exact False.elim hq
   |brk=>exact False.elim hq
   |cont=>exact False.elim hq
theorem pe_call(F:FnOk X.prog X.w X.K X.mg X.base CX k f fd ps sp)(hr:Room k X.A)(hg:Gl X x)(hm:X.mg x=some (.ref f))(hk:PySem.W.keepIn X.K (.ref f)=true)(hb:Binds X.K fd ps ds)(hd:Vals dvs ds)(hx:Passes CX X E)
  (ha:PA X (e::es) t) (hdb:autoParam ((x==("__debug__":Str))=false) qAB) (he:autoParam (starEach (e::es) X.env=(false,eval e X.env)::starEach es X.env) qAA) (hpl:autoParam ((backTo pos (starEach es X.env)).any (·.1)=false) qAA) :
  PE X (.Call (.Name x p) (e::es) [] pos) (tCall sp dvs E t):=by
 intro Yk s σ H Q I h;refine Xi (ld_glob I hg hm ?_ hdb);refine PySem.W.callWith_K (h₀:=X.base) I.ok.mod.kin hk (thn (ha pos Yk s σ H _ I h) λus s1 ⟨vs,H1,I1,r,q⟩=>⟨I1.kIn,?_⟩) he hpl
 exact run_fn F hr hb hd hx I1 r q
structure Mk(K:PySem.W.Frag)(C f:Addr):Prop where
 makes:PySem.W.makesIn K C=true
 init:PySem.W.findIn K (.ref C) "__init__"=some (some (.ref f))
 fn:PySem.W.isFn K (.ref f)=true
 kp:PySem.W.keepIn K (.ref C)=true
theorem run_make(M:Mk X.K C f)(F:FnOk X.prog X.w X.K X.mg X.base CX k f fd ps sp)(hr:Room (k + 1) X.A)(hb:Binds X.K fd ps ds)(hd:Vals dvs ds)
  (hx:Passes CX X E) (I:Inv X Yk σ H s) (r:Vals vs us)
  (h:∀x dx,H x=none->H dx=none->dx≠x->sp (.ref x::(vs++dvs)) (upd (upd H dx (.own x)) x (.ins C dx [])) (λv H2=>v=.non/\Q (.ref x) H2) E) :
  wpAny (model X.prog X.w) X.A (call (.ref C) us) (EP X Yk σ Q) X.xe s:=by
 have hq:=h (s.heap.objs.size+1) s.heap.objs.size (I.hok.fresh (Nat.le_succ _)) (I.hok.fresh (Tq _)) (TF (Vi _));have I2:=Inv.made (C:=C) I;have r2:Vals (V.ref (s.heap.objs.size+1)::(vs++dvs)) (Value.ref (s.heap.objs.size+1)::(us++ds)):=.cons rfl (r.append hd);have hl:(Value.ref (s.heap.objs.size+1)::us++ds).length=ps.length:=by have e:=r2.length;rw[F.len _ _ _ _ hq]at e;exact e.symm
 refine Yi (make_map (f:=f) I.kIn M.makes M.init (Yc.mp M.fn) (Vw (F.run _ X.stack _ _ ⟨Value.ref (s.heap.objs.size+1)::us,[]⟩ (Value.ref (s.heap.objs.size+1)::(us++ds)) _ _ E (hr.make C us [])
  (I2.env0.make C us []) (hb _ (Value.ref (s.heap.objs.size+1)::us) I2.kIn hl) r2 hq) λr s' hq'=>?_))
 cases r with
 |error e=>exact hx Yk σ _ _ e s' I2 hq'
 | ok fl=>
   cases fl with
   |ret u=>obtain⟨v,H',I3,rv,ev,q3⟩:=I2.after hq';subst ev;exact⟨rv,⟨V.ref (s.heap.objs.size+1),H',I3,rfl,q3⟩⟩
   |next=>exact False.elim hq'
   |brk=>exact False.elim hq'
   |cont=>exact False.elim hq'
theorem pe_make(M:Mk X.K C f)(F:FnOk X.prog X.w X.K X.mg X.base CX k f fd ps sp)(hr:Room (k+1) X.A)(hg:Gl X x)(hm:X.mg x=some (.ref C))(hb:Binds X.K fd ps ds)(hd:Vals dvs ds)(hx:Passes CX X E)
  (ha:PA X (e::es) t) (hdb:autoParam ((x==("__debug__":Str))=false) qAB) (he:autoParam (starEach (e::es) X.env=(false,eval e X.env)::starEach es X.env) qAA) (hpl:autoParam ((backTo pos (starEach es X.env)).any (·.1)=false) qAA) :
  PE X (.Call (.Name x p) (e::es) [] pos) (tMake C sp dvs E t):=by
 intro Yk s σ H Q I h;refine Xi (ld_glob I hg hm ?_ hdb);refine PySem.W.callWith_K (h₀:=X.base) I.ok.mod.kin M.kp (thn (ha pos Yk s σ H _ I h) λus s1 ⟨vs,H1,I1,r,q⟩=>⟨I1.kIn,?_⟩) he hpl
 exact run_make M F hr hb hd hx I1 r q
end
structure FnScope(N P:List Str)(sc:Scope):Prop where
 kind:sc.kind=.function
 co:sc.isCoroutine=false
 gen:sc.isGenerator=false
 nd:N.Nodup
 pre:N.take P.length=P
 par:∀x∈P,sc.names.lookup x=some .local\/sc.names.lookup x=some .cell
 nofree:∀y∈sc.names,y.2≠.free
theorem bindL_out{kindOf:Str->Option NameKind}:∀ {binds:List (Str×Value)}{m:Str->Option Value},(∀ v,(x,v)∉binds)->bindL kindOf binds m x=m x
 |[],_,_=>rfl
 | (n,v)::r,m,h=>by
   unfold bindL;rw[bindL_out λw hw=>h w (Ui _ hw)]
   split
   ·have:x≠n:=by rintro rfl;exact h v T6
    simp[this]
   ·rfl
theorem bindC_out{kindOf:Str->Option NameKind}:∀ {binds:List (Str×Value)}{m:Str->Option Value},(∀ v,(x,v)∉binds)->bindC kindOf binds m x=m x
 |[],_,_=>rfl
 | (n,v)::r,m,h=>by
   unfold bindC;rw[bindC_out λw hw=>h w (Ui _ hw)]
   split
   ·rfl
   ·have:x≠n:=by rintro rfl;exact h v T6
    simp[this]
theorem bindL_get{kindOf:Str->Option NameKind}:∀ {P:List Str}{vs:List Value}{i:Nat}{m:Str->Option Value},P.Nodup->P[i]?=some x->vs[i]?=some v->kindOf x=some .local->
  bindL kindOf (P.zip vs) m x=some v
 |[],_,_,_,_,h,_,_=>by simp at h
 |_::_,[],_,_,_,_,h,_=>by simp at h
 |p::P,w::vs,0,m,nd,h1,h2,hk=>by
   simp at h1 h2;subst h1;subst h2;show bindL kindOf ((p,w)::P.zip vs) m p=_;unfold bindL;rw[bindL_out λv hv=>(X5.mp nd).1 (Wo hv).1,Tv hk]
   simp
 |p::P,w::vs,i+1,m,nd,h1,h2,hk=>by show bindL kindOf ((p,w)::P.zip vs) m x=_;unfold bindL;exact bindL_get (i:=i) (X5.mp nd).2 (by simpa using h1) (by simpa using h2) hk
theorem bindC_get{kindOf:Str->Option NameKind}:∀ {P:List Str}{vs:List Value}{i:Nat}{m:Str->Option Value},P.Nodup->P[i]?=some x->vs[i]?=some v->kindOf x≠some .local->
  bindC kindOf (P.zip vs) m x=some v
 |[],_,_,_,_,h,_,_=>by simp at h
 |_::_,[],_,_,_,_,h,_=>by simp at h
 |p::P,w::vs,0,m,nd,h1,h2,hk=>by
   simp at h1 h2;subst h1;subst h2;show bindC kindOf ((p,w)::P.zip vs) m p=_;unfold bindC;rw[bindC_out λv hv=>(X5.mp nd).1 (Wo hv).1,Tw hk]
   simp
 |p::P,w::vs,i+1,m,nd,h1,h2,hk=>by show bindC kindOf ((p,w)::P.zip vs) m x=_;unfold bindC;exact bindC_get (i:=i) (X5.mp nd).2 (by simpa using h1) (by simpa using h2) hk
noncomputable def start(N:List Str)(vs:List V):St:=vs.map some++List.replicate (N.length-vs.length) none
noncomputable def cxOf(CX:CXT)(P:Program)(w:World)(K:PySem.W.Frag)(mg:Str->Option Value)(base:Heap)(N:List Str)(qual:Str)(scope:Scope)(f:Addr)(cd:Value)(A:Around)(outer:List Env)(s:Shared)(H:Hp)(E:XK):Cx where
 prog:=P
 w:=w
 K:=K
 mg:=mg
 base:=base
 A:=A.deeper (envOfC qual scope s.heap.objs.size f cd)
 N:=N
 s₀:=s
 H₀:=H
 env:=envOfC qual scope s.heap.objs.size f cd
 outer:=outer
 stack:=envOfC qual scope s.heap.objs.size f cd::outer
 ex:=[]
 calm:=true
 fn:=λz=>true
 pn:=[]
 xe:=λe s'=>wpAny (model P w) (A.deeper (envOfC qual scope s.heap.objs.size f cd)) (leaving (envOfC qual scope s.heap.objs.size f cd) e) (λz s''=>CX outer H s E e s'') (λe' s''=>CX outer H s E e' s'') s'
theorem cell_has{sc:Scope}{n:Nat}{x:Str}(h:sc.names.lookup x=some .cell):∃c,(cellsFrom n sc.names []).lookup x=some c:=by have q:=PySem.W.cellsFrom_some sc.names n [] (.inl h);exact Xk.mp q
theorem inv_start{CX:CXT}{P:Program}{w:World}{K:PySem.W.Frag}{mg:Str->Option Value}{base:Heap}{N ps:List Str}{qual:Str}{scope:Scope}{f:Addr}{cd:Value}{A:Around}{outer:List Env}{s s1:Shared}{H:Hp}{E:XK}{us:List Value}{vs:List V}
  (S:FnScope N ps scope) (hd:A.handled=none) (e0:Env0 P w K mg base A outer s H) (hl:vs.length=ps.length) (r:Vals vs us)
  (x:InCallC s s.heap.objs.size (bindL (envOfC qual scope s.heap.objs.size f cd).kindOf (ps.zip us) λt=>none) (cellsFrom (s.heap.objs.size+1) scope.names []) (bindC (envOfC qual scope s.heap.objs.size f cd).kindOf (ps.zip us) λt=>none) s1) :
  Inv (cxOf CX P w K mg base N qual scope f cd A outer s H E) [] (start N vs) H s1:=by
 have hpl:ps.length<=N.length:=by have:=congrArg List.length S.pre;rw[VG]at this;lia
 obtain⟨h1,tk,rfl,hk⟩:=x.done;have noA:∀b:Addr,b∉(cxOf CX P w K mg base N qual scope f cd A outer s H E).ex:=λb z=>absurd (show b∈([]:List Addr) from z) (by simp)
 refine⟨⟨e0.mod,S.kind,rfl,rfl,Tq _,λy z c h1 h2=>?_,λy hy=>?_,λy c t h=>?_,λt=>hd,Around.frames_deeper e0.frames,.inr ⟨rfl,rfl⟩,λb z=>absurd z (noA b),e0.bs,e0.bsz,λb t t=>noA b,λb z=>absurd z (noA b),e0.funs,e0.frf⟩,
  rfl,e0.bare,Un.kept hk,⟨_,x.toInCall.ns,λi y v h1 h2 h3=>?_⟩,λy c h=>⟨_,x.cell y c h⟩,e0.hok.fresh (Tq _),λy c h=>?_,λp hp=>absurd (show p∈([]:List (Addr×Obj)) from hp) (by simp),e0.hok.kept hk,?_⟩
 ·exact name_of_addr x.apart (Vj h1) (Vj h2)
 ·have hy:scope.names.lookup y=some .cell\/scope.names.lookup y=some .free:=hy;rcases hy with hy | hy
  ·exact cell_has hy
  ·exact absurd rfl (S.nofree _ (Vj hy))
 ·exact V6 (x.above y c (Vj h))
 ·have hi:i<vs.length:=by
   unfold start at h2;by_cases hi:i<vs.length
   ·exact hi
   ·rw[U7 (by simpa using hi)]at h2
    rw[WD]at h2;split at h2<;>cases h2
  have ha:vs[i]?=some v:=by
   unfold start at h2;rw[T5 (by simpa using hi),T8]at h2
   cases e:vs[i]? with
   |none=>rw[e]at h2;cases h2
   |some a=>rw[e]at h2;cases h2;rfl
  obtain⟨u,hu,rv⟩:=r.get ha;have hp:ps[i]?=some y:=by rw[<-S.pre,List.getElem?_take_of_lt (by lia)];exact h1
  have ndP:ps.Nodup:=by rw[<-S.pre];exact S.nd.sublist (List.take_sublist _ _)
  refine⟨u,rv,?_⟩;rcases S.par y (T9 hp) with k | k
  ·exact .inl ⟨k,bindL_get ndP hp hu k⟩
  ·obtain⟨c,e⟩:=cell_has (n:=s.heap.objs.size+1) k;refine .inr ⟨.inl k,c,e,?_⟩;have q:=x.cell y c e;rw[bindC_get ndP hp hu (by show scope.names.lookup y≠_;rw[k];decide)]at q
   exact q
 ·exact e0.hok.fresh (V6 (x.above y c (Vj h)))
 ·unfold start;show _=N.length;rw[T3,Tz,Vt]
  lia
theorem fn_of{CX:CXT}{P:Program}{w:World}{K:PySem.W.Frag}{mg:Str->Option Value}{base:Heap}{k:Nat}{f:Addr}{name qual:Str}{params:Arguments}{body:List Stmt}{scope:Scope}{dV kV doc pm cdv ct oc:Value}{an od:Option Addr}
  {osl:Array (Option Value)}{N ps:List Str}{sp:Sp} (lk:K.lookup f=some ⟨oc,od,.func (PySem.W.fnOf name qual params body scope dV kV doc pm an cdv ct),osl⟩) (hcd:PySem.W.codeIn K cdv qual=true) (S:FnScope N ps scope)
  (len:∀vs H Q E,sp vs H Q E->vs.length=ps.length)
  (hbody:∀(A:Around) (outer:List Env) (s:Shared) (H:Hp) (vs:List V) (Q:VK) (E:XK),Room k (A.deeper (envOfC qual scope s.heap.objs.size f cdv))->sp vs H Q E->
    ∃t,PSs (cxOf CX P w K mg base N qual scope f cdv A outer s H E) body t/\t { nx:=λz H'=>Q .non H',rt:=Q } (start N vs) H) :
  FnOk P w K mg base CX (k+1) f (PySem.W.fnOf name qual params body scope dV kV doc pm an cdv ct) ps sp:=by
 refine⟨len,λA outer s H args us vs Q E hr e0 hb r hsp=>?_⟩
 have hl:=len _ _ _ _ hsp;have KX:K.In s.heap:=e0.mod.kin.keeps λb o e=>(e0.bs b o e).1
 have lim:s.heap.NoLimit:=e0.mod.nolimit.keeps λb o e=>(e0.bs b o e).1
 have hkind:∀y∈ps.zip us,scope.names.lookup y.1=some .local\/(scope.names.lookup y.1=some .cell/\((cellsFrom (s.heap.objs.size+1) scope.names []).lookup y.1).isSome=true):=λ⟨n,v⟩ hy=>by
  rcases S.par n (Wo hy).1 with q | q
  ·exact .inl q
  ·exact .inr ⟨q,PySem.W.cellsFrom_some _ _ _ (.inl q)⟩
 refine codeAny_call_function hr.depth (KX _ _ lk) rfl S.co S.gen rfl (PySem.W.codeRec_of KX hcd) (hb _ _ _ _ ?_);refine wpAny_newFunctionEnv_cells S.kind hkind λenv he s1 x=>?_
 subst he;refine⟨lim.keeps x.toInCall.keep,codeAny_func ?_⟩;obtain⟨t,ht,hq⟩:=hbody A outer s H vs Q E (hr.deeper _) hsp;have I:Inv (cxOf CX P w K mg base N qual scope f cdv A outer s H E) [] (start N vs) H s1:=inv_start S hr.hd e0 hl r x;refine Um (ht [] s1 (start N vs) H _ I hq) (λfl s' hs=>?_) λe s' hs=>hs
 have fin:∀{σ':St}{H':Hp}{v:V}{u:Value},Inv (cxOf CX P w K mg base N qual scope f cdv A outer s H E) [] σ' H' s'->RelV v u->Q v H'->CE outer P w H s Q u s':=
  λ{σ' H' v u} J rv q=>⟨v,H',J.os,J.bare,J.base,J.hok,rv,q⟩
 cases fl with
 |ret u=>obtain⟨v,σ',H',J,rv,q⟩:=hs;exact fin J rv q
 |next=>obtain⟨σ',H',J,q⟩:=hs;exact fin (v:=V.non) (u:=Value.none) J rfl q
 |brk=>obtain⟨_,_,_,q⟩:=hs;exact False.elim q
 |cont=>obtain⟨_,_,_,q⟩:=hs;exact False.elim q
open PySem PySem.Spec PyProof.Rows
section
variable{X:Cx}{x:Str}{p pos:Pos}{e:Expr}{es:List Expr}{t:TA}{id T:String}{r:List V->Hp->VK->Prop}
noncomputable def tCB(r:List V->Hp->VK->Prop)(t:TA):TE:=λσ H Q=>t σ H λvs H1=>r vs H1 Q
theorem pe_callB(hc:CallR X (.builtin id) r)(hg:Gl X x)(hm:X.mg x=none)(hv:bootBuiltins x=some (.builtin id))(ha:PA X (e::es) t)(hn:autoParam (x≠"__name__") qAB)(hdb:autoParam ((x==("__debug__":Str))=false) qAB)
  (he:autoParam (starEach (e::es) X.env=(false,eval e X.env)::starEach es X.env) qAA) (hpl:autoParam ((backTo pos (starEach es X.env)).any (·.1)=false) qAA):PE X (.Call (.Name x p) (e::es) [] pos) (tCB r t):=by
 intro Yk s σ H Q I h;refine Xi (ld_blt I hg hm hv ?_ hn hdb);exact VD (thn (ha pos Yk s σ H _ I h) λus s1 ⟨vs,H1,I1,r1,q1⟩=>hc Yk s1 σ H1 vs us Q I1 r1 q1) he hpl
theorem pe_callTy(hc:CallR X (.type T) r)(hg:Gl X x)(hm:X.mg x=none)(hv:bootBuiltins x=some (.type T))(ha:PA X (e::es) t)(hn:autoParam (x≠"__name__") qAB)(hdb:autoParam ((x==("__debug__":Str))=false) qAB)
  (he:autoParam (starEach (e::es) X.env=(false,eval e X.env)::starEach es X.env) qAA) (hpl:autoParam ((backTo pos (starEach es X.env)).any (·.1)=false) qAA):PE X (.Call (.Name x p) (e::es) [] pos) (tCB r t):=by
 intro Yk s σ H Q I h;refine Xi (ld_blt I hg hm hv ?_ hn hdb);exact Uj (thn (ha pos Yk s σ H _ I h) λus s1 ⟨vs,H1,I1,r1,q1⟩=>hc Yk s1 σ H1 vs us Q I1 r1 q1) he hpl
end
end L2
namespace HT
open PySem PyProof.Rows
section
open PySem.SeqAt
open PySem.AutoSeq1 (wpAny_loadPart')
open PySem.MeetsSeq PySem.MeetsSeq2 PySem.MeetsSeq3
end
section
variable{prog:Program}{w:World}{A:Around}{E:Value->Shared->Prop}{s:Shared}
theorem cat_tup(ht:IsTup s.heap t vs.toArray)(hb:IsTup s.heap b ws.toArray)(hv:vs≠[])
  (h1:ws=[]->Q (.ref t) s) (h2:ws≠[]->Q (.ref s.heap.objs.size) { s with heap:=s.heap.push { cls:=.type "tuple",data:=.seq (vs++ws).toArray } })
  (hsz:vs.length+ws.length<=sizeLine):wpAny (model prog w) A (binaryOp .Add (.ref t) (.ref b)) Q E s:=by
 obtain⟨⟨cls,dd,data,sl⟩,ho,hc,n,hd⟩:=id ht;obtain⟨⟨cls2,dd2,data2,sl2⟩,ho2,hc2,n2,hd2⟩:=id hb;simp only at hc hd hc2 hd2;subst hc hd hc2 hd2;have e:vs.toArray++ws.toArray=(vs++ws).toArray:=by simp
 by_cases hw:ws=[]
 ·exact concat_meets ⟨_,ho,rfl⟩ ⟨_,ho2,rfl⟩ noFill_tuple_add seq_tuple_add XD Xr (Xj _ _)
   (tuple_addW1 t b vs.toArray ws.toArray n n2 dd dd2 sl sl2 (by simpa using hv) (by simp[hw])) ⟨ho,ho2,h1 hw⟩
 ·refine concat_meets ⟨_,ho,rfl⟩ ⟨_,ho2,rfl⟩ noFill_tuple_add seq_tuple_add XD Xr (Xj _ _)
   (tuple_addW2 t b vs.toArray ws.toArray n n2 dd dd2 sl sl2 (by simpa using hv) (by simpa using hw) (by rw[TX,TX];exact hsz)) ⟨ho,ho2,?_⟩
  rw[e];exact h2 hw
noncomputable def sIx(n d:Nat):Option Int->Nat
 |none=>d
 |some v=>if v<0 then (v+(n:Int)).toNat else min v.toNat n
theorem sIx_none(n d:Nat):sIx n d none=d:=rfl
theorem sIx_nat(n d k:Nat):sIx n d (some (k:Int))=min k n:=by
 show (if (k:Int)<0 then ((k:Int)+(n:Int)).toNat else min (k:Int).toNat n)=min k n
 rw[Tw (by lia),Vq]
theorem sIx_le(n d:Nat)(hd:d<=n)(o:Option Int):sIx n d o<=n:=by
 cases o with
 |none=>exact hd
 |some v=>
   show (if v<0 then (v+(n:Int)).toNat else min v.toNat n)<=n
   by_cases hv:v<0
   ·rw[Tv hv];lia
   ·rw[Tw hv];exact Nat.min_le_right _ _
theorem clip_eq(v:Int)(n d:Nat):(if v<0 then max (v+(n:Int)) 0 else min v (n:Int))=((sIx n d (some v):Nat):Int):=by
 show (if v<0 then max (v+(n:Int)) 0 else min v (n:Int))=(((if v<0 then (v+(n:Int)).toNat else min v.toNat n):Nat):Int)
 by_cases hv:v<0
 ·simp only[if_pos hv];lia
 ·simp only[if_neg hv];lia
theorem adjust_gen(lo hi:Option Int)(n:Nat):Builtin.Slice.sliceAdjust lo hi 1 (n:Int)=(((sIx n 0 lo:Nat):Int),((sIx n n hi:Nat):Int)):=by
 have h1:¬ ((1:Int)<0):=by lia
 unfold Builtin.Slice.sliceAdjust;simp only[h1,if_false];refine Prod.ext ?_ ?_
 ·cases lo with
  |none=>rfl
  |some v=>exact clip_eq v n 0
 ·cases hi with
  |none=>rfl
  |some v=>exact clip_eq v n n
theorem places_gen(i j:Nat):Builtin.Slice.slicePlaces (i:Int) (j:Int) 1=j-i:=by
 unfold Builtin.Slice.slicePlaces;have h1:(1:Int) > 0:=by lia
 simp only[h1,if_true,Int.ediv_one];split<;>lia
theorem slicePart_(p:IsPart v o)(h:Q o s):wpAny (model prog w) A (Builtin.Slice.slicePartIndex v) Q E s:=by
 cases p with
 |none=>exact slicePart_none h
 |int i t=>exact slicePart_int h
theorem sliceApplied_gen{lo hi:Option Int}{n:Nat}{Q:Int×Int×Nat->Shared->Prop}(hs:s.heap.IsSliceOf sl vl vu .none)(pl:IsPart vl lo)(pu:IsPart vu hi)
  (h:Q (((sIx n 0 lo:Nat):Int),1,sIx n n hi-sIx n 0 lo) s):wpAny (model prog w) A (Builtin.Slice.sliceApplied (.ref sl) (pure (n:Int))) Q E s:=by
 obtain⟨os,hos,hcs,hds⟩:=id hs;unfold Builtin.Slice.sliceApplied Builtin.Slice.sliceFields;refine Te (Te (UL hos hds (x:=vl) rfl (Te (UL hos hds (x:=vu) rfl (Te (UL hos hds (x:=.none) rfl (Th ?_)))))));refine Te (slicePart_none ?_);show wpAny _ _ (if ((1:Int)==0)=true then _ else _) _ _ s
 rw[Tw (by decide)]
 refine Te (slicePart_ pl (Te (slicePart_ pu (Te (Th ?_)))));show wpAny _ _ (match Builtin.Slice.sliceAdjust lo hi 1 (n:Int) with | (lo,hi)=>pure (lo,(1:Int),Builtin.Slice.slicePlaces lo hi 1)) _ _ s
 rw[adjust_gen lo hi n];show wpAny _ _ (pure (((sIx n 0 lo:Nat):Int),(1:Int),Builtin.Slice.slicePlaces ((sIx n 0 lo:Nat):Int) ((sIx n n hi:Nat):Int) 1)) _ _ s;rw[places_gen];exact Th h
theorem pick_gen(xs:Array Value)(i k:Nat):((List.range k).filterMap λ(m:Nat)=>xs[((i:Int)+(m:Int)*1).toNat]?).toArray=((xs.toList.drop i).take k).toArray:=by
 have e:(λ(m:Nat)=>xs[((i:Int)+(m:Int)*1).toNat]?)=λm=>xs[i+m]?:=by
  funext m;have:((i:Int)+(m:Int)*1).toNat=i+m:=by lia
  rw[this]
 rw[e];have:=pick_run xs i k;rw[List.filterMap_map]at this;have e2:((λx=>xs[x]?) ∘ λx=>i+x)=λm=>xs[i+m]?:=rfl
 rw[e2]at this;rw[this]
theorem getItem_tuple_cut{items:Array Value}{lo hi:Option Int}{Q:Value->Shared->Prop}(ht:IsTup s.heap t items)(hs:s.heap.IsSliceOf sl vl vu .none)(pl:IsPart vl lo)(pu:IsPart vu hi)
  (hw:¬ (sIx items.size 0 lo=0/\sIx items.size items.size hi=items.size))
  (h:Q (.ref s.heap.objs.size) { s with heap:=s.heap.push { cls:=.type "tuple",data:=.seq ((items.toList.drop (sIx items.size 0 lo)).take (sIx items.size items.size hi-sIx items.size 0 lo)).toArray } })
  (hsz:items.size<=sizeLine):wpAny (model prog w) A (getItem (.ref t) (.ref sl)) Q E s:=by
 have htake:sizeOk (.seq ((items.toList.drop (sIx items.size 0 lo)).take (sIx items.size items.size hi-sIx items.size 0 lo)).toArray):=by
  show ((items.toList.drop (sIx items.size 0 lo)).take (sIx items.size items.size hi-sIx items.size 0 lo)).toArray.size<=sizeLine;rw[TX,VG,VJ,Vb]
  lia
 have hj:sIx items.size items.size hi<=items.size:=sIx_le _ _ (Tq _) hi;obtain⟨os,hos,hcs,hds⟩:=id hs;have hTs:s.TypeIs (.ref sl) "slice":=⟨os,hos,hcs⟩;unfold getItem
 try with_reducible refine Uy ?_
 first | refine Te (Th ?_) | skip
 refine Te (wpAny_sequenceKey ht.typeIs (by decide) ?_)
 refine Te (Ur (name:=Str.ofString "__getitem__") ht.typeIs Vm
  (Uw Vm ht.typeIs entry_tuple_getitem ?_ (args_tuple_getitem _ _)))
 show wpAny _ _ (Builtin.Tuple.tupleItemsOf (.ref t)>>=_) _ _ s;refine Te (tupleItemsOf_ ht ?_);refine Te (Wn hTs ?_);rw[Tv (by decide)]
 refine Te (sliceApplied_gen hs pl pu ?_);have hno:¬ ((((sIx items.size 0 lo:Nat):Int)==0&&(1:Int)==1&&(sIx items.size items.size hi-sIx items.size 0 lo)==items.size)=true):=by intro q;rw[U5,U5]at q;have q1:((sIx items.size 0 lo:Nat):Int)=0:=eq_of_beq q.1.1;have q2:sIx items.size items.size hi-sIx items.size 0 lo=items.size:=eq_of_beq q.2;exact hw ⟨by lia,by lia⟩
 show wpAny _ _ (if (((sIx items.size 0 lo:Nat):Int)==0&&(1:Int)==1&&(sIx items.size items.size hi-sIx items.size 0 lo)==items.size)=true then _ else _) _ _ s
 rw[Tw hno,pick_gen]
 first
  |exact Te (m:=Builtin.Tuple.tupleExact _) (Ug (Th ⟨_,rfl,Th h⟩) htake)
  |exact Te (m:=Builtin.Tuple.tupleExact _) (Ug (Te (Th (Th ⟨_,rfl,Th h⟩))) htake)
  |exact Te (Te (m:=Builtin.Tuple.tupleExact _) (Ug (Th (Th ⟨_,rfl,Th h⟩)) htake))
  |exact Te (Te (m:=Builtin.Tuple.tupleExact _) (Ug (Th ⟨_,rfl,Th h⟩) htake))
end
end HT
namespace L2
open PySem PySem.Spec PyProof.Rows
noncomputable abbrev TO:=St->Hp->(Option Int->Hp->Prop)->Prop
noncomputable def PO(X:Cx)(e:Option Expr)(t:TO):Prop:=
 ∀(Yk:List (Addr×Obj)) (s:Shared) (σ:St) (H:Hp) (Q:Option Int->Hp->Prop),Inv X Yk σ H s->t σ H Q->
   wpAny (model X.prog X.w) X.A (evalPart e X.env) (λu s'=>∃o H',Inv X Yk σ H' s'/\IsPart u o/\Q o H') X.xe s
noncomputable def tNoPart:TO:=λz H Q=>Q none H
noncomputable def tPart(t:TE):TO:=λσ H Q=>t σ H λx H1=>∃i,x=.int i/\Q (some i) H1
theorem intsAre_of:∀ {us:List Value},Vals (ns.map V.int) us->IntsAre us ns:=by
 induction ns with
 |nil=>intro us r;rw[List.map_nil]at r;cases r;exact .nil
 | cons n ns ih=>
   intro us r;rw[Uu]at r;cases r with
   |cons r1 r2=>obtain⟨t,e⟩:=r1;subst e;exact .cons n t (ih r2)
section
variable{X:Cx}{e:Expr}{te:TE}{lo hi:Option Expr}{tl th:TO}{pos p2:Pos}
theorem po_none:PO X none tNoPart:=by intro Yk s σ H Q I h;rw[evalPart_none];exact Th ⟨none,H,I,.none,h⟩
theorem po_some(h:PE X e te):PO X (some e) (tPart te):=by
 intro Yk s σ H Q I hw;rw[evalPart_some];refine thn (h Yk s σ H _ I hw) λu s1 ⟨x,H1,I1,r1,q1⟩=>?_
 obtain⟨i,rfl,q⟩:=q1;obtain⟨t,rfl⟩:=r1;exact⟨some i,H1,I1,.int i t,q⟩
noncomputable def SlR(X:Cx)(r:V->Option Int->Option Int->Hp->VK->Prop):Prop:=
 ∀(Yk:List (Addr×Obj)) (s:Shared) (σ:St) (H:Hp) (x:V) (v vl vu:Value) (lo hi:Option Int) (sl:Addr) (Q:VK),Inv X Yk σ H s->RelV x v->s.heap.IsSliceOf sl vl vu .none->IsPart vl lo->IsPart vu hi->r x lo hi H Q->
   ∃T id,typeLookup (.type T) "__getitem__"=pure (some (.builtin id))/\s.TypeIs v T/\wpAny (model X.prog X.w) X.A (getItem v (.ref sl)) (EP X Yk σ Q) X.xe s
noncomputable def tSl(r:V->Option Int->Option Int->Hp->VK->Prop)(te:TE)(tl th:TO):TE:=λσ H Q=>te σ H λx H1=>tl σ H1 λl H2=>th σ H2 λu H3=>r x l u H3 Q
theorem pe_slice(hr:SlR X r)(he:PE X e te)(hl:PO X lo tl)(hu:PO X hi th):PE X (.Subscript e (.Slice lo hi none p2) pos) (tSl r te tl th):=by
 intro Yk s σ H Q I h;refine Subscript_ (thn (he Yk s σ H _ I h) λv s1 ⟨x,H1,I1,r1,q1⟩=>?_)
 refine wpAny_Slice (thn (hl Yk s1 σ H1 _ I1 q1) λvl s2 ⟨l,H2,I2,pl,q2⟩=>thn (hu Yk s2 σ H2 _ I2 q2) λvu s3 ⟨u,H3,I3,pu,q3⟩=>?_)
 rw[evalPart_none];refine Th ?_;have I4:Inv X Yk σ H3 { s3 with heap:=s3.heap.push { cls:=.type "slice",data:=.fields #[vl,vu,.none] } }:=I3.kept (t':=s3.toks) λb ob q=>Tf _ q
 obtain⟨T,id,hT,ht,hg⟩:=hr Yk { s3 with heap:=s3.heap.push { cls:=.type "slice",data:=.fields #[vl,vu,.none] } } σ H3 x v vl vu l u s3.heap.objs.size Q I4 r1 (Heap.IsSliceOf.new ..) pl pu q3
 show wpAny (model X.prog X.w) X.A (subscriptTail e (.Slice lo hi none p2) v (.ref s3.heap.objs.size)) (EP X Yk σ Q) X.xe { s3 with heap:=s3.heap.push { cls:=.type "slice",data:=.fields #[vl,vu,.none] } }
 exact tail_any (ops:=[.ref s3.heap.objs.size,v]) ht hT hg (by with_unfolding_all rfl)
noncomputable def cutV(xs:List V)(lo hi:Option Int):List V:=(xs.drop (HT.sIx xs.length 0 lo)).take (HT.sIx xs.length xs.length hi-HT.sIx xs.length 0 lo)
theorem cutV_length(xs:List V)(lo hi:Option Int):(cutV xs lo hi).length<=xs.length:=by
 unfold cutV;rw[VG,VJ]
 lia
noncomputable def rSlT(K:PySem.W.Frag):V->Option Int->Option Int->Hp->VK->Prop:=λx lo hi H Q=>∃a xs,x=.ref a/\SqT K H a xs /\
 ¬ (HT.sIx xs.length 0 lo=0/\HT.sIx xs.length xs.length hi=xs.length)/\∀p,H p=none->Q (.ref p) (upd H p (.tup (cutV xs lo hi)))
theorem sl_tup:SlR X (rSlT X.K):=by
 intro Yk s σ H x v vl vu lo hi sl Q I rx hs pl pu h;obtain⟨a,xs,rfl,hx,hw,q⟩:=h;cases rx;obtain⟨its,r,ht,hz⟩:=I.tuple hx;have hlen:its.toArray.size=xs.length:=by rw[TX];exact r.length.symm
 refine⟨"tuple",_,PyProof.Rows.slot_tuple_getitem.lookup,ht.typeIs,?_⟩;refine HT.getItem_tuple_cut ht hs pl pu (by rw[hlen];exact hw) ?_ (by rw[hlen];exact hz)
 rw[hlen];refine⟨.ref s.heap.objs.size,_,I.laid (t':=s.toks) (o:=.tup (cutV xs lo hi)) (λb ob q=>Tf _ q) (Tq _) ?_,rfl,q _ (I.hok.fresh (Tq _))⟩
 exact⟨Ue (cutV_length xs lo hi) hz,_,(r.drop (HT.sIx xs.length 0 lo)).take (HT.sIx xs.length xs.length hi-HT.sIx xs.length 0 lo),Xh _ _⟩
noncomputable def rCatT(K:PySem.W.Frag):R2:=λx y H Q=>∃a b xs ys,x=.ref a/\y=.ref b/\SqT K H a xs/\SqT K H b ys/\xs≠[]/\xs.length+ys.length<=sizeLine /\
 (ys=[]->Q (.ref a) H)/\(ys≠[]->∀p,H p=none->Q (.ref p) (upd H p (.tup (xs++ys))))
theorem Vals.nil_iff(r:Vals xs us):us=[] ↔ xs=[]:=by
 cases r with
 |nil=>simp
 |cons _ _=>simp
theorem op_catT:OpR X (binaryOp .Add) (rCatT X.K):=by
 intro Yk s σ H x y v u Q I rx ry h;obtain⟨a,b,xs,ys,rfl,rfl,ha,hb,hx,hz,q1,q2⟩:=h;cases rx;cases ry;obtain⟨its,r1,p1,_⟩:=I.tuple ha;obtain⟨its2,r2,p2,_⟩:=I.tuple hb;refine HT.cat_tup p1 p2 (λz=>hx (r1.nil_iff.mp z)) (λz=>⟨.ref a,H,I,rfl,q1 (r2.nil_iff.mp z)⟩) (λz=>?_) (by rw[<-r1.length,<-r2.length];exact hz)
 refine⟨.ref s.heap.objs.size,_,I.laid (t':=s.toks) (o:=.tup (xs++ys)) (λb ob q=>Tf _ q) (Tq _) ?_,rfl,q2 (λw=>z (r2.nil_iff.mpr w)) _ (I.hok.fresh (Tq _))⟩
 exact⟨by rw[T3];exact hz,_,r1.append r2,Xh _ _⟩
end
open PySem PySem.Spec PyProof.Rows
noncomputable def ixN(n:Nat)(i:Int):Option Nat:=if 0<=i then (if i<n then some i.toNat else none) else if -(n:Int)<=i then some (i+n).toNat else none
noncomputable def atI{α:Type}(xs:List α)(i:Int):Option α:=(ixN xs.length i).bind λj=>xs[j]?
theorem ixN_seq(h:ixN n i=some j):seqIndex? i n=some j/\j<n/\-(n:Int)<=i/\i<n:=by
 unfold ixN at h;by_cases h0:0<=i
 ·rw[Tv h0]at h;by_cases h1:i<n
  ·rw[Tv h1]at h;have e:i.toNat=j:=TJ h;exact⟨by rw[seqIndex_of h0 h1,e],by lia,by lia,h1⟩
  ·rw[Tw h1]at h;cases h
 ·rw[Tw h0]at h;by_cases h1:-(n:Int)<=i
  ·rw[Tv h1]at h;have e:(i+n).toNat=j:=TJ h;exact⟨by rw[seqIndex_neg (by lia) h1,e],by lia,h1,by lia⟩
  ·rw[Tw h1]at h;cases h
theorem atI_get(h:atI xs i=some v):∃ j,seqIndex? i xs.length=some j/\xs[j]?=some v/\j<xs.length/\-(xs.length:Int)<=i/\i<xs.length:=by
 unfold atI at h;cases e:ixN xs.length i with
 |none=>rw[e]at h;cases h
 |some j=>rw[e]at h;obtain⟨h1,h2,h3,h4⟩:=ixN_seq e;exact⟨j,h1,h,h2,h3,h4⟩
noncomputable def PlainIx(b:Expr):Prop:=∀o i,subscripted b false o i=operate [o,i] (getItem o i)
noncomputable def IxR(X:Cx)(r:R2):Prop:=
 ∀(value slice:Expr) (Yk:List (Addr×Obj)) (s:Shared) (σ:St) (H:Hp) (x y:V) (v u:Value) (Q:VK),Inv X Yk σ H s->RelV x v->RelV y u->r x y H Q->
   subscripted slice false v u=operate [v,u] (getItem v u)->wpAny (model X.prog X.w) X.A (subscriptTail value slice v u) (EP X Yk σ Q) X.xe s
noncomputable def MtR(X:Cx)(id:String)(r:V->List V->Hp->VK->Prop):Prop:=
 ∀(Yk:List (Addr×Obj)) (s:Shared) (σ:St) (H:Hp) (x:V) (xs:List V) (v:Value) (us:List Value) (Q:VK),Inv X Yk σ H s->RelV x v->Vals xs us->r x xs H Q->
   wpAny (model X.prog X.w) X.A (call (.builtin id) (v::us)) (EP X Yk σ Q) X.xe s
section
variable{X:Cx}{a b:Expr}{ta tb:TE}{pos:Pos}
theorem pe_ix(hr:IxR X r)(ha:PE X a ta)(hb:PE X b tb)(hs:PlainIx b):PE X (.Subscript a b pos) (tOp r ta tb):=by intro Yk s σ H Q I h;exact Subscript_ (binT ha hb I h λv u s2 x y H2 I2 rx ry q=>hr a b Yk s2 σ H2 x y v u Q I2 rx ry q (hs _ _))
noncomputable def rIxL(K:PySem.W.Frag):R2:=λx y H Q=>∃p xs i v,x=.ref p/\y=.int i/\SqL K H p xs/\atI xs i=some v/\Q v H
noncomputable def rIxT(K:PySem.W.Frag):R2:=λx y H Q=>∃p xs i v,x=.ref p/\y=.int i/\SqT K H p xs/\atI xs i=some v/\Q v H
theorem ix_list:IxR X (rIxL X.K):=by
 intro value slice Yk s σ H x y v u Q I rx ry h hs;obtain⟨p,xs,i,z,rfl,rfl,hq,he,q⟩:=h;cases rx;obtain⟨t,rfl⟩:=ry;obtain⟨its,r,pl,hz⟩:=I.list hq;obtain⟨j,h1,h2,h3,h4,h5⟩:=atI_get he;obtain⟨w,ew,rw'⟩:=r.get h2;have hl:=r.length;have hn:=line63;have fin:EP X Yk σ Q w s:=⟨z,H,I,rw',q⟩;by_cases h0:0<=i
 ·have hj:i.toNat=j:=by rw[seqIndex_of h0 h5]at h1;exact TJ h1
  exact item_listR pl.isList h0 (by lia) (by rw[hj];simpa using ew) fin hs
 ·have hj:(i+(its.toArray.size:Int)).toNat=j:=by
   rw[seqIndex_neg (by lia) h4]at h1
   rw[TX,<-hl];exact TJ h1
  exact subscriptTail_builtinR (x:=w) pl.isList.typeIs slot_list_getitem.lookup
   (wpAny_getItem_list_neg (Q:=λr s'=>r=w/\EP X Yk σ Q r s') pl.isList (by lia) (by rw[TX]<;>lia) (by lia) (by rw[hj];simpa using ew) ⟨rfl,fin⟩) hs
theorem ix_tup:IxR X (rIxT X.K):=by
 intro value slice Yk s σ H x y v u Q I rx ry h hs;obtain⟨p,xs,i,z,rfl,rfl,hq,he,q⟩:=h;cases rx;obtain⟨t,rfl⟩:=ry;obtain⟨its,r,pl,hz⟩:=I.tuple hq;obtain⟨j,h1,h2,h3,h4,h5⟩:=atI_get he;obtain⟨w,ew,rw'⟩:=r.get h2;have hl:=r.length;have hn:=line63;have fin:EP X Yk σ Q w s:=⟨z,H,I,rw',q⟩;exact subscriptTail_builtinR (x:=w) pl.typeIs slot_tuple_getitem.lookup
  (getItem_tuple (j:=j) (Q:=λr s'=>r=w/\EP X Yk σ Q r s') pl (by lia) (by lia) (by rw[TX,<-hl];exact h1) (by simpa using ew) ⟨rfl,fin⟩) hs
theorem mapSeq_set(its:List Value)(n j:Nat)(u:Value):Obj.mapSeq (·.setIfInBounds j u) { cls:=.type "list",data:=.seq its.toArray n }={ cls:=.type "list",data:=.seq (its.set j u).toArray n }:=by simp[Obj.mapSeq]
theorem Inv.lst(I:Inv X Yk σ H s)(h:H p=some (.lst xs)):
  ∃(its:List Value) (n:Nat),Vals xs its/\s.heap.get? p=some { cls:=.type "list",data:=.seq its.toArray n }/\xs.length<=sizeLine:=by
 obtain⟨z,its,n,r,e⟩:=I.hok p _ h;exact⟨its,n,r,e,z⟩
theorem Inv.lstUpd{Yk:List (Addr×Obj)}{xs ys:List V}{its its':List Value}{n n':Nat}{f:Obj->Obj}(I:Inv X Yk σ H s)(h:H p=some (.lst xs))
  (ho:s.heap.get? p=some { cls:=.type "list",data:=.seq its.toArray n }) (hf:f { cls:=.type "list",data:=.seq its.toArray n }={ cls:=.type "list",data:=.seq its'.toArray n' }) (r:Vals ys its') (hz:ys.length<=sizeLine) (t:Nat) :
  Inv X Yk σ (upd H p (.lst ys)) { s with heap:=s.heap.update p f,toks:=t }:=by
 have e:(s.heap.update p f).get? p=some { cls:=.type "list",data:=.seq its'.toArray n' }:=by rw[W6 f ho (by rw[hf]<;>rfl),hf]
 refine I.write (x:=p) (e:=p) (by rw[h];trivial) (.inl rfl) (λb u hb q=>(V7 _ _ (Ne.symm hb)).trans q) ⟨_,e⟩ ?_
 exact⟨hz,its',n',r,e⟩
noncomputable def rSetL:V->V->V->Hp->(Hp->Prop)->Prop:=λo i v H Q=>∃p xs k j,o=.ref p/\i=.int k/\H p=some (.lst xs)/\ixN xs.length k=some j/\Q (upd H p (.lst (xs.set j v)))
theorem set_list:PSet X rSetL:=by
 intro Yk s σ H o i v ov iv u Q I ro ri rv h;obtain⟨p,xs,k,j,rfl,rfl,hp,hj,q⟩:=h;cases ro;obtain⟨t,rfl⟩:=ri;obtain⟨its,n,r,ho,hz⟩:=I.lst hp;obtain⟨h1,h2,h3,h4⟩:=ixN_seq hj;have hl:=r.length;have hn:=line63;have I':Inv X Yk σ (upd H p (.lst (xs.set j v))) { s with heap:=s.heap.update p (Obj.mapSeq (·.setIfInBounds j u)) }:=
  I.lstUpd hp ho (mapSeq_set its n j u) (r.set rv j) (by rw[WN];exact hz) s.toks
 by_cases h0:0<=k
 ·have hk:k.toNat=j:=by rw[seqIndex_of h0 h4]at h1;exact TJ h1
  exact PySem.W.ki_setAt ho h0 (by lia) (by rw[TX,<-hl];exact h4) (by rw[hk];exact⟨_,I',q⟩)
 ·have hk:(k+(its.toArray.size:Int)).toNat=j:=by
   rw[seqIndex_neg (by lia) h3]at h1
   rw[TX,<-hl];exact TJ h1
  exact PySem.W.ki_setBack ho (by lia) (by rw[TX,<-hl];exact h3) (by lia) (by rw[hk];exact⟨_,I',q⟩)
theorem slice_bounds(lo hi:Option Int)(n:Nat):(sliceBounds lo hi none n).1=((HT.sIx n 0 lo:Nat):Int)/\(sliceBounds lo hi none n).2.1=((HT.sIx n n hi:Nat):Int)/\(sliceBounds lo hi none n).2.2=1:=by
 refine⟨?_,?_,rfl⟩
 ·cases lo with
  |none=>simp[sliceBounds,HT.sIx]
  |some i=>
    simp only[sliceBounds,HT.sIx,Option.getD_none,show (1:Int) > 0 by decide,if_true]
    by_cases h:i<0
    ·simp only[h,if_true]<;>lia
    ·simp only[h,if_false]<;>lia
 ·cases hi with
  |none=>simp[sliceBounds,HT.sIx]
  |some i=>
    simp only[sliceBounds,HT.sIx,Option.getD_none,show (1:Int) > 0 by decide,if_true]
    by_cases h:i<0
    ·simp only[h,if_true]<;>lia
    ·simp only[h,if_false]<;>lia
theorem slicePick_cut(its:List Value)(lo hi:Option Int):slicePick its.toArray lo hi none=((its.drop (HT.sIx its.length 0 lo)).take (HT.sIx its.length its.length hi-HT.sIx its.length 0 lo)).toArray:=by obtain⟨h1,h2,h3⟩:=slice_bounds lo hi its.toArray.size;unfold slicePick;rw[h1,h2,h3];simp only[sliceRange_one,pick_run,List.size_toArray]<;>rfl
noncomputable def rSlL(K:PySem.W.Frag):V->Option Int->Option Int->Hp->VK->Prop:=λx lo hi H Q=>∃a xs,x=.ref a/\SqL K H a xs/\∀p,H p=none->Q (.ref p) (upd H p (.lst (cutV xs lo hi)))
theorem sl_list:SlR X (rSlL X.K):=by
 intro Yk s σ H x v vl vu lo hi sl Q I rx hs pl pu h;obtain⟨a,xs,rfl,hx,q⟩:=h;cases rx;obtain⟨its,r,ht,hz⟩:=I.list hx;have hlen:=r.length;refine⟨"list",_,slot_list_getitem.lookup,ht.isList.typeIs,?_⟩;refine wpAny_getItem_list_slice ht.isList hs pl pu .none (by simp) ?_ (by rw[TX]<;>lia)
 rw[slicePick_cut,<-hlen];refine⟨.ref s.heap.objs.size,_,I.laid (t':=s.toks) (o:=.lst (cutV xs lo hi)) (λb ob q=>Tf _ q) (Tq _) ?_,rfl,q _ (I.hok.fresh (Tq _))⟩
 exact⟨Ue (cutV_length xs lo hi) hz,_,0,(r.drop (HT.sIx xs.length 0 lo)).take (HT.sIx xs.length xs.length hi-HT.sIx xs.length 0 lo),Tu _ rfl⟩
noncomputable def flatV:V->Bool
 |.non=>true
 |.bl _=>true
 |.int _=>true
 |.str _=>true
 |_=>false
noncomputable def eqV:V->V->Bool
 |.non,.non=>true
 |.bl a,.bl b=>a==b
 |.bl a,.int b=>(if a then 1 else 0)==b
 |.int a,.bl b=>a==(if b then 1 else 0)
 |.int a,.int b=>a==b
 |.str a,.str b=>a==b
 |_,_=>false
theorem eqAt_V(ry:RelV y u)(rx:RelV x v)(fy:flatV y=true)(fx:flatV x=true):SeqAt.EqAt A s u v (eqV y x):=by
 cases y with
 |non=>
   cases ry;cases x with
   |non=>cases rx;exact SeqAt.EqAt.same _
   |bl b=>cases rx;exact SeqAt.EqAt.none_bool b
   |int b=>obtain⟨t,rfl⟩:=rx;exact SeqAt.EqAt.none_int b t
   |str b=>obtain⟨t,rfl⟩:=rx;exact SeqAt.EqAt.none_str b t
   |_=>exact absurd (show false=true from fx) Ub
 |bl a=>
   cases ry;cases x with
   |non=>cases rx;exact SeqAt.EqAt.bool_none a
   |bl b=>cases rx;exact SeqAt.EqAt.bool_bool a b
   |int b=>obtain⟨t,rfl⟩:=rx;exact SeqAt.EqAt.bool_int a b t
   |str b=>obtain⟨t,rfl⟩:=rx;exact SeqAt.EqAt.bool_str a b t
   |_=>exact absurd (show false=true from fx) Ub
 |int a=>
   obtain⟨t',rfl⟩:=ry;cases x with
   |non=>cases rx;exact SeqAt.EqAt.int_none a t'
   |bl b=>cases rx;exact SeqAt.EqAt.int_bool a t' b
   |int b=>obtain⟨t,rfl⟩:=rx;exact SeqAt.EqAt.int_int a t' b t
   |str b=>obtain⟨t,rfl⟩:=rx;exact SeqAt.EqAt.int_str a t' b t
   |_=>exact absurd (show false=true from fx) Ub
 |str a=>
   obtain⟨t',rfl⟩:=ry;cases x with
   |non=>cases rx;exact SeqAt.EqAt.str_none a t'
   |bl b=>cases rx;exact SeqAt.EqAt.str_bool a t' b
   |int b=>obtain⟨t,rfl⟩:=rx;exact SeqAt.EqAt.str_int a t' b t
   |str b=>obtain⟨t,rfl⟩:=rx;exact SeqAt.EqAt.str_str a t' b t
   |_=>exact absurd (show false=true from fx) Ub
 |_=>exact absurd (show false=true from fy) Ub
noncomputable def eqU(x:V)(u:Value):Bool:=match u with
 |.none=>eqV .non x
 |.bool b=>eqV (.bl b) x
 |.int i _=>eqV (.int i) x
 |.str z _=>eqV (.str z) x
 |_=>false
theorem eqU_of(r:RelV y u)(f:flatV y=true):eqU x u=eqV y x:=by
 cases y with
 |non=>cases r;rfl
 |bl b=>cases r;rfl
 |int i=>obtain⟨t,rfl⟩:=r;rfl
 |str z=>obtain⟨t,rfl⟩:=r;rfl
 |_=>exact absurd (show false=true from f) Ub
theorem any_eqU:∀ {xs:List V}{us:List Value},Vals xs us->xs.all flatV=true->us.any (eqU x)=xs.any λy=>eqV y x
 |_,_,.nil,_=>rfl
 |y::xs,u::us,.cons r t,f=>by rw[XF,U5]at f;rw[XH,XH,eqU_of r f.1,any_eqU t f.2]
theorem mem_eqAt(rx:RelV x v)(fx:flatV x=true):∀ {xs:List V}{us:List Value},Vals xs us->xs.all flatV=true->∀ u∈us,SeqAt.EqAt A s u v (eqU x u)
 |_,_,.nil,_=>λu hu=>by cases hu
 |y::xs,u::us,.cons r t,f=>λu' hu=>by
   rw[XF,U5]at f;rcases TV.mp hu with rfl | hu
   ·rw[eqU_of r f.1];exact eqAt_V r rx f.1 fx
   ·exact mem_eqAt rx fx t f.2 u' hu
noncomputable def inV(x:V)(xs:List V):Bool:=xs.any λy=>eqV y x
noncomputable def rIn(K:PySem.W.Frag)(neg:Bool):R2:=λx y H Q=>∃p xs,y=.ref p/\(SqL K H p xs\/SqT K H p xs)/\flatV x=true/\xs.all flatV=true/\Q (.bl (if neg then !inV x xs else inV x xs)) H
theorem op_in_seq:OpR X (compareOp .In) (rIn X.K false):=by
 intro Yk s σ H x y v u Q I rx ry h;obtain⟨p,xs,rfl,hq,fx,fs,q⟩:=h;cases ry;rcases hq with hq | hq
 ·obtain⟨its,r,pl,hz⟩:=I.list hq;refine SeqAt.in_listAt (eqU x) pl.isList (λw hw=>mem_eqAt rx fx r fs w (by simpa using hw)) ⟨.bl _,H,I,rfl,?_⟩
  rw[show its.toArray.any (eqU x)=its.any (eqU x) by simp,any_eqU r fs]
  exact q
 ·obtain⟨its,r,pl,hz⟩:=I.tuple hq;refine SeqAt.in_tupleAt (eqU x) pl (λw hw=>mem_eqAt rx fx r fs w (by simpa using hw)) ⟨.bl _,H,I,rfl,?_⟩
  rw[show its.toArray.any (eqU x)=its.any (eqU x) by simp,any_eqU r fs]
  exact q
theorem op_notIn_seq:OpR X (compareOp .NotIn) (rIn X.K true):=by
 intro Yk s σ H x y v u Q I rx ry h;obtain⟨p,xs,rfl,hq,fx,fs,q⟩:=h;cases ry;rcases hq with hq | hq
 ·obtain⟨its,r,pl,hz⟩:=I.list hq;refine SeqAt.notIn_listAt (eqU x) pl.isList (λw hw=>mem_eqAt rx fx r fs w (by simpa using hw)) ⟨.bl _,H,I,rfl,?_⟩
  rw[show its.toArray.any (eqU x)=its.any (eqU x) by simp,any_eqU r fs]
  exact q
 ·obtain⟨its,r,pl,hz⟩:=I.tuple hq;refine SeqAt.notIn_tupleAt (eqU x) pl (λw hw=>mem_eqAt rx fx r fs w (by simpa using hw)) ⟨.bl _,H,I,rfl,?_⟩
  rw[show its.toArray.any (eqU x)=its.any (eqU x) by simp,any_eqU r fs]
  exact q
theorem call_len_seq:CallR X (.builtin "len") (λxs H Q=>∃p ys,xs=[.ref p]/\(SqL X.K H p ys\/SqT X.K H p ys)/\Q (.int ys.length) H):=by
 intro Yk s σ H xs us Q I r h;obtain⟨p,ys,rfl,hq,q⟩:=h;obtain⟨u,rfl,rx⟩:=vals1 r;cases rx;have hn:=line63;rcases hq with hq | hq
 ·obtain⟨its,r',pl,hz⟩:=I.list hq;have hlen:=r'.length;exact Calls.call_len_list pl.isList (by simp only[List.size_toArray]<;>lia) ⟨.int ys.length,H,I.tok _,⟨s.toks+1,by rw[TX,hlen]⟩,q⟩
 ·obtain⟨its,r',pl,hz⟩:=I.tuple hq;have hlen:=r'.length;exact len_tuple pl (by simp only[List.size_toArray]<;>lia) ⟨.int ys.length,H,I.tok _,⟨s.toks+1,by rw[TX,hlen]⟩,q⟩
theorem call_len_str:CallR X (.builtin "len") (λxs H Q=>∃z,xs=[.str z]/\z.length<=sizeLine/\Q (.int z.length) H):=by intro Yk s σ H xs us Q I r h;obtain⟨z,rfl,hz,q⟩:=h;obtain⟨u,rfl,t,rfl⟩:=vals1 r;have hn:=line63;exact len_str (by lia) ⟨.int z.length,H,I.tok _,⟨_,rfl⟩,q⟩
theorem CallR.or(h:CallR X f r)(h':CallR X f r'):CallR X f (λxs H Q=>r xs H Q\/r' xs H Q):=by
 intro Yk s σ H xs us Q I rs q;rcases q with q | q
 ·exact h Yk s σ H xs us Q I rs q
 ·exact h' Yk s σ H xs us Q I rs q
theorem call_list_of:CallR X (.type "list") (λxs H Q=>∃ p ys,xs=[.ref p]/\(SqL X.K H p ys\/SqT X.K H p ys)/\∀ l,H l=none->Q (.ref l) (upd H l (.lst ys))):=by
 intro Yk s σ H xs us Q I r h;obtain⟨p,ys,rfl,hq,q⟩:=h;obtain⟨u,rfl,rx⟩:=vals1 r;cases rx;have fin:∀(its:List Value),Vals ys its->ys.length<=sizeLine->∀(h':Heap) (c':Nat),(∀b o',s.heap.get? b=some o'->h'.get? b=some o')->
   h'.get? s.heap.objs.size=some { cls:=.type "list",dict:=none,data:=.seq its.toArray c',slots:=#[] }->EP X Yk σ Q (.ref s.heap.objs.size) { s with heap:=h' }:=λits r' hz h' c' kp e=>
  ⟨.ref s.heap.objs.size,_,I.laid (t':=s.toks) kp (Tq _) (show ObjOk X.prog X.w _ h' _ (.lst ys) from⟨hz,its,c',r',e⟩),rfl,q _ (I.hok.fresh (Tq _))⟩
 rcases hq with hq | hq
 ·obtain⟨its,r',pl,hz⟩:=I.list hq;have hlen:=r'.length;obtain⟨o,ho,hc,n,hd⟩:=pl.isList;exact call_list_seq p (.inl rfl) ho hc hd (λh' c' kp e=>fin its r' hz h' c' kp e) (by simp only[List.size_toArray]<;>lia)
 ·obtain⟨its,r',pl,hz⟩:=I.tuple hq;have hlen:=r'.length;obtain⟨o,ho,hc,n,hd⟩:=pl;exact call_list_seq p (.inr rfl) ho hc hd (λh' c' kp e=>fin its r' hz h' c' kp e) (by simp only[List.size_toArray]<;>lia)
theorem call_tuple_of:CallR X (.type "tuple") (λxs H Q=>∃ p ys,xs=[.ref p]/\((SqL X.K H p ys/\∀ l,H l=none->Q (.ref l) (upd H l (.tup ys)))\/(SqT X.K H p ys/\Q (.ref p) H))):=by
 intro Yk s σ H xs us Q I r h;obtain⟨p,ys,rfl,h⟩:=h;obtain⟨u,rfl,rx⟩:=vals1 r;cases rx;rcases h with ⟨hq,q⟩ | ⟨hq,q⟩
 ·obtain⟨its,r',pl,hz⟩:=I.list hq;have hlen:=r'.length;refine call_tuple_list pl.isList (λh' kp=>?_) (by simp only[List.size_toArray]<;>lia)
  have I1:Inv X Yk σ H { s with heap:=h' }:=I.kept (t':=s.toks) kp
  have I2:Inv X Yk σ (upd H h'.objs.size (.tup ys)) { s with heap:=h'.push { cls:=.type "tuple",data:=.seq its.toArray } }:=
   I1.laid (t':=s.toks) (λb o e=>Tf _ e) (Tq _) (show ObjOk X.prog X.w _ _ _ (.tup ys) from⟨hz,its,r',Xh _ _⟩)
  exact⟨.ref h'.objs.size,_,I2,rfl,q _ (I1.hok.fresh (Tq _))⟩
 ·obtain⟨its,r',pl,hz⟩:=I.tuple hq;exact call_tuple_same pl ⟨.ref p,H,I,rfl,q⟩
noncomputable def tyV(K:PySem.W.Frag)(T:String)(x:V)(H:Hp):Prop:=match x with
 |.str _=>T = "str"
 |.int _=>T = "int"
 |.ref p=>(T = "list"/\∃xs,SqL K H p xs)\/(T = "tuple"/\∃o,K.lookup p=some o/\o.cls=.type "tuple"/\o.dict=none) \/
   (T = "dict"/\((∃kvs,H p=some (.dK kvs))\/∃kvs,H p=some (.dT kvs)))\/(T = "set"/\∃S n,H p=some (.set S n))
 |_=>False
theorem tyV_is(I:Inv X Yk σ H s)(r:RelV x v)(ty:tyV X.K T x H):
  s.TypeIs v T/\∀a,v=.ref a->∃ob,s.heap.get? a=some ob/\ob.dict=none:=by
 cases x with
 |str z=>
   obtain⟨t,rfl⟩:=r;cases (show T = "str" from ty)
   exact⟨typeIs_str s z t,λy e=>nomatch e⟩
 |int i=>
   obtain⟨t,rfl⟩:=r;cases (show T = "int" from ty)
   exact⟨typeIs_int s i t,λy e=>nomatch e⟩
 | ref p=>
   cases r;rcases ty with ⟨rfl,xs,hq⟩ | ⟨rfl,o,hk,hc,hd⟩ | ⟨rfl,hk⟩ | ⟨rfl,S,n,hk⟩
   ·obtain⟨its,_,pl,_⟩:=I.list hq;refine⟨pl.isList.typeIs,λa e=>?_⟩
    cases e;obtain⟨o,n,e,c,hd,_⟩:=pl;exact⟨o,e,hd⟩
   ·refine⟨⟨o,I.kIn p o hk,hc⟩,λa e=>?_⟩
    cases e;exact⟨o,I.kIn _ o hk,hd⟩
   ·have z:∃ o,s.heap.get? p=some o/\o.ExactDict:=by
     rcases hk with ⟨kvs,hk⟩ | ⟨kvs,hk⟩
     ·obtain⟨_,_,_,_,o,_,_,e,ex,_⟩:=I.hok p _ hk;exact⟨o,e,ex⟩
     ·obtain⟨_,_,_,_,o,_,_,e,ex,_⟩:=I.hok p _ hk;exact⟨o,e,ex⟩
    obtain⟨o,e,ex⟩:=z;refine⟨⟨o,e,ex.1⟩,λa e2=>?_⟩
    cases e2;exact⟨o,e,ex.2.1⟩
   ·obtain⟨o,_,_,_,e,ex,_⟩:=I.hok p _ hk;refine⟨⟨o,e,ex.1⟩,λa e2=>?_⟩
    cases e2;exact⟨o,e,ex.2.1⟩
 |_=>exact False.elim ty
noncomputable def tBM(K:PySem.W.Frag)(T:String)(r:V->List V->Hp->VK->Prop)(to:TE)(t:TA):TE:=λσ H Q=>to σ H λx H1=>tyV K T x H1/\t σ H1 λxs H2=>r x xs H2 Q
variable{o e:Expr}{es:List Expr}{to:TE}{t:TA}{name:Str}{apos cpos:Pos}{T id:String}{r:V->List V->Hp->VK->Prop}
theorem pe_bm(pa:PlainAttrs T)(slot:Slot T name id)(hty:typeOf (.builtin id)=pure (.type "method_descriptor"))(hm:MtR X id r)(ho:PE X o to)(ha:PA X (e::es) t)
  (hbase:autoParam (attributeBase o name X.env (eval o X.env)=eval o X.env) qAA)
  (hfew:autoParam (((backTo cpos (starEach (e::es) X.env)).all (fun x=>!x.1)&&(backToKw cpos (keywordEach [] X.env)).all (fun x=>x.1.isSome)
   &&decide ((e::es).length+([]:List Keyword).length+(if ([]:List Keyword).isEmpty then 0 else 1)<30))=true) qAA)
  (hline:autoParam ((apos.endLine==cpos.line)=true) qAA) (hs:autoParam (starEach (e::es) X.env=(false,eval e X.env)::starEach es X.env) qAA) (hplain:autoParam ((backTo cpos (starEach es X.env)).any (·.1)=false) qAA) :
  PE X (.Call (.Attribute o name apos) (e::es) [] cpos) (tBM X.K T r to t):=by
 intro Yk s σ H Q I h;refine wpAny_Call_method_late hbase hfew hline rfl (thn (ho Yk s σ H _ I h) λv s1 ⟨x,H1,I1,r1,ty,q1⟩=>?_)
 obtain⟨h1,h2⟩:=tyV_is I1 r1 ty;refine⟨T,id,pa,slot,hty,h1,h2,?_⟩;have hA:=ha cpos Yk s1 σ H1 _ I1 q1;rw[hs]at hA ⊢
 refine Calls.callWith_builtin (by show (false || (backTo cpos (starEach es X.env)).any (·.1))=false;rw[hplain]<;>rfl) (Calls.evalArgs_plain ?_)
 exact thn hA λus s2 ⟨vs,H2,I2,r2,q2⟩=>hm Yk s2 σ H2 x vs v us Q I2 r1 r2 q2
end
open PySem PySem.Spec PyProof.Rows
noncomputable def MtM(X:Cx)(id:String)(r:V->List V->Hp->VK->Prop):Prop:=
 ∀(Yk:List (Addr×Obj)) (s:Shared) (σ:St) (H:Hp) (x:V) (xs:List V) (v:Value) (us:List Value) (Q:VK),Inv X Yk σ H s->RelV x v->Vals xs us->r x xs H Q->
   wpAny (model X.prog X.w) X.A (call (.builtin id) (v::us)) (EP X Yk σ Q) X.xe s
theorem Vals.one:∀{x:V}{us:List Value},Vals [x] us->∃u,us=[u]/\RelV x u
 |_,_,.cons r .nil=>⟨_,rfl,r⟩
theorem Vals.reverse(h:Vals xs us):Vals xs.reverse us.reverse:=by
 induction h with
 |nil=>exact .nil
 |cons r t ih=>rw[List.reverse_cons,List.reverse_cons];exact Vals.append ih (.cons r .nil)
theorem Vals.rep(h:Vals xs us):∀ k:Nat,Vals (List.replicate k xs).flatten (List.replicate k us).flatten
 |0=>.nil
 |k+1=>by rw[Vk,Vk,Vy,Vy];exact Vals.append h (Vals.rep h k)
theorem foldl_rep(its:List Value):∀ (k:Nat) (acc:List Value),
  List.foldl (λx1 x2=>x1++x2) acc.toArray (List.replicate k its.toArray)=(acc++(List.replicate k its).flatten).toArray
 |0,acc=>by simp
 | k + 1,acc=>by
   have e:acc.toArray++its.toArray=(acc++its).toArray:=by simp
   have e2:(acc++its)++(List.replicate k its).flatten=acc++(List.replicate (k+1) its).flatten:=by rw[Vk,Vy,Wf]
   rw[<-e2,<-foldl_rep its k (acc++its),<-e,Vk,V2]
section
variable{X:Cx}{Yk:List (Addr×Obj)}{σ:St}{H:Hp}{s:Shared}{l b:Addr}{xs ys zs:List V}
theorem Inv.lset{its its':List Value}{n:Nat}{f:Array Value->Array Value}{t':Nat}(I:Inv X Yk σ H s)(hH:H l=some (.lst xs))
  (e:s.heap.get? l=some { cls:=.type "list",data:=.seq its.toArray n }) (hf:f its.toArray=its'.toArray) (hv:Vals ys its') (hz:ys.length<=sizeLine) :
  Inv X Yk σ (upd H l (.lst ys)) { s with heap:=s.heap.update l (Obj.mapSeq f),toks:=t' }:=by
 have q:=PySem.IsL.update e f;rw[hf]at q;refine I.write (x:=l) (e:=l) (by rw[hH];exact trivial) (.inl rfl) (λb' u hb hu=>(V7 s.heap (Obj.mapSeq f) (Ne.symm hb)).trans hu) ⟨_,q⟩ ?_
 exact⟨hz,its',_,hv,q⟩
theorem Inv.lnew(I:Inv X Yk σ H s)(hv:Vals ys its)(hz:ys.length<=sizeLine):
  Inv X Yk σ (upd H s.heap.objs.size (.lst ys)) { s with heap:=s.heap.push { cls:=.type "list",data:=.seq its.toArray },toks:=t' }:=
 I.laid (λz z q=>Tf _ q) (Tq _) ⟨hz,its,0,hv,Tu _ rfl⟩
theorem Inv.fresh(I:Inv X Yk σ H s):H s.heap.objs.size=none:=I.hok.fresh (Tq _)
theorem Inv.lstM(I:Inv X Yk σ H s)(hH:H l=some (.lst xs)):xs.length<=sizeLine/\∃(its:List Value) (n:Nat),Vals xs its/\xs.length=its.length/\s.heap.get? l=some { cls:=.type "list",data:=.seq its.toArray n }:=by obtain⟨z,its,n,r,e⟩:=I.hok l _ hH;exact⟨z,its,n,r,r.length,e⟩
theorem notLongL{n:Nat}(h:n<=sizeLine):Builtin.List.listTooLong n=false:=by unfold Builtin.List.listTooLong;exact Ux (by lia)
end
section
variable{X:Cx}
noncomputable def rAppend:V->List V->Hp->VK->Prop:=λx vs H Q=>∃l xs y,x=.ref l/\vs=[y]/\H l=some (.lst xs)/\xs.length<sizeLine/\Q .non (upd H l (.lst (xs++[y])))
theorem mt_append:MtM X "list.append" rAppend:=by
 intro Yk s σ H x vs v us Q I rx rv h;obtain⟨l,xs,y,rfl,rfl,hH,hz,q⟩:=h;cases rx;obtain⟨u,rfl,ru⟩:=rv.one;obtain⟨z,its,n,r,hl,e⟩:=I.lstM hH;refine Yd F.slot_list_append ⟨_,e,rfl⟩ F.entry_list_append (F.args_list_append_2 _ _) (PySem.list_append l its.toArray n u (by rw[TX];lia)) ⟨e,?_⟩
 refine⟨.non,_,I.lset (its':=its++[u]) hH e (by simp) (r.append (.cons ru .nil)) ?_,rfl,q⟩
 rw[T3,List.length_singleton]
 lia
noncomputable def rExtend:V->List V->Hp->VK->Prop:=λx vs H Q=>∃l b xs zs,x=.ref l/\vs=[.ref b]/\H l=some (.lst xs)/\H b=some (.lst zs)/\xs.length+zs.length<=sizeLine/\Q .non (upd H l (.lst (xs++zs)))
theorem mt_extend:MtM X "list.extend" rExtend:=by
 intro Yk s σ H x vs v us Q I rx rv h;obtain⟨l,b,xs,zs,rfl,rfl,hH,hB,hz,q⟩:=h;cases rx;obtain⟨u,rfl,ru⟩:=rv.one;cases ru;obtain⟨z,its,n,r,hl,e⟩:=I.lstM hH;obtain⟨z2,its2,n2,r2,hl2,e2⟩:=I.lstM hB;have hsz:its.toArray.size+its2.toArray.size<=sizeLine:=by rw[TX,TX];lia
 have hlong:¬ (!its.toArray.isEmpty&&Builtin.List.listTooLong (its.toArray.size+its2.toArray.size))=true:=by rw[notLongL hsz,Bool.and_false];exact Ub
 refine Yd F.slot_list_extend ⟨_,e,rfl⟩ F.entry_list_extend (F.args_list_extend_2 _ _)
  (AutoSeq1.list_extend_list_list_0 l its.toArray n b its2.toArray n2 hlong (by rw[TX];lia) (by lia)) ⟨e,e2,?_⟩
 refine⟨.non,_,I.lset (its':=its++its2) hH e (by simp) (r.append r2) ?_,rfl,q⟩
 rw[T3]
 lia
noncomputable def rCat:R2:=λx y H Q=>∃l b xs zs,x=.ref l/\y=.ref b/\H l=some (.lst xs)/\H b=some (.lst zs)/\xs.length+zs.length<=sizeLine/\∀p,H p=none->Q (.ref p) (upd H p (.lst (xs++zs)))
theorem op_cat:OpR X (binaryOp .Add) rCat:=by
 intro Yk s σ H x y v u Q I rx ry h;obtain⟨l,b,xs,zs,rfl,rfl,hH,hB,hz,q⟩:=h;cases rx;cases ry;obtain⟨z,its,n,r,hl,e⟩:=I.lstM hH;obtain⟨z2,its2,n2,r2,hl2,e2⟩:=I.lstM hB;refine PySem.P.add_list e e2 ?_ (by rw[TX,TX];lia)
 have ea:its.toArray++its2.toArray=(its++its2).toArray:=by simp
 rw[ea];exact⟨.ref _,_,I.lnew (t':=s.toks) (r.append r2) (by rw[T3];lia),rfl,q _ I.fresh⟩
noncomputable def rRep:R2:=λx y H Q=>∃l k xs,x=.ref l/\y=.int k/\H l=some (.lst xs)/\-(2^63)<=k/\k<2^63/\xs.length*k.toNat<=sizeLine /\
 ∀p,H p=none->Q (.ref p) (upd H p (.lst (List.replicate k.toNat xs).flatten))
theorem len_rep(xs:List α)(k:Nat):(List.replicate k xs).flatten.length=k*xs.length:=by
 induction k with
 |zero=>simp
 |succ k ih=>rw[Vk,Vy,T3,ih,Nat.succ_mul,Nat.add_comm]
theorem op_rep:OpR X (binaryOp .Mult) rRep:=by
 intro Yk s σ H x y v u Q I rx ry h;obtain⟨l,k,xs,rfl,rfl,hH,h1,h2,hz,q⟩:=h;cases rx;obtain⟨t,rfl⟩:=ry;obtain⟨z,its,n,r,hl,e⟩:=I.lstM hH;have hlen:its.toArray.size*k.toNat<=sizeLine:=by rw[TX,<-hl];exact hz
 have hcap:¬ its.toArray.size*k.toNat > (2^63-1) / 8:=by
  have:(sizeLine:Nat)<=(2^63-1) / 8:=by decide
  lia
 have hfit:¬ (!Builtin.List.listFitsIndex k)=true:=by rw[fitsIndex_both h1 h2];exact Ub
 have hlong:¬ Builtin.List.listTooLong (its.toArray.size*k.toNat)=true:=by rw[notLongL hlen];exact Ub
 have hnew:List.foldl (λx1 x2=>x1++x2) #[] (List.replicate (if its.toArray.isEmpty=true then 0 else k.toNat) its.toArray)=(List.replicate k.toNat its).flatten.toArray:=by
  have f0:∀m:Nat,List.foldl (λx1 x2=>x1++x2) #[] (List.replicate m its.toArray)=(List.replicate m its).flatten.toArray:=λm=>by have:=foldl_rep its m [];rw[X8]at this;exact this
  rw[f0];cases its with
  |nil=>simp
  |cons a r'=>rw[Tw (by simp)]
 refine wpAny_binaryOp_repeat_ref (T := "list") (U := "int") (by decide) ⟨_,e,rfl⟩ (λs'=>typeIs_int s' k t) noFill_list_mul F.fills_int_mul Yg repeat_list F.slot_int_index.lookup
  (Yd Yg (typeIs_int s k t) F.entry_int_rmul (F.args_int_rmul_2 _ _) (int___rmul___int_list k t l its.toArray n)
    ⟨e,rfl,⟨_,e,rfl⟩,Yd F.slot_list_mul ⟨_,e,rfl⟩ F.entry_list_mul (F.args_list_mul_2 _ _) (AutoListH.list___mul___list_int_3 l its.toArray n k t hfit hcap hlong) ⟨e,?_⟩⟩)
 rw[hnew];exact⟨.ref _,_,I.lnew (t':=s.toks) (r.rep k.toNat) (by rw[len_rep,Nat.mul_comm];exact hz),rfl,q _ I.fresh⟩
end
end L2
namespace Att
open PySem PySem.W PySem.Calls PyProof.Rows
theorem ints_of_wellAll:∀ (ns:List Int) (vs:List Value),WellAll P h vs (ns.map WData.int)->IntsAre vs ns:=by
 intro ns;induction ns with
 |nil=>intro vs w;rw[List.map_nil]at w;cases w;exact .nil
 | cons n ns ih=>
   intro vs w;rw[Uu]at w;cases w with
   |cons a b=>cases a;exact .cons _ _ (ih _ b)
theorem script_of{l:OpenLaw}{n:Nat}(hn:l.most=some n){P:Params}{h:Heap}{args:List WData}{vals:List Value}
  (hpre:l.row.toRowW.claim.pre args=true) (hwl:WellAll P h vals args) :
  ∃a vs ns,vals=[Value.ref a]/\args=[WData.list (ns.map WData.int)]/\h.get? a=some { cls:=.type "list",data:=.seq vs.toArray }/\IntsAre vs ns/\ns.length<=n:=by
 have hsh:WShape.hasAll [] args [.list .int]=true:=(pre_splitW hpre).1;have hc:l.pre.holds [] { args:=args }=true:=(pre_splitW hpre).2;obtain⟨d,r,rfl,h1,h2⟩:=hasAllW_cons hsh;obtain rfl:=hasAllW_nil h2;obtain⟨xs,rfl,h3⟩:=hasW_list h1;obtain⟨ns,rfl⟩:=items_int h3;have hlen:ns.length<=n:=by
  unfold OpenLaw.pre at hc;have h4:(WTm.not (.lt (.lit (.int (n:Int))) (.len (.arg 0)))).holds [] { args:=[.list (ns.map .int)] }=true:=by have h4:=(holds_andW hc).1;rw[hn]at h4;exact h4
  have h5:=condW_of h4 (w_not (w_lt w_lit (w_len_list (w_arg rfl))));rw[Tz]at h5;refine Nat.le_of_not_lt λq=>?_
  have q':(n:Int)<((ns.length:Nat):Int):=by lia
  first
   |(rw[Uk q']at h5;exact absurd h5 (by decide))
   |(simp at h5;lia)
 cases hwl with
 |cons w1 w2=>
   cases w2;cases w1 with
   |list ho hall=>exact⟨_,_,ns,rfl,rfl,ho,ints_of_wellAll ns _ hall,hlen⟩
theorem post_true(l:OpenLaw)(args:List WData):l.row.toRowW.claim.post args (.bool true) args=true:=
 postW_of (r:=l.row.toRowW) (X:=(true==true))
  (show WShape.has [] (.bool true) .bool=true by first | rfl | decide | simp[WShape.has,WShape.arms,WShape.armsAll])
  (show (WTm.eq .res (.lit (.bool true))).value [] { args:=args,res:=some (.bool true),after:=args }=some (.bool (true==true)) from w_eq_bool (w_res rfl) w_lit) rfl
theorem attach_call{l:OpenLaw}{n:Nat}{q:Program}{loose:List Str}{XP:(Str->Option Value)->Heap->Prop}{YP:World->Heap->Prop}{d:DefRec}
  (hn:l.most=some n) (hdf:d.params.defaults=[])
  (call:∀(w:World) (s₀ s₁:Shared) (mg mb:Str->Option Value) (fa:Addr) (o:Obj) (pm cd doc:Value) (a:Addr) (vs:List Value) (ns:List Int),
    Ground q loose [] XP w s₀ mg mb s₁.heap->YP w s₁.heap->
    s₁.heap.get? fa=some o->o.data=.func (docDef d.name d.params d.body d.scope pm cd doc)->s₁.heap.CodeRec cd d.name->mg d.name=some (.ref fa)->
    s₁.heap.get? a=some { cls:=.type "list",data:=.seq vs.toArray }->IntsAre vs ns->ns.length<=n->s₁.gens=#[]->
    codeAny (model l.prog w) callerA (.call (.ref fa) ⟨[.ref a],[]⟩) (λr s'=>r=.ok (.ret (.bool true))/\OldK s₁.heap s'.heap/\s'.os=s₁.os/\AllBare s'.gens) s₁) :
  WalkO q loose XP YP l.row.toRowW d [] (λf vs=>PySem.call f vs):=by
 intro w s₀ s₁ mg mb G Y fa o pm cd doc dV kV ho hd hcd hD hmg hg args vals as hpre hlay hrd hwl hlo;obtain rfl:dV=.none:=Dflts.none hD hdf;obtain rfl:kV=.none:=Dflts.noKw hD;obtain⟨a,vs,ns,rfl,rfl,hobj,hints,hlen⟩:=script_of hn hpre hwl;refine enter_call (Vw (call w s₀ s₁ mg mb fa o pm cd doc a vs ns G Y ho (fd_plain hd) hcd hmg hobj hints hlen hg) λr s' hq=>?_)
 obtain⟨rfl,h2,h3,h4⟩:=hq;exact⟨.inl ⟨.bool true,.bool true,[],rfl,λz=>rfl,.bool true,post_true l _,λz=>⟨List.Pairwise.nil,λz hm=>(nomatch hm)⟩⟩,h2,h3,h4⟩
end Att
namespace L2
open PySem PySem.Spec PyProof.Rows
theorem vals_ints:∀{vs:List Value}{ns:List Int},IntsAre vs ns->Vals (ns.map V.int) vs
 |_,_,.nil=>.nil
 |_,_,.cons n t h=>.cons ⟨t,rfl⟩ (vals_ints h)
noncomputable def Only(H:Hp):Prop:=∀b,H b=none\/∃o xs,H b=some (.frz o (.lst xs))
theorem law_call{P:Program}{w:World}{K:PySem.W.Frag}{mg mb:Str->Option Value}{CX:CXT}{k:Nat}{fa a:Addr}{fd:FuncData}{x:Str}{sp:Sp}{s₁:Shared}{vs:List Value}{ns:List Int}
  (KX:K.In s₁.heap) (hns:s₁.heap.Ns mainGlobals mg) (hb:s₁.heap.Ns builtinsNs mb) (hbb:∀x:Str,x≠"__name__"->mb x=bootBuiltins x) (hlim:s₁.heap.NoLimit) (hg:s₁.gens=#[])
  (ha:s₁.heap.get? a=some { cls:=.type "list",data:=.seq vs.toArray }) (hi:IntsAre vs ns) (hl:ns.length<=sizeLine) (hr:Room k callerA)
  (F:∀base:Heap,K.In base->base.Ns mainGlobals mg->FnOk P w K mg base CX k fa fd [x] sp) (hbind:∀(s:Shared) (u:Value),BindsTo s fd ⟨[u],[]⟩ [(x,u)])
  (hsp:∀H:Hp,Only H->SqL K H a (ns.map V.int)->sp [.ref a] H (λv y=>v=.bl true) λy y y=>False)
  (hCX:∀H e s',CX [] H s₁ (λy y y=>False) e s'->False) :
  codeAny (model P w) callerA (.call (.ref fa) ⟨[.ref a],[]⟩) (λr s'=>r=.ok (.ret (.bool true))/\OldK s₁.heap s'.heap/\s'.os=s₁.os/\AllBare s'.gens) s₁:=by
 have rv:=vals_ints hi;have lenV:=hi.length
 -- from an abstract heap in which nothing but the script may be tracked
 have core:∀ H:Hp,Only H->SqL K H a (ns.map V.int)->HOk P w H s₁.heap->(∀ b,H b≠none->b=a)->(H a≠none->K.lookup a=none)->
   codeAny (model P w) callerA (.call (.ref fa) ⟨[.ref a],[]⟩) (λr s'=>r=.ok (.ret (.bool true))/\OldK s₁.heap s'.heap/\s'.os=s₁.os/\AllBare s'.gens) s₁:=by
  intro H hO hS hok hA hK;have base_of:∀{b:Addr}{o:Obj},s₁.heap.get? b=some o->H b=none->(hidT s₁.heap H).get? b=some o:=λe n=>hidT_get e n
  have noA:∀ {b:Addr}{o:Obj}{es:Array DictEntry}{ep:Nat},s₁.heap.get? b=some o->o.data=.dict es ep->H b=none:=λ{b o es ep} e d=>by
   cases q:H b with
   |none=>rfl
   |some u=>
     have e':b=a:=hA b (by rw[q];simp)
     subst e';rw[ha]at e;cases e;have d':Data.seq vs.toArray _=Data.dict es ep:=d;cases d'
  have nsK:∀{b:Addr}{m:Str->Option Value},s₁.heap.Ns b m->(hidT s₁.heap H).Ns b m:=λ{b m} ⟨o,es,ep,e,d,r⟩=>⟨o,es,ep,base_of e (noA e d),d,r⟩
  have hKb:K.In (hidT s₁.heap H):=λb o e=>base_of (KX b o e) (by
   cases q:H b with
   |none=>rfl
   |some u=>
     have e':b=a:=hA b (by rw[q];simp)
     subst e';rw[hK (by rw[q];simp)]at e;cases e)
  have hM:Mod K mg (hidT s₁.heap H):=⟨hKb,nsK hns,⟨mb,nsK hb,hbb⟩,let ⟨mc,h1,h2⟩:=hlim;⟨mc,nsK h1,h2⟩⟩
  have e0:Env0 P w K mg (hidT s₁.heap H) callerA [] s₁ H:=⟨rfl,hM,λb o e=>of_hidT e,Nat.le_of_eq (hidT_size _ _),trivial,λb hb=>absurd (show b∈([]:List Addr) from hb) (by simp),hok,.of_eq hg⟩
  refine Vw ((F _ hKb (nsK hns)).run callerA [] s₁ H ⟨[.ref a],[]⟩ [.ref a] [.ref a] _ _ hr e0 (hbind s₁ (.ref a)) (.cons rfl .nil) (hsp H hO hS)) λr s' h=>?_
  cases r with
  |error e=>exact (hCX H e s' h).elim
  | ok fl=>
    cases fl with
    |next=>exact False.elim h
    |brk=>exact False.elim h
    |cont=>exact False.elim h
    | ret u=>
      obtain⟨v,H',os,bare,un,hok',r',q⟩:=h;have q':v=.bl true:=q;subst q';obtain rfl:u=Value.bool true:=r';refine⟨rfl,OldK.of_keep λb o e=>?_,os,bare⟩
      cases q:H b with
      |none=>exact un.keep b o e q (by intro z;exact absurd (show b∈([]:List Addr) from z) (by simp)) (by simp)
      | some u=>
        rcases hO b with z | ⟨ob,xs,z⟩
        ·rw[q]at z;cases z
        ·have z2:=un.frzs b ob _ z;obtain⟨e1,_⟩:=hok b _ z;obtain⟨e2,_⟩:=hok' b _ z2;rw[e]at e1;cases e1;exact e2
 cases hk:K.lookup a with
 |some o=>
   -- the script is one of the module's own objects
   have e:=KX a o hk;rw[ha]at e;cases e;refine core (λy=>none) (λy=>.inl rfl) (.inr ⟨_,vs.toArray,_,hk,rfl,rfl,rfl,by rw[TX,lenV];exact hl,by simpa using rv⟩) (λb u z=>by have z':(none:Option HO)=some u:=z;cases z') (λb z=>absurd rfl z) λz=>absurd rfl z
 | none=>
   refine core (λb=>if b=a then some (.frz { cls:=.type "list",data:=.seq vs.toArray } (.lst (ns.map V.int))) else none) (λb=>?_) (.inl (.inr ⟨{ cls:=.type "list",data:=.seq vs.toArray },Tv rfl⟩)) (λb u z=>?_) (λb z=>?_) λy=>hk
   ·by_cases hb:b=a
    ·exact .inr ⟨_,_,Tv hb⟩
    ·exact .inl (Tw hb)
   ·by_cases hb:b=a
    ·have z':=(Tv hb).symm.trans z;cases z';subst hb;exact⟨ha,by rw[Tz];exact hl,vs,_,rv,ha⟩
    ·have z':=(Tw hb).symm.trans z;cases z'
   ·by_cases hb:b=a
    ·exact hb
    ·exact absurd (Tw hb) z
open PySem PySem.Spec PyProof.Rows
theorem walk_of{l:PySem.W.OpenLaw}{n k:Nat}{q:Program}{loose:List Str}{XP:(Str->Option Value)->Heap->Prop}{YP:World->Heap->Prop}{d:DefRec}{K:Params->PySem.W.Frag}{CX:World->CXT}{sp:World->Sp}{x:Str}
  (hn:l.most=some n) (hn2:n<=sizeLine) (hdf:d.params.defaults=[]) (hr:Room k callerA)
  (hY:∀(w:World) (h:Heap),YP w h->(K w.params).In h)
  (F:∀ (w:World) (mg:Str->Option Value) (fa:Addr) (h:Heap),(K w.params).In h->h.Ns mainGlobals mg->mg d.name=some (.ref fa)->
    ∃fd:FuncData,(∀(s:Shared) (u:Value),BindsTo s fd ⟨[u],[]⟩ [(x,u)]) /\
      ∀base:Heap,(K w.params).In base->base.Ns mainGlobals mg->FnOk l.prog w (K w.params) mg base (CX w) k fa fd [x] (sp w))
  (hsp:∀(w:World) (H:Hp) (a:Addr) (ns:List Int),ns.length<=n->Only H->SqL (K w.params) H a (ns.map V.int)->sp w [.ref a] H (λv z=>v=.bl true) λz z z=>False)
  (hCX:∀(w:World) (H:Hp) (s:Shared) (e:Value) (s':Shared),CX w [] H s (λz z z=>False) e s'->False) :
  PySem.W.WalkO q loose XP YP l.row.toRowW d [] (λf vs=>PySem.call f vs):=by
 refine Att.attach_call hn hdf λw s₀ s₁ mg mb fa o pm cd doc a vs ns G Y ho hd hcd hmg hobj hints hlen hg=>?_
 have KX:=hY w _ Y;obtain⟨fd,hb,hF⟩:=F w mg fa _ KX G.T.g hmg;exact law_call KX G.T.g G.T.b G.T.builtins G.T.nolimit hg hobj hints (Ue hlen hn2) hr hF hb (λH hO hS=>hsp w H a ns hlen hO hS) λH e s'=>hCX w H s₁ e s'
open PySem PySem.Spec PyProof.Rows
noncomputable def inClass(s:Stmt)(j:Nat):Stmt:=match s with
 |.ClassDef _ _ _ body _ _ _ _ _ _ _=>body.getD j (.Pass ⟨0,0,0,0⟩)
 |_=>.Pass ⟨0,0,0,0⟩
noncomputable def defArgs(s:Stmt):Arguments:=match s with
 |.FunctionDef _ a _ _ _ _ _ _ _ _=>a
 |_=>{ posonlyargs:=[],args:=[],vararg:=none,kwonlyargs:=[],kw_defaults:=[],kwarg:=none,defaults:=[] }
noncomputable def defBody(s:Stmt):List Stmt:=match s with
 |.FunctionDef _ _ b _ _ _ _ _ _ _=>b
 |_=>[]
noncomputable def defScope(s:Stmt):Scope:=match s with
 |.FunctionDef _ _ _ _ _ _ sc _ _ _=>sc
 |_=>{ kind:=.function,names:=[],isGenerator:=false,isCoroutine:=false }
noncomputable abbrev E0:XK:=λ_ _ _=>False
structure Fun(K:PySem.W.Frag)(x qual:Str)(st:Stmt)(f:Addr)(fd:FuncData):Prop where
 ex:∃(oc:Value) (od:Option Addr) (kV doc pm:Value) (an:Option Addr) (cdv ct:Value) (osl:Array (Option Value)),
  fd=PySem.W.fnOf x qual (defArgs st) (defBody st) (defScope st) .none kV doc pm an cdv ct/\K.lookup f=some ⟨oc,od,.func fd,osl⟩/\PySem.W.codeIn K cdv qual=true
 kp:PySem.W.keepIn K (.ref f)=true
section
variable{P:Program}{w:World}{K:PySem.W.Frag}{mg:Str->Option Value}{base:Heap}
theorem Fun.binds{x qual:Str}{st:Stmt}{f:Addr}{fd:FuncData}{ps:List Str}(F:Fun K x qual st f fd)
  (h:∀(kV doc pm:Value) (an:Option Addr) (cdv ct:Value) (us:List Value),us.length=ps.length->bindArgs (PySem.W.fnOf x qual (defArgs st) (defBody st) (defScope st) .none kV doc pm an cdv ct) ⟨us,[]⟩=pure (ps.zip us)):Binds K fd ps []:=by
 obtain⟨oc,od,kV,doc,pm,an,cdv,ct,osl,rfl,lk,hcd⟩:=F.ex;exact .all (h kV doc pm an cdv ct)
theorem fun_mk{x qual:Str}{st:Stmt}{f:Addr}{oc:Value}{od an:Option Addr}{osl:Array (Option Value)}{kV doc pm cdv ct:Value}(l:K.lookup f=some ⟨oc,od,.func (PySem.W.fnOf x qual (defArgs st) (defBody st) (defScope st) .none kV doc pm an cdv ct),osl⟩)
  (c:PySem.W.codeIn K cdv qual=true) (k:PySem.W.keepIn K (.ref f)=true):Fun K x qual st f (PySem.W.fnOf x qual (defArgs st) (defBody st) (defScope st) .none kV doc pm an cdv ct):=⟨⟨oc,od,kV,doc,pm,an,cdv,ct,osl,rfl,l,c⟩,k⟩
end
section
variable{X:Cx}
theorem pv(i:Nat)(hN:autoParam (X.N[i]?=some x) qAA)(hv:Vis X.env.scope x:=by first | exact Or.inl rfl | exact Or.inr (Or.inl rfl) | exact Or.inr (Or.inr rfl))(hd:autoParam ((x==("__debug__":Str))=false) qAB)
  (hcd:autoParam ((x==("__classdict__":Str))=false) qAB):PE X (.Name x pos) (tVar i):=pe_var hN hv hd hcd
end
theorem iteF{A B:Prop}(h:B):if false=true then A else B:=by rw[Tw Ub];exact h
theorem iteT{A B:Prop}(h:A):if true=true then A else B:=by rw[Tv rfl];exact h
noncomputable def Same(H H':Hp):Prop:=∀b o,H b=some o->H' b=some o
theorem Same.refl(H:Hp):Same H H:=λz z h=>h
mutual
inductive Rep(K:PySem.W.Frag)(H:Hp):V->PyData->Prop
 |non:Rep K H .non .none
 |bl (b:Bool):Rep K H (.bl b) (.bool b)
 |int (i:Int):Rep K H (.int i) (.int i)
 |str (x:Str):Rep K H (.str x) (.str x)
 |lst {a:Addr}{xs:List V}{ds:List PyData}:SqL K H a xs->Reps K H xs ds->Rep K H (.ref a) (.list ds)
 |tup {a:Addr}{xs:List V}{ds:List PyData}:SqT K H a xs->Reps K H xs ds->Rep K H (.ref a) (.tuple ds)
inductive Reps(K:PySem.W.Frag)(H:Hp):List V->List PyData->Prop
 |nil:Reps K H [] []
 |cons {v:V}{d:PyData}{vs:List V}{ds:List PyData}:Rep K H v d->Reps K H vs ds->Reps K H (v::vs) (d::ds)
end
section
variable{X:Cx}{Yk:List (Addr×Obj)}{σ:St}{H:Hp}{s:Shared}
theorem Rep.reads(I:Inv X Yk σ H s){v:V}{d:PyData}{u:Value}(h:Rep X.K H v d):RelV v u->∃ as,Reads s.heap u d as:=
 Rep.rec (motive_1:=λv d z=>∀ u,RelV v u->∃ as,Reads s.heap u d as) (motive_2:=λvs ds z=>∀ us,Vals vs us->∃ as,ReadsAll s.heap us ds as)
  (λu r=>by cases r;exact⟨_,.none⟩)
  (λb u r=>by cases r;exact⟨_,.bool b⟩)
  (λi u r=>by obtain⟨t,rfl⟩:=r;exact⟨_,.int i t⟩)
  (λi u r=>by obtain⟨t,rfl⟩:=r;exact⟨_,.str i t⟩)
  (λh hs ih u r=>by cases r;obtain⟨its,rv,⟨o,n,h1,h2,_,h3⟩,_⟩:=I.list h;obtain⟨as,ra⟩:=ih _ rv;exact⟨_,.list h1 h2 h3 ra⟩)
  (λh hs ih u r=>by cases r;obtain⟨its,rv,⟨o,h1,h2,n,h3⟩,_⟩:=I.tuple h;obtain⟨as,ra⟩:=ih _ rv;exact⟨_,.tuple h1 h2 h3 ra⟩)
  (λu r=>by cases r;exact⟨_,.nil⟩)
  (λh hs i1 i2 u r=>by
    cases r with
    |cons r1 r2=>obtain⟨a1,e1⟩:=i1 _ r1;obtain⟨a2,e2⟩:=i2 _ r2;exact⟨_,.cons e1 e2⟩)
  h u
end
theorem same_new{H:Hp}{p:Addr}(h:H p=none)(o:HO):Same H (upd H p o):=λb u q=>by rw[upd_ne (ne_of_none q h)];exact q
section
variable{X:Cx}
noncomputable def Jl(K:PySem.W.Frag)(neg:Bool):R2:=λx y H Q=>∃da db,Rep K H x da/\Rep K H y db/\da.canLay0=true/\db.canLay0=true/\da.depth<=60/\Q (.bl (if neg then !PyData.eqv da db else PyData.eqv da db)) H
theorem Oj(hu:X.A.units+64<cLine):OpR X (compareOp .Eq) (Jl X.K false):=by intro Yk s σ H x y v u Q I rx ry h;obtain⟨da,db,ha,hb,la,lb,hd,q⟩:=h;obtain⟨as,ra⟩:=ha.reads I rx;obtain⟨bs,rb⟩:=hb.reads I ry;exact PySem.SeqAt.compareEq_reads ra rb la lb (by lia) ⟨.bl _,H,I,rfl,q⟩
theorem Ol(hu:X.A.units+64<cLine):OpR X (compareOp .NotEq) (Jl X.K true):=by intro Yk s σ H x y v u Q I rx ry h;obtain⟨da,db,ha,hb,la,lb,hd,q⟩:=h;obtain⟨as,ra⟩:=ha.reads I rx;obtain⟨bs,rb⟩:=hb.reads I ry;exact PySem.SeqAt.compareNe_reads ra rb la lb (by lia) ⟨.bl _,H,I,rfl,q⟩
noncomputable def PP(i j:Int):Prop:=IntMulOk i j
theorem K9:OpR X (binaryOp .Mult) (rI PP λi j=>.int (i*j)):=opI λz z z z z z z hc q=>mul_int q hc
theorem HY:CallR X (.builtin "isinstance") (λxs H Q=>∃x t c b,xs=[x,.ty c]/\TyOf X.K H x t/\PySem.W.kitOne X.K t (.type c)=some b/\Q (.bl b) H):=by intro Yk s σ H xs us Q I r h;obtain⟨x,t,c,b,rfl,ty,e,q⟩:=h;obtain⟨u,w',rfl,r1,r2⟩:=vals2 r;cases r2;exact isinst_ok I r1 ty e λtk=>⟨.bl b,H,I.tok _,rfl,q⟩
end
open PySem PySem.Spec PyProof.Rows
structure DefAt(K:PySem.W.Frag)(mg:Str->Option Value)(x:Str)(st:Stmt):Prop where
 ex:∃f fd,Fun K x x st f fd/\mg x=some (.ref f)
theorem Ik{K:PySem.W.Frag}{h:Heap}{mg:Str->Option Value}{x:Str}{st:Stmt}{f:Addr}{oc:Value}{od an:Option Addr}{osl:Array (Option Value)}{kV doc pm cdv ct:Value}(X:K.In h)(G:h.Ns mainGlobals mg)
  (a:PySem.W.nsIn K mainGlobals x=some (some (.ref f))) (l:K.lookup f=some ⟨oc,od,.func (PySem.W.fnOf x x (defArgs st) (defBody st) (defScope st) .none kV doc pm an cdv ct),osl⟩) (c:PySem.W.codeIn K cdv x=true) (k:PySem.W.keepIn K (.ref f)=true):DefAt K mg x st:=
 ⟨f,_,fun_mk l c k,PySem.W.mg_of X G a⟩
section
variable{X:Cx}{j k:Nat}{ps:List Str}{sp:Sp}{x:Str}{p pos:Pos}{e:Expr}{es:List Expr}{t:TA}
theorem Rq{id:String}{r:List V->Hp->VK->Prop}(hc:CallR X (.builtin id) r)(hm:X.mg x=none)(ha:PA X (e::es) t)(hg:autoParam (Gl X x) qAA)(hv:bootBuiltins x=some (.builtin id):=by decide +kernel)(hn:autoParam (x≠"__name__") qAB)(hdb:autoParam ((x==("__debug__":Str))=false) qAB)
  (he:autoParam (starEach (e::es) X.env=(false,eval e X.env)::starEach es X.env) qAA) (hpl:autoParam ((backTo pos (starEach es X.env)).any (·.1)=false) qAA) :
  PE X (.Call (.Name x p) (e::es) [] pos) (tCB r t):=pe_callB hc hg hm hv ha hn hdb he hpl
theorem Qp{T:String}(hm:X.mg x=none)(hg:autoParam (Gl X x) qAA)(hv:bootBuiltins x=some (.type T):=by decide +kernel)(hn:autoParam (x≠"__name__") qAB)(hdb:autoParam ((x==("__debug__":Str))=false) qAB):PE X (.Name x pos) (tC (.ty T)):=
 pe_bltn hg hm hv rfl hn hdb
end
end L2
namespace L2
open PySem PySem.Spec PyProof.Rows
open PySem PySem.Spec PyProof.Rows
end L2
namespace L2
open PySem PySem.Spec PyProof.Rows
noncomputable def gB(P:Program)(w:World):CXT:=λouter H s E e s'=>
 ∃(x:Addr) (C a0:Value) (H':Hp) (B:Heap),e=.ref x∧s'.os=s.os∧AllBare s'.gens∧Un (frs outer) [] H H' s.heap s'.heap∧HOk P w H' s'.heap∧Heap.FlyingW B outer x C a0 s'.heap ∧
   (∀b,H' b≠none->∃o,B.get? b=some o)/\(∀b o,s.heap.get? b=some o->b∉frs outer->∃o',B.get? b=some o')/\E C none H'
theorem Iu{env:Env}{l:List Env}{L:Addr}(h:env.frame=some L):frs (env::l)=L::frs l:=by unfold frs;rw[V3,h]
theorem Ml{fs:List Addr}{H H':Hp}{h0 h h' B:Heap}(u:Un fs [] H H' h0 h)(hB:B.StaysIn h)(hB':B.StaysIn h')(up:h.UpToSlots h')
  (fr:∀b∈fs,∃o,h.get? b=some o/\∀vs,o.data≠.fields vs) (cov:∀b o,h0.get? b=some o->b∉fs->∃o',B.get? b=some o'):Un fs [] H H' h0 h' where
 keep b o e n hb hx:=by have h1:=u.keep b o e n hb hx;obtain⟨o',e'⟩:=cov b o e hb;have h2:=hB b o' e';rw[h1]at h2;cases h2;exact hB' b o e'
 slot b o e n hb hx:=by obtain⟨sl,h1⟩:=u.slot b o e n hb hx;obtain⟨o1,h2,nf⟩:=fr b hb;rw[h1]at h2;cases h2;obtain⟨sl2,h3⟩:=up b _ h1 nf;exact⟨sl2,h3⟩
 free:=u.free
 there b o e hx:=by
  by_cases hb:b∈fs
  ·obtain⟨o1,h2,nf⟩:=fr b hb;obtain⟨sl2,h3⟩:=up b _ h2 nf;exact⟨_,h3⟩
  ·obtain⟨o',e'⟩:=cov b o e hb;exact⟨o',hB' b o' e'⟩
 tups:=u.tups
 frzs:=u.frzs
 tbls:=u.tbls
theorem Iw{P:Program}{w:World}{H':Hp}{h h' B:Heap}(ok:HOk P w H' h)(hB:B.StaysIn h)(hB':B.StaysIn h')(cov:∀ b,H' b≠none->∃ o,B.get? b=some o):HOk P w H' h':=λa o e=>
 (ok a o e).stay (λb u hb hu=>by
   have hn:H' b≠none:=by
    rcases hb with rfl | hb
    ·rw[e];simp
    ·rw[hb];simp
   obtain⟨o',e'⟩:=cov b hn;have:=hB b o' e';rw[hu]at this;cases this;exact hB' b u e') (λz h=>h) (λz z h=>h)
section
variable{P:Program}{w:World}{K:PySem.W.Frag}{mg:Str->Option Value}{base:Heap}{N:List Str}{qual:Str}{scope:Scope}{f:Addr}{cd:Value}{A:Around}{outer:List Env}{s:Shared}{H:Hp}{E:XK}
noncomputable abbrev jn(P:Program)(w:World)(K:PySem.W.Frag)(mg:Str->Option Value)(base:Heap)(N:List Str)(qual:Str)(scope:Scope)(f:Addr)(cd:Value)(A:Around)(outer:List Env)(s:Shared)(H:Hp)(E:XK):Cx:=
 cxOf (gB P w) P w K mg base N qual scope f cd A outer s H E
theorem aV:Passes (gB P w) (jn P w K mg base N qual scope f cd A outer s H E) E:=by
 intro Yk σ H1 s1 e s' I hf;obtain⟨x,C,a0,H',B,rfl,os,bare,un,hok,fl,ci,cii,q⟩:=hf;have J:Inv (jn P w K mg base N qual scope f cd A outer s H E) Yk σ H' s':=I.call' (ch:=[]) os un hok bare (λb z=>absurd z (by simp))
 have hfr:(jn P w K mg base N qual scope f cd A outer s H E).A.frames=some ((jn P w K mg base N qual scope f cd A outer s H E).env::outer):=I.ok.frames;have hfs:∀b∈frs outer,∃o,s'.heap.get? b=some o/\∀vs,o.data≠.fields vs:=λb hb=>(fl.2.2.1.2.2.mem hb).2
 have hfrm:(jn P w K mg base N qual scope f cd A outer s H E).env.frame=some (jn P w K mg base N qual scope f cd A outer s H E).env.locals:=rfl;have cov:∀b o,s.heap.get? b=some o->b∉frs outer->∃o',B.get? b=some o':=λb o e hb=>by
  obtain⟨o1,h1⟩:=I.base.there b o e (show b∉([]:List Addr) by simp)
  refine cii b o1 h1 ?_;show b∉frs ((jn P w K mg base N qual scope f cd A outer s H E).env::outer);rw[Iu hfrm];intro hm;rcases TV.mp hm with rfl | hm
  ·exact absurd (Tt e) (Wd.mpr I.ok.above)
  ·exact hb hm
 show wpAny _ _ (leaving _ (.ref x)) _ _ s';refine wpAny_leaves_onW hfr rfl fl λh' fl' up=>?_
 exact⟨x,C,a0,H',B,rfl,J.os,bare,Ml J.base fl.1 fl'.1 up hfs cov,Iw hok fl.1 fl'.1 ci,fl',ci,cov,q⟩
end
noncomputable def pick(js:List Nat)(σ:St):St:=js.map λj=>(σ[j]?).getD none
theorem HF(u:Un fs ex H H' h0 h)(hs:Heap.SameBut C h h')(hC:h0.objs.size<=C):Un fs ex H H' h0 h' where
 keep b o e n hb hx:=(hs.2 b (TF (TY (Tt e) hC))).trans (u.keep b o e n hb hx)
 slot b o e n hb hx:=by obtain⟨sl,e1⟩:=u.slot b o e n hb hx;exact⟨sl,(hs.2 b (TF (TY (Tt e) hC))).trans e1⟩
 free:=u.free
 there b o e hx:=by obtain⟨o',e1⟩:=u.there b o e hx;exact⟨o',(hs.2 b (TF (TY (Tt e) hC))).trans e1⟩
 tups:=u.tups
 frzs:=u.frzs
 tbls:=u.tbls
theorem Be(ok:HOk P w H h)(hs:Heap.SameBut C h h')(hC:H C=none):HOk P w H h':=λb ob e=>
 (ok b ob e).stay (λc w' hc q=>(hs.2 c (by
   rintro rfl;rcases hc with hc | hc
   ·rw[<-hc,hC]at e;cases e
   ·rw[hC]at hc;cases hc)).trans q) (λz q=>q) λz z q=>q
structure DefC(P:Program)(w:World)(K:PySem.W.Frag)(mg:Str->Option Value)(base:Heap)(k:Nat)(x:Str)(ps:List Str)(sp:Sp):Prop where
 ex:∃f fd,FnOk P w K mg base (gB P w) k f fd ps sp/\Binds K fd ps []/\PySem.W.keepIn K (.ref f)=true/\mg x=some (.ref f)
section
variable{P:Program}{w:World}{K:PySem.W.Frag}{mg:Str->Option Value}{base:Heap}{k:Nat}{x:Str}{N ps:List Str}{sp:Sp}{st:Stmt}
theorem Q3(F:Fun K x x st f fd)(S:FnScope N ps (defScope st))(len:∀ vs H Q E,sp vs H Q E->vs.length=ps.length)
  (hbody:∀(cdv:Value) (A:Around) (outer:List Env) (s:Shared) (H:Hp) (vs:List V) (Q:VK) (E:XK),Room k (A.deeper (envOfC x (defScope st) s.heap.objs.size f cdv))->sp vs H Q E->
    ∃t,PSs (jn P w K mg base N x (defScope st) f cdv A outer s H E) (defBody st) t/\t { nx:=λz H'=>Q .non H',rt:=Q } (start N vs) H):FnOk P w K mg base (gB P w) (k+1) f fd ps sp:=by
 obtain⟨oc,od,kV,doc,pm,an,cdv,ct,osl,rfl,l,c⟩:=F.ex;exact fn_of l c S len (hbody cdv)
theorem DefAt.okE(D:DefAt K mg x st)(S:FnScope N ps (defScope st))(hb:∀ (kV doc pm:Value) (an:Option Addr) (cdv ct:Value) (us:List Value),us.length=ps.length->bindArgs (PySem.W.fnOf x x (defArgs st) (defBody st) (defScope st) .none kV doc pm an cdv ct) ⟨us,[]⟩=pure (ps.zip us))
  (len:∀vs H Q E,sp vs H Q E->vs.length=ps.length)
  (hbody:∀(f:Addr) (cdv:Value) (A:Around) (outer:List Env) (s:Shared) (H:Hp) (vs:List V) (Q:VK) (E:XK),Room k (A.deeper (envOfC x (defScope st) s.heap.objs.size f cdv))->sp vs H Q E->
    ∃t,PSs (jn P w K mg base N x (defScope st) f cdv A outer s H E) (defBody st) t/\t { nx:=λz H'=>Q .non H',rt:=Q } (start N vs) H):DefC P w K mg base (k+1) x ps sp:=by
 obtain⟨f,fd,F,m⟩:=D.ex;exact⟨f,fd,Q3 F S len (hbody f),F.binds hb,F.kp,m⟩
end
theorem jU:Passes (gB P w) X E0:=λz z z z z z z h=>by obtain⟨_,_,_,_,_,_,_,_,_,_,_,_,_,q⟩:=h;exact q.elim
section
variable{X:Cx}{j k:Nat}{ps:List Str}{sp:Sp}{x:Str}{p pos:Pos}{e:Expr}{es:List Expr}{t:TA}{E:XK}
theorem Jg(D:DefC X.prog X.w X.K X.mg X.base j x ps sp)(hr:Room k X.A)(hx:Passes (gB X.prog X.w) X E)(ha:PA X (e::es) t)(hjk:autoParam (j<=k) qAB)(hg:autoParam (Gl X x) qAA)(hdb:autoParam ((x==("__debug__":Str))=false) qAB)
  (he:autoParam (starEach (e::es) X.env=(false,eval e X.env)::starEach es X.env) qAA) (hpl:autoParam ((backTo pos (starEach es X.env)).any (·.1)=false) qAA) :
  PE X (.Call (.Name x p) (e::es) [] pos) (tCall sp [] E t):=by
 obtain⟨f,fd,F,b,kp,m⟩:=D.ex;exact pe_call F (hr.mono hjk) hg m kp b .nil hx ha hdb he hpl
end
section
variable{κ:Type}[DecidableEq κ]
noncomputable def putK(kvs:List (κ×V))(k:κ)(v:V):List (κ×V):=
 if (kvs.any λkv=>decide (kv.1=k))=true then kvs.map (λkv=>if kv.1=k then (kv.1,v) else kv) else kvs++[(k,v)]
theorem length_putK(kvs:List (κ×V))(k:κ)(v:V):(putK kvs k v).length<=kvs.length+1:=by
 unfold putK;split
 ·rw[Tz];lia
 ·rw[T3,Ve,List.length_nil];lia
theorem KV.any(r:KV kvs vs)(k:κ):(kvs.any λkv=>decide (kv.1=k))=vs.any λkv=>decide (kv.1=k):=by
 unfold KV at r;induction r with
 |nil=>rfl
 |cons h t ih=>rw[XH,XH,ih,h.1]
theorem KV.repl(r:KV kvs vs)(k:κ)(ry:RelV y u):
  KV (kvs.map λkv=>if kv.1=k then (kv.1,y) else kv) (vs.map λkv=>if kv.1=k then (kv.1,u) else kv):=by
 unfold KV at r ⊢
 induction r with
 |nil=>exact .nil
 | @cons p q ps qs h t ih=>
   rw[Uu,Uu];refine .cons ?_ ih;obtain⟨h1,h2⟩:=h;by_cases e:p.1=k
   ·rw[Tv e,Tv (h1.symm.trans e)];exact⟨h1,ry⟩
   ·rw[Tw e,Tw (λz=>e (h1.trans z))];exact⟨h1,h2⟩
theorem KV.put(r:KV kvs vs)(k:κ)(ry:RelV y u):KV (putK kvs k y) (stored vs k u):=by
 unfold putK stored;rw[r.any k];by_cases e:(vs.any λkv=>decide (kv.1=k))=true
 ·rw[Tv e,Tv e];exact r.repl k ry
 ·rw[Tw e,Tw e];exact Paired.snoc r ⟨rfl,ry⟩
end
theorem kV_is(r:RelV (kV k) u):(mixKind P w).is k u=true:=by
 cases k with
 |inl i=>obtain⟨t,e⟩:=(show ∃t,u=Value.int i t from r);subst e;exact mixKind_int P w i t
 |inr x=>obtain⟨t,e⟩:=(show ∃t,u=Value.str x t from r);subst e;exact mixKind_str P w x t
section
variable{P:Program}{w:World}{H:Hp}{h:Heap}{a:Addr}
theorem rd_of(ok:HOk P w H h)(e:Rd H a u):ObjOk P w H h a u:=e.ok ok
theorem dk_rd(ok:HOk P w H h)(e:Rd H a (.dK kvs)):kvs.length<=sizeLine/\(a==sysModules)=false/\∃vs,KV kvs vs/\h.DictOf (mixKind P w) a vs:=
 show ObjOk P w H h a (.dK kvs) from rd_of ok e
theorem dk_of(ok:HOk P w H h)(e:H a=some (.dK kvs)):kvs.length<=sizeLine/\(a==sysModules)=false/\∃vs,KV kvs vs/\h.DictOf (mixKind P w) a vs:=dk_rd ok (.inl e)
end
section
variable{X:Cx}{Yk:List (Addr×Obj)}{σ:St}{H:Hp}{s:Shared}{a:Addr}{y v:V}{u r:Value}{o:Option V}{A:Around}{E:Value->Shared->Prop}
theorem Inv.big(I:Inv X Yk σ H s):sysModules<s.heap.objs.size:=by have h:mainGlobals<s.heap.objs.size:=(I.mod.glob.keeps I.bk).lt;exact W3 (by decide) h
theorem d_write(I:Inv X Yk σ H s)(mu:Mut (H a))(hs:Heap.SameBut a s.heap h')(he:∃q,h'.get? a=some q)(new:ObjOk X.prog X.w (upd H a ob) h' a ob):
  Inv X Yk σ (upd H a ob) { s with heap:=h',toks:=t' }:=
 I.write (x:=a) (e:=a) mu (.inl rfl) (λb q hb z=>(hs.2 b hb).trans z) he new
theorem dk_new(z:kvs.length<=sizeLine)(hd:(a==sysModules)=false)(rel:KV kvs vs)(dd:h'.DictOf (mixKind P w) a vs):
  ObjOk P w H' h' a (.dK kvs):=⟨z,hd,vs,rel,dd⟩
end
theorem dk_empty(h:Heap)(hb:sysModules<h.objs.size):ObjOk P w H (h.push { cls:=.type "dict",data:=.dict #[] }) h.objs.size (.dK []):=
 ⟨Vl _,V5.mpr (Ne.symm (TF hb)),[],.nil,Heap.DictOf.new h⟩
noncomputable def tDNewK:TE:=λz H Q=>∀p,H p=none->Q (.ref p) (upd H p (.dK []))
section
variable{X:Cx}{pos:Pos}
theorem pe_dnewK:PE X (.Dict [] [] pos) tDNewK:=λYk s σ H Q I h=>
 wpAny_Dict_empty ⟨.ref s.heap.objs.size,_,I.laid (a:=s.heap.objs.size) (o:=.dK []) (t':=s.toks) (λz z q=>Tf _ q) (Tq _) (dk_empty s.heap I.big),rfl,h _ (I.hok.fresh (Tq _))⟩
end
noncomputable def tPairs:List (TE×TE)->St->Hp->(List (V×V)->Hp->Prop)->Prop
 |[],_,H,Q=>Q [] H
 |(tk,tv)::r,σ,H,Q=>tk σ H λx H1=>tv σ H1 λy H2=>tPairs r σ H2 λps H3=>Q ((x,y)::ps) H3
noncomputable abbrev VV:List (V×V)->List (Value×Value)->Prop:=Paired λp q=>RelV p.1 q.1/\RelV p.2 q.2
noncomputable def PPs(X:Cx)(pos:Pos)(keys:List (Option Expr))(values:List Expr)(trs:List (TE×TE)):Prop:=
 ∀(Yk:List (Addr×Obj)) (s:Shared) (σ:St) (H:Hp) (Q:List (V×V)->Hp->Prop),Inv X Yk σ H s->tPairs trs σ H Q->
   wpAny (model X.prog X.w) X.A (evalPairs (pairTrees keys values X.env pos)) (λvs s'=>∃ps H',Inv X Yk σ H' s'/\VV ps vs/\Q ps H') X.xe s
theorem pps_nil:PPs X pos [] [] []:=λYk s σ H Q I h=>pairTrees_nil_walk ⟨[],H,I,.nil,h⟩
theorem pps_cons(hk:PE X k tk)(hv:PE X v tv)(hr:PPs X pos ks vs trs):
  PPs X pos (some k::ks) (v::vs) ((tk,tv)::trs):=λYk s σ H Q I h=>
 pairTrees_cons_walk (thn (hk Yk s σ H _ I h) λu s1 ⟨x,H1,I1,rx,q1⟩=>thn (hv Yk s1 σ H1 _ I1 q1) λw2 s2 ⟨y,H2,I2,ry,q2⟩=>
  thn (hr Yk s2 σ H2 _ I2 q2) λws s3 ⟨ps,H3,I3,rel,q3⟩=>⟨(x,y)::ps,H3,I3,.cons ⟨rx,ry⟩ rel,q3⟩)
noncomputable def mergeK(kvs more:List (Key×V)):List (Key×V):=more.foldl (λacc kv=>putK acc kv.1 kv.2) kvs
theorem KV.merge:∀ {more:List (Key×V)}{rs:List (Key×Value)}{kvs:List (Key×V)}{vs:List (Key×Value)},KV more rs->KV kvs vs->KV (mergeK kvs more) (merged vs rs):=by
 intro more rs kvs vs r;unfold KV at r;induction r generalizing kvs vs with
 |nil=>intro q;exact q
 | @cons p q ps qs h t ih=>
   intro r0;have e:KV (putK kvs p.1 p.2) (stored vs q.1 q.2):=by have:=r0.put p.1 h.2;rw[<-h.1];exact this
   exact ih e
theorem length_mergeK:∀ (more kvs:List (Key×V)),(mergeK kvs more).length<=kvs.length + more.length
 |[],kvs=>by show kvs.length<=kvs.length+0;lia
 |p::r,kvs=>by have h1:=length_mergeK r (putK kvs p.1 p.2);have h2:=length_putK kvs p.1 p.2;show (mergeK (putK kvs p.1 p.2) r).length<=_;rw[Ve];lia
theorem carries_of:∀ {kvs:List (Key×V)}{ws:List (Value×Value)},VV (kvs.map λkv=>(kV kv.1,kv.2)) ws->∃ rs,Carries (mixKind P w) ws rs/\KV kvs rs
 |[],_,r=>by rw[List.map_nil]at r;cases r;exact⟨[],True.intro,.nil⟩
 | p::kvs,_,r=>by
   rw[Uu]at r;cases r with
   | @cons a b as bs h t=>obtain⟨rs,c,q⟩:=carries_of (P:=P) (w:=w) t;obtain⟨b1,b2⟩:=b;exact⟨(p.1,b2)::rs,⟨kV_is h.1,rfl,c⟩,.cons ⟨rfl,h.2⟩ q⟩
noncomputable def tDisp(trs:List (TE×TE)):TE:=λσ H Q=>∀p,H p=none->tPairs trs σ (upd H p (.dK [])) λps H2=>H2 p=some (.dK [])/\∃kvs:List (Key×V),ps=kvs.map (λkv=>(kV kv.1,kv.2))/\kvs.length<=15/\Q (.ref p) (upd H2 p (.dK (mergeK [] kvs)))
theorem pe_disp(h:PPs X pos keys values trs)(hall:keys.all (·.isSome)=true)(hl:keys.length=values.length)(h0:keys≠[])
  (h15:keys.length<=15):PE X (.Dict keys values pos) (tDisp trs):=by
 intro Yk s σ H Q I q;have hn:=I.hok.fresh (Tq s.heap.objs.size);have I1:=I.laid (a:=s.heap.objs.size) (o:=.dK []) (h':=s.heap.push { cls:=.type "dict",data:=.dict #[] }) (t':=s.toks) (λy y q=>Tf _ q) (Tq _) (dk_empty s.heap I.big)
 refine wpAny_Dict_walk (knd:=mixKind X.prog X.w) hall hl h0 h15 (thn (h Yk _ σ _ _ I1 (q _ hn)) λws s2 ⟨ps,H2,I2,rel,e,kvs,ep,lk,q2⟩=>?_)
 subst ep;obtain⟨rs,c,rk⟩:=carries_of (P:=X.prog) (w:=X.w) rel;obtain⟨z,hd,vs0,r0,dd⟩:=dk_of I2.hok e;cases r0;refine⟨rs,c,dd,λh' dd' hs=>⟨.ref s.heap.objs.size,_,?_,rfl,q2⟩⟩
 have hz:(mergeK [] kvs).length<=sizeLine:=by have h1:=length_mergeK kvs [];rw[List.length_nil]at h1;rw[VM];lia
 have he:∃q,h'.get? s.heap.objs.size=some q:=let ⟨q,_,_,hq,_⟩:=dd';⟨q,hq⟩
 exact d_write I2 (by rw[e];exact True.intro) hs he (dk_new hz hd (rk.merge .nil) dd')
end L2
namespace HT
open PySem PySem.Spec PyProof.Rows PySem.W
section
variable{prog:Program}{w:World}{A:Around}{E:Value->Shared->Prop}{s:Shared}
theorem H8{vs ws:List Value}{Q:Value->Shared->Prop}(ht:IsTup s.heap t vs.toArray)(hb:IsTup s.heap b ws.toArray)(hv:vs=[])
  (h1:Q (.ref b) s):wpAny (model prog w) A (binaryOp .Add (.ref t) (.ref b)) Q E s:=by
 obtain⟨⟨cls,dd,data,sl⟩,ho,hc,n,hd⟩:=id ht;obtain⟨⟨cls2,dd2,data2,sl2⟩,ho2,hc2,n2,hd2⟩:=id hb;simp only at hc hd hc2 hd2;subst hc hd hc2 hd2;exact concat_meets ⟨_,ho,rfl⟩ ⟨_,ho2,rfl⟩ noFill_tuple_add seq_tuple_add XD Xr (Xj _ _)
   (tuple_addW0 t b vs.toArray ws.toArray n n2 dd dd2 sl sl2 (by simp[hv])) ⟨ho,ho2,h1⟩
theorem rJ{items:Array Value}{lo hi:Option Int}{Q:Value->Shared->Prop}(ht:IsTup s.heap t items)(hs:s.heap.IsSliceOf sl vl vu .none)(pl:IsPart vl lo)(pu:IsPart vu hi)
  (hw:sIx items.size 0 lo=0/\sIx items.size items.size hi=items.size) (h:Q (.ref t) s):wpAny (model prog w) A (getItem (.ref t) (.ref sl)) Q E s:=by
 obtain⟨os,hos,hcs,hds⟩:=id hs;obtain⟨ot,hot,hct,nt,hdt⟩:=id ht;have hTs:s.TypeIs (.ref sl) "slice":=⟨os,hos,hcs⟩;have hTt:s.TypeIs (.ref t) "tuple":=⟨ot,hot,hct⟩;unfold getItem
 try with_reducible refine Uy ?_
 first | refine Te (Th ?_) | skip
 refine Te (wpAny_sequenceKey ht.typeIs (by decide) ?_)
 refine Te (Ur (name:=Str.ofString "__getitem__") ht.typeIs Vm
  (Uw Vm ht.typeIs entry_tuple_getitem ?_ (args_tuple_getitem _ _)))
 show wpAny _ _ (Builtin.Tuple.tupleItemsOf (.ref t)>>=_) _ _ s;refine Te (tupleItemsOf_ ht ?_);refine Te (Wn hTs ?_);rw[Tv (by decide)]
 refine Te (sliceApplied_gen hs pl pu ?_);have hno:((((sIx items.size 0 lo:Nat):Int)==0&&(1:Int)==1&&(sIx items.size items.size hi-sIx items.size 0 lo)==items.size)=true):=by rw[hw.1,hw.2];simp
 show wpAny _ _ (if (((sIx items.size 0 lo:Nat):Int)==0&&(1:Int)==1&&(sIx items.size items.size hi-sIx items.size 0 lo)==items.size)=true then _ else _) _ _ s
 rw[Tv hno];unfold Builtin.Tuple.tupleIsExact;refine Te ?_;refine Te (Wn hTt (Th ?_));rw[Tv (by decide)]
 exact Te (VN (Th ⟨_,rfl,Th h⟩))
end
end HT
namespace L2
open PySem PySem.Spec PyProof.Rows
section
variable{X:Cx}
theorem Ie{xs:List V}{lo hi:Option Int}(h:HT.sIx xs.length 0 lo=0/\HT.sIx xs.length xs.length hi=xs.length):cutV xs lo hi=xs:=by unfold cutV;rw[h.1,h.2];simp
noncomputable def Ru:V->Option Int->Option Int->Hp->VK->Prop:=λx lo hi H Q=>∃a xs,x=.ref a/\H a=some (.tup xs)/\∀p H',Same H H'->H' p=some (.tup (cutV xs lo hi))->Q (.ref p) H'
theorem Ly:SlR X Ru:=by
 intro Yk s σ H x v vl vu lo hi sl Q I rx hs pl pu h;obtain⟨a,xs,rfl,hx,q⟩:=h;by_cases hw:HT.sIx xs.length 0 lo=0/\HT.sIx xs.length xs.length hi=xs.length
 ·cases rx;obtain⟨its,r,ht,hz⟩:=I.tuple (SqT.of hx);have hlen:its.toArray.size=xs.length:=by rw[TX];exact r.length.symm
  refine⟨"tuple",_,PyProof.Rows.slot_tuple_getitem.lookup,ht.typeIs,?_⟩;refine HT.rJ ht hs pl pu (by rw[hlen];exact hw) ⟨.ref a,H,I,rfl,q a H (Same.refl _) (by rw[Ie hw];exact hx)⟩
 ·exact sl_tup (X:=X) Yk s σ H _ v vl vu lo hi sl Q I rx hs pl pu ⟨a,xs,rfl,SqT.of hx,hw,λp hp=>q p _ (same_new hp _) upd_same⟩
noncomputable def Qq:R2:=λx y H Q=>∃a b xs ys,x=.ref a/\y=.ref b/\H a=some (.tup xs)/\H b=some (.tup ys)/\xs.length+ys.length<=sizeLine/\∀p H',Same H H'->H' p=some (.tup (xs++ys))->Q (.ref p) H'
theorem K7:OpR X (binaryOp .Add) Qq:=by
 intro Yk s σ H x y v u Q I rx ry h;obtain⟨a,b,xs,ys,rfl,rfl,ha,hb,hz,q⟩:=h;by_cases hx:xs=[]
 ·cases rx;cases ry;obtain⟨its,r1,p1,_⟩:=I.tuple (SqT.of ha);obtain⟨its2,r2,p2,_⟩:=I.tuple (SqT.of hb);exact HT.H8 p1 p2 (r1.nil_iff.mpr hx) ⟨.ref b,H,I,rfl,q b H (Same.refl _) (by rw[hx,X8];exact hb)⟩
 ·exact op_catT (X:=X) Yk s σ H _ _ v u Q I rx ry ⟨a,b,xs,ys,rfl,rfl,SqT.of ha,SqT.of hb,hx,hz,λe=>q a H (Same.refl _) (by rw[e,Wr];exact ha),λz p hp=>q p _ (same_new hp _) upd_same⟩
end
mutual
inductive RepF(H:Hp):Bool->V->PyData->Prop
 |non {f:Bool}:RepF H f .non .none
 |bl {f:Bool} (b:Bool):RepF H f (.bl b) (.bool b)
 |int {f:Bool} (i:Int):RepF H f (.int i) (.int i)
 |str {f:Bool} (x:Str):RepF H f (.str x) (.str x)
 |lst {f:Bool}{a:Addr}{xs:List V}{ds:List PyData}:H a=some (.lst xs)->RepsF H f xs ds->RepF H f (.ref a) (.list ds)
 |tup {f:Bool}{a:Addr}{xs:List V}{ds:List PyData}:H a=some (.tup xs)->RepsF H f xs ds->RepF H f (.ref a) (.tuple ds)
 |d0 {a:Addr}:H a=some (.dK [])->RepF H false (.ref a) (.dict [])
 |d1 {a:Addr}{i j:Int}:H a=some (.dK [(.inl i,.int j)])->RepF H false (.ref a) (.dict [(.int i,.int j)])
inductive RepsF(H:Hp):Bool->List V->List PyData->Prop
 |nil {f:Bool}:RepsF H f [] []
 |cons {f:Bool}{v:V}{d:PyData}{vs:List V}{ds:List PyData}:RepF H f v d->RepsF H f vs ds->RepsF H f (v::vs) (d::ds)
end
section
variable{X:Cx}{Yk:List (Addr×Obj)}{σ:St}{H:Hp}{s:Shared}
theorem KN{P:Program}{w:World}{i:Int}{v:Value}(h:(mixKind P w).is (.inl i) v=true):∃ t,v=.int i t:=by
 cases v with
 | int a t=>
   have e:decide (i=a)=true\/decide (a=i)=true\/(a==i)=true\/(i==a)=true:=by
    first | exact .inl h | exact .inr (.inl h) | exact .inr (.inr (.inl h)) | exact .inr (.inr (.inr h))
   have:a=i:=by rcases e with e | e | e | e<;>simp at e<;>lia
   exact⟨t,by rw[this]⟩
 |_=>first | cases h | (simp[mixKind]at h)
theorem Dv(I:Inv X Yk σ H s){a:Addr}(h:H a=some (.dK [])):∃as,Reads s.heap (.ref a) (.dict []) as/\sysModules∉as:=by
 obtain⟨_,hd,vs,r0,⟨o,es,ep,h1,h2,h3,h4,h5,h6⟩⟩:([]:List (Key×V)).length<=sizeLine/\(a==sysModules)=false/\∃vs,KV [] vs/\s.heap.DictOf (mixKind X.prog X.w) a vs:=I.hok a _ h;cases r0;have he:es.toList=[]:=by cases hx:es.toList with
  |nil=>rfl
  |cons e es'=>rw[hx]at h5;cases h5
 refine⟨_,.dict (kvs:=[]) h1 h2.1 h3 (by rw[he];exact .nil) (by rw[he];exact .nil),?_⟩
 simp only[List.append_nil,List.mem_singleton];exact λz=>(V5.mp hd) z.symm
set_option tactic.hygienic true in
theorem Dw(I:Inv X Yk σ H s){a:Addr}{i j:Int}(h:H a=some (.dK [(.inl i,.int j)])):∃ as,Reads s.heap (.ref a) (.dict [(.int i,.int j)]) as/\sysModules∉as:=by
 obtain⟨_,hd,vs,r0,⟨o,es,ep,h1,h2,h3,h4,h5,h6⟩⟩:([(Sum.inl i,V.int j)]:List (Key×V)).length<=sizeLine/\(a==sysModules)=false/\∃vs,KV [(Sum.inl i,V.int j)] vs/\s.heap.DictOf (mixKind X.prog X.w) a vs:=I.hok a _ h;cases r0 with
 | @cons p q ps qs hq t=>
   cases t;obtain⟨e1,tv,e2⟩:=hq;obtain⟨q1,q2⟩:=q;dsimp only at e1 e2;subst e1 e2;generalize hx:es.toList=el at h5;cases h5 with
   |cons g1 g2 g3=>
     cases g3;rename_i e;obtain⟨tk,ek⟩:=KN g1;dsimp only at g2;refine⟨_,.dict (kvs:=[(.int i,.int j)]) h1 h2.1 h3 (as:=[]++[]) (bs:=[]++[]) (by rw[hx];exact .cons (by show Reads _ e.key _ _;rw[ek];exact .int i tk) .nil) (by rw[hx];exact .cons (by show Reads _ e.val _ _;rw[g2];exact .int j tv) .nil),?_⟩
     simp only[List.append_nil,List.mem_singleton];exact λz=>(V5.mp hd) z.symm
theorem RepsF.reads(I:Inv X Yk σ H s){f:Bool}{vs:List V}{ds:List PyData}{us:List Value}(h:RepsF H f vs ds):Vals vs us->∃ as,ReadsAll s.heap us ds as:=
 RepsF.rec (motive_1:=λf v d z=>∀ u,RelV v u->∃ as,Reads s.heap u d as) (motive_2:=λf vs ds z=>∀ us,Vals vs us->∃ as,ReadsAll s.heap us ds as)
  (λu r=>by cases r;exact⟨_,.none⟩)
  (λb u r=>by cases r;exact⟨_,.bool b⟩)
  (λi u r=>by obtain⟨t,rfl⟩:=r;exact⟨_,.int i t⟩)
  (λi u r=>by obtain⟨t,rfl⟩:=r;exact⟨_,.str i t⟩)
  (λh hs ih u r=>by cases r;obtain⟨its,rv,⟨o,n,h1,h2,_,h3⟩,_⟩:=I.list (SqL.of h);obtain⟨as,ra⟩:=ih _ rv;exact⟨_,.list h1 h2 h3 ra⟩)
  (λh hs ih u r=>by cases r;obtain⟨its,rv,⟨o,h1,h2,n,h3⟩,_⟩:=I.tuple (SqT.of h);obtain⟨as,ra⟩:=ih _ rv;exact⟨_,.tuple h1 h2 h3 ra⟩)
  (λh u r=>by cases r;obtain⟨as,ra,_⟩:=Dv I h;exact⟨as,ra⟩)
  (λh u r=>by cases r;obtain⟨as,ra,_⟩:=Dw I h;exact⟨as,ra⟩)
  (λu r=>by cases r;exact⟨_,.nil⟩)
  (λh hs i1 i2 u r=>by
    cases r with
    |cons r1 r2=>obtain⟨a1,e1⟩:=i1 _ r1;obtain⟨a2,e2⟩:=i2 _ r2;exact⟨_,.cons e1 e2⟩)
  h us
theorem xN{a:Addr}{d:PyData}{as bs:List Addr}{n:Nat}(r:Reads s.heap (.ref a) d as)(hd:d.depth=n+1)(hb:ReadAtMost s.heap n bs):a∉bs/\ReadAtMost s.heap d.depth (a::bs):=
 ⟨not_mem_of_deeper r (by lia) hb,hd ▸ ReadAtMost.cons r (by lia) hb⟩
theorem RepsF.k(I:Inv X Yk σ H s){f:Bool}{vs:List V}{ds:List PyData}{us:List Value}(h:RepsF H f vs ds):Vals vs us->PyData.showableAll ds=true->(∀ t∈PyData.shownAll ds,t.length<=sizeLine)->∃ bs,ReadAtMost s.heap (PyData.depthAll ds) bs/\ReprAllK X.prog X.w bs s.heap (PyData.depthAll ds) us (PyData.shownAll ds):=
 RepsF.rec (motive_1:=λf v d q=>∀ u,RelV v u->d.showable=true->d.shown.length<=sizeLine->∃ bs,ReadAtMost s.heap d.depth bs/\ReprK X.prog X.w bs s.heap d.depth u d.shown) (motive_2:=λf vs ds q=>∀ us,Vals vs us->PyData.showableAll ds=true->(∀ t∈PyData.shownAll ds,t.length<=sizeLine)->∃ bs,ReadAtMost s.heap (PyData.depthAll ds) bs/\ReprAllK X.prog X.w bs s.heap (PyData.depthAll ds) us (PyData.shownAll ds))
  (λu r hs hz=>by cases r;exact W4 .none hs (λz=>by simp[PyData.hasDict]at z) hz)
  (λb u r hs hz=>by cases r;exact W4 (.bool b) hs (λz=>by simp[PyData.hasDict]at z) hz)
  (λi u r hs hz=>by obtain⟨t,rfl⟩:=r;exact W4 (.int i t) hs (λz=>by simp[PyData.hasDict]at z) hz)
  (λi u r hs hz=>by obtain⟨t,rfl⟩:=r;exact W4 (.str i t) hs (λz=>by simp[PyData.hasDict]at z) hz)
  (λ{_ _ _ xs} h hs ih u r hs' hz=>by
    cases r;obtain⟨its,rv,⟨o,n,h1,h2,_,h3⟩,_⟩:=I.list (SqL.of h);obtain⟨as,ra⟩:=RepsF.reads I hs rv;have hz':(listText (PyData.shownAll xs)).length<=sizeLine:=by simpa only[PyData.shown] using hz
    obtain⟨bs,hb,hk⟩:=ih _ rv (by simpa only[PyData.showable] using hs') λt ht=>Ue (listText_mem_le ht) hz'
    obtain⟨hn,hc⟩:=xN (.list h1 h2 h3 ra) (by simp only[PyData.depth]) hb
    refine⟨_,hc,?_⟩;simp only[PyData.depth,PyData.shown];cases its with
    |nil=>cases ra;simp only[PyData.shownAll,listText_nil];exact ReprK.listEmpty h1 h2 h3
    |cons x l=>exact ReprK.list h1 h2 h3 hn (by simpa using hk.length_eq) λi y e=>hk.item i y (by simpa using e))
  (λ{_ _ _ xs} h hs ih u r hs' hz=>by
    cases r;obtain⟨its,rv,⟨o,h1,h2,n,h3⟩,_⟩:=I.tuple (SqT.of h);obtain⟨as,ra⟩:=RepsF.reads I hs rv;have hz':(tupleText (PyData.shownAll xs)).length<=sizeLine:=by simpa only[PyData.shown] using hz
    obtain⟨bs,hb,hk⟩:=ih _ rv (by simpa only[PyData.showable] using hs') λt ht=>Ue (tupleText_mem_le ht) hz'
    obtain⟨hn,hc⟩:=xN (.tuple h1 h2 h3 ra) (by simp only[PyData.depth]) hb
    refine⟨_,hc,?_⟩;simp only[PyData.depth,PyData.shown];exact ReprK.tuple h1 h2 h3 hn hk)
  (λh u r hs hz=>by cases r;obtain⟨as,ra,n⟩:=Dv I h;exact W4 ra hs (λq=>n) hz)
  (λh u r hs hz=>by cases r;obtain⟨as,ra,n⟩:=Dw I h;exact W4 ra hs (λq=>n) hz)
  (λus r q q=>by cases r;exact⟨[],(λq h=>nomatch h),by simp only[PyData.shownAll];exact .nil⟩)
  (λ{_ _ d _ ds} h hs i1 i2 us r hs' hz=>by
    cases r with
    |cons r1 r2=>
      have hh:d.showable=true/\PyData.showableAll ds=true:=by simpa[PyData.showableAll] using hs'
      obtain⟨b1,q1,k1⟩:=i1 _ r1 hh.1 (hz _ (by simp only[PyData.shownAll];exact .head _))
      obtain⟨b2,q2,k2⟩:=i2 _ r2 hh.2 λt ht=>hz t (by simp only[PyData.shownAll];exact .tail _ ht)
      simp only[PyData.depthAll,PyData.shownAll];exact⟨b1++b2,(q1.mono (Nat.le_max_left _ _)).append (q2.mono (Nat.le_max_right _ _)),.cons ((k1.more λb hb=>Vv _ hb).level_le (Nat.le_max_left _ _)) (k2.more_le (λb hb=>UW _ hb) (Nat.le_max_right _ _))⟩)
  h us
end
theorem RepF.toRep{K:PySem.W.Frag}{H:Hp}{v:V}{d:PyData}(h:RepF H true v d):Rep K H v d:=
 RepF.rec (motive_1:=λf v d z=>f=true->Rep K H v d) (motive_2:=λf vs ds z=>f=true->Reps K H vs ds) (λz=>.non) (λb z=>.bl b) (λb z=>.int b) (λb z=>.str b) (λh z i e=>.lst (SqL.of h) (i e)) (λh z i e=>.tup (SqT.of h) (i e)) (λz e=>nomatch e) (λz e=>nomatch e) (λz=>.nil) (λz z i j e=>.cons (i e) (j e)) h rfl
mutual
noncomputable def cT:PyData->Nat
 |.none | .bool _=>5
 |.int _=>1921
 |.str x=>(reprText x).length
 |.list xs | .tuple xs=>lg xs+3
 |.dict _=>8000
noncomputable def lg:List PyData->Nat
 |[]=>0
 |x::xs=>cT x+2+lg xs
end
theorem jk:∀xs:List PyData,(PyData.shownAll xs).length=xs.length
 |[]=>by simp only[PyData.shownAll,List.length_nil]
 |x::xs=>by simp only[PyData.shownAll,List.length_cons,jk xs]
theorem DX{H:Hp}{f:Bool}{v:V}{d:PyData}(h:RepF H f v d):d.showable=true->d.shown.length<=cT d:=
 RepF.rec (motive_1:=λz z d z=>d.showable=true->d.shown.length<=cT d) (motive_2:=λz z xs z=>PyData.showableAll xs=true->((PyData.shownAll xs).map (·.length)).sum + 2 * xs.length<=lg xs)
  (λz=>by simp only[PyData.shown,cT];decide +kernel)
  (λb z=>by cases b<;>simp only[PyData.shown,cT]<;>decide +kernel)
  (λi h=>by
    have h':i.natAbs.log2<1920:=by simpa[PyData.showable] using h
    simp only[PyData.shown,cT];exact int_text_len_1921 h')
  (λx z=>by simp only[PyData.shown,cT];exact Tq _)
  (λ{_ _ _ xs} _ hs ih h=>by
    have:=ih (by simpa only[PyData.showable] using h)
    have l:=listText_len_le (PyData.shownAll xs);rw[jk]at l;simp only[PyData.shown,cT]
    lia)
  (λ{_ _ _ xs} _ hs ih h=>by
    have:=ih (by simpa only[PyData.showable] using h)
    have l:=tupleText_len_le (PyData.shownAll xs);rw[jk]at l;simp only[PyData.shown,cT]
    lia)
  (λz z=>by simp only[PyData.shown,PyData.shownKv,cT];decide +kernel)
  (λ{_ i j} _ h=>by
    have h':i.natAbs.log2<1920/\j.natAbs.log2<1920:=by simpa[PyData.showable,PyData.showableKv] using h
    have l1:=int_text_len_1921 h'.1;have l2:=int_text_len_1921 h'.2;have l:=dictText_len_le (PyData.shownKv [(.int i,.int j)]);simp only[PyData.shown,cT];refine Ue l ?_;simp only[PyData.shownKv,PyData.shown,List.map_cons,List.map_nil,List.sum_cons,List.sum_nil,List.length_cons,List.length_nil,strLen_append];have l3:(Str.ofString ": ").length=2:=by decide +kernel
    have l3':(": ":Str).length=2:=by decide +kernel
    lia)
  (λz=>by simp only[PyData.shownAll,List.map_nil,List.sum_nil,List.length_nil,lg];lia)
  (λ{_ _ x _ xs} hx hs i1 i2 h=>by
    have h':x.showable=true/\PyData.showableAll xs=true:=by simpa[PyData.showableAll] using h
    have a:=i1 h'.1;have b:=i2 h'.2;simp only[PyData.shownAll,List.map_cons,List.sum_cons,List.length_cons,lg]
    lia)
  h
section
variable{X:Cx}
noncomputable def Ou:List V->Hp->VK->Prop:=λxs H Q=>∃f v d,xs=[v]/\RepF H f v d/\d.showable=true/\d.depth<=60/\cT d<=sizeLine/\Q (.str d.shown) H
theorem CK(hg:X.A.guards=some [])(hu:X.A.units + 64<cLine):CallR X (.builtin "repr") Ou:=by
 intro Yk s σ H xs us Q I r h;obtain⟨f,v,d,rfl,rd,ho,hd,hz,q⟩:=h;have hz':=Ue (DX rd ho) hz;obtain⟨u,rfl,ru⟩:=vals1 r;cases rd with
 |non=>cases ru;exact P.repr_of_none ⟨.str _,H,I.tok _,⟨_,rfl⟩,(by simpa only[PyData.shown] using q)⟩
 |bl b=>cases ru;exact P.repr_of_bool ⟨.str _,H,I.tok _,⟨_,rfl⟩,(by simpa only[PyData.shown] using q)⟩
 |int i=>obtain⟨t,rfl⟩:=ru;exact P.repr_of_int (by simpa[PyData.showable] using ho) ⟨.str _,H,I.tok _,⟨_,rfl⟩,(by simpa only[PyData.shown] using q)⟩
 |str x=>obtain⟨t,rfl⟩:=ru;exact P.repr_of_str ⟨.str _,H,I.tok _,⟨_,rfl⟩,(by simpa only[PyData.shown] using q)⟩ (by simpa only[PyData.shown] using hz')
 | lst h hs=>
   cases ru;obtain⟨its,rv,⟨o,n,h1,h2,_,h3⟩,_⟩:=I.list (SqL.of h);obtain⟨as,ra⟩:=RepsF.reads I hs rv;simp only[PyData.shown]at hz' q;obtain⟨bs,hb,hk⟩:=RepsF.k I hs rv (by simpa only[PyData.showable] using ho) λt ht=>Ue (listText_mem_le ht) hz'
   simp only[PyData.depth]at hd;refine call_repr_slot (by lia) ⟨_,h1,h2⟩ F.slot_list_repr.toG ?_
   cases its with
   |nil=>cases ra;simp only[PyData.shownAll,listText_nil]at q;exact call_list_repr_empty ⟨o,h1,h2⟩ h1 h3 ⟨_,_,rfl,.str _,H,I.kept λz z e=>e,⟨_,rfl⟩,q⟩
   |cons x l=>exact call_list_reprK h1 h2 h3 (xN (.list h1 h2 h3 ra) (by simp only[PyData.depth]) hb).1 (by simpa using hk.length_eq) (λi y e=>hk.item i y (by simpa using e)) hg (λb z=>Clear.nil b) (by show X.A.units+1+_<_;lia) (λz z e=>e) (λh' u tk hk=>⟨_,_,rfl,.str _,H,I.kept hk,⟨_,rfl⟩,q⟩) hz'
 |tup h hs=>
   cases ru;obtain⟨its,rv,⟨o,h1,h2,n,h3⟩,_⟩:=I.tuple (SqT.of h);obtain⟨as,ra⟩:=RepsF.reads I hs rv;simp only[PyData.shown]at hz' q;obtain⟨bs,hb,hk⟩:=RepsF.k I hs rv (by simpa only[PyData.showable] using ho) λt ht=>Ue (tupleText_mem_le ht) hz'
   simp only[PyData.depth]at hd;refine call_repr_slot (by lia) ⟨_,h1,h2⟩ F.slot_tuple_repr ?_
   exact call_tuple_reprK h1 h2 h3 (xN (.tuple h1 h2 h3 ra) (by simp only[PyData.depth]) hb).1 hk hg (λb z=>Clear.nil b) (by show X.A.units+1+_<_;lia) (λz z e=>e) (λh' u tk hk=>⟨_,_,rfl,.str _,H,I.kept hk,⟨_,rfl⟩,q⟩) hz'
 |d0 h=>obtain⟨as,ra,nn⟩:=Dv I h;cases ru;exact repr_of_reads' ra ho (λz=>nn) hg (by lia) (λz z e=>e) (λh' u tk hk=>⟨.str _,H,I.kept hk,⟨_,rfl⟩,q⟩) hz'
 |d1 h=>obtain⟨as,ra,nn⟩:=Dw I h;cases ru;exact repr_of_reads' ra ho (λz=>nn) hg (by lia) (λz z e=>e) (λh' u tk hk=>⟨.str _,H,I.kept hk,⟨_,rfl⟩,q⟩) hz'
end
theorem Rr(hc:CallR X (.type T) r)(hm:X.mg x=none)(ha:PA X (e::es) t)(hg:autoParam (Gl X x) qAA)(hv:bootBuiltins x=some (.type T):=by decide +kernel)(hn:autoParam (x≠"__name__") qAB)(hdb:autoParam ((x==("__debug__":Str))=false) qAB)
  (he:autoParam (starEach (e::es) X.env=(false,eval e X.env)::starEach es X.env) qAA) (hpl:autoParam ((backTo pos (starEach es X.env)).any (·.1)=false) qAA) :
  PE X (.Call (.Name x p) (e::es) [] pos) (tCB r t):=pe_callTy hc hg hm hv ha hn hdb he hpl
noncomputable def notStar:Expr->Bool
 |.Starred _ _=>false
 |_=>true
theorem aM(h:notStar e=true):starEach (e::es) env=(false,eval e env)::starEach es env:=by cases e<;>first | rfl | cases h
theorem Rp(ha:PE X e te)(hr:PA X es t)(hs:autoParam (notStar e=true) qAA):PA X (e::es) (tCons te t):=pa_cons ha hr (aM hs)
structure QI(X:Cx)(tg l:Expr)(wi:TI):Prop where
 h:PI X tg l wi
structure QA(X:Cx)(es:List Expr)(t:TA):Prop where
 h:PA X es t
theorem Ot:QA X [] tNil:=⟨pa_nil⟩
theorem Rt(ha:PE X e te)(hr:QA X es t)(hs:autoParam (notStar e=true) qAA):QA X (e::es) (tCons te t):=⟨Rp ha hr.h hs⟩
section
variable{X:Cx}{j k:Nat}{ps:List Str}{sp:Sp}{x:Str}{p pos:Pos}{e:Expr}{es:List Expr}{t:TA}{E:XK}
theorem Lg{x1}(h:QA X es t):PE X (.Tuple es x1 pos) (tTup t):=pe_tup h.h
theorem BJ(h:QA X es t):PE X (.List es pos) (tLst t):=pe_lst h.h
theorem GK(D:DefC X.prog X.w X.K X.mg X.base j x ps sp)(hr:Room k X.A)(hx:Passes (gB X.prog X.w) X E)(ha:QA X (e::es) t)(hjk:autoParam (j<=k) qAB)(hg:autoParam (Gl X x) qAA)(hdb:autoParam ((x==("__debug__":Str))=false) qAB)
  (he:autoParam (notStar e=true) qAA) (hpl:autoParam ((backTo pos (starEach es X.env)).any (·.1)=false) qAA) :
  PE X (.Call (.Name x p) (e::es) [] pos) (tCall sp [] E t):=Jg D hr hx ha.h hjk hg hdb (aM he) hpl
theorem Qm{id:String}{r:List V->Hp->VK->Prop}(hc:CallR X (.builtin id) r)(hm:X.mg x=none)(ha:QA X (e::es) t)(hg:autoParam (Gl X x) qAA)(hv:bootBuiltins x=some (.builtin id):=by decide +kernel)(hn:autoParam (x≠"__name__") qAB)(hdb:autoParam ((x==("__debug__":Str))=false) qAB)
  (he:autoParam (notStar e=true) qAA) (hpl:autoParam ((backTo pos (starEach es X.env)).any (·.1)=false) qAA) :
  PE X (.Call (.Name x p) (e::es) [] pos) (tCB r t):=Rq hc hm ha.h hg hv hn hdb (aM he) hpl
theorem Qo(hc:CallR X (.type T) r)(hm:X.mg x=none)(ha:QA X (e::es) t)(hg:autoParam (Gl X x) qAA)(hv:bootBuiltins x=some (.type T):=by decide +kernel)(hn:autoParam (x≠"__name__") qAB)(hdb:autoParam ((x==("__debug__":Str))=false) qAB)
  (he:autoParam (notStar e=true) qAA) (hpl:autoParam ((backTo pos (starEach es X.env)).any (·.1)=false) qAA) :
  PE X (.Call (.Name x p) (e::es) [] pos) (tCB r t):=Rr hc hm ha.h hg hv hn hdb (aM he) hpl
theorem Om{T name id:String}{r:V->List V->Hp->VK->Prop}{o:Expr}{to:TE}{apos cpos:Pos}(pa:PlainAttrs T)(slot:Slot T name id)(hty:typeOf (.builtin id)=pure (.type "method_descriptor"))(hm:MtR X id r)(ho:PE X o to)(ha:QA X (e::es) t)
  (hbase:autoParam (attributeBase o name X.env (eval o X.env)=eval o X.env) qAA)
  (hfew:autoParam (((backTo cpos (starEach (e::es) X.env)).all (fun x=>!x.1)&&(backToKw cpos (keywordEach [] X.env)).all (fun x=>x.1.isSome)
   &&decide ((e::es).length+([]:List Keyword).length+(if ([]:List Keyword).isEmpty then 0 else 1)<30))=true) qAA)
  (hline:autoParam ((apos.endLine==cpos.line)=true) qAA) (hs:autoParam (notStar e=true) qAA) (hplain:autoParam ((backTo cpos (starEach es X.env)).any (·.1)=false) qAA) :
  PE X (.Call (.Attribute o name apos) (e::es) [] cpos) (tBM X.K T r to t):=pe_bm pa slot hty hm ho ha.h hbase hfew hline (aM hs) hplain
theorem Dm(hg:Gl X "range")(hm:X.mg "range"=none)(ha:QA X [a] ta)(hs:autoParam (notStar a=true) qAA):QI X tg (.Call (.Name "range" p) [a] [] pos) (iRng1 ta):=⟨pi_range1 hg hm ha.h (aM hs)⟩
theorem Dn(hg:Gl X "range")(hm:X.mg "range"=none)(ha:QA X [a,b] ta)(hs:autoParam (notStar a=true) qAA)(hs2:autoParam (notStar b=true) qAA):QI X tg (.Call (.Name "range" p) [a,b] [] pos) (iRng2 ta):=
 ⟨pi_range2 hg hm ha.h ((aM hs).trans (by rw[aM hs2];rfl)) (aM hs2)⟩
end
noncomputable def yp{α:Type}(P:α->Prop):List α->Prop
 |[]=>True
 |a::l=>P a/\yp P l
theorem nY:∀ {l:List α},yp P l->∀ a∈l,P a
 |[],_,_,h=>nomatch h
 |b::l,h,a,hm=>by
   rcases TV.mp hm with rfl | hm
   ·exact h.1
   ·exact nY h.2 a hm
set_option tactic.hygienic true in
theorem mem_of_lookup:∀ {l:List (Str×β)},l.lookup y=some c->(y,c)∈l
 |[],h=>by cases h
 | (z,d)::l,h=>by
   rw[Wh]at h;split at h
   ·rename_i e;have e':y=z:=by simpa using e
    cases h;rw[e'];exact T6 ..
   ·exact Ui _ (mem_of_lookup h)
theorem Pk{cl cells:List (Str×Addr)}(h:yp (λp=>cells.lookup p.1=some p.2) cl):∀y c,cl.lookup y=some c->cells.lookup y=some c:=λy c e=>nY h (y,c) (mem_of_lookup e)
noncomputable def Iz:NameKind->Bool
 |.cell | .free=>true
 |_=>false
theorem Nk{names:List (Str×NameKind)}{cl:List (Str×Addr)}(h:(names.all λp=>!Iz p.2 || (cl.lookup p.1).isSome)=true):∀y,(names.lookup y=some .cell\/names.lookup y=some .free)->∃c,cl.lookup y=some c:=λy e=>by
 have hh:=Uh.mp h;rcases e with e | e
 ·have:=hh _ (mem_of_lookup e);simp only[Iz,Bool.not_true,Bool.false_or]at this;exact Xk.mp this
 ·have:=hh _ (mem_of_lookup e);simp only[Iz,Bool.not_true,Bool.false_or]at this;exact Xk.mp this
theorem Ni{js:List Nat}{fr:List Str}{P:Nat->Str->Prop}(h:yp (λp:Nat×Str=>P p.1 p.2) (js.zip fr)):∀(k j:Nat) (y:Str),js[k]?=some j->fr[k]?=some y->P j y:=λk j y h1 h2=>by refine nY h (j,y) (VF.mpr ⟨k,?_⟩);rw[List.getElem?_zip_eq_some];exact⟨h1,h2⟩
section
variable{X:Cx}
noncomputable def gZ:V->Bool
 |.bl b=>b
 |.int i=>i != 0
 |_=>false
noncomputable def scS:V->Bool
 |.bl _=>true
 |.int _=>true
 |_=>false
theorem Hz(h:scS v=true)(r:RelV v u)(q:Q (gZ v) s):wpAny (model prog w) A (truthy u) Q E s:=by
 cases v with
 |bl b=>cases r;exact V1 q
 |int i=>obtain⟨t,rfl⟩:=r;exact PyProof.Rows.truthy_int q
 |_=>cases h
theorem range_all{xs:List V}{tr:Nat->Bool}(h:∀(i:Nat) (x:V),xs[i]?=some x->tr i=gZ x):(List.range xs.length).all tr=xs.all gZ:=by
 rw[T7,Uh,Uh];constructor
 ·intro q x hx;obtain⟨i,hi,e⟩:=U4.mp hx;have:=q i (Tr.mpr hi);rw[h i x (by rw[Tj hi,e])]at this
  exact this
 ·intro q i hi;have hi':=Tr.mp hi;rw[h i xs[i] (Tj hi')];exact q _ (UV hi')
theorem range_any{xs:List V}{tr:Nat->Bool}(h:∀(i:Nat) (x:V),xs[i]?=some x->tr i=gZ x):(List.range xs.length).any tr=xs.any gZ:=by
 rw[T7,VL,VL];constructor
 ·rintro⟨i,hi,e⟩;have hi':=Tr.mp hi;rw[h i xs[i] (Tj hi')]at e;exact⟨_,UV hi',e⟩
 ·rintro⟨x,hx,e⟩;obtain⟨i,hi,ex⟩:=U4.mp hx;refine⟨i,Tr.mpr hi,?_⟩;rw[h i x (by rw[Tj hi,ex])]
  exact e
theorem JX{xs:List V}{its:List Value}(rv:Vals xs its)(hs:∀x∈xs,scS x=true):TruthOf prog w A (λi v=>its.toArray[i]?=some v) (λi=>gZ (xs[i]?.getD .non)):=by
 intro i v s Q E hP hQ;have e:its[i]?=some v:=by simpa using hP
 have hl:=rv.length;have hi:i<xs.length:=by rw[hl];exact (Ti.mp e).1
 obtain⟨u,e2,r⟩:=rv.get (Tj hi);rw[e]at e2;cases e2;refine Hz (hs _ (UV hi)) r ?_;have hQ':Q (gZ (xs[i]?.getD V.non)) s:=hQ;rw[Tj hi]at hQ';exact hQ'
theorem HX(hh:X.A.handled=none):CallR X (.builtin "all") (λvs H Q=>∃l xs,vs=[.ref l]/\H l=some (.lst xs)/\(∀x∈xs,scS x=true)/\Q (.bl (xs.all gZ)) H):=by
 intro Yk s σ H vs us Q I r h;obtain⟨l,xs,rfl,hH,hs,q⟩:=h;obtain⟨u,rfl,ru⟩:=vals1 r;cases ru;obtain⟨its,rv,p,hz⟩:=I.list (SqL.of (K:=X.K) hH);have hl:l<s.heap.objs.size:=by obtain⟨o,n,e,_⟩:=p;exact Tt e
 refine call_all_walk (Vr p.isList ?_);refine⟨s.heap.objs.size,[s.heap.objs.size,l],[s.heap.objs.size],its.toArray.size,λi v=>its.toArray[i]?=some v,λi h=>h.IsListIter s.heap.objs.size l i/\h.IsList l its.toArray,λi=>gZ (xs[i]?.getD .non),rfl,Walks.list (A:=X.A.in1) hh s.heap.objs.size l (TF hl) its.toArray,⟨⟨_,Tu _ rfl,rfl,rfl⟩,p.isList.at λo e=>Tf _ e⟩,JX rv hs,λh' tk hk=>?_⟩
 refine⟨.bl (xs.all gZ),H,I.kept λb o e=>hk b o (λz=>?_) (Tf _ e),?_,q⟩
 ·have:b=s.heap.objs.size:=by simpa using z
  exact absurd (Tt e) (by rw[this];exact Vs _)
 ·rw[show its.toArray.size=xs.length by rw[TX];exact rv.length.symm]
  show Value.bool _=Value.bool _;rw[range_all λi x e=>by rw[e];rfl]
theorem ud:fillsNumberSlot (.type "tuple") "mul"=pure false:=
 PySem.fillsNumberSlot_seq (id := "tuple.__mul__") (r:=some (.builtin "tuple.__rmul__")) F.slot_tuple_mul.lookup (by decide +kernel) F.slot_tuple_rmul.lookup (by decide +kernel)
theorem zR:seqRepeat? (.type "tuple")=pure (some (.builtin "tuple.__mul__")):=by
 unfold seqRepeat?;rw[PySem.seqSlot_of (T := "tuple") (name := "__mul__") (id := "tuple.__mul__") F.slot_tuple_mul.lookup (by decide +kernel),PySem.seqSlot_of (T := "tuple") (name := "__rmul__") (id := "tuple.__rmul__") F.slot_tuple_rmul.lookup (by decide +kernel)]
 rfl
theorem Dz(a:Int)(t:Tok)(l:Addr)(items:Array Value)(n:Nat)(dd:Option Addr)(sl:Array (Option Value)):
  Meets (Builtin.«int.__rmul__» ⟨[.int a t,.ref l],[]⟩) (λz R s=>s.heap.get? l=some { cls:=.type "tuple",dict:=dd,data:=.seq items n,slots:=sl }/\R (.ok (.ret Value.notImplemented)) s):=
 .of_wp λprog w A R s h=>by obtain⟨hp,g,d,tk,os⟩:=s;obtain⟨hl,h⟩:=h;wp_walk;exact⟨_,rfl,h⟩
open PySem.AutoSeq1 (wpAny_loadPart') in
theorem Ql(l:Addr)(items:Array Value)(n:Nat)(dd:Option Addr)(sl:Array (Option Value))(k:Int)(t:Tok)(h0:¬(decide (k < -2 ^ 63) || decide (k ≥ 2 ^ 63))=true)(h1:¬(items.isEmpty || k == 1)=true)(h2:¬(decide (k<=0) || items.isEmpty)=true)
  (h3:¬((items.size:Int)*k > (2^63-1) / 8)) (h4:¬Builtin.Tuple.tupleTooMany ((items.size:Int)*k)=true) (h5:sizeOk (.seq (List.foldl (λx1 x2=>x1++x2) #[] (List.replicate k.toNat items)))) :
  Meets (Builtin.«tuple.__mul__» ⟨[.ref l,.int k t],[]⟩) (λz R s=>s.heap.get? l=some { cls:=.type "tuple",dict:=dd,data:=.seq items n,slots:=sl } /\
   R (.ok (.ret (.ref s.heap.objs.size))) { s with heap:=s.heap.push { cls:=.type "tuple",data:=.seq (List.foldl (λx1 x2=>x1++x2) #[] (List.replicate k.toNat items)) } }):=
 .of_wp λprog w A R s h=>by
  obtain⟨hp,g,d,tk,os⟩:=s;obtain⟨hl,h⟩:=h;have f1:=AutoSeq1.idx_int;have f2:=AutoSeq1.sub_tuple_tuple;unfold Builtin.«tuple.__mul__»
  wp_walk using Xe hl
  rw[Tw h0]
  wp_walk using Xe hl
  rw[Tw h3]
  wp_walk using Xe hl
  rw[Tw (show ¬ _ > sizeLine from Wd.mpr h5)]
  wp_walk using Xe hl
  all_goals first | exact⟨_,rfl,h⟩ | assumption
theorem Qn(h:X.mg x=some (.int i t))(hg:autoParam (Gl X x) qAA)(hd:autoParam ((x==("__debug__":Str))=false) qAB):PE X (.Name x pos) (tC (.int i)):=pe_glob hg h ⟨t,rfl⟩ hd
theorem tM:∀{l:List α},(∀x∈l,f x=g x)->l.filterMap f=l.filterMap g
 |[],_=>rfl
 |a::l,h=>by rw[V3,V3,h a (T6 ..),tM λx hx=>h x (Ui _ hx)]
theorem Jk(xs:List Value):((List.range xs.length).filterMap λ(m:Nat)=>xs.toArray[(((xs.length:Int)-1)+(m:Int)*(-1)).toNat]?)=xs.reverse:=by
 have e:(List.range xs.length).filterMap (λ(m:Nat)=>xs.toArray[(((xs.length:Int)-1)+(m:Int)*(-1)).toNat]?)=(List.range xs.length).filterMap (λ(m:Nat)=>xs.reverse[m]?):=by
  refine tM λm hm=>?_
  have hm':=Tr.mp hm;rw[List.getElem?_reverse hm'];have:(((xs.length:Int)-1)+(m:Int)*(-1)).toNat=xs.length-1-m:=by lia
  rw[this];simp
 rw[e];have q:=pick_run xs.reverse.toArray 0 xs.length;rw[List.filterMap_map]at q;have e2:(List.range xs.length).filterMap (λ(m:Nat)=>xs.reverse[m]?)=(List.range xs.length).filterMap ((λx=>xs.reverse.toArray[x]?) ∘ λx=>0+x):=tM λm z=>by simp
 rw[e2,q];show List.take xs.length (List.drop 0 xs.reverse)=xs.reverse;rw[List.drop_zero];exact WQ (by simp)
theorem ur{E:Value->Shared->Prop}{n:Nat}{Q:Int×Int×Nat->Shared->Prop}(hs:s.heap.IsSliceOf sl .none .none (.int (-1) tk))(h:Q (((n:Int)-1),-1,n) s):
  wpAny (model prog w) A (Builtin.Slice.sliceApplied (.ref sl) (pure (n:Int))) Q E s:=by
 obtain⟨os,hos,hcs,hds⟩:=id hs;unfold Builtin.Slice.sliceApplied Builtin.Slice.sliceFields;refine Te (Te (UL hos hds (x:=.none) rfl (Te (UL hos hds (x:=.none) rfl (Te (UL hos hds (x:=.int (-1) tk) rfl (Th ?_)))))));refine Te (slicePart_int ?_);show wpAny _ _ (if ((-1:Int)==0)=true then _ else _) _ _ s
 rw[Tw (by decide)]
 refine Te (slicePart_none (Te (slicePart_none (Te (Th ?_)))));have e:Builtin.Slice.slicePlaces ((n:Int)-1) (-1) (-1)=n:=by
  unfold Builtin.Slice.slicePlaces;rw[Tw (by decide),show -(-1:Int)=1 from rfl,Int.ediv_one]
  split<;>lia
 show wpAny _ _ (pure (((n:Int)-1),(-1:Int),Builtin.Slice.slicePlaces ((n:Int)-1) (-1) (-1))) _ _ s;rw[e];exact Th h
theorem rK{E:Value->Shared->Prop}{its:List Value}{Q:Value->Shared->Prop}(ht:IsTup s.heap t its.toArray)(hs:s.heap.IsSliceOf sl .none .none (.int (-1) tk))
  (h:Q (.ref s.heap.objs.size) { s with heap:=s.heap.push { cls:=.type "tuple",data:=.seq its.reverse.toArray } }) (hsz:its.length<=sizeLine):wpAny (model prog w) A (getItem (.ref t) (.ref sl)) Q E s:=by
 obtain⟨os,hos,hcs,hds⟩:=id hs;have hTs:s.TypeIs (.ref sl) "slice":=⟨os,hos,hcs⟩;unfold getItem
 try with_reducible refine Uy ?_
 first | refine Te (Th ?_) | skip
 refine Te (wpAny_sequenceKey ht.typeIs (by decide) ?_)
 refine Te (Ur (name:=Str.ofString "__getitem__") ht.typeIs Vm
  (Uw Vm ht.typeIs entry_tuple_getitem ?_ (args_tuple_getitem _ _)))
 show wpAny _ _ (Builtin.Tuple.tupleItemsOf (.ref t)>>=_) _ _ s;refine Te (tupleItemsOf_ ht ?_);refine Te (Wn hTs ?_);rw[Tv (by decide)]
 rw[show its.toArray.size=its.length from by simp]
 refine Te (ur hs ?_);have hno:¬ ((((its.length:Int)-1)==0&&(-1:Int)==1&&its.length==its.length)=true):=by simp
 show wpAny _ _ (if ((((its.length:Int)-1)==0&&(-1:Int)==1&&its.length==its.length)=true) then _ else _) _ _ s
 rw[Tw hno,Jk];have htake:sizeOk (.seq its.reverse.toArray):=by show its.reverse.toArray.size<=sizeLine;rw[TX,List.length_reverse];exact hsz
 first
  |exact Te (m:=Builtin.Tuple.tupleExact _) (Ug (Th ⟨_,rfl,Th h⟩) htake)
  |exact Te (m:=Builtin.Tuple.tupleExact _) (Ug (Te (Th (Th ⟨_,rfl,Th h⟩))) htake)
  |exact Te (Te (m:=Builtin.Tuple.tupleExact _) (Ug (Th (Th ⟨_,rfl,Th h⟩)) htake))
  |exact Te (Te (m:=Builtin.Tuple.tupleExact _) (Ug (Th ⟨_,rfl,Th h⟩) htake))
noncomputable def RB(te:TE):TE:=λσ H Q=>te σ H λx H1=>∃a xs,x=.ref a/\H1 a=some (.tup xs)/\∀p,H1 p=none->Q (.ref p) (upd H1 p (.tup xs.reverse))
theorem Oo(he:PE X e te):PE X (.Subscript e (.Slice none none (some (.UnaryOp .USub (.Constant (.int 1) j p3) p4)) p2) pos) (RB te):=by
 intro Yk s σ H Q I h;refine Subscript_ (thn (he Yk s σ H _ I h) λv s1 ⟨x,H1,I1,r1,q1⟩=>?_)
 obtain⟨a,xs,rfl,hx,q⟩:=q1;cases r1;refine wpAny_Slice ?_;rw[evalPart_none];refine Th (Th ?_);rw[evalPart_some];have hu:PE X (.UnaryOp .USub (.Constant (.int 1) j p3) p4) (tUn (rU λi=>.int (-i)) (tC (.int 1))):=pe_un un_neg pe_int
 refine thn (hu Yk s1 σ H1 (λv H'=>v=.int (-1)/\H'=H1) I1 ⟨1,rfl,rfl,rfl⟩) λu s2 ⟨y,H2,I2,r2,ey,eh⟩=>?_
 subst ey eh;obtain⟨tk,rfl⟩:=r2;have I3:Inv X Yk σ H2 { s2 with heap:=s2.heap.push { cls:=.type "slice",data:=.fields #[.none,.none,.int (-1) tk] } }:=I2.kept (t':=s2.toks) λb ob q=>Tf _ q
 obtain⟨its,r,ht,hz⟩:=I3.tuple (SqT.of (K:=X.K) hx);refine tail_any (ops:=[.ref a,.ref s2.heap.objs.size]) ht.typeIs PyProof.Rows.slot_tuple_getitem.lookup (rK ht (Heap.IsSliceOf.new ..) ?_ (by rw[<-r.length];exact hz)) (by with_unfolding_all rfl)
 refine⟨.ref _,_,I3.laid (t':=s2.toks) (o:=.tup xs.reverse) (λb ob q=>Tf _ q) (Tq _) ?_,rfl,q _ (I3.hok.fresh (Tq _))⟩
 exact⟨by rw[List.length_reverse];exact hz,_,r.reverse,Xh _ _⟩
end
structure MethAt(K:PySem.W.Frag)(C:Addr)(x qual:Str)(st:Stmt):Prop where
 ex:∃f fd,Fun K x qual st f fd/\PySem.W.findIn K (.ref C) x=some (some (.ref f))/\PySem.W.isFn K (.ref f)=true
structure MethC(P:Program)(w:World)(K:PySem.W.Frag)(mg:Str->Option Value)(base:Heap)(k:Nat)(C:Addr)(x:Str)(ps:List Str)(sp:Sp):Prop where
 ex:∃f fd,FnOk P w K mg base (gB P w) k f fd ps sp/\Binds K fd ps []/\PySem.W.keepIn K (.ref f)=true/\PySem.W.findIn K (.ref C) x=some (some (.ref f))/\PySem.W.isFn K (.ref f)=true
theorem Gx{K:PySem.W.Frag}{C:Addr}{x qual:Str}{st:Stmt}{f:Addr}{oc:Value}{od an:Option Addr}{osl:Array (Option Value)}{kV doc pm cdv ct:Value}
  (a:PySem.W.findIn K (.ref C) x=some (some (.ref f))) (n:PySem.W.isFn K (.ref f)=true) (l:K.lookup f=some ⟨oc,od,.func (PySem.W.fnOf x qual (defArgs st) (defBody st) (defScope st) .none kV doc pm an cdv ct),osl⟩) (c:PySem.W.codeIn K cdv qual=true) (k:PySem.W.keepIn K (.ref f)=true):MethAt K C x qual st:=
 ⟨f,_,fun_mk l c k,a,n⟩
section
variable{P:Program}{w:World}{K:PySem.W.Frag}{mg:Str->Option Value}{base:Heap}{k:Nat}{C:Addr}{x qual:Str}{N ps:List Str}{sp:Sp}{st:Stmt}
theorem Rk(F:Fun K x qual st f fd)(S:FnScope N ps (defScope st))(len:∀ vs H Q E,sp vs H Q E->vs.length=ps.length)
  (hbody:∀(cdv:Value) (A:Around) (outer:List Env) (s:Shared) (H:Hp) (vs:List V) (Q:VK) (E:XK),Room k (A.deeper (envOfC qual (defScope st) s.heap.objs.size f cdv))->sp vs H Q E->
    ∃t,PSs (jn P w K mg base N qual (defScope st) f cdv A outer s H E) (defBody st) t/\t { nx:=λz H'=>Q .non H',rt:=Q } (start N vs) H):FnOk P w K mg base (gB P w) (k+1) f fd ps sp:=by
 obtain⟨oc,od,kV,doc,pm,an,cdv,ct,osl,rfl,l,c⟩:=F.ex;exact fn_of l c S len (hbody cdv)
end
section
variable{X:Cx}{j k:Nat}{C:Addr}{ps:List Str}{sp:Sp}{x:Str}{p pos:Pos}{e:Expr}{es:List Expr}{t:TA}{E:XK}
theorem Jh(D:MethC X.prog X.w X.K X.mg X.base j C "__init__" ps sp)(mk:PySem.W.makesIn X.K C=true)(kc:PySem.W.keepIn X.K (.ref C)=true)(hm:X.mg x=some (.ref C))(hr:Room k X.A)(hx:Passes (gB X.prog X.w) X E)(ha:QA X (e::es) t)(hjk:autoParam (j+1<=k) qAB)(hg:autoParam (Gl X x) qAA)(hdb:autoParam ((x==("__debug__":Str))=false) qAB)
  (he:autoParam (notStar e=true) qAA) (hpl:autoParam ((backTo pos (starEach es X.env)).any (·.1)=false) qAA) :
  PE X (.Call (.Name x p) (e::es) [] pos) (tMake C sp [] E t):=by
 obtain⟨f,fd,F,b,kp,a,n⟩:=D.ex;exact pe_make ⟨mk,a,n,kc⟩ F (hr.mono hjk) hg hm b .nil hx ha.h hdb (aM he) hpl
end
open PySem PySem.Spec PyProof.Rows
section
variable{X:Cx}{CX:CXT}{k:Nat}{f C:Addr}{fd:FuncData}{ps:List Str}{sp:Sp}{E:XK}
theorem Lr(F:FnOk X.prog X.w X.K X.mg X.base CX k f fd ps sp)(hr:Room k X.A.in1)(hb:Binds X.K fd ps [])(hx:Passes CX X E)
  (I:Inv X Yk σ H s) (r:Vals vs us) (h:sp vs H Q E):wpAny (model X.prog X.w) X.A.in1 (call (.ref f) us) (EP X Yk σ Q) X.xe s:=by
 have hl:(us++[]).length=ps.length:=by rw[Wr,<-r.length];exact F.len _ _ _ _ h
 have hl':us.length=ps.length:=by rw[Wr]at hl;exact hl
 have bb:=hb s us I.kIn hl;rw[Wr]at bb;refine Yi (Vw (F.run X.A.in1 X.stack s H ⟨us,[]⟩ us vs Q E hr ⟨(show X.A.in1.frames=some X.stack from I.ok.frames),I.ok.mod,I.bs,Ue I.ok.bsz I.sz,I.stack,I.stkFree,I.hok,I.bare⟩ bb r h) λr s' hq=>?_)
 cases r with
 |error e=>exact hx Yk σ H s e s' I hq
 |ok fl=>
   cases fl with
   |ret u=>exact I.after hq
   |next=>exact False.elim hq
   |brk=>exact False.elim hq
   |cont=>exact False.elim hq
theorem Ey(D:MethC X.prog X.w X.K X.mg X.base j C "__len__" ps sp)(hr:Room (j+1) X.A)(hx:Passes (gB X.prog X.w) X E):
  CallR X (.builtin "len") (λvs H Q=>∃x dx fs,vs=[.ref x]/\H x=some (.ins C dx fs)/\sp [.ref x] H (λv H2=>∃n:Int,v=.int n/\(0<=n/\n<2^63)/\Q (.int n) H2) E):=by
 intro Yk s σ H vs us Q I r h;obtain⟨x,dx,fs,rfl,hx',q⟩:=h;obtain⟨f,fd,F,b,kp,a,n⟩:=D.ex;obtain⟨u,rfl,ru⟩:=vals1 r;cases ru;obtain⟨mA,O,_⟩:=ins_get I.hok hx';obtain⟨od,IA,_⟩:=O.look;refine Xd PySem.kind_len PySem.plain_len PySem.entry_len (PySem.args_len1 _) ?_;unfold Builtin.«len»
 refine Te (m:=oneArg "len" _) (Th ?_);refine Te (m:=callSpecial? (.ref x) (Str.ofString "__len__")) (PySem.W.special_fn I.kIn IA a (Yc.mp n) (Um (Lr (vs:=[.ref x]) F hr.in1 b hx I (.cons rfl .nil) q) (λw' s' hw=>?_) λz z y=>y))
 obtain⟨v,H2,I2,rv,m,rfl,⟨h0,h1⟩,qq⟩:=hw;obtain⟨t,rfl⟩:=rv;refine Te (Uy (Th ?_));refine Te (wpAny_letGo ?_);show wpAny _ _ (if m<0 then _ else _) _ _ _
 rw[Tw (by lia)]
 show wpAny _ _ (if m ≥ 2^63 then _ else _) _ _ _
 rw[Tw (by lia)]
 exact Te (wpAny_mkInt (Th ⟨_,rfl,.int m,H2,I2.tok _,⟨_,rfl⟩,qq⟩))
end
theorem cG:∀ (names:List (Str×NameKind)) (n:Nat) (acc:List (Str×Addr)),cellsFrom n names acc=cellsFrom n names []++acc
 |[],_,_=>rfl
 |(name,kind)::r,n,acc=>by
   unfold cellsFrom;split
   ·rw[cG r (n+1) ((name,n)::acc),cG r (n+1) [(name,n)],Wf];rfl
   ·exact cG r n acc
theorem wV
  (hQ:Q (newEnv scope s.heap.objs.size globals (cellsFrom (s.heap.objs.size+1) scope.names cl) qual none .none (some env) builtinsNs) { s with heap:=pushCells (s.heap.push { cls:=.type "dict",data:=.dict #[] }) scope.names }) :
  wpAny M A (newFunctionEnv scope globals cl [] qual none .none (some env)) Q E s:=by
 simp only[newFunctionEnv,Option.isSome_some,if_true];refine Te (wpAny_alloc ?_);refine Te (wpAny_layCells _ (λname kind cells=>by cases hkc:kind==NameKind.cell<;>simp[hkc]) _ _ _ _ ?_)
 rw[show ({ s with heap:=s.heap.push { cls:=.type "dict",data:=.dict #[] } }:Shared).heap.objs.size=s.heap.objs.size+1 from Uc ..]
 refine Te ?_;rw[List.forIn_nil];exact Th (Th hQ)
noncomputable abbrev Cx.aR(X:Cx)(Yk:List (Addr×Obj))(scope:Scope)(cs:List (Str×Addr))(Nc:List Str)(fp:List Addr)(C:Addr)(s₂:Shared)(H₂:Hp):Cx where
 prog:=X.prog
 w:=X.w
 K:=X.K
 mg:=X.mg
 base:=X.base
 A:=X.A
 N:=Nc
 s₀:=s₂
 H₀:=H₂
 env:=compEnvC scope cs C X.env
 outer:=X.stack
 stack:=X.stack
 ex:=fp
 fn:=λy=>scope.names.lookup y==some .cell
 calm:=X.calm
 pn:=X.pn++Yk
 xe:=λ_ _=>False
structure CompG(X:Cx)(scope:Scope)(cl:List (Str×Addr))(own:List Str)(js:List Nat)(fr:List Str):Prop where
 kind:scope.kind=.function
 names:∀y∈scope.names,y.2=.local->scope.names.lookup y.1=some .local
 clos:closureFor scope X.env=pure cl
 sub:∀y c,cl.lookup y=some c->X.env.cells.lookup y=some c
 has:∀(m:Nat) y,((relabel scope X.env).names.lookup y=some .cell\/(relabel scope X.env).names.lookup y=some .free)->∃c,(cellsFrom m scope.names cl).lookup y=some c
 nd:(own++fr).Nodup
 len:js.length=fr.length
 newc:∀(m:Nat) y c,(cellsFrom m scope.names []).lookup y=some c->scope.names.lookup y=some .cell
 oldc:∀y c,cl.lookup y=some c->scope.names.lookup y≠some .cell
 fre:∀(k j:Nat) (y:Str),js[k]?=some j->fr[k]?=some y->X.N[j]?=some y/\(X.env.scope.names.lookup y=some .cell\/X.env.scope.names.lookup y=some .free)/\((relabel scope X.env).names.lookup y=some .cell\/(relabel scope X.env).names.lookup y=some .free)/\∃c,cl.lookup y=some c
theorem oA:∀ {l m:List (Str×α)},(l++m).lookup y=some c->l.lookup y=some c\/(l.lookup y=none/\m.lookup y=some c)
 |[],_,h=>.inr ⟨rfl,h⟩
 |(k,v)::r,m,h=>by
   rw[List.cons_append,Wh]at h;rw[Wh];split at h
   ·exact .inl h
   ·exact oA h
theorem lF:∀ {l m:List (Str×α)},l.lookup y=none->(l++m).lookup y=m.lookup y
 |[],_,_=>rfl
 |(k,v)::r,m,h=>by
   rw[Wh]at h;rw[List.cons_append,Wh];split at h
   ·cases h
   ·exact lF h
section
variable{X:Cx}{Yk:List (Addr×Obj)}{σ:St}{H:Hp}{s:Shared}{scope:Scope}{cl:List (Str×Addr)}{own:List Str}{js:List Nat}{fr:List Str}{fp:List Addr}{C m:Addr}
theorem H9{hh:Heap}(T:CompG X scope cl own js fr)(I:Inv X Yk σ H s)(f:∀ b∈fp,FpOk X Yk H b)(hlt:∀ b∈fp,b<s.heap.objs.size)(hC:s.heap.objs.size<=C)(hm:m=hh.objs.size)(hms:s.heap.objs.size<=m):
  (X.aR Yk scope (cellsFrom m scope.names cl) (own++fr) fp C s H).Ok:=by
 have ok:CellsOk (pushCells hh scope.names) m (cellsFrom m scope.names []):=by
  have:=cellsFrom_ok scope.names hh m [] ⟨λx x hm=>(nomatch hm),List.Pairwise.nil⟩ (by rw[hm];exact Tq _)
  rw[<-hm]at this;exact this
 have hold:∀y c,cl.lookup y=some c->c<s.heap.objs.size:=λy c e=>by obtain⟨v,q⟩:=I.cell y c (T.sub _ _ e);exact q.lt
 have spl:∀y c,(cellsFrom m scope.names cl).lookup y=some c->(m<=c/\(cellsFrom m scope.names []).lookup y=some c)\/(cl.lookup y=some c/\c<s.heap.objs.size):=λy c e=>by
  rw[cG]at e;rcases oA e with z | ⟨_,z⟩
  ·exact .inl ⟨(ok.empty _ _ (Vj z)).2,z⟩
  ·exact .inr ⟨z,hold _ _ z⟩
 refine⟨I.ok.mod,T.kind,I.ok.glob,I.ok.blt,hC,λy z c h1 h2=>?_,λy h=>T.has m y h,λy c h1 h2=>?_,I.ok.hd,I.ok.frames,.inl rfl,λb hb=>⟨TF (TY (hlt b hb) hC),λy c h=>?_⟩,λb o e=>I.bs b o e,Ue I.ok.bsz I.sz,λb o e hb=>?_,λb hb hm'=>?_,I.stack,I.stkFree⟩
 ·rcases spl _ _ h1 with ⟨a1,a2⟩ | ⟨a1,a2⟩
  ·rcases spl _ _ h2 with ⟨b1,b2⟩ | ⟨b1,b2⟩
   ·exact name_of_addr ok.apart (Vj a2) (Vj b2)
   ·exact absurd (TY b2 hms) (Wd.mpr a1)
  ·rcases spl _ _ h2 with ⟨b1,b2⟩ | ⟨b1,b2⟩
   ·exact absurd (TY a2 hms) (Wd.mpr b1)
   ·exact I.ok.inj y z c (T.sub _ _ a1) (T.sub _ _ b1)
 ·rcases spl _ _ h2 with ⟨a1,a2⟩ | ⟨a1,a2⟩
  ·exact Ue hms a1
  ·exact absurd (by simpa using h1) (T.oldc _ _ a1)
 ·rcases spl _ _ h with ⟨a1,a2⟩ | ⟨a1,a2⟩
  ·exact λz=>absurd (TY (hlt b hb) hms) (Wd.mpr (z ▸ a1))
  ·exact (f b hb).2.2.2.2.1 y c (T.sub _ _ a1)
 ·rcases (f b hb).2.2.2.1 with z | z
  ·exact I.ok.noex b o e z
  ·exact absurd (TY (Tt e) I.ok.bsz) (Wd.mpr z)
 ·rcases TV.mp (I.stkSub b hm') with z | z
  ·exact (f b hb).2.1 z
  ·exact (f b hb).2.2.1 z
theorem wG(T:CompG X scope cl own js fr)(I:Inv X Yk σ H s)(f:∀ b∈fp,FpOk X Yk H b)(hlt:∀ b∈fp,b<s.heap.objs.size)
  (k:∀b o,s.heap.get? b=some o->h'.get? b=some o) (ha:s.heap.objs.size<=acc) (hC:s.heap.objs.size<=C) (hne:C≠acc) (hm:m=hh.objs.size) (hms:s.heap.objs.size<=m) (hCm:C<m) (ham:acc<m) (hh':h'=pushCells hh scope.names)
  (new:∃n,h'.get? acc=some { cls:=.type "list",data:=.seq #[] n }) (ns:h'.Ns C mm) :
  Inv (X.aR Yk scope (cellsFrom m scope.names cl) (own++fr) fp C s H) [] (List.replicate own.length none++pick js σ) (upd H acc (.lst [])) { s with heap:=h',toks:=t' }:=by
 have ok:CellsOk (pushCells hh scope.names) m (cellsFrom m scope.names []):=by
  have:=cellsFrom_ok scope.names hh m [] ⟨λx x hm=>(nomatch hm),List.Pairwise.nil⟩ (by rw[hm];exact Tq _)
  rw[<-hm]at this;exact this
 have hold:∀y c,cl.lookup y=some c->c<s.heap.objs.size:=λy c e=>by obtain⟨v,q⟩:=I.cell y c (T.sub _ _ e);exact q.lt
 have spl:∀y c,(cellsFrom m scope.names cl).lookup y=some c->(m<=c/\h'.IsCell c none)\/(cl.lookup y=some c/\c<s.heap.objs.size):=λy c e=>by
  rw[cG]at e;rcases oA e with z | ⟨_,z⟩
  ·have:=ok.empty _ _ (Vj z);exact .inl ⟨this.2,by rw[hh'];exact this.1⟩
  ·exact .inr ⟨z,hold _ _ z⟩
 have hn:H acc=none:=I.hok.fresh ha;have fC:H C=none:=I.hok.fresh hC;have ob:ObjOk X.prog X.w (upd H acc (.lst [])) h' acc (.lst []):=by obtain⟨n,e⟩:=new;exact⟨Vl _,[],n,.nil,e⟩
 refine⟨H9 T I f hlt hC hm hms,rfl,I.bare,Un.laid k ha hn,⟨mm,ns,λi y v h1 h2 h3=>?_⟩,λy c e=>?_,by show upd H acc _ C=none;rw[upd_ne hne];exact fC,λy c e=>?_,λp hp=>?_,I.hok.laid k ha ob,?_⟩
 ·have h1:(own++fr)[i]?=some y:=h1;by_cases hi:i<own.length
  ·rw[T5 (by rw[Vt];exact hi),WD]at h2
   split at h2<;>cases h2
  ·rw [List.getElem?_append_right (by lia)] at h1
   rw[U7 (by rw[Vt];lia),Vt]at h2
   unfold pick at h2;rw[T8]at h2;cases hj:js[i-own.length]? with
   |none=>rw[hj]at h2;cases h2
   | some j=>
     rw[hj]at h2;have h2s:(σ[j]?).getD none=some v:=TJ h2;have h2'':σ[j]?=some (some v):=by
      cases z:σ[j]? with
      |none=>rw[z]at h2s;cases h2s
      |some w=>rw[z]at h2s;exact congrArg some h2s
     obtain⟨g1,g2,g3,c,gc⟩:=T.fre _ j y hj h1;obtain⟨mX,_,hl⟩:=I.loc;have vis:Vis X.env.scope y:=g2.elim (λz=>.inr (.inl z)) λz=>.inr (.inr z)
     obtain⟨u,r,q⟩:=hl j y v g1 h2'' vis;refine⟨u,r,.inr ⟨g3,c,?_,?_⟩⟩
     ·show (cellsFrom m scope.names cl).lookup y=some c;rw[cG];cases z:(cellsFrom m scope.names []).lookup y with
      |none=>rw[lF z];exact gc
      |some c'=>exact absurd (T.newc m y c' z) (T.oldc y c gc)
     ·have hc':=T.sub _ _ gc;rcases q with ⟨q,_⟩ | ⟨_,c2,e2,z⟩
      ·have q:X.env.scope.names.lookup y=some .local:=q;rcases g2 with g2 | g2<;>(rw[g2]at q;cases q)
      ·rw[hc']at e2;cases e2;exact z.keeps k
 ·rcases spl y c e with ⟨_,z⟩ | ⟨z,_⟩
  ·exact⟨_,z⟩
  ·obtain⟨v,q⟩:=I.cell y c (T.sub _ _ z);exact⟨v,q.keeps k⟩
 ·rcases spl y c e with ⟨z,_⟩ | ⟨z,lt⟩
  ·show upd H acc _ c=none;rw[upd_ne (λ(q:c=acc)=>absurd ham (Wd.mpr (q ▸ z)))]
   exact I.hok.fresh (Ue hms z)
  ·show upd H acc _ c=none;rw[upd_ne (λ(q:c=acc)=>absurd lt (Wd.mpr (q ▸ ha)))]
   exact I.freeC y c (T.sub _ _ z)
 ·have hp':p∈X.pn++Yk:=by simpa using hp
  obtain⟨e,n,ne,nf,d⟩:=I.pin p hp';refine⟨k _ _ e,?_,TF (TY (Tt e) hC),λhm=>?_,d⟩
  ·show upd H acc _ p.1=none;rw[upd_ne (λz=>absurd (Tt e) (by rw[z];exact Wd.mpr ha))]
   exact n
  ·rcases TV.mp (I.stkSub _ hm) with z | z
   ·exact ne z
   ·exact nf z
 ·show (List.replicate own.length none++pick js σ).length=(own++fr).length;unfold pick;rw[T3,Vt,Tz,T3,T.len]
end
section
variable{prog:Program}{w:World}{A:Around}{R:Result->Shared->Prop}{s:Shared}
noncomputable def vY(ifs:List Expr)(env:Env):Sem Bool:=forIn ifs true λc r=>if r=true then do let ok <-isTrue c env (eval c env);pure (ForInStep.yield ok) else pure (ForInStep.yield r)
noncomputable def turnOf(g:Comprehension)(bodyK:Sem Fin->Sem Fin)(c:Code)(it:Value)(env:Env):Sem Fin:=do
 standAt g.iter.pos
 match <-pyNext it with
 |none=>pure (.done .next)
 |some v=>
   letOwnedTupleGo g.target it v
   assign g.target env v
   let ok <-vY g.ifs env
   if ok then bodyK (again c) else again c
noncomputable def qR(elt:Expr)(acc:Value)(env:Env)(k:Sem Fin):Sem Fin:=do
 (do let _ <-call (.builtin "list.append") [acc,<-eval elt env])
 k
noncomputable def pX(e:Expr)(i1:Expr)(acc:Value)(env:Env)(k:Sem Fin):Sem Fin:=do
 let x <-eval i1 env
 standAt i1.pos
 let x <-foldedSetIterable i1 env x
 let _ <-runOwn (.compStart e 1 (<-holding [x] (pyIter x)) acc env) env
 k
theorem JZ(elt target iter:Expr)(ifs:List Expr)(scope:Scope)(pos:Pos)(it acc:Value)(env:Env):
  compTurn (.ListComp elt [⟨target,iter,ifs,0⟩] scope pos) 0 it acc env=turnOf ⟨target,iter,ifs,0⟩ (qR elt acc env) (.compLoop (.ListComp elt [⟨target,iter,ifs,0⟩] scope pos) 0 it acc env) it env:=rfl
theorem Pz(elt t0 i0 t1 i1:Expr)(f0 f1:List Expr)(scope:Scope)(pos:Pos)(it acc:Value)(env:Env):
  compTurn (.ListComp elt [⟨t0,i0,f0,0⟩,⟨t1,i1,f1,0⟩] scope pos) 1 it acc env=turnOf ⟨t1,i1,f1,0⟩ (qR elt acc env) (.compLoop (.ListComp elt [⟨t0,i0,f0,0⟩,⟨t1,i1,f1,0⟩] scope pos) 1 it acc env) it env:=rfl
theorem HB(elt t0 i0 t1 i1:Expr)(f0 f1:List Expr)(scope:Scope)(pos:Pos)(it acc:Value)(env:Env):
  compTurn (.ListComp elt [⟨t0,i0,f0,0⟩,⟨t1,i1,f1,0⟩] scope pos) 0 it acc env=turnOf ⟨t0,i0,f0,0⟩ (pX (.ListComp elt [⟨t0,i0,f0,0⟩,⟨t1,i1,f1,0⟩] scope pos) i1 acc env) (.compLoop (.ListComp elt [⟨t0,i0,f0,0⟩,⟨t1,i1,f1,0⟩] scope pos) 0 it acc env) it env:=rfl
noncomputable def qL(prog:Program)(w:World)(A:Around)(bodyK:Sem Fin->Sem Fin)(W:(Shared->Prop)->Shared->Prop):Prop:=
 ∀(k:Sem Fin) (Q:Fin->Shared->Prop) (E:Value->Shared->Prop) (s:Shared),W (λs'=>wpAny (model prog w) A k Q E s') s->wpAny (model prog w) A (bodyK k) Q E s
theorem yK:qL prog w A (qR elt acc env) (λP s=>wpAny (model prog w) A (eval elt env) (λx s1=>wpAny (model prog w) A (call (.builtin "list.append") [acc,x]) (λy s2=>P s2) (λy y=>False) s1) (λy y=>False) s):=by intro k Q E s h;unfold qR;exact Te (Te (Um h (λx s1 h1=>Te (Um h1 (λy s2 h2=>Th h2) λy y z=>z.elim)) λy y z=>z.elim))
theorem Bf(hs:∀ x,foldedSetIterable i1 env x=pure x):qL prog w A (pX e i1 acc env) (λP s=>wpAny (model prog w) A (eval i1 env) (λx s1=>wpAny (model prog w) A (pyIter x) (λit s2=>
  codeAny (model prog w) A (.compStart e 1 it acc env) (λr s3=>match r with
   |.ok _=>P s3
   |.error _=>False) s2) (λy y=>False) s1) (λy y=>False) s):=by
 intro k Q E s h;unfold pX;refine Te (Um h (λx s1 h1=>Te (WL (Te (wpAny_of_eq (hs x) (Te (Uy (Um h1 (λit s2 h2=>?_) λy y z=>z.elim))))))) λy y z=>z.elim)
 refine Te (wpAny_runOwn (Vw h2 λr s3 h3=>?_))
 cases r with
 |ok f=>exact h3
 |error x=>exact h3.elim
theorem I8(I:Nat->Shared->Prop)
  (hturn:compTurn (.ListComp elt gens scope pos) depth it acc env=turnOf g bodyK (.compLoop (.ListComp elt gens scope pos) depth it acc env) it env) (hW:qL prog w A bodyK W)
  (turn:∀ n s,I n s->wpAny (model prog w) A (pyNext it) (λr s₁=>match r with
    |none=>R (.ok .next) s₁
    |some v=>wpAny (model prog w) A (letOwnedTupleGo g.target it v) (λz s₂=>wpAny (model prog w) A (assign g.target env v) (λz s₃=>
      wpAny (model prog w) A (vY g.ifs env) (λok s₄=>if ok=true then W (λs₅=>∃m,m<n/\I m s₅) s₄ else ∃m,m<n/\I m s₄) (λz z=>False) s₃) (λz z=>False) s₂) (λz z=>False) s₁) (λz z=>False) s)
  (hmono:∀P P' s,(∀s,P s->P' s)->W P s->W P' s)
  (n:Nat) (h:I n s):codeAny (model prog w) A (.compLoop (.ListComp elt gens scope pos) depth it acc env) R s:=by
 refine codeAny_loop rfl I (λn s hI=>?_) n h
 show wpAny _ A ((compTurn (.ListComp elt gens scope pos) depth it acc env).onRaise (λx=>do noteFrame x env;theTreesLotGoes x)) _ _ s
 refine wpAny_noted ?_;rw[hturn];unfold turnOf;refine Te (WL (Te (Um (turn n s hI) (λr s₁ h₁=>?_) λz z h'=>h'.elim)))
 cases r with
 |none=>exact Th h₁
 | some v=>
   refine Te (Um h₁ (λz s₂ h₂=>Te (Um h₂ (λz s₃ h₃=>Te (Um h₃ (λok s₄ h₄=>?_) λz z h'=>h'.elim)) λz z h'=>h'.elim)) λz z h'=>h'.elim)
   cases ok with
   |false=>have h₄:∃m,m<n/\I m s₄:=h₄;exact Th ⟨rfl,h₄⟩
   |true=>
     have h₄:W (λs₅=>∃m,m<n/\I m s₅) s₄:=h₄
     exact hW _ _ _ _ (hmono _ _ _ (λs₅ h₅=>Th ⟨rfl,h₅⟩) h₄)
theorem qG(hg:gens[depth]?=some g)(ha:g.is_async=0)
  (h0:codeAny (model prog w) A (.compLoop (.ListComp elt gens scope pos) depth it acc env) R s)
  (h:wpAny (model prog w) A (pyIter it) (λit' s'=>codeAny (model prog w) A (.compLoop (.ListComp elt gens scope pos) depth it' acc env) R s') (λz z=>False) s) :
  codeAny (model prog w) A (.compStart (.ListComp elt gens scope pos) depth it acc env) R s:=by
 refine Ye ?_;show wpAny _ _ ((compStart (.ListComp elt gens scope pos) depth it acc env).onRaise (λx=>do noteFrame x env;standAt theWindowsPlace)) _ _ s
 refine wpAny_notedAt ?_;unfold compStart;have e1:(((clausesOf (.ListComp elt gens scope pos))[depth]?).elim false (·.is_async != 0))=false:=by show ((gens[depth]?).elim false (·.is_async != 0))=false;rw[hg];show (g.is_async != 0)=false;rw[ha];rfl
 rw[e1];simp only[Bool.false_eq_true,if_false,pure_bind];refine Te (Wi (wpAny_ite ?_));split
 ·first
   |exact Te (Th (Th (And.intro rfl h0)))
   |exact Th (And.intro rfl h0)
 ·refine Te (VN ?_);have e2:(clausesOf (.ListComp elt gens scope pos))[depth]?=some g:=hg;rw[e2];exact Te (WL (Te (Um h (λit' s' h'=>Th (And.intro rfl h')) λz z x=>x.elim)))
end
section
variable{prog:Program}{w:World}{A:Around}{E:Value->Shared->Prop}{s:Shared}
theorem Dj(hi:IsTupIter s.heap ia t k)(ht:IsTup s.heap t its)(hy:its[k]?=some y)
  (hQ:∀h',IsTupIter h' ia t (k+1)->Heap.SameBut ia s.heap h'->Q y { s with heap:=h' }):wpAny (model prog w) A (Builtin.SmallTypes.nextOf (.ref ia)) Q E s:=by
 obtain⟨oi,hoi,hci,hdi⟩:=id hi;obtain⟨ot,hot,_,nt,hdt⟩:=ht;unfold Builtin.SmallTypes.nextOf;refine Te (Ur (name:=Str.ofString "__next__") hi.typeIs Xb (Uw Xb hi.typeIs entry_tupleiter_next ?_ (args_tupleiter_next _)));show wpAny _ _ (field (.ref ia) 0>>=_) _ _ s;refine Te (UL hoi hdi (x:=.ref t) rfl ?_);show wpAny _ _ (if (Value.ref t==Value.none)=true then _ else _) _ _ s
 rw[Tw (λz:(Value.ref t==Value.none)=true=>Ub z)]
 show wpAny _ _ (field (.ref ia) 1>>=_) _ _ s;refine Te (UL hoi hdi (x:=.int k 0) rfl ?_);show wpAny _ _ (seqItems? (.ref t)>>=_) _ _ s;refine Te (VP hot hdt ?_);simp only[Int.toNat_natCast,hy];refine Te (Vx hoi hdi (by simp) (Th ⟨y,rfl,Th (hQ _ ⟨_,W6 _ hoi (Obj.isFreed_of_fields (Obj.data_mapFields hdi _)),(Obj.cls_mapFields ..).trans hci,?_⟩ (Vp ..))⟩))
 rw[Obj.data_mapFields hdi];simp[rawInt]
theorem Ah(hh:A.handled=none)(hi:IsTupIter s.heap ia t k)(ht:IsTup s.heap t its)(hy:its[k]?=none)
  (hE:∀h' e,Heap.ExtBut ia s.heap h'->(∃o,h'.get? e=some o/\o.cls=.type "StopIteration")->E (.ref e) { s with heap:=h' }):wpAny (model prog w) A (Builtin.SmallTypes.nextOf (.ref ia)) Q E s:=by
 obtain⟨oi,hoi,hci,hdi⟩:=id hi;obtain⟨ot,hot,_,nt,hdt⟩:=ht;unfold Builtin.SmallTypes.nextOf;refine Te (Ur (name:=Str.ofString "__next__") hi.typeIs Xb (Uw Xb hi.typeIs entry_tupleiter_next ?_ (args_tupleiter_next _)));show wpAny _ _ (field (.ref ia) 0>>=_) _ _ s;refine Te (UL hoi hdi (x:=.ref t) rfl ?_);show wpAny _ _ (if (Value.ref t==Value.none)=true then _ else _) _ _ s
 rw[Tw (λz:(Value.ref t==Value.none)=true=>Ub z)]
 show wpAny _ _ (field (.ref ia) 1>>=_) _ _ s;refine Te (UL hoi hdi (x:=.int k 0) rfl ?_);show wpAny _ _ (seqItems? (.ref t)>>=_) _ _ s;refine Te (VP hot hdt ?_);simp only[Int.toNat_natCast,hy];refine Te (VN (Te (Vx hoi hdi (by simp) ?_)))
 show wpAny _ _ (newExc (.type "StopIteration") ([]:List Value)>>=λy=>_) _ _ _
 refine Te ?_;simp only[newExc,newTuple];refine Te (Ug ?_ (by size_fits:_))
 refine Te (m:=firstArgMember _ _) (wpAny_of_eq (a:=Value.none) (by first | rfl | simp only[firstArgMember]) ?_)
 refine Ug ?_ (by size_fits:_)
 simp only[raiseNew];refine Te (wpAny_handled ?_)
 first | rw[hh] | rw[show A.in1.handled=none from hh]
 refine Te (Th (wpAny_throw (hE _ _ (((Vp ..).extBut.push _).push _) ⟨_,Tu _ rfl,rfl⟩)))
end
structure SubIt(P:Program)(w:World)(i l:Addr)(its:Array Value)(st:Nat->Heap->Prop):Prop where
 obj:∀k h,st k h->(∃o,h.get? i=some o/\∀v,o.data≠.cell v)/\∃o,h.get? l=some o
 keep:∀k h h',st k h->(∀o,h.get? i=some o->h'.get? i=some o)->(∀o,h.get? l=some o->h'.get? l=some o)->st k h'
 item:∀(A:Around) k (s:Shared) x (Q:Value->Shared->Prop) (E:Value->Shared->Prop),st k s.heap->its[k]?=some x->(∀h',st (k+1) h'->Heap.SameBut i s.heap h'->Q x { s with heap:=h' })->wpAny (model P w) A (Builtin.SmallTypes.nextOf (.ref i)) Q E s
 done:∀(A:Around) k (s:Shared) (Q:Value->Shared->Prop) (E:Value->Shared->Prop),A.handled=none->st k s.heap->its[k]?=none->(∀h' e,Heap.ExtBut i s.heap h'->(∃o,h'.get? e=some o/\o.cls=.type "StopIteration")->E (.ref e) { s with heap:=h' })->wpAny (model P w) A (Builtin.SmallTypes.nextOf (.ref i)) Q E s
theorem Mh(hne:l≠i)(its:Array Value):SubIt P w i l its (λk h=>IsTupIter h i l k/\IsTup h l its) where
 obj:=λk h ⟨⟨o,e,_,d⟩,⟨o',e',_⟩⟩=>⟨⟨o,e,λv z=>by rw[d]at z;cases z⟩,o',e'⟩
 keep:=λk h h' ⟨⟨o,e,r⟩,⟨o',e',r'⟩⟩ k1 k2=>⟨⟨o,k1 _ e,r⟩,⟨o',k2 _ e',r'⟩⟩
 item:=λA k s x Q E st hx hQ=>Dj st.1 st.2 hx λh' h1 h2=>hQ h' ⟨h1,st.2.extBut h2.extBut hne⟩ h2
 done:=λA k s Q E hh st hx hE=>Ah hh st.1 st.2 hx hE
theorem Ma(hne:l≠i)(its:Array Value):SubIt P w i l its (λk h=>h.IsListIter i l k/\h.IsList l its) where
 obj:=λk h ⟨⟨o,e,_,d⟩,⟨o',e',_⟩⟩=>⟨⟨o,e,λv z=>by rw[d]at z;cases z⟩,o',e'⟩
 keep:=λk h h' ⟨⟨o,e,r⟩,⟨o',e',r'⟩⟩ k1 k2=>⟨⟨o,k1 _ e,r⟩,⟨o',k2 _ e',r'⟩⟩
 item:=λA k s x Q E st hx hQ=>wpAny_nextOf_list_item st.1 st.2 hx λh' h1 h2=>hQ h' ⟨h1,st.2.extBut h2.extBut hne⟩ h2
 done:=λA k s Q E hh st hx hE=>wpAny_nextOf_list_end hh st.1 st.2 hx hE
section
variable{P:Program}{w:World}{A:Around}{E:Value->Shared->Prop}{s:Shared}{z TI TO i1 i2 l1 l2:Addr}{xs ys:Array Value}{st1 st2:Nat->Heap->Prop}
theorem HJ{k:Nat}{Q:Value->Shared->Prop}(D:ZipApart z TI TO i1 i2 l1 l2)(S1:SubIt P w i1 l1 xs st1)(S2:SubIt P w i2 l2 ys st2)
  (hz:IsZip s.heap z TI TO .none) (hTI:IsPair s.heap TI (.ref i1) (.ref i2)) (hTO:IsPair s.heap TO a b) (h1:st1 k s.heap) (h2:st2 k s.heap) (hx:xs[k]?=some x) (hy:ys[k]?=some y)
  (hQ:∀h',IsZip h' z TI TO (rawInt s.heap.objs.size)->IsPair h' TO x y->st1 (k+1) h'->st2 (k+1) h'->IsPair h' s.heap.objs.size x y->h'.objs.size=s.heap.objs.size+1->(∀c o,c≠z->c≠TO->c≠i1->c≠i2->s.heap.get? c=some o->h'.get? c=some o)->Q (.ref s.heap.objs.size) { s with heap:=h' }) :
  wpAny (model P w) A (Builtin.«zip.__next__» ⟨[.ref z],[]⟩) (λfin s'=>∃v,fin=.done (.ret v)/\Q v s') E s:=by
 show wpAny _ _ (field (.ref z) 2>>=λu=>_) _ _ _
 refine Te (UL hz rfl (x:=.bool false) rfl (show _ from ?_))
 show wpAny _ _ (field (.ref z) 3>>=λu=>_) _ _ _
 refine Te (UL hz rfl (x:=.ref TI) rfl (show _ from ?_))
 refine Te (VP hTI rfl (show _ from ?_))
 show wpAny _ _ (Builtin.SmallTypes.ownedTupleIsFree (.ref z)>>=λu=>_) _ _ _
 refine Te ?_;unfold Builtin.SmallTypes.ownedTupleIsFree;refine Te (UL hz rfl (x:=.none) rfl (Th (show _ from ?_)))
 simp only[if_true];refine Te (VN (show _ from ?_))
 refine Te (UL hz rfl (x:=.ref TO) rfl (show _ from ?_))
 refine Te (wpAny_setField_rec hz (by simp) λg1 hz1 e1=>?_)
 replace hz1:IsZip g1 z TI TO .ellipsis:=hz1;have n1:=(S1.obj _ _ h1).2;refine Te ?_;simp only[List.zipIdx_cons,List.zipIdx_nil,List.forIn_cons,List.forIn_nil];refine Te (Te (wpAny_onRaise (show _ from ?_)))
 show wpAny _ _ (Builtin.SmallTypes.nextOf (.ref i1)>>=λu=>_) _ _ _
 refine Te (S1.item _ k _ x _ _ (S1.keep _ _ _ h1 (λo q=>e1.extBut _ _ D.i1z q) λo q=>e1.extBut _ _ D.l1z q) hx λg2 h12 e2=>Th ?_)
 have hTO2:IsPair g2 TO a b:=e2.extBut _ _ D.TOi1 (e1.extBut _ _ D.TOz hTO);refine Te (VP hTO2 rfl (show _ from ?_))
 refine Te (wpAny_updateSeq_pair hTO2 λg3 hTO3 e3=>?_)
 replace hTO3:IsPair g3 TO x b:=hTO3;refine Te (wpAny_letGo (Th (show _ from ?_)))
 refine Te (Te (wpAny_onRaise (show _ from ?_)))
 show wpAny _ _ (Builtin.SmallTypes.nextOf (.ref i2)>>=λu=>_) _ _ _
 refine Te (S2.item _ k _ y _ _ (S2.keep _ _ _ h2 (λo q=>e3.extBut _ _ D.TOi2.symm (e2.extBut _ _ D.i12.symm (e1.extBut _ _ D.i2z q))) λo q=>e3.extBut _ _ D.l2TO (e2.extBut _ _ D.l2i1 (e1.extBut _ _ D.l2z q))) hy λg4 h24 e4=>Th ?_)
 have hTO4:IsPair g4 TO x b:=e4.extBut _ _ D.TOi2 hTO3;refine Te (VP hTO4 rfl (show _ from ?_))
 refine Te (wpAny_updateSeq_pair hTO4 λg5 hTO5 e5=>?_)
 replace hTO5:IsPair g5 TO x y:=hTO5;refine Te (wpAny_letGo (Th (Th (show _ from ?_))))
 refine Te (VP hTO5 rfl (show _ from ?_))
 refine Te (wpAny_newTuple (show _ from ?_))
 have hsz:g5.objs.size=s.heap.objs.size:=by rw[e5.1,e4.1,e3.1,e2.1,e1.1]
 have hz5:IsZip g5 z TI TO .ellipsis:=e5.extBut _ _ D.TOz.symm (e4.extBut _ _ D.i2z.symm (e3.extBut _ _ D.TOz.symm (e2.extBut _ _ D.i1z.symm hz1)));have hk5:∀c o,c≠z->c≠TO->c≠i1->c≠i2->s.heap.get? c=some o->g5.get? c=some o:=λc o c1 c2 c3 c4 q=>e5.extBut _ _ c2 (e4.extBut _ _ c4 (e3.extBut _ _ c2 (e2.extBut _ _ c3 (e1.extBut _ _ c1 q))))
 have h15:st1 (k+1) g5:=S1.keep _ _ _ h12 (λo q=>e5.extBut _ _ D.TOi1.symm (e4.extBut _ _ D.i12 (e3.extBut _ _ D.TOi1.symm q))) λo q=>e5.extBut _ _ D.l1TO (e4.extBut _ _ D.l1i2 (e3.extBut _ _ D.l1TO q))
 have h25:st2 (k+1) g5:=S2.keep _ _ _ h24 (λo q=>e5.extBut _ _ D.TOi2.symm q) λo q=>e5.extBut _ _ D.l2TO q
 have hzlt:z<g5.objs.size:=Tt hz5;show wpAny _ _ (Builtin.SmallTypes.ownedTupleHandOut (.ref z) (.ref g5.objs.size)>>=λu=>_) _ _ _
 refine Te ?_;unfold Builtin.SmallTypes.ownedTupleHandOut;have hz6:IsZip (g5.push { cls:=.type "tuple",data:=.seq #[x,y] }) z TI TO .ellipsis:=Tf _ hz5;refine Te (wpAny_setField_rec hz6 (by simp) λg7 hz7 e7=>?_)
 replace hz7:IsZip g7 z TI TO (rawInt g5.objs.size):=hz7;refine wpAny_setField_rec hz7 (by simp) λg8 hz8 e8=>?_
 replace hz8:IsZip g8 z TI TO (rawInt g5.objs.size):=hz8;have up:∀c o,c≠z->g5.get? c=some o->g8.get? c=some o:=λc o c1 q=>e8.extBut _ _ c1 (e7.extBut _ _ c1 (Tf _ q))
 have hT8:IsPair g8 g5.objs.size x y:=e8.extBut _ _ (Wl hzlt) (e7.extBut _ _ (Wl hzlt) (Tu _ rfl));have sz8:g8.objs.size=g5.objs.size+1:=by rw[e8.1,e7.1,Uc]
 rw[hsz]at hz8 hT8 sz8;refine Th ⟨_,rfl,?_⟩;show Q (.ref g5.objs.size) _;rw[hsz];exact hQ g8 hz8 (up _ _ D.TOz hTO5) (S1.keep _ _ _ h15 (λo q=>up _ o D.i1z q) λo q=>up _ o D.l1z q) (S2.keep _ _ _ h25 (λo q=>up _ o D.i2z q) λo q=>up _ o D.l2z q) hT8 sz8 λc o c1 c2 c3 c4 q=>up c o c1 (hk5 c o c1 c2 c3 c4 q)
theorem Jx(hh:A.handled=none)(D:ZipApart z TI TO i1 i2 l1 l2)(S1:SubIt P w i1 l1 xs st1)(S2:SubIt P w i2 l2 ys st2)
  (hz:IsZip s.heap z TI TO .none) (hTI:IsPair s.heap TI (.ref i1) (.ref i2)) (hTO:IsPair s.heap TO a b) (h1:st1 k s.heap) (h2:st2 k s.heap) (hend:xs[k]?=none\/ys[k]?=none)
  (hE:∀h' e,(∀c o,c≠z->c≠TO->c≠i1->c≠i2->s.heap.get? c=some o->h'.get? c=some o)->(∃o,h'.get? e=some o/\o.cls=.type "StopIteration")->E (.ref e) { s with heap:=h' }) :
  wpAny (model P w) A (Builtin.«zip.__next__» ⟨[.ref z],[]⟩) Q E s:=by
 show wpAny _ _ (field (.ref z) 2>>=λy=>_) _ _ _
 refine Te (UL hz rfl (x:=.bool false) rfl (show _ from ?_))
 show wpAny _ _ (field (.ref z) 3>>=λy=>_) _ _ _
 refine Te (UL hz rfl (x:=.ref TI) rfl (show _ from ?_))
 refine Te (VP hTI rfl (show _ from ?_))
 show wpAny _ _ (Builtin.SmallTypes.ownedTupleIsFree (.ref z)>>=λy=>_) _ _ _
 refine Te ?_;unfold Builtin.SmallTypes.ownedTupleIsFree;refine Te (UL hz rfl (x:=.none) rfl (Th (show _ from ?_)))
 simp only[if_true];refine Te (VN (show _ from ?_))
 refine Te (UL hz rfl (x:=.ref TO) rfl (show _ from ?_))
 refine Te (wpAny_setField_rec hz (by simp) λg1 hz1 e1=>?_)
 replace hz1:IsZip g1 z TI TO .ellipsis:=hz1;refine Te ?_;simp only[List.zipIdx_cons,List.zipIdx_nil,List.forIn_cons,List.forIn_nil];refine Te (Te (wpAny_onRaise (show _ from ?_)))
 show wpAny _ _ (Builtin.SmallTypes.nextOf (.ref i1)>>=λy=>_) _ _ _
 have h11:st1 k g1:=S1.keep _ _ _ h1 (λo q=>e1.extBut _ _ D.i1z q) λo q=>e1.extBut _ _ D.l1z q
 cases hx:xs[k]? with
 |none=>
   refine Te (S1.done _ k _ _ _ hh h11 hx λg2 e e2 he=>?_)
   obtain⟨oe,hoe,hce⟩:=he;have hz2:IsZip g2 z TI TO .ellipsis:=e2 _ _ D.i1z.symm hz1;have hez:e≠z:=λq=>by subst q;rw[hz2]at hoe;cases hoe;simp at hce
   refine wpAny_setField_rec hz2 (by simp) λg3 y e3=>hE g3 e (λc o c1 y c3 y q=>e3.extBut _ _ c1 (e2 _ _ c3 (e1.extBut _ _ c1 q))) ⟨oe,e3.extBut _ _ hez hoe,hce⟩
 |some x=>
   have hy:ys[k]?=none:=by rcases hend with q | q;rw[hx]at q;cases q;exact q
   refine Te (S1.item _ k _ x _ _ h11 hx λg2 h12 e2=>Th ?_)
   have hTO2:IsPair g2 TO a b:=e2.extBut _ _ D.TOi1 (e1.extBut _ _ D.TOz hTO);refine Te (VP hTO2 rfl (show _ from ?_))
   refine Te (wpAny_updateSeq_pair hTO2 λg3 hTO3 e3=>?_)
   refine Te (wpAny_letGo (Th (show _ from ?_)))
   refine Te (Te (wpAny_onRaise (show _ from ?_)))
   show wpAny _ _ (Builtin.SmallTypes.nextOf (.ref i2)>>=λy=>_) _ _ _
   refine Te (S2.done _ k _ _ _ hh (S2.keep _ _ _ h2 (λo q=>e3.extBut _ _ D.TOi2.symm (e2.extBut _ _ D.i12.symm (e1.extBut _ _ D.i2z q))) λo q=>e3.extBut _ _ D.l2TO (e2.extBut _ _ D.l2i1 (e1.extBut _ _ D.l2z q))) hy λg4 e e4 he=>?_)
   obtain⟨oe,hoe,hce⟩:=he;have hz4:IsZip g4 z TI TO .ellipsis:=e4 _ _ D.i2z.symm (e3.extBut _ _ D.TOz.symm (e2.extBut _ _ D.i1z.symm hz1));have hez:e≠z:=λq=>by subst q;rw[hz4]at hoe;cases hoe;simp at hce
   refine wpAny_setField_rec hz4 (by simp) λg5 y e5=>hE g5 e (λc o c1 c2 c3 c4 q=>e5.extBut _ _ c1 (e4 _ _ c4 (e3.extBut _ _ c2 (e2.extBut _ _ c3 (e1.extBut _ _ c1 q))))) ⟨oe,e5.extBut _ _ hez hoe,hce⟩
end
noncomputable abbrev qK(h:Heap)(T1:String)(l1:Addr):Heap:=h.push { cls:=.type T1,data:=.fields #[.ref l1,.int 0 0] }
noncomputable abbrev J0(h:Heap)(T1 T2:String)(l1 l2:Addr):Heap:=(qK h T1 l1).push { cls:=.type T2,data:=.fields #[.ref l2,.int 0 0] }
noncomputable abbrev J1(h:Heap)(T1 T2:String)(l1 l2:Addr):Heap:=(J0 h T1 T2 l1 l2).push { cls:=.type "tuple",data:=.seq #[.ref h.objs.size,.ref (qK h T1 l1).objs.size] }
noncomputable abbrev sX(h:Heap)(T1 T2:String)(l1 l2:Addr):Heap:=(J1 h T1 T2 l1 l2).push { cls:=.type "tuple",data:=.seq #[.none,.none] }
noncomputable abbrev nR(h:Heap)(T1 T2:String)(l1 l2:Addr):Heap:=(sX h T1 T2 l1 l2).push { cls:=.type "zip",data:=.fields #[.none,.bool false,.bool false,.ref (J0 h T1 T2 l1 l2).objs.size,.ref (J1 h T1 T2 l1 l2).objs.size] }
theorem zr(l1 l2:Addr)(xs ys:Array Value):
  Meets (Builtin.«zip.__new__» ⟨[.type "zip",.ref l1,.ref l2],[]⟩) (λz R s=>IsTup s.heap l1 xs/\IsTup s.heap l2 ys/\R (.ok (.ret (.ref (sX s.heap "tuple_iterator" "tuple_iterator" l1 l2).objs.size))) { s with heap:=nR s.heap "tuple_iterator" "tuple_iterator" l1 l2 }):=
 .of_wp λprog w A R s h=>by
  obtain⟨hp,gn,dr,tk,os⟩:=s;obtain⟨k1,k2,h⟩:=h;have hsub:=sub_zip;have K1:IsTup (Shared.heap ⟨hp,gn,dr,tk,os⟩) l1 xs:=k1;have K2:IsTup (Shared.heap ⟨hp.push { cls:=.type "tuple_iterator",data:=.fields #[.ref l1,.int 0 0] },gn,dr,tk,os⟩) l2 ys:=k2.push _
  wp_walk using X4 K1,X4 K2
  exact⟨_,rfl,h⟩
theorem zm(l1 l2:Addr)(xs ys:Array Value):
  Meets (Builtin.«zip.__new__» ⟨[.type "zip",.ref l1,.ref l2],[]⟩) (λz R s=>s.heap.IsList l1 xs/\IsTup s.heap l2 ys/\R (.ok (.ret (.ref (sX s.heap "list_iterator" "tuple_iterator" l1 l2).objs.size))) { s with heap:=nR s.heap "list_iterator" "tuple_iterator" l1 l2 }):=
 .of_wp λprog w A R s h=>by
  obtain⟨hp,gn,dr,tk,os⟩:=s;obtain⟨k1,k2,h⟩:=h;have hsub:=sub_zip;have K1:Heap.IsList (Shared.heap ⟨hp,gn,dr,tk,os⟩) l1 xs:=k1;have K2:IsTup (Shared.heap ⟨hp.push { cls:=.type "list_iterator",data:=.fields #[.ref l1,.int 0 0] },gn,dr,tk,os⟩) l2 ys:=k2.push _
  wp_walk using Vr K1,X4 K2
  exact⟨_,rfl,h⟩
theorem zq(l1 l2:Addr)(xs ys:Array Value):
  Meets (Builtin.«zip.__new__» ⟨[.type "zip",.ref l1,.ref l2],[]⟩) (λz R s=>IsTup s.heap l1 xs/\s.heap.IsList l2 ys/\R (.ok (.ret (.ref (sX s.heap "tuple_iterator" "list_iterator" l1 l2).objs.size))) { s with heap:=nR s.heap "tuple_iterator" "list_iterator" l1 l2 }):=
 .of_wp λprog w A R s h=>by
  obtain⟨hp,gn,dr,tk,os⟩:=s;obtain⟨k1,k2,h⟩:=h;have hsub:=sub_zip;have K1:IsTup (Shared.heap ⟨hp,gn,dr,tk,os⟩) l1 xs:=k1;have K2:Heap.IsList (Shared.heap ⟨hp.push { cls:=.type "tuple_iterator",data:=.fields #[.ref l1,.int 0 0] },gn,dr,tk,os⟩) l2 ys:=Heap.IsList.push k2 _
  wp_walk using X4 K1,Vr K2
  exact⟨_,rfl,h⟩
theorem zj(l1 l2:Addr)(xs ys:Array Value):
  Meets (Builtin.«zip.__new__» ⟨[.type "zip",.ref l1,.ref l2],[]⟩) (λz R s=>s.heap.IsList l1 xs/\s.heap.IsList l2 ys/\R (.ok (.ret (.ref (sX s.heap "list_iterator" "list_iterator" l1 l2).objs.size))) { s with heap:=nR s.heap "list_iterator" "list_iterator" l1 l2 }):=
 .of_wp λprog w A R s h=>by
  obtain⟨hp,gn,dr,tk,os⟩:=s;obtain⟨k1,k2,h⟩:=h;have hsub:=sub_zip;have K1:Heap.IsList (Shared.heap ⟨hp,gn,dr,tk,os⟩) l1 xs:=k1;have K2:Heap.IsList (Shared.heap ⟨hp.push { cls:=.type "list_iterator",data:=.fields #[.ref l1,.int 0 0] },gn,dr,tk,os⟩) l2 ys:=Heap.IsList.push k2 _
  wp_walk using Vr K1,Vr K2
  exact⟨_,rfl,h⟩
noncomputable def fZ(b:Bool)(h:Heap)(l:Addr)(xs:Array Value):Prop:=if b then IsTup h l xs else h.IsList l xs
noncomputable def qM(b:Bool)(i l:Addr)(xs:Array Value)(k:Nat)(h:Heap):Prop:=(if b then IsTupIter h i l k else h.IsListIter i l k)/\fZ b h l xs
theorem jF(b:Bool)(hne:l≠i)(its:Array Value):SubIt P w i l its (qM b i l its):=by
 cases b with
 |true=>exact Mh hne its
 |false=>exact Ma hne its
theorem fZ.lt(q:fZ b h l xs):l<h.objs.size:=by
 cases b with
 |true=>obtain⟨o,e,_⟩:=(show IsTup h l xs from q);exact Tt e
 |false=>obtain⟨o,e,_⟩:=(show h.IsList l xs from q);exact Tt e
theorem fZ.keep(q:fZ b h l xs)(k:∀o,h.get? l=some o->h'.get? l=some o):fZ b h' l xs:=by
 cases b with
 |true=>obtain⟨o,e,r⟩:=(show IsTup h l xs from q);exact⟨o,k _ e,r⟩
 |false=>obtain⟨o,e,r⟩:=(show h.IsList l xs from q);exact⟨o,k _ e,r⟩
section
variable{P:Program}{w:World}{A:Around}{E:Value->Shared->Prop}{s:Shared}{l1 l2:Addr}{xs ys:Array Value}
theorem Fe(k1:fZ b1 s.heap l1 xs)(k2:fZ b2 s.heap l2 ys)
  (h:∀h',IsZip h' (s.heap.objs.size+4) (s.heap.objs.size+2) (s.heap.objs.size+3) .none->IsPair h' (s.heap.objs.size+2) (.ref s.heap.objs.size) (.ref (s.heap.objs.size+1))->IsPair h' (s.heap.objs.size+3) .none .none->
    qM b1 s.heap.objs.size l1 xs 0 h'->qM b2 (s.heap.objs.size+1) l2 ys 0 h'->h'.objs.size=s.heap.objs.size+5->(∀c o,s.heap.get? c=some o->h'.get? c=some o)->Q (.ref (s.heap.objs.size+4)) { s with heap:=h' }) :
  wpAny (model P w) A (call (.type "zip") [.ref l1,.ref l2]) Q E s:=by
 have fin:∀T1 T2,(∀h' k,h'.get? s.heap.objs.size=some { cls:=.type T1,data:=.fields #[.ref l1,.int 0 0] }->fZ b1 h' l1 xs->k=0->qM b1 s.heap.objs.size l1 xs k h')->
   (∀h' k,h'.get? (s.heap.objs.size+1)=some { cls:=.type T2,data:=.fields #[.ref l2,.int 0 0] }->fZ b2 h' l2 ys->k=0->qM b2 (s.heap.objs.size+1) l2 ys k h')->
   s.TypeIs (.ref (sX s.heap T1 T2 l1 l2).objs.size) "zip"\/True->Q (.ref (sX s.heap T1 T2 l1 l2).objs.size) { s with heap:=nR s.heap T1 T2 l1 l2 }/\({ s with heap:=nR s.heap T1 T2 l1 l2 }:Shared).TypeIs (.ref (sX s.heap T1 T2 l1 l2).objs.size) "zip":=by
  intro T1 T2 f1 f2 _;have z1:(qK s.heap T1 l1).objs.size=s.heap.objs.size+1:=Uc ..
  have z2:(J0 s.heap T1 T2 l1 l2).objs.size=s.heap.objs.size+2:=by rw[Uc,z1]
  have z3:(J1 s.heap T1 T2 l1 l2).objs.size=s.heap.objs.size+3:=by rw[Uc,z2]
  have z4:(sX s.heap T1 T2 l1 l2).objs.size=s.heap.objs.size+4:=by rw[Uc,z3]
  have z5:(nR s.heap T1 T2 l1 l2).objs.size=s.heap.objs.size+5:=by rw[Uc,z4]
  have up:∀c o,s.heap.get? c=some o->(nR s.heap T1 T2 l1 l2).get? c=some o:=λc o q=>Tf _ (Tf _ (Tf _ (Tf _ (Tf _ q))))
  have q5:(nR s.heap T1 T2 l1 l2).get? (sX s.heap T1 T2 l1 l2).objs.size=some _:=Tu _ rfl;have q4:(nR s.heap T1 T2 l1 l2).get? (J1 s.heap T1 T2 l1 l2).objs.size=some _:=Tf _ (Tu _ rfl);have q3:(nR s.heap T1 T2 l1 l2).get? (J0 s.heap T1 T2 l1 l2).objs.size=some _:=Tf _ (Tf _ (Tu _ rfl));have q2:(nR s.heap T1 T2 l1 l2).get? (qK s.heap T1 l1).objs.size=some _:=Tf _ (Tf _ (Tf _ (Tu _ rfl)));have q1:(nR s.heap T1 T2 l1 l2).get? s.heap.objs.size=some _:=Tf _ (Tf _ (Tf _ (Tf _ (Tu _ rfl))));rw[z2,z3,z4]at q5;rw[z1,z2]at q3;rw[z3]at q4;rw[z1]at q2;rw[z4];exact⟨h _ q5 q3 q4 (f1 _ 0 q1 (k1.keep λo q=>up _ _ q) rfl) (f2 _ 0 q2 (k2.keep λo q=>up _ _ q) rfl) z5 up,_,q5,rfl⟩
 cases b1 with
 | true=>cases b2 with
   |true=>
     refine Xn F.called_zip (by decide) (XM _ _) (Yh _ _) (λobj=>W8 obj _ _) Yb (zr l1 l2 xs ys) ⟨k1,k2,?_⟩
     obtain⟨a1,a2⟩:=fin "tuple_iterator" "tuple_iterator" (λh' k q q' e=>by subst e;exact⟨⟨_,q,rfl,rfl⟩,q'⟩) (λh' k q q' e=>by subst e;exact⟨⟨_,q,rfl,rfl⟩,q'⟩) (.inr trivial)
     exact⟨a2,a1⟩
   |false=>
     refine Xn F.called_zip (by decide) (XM _ _) (Yh _ _) (λobj=>W8 obj _ _) Yb (zq l1 l2 xs ys) ⟨k1,k2,?_⟩
     obtain⟨a1,a2⟩:=fin "tuple_iterator" "list_iterator" (λh' k q q' e=>by subst e;exact⟨⟨_,q,rfl,rfl⟩,q'⟩) (λh' k q q' e=>by subst e;exact⟨⟨_,q,rfl,rfl⟩,q'⟩) (.inr trivial)
     exact⟨a2,a1⟩
 | false=>cases b2 with
   |true=>
     refine Xn F.called_zip (by decide) (XM _ _) (Yh _ _) (λobj=>W8 obj _ _) Yb (zm l1 l2 xs ys) ⟨k1,k2,?_⟩
     obtain⟨a1,a2⟩:=fin "list_iterator" "tuple_iterator" (λh' k q q' e=>by subst e;exact⟨⟨_,q,rfl,rfl⟩,q'⟩) (λh' k q q' e=>by subst e;exact⟨⟨_,q,rfl,rfl⟩,q'⟩) (.inr trivial)
     exact⟨a2,a1⟩
   |false=>
     refine Xn F.called_zip (by decide) (XM _ _) (Yh _ _) (λobj=>W8 obj _ _) Yb (zj l1 l2 xs ys) ⟨k1,k2,?_⟩
     obtain⟨a1,a2⟩:=fin "list_iterator" "list_iterator" (λh' k q q' e=>by subst e;exact⟨⟨_,q,rfl,rfl⟩,q'⟩) (λh' k q q' e=>by subst e;exact⟨⟨_,q,rfl,rfl⟩,q'⟩) (.inr trivial)
     exact⟨a2,a1⟩
end
section
variable{X:Cx}{Yk:List (Addr×Obj)}{σ:St}{H:Hp}{s:Shared}{h':Heap}
theorem Inv.turnedL{t':Nat}{ch:List Addr}(I:Inv X Yk σ H s)(k:∀b o,b∉ch->s.heap.get? b=some o->h'.get? b=some o)(hf:∀b∈ch,FpOk X Yk H b)(hL:∀b∈ch,b≠X.env.locals):Inv X Yk σ H { s with heap:=h',toks:=t' }:=by
 have nit:∀b u,H b=some u->b∉ch:=λb u e z=>by have:=(hf b z).1;rw[e]at this;cases this
 refine I.step (g':=s.gens) (d':=s.drawn) (ch:=ch) (λb hb=>?_) (λb o y y hc e y=>k b o hc e) (λb o y y hc e y=>⟨o.slots,k b o hc e⟩) (λy y y y n=>n)
  (λb o hc e=>⟨o,k b o hc e⟩) (λy y e=>e) (λy y y e=>e) (λb ps e=>⟨#[],by rw[e];simp⟩) (λm hm=>?_) (λb u e=>?_) I.bare
 ·obtain⟨_,f1,_,f3,f4,f5⟩:=hf b hb;exact⟨f3,f1,f4,f5⟩
 ·obtain⟨o,es,ep,ho,r⟩:=hm;exact⟨o,es,ep,k _ o (λz=>(hL _ z) rfl) ho,r⟩
 ·refine (I.hok b u e).stay (λc v hc q=>k c v ?_ q) (λy q=>q) λy y q=>q
  rcases hc with z | z
  ·rw[z];exact nit b u e
  ·exact nit c _ z
theorem Inv.turnedLay{t':Nat}{ch:List Addr}{p:Addr}{o:HO}(I:Inv X Yk σ H s)(k:∀ b o,b∉ch->s.heap.get? b=some o->h'.get? b=some o)(hf:∀ b∈ch,FpOk X Yk H b)(hp:s.heap.objs.size<=p)(new:ObjOk X.prog X.w (upd H p o) h' p o):Inv X Yk σ (upd H p o) { s with heap:=h',toks:=t' }:=by
 have nit:∀b u,H b=some u->b∉ch:=λb u e z=>by have:=(hf b z).1;rw[e]at this;cases this
 have hn:H p=none:=I.hok.fresh hp;have tr:∀b u,H b=some u->upd H p o b=some u:=λb u e=>by rw[upd_ne (ne_of_none e hn)];exact e
 refine I.step (g':=s.gens) (d':=s.drawn) (ch:=ch) (λb hb=>?_) (λb o x x hc e x=>k b o hc e) (λb o x x hc e x=>⟨o.slots,k b o hc e⟩) (λb u x e n=>by rw[upd_ne (TF (TY (Tt e) hp))];exact n)
  (λb o hc e=>⟨o,k b o hc e⟩) (λb xs e=>tr b _ e) (λb x x e=>tr b _ e) (λb ps e=>⟨#[],by rw[tr b _ e];simp⟩) (λm hm=>?_) (λb u e=>?_) I.bare
 ·obtain⟨_,f1,_,f3,f4,f5⟩:=hf b hb;exact⟨f3,f1,f4,f5⟩
 ·obtain⟨o,es,ep,ho,r⟩:=hm;exact⟨o,es,ep,k _ o (λz=>(hf _ z).2.1 rfl) ho,r⟩
 ·by_cases z:b=p
  ·subst z;rw[upd_same]at e;cases e;exact new
  ·rw[upd_ne z]at e;refine (I.hok b u e).stay (λc v hc q=>k c v ?_ q) (λc q=>tr c _ q) (λc xs q=>tr c _ q) λc o q=>tr c _ q
   rcases hc with y | y
   ·rw[y];exact nit b u e
   ·exact nit c _ y
end
noncomputable def mO(b:Bool)(K:PySem.W.Frag)(H:Hp)(l:Addr)(xs:List V):Prop:=if b then SqT K H l xs else SqL K H l xs
theorem Inv.seqS{X:Cx}{Yk:List (Addr×Obj)}{σ:St}{H:Hp}{s:Shared}{b:Bool}{l:Addr}{xs:List V}(I:Inv X Yk σ H s)(h:mO b X.K H l xs):∃its:List Value,Vals xs its/\fZ b s.heap l its.toArray/\xs.length<=sizeLine:=by
 cases b with
 |true=>obtain⟨its,r,p,z⟩:=I.tuple (show SqT X.K H l xs from h);exact⟨its,r,p,z⟩
 |false=>obtain⟨its,r,p,z⟩:=I.list (show SqL X.K H l xs from h);exact⟨its,r,p.isList,z⟩
theorem Inv.seqS_inj{X:Cx}{Yk:List (Addr×Obj)}{σ:St}{H:Hp}{s:Shared}{b:Bool}{l:Addr}{xs ys:List V}(I:Inv X Yk σ H s)(h:mO b X.K H l xs)(q:mO b X.K H l ys):xs=ys:=by
 cases b with
 |true=>exact I.tuple_inj (show SqT X.K H l xs from h) q
 |false=>exact I.list_inj (show SqL X.K H l xs from h) q
noncomputable def fD(b:Bool)(i l:Addr)(k:Nat)(h:Heap):Prop:=if b then IsTupIter h i l k else h.IsListIter i l k
theorem fD.keep{b:Bool}{i l:Addr}{k:Nat}{h h':Heap}(q:fD b i l k h)(kk:∀o,h.get? i=some o->h'.get? i=some o):fD b i l k h':=by
 cases b with
 |true=>obtain⟨o,e,r⟩:=(show IsTupIter h i l k from q);exact⟨o,kk _ e,r⟩
 |false=>obtain⟨o,e,r⟩:=(show h.IsListIter i l k from q);exact⟨o,kk _ e,r⟩
theorem fD.obj{b:Bool}{i l:Addr}{k:Nat}{h:Heap}(q:fD b i l k h):∃o,h.get? i=some o/\∀v,o.data≠.cell v:=by
 cases b with
 |true=>obtain⟨o,e,_,d⟩:=(show IsTupIter h i l k from q);exact⟨o,e,λv z=>by rw[d]at z;cases z⟩
 |false=>obtain⟨o,e,_,d⟩:=(show h.IsListIter i l k from q);exact⟨o,e,λv z=>by rw[d]at z;cases z⟩
noncomputable def QX(K:PySem.W.Frag)(b1 b2:Bool)(l1 l2:Addr):It:=
 ⟨fun i H=>∃xs ys x y,mO b1 K H l1 xs∧mO b2 K H l2 ys∧xs[i]?=some x∧ys[i]?=some y,
  λi H v H'=>∃p,H p=none/\v=.ref p/\∀xs ys,mO b1 K H l1 xs->mO b2 K H l2 ys->∃x y,xs[i]?=some x/\ys[i]?=some y/\H'=upd H p (.tup [x,y]),
  λi H=>∃xs ys,mO b1 K H l1 xs/\mO b2 K H l2 ys/\(xs[i]?=none\/ys[i]?=none)⟩
theorem sG{P:Program}{w:World}{A:Around}{E:Value->Shared->Prop}{s:Shared}{z TI TO:Addr}{f0:Value}{Q:Option Value->Shared->Prop}(hz:IsZip s.heap z TI TO f0)
  (h:wpAny (model P w) A.in1 (Builtin.«zip.__next__» ⟨[.ref z],[]⟩) (λfin s'=>∃v,fin=.done (.ret v)/\Q (some v) s') (λe s'=>∃o ea,e=.ref ea/\s'.heap.get? ea=some o/\o.cls=.type "StopIteration"/\Q none s') s):wpAny (model P w) A (pyNext (.ref z)) Q E s:=by
 have hT:s.TypeIs (.ref z) "zip":=⟨_,hz,rfl⟩;unfold pyNext;refine Te (Wg (Ur (name:=Str.ofString "__next__") hT F.slot_zip_next (Uw F.slot_zip_next hT F.entry_zip_next (Um h (λfin s' q=>?_) λe s' q=>?_) (F.args_zip_next_1 _))))
 ·obtain⟨v,rfl,q⟩:=q;exact⟨v,rfl,Th q⟩
 ·obtain⟨o,ea,rfl,ho,hc,q⟩:=q;exact Te (XR (T := "StopIteration") (b:=true) ⟨o,ho,hc⟩ isSubtype_stop (Th q))
theorem Jv{P:Program}{w:World}{K:PySem.W.Frag}{elts:List Expr}{x1}{tp:Pos}{b1 b2:Bool}{z TI TO i1 i2 l1 l2:Addr}(D:ZipApart z TI TO i1 i2 l1 l2):
  Turn P w K (.Tuple elts x1 tp) (QX K b1 b2 l1 l2) [z,TI,TO,i1,i2] z (λi h=>IsZip h z TI TO .none/\IsPair h TI (.ref i1) (.ref i2)/\(∃a b,IsPair h TO a b)/\fD b1 i1 l1 i h/\fD b2 i2 l2 i h) where
 mem:=by simp
 obj:=λi h st b hb=>by
  obtain⟨hz,hTI,⟨a,c,hTO⟩,h1,h2⟩:=st;simp only[List.mem_cons,List.mem_nil_iff,or_false]at hb;rcases hb with rfl | rfl | rfl | rfl | rfl
  ·exact⟨_,hz,λv q=>by cases q⟩
  ·exact⟨_,hTI,λv q=>by cases q⟩
  ·exact⟨_,hTO,λv q=>by cases q⟩
  ·exact h1.obj
  ·exact h2.obj
 keep:=λi h h' st k=>by obtain⟨hz,hTI,⟨a,c,hTO⟩,h1,h2⟩:=st;exact⟨k z (by simp) _ hz,k TI (by simp) _ hTI,⟨a,c,k TO (by simp) _ hTO⟩,h1.keep λo q=>k i1 (by simp) o q,h2.keep λo q=>k i2 (by simp) o q⟩
 item:=by
  intro X hP hw hK hc i Yk s σ H E I hf st hg;subst hP hw hK;obtain⟨hz,hTI,⟨a,c,hTO⟩,h1,h2⟩:=st;obtain⟨xs,ys,x,y,s1,s2,hx,hy⟩:=hg;obtain⟨its1,r1,q1,_⟩:=I.seqS s1;obtain⟨its2,r2,q2,_⟩:=I.seqS s2;obtain⟨u1,e1,ru1⟩:=r1.get hx;obtain⟨u2,e2,ru2⟩:=r2.get hy;refine sG hz (Um (HJ D (jF b1 D.l1i1 its1.toArray) (jF b2 D.l2i2 its2.toArray) hz hTI hTO ⟨h1,q1⟩ ⟨h2,q2⟩ (by simpa using e1) (by simpa using e2) (Q:=λv s'=>∃h',v=.ref s.heap.objs.size/\s'={ s with heap:=h' }/\IsZip h' z TI TO (rawInt s.heap.objs.size)/\IsPair h' TO u1 u2/\fD b1 i1 l1 (i+1) h'/\fD b2 i2 l2 (i+1) h'/\IsPair h' s.heap.objs.size u1 u2/\(∀c o,c≠z->c≠TO->c≠i1->c≠i2->s.heap.get? c=some o->h'.get? c=some o)) (E:=λu u=>False)
   λh' a1 a2 a3 a4 a5 a6 a7=>⟨h',rfl,rfl,a1,a2,a3.1,a4.1,a5,a7⟩) (λfin s' q=>?_) λu u q=>q.elim)
  obtain⟨v,rfl,h',rfl,rfl,a1,a2,a3,a4,a5,a7⟩:=q;refine⟨_,rfl,_,rfl,wpAny_letOwnedTupleGo_zip a1 λh2' hz' hs'=>?_⟩
  have lt:z<s.heap.objs.size:=Tt hz;have kk:∀b o,b∉[z,TI,TO,i1,i2]->s.heap.get? b=some o->h2'.get? b=some o:=λb o hb q=>hs'.extBut _ _ (λe=>hb (by simp[e])) (a7 b o (λe=>hb (by simp[e])) (λe=>hb (by simp[e])) (λe=>hb (by simp[e])) (λe=>hb (by simp[e])) q)
  have fresh:H s.heap.objs.size=none:=I.hok.fresh (Tq _);have I1:Inv X Yk σ H { s with heap:=h2',toks:=s.toks }:=I.turnedL kk hf (λb hb=>(hf b hb).2.1)
  have pr:IsPair h2' s.heap.objs.size u1 u2:=hs'.extBut _ _ (Wl lt) a5;have nw:ObjOk X.prog X.w (upd H s.heap.objs.size (.tup [x,y])) h2' s.heap.objs.size (.tup [x,y]):=⟨by show 2<=sizeLine;decide,[u1,u2],.cons ru1 (.cons ru2 .nil),⟨_,pr,rfl,_,rfl⟩⟩
  have nfp:∀b∈[z,TI,TO,i1,i2],b≠s.heap.objs.size:=λb hb e=>by
   obtain⟨o,ho,_⟩:∃o,s.heap.get? b=some o/\True:=by
    simp only[List.mem_cons,List.mem_nil_iff,or_false]at hb;rcases hb with rfl | rfl | rfl | rfl | rfl
    ·exact⟨_,hz,trivial⟩
    ·exact⟨_,hTI,trivial⟩
    ·exact⟨_,hTO,trivial⟩
    ·obtain⟨o,q,_⟩:=h1.obj;exact⟨o,q,trivial⟩
    ·obtain⟨o,q,_⟩:=h2.obj;exact⟨o,q,trivial⟩
   exact absurd (Tt ho) (by rw[e];exact Vs _)
  refine⟨.ref s.heap.objs.size,upd H s.heap.objs.size (.tup [x,y]),?_,rfl,⟨_,fresh,rfl,λxs' ys' q1' q2'=>⟨x,y,by rw[I.seqS_inj q1' s1];exact hx,by rw[I.seqS_inj q2' s2];exact hy,rfl⟩⟩,⟨hz',?_,⟨u1,u2,hs'.extBut _ _ D.TOz a2⟩,a3.keep λo q=>hs'.extBut _ _ D.i1z q,a4.keep λo q=>hs'.extBut _ _ D.i2z q⟩,λb hb=>by rw[upd_ne (nfp b hb)];exact (hf b hb).1⟩
  ·exact I.turnedLay (t':=s.toks) kk hf (Tq _) nw
  ·exact hs'.extBut _ _ D.TIz (a7 _ _ D.TIz D.TITO D.TIi1 D.TIi2 hTI)
 done:=by
  intro X hP hw hK hc i Yk s σ H E I hf st hg;subst hP hw hK;obtain⟨hz,hTI,⟨a,c,hTO⟩,h1,h2⟩:=st;obtain⟨xs,ys,s1,s2,hend⟩:=hg;obtain⟨its1,r1,q1,_⟩:=I.seqS s1;obtain⟨its2,r2,q2,_⟩:=I.seqS s2;have hend':its1.toArray[i]?=none\/its2.toArray[i]?=none:=hend.imp (λq=>by simpa using r1.none_of q) λq=>by simpa using r2.none_of q
  refine sG hz (Jx (show X.A.in1.handled=none from I.ok.hd hc) D (jF b1 D.l1i1 its1.toArray) (jF b2 D.l2i2 its2.toArray) hz hTI hTO ⟨h1,q1⟩ ⟨h2,q2⟩ hend' λh' e kk he=>?_)
  obtain⟨o,ho,hco⟩:=he;exact⟨o,e,rfl,ho,hco,rfl,I.turnedL (t':=s.toks) (λb o hb q=>kk b o (λe=>hb (by simp[e])) (λe=>hb (by simp[e])) (λe=>hb (by simp[e])) (λe=>hb (by simp[e])) q) hf (λb hb=>(hf b hb).2.1)⟩
 self:=λu u u u u st h=>wpAny_pyIter_zip st.1 h
set_option tactic.hygienic true in
theorem zg(l:Addr)(xs:Array Value):
  Meets (Builtin.«enumerate.__new__» ⟨[.type "enumerate",.ref l],[]⟩) (λz R s=>IsTup s.heap l xs /\
   R (.ok (.ret (.ref (qK s.heap "tuple_iterator" l).objs.size))) { s with heap:=(qK s.heap "tuple_iterator" l).push { cls:=.type "enumerate",data:=.fields #[.none,.bool false,.ref s.heap.objs.size,rawInt 0,.none,.none] } }):=
 .of_wp λprog w A R s h=>by
  obtain⟨hp,gn,dr,tk,os⟩:=s;obtain⟨k1,h⟩:=h;have hsub:=sub_enumerate;have K1:IsTup (Shared.heap ⟨hp,gn,dr,tk,os⟩) l xs:=k1;obtain⟨ot,hot,r⟩:=id K1
  wp_walk using Xf hot
  refine wpAny_stack_any λsk=>Th ?_
  split
  ·rename_i c _ _ _ _ _;cases (c==Value.type "enumerate")<;>(wp_walk using Xf hot,X4 K1;exact⟨_,rfl,h⟩)
  ·wp_walk using Xf hot,X4 K1
   exact⟨_,rfl,h⟩
section
variable{P:Program}{w:World}{A:Around}{E:Value->Shared->Prop}{s:Shared}{e it l:Addr}{xs:Array Value}{st:Nat->Heap->Prop}
theorem CG(k1:fZ b s.heap l xs)
  (h:∀h',IsEnum h' (s.heap.objs.size+1) s.heap.objs.size 0 .none->qM b s.heap.objs.size l xs 0 h'->h'.objs.size=s.heap.objs.size+2->(∀c o,s.heap.get? c=some o->h'.get? c=some o)->Q (.ref (s.heap.objs.size+1)) { s with heap:=h' }) :
  wpAny (model P w) A (call (.type "enumerate") [.ref l]) Q E s:=by
 cases b with
 |false=>exact call_enumerate_list (show s.heap.IsList l xs from k1) λh' a1 a2 a3 a4=>h h' a1 ⟨a2,k1.keep λo q=>a4 _ _ q⟩ a3 a4
 |true=>
   refine Xn F.called_enumerate (by decide) (F.typeCall_enumerate_1 _) (F.newCall_enumerate_1 _) (λobj=>F.args_object_init_2 obj _) F.entry_enumerate_new (zg l xs) ⟨k1,?_⟩
   have z1:(qK s.heap "tuple_iterator" l).objs.size=s.heap.objs.size+1:=Uc ..
   have up:∀c o,s.heap.get? c=some o->((qK s.heap "tuple_iterator" l).push { cls:=.type "enumerate",data:=.fields #[.none,.bool false,.ref s.heap.objs.size,rawInt 0,.none,.none] }).get? c=some o:=λc o q=>Tf _ (Tf _ q)
   have q2:((qK s.heap "tuple_iterator" l).push { cls:=.type "enumerate",data:=.fields #[.none,.bool false,.ref s.heap.objs.size,rawInt 0,.none,.none] }).get? (qK s.heap "tuple_iterator" l).objs.size=some _:=Tu _ rfl;have q1:((qK s.heap "tuple_iterator" l).push { cls:=.type "enumerate",data:=.fields #[.none,.bool false,.ref s.heap.objs.size,rawInt 0,.none,.none] }).get? s.heap.objs.size=some _:=Tf _ (Tu _ rfl);show _/\_;rw[z1]at q2 ⊢
   exact⟨⟨_,q2,rfl⟩,h _ q2 ⟨⟨_,q1,rfl,rfl⟩,k1.keep λo q=>up _ _ q⟩ (by rw[Uc,z1]) up⟩
theorem CW{i:Nat}{Q:Value->Shared->Prop}(S:SubIt P w it l xs st)(ne:e≠it)(nl:l≠e)(he:IsEnum s.heap e it i old)(h0:st i s.heap)(hx:xs[i]?=some x)
  (hQ:∀h',IsEnumOut h' e it ((i:Int)+1) x s.heap.objs.size->st (i+1) h'->IsPair h' s.heap.objs.size (.int i s.toks) x->h'.objs.size=s.heap.objs.size+1->
    (∀c o,c≠e->c≠it->s.heap.get? c=some o->h'.get? c=some o)->Q (.ref s.heap.objs.size) { s with heap:=h',toks:=s.toks+1 }) :
  wpAny (model P w) A (Builtin.«enumerate.__next__» ⟨[.ref e],[]⟩) (λfin s'=>∃v,fin=.done (.ret v)/\Q v s') E s:=by
 obtain⟨hp,gn,dr,tk,os⟩:=s;show wpAny _ _ (field (.ref e) 2>>=λz=>_) _ _ _
 refine Te (UL he rfl (x:=.ref it) rfl (show _ from ?_))
 refine Te (S.item _ i _ x _ _ h0 hx λg1 n1 e1=>(show _ from ?_))
 replace e1:Heap.SameBut it hp g1:=e1;have c1:IsEnum g1 e it i old:=e1.extBut _ _ ne he;show wpAny _ _ (field (.ref e) 3>>=λz=>_) _ _ ⟨g1,gn,dr,tk,os⟩
 refine Te (UL c1 rfl (x:=rawInt i) rfl (show _ from ?_))
 show wpAny _ _ (field (.ref e) 4>>=λz=>_) _ _ ⟨g1,gn,dr,tk,os⟩
 refine Te (UL c1 rfl (x:=.none) rfl (show _ from ?_))
 show wpAny _ _ (mkInt i>>=λz=>_) _ _ ⟨g1,gn,dr,tk,os⟩
 refine Te (wpAny_mkInt (show _ from ?_))
 show wpAny _ _ (setField (.ref e) 3 (rawInt ((i:Int)+1))>>=λz=>_) _ _ ⟨g1,gn,dr,tk+1,os⟩
 refine Te (wpAny_setField_rec c1 (by simp) λg2 c2 e2=>?_)
 replace e2:Heap.SameBut e g1 g2:=e2;replace c2:IsEnum g2 e it ((i:Int)+1) old:=c2;show wpAny _ _ (setField (.ref e) 4 .none>>=λz=>_) _ _ ⟨g2,gn,dr,tk+1,os⟩
 refine Te (wpAny_setField_rec c2 (by simp) λg3 c3 e3=>?_)
 replace e3:Heap.SameBut e g2 g3:=e3;replace c3:IsEnum g3 e it ((i:Int)+1) old:=c3;show wpAny _ _ (newTuple [.int i tk,x]>>=λz=>_) _ _ ⟨g3,gn,dr,tk+1,os⟩
 refine Te (wpAny_newTuple (show _ from ?_))
 have c4:IsEnum (g3.push { cls:=.type "tuple",data:=.seq #[.int i tk,x] }) e it ((i:Int)+1) old:=Tf _ c3;have sz:g3.objs.size=hp.objs.size:=by rw[e3.1,e2.1,e1.1]
 have el:e<hp.objs.size:=Tt he;have t4:IsPair (g3.push { cls:=.type "tuple",data:=.seq #[.int i tk,x] }) hp.objs.size (.int i tk) x:=by rw[<-sz];exact Tu _ rfl
 have z4:(g3.push { cls:=.type "tuple",data:=.seq #[.int i tk,x] }).objs.size=hp.objs.size+1:=by rw[Uc,sz]
 have k4:∀c o,c≠e->c≠it->hp.get? c=some o->(g3.push { cls:=.type "tuple",data:=.seq #[.int i tk,x] }).get? c=some o:=λc o a1 a2 q=>Tf _ (e3.extBut _ _ a1 (e2.extBut _ _ a1 (e1.extBut _ _ a2 q)))
 have n4:st (i+1) (g3.push { cls:=.type "tuple",data:=.seq #[.int i tk,x] }):=S.keep _ _ _ n1 (λo q=>Tf _ (e3.extBut _ _ ne.symm (e2.extBut _ _ ne.symm q))) λo q=>Tf _ (e3.extBut _ _ nl (e2.extBut _ _ nl q))
 revert c4 t4 z4 k4 n4;generalize g3.push { cls:=.type "tuple",data:=.seq #[.int i tk,x] }=g4;intro c4 t4 z4 k4 n4;show wpAny _ _ (Builtin.SmallTypes.ownedTupleIsFree (.ref e)>>=λz=>_) _ _ ⟨g4,gn,dr,tk+1,os⟩
 rw[sz];refine Te ?_;unfold Builtin.SmallTypes.ownedTupleIsFree;refine Te (UL c4 rfl (x:=.none) rfl (Th (show _ from ?_)))
 simp only[if_true];refine Te (VN (show _ from ?_))
 refine Te (UL c4 rfl (x:=old) rfl (show _ from ?_))
 refine Te (wpAny_setField_rec c4 (by simp) λg5 c5 e5=>?_)
 replace e5:Heap.SameBut e g4 g5:=e5;replace c5:IsEnum g5 e it ((i:Int)+1) x:=c5;show wpAny _ _ (Builtin.SmallTypes.ownedTupleHandOut (.ref e) (.ref hp.objs.size)>>=λz=>_) _ _ ⟨g5,gn,dr,tk+1,os⟩
 refine Te ?_;unfold Builtin.SmallTypes.ownedTupleHandOut;refine Te (wpAny_setField_rec c5 (by simp) λg6 c6 e6=>?_)
 replace e6:Heap.SameBut e g5 g6:=e6;replace c6:IsEnumOut g6 e it ((i:Int)+1) x hp.objs.size:=c6;refine wpAny_setField_rec c6 (by simp) λg7 c7 e7=>?_
 replace e7:Heap.SameBut e g6 g7:=e7;replace c7:IsEnumOut g7 e it ((i:Int)+1) x hp.objs.size:=c7;have up:∀c o,c≠e->g4.get? c=some o->g7.get? c=some o:=λc o a1 q=>e7.extBut _ _ a1 (e6.extBut _ _ a1 (e5.extBut _ _ a1 q))
 refine Te (wpAny_letGo (Th ⟨_,rfl,hQ g7 c7 ?_ (up _ _ (Wl el) t4) (by rw[e7.1,e6.1,e5.1,z4]) λc o a1 a2 q=>up _ _ a1 (k4 _ _ a1 a2 q)⟩))
 exact S.keep _ _ _ n4 (λo q=>up _ _ ne.symm q) λo q=>up _ _ nl q
theorem zK{i:Nat}{Q:Option Value->Shared->Prop}(S:SubIt P w it l xs st)(ne:e≠it)(nl:l≠e)(he:IsEnum s.heap e it i old)(h0:st i s.heap)(hx:xs[i]?=some x)
  (hQ:∀h',IsEnumOut h' e it ((i:Int)+1) x s.heap.objs.size->st (i+1) h'->IsPair h' s.heap.objs.size (.int i s.toks) x->h'.objs.size=s.heap.objs.size+1->
    (∀c o,c≠e->c≠it->s.heap.get? c=some o->h'.get? c=some o)->Q (some (.ref s.heap.objs.size)) { s with heap:=h',toks:=s.toks+1 }):wpAny (model P w) A (pyNext (.ref e)) Q E s:=by
 have T:s.TypeIs (.ref e) "enumerate":=⟨_,he,rfl⟩;unfold pyNext;exact Te (Wg (Ur (name:=Str.ofString "__next__") T WY (Uw WY T F.entry_enumerate_next (CW S ne nl he h0 hx λh' a b c d k=>Th (hQ h' a b c d k)) (F.args_enumerate_next_1 _))))
theorem zJ{i:Nat}{Q:Option Value->Shared->Prop}(hh:A.handled=none)(S:SubIt P w it l xs st)(he:IsEnum s.heap e it i old)(h0:st i s.heap)(hx:xs[i]?=none)
  (hQ:∀h',Heap.ExtBut it s.heap h'->Q none { s with heap:=h' }):wpAny (model P w) A (pyNext (.ref e)) Q E s:=by
 have T:s.TypeIs (.ref e) "enumerate":=⟨_,he,rfl⟩;unfold pyNext;refine Te (Wg (Ur (name:=Str.ofString "__next__") T WY (Uw WY T F.entry_enumerate_next (show _ from ?_) (F.args_enumerate_next_1 _))))
 show wpAny _ _ (field (.ref e) 2>>=λz=>_) _ _ _
 refine Te (UL he rfl (x:=.ref it) rfl (show _ from ?_))
 refine Te (S.done _ i _ _ _ (show A.in1.handled=none from hh) h0 hx λh' y e1 hy=>?_)
 obtain⟨o,ho,hc⟩:=hy;exact Te (XR (T := "StopIteration") (b:=true) ⟨o,ho,hc⟩ isSubtype_stop (Th (hQ _ e1)))
end
noncomputable def QW(K:PySem.W.Frag)(b:Bool)(l:Addr):It:=
 ⟨fun i H=>∃xs x,mO b K H l xs∧xs[i]?=some x,
  λi H v H'=>∃p,H p=none/\v=.ref p/\∀xs,mO b K H l xs->∃x,xs[i]?=some x/\H'=upd H p (.tup [.int (i:Int),x]),
  λi H=>∃xs,mO b K H l xs/\xs[i]?=none⟩
theorem HD{P:Program}{w:World}{K:PySem.W.Frag}{elts:List Expr}{x1}{tp:Pos}{b:Bool}{e it l:Addr}(ne:e≠it)(nl:l≠e)(ni:l≠it):
  Turn P w K (.Tuple elts x1 tp) (QW K b l) [e,it] e (λi h=>(∃old,IsEnum h e it i old)/\fD b it l i h) where
 mem:=by simp
 obj:=λi h st c hc=>by
  obtain⟨⟨old,he⟩,h1⟩:=st;simp only[List.mem_cons,List.mem_nil_iff,or_false]at hc;rcases hc with rfl | rfl
  ·exact⟨_,he,λv q=>by cases q⟩
  ·exact h1.obj
 keep:=λi h h' st k=>by obtain⟨⟨old,he⟩,h1⟩:=st;exact⟨⟨old,k e (by simp) _ he⟩,h1.keep λo q=>k it (by simp) o q⟩
 item:=by
  intro X hP hw hK hc i Yk s σ H E I hf st hg;subst hP hw hK;obtain⟨⟨old,he⟩,h1⟩:=st;obtain⟨xs,x,s1,hx⟩:=hg;obtain⟨its1,r1,q1,_⟩:=I.seqS s1;obtain⟨u1,e1,ru1⟩:=r1.get hx;refine zK (jF b ni its1.toArray) ne nl he ⟨h1,q1⟩ (by simpa using e1) λh' a1 a2 a3 a4 a5=>⟨_,rfl,wpAny_letOwnedTupleGo_enum a1 λh2' he' hs'=>?_⟩
  have lt:e<s.heap.objs.size:=Tt he;have kk:∀c o,c∉[e,it]->s.heap.get? c=some o->h2'.get? c=some o:=λc o hb q=>hs'.extBut _ _ (λz=>hb (by simp[z])) (a5 c o (λz=>hb (by simp[z])) (λz=>hb (by simp[z])) q)
  have fresh:H s.heap.objs.size=none:=I.hok.fresh (Tq _);have pr:IsPair h2' s.heap.objs.size (.int i s.toks) u1:=hs'.extBut _ _ (Wl lt) a3;have nw:ObjOk X.prog X.w (upd H s.heap.objs.size (.tup [.int (i:Int),x])) h2' s.heap.objs.size (.tup [.int (i:Int),x]):=⟨by show 2<=sizeLine;decide,[.int i s.toks,u1],.cons ⟨_,rfl⟩ (.cons ru1 .nil),⟨_,pr,rfl,_,rfl⟩⟩
  have nfp:∀c∈[e,it],c≠s.heap.objs.size:=λc hc z=>by
   obtain⟨o,ho⟩:∃o,s.heap.get? c=some o:=by
    simp only[List.mem_cons,List.mem_nil_iff,or_false]at hc;rcases hc with rfl | rfl
    ·exact⟨_,he⟩
    ·obtain⟨o,q,_⟩:=h1.obj;exact⟨o,q⟩
   exact absurd (Tt ho) (by rw[z];exact Vs _)
  refine⟨.ref s.heap.objs.size,upd H s.heap.objs.size (.tup [.int (i:Int),x]),?_,rfl,⟨_,fresh,rfl,λxs' q1'=>⟨x,by rw[I.seqS_inj q1' s1];exact hx,rfl⟩⟩,⟨⟨_,he'⟩,(show fD b it l (i+1) h' from a2.1).keep λo q=>hs'.extBut _ _ ne.symm q⟩,λc hc=>by rw[upd_ne (nfp c hc)];exact (hf c hc).1⟩
  exact I.turnedLay (t':=s.toks+1) kk hf (Tq _) nw
 done:=by
  intro X hP hw hK hc i Yk s σ H E I hf st hg;subst hP hw hK;obtain⟨⟨old,he⟩,h1⟩:=st;obtain⟨xs,s1,hend⟩:=hg;obtain⟨its1,r1,q1,_⟩:=I.seqS s1;refine zJ (I.ok.hd hc) (jF b ni its1.toArray) he ⟨h1,q1⟩ (by simpa using r1.none_of hend) λh' e1=>?_
  exact⟨rfl,I.turnedL (t':=s.toks) (λc o hb q=>e1 _ _ (λz=>hb (by simp[z])) q) hf (λc hc=>(hf c hc).2.1)⟩
 self:=λy y y y y st h=>by obtain⟨⟨old,he⟩,_⟩:=st;exact wpAny_pyIter_enum he h
theorem Cy:bootBuiltins "list"=some (.type "list"):=by decide +kernel
theorem qI:∀ (vs:List Value) (k:Nat),(∀ (j:Nat) v,vs[j]?=some v->∃ t,v=.int ((k + j:Nat):Int) t)->Vals ((List.range' k vs.length).map λi:Nat=>V.int (i:Int)) vs
 |[],k,_=>.nil
 | v::vs,k,h=>by
   have h0:=h 0 v rfl;have ih:=qI vs (k+1) λj u e=>by
    have:=h (j+1) u (by simpa using e)
    rw[show k+1+j=k+(j+1) by lia];exact this
   rw[Ve,List.range'_succ,Uu];exact .cons h0 ih
section
variable{X:Cx}
noncomputable def QL(ta:TA):TE:=λσ H Q=>ta σ H λvs H1=>∃j:Int,vs=[.int j]/\j<=2^20/\-(2^62)<=j/\∀l,H1 l=none->Q (.ref l) (upd H1 l (.lst ((List.range j.toNat).map λi:Nat=>V.int (i:Int))))
theorem GQ(hc:X.calm=true)(hgL:Gl X "list")(hmL:X.mg "list"=none)(hg:Gl X "range")(hm:X.mg "range"=none)(ha:PA X [a] ta)(hs:autoParam (notStar a=true) qAA):
  PE X (.Call (.Name "list" p1) [.Call (.Name "range" p2) [a] [] pos2] [] pos1) (QL ta):=by
 intro Yk s σ H Q I h;have hst:starEach [Expr.Call (.Name "range" p2) [a] [] pos2] X.env=(false,eval (.Call (.Name "range" p2) [a] [] pos2) X.env)::starEach [] X.env:=aM rfl;refine Call_ (ld_blt I hgL hmL Cy (Uj ?_ hst rfl));rw[hst];show wpAny _ _ (spliced ((false,eval (.Call (.Name "range" p2) [a] [] pos2) X.env)::[])) _ _ s;refine V9 ?_;refine Call_ (ld_blt I hg hm boot_range (Uj (thn (ha pos2 Yk s σ H _ I h) λus s1 ⟨vs,H1,I1,r1,q1⟩=>?_) (aM hs) rfl))
 obtain⟨j,e,q1,q2,q⟩:=q1;subst e;cases r1 with
 | cons r rr=>
   cases rr;obtain⟨t,rfl⟩:=r;refine call_range_1 ?_;refine We ?_;have rs:Builtin.Range.rangeSize 0 j 1=((j.toNat:Nat):Int):=by rw[rangeSize_one];split<;>lia
   refine call_list_range (n:=j.toNat) (I1.ok.hd hc) (IsRange.new ..) (small_one (by lia) (by lia) q2 (by lia)) rs (by lia) λh' tk acc c k1 k2 k3=>?_
   have vl:Vals ((List.range j.toNat).map λi:Nat=>V.int (i:Int)) acc.toList:=by
    have:=qI acc.toList 0 λi v e=>by
     obtain⟨t,rfl⟩:=k3.2 i v (by simpa using e)
     exact⟨t,by congr 1;lia⟩
    rw[List.range_eq_range'];rw[show acc.toList.length=j.toNat by simpa using k3.1]at this
    exact this
   refine⟨.ref _,upd H1 _ (.lst ((List.range j.toNat).map λi:Nat=>V.int (i:Int))),?_,rfl,q _ (I1.hok.fresh ?_)⟩
   ·refine I1.turnedLay (ch:=[]) (t':=tk) (λb o z e=>k1 b o (Tf _ e)) (λb hb=>nomatch hb) ?_ ⟨?_,acc.toList,c,vl,k2⟩
    ·rw[Uc];lia
    ·rw[Tz,Uo];show _<=2^24;lia
   ·rw[Uc];lia
end
end L2
namespace L2
open PySem PySem.Spec PyProof.Rows
open PySem.AutoSeq1 (wpAny_loadPart')
section
variable{prog:Program}{w:World}{A:Around}{E:Value->Shared->Prop}{s:Shared}
theorem xg{Q:List Value->Shared->Prop}(r:Addr){a b c:Int}{n:Nat}(hh:A.handled=none)(hr:IsRange s.heap r a b c t u v)(sm:Builtin.Range.small a b c=true)(hn:Builtin.Range.rangeSize a b c=n)(hl:n<=2 ^ 24)
  (hQ:∀(h':Heap) (tk:Nat) (acc:Array Value),(∀b o',s.heap.get? b=some o'->h'.get? b=some o')->s.heap.objs.size<=h'.objs.size->ItemsOf (λi v=>∃t,v=.int (a+i*c) t) acc n->Q acc.toList { s with heap:=h',toks:=tk }) :
  wpAny (model prog w) A (collect (.ref r)) Q E s:=by
 unfold collect;refine Te (W7 (Vh X3 ?_));rw[U8 XX _];show wpAny _ A.in1 (newList []>>=λl=>again (.builtin "list.__iadd__" ⟨[l,.ref r],[]⟩)) _ _ s
 refine Te (Ug ?_);refine Th ⟨Wt Wu _,Vh F.entry_list_iadd ?_⟩;rw[U8 Wu _];show wpAny _ A.in1 (Builtin.List.listExtendWith (.ref s.heap.objs.size) (.ref r) (.ref s.heap.objs.size)) _ _ _;have hS:(s.heap.push { cls:=.type "list",data:=.seq ([]:List Value).toArray }).get? s.heap.objs.size=some { cls:=.type "list",data:=.seq #[] 0 }:=Tu _ rfl;have fin':∀ h' tk acc c',(∀ b o,b≠s.heap.objs.size->(s.heap.push { cls:=.type "list",data:=.seq ([]:List Value).toArray }).get? b=some o->h'.get? b=some o)->h'.get? s.heap.objs.size=some { cls:=.type "list",dict:=none,data:=.seq acc c',slots:=#[] }->ItemsOf (λi v=>∃ t,v=.int (a + i * c) t) acc n->
   wpAny (model prog w) A (match Value.ref s.heap.objs.size with
   | Value.ref a=>do
     match (<-load a).data with
      |Data.seq xs _=>pure xs.toList
      |_=>unsupported "internal:collect"
   |_=>unsupported "internal:collect") Q E { s with heap:=h',toks:=tk }:=λh' tk acc c' k1 k2 k3=>by
  show wpAny _ A (load s.heap.objs.size>>=_) _ _ _;refine Te (wpAny_load k2 (Th ?_));exact hQ h' tk acc (λb o e=>k1 b o (TF (Tt e)) (Tf _ e)) (V6 (Tt k2)) k3
 refine Um (wpAny_extend_range (A:=A) (R:=λx s'=>x=.ok (.ret (.ref s.heap.objs.size))/\wpAny (model prog w) A (match Value.ref s.heap.objs.size with
   | Value.ref a=>do
     match (<-load a).data with
      |Data.seq xs _=>pure xs.toList
      |_=>unsupported "internal:collect"
   |_=>unsupported "internal:collect") Q E s')
  (s:={ s with heap:=s.heap.push { cls:=.type "list",data:=.seq ([]:List Value).toArray } }) hh (Tf _ hr) sm hn hl s.heap.objs.size _ 0 hS (λh' tk acc c' k1 k2 k3=>⟨rfl,fin' h' tk acc c' k1 k2 k3⟩)) (λfin s' h=>?_) (λe s' h=>?_)
 ·cases fin with
  |done f=>obtain⟨e,q⟩:=h;cases e;exact q
  |again c'=>exact⟨h.1,Vw h.2 λx s'' hx=>by obtain⟨rfl,q⟩:=hx;exact q⟩
 ·exact absurd h.1 (by simp)
end
theorem rM(r:Addr)(a b c:Int)(t u v:Tok)(n:Nat)(sm:Builtin.Range.small a b c=true)(hn:Builtin.Range.rangeSize a b c=n)(hl:n<=2 ^ 24):
  Meets (Builtin.«tuple.__new__» ⟨[.type "tuple",.ref r],[]⟩)
   (λA R s=>A.handled=none/\IsRange s.heap r a b c t u v/\∀(h':Heap) (tk:Nat) (acc:Array Value),(∀b o',s.heap.get? b=some o'->h'.get? b=some o')->s.heap.objs.size<=h'.objs.size->ItemsOf (λi v=>∃t,v=.int (a+i*c) t) acc n->R (.ok (.ret (.ref h'.objs.size))) { s with heap:=h'.push { cls:=.type "tuple",data:=.seq acc },toks:=tk }):=
 .of_wp λprog w A R s h=>by
  obtain⟨hp,g,d,tk,os⟩:=s;obtain⟨hh,hr,h⟩:=h;have hsub:=sub_tuple_self;have hinit:=init_tuple_lookup;have hmh:=madeHere_tuple;have hT:Shared.TypeIs ⟨hp,g,d,tk,os⟩ (.ref r) "range":=⟨_,hr,rfl⟩;have hh':A.in1.handled=none:=hh
  wp_walk using Xe hr,Wn hT,xg (A:=A.in1) (s:=⟨hp,g,d,tk,os⟩) r hh' hr sm hn hl
  intro h' tk' acc hk hz hi;show wpAny _ _ (Builtin.Tuple.tupleExact acc.toList.toArray>>=λv=>ret v) _ _ _
  unfold Builtin.Tuple.tupleExact;have e:acc.toList.toArray=acc:=by simp
  rw[e];refine Te (Ug ?_ (by show acc.size<=sizeLine;rw[hi.1];exact hl))
  exact Th ⟨_,rfl,h h' tk' acc hk hz hi⟩
open PySem PySem.Spec PyProof.Rows
theorem tK{E:Value->Shared->Prop}{Q:Value->Shared->Prop}{a b c:Int}{n:Nat}(hh:A.handled=none)(hr:IsRange s.heap r a b c t u v)(sm:Builtin.Range.small a b c=true)(hn:Builtin.Range.rangeSize a b c=n)(hl:n<=2^24)
  (hQ:∀(h':Heap) (tk:Nat) (acc:Array Value),(∀b o',s.heap.get? b=some o'->h'.get? b=some o')->s.heap.objs.size<=h'.objs.size->ItemsOf (λi v=>∃t,v=.int (a+i*c) t) acc n->Q (.ref h'.objs.size) { s with heap:=h'.push { cls:=.type "tuple",data:=.seq acc },toks:=tk }) :
  wpAny (model prog w) A (call (.type "tuple") [.ref r]) Q E s:=
 Xn F.called_tuple (by decide) (F.typeCall_tuple_1 _) (F.newCall_tuple_1 _) (λobj=>F.args_object_init_2 obj _) F.entry_tuple_new (rM r a b c t u v n sm hn hl)
  ⟨hh,hr,λh' tk acc k z i=>⟨⟨_,Tu _ rfl,rfl⟩,hQ h' tk acc k z i⟩⟩
theorem Ae:bootBuiltins "tuple"=some (.type "tuple"):=by decide +kernel
section
variable{X:Cx}
noncomputable def QR(ta:TA):TE:=λσ H Q=>ta σ H λvs H1=>∃j:Int,vs=[.int j]/\j<=2^20/\-(2^62)<=j/\∀l,H1 l=none->Q (.ref l) (upd H1 l (.tup ((List.range j.toNat).map λi:Nat=>V.int (i:Int))))
theorem GX(hc:X.calm=true)(hgL:Gl X "tuple")(hmL:X.mg "tuple"=none)(hg:Gl X "range")(hm:X.mg "range"=none)(ha:PA X [a] ta)(hs:autoParam (notStar a=true) qAA):
  PE X (.Call (.Name "tuple" p1) [.Call (.Name "range" p2) [a] [] pos2] [] pos1) (QR ta):=by
 intro Yk s σ H Q I h;have hst:starEach [Expr.Call (.Name "range" p2) [a] [] pos2] X.env=(false,eval (.Call (.Name "range" p2) [a] [] pos2) X.env)::starEach [] X.env:=aM rfl;refine Call_ (ld_blt I hgL hmL Ae (Uj ?_ hst rfl));rw[hst];show wpAny _ _ (spliced ((false,eval (.Call (.Name "range" p2) [a] [] pos2) X.env)::[])) _ _ s;refine V9 ?_;refine Call_ (ld_blt I hg hm boot_range (Uj (thn (ha pos2 Yk s σ H _ I h) λus s1 ⟨vs,H1,I1,r1,q1⟩=>?_) (aM hs) rfl))
 obtain⟨j,e,q1,q2,q⟩:=q1;subst e;cases r1 with
 | cons r rr=>
   cases rr;obtain⟨t,rfl⟩:=r;refine call_range_1 ?_;refine We ?_;have rs:Builtin.Range.rangeSize 0 j 1=((j.toNat:Nat):Int):=by rw[rangeSize_one];split<;>lia
   refine tK (n:=j.toNat) (I1.ok.hd hc) (IsRange.new ..) (small_one (by lia) (by lia) q2 (by lia)) rs (by lia) λh' tk acc k1 k2 k3=>?_
   rw[Uc]at k2;have vl:Vals ((List.range j.toNat).map λi:Nat=>V.int (i:Int)) acc.toList:=by
    have:=qI acc.toList 0 λi v e=>by
     obtain⟨t,rfl⟩:=k3.2 i v (by simpa using e)
     exact⟨t,by congr 1;lia⟩
    rw[List.range_eq_range'];rw[show acc.toList.length=j.toNat by simpa using k3.1]at this
    exact this
   refine⟨.ref _,upd H1 h'.objs.size (.tup ((List.range j.toNat).map λi:Nat=>V.int (i:Int))),?_,rfl,q _ (I1.hok.fresh (by lia))⟩
   refine I1.turnedLay (ch:=[]) (t':=tk) (λb o z e=>Tf _ (k1 b o (Tf _ e))) (λb hb=>nomatch hb) (by lia) ⟨?_,acc.toList,vl,?_⟩
   ·rw[Tz,Uo];show _<=2^24;lia
   ·have:=Xh h' acc;simpa using this
end
end L2
namespace LS
open PySem
noncomputable def mL(xs:Array Nat):Prop:=xs.toList.Pairwise (·< ·)
theorem mL.lt{xs:Array Nat}(h:mL xs){a b:Nat}(hab:a<b)(hb:b<xs.size):xs[a]<xs[b]:=by
 have:=VB.mp h a b (by simpa using W3 hab hb) (by simpa using hb) hab
 simpa using this
structure Bel(xs:Array Nat)(j r:Nat):Prop where
 le:r<=xs.size
 lo:∀k (hk:k<xs.size),k<r->xs[k]<j
 hi:∀k (hk:k<xs.size),r<=k->j<=xs[k]
theorem tH{xs:Array Nat}{j:Nat}(h:mL xs):∀ (fuel lo hi:Nat),hi - lo<=fuel->lo<=hi->hi<=xs.size->(∀ k (hk:k<xs.size),k<lo->xs[k]<j)->(∀ k (hk:k<xs.size),hi<=k->j<=xs[k])->Bel xs j (SetTable.below.go xs j fuel lo hi)
 |0,lo,hi,hf,hl,hs,h1,h2=>by
   unfold SetTable.below.go;have:lo=hi:=by lia
   subst this;exact⟨hs,h1,h2⟩
 | fuel + 1,lo,hi,hf,hl,hs,h1,h2=>by
   unfold SetTable.below.go;by_cases c:lo<hi
   ·rw[Tv c];dsimp only;have hm:(lo+hi) / 2<hi:=by lia
    have hm':lo<=(lo+hi) / 2:=by lia
    generalize (lo+hi) / 2=mid at hm hm';have hms:mid<xs.size:=by lia
    have e:xs.getD mid j=xs[mid]:=by rw[U3,U0 hms];rfl
    rw[e];by_cases c2:xs[mid]<j
    ·rw[Tv c2];refine tH h fuel (mid+1) hi (by lia) (by lia) hs (λk hk hkm=>?_) h2
     by_cases q:k=mid
     ·subst q;exact c2
     ·have:=h.lt (show k<mid by lia) hms;lia
    ·rw[Tw c2];refine tH h fuel lo mid (by lia) hm' (by lia) h1 (λk hk hkm=>?_)
     by_cases q:k=mid
     ·subst q;lia
     ·have:=h.lt (show mid<k by lia) hk;lia
   ·rw[Tw c];have:lo=hi:=by lia
    subst this;exact⟨hs,h1,h2⟩
theorem iJ{xs:Array Nat}(h:mL xs)(j:Nat):Bel xs j (SetTable.below xs j):=by unfold SetTable.below;exact tH h xs.size 0 xs.size (by lia) (by lia) (Tq _) (λk hk z=>by lia) (λk hk z=>by lia)
theorem below_at{xs:Array Nat}(h:mL xs){i:Nat}(hi:i<xs.size):SetTable.below xs xs[i]=i:=by
 have b:=iJ h xs[i];generalize SetTable.below xs xs[i]=r at b;rcases Xx r i with c | c | c
 ·have:=b.hi r (by lia) (Tq _)
  have:=h.lt c hi
  lia
 ·exact c
 ·have:=b.lo i hi c
  lia
theorem Cw{xs:Array Nat}(h:mL xs):SetTable.below xs 0=0:=by
 have b:=iJ h 0;generalize SetTable.below xs 0=r at b;rcases Nat.eq_zero_or_pos r with c | c
 ·exact c
 ·have:=b.le;have:=b.lo 0 (by lia) c
  lia
theorem Cu{xs:Array Nat}(h:mL xs){i:Nat}(hi:i<xs.size):SetTable.below xs (xs[i]+1)=i+1:=by
 have b:=iJ h (xs[i]+1);generalize SetTable.below xs (xs[i]+1)=r at b;have ble:=b.le;rcases Xx r (i+1) with c | c | c
 ·have:=b.hi i hi (by lia)
  lia
 ·exact c
 ·have l:=b.lo (i+1) (by lia) c
  have:=h.lt (show i<i+1 by lia) (show i+1<xs.size by lia)
  lia
theorem uN{xs:Array Nat}(h:mL xs){j:Nat}(hj:j∉xs.toList):mL (SetTable.insertAt xs (SetTable.below xs j) j):=by
 have b:=iJ h j;unfold mL;rw[Xg];generalize SetTable.below xs j=r at b;have h':(xs.toList.take r++xs.toList.drop r).Pairwise (·< ·):=by rw[W0];exact h
 rw[List.pairwise_append]at h' ⊢
 refine⟨h'.1,U9.mpr ⟨λx hx=>?_,h'.2.1⟩,λx hx y hy=>?_⟩
 ·obtain⟨k,hk,rfl⟩:=U4.mp hx;rw[VJ,Vb]at hk;rw[List.getElem_drop];have:=b.hi (r+k) (by lia) (by lia)
  have ne:xs.toList[r+k]'(by simp;lia)≠j:=λz=>hj (z ▸ UV _)
  simp at this ne ⊢
  lia
 ·have lt:x<j:=by
   obtain⟨k,hk,rfl⟩:=U4.mp hx;rw[VG,Vb]at hk;rw[List.getElem_take];have:=b.lo k (by lia) (by lia)
   simpa using this
  rcases TV.mp hy with rfl | hy
  ·exact lt
  ·exact h'.2.2 x hx y hy
structure TI(L:Bool)(t:SetTable):Prop where
 ris:mL t.place
 dum:t.dummies=#[]
 led:t.led=L
theorem TI.fresh{L:Bool}(f m:Nat):TI L (.fresh f m L):=⟨List.Pairwise.nil,rfl,rfl⟩
theorem TI.standIn{L:Bool}{t:SetTable}(h:TI L t)(n:Nat):TI L (t.standIn n):=⟨by
 unfold mL SetTable.standIn;rw[show (Array.range n).toList=List.range n by simp]
 exact Wk,rfl,h.led⟩
theorem TI.orStandIn{L:Bool}{t:SetTable}(h:TI L t)(n:Nat):TI L (t.orStandIn n):=by
 unfold SetTable.orStandIn;split
 ·exact h
 ·exact h.standIn n
theorem Ea{L:Bool}{t:SetTable}(h:TI L t){j:Nat}(e:t.slot j=.empty):j∉t.place.toList:=λhj=>by
 obtain⟨k,hk,rfl⟩:=U4.mp hj;have hk':k<t.place.size:=by simpa using hk
 have b:=below_at h.ris hk';unfold SetTable.slot at e;simp only[Array.getElem_toList]at e;rw[b]at e;simp[Array.getElem?_eq_getElem hk']at e
theorem DY{L:Bool}{t:SetTable}(h:TI L t)(j:Nat):t.slot j≠.dummy:=λe=>by
 unfold SetTable.slot SetTable.has at e;rw[h.dum]at e;dsimp only at e;split at e
 ·cases e
 ·simp at e
set_option tactic.hygienic true in
theorem sE{L:Bool}{t:SetTable}(ti:TI L t){ha:Nat->Int}{h:Int}{j:Nat}{d:Option Nat}:∀ (fuel:Nat) (p:SetTable.Probe),p.dummy=none->SetTable.probe.go t ha h fuel p=some (.empty j d)->t.slot j=.empty/\d=none
 |0,p,_,e=>by unfold SetTable.probe.go at e;cases e
 | fuel + 1,p,hp,e=>by
   unfold SetTable.probe.go at e;split at e
   ·rename_i hs;cases e;exact⟨hs,hp⟩
   ·rename_i hs;exact absurd hs (DY ti _)
   ·split at e
    ·cases e
    ·refine sE ti fuel _ ?_ e;unfold SetTable.advance;split<;>exact hp
set_option tactic.hygienic true in
theorem Gp{L:Bool}{t:SetTable}(h:TI L t)(es:Array (Int×Value))(hs:Int)(x:Value):TI L (layNew t es hs x).2.1:=by
 unfold layNew;split
 ·rename_i slot wd e;unfold SetTable.freeSlot SetTable.probe at e;split at e
  ·rename_i j d em;obtain⟨h1,h2⟩:=sE h _ _ rfl em;subst h2;cases e;dsimp only;refine TI.orStandIn (t:=(t.put (none.getD j)).1) (TI.mk ?_ ?_ h.led) _
   ·exact uN h.ris (Ea h h1)
   ·show (if SetTable.has t.dummies _ then _ else _)=_
    rw[h.dum];split
    ·rename_i c;unfold SetTable.has at c;simp at c
    ·rfl
  ·cases e
 ·exact h.standIn _
theorem Bg{L:Bool}{mask finger moves:Nat}{plain:Bool}{hs:Array Int}{r:SetTable×Array Nat}(e:SetTable.laid mask finger moves L plain hs=some r):TI L r.1:=by
 unfold SetTable.laid at e;obtain⟨owner,_,e2⟩:=Ud.mp e;cases e2;refine⟨?_,rfl,rfl⟩;unfold mL;dsimp only;rw[WT];refine List.Pairwise.filterMap (R:=λ(a b:Nat)=>a<b) _ (λa b hab x hx y hy=>?_) Wk
 obtain⟨_,_,rfl⟩:=Tp.mp hx;obtain⟨_,_,rfl⟩:=Tp.mp hy;exact hab
set_option tactic.hygienic true in
theorem Jp{L:Bool}{t:SetTable}(h:TI L t)(es:Array (Int×Value))(n:Nat):TI L (relayAll t es n).2.1:=by
 unfold relayAll;split
 ·rename_i t' order e;dsimp only;split
  ·unfold SetTable.relaid at e;rw[h.led]at e;exact Bg e
  ·exact h.standIn _
 ·exact h.standIn _
end LS
namespace LS
open PySem PySem.Spec PyProof.Rows
noncomputable def vInt:Value->Int
 |.int i _=>i
 |_=>0
noncomputable def jw(l:List (Int×Value)):List Int:=l.map λe=>vInt e.2
noncomputable abbrev aJ(es:Array (Int×Value))(ep:Nat)(t:SetTable):Obj:={ cls:=.type "set",dict:=none,data:=.set es ep t }
structure SetG(prog:Program)(w:World)(L:Bool)(h:Heap)(a:Addr)(ks:List Int):Prop where
 ex:∃es ep t,h.get? a=some (aJ es ep t)/\ElemsOf (intKind prog w) es.toList/\(jw es.toList).Perm ks/\t.fits es.size=true/\TI L t/\es.size<scanBound
theorem yV(h:(intKind prog w).is k v=true):∃t,v=.int k t:=by have h':Value.isInt k v=true:=h;cases v<;>simp[Value.isInt]at h';subst h';exact⟨_,rfl⟩
theorem yJ(h:ElemsOf (intKind prog w) l)(he:e∈l):∃t,e.2=.int (vInt e.2) t:=by obtain⟨⟨k,hk,_⟩,_⟩:=h e he;obtain⟨t,q⟩:=yV hk;rw[q];exact⟨t,rfl⟩
theorem find_key(h:ElemsOf (intKind prog w) l)(k:Int):(l.findIdx? λe=>(intKind prog w).is k e.2).isSome=decide (k∈jw l):=by
 rw[T7,U6,List.findIdx?_isSome,VL];unfold jw;rw[Us];constructor
 ·rintro⟨e,he,q⟩;obtain⟨t,e2⟩:=yV q;exact⟨e,he,by rw[e2];rfl⟩
 ·rintro⟨e,he,rfl⟩;obtain⟨t,q⟩:=yJ h he;refine⟨e,he,?_⟩;rw[q];exact X7 _ _ _ _
section
variable{prog:Program}{w:World}{A:Around}{E:Value->Shared->Prop}{s:Shared}{L:Bool}
theorem rG{h:Heap}{a:Addr}{es es1:Array (Int×Value)}{ep:Nat}{t t1:SetTable}(ho:h.get? a=some (aJ es ep t)):(h.update a (Obj.putSet es1 t1)).get? a=some (aJ es1 (ep+1) t1):=by
 have q:=W6 (Obj.putSet es1 t1) ho (by rw[putSet_of es1 t1 rfl];rfl)
 rw[putSet_of es1 t1 rfl]at q;exact q
theorem Hv{g:Bool->Sem Unit}(hg:∀ (b:Bool) (s1:Shared) (R:Unit->Shared->Prop),R () s1->wpAny (model prog w) A (g b) R E s1){a:Addr}{es es1:Array (Int×Value)}{ep:Nat}{t t2:SetTable}{ks:List Int}{wd:Bool}
  (ho:s.heap.get? a=some (aJ es ep t)) (hel:ElemsOf (intKind prog w) es1.toList) (hp:(jw es1.toList).Perm ks) (hb:es1.size<scanBound) (hf:t2.fits es1.size=true) (ti:TI L t2) {R:Option Bool->Shared->Prop}
  (h:∀h',Heap.SameBut a s.heap h'->SetG prog w L h' a ks->R (some true) { s with heap:=h' }) :
  wpAny (model prog w) A (do
    storeSet a es1 t2
    if (!wd && t2.tooFull)=true then do
        g (relayAll t2 es1 (SetTable.grown es1.size)).2.2
        storeSet a (relayAll t2 es1 (SetTable.grown es1.size)).1 (relayAll t2 es1 (SetTable.grown es1.size)).2.1
        pure (some true)
     else pure (some true)) R E s:=by
 refine Te (Xy ho rfl ?_ (WX hb));have o1:=rG (es1:=es1) (t1:=t2) ho;have b1:=Vp s.heap a (Obj.putSet es1 t2);split
 ·have p2:=relayAll_perm t2 es1 (SetTable.grown es1.size);have f2:=relayAll_fits t2 es1 (SetTable.grown es1.size);have ti2:=Jp ti es1 (SetTable.grown es1.size);revert p2 f2 ti2;generalize relayAll t2 es1 (SetTable.grown es1.size)=Z;obtain⟨es2,t3,gv⟩:=Z;dsimp only;intro p2 f2 ti2;have sz:es2.size=es1.size:=by rw[<-Vb,p2.length_eq,Vb]
  refine Te (hg _ _ _ (Te (Xy o1 rfl ?_ (WX (by rw[sz];exact hb)))))
  refine Th (h _ (b1.trans (Vp _ a _)) ⟨es2,_,t3,rG o1,hel.perm p2,(p2.map _).trans hp,f2,ti2,by rw[sz];exact hb⟩)
 ·exact Th (h _ b1 ⟨es1,_,t2,o1,hel,hp,hf,ti,hb⟩)
theorem add_int(hS:SetG prog w L s.heap a ks)(room:ks.length + 1<scanBound)
  (h:∀h' b,Heap.SameBut a s.heap h'->SetG prog w L h' a (if k∈ks then ks else ks++[k])->Q b { s with heap:=h' }):wpAny (model prog w) A (setAddHashed a (.int k tk) ((intKind prog w).hash k)) Q E s:=by
 obtain⟨es,ep,t,ho,hel,hp,hf,ti,hb⟩:=hS.ex;have kk:(intKind prog w).is k (.int k tk)=true:=X7 _ _ _ _;have len:es.size=ks.length:=by have:=hp.length_eq;unfold jw at this;rw[Tz,Vb]at this;exact this
 unfold setAddHashed setAddHashedIn;refine Uy (Te (Vg ho rfl hf ?_));dsimp only;rw[byScan_of (knd:=intKind prog w) (x:=.int k tk) rfl hb hel,Tv rfl];unfold setAddByScan;refine Te (Te (VN (Te (wpAny_setScan_of kk ho rfl hf hel ?_))));have fk:=find_key hel k;have mk:k∈jw es.toList ↔ k∈ks:=hp.mem_iff;cases hr:List.findIdx? (λe=>(intKind prog w).is k e.2) es.toList with
 |some j=>
   rw[hr]at fk;have hk:k∈ks:=mk.mp (UG fk.symm);have q:=h s.heap false (Heap.SameBut.refl a s.heap) (by rw[Tv hk];exact hS)
   have e:s={ s with heap:=s.heap }:=by cases s;rfl
   rw[e];exact Th (Th q)
 | none=>
   rw[hr]at fk;have hk:k∉ks:=λz=>by have:=of_decide_eq_false fk.symm;exact this (mk.mpr z)
   rw[Tw hk]at h;dsimp only;have p1:=layNew_perm t es ((intKind prog w).hash k) (.int k tk);have f1:=layNew_fits t es ((intKind prog w).hash k) (.int k tk);have ti1:=Gp ti es ((intKind prog w).hash k) (.int k tk);revert p1 f1 ti1;generalize layNew t es ((intKind prog w).hash k) (.int k tk)=Z;obtain⟨es1,t1,wd,gv⟩:=Z;dsimp only;intro p1 f1 ti1;rw[Array.toList_push]at p1;have el1:ElemsOf (intKind prog w) es1.toList:=(hel.push kk rfl).perm p1;have pk:(jw es1.toList).Perm (ks++[k]):=by refine (p1.map _).trans ?_;rw[Wc];exact hp.append_right _
   have b1:es1.size<scanBound:=by rw[<-Vb,p1.length_eq,T3,Vb,len];exact room
   have gw:∀(b:Bool) (s1:Shared) (R:Unit->Shared->Prop),R () s1->wpAny (model prog w) A (match b with | true=>rule "set.scan.the-table-gave-way" | false=>pure ()) R E s1:=λb s1 R hq=>by
    cases b
    ·exact Th hq
    ·exact VN hq
   refine Te (gw gv _ _ ?_);split
   ·refine Te ?_;rw[hashByValue_scannable 8 (x:=.int k tk) rfl];refine Th ?_;simp only[plainKind,↓reduceIte];refine Hv ?_ ho el1 pk b1 f1 ti1 ?_
    ·intro b s1 R hq;cases b
     ·exact Th hq
     ·exact VN hq
    ·intro h' sb g;exact Th (h h' true sb g)
   ·refine Te (Th ?_);simp only[↓reduceIte];refine Hv ?_ ho el1 pk b1 f1 ti1 ?_
    ·intro b s1 R hq;cases b
     ·exact Th hq
     ·exact VN hq
    ·intro h' sb g;exact Th (h h' true sb g)
end
theorem cA:Slot "set_iterator" "__next__" "set_iterator.__next__":=.of (owner := "set_iterator") (n := "__next__") (by rw[typeLookup_type,builtinLookup_eq_fast];kernel_rfl) (by decide +kernel) (by decide +kernel) (by decide +kernel) (by first | exact .inl (by decide +kernel) | exact .inr (by decide +kernel)) (by rw[isSubtype_type];kernel_rfl)
theorem Ca:Slot "set_iterator" "__iter__" "set_iterator.__iter__":=.of (owner := "set_iterator") (n := "__iter__") (by rw[typeLookup_type,builtinLookup_eq_fast];kernel_rfl) (by decide +kernel) (by decide +kernel) (by decide +kernel) (by first | exact .inl (by decide +kernel) | exact .inr (by decide +kernel)) (by rw[isSubtype_type];kernel_rfl)
theorem iy:entryFor table "set_iterator.__next__"=some Builtin.«set_iterator.__next__»:=entryFor_of_fast (by kernel_rfl)
theorem Ir:entryFor table "set_iterator.__iter__"=some Builtin.«dict_keyiterator.__iter__»:=entryFor_alias (id' := "dict_keyiterator.__iter__") (by kernel_rfl) rfl (by decide +kernel) (by kernel_rfl)
theorem xj:entryFor table "set.__iter__"=some Builtin.«frozenset.__iter__»:=entryFor_alias (id' := "frozenset.__iter__") (by kernel_rfl) rfl (by decide +kernel) (by kernel_rfl)
theorem jA(a:Value):argsOk "set_iterator.__next__" ⟨[a],[]⟩:=by unfold argsOk;kernel_rfl
theorem J4(a:Value):argsOk "set_iterator.__iter__" ⟨[a],[]⟩:=by unfold argsOk;kernel_rfl
set_option tactic.hygienic true in
theorem BK(next:Nat->Nat):∀ (fuel k:Nat) (left:List α) (out:Array α),left.length=fuel->(pickOrder.go next fuel k left out).toList.Perm (out.toList++left)
 |0,k,left,out,h=>by have:left=[]:=Xu.mp h;subst this;unfold pickOrder.go;simp
 | fuel + 1,k,left,out,h=>by
   unfold pickOrder.go;have hm:next k%left.length<left.length:=Vo _ (by lia)
   generalize next k%left.length=m at hm
   rw[Tj hm];dsimp only;refine (BK next fuel (k+1) (left.eraseIdx m) (out.push left[m]) (by rw[List.length_eraseIdx,Tv hm];lia)).trans ?_
   rw[Array.toList_push,Wf];refine List.Perm.append_left _ ?_;have:∀ (l:List α) (t:Nat) (ht:t<l.length),(l[t]::l.eraseIdx t).Perm l:=by
    intro l;induction l with
    |nil=>intro t ht;exact absurd ht (by simp)
    |cons a l ih=>
      intro t ht;cases t with
      |zero=>exact .refl _
      |succ t=>exact (List.Perm.swap a _ _).trans ((ih t (by simpa using ht)).cons a)
   exact this left m hm
set_option tactic.hygienic true in
theorem G3(next:Nat->Nat)(xs:Array α):(pickOrder next xs).toList.Perm xs.toList:=by unfold pickOrder;exact (BK next xs.size 0 xs.toList #[] (by simp)).trans (by simp)
section
variable{prog:Program}{w:World}{A:Around}{E:Value->Shared->Prop}{s:Shared}
theorem xn(hn:n≠0)(h:∀i d',i<n->Q i { s with drawn:=d' }):wpAny (model prog w) A (choose src n) Q E s:=λΓ p hΓ=>⟨hn,h _ _ (Vo _ (by lia))⟩
theorem wJ:∀ (n:Nat) (xs:List Nat) {s:Shared}{Q:List Nat->Shared->Prop},xs.length=n->(∀ ys d',ys.Perm xs->Q ys { s with drawn:=d' })->wpAny (model prog w) A (drawOrder n xs) Q E s
 |0,xs,s,Q,h,q=>by have:xs=[]:=Xu.mp h;subst this;unfold drawOrder;exact Th (q [] s.drawn (.refl _))
 |n+1,[],s,Q,h,q=>by cases h
 | n + 1,x::xs,s,Q,h,q=>by
   unfold drawOrder;refine Te (xn (by simp) λi d' hi=>?_)
   rw[Tj hi];dsimp only;refine Te (wJ n ((x::xs).eraseIdx i) (by rw[List.length_eraseIdx,Tv hi];simp at h ⊢;lia) λys d2 p=>Th (q _ d2 ?_))
   refine (p.cons _).trans ?_;have:∀ (l:List Nat) (t:Nat) (ht:t<l.length),(l[t]::l.eraseIdx t).Perm l:=by
    intro l;induction l with
    |nil=>intro t ht;exact absurd ht (by simp)
    |cons a l ih=>
      intro t ht;cases t with
      |zero=>exact .refl _
      |succ t=>exact (List.Perm.swap a _ _).trans ((ih t (by simpa using ht)).cons a)
   exact this _ i hi
end
noncomputable abbrev lC(vs:Array Value):Obj:={ cls:=.type "set_iterator",data:=.fields vs }
noncomputable abbrev bx(w:World):Bool:=w.params.followText "set-order"
noncomputable def pI(w:World)(h:Heap)(I a tp:Addr)(es:Array (Int×Value))(ep:Nat)(t:SetTable)(ord:List Value)(i:Nat):Prop:=
 (bx w=true/\h.get? I=some (lC #[.int 0 0,.int i 0,.ref a,.int es.size 0,.int ep 0])/\ord=(pickOrder (w.params.setOrder a ep) es).toList.map (·.2))
 \/ (bx w=false/\(!t.plain&&decide (es.size > 1))=false/\∃sl:Nat,h.get? I=some (lC #[.int sl 0,.int i 0,.ref a,.int es.size 0,.int ep 0])/\SetTable.below t.place sl=i/\ord=es.toList.map (·.2))
 \/ (bx w=false/\(!t.plain&&decide (es.size > 1))=true/\∃ps,tp≠I/\h.get? I=some (lC #[.ref tp,.int i 0,.ref a,.int es.size 0,.int ep 0])/\h.get? tp=some { cls:=.type "tuple",data:=.seq ((ps:List Nat).map λ(p:Nat)=>rawInt (p:Int)).toArray }/\ps.Perm (List.range es.size)/\ord=ps.map (λp=>(es.getD p (0,.none)).2))
section
variable{prog:Program}{w:World}{A:Around}{E:Value->Shared->Prop}{s:Shared}{I a tp:Addr}{es:Array (Int×Value)}{ep:Nat}{t:SetTable}{ord:List Value}{i:Nat}
theorem iU{h:Heap}{vs:Array Value}{k:Nat}{v:Value}(e:h.get? I=some (lC vs)):(h.update I (Obj.mapFields (·.setIfInBounds k v))).get? I=some (lC (vs.setIfInBounds k v)):=by have q:=W6 (Obj.mapFields (·.setIfInBounds k v)) e (Obj.isFreed_of_fields (Obj.data_mapFields rfl _));rw[q];rfl
theorem Gz(hb:bx w=true)(ho:s.heap.get? a=some (aJ es ep t))(hf:t.fits es.size=true){sl:Nat}{Q:Option (Value×Nat)->Shared->Prop}(q:Q (((pickOrder (w.params.setOrder a ep) es)[i]?).map λe=>(e.2,sl)) s):
  wpAny (model prog w) A (setNext a sl i ep) Q E s:=by
 unfold setNext setsByText;refine Te (Vg ho rfl hf ?_);refine Te (Te (Wi (Th ?_)));have hb':(model prog w).w.params.followText "set-order"=true:=hb;rw[Tv hb'];simp only[bne_self_eq_false,Bool.false_eq_true,↓reduceIte];unfold setWalk setsByText;refine Te (Te (Vg ho rfl hf ?_));refine Te (Te (Wi (Th ?_)));rw[Tv hb'];exact Te (Wi (Th (Th q)))
theorem GC(hb:bx w=false)(hd:(!t.plain && decide (es.size > 1))=false)(ti:TI (!bx w) t)(ho:s.heap.get? a=some (aJ es ep t))(hf:t.fits es.size=true){sl:Nat}{Q:Option (Value×Nat)->Shared->Prop}
  (q:Q (match es[SetTable.below t.place sl]?,t.place[SetTable.below t.place sl]? with
    |some (_,x),some j=>some (x,j+1)
    |_,_=>none) s):wpAny (model prog w) A (setNext a sl i ep) Q E s:=by
 unfold setNext setsByText;refine Te (Vg ho rfl hf ?_);refine Te (Te (Wi (Th ?_)));have hb':¬ (model prog w).w.params.followText "set-order"=true:=by rw[show (model prog w).w.params.followText "set-order"=bx w from rfl,hb];decide
 rw[Tw hb'];have hl:t.led=true:=by rw[ti.led,hb];rfl
 show wpAny _ _ (if (!t.plain&&decide (es.size > 1))=true then _ else _) _ _ _
 rw[hd,Tw (by decide)]
 refine Te ?_;show wpAny _ _ (if (!t.led&&!es.isEmpty)=true then _ else _) _ _ _
 rw[hl];exact Th (Th q)
theorem next_item(ho:s.heap.get? a=some (aJ es ep t))(hf:t.fits es.size=true)(ti:TI (!bx w) t)(hne:a≠I)(c:pI w s.heap I a tp es ep t ord i)(hi:i<ord.length){Q:Option Value->Shared->Prop}
  (q:∀h',Heap.SameBut I s.heap h'->pI w h' I a tp es ep t ord (i+1)->Q (some ord[i]) { s with heap:=h' }):wpAny (model prog w) A (pyNext (.ref I)) Q E s:=by
 have ho':∀(k:Nat) (v:Value),(s.heap.update I (Obj.mapFields (·.setIfInBounds k v))).get? a=some (aJ es ep t):=λk v=>by rw[V7 _ _ (λz=>hne z.symm)];exact ho
 have sz:(((es.size:Nat):Int) != ((es.size:Nat):Int))=false:=bne_self_eq_false _;have sb2:∀(v1 v2:Value) (k1 k2:Nat),Heap.SameBut I s.heap ((s.heap.update I (Obj.mapFields (·.setIfInBounds k1 v1))).update I (Obj.mapFields (·.setIfInBounds k2 v2))):=λv1 v2 k1 k2=>(Vp _ I _).trans (Vp _ I _)
 rcases c with ⟨hb,hI,e⟩ | ⟨hb,hd,sl,hI,hs,e⟩ | ⟨hb,hd,ps,htp,hI,hT,hp,e⟩
 ·have ty:s.TypeIs (.ref I) "set_iterator":=⟨_,hI,rfl⟩;unfold pyNext;refine Te (Wg (Ur (name:=Str.ofString "__next__") ty cA (Uw cA ty iy ?_ (jA _))));unfold Builtin.«set_iterator.__next__» slotArgs;refine Te (Th ?_);refine Te (W5 hI rfl ?_);dsimp only;refine Te (V4 ho rfl hf ?_);rw[sz,Tw (by decide)]
  refine Te (Gz hb ho hf ?_);have hi':i<(pickOrder (w.params.setOrder a ep) es).size:=by rw[e]at hi;simpa using hi
  have oi:ord[i]=((pickOrder (w.params.setOrder a ep) es)[i]).2:=by subst e;simp
  rw[show ((i:Int)).toNat=i from Vq i,U0 hi']
  dsimp only[Option.map_some];refine Te (Vx hI rfl (by simp) ?_)
  refine Te (Vx (iU hI) rfl (by simp) ?_)
  refine Th ⟨_,rfl,Th ?_⟩;rw[<-oi];refine q _ (sb2 _ _ _ _) (.inl ⟨hb,?_,e⟩);rw[iU (iU hI)];simp[rawInt]
 ·have ty:s.TypeIs (.ref I) "set_iterator":=⟨_,hI,rfl⟩;unfold pyNext;refine Te (Wg (Ur (name:=Str.ofString "__next__") ty cA (Uw cA ty iy ?_ (jA _))));unfold Builtin.«set_iterator.__next__» slotArgs;refine Te (Th ?_);refine Te (W5 hI rfl ?_);dsimp only;refine Te (V4 ho rfl hf ?_);rw[sz,Tw (by decide)]
  refine Te (GC hb hd ti ho hf ?_);have hi':i<es.size:=by rw[e]at hi;simpa using hi
  have hps:t.place.size=es.size:=by simp only[SetTable.fits,Bool.and_eq_true,beq_iff_eq]at hf;exact hf.1
  have hi2:i<t.place.size:=by rw[hps];exact hi'
  have oi:ord[i]=(es[i]).2:=by subst e;simp
  rw[show ((sl:Int)).toNat=sl from Vq sl,hs,U0 hi',U0 hi2]
  dsimp only;refine Te (Vx hI rfl (by simp) ?_)
  refine Te (Vx (iU hI) rfl (by simp) ?_)
  refine Th ⟨_,rfl,Th ?_⟩;rw[<-oi];refine q _ (sb2 _ _ _ _) (.inr (.inl ⟨hb,hd,t.place[i]+1,?_,Cu ti.ris hi2,e⟩));rw[iU (iU hI)];simp[rawInt]
 ·have ty:s.TypeIs (.ref I) "set_iterator":=⟨_,hI,rfl⟩;have hpl:ps.length=es.size:=by rw[hp.length_eq,Uo]
  have hi':i<ps.length:=by rw[e]at hi;simpa using hi
  have hpi:ps[i]<es.size:=Tr.mp (hp.mem_iff.mp (UV hi'));unfold pyNext;refine Te (Wg (Ur (name:=Str.ofString "__next__") ty cA (Uw cA ty iy ?_ (jA _))));unfold Builtin.«set_iterator.__next__» slotArgs;refine Te (Th ?_);refine Te (W5 hI rfl ?_);dsimp only;refine Te (V4 ho rfl hf ?_);rw[sz,Tw (by decide)]
  refine Te (VP hT rfl ?_);have g:((ps.map λ(p:Nat)=>rawInt (p:Int)).toArray)[i]?=some (rawInt (ps[i]:Int)):=by simp[hi']
  rw[show ((i:Int)).toNat=i from Vq i]
  dsimp only;rw[g];dsimp only[rawInt];unfold setNextDrawn;refine Te (Te (Vg ho rfl hf ?_));simp only[bne_self_eq_false,Bool.false_eq_true,↓reduceIte,Int.toNat_natCast];rw[U0 hpi];dsimp only;refine Th ?_;refine Te (Vx hI rfl (by simp) ?_)
  refine Th ⟨_,rfl,Th ?_⟩;have oi:ord[i]=(es[ps[i]]).2:=by subst e;simp[hpi]
  rw[<-oi];refine q _ (Vp _ I _) (.inr (.inr ⟨hb,hd,ps,htp,?_,?_,hp,e⟩))
  ·rw[iU hI];simp
  ·rw[V7 _ _ (λz=>htp z.symm)];exact hT
end
section
variable{prog:Program}{w:World}{A:Around}{E:Value->Shared->Prop}{s:Shared}{I a tp:Addr}{es:Array (Int×Value)}{ep:Nat}{t:SetTable}{ord:List Value}{i:Nat}
theorem uw(hh:A.handled=none){R:Fin->Shared->Prop}{Q:Option Value->Shared->Prop}(q:∀h',(∀b o,s.heap.get? b=some o->h'.get? b=some o)->Q none { s with heap:=h' }):
  wpAny (model prog w) A.in1 (do raiseNew (<-newExc (.type "StopIteration") [])) R (λe s'=>wpAny (model prog w) A (do if <-isInstance e (.type "StopIteration") then pure none else throw e) Q E s') s:=by
 refine Te ?_;simp only[newExc,newTuple];refine Te (Ug ?_ (by size_fits))
 refine Te (m:=firstArgMember _ _) (wpAny_of_eq (a:=.none) (by first | rfl | (simp only[firstArgMember];rfl)) (Ug ?_ (by size_fits)))
 simp only[raiseNew];refine Te (wpAny_handled ?_);have h1:A.in1.handled=none:=hh;rw[h1];refine Te (Th (wpAny_throw ?_));refine Te (XR (T := "StopIteration") (b:=true) ⟨_,Tu _ rfl,rfl⟩ isSubtype_stop ?_);exact Th (q _ λb o e=>Tf _ (Tf _ e))
theorem next_end(hh:A.handled=none)(ho:s.heap.get? a=some (aJ es ep t))(hf:t.fits es.size=true)(ti:TI (!bx w) t)(c:pI w s.heap I a tp es ep t ord ord.length){Q:Option Value->Shared->Prop}
  (q:∀h',(∀b o,b≠I->s.heap.get? b=some o->h'.get? b=some o)->Q none { s with heap:=h' }):wpAny (model prog w) A (pyNext (.ref I)) Q E s:=by
 have sz:(((es.size:Nat):Int) != ((es.size:Nat):Int))=false:=bne_self_eq_false _;have k1:∀(v1:Value) (k1:Nat) b o,b≠I->s.heap.get? b=some o->(s.heap.update I (Obj.mapFields (·.setIfInBounds k1 v1))).get? b=some o:=λv1 k1 b o hb e=>by rw[V7 _ _ (λz=>hb z.symm)];exact e
 rcases c with ⟨hb,hI,e⟩ | ⟨hb,hd,sl,hI,hs,e⟩ | ⟨hb,hd,ps,htp,hI,hT,hp,e⟩
 ·have ty:s.TypeIs (.ref I) "set_iterator":=⟨_,hI,rfl⟩;unfold pyNext;refine Te (Wg (Ur (name:=Str.ofString "__next__") ty cA (Uw cA ty iy ?_ (jA _))));unfold Builtin.«set_iterator.__next__» slotArgs;refine Te (Th (Te (W5 hI rfl ?_)));dsimp only;refine Te (V4 ho rfl hf ?_);rw[sz,Tw (by decide)]
  refine Te (Gz hb ho hf ?_);have hi':(pickOrder (w.params.setOrder a ep) es)[((ord.length:Int)).toNat]?=none:=by rw[Vq,W9,e];simp
  rw[hi'];dsimp only[Option.map_none];refine Te (Vx hI rfl (by simp) ?_)
  exact uw hh λh' k=>q h' λb o hb e=>k b o (k1 _ _ b o hb e)
 ·have ty:s.TypeIs (.ref I) "set_iterator":=⟨_,hI,rfl⟩;unfold pyNext;refine Te (Wg (Ur (name:=Str.ofString "__next__") ty cA (Uw cA ty iy ?_ (jA _))));unfold Builtin.«set_iterator.__next__» slotArgs;refine Te (Th (Te (W5 hI rfl ?_)));dsimp only;refine Te (V4 ho rfl hf ?_);rw[sz,Tw (by decide)]
  refine Te (GC hb hd ti ho hf ?_);have hi':es[ord.length]?=none:=by rw[W9,e];simp
  rw[show ((sl:Int)).toNat=sl from Vq sl,hs,hi']
  dsimp only;refine Te (Vx hI rfl (by simp) ?_)
  exact uw hh λh' k=>q h' λb o hb e=>k b o (k1 _ _ b o hb e)
 ·have ty:s.TypeIs (.ref I) "set_iterator":=⟨_,hI,rfl⟩;unfold pyNext;refine Te (Wg (Ur (name:=Str.ofString "__next__") ty cA (Uw cA ty iy ?_ (jA _))));unfold Builtin.«set_iterator.__next__» slotArgs;refine Te (Th (Te (W5 hI rfl ?_)));dsimp only;refine Te (V4 ho rfl hf ?_);rw[sz,Tw (by decide)]
  refine Te (VP hT rfl ?_);have g:((ps.map λ(p:Nat)=>rawInt (p:Int)).toArray)[((ord.length:Int)).toNat]?=none:=by rw[Vq,W9,e];simp
  dsimp only;rw[g];dsimp only;refine Te (Vx hI rfl (by simp) ?_)
  refine Te (Vx (iU hI) rfl (by simp) ?_)
  refine uw hh λh' k=>q h' λb o hb e=>k b o ?_
  rw[V7 _ _ (λz=>hb z.symm)]
  exact k1 _ _ b o hb e
theorem yW(ho:s.heap.get? a=some (aJ es ep t))(hf:t.fits es.size=true)(ti:TI (!bx w) t)(hb:es.size<scanBound)
  (q:∀h' d' I tp ord,s.heap.objs.size<=I->(∀b o,s.heap.get? b=some o->h'.get? b=some o)->I<h'.objs.size->(tp=a\/(s.heap.objs.size<=tp/\tp<h'.objs.size))->pI w h' I a tp es ep t ord 0->ord.Perm (es.toList.map (·.2))->Q (.ref I) { s with heap:=h',drawn:=d' }):wpAny (model prog w) A (pyIter (.ref a)) Q E s:=by
 have ty:s.TypeIs (.ref a) "set":=⟨_,ho,rfl⟩;refine wpAny_pyIter_slot ty F.slot_set_iter (Uw F.slot_set_iter ty xj ?_ (F.args_set_iter_1 _));unfold Builtin.«frozenset.__iter__» Builtin.Frozenset.slot0 slotArgs Builtin.Frozenset.addrOf Builtin.Frozenset.sizeOf setDrawn setsByText;simp only[List.isEmpty_nil,Bool.not_true,Bool.false_eq_true,↓reduceIte,bind_assoc,List.length_nil,bne_self_eq_false];refine Te (Th (Te (Th ?_)));refine Te (V4 ho rfl hf (Te (Th ?_)));refine Te (Vg ho rfl hf ?_);refine Te (Wi (Te (Th (Te (Th ?_)))));show wpAny _ _ (if (!bx w&&(!t.plain&&decide (es.size > 1)))=true then _ else _) _ _ _
 by_cases hc:(!bx w&&(!t.plain&&decide (es.size > 1)))=true
 ·rw[Tv hc];rw[U5]at hc;have hB:bx w=false:=by simpa using hc.1
  refine Te (wJ es.size (List.range es.size) (by simp) λps d' hp=>?_)
  have pl:ps.length=es.size:=by rw[hp.length_eq,Uo]
  simp only[newTuple,newFields];refine Te (Ug ?_ (by show _<=sizeLine;have:=WX hb;simp;lia))
  have ho1:=Tf { cls:=.type "tuple",data:=.seq ((ps.map λ(i:Nat)=>rawInt (i:Int)).toArray) } ho
  refine Te (wpAny_setEpoch_of ho1 rfl hf ?_);refine Te (Ug (Th ⟨_,rfl, "set_iterator",_,⟨_,Tu _ rfl,rfl⟩,cA.lookup,?_⟩) (by show _<=_;simp[sizeLine_eq]))
  refine q _ d' _ s.heap.objs.size (ps.map (λp=>(es.getD p (0,.none)).2)) (by dsimp only;simp only[Heap.size_push];lia) (λb o e=>Tf _ (Tf _ e)) (by dsimp only;simp only[Heap.size_push];lia) (.inr ⟨Tq _,by dsimp only;simp only[Heap.size_push];exact Vf (Vi _)⟩) (.inr (.inr ⟨hB,hc.2,ps,?_,Tu _ rfl,Tf _ (Tu _ rfl),hp,rfl⟩)) ?_
  ·dsimp only;simp only[Heap.size_push];exact TF (Vi _)
  ·refine (hp.map _).trans (List.Perm.of_eq ?_);apply WW;intro k;by_cases hk:k<es.size
   ·simp[hk,Array.getD]
   ·rw[Uz (by simp;lia),Uz (by simp;lia)]
 ·rw [Tw hc];refine Te (Th ?_);simp only[newFields];refine Te (wpAny_setEpoch_of ho rfl hf ?_);refine Te (Ug (Th ⟨_,rfl, "set_iterator",_,⟨_,Tu _ rfl,rfl⟩,cA.lookup,?_⟩) (by show _<=_;simp[sizeLine_eq]))
  have fin:∀ord,pI w (s.heap.push (lC #[.int 0 0,.int 0 0,.ref a,.int es.size 0,.int ep 0])) s.heap.objs.size a a es ep t ord 0->ord.Perm (es.toList.map (·.2))->Q (.ref s.heap.objs.size) { s with heap:=s.heap.push (lC #[.int 0 0,.int 0 0,.ref a,.int es.size 0,.int ep 0]) }:=λord c p=>
   q _ s.drawn s.heap.objs.size a ord (Tq _) (λb o e=>Tf _ e) (by rw[Uc];lia) (.inl rfl) c p
  cases hB:bx w with
  |true=>exact fin _ (.inl ⟨hB,Tu _ rfl,rfl⟩) ((G3 _ es).map _)
  |false=>
    rw[hB]at hc;have hd:(!t.plain&&decide (es.size > 1))=false:=by simpa using hc
    exact fin _ (.inr (.inl ⟨hB,hd,0,Tu _ rfl,Cw ti.ris,rfl⟩)) (.refl _)
theorem pI.at(c:pI w h I a tp es ep t ord i)(k1:∀o,h.get? I=some o->h'.get? I=some o)(k2:∀o,h.get? tp=some o->h'.get? tp=some o):pI w h' I a tp es ep t ord i:=by
 rcases c with ⟨hb,hI,e⟩ | ⟨hb,hd,sl,hI,hs,e⟩ | ⟨hb,hd,ps,htp,hI,hT,hp,e⟩
 ·exact .inl ⟨hb,k1 _ hI,e⟩
 ·exact .inr (.inl ⟨hb,hd,sl,k1 _ hI,hs,e⟩)
 ·exact .inr (.inr ⟨hb,hd,ps,htp,k1 _ hI,k2 _ hT,hp,e⟩)
theorem pI.ty(c:pI w h I a tp es ep t ord i):∃vs,h.get? I=some (lC vs):=by rcases c with ⟨hb,hI,e⟩ | ⟨hb,hd,sl,hI,hs,e⟩ | ⟨hb,hd,ps,htp,hI,hT,hp,e⟩<;>exact⟨_,hI⟩
theorem w6(hh:A.handled=none)(hf:t.fits es.size=true)(ti:TI (!bx w) t)(hne:a≠I):
  Walks prog w A I [I,a,tp] [I] ord.length (λi v=>ord[i]?=some v) (λi h=>h.get? a=some (aJ es ep t)/\pI w h I a tp es ep t ord i) where
 sub:=λb hb=>by simp at hb;simp[hb]
 frame:=λz z z st hk=>⟨hk a (by simp) _ st.1,st.2.at (λo e=>hk I (by simp) o e) λo e=>hk tp (by simp) o e⟩
 item:=λi s Q E hi st hQ=>next_item st.1 hf ti hne st.2 hi λh' sb c=>hQ _ h' s.toks (by simp[hi]) ⟨sb.extBut a _ hne st.1,c⟩ λb o hb e=>sb.extBut b o (λh=>hb (by simp[h])) e
 done:=λs Q E st hQ=>next_end hh st.1 hf ti st.2 λh' k=>hQ h' s.toks λb o hb e=>k b o (λh=>hb (by simp[h])) e
 self:=λi s Q E st hQ=>by obtain⟨vs,hI⟩:=st.2.ty;have ty:s.TypeIs (.ref I) "set_iterator":=⟨_,hI,rfl⟩;exact wpAny_pyIter_slot ty Ca (Uw Ca ty Ir (Th ⟨_,rfl, "set_iterator",_,ty,cA.lookup,hQ⟩) (J4 _))
end
theorem SetG.at{prog:Program}{w:World}{L:Bool}{h h':Heap}{a:Addr}{ks:List Int}(g:SetG prog w L h a ks)(k:∀o,h.get? a=some o->h'.get? a=some o):SetG prog w L h' a ks:=by obtain⟨es,ep,t,ho,r⟩:=g.ex;exact⟨es,ep,t,k _ ho,r⟩
theorem uv(ks:List Int)(k:Int):(if k∈ks then ks else ks++[k])=step_dedup ks k:=by
 unfold step_dedup;by_cases h:k∈ks
 ·rw[Tv h,Tv (VL.mpr ⟨k,h,by simp⟩)]
 ·rw[Tw h,Tw (λz=>by obtain⟨x,hx,e⟩:=VL.mp z;exact h (by rw[<-Yc.mp e];exact hx))]
section
variable{prog:Program}{w:World}{A:Around}{R:Result->Shared->Prop}{I:Addr}{fp wr:List Addr}{G:Array GenState->Array GenState->Prop}{n:Nat}{P:Nat->Value->Prop}{St:Nat->Shared->Prop}{L:Bool}
theorem jy(W:WalksS prog w A.in1 I fp wr G n P St)(S:Addr)(hSf:S∉fp)(val:Nat->Int)(hval:∀ i v,P i v->∃ t,v=.int (val i) t)(hb:n + 1<scanBound):∀ (k i:Nat) (s:Shared),n - i=k->i<=n->St i s->SetG prog w L s.heap S (firstMet val i)->
  (∀s',Moved (S::wr) G s s'->SetG prog w L s'.heap S (firstMet val n)->R (.ok (.ret .none)) s')->codeAny (model prog w) A (.builtin "set.update.loop" ⟨[.ref S,.ref I],[]⟩) R s:=by
 have nw:S∉wr:=λh=>hSf (W.sub _ h)
 have sub:∀b∈wr,b∈S::wr:=λb hb=>.tail _ hb
 intro k;induction k with
 |zero=>
   intro i s hk hi hst g hR;obtain rfl:i=n:=by lia
   refine Vh VH ?_;rw[U8 Va _];refine Te (m:=pyNext (.ref I)) (W.done s _ _ hst λs' hm=>?_)
   exact Th (hR s' (hm.mono sub) (g.at λo e=>hm.heap S _ nw e))
 | succ k ih=>
   intro i s hk hi hst g hR;have lt:i<n:=by lia
   refine Vh VH ?_;rw[U8 Va _];refine Te (m:=pyNext (.ref I)) (W.item i s _ _ lt hst λv s' hP hst' hm=>?_)
   obtain⟨t,rfl⟩:=hval i v hP;have g':=g.at (h':=s'.heap) λo e=>hm.heap S _ nw e
   refine Te (m:=holding [Value.int (val i) t] (setAdd S (.int (val i) t))) (Uy ?_);unfold setAdd;refine Uy (Te ((intKind prog w).pyHash (k:=val i) (X7 _ _ _ _) ?_));have room:(firstMet val i).length+1<scanBound:=by have:=firstMet_length_le val i;lia
   refine add_int (s:={ s' with toks:=s'.toks+1 }) g' room λh' b sb g2=>?_
   rw[uv,<-firstMet_succ]at g2;refine Th ⟨Wt Va _,ih (i+1) _ (by lia) lt (W.frame _ s' _ _ hst' (Nat.le_succ _) λc hc o e=>?_) g2 λs2 hm2 g3=>?_⟩
   ·rw[sb.2 c (λz=>hSf (z ▸ hc))];exact e
   ·refine hR s2 (Moved.trans W.gtrans ((hm.mono sub).then_heap (Nat.le_succ _) λc o hc e=>?_) hm2) g3
    rw[sb.2 c (λz=>hc (z ▸ T6))];exact e
end
section
variable{prog:Program}{w:World}{A:Around}{E:Value->Shared->Prop}{s:Shared}
theorem Br(v:Value){Q:Value->Shared->Prop}(h:Q (.ref s.heap.objs.size) { s with heap:=s.heap.push (aJ #[] 0 (.fresh 0 0 (!bx w))) }):
  codeAny (model prog w) A (.call (.builtin "set.__new__") ⟨[.type "set",v],[]⟩) (wants Q E) s:=by
 refine Ye (Te (m:=checkBuiltinCall "set.__new__" ⟨[.type "set",v],[]⟩) (wpAny_of_eq (F.newCall_set_1 v) (Th ⟨Wt F.plain_set_new _,Vh F.entry_set_new ?_⟩)));rw[U8 F.plain_set_new _];unfold Builtin.«set.__new__» Builtin.Frozenset.newClass;have hsub:=sub_set_self;obtain⟨hp,g,d,tk,os⟩:=s;dsimp only
 wp_walk
 refine Wi (Th ?_);dsimp only;simp only[newObj];exact Te (wpAny_alloc (Th (Th h)))
theorem wY{l:Addr}{ks:List Int}{Q:Value->Shared->Prop}
  (hin:Shared.TypeIs { s with heap:=s.heap.push (aJ #[] 0 (.fresh 0 0 (!bx w))) } (.ref s.heap.objs.size) "set"->codeAny (model prog w) A.in1 (.call (.builtin "set.__init__") ⟨[.ref s.heap.objs.size]++[.ref l],[]⟩) (wants (λr s2=>r=.none/\∃h' tk,s2={ s with heap:=h',toks:=tk }/\SetG prog w (!bx w) h' s.heap.objs.size ks/\(∀b o,b<s.heap.objs.size->s.heap.get? b=some o->h'.get? b=some o)) E) { s with heap:=s.heap.push (aJ #[] 0 (.fresh 0 0 (!bx w))) })
  (h:∀(h':Heap) (tk:Nat),SetG prog w (!bx w) h' s.heap.objs.size ks->(∀b o,b<s.heap.objs.size->s.heap.get? b=some o->h'.get? b=some o)->Q (.ref s.heap.objs.size) { s with heap:=h',toks:=tk }) :
  wpAny (model prog w) A (call (.type "set") [.ref l]) Q E s:=by
 obtain⟨c,tl,hmro⟩:=F.called_set.mro;have hmade:=F.called_set.made;have hsub:=F.called_set.sub;refine Yi (Ye (Th ⟨Code.quiet_builtin _ (by decide +kernel),Vh F.entry_type_call ?_⟩))
 rw[Around.under_plain (Yj "set" [.ref l] []) rfl];have h1:=F.called_set.notType;have h2:=F.called_set.canCreate;have hct:=F.typeCall_set_1 (.ref l)
 repeat (any_goals (first | assumption | wp_step))
 refine Vw (Br (.ref l) (E:=E) (Q:=λobj s1=>obj=.ref s.heap.objs.size/\s1={ s with heap:=s.heap.push (aJ #[] 0 (.fresh 0 0 (!bx w))) }) ⟨rfl,rfl⟩) λr s1 hr=>?_
 cases r with
 |error e=>exact hr
 | ok fl=>
   cases fl with
   | ret obj=>
     obtain⟨rfl,rfl⟩:=hr;have hS:(s.heap.push (aJ #[] 0 (.fresh 0 0 (!bx w)))).get? s.heap.objs.size=some (aJ #[] 0 (.fresh 0 0 (!bx w))):=Tu _ rfl;have hT:Shared.TypeIs { s with heap:=s.heap.push (aJ #[] 0 (.fresh 0 0 (!bx w))) } (.ref s.heap.objs.size) "set":=⟨_,hS,rfl⟩
     have hli:=F.called_set.init.lookup;have hbi:=F.called_set.init.bind (.ref s.heap.objs.size)
     repeat (any_goals (first | assumption | wp_step))
     refine Vw (hin hT) λr2 s2 hr2=>?_
     cases r2 with
     |error e=>exact hr2
     | ok fl2=>
       cases fl2 with
       |ret r=>
         obtain⟨rfl,h',tk,rfl,hS',hk'⟩:=hr2
         repeat (any_goals (first | assumption | wp_step))
         exact h _ _ hS' hk'
       |_=>exact hr2.elim
   |_=>exact hr.elim
theorem wF{l:Addr}{items:Array Value}{ns:List Int}{Q:Value->Shared->Prop}(hh:A.handled=none)(hl:s.heap.IsList l items)(hi:IntsAre items.toList ns)(hb:items.size + 1<scanBound)
  (h:∀(h':Heap) (tk:Nat),SetG prog w (!bx w) h' s.heap.objs.size (firstMet (λi=>ns.getD i 0) items.size)->(∀b o,b<s.heap.objs.size->s.heap.get? b=some o->h'.get? b=some o)->Q (.ref s.heap.objs.size) { s with heap:=h',toks:=tk }) :
  wpAny (model prog w) A (call (.type "set") [.ref l]) Q E s:=by
 refine wY (ks:=firstMet (λi=>ns.getD i 0) items.size) (λhT=>codeAny_call_builtin F.called_set.init.plain F.entry_set_init (check_set_init_1 hT ?_)) h
 have hS:(s.heap.push (aJ #[] 0 (.fresh 0 0 (!bx w)))).get? s.heap.objs.size=some (aJ #[] 0 (.fresh 0 0 (!bx w))):=Tu _ rfl;obtain⟨ol,hol,hcl,nl,hdl⟩:=hl;obtain⟨ocls,odict,odata,oslots⟩:=ol;simp only at hcl hdl;subst hcl;subst hdl;have hol':(s.heap.push (aJ #[] 0 (.fresh 0 0 (!bx w)))).get? l=some { cls:=.type "list",dict:=odict,data:=.seq items nl,slots:=oslots }:=Tf _ hol;have hsls:=F.sub_list_set;have hslf:=F.sub_list_frozenset;have hne:(Value.type "list"==Value.type "dict")=false:=by decide
 have hl1:(s.heap.push (aJ #[] 0 (.fresh 0 0 (!bx w)))).IsList l items:=⟨_,hol',rfl,nl,rfl⟩;unfold Builtin.«set.__init__» noKeywords Builtin.Frozenset.updateFrom;generalize hPI:pyIter=PI
 wp_walk
 subst hPI;refine Vr hl1 (Te (W7 ?_));have hlS:l<s.heap.objs.size:=Tt hol;have hh3:A.in1.in1.in1.handled=none:=by simp[hh]
 have hneI:l≠(s.heap.push (aJ #[] 0 (.fresh 0 0 (!bx w)))).objs.size:=by rw[Uc];exact TF (Vf hlS)
 have hSf:s.heap.objs.size∉[(s.heap.push (aJ #[] 0 (.fresh 0 0 (!bx w)))).objs.size,l]:=by rw[Uc];simp only[List.mem_cons,List.mem_singleton,List.not_mem_nil,or_false,not_or];exact⟨TF (Vi _),Wl hlS⟩
 have hval:∀(i:Nat) (v:Value),items[i]?=some v->∃t,v=.int ((λi=>ns.getD i 0) i) t:=λi v hv=>IntsAre.int_at hi i v (by rw[Ws];exact hv)
 refine jy (L:=!bx w) ((Walks.list hh3 _ l hneI items).toS) s.heap.objs.size hSf (λi=>ns.getD i 0) hval hb (items.size-0) 0 _ (by lia) (Vl _) ⟨⟨_,Tu _ rfl,rfl,rfl⟩,(hl1.push _)⟩ ?hS0 ?hR
 case hS0=>exact⟨#[],0,_,Tf _ hS,(λe he=>by simp at he),.refl _,rfl,TI.fresh 0 0,by decide⟩
 case hR=>
  intro s' hm hS';obtain⟨h',g',d',tk',os'⟩:=s';have eg:g'=s.gens:=hm.gens;have ed:d'=s.drawn:=hm.drawn;have eo:os'=s.os:=hm.os;subst eg;subst ed;subst eo;refine Th (Th ⟨rfl,h',tk',rfl,hS',λb o hb e=>?_⟩)
  have hb2:b≠(s.heap.push (aJ #[] 0 (.fresh 0 0 (!bx w)))).objs.size:=by rw[Uc];exact TF (Vf hb)
  exact hm.heap b o (by simp only[List.mem_cons,List.mem_singleton,List.not_mem_nil,or_false,not_or];exact⟨TF hb,hb2⟩) (Tf _ (Tf _ e))
end
theorem ints_of:∀ {l:List (Int×Value)},ElemsOf (intKind prog w) l->IntsAre (l.map (·.2)) (jw l)
 |[],_=>.nil
 |e::l,h=>by
   obtain⟨t,q⟩:=yJ h (T6 (a:=e) (l:=l));show IntsAre (e.2::l.map (·.2)) (vInt e.2::jw l);have ih:=ints_of (prog:=prog) (w:=w) (l:=l) λx hx=>h x (.tail _ hx)
   rw[q];exact .cons _ _ ih
theorem Gh(h:IntsAre vs ns)(p:vs'.Perm vs):∃ ns',IntsAre vs' ns'/\ns'.Perm ns:=by
 have key:∀ {vs:List Value}{ns:List Int},IntsAre vs ns->ns=vs.map vInt/\∀ v∈vs,∃ t,v=.int (vInt v) t:=λ{vs ns} h=>by
  induction h with
  |nil=>exact⟨rfl,λv hv=>by cases hv⟩
  |cons n t hr ih=>
    refine⟨by rw[Uu,<-ih.1];rfl,λv hv=>?_⟩
    rcases TV.mp hv with rfl | hv
    ·exact⟨t,rfl⟩
    ·exact ih.2 v hv
 obtain⟨e,k⟩:=key h;have back:∀ (l:List Value),(∀ v∈l,∃ t,v=.int (vInt v) t)->IntsAre l (l.map vInt):=by
  intro l;induction l with
  |nil=>intro _;exact .nil
  |cons v l ih=>
    intro hl;obtain⟨t,q⟩:=hl v (T6);have r:=ih λx hx=>hl x (.tail _ hx)
    rw[Uu];generalize vInt v=i at q ⊢
    subst q;exact .cons _ _ r
 refine⟨vs'.map vInt,back vs' λv hv=>k v (p.mem_iff.mp hv),?_⟩
 rw[e];exact p.map _
theorem xx(h:b+1<=a):a≠b:=by lia
section
variable{prog:Program}{w:World}{A:Around}{E:Value->Shared->Prop}{s:Shared}
theorem yS(ho:s.heap.get? a=some (aJ es ep t))(q:Q false s):wpAny (model prog w) A (Builtin.List.listLengthHint (.ref a)) Q E s:=by
 have ty:s.TypeIs (.ref a) "set":=⟨_,ho,rfl⟩;unfold Builtin.List.listLengthHint;refine Te (wpAny_specialOf ty F.slot_set_len.lookup ?_);have sp:splitId "set.__len__"=some ("set", "__len__"):=by decide +kernel
 dsimp only;rw[sp];dsimp only;refine Te (XR (b:=true) ty sub_set_self ?_);refine Te (Wn ty ?_);exact Th q
theorem Af(hh:A.handled=none)(g:SetG prog w (!bx w) s.heap a ks)(h:∀ h' tk d' vs ns,IntsAre vs ns->ns.Perm ks->s.heap.objs.size<=h'.objs.size->(∀ b o,s.heap.get? b=some o->h'.get? b=some o)->Q vs { s with heap:=h',toks:=tk,drawn:=d' }):wpAny (model prog w) A (collect (.ref a)) Q E s:=by
 obtain⟨es,ep,t,ho,hel,hp,hf,ti,hb⟩:=g.ex;have ia:=ints_of hel;unfold collect;refine Te (W7 (Vh X3 ?_));rw[U8 XX _];refine Te (m:=newList []) (Ug (Th ⟨Wt Wu _,Vh F.entry_list_iadd ?_⟩));rw[U8 Wu _];have ha:a<s.heap.objs.size:=Tt ho;have ne:s.heap.objs.size≠a:=λz=>by rw[z]at ha;exact Vs _ ha
 have sr:Builtin.List.listSameRef (.ref s.heap.objs.size) (.ref a)=false:=by simp[Builtin.List.listSameRef,ne]
 have lst0:(s.heap.push (seqObj "list" #[] 0)).get? s.heap.objs.size=some (seqObj "list" #[] 0):=Tu _ rfl;have ho1:(s.heap.push (seqObj "list" #[] 0)).get? a=some (aJ es ep t):=Tf _ ho;show wpAny _ A.in1 (Builtin.List.listExtendWith (.ref s.heap.objs.size) (.ref a) (.ref s.heap.objs.size)) _ _ { s with heap:=s.heap.push (seqObj "list" #[] 0) }
 unfold Builtin.List.listExtendWith;refine Te (Wn (T := "set") ⟨_,ho1,rfl⟩ ?_);rw[Tw (by rw[sr];decide)]
 refine Te (yW (s:={ s with heap:=s.heap.push (seqObj "list" #[] 0) }) ho1 hf ti hb λh1 d1 I tp ord hI k1 hI1 htp c po=>?_)
 have ho2:=k1 a _ ho1;have lst1:=k1 _ _ lst0;have szI:s.heap.objs.size+1<=I:=by have:(s.heap.push (seqObj "list" #[] 0)).objs.size<=I:=hI;rw[Uc]at this;exact this
 refine Te (Uy (yS ho2 ?_));dsimp only;refine Te (m:=rule _) (VN ?_);unfold Builtin.List.listTouch;refine Te (Te (WF lst1 rfl ?_ (by simp) (by simp)))
 have lst2:=Xc lst1 (λx:Array Value=>x.push .none)
 refine WF lst2 rfl ?_ (by simp[sizeLine_eq]) (by simp)
 have lst3:=Xc lst2 (λx:Array Value=>x.pop)
 have up:∀b o,b≠s.heap.objs.size->h1.get? b=some o->((h1.update s.heap.objs.size (Obj.mapSeq λx=>x.push .none)).update s.heap.objs.size (Obj.mapSeq λx=>x.pop)).get? b=some o:=λb o hb e=>by rw[Wy _ _ _ _ hb,Wy _ _ _ _ hb];exact e
 have neI:I≠s.heap.objs.size:=xx szI;have netp:tp≠s.heap.objs.size:=by
  rcases htp with z | ⟨z,_⟩
  ·rw[z];exact λq=>ne q.symm
  ·have:s.heap.objs.size+1<=tp:=by have:(s.heap.push (seqObj "list" #[] 0)).objs.size<=tp:=z;rw[Uc]at this;exact this
   exact xx this
 have hne:a≠I:=TF (W3 ha szI);have hh1:A.in1.in1.handled=none:=by simp[hh]
 have W:=(w6 (prog:=prog) (w:=w) (A:=A.in1) (I:=I) (a:=a) (tp:=tp) (es:=es) (ep:=ep) (t:=t) (ord:=ord) (by simp[hh]) hf ti hne).toS
 have ol:ord.length=es.size:=by rw[po.length_eq];simp
 refine Th ⟨Wt F.plain_extend_loop _,codeAny_extend_loopS W (by rw[ol];exact WX hb) s.heap.objs.size (by simp;exact⟨λz=>neI z.symm,ne,λz=>netp z.symm⟩) _ ord.length 0 _ #[] _ rfl (Vl _) ⟨up a _ (λq=>ne q.symm) ho2,c.at (λo e=>up I o neI e) λo e=>up tp o netp e⟩ lst3 (ItemsOf.nil _) λs' acc c' hm hS' hacc=>?_⟩
 refine Te (m:=load s.heap.objs.size) (wpAny_load hS' ?_);have ea:acc.toList=ord:=by
  apply WW;intro k;by_cases hk:k<acc.size
  ·have:=hacc.2 k acc[k] (by rw[U0 hk])
   rw[this,Ws,U0 hk]
  ·rw[Uz (by simp;lia),Uz (by have:=hacc.1;lia)]
 obtain⟨h2,g2,d2,tk2,os2⟩:=s';have eg:g2=s.gens:=hm.gens;have ed:d2=d1:=hm.drawn;have eo:os2=s.os:=hm.os;subst eg ed eo;obtain⟨ns,hi,hpn⟩:=Gh ia (vs':=acc.toList) (by rw[ea];exact po)
 refine Th (h h2 tk2 d2 acc.toList ns hi (hpn.trans hp) (V6 (Tt hS')) λb o e=>?_)
 have lt:b<s.heap.objs.size:=Tt e;refine hm.heap b o (by simp;exact⟨TF lt,TF (W3 lt szI)⟩) (up b o (TF lt) (k1 b o (Tf _ e)))
theorem o7(hh:A.handled=none)(g:SetG prog w (!bx w) s.heap a ks)(h64:ks.length<64)
  (h:∀h' tk d' p n vs ns,s.heap.objs.size<=p->h'.get? p=some (seqObj "list" (vs:List Value).toArray n)->IntsAre vs ns->ns.Perm ks->ns.Pairwise (·<= ·)->(∀b o,s.heap.get? b=some o->h'.get? b=some o)->Q (.ref p) { s with heap:=h',toks:=tk,drawn:=d' }) :
  wpAny (model prog w) A (call (.builtin "sorted") [.ref a]) Q E s:=by
 refine Xd kind_sorted plain_sorted entry_sorted (args_sorted1 _) ?_;unfold Builtin.«sorted»
 refine Te (m:=checkCount "sorted" 1 1 _) (Th ?_);refine Te (Af (by simp[hh]) g λh1 tk1 d1 vs ns hi hp sz k1=>?_)
 have vl:vs.length=ns.length:=W2 hi;have nl:ns.length=ks.length:=hp.length_eq;have zl:vs.toArray.size<=sizeLine:=by rw[TX,VM];lia
 refine Te (wpAny_newList ?_ zl);have oL:(h1.push (seqObj "list" vs.toArray 0)).get? h1.objs.size=some (seqObj "list" vs.toArray 0):=Tu _ rfl;refine Te (Uy (Uw slot_list_sort ⟨_,oL,rfl⟩ entry_list_sort (list_sort_tree oL hi (by lia) λout ns' a1 a2 a3=>⟨_,rfl,?_⟩) (args_list_sort _)))
 obtain⟨e,he⟩:=sortedHeap_at (out:=out) oL;refine Th ⟨_,rfl,h _ _ _ h1.objs.size e out.toList ns' sz (by simpa using he) a1 (a2.trans hp) a3 λb o eb=>?_⟩
 have lt:=Tt (k1 b o eb);rw[sortedHeap_old (TF lt) (by rw[size_push'];exact Vf lt)]
 exact Tf _ (k1 b o eb)
end
end LS
namespace L2
open PySem PySem.Spec PyProof.Rows LS
noncomputable def jP(x:Int):List Int->List Int
 |[]=>[x]
 |y::r=>if x<=y then x::y::r else y::jP x r
theorem p6(x:Int):∀ l:List Int,(jP x l).Perm (x::l)
 |[]=>.refl _
 |y::r=>by
   unfold jP;split
   ·exact .refl _
   ·exact ((p6 x r).cons y).trans (.swap x y r)
set_option tactic.hygienic true in
theorem wN(x:Int):∀ {l:List Int},l.Pairwise (·<= ·)->(jP x l).Pairwise (·<= ·)
 |[],_=>by simp[jP]
 | y::r,h=>by
   unfold jP;split
   ·rename_i c;refine U9.mpr ⟨λz hz=>?_,h⟩
    rcases TV.mp hz with rfl | hz
    ·exact c
    ·exact Int.le_trans c ((U9.mp h).1 z hz)
   ·rename_i c;have h':=U9.mp h;refine U9.mpr ⟨λz hz=>?_,wN x h'.2⟩
    rcases TV.mp ((p6 x r).mem_iff.mp hz) with rfl | hz
    ·lia
    ·exact h'.1 z hz
noncomputable def dC(ns:List Int):List Int:=(ns.foldl step_dedup []).foldr jP []
theorem bV:∀ l:List Int,(l.foldr jP []).Perm l/\(l.foldr jP []).Pairwise (·<= ·)
 |[]=>⟨.refl _,by simp⟩
 |x::l=>by obtain⟨a,b⟩:=bV l;exact⟨(p6 x _).trans (a.cons x),wN x b⟩
theorem fX:∀ {a b:List Int},a.Perm b->a.Pairwise (·<= ·)->b.Pairwise (·<= ·)->a=b
 |[],b,p,_,_=>p.nil_eq
 |x::a,[],p,_,_=>by have:=p.length_eq;simp at this
 | x::a,y::b,p,ha,hb=>by
   have h1:=U9.mp ha;have h2:=U9.mp hb;have xy:x=y:=by
    have m1:x∈y::b:=p.mem_iff.mp (T6);have m2:y∈x::a:=p.mem_iff.mpr (T6);rcases TV.mp m1 with e | m1
    ·exact e
    ·rcases TV.mp m2 with e | m2
     ·exact e.symm
     ·exact Int.le_antisymm (h1.1 y m2) (h2.1 x m1)
   subst xy;rw[fX (List.Perm.cons_inv p) h1.2 h2.2]
theorem vW(ns:List Int):(dC ns).length<=ns.length:=by unfold dC;rw[(bV _).1.length_eq];exact foldl_step_dedup_nil_length_le ns
theorem jN(ns:List Int):firstMet (λi=>ns.getD i 0) ns.length=ns.foldl step_dedup []:=by
 unfold firstMet;congr 1;apply WW;intro k;by_cases hk:k<ns.length
 ·simp[hk]
 ·rw[Uz (by simp;lia),Uz (by lia)]
theorem lB:∀ {ns:List Int}{us:List Value},Vals (ns.map V.int) us->IntsAre us ns
 |[],_,.nil=>.nil
 |n::ns,_,.cons r rr=>by obtain⟨t,rfl⟩:=r;exact .cons n t (lB rr)
theorem gG:bootBuiltins "sorted"=some (.builtin "sorted"):=by decide +kernel
theorem lq:bootBuiltins "set"=some (.type "set"):=by decide +kernel
section
variable{X:Cx}
noncomputable def QQ(ta:TA):TE:=λσ H Q=>ta σ H λvs H1=>∃p ns,vs=[.ref p]/\H1 p=some (.lst (ns.map V.int))/\ns.length<=60/\∀l,H1 l=none->Q (.ref l) (upd H1 l (.lst ((dC ns).map V.int)))
theorem Lf(hc:X.calm=true)(hgL:Gl X "sorted")(hmL:X.mg "sorted"=none)(hg:Gl X "set")(hm:X.mg "set"=none)(ha:PA X [a] ta)(hs:autoParam (notStar a=true) qAA):
  PE X (.Call (.Name "sorted" p1) [.Call (.Name "set" p2) [a] [] pos2] [] pos1) (QQ ta):=by
 intro Yk s σ H Q I h;have hst:starEach [Expr.Call (.Name "set" p2) [a] [] pos2] X.env=(false,eval (.Call (.Name "set" p2) [a] [] pos2) X.env)::starEach [] X.env:=aM rfl;refine Call_ (ld_blt I hgL hmL gG (VD ?_ hst rfl));rw[hst];show wpAny _ _ (spliced ((false,eval (.Call (.Name "set" p2) [a] [] pos2) X.env)::[])) _ _ s;refine V9 ?_;refine Call_ (ld_blt I hg hm lq (Uj (thn (ha pos2 Yk s σ H _ I h) λus s1 ⟨vs,H1,I1,r1,q1⟩=>?_) (aM hs) rfl))
 obtain⟨p,ns,e,hp,hl,q⟩:=q1;subst e;cases r1 with
 | cons r rr=>
   cases rr;cases r;obtain⟨_,its,n,vl,ho⟩:=I1.hok p _ hp;have ia:=lB vl;have il:its.length=ns.length:=W2 ia;have hd:=I1.ok.hd hc;refine wF (items:=its.toArray) (ns:=ns) hd ⟨_,ho,rfl,n,rfl⟩ (by simpa using ia) (by simp[scanBound];lia) λh1 tk1 g k1=>?_
   refine We ?_;rw[show its.toArray.size=ns.length from by rw[TX];exact il,jN]at g
   have sl:(ns.foldl step_dedup []).length<=60:=Ue (foldl_step_dedup_nil_length_le ns) hl;refine o7 (s:={ s1 with heap:=h1,toks:=tk1 }) hd g (by lia) λh2 tk2 d2 l m ws ms hge hol ims pm so k2=>?_
   have sz:s1.heap.objs.size<=l:=by obtain⟨es,ep,t,hs1,_⟩:=g.ex;exact Ue (V6 (Tt hs1)) hge
   have em:ms=dC ns:=fX (pm.trans (bV _).1.symm) so (bV _).2;have kk:∀b o,s1.heap.get? b=some o->h2.get? b=some o:=λb o e=>k2 b o (k1 b o (Tt e) e)
   have zl:((dC ns).map V.int).length<=sizeLine:=by
    rw[Tz];have:=vW ns;show _<=2^24
    lia
   have I2:=I1.call (h':=h2) (t':=tk2) (d':=d2) (g':=s1.gens) (ch:=[]) (Un.laid kk sz (I1.hok.fresh sz)) (I1.hok.laid (o:=.lst ((dC ns).map V.int)) kk sz ⟨zl,ws,m,by rw[<-em];exact vals_ints ims,hol⟩) I1.bare (λy z=>nomatch z)
   exact⟨.ref l,upd H1 l (.lst ((dC ns).map V.int)),I2,rfl,q l (I1.hok.fresh sz)⟩
end
end L2
namespace LS
open PySem PySem.Spec PyProof.Rows
section
variable{prog:Program}{w:World}{A:Around}{E:Value->Shared->Prop}{s:Shared}
theorem Fb{l:Addr}{items:Array Value}{ns:List Int}{Q:Value->Shared->Prop}(hh:A.handled=none)(hl:s.heap.IsTuple l items)(hi:IntsAre items.toList ns)(hb:items.size + 1<scanBound)
  (h:∀(h':Heap) (tk:Nat),SetG prog w (!bx w) h' s.heap.objs.size (firstMet (λi=>ns.getD i 0) items.size)->(∀b o,b<s.heap.objs.size->s.heap.get? b=some o->h'.get? b=some o)->Q (.ref s.heap.objs.size) { s with heap:=h',toks:=tk }) :
  wpAny (model prog w) A (call (.type "set") [.ref l]) Q E s:=by
 refine wY (ks:=firstMet (λi=>ns.getD i 0) items.size) (λhT=>codeAny_call_builtin F.called_set.init.plain F.entry_set_init (check_set_init_1 hT ?_)) h
 have hS:(s.heap.push (aJ #[] 0 (.fresh 0 0 (!bx w)))).get? s.heap.objs.size=some (aJ #[] 0 (.fresh 0 0 (!bx w))):=Tu _ rfl;obtain⟨ol,hol,hcl,nl,hdl⟩:=hl;obtain⟨ocls,odict,odata,oslots⟩:=ol;simp only at hcl hdl;subst hcl;subst hdl;have hol':(s.heap.push (aJ #[] 0 (.fresh 0 0 (!bx w)))).get? l=some { cls:=.type "tuple",dict:=odict,data:=.seq items nl,slots:=oslots }:=Tf _ hol;have hsls:=F.sub_tuple_set;have hslf:=F.sub_tuple_frozenset;have hne:(Value.type "tuple"==Value.type "dict")=false:=by decide
 have hl1:(s.heap.push (aJ #[] 0 (.fresh 0 0 (!bx w)))).IsTuple l items:=⟨_,hol',rfl,nl,rfl⟩;unfold Builtin.«set.__init__» noKeywords Builtin.Frozenset.updateFrom;generalize hPI:pyIter=PI
 wp_walk
 subst hPI;refine wpAny_pyIter_tuple hl1 (Te (W7 ?_));have hlS:l<s.heap.objs.size:=Tt hol;have hh3:A.in1.in1.in1.handled=none:=by simp[hh]
 have hneI:l≠(s.heap.push (aJ #[] 0 (.fresh 0 0 (!bx w)))).objs.size:=by rw[Uc];exact TF (Vf hlS)
 have hSf:s.heap.objs.size∉[(s.heap.push (aJ #[] 0 (.fresh 0 0 (!bx w)))).objs.size,l]:=by rw[Uc];simp only[List.mem_cons,List.mem_singleton,List.not_mem_nil,or_false,not_or];exact⟨TF (Vi _),Wl hlS⟩
 have hval:∀(i:Nat) (v:Value),items[i]?=some v->∃t,v=.int ((λi=>ns.getD i 0) i) t:=λi v hv=>IntsAre.int_at hi i v (by rw[Ws];exact hv)
 refine jy (L:=!bx w) ((Walks.tuple hh3 _ l hneI items).toS) s.heap.objs.size hSf (λi=>ns.getD i 0) hval hb (items.size-0) 0 _ (by lia) (Vl _) ⟨⟨_,Tu _ rfl,rfl,rfl⟩,(hl1.push _)⟩ ?hS0 ?hR
 case hS0=>exact⟨#[],0,_,Tf _ hS,(λe he=>by simp at he),.refl _,rfl,TI.fresh 0 0,by decide⟩
 case hR=>
  intro s' hm hS';obtain⟨h',g',d',tk',os'⟩:=s';have eg:g'=s.gens:=hm.gens;have ed:d'=s.drawn:=hm.drawn;have eo:os'=s.os:=hm.os;subst eg;subst ed;subst eo;refine Th (Th ⟨rfl,h',tk',rfl,hS',λb o hb e=>?_⟩)
  have hb2:b≠(s.heap.push (aJ #[] 0 (.fresh 0 0 (!bx w)))).objs.size:=by rw[Uc];exact TF (Vf hb)
  exact hm.heap b o (by simp only[List.mem_cons,List.mem_singleton,List.not_mem_nil,or_false,not_or];exact⟨TF hb,hb2⟩) (Tf _ (Tf _ e))
end
end LS
namespace L2
open PySem PySem.Spec PyProof.Rows LS
end L2
namespace L2
open PySem PySem.Spec PyProof.Rows
end L2
namespace L2
open PySem PySem.Spec PyProof.Rows LS
end L2
namespace L2
open PySem PySem.Spec PyProof.Rows
end L2
namespace L2
open PySem PySem.Spec PyProof.Rows
open PySem PySem.Spec PyProof.Rows
end L2
namespace L2
open PySem PySem.Spec PyProof.Rows
noncomputable def Mp(lo c:Int)(n:Nat):It:=⟨λi z=>i<n,λi H x H'=>H'=H/\x=.int (lo+i*c),λi z=>n<=i⟩
theorem Ao{P:Program}{w:World}{K:PySem.W.Frag}{tg:Expr}(it:Addr)(lo c:Int)(n:Nat):Turn P w K tg (Mp lo c n) [it] it (λi h=>IsRangeIter h it (lo + (i:Nat) * c) ((n:Int) - (i:Nat)) c) where
 mem:=by simp
 obj:=λi h st b hb=>by
  have e:b=it:=by simpa using hb
  subst e;exact⟨_,st,λv z=>by have z':Data.fields _=Data.cell v:=z;cases z'⟩
 keep:=λi h h' st k=>k it (by simp) _ st
 item:=by
  intro X hP hw hK hc i Yk s σ H E I hf st hg;subst hP hw hK;obtain⟨f0,f1,f2,f3,f4,f5⟩:=hf it (by simp)
  have W:=Walks.range (prog:=X.prog) (w:=X.w) (I.ok.hd hc) it lo c n;refine W.item i s _ _ hg st λv h' tk hv st' kk=>?_
  obtain⟨t,rfl⟩:=hv;have I1:Inv X Yk σ H { s with heap:=h',toks:=tk }:=I.turned (λb o hb e=>kk b o (by simpa using hb) e) f0 f1 f3 f4 f5
  exact⟨_,rfl,go_of (s:={ s with heap:=h',toks:=tk }) (n := "range_iterator") st' rfl rfl (by decide) ⟨.int (lo+i*c),H,I1,⟨t,rfl⟩,⟨rfl,rfl⟩,st',λb hb=>(hf b hb).1⟩⟩
 done:=by
  intro X hP hw hK hc i Yk s σ H E I hf st hg;subst hP hw hK;obtain⟨f0,f1,f2,f3,f4,f5⟩:=hf it (by simp)
  exact wpAny_pyNext_range_end (I.ok.hd hc) st (by have:n<=i:=hg;lia) λh' eb=>⟨rfl,I.turned (t':=s.toks) (λb o hb e=>eb b o hb e) f0 f1 f3 f4 f5⟩
 self:=λy y y y y st h=>wpAny_pyIter_rangeiter st h
section
variable{X:Cx}{tg:Expr}
noncomputable def zT(lo hi c:Int):Prop:=0<=lo/\lo<2^20/\0<=hi/\hi<2^20/\1<=c/\c<2^20
theorem zT.small{lo hi c:Int}(h:zT lo hi c):Builtin.Range.small lo hi c=true:=by
 obtain⟨h1,h2,h3,h4,h5,h6⟩:=h;have n0:0<=Builtin.Range.rangeSize lo hi c/\Builtin.Range.rangeSize lo hi c<=2^20:=by
  unfold Builtin.Range.rangeSize;rw[Tv (by lia)]
  split
  ·have a:0<=(hi-lo-1) / c:=Int.ediv_nonneg (by lia) (by lia)
   have b:(hi-lo-1) / c<=hi-lo-1:=Int.ediv_le_self _ (by lia)
   lia
  ·lia
 unfold Builtin.Range.small;simp only[Builtin.Range.rangeFitsLong,Bool.and_eq_true,Bool.or_eq_true,decide_eq_true_eq,beq_iff_eq];rw[Tv (by lia)]
 simp only[Bool.and_eq_true,decide_eq_true_eq]
 lia
noncomputable def Qj(ta:TA):TI:=λσ H R=>ta σ H λvs H1=>∃i j c:Int,vs=[.int i,.int j,.int c]/\zT i j c/\R (Mp i c (Builtin.Range.rangeSize i j c).toNat) H1
theorem GZ{a b c:Expr}{ta:TA}{p pos:Pos}(hg:Gl X "range")(hm:X.mg "range"=none)(ha:PA X [a,b,c] ta)(hs:autoParam (notStar a=true) qAA)(hs2:autoParam (notStar b=true) qAA)(hs3:autoParam (notStar c=true) qAA):
  PI X tg (.Call (.Name "range" p) [a,b,c] [] pos) (Qj ta):=by
 intro Yk s σ H R I h;refine Call_ (ld_blt I hg hm boot_range (Uj (thn (ha pos Yk s σ H _ I h) λus s1 ⟨vs,H1,I1,r1,q1⟩=>?_) (aM hs) (by rw[aM hs2,aM hs3];rfl)))
 obtain⟨i,j,k,e,ok,q⟩:=q1;subst e;cases r1 with
 | cons r rr=>
   cases rr with
   | cons r' rr=>
     cases rr with
     | cons r2 rr=>
       cases rr;obtain⟨t,rfl⟩:=r;obtain⟨t',rfl⟩:=r';obtain⟨t2,rfl⟩:=r2;have n0:Builtin.Range.rangeSize i j k=((Builtin.Range.rangeSize i j k).toNat:Int):=rangeSize_toNat _ _ _;refine call_range_3 (by have:=ok.2.2.2.2.1;lia) ?_ (.inl (PyProof.noPylong_small (by have:=ok.2.2.2.2;lia)))
       refine wpAny_pyIter_range (IsRange.new ..) ok.small ?_;let o:Obj:={ cls:=.type "range",data:=.fields #[.int i t,.int j t',.int k t2] }
       have I2:Inv X Yk σ H1 { s1 with heap:=s1.heap.push o,toks:=s1.toks }:=I1.kept λb o e=>Tf _ e
       refine⟨(s1.heap.push o).objs.size,[(s1.heap.push o).objs.size],_,_,H1,rfl,I2.kept (t':=s1.toks) λb o e=>Tf _ e,Ao _ i k (Builtin.Range.rangeSize i j k).toNat,?_,λb hb=>?_,q⟩
       ·show IsRangeIter _ _ (i+((0:Nat):Int)*k) ((((Builtin.Range.rangeSize i j k).toNat:Nat):Int)-((0:Nat):Int)) k;have e1:i+((0:Nat):Int)*k=i:=by simp
        have e2:(((Builtin.Range.rangeSize i j k).toNat:Nat):Int)-((0:Nat):Int)=Builtin.Range.rangeSize i j k:=by rw[<-n0];simp
        rw[e1,e2];exact Tu _ rfl
       ·have e:b=(s1.heap.push o).objs.size:=by simpa using hb
        subst e;exact I2.fpOk (Tq _) (I2.hok.fresh (Tq _))
end
open PySem PySem.Spec PyProof.Rows
section
variable{X:Cx}
theorem tW{α:Type}(l:List α):∀k:Nat,(List.replicate k l).flatten.length=k*l.length
 |0=>by simp
 |k+1=>by rw[Vk,Vy,T3,tW l k,Nat.add_mul];lia
noncomputable def Qs:R2:=λx y H Q=>∃(l:Addr) (xs:List V) (k:Int),x=.ref l/\y=.int k/\H l=some (.tup xs)/\1<=xs.length/\xs.length<=1000/\2<=k/\k<=100/\∀p H',H p=none->Same H H'->H' p=some (.tup (List.replicate k.toNat xs).flatten)->Q (.ref p) H'
theorem Le:OpR X (binaryOp .Mult) Qs:=by
 intro Yk s σ H x y v u Q I rx ry h;obtain⟨l,xs,k,rfl,rfl,hH,l1,l2,h1,h2,q⟩:=h;cases rx;obtain⟨t,rfl⟩:=ry;obtain⟨its,r,⟨⟨cls,dd,data,sl⟩,e,hc,n,hd⟩,hz⟩:=I.tuple (SqT.of (K:=X.K) hH);simp only at hc hd;subst hc hd;have ty:s.TypeIs (.ref l) "tuple":=⟨_,e,rfl⟩;have hl:=r.length;refine wpAny_binaryOp_repeat_ref (T := "tuple") (U := "int") (by decide) ty (λs'=>typeIs_int s' k t) ud F.fills_int_mul Yg zR F.slot_int_index.lookup
  (Yd Yg (typeIs_int s k t) F.entry_int_rmul (F.args_int_rmul_2 _ _) (Dz k t l _ n dd sl) ⟨e,rfl,ty,?_⟩)
 have fl:List.foldl (λx1 x2=>x1++x2) #[] (List.replicate k.toNat its.toArray)=(List.replicate k.toNat its).flatten.toArray:=by have:=foldl_rep its k.toNat [];rw[X8]at this;exact this
 have hm:its.length*k.toNat<=1000*100:=Nat.mul_le_mul (by lia) (by lia)
 have hm':k.toNat*its.length<=100*1000:=by rw[Nat.mul_comm];lia
 have hmi:(its.length:Int)*k<=100000:=by
  have e2:k=(k.toNat:Int):=by lia
  rw[e2,<-Int.natCast_mul];lia
 refine Yd F.slot_tuple_mul ty F.entry_tuple_mul (F.args_tuple_mul_2 _ _) (Ql l its.toArray n dd sl k t ?_ ?_ ?_ ?_ ?_ ?_) ⟨e,?_⟩
 ·simp;lia
 ·have:its≠[]:=by
   have g:1<=its.length:=by lia
   intro z;rw[z]at g;simp at g
  simp[this];lia
 ·have:its≠[]:=by
   have g:1<=its.length:=by lia
   intro z;rw[z]at g;simp at g
  simp[this];lia
 ·rw[TX];lia
 ·unfold Builtin.Tuple.tupleTooMany;rw[VM,TX];simp;lia
 ·show (List.foldl (λx1 x2=>x1++x2) #[] (List.replicate k.toNat its.toArray)).size<=sizeLine
  rw[fl,TX,tW,VM];lia
 rw[fl];have rr:∀m:Nat,Vals (List.replicate m xs).flatten (List.replicate m its).flatten:=λm=>by
  induction m with
  |zero=>exact .nil
  |succ m ih=>rw[Vk,Vk,Vy,Vy];exact r.append ih
 have fr:=I.hok.fresh (Tq s.heap.objs.size);refine⟨.ref s.heap.objs.size,_,I.laid (t':=s.toks) (o:=.tup (List.replicate k.toNat xs).flatten) (λb ob q=>Tf _ q) (Tq _) ?_,rfl,q _ _ fr (same_new fr _) upd_same⟩
 exact⟨by rw[tW,VM];rw[hl];lia,_,rr _,Xh _ _⟩
end
open PySem PySem.Spec PyProof.Rows
section
variable{X:Cx}
theorem Ew(hh:X.A.handled=none):CallR X (.builtin "any") (λvs H Q=>∃l xs,vs=[.ref l]/\H l=some (.lst xs)/\(∀x∈xs,scS x=true)/\Q (.bl (xs.any gZ)) H):=by
 intro Yk s σ H vs us Q I r h;obtain⟨l,xs,rfl,hH,hs,q⟩:=h;obtain⟨u,rfl,ru⟩:=vals1 r;cases ru;obtain⟨its,rv,p,hz⟩:=I.list (SqL.of (K:=X.K) hH);have hl:l<s.heap.objs.size:=by obtain⟨o,n,e,_⟩:=p;exact Tt e
 refine call_any_walk (Vr p.isList ?_);refine⟨s.heap.objs.size,[s.heap.objs.size,l],[s.heap.objs.size],its.toArray.size,λi v=>its.toArray[i]?=some v,λi h=>h.IsListIter s.heap.objs.size l i/\h.IsList l its.toArray,λi=>gZ (xs[i]?.getD .non),rfl,Walks.list (A:=X.A.in1) hh s.heap.objs.size l (TF hl) its.toArray,⟨⟨_,Tu _ rfl,rfl,rfl⟩,p.isList.at λo e=>Tf _ e⟩,JX rv hs,λh' tk hk=>?_⟩
 refine⟨.bl (xs.any gZ),H,I.kept λb o e=>hk b o (λz=>?_) (Tf _ e),?_,q⟩
 ·have:b=s.heap.objs.size:=by simpa using z
  exact absurd (Tt e) (by rw[this];exact Vs _)
 ·rw[show its.toArray.size=xs.length by rw[TX];exact rv.length.symm]
  show Value.bool _=Value.bool _;rw[range_any λi x e=>by rw[e];rfl]
end
end L2
namespace L2
open PySem PySem.Spec PyProof.Rows LS
section
variable{X:Cx}
noncomputable def Pn(ta:TA):TE:=λσ H Q=>ta σ H λvs H1=>∃p ns,vs=[.ref p]/\H1 p=some (.lst (ns.map V.int))/\(ns.length<=2000/\(ns.foldl step_dedup []).length<=60)/\∀l,H1 l=none->Q (.ref l) (upd H1 l (.lst ((dC ns).map V.int)))
theorem Ji{a:Expr}{ta:TA}{p1 p2 pos1 pos2:Pos}(hc:X.calm=true)(hgL:Gl X "sorted")(hmL:X.mg "sorted"=none)(hg:Gl X "set")(hm:X.mg "set"=none)(ha:PA X [a] ta)(hs:autoParam (notStar a=true) qAA):
  PE X (.Call (.Name "sorted" p1) [.Call (.Name "set" p2) [a] [] pos2] [] pos1) (Pn ta):=by
 intro Yk s σ H Q I h;have hst:starEach [Expr.Call (.Name "set" p2) [a] [] pos2] X.env=(false,eval (.Call (.Name "set" p2) [a] [] pos2) X.env)::starEach [] X.env:=aM rfl;refine Call_ (ld_blt I hgL hmL gG (VD ?_ hst rfl));rw[hst];show wpAny _ _ (spliced ((false,eval (.Call (.Name "set" p2) [a] [] pos2) X.env)::[])) _ _ s;refine V9 ?_;refine Call_ (ld_blt I hg hm lq (Uj (thn (ha pos2 Yk s σ H _ I h) λus s1 ⟨vs,H1,I1,r1,q1⟩=>?_) (aM hs) rfl))
 obtain⟨p,ns,e,hp,hl,q⟩:=q1;subst e;cases r1 with
 | cons r rr=>
   cases rr;cases r;obtain⟨_,its,n,vl,ho⟩:=I1.hok p _ hp;have ia:=lB vl;have il:its.length=ns.length:=W2 ia;have hd:=I1.ok.hd hc;refine wF (items:=its.toArray) (ns:=ns) hd ⟨_,ho,rfl,n,rfl⟩ (by simpa using ia) (by simp[scanBound];have:=hl.1;lia) λh1 tk1 g k1=>?_
   refine We ?_;rw[show its.toArray.size=ns.length from by rw[TX];exact il,jN]at g
   have sl:=hl.2;refine o7 (s:={ s1 with heap:=h1,toks:=tk1 }) hd g (by lia) λh2 tk2 d2 l m ws ms hge hol ims pm so k2=>?_
   have sz:s1.heap.objs.size<=l:=by obtain⟨es,ep,t,hs1,_⟩:=g.ex;exact Ue (V6 (Tt hs1)) hge
   have em:ms=dC ns:=fX (pm.trans (bV _).1.symm) so (bV _).2;have kk:∀b o,s1.heap.get? b=some o->h2.get? b=some o:=λb o e=>k2 b o (k1 b o (Tt e) e)
   have zl:((dC ns).map V.int).length<=sizeLine:=by
    rw[Tz];have:=vW ns;have:=hl.1;show _<=2^24
    lia
   have I2:=I1.call (h':=h2) (t':=tk2) (d':=d2) (g':=s1.gens) (ch:=[]) (Un.laid kk sz (I1.hok.fresh sz)) (I1.hok.laid (o:=.lst ((dC ns).map V.int)) kk sz ⟨zl,ws,m,by rw[<-em];exact vals_ints ims,hol⟩) I1.bare (λy z=>nomatch z)
   exact⟨.ref l,upd H1 l (.lst ((dC ns).map V.int)),I2,rfl,q l (I1.hok.fresh sz)⟩
end
end L2
namespace LB
open PySem PySem.W PyProof.Rows
noncomputable def aQ{α:Type}(o:Nat->Nat->Bool):KasT α->α
 |.ret a=>a
 |.ask i j k=>aQ o (k (o i j))
theorem gD:∀(t:KasT α),aQ o (t.bind f)=aQ o (f (aQ o t))
 |.ret _=>rfl
 |.ask i j k=>gD (k (o i j))
structure Ord(K:Type) where
 le:K->K->Prop
 dec:∀a b,Decidable (le a b)
 rfl:∀a,le a a
 trans:∀{a b c},le a b->le b c->le a c
 tot:∀a b,le a b\/le b a
section
variable{K:Type}(R:Ord K)(v:Nat->K)
noncomputable def ans(i j:Nat):Bool:=!(R.dec (v j) (v i)).decide
noncomputable def V(p:Array Nat)(i:Nat):K:=v (p.getD i 0)
noncomputable def SU(p:Array Nat)(n:Nat):Prop:=∀i j,i<=j->j<n->R.le (V v p i) (V v p j)
noncomputable def DU(p:Array Nat)(n:Nat):Prop:=∀i j,i<=j->j<n->R.le (V v p j) (V v p i)
variable{R v}{p:Array Nat}
theorem xr(h:ans R v i j=true):R.le (v i) (v j):=by
 have n:¬ R.le (v j) (v i):=by simpa[ans] using h
 exact (R.tot _ _).resolve_right n
theorem uC(h:¬ ans R v i j=true):R.le (v j) (v i):=by simpa[ans] using h
theorem mZ{p q:Array Nat}{i j:Nat}(h:p[i]?=q[j]?):p.getD i 0=q.getD j 0:=by rw[U3,U3,h]
set_option tactic.hygienic true in
theorem jq{i j:Nat}(hj:j<=p.size)(k:Nat):V v (kas_rev p i j) k=if i<=k/\k<j then V v p (i+j-1-k) else V v p k:=by
 have h:=getElem?_mirror_all (i:=i) hj k;unfold V kas_rev;split
 ·rename_i c;rw[Tv c]at h;rw[mZ h]
 ·rename_i c;rw[Tw c]at h;rw[mZ h]
theorem Jz{s d:Nat}(hs:s<p.size)(hd:d<=s)(k:Nat):V v (bubble p s d) k=if k=s-d then V v p s else if s-d<k/\k<=s then V v p (k-1) else V v p k:=by
 have h:=getElem?_bubble hs d hd k;by_cases c:k=s-d
 ·rw[Tv c]at h ⊢;exact congrArg v (mZ h)
 ·rw[Tw c]at h ⊢
  by_cases c2:s-d<k/\k<=s
  ·rw[Tv c2]at h ⊢;exact congrArg v (mZ h)
  ·rw[Tw c2]at h ⊢;exact congrArg v (mZ h)
theorem ug(i j:Nat):(kas_rev p i j).Perm p:=mirror_perm _ _ _ _
theorem SU.up(h:SU R v p n)(h1:1<=n)(q:R.le (V v p (n-1)) (V v p n)):SU R v p (n+1):=λi j hij hj=>by
 by_cases c:j<n
 ·exact h i j hij c
 ·obtain rfl:j=n:=by lia
  by_cases d:i=j
  ·subst d;exact R.rfl _
  ·exact R.trans (h i (j-1) (by lia) (by lia)) q
theorem DU.up(h:DU R v p n)(h1:1<=n)(q:R.le (V v p n) (V v p (n-1))):DU R v p (n+1):=λi j hij hj=>by
 by_cases c:j<n
 ·exact h i j hij c
 ·obtain rfl:j=n:=by lia
  by_cases d:i=j
  ·subst d;exact R.rfl _
  ·exact R.trans q (h i (j-1) (by lia) (by lia))
theorem yt:∀ (f n:Nat),1<=n->SU R v p n->SU R v p (aQ (ans R v) (kas_asc p f n))/\n<=aQ (ans R v) (kas_asc p f n)/\aQ (ans R v) (kas_asc p f n)<=n + f/\(aQ (ans R v) (kas_asc p f n)<n + f->R.le (V v p (aQ (ans R v) (kas_asc p f n))) (V v p (aQ (ans R v) (kas_asc p f n) - 1)))
 |0,n,_,h=>⟨h,Tq _,Tq _,λz=>absurd z (Vs _)⟩
 | f + 1,n,h1,h=>by
   by_cases c:ans R v (p.getD n 0) (p.getD (n-1) 0)=true
   ·have e:aQ (ans R v) (kas_asc p (f+1) n)=n:=by
     show aQ (ans R v) (if ans R v (p.getD n 0) (p.getD (n-1) 0)=true then .ret n else _)=n
     rw[Tv c];rfl
    rw[e];exact⟨h,Tq _,by lia,λy=>xr c⟩
   ·have e:aQ (ans R v) (kas_asc p (f+1) n)=aQ (ans R v) (kas_asc p f (n+1)):=by
     show aQ (ans R v) (if ans R v (p.getD n 0) (p.getD (n-1) 0)=true then .ret n else _)=_
     rw[Tw c]
    rw[e];obtain⟨a,b,d,g⟩:=yt f (n+1) (by lia) (h.up h1 (uC c))
    exact⟨a,by lia,by lia,λz=>g (by lia)⟩
structure De(R:Ord K)(v:Nat->K)(p₀ p:Array Nat)(n q:Nat):Prop where
 du:DU R v p n
 pm:p.Perm p₀
 le:q+1<=n
 eq:∀k,n-(q+1)<=k->k<n->R.le (V v p k) (V v p (n-1))/\R.le (V v p (n-1)) (V v p k)
theorem De.rev(h:De R v p₀ p n q)(hn:n<=p₀.size):DU R v (kas_rev p (n-(q+1)) n) n/\(kas_rev p (n-(q+1)) n).Perm p₀:=by
 refine⟨λi j hij hj=>?_,(ug _ _).trans h.pm⟩
 have hn':n<=p.size:=by rw[h.pm.size_eq];exact hn
 have:=h.le;rw[jq hn',jq hn'];by_cases a:n-(q+1)<=i/\i<n
 ·rw[Tv a,Tv (by lia)]
  exact R.trans (h.eq _ (by lia) (by lia)).1 (h.eq _ (by lia) (by lia)).2
 ·rw[Tw a];by_cases b:n-(q+1)<=j/\j<n
  ·rw[Tv b];exact h.du _ _ (by lia) (by lia)
  ·rw[Tw b];exact h.du _ _ hij hj
theorem De.zero(a:DU R v p n)(b:p.Perm p₀)(c:1<=n):De R v p₀ p n 0:=⟨a,b,c,λk h1 h2=>by
 obtain rfl:k=n-1:=by lia
 exact⟨R.rfl _,R.rfl _⟩⟩
theorem IK(h:De R v p₀ p n q)(hn:n<=p₀.size):R.le (V v p (n-1)) (V v (kas_rev p (n-(q+1)) n) (n-1)):=by
 have hn':n<=p.size:=by rw[h.pm.size_eq];exact hn
 have:=h.le;rw[jq hn',Tv (by lia)]
 exact (h.eq _ (by lia) (by lia)).2
theorem wC(hj:j<=p.size)(hk:j<=k):V v (kas_rev p i j) k=V v p k:=by rw[jq hj,Tw (by lia)]
theorem qP:∀ (f:Nat) (p:Array Nat) (n q:Nat),n + f<=p₀.size->De R v p₀ p n q->∃ p' n' q',aQ (ans R v) (kas_desc f p n q)=(p',n',q')/\n<=n'/\n'<=n + f/\De R v p₀ p' n' q'
 |0,p,n,q,_,h=>⟨p,n,q,rfl,Tq _,Tq _,h⟩
 | f + 1,p,n,q,hs,h=>by
   have h1:=h.le;by_cases c:ans R v (p.getD n 0) (p.getD (n-1) 0)=true
   ·by_cases hq:q > 0
    ·have e:aQ (ans R v) (kas_desc (f+1) p n q)=aQ (ans R v) (kas_desc f (kas_rev p (n-(q+1)) n) (n+1) 0):=by
      show aQ (ans R v) (if ans R v (p.getD n 0) (p.getD (n-1) 0)=true then (if q > 0 then _ else _) else _)=_
      rw[Tv c,Tv hq]
     rw[e];obtain⟨d1,d2⟩:=h.rev (by lia)
     have hn':n<=p.size:=by rw[h.pm.size_eq];lia
     have d3:DU R v (kas_rev p (n-(q+1)) n) (n+1):=d1.up (by lia) (by rw[wC hn' (Tq _)];exact R.trans (xr c) (IK h (by lia)))
     obtain⟨p',n',q',e1,e2,e3,e4⟩:=qP f _ (n+1) 0 (by lia) (De.zero d3 d2 (by lia))
     exact⟨p',n',q',e1,by lia,by lia,e4⟩
    ·have e:aQ (ans R v) (kas_desc (f+1) p n q)=aQ (ans R v) (kas_desc f p (n+1) 0):=by
      show aQ (ans R v) (if ans R v (p.getD n 0) (p.getD (n-1) 0)=true then (if q > 0 then _ else _) else _)=_
      rw[Tv c,Tw hq]
     rw[e];obtain⟨p',n',q',e1,e2,e3,e4⟩:=qP f p (n+1) 0 (by lia) (De.zero (h.du.up (by lia) (xr c)) h.pm (by lia))
     exact⟨p',n',q',e1,by lia,by lia,e4⟩
   ·by_cases d:ans R v (p.getD (n - 1) 0) (p.getD n 0)=true
    ·refine⟨p,n,q,?_,Tq _,by lia,h⟩
     show aQ (ans R v) (if ans R v (p.getD n 0) (p.getD (n-1) 0)=true then _ else _)=_
     rw[Tw c];show aQ (ans R v) (if ans R v (p.getD (n-1) 0) (p.getD n 0)=true then _ else _)=_
     rw[Tv d];rfl
    ·have e:aQ (ans R v) (kas_desc (f + 1) p n q)=aQ (ans R v) (kas_desc f p (n + 1) (q + 1)):=by
      show aQ (ans R v) (if ans R v (p.getD n 0) (p.getD (n-1) 0)=true then _ else _)=_
      rw[Tw c];show aQ (ans R v) (if ans R v (p.getD (n-1) 0) (p.getD n 0)=true then _ else _)=_
      rw[Tw d]
     rw[e];have x1:R.le (V v p (n-1)) (V v p n):=uC c;have x2:R.le (V v p n) (V v p (n-1)):=uC d;have hh:De R v p₀ p (n+1) (q+1):=⟨h.du.up (by lia) x2,h.pm,by lia,λk hk1 hk2=>by
      show R.le (V v p k) (V v p n)/\R.le (V v p n) (V v p k);by_cases z:k=n
      ·subst z;exact⟨R.rfl _,R.rfl _⟩
      ·obtain⟨y1,y2⟩:=h.eq k (by lia) (by lia)
       exact⟨R.trans y1 x1,R.trans x2 y2⟩⟩
     obtain⟨p',n',q',e1,e2,e3,e4⟩:=qP f p (n+1) (q+1) (by lia) hh
     exact⟨p',n',q',e1,by lia,by lia,e4⟩
noncomputable def Cn(R:Ord K)(v:Nat->K)(p₀:Array Nat)(r:Nat×Array Nat):Prop:=SU R v r.2 r.1/\r.2.Perm p₀/\r.1<=p₀.size
theorem Ci(h1:1<=n)(hn:n<=p₀.size)(d:DU R v p n)(pm:p.Perm p₀):Cn R v p₀ (aQ (ans R v) (kas_tail3 n p₀.size p)):=by
 have hn':n<=p.size:=by rw[pm.size_eq];exact hn
 have s:SU R v (kas_rev p 0 n) n:=λi j hij hj=>by
  rw[jq hn',jq hn',Tv (by lia),Tv (by lia)]
  exact d _ _ (by lia) (by lia)
 obtain⟨a,b,c,_⟩:=yt (p:=kas_rev p 0 n) (p₀.size-n) n h1 s;unfold kas_tail3;rw[gD];exact⟨a,(ug _ _).trans pm,by show aQ _ _<=_;lia⟩
theorem By(h1:1<=n)(hn:n+1<=p₀.size)(d:DU R v p (n+1))(pm:p.Perm p₀):Cn R v p₀ (aQ (ans R v) (kas_descPart n p₀.size p)):=by
 obtain⟨p',n',q',e1,e2,e3,e4⟩:=qP (p₀:=p₀) (p₀.size-(n+1)) p (n+1) 0 (by lia) (De.zero d pm (by lia))
 unfold kas_descPart;rw[gD,e1];show Cn R v p₀ (aQ _ (if q' > 0 then _ else _))
 split
 ·obtain⟨d1,d2⟩:=e4.rev (by lia)
  exact Ci (n:=n') (by lia) (by lia) d1 d2
 ·exact Ci (n:=n') (by lia) (by lia) e4.du e4.pm
theorem Ib(h1:1<=p₀.size):Cn R v p₀ (aQ (ans R v) (kas_count p₀.size p₀)):=by
 have s1:SU R v p₀ 1:=λi j hij hj=>by
  obtain rfl:i=j:=by lia
  exact R.rfl _
 obtain⟨a,b,c,g⟩:=yt (p:=p₀) (p₀.size-1) 1 (Tq _) s1;unfold kas_count;rw[gD];generalize aQ (ans R v) (kas_asc p₀ (p₀.size-1) 1)=n at a b c g;by_cases e:(n==p₀.size)=true
 ·rw[Tv e];exact⟨a,.refl _,by show n<=_;lia⟩
 ·rw [Tw e];have ne:n≠p₀.size:=by simpa using e
  have g':=g (by lia)
  by_cases h:n > 1
  ·rw [Tv h];show Cn R v p₀ (aQ _ (if ans R v (p₀.getD 0 0) (p₀.getD (n-1) 0)=true then _ else _))
   by_cases x:ans R v (p₀.getD 0 0) (p₀.getD (n-1) 0)=true
   ·rw[Tv x];exact⟨a,.refl _,by show n<=_;lia⟩
   ·rw[Tw x];have al:R.le (V v p₀ (n-1)) (V v p₀ 0):=uC x;have d:DU R v (kas_rev p₀ 0 n) n:=λi j hij hj=>by
     rw[jq (by lia),jq (by lia),Tv (by lia),Tv (by lia)]
     exact a _ _ (by lia) (by lia)
    refine By (by lia) (by lia) (d.up (by lia) ?_) (ug _ _)
    rw[wC (by lia) (Tq _),jq (by lia),Tv (by lia)]
    exact R.trans g' (R.trans al (a 0 _ (by lia) (by lia)))
  ·rw[Tw h];obtain rfl:n=1:=by lia
   refine By (Tq _) (by lia) ?_ (.refl _)
   have d1:DU R v p₀ 1:=λi j hij hj=>by
    obtain rfl:i=j:=by lia
    exact R.rfl _
   exact d1.up (Tq _) g'
theorem uf(s:SU R v p k):∀ (f l r:Nat),l<=r->r<=k->r - l<=f->(∀ i,i<l->R.le (V v p i) (V v p k))->(∀ i,r<=i->i<k->R.le (V v p k) (V v p i))->
  aQ (ans R v) (kas_place p k f l r)<=k/\(∀i,i<aQ (ans R v) (kas_place p k f l r)->R.le (V v p i) (V v p k))/\∀i,aQ (ans R v) (kas_place p k f l r)<=i->i<k->R.le (V v p k) (V v p i)
 |0,l,r,h1,h2,h3,a,b=>by
   obtain rfl:l=r:=by lia
   exact⟨h2,a,b⟩
 | f + 1,l,r,h1,h2,h3,a,b=>by
   by_cases c:l ≥ r
   ·have e:aQ (ans R v) (kas_place p k (f+1) l r)=l:=by
     show aQ (ans R v) (if l ≥ r then .ret l else _)=l
     rw[Tv c];rfl
    rw[e];exact⟨by lia,a,λi hi=>b i (by lia)⟩
   ·by_cases d:ans R v (p.getD k 0) (p.getD ((l + r) / 2) 0)=true
    ·have e:aQ (ans R v) (kas_place p k (f+1) l r)=aQ (ans R v) (kas_place p k f l ((l+r) / 2)):=by
      show aQ (ans R v) (if l ≥ r then .ret l else _)=_
      rw[Tw c];show aQ (ans R v) (if ans R v (p.getD k 0) (p.getD ((l+r) / 2) 0)=true then _ else _)=_
      rw[Tv d]
     rw[e];have x:R.le (V v p k) (V v p ((l+r) / 2)):=xr d;exact uf s f l _ (by lia) (by lia) (by lia) a λi hi hk=>R.trans x (s _ _ hi hk)
    ·have e:aQ (ans R v) (kas_place p k (f+1) l r)=aQ (ans R v) (kas_place p k f ((l+r) / 2+1) r):=by
      show aQ (ans R v) (if l ≥ r then .ret l else _)=_
      rw[Tw c];show aQ (ans R v) (if ans R v (p.getD k 0) (p.getD ((l+r) / 2) 0)=true then _ else _)=_
      rw[Tw d]
     rw[e];have x:R.le (V v p ((l+r) / 2)) (V v p k):=uC d;exact uf s f _ r (by lia) (by lia) (by lia) (λi hi=>R.trans (s i _ (by lia) (by lia)) x) b
theorem Er:∀ (f:Nat) (p:Array Nat) (k:Nat),k + f=p₀.size->p.Perm p₀->SU R v p k->SU R v (aQ (ans R v) (kas_bin f p k)) p₀.size/\(aQ (ans R v) (kas_bin f p k)).Perm p₀
 |0,p,k,h,pm,s=>by
   obtain rfl:k=p₀.size:=by lia
   exact⟨s,pm⟩
 | f + 1,p,k,h,pm,s=>by
   obtain⟨a,b,c⟩:=uf s k 0 k (by lia) (Tq _) (by lia) (λi hi=>by lia) (λi h1 h2=>by lia)
   show SU R v (aQ (ans R v) ((kas_place p k k 0 k).bind λl=>kas_bin f (bubble p k (k-l)) (k+1))) _/\(aQ (ans R v) ((kas_place p k k 0 k).bind λl=>kas_bin f (bubble p k (k-l)) (k+1))).Perm p₀
   rw[gD];generalize aQ (ans R v) (kas_place p k k 0 k)=l at a b c;have ks:k<p.size:=by rw[pm.size_eq];lia
   refine Er f _ (k+1) (by lia) ((bubble_perm _ _ _).trans pm) λi j hij hj=>?_
   rw[Jz ks (by lia),Jz ks (by lia)]
   have el:k-(k-l)=l:=by lia
   rw[el];by_cases c1:i=l
   ·rw[Tv c1];by_cases c2:j=l
    ·rw[Tv c2];exact R.rfl _
    ·rw[Tw c2,Tv (by lia)]
     exact c _ (by lia) (by lia)
   ·rw [Tw c1];by_cases c3:l<i/\i<=k
    ·rw[Tv c3,Tw (by lia),Tv (by lia)]
     exact s _ _ (by lia) (by lia)
    ·rw[Tw c3];by_cases c2:j=l
     ·rw[Tv c2];exact b _ (by lia)
     ·rw[Tw c2];by_cases c4:l<j/\j<=k
      ·rw[Tv c4];exact s _ _ (by lia) (by lia)
      ·rw[Tw c4];exact s _ _ (by lia) (by lia)
theorem LK(h2:1<=n):SU R v (aQ (ans R v) (kas_sort n)) n/\(aQ (ans R v) (kas_sort n)).Perm (List.range n).toArray:=by
 have z:(List.range n).toArray.size=n:=by simp
 have c:=Ib (R:=R) (v:=v) (p₀:=(List.range n).toArray) (by lia)
 rw[z]at c;unfold kas_sort;rw[gD];revert c;generalize aQ (ans R v) (kas_count n (List.range n).toArray)=r;obtain⟨m,p⟩:=r;rintro⟨a,b,d⟩;dsimp only at a b d ⊢
 rw[z]at d;by_cases e:m<n
 ·rw [Tv e];have q:=Er (R:=R) (v:=v) (p₀:=(List.range n).toArray) (n-max m 1) p (max m 1) (by rw[z];lia) b (by
   by_cases x:1<=m
   ·rw[Nat.max_eq_left x];exact a
   ·have:max m 1=1:=by lia
    rw[this];intro i j hij hj;obtain rfl:i=j:=by lia
    exact R.rfl _)
  rw[z]at q;exact q
 ·rw[Tw e];obtain rfl:m=n:=by lia
  exact⟨a,b⟩
end
noncomputable def fV{α:Type}(n:Nat)(P:α->Prop):KasT α->Prop
 |.ret a=>P a
 |.ask i j k=>i<n/\j<n/\∀b,fV n P (k b)
theorem fV.bind{α β:Type}{n:Nat}{P:α->Prop}{P':β->Prop}{f:α->KasT β}(hf:∀a,P a->fV n P' (f a)):∀{t:KasT α},fV n P t->fV n P' (t.bind f)
 |.ret a,h=>hf a h
 |.ask _ _ k,h=>⟨h.1,h.2.1,λb=>fV.bind hf (h.2.2 b)⟩
theorem Ck(h:∀i j C,i<n->j<n->C (o i j) s->cmp i j C s):∀(t:KasT α),fV n P t->Q (aQ o t) s->t.kasWp cmp Q s
 |.ret _,_,q=>q
 |.ask i j k,b,q=>h i j _ b.1 b.2.1 (Ck h (k (o i j)) (b.2.2 _) q)
noncomputable def Bd(n:Nat)(p:Array Nat):Prop:=0<n/\∀x∈p.toList,x<n
theorem Bd.at(h:Bd n p)(i:Nat):p.getD i 0<n:=by
 rw[U3];cases e:p[i]? with
 |none=>exact h.1
 |some x=>exact h.2 x (by rw[Xa]at e;obtain⟨h1,rfl⟩:=e;simp)
theorem Bd.perm(h:Bd n p)(pm:q.Perm p):Bd n q:=⟨h.1,λx hx=>h.2 x ((Array.perm_iff_toList_perm.mp pm).mem_iff.mp hx)⟩
theorem Bd.rev(h:Bd n p)(i j:Nat):Bd n (kas_rev p i j):=h.perm (mirror_perm _ _ _ _)
theorem yr(h:Bd n p):∀ (f m:Nat),fV n (λz=>True) (kas_asc p f m)
 |0,_=>trivial
 |f+1,m=>⟨h.at _,h.at _,λb=>by
   cases b
   ·exact yr h f (m+1)
   ·exact trivial⟩
theorem qO:∀ (f:Nat) (p:Array Nat) (m q:Nat),Bd n p->fV n (λr=>Bd n r.1) (kas_desc f p m q)
 |0,p,_,_,h=>h
 | f + 1,p,m,q,h=>⟨h.at _,h.at _,λb=>by
   cases b
   ·exact⟨h.at _,h.at _,λb=>by
     cases b
     ·exact qO f _ _ _ h
     ·exact h⟩
   ·show fV n _ (if q > 0 then _ else _)
    split
    ·exact qO f _ _ _ (h.rev _ _)
    ·exact qO f _ _ _ h⟩
theorem Cg{n m k:Nat}{p:Array Nat}(h:Bd n p):fV n (λr=>Bd n r.2) (kas_tail3 m k p):=by
 unfold kas_tail3;refine fV.bind (P:=λz=>True) (λa z=>?_) (yr (h.rev _ _) _ _)
 show Bd n (kas_rev p 0 m);exact h.rev 0 m
theorem Bx{n m k:Nat}{p:Array Nat}(h:Bd n p):fV n (λr=>Bd n r.2) (kas_descPart m k p):=fV.bind (P:=λr=>Bd n r.1) (λr hr=>by
 split
 ·exact Cg (hr.rev _ _)
 ·exact Cg hr) (qO _ _ _ _ h)
theorem Ia{n k:Nat}{p:Array Nat}(h:Bd n p):fV n (λr=>Bd n r.2) (kas_count k p):=fV.bind (P:=λz=>True) (λm z=>by
 split
 ·exact h
 ·split
  ·exact⟨h.at _,h.at _,λb=>by
    cases b
    ·exact Bx (h.rev _ _)
    ·exact h⟩
  ·exact Bx h) (yr h _ _)
theorem ue(h:Bd n p)(k:Nat):∀ (f l r:Nat),fV n (λz=>True) (kas_place p k f l r)
 |0,_,_=>trivial
 | f + 1,l,r=>by
   unfold kas_place;split
   ·exact trivial
   ·exact⟨h.at _,h.at _,λb=>by
     cases b
     ·exact ue h k f _ _
     ·exact ue h k f _ _⟩
theorem Ep{n:Nat}:∀(f:Nat) (p:Array Nat) (k:Nat),Bd n p->fV n (λz=>True) (kas_bin f p k)
 |0,_,_,_=>trivial
 |f+1,p,k,h=>fV.bind (P:=λz=>True) (λl z=>Ep f _ _ (h.perm (bubble_perm _ _ _))) (ue h _ _ _ _)
theorem Lz{n:Nat}(h:0<n):fV n (λz=>True) (kas_sort n):=by
 have b:Bd n (List.range n).toArray:=⟨h,λx hx=>by simpa using hx⟩
 refine fV.bind (P:=λr=>Bd n r.2) (λr hr=>?_) (Ia b)
 split
 ·exact Ep _ _ _ hr
 ·exact trivial
end LB
namespace LB
open PySem PySem.W PySem.Calls PyProof.Rows
noncomputable def dG:List Int->List Int->Bool
 |[],[]=>false
 |[],_::_=>true
 |_::_,[]=>false
 |a::x,b::y=>if a=b then dG x y else decide (a<b)
theorem Bo:∀x,dG x x=false
 |[]=>rfl
 |a::x=>by simp[dG,Bo x]
theorem Bp:∀ {x y:List Int},dG x y=false->dG y x=false->x=y
 |[],[],_,_=>rfl
 |[],_::_,h,_=>by cases h
 |_::_,[],_,h=>by cases h
 | a::x,b::y,h1,h2=>by
   simp only[dG]at h1 h2;by_cases c:a=b
   ·subst c;rw[Tv rfl]at h1 h2;rw[Bp h1 h2]
   ·rw[Tw c]at h1;rw[Tw (Ne.symm c)]at h2;simp at h1 h2
    lia
theorem tZ:∀ {x y:List Int},dG x y=true->dG y x=false
 |[],[],h=>by cases h
 |[],_::_,_=>rfl
 |_::_,[],h=>by cases h
 | a::x,b::y,h=>by
   simp only[dG]at h ⊢
   by_cases c:a=b
   ·subst c;rw[Tv rfl]at h ⊢
    exact tZ h
   ·rw[Tw c]at h;rw[Tw (Ne.symm c)];simp at h ⊢
    lia
theorem pU:∀ {x y z:List Int},dG y x=false->dG z y=false->dG z x=false
 |[],[],[],_,_=>rfl
 |[],[],_::_,_,_=>rfl
 |[],_::_,[],_,h=>by cases h
 |[],_::_,_::_,_,_=>rfl
 |_::_,[],_,h,_=>by cases h
 |_::_,_::_,[],_,h=>by cases h
 | a::x,b::y,c::z,h1,h2=>by
   simp only[dG]at h1 h2 ⊢
   by_cases e1:b=a
   ·subst e1;rw[Tv rfl]at h1;by_cases e2:c=b
    ·subst e2;rw[Tv rfl]at h2 ⊢
     exact pU h1 h2
    ·rw[Tw e2]at h2 ⊢
     exact h2
   ·rw[Tw e1]at h1;by_cases e2:c=b
    ·subst e2;rw[Tw e1];exact h1
    ·rw[Tw e2]at h2;simp at h1 h2;rw[Tw (by lia)]
     simp
     lia
noncomputable def iz:Ord (List Int) where
 le x y:=dG y x=false
 dec x y:=inferInstance
 rfl:=Bo
 trans:=pU
 tot x y:=by
  cases h:dG y x
  ·exact .inl rfl
  ·exact .inr (tZ h)
noncomputable def tV(x:List Int):List (List Int)->List (List Int)
 |[]=>[x]
 |y::r=>if dG y x=false then x::y::r else y::tV x r
noncomputable def zZ(l:List (List Int)):List (List Int):=l.foldr tV []
theorem pZ(x:List Int):∀ l,(tV x l).Perm (x::l)
 |[]=>.refl _
 |y::r=>by
   unfold tV;split
   ·exact .refl _
   ·exact ((pZ x r).cons y).trans (.swap x y r)
noncomputable abbrev lN(l:List (List Int)):Prop:=l.Pairwise λx y=>dG y x=false
set_option tactic.hygienic true in
theorem wM(x:List Int):∀ {l:List (List Int)},lN l->lN (tV x l)
 |[],_=>by simp[tV,lN]
 | y::r,h=>by
   have h':=U9.mp h;unfold tV;split
   ·rename_i c;exact U9.mpr ⟨λz hz=>by
     rcases TV.mp hz with rfl | hz
     ·exact c
     ·exact pU c (h'.1 z hz),h⟩
   ·rename_i c;refine U9.mpr ⟨λz hz=>?_,wM x h'.2⟩
    rcases TV.mp ((pZ x r).mem_iff.mp hz) with rfl | hz
    ·exact tZ (by simpa using c)
    ·exact h'.1 z hz
theorem jD:∀ l:List (List Int),(zZ l).Perm l/\lN (zZ l)
 |[]=>⟨.refl _,List.Pairwise.nil⟩
 |x::l=>by obtain⟨a,b⟩:=jD l;exact⟨(pZ x _).trans (a.cons x),wM x b⟩
theorem wW:∀ {a b:List (List Int)},a.Perm b->lN a->lN b->a=b
 |[],b,p,_,_=>(List.nil_perm.mp p).symm
 |x::a,[],p,_,_=>absurd p.length_eq (by simp)
 | x::a,y::b,p,ha,hb=>by
   have ha':=U9.mp ha;have hb':=U9.mp hb;have e:x=y:=by
    have m1:y∈x::a:=p.mem_iff.mpr (T6);have m2:x∈y::b:=p.mem_iff.mp (T6);rcases TV.mp m1 with e | m1
    ·exact e.symm
    ·rcases TV.mp m2 with e | m2
     ·exact e
     ·exact Bp (hb'.1 x m2) (ha'.1 y m1)
   subst e;rw[wW (List.Perm.cons_inv p) ha'.2 hb'.2]
section
variable{prog:Program}{w:World}{A:Around}{E:Value->Shared->Prop}{s:Shared}{b fin:Bool}{Q:Bool->Shared->Prop}
theorem zb:∀ {xs ys:List Value}{x y:List Int} (i:Nat),IntsAre xs x->IntsAre ys y->fin=decide (x.length<y.length)->Q (dG x y) s->KatLex prog w A b fin Q (xs.zip ys) i s
 |[],[],_,_,i,.nil,.nil,hf,q=>by have e:fin=false:=hf;subst e;exact kat_nil q
 |[],_::_,_,_,i,.nil,.cons m u r,hf,q=>by
   have e:fin=true:=by rw[hf];simp
   subst e;exact kat_nil q
 |_::_,[],_,_,i,.cons m u r,.nil,hf,q=>by
   have e:fin=false:=by rw[hf];simp
   subst e;exact kat_nil q
 | _::xs,_::ys,_,_,i,.cons m t (ns:=x) r,.cons n u (ns:=y) r',hf,q=>by
   rw[List.zip_cons_cons];refine kat_cons ((intKind prog w).eqBool (a:=m) (b:=n) (X7 _ _ _ _) (X7 _ _ _ _) ?_);by_cases c:m=n
   ·rw[Uk c];have q':Q (dG x y) s:=by rw[dG,Tv c]at q;exact q
    exact kat_yes (zb (i+1) r r' (by rw[hf];simp) q')
   ·rw[Ux c];have q':Q (decide (m<n)) s:=by rw[dG,Tw c]at q;exact q
    refine kat_no ?_;cases (b&&i==0) with
    |true=>exact oneLt_int q'
    |false=>exact kat_one _ _ (PySem.P.lt_int q')
end
noncomputable def TupAt(h:Heap)(v:Value)(t:List Int):Prop:=t≠[]/\∃a its,v=.ref a/\IsTup h a its/\IntsAre its.toList t
noncomputable abbrev gF(h:Heap):List Value->List (List Int)->Prop:=Paired (TupAt h)
theorem oH:∀{xs:List α}{ys:List β}{i:Nat}{x:α}{y:β},Paired R xs ys->xs[i]?=some x->ys[i]?=some y->R x y
 |_,_,0,_,_,.cons r _,e1,e2=>by cases e1;cases e2;exact r
 |_,_,i+1,_,_,.cons _ t,e1,e2=>oH (i:=i) t e1 e2
theorem gF.keep(k:∀a its,IsTup h a its->IsTup h' a its):∀{vs:List Value}{ts:List (List Int)},gF h vs ts->gF h' vs ts
 |_,_,.nil=>.nil
 |_,_,.cons ⟨n,a,its,e,i,q⟩ t=>.cons ⟨n,a,its,e,k _ _ i,q⟩ (gF.keep k t)
section
variable{prog:Program}{w:World}{A:Around}{E:Value->Shared->Prop}{s:Shared}
theorem wK:∀ {vs:List Value}{ts:List (List Int)},gF h vs ts->∃ fs,KatTups h vs fs/\fs.length=vs.length/\∀ v∈fs,∃ i t,v=.int i t
 |_,_,.nil=>⟨[],.nil,rfl,λv hv=>by cases hv⟩
 | _,_,.cons r tl=>by
   obtain⟨fs,k,l,q⟩:=wK tl;obtain⟨ne,a,its,rfl,⟨o,ho,hc,n,hd⟩,hi⟩:=r;obtain⟨l'⟩:=its;cases hi with
   |nil=>exact absurd rfl ne
   |cons i t r2=>
     refine⟨_::fs,KatTups.cons ho hc hd rfl k,by simp[l],λv hv=>?_⟩
     rcases TV.mp hv with rfl | hv
     ·exact⟨i,t,rfl⟩
     ·exact q v hv
theorem Gn(h:gF s.heap vs ts)(h1:0<vs.length)(q:Q (tuples' true) s):wpAny (model prog w) A (keyKind' vs.toArray) Q E s:=by obtain⟨fs,k,l,f⟩:=wK h;exact kat_kind (T:=.type "int") k (by lia) (λv hv=>by obtain⟨i,t,rfl⟩:=f v hv;exact Looks.of_pure rfl) (by decide) q
theorem HW(h:gF s.heap vs ts)(hi:i<vs.length)(hj:j<vs.length)(q:C (dG (ts.getD i []) (ts.getD j [])) s):kas_ask prog w A (tuples' true) vs i j C s:=by
 have hl:=Paired.length h;unfold kas_ask;have e1:vs.getD i Value.none=vs[i]:=by simp[hi]
 have e2:vs.getD j Value.none=vs[j]:=by simp[hj]
 have t1:ts.getD i []=ts[i]'(by lia):=by simp[show i<ts.length by lia]
 have t2:ts.getD j []=ts[j]'(by lia):=by simp[show j<ts.length by lia]
 rw[e1,e2];rw[t1,t2]at q;obtain⟨_,a,its,ea,⟨oa,hoa,_,na,hda⟩,ia⟩:=oH (i:=i) h (Tj hi) (Tj (by lia))
 obtain⟨_,b,jts,eb,⟨ob,hob,_,nb,hdb⟩,ib⟩:=oH (i:=j) h (Tj hj) (Tj (by lia))
 rw[ea,eb];refine kat_lt hoa hda hob hdb (zb 0 ia ib ?_ q);have:=W2 ia;have:=W2 ib;simp at *;congr 1
 lia
end
theorem Mu{ts:List (List Int)}(i j:Nat):ans iz (λi=>ts.getD i []) i j=dG (ts.getD i []) (ts.getD j []):=by
 by_cases h:dG (ts.getD i []) (ts.getD j [])=true
 ·rw[h];have:¬ iz.le (ts.getD j []) (ts.getD i []):=λz=>by have z:dG (ts.getD i []) (ts.getD j [])=false:=z;rw[h]at z;cases z
  unfold ans;rw[@decide_eq_false _ (iz.dec _ _) this];rfl
 ·have h:dG (ts.getD i []) (ts.getD j [])=false:=by simpa using h
  have:iz.le (ts.getD j []) (ts.getD i []):=h;unfold ans;rw[h,@decide_eq_true _ (iz.dec _ _) this];rfl
theorem O9{p:Array Nat}{ts:List (List Int)}{n:Nat}(h:SU iz (λi=>ts.getD i []) p n)(hs:p.size=n):lN (p.toList.map λi=>ts.getD i []):=by
 rw[lN,WT,VB];intro i j h1 h2 hij;have h1':i<p.size:=by simpa using h1
 have h2':j<p.size:=by simpa using h2
 have z:dG (ts.getD (p.getD j 0) []) (ts.getD (p.getD i 0) [])=false:=h i j (V6 hij) (by lia)
 have e1:p.getD i 0=p.toList[i]:=by simp[Array.getD,h1']
 have e2:p.getD j 0=p.toList[j]:=by simp[Array.getD,h2']
 rw[e1,e2]at z;exact z
section
variable{prog:Program}{w:World}{A:Around}{E:Value->Shared->Prop}{s:Shared}
structure Srt(vs:List Value)(ts:List (List Int))(is:List Nat):Prop where
 lt:∀i∈is,i<vs.length
 pm:is.Perm (List.range vs.length)
 ris:lN (is.map λi=>ts.getD i [])
theorem vG(ho:s.heap.get? a=some (seqObj "list" vs.toArray n))
  (hT:gF s.heap vs ts) (h64:vs.length<64)
  (h:∀is,Srt vs ts is->P (.done (.ret .none)) { s with heap:=sortedHeap s.heap a vs (is.map λi=>vs.getD i Value.none).toArray }) :
  wpAny (model prog w) A (Builtin.«list.sort» ⟨[.ref a],[]⟩) P E s:=by
 have hl:=Paired.length hT;rw[list_sort_plain];have ha:a<s.heap.objs.size:=Tt ho;refine Te (listItems_at ho rfl ?_);refine Te (WF ho rfl ?_);obtain⟨e1,ho1⟩:∃e1,(s.heap.update a (Obj.mapSeq λy=>#[])).get? a=some (seqObj "list" #[] e1):=⟨_,Xc ho (λy=>#[])⟩
 refine Te (seqEpoch_at ho1 rfl ?_);refine Te (wpAny_newTuple ?_);refine Te (wpAny_newList ?_);refine Uy ?_;have ho6:(((s.heap.update a (Obj.mapSeq λy=>#[])).push (seqObj "tuple" vs.toArray 0)).push (seqObj "list" #[] 0)).get? a=some (seqObj "list" #[] e1):=by
  rw[Xz _ _ _ (by rw[size_push',XN];exact TF (Vf ha)),Xz _ _ _ (by rw[XN];exact TF ha)]
  exact ho1
 have kp:∀b its,IsTup s.heap b its->IsTup (((s.heap.update a (Obj.mapSeq λy=>#[])).push (seqObj "tuple" vs.toArray 0)).push (seqObj "list" #[] 0)) b its:=λb its hb=>by
  obtain⟨o,hb,hc,r⟩:=hb;have ne:b≠a:=λz=>by subst z;rw[ho]at hb;cases hb;have hc:Value.type "list"=Value.type "tuple":=hc;exact absurd hc (by decide)
  have lt:=Tt hb;refine⟨o,?_,hc,r⟩;rw[Xz _ _ _ (by rw[size_push',XN];exact TF (Vf lt)),Xz _ _ _ (by rw[XN];exact TF lt),Wy _ _ _ _ ne]
  exact hb
 have hT':=hT.keep kp;show wpAny (model prog w) A _ P E { s with heap:=((s.heap.update a (Obj.mapSeq λy=>#[])).push (seqObj "tuple" vs.toArray 0)).push (seqObj "list" #[] 0) }
 dsimp only;have hsz:vs.toArray.size=vs.length:=by simp
 by_cases h2:vs.toArray.size<2
 ·rw[Tv h2,Tv h2];refine Te (Th ?_);rw[StateT.run_pure];refine Te (Th ?_);dsimp only;refine Te (seqEpoch_at ho6 rfl ?_);refine Te (WF ho6 rfl ?_ (hsz2:=by rw[Array.size_map];show (pairsOf vs).size<=_;rw[pairsOf_size,VM];lia))
  simp only[bne_self_eq_false,Bool.false_eq_true,if_false];have fin:=h (List.range vs.length) ⟨λi hi=>Tr.mp hi,.refl _,by
   rw[hsz]at h2
   match vs,h2 with
   |[],_=>exact List.Pairwise.nil
   |[_],_=>exact List.pairwise_singleton _ _
   |_::_::_,z=>simp at z;lia⟩
  have e:((List.range vs.length).map λi=>vs.getD i Value.none).toArray=(arrOf (SortSt.mk' general' (vs.toArray.zip vs.toArray) #[] 7 none)).map (·.2):=by
   show _=(vs.toArray.zip vs.toArray).map (·.2);rw[hsz]at h2
   match vs,h2 with
   |[],_=>simp
   |[_],_=>simp
   |_::_::_,z=>simp at z;lia
  rw[e]at fin;exact Th fin
 ·rw [Tw h2,Tw h2];rw[hsz]at h2;refine Te (Gn hT' (by lia) ?_)
  obtain⟨su,pm⟩:=LK (R:=iz) (v:=λi=>ts.getD i []) (n:=vs.length) (by lia)
  have pl:(aQ (ans iz λi=>ts.getD i []) (kas_sort vs.length)).toList.Perm (List.range vs.length):=by simpa using Array.perm_iff_toList_perm.mp pm
  have fin:=h (aQ (ans iz λi=>ts.getD i []) (kas_sort vs.length)).toList ⟨λi hi=>Tr.mp (pl.mem_iff.mp hi),pl,by exact O9 su (by have:=pl.length_eq;simp only[Array.length_toList,List.length_range]at this;exact this)⟩
  have ask:(kas_sort vs.length).kasWp (kas_ask prog w A (tuples' true) vs) (λp s'=>p=aQ (ans iz λi=>ts.getD i []) (kas_sort vs.length)/\s'={ s with heap:=((s.heap.update a (Obj.mapSeq λy=>#[])).push (seqObj "tuple" vs.toArray 0)).push (seqObj "list" #[] 0) }) { s with heap:=((s.heap.update a (Obj.mapSeq λy=>#[])).push (seqObj "tuple" vs.toArray 0)).push (seqObj "list" #[] 0) }:=
   Ck (o:=ans iz λi=>ts.getD i []) (λi j C hi hj q=>HW hT' hi hj (by
    have e:ans iz (λi=>ts.getD i []) i j=dG (ts.getD i []) (ts.getD j []):=by exact Mu _ _
    rw[e]at q;exact q)) _ (Lz (by lia)) ⟨rfl,rfl⟩
  refine Te (Um (kat_run (Q:=λst' s'=>arrOf st'=(aQ (ans iz λi=>ts.getD i []) (kas_sort vs.length)).map (kas_item (vs.toArray.zip vs.toArray))/\failedOf st'=none/\s'={ s with heap:=((s.heap.update a (Obj.mapSeq λy=>#[])).push (seqObj "tuple" vs.toArray 0)).push (seqObj "list" #[] 0) })
   rfl (by lia) h64 (λp' st' s' a1 a2 a3 a4=>by obtain⟨rfl,rfl⟩:=a4;exact⟨a2,a3,rfl⟩) ask) ?_ λy y e=>e)
  rintro⟨⟨⟩,st'⟩ s' ⟨har,hf,rfl⟩;dsimp only;have hout:=kat_snds (vs:=vs) rfl har;refine Te (seqEpoch_at ho6 rfl ?_);rw[hout];refine Te (WF ho6 rfl ?_ (hsz2:=by rw[TX,Tz,VM];have:=pl.length_eq;simp at this ⊢;lia))
  rw[hf];simp only[bne_self_eq_false,Bool.false_eq_true,if_false];exact Th fin
end
end LB
namespace L2
open PySem PySem.Spec PyProof.Rows LS LB
theorem qJ:∀ {ns:List Int}{us:List Value},Vals (ns.map V.int) us->IntsAre us ns
 |[],_,.nil=>.nil
 |n::ns,_,.cons r t=>by obtain⟨k,rfl⟩:=r;exact .cons _ _ (qJ t)
end L2
namespace LB
open PySem PySem.W PySem.Calls PyProof.Rows
end LB
namespace L2
open PySem PySem.Spec PyProof.Rows LS LB
end L2
namespace LA
open PySem LS
noncomputable def pK(m:Nat)(p:SetTable.Probe):SetTable.Probe:=
 if p.more > 0 then { p with j:=p.j+1,more:=p.more-1 } else
 { p with j:=(SetTable.leap m p.i p.perturb).1,more:=SetTable.runEnd m (SetTable.leap m p.i p.perturb).1-(SetTable.leap m p.i p.perturb).1,i:=(SetTable.leap m p.i p.perturb).1,perturb:=(SetTable.leap m p.i p.perturb).2 }
noncomputable def rs(m i q:Nat):SetTable.Probe:={ j:=i,more:=SetTable.runEnd m i-i,i:=i,perturb:=q,dummy:=none }
noncomputable def st(m:Nat)(h:Int):SetTable.Probe:=rs m (SetTable.bits h%(m+1)) (SetTable.bits h)
noncomputable def pr(m:Nat)(h:Int):Nat->SetTable.Probe
 |0=>st m h
 |n+1=>pK m (pr m h n)
noncomputable def J(m:Nat)(h:Int)(n:Nat):Nat:=(pr m h n).j
theorem zF(m:Nat)(h:Int):∀ n,(pr m h n).dummy=none
 |0=>rfl
 |n+1=>by have ih:=zF m h n;show (pK m (pr m h n)).dummy=none;unfold pK;split<;>exact ih
noncomputable def lp(m:Nat)(h:Int):Nat->Nat×Nat
 |0=>(SetTable.bits h%(m+1),SetTable.bits h)
 |n+1=>SetTable.leap m (lp m h n).1 (lp m h n).2
theorem Pg(m i:Nat):SetTable.runEnd m i-i<=9:=by unfold SetTable.runEnd;split<;>lia
theorem zV(m i:Nat):i<=SetTable.runEnd m i:=by unfold SetTable.runEnd;split<;>lia
theorem zW(h:i<=m):SetTable.runEnd m i<=m:=by unfold SetTable.runEnd;split<;>lia
theorem pW(e:pr m h n=rs m i q):∀ k,k<=SetTable.runEnd m i - i->pr m h (n + k)={ rs m i q with j:=i + k,more:=SetTable.runEnd m i - i - k }
 |0,_=>e
 |k+1,hk=>by
   have ih:=pW e k (by lia)
   show pK m (pr m h (n+k))=_;rw[ih];unfold pK;rw[Tv (by show SetTable.runEnd m i-i-k > 0;lia)]
   show SetTable.Probe.mk _ _ _ _ _=SetTable.Probe.mk _ _ _ _ _;congr 1
theorem Jb(e:pr m h n=rs m i q):pr m h (n+(SetTable.runEnd m i-i)+1)=rs m (SetTable.leap m i q).1 (SetTable.leap m i q).2:=by
 have:=pW e _ (Tq _);show pK m (pr m h (n+(SetTable.runEnd m i-i)))=_;rw[this];unfold pK;rw[Tw (by show ¬ SetTable.runEnd m i-i-(SetTable.runEnd m i-i) > 0;lia)]
 rfl
noncomputable def bg(m:Nat)(h:Int):Nat->Nat
 |0=>0
 |L+1=>bg m h L+(SetTable.runEnd m (lp m h L).1-(lp m h L).1)+1
theorem JD(m:Nat)(h:Int):∀L,pr m h (bg m h L)=rs m (lp m h L).1 (lp m h L).2
 |0=>rfl
 |L+1=>Jb (JD m h L)
theorem JC(m:Nat)(h:Int):∀ L,bg m h L<=10 * L
 |0=>Tq _
 |L+1=>by
   have:=JC m h L;have:=Pg m (lp m h L).1;show bg m h L+(SetTable.runEnd m (lp m h L).1-(lp m h L).1)+1<=_
   lia
theorem xq(m:Nat)(h:Int)(L k:Nat)(hk:k<=SetTable.runEnd m (lp m h L).1-(lp m h L).1):J m h (bg m h L+k)=(lp m h L).1+k:=by unfold J;rw[pW (JD m h L) k hk]
theorem N5(m:Nat)(h:Int):∀ L,(lp m h L).2=SetTable.bits h / 32 ^ L
 |0=>by simp[lp]
 |L+1=>by show (lp m h L).2 / 32=_;rw[N5 m h L,Nat.div_div_eq_div_mul,Nat.pow_succ]
theorem J6(h:Int):SetTable.bits h<2^64:=by
 unfold SetTable.bits;have a:=Int.emod_nonneg h (show (2^64:Int)≠0 by decide)
 have b:=Int.emod_lt_of_pos h (show (0:Int)<2^64 by decide)
 have e:((2^64:Int))=((2^64:Nat):Int):=by norm_cast
 lia
theorem KC(m:Nat)(h:Int)(L:Nat):(lp m h (13+L)).2=0:=by
 rw[N5];refine Nat.div_eq_of_lt (TY (J6 h) ?_);have:(32:Nat)^13<=32^(13+L):=Nat.pow_le_pow_right (by decide) (by lia)
 exact Ue (by decide) this
noncomputable def Fj(m:Nat):Nat->Nat->Nat
 |0,i=>i
 |k+1,i=>(Fj m k i*5+1)%(m+1)
theorem Gv(m:Nat)(h:Int):∀ k,(lp m h (13 + k)).1=Fj m k (lp m h 13).1
 |0=>rfl
 |k+1=>by show ((lp m h (13+k)).1*5+1+(lp m h (13+k)).2 / 32)%(m+1)=_;rw[KC,Gv m h k];rfl
theorem JL(m:Nat)(h:Int):∀L,(lp m h L).1<=m
 |0=>Xv (Vo _ (by lia))
 |L+1=>Xv (Vo _ (by lia))
noncomputable def MK(m:Nat):Prop:=m=7\/m=31
theorem J8:∀{m:Nat},MK m->∀i s,i<=m->s<=m->∃k,k<=m/\Fj m k i=s:=by
 intro m hm i s hi hs;have c7:∀i:Fin 8,∀s:Fin 8,((List.range 8).any λk=>Fj 7 k i==s)=true:=by decide
 have c31:∀i:Fin 32,∀s:Fin 32,((List.range 32).any λk=>Fj 31 k i==s)=true:=by decide +kernel
 rcases hm with rfl | rfl
 ·have:=c7 ⟨i,by lia⟩ ⟨s,by lia⟩
  obtain⟨k,hk,e⟩:=VL.mp this;exact⟨k,by have:=Tr.mp hk;lia,by simpa using e⟩
 ·have:=c31 ⟨i,by lia⟩ ⟨s,by lia⟩
  obtain⟨k,hk,e⟩:=VL.mp this;exact⟨k,by have:=Tr.mp hk;lia,by simpa using e⟩
theorem Gu(hm:MK m)(h:Int)(hs:s<=m):∃L,L<m+15/\(lp m h L).1=s:=by obtain⟨k,hk,e⟩:=J8 hm _ s (JL m h 13) hs;exact⟨13+k,by lia,by rw[Gv];exact e⟩
theorem visit(hm:MK m)(h:Int)(hs:s<=m):∃n,n<10*(m+15)/\J m h n=s:=by
 obtain⟨L,hL,e⟩:=Gu hm h hs;refine⟨bg m h L,by have:=JC m h L;lia,?_⟩
 have:=xq m h L 0 (Vl _);rw[Nat.add_zero,Nat.add_zero]at this;rw[this,e]
theorem yM{P:Nat->Prop}:∀ {n:Nat},P n->∃ k,k<=n/\P k/\∀ m,m<k->¬ P m:=by
 intro n;induction n using Nat.strongRecOn with
 | ind n ih=>
   intro h;by_cases c:∃m,m<n/\P m
   ·obtain⟨m,hm,hp⟩:=c;obtain⟨k,h1,h2,h3⟩:=ih m hm hp;exact⟨k,by lia,h2,h3⟩
   ·exact⟨n,Tq _,h,λm hm hp=>c ⟨m,hm,hp⟩⟩
theorem G4:∀ (m:Nat) (l:List Nat),l.length<=m->∃ s,s<=m/\s∉l:=by
 intro m;induction m with
 |zero=>intro l hl;exact⟨0,Tq _,by have:l=[]:=Xu.mp (by lia);rw[this];simp⟩
 | succ m ih=>
   intro l hl;by_cases c:m+1∈l
   ·obtain⟨s,h1,h2⟩:=ih (l.erase (m+1)) (by rw[List.length_erase_of_mem c];lia)
    exact⟨s,by lia,λz=>h2 ((List.mem_erase_of_ne (by lia)).mpr z)⟩
   ·exact⟨m+1,Tq _,c⟩
theorem Ip{m:Nat}(hm:MK m)(h:Int){l:List Nat}(hl:l.length<=m):∃n,n<10*(m+15)/\J m h n∉l/\∀k,k<n->J m h k∈l:=by
 obtain⟨s,hs,ns⟩:=G4 m l hl;obtain⟨n,hn,e⟩:=visit hm h hs;obtain⟨k,h1,h2,h3⟩:=yM (P:=λn=>J m h n∉l) (n:=n) (by rw[e];exact ns)
 exact⟨k,by lia,h2,λi hi=>Classical.byContradiction λz=>h3 i hi z⟩
set_option tactic.hygienic true in
theorem Mq:∀ n,J m h n<=m:=by
 have key:∀ n,(pr m h n).i<=m/\(pr m h n).j + (pr m h n).more<=m:=by
  intro n;induction n with
  |zero=>
    have a:SetTable.bits h%(m+1)<=m:=Xv (Vo _ (by lia))
    have b:=zW a;have c:=zV m (SetTable.bits h%(m+1));exact⟨a,by show SetTable.bits h%(m+1)+(SetTable.runEnd m _-_)<=m;lia⟩
  | succ n ih=>
    show (pK m (pr m h n)).i<=m/\(pK m (pr m h n)).j+(pK m (pr m h n)).more<=m;unfold pK;split
    ·rename_i c;exact⟨ih.1,by show (pr m h n).j+1+((pr m h n).more-1)<=m;lia⟩
    ·have a:(SetTable.leap m (pr m h n).i (pr m h n).perturb).1<=m:=Xv (Vo _ (by lia))
     have b:=zW a;have c:=zV m (SetTable.leap m (pr m h n).i (pr m h n).perturb).1;exact⟨a,by show (SetTable.leap m (pr m h n).i (pr m h n).perturb).1+(SetTable.runEnd m _-_)<=m;lia⟩
 intro n;have:=(key n).2;unfold J
 lia
end LA
namespace LA
open PySem LS PyProof.Rows
theorem Hr(ti:TI L t)(h:j∈t.place.toList):∃i,t.slot j=.live i/\t.place[i]?=some j:=by
 obtain⟨k,hk,rfl⟩:=U4.mp h;have hk':k<t.place.size:=by simpa using hk
 have b:=below_at ti.ris hk';refine⟨k,?_,?_⟩
 ·unfold SetTable.slot;simp only[Array.getElem_toList];rw[b];simp[Array.getElem?_eq_getElem hk']
 ·simp[Array.getElem?_eq_getElem hk']
theorem zY(ti:TI L t)(h:j∉t.place.toList):t.slot j=.empty:=by
 unfold SetTable.slot;have n:¬ (t.place[SetTable.below t.place j]?==some j)=true:=λz=>by
  have z:t.place[SetTable.below t.place j]?=some j:=by simpa using z
  exact h (by have:=Array.mem_of_getElem? z;simpa using this)
 simp only[n];have:SetTable.has t.dummies j=false:=by rw[ti.dum];unfold SetTable.has;simp
 simp[this]
section
variable{L:Bool}{t:SetTable}{ha:Nat->Int}{h:Int}
theorem vC(ti:TI L t):∀ (k fuel n:Nat),k<=fuel->(∀ m,n<=m->m<n + k->∃ i,t.slot (J t.mask h m)=.live i/\ha i≠h)->SetTable.probe.go t ha h fuel (pr t.mask h n)=SetTable.probe.go t ha h (fuel - k) (pr t.mask h (n + k))
 |0,fuel,n,_,_=>rfl
 |k+1,0,n,hf,_=>by lia
 | k + 1,fuel + 1,n,hf,hs=>by
   obtain⟨i,h1,h2⟩:=hs n (Tq _) (by lia)
   have h1:t.slot (pr t.mask h n).j=.live i:=h1;have h3:(ha i==h)=false:=by simpa using h2
   have e:SetTable.probe.go t ha h (fuel+1) (pr t.mask h n)=SetTable.probe.go t ha h fuel (pr t.mask h (n+1)):=by
    show (match t.slot (pr t.mask h n).j with
     |.empty=>some (SetTable.Met.empty (pr t.mask h n).j (pr t.mask h n).dummy)
     |.dummy=>SetTable.probe.go t ha h fuel (t.advance { pr t.mask h n with dummy:=some (pr t.mask h n).j })
     |.live i=>if ha i==h then some (.candidate (pr t.mask h n).j i (t.advance (pr t.mask h n))) else SetTable.probe.go t ha h fuel (t.advance (pr t.mask h n)))=_
    rw[h1];dsimp only;rw[h3];rfl
   rw[e,vC ti k fuel (n+1) (by lia) λm h1 h2=>hs m (by lia) (by lia)]
   congr 1
   ·lia
   ·congr 1;lia
theorem Iv(ti:TI L t)(hf:k<fuel)(hs:∀ m,n<=m->m<n + k->∃ i,t.slot (J t.mask h m)=.live i/\ha i≠h)(he:J t.mask h (n + k)∉t.place.toList):SetTable.probe.go t ha h fuel (pr t.mask h n)=some (.empty (J t.mask h (n + k)) none):=by
 rw[vC ti k fuel n (by lia) hs]
 obtain⟨f,e⟩:∃f,fuel-k=f+1:=⟨fuel-k-1,by lia⟩
 rw[e];have h1:t.slot (pr t.mask h (n+k)).j=.empty:=zY ti he
 show (match t.slot (pr t.mask h (n + k)).j with
       |.empty=>some (SetTable.Met.empty (pr t.mask h (n+k)).j (pr t.mask h (n+k)).dummy)
       |.dummy=>_
       |.live i=>_)=_
 rw[h1];dsimp only;rw[zF];rfl
theorem Kq(ti:TI L t)(hf:k<fuel)(hs:∀ m,n<=m->m<n + k->∃ i,t.slot (J t.mask h m)=.live i/\ha i≠h)(he:t.slot (J t.mask h (n + k))=.live i)(hh:ha i=h):SetTable.probe.go t ha h fuel (pr t.mask h n)=some (.candidate (J t.mask h (n + k)) i (pr t.mask h (n + k + 1))):=by
 rw[vC ti k fuel n (by lia) hs]
 obtain⟨f,e⟩:∃f,fuel-k=f+1:=⟨fuel-k-1,by lia⟩
 rw[e];have h1:t.slot (pr t.mask h (n+k)).j=.live i:=he
 show (match t.slot (pr t.mask h (n + k)).j with
       |.empty=>_
       |.dummy=>_
       |.live i=>if ha i==h then some (SetTable.Met.candidate (pr t.mask h (n+k)).j i (t.advance (pr t.mask h (n+k)))) else _)=_
 rw[h1];dsimp only;rw[Tv (by simpa using hh)]
 rfl
end
noncomputable abbrev iK(prog:Program)(w:World):=intKind prog w
noncomputable def hT(prog:Program)(w:World)(k:List Int):Int:=tupleKeyHash (iK prog w) k
noncomputable def ent(prog:Program)(w:World)(c:Addr×List Int):Int×Value:=(hT prog w c.2,.ref c.1)
structure TT(prog:Program)(w:World)(L:Bool)(t:SetTable)(cs:List (Addr×List Int)):Prop where
 ti:TI L t
 msk:MK t.mask
 len:t.place.size=cs.length
 bd:∀s∈t.place.toList,s<=t.mask
 fl:cs.length<=t.mask
 rc:∀z∈t.place.toList.zip cs,∃n,J t.mask (hT prog w z.2.2) n=z.1/\∀m,m<n->J t.mask (hT prog w z.2.2) m∈t.place.toList
 plain:t.plain=true
noncomputable abbrev nU(prog:Program)(w:World)(h:Heap)(cs:List (Addr×List Int)):Prop:=∀c∈cs,IsTupleKey (iK prog w) h c.2 c.1
section
variable{prog:Program}{w:World}{A:Around}{E:Value->Shared->Prop}{s:Shared}{L:Bool}{t:SetTable}{cs:List (Addr×List Int)}{a:Addr}{ep:Nat}
theorem sV(ho:s.heap.get? b=some o)(hd:o.data=.seq items n)(q:Q (some items) s):wpAny (model prog w) A (seqItems? (.ref b)) Q E s:=by unfold seqItems?;refine Te (wpAny_load ho ?_);rw[hd];exact Th q
theorem items_int(h:ItemsAre (iK prog w) ks vs):∀ v∈vs,∃ i u,v=.int i u:=by
 induction h with
 |nil=>intro v hv;cases hv
 | cons h1 _ ih=>
   intro v hv;rcases TV.mp hv with rfl | hv
   ·obtain⟨u,e⟩:=yV h1;exact⟨_,u,e⟩
   ·exact ih v hv
theorem zy(hk:IsTupleKey (iK prog w) s.heap k b)(q:Q false s):wpAny (model prog w) A (ofAClassStatement 8 (.ref b)) Q E s:=by
 have hT:=hk.typeIs;obtain⟨o,items,n,ho,_,hd,hi⟩:=hk;have ii:=items_int hi;unfold ofAClassStatement;refine Te (Wn hT ?_);dsimp only;refine Te (Th ?_);simp only[Bool.not_true,Bool.false_eq_true,if_false];refine Te (sV ho hd ?_);dsimp only;refine Te ?_;rw[<-Array.forIn_toList];refine wpAny_forIn_list _ (λrest r s'=>r=(none,())/\s'=s/\∀v∈rest,∃i u,v=.int i u) _ ?_ ?_ _ _ ⟨rfl,rfl,ii⟩
 ·rintro x rest r s' ⟨rfl,rfl,hall⟩;obtain⟨i,u,rfl⟩:=hall x T6;refine Te (Th ?_);exact Th ⟨rfl,rfl,λv hv=>hall v (Ui _ hv)⟩
 ·rintro r s' ⟨rfl,rfl,_⟩;exact Th q
theorem Do(hk:IsTupleKey (iK prog w) s.heap k b)(q:Q true s):wpAny (model prog w) A (hashByValue 8 (.ref b)) Q E s:=by
 have hT:=hk.typeIs;obtain⟨o,items,n,ho,_,hd,hi⟩:=hk;have ii:=items_int hi;unfold hashByValue;refine Te (wpAny_specialOf hT F.slot_tuple_hash.lookup ?_);dsimp only;refine Te (sV ho hd ?_);refine Te ?_;show wpAny _ _ (forIn items _ _) _ _ _;rw[<-Array.forIn_toList];refine wpAny_forIn_list _ (λrest r s'=>r=(none,())/\s'=s/\∀v∈rest,∃i u,v=.int i u) _ ?_ ?_ _ _ ⟨rfl,rfl,ii⟩
 ·rintro x rest r s' ⟨rfl,rfl,hall⟩;obtain⟨i,u,rfl⟩:=hall x T6;refine Te (Th ?_);exact Th ⟨rfl,rfl,λv hv=>hall v (Ui _ hv)⟩
 ·rintro r s' ⟨rfl,rfl,_⟩;exact Th q
theorem Jc(hk:IsTupleKey (iK prog w) s.heap k b)(hl:∀ v∈l,∃ b' k',v=.ref b'/\IsTupleKey (iK prog w) s.heap k' b')(q:Q false s):wpAny (model prog w) A (searchCouldBeSeen (.ref b) l) Q E s:=by
 unfold searchCouldBeSeen;refine Te ?_;refine wpAny_forIn_list _ (λrest r s'=>r=(none,())/\s'=s/\∀v∈rest,∃b' k',v=.ref b'/\IsTupleKey (iK prog w) s.heap k' b') _ ?_ ?_ _ _ ⟨rfl,rfl,hl⟩
 ·rintro x rest r s' ⟨rfl,rfl,hall⟩;obtain⟨b',k',rfl,hk'⟩:=hall x T6;have nx:∀v∈rest,∃b' k',v=.ref b'/\IsTupleKey (iK prog w) s'.heap k' b':=λv hv=>hall v (Ui _ hv)
  dsimp only;split
  ·exact Th ⟨rfl,rfl,nx⟩
  ·refine Te (wpAny_eqIsQuiet_tuple hk ?_);simp only[Bool.not_true,Bool.false_eq_true,if_false];refine Te (wpAny_eqIsQuiet_tuple hk' ?_);simp only[Bool.not_true,Bool.false_eq_true,if_false];refine Te (zy hk ?_);simp only[Bool.false_eq_true,if_false];refine Te (zy hk' ?_);simp only[Bool.false_eq_true,if_false];exact Th ⟨rfl,rfl,nx⟩
 ·rintro r s' ⟨rfl,rfl,_⟩;exact Th q
end
noncomputable abbrev bN(prog:Program)(w:World)(cs:List (Addr×List Int)):Array (Int×Value):=(cs.map (ent prog w)).toArray
section
variable{prog:Program}{w:World}{A:Around}{E:Value->Shared->Prop}{s:Shared}{L:Bool}{t:SetTable}{cs:List (Addr×List Int)}{a:Addr}{ep:Nat}
theorem TT.fits(T:TT prog w L t cs):t.fits (bN prog w cs).size=true:=by unfold SetTable.fits SetTable.fill;have h1:=T.len;have h2:=T.fl;have h3:=T.ti.dum;simp[h3,h1,h2]
theorem TT.led(T:TT prog w L t cs):t.gaveWay=false:=by unfold SetTable.gaveWay;rcases T.msk with e | e<;>rw[e]<;>rfl
theorem TT.at(T:TT prog w L t cs){i j:Nat}(h:t.place[i]?=some j):∃c,cs[i]?=some c/\(j,c)∈t.place.toList.zip cs:=by
 have hi:i<t.place.size:=(Xa.mp h).1;have hc:i<cs.length:=by rw[<-T.len];exact hi
 refine⟨cs[i],Tj hc,?_⟩;have e:t.place[i]=j:=by obtain⟨_,e⟩:=Xa.mp h;exact e
 have hz:i<(t.place.toList.zip cs).length:=by simp;lia
 have:(t.place.toList.zip cs)[i]=(j,cs[i]):=by simp[e]
 rw[<-this];exact UV hz
theorem TT.slot(T:TT prog w L t cs){j:Nat}(h:j∈t.place.toList):∃i c,t.slot j=.live i/\cs[i]?=some c/\(j,c)∈t.place.toList.zip cs:=by obtain⟨i,h1,h2⟩:=Hr T.ti h;obtain⟨c,h3,h4⟩:=T.at h2;exact⟨i,c,h1,h3,h4⟩
theorem TT.of_mem(T:TT prog w L t cs)(h:c∈cs):∃j,(j,c)∈t.place.toList.zip cs:=by
 obtain⟨i,hi,rfl⟩:=U4.mp h;have hp:i<t.place.size:=by rw[T.len];exact hi
 obtain⟨c',h1,h2⟩:=T.at (i:=i) (j:=t.place[i]) (U0 hp);rw[Tj hi]at h1;cases h1;exact⟨_,h2⟩
theorem TT.inj(T:TT prog w L t cs)(h1:(j,c)∈t.place.toList.zip cs)(h2:(j,c')∈t.place.toList.zip cs):c=c':=by
 obtain⟨i,hi,e⟩:=U4.mp h1;obtain⟨i',hi',e'⟩:=U4.mp h2;simp only[List.getElem_zip,Prod.mk.injEq]at e e';have l1:i<t.place.toList.length:=by simp at hi;simp;lia
 have l2:i'<t.place.toList.length:=by simp at hi';simp;lia
 have:i=i':=by
  have r:t.place.toList.Pairwise (·< ·):=T.ti.ris;rcases Xx i i' with c | c | c
  ·have:=VB.mp r i i' l1 l2 c;lia
  ·exact c
  ·have:=VB.mp r i' i l2 l1 c;lia
 subst this;exact e.2.symm.trans e'.2
theorem qU{i:Nat}(h:cs[i]?=some c):(bN prog w cs)[i]?=some (ent prog w c):=by simp[h]
theorem QH{i:Nat}(h:cs[i]?=some c):((bN prog w cs)[i]?.map (·.1)).getD 0=hT prog w c.2:=by rw[qU h];rfl
variable{b:Addr}{k:List Int}
set_option tactic.hygienic true in
theorem sS(hu:A.units<cLine)(ho:s.heap.get? a=some (aJ (bN prog w cs) ep t))(T:TT prog w L t cs)(H:nU prog w s.heap cs)(hk:IsTupleKey (iK prog w) s.heap k b){N:Nat}(hN:N<10 * (t.mask + 15))(hN1:J t.mask (hT prog w k) N∉t.place.toList)(hN2:∀ m,m<N->J t.mask (hT prog w k) m∈t.place.toList)
  {Q:SetFound->Shared->Prop} (q1:k∈cs.map (·.2)->Q (.there none) s) (q2:k∉cs.map (·.2)->Q (.free (J t.mask (hT prog w k) N) false) s) :
  ∀(fuel n:Nat) (sd:Option SetTable.Probe),sd.getD (t.probeStart (hT prog w k))=pr t.mask (hT prog w k) n->n≤N->N-n<fuel->(∀m,m<n->∀c,(J t.mask (hT prog w k) m,c)∈t.place.toList.zip cs->c.2≠k)->
    wpAny (model prog w) A (setSearchFrom a (.ref b) (hT prog w k) true fuel sd) Q E s
 |0,n,sd,_,_,hf,_=>by lia
 | fuel + 1,n,sd,hs,hn,hf,hne=>by
   unfold setSearchFrom;refine Te (Vg ho rfl T.fits ?_);dsimp only;rw[T.led];simp only[Bool.false_eq_true,if_false];rw[hs]
   -- the next place that is empty or has the same hash
   obtain⟨m,hm1,hm2,hm3⟩:=yM (P:=λd=>n+d=N\/∃i,t.slot (J t.mask (hT prog w k) (n+d))=.live i/\(((bN prog w cs)[i]?.map (·.1)).getD 0)=hT prog w k) (n:=N-n) (.inl (by lia))
   have nmN:n+m<=N:=by clear hm2 hm3;lia
   have skip:∀d,n<=d->d<n+m->∃i,t.slot (J t.mask (hT prog w k) d)=.live i/\(((bN prog w cs)[i]?.map (·.1)).getD 0)≠hT prog w k:=λd h1 h2=>by
    have nn:=hm3 (d-n) (by clear hm2 hm3;lia)
    rw[show n+(d-n)=d by lia]at nn
    obtain⟨i,c,e1,_,_⟩:=T.slot (hN2 d (TY h2 nmN));exact⟨i,e1,λz=>nn (.inr ⟨i,e1,z⟩)⟩
   have nomatch':∀d,d<n+m->∀c,(J t.mask (hT prog w k) d,c)∈t.place.toList.zip cs->c.2≠k:=λd h1 c hc=>by
    by_cases z:d<n
    ·exact hne d z c hc
    ·obtain⟨i,e1,e2⟩:=skip d (Nat.le_of_not_lt z) h1;obtain⟨i',c',e1',e3,e4⟩:=T.slot (hN2 d (TY h1 nmN));rw[e1]at e1';cases e1';have:=T.inj hc e4;subst this;rw[QH e3]at e2;exact λz=>e2 (by rw[z])
   rcases hm2 with hm2 | ⟨i,hi,hh⟩
   ·have pg:t.probe (λi=>((bN prog w cs)[i]?.map (·.1)).getD 0) (hT prog w k) (pr t.mask (hT prog w k) n)=some (.empty (J t.mask (hT prog w k) (n + m)) none):=Iv T.ti (by show m<10 * (t.mask + 15);lia) skip (by rw [hm2];exact hN1)
    rw[hm2]at pg;generalize hpg:SetTable.probe t _ (hT prog w k) (pr t.mask (hT prog w k) n)=X;obtain rfl:X=some (.empty (J t.mask (hT prog w k) N) none):=hpg.symm.trans pg;refine Th (q2 λz=>?_)
    obtain⟨c,hc,e⟩:=Us.mp z;obtain⟨j,hj⟩:=T.of_mem hc;obtain⟨n0,e0,h0⟩:=T.rc _ hj;dsimp only at e0 h0;rw[e]at e0 h0;have lt:n0<N:=by
     rcases Nat.lt_or_ge n0 N with x | x
     ·exact x
     ·exfalso
      rcases Nat.lt_or_eq_of_le x with y | y
      ·exact hN1 (h0 N y)
      ·subst y;have:j∈t.place.toList:=(Wo hj).1;rw[<-e0]at this;exact hN1 this
    exact nomatch' n0 (by rw[hm2];exact lt) c (by rw[e0];exact hj) e
   ·have hi':=hi;have iN:n+m<N:=by
     rcases Nat.lt_or_eq_of_le nmN with x | x
     ·exact x
     ·rw[x,zY T.ti hN1]at hi;cases hi
    obtain⟨i',c,e1,e3,e4⟩:=T.slot (hN2 (n+m) iN);rw[hi]at e1;cases e1;have pg:t.probe (λi=>((bN prog w cs)[i]?.map (·.1)).getD 0) (hT prog w k) (pr t.mask (hT prog w k) n)=some (.candidate (J t.mask (hT prog w k) (n+m)) i (pr t.mask (hT prog w k) (n+m+1))):=Kq T.ti (by show m<10*(t.mask+15);clear hm3;lia) skip hi hh
    generalize hpg:SetTable.probe t _ (hT prog w k) (pr t.mask (hT prog w k) n)=X;obtain rfl:X=some (.candidate (J t.mask (hT prog w k) (n+m)) i (pr t.mask (hT prog w k) (n+m+1))):=hpg.symm.trans pg;dsimp only;have hc:IsTupleKey (iK prog w) s.heap c.2 c.1:=H c (Wo e4).2;have hl:∀v∈((bN prog w cs).filter (λx=>x.1==hT prog w k)).toList.map (·.2),∃b' k',v=.ref b'/\IsTupleKey (iK prog w) s.heap k' b':=λv hv=>by
     obtain⟨e,he,rfl⟩:=Us.mp hv;have he:e∈(bN prog w cs).toList:=by have:=Array.mem_toList_iff.mp he;exact Array.mem_toList_iff.mpr (Array.mem_filter.mp this).1
     have he:e∈cs.map (ent prog w):=he;obtain⟨c,hc,rfl⟩:=Us.mp he;exact⟨c.1,c.2,rfl,H c hc⟩
    have sm:t.sameMemory t.moves t.mask=some true:=by simp[SetTable.sameMemory]
    have rec':=sS hu ho T H hk hN hN1 hN2 q1 q2 fuel (n+m+1) (some (pr t.mask (hT prog w k) (n+m+1))) rfl (by lia) (by clear hm3;lia)
    have mem:c.2=k->k∈cs.map (·.2):=λz=>Us.mpr ⟨c,(Wo e4).2,z⟩
    split
    ·refine Te (Jc hk hl ?_);simp only[Bool.false_eq_true,if_false];rw[qU e3];dsimp only[ent];refine Te (Uy (wpAny_eqBool_tuple hu hc hk ?_));refine Te (Vg ho rfl T.fits ?_);dsimp only;by_cases ek:c.2=k
     ·rw[Uk ek];exact Th (q1 (mem ek))
     ·rw[Ux ek];simp only[Bool.and_false,Bool.false_eq_true,if_false];rw[sm];dsimp only;rw[Tv rfl,hi];dsimp only;rw[qU e3];dsimp only[ent];refine Te (wpAny_isSame_ref_self ?_);refine Te (Th ?_);refine rec' λd hd c' hc'=>?_
      by_cases z:d=n+m
      ·subst z;have:=T.inj hc' e4;rw[this];exact ek
      ·exact nomatch' d (by lia) c' hc'
    ·rw [qU e3];dsimp only[ent];refine Te (Uy (wpAny_eqBool_tuple hu hc hk ?_));refine Te (Vg ho rfl T.fits ?_);dsimp only;by_cases ek:c.2=k
     ·rw[Uk ek];exact Th (q1 (mem ek))
     ·rw[Ux ek];simp only[Bool.and_false,Bool.false_eq_true,if_false];rw[sm];dsimp only;rw[Tv rfl,hi];dsimp only;rw[qU e3];dsimp only[ent];refine Te (wpAny_isSame_ref_self ?_);refine Te (Th ?_);refine rec' λd hd c' hc'=>?_
      by_cases z:d=n+m
      ·subst z;have:=T.inj hc' e4;rw[this];exact ek
      ·exact nomatch' d (by lia) c' hc'
theorem DN(hu:A.units<cLine)(ho:s.heap.get? a=some (aJ (bN prog w cs) ep t))(T:TT prog w L t cs)(H:nU prog w s.heap cs)(hk:IsTupleKey (iK prog w) s.heap k b)(q1:k∈cs.map (·.2)->Q (.there none) s)(q2:k∉cs.map (·.2)->∀n,J t.mask (hT prog w k) n∉t.place.toList->(∀m,m<n->J t.mask (hT prog w k) m∈t.place.toList)->Q (.free (J t.mask (hT prog w k) n) false) s):
  wpAny (model prog w) A (setSearch a (.ref b) (hT prog w k) true) Q E s:=by
 obtain⟨N,h1,h2,h3⟩:=Ip T.msk (hT prog w k) (l:=t.place.toList) (by rw[Vb,T.len];exact T.fl)
 unfold setSearch;refine sS hu ho T H hk h1 h2 h3 q1 (λz=>q2 z N h2 h3) 100000 0 none rfl (Vl _) ?_ (λm h=>by lia)
 rcases T.msk with e | e<;>rw[e]at h1<;>lia
end
noncomputable def NF(t:SetTable)(cs:List (Addr×List Int)):Prop:=cs.length*5<t.mask*3
noncomputable def lO(cs:List (Addr×List Int))(p:Nat)(c:Addr×List Int):List (Addr×List Int):=cs.take p++c::cs.drop p
theorem pY(cs:List (Addr×List Int))(p:Nat)(c:Addr×List Int):(lO cs p c).Perm (cs++[c]):=by unfold lO;refine List.perm_middle.trans ?_;rw[W0];exact (List.perm_append_singleton c cs).symm
section
variable{prog:Program}{w:World}{L:Bool}{t:SetTable}{cs:List (Addr×List Int)}{b:Addr}{k:List Int}
theorem Nf(p:Nat):SetTable.insertAt (bN prog w cs) p (hT prog w k,.ref b)=bN prog w (lO cs p (b,k)):=by apply Array.toList_inj.mp;rw[Xg];simp[lO,ent,List.map_take,List.map_drop]
theorem Oq(ti:TI L t)(hj:j∉t.place.toList):t.put j=({ t with place:=SetTable.insertAt t.place (SetTable.below t.place j) j },SetTable.below t.place j):=by
 unfold SetTable.put;have:SetTable.has t.dummies j=false:=by rw[ti.dum];unfold SetTable.has;simp
 rw[this];rfl
theorem TT.put(T:TT prog w L t cs)(nf:NF t cs)(h1:J t.mask (hT prog w k) n∉t.place.toList)(h2:∀ m,m<n->J t.mask (hT prog w k) m∈t.place.toList):
  TT prog w L { t with place:=SetTable.insertAt t.place (SetTable.below t.place (J t.mask (hT prog w k) n)) (J t.mask (hT prog w k) n) } (lO cs (SetTable.below t.place (J t.mask (hT prog w k) n)) (b,k)):=by
 have bel:=(iJ T.ti.ris (J t.mask (hT prog w k) n)).le;have ris:=uN T.ti.ris h1;have jl:J t.mask (hT prog w k) n<=t.mask:=Mq n;generalize hj:J t.mask (hT prog w k) n=j at h1 bel ris jl;generalize SetTable.below t.place j=p at bel ris;have tl:(SetTable.insertAt t.place p j).toList=t.place.toList.take p++j::t.place.toList.drop p:=Xg _ _ _;have sub:∀x∈t.place.toList,x∈(SetTable.insertAt t.place p j).toList:=λx hx=>by
  rw[tl,T4,TV];rw[<-W0 p t.place.toList,T4]at hx;rcases hx with h | h
  ·exact .inl h
  ·exact .inr (.inr h)
 have len:=T.len;have fl:=T.fl;refine⟨⟨ris,T.ti.dum,T.ti.led⟩,T.msk,?_,?_,?_,?_,T.plain⟩
 ·show (SetTable.insertAt t.place p j).size=_;rw[<-Vb,tl,(pY cs p (b,k)).length_eq];simp
  lia
 ·intro x hx;have hx:x∈t.place.toList.take p++j::t.place.toList.drop p:=tl ▸ hx;rcases T4.mp hx with h | h
  ·exact T.bd x (Wb h)
  ·rcases TV.mp h with rfl | h
   ·exact jl
   ·exact T.bd x (VR h)
 ·rw[(pY cs p (b,k)).length_eq];unfold NF at nf;have:=T.msk;unfold MK at this;simp;show cs.length+1<=t.mask
  lia
 ·intro z hz;have ez:(SetTable.insertAt t.place p j).toList.zip (lO cs p (b,k))=(t.place.toList.zip cs).take p++(j,(b,k))::(t.place.toList.zip cs).drop p:=by
   rw[tl];unfold lO;have t1:(t.place.toList.take p).zip (cs.take p)=(t.place.toList.zip cs).take p:=by unfold List.zip;rw[List.take_zipWith]
   have t2:(t.place.toList.drop p).zip (cs.drop p)=(t.place.toList.zip cs).drop p:=by unfold List.zip;rw[List.drop_zipWith]
   rw[List.zip_append (by simp;lia),List.zip_cons_cons,t1,t2]
  have hz:z∈(t.place.toList.zip cs).take p++(j,(b,k))::(t.place.toList.zip cs).drop p:=ez ▸ hz;have old:z∈t.place.toList.zip cs->∃n,J t.mask (hT prog w z.2.2) n=z.1/\∀m,m<n->J t.mask (hT prog w z.2.2) m∈(SetTable.insertAt t.place p j).toList:=λh=>by obtain⟨n,e1,e2⟩:=T.rc z h;exact⟨n,e1,λm hm=>sub _ (e2 m hm)⟩
  rcases T4.mp hz with h | h
  ·exact old (Wb h)
  ·rcases TV.mp h with rfl | h
   ·exact⟨n,hj,λm hm=>sub _ (h2 m hm)⟩
   ·exact old (VR h)
end
structure Ow(m:Nat)(hs:List Int)(sl:List Nat)(ow:Array (Option Nat)):Prop where
 sz:ow.size=m+1
 len:sl.length=hs.length
 nd:sl.Nodup
 le:∀s∈sl,s<=m
 own:∀(k:Nat) (hk:k<sl.length),ow[sl[k]]?=some (some k)
 non:∀j,j<=m->j∉sl->ow[j]?=some none
 rc:∀(k:Nat) (hk:k<sl.length) (h:Int),hs[k]?=some h->∃n,J m h n=sl[k]/\∀i,i<n->J m h i∈sl
theorem Ow.isNone(o:Ow m hs sl ow)(hj:j<=m):(ow.getD j (some 0)).isNone=decide (j∉sl):=by
 by_cases c:j∈sl
 ·obtain⟨k,hk,rfl⟩:=U4.mp c;rw[U3,o.own k hk];simp
 ·rw[U3,o.non j hj c];simp[c]
theorem Ba(o:Ow m hs sl ow)(h:Int)(hL0:(lp m h L0).1∉sl):∀ (fuel L:Nat),L<=L0->L0<L + fuel->(∀ i,i<bg m h L->J m h i∈sl)->
  ∃n,SetTable.layClean.free m ow fuel (lp m h L).1 (lp m h L).2=some (J m h n)/\J m h n∉sl/\∀i,i<n->J m h i∈sl
 |0,L,h1,h2,_=>by lia
 | fuel + 1,L,h1,h2,hb=>by
   have il:=JL m h L;have rg:=zV m (lp m h L).1;have ri:=zW il;unfold SetTable.layClean.free;cases hf:(List.range (SetTable.runEnd m (lp m h L).1+1-(lp m h L).1)).find? (λk=>(ow.getD ((lp m h L).1+k) (some 0)).isNone) with
   | some k=>
     dsimp only;obtain⟨p1,as,bs,e1,e2⟩:=List.find?_eq_some_iff_append.mp hf;have hk:k<SetTable.runEnd m (lp m h L).1+1-(lp m h L).1:=Tr.mp (by rw[e1];simp)
     have hJ:=xq m h L k (by lia)
     have la:as.length=k/\∀i,i<k->i∈as:=by
      have hk2:(List.range (SetTable.runEnd m (lp m h L).1+1-(lp m h L).1))[as.length]?=some k:=by rw[e1];simp
      have al:as.length<SetTable.runEnd m (lp m h L).1+1-(lp m h L).1:=by
       have:=congrArg List.length e1;simp at this
       lia
      rw[Vz al]at hk2;have ek:as.length=k:=by simpa using hk2
      refine⟨ek,λi hi=>?_⟩
      have:(List.range (SetTable.runEnd m (lp m h L).1+1-(lp m h L).1))[i]?=as[i]?:=by rw[e1,T5 (by lia)]
      rw[Vz (by lia)]at this
      exact T9 this.symm
     refine⟨bg m h L+k,by rw[hJ],?_,λi hi=>?_⟩
     ·rw[hJ];rw[o.isNone (by lia)]at p1
      simpa using p1
     ·by_cases c:i<bg m h L
      ·exact hb i c
      ·have:=e2 (i-bg m h L) (la.2 _ (by lia))
       rw[o.isNone (by lia)]at this
       have hJ2:=xq m h L (i-bg m h L) (by lia)
       rw[show bg m h L+(i-bg m h L)=i by lia]at hJ2
       rw[hJ2];simpa using this
   | none=>
     dsimp only;have all:∀k,k<=SetTable.runEnd m (lp m h L).1-(lp m h L).1->(lp m h L).1+k∈sl:=λk hk=>by
      have:=List.find?_eq_none.mp hf k (Tr.mpr (by lia))
      rw[o.isNone (by lia)]at this
      simpa using this
     have ne:L≠L0:=λz=>by subst z;have:=all 0 (Vl _);exact hL0 this
     have ih:=Ba o h hL0 fuel (L+1) (by lia) (by lia) λi hi=>by
      by_cases c:i<bg m h L
      ·exact hb i c
      ·have hi:i<bg m h L+(SetTable.runEnd m (lp m h L).1-(lp m h L).1)+1:=hi;have hJ2:=xq m h L (i-bg m h L) (by lia)
       rw[show bg m h L+(i-bg m h L)=i by lia]at hJ2
       rw[hJ2];exact all _ (by lia)
     exact ih
theorem Ow.zero(m:Nat):Ow m [] [] (Array.replicate (m+1) none):=⟨by simp,rfl,List.nodup_nil,λs h=>(by cases h),λk h=>(by cases h),λj hj z=>by rw[Array.getElem?_replicate,Tv (by lia)],λk h=>(by cases h)⟩
theorem Ow.add(o:Ow m hs sl ow)(h1:J m h n∉sl)(h2:∀ i,i<n->J m h i∈sl):Ow m (hs++[h]) (sl++[J m h n]) (ow.setIfInBounds (J m h n) (some hs.length)):=by
 have jl:J m h n<=m:=Mq n;have jb:J m h n<ow.size:=by rw[o.sz];lia
 have len:=o.len;refine⟨by simp[o.sz],by simp[o.len],?_,λs hs'=>?_,λk hk=>?_,λj hj nj=>?_,λk hk h' eh=>?_⟩
 ·rw[WR];exact⟨o.nd,by simp,λa ha b hb=>by simp at hb;subst hb;exact λz=>h1 (z ▸ ha)⟩
 ·rcases T4.mp hs' with z | z
  ·exact o.le s z
  ·simp at z;lia
 ·by_cases c:k<sl.length
  ·have e:(sl++[J m h n])[k]=sl[k]:=List.getElem_append_left c;have ne:J m h n≠sl[k]:=λz=>h1 (z ▸ UV c)
   rw[e,Array.getElem?_setIfInBounds_ne ne];exact o.own k c
  ·have ek:k=sl.length:=by simp at hk;lia
   subst ek;have e:(sl++[J m h n])[sl.length]=J m h n:=by simp
   rw[e,Array.getElem?_setIfInBounds_self_of_lt jb,o.len]
 ·rw[T4,not_or]at nj;rw[Array.getElem?_setIfInBounds_ne (λz=>nj.2 (by simp[z]))]
  exact o.non j hj nj.1
 ·by_cases c:k<sl.length
  ·have e:(sl++[J m h n])[k]=sl[k]:=List.getElem_append_left c;rw[e];rw[T5 (by lia)]at eh
   obtain⟨n',e1,e2⟩:=o.rc k c h' eh;exact⟨n',e1,λi hi=>Vv _ (e2 i hi)⟩
  ·have ek:k=sl.length:=by simp at hk;lia
   subst ek;have e:(sl++[J m h n])[sl.length]=J m h n:=by simp
   rw[e];rw[o.len,List.getElem?_concat_length]at eh;cases eh;exact⟨n,rfl,λi hi=>Vv _ (h2 i hi)⟩
noncomputable def m8(m:Nat)(acc:Option (Array (Option Nat)×Nat))(h:Int):Option (Array (Option Nat)×Nat):=acc.bind λp=>(SetTable.layClean.free m p.1 (SetTable.turns m) (SetTable.bits h%(m+1)) (SetTable.bits h)).bind λj=>some (p.1.setIfInBounds j (some p.2),p.2+1)
theorem yX(hm:MK m):∀ (rest hs:List Int) (sl:List Nat) (ow:Array (Option Nat)),Ow m hs sl ow->hs.length + rest.length<=m->∃ sl' ow',rest.foldl (m8 m) (some (ow,hs.length))=some (ow',(hs++rest).length)/\Ow m (hs++rest) sl' ow'
 |[],hs,sl,ow,o,_=>⟨sl,ow,by simp,by simpa using o⟩
 | h::rest,hs,sl,ow,o,hl=>by
   obtain⟨s,h1,h2⟩:=G4 m sl (by rw[o.len];simp at hl;lia)
   obtain⟨L0,h3,h4⟩:=Gu hm h h1;obtain⟨n,e,n1,n2⟩:=Ba o h (L0:=L0) (by rw[h4];exact h2) (SetTable.turns m) 0 (Vl _) (by unfold SetTable.turns;lia) (λi hi=>by cases hi)
   have e:SetTable.layClean.free m ow (SetTable.turns m) (SetTable.bits h%(m+1)) (SetTable.bits h)=some (J m h n):=e;have o':=o.add n1 n2;obtain⟨sl',ow',e2,o2⟩:=yX hm rest (hs++[h]) _ _ o' (by simp at hl ⊢;lia)
   refine⟨sl',ow',?_,by simpa using o2⟩
   rw[V2];have es:m8 m (some (ow,hs.length)) h=some (ow.setIfInBounds (J m h n) (some hs.length),(hs++[h]).length):=by unfold m8;rw[Option.bind_some,e,Option.bind_some];simp
   rw[es,e2];simp
theorem NB(hm:MK m)(hl:hs.length<=m):∃sl ow,SetTable.layClean m hs.toArray=some ow/\Ow m hs sl ow:=by
 obtain⟨sl,ow,e,o⟩:=yX hm hs [] [] _ (Ow.zero m) (by simpa using hl)
 refine⟨sl,ow,?_,by simpa using o⟩
 have key:∀(l:List Int) (x:Option (Array (Option Nat)×Nat)),List.foldl (λacc h=>do
  let (owner,k) <-acc
  let j <-SetTable.layClean.free m owner (SetTable.turns m) (SetTable.bits h%(m+1)) (SetTable.bits h)
  pure (owner.setIfInBounds j (some k),k+1)) x l=l.foldl (m8 m) x:=by
  intro l;induction l with
  |nil=>intro x;rfl
  |cons a l ih=>intro x;exact ih _
 unfold SetTable.layClean;rw[List.foldl_toArray];have:=key hs (some (Array.replicate (m+1) none,0));have e:hs.foldl (m8 m) (some (Array.replicate (m+1) none,0))=some (ow,hs.length):=by simpa using e
 exact (congrArg (Option.map (·.1)) (this.trans e))
noncomputable def bH(m:Nat)(ow:Array (Option Nat)):List (Nat×Nat):=(List.range (m+1)).filterMap λj=>(ow.getD j none).map (j,·)
theorem IW(m:Nat)(ow:Array (Option Nat)):(bH m ow).Pairwise λa b=>a.1<b.1:=by
 unfold bH;refine List.Pairwise.filterMap (R:=λ(a b:Nat)=>a<b) _ (λa b hab x hx y hy=>?_) Wk
 obtain⟨_,_,rfl⟩:=Tp.mp hx;obtain⟨_,_,rfl⟩:=Tp.mp hy;exact hab
theorem fK(o:Ow m hs sl ow):(j,k)∈bH m ow ↔ sl[k]?=some j:=by
 unfold bH;rw[List.mem_filterMap];constructor
 ·rintro⟨j',hj',e⟩;obtain⟨k',e1,e2⟩:=Tp.mp e;cases e2;have hj':=Tr.mp hj';by_cases c:j∈sl
  ·obtain⟨i,hi,rfl⟩:=U4.mp c;have:=o.own i hi;rw[U3,this]at e1;have:i=k:=by simpa using e1
   subst this;exact Tj hi
  ·have:=o.non j (by lia) c
   rw[U3,this]at e1;cases e1
 ·intro e;obtain⟨hk,rfl⟩:=Ti.mp e;refine⟨sl[k],Tr.mpr (by have:=o.le _ (UV hk);lia),?_⟩
  rw[U3,o.own k hk];rfl
theorem Gr(o:Ow m hs sl ow):((bH m ow).map (·.2)).Perm (List.range hs.length):=by
 have nd:((bH m ow).map (·.2)).Nodup:=by
  rw[List.Nodup,WT];refine List.Pairwise.imp_of_mem ?_ (IW m ow);rintro⟨j,k⟩ ⟨j',k'⟩ h1 h2 lt e;dsimp only at lt e;subst e;have a:=(fK o).mp h1;have b:=(fK o).mp h2;rw[a]at b;cases b
  lia
 refine (List.perm_ext_iff_of_nodup nd List.nodup_range).mpr λk=>?_
 rw[Tr,<-o.len,Us];constructor
 ·rintro⟨⟨j,k'⟩,h,rfl⟩;exact (Ti.mp ((fK o).mp h)).1
 ·intro hk;exact⟨(sl[k],k),(fK o).mpr (Tj hk),rfl⟩
section
variable{prog:Program}{w:World}{A:Around}{E:Value->Shared->Prop}{s:Shared}{L:Bool}{t:SetTable}{cs:List (Addr×List Int)}{a b:Addr}{k:List Int}
noncomputable def jY(cs:List (Addr×List Int))(m:Nat)(ow:Array (Option Nat)):List (Addr×List Int):=(bH m ow).map λz=>cs.getD z.2 (0,[])
theorem Hj(o:Ow m hs sl ow)(hl:hs.length=cs.length):(jY cs m ow).Perm cs:=by
 have:=(Gr o).map λi=>cs.getD i (0,[])
 unfold jY;rw[UT]at this;refine this.trans ?_;rw[hl];have e:(List.range cs.length).map (λi=>cs.getD i (0,[]))=cs:=by
  apply XQ
  ·simp
  ·intro i h1 h2;simp at h1 ⊢
   rw[Tj h1];rfl
 rw[e]
theorem Bj(o:Ow m hs sl ow)(h:z∈bH m ow):z.2<hs.length:=by
 have:=(Ti.mp ((fK o).mp (show (z.1,z.2)∈bH m ow from h))).1
 rw[o.len]at this;exact this
theorem Hk(hm:MK m)(T:TT prog w L t cs)(hl:cs.length * 5<m * 3):∃ ow,SetTable.laid m t.finger (t.movedTo m) t.led t.plain ((bN prog w cs).map (·.1))=some ({ mask:=m,place:=((bH m ow).map (·.1)).toArray,dummies:=#[],finger:=t.finger,led:=t.led,moves:=t.movedTo m,plain:=t.plain },((bH m ow).map (·.2)).toArray) /\
  TT prog w L { mask:=m,place:=((bH m ow).map (·.1)).toArray,dummies:=#[],finger:=t.finger,led:=t.led,moves:=t.movedTo m,plain:=t.plain } (jY cs m ow)/\(jY cs m ow).Perm cs/\((bH m ow).map (·.2)).toArray.filterMap ((bN prog w cs)[·]?)=bN prog w (jY cs m ow):=by
 have eh:(bN prog w cs).map (·.1)=(cs.map λc=>hT prog w c.2).toArray:=by simp[ent,Function.comp_def]
 obtain⟨sl,ow,e,o⟩:=NB hm (hs:=cs.map λc=>hT prog w c.2) (by simp;lia)
 have la:SetTable.laid m t.finger (t.movedTo m) t.led t.plain ((bN prog w cs).map (·.1))=some ({ mask:=m,place:=((bH m ow).map (·.1)).toArray,dummies:=#[],finger:=t.finger,led:=t.led,moves:=t.movedTo m,plain:=t.plain },((bH m ow).map (·.2)).toArray):=by rw[eh];unfold SetTable.laid;rw[e];rfl
 have hlen:(cs.map λc=>hT prog w c.2).length=cs.length:=by simp
 have pm:=Hj (cs:=cs) o hlen;refine⟨ow,la,⟨?_,hm,?_,?_,?_,?_,T.plain⟩,pm,?_⟩
 ·have:=Bg la;rw[T.ti.led]at this;refine⟨this.ris,rfl,T.ti.led⟩
 ·simp[jY]
 ·intro s hs;obtain⟨z,hz,rfl⟩:=Us.mp (show s∈(bH m ow).map (·.1) by simpa using hs)
  have:=(fK o).mp (show (z.1,z.2)∈bH m ow from hz)
  exact o.le _ (T9 this)
 ·rw[pm.length_eq];show cs.length<=m
  lia
 ·intro z hz;have ez:(((bH m ow).map (·.1)).toArray.toList).zip (jY cs m ow)=(bH m ow).map λz=>(z.1,cs.getD z.2 (0,[])):=by unfold jY;rw[List.zip_map']
  have hz:z∈(bH m ow).map λz=>(z.1,cs.getD z.2 (0,[])):=ez ▸ hz
  obtain⟨y,hy,rfl⟩:=Us.mp hz;have hy':=(fK o).mp (show (y.1,y.2)∈bH m ow from hy)
  have yl:=Bj o hy;rw[hlen]at yl;obtain⟨hk,ek⟩:=Ti.mp hy';obtain⟨n,e1,e2⟩:=o.rc y.2 hk (hT prog w (cs[y.2]).2) (by rw[T8,Tj yl];rfl)
  have eg:cs.getD y.2 (0,[])=cs[y.2]:=by simp[yl]
  refine⟨n,?_,λi hi=>?_⟩
  ·show J m (hT prog w (cs.getD y.2 (0,[])).2) n=y.1;rw[eg,e1,ek]
  ·show J m (hT prog w (cs.getD y.2 (0,[])).2) i∈_;rw[eg];obtain⟨q,hq,eq⟩:=U4.mp (e2 i hi);have:(sl[q],q)∈bH m ow:=(fK o).mpr (Tj hq);show J m (hT prog w (cs[y.2]).2) i∈((bH m ow).map (·.1)).toArray.toList;rw[<-eq];exact Us.mpr ⟨_,this,rfl⟩
 ·apply Array.toList_inj.mp;rw[Array.toList_filterMap];show List.filterMap _ ((bH m ow).map (·.2))=(jY cs m ow).map (ent prog w);unfold jY;rw[List.filterMap_map,UT];have:∀ l:List (Nat×Nat),(∀ z∈l,z.2<cs.length)->List.filterMap ((λx=>(bN prog w cs)[x]?) ∘ λz:Nat×Nat=>z.2) l=l.map (ent prog w ∘ λz=>cs.getD z.2 (0,[])):=by
   intro l;induction l with
   |nil=>intro _;rfl
   | cons z l ih=>
     intro h;have hz:=h z T6;rw[Uu,V3];have e:((λx=>(bN prog w cs)[x]?) ∘ λz:Nat×Nat=>z.2) z=some (ent prog w (cs.getD z.2 (0,[]))):=by show (bN prog w cs)[z.2]?=_;rw[qU (Tj hz)];simp[hz]
     rw[e,ih λy hy=>h y (Ui _ hy)]
     rfl
  exact this _ λz hz=>by have:=Bj o hz;rw[hlen]at this;exact this
noncomputable def SetT(prog:Program)(w:World)(L:Bool)(h:Heap)(a:Addr)(cs:List (Addr×List Int)):Prop:=∃cs' ep t,cs'.Perm cs/\h.get? a=some (aJ (bN prog w cs') ep t)/\TT prog w L t cs'/\NF t cs'
theorem Ay(h:cs.length<=18):(bN prog w cs).size<=sizeLine:=by rw[VM];simp;lia
theorem J2(hu:A.units<cLine)(hS:SetT prog w L s.heap a cs)(H:nU prog w s.heap cs)(hk:IsTupleKey (iK prog w) s.heap k b)(room:cs.length + 1<=18)
  (h:∀h' r,Heap.SameBut a s.heap h'->SetT prog w L h' a (if k∈cs.map (·.2) then cs else cs++[(b,k)])->Q r { s with heap:=h' }):wpAny (model prog w) A (setAddHashed a (.ref b) (hT prog w k)) Q E s:=by
 obtain⟨cs',ep,t,pm,ho,T,nf⟩:=hS;have H':nU prog w s.heap cs':=λc hc=>H c (pm.mem_iff.mp hc)
 have pl:=pm.length_eq;unfold setAddHashed;refine Uy ?_;unfold setAddHashedIn;refine Te (Vg ho rfl T.fits ?_);dsimp only;have bs:byScan (.ref b) (bN prog w cs')=false:=rfl;rw[bs];simp only[Bool.false_eq_true,if_false];refine Te (DN hu ho T H' hk (λm=>?_) λm n n1 n2=>?_)
 ·have m':k∈cs.map (·.2):=(pm.map _).mem_iff.mp m;have q:=h s.heap false (Heap.SameBut.refl a s.heap) (by rw[Tv m'];exact⟨cs',ep,t,pm,ho,T,nf⟩)
  have e:s={ s with heap:=s.heap }:=by cases s;rfl
  rw[e];exact Th q
 ·have m':k∉cs.map (·.2):=λz=>m ((pm.map _).mem_iff.mpr z)
  rw[Tw m']at h;dsimp only;refine Te (Vg ho rfl T.fits ?_);dsimp only;rw[Oq T.ti n1];dsimp only;rw[Tv (show t.plain=true from T.plain)]
  refine Te (Do hk ?_);simp only[if_true];have T1:=TT.put (b:=b) T nf n1 n2;rw[Nf];have pm1:(lO cs' (SetTable.below t.place (J t.mask (hT prog w k) n)) (b,k)).Perm (cs++[(b,k)]):=(pY _ _ _).trans (pm.append_right _);have l1:(lO cs' (SetTable.below t.place (J t.mask (hT prog w k) n)) (b,k)).length=cs.length+1:=by rw[pm1.length_eq];simp
  generalize hc1:lO cs' (SetTable.below t.place (J t.mask (hT prog w k) n)) (b,k)=cs1 at T1 pm1 l1;generalize ht1:({ t with place:=SetTable.insertAt t.place (SetTable.below t.place (J t.mask (hT prog w k) n)) (J t.mask (hT prog w k) n) }:SetTable)=t1 at T1
  have e1:t1.mask=t.mask:=by rw[<-ht1]
  refine Te (Xy ho rfl ?_ (Ay (by lia)))
  have o1:=rG (es1:=bN prog w cs1) (t1:=t1) ho;have b1:=Vp s.heap a (Obj.putSet (bN prog w cs1) t1);have fill:t1.fill=cs1.length:=by unfold SetTable.fill;rw[T1.ti.dum,T1.len];rfl
  have nf0:cs'.length*5<t.mask*3:=nf;by_cases full:t1.tooFull=true
  ·rw[full];simp only[Bool.not_false,Bool.and_true,if_true];have full':t1.mask*3<=cs1.length*5:=by unfold SetTable.tooFull at full;rw[fill]at full;simpa using full
   have m7:t.mask=7/\cs.length=4:=by
    have:=T.msk;unfold MK at this;rw[e1]at full'
    lia
   unfold setRelay;refine Te (Te (Vg o1 rfl T1.fits ?_));have sz:(bN prog w cs').size=4:=by simp;lia
   rw[sz];have gr:SetTable.sizeAbove (SetTable.grown (4+1))=32:=by decide
   dsimp only;rw[gr,Tw (by rw[VM];decide)]
   obtain⟨ow,la,T2,pm2,ef⟩:=Hk (m:=31) (.inr rfl) T1 (by lia)
   have rl:t1.relaid ((bN prog w cs1).map (·.1)) (SetTable.grown (4+1))=some ({ mask:=31,place:=((bH 31 ow).map (·.1)).toArray,dummies:=#[],finger:=t1.finger,led:=t1.led,moves:=t1.movedTo 31,plain:=t1.plain },((bH 31 ow).map (·.2)).toArray):=by unfold SetTable.relaid;rw[gr];exact la
   rw[rl];refine Te ?_;show wpAny (model prog w) A (if ((((bH 31 ow).map (·.2)).toArray.filterMap ((bN prog w cs1)[·]?)).size != (bN prog w cs1).size)=true then (unsupported _>>=_) else pure (_,_)) _ _ _
   have sz2:((((bH 31 ow).map (·.2)).toArray.filterMap ((bN prog w cs1)[·]?)).size != (bN prog w cs1).size)=false:=by rw[ef];have:=pm2.length_eq;simp[this]
   rw[sz2,Tw (by decide)]
   refine Th ?_;dsimp only;rw[ef];refine Xy o1 rfl ?_ (Ay (by rw[pm2.length_eq];lia))
   have o2:=rG (es1:=bN prog w (jY cs1 31 ow)) (t1:={ mask:=31,place:=((bH 31 ow).map (·.1)).toArray,dummies:=#[],finger:=t1.finger,led:=t1.led,moves:=t1.movedTo 31,plain:=t1.plain }) o1;refine Th (h _ true (b1.trans (Vp _ a _)) ⟨_,_,_,pm2.trans pm1,o2,T2,?_⟩);unfold NF;rw[pm2.length_eq];show cs1.length*5<31*3
   lia
  ·have nfull:(!false&&t1.tooFull)=true ↔ False:=by simp[full]
   rw[Tw (by rw[nfull];exact id)]
   refine Te (Th ?_);refine Th (h _ true b1 ⟨cs1,_,t1,pm1,o1,T1,?_⟩);unfold NF;unfold SetTable.tooFull at full;rw[fill]at full;simpa using full
end
end LA
namespace L2
open PySem PySem.Spec PyProof.Rows LS LA LB
theorem wX(h:SetT P w L h1 a cs)(k:∀o,h1.get? a=some o->h2.get? a=some o):SetT P w L h2 a cs:=by obtain⟨cs',ep,t,p,e,r⟩:=h;exact⟨cs',ep,t,p,k _ e,r⟩
theorem Kw(ok:HOk P w H h)(hb:H b=some (.tup (k.map V.int))):IsTupleKey (iK P w) h k b:=by
 obtain⟨_,its,hv,o,ho,hc,n,hd⟩:=ok _ _ hb;refine⟨o,its.toArray,n,ho,hc,hd,?_⟩;have:∀ {ks:List Int}{us:List Value},Vals (ks.map V.int) us->ItemsAre (iK P w) ks us:=by
  intro ks;induction ks with
  |nil=>intro us h;cases h;exact .nil
  | cons k ks ih=>
    intro us h;cases h with
    |cons r t=>obtain⟨u,rfl⟩:=r;exact .cons (X7 _ _ _ _) (ih t)
 simpa using this hv
end L2
namespace LA
open PySem PySem.Spec PyProof.Rows LS LB
section
variable{prog:Program}{w:World}{A:Around}{E:Value->Shared->Prop}{s:Shared}
theorem yu(hh:A.handled=none)(ho:s.heap.get? a=some (aJ es ep t))(hf:t.fits es.size=true)(ti:TI (!bx w) t)(hb:es.size<scanBound)(h:∀ h' tk d' vs,vs.Perm (es.toList.map (·.2))->s.heap.objs.size<=h'.objs.size->(∀ b o,s.heap.get? b=some o->h'.get? b=some o)->Q vs { s with heap:=h',toks:=tk,drawn:=d' }):wpAny (model prog w) A (collect (.ref a)) Q E s:=by
 unfold collect;refine Te (W7 (Vh X3 ?_));rw[U8 XX _];refine Te (m:=newList []) (Ug (Th ⟨Wt Wu _,Vh F.entry_list_iadd ?_⟩));rw[U8 Wu _];have ha:a<s.heap.objs.size:=Tt ho;have ne:s.heap.objs.size≠a:=λz=>by rw[z]at ha;exact Vs _ ha
 have sr:Builtin.List.listSameRef (.ref s.heap.objs.size) (.ref a)=false:=by simp[Builtin.List.listSameRef,ne]
 have lst0:(s.heap.push (seqObj "list" #[] 0)).get? s.heap.objs.size=some (seqObj "list" #[] 0):=Tu _ rfl;have ho1:(s.heap.push (seqObj "list" #[] 0)).get? a=some (aJ es ep t):=Tf _ ho;show wpAny _ A.in1 (Builtin.List.listExtendWith (.ref s.heap.objs.size) (.ref a) (.ref s.heap.objs.size)) _ _ { s with heap:=s.heap.push (seqObj "list" #[] 0) }
 unfold Builtin.List.listExtendWith;refine Te (Wn (T := "set") ⟨_,ho1,rfl⟩ ?_);rw[Tw (by rw[sr];decide)]
 refine Te (yW (s:={ s with heap:=s.heap.push (seqObj "list" #[] 0) }) ho1 hf ti hb λh1 d1 I tp ord hI k1 hI1 htp c po=>?_)
 have ho2:=k1 a _ ho1;have lst1:=k1 _ _ lst0;have szI:s.heap.objs.size+1<=I:=by have:(s.heap.push (seqObj "list" #[] 0)).objs.size<=I:=hI;rw[Uc]at this;exact this
 refine Te (Uy (yS ho2 ?_));dsimp only;refine Te (m:=rule _) (VN ?_);unfold Builtin.List.listTouch;refine Te (Te (WF lst1 rfl ?_ (by simp) (by simp)))
 have lst2:=Xc lst1 (λx:Array Value=>x.push .none)
 refine WF lst2 rfl ?_ (by simp[sizeLine_eq]) (by simp)
 have lst3:=Xc lst2 (λx:Array Value=>x.pop)
 have up:∀b o,b≠s.heap.objs.size->h1.get? b=some o->((h1.update s.heap.objs.size (Obj.mapSeq λx=>x.push .none)).update s.heap.objs.size (Obj.mapSeq λx=>x.pop)).get? b=some o:=λb o hb e=>by rw[Wy _ _ _ _ hb,Wy _ _ _ _ hb];exact e
 have neI:I≠s.heap.objs.size:=xx szI;have netp:tp≠s.heap.objs.size:=by
  rcases htp with z | ⟨z,_⟩
  ·rw[z];exact λq=>ne q.symm
  ·have:s.heap.objs.size+1<=tp:=by have:(s.heap.push (seqObj "list" #[] 0)).objs.size<=tp:=z;rw[Uc]at this;exact this
   exact xx this
 have hne:a≠I:=TF (W3 ha szI);have hh1:A.in1.in1.handled=none:=by simp[hh]
 have W:=(w6 (prog:=prog) (w:=w) (A:=A.in1) (I:=I) (a:=a) (tp:=tp) (es:=es) (ep:=ep) (t:=t) (ord:=ord) (by simp[hh]) hf ti hne).toS
 have ol:ord.length=es.size:=by rw[po.length_eq];simp
 refine Th ⟨Wt F.plain_extend_loop _,codeAny_extend_loopS W (by rw[ol];exact WX hb) s.heap.objs.size (by simp;exact⟨λz=>neI z.symm,ne,λz=>netp z.symm⟩) _ ord.length 0 _ #[] _ rfl (Vl _) ⟨up a _ (λq=>ne q.symm) ho2,c.at (λo e=>up I o neI e) λo e=>up tp o netp e⟩ lst3 (ItemsOf.nil _) λs' acc c' hm hS' hacc=>?_⟩
 refine Te (m:=load s.heap.objs.size) (wpAny_load hS' ?_);have ea:acc.toList=ord:=by
  apply WW;intro k;by_cases hk:k<acc.size
  ·have:=hacc.2 k acc[k] (by rw[U0 hk])
   rw[this,Ws,U0 hk]
  ·rw[Uz (by simp;lia),Uz (by have:=hacc.1;lia)]
 obtain⟨h2,g2,d2,tk2,os2⟩:=s';have eg:g2=s.gens:=hm.gens;have ed:d2=d1:=hm.drawn;have eo:os2=s.os:=hm.os;subst eg ed eo;refine Th (h h2 tk2 d2 acc.toList (by rw[ea];exact po) (V6 (Tt hS')) λb o e=>?_)
 have lt:b<s.heap.objs.size:=Tt e;refine hm.heap b o (by simp;exact⟨TF lt,TF (W3 lt szI)⟩) (up b o (TF lt) (k1 b o (Tf _ e)))
theorem Ai:∀ {l:List α}{m:List β},m.Perm (l.map f)->∃ l':List α,l'.Perm l/\m=l'.map f:=by
 intro l m p;generalize e:l.map f=x at p;induction p generalizing l with
 |nil=>exact⟨[],by cases l<;>simp_all,rfl⟩
 | cons x p ih=>
   cases l with
   |nil=>cases e
   |cons a l=>simp only[List.map_cons,List.cons.injEq]at e;obtain⟨l',p',rfl⟩:=ih e.2;exact⟨a::l',p'.cons a,by rw[Uu,e.1]⟩
 | swap x y l0=>
   cases l with
   |nil=>cases e
   | cons a l=>
     cases l with
     |nil=>simp at e
     |cons b l=>simp only[List.map_cons,List.cons.injEq]at e;exact⟨b::a::l,.swap a b l,by simp[e]⟩
 |trans p1 p2 ih1 ih2=>obtain⟨l',q1,e1⟩:=ih2 e;obtain⟨l'',q2,e2⟩:=ih1 e1.symm;exact⟨l'',q2.trans q1,e2⟩
theorem Am(hh:A.handled=none)(g:SetT prog w (!bx w) s.heap a cs)(hT:∀ c∈cs,c.2≠[]/\∃ its,IsTup s.heap c.1 its/\IntsAre its.toList c.2)(hl:cs.length<=60)
  (h:∀h' tk d' p n (cs':List (Addr×List Int)),cs'.Perm cs->lN (cs'.map (·.2))->s.heap.objs.size<=p->h'.get? p=some (seqObj "list" (cs'.map λc=>Value.ref c.1).toArray n)->(∀b o,s.heap.get? b=some o->h'.get? b=some o)->Q (.ref p) { s with heap:=h',toks:=tk,drawn:=d' }) :
  wpAny (model prog w) A (call (.builtin "sorted") [.ref a]) Q E s:=by
 obtain⟨c0,ep,t,pm,ho,T,nf⟩:=g;refine Xd kind_sorted plain_sorted entry_sorted (args_sorted1 _) ?_;unfold Builtin.«sorted»
 refine Te (m:=checkCount "sorted" 1 1 _) (Th ?_);have l0:=pm.length_eq;refine Te (yu (by simp[hh]) ho T.fits T.ti (by simp[scanBound];lia) λh1 tk1 d1 vs hp sz k1=>?_)
 have e1:(bN prog w c0).toList.map (·.2)=c0.map λc=>Value.ref c.1:=by simp[ent,Function.comp_def]
 rw[e1]at hp;obtain⟨c1,p1,rfl⟩:=Ai hp;have l1:=p1.length_eq;have zl:(c1.map λc=>Value.ref c.1).toArray.size<=sizeLine:=by rw[TX,Tz,VM];lia
 refine Te (wpAny_newList ?_ zl);have oL:(h1.push (seqObj "list" (c1.map λc=>Value.ref c.1).toArray 0)).get? h1.objs.size=some (seqObj "list" (c1.map λc=>Value.ref c.1).toArray 0):=Tu _ rfl
 have tups:∀ (l:List (Addr×List Int)),(∀ c∈l,c∈cs)->gF (h1.push (seqObj "list" (c1.map λc=>Value.ref c.1).toArray 0)) (l.map λc=>Value.ref c.1) (l.map (·.2)):=by
  intro l;induction l with
  |nil=>intro _;exact .nil
  |cons c l ih=>intro hc;obtain⟨ne,its,it,ia⟩:=hT c (hc c T6);exact .cons ⟨ne,c.1,its,rfl,it.keeps λb o e=>Tf _ (k1 b o e),ia⟩ (ih λx hx=>hc x (Ui _ hx))
 have hts:=tups c1 λc hc=>pm.mem_iff.mp (p1.mem_iff.mp hc)
 refine Te (Uy (Uw slot_list_sort ⟨_,oL,rfl⟩ entry_list_sort (vG oL hts (by rw[Tz];lia) λis si=>⟨_,rfl,?_⟩) (args_list_sort _)))
 obtain⟨e,he⟩:=sortedHeap_at (out:=(is.map λi=>(c1.map λc=>Value.ref c.1).getD i Value.none).toArray) oL
 have sl:=si.lt;rw[Tz]at sl;have ev:(is.map λi=>(c1.map λc=>Value.ref c.1).getD i Value.none)=(is.map λi=>c1.getD i (0,[])).map λc=>Value.ref c.1:=by rw[UT];exact Wx λi hi=>by have:=sl i hi;simp[this]
 have ek:(is.map λi=>(c1.map (·.2)).getD i [])=(is.map λi=>c1.getD i (0,[])).map (·.2):=by rw[UT];exact Wx λi hi=>by have:=sl i hi;simp[this]
 have pk:(is.map λi=>c1.getD i (0,[])).Perm cs:=by
  have sp:=si.pm;rw[Tz]at sp;refine (sp.map _).trans ?_;have e3:(List.range c1.length).map (λi=>c1.getD i (0,[]))=c1:=by
   apply XQ
   ·simp
   ·intro i h1 h2;simp at h1 ⊢
    rw[Tj h1];rfl
  rw[e3];exact p1.trans pm
 have ris:=si.ris;rw[ek]at ris;rw[ev]at he ⊢
 refine Th ⟨_,rfl,h _ _ _ h1.objs.size e _ pk ris sz he λb o eb=>?_⟩
 have lt:=Tt (k1 b o eb);rw[sortedHeap_old (TF lt) (by rw[size_push'];exact Vf lt)]
 exact Tf _ (k1 b o eb)
end
end LA
namespace L2
open PySem PySem.Spec PyProof.Rows LS LA LB
end L2
namespace LA
open PySem PySem.Spec PyProof.Rows LS
noncomputable def dD(cs:List (Addr×List Int))(c:Addr×List Int):List (Addr×List Int):=if c.2∈cs.map (·.2) then cs else cs++[(c.1,c.2)]
theorem rH(x:IsTupleKey (iK prog w) h k b)(kp:∀o,h.get? b=some o->h'.get? b=some o):IsTupleKey (iK prog w) h' k b:=by obtain⟨o,its,n,e,r⟩:=x;exact⟨o,its,n,kp _ e,r⟩
theorem tO:∀ (l acc:List (Addr×List Int)),(l.foldl dD acc).length<=acc.length + l.length
 |[],acc=>by simp
 |c::l,acc=>by
   have:=tO l (dD acc c);have h2:(dD acc c).length<=acc.length+1:=by unfold dD;split<;>simp
   rw[V2,Ve]
   lia
theorem tQ:∀ (l acc:List (Addr×List Int)) {x:Addr×List Int}{S:List (Addr×List Int)},x∈l.foldl dD acc->(x∈acc->x∈S++l)->x∈S++l
 |[],acc,x,S,h,k=>k h
 | c::l,acc,x,S,h,k=>by
   have ih:=tQ l (dD acc c) (x:=x) (S:=S++[c]) h λz=>by
    unfold dD at z;have:x∈acc\/x=c:=by
     split at z
     ·exact .inl z
     ·rcases T4.mp z with z | z
      ·exact .inl z
      ·exact .inr (TQ.mp z)
    rcases this with z | rfl
    ·have:=k z;simpa using this
    ·simp
   simpa using ih
section
variable{prog:Program}{w:World}{A:Around}{R:Result->Shared->Prop}{I:Addr}{fp wr:List Addr}{G:Array GenState->Array GenState->Prop}{n:Nat}{P:Nat->Value->Prop}{St:Nat->Shared->Prop}{L:Bool}
theorem NZ(W:WalksS prog w A.in1 I fp wr G n P St)(S:Addr)(hSf:S∉fp)(all:List (Addr×List Int))(hn:n=all.length)(hval:∀ i v,P i v->∃ c,all[i]?=some c/\v=.ref c.1)(hb:all.length<=18)(hu:A.in1.units<cLine)(hw:∀ c∈all,c.1∉S::wr):∀ (k i:Nat) (s:Shared),n - i=k->i<=n->St i s->SetT prog w L s.heap S ((all.take i).foldl dD [])->nU prog w s.heap all->
  (∀s',Moved (S::wr) G s s'->SetT prog w L s'.heap S (all.foldl dD [])->R (.ok (.ret .none)) s')->codeAny (model prog w) A (.builtin "set.update.loop" ⟨[.ref S,.ref I],[]⟩) R s:=by
 have nw:S∉wr:=λh=>hSf (W.sub _ h)
 have sub:∀b∈wr,b∈S::wr:=λb hb=>.tail _ hb
 intro k;induction k with
 |zero=>
   intro i s hk hi hst g H hR;obtain rfl:i=n:=by lia
   refine Vh VH ?_;rw[U8 Va _];refine Te (m:=pyNext (.ref I)) (W.done s _ _ hst λs' hm=>?_)
   rw[hn,List.take_length]at g;exact Th (hR s' (hm.mono sub) (L2.wX g λo e=>hm.heap S _ nw e))
 | succ k ih=>
   intro i s hk hi hst g H hR;have lt:i<n:=by lia
   refine Vh VH ?_;rw[U8 Va _];refine Te (m:=pyNext (.ref I)) (W.item i s _ _ lt hst λv s' hP hst' hm=>?_)
   obtain⟨c,ec,rfl⟩:=hval i v hP;have g':=L2.wX (h2:=s'.heap) g λo e=>hm.heap S _ nw e
   have H':nU prog w s'.heap all:=λx hx=>rH (H x hx) λo e=>hm.heap _ _ (λz=>hw x hx (.tail _ z)) e
   refine Te (m:=holding [Value.ref c.1] (setAdd S (.ref c.1))) (Uy ?_);unfold setAdd;have hc:=H' c (T9 ec);refine Uy (Te (wpAny_pyHash_tuple (knd:=iK prog w) hu hc ?_));have fl:=tO (all.take i) [];have tl:=List.length_take_le i all;have il:i<all.length:=by lia
   have tl2:(all.take i).length=i:=by rw[VG];lia
   have fs:∀x∈(all.take i).foldl dD [],x∈all:=λx hx=>Wb (by simpa using tQ (all.take i) [] (S:=[]) hx (λz=>by cases z))
   refine J2 (s:={ s' with toks:=s'.toks+(c.2.length+1) }) hu g' (λx hx=>H' x (fs x hx)) hc (by simp at fl;lia) λh' b sb g2=>?_
   have e2:(all.take (i+1)).foldl dD []=if c.2∈((all.take i).foldl dD []).map (·.2) then (all.take i).foldl dD [] else (all.take i).foldl dD []++[(c.1,c.2)]:=by rw[List.take_succ,ec,List.foldl_append];rfl
   rw[<-e2]at g2;have H2:nU prog w h' all:=λx hx=>rH (H' x hx) λo e=>(sb.2 _ (λz=>hw x hx (z ▸ T6))).trans e
   refine Th ⟨Wt Va _,ih (i+1) _ (by lia) lt (W.frame _ s' _ _ hst' (Nat.le_add_right _ _) λc hc o e=>?_) g2 H2 λs2 hm2 g3=>?_⟩
   ·rw[sb.2 c (λz=>hSf (z ▸ hc))];exact e
   ·refine hR s2 (Moved.trans W.gtrans ((hm.mono sub).then_heap (Nat.le_add_right _ _) λc o hc e=>?_) hm2) g3
    rw[sb.2 c (λz=>hc (z ▸ T6))];exact e
end
section
variable{prog:Program}{w:World}{A:Around}{E:Value->Shared->Prop}{s:Shared}
theorem EY(hh:A.handled=none)(hl:s.heap.IsList l items)(hi:items.toList=all.map λc=>Value.ref c.1)(H:nU prog w s.heap all)(hu:A.units + 8<cLine)(hb:all.length<=18)
  (h:∀(h':Heap) (tk:Nat),SetT prog w (!bx w) h' s.heap.objs.size (all.foldl dD [])->(∀b o,b<s.heap.objs.size->s.heap.get? b=some o->h'.get? b=some o)->Q (.ref s.heap.objs.size) { s with heap:=h',toks:=tk }) :
  wpAny (model prog w) A (call (.type "set") [.ref l]) Q E s:=by
 obtain⟨c,tl,hmro⟩:=F.called_set.mro;have hmade:=F.called_set.made;have hsub:=F.called_set.sub;refine Yi (Ye (Th ⟨Code.quiet_builtin _ (by decide +kernel),Vh F.entry_type_call ?_⟩))
 rw[Around.under_plain (Yj "set" [.ref l] []) rfl];have h1:=F.called_set.notType;have h2:=F.called_set.canCreate;have hct:=F.typeCall_set_1 (.ref l)
 repeat (any_goals (first | assumption | wp_step))
 refine Vw (Br (.ref l) (E:=E) (Q:=λobj s1=>obj=.ref s.heap.objs.size/\s1={ s with heap:=s.heap.push (aJ #[] 0 (.fresh 0 0 (!bx w))) }) ⟨rfl,rfl⟩) λr s1 hr=>?_
 cases r with
 |error e=>exact hr
 | ok fl=>
   cases fl with
   | ret obj=>
     obtain⟨rfl,rfl⟩:=hr;have hS:(s.heap.push (aJ #[] 0 (.fresh 0 0 (!bx w)))).get? s.heap.objs.size=some (aJ #[] 0 (.fresh 0 0 (!bx w))):=Tu _ rfl;have hT:Shared.TypeIs { s with heap:=s.heap.push (aJ #[] 0 (.fresh 0 0 (!bx w))) } (.ref s.heap.objs.size) "set":=⟨_,hS,rfl⟩
     have hli:=F.called_set.init.lookup;have hbi:=F.called_set.init.bind (.ref s.heap.objs.size)
     repeat (any_goals (first | assumption | wp_step))
     refine Vw (codeAny_call_builtin (R:=wants (λr s2=>r=.none/\∃h' tk,s2={ s with heap:=h',toks:=tk }/\SetT prog w (!bx w) h' s.heap.objs.size (all.foldl dD []) /\
       (∀b o,b<s.heap.objs.size->s.heap.get? b=some o->h'.get? b=some o)) E) F.called_set.init.plain F.entry_set_init (check_set_init_1 hT ?_)) λr2 s2 hr2=>?_
     ·obtain ⟨ol,hol,hcl,nl,hdl⟩:=hl;obtain⟨ocls,odict,odata,oslots⟩:=ol;simp only at hcl hdl;subst hcl;subst hdl;have hol':(s.heap.push (aJ #[] 0 (.fresh 0 0 (!bx w)))).get? l=some { cls:=.type "list",dict:=odict,data:=.seq items nl,slots:=oslots }:=Tf _ hol;have hsls:=F.sub_list_set;have hslf:=F.sub_list_frozenset;have hne:(Value.type "list"==Value.type "dict")=false:=by decide
      have hl1:(s.heap.push (aJ #[] 0 (.fresh 0 0 (!bx w)))).IsList l items:=⟨_,hol',rfl,nl,rfl⟩;unfold Builtin.«set.__init__» noKeywords Builtin.Frozenset.updateFrom;generalize hPI:pyIter=PI
      wp_walk
      subst hPI;refine Vr hl1 (Te (W7 ?_));have hlS:l<s.heap.objs.size:=Tt hol;have hh3:A.in1.in1.in1.handled=none:=by simp[hh]
      have hneI:l≠(s.heap.push (aJ #[] 0 (.fresh 0 0 (!bx w)))).objs.size:=by rw[Uc];exact TF (Vf hlS)
      have hSf:s.heap.objs.size∉[(s.heap.push (aJ #[] 0 (.fresh 0 0 (!bx w)))).objs.size,l]:=by rw[Uc];simp only[List.mem_cons,List.mem_singleton,List.not_mem_nil,or_false,not_or];exact⟨TF (Vi _),Wl hlS⟩
      have il:items.size=all.length:=by rw[<-Vb,hi,Tz]
      have H1:∀c∈all,IsTupleKey (iK prog w) (s.heap.push (aJ #[] 0 (.fresh 0 0 (!bx w)))) c.2 c.1:=λc hc=>rH (H c hc) λo e=>Tf _ e
      have ltc:∀c∈all,c.1<s.heap.objs.size:=λc hc=>by obtain⟨o,_,_,e,_⟩:=H c hc;exact Tt e
      have hval:∀(i:Nat) (v:Value),items[i]?=some v->∃c,all[i]?=some c/\v=.ref c.1:=λi v hv=>by rw[<-Ws,hi,T8]at hv;obtain⟨c,e1,e2⟩:=Tp.mp hv;exact⟨c,e1,e2.symm⟩
      refine NZ (L:=!bx w) ((Walks.list hh3 _ l hneI items).toS) s.heap.objs.size hSf all il hval hb (by simp;lia) (λc hc=>?hw) (items.size-0) 0 _ (by lia) (Vl _) ⟨⟨_,Tu _ rfl,rfl,rfl⟩,(hl1.push _)⟩ ?hS0 (λc hc=>rH (H1 c hc) λo e=>Tf _ e) ?hR
      case hw=>have:=ltc c hc;simp only[List.mem_cons,List.mem_singleton,List.not_mem_nil,or_false,not_or,Heap.size_push];exact⟨TF this,TF (Vf this)⟩
      case hS0=>exact⟨[],0,.fresh 0 0 (!bx w),.refl _,Tf _ hS,⟨.fresh _ _,.inl rfl,rfl,λs h=>(by cases h),Vl _,λz h=>(by cases h),rfl⟩,by show 0*5<7*3;decide⟩
      case hR=>
       intro s' hm hS';obtain⟨h',g',d',tk',os'⟩:=s';have eg:g'=s.gens:=hm.gens;have ed:d'=s.drawn:=hm.drawn;have eo:os'=s.os:=hm.os;subst eg;subst ed;subst eo;refine Th (Th ⟨rfl,h',tk',rfl,hS',λb o hb e=>?_⟩)
       have hb2:b≠(s.heap.push (aJ #[] 0 (.fresh 0 0 (!bx w)))).objs.size:=by rw[Uc];exact TF (Vf hb)
       exact hm.heap b o (by simp only[List.mem_cons,List.mem_singleton,List.not_mem_nil,or_false,not_or];exact⟨TF hb,hb2⟩) (Tf _ (Tf _ e))
     ·cases r2 with
      |error e=>exact hr2
      | ok fl2=>
        cases fl2 with
        |ret r=>
          obtain⟨rfl,h',tk,rfl,hS',hk'⟩:=hr2
          repeat (any_goals (first | assumption | wp_step))
          exact h _ _ hS' hk'
        |_=>exact hr2.elim
   |_=>exact hr.elim
end
end LA
namespace L3
open PySem PySem.Spec L2
open PyProof.Rows hiding St
inductive D where
 |non | bl (b:Bool) | int (i:Int) | str (x:Str)
 |tup (l:List D) | lst (l:List D)
 |dic (ks:List Key) (vs:List D)
 |obj (c:Str) (ns:List Str) (vs:List D)
 |scr (ns:List Int)
 |ref (n:Nat)
 |cls (c:Str) | ty (t:String)
 |exn (a:Addr)
noncomputable instance:Inhabited D:=⟨.non⟩
inductive DO where
 |lst (l:List D)
 |dic (ks:List Key) (vs:List D)
 |ins (c:Str) (ns:List Str) (vs:List D)
noncomputable abbrev Mo:=List DO
inductive R(α:Type) where
 |ok (a:α) | exc (c:Str)
noncomputable def DM(α:Type):=Mo->Option (R α×Mo)
@[reducible] noncomputable def DM.pure{α:Type}(a:α):DM α:=λM=>some (.ok a,M)
noncomputable def DM.bind{α β:Type}(m:DM α)(f:α->DM β):DM β:=λM=>match m M with
 |none=>none
 |some (.exc c,M')=>some (.exc c,M')
 |some (.ok a,M')=>f a M'
noncomputable instance:Monad DM where
 pure:=DM.pure
 bind:=DM.bind
noncomputable def rd{α:Type}(f:Mo->Option α):DM α:=λM=>(f M).map λa=>(.ok a,M)
noncomputable def opt{α:Type}(o:Option α):DM α:=λM=>o.map λa=>(.ok a,M)
noncomputable def stuck{α:Type}:DM α:=λz=>none
noncomputable def raise{α:Type}(c:Str):DM α:=λM=>some (.exc c,M)
noncomputable abbrev ak:=List (Option D)
structure Rh where
 st:List Addr
 vo:List Addr
noncomputable instance:Membership Addr Rh:=⟨λρ a=>a∈ρ.st\/a∈ρ.vo⟩
noncomputable def Rh.put(ρ:Rh)(p:Addr):Rh:=⟨ρ.st++[p],ρ.vo⟩
noncomputable def Rh.hold(ρ:Rh)(p:Addr):Rh:=⟨ρ.st,p::ρ.vo⟩
mutual
inductive Cv(mg:Str->Option Value)(ρ:Rh)(H:Hp):V->D->Prop
 |non:Cv mg ρ H .non .non
 |bl (b:Bool):Cv mg ρ H (.bl b) (.bl b)
 |int (i:Int):Cv mg ρ H (.int i) (.int i)
 |str (x:Str):Cv mg ρ H (.str x) (.str x)
 |tup {a:Addr}{xs:List V}{ds:List D}:a∉ρ->H a=some (.tup xs)->Cvs mg ρ H xs ds->Cv mg ρ H (.ref a) (.tup ds)
 |lst {a:Addr}{xs:List V}{ds:List D}:a∉ρ->H a=some (.lst xs)->Cvs mg ρ H xs ds->Cv mg ρ H (.ref a) (.lst ds)
 |dic {a:Addr}{ks:List Key}{xs:List V}{ds:List D}:a∉ρ->H a=some (.dK (ks.zip xs))->ks.length=xs.length->Cvs mg ρ H xs ds->Cv mg ρ H (.ref a) (.dic ks ds)
 |obj {a C dx:Addr}{c:Str}{ns:List Str}{xs:List V}{ds:List D}:a∉ρ->mg c=some (.ref C)->H a=some (.ins C dx (ns.zip xs))->ns.length=xs.length->Cvs mg ρ H xs ds->Cv mg ρ H (.ref a) (.obj c ns ds)
 |scr {a:Addr}{ns:List Int}:a∉ρ->Rd H a (.lst (ns.map V.int))->Cv mg ρ H (.ref a) (.scr ns)
 |ref {n:Nat}{a:Addr}:ρ.st[n]?=some a->Cv mg ρ H (.ref a) (.ref n)
 |cls {c:Str}{C:Addr}:mg c=some (.ref C)->Cv mg ρ H (.ref C) (.cls c)
 |ty (t:String):Cv mg ρ H (.ty t) (.ty t)
 |exn (a:Addr):Cv mg ρ H (.ref a) (.exn a)
inductive Cvs(mg:Str->Option Value)(ρ:Rh)(H:Hp):List V->List D->Prop
 |nil:Cvs mg ρ H [] []
 |cons {v:V}{d:D}{vs:List V}{ds:List D}:Cv mg ρ H v d->Cvs mg ρ H vs ds->Cvs mg ρ H (v::vs) (d::ds)
end
structure Ext(ρ:Rh)(H:Hp)(ρ':Rh)(H':Hp):Prop where
 pre:∃τ,ρ'.st=ρ.st++τ
 vo:ρ'.vo=ρ.vo
 new:∀a,a∈ρ'.st->a∉ρ.st->H a=none
 keep:∀a o,H a=some o->a∉ρ.st->H' a=some o
theorem Ext.refl{ρ:Rh}{H:Hp}:Ext ρ H ρ H:=⟨⟨[],by simp⟩,rfl,λa h n=>absurd h n,λz z h z=>h⟩
theorem Ext.keeps{ρ ρ':Rh}{H H':Hp}(e:Ext ρ H ρ' H'){a:Addr}{o:HO}(h:H a=some o)(n:a∉ρ):H' a=some o:=e.keep a o h λz=>n (.inl z)
theorem Ext.out1{ρ ρ':Rh}{H H':Hp}(e:Ext ρ H ρ' H'){a:Addr}{o:HO}(h:H a=some o)(n:a∉ρ.st):a∉ρ'.st:=λz=>by have:=e.new a z n;rw[h]at this;cases this
theorem Ext.out{ρ ρ':Rh}{H H':Hp}(e:Ext ρ H ρ' H'){a:Addr}{o:HO}(h:H a=some o)(n:a∉ρ):a∉ρ':=λz=>by
 rcases z with z | z
 ·exact e.out1 h (λy=>n (.inl y)) z
 ·rw[e.vo]at z;exact n (.inr z)
theorem Ext.trans{ρ ρ1 ρ2:Rh}{H H1 H2:Hp}(e:Ext ρ H ρ1 H1)(f:Ext ρ1 H1 ρ2 H2):Ext ρ H ρ2 H2:=by
 refine⟨?_,f.vo.trans e.vo,λa h n=>?_,λa o h n=>f.keep a o (e.keep a o h n) (e.out1 h n)⟩
 ·obtain⟨τ,h1⟩:=e.pre;obtain⟨υ,h2⟩:=f.pre;exact⟨τ++υ,by rw[h2,h1,Wf]⟩
 ·by_cases z:a∈ρ1.st
  ·exact e.new a z n
  ·cases q:H a with
   |none=>rfl
   |some o=>have:=f.new a h z;rw[e.keep a o q n]at this;cases this
theorem Ext.at{ρ ρ':Rh}{H H':Hp}(e:Ext ρ H ρ' H'){n:Nat}{a:Addr}(h:ρ.st[n]?=some a):ρ'.st[n]?=some a:=by obtain⟨τ,h1⟩:=e.pre;rw[h1,T5 (Ti.mp h).1];exact h
theorem Rh.nhold{ρ:Rh}{a p:Addr}(h:a∉ρ)(n:a≠p):a∉ρ.hold p:=λz=>by
 rcases z with z | z
 ·exact h (.inl z)
 ·rcases TV.mp z with z | z
  ·exact n z
  ·exact h (.inr z)
section
variable{mg:Str->Option Value}{ρ ρ':Rh}{H H':Hp}
theorem Cvs.ind{P:List V->List D->Prop}{vs:List V}{ds:List D}(h:Cvs mg ρ H vs ds)(n:P [] [])(c:∀{v d vs ds},Cv mg ρ H v d->Cvs mg ρ H vs ds->P vs ds->P (v::vs) (d::ds)):P vs ds:=
 Cvs.rec (motive_1:=λz z z=>True) (motive_2:=λvs ds z=>P vs ds) ⟨⟩ (λz=>⟨⟩) (λz=>⟨⟩) (λz=>⟨⟩) (λz z z z=>⟨⟩) (λz z z z=>⟨⟩) (λz z z z z=>⟨⟩) (λz z z z z z=>⟨⟩) (λz z=>⟨⟩) (λz=>⟨⟩) (λz=>⟨⟩) (λz=>⟨⟩) (λz=>⟨⟩) n (λa t z i=>c a t i) h
theorem Cvs.gen(at_:∀(n:Nat) a,ρ.st[n]?=some a->ρ'.st[n]?=some a)(kp:∀a o,H a=some o->a∉ρ->a∉ρ'/\H' a=some o){vs:List V}{ds:List D}(h:Cvs mg ρ H vs ds):Cvs mg ρ' H' vs ds:=
 Cvs.rec (motive_1:=λv d z=>Cv mg ρ' H' v d) (motive_2:=λvs ds z=>Cvs mg ρ' H' vs ds) .non .bl .int .str (λn h z c=>.tup (kp _ _ h n).1 (kp _ _ h n).2 c) (λn h z c=>.lst (kp _ _ h n).1 (kp _ _ h n).2 c) (λn h l z c=>.dic (kp _ _ h n).1 (kp _ _ h n).2 l c) (λn m h l z c=>.obj (kp _ _ h n).1 m (kp _ _ h n).2 l c)
  (λn h=>h.elim (λh=>.scr (kp _ _ h n).1 (.inl (kp _ _ h n).2)) λ⟨_,h⟩=>.scr (kp _ _ h n).1 (.inr ⟨_,(kp _ _ h n).2⟩)) (λh=>.ref (at_ _ _ h)) .cls .ty .exn .nil (λz z=>.cons) h
theorem Cvs.hd{v:V}{d:D}{vs:List V}{ds:List D}(h:Cvs mg ρ H (v::vs) (d::ds)):Cv mg ρ H v d:=by cases h;assumption
theorem Cv.gen(at_:∀(n:Nat) a,ρ.st[n]?=some a->ρ'.st[n]?=some a)(kp:∀a o,H a=some o->a∉ρ->a∉ρ'/\H' a=some o){v:V}{d:D}(h:Cv mg ρ H v d):Cv mg ρ' H' v d:=(Cvs.gen at_ kp (.cons h .nil)).hd
theorem Cv.mono(e:Ext ρ H ρ' H'){v:V}{d:D}(h:Cv mg ρ H v d):Cv mg ρ' H' v d:=h.gen (λz z=>e.at) λz z h n=>⟨e.out h n,e.keeps h n⟩
theorem Cvs.mono(e:Ext ρ H ρ' H'){v:List V}{d:List D}(h:Cvs mg ρ H v d):Cvs mg ρ' H' v d:=h.gen (λz z=>e.at) λz z h n=>⟨e.out h n,e.keeps h n⟩
theorem Cvs.len{vs:List V}{ds:List D}(h:Cvs mg ρ H vs ds):vs.length=ds.length:=h.ind (P:=λvs ds=>vs.length=ds.length) rfl λz z=>congrArg (·+ 1)
theorem Cvs.append{vs us:List V}{ds es:List D}(h:Cvs mg ρ H vs ds)(h2:Cvs mg ρ H us es):Cvs mg ρ H (vs++us) (ds++es):=h.ind (P:=λvs ds=>Cvs mg ρ H (vs++us) (ds++es)) h2 λa z=>.cons a
theorem Cvs.take{vs:List V}{ds:List D}(n:Nat)(h:Cvs mg ρ H vs ds):Cvs mg ρ H (vs.take n) (ds.take n):=h.ind (P:=λvs ds=>∀n,Cvs mg ρ H (vs.take n) (ds.take n)) (λn=>by rw[List.take_nil,List.take_nil];exact .nil) (λa z i n=>by cases n with | zero=>exact .nil | succ n=>exact .cons a (i n)) n
theorem Cvs.drop{vs:List V}{ds:List D}(n:Nat)(h:Cvs mg ρ H vs ds):Cvs mg ρ H (vs.drop n) (ds.drop n):=h.ind (P:=λvs ds=>∀n,Cvs mg ρ H (vs.drop n) (ds.drop n)) (λn=>by rw[List.drop_nil,List.drop_nil];exact .nil) (λa t i n=>by cases n with | zero=>exact .cons a t | succ n=>exact i n) n
theorem Cvs.get{vs:List V}{ds:List D}{i:Nat}{d:D}(h:Cvs mg ρ H vs ds):ds[i]?=some d->∃v,vs[i]?=some v/\Cv mg ρ H v d:=h.ind (P:=λvs ds=>∀i,ds[i]?=some d->∃v,vs[i]?=some v/\Cv mg ρ H v d) (λz e=>by cases e) (λ{v _ _ _} a _ r i=>by cases i with | zero=>exact λe=>⟨v,rfl,TJ e ▸ a⟩ | succ n=>exact r n) i
theorem Cvs.set{v:V}{d:D}(h:Cv mg ρ H v d){vs:List V}{ds:List D}(i:Nat)(c:Cvs mg ρ H vs ds):Cvs mg ρ H (vs.set i v) (ds.set i d):=c.ind (P:=λvs ds=>∀i,Cvs mg ρ H (vs.set i v) (ds.set i d)) (λz=>.nil) (λa t r i=>by cases i with | zero=>exact .cons h t | succ n=>exact .cons a (r n)) i
theorem Cvs.reverse{vs:List V}{ds:List D}(h:Cvs mg ρ H vs ds):Cvs mg ρ H vs.reverse ds.reverse:=h.ind (P:=λvs ds=>Cvs mg ρ H vs.reverse ds.reverse) .nil λa z i=>by rw[List.reverse_cons,List.reverse_cons];exact i.append (.cons a .nil)
theorem Cvs.ints:∀ns:List Int,Cvs mg ρ H (ns.map V.int) (ns.map D.int)
 |[]=>.nil
 |n::ns=>.cons (.int n) (Cvs.ints ns)
noncomputable def o8(mg:Str->Option Value)(ρ:Rh)(H:Hp)(a:Addr):DO->Prop
 |.lst l=>∃xs,H a=some (.lst xs)/\Cvs mg ρ H xs l
 |.dic ks l=>∃xs,H a=some (.dK (ks.zip xs))/\ks.length=xs.length/\Cvs mg ρ H xs l
 |.ins c ns l=>∃C dx xs,mg c=some (.ref C)/\H a=some (.ins C dx (ns.zip xs))/\ns.length=xs.length/\Cvs mg ρ H xs l
theorem o8.some{a:Addr}{o:DO}(h:o8 mg ρ H a o):∃u,H a=some u:=by
 cases o with
 |lst l=>obtain⟨xs,h,_⟩:=h;exact⟨_,h⟩
 |dic ks l=>obtain⟨xs,h,_⟩:=h;exact⟨_,h⟩
 |ins c ns l=>obtain⟨C,dx,xs,_,h,_⟩:=h;exact⟨_,h⟩
theorem o8.mono{a:Addr}{o:DO}(e:Ext ρ H ρ' H')(k:H' a=H a)(h:o8 mg ρ H a o):o8 mg ρ' H' a o:=by
 cases o with
 |lst l=>obtain⟨xs,h,c⟩:=h;exact⟨xs,k.trans h,c.mono e⟩
 |dic ks l=>obtain⟨xs,h,q,c⟩:=h;exact⟨xs,k.trans h,q,c.mono e⟩
 |ins c ns l=>obtain⟨C,dx,xs,m,h,q,c⟩:=h;exact⟨C,dx,xs,m,k.trans h,q,c.mono e⟩
structure J(mg:Str->Option Value)(ρ:Rh)(M:Mo)(H:Hp):Prop where
 len:ρ.st.length=M.length
 nd:ρ.st.Nodup
 obj:∀(n:Nat) a o,ρ.st[n]?=some a->M[n]?=some o->o8 mg ρ H a o
 vol:∀a,a∈ρ.vo->a∉ρ.st/\∃xs,H a=some (.lst xs)
theorem J.some{M:Mo}(j:J mg ρ M H){a:Addr}(h:a∈ρ):∃u,H a=some u:=by
 rcases h with h | h
 ·obtain⟨n,hn⟩:=VF.mp h;have lt:n<M.length:=by rw[<-j.len];exact (Ti.mp hn).1
  exact (j.obj n a M[n] hn (Tj lt)).some
 ·obtain⟨_,xs,e⟩:=j.vol a h;exact⟨_,e⟩
theorem J.fresh{M:Mo}(j:J mg ρ M H){p:Addr}(h:H p=none):p∉ρ:=λz=>by obtain⟨u,e⟩:=j.some z;rw[h]at e;cases e
theorem J.inj{M:Mo}(j:J mg ρ M H){n m:Nat}{a:Addr}(h:ρ.st[n]?=Option.some a)(k:ρ.st[m]?=Option.some a):n=m:=by
 obtain⟨h1,e1⟩:=Ti.mp h;obtain⟨h2,e2⟩:=Ti.mp k;have q:∀i k (hi:i<ρ.st.length) (hk:k<ρ.st.length),i<k->ρ.st[i]≠ρ.st[k]:=λi k hi hk lt=>VB.mp j.nd i k hi hk lt
 rcases Xx n m with z | z | z
 ·exact absurd (e1.trans e2.symm) (q n m h1 h2 z)
 ·exact z
 ·exact absurd (e2.trans e1.symm) (q m n h2 h1 z)
theorem Ext.lay{p:Addr}{o:HO}(h:H p=none):Ext ρ H ρ (upd H p o):=⟨⟨[],by simp⟩,rfl,λa h n=>absurd h n,λa o e z=>by rw[upd_ne (ne_of_none e h)];exact e⟩
theorem Ext.same(S:Same H H'):Ext ρ H ρ H':=⟨⟨[],by simp⟩,rfl,λa h n=>absurd h n,λa o e z=>S _ _ e⟩
theorem J.same{M:Mo}(j:J mg ρ M H)(S:Same H H'):J mg ρ M H':=⟨j.len,j.nd,λn a o h k=>by have c:=j.obj n a o h k;obtain⟨u,e⟩:=c.some;exact c.mono (Ext.same S) (by rw[e,S _ _ e]),λa h=>let ⟨x,xs,e⟩:=j.vol a h;⟨x,xs,S _ _ e⟩⟩
theorem J.lay{M:Mo}(j:J mg ρ M H){p:Addr}(o:HO)(h:H p=none):J mg ρ M (upd H p o):=j.same (same_new h o)
theorem Ext.put{p:Addr}{o:HO}(h:H p=none):Ext ρ H (ρ.put p) (upd H p o):=⟨⟨[p],rfl⟩,rfl,λa ha n=>by
 rcases T4.mp ha with z | z
 ·exact absurd z n
 ·rw[TQ.mp z];exact h,λa o e y=>by rw[upd_ne (ne_of_none e h)];exact e⟩
theorem J.put{M:Mo}(j:J mg ρ M H){p:Addr}{o:HO}{u:DO}(h:H p=none)(c:o8 mg (ρ.put p) (upd H p o) p u):J mg (ρ.put p) (M++[u]) (upd H p o):=by
 have np:p∉ρ.st:=λz=>j.fresh h (.inl z)
 refine⟨?_,?_,λn a w h1 h2=>?_,λa ha=>?_⟩
 ·show (ρ.st++[p]).length=_;rw[T3,T3,j.len];rfl
 ·show (ρ.st++[p]).Nodup;rw[WR];exact⟨j.nd,by simp,λx hx y hy e=>by rw[TQ.mp hy]at e;exact np (e ▸ hx)⟩
 ·have h1:(ρ.st++[p])[n]?=Option.some a:=h1;by_cases hn:n<ρ.st.length
  ·rw[T5 hn]at h1;rw[T5 (by rw[<-j.len];exact hn)]at h2
   have c:=j.obj n a w h1 h2;exact c.mono (Ext.put h) (upd_ne λ(z:a=p)=>np (z ▸ T9 h1))
  ·have hl:n<(ρ.st++[p]).length:=(Ti.mp h1).1;rw[T3]at hl;have e:n=ρ.st.length:=by have:[p].length=1:=rfl;lia
   subst e;rw[U7 (Tq _)]at h1;rw[j.len,U7 (Tq _)]at h2;simp at h1 h2;subst h1 h2;exact c
 ·obtain⟨x,xs,e⟩:=j.vol a ha;have ne:a≠p:=ne_of_none e h;refine⟨λz=>?_,xs,by rw[upd_ne ne];exact e⟩
  rcases T4.mp z with z | z
  ·exact x z
  ·exact ne (TQ.mp z)
theorem Ext.upd{p:Addr}{o:HO}(h:p∈ρ.st):Ext ρ H ρ (L2.upd H p o):=⟨⟨[],by simp⟩,rfl,λa h n=>absurd h n,λa u e n=>by rw[upd_ne (λ(z:a=p)=>n (z ▸ h))];exact e⟩
theorem J.upd{M:Mo}(j:J mg ρ M H){n:Nat}{p:Addr}{o:HO}{u:DO}(h:ρ.st[n]?=Option.some p)(c:o8 mg ρ (L2.upd H p o) p u):J mg ρ (M.set n u) (L2.upd H p o):=by
 refine⟨by rw[WN];exact j.len,j.nd,λm a w h1 h2=>?_,λa ha=>?_⟩
 ·by_cases e:m=n
  ·subst e;rw[h]at h1;cases h1;have lt:m<M.length:=by rw[<-j.len];exact (Ti.mp h).1
   rw[UJ lt]at h2;cases h2;exact c
  ·rw[Vn (λz=>e z.symm)]at h2
   have ne:a≠p:=λz=>by subst z;exact e (j.inj h1 h)
   exact (j.obj m a w h1 h2).mono (Ext.upd (T9 h)) (by rw[upd_ne ne])
 ·obtain⟨x,xs,e⟩:=j.vol a ha;exact⟨x,xs,by rw[upd_ne (λ(z:a=p)=>x (z ▸ T9 h))];exact e⟩
theorem Mm{p a:Addr}{o:HO}(hp:p∈ρ.vo)(n:a∉ρ):L2.upd H p o a=H a:=upd_ne λz=>n (by rw[z];exact .inr hp)
theorem Cvs.hold{p:Addr}{o:HO}(hp:p∈ρ.vo){v:List V}{d:List D}(h:Cvs mg ρ H v d):Cvs mg ρ (L2.upd H p o) v d:=h.gen (λz z h=>h) λz z h n=>⟨n,(Mm hp n).trans h⟩
theorem Cvs.less{ρ1:Rh}(hs:ρ1.st=ρ.st)(hv:∀a,a∈ρ1.vo->a∈ρ.vo){v:List V}{d:List D}(h:Cvs mg ρ H v d):Cvs mg ρ1 H v d:=h.gen (λx x h=>hs ▸ h) λx x h n=>⟨λz=>n (z.elim (λy=>.inl (hs ▸ y)) λy=>.inr (hv _ y)),h⟩
theorem Cvs.more{p:Addr}(hp:H p=none){v:List V}{d:List D}(h:Cvs mg ρ H v d):Cvs mg (ρ.hold p) H v d:=h.gen (ρ:=ρ) (ρ':=ρ.hold p) (λz z h=>h) λz z h n=>⟨Rh.nhold n (ne_of_none h hp),h⟩
theorem o8.map{ρ1:Rh}{H1:Hp}{a:Addr}{o:DO}(k:H1 a=H a)(f:∀vs ds,Cvs mg ρ H vs ds->Cvs mg ρ1 H1 vs ds)(h:o8 mg ρ H a o):o8 mg ρ1 H1 a o:=by
 cases o with
 |lst l=>obtain⟨xs,h,c⟩:=h;exact⟨xs,k.trans h,f _ _ c⟩
 |dic ks l=>obtain⟨xs,h,q,c⟩:=h;exact⟨xs,k.trans h,q,f _ _ c⟩
 |ins c ns l=>obtain⟨C,dx,xs,m,h,q,c⟩:=h;exact⟨C,dx,xs,m,k.trans h,q,f _ _ c⟩
theorem J.begin{M:Mo}(j:J mg ρ M H){p:Addr}(hp:H p=none):J mg (ρ.hold p) M (L2.upd H p (.lst [])):=by
 have np:p∉ρ.st:=λz=>j.fresh hp (.inl z)
 refine⟨j.len,j.nd,λn a o h1 h2=>?_,λa ha=>?_⟩
 ·exact (j.obj n a o h1 h2).map (upd_ne λ(z:a=p)=>np (z ▸ T9 h1)) λvs ds c=>(c.more hp).hold (.head _)
 ·rcases TV.mp ha with rfl | ha
  ·exact⟨np,[],upd_same⟩
  ·obtain⟨x,xs,e⟩:=j.vol a ha;exact⟨x,xs,by rw[upd_ne (ne_of_none e hp)];exact e⟩
theorem J.grow{M:Mo}(j:J mg ρ M H){p:Addr}{ys:List V}(hp:p∈ρ.vo):J mg ρ M (L2.upd H p (.lst ys)):=by
 refine⟨j.len,j.nd,λn a o h1 h2=>?_,λa ha=>?_⟩
 ·exact (j.obj n a o h1 h2).map (upd_ne λ(z:a=p)=>(j.vol p hp).1 (z ▸ T9 h1)) λvs ds c=>c.hold hp
 ·by_cases z:a=p
  ·subst z;exact⟨(j.vol a ha).1,ys,upd_same⟩
  ·obtain⟨x,xs,e⟩:=j.vol a ha;exact⟨x,xs,by rw[upd_ne z];exact e⟩
theorem J.done{M:Mo}{p:Addr}{ρ1:Rh}(j:J mg ρ1 M H)(hv:ρ1.vo=p::ρ.vo):J mg ⟨ρ1.st,ρ.vo⟩ M H:=by
 refine⟨j.len,j.nd,λn a o h1 h2=>?_,λa ha=>?_⟩
 ·exact o8.map (ρ:=ρ1) rfl (λvs ds c=>Cvs.less (ρ:=ρ1) (ρ1:=⟨ρ1.st,ρ.vo⟩) rfl (λa ha=>by rw[hv];exact .tail _ ha) c) (j.obj n a o h1 h2)
 ·obtain⟨x,y⟩:=j.vol a (by rw[hv];exact .tail _ ha)
  exact⟨x,y⟩
end
structure Kp(ρ:Rh)(H:Hp)(ρ':Rh)(H':Hp):Prop where
 pre:∃τ,ρ'.st=ρ.st++τ
 keep:∀a o,H a=some o->a∉ρ->a∉ρ'/\H' a=some o
theorem Ext.kp{ρ ρ':Rh}{H H':Hp}(e:Ext ρ H ρ' H'):Kp ρ H ρ' H':=⟨e.pre,λa o h n=>⟨e.out h n,e.keeps h n⟩⟩
theorem Kp.refl{ρ:Rh}{H:Hp}:Kp ρ H ρ H:=Ext.refl.kp
theorem Kp.trans{ρ ρ1 ρ2:Rh}{H H1 H2:Hp}(a:Kp ρ H ρ1 H1)(b:Kp ρ1 H1 ρ2 H2):Kp ρ H ρ2 H2:=by
 refine⟨?_,λc o h n=>let ⟨x,y⟩:=a.keep c o h n;b.keep c o y x⟩
 obtain⟨τ,h1⟩:=a.pre;obtain⟨υ,h2⟩:=b.pre;exact⟨τ++υ,by rw[h2,h1,Wf]⟩
theorem Kp.at{ρ ρ':Rh}{H H':Hp}(e:Kp ρ H ρ' H'){n:Nat}{a:Addr}(h:ρ.st[n]?=some a):ρ'.st[n]?=some a:=by obtain⟨τ,h1⟩:=e.pre;rw[h1,T5 (Ti.mp h).1];exact h
section
variable{mg:Str->Option Value}{ρ ρ':Rh}{H H':Hp}
theorem Cv.kp(e:Kp ρ H ρ' H'){v:V}{d:D}(h:Cv mg ρ H v d):Cv mg ρ' H' v d:=h.gen (λz z=>e.at) e.keep
theorem Cvs.kp(e:Kp ρ H ρ' H'){v:List V}{d:List D}(h:Cvs mg ρ H v d):Cvs mg ρ' H' v d:=h.gen (λz z=>e.at) e.keep
end
noncomputable def Cq(mg:Str->Option Value)(ρ:Rh)(H:Hp){α β:Type}(rel:Rh->Hp->β->α->Prop)(Q:β->Hp->Prop)(E:XK):R α×Mo->Prop
 |(.ok a,M')=>∀ρ' H' b,Ext ρ H ρ' H'->J mg ρ' M' H'->rel ρ' H' b a->Q b H'
 |(.exc c,M')=>∀ρ' H' C,Ext ρ H ρ' H'->J mg ρ' M' H'->mg c=some (.ref C)->E (.ref C) none H'
noncomputable def Go(mg:Str->Option Value)(E:XK){α β:Type}(rel:Rh->Hp->β->α->Prop)(Q:β->Hp->Prop)(ρ:Rh)(H:Hp)(m:DM α)(M:Mo):Prop:=∃r,m M=some r/\Cq mg ρ H rel Q E r
section
variable{mg:Str->Option Value}{ρ ρ':Rh}{H H':Hp}{E:XK}{α β γ δ':Type}{rel:Rh->Hp->β->α->Prop}{rel':Rh->Hp->δ'->γ->Prop}{Q:δ'->Hp->Prop}{Q':β->Hp->Prop}
theorem Cq.mono{r:R α×Mo}(e:Ext ρ H ρ' H')(h:Cq mg ρ H rel Q' E r):Cq mg ρ' H' rel Q' E r:=by
 obtain⟨r,M'⟩:=r;cases r with
 |ok a=>exact λρ2 H2 b e2 j c=>h ρ2 H2 b (e.trans e2) j c
 |exc c=>exact λρ2 H2 C e2 j m=>h ρ2 H2 C (e.trans e2) j m
set_option tactic.hygienic true in
theorem Go.bind{m:DM α}{k:α->DM γ}{M:Mo}(g:Go mg E rel' Q ρ H (m>>=k) M)
  (f:∀ρ1 H1 M1 b a,Ext ρ H ρ1 H1->J mg ρ1 M1 H1->rel ρ1 H1 b a->Go mg E rel' Q ρ1 H1 (k a) M1->Q' b H1):Go mg E rel Q' ρ H m M:=by
 obtain⟨r,e,p⟩:=g;have e:DM.bind m k M=some r:=e;unfold DM.bind at e;split at e
 ·cases e
 ·rename_i c M' em;cases e;exact⟨_,em,p⟩
 ·rename_i a M' em;exact⟨_,em,λρ1 H1 b x j c=>f ρ1 H1 M' b a x j c ⟨r,e,p.mono x⟩⟩
theorem Go.rd{f:Mo->Option α}{M:Mo}(g:Go mg E rel Q' ρ H (rd f) M):∃a,f M=some a/\∀ρ' H' b,Ext ρ H ρ' H'->J mg ρ' M H'->rel ρ' H' b a->Q' b H':=by obtain⟨r,e,p⟩:=g;obtain⟨a,e1,rfl⟩:=Tp.mp e;exact⟨a,e1,p⟩
theorem Go.opt{o:Option α}{M:Mo}(g:Go mg E rel Q' ρ H (opt o) M):∃a,o=some a/\∀ρ' H' b,Ext ρ H ρ' H'->J mg ρ' M H'->rel ρ' H' b a->Q' b H':=by obtain⟨r,e,p⟩:=g;obtain⟨a,e1,rfl⟩:=Tp.mp e;exact⟨a,e1,p⟩
theorem Go.pure{a:α}{M:Mo}(g:Go mg E rel Q' ρ H (pure a) M):∀ρ' H' b,Ext ρ H ρ' H'->J mg ρ' M H'->rel ρ' H' b a->Q' b H':=by obtain⟨r,e,p⟩:=g;have e:some (R.ok a,M)=some r:=e;cases e;exact p
end
structure Ev(mg:Str->Option Value)(ρ:Rh)(H:Hp)(σ:St)(δ:ak):Prop where
 len:σ.length=δ.length
 val:∀(i:Nat) d,δ[i]?=some (some d)->∃v,σ[i]?=some (some v)/\Cv mg ρ H v d
theorem Ev.mono{mg:Str->Option Value}{ρ ρ':Rh}{H H':Hp}{σ:St}{δ:ak}(e:Ext ρ H ρ' H')(h:Ev mg ρ H σ δ):Ev mg ρ' H' σ δ:=
 ⟨h.len,λi d q=>let ⟨v,a,b⟩:=h.val i d q;⟨v,a,b.mono e⟩⟩
theorem Ev.kp{mg:Str->Option Value}{ρ ρ':Rh}{H H':Hp}{σ:St}{δ:ak}(e:Kp ρ H ρ' H')(h:Ev mg ρ H σ δ):Ev mg ρ' H' σ δ:=
 ⟨h.len,λi d q=>let ⟨v,a,b⟩:=h.val i d q;⟨v,a,b.kp e⟩⟩
theorem Ev.set{mg:Str->Option Value}{ρ:Rh}{H:Hp}{σ:St}{δ:ak}{i:Nat}{v:V}{d:D}(h:Ev mg ρ H σ δ)(c:Cv mg ρ H v d):Ev mg ρ H (σ.set i (some v)) (δ.set i (some d)):=by
 refine⟨by rw[WN,WN,h.len],λj x q=>?_⟩
 by_cases e:j=i
 ·subst e;have hj:j<(δ.set j (some d)).length:=(Ti.mp q).1;rw[WN]at hj;rw[UJ hj]at q;cases q;exact⟨v,UJ (by rw[h.len];exact hj),c⟩
 ·rw[Vn (λz=>e z.symm)]at q ⊢
  exact h.val j x q
noncomputable def tD(mg:Str->Option Value)(E:XK){α β:Type}(rel:Rh->Hp->β->α->Prop)(f:ak->DM α):St->Hp->(β->Hp->Prop)->Prop:=λσ H Q=>
 ∃ρ δ M,Ev mg ρ H σ δ/\J mg ρ M H/\Go mg E rel Q ρ H (f δ) M
noncomputable def Bv(_:Rh)(_:Hp)(b a:Bool):Prop:=b=a
structure DE(X:Cx)(E:XK)(e:Expr)(f:ak->DM D):Prop where
 h:PE X e (tD X.mg E (Cv X.mg) f)
structure DA(X:Cx)(E:XK)(es:List Expr)(f:ak->DM (List D)):Prop where
 h:QA X es (tD X.mg E (Cvs X.mg) f)
structure DT(X:Cx)(E:XK)(e:Expr)(f:ak->DM Bool):Prop where
 h:PT X e (tD X.mg E Bv f)
theorem PE.mono{X:Cx}{e:Expr}{t t':TE}(h:PE X e t)(f:∀σ H Q,t' σ H Q->t σ H Q):PE X e t':=λYk s σ H Q I q=>h Yk s σ H Q I (f σ H Q q)
theorem PT.mono{X:Cx}{e:Expr}{t t':TT}(h:PT X e t)(f:∀σ H Q,t' σ H Q->t σ H Q):PT X e t':=λYk s σ H Q I q=>h Yk s σ H Q I (f σ H Q q)
theorem PA.mono{X:Cx}{e:List Expr}{t t':TA}(h:PA X e t)(f:∀σ H Q,t' σ H Q->t σ H Q):PA X e t':=λp Yk s σ H Q I q=>h p Yk s σ H Q I (f σ H Q q)
mutual
noncomputable def toPy:D->Option PyData
 |.non=>some .none
 |.bl b=>some (.bool b)
 |.int i=>some (.int i)
 |.str x=>some (.str x)
 |.tup l=>(gh l).map .tuple
 |.lst l=>(gh l).map .list
 |_=>none
noncomputable def gh:List D->Option (List PyData)
 |[]=>some []
 |d::l=>match toPy d,gh l with
   |some p,some ps=>some (p::ps)
   |_,_=>none
end
mutual
noncomputable def eF:D->Option PyData
 |.non=>some .none
 |.bl b=>some (.bool b)
 |.int i=>some (.int i)
 |.str x=>some (.str x)
 |.tup l=>(dR l).map .tuple
 |.lst l=>(dR l).map .list
 |.dic [] []=>some (.dict [])
 |.dic [.inl i] [.int j]=>some (.dict [(.int i,.int j)])
 |_=>none
noncomputable def dR:List D->Option (List PyData)
 |[]=>some []
 |d::l=>match eF d,dR l with
   |some p,some ps=>some (p::ps)
   |_,_=>none
end
section
variable{mg:Str->Option Value}{ρ:Rh}{H:Hp}
theorem nO{α:Type}{p:α}{P:Prop}(e:none=some p):P:=nomatch e
theorem Hw{ks:List Key}{ds:List D}{p:PyData}(e:eF (.dic ks ds)=some p):(ks=[]/\ds=[]/\.dict []=p)\/∃i j,ks=[.inl i]/\ds=[.int j]/\.dict [(.int i,.int j)]=p:=by
 match ks,ds,e with
 |[],[],e=>exact .inl ⟨rfl,rfl,TJ e⟩
 |[.inl i],[.int j],e=>exact .inr ⟨i,j,rfl,rfl,TJ e⟩
theorem Cvs.repF{vs:List V}{ds:List D}{ps:List PyData}(h:Cvs mg ρ H vs ds):gh ds=some ps->RepsF H true vs ps:=
 Cvs.rec (motive_1:=λv d z=>∀ p,toPy d=some p->RepF H true v p) (motive_2:=λvs ds z=>∀ ps,gh ds=some ps->RepsF H true vs ps)
  (λz e=>TJ e ▸ .non) (λb z e=>TJ e ▸ .bl b) (λb z e=>TJ e ▸ .int b) (λb z e=>TJ e ▸ .str b)
  (λz h z c z e=>by obtain⟨ps,e1,e2⟩:=Tp.mp e;exact e2 ▸ .tup h (c _ e1)) (λz h z c z e=>by obtain⟨ps,e1,e2⟩:=Tp.mp e;exact e2 ▸ .lst h (c _ e1))
  (λz z z z z z e=>nO e) (λz z z z z z z e=>nO e) (λz z z e=>nO e) (λz z e=>nO e) (λz z e=>nO e) (λz z e=>nO e) (λz z e=>nO e)
  (λz e=>TJ e ▸ .nil) (λ{_ d _ l} _ _ i j _ e=>by
    revert e;show (match toPy d,gh l with | some p,some ps=>some (p::ps) | _,_=>none)=_->_
    cases h1:toPy d with
    |none=>exact λe=>nO e
    |some p=>cases h2:gh l with
      |none=>exact λe=>nO e
      |some q=>exact λe=>TJ e ▸ .cons (i _ h1) (j _ h2)) h ps
theorem Cv.repF{v:V}{d:D}{p:PyData}(h:Cv mg ρ H v d)(e:toPy d=some p):RepF H true v p:=by
 have z:gh [d]=some [p]:=by
  show (match toPy d,some [] with | some p,some ps=>some (p::ps) | _,_=>none)=_
  rw[e]
 cases Cvs.repF (.cons h .nil) z;assumption
theorem Cvs.repD{vs:List V}{ds:List D}{ps:List PyData}(h:Cvs mg ρ H vs ds):dR ds=some ps->RepsF H false vs ps:=
 Cvs.rec (motive_1:=λv d y=>∀ p,eF d=some p->RepF H false v p) (motive_2:=λvs ds y=>∀ ps,dR ds=some ps->RepsF H false vs ps)
  (λy e=>TJ e ▸ .non) (λb y e=>TJ e ▸ .bl b) (λb y e=>TJ e ▸ .int b) (λb y e=>TJ e ▸ .str b)
  (λy h y c y e=>by obtain⟨ps,e1,e2⟩:=Tp.mp e;exact e2 ▸ .tup h (c _ e1)) (λy h y c y e=>by obtain⟨ps,e1,e2⟩:=Tp.mp e;exact e2 ▸ .lst h (c _ e1))
  (λy h y c y y e=>by
    rcases Hw e with ⟨rfl,rfl,z⟩ | ⟨i,j,rfl,rfl,z⟩
    ·cases c;exact z ▸ .d0 h
    ·cases c with
     |cons c1 c2=>cases c2;cases c1;exact z ▸ .d1 h) (λy y y y y y y e=>nO e) (λy y y e=>nO e) (λy y e=>nO e) (λy y e=>nO e) (λy y e=>nO e) (λy y e=>nO e)
  (λy e=>TJ e ▸ .nil) (λ{_ d _ l} _ _ i j _ e=>by
    revert e;show (match eF d,dR l with | some p,some ps=>some (p::ps) | _,_=>none)=_->_
    cases h1:eF d with
    |none=>exact λe=>nO e
    |some p=>cases h2:dR l with
      |none=>exact λe=>nO e
      |some q=>exact λe=>TJ e ▸ .cons (i _ h1) (j _ h2)) h ps
theorem Cv.repD{v:V}{d:D}{p:PyData}(h:Cv mg ρ H v d)(e:eF d=some p):RepF H false v p:=by
 have z:dR [d]=some [p]:=by
  show (match eF d,some [] with | some p,some ps=>some (p::ps) | _,_=>none)=_
  rw[e]
 cases Cvs.repD (.cons h .nil) z;assumption
end
section
variable{X:Cx}{E:XK}{a b c:Expr}{fa fb fc:ak->DM D}{pos:Pos}
noncomputable def fH(i:Nat)(δ:ak):DM D:=opt ((δ[i]?).join)
theorem aa(i:Nat){x:Str}(hN:autoParam (X.N[i]?=some x) qAA)(hv:Vis X.env.scope x:=by first | exact Or.inl rfl | exact Or.inr (Or.inl rfl) | exact Or.inr (Or.inr rfl))(hd:autoParam ((x==("__debug__":Str))=false) qAB)
  (hcd:autoParam ((x==("__classdict__":Str))=false) qAB):DE X E (.Name x pos) (fH i):=⟨PE.mono (pe_var (i:=i) hN hv hd hcd) λσ H Q h=>by
 obtain⟨ρ,δ,M,ev,j,g⟩:=h;obtain⟨d,e,q⟩:=g.opt;have e':δ[i]?=some (some d):=by
  cases z:δ[i]? with
  |none=>rw[z]at e;cases e
  |some o=>rw[z]at e;exact congrArg some e
 obtain⟨v,h1,h2⟩:=ev.val i d e';exact⟨v,h1,q ρ H v .refl j h2⟩⟩
theorem ir{e:Expr}{v:V}{d:D}(h:PE X e (tC v))(hc:∀ρ H,Cv X.mg ρ H v d):DE X E e (λz=>pure d):=⟨PE.mono h λσ H Q h=>by obtain⟨ρ,δ,M,ev,j,g⟩:=h;exact g.pure ρ H v .refl j (hc _ _)⟩
theorem au{i j}:DE X E (.Constant (.int i) j pos) (λz=>pure (.int i)):=ir pe_int λz z=>.int i
theorem bR{i j}:DE X E (.Constant (.bool i) j pos) (λz=>pure (.bl i)):=ir pe_bl λz z=>.bl i
theorem Fp{j}:DE X E (.Constant .none j pos) (λz=>pure .non):=ir pe_non λz z=>.non
theorem yF{x j}:DE X E (.Constant (.str x) j pos) (λz=>pure (.str x)):=ir pe_str λz z=>.str x
theorem Qg{x:Str}{i:Int}{t:Tok}(h:X.mg x=some (.int i t))(hg:autoParam (Gl X x) qAA)(hd:autoParam ((x==("__debug__":Str))=false) qAB):DE X E (.Name x pos) (λz=>pure (.int i)):=ir (Qn h hg hd) λz z=>.int i
theorem dY{x:Str}{T:String}(hm:X.mg x=none)(hg:autoParam (Gl X x) qAA)(hv:bootBuiltins x=some (.type T):=by decide +kernel)(hn:autoParam (x≠"__name__") qAB)(hdb:autoParam ((x==("__debug__":Str))=false) qAB):DE X E (.Name x pos) (λz=>pure (.ty T)):=
 ir (Qp hm hg hv hn hdb) λz z=>.ty T
noncomputable def rD(mg:Str->Option Value)(E:XK)(g:D->D->DM D):R2:=λx y H Q=>∃ρ M dx dy,J mg ρ M H/\Cv mg ρ H x dx/\Cv mg ρ H y dy/\Go mg E (Cv mg) Q ρ H (g dx dy) M
noncomputable def bM(X:Cx)(E:XK)(f:Value->Value->Sem Value)(g:D->D->DM D):Prop:=OpR X f (rD X.mg E g)
theorem Bc{g:D->D->DM D}{r:R2}(hr:∀x y H Q,rD X.mg E g x y H Q->r x y H Q){σ:L2.St}{H:Hp}{Q:VK}(h:tD X.mg E (Cv X.mg) (λδ=>fa δ>>=λx=>fb δ>>=λy=>g x y) σ H Q):
  tOp r (tD X.mg E (Cv X.mg) fa) (tD X.mg E (Cv X.mg) fb) σ H Q:=by
 obtain⟨ρ,δ,M,ev,j,g1⟩:=h;exact⟨ρ,δ,M,ev,j,g1.bind λρ1 H1 M1 x dx e1 j1 c1 g2=>⟨ρ1,δ,M1,ev.mono e1,j1,g2.bind λρ2 H2 M2 y dy e2 j2 c2 g3=>hr _ _ _ _ ⟨ρ2,M2,dx,dy,j2,c1.mono e2,c2,g3⟩⟩⟩
theorem aG{op:Operator}{g:D->D->DM D}(ho:bM X E (binaryOp op) g)(ha:DE X E a fa)(hb:DE X E b fb):DE X E (.BinOp a op b pos) (λδ=>fa δ>>=λx=>fb δ>>=λy=>g x y):=
 ⟨PE.mono (pe_op ho ha.h hb.h) λσ H Q h=>Bc (λw w w w z=>z) h⟩
theorem gH{op:CmpOp}{g:D->D->DM D}(ho:bM X E (compareOp op) g)(ha:DE X E a fa)(hb:DE X E b fb)(hm:behindInMarks op b=false:=by first | exact nomark _ | rfl):DE X E (.Compare a [op] [b] pos) (λδ=>fa δ>>=λx=>fb δ>>=λy=>g x y):=
 ⟨PE.mono (pe_cmpR ho ha.h hb.h hm) λσ H Q h=>Bc (λw w w w z=>z) h⟩
noncomputable def eN:D->DM Bool
 |.bl b=>pure b
 |_=>stuck
theorem Go.eN{mg:Str->Option Value}{ρ:Rh}{H:Hp}{d:D}{M:Mo}{Q:Bool->Hp->Prop}(g:Go mg E Bv Q ρ H (eN d) M):∃k,d=.bl k/\∀ρ' H',Ext ρ H ρ' H'->J mg ρ' M H'->Q k H':=by
 cases d with
 |bl k=>exact⟨k,rfl,λρ' H' e j=>(show Go mg E Bv Q ρ H (Pure.pure k) M from g).pure ρ' H' k e j rfl⟩
 |_=>obtain⟨r,e,_⟩:=g;cases e
theorem dt_of{e:Expr}{f:ak->DM D}{t:TE}(h:PT X e (tTest t))(ht:∀σ H Q,tD X.mg E (Cv X.mg) f σ H Q->t σ H Q):DT X E e (λδ=>f δ>>=eN):=⟨PT.mono h λσ H Q h=>by
 obtain⟨ρ,δ,M,ev,j,g1⟩:=h;refine ht _ _ _ ⟨ρ,δ,M,ev,j,g1.bind λρ1 H1 M1 x dx e1 j1 c1 g2=>?_⟩
 obtain⟨k,rfl,q⟩:=Go.eN g2;cases c1;exact⟨k,rfl,q ρ1 H1 .refl j1⟩⟩
theorem aP{op:CmpOp}{g:D->D->DM D}(ho:bM X E (compareOp op) g)(ha:DE X E a fa)(hb:DE X E b fb)(hm:behindInMarks op b=false:=by first | exact nomark _ | rfl):DT X E (.Compare a [op] [b] pos) (λδ=>(fa δ>>=λx=>fb δ>>=λy=>g x y)>>=eN):=
 dt_of (pt_cmpR ho ha.h hb.h hm) λσ H Q h=>Bc (λw w w w z=>z) h
theorem Q4{g g':D->D->DM D}{σ:L2.St}{H:Hp}{Q:VK}(h:tD X.mg E (Cv X.mg) (λδ=>fa δ >>= λx=>fb δ >>= λy=>g x y >>= λz=>eN z >>= λk=>if k then fc δ >>= λw=>g' y w else pure (.bl false)) σ H Q):
  tChain (rD X.mg E g) (rD X.mg E g') (tD X.mg E (Cv X.mg) fa) (tD X.mg E (Cv X.mg) fb) (tD X.mg E (Cv X.mg) fc) σ H Q:=by
 obtain⟨ρ,δ,M,ev,j,g1⟩:=h;refine⟨ρ,δ,M,ev,j,g1.bind λρ1 H1 M1 x dx e1 j1 c1 g2=>⟨ρ1,δ,M1,ev.mono e1,j1,g2.bind λρ2 H2 M2 y dy e2 j2 c2 g3=>⟨ρ2,M2,dx,dy,j2,c1.mono e2,c2,g3.bind λρ3 H3 M3 z dz e3 j3 c3 g4=>?_⟩⟩⟩
 have g5:=g4.bind (rel:=Bv) (Q':=λk H4=>dz=.bl k/\∃ρ4 M4,Ext ρ3 H3 ρ4 H4/\J X.mg ρ4 M4 H4/\Go X.mg E (Cv X.mg) Q ρ4 H4 (if k then fc δ>>=λw=>g' dy w else pure (.bl false)) M4)
 have key:∃k,dz=.bl k/\Go X.mg E (Cv X.mg) Q ρ3 H3 (if k then fc δ>>=λw=>g' dy w else pure (.bl false)) M3:=by
  cases dz with
  |bl k=>exact⟨k,rfl,g4⟩
  |_=>obtain⟨r,e,_⟩:=g4;cases e
 obtain⟨k,rfl,g6⟩:=key;cases c3;refine⟨k,rfl,?_⟩;cases k with
 |false=>exact iteF (g6.pure ρ3 H3 _ .refl j3 (.bl false))
 |true=>
   have g6:Go X.mg E (Cv X.mg) Q ρ3 H3 (fc δ>>=λw=>g' dy w) M3:=g6
   exact iteT ⟨ρ3,δ,M3,((ev.mono e1).mono e2).mono e3,j3,g6.bind λρ4 H4 M4 w dw e4 j4 c4 g7=>⟨ρ4,M4,dy,dw,j4,(c2.mono e3).mono e4,c4,g7⟩⟩
theorem Ig{op op':CmpOp}{g g':D->D->DM D}(ho:bM X E (compareOp op) g)(ho':bM X E (compareOp op') g')(ha:DE X E a fa)(hb:DE X E b fb)(hc:DE X E c fc)(hm:lastMarks [op,op'] [b,c]=false:=by with_unfolding_all rfl):
  DE X E (.Compare a [op,op'] [b,c] pos) (λδ=>fa δ>>=λx=>fb δ>>=λy=>g x y>>=λz=>eN z>>=λk=>if k then fc δ>>=λw=>g' y w else pure (.bl false)):=
 ⟨PE.mono (pe_chain ho ho' ha.h hb.h hc.h hm) λσ H Q h=>Q4 h⟩
theorem yH{op op':CmpOp}{g g':D->D->DM D}(ho:bM X E (compareOp op) g)(ho':bM X E (compareOp op') g')(ha:DE X E a fa)(hb:DE X E b fb)(hc:DE X E c fc)(hm:lastMarks [op,op'] [b,c]=false:=by with_unfolding_all rfl):
  DT X E (.Compare a [op,op'] [b,c] pos) (λδ=>(fa δ>>=λx=>fb δ>>=λy=>g x y>>=λz=>eN z>>=λk=>if k then fc δ>>=λw=>g' y w else pure (.bl false))>>=eN):=
 dt_of (pt_chain ho ho' ha.h hb.h hc.h hm) λσ H Q h=>Q4 h
noncomputable def uy:D->Mo->Option Bool
 |.non,_=>some false
 |.bl b,_=>some b
 |.int i,_=>some (i != 0)
 |.str y,_=>if y.length<=sizeLine then some ((y.length:Int) != 0) else none
 |.tup l,_=>some (!l.isEmpty)
 |.lst l,_=>some (!l.isEmpty)
 |.scr l,_=>some (!l.isEmpty)
 |.dic ks _,_=>some (!ks.isEmpty)
 |.ref n,M=>match M[n]? with
   |some (.lst l)=>some (!l.isEmpty)
   |some (.dic ks _)=>some (!ks.isEmpty)
   |_=>none
 |_,_=>none
theorem xf{α β:Type}{ks:List α}{xs:List β}(h:ks.length=xs.length):(ks.zip xs).isEmpty=ks.isEmpty:=by
 cases ks with
 |nil=>simp
 |cons k ks=>cases xs with
   |nil=>simp at h
   |cons x xs=>rfl
theorem Cvs.empty{mg:Str->Option Value}{ρ:Rh}{H:Hp}{vs:List V}{ds:List D}(c:Cvs mg ρ H vs ds):vs.isEmpty=ds.isEmpty:=by cases c<;>rfl
set_option tactic.hygienic true in
theorem Pu{K:PySem.W.Frag}{mg:Str->Option Value}{ρ:Rh}{H:Hp}{M:Mo}{x:V}{d:D}{k:Bool}(j:J mg ρ M H)(h:Cv mg ρ H x d)(e:uy d M=some k):TruV K x H k:=by
 cases h with
 |non=>cases e;rfl
 |bl b=>cases e;rfl
 |int i=>cases e;rfl
 |str y=>
   unfold uy at e;dsimp only at e;split at e
   ·cases e;exact⟨‹_›,rfl⟩
   ·cases e
 |tup n h c=>cases e;exact .inr (.inl ⟨_,SqT.of h,by rw[c.empty]⟩)
 |lst n h c=>cases e;exact .inl ⟨_,SqL.of h,by rw[c.empty]⟩
 |scr n h=>cases e;exact .inl ⟨_,.inl h,by simp⟩
 |dic n h l c=>cases e;exact .inr (.inr ⟨_,h,by rw[xf l]⟩)
 | ref q=>
   rename_i n a;unfold uy at e;dsimp only at e;split at e
   ·rename_i l hl;cases e;obtain⟨xs,h,c⟩:=j.obj n a _ q hl;exact .inl ⟨_,SqL.of h,by rw[c.empty]⟩
   ·rename_i ks l hl;cases e;obtain⟨xs,h,z,c⟩:=j.obj n a _ q hl;exact .inr (.inr ⟨_,h,by rw[xf z]⟩)
   ·cases e
 |obj=>cases e
 |cls=>cases e
 |ty=>cases e
 |exn=>cases e
theorem bw(ha:DE X E a fa)(he:∀whole,isTrue a X.env whole=(do let v <-whole;standAt a.pos;holding [v] (truthy v))):DT X E a (λδ=>fa δ>>=λx=>rd (uy x)):=⟨PT.mono (pt_truth ha.h he) λσ H Q h=>by
 obtain⟨ρ,δ,M,ev,j,g1⟩:=h;refine⟨ρ,δ,M,ev,j,g1.bind λρ1 H1 M1 x dx e1 j1 c1 g2=>?_⟩
 obtain⟨k,e,q⟩:=g2.rd;exact⟨k,Pu j1 c1 e,q ρ1 H1 k .refl j1 rfl⟩⟩
variable{ta tb:ak->DM Bool}
theorem bL(ha:DT X E a ta):DT X E (.UnaryOp .Not a pos) (λδ=>ta δ>>=λk=>pure (!k)):=⟨PT.mono (pt_not ha.h) λσ H Q h=>by
 obtain⟨ρ,δ,M,ev,j,g1⟩:=h;refine⟨ρ,δ,M,ev,j,g1.bind λρ1 H1 M1 x dx e1 j1 c1 g2=>?_⟩
 have c1:x=dx:=c1;subst c1;exact g2.pure ρ1 H1 _ .refl j1 rfl⟩
structure DW(X:Cx)(E:XK)(e:Expr)(f:ak->DM Bool):Prop where
 h:PW X e (tD X.mg E Bv f)
theorem PW.mono{e:Expr}{t t':TT}(h:PW X e t)(f:∀σ H Q,t' σ H Q->t σ H Q):PW X e t':=λw Yk s σ H Q I q=>h w Yk s σ H Q I (f σ H Q q)
theorem DW.dt{e:Expr}(h:DW X E e ta):DT X E e ta:=⟨PW.pt h.h⟩
theorem vA(ha:DT X E a ta):DW X E (.BoolOp .And [a] pos) ta:=⟨pw_and1 ha.h⟩
theorem dg(ha:DT X E a ta):DW X E (.BoolOp .Or [a] pos) ta:=⟨pw_or1 ha.h⟩
variable{rest:List Expr}
theorem yI(ha:DT X E a ta)(hb:DW X E (.BoolOp .And (b::rest) pos) tb):DW X E (.BoolOp .And (a::b::rest) pos) (λδ=>ta δ>>=λk=>if k then tb δ else pure false):=⟨PW.mono (pw_and ha.h hb.h) λσ H Q h=>by
 obtain⟨ρ,δ,M,ev,j,g1⟩:=h;refine⟨ρ,δ,M,ev,j,g1.bind λρ1 H1 M1 x dx e1 j1 c1 g2=>?_⟩
 have c1:x=dx:=c1;subst c1;cases x with
 |true=>exact iteT ⟨ρ1,δ,M1,ev.mono e1,j1,g2⟩
 |false=>exact iteF (Go.pure (a:=false) g2 ρ1 H1 _ .refl j1 rfl)⟩
theorem cZ(ha:DT X E a ta)(hb:DW X E (.BoolOp .Or (b::rest) pos) tb):DW X E (.BoolOp .Or (a::b::rest) pos) (λδ=>ta δ>>=λk=>if k then pure true else tb δ):=⟨PW.mono (pw_or ha.h hb.h) λσ H Q h=>by
 obtain⟨ρ,δ,M,ev,j,g1⟩:=h;refine⟨ρ,δ,M,ev,j,g1.bind λρ1 H1 M1 x dx e1 j1 c1 g2=>?_⟩
 have c1:x=dx:=c1;subst c1;cases x with
 |false=>exact iteF ⟨ρ1,δ,M1,ev.mono e1,j1,g2⟩
 |true=>exact iteT (Go.pure (a:=true) g2 ρ1 H1 _ .refl j1 rfl)⟩
theorem mV{op:BoolOp}(ha:DE X E a fa):DE X E (.BoolOp op [a] pos) fa:=⟨pe_one ha.h⟩
theorem Go.isB{mg:Str->Option Value}{ρ:Rh}{H:Hp}{α β:Type}{rel:Rh->Hp->β->α->Prop}{Q:β->Hp->Prop}{d:D}{M:Mo}{f:Bool->DM α}(g:Go mg E rel Q ρ H (L3.eN d>>=f) M):∃k,d=.bl k/\Go mg E rel Q ρ H (f k) M:=by
 cases d with
 |bl k=>exact⟨k,rfl,g⟩
 |_=>obtain⟨r,e,_⟩:=g;cases e
theorem mU(ha:DE X E a fa)(hb:DE X E (.BoolOp .And (b::rest) pos) fb):DE X E (.BoolOp .And (a::b::rest) pos) (λδ=>fa δ>>=λx=>eN x>>=λk=>if k then fb δ else pure (.bl false)):=⟨PE.mono (pe_and ha.h hb.h) λσ H Q h=>by
 obtain⟨ρ,δ,M,ev,j,g1⟩:=h;refine⟨ρ,δ,M,ev,j,g1.bind λρ1 H1 M1 x dx e1 j1 c1 g2=>?_⟩
 obtain⟨k,rfl,g3⟩:=Go.isB g2;cases c1;refine⟨k,rfl,?_⟩;cases k with
 |true=>exact iteT ⟨ρ1,δ,M1,ev.mono e1,j1,g3⟩
 |false=>exact iteF (Go.pure (a:=D.bl false) g3 ρ1 H1 _ .refl j1 (.bl false))⟩
theorem yE(ha:DE X E a fa):DE X E (.UnaryOp .Not a pos) (λδ=>fa δ>>=λx=>eN x>>=λk=>pure (.bl (!k))):=⟨PE.mono (pe_not ha.h) λσ H Q h=>by
 obtain⟨ρ,δ,M,ev,j,g1⟩:=h;refine⟨ρ,δ,M,ev,j,g1.bind λρ1 H1 M1 x dx e1 j1 c1 g2=>?_⟩
 obtain⟨k,rfl,g3⟩:=Go.isB g2;cases c1;exact⟨k,rfl,g3.pure ρ1 H1 _ .refl j1 (.bl _)⟩⟩
theorem aj:DA X E [] (λz=>pure []):=⟨⟨PA.mono Ot.h λσ H Q h=>by obtain⟨ρ,δ,M,ev,j,g⟩:=h;exact g.pure ρ H [] .refl j .nil⟩⟩
theorem ao{es:List Expr}{fs:ak->DM (List D)}(ha:DE X E a fa)(hr:DA X E es fs)(hs:autoParam (notStar a=true) qAA):DA X E (a::es) (λδ=>fa δ>>=λx=>fs δ>>=λxs=>pure (x::xs)):=⟨⟨PA.mono (Rt ha.h hr.h hs).h λσ H Q h=>by obtain⟨ρ,δ,M,ev,j,g1⟩:=h;exact⟨ρ,δ,M,ev,j,g1.bind λρ1 H1 M1 x dx e1 j1 c1 g2=>⟨ρ1,δ,M1,ev.mono e1,j1,g2.bind λρ2 H2 M2 xs dxs e2 j2 c2 g3=>g3.pure ρ2 H2 _ .refl j2 (.cons (c1.mono e2) c2)⟩⟩⟩⟩
noncomputable def fu{α:Type}(l:List α):Bool:=decide (l.length<=sizeLine)
noncomputable def ie(l:List D):DM D:=opt (if fu l then some (.tup l) else none)
noncomputable def dH(l:List D):DM D:=opt (if fu l then some (.lst l) else none)
noncomputable def gM(l:List D):DM D:=λM=>if fu l then some (.ok (.ref M.length),M++[.lst l]) else none
set_option tactic.hygienic true in
theorem uU{l:List D}{d e:D}(h:(if fu l then some d else none)=some e):l.length<=sizeLine/\d=e:=by
 split at h
 ·cases h;exact⟨UG ‹_›,rfl⟩
 ·cases h
variable{es:List Expr}{fs:ak->DM (List D)}
theorem bh{x1}(h:DA X E es fs):DE X E (.Tuple es x1 pos) (λδ=>fs δ>>=ie):=⟨PE.mono (Lg h.h) λσ H Q h=>by
 obtain⟨ρ,δ,M,ev,j,g1⟩:=h;refine⟨ρ,δ,M,ev,j,g1.bind λρ1 H1 M1 xs dxs e1 j1 c1 g2=>?_⟩
 obtain⟨d,e,q⟩:=Go.opt g2;obtain⟨hz,rfl⟩:=uU e;exact⟨by rw[c1.len];exact hz,λp hp=>q ρ1 _ _ (.lay hp) (j1.lay _ hp) (.tup (j1.fresh hp) upd_same (c1.mono (.lay hp)))⟩⟩
theorem bF(h:DA X E es fs):DE X E (.List es pos) (λδ=>fs δ>>=dH):=⟨PE.mono (BJ h.h) λσ H Q h=>by
 obtain⟨ρ,δ,M,ev,j,g1⟩:=h;refine⟨ρ,δ,M,ev,j,g1.bind λρ1 H1 M1 xs dxs e1 j1 c1 g2=>?_⟩
 obtain⟨d,e,q⟩:=Go.opt g2;obtain⟨hz,rfl⟩:=uU e;exact⟨by rw[c1.len];exact hz,λp hp=>q ρ1 _ _ (.lay hp) (j1.lay _ hp) (.lst (j1.fresh hp) upd_same (c1.mono (.lay hp)))⟩⟩
set_option tactic.hygienic true in
theorem Go.gM{mg:Str->Option Value}{ρ:Rh}{H:Hp}{M:Mo}{Q:VK}{l:List D}{xs:List V}{p:Addr}(g:Go mg E (Cv mg) Q ρ H (gM l) M)(j:J mg ρ M H)(c:Cvs mg ρ H xs l)(hp:H p=none):l.length<=sizeLine/\Q (.ref p) (upd H p (.lst xs)):=by
 obtain⟨r,e,q⟩:=g;unfold L3.gM at e;split at e
 ·cases e;refine⟨UG ‹_›,?_⟩;have x:Ext ρ H (ρ.put p) (upd H p (.lst xs)):=.put hp;refine q _ _ _ x (j.put hp ⟨xs,upd_same,c.mono x⟩) (.ref ?_);show (ρ.st++[p])[_]?=_;rw[<-j.len];simp
 ·cases e
set_option tactic.hygienic true in
theorem Go.mkR_len{mg:Str->Option Value}{ρ:Rh}{H:Hp}{M:Mo}{Q:VK}{l:List D}(g:Go mg E (Cv mg) Q ρ H (L3.gM l) M):l.length<=sizeLine:=by
 obtain⟨r,e,q⟩:=g;unfold L3.gM at e;split at e
 ·exact UG ‹_›
 ·cases e
theorem qN(h:DA X E es fs):DE X E (.List es pos) (λδ=>fs δ>>=gM):=⟨PE.mono (BJ h.h) λσ H Q h=>by
 obtain⟨ρ,δ,M,ev,j,g1⟩:=h;refine⟨ρ,δ,M,ev,j,g1.bind λρ1 H1 M1 xs dxs e1 j1 c1 g2=>?_⟩
 exact⟨by rw[c1.len];exact g2.mkR_len,λp hp=>(g2.gM j1 c1 hp).2⟩⟩
end
section
variable{X:Cx}{E:XK}{mg:Str->Option Value}{ρ:Rh}{H:Hp}{M:Mo}
theorem Go.rdb(g:Go mg E rel Q ρ H (L3.rd f>>=k) M):∃a,f M=some a/\Go mg E rel Q ρ H (k a) M:=by
 obtain⟨r,e,p⟩:=g;have e:DM.bind _ _ M=some r:=e;unfold DM.bind L3.rd at e;cases h:f M with
 |none=>rw[h]at e;cases e
 |some a=>rw[h]at e;exact⟨a,rfl,r,e,p⟩
theorem bM.of{f:Value->Value->Sem Value}{g:D->D->Mo->Option D}(hr:OpR X f r)
  (h:∀x y H Q ρ M dx dy d,J X.mg ρ M H->Cv X.mg ρ H x dx->Cv X.mg ρ H y dy->g dx dy M=some d->(∀ρ' H' v,Ext ρ H ρ' H'->J X.mg ρ' M H'->Cv X.mg ρ' H' v d->Q v H')->r x y H Q):bM X E f (λx y=>rd (g x y)):=by
 intro Yk s σ H x y v u Q I rx ry q;obtain⟨ρ,M,dx,dy,j,cx,cy,go⟩:=q;obtain⟨d,e,p⟩:=go.rd;exact hr Yk s σ H x y v u Q I rx ry (h x y H Q ρ M dx dy d j cx cy e p)
noncomputable def aX:D->Mo->Option (List D)
 |.lst l,_=>some l
 |.ref n,M=>match M[n]? with
   |some (.lst l)=>some l
   |_=>none
 |_,_=>none
set_option tactic.hygienic true in
theorem cM(j:J mg ρ M H){l:List D}(c:Cv mg ρ H x d)(e:aX d M=some l):∃ a xs,x=.ref a/\H a=some (.lst xs)/\Cvs mg ρ H xs l:=by
 cases c with
 |lst n h c=>cases e;exact⟨_,_,rfl,h,c⟩
 | ref q=>
   unfold aX at e;dsimp only at e;split at e
   ·rename_i l' hl;cases e;obtain⟨xs,h,c⟩:=j.obj _ _ _ q hl;exact⟨_,_,rfl,h,c⟩
   ·cases e
 |_=>cases e
theorem J.notup(j:J mg ρ M H)(h:H p=Option.some (HO.tup xs)):p∉ρ:=λz=>by
 rcases z with z | z
 rotate_left
 ·obtain⟨_,ys,e⟩:=j.vol p z;rw[h]at e;cases e
 obtain⟨n,hn⟩:=VF.mp z;have lt:n<M.length:=by rw[<-j.len];exact (Ti.mp hn).1
 have c:=j.obj n p M[n] hn (Tj lt);cases hm:M[n] with
 |lst l=>rw[hm]at c;obtain⟨xs,e,_⟩:=c;rw[h]at e;cases e
 |dic ks l=>rw[hm]at c;obtain⟨xs,e,_⟩:=c;rw[h]at e;cases e
 |ins c' ns l=>rw[hm]at c;obtain⟨_,_,_,_,e,_⟩:=c;rw[h]at e;cases e
noncomputable def Py(l:List D):Option D:=if fu l then some (.tup l) else none
noncomputable def I9(l:List D):Option D:=if fu l then some (.lst l) else none
noncomputable def b8:D->D->Mo->Option D
 |.int i,.int j,_=>some (.int (i+j))
 |.str a,.str b,_=>if a.length+b.length<=sizeLine then some (.str (a++b)) else none
 |.tup l,.tup m,_=>Py (l++m)
 |x,y,M=>match aX x M,aX y M with
   |some l,some m=>I9 (l++m)
   |_,_=>none
set_option tactic.hygienic true in
theorem HR(h:b8 x y M=some d):(∃ i j,x=.int i/\y=.int j/\d=.int (i + j))\/(∃ a b,x=.str a/\y=.str b/\a.length + b.length<=sizeLine/\d=.str (a++b))\/(∃ l m,x=.tup l/\y=.tup m/\l.length + m.length<=sizeLine/\d=.tup (l++m)) \/
  ∃l m,aX x M=some l/\aX y M=some m/\l.length+m.length<=sizeLine/\d=.lst (l++m):=by
 unfold b8 at h;split at h
 ·cases h;exact .inl ⟨_,_,rfl,rfl,rfl⟩
 ·split at h
  ·cases h;exact .inr (.inl ⟨_,_,rfl,rfl,‹_›,rfl⟩)
  ·cases h
 ·obtain⟨hz,rfl⟩:=uU h;rw[T3]at hz;exact .inr (.inr (.inl ⟨_,_,rfl,rfl,hz,rfl⟩))
 ·split at h
  ·rename_i l m h1 h2;obtain⟨hz,rfl⟩:=uU h;rw[T3]at hz;exact .inr (.inr (.inr ⟨l,m,h1,h2,hz,rfl⟩))
  ·cases h
theorem aY:bM X E (binaryOp .Add) (λx y=>rd (b8 x y)):=by
 refine bM.of (op_add.or (op_add_str.or (K7.or op_cat))) λx y H Q ρ M dx dy d j cx cy e q=>?_
 rcases HR e with ⟨i,k,rfl,rfl,rfl⟩ | ⟨i,k,rfl,rfl,hz,rfl⟩ | ⟨l,m,rfl,rfl,hz,rfl⟩ | ⟨l,m,h1,h2,hz,rfl⟩
 ·cases cx;cases cy;exact .inl ⟨_,_,rfl,rfl,q ρ H _ .refl j (.int _)⟩
 ·cases cx;cases cy;exact .inr (.inl ⟨_,_,rfl,rfl,hz,q ρ H _ .refl j (.str _)⟩)
 ·cases cx with | tup n1 a1 c1=>cases cy with | tup n2 a2 c2=>
  refine .inr (.inr (.inl ⟨_,_,_,_,rfl,rfl,a1,a2,by rw[c1.len,c2.len];exact hz,λp H' S hp=>?_⟩))
  exact q ρ H' _ (.same S) (j.same S) (.tup ((j.same S).notup hp) hp ((c1.append c2).mono (.same S)))
 ·obtain⟨a1,x1,rfl,a2,c1⟩:=cM j cx h1;obtain⟨b1,y1,rfl,b2,c2⟩:=cM j cy h2;refine .inr (.inr (.inr ⟨_,_,_,_,rfl,rfl,a2,b2,by rw[c1.len,c2.len];exact hz,λp hp=>?_⟩))
  exact q ρ _ _ (.lay hp) (j.lay _ hp) (.lst (j.fresh hp) upd_same ((c1.append c2).mono (.lay hp)))
noncomputable def cX(C:Int->Int->Bool)(g:Int->Int->D):D->D->Mo->Option D
 |.int i,.int j,_=>if C i j then some (g i j) else none
 |_,_,_=>none
set_option tactic.hygienic true in
theorem vD(h:cX C g x y M=some d):∃i j,x=.int i/\y=.int j/\C i j=true/\d=g i j:=by
 unfold cX at h;split at h
 ·split at h
  ·cases h;exact⟨_,_,rfl,rfl,‹_›,rfl⟩
  ·cases h
 ·cases h
theorem q9{f:Value->Value->Sem Value}{C:Int->Int->Bool}{g:Int->Int->Int}{P:Int->Int->Prop}(hr:OpR X f (rI P λi j=>.int (g i j)))(hc:∀i j,C i j=true->P i j):bM X E f (λx y=>rd (cX C (λi j=>.int (g i j)) x y)):=
 bM.of hr λx y H Q ρ M dx dy d j cx cy e q=>by obtain⟨i,k,rfl,rfl,hh,rfl⟩:=vD e;cases cx;cases cy;exact⟨_,_,rfl,rfl,hc _ _ hh,q ρ H _ .refl j (.int _)⟩
theorem zA{f:Value->Value->Sem Value}{g:Int->Int->Int}(hr:OpR X f (rI0 λi j=>.int (g i j))):bM X E f (λx y=>rd (cX (λz z=>true) (λi j=>.int (g i j)) x y)):=
 bM.of hr λx y H Q ρ M dx dy d j cx cy e q=>by obtain⟨i,k,rfl,rfl,hh,rfl⟩:=vD e;cases cx;cases cy;exact⟨_,_,rfl,rfl,q ρ H _ .refl j (.int _)⟩
theorem qZ{f:Value->Value->Sem Value}{g:Int->Int->Bool}(hr:OpR X f (rI0 λi j=>.bl (g i j))):bM X E f (λx y=>rd (cX (λz z=>true) (λi j=>.bl (g i j)) x y)):=
 bM.of hr λx y H Q ρ M dx dy d j cx cy e q=>by obtain⟨i,k,rfl,rfl,hh,rfl⟩:=vD e;cases cx;cases cy;exact⟨_,_,rfl,rfl,q ρ H _ .refl j (.bl _)⟩
noncomputable abbrev vX:D->D->Mo->Option D:=cX (λ_ _=>true) λi j=>.int (i-j)
theorem vN:bM X E (binaryOp .Sub) (λx y=>rd (vX x y)):=zA op_sub
noncomputable def gf(i j:Int):Bool:=!(decide (Builtin.Int.intBits i > shortFactorBits)&&decide (Builtin.Int.intBits j > shortFactorBits)&&Builtin.Int.intTooBig (Builtin.Int.intBits i+Builtin.Int.intBits j))
theorem gf.ok(h:gf i j=true):IntMulOk i j:=λz=>by unfold gf at h;rw[z]at h;cases h
noncomputable abbrev oE:D->D->Mo->Option D:=cX gf λi j=>.int (i*j)
theorem m9:bM X E (binaryOp .Mult) (λx y=>rd (oE x y)):=q9 K9 λi j h=>gf.ok h
noncomputable def qQ(i j:Int):Bool:=decide (0<j)&&!Builtin.divisionGoesByPylong i j
theorem Je:OpR X (binaryOp .FloorDiv) (rI (λi j=>qQ i j=true) λi j=>.int (i / j)):=opI λi j z z z z z hc q=>by
 unfold qQ at hc;have h0:0<j:=by have:=(U5 _ _).mp hc;exact UG this.1
 have h1:Builtin.divisionGoesByPylong i j=false:=by have:=(U5 _ _).mp hc;simpa using this.2
 have e:i.fdiv j=i / j:=Int.fdiv_eq_ediv_of_nonneg i (Int.le_of_lt h0);exact floordiv_int (Int.ne_of_gt h0) (by rw[e];exact q) (.inl h1)
noncomputable abbrev uM:D->D->Mo->Option D:=cX qQ λi j=>.int (i / j)
theorem oG:bM X E (binaryOp .FloorDiv) (λx y=>rd (uM x y)):=q9 Je λi j h=>h
noncomputable abbrev jR:D->D->Mo->Option D:=cX (λ_ j=>decide (0<j)) λi j=>.int (i%j)
theorem eU:bM X E (binaryOp .Mod) (λx y=>rd (jR x y)):=q9 op_mod λi j h=>UG h
noncomputable def JN(i j:Int):Bool:=decide (0<=j/\j<=1000000/\i.natAbs<2^64)
noncomputable abbrev Dq:D->D->Mo->Option D:=cX JN λi j=>.int (i^j.toNat)
theorem Bu:bM X E (binaryOp .Pow) (λx y=>rd (Dq x y)):=q9 op_pow λi j h=>UG (p:=0<=j/\j<=1000000/\i.natAbs<2^64) h
noncomputable abbrev wR:D->D->Mo->Option D:=cX (λ_ _=>true) λi j=>.bl (decide (i<j))
noncomputable abbrev wO:D->D->Mo->Option D:=cX (λ_ _=>true) λi j=>.bl (decide (i<=j))
noncomputable abbrev iQ:D->D->Mo->Option D:=cX (λ_ _=>true) λi j=>.bl (decide (j<i))
noncomputable abbrev Ga:D->D->Mo->Option D:=cX (λ_ _=>true) λi j=>.bl (decide (j<=i))
theorem qg:bM X E (compareOp .Lt) (λx y=>rd (wR x y)):=qZ op_lt
theorem uT:bM X E (compareOp .LtE) (λx y=>rd (wO x y)):=qZ op_le
theorem jT:bM X E (compareOp .Gt) (λx y=>rd (iQ x y)):=qZ op_gt
theorem zB:bM X E (compareOp .GtE) (λx y=>rd (Ga x y)):=qZ op_ge
noncomputable def eqP(x y:D):Option Bool:=match toPy x,toPy y with
 |some p,some q=>if p.canLay0&&q.canLay0&&decide (p.depth<=60) then some (PyData.eqv p q) else none
 |_,_=>none
noncomputable def eqB:D->D->Option Bool
 |.str a,.str b=>some (decide (a=b))
 |x,y=>eqP x y
noncomputable def cU(x y:D)(_:Mo):Option D:=(eqB x y).map .bl
noncomputable def fW(x y:D)(_:Mo):Option D:=(eqB x y).map λb=>.bl (!b)
set_option tactic.hygienic true in
theorem Nb(h:eqP x y=some b):∃ p q,toPy x=some p/\toPy y=some q/\p.canLay0=true/\q.canLay0=true/\p.depth<=60/\b=PyData.eqv p q:=by
 unfold eqP at h;split at h
 ·rename_i p q h1 h2;split at h
  ·rename_i hc;cases h;simp only[Bool.and_eq_true,decide_eq_true_eq]at hc;exact⟨p,q,h1,h2,hc.1.1,hc.1.2,hc.2,rfl⟩
  ·cases h
 ·cases h
theorem MT(h:eqB x y=some b):(∃a c,x=.str a/\y=.str c/\b=decide (a=c))\/eqP x y=some b:=by
 unfold eqB at h;split at h
 ·cases h;exact .inl ⟨_,_,rfl,rfl,rfl⟩
 ·exact .inr h
theorem LR:decide (V.str a=V.str c)=decide (a=c):=by rw[T7];simp
theorem Bs(h1:OpR X f (λx y H Q=>scal x y=true/\Q (.bl (n ^^ decide (x=y))) H))(h2:OpR X f (Jl X.K n)):bM X E f (λx y=>rd λz=>(eqB x y).map λb=>.bl (n ^^ b)):=by
 intro Yk s σ H x y v u Q I rx ry q;obtain⟨ρ,M,dx,dy,j,cx,cy,g⟩:=q;obtain⟨d,e,q⟩:=Go.rd g;obtain⟨b,hb,rfl⟩:=Tp.mp e;rcases MT hb with ⟨a,c,rfl,rfl,rfl⟩ | hb
 ·cases cx;cases cy;refine h1 Yk s σ H _ _ v u Q I rx ry ⟨rfl,?_⟩;rw[LR];exact q ρ H _ .refl j (.bl _)
 ·obtain⟨p,p',k1,k2,h3,h4,h5,rfl⟩:=Nb hb;refine h2 Yk s σ H x y v u Q I rx ry ⟨p,p',(cx.repF k1).toRep,(cy.repF k2).toRep,h3,h4,h5,?_⟩;have:=q ρ H _ .refl j (.bl _);cases n
  ·simpa using this
  ·simpa using this
theorem cR(hu:X.A.units+64<cLine):bM X E (compareOp .Eq) (λx y=>rd (cU x y)):=by
 have h:=Bs (X:=X) (E:=E) (n:=false) (f:=compareOp .Eq) (λYk s σ H x y v u Q I rx ry q=>op_eq (X:=X) Yk s σ H x y v u Q I rx ry ⟨q.1,by simpa using q.2⟩) (Oj hu)
 have e:(λx y=>(rd (cU x y):DM D))=λx y=>rd λz=>(eqB x y).map λb=>.bl (false ^^ b):=by funext x y;show rd _=rd _;congr 1;funext M;simp only[cU,Bool.false_xor,Bool.true_xor]
 rw[e];exact h
theorem cu(hu:X.A.units+64<cLine):bM X E (compareOp .NotEq) (λx y=>rd (fW x y)):=by
 have h:=Bs (X:=X) (E:=E) (n:=true) (f:=compareOp .NotEq) (λYk s σ H x y v u Q I rx ry q=>op_ne (X:=X) Yk s σ H x y v u Q I rx ry ⟨q.1,by simpa using q.2⟩) (Ol hu)
 have e:(λx y=>(rd (fW x y):DM D))=λx y=>rd λz=>(eqB x y).map λb=>.bl (true ^^ b):=by funext x y;show rd _=rd _;congr 1;funext M;simp only[fW,Bool.false_xor,Bool.true_xor]
 rw[e];exact h
theorem Cvs.rep(c:Cv mg ρ H v d):∀n,Cvs mg ρ H (List.replicate n v) (List.replicate n d)
 |0=>.nil
 |n+1=>.cons c (Cvs.rep c n)
noncomputable def Dy(l:List D)(k:Int):Option (List D):=if decide (-(2^63)<=k/\k<2^63/\l.length*k.toNat<=sizeLine) then some (List.replicate k.toNat l).flatten else none
theorem Cvs.reps{vs:List V}{ds:List D}(c:Cvs mg ρ H vs ds):∀n,Cvs mg ρ H (List.replicate n vs).flatten (List.replicate n ds).flatten
 |0=>.nil
 |n+1=>by rw[Vk,Vk,Vy,Vy];exact c.append (Cvs.reps c n)
noncomputable def uc(x y:D)(M:Mo):Option (List D):=match aX x M,y with
 |some l,.int k=>Dy l k
 |_,_=>none
set_option tactic.hygienic true in
theorem Bq{l:List D}(h:uc x y M=some l):∃ m k,aX x M=some m/\y=.int k/\(-(2 ^ 63)<=k/\k<2 ^ 63/\m.length * k.toNat<=sizeLine)/\l=(List.replicate k.toNat m).flatten:=by
 unfold uc at h;split at h
 ·rename_i m k h1;unfold Dy at h;split at h
  ·rename_i hk;cases h;exact⟨m,k,h1,rfl,UG hk,rfl⟩
  ·cases h
 ·cases h
theorem La:bM X E (binaryOp .Mult) (λx y=>rd (λM=>(uc x y M).map .lst)):=bM.of op_rep λx y H Q ρ M dx dy d j cx cy e q=>by
 obtain⟨l,e1,rfl⟩:=Tp.mp e;obtain⟨m,k,h1,rfl,⟨h2,h3,h4⟩,rfl⟩:=Bq e1;obtain⟨a,xs,rfl,ha,c⟩:=cM j cx h1;cases cy;refine⟨_,_,_,rfl,rfl,ha,h2,h3,by rw[c.len];exact h4,λp hp=>?_⟩
 exact q ρ _ _ (.lay hp) (j.lay _ hp) (.lst (j.fresh hp) upd_same ((Cvs.reps c _).mono (.lay hp)))
noncomputable def N8(x y:D):DM D:=rd (uc x y)>>=gM
theorem Lb:bM X E (binaryOp .Mult) N8:=by intro Yk s σ H x y v u Q I rx ry q;obtain⟨ρ,M,dx,dy,j,cx,cy,go⟩:=q;obtain⟨l,e1,g⟩:=Go.rdb go;obtain⟨m,k,h1,rfl,⟨h2,h3,h4⟩,rfl⟩:=Bq e1;obtain⟨a,xs,rfl,ha,c⟩:=cM j cx h1;cases cy;exact op_rep (X:=X) Yk s σ H _ _ v u Q I rx ry ⟨_,_,_,rfl,rfl,ha,h2,h3,by rw[c.len];exact h4,λp hp=>(g.gM j (Cvs.reps c _) hp).2⟩
noncomputable def Di:D->Mo->Option D
 |.int i,_=>some (.int (-i))
 |_,_=>none
theorem yD(ha:DE X E a fa):DE X E (.UnaryOp .USub a pos) (λδ=>fa δ>>=λx=>rd (Di x)):=⟨PE.mono (pe_un un_neg ha.h) λσ H Q h=>by
 obtain⟨ρ,δ,M,ev,j,g1⟩:=h;refine⟨ρ,δ,M,ev,j,g1.bind λρ1 H1 M1 x dx e1 j1 c1 g2=>?_⟩
 obtain⟨d,e,q⟩:=g2.rd;unfold Di at e;split at e
 ·cases e;cases c1;exact⟨_,rfl,q ρ1 H1 _ .refl j1 (.int _)⟩
 ·cases e⟩
theorem Cvs.at(c:Cvs mg ρ H vs ds)(h:atI ds i=some d):∃v,atI vs i=some v/\Cv mg ρ H v d:=by
 unfold atI at h ⊢
 rw[c.len];obtain⟨n,hn,e⟩:=Ud.mp h;obtain⟨v,e2,cv⟩:=c.get e;exact⟨v,by rw[hn];exact e2,cv⟩
noncomputable def bU:D->D->Mo->Option D
 |.tup l,.int i,_=>atI l i
 |.scr l,.int i,_=>(atI l i).map .int
 |x,.int i,M=>(aX x M).bind λl=>atI l i
 |_,_,_=>none
noncomputable def QZ(X:Cx)(E:XK)(g:D->D->DM D):Prop:=IxR X (rD X.mg E g)
set_option tactic.hygienic true in
theorem bj:QZ X E (λx y=>rd (bU x y)):=by
 intro value slice Yk s σ H x y v u Q I rx ry q hs;obtain⟨ρ,M,dx,dy,j,cx,cy,go⟩:=q;obtain⟨d,e,p⟩:=go.rd;unfold bU at e;split at e
 ·cases cy;cases cx with | tup n a c=>
  obtain⟨w,e2,cw⟩:=c.at e;exact ix_tup (X:=X) value slice Yk s σ H _ _ v u Q I rx ry ⟨_,_,_,_,rfl,rfl,SqT.of a,e2,p ρ H _ .refl j cw⟩ hs
 ·rename_i l i;cases cy;cases cx with | scr n a=>
  obtain⟨z,e1,rfl⟩:=Tp.mp e;have e2:atI (l.map V.int) i=some (V.int z):=by
   unfold atI at e1 ⊢
   rw[Tz];obtain⟨n,hn,e⟩:=Ud.mp e1;rw[hn];show (List.map V.int _)[n]?=_;rw[T8,e];rfl
  exact ix_list (X:=X) value slice Yk s σ H _ _ v u Q I rx ry ⟨_,_,_,_,rfl,rfl,.inl a,e2,p ρ H _ .refl j (.int z)⟩ hs
 ·cases cy;obtain⟨l,h1,e1⟩:=Ud.mp e;obtain⟨a,xs,rfl,ha,c⟩:=cM j cx h1;obtain⟨w,e2,cw⟩:=c.at e1;exact ix_list (X:=X) value slice Yk s σ H _ _ v u Q I rx ry ⟨_,_,_,_,rfl,rfl,SqL.of ha,e2,p ρ H _ .refl j cw⟩ hs
 ·cases e
theorem aU(hi:QZ X E g)(ha:DE X E a fa)(hb:DE X E b fb)(hs:PlainIx b:=by exact λw w=>rfl):DE X E (.Subscript a b pos) (λδ=>fa δ>>=λx=>fb δ>>=λy=>g x y):=
 ⟨PE.mono (pe_ix hi ha.h hb.h hs) λσ H Q h=>Bc (λw w w w z=>z) h⟩
noncomputable def Ar:D->DM (Option Int)
 |.int i=>pure (some i)
 |_=>stuck
noncomputable def cutD(xs:List D)(lo hi:Option Int):List D:=(xs.drop (HT.sIx xs.length 0 lo)).take (HT.sIx xs.length xs.length hi-HT.sIx xs.length 0 lo)
theorem Cvs.cut(c:Cvs mg ρ H vs ds)(lo hi:Option Int):Cvs mg ρ H (cutV vs lo hi) (cutD ds lo hi):=by unfold cutV cutD;rw[c.len];exact (c.drop _).take _
structure DP(X:Cx)(E:XK)(e:Option Expr)(f:ak->DM (Option Int)):Prop where
 h:PO X e (tD X.mg E (λ_ _ (b a:Option Int)=>b=a) f)
theorem PO.mono(h:PO X e t)(f:∀σ H Q,t' σ H Q->t σ H Q):PO X e t':=λYk s σ H Q I q=>h Yk s σ H Q I (f σ H Q q)
theorem dI:DP X E none (λz=>pure none):=⟨PO.mono po_none λσ H Q h=>by obtain⟨ρ,δ,M,ev,j,g⟩:=h;exact g.pure ρ H none .refl j rfl⟩
theorem cj(ha:DE X E a fa):DP X E (some a) (λδ=>fa δ>>=Ar):=⟨PO.mono (po_some ha.h) λσ H Q h=>by
 obtain⟨ρ,δ,M,ev,j,g1⟩:=h;refine⟨ρ,δ,M,ev,j,g1.bind λρ1 H1 M1 x dx e1 j1 c1 g2=>?_⟩
 cases dx with
 |int i=>cases c1;exact⟨i,rfl,Go.pure (a:=some i) g2 ρ1 H1 _ .refl j1 rfl⟩
 |_=>obtain⟨r,e,_⟩:=g2;cases e⟩
noncomputable def km(lo hi:Option Int):D->Mo->Option D
 |.tup l,_=>some (.tup (cutD l lo hi))
 |x,M=>(aX x M).map λl=>.lst (cutD l lo hi)
theorem Ry:SlR X (λx lo hi H Q=>∃ρ M dx d,J X.mg ρ M H/\Cv X.mg ρ H x dx/\km lo hi dx M=some d/\∀ρ' H' v,Ext ρ H ρ' H'->J X.mg ρ' M H'->Cv X.mg ρ' H' v d->Q v H'):=by
 intro Yk s σ H x v vl vu lo hi sl Q I rx hs pl pu h;obtain⟨ρ,M,dx,d,j,c,e,q⟩:=h;unfold km at e;split at e
 ·cases e;cases c with | tup n a c=>
  refine Ly (X:=X) Yk s σ H _ v vl vu lo hi sl Q I rx hs pl pu ⟨_,_,rfl,a,λp H' S hp=>?_⟩
  exact q ρ H' _ (.same S) (j.same S) (.tup ((j.same S).notup hp) hp ((c.cut lo hi).mono (.same S)))
 ·obtain⟨l,h1,rfl⟩:=Tp.mp e;obtain⟨a,xs,rfl,ha,c⟩:=cM j c h1;refine sl_list (X:=X) Yk s σ H _ v vl vu lo hi sl Q I rx hs pl pu ⟨_,_,rfl,SqL.of ha,λp hp=>?_⟩
  exact q ρ _ _ (.lay hp) (j.lay _ hp) (.lst (j.fresh hp) upd_same ((c.cut lo hi).mono (.lay hp)))
theorem cI{fa:ak->DM D}{lo hi:Option Expr}{fl fh:ak->DM (Option Int)}(ha:DE X E a fa)(hl:DP X E lo fl)(hh:DP X E hi fh):
  DE X E (.Subscript a (.Slice lo hi none p2) pos) (λδ=>fa δ>>=λx=>fl δ>>=λl=>fh δ>>=λh=>rd (km l h x)):=⟨PE.mono (pe_slice Ry ha.h hl.h hh.h) λσ H Q h=>by
 obtain⟨ρ,δ,M,ev,j,g1⟩:=h;refine⟨ρ,δ,M,ev,j,g1.bind λρ1 H1 M1 x dx e1 j1 c1 g2=>⟨ρ1,δ,M1,ev.mono e1,j1,g2.bind λρ2 H2 M2 l dl e2 j2 c2 g3=>⟨ρ2,δ,M2,(ev.mono e1).mono e2,j2,g3.bind λρ3 H3 M3 h dh e3 j3 c3 g4=>?_⟩⟩⟩
 have c2:l=dl:=c2;have c3:h=dh:=c3;subst c2 c3;obtain⟨d,e,q⟩:=g4.rd;exact⟨ρ3,M3,dx,d,j3,(c1.mono e2).mono e3,e,q⟩⟩
end
inductive Fl where
 |nx (δ:ak) | rt (d:D) | bk (δ:ak) | ct (δ:ak)
noncomputable def uB(mg:Str->Option Value)(ρ:Rh)(H:Hp)(D:Ends)(E:XK):R Fl×Mo->Prop
 |(.ok (.nx δ'),M')=>∀ρ' H' σ',Ext ρ H ρ' H'->J mg ρ' M' H'->Ev mg ρ' H' σ' δ'->D.nx σ' H'
 |(.ok (.bk δ'),M')=>∀ρ' H' σ',Ext ρ H ρ' H'->J mg ρ' M' H'->Ev mg ρ' H' σ' δ'->D.bk σ' H'
 |(.ok (.ct δ'),M')=>∀ρ' H' σ',Ext ρ H ρ' H'->J mg ρ' M' H'->Ev mg ρ' H' σ' δ'->D.ct σ' H'
 |(.ok (.rt d),M')=>∀ρ' H' v,Ext ρ H ρ' H'->J mg ρ' M' H'->Cv mg ρ' H' v d->D.rt v H'
 |(.exc c,M')=>∀ρ' H' C,Ext ρ H ρ' H'->J mg ρ' M' H'->mg c=some (.ref C)->E (.ref C) none H'
noncomputable def bC(mg:Str->Option Value)(E:XK)(D:Ends)(ρ:Rh)(H:Hp)(m:DM Fl)(M:Mo):Prop:=∃r,m M=some r/\uB mg ρ H D E r
section
variable{mg:Str->Option Value}{ρ ρ':Rh}{H H':Hp}{E:XK}{α β:Type}{rel:Rh->Hp->β->α->Prop}{D D':Ends}{Q':β->Hp->Prop}{M:Mo}
theorem uB.mono(e:Ext ρ H ρ' H')(h:uB mg ρ H D E r):uB mg ρ' H' D E r:=by
 obtain⟨r,M'⟩:=r;cases r with
 |ok a=>cases a<;>exact λρ2 H2 b e2 j c=>h ρ2 H2 b (e.trans e2) j c
 |exc c=>exact λρ2 H2 C e2 j m=>h ρ2 H2 C (e.trans e2) j m
set_option tactic.hygienic true in
theorem bC.bind(g:bC mg E D ρ H (m>>=k) M)
  (f:∀ρ1 H1 M1 b a,Ext ρ H ρ1 H1->J mg ρ1 M1 H1->rel ρ1 H1 b a->bC mg E D ρ1 H1 (k a) M1->Q' b H1):Go mg E rel Q' ρ H m M:=by
 obtain⟨r,e,p⟩:=g;have e:DM.bind m k M=some r:=e;unfold DM.bind at e;split at e
 ·cases e
 ·rename_i c M' em;cases e;exact⟨_,em,p⟩
 ·rename_i a M' em;exact⟨_,em,λρ1 H1 b x j c=>f ρ1 H1 M' b a x j c ⟨r,e,p.mono x⟩⟩
theorem bC.pure(g:bC mg E D ρ H (pure a) M):uB mg ρ H D E (.ok a,M):=by obtain⟨r,e,p⟩:=g;have e:some (R.ok a,M)=some r:=e;cases e;exact p
noncomputable def DQ(f g:ak->DM Fl):ak->DM Fl:=λδ=>f δ>>=λr=>match r with
 |.nx δ'=>g δ'
 |r=>Pure.pure r
set_option tactic.hygienic true in
theorem bC.seq(g:bC mg E D ρ H (f>>=k) M)
  (hn:∀δ' ρ1 H1 M1 σ1,Ext ρ H ρ1 H1->J mg ρ1 M1 H1->Ev mg ρ1 H1 σ1 δ'->bC mg E D ρ1 H1 (k (.nx δ')) M1->D'.nx σ1 H1)
  (hb:∀δ' ρ1 H1 M1 σ1,Ext ρ H ρ1 H1->J mg ρ1 M1 H1->Ev mg ρ1 H1 σ1 δ'->bC mg E D ρ1 H1 (k (.bk δ')) M1->D'.bk σ1 H1)
  (hc:∀δ' ρ1 H1 M1 σ1,Ext ρ H ρ1 H1->J mg ρ1 M1 H1->Ev mg ρ1 H1 σ1 δ'->bC mg E D ρ1 H1 (k (.ct δ')) M1->D'.ct σ1 H1)
  (hr:∀d ρ1 H1 M1 v,Ext ρ H ρ1 H1->J mg ρ1 M1 H1->Cv mg ρ1 H1 v d->bC mg E D ρ1 H1 (k (.rt d)) M1->D'.rt v H1):bC mg E D' ρ H f M:=by
 obtain⟨r,e,p⟩:=g;have e:DM.bind f k M=some r:=e;unfold DM.bind at e;split at e
 ·cases e
 ·rename_i c M' em;cases e;exact⟨_,em,p⟩
 ·rename_i a M' em;refine⟨_,em,?_⟩;cases a with
  |nx δ'=>exact λρ1 H1 b x j c=>hn δ' ρ1 H1 M' b x j c ⟨r,e,p.mono x⟩
  |bk δ'=>exact λρ1 H1 b x j c=>hb δ' ρ1 H1 M' b x j c ⟨r,e,p.mono x⟩
  |ct δ'=>exact λρ1 H1 b x j c=>hc δ' ρ1 H1 M' b x j c ⟨r,e,p.mono x⟩
  |rt d=>exact λρ1 H1 b x j c=>hr d ρ1 H1 M' b x j c ⟨r,e,p.mono x⟩
end
noncomputable def tS(mg:Str->Option Value)(E:XK)(f:ak->DM Fl):TS:=λD σ H=>∃ρ δ M,Ev mg ρ H σ δ/\J mg ρ M H/\bC mg E D ρ H (f δ) M
structure DS(X:Cx)(E:XK)(st:Stmt)(f:ak->DM Fl):Prop where
 h:PS X st (tS X.mg E f)
structure DSs(X:Cx)(E:XK)(st:List Stmt)(f:ak->DM Fl):Prop where
 h:PSs X st (tS X.mg E f)
theorem PS.mono(h:PS X e t)(f:∀D σ H,t' D σ H->t D σ H):PS X e t':=λYk s σ H D I q=>h Yk s σ H D I (f D σ H q)
theorem PSs.mono(h:PSs X e t)(f:∀D σ H,t' D σ H->t D σ H):PSs X e t':=λYk s σ H D I q=>h Yk s σ H D I (f D σ H q)
section
variable{X:Cx}{E:XK}{st:Stmt}{rest:List Stmt}{f g:ak->DM Fl}{e:Expr}{fe:ak->DM D}{pos:Pos}
theorem aW:DSs X E [] (λδ=>pure (.nx δ)):=⟨PSs.mono pss_nil λD σ H h=>by obtain⟨ρ,δ,M,ev,j,g⟩:=h;exact g.pure ρ H σ .refl j ev⟩
theorem aA(h:DS X E st f):DSs X E [st] f:=⟨pss_one h.h⟩
theorem az(h1:DS X E st f)(h2:DSs X E rest g):DSs X E (st::rest) (DQ f g):=⟨PSs.mono (pss_cons h1.h h2.h) λD σ H h=>by
 obtain⟨ρ,δ,M,ev,j,g1⟩:=h;refine⟨ρ,δ,M,ev,j,g1.seq (λδ' ρ1 H1 M1 σ1 e1 j1 ev1 g2=>⟨ρ1,δ',M1,ev1,j1,g2⟩) (λδ' ρ1 H1 M1 σ1 e1 j1 ev1 g2=>?_) (λδ' ρ1 H1 M1 σ1 e1 j1 ev1 g2=>?_) (λd ρ1 H1 M1 v e1 j1 c1 g2=>?_)⟩
 ·exact bC.pure g2 ρ1 H1 σ1 .refl j1 ev1
 ·exact bC.pure g2 ρ1 H1 σ1 .refl j1 ev1
 ·exact bC.pure g2 ρ1 H1 v .refl j1 c1⟩
theorem aD(he:DE X E e fe):DS X E (.Return (some e) pos) (λδ=>fe δ>>=λd=>pure (.rt d)):=⟨PS.mono (L2.ps_ret he.h) λD σ H h=>by obtain⟨ρ,δ,M,ev,j,g1⟩:=h;exact⟨ρ,δ,M,ev,j,g1.bind λρ1 H1 M1 v d e1 j1 c1 g2=>g2.pure ρ1 H1 v .refl j1 c1⟩⟩
theorem vz(he:DE X E e fe)(hs:autoParam (swapsWith e none pos.line X.env=pure false) qAA):DS X E (.Expr e pos) (λδ=>fe δ>>=λz=>pure (.nx δ)):=⟨PS.mono (ps_expr he.h hs) λD σ H h=>by obtain⟨ρ,δ,M,ev,j,g1⟩:=h;exact⟨ρ,δ,M,ev,j,g1.bind λρ1 H1 M1 v d e1 j1 c1 g2=>g2.pure ρ1 H1 σ .refl j1 (ev.mono e1)⟩⟩
theorem bf(hN:X.N.Nodup)(hi:X.N[i]?=some x)(hx:Loc X.env.scope x)(he:DE X E e fe)(hs:autoParam (swapsWith e (some (.Name x pos')) pos.line X.env=pure false) qAA)(hf:X.fn x=true\/X.env.scope.names.lookup x=some .local:=by first | exact .inl rfl | exact .inr rfl | assumption):
  DS X E (.Assign [.Name x pos'] e pos) (λδ=>fe δ>>=λd=>pure (.nx (δ.set i (some d)))):=⟨PS.mono (ps_set hN hi hx he.h hs hf) λD σ H h=>by
 obtain⟨ρ,δ,M,ev,j,g1⟩:=h;exact⟨ρ,δ,M,ev,j,g1.bind λρ1 H1 M1 v d e1 j1 c1 g2=>g2.pure ρ1 H1 _ .refl j1 ((ev.mono e1).set c1)⟩⟩
theorem bB(hc:DT X E c tc)(ha:DSs X E a f)(hb:DSs X E b g):DS X E (.If c a b pos) (λδ=>tc δ>>=λk=>if k then f δ else g δ):=⟨PS.mono (L2.ps_if hc.h ha.h hb.h) λD σ H h=>by
 obtain⟨ρ,δ,M,ev,j,g1⟩:=h;refine⟨ρ,δ,M,ev,j,g1.bind λρ1 H1 M1 x dx e1 j1 c1 g2=>?_⟩
 have c1:x=dx:=c1;subst c1;cases x with
 |true=>exact iteT ⟨ρ1,δ,M1,ev.mono e1,j1,g2⟩
 |false=>exact iteF ⟨ρ1,δ,M1,ev.mono e1,j1,g2⟩⟩
noncomputable def tG(mg:Str->Option Value)(E:XK)(fg:D->ak->DM ak):TG:=λv σ H Q=>∃ρ δ M d,Ev mg ρ H σ δ/\J mg ρ M H/\Cv mg ρ H v d/\Go mg E (Ev mg) Q ρ H (fg d δ) M
noncomputable def SM(mg:Str->Option Value)(E:XK)(fg:List D->ak->DM ak):TGs:=λvs σ H Q=>∃ρ δ M ds,Ev mg ρ H σ δ/\J mg ρ M H/\Cvs mg ρ H vs ds/\Go mg E (Ev mg) Q ρ H (fg ds δ) M
structure DG(X:Cx)(E:XK)(tg:Expr)(fg:D->ak->DM ak):Prop where
 h:PG X tg (tG X.mg E fg)
structure DGs(X:Cx)(E:XK)(tg:List Expr)(fg:List D->ak->DM ak):Prop where
 h:PGs X tg (SM X.mg E fg)
theorem PG.mono(h:PG X tg t)(f:∀v σ H Q,t' v σ H Q->t v σ H Q):PG X tg t':=λYk s σ H v u Q I r q=>h Yk s σ H v u Q I r (f v σ H Q q)
theorem PGs.mono(h:PGs X tg t)(f:∀v σ H Q,t' v σ H Q->t v σ H Q):PGs X tg t':=λYk s σ H v u Q I r q=>h Yk s σ H v u Q I r (f v σ H Q q)
noncomputable def gN(i:Nat):D->ak->DM ak:=λd δ=>pure (δ.set i (some d))
theorem aF(hN:X.N.Nodup)(hi:X.N[i]?=some x)(hx:Loc X.env.scope x)(hf:X.fn x=true\/X.env.scope.names.lookup x=some .local:=by first | exact .inl rfl | exact .inr rfl | assumption):DG X E (.Name x pos) (gN i):=
 ⟨PG.mono (pg_name hN hi hx hf) fun v σ H Q h=>by obtain⟨ρ,δ,M,d,ev,j,c,g1⟩:=h;exact Go.pure g1 ρ H _ .refl j (ev.set c)⟩
noncomputable def n6:List D->ak->DM ak
 |[],δ=>pure δ
 |_,_=>stuck
noncomputable def fJ(f:D->ak->DM ak)(fs:List D->ak->DM ak):List D->ak->DM ak
 |d::l,δ=>f d δ>>=λδ'=>fs l δ'
 |_,_=>stuck
theorem jB:DGs X E [] n6:=⟨PGs.mono pgs_nil λvs σ H Q h=>by
 obtain⟨ρ,δ,M,ds,ev,j,c,g1⟩:=h;cases c with
 |nil=>exact⟨rfl,Go.pure (a:=δ) g1 ρ H σ .refl j ev⟩
 |cons _ _=>obtain⟨r,e,_⟩:=g1;cases e⟩
theorem cJ(h1:DG X E e fg)(h2:DGs X E es fgs)(hs:autoParam ((assignEach (e::es) X.env).map (·.2)=assign e X.env::(assignEach es X.env).map (·.2)) qAA):DGs X E (e::es) (fJ fg fgs):=
 ⟨PGs.mono (pgs_cons h1.h h2.h hs) fun vs σ H Q h=>by
  obtain⟨ρ,δ,M,ds,ev,j,c,g1⟩:=h;cases c with
  |nil=>obtain⟨r,e,_⟩:=g1;cases e
  |cons c1 c2=>
    have g1:Go X.mg E (Ev X.mg) Q ρ H (fg _ δ>>=λδ'=>fgs _ δ') M:=g1
    exact⟨_,_,rfl,ρ,δ,M,_,ev,j,c1,g1.bind λρ1 H1 M1 σ1 δ1 e1 j1 ev1 g2=>⟨ρ1,δ1,M1,_,ev1,j1,c2.mono e1,g2⟩⟩⟩
noncomputable def gT(n:Nat)(fs:List D->ak->DM ak):D->ak->DM ak
 |.tup l,δ=>if l.length=n then fs l δ else stuck
 |_,_=>stuck
set_option tactic.hygienic true in
theorem mW(hc:X.calm=true)(h:DGs X E es fgs)(hn:autoParam ((assignEach es X.env).length=n) qAA)(hst:autoParam ((assignEach es X.env).findIdx? (·.1)=none) qAA):DG X E (.Tuple es k pos) (gT n fgs):=
 ⟨PG.mono (pg_tup hc h.h hn hst) fun v σ H Q h=>by
  obtain⟨ρ,δ,M,d,ev,j,c,g1⟩:=h;cases c with
  | tup nx a c=>
    have g1:Go X.mg E (Ev X.mg) Q ρ H (if _ then _ else _) M:=g1
    split at g1
    ·rename_i hl;exact⟨_,_,rfl,SqT.of a,by rw[c.len];exact hl,ρ,δ,M,_,ev,j,c,g1⟩
    ·obtain⟨r,e,_⟩:=g1;cases e
  |_=>obtain⟨r,e,_⟩:=g1;cases e⟩
noncomputable def DR:D->D->D->DM Unit
 | .ref n,.int k,v=>λM=>match M[n]? with
   |some (.lst l)=>match ixN l.length k with
     |some j=>some (.ok (),M.set n (.lst (l.set j v)))
     |none=>none
   |_=>none
 |_,_,_=>stuck
noncomputable def JP(mg:Str->Option Value)(E:XK)(gs:D->D->D->DM Unit):TSet:=λo i v H Q=>∃ρ M dO di dv,J mg ρ M H/\Cv mg ρ H o dO/\Cv mg ρ H i di/\Cv mg ρ H v dv/\Go mg E (λ_ _ (_:Unit) (_:Unit)=>True) (λz H'=>Q H') ρ H (gs dO di dv) M
set_option tactic.hygienic true in
theorem xH:PSet X (JP X.mg E DR):=by
 intro Yk s σ H o i v ov iv u Q I ro ri rv h;obtain⟨ρ,M,dO,di,dv,j,co,ci,cv,r,e,p⟩:=h;cases co with
 | ref hn=>
   cases ci with
   | int k=>
     rename_i n a;have e:(match M[n]? with
      |some (.lst l)=>match ixN l.length k with
        |some j=>some (R.ok (),M.set n (.lst (l.set j dv)))
        |none=>none
      |_=>none)=some r:=e
     split at e
     ·rename_i l hl;split at e
      ·rename_i q hq;cases e;obtain⟨xs,hx,c⟩:=j.obj _ _ _ hn hl;have x:Ext ρ H ρ (upd H a (.lst (xs.set q v))):=.upd (T9 hn);exact set_list (X:=X) Yk s σ H _ _ v ov iv u Q I ro ri rv ⟨_,_,_,q,rfl,rfl,hx,by rw[c.len];exact hq,p ρ _ () x (j.upd hn ⟨_,upd_same,(c.set cv q).mono x⟩) trivial⟩
      ·cases e
     ·cases e
   |_=>cases e
 |_=>cases e
theorem yG(ho:DE X E o fo)(hi:DE X E i fi)(hs:PSet X (JP X.mg E gs))
  (ha:∀v,assign (.Subscript o i pos) X.env v=(do
    let ov <-holding [v] (eval o X.env)
    let iv <-holding [v,ov] (eval i X.env)
    standAt pos
    holding [v,ov,iv] (setItem ov iv v)
    release [v,ov,iv] []):=by intro _;rfl):DG X E (.Subscript o i pos) (λd δ=>fo δ>>=λo=>fi δ>>=λi=>gs o i d>>=λz=>pure δ):=
 ⟨PG.mono (pg_sub ho.h hi.h hs ha) fun v σ H Q h=>by obtain⟨ρ,δ,M,d,ev,j,c,g1⟩:=h;exact⟨ρ,δ,M,ev,j,g1.bind λρ1 H1 M1 x dx e1 j1 c1 g2=>⟨ρ1,δ,M1,ev.mono e1,j1,g2.bind λρ2 H2 M2 y dy e2 j2 c2 g3=>⟨ρ2,M2,dx,dy,d,j2,c1.mono e2,c2,(c.mono e1).mono e2,g3.bind λρ3 H3 M3 _ _ e3 j3 _ g4=>g4.pure ρ3 H3 σ .refl j3 (((ev.mono e1).mono e2).mono e3)⟩⟩⟩⟩
theorem pQ(he:DE X E e fe)(hg:DG X E tg fg)(hs:autoParam (swapsWithSole [tg] e pos.line X.env=pure false) qAA)(hw:autoParam (swappedStores [tg] e X.env=pure none) qAA)
  (h1:autoParam ((assignEach [tg] X.env).map (·.2)=[assign tg X.env]) qAA):DS X E (.Assign [tg] e pos) (λδ=>fe δ>>=λd=>fg d δ>>=λδ'=>pure (.nx δ')):=⟨PS.mono (ps_asg he.h hg.h hs hw h1) λD σ H h=>by
 obtain⟨ρ,δ,M,ev,j,g1⟩:=h;exact⟨ρ,δ,M,ev,j,g1.bind λρ1 H1 M1 v d e1 j1 c1 g2=>⟨ρ1,δ,M1,d,ev.mono e1,j1,c1,g2.bind λρ2 H2 M2 σ2 δ2 e2 j2 ev2 g3=>g3.pure ρ2 H2 σ2 .refl j2 ev2⟩⟩⟩
noncomputable def Dl(i j:Nat)(fa:ak->DM (List D)):ak->DM Fl:=λδ=>fa δ>>=λl=>match l with
 |[v,w]=>pure (.nx ((δ.set i (some v)).set j (some w)))
 |_=>stuck
theorem pR{kt k2 pt2}(hc:X.calm=true)(hN:X.N.Nodup)(hi:X.N[i]?=some x)(hj:X.N[j]?=some y)(hij:i≠j)
  (hx:X.env.scope.names.lookup x=some .local) (hy:X.env.scope.names.lookup y=some .local) (ha:DA X E [a,b] fa)
  (hw:swappedStores [.Tuple [.Name x px,.Name y py] kt pt] (.Tuple [a,b] k2 pt2) X.env=pure (some [x,y]))
  (hs:autoParam (swapsWithSole [.Tuple [.Name x px,.Name y py] kt pt] (.Tuple [a,b] k2 pt2) pos.line X.env=pure false) qAA) :
  DS X E (.Assign [.Tuple [.Name x px,.Name y py] kt pt] (.Tuple [a,b] k2 pt2) pos) (Dl i j fa):=⟨PS.mono (ps_par hc hN hi hj hij hx hy ha.h.h hw hs) λD σ H h=>by
 obtain⟨ρ,δ,M,ev,j,g1⟩:=h;refine⟨ρ,δ,M,ev,j,bC.bind g1 λρ1 H1 M1 v d e1 j1 c1 g2=>?_⟩
 cases c1 with
 |nil=>obtain⟨r,e,_⟩:=g2;cases e
 | cons c1 c2=>cases c2 with
   |nil=>obtain⟨r,e,_⟩:=g2;cases e
   |cons c2 c3=>cases c3 with
     |nil=>exact⟨_,_,rfl,bC.pure (a:=.nx _) g2 ρ1 H1 _ .refl j1 (((ev.mono e1).set c1).set c2)⟩
     |cons _ _=>obtain⟨r,e,_⟩:=g2;cases e⟩
theorem Jf:bM X E (inplaceOp .Add) (λx y=>rd (cX (λz z=>true) (λi j=>.int (i+j)) x y)):=zA iop_add
end
inductive Itn where
 |fix (l:List D) | dyn (n:Nat)
noncomputable def Itn.next:Itn->Nat->Mo->Option (Option D)
 |.fix l,i,_=>some l[i]?
 |.dyn n,i,M=>match M[n]? with
   |some (.lst l)=>some l[i]?
   |_=>none
set_option tactic.hygienic true in
structure ItOk(mg:Str->Option Value)(ρ:Rh)(H:Hp)(Jt:It)(it:Itn):Prop where
 item:∀(i:Nat) ρ' H' M' d,Kp ρ H ρ' H'->J mg ρ' M' H'->it.next i M'=some (some d)->Jt.go i H'/\∀x H2,Jt.yld i H' x H2->Ext ρ' H' ρ' H2/\J mg ρ' M' H2/\Cv mg ρ' H2 x d
 stop:∀(i:Nat) ρ' H' M',Kp ρ H ρ' H'->J mg ρ' M' H'->it.next i M'=some none->Jt.stop i H'
noncomputable def tI(mg:Str->Option Value)(E:XK)(fi:ak->DM Itn):TI:=λσ H R=>tD mg E (ItOk mg) fi σ H R
structure DI(X:Cx)(E:XK)(tg it:Expr)(fi:ak->DM Itn):Prop where
 h:PI X tg it (tI X.mg E fi)
theorem PI.mono(h:PI X tg e t)(f:∀σ H Q,t' σ H Q->t σ H Q):PI X tg e t':=λYk s σ H Q I q=>h Yk s σ H Q I (f σ H Q q)
theorem Nq{K:PySem.W.Frag}{mg:Str->Option Value}{ρ:Rh}{H:Hp}{a:Addr}{xs:List V}{ds:List D}(n:a∉ρ)(h:H a=some (.lst xs))(c:Cvs mg ρ H xs ds):ItOk mg ρ H (Itl K a) (.fix ds) where
 item:=λi ρ' H' M' d e j q=>by
  have hq:ds[i]?=some d:=TJ q;obtain⟨v,hv,cv⟩:=c.get hq;have h':=(e.keep _ _ h n).2;refine⟨⟨xs,v,SqL.of h',hv⟩,λx H2 y=>?_⟩
  obtain⟨rfl,y⟩:=y;have:=y xs (SqL.of h');rw[hv]at this;cases this;exact⟨.refl,j,cv.kp e⟩
 stop:=λi ρ' H' M' e j q=>by have hq:ds[i]?=none:=TJ q;exact⟨xs,SqL.of (e.keep _ _ h n).2,by rw[c.len];exact Ul.mp hq⟩
theorem Nr{K:PySem.W.Frag}{mg:Str->Option Value}{ρ:Rh}{H:Hp}{a:Addr}{xs:List V}{ds:List D}(n:a∉ρ)(h:H a=some (.tup xs))(c:Cvs mg ρ H xs ds):ItOk mg ρ H (Itt K a) (.fix ds) where
 item:=λi ρ' H' M' d e j q=>by
  have hq:ds[i]?=some d:=TJ q;obtain⟨v,hv,cv⟩:=c.get hq;have h':=(e.keep _ _ h n).2;refine⟨⟨xs,v,SqT.of h',hv⟩,λx H2 y=>?_⟩
  obtain⟨rfl,y⟩:=y;have:=y xs (SqT.of h');rw[hv]at this;cases this;exact⟨.refl,j,cv.kp e⟩
 stop:=λi ρ' H' M' e j q=>by have hq:ds[i]?=none:=TJ q;exact⟨xs,SqT.of (e.keep _ _ h n).2,by rw[c.len];exact Ul.mp hq⟩
set_option tactic.hygienic true in
theorem Np{K:PySem.W.Frag}{mg:Str->Option Value}{ρ:Rh}{H:Hp}{a:Addr}{n:Nat}(h:ρ.st[n]?=some a):ItOk mg ρ H (Itl K a) (.dyn n) where
 item:=λi ρ' H' M' d e j q=>by
  have h':=e.at h;unfold Itn.next at q;dsimp only at q;split at q
  ·rename_i l hl;obtain⟨xs,hx,c⟩:=j.obj n a _ h' hl;have hq:l[i]?=some d:=TJ q;obtain⟨v,hv,cv⟩:=c.get hq;refine⟨⟨xs,v,SqL.of hx,hv⟩,λx H2 y=>?_⟩
   obtain⟨rfl,y⟩:=y;have:=y xs (SqL.of hx);rw[hv]at this;cases this;exact⟨.refl,j,cv⟩
  ·cases q
 stop:=λi ρ' H' M' e j q=>by
  have h':=e.at h;unfold Itn.next at q;dsimp only at q;split at q
  ·rename_i l hl;obtain⟨xs,hx,c⟩:=j.obj n a _ h' hl;have hq:l[i]?=none:=TJ q;exact⟨xs,SqL.of hx,by rw[c.len];exact Ul.mp hq⟩
  ·cases q
noncomputable def oO(lo:Int)(n:Nat):List D:=(List.range n).map λi=>.int (lo+(i:Nat))
theorem BX{lo:Int}{n i:Nat}:(oO lo n)[i]?=if i<n then some (.int (lo+(i:Nat))) else none:=by
 unfold oO;rw[T8];by_cases h:i<n
 ·rw[Tv h,Vz h];rfl
 ·rw[Tw h,Ul.mpr (by simp;lia)];rfl
set_option tactic.hygienic true in
theorem Gk{mg:Str->Option Value}{lo:Int}{n:Nat}:ItOk mg ρ H (Itr lo n) (.fix (oO lo n)) where
 item:=λi ρ' H' M' d e j q=>by
  have hq:(oO lo n)[i]?=some d:=TJ q;rw[BX]at hq;split at hq
  ·rename_i h;cases hq;refine⟨h,λx H2 y=>?_⟩
   obtain⟨rfl,rfl⟩:=y;exact⟨.refl,j,.int _⟩
  ·cases hq
 stop:=λi ρ' H' M' e j q=>by
  have hq:(oO lo n)[i]?=none:=TJ q;rw[BX]at hq;split at hq
  ·cases hq
  ·rename_i h;exact Wd.mp h
section
variable{X:Cx}{E:XK}{tg:Expr}
noncomputable def oU(i:Int):Bool:=decide (-(2^62)<=i/\i<2^62)
noncomputable def uh:List D->Option Itn
 |[.int j]=>if oU j then some (.fix (oO 0 j.toNat)) else none
 |_=>none
noncomputable def vP:List D->Option Itn
 |[.int i,.int j]=>if oU i&&oU j then some (.fix (oO i (j-i).toNat)) else none
 |_=>none
set_option tactic.hygienic true in
theorem bD(hg:Gl X "range")(hm:X.mg "range"=none)(ha:DA X E [a] fa)(hs:autoParam (notStar a=true) qAA):DI X E tg (.Call (.Name "range" p) [a] [] pos) (λδ=>fa δ >>= λl=>opt (uh l)):=
 ⟨PI.mono (Dm hg hm ha.h hs).h fun σ H R h=>by
  obtain⟨ρ,δ,M,ev,j,g1⟩:=h;refine⟨ρ,δ,M,ev,j,g1.bind λρ1 H1 M1 x dx e1 j1 c1 g2=>?_⟩
  obtain⟨it,e,q⟩:=g2.opt;unfold uh at e;split at e
  ·split at e
   ·rename_i hk;cases e;cases c1 with | cons c1 c2=>
    cases c2;cases c1;have hk:=UG hk;exact⟨_,rfl,hk.1,hk.2,q ρ1 H1 _ .refl j1 Gk⟩
   ·cases e
  ·cases e⟩
set_option tactic.hygienic true in
theorem wI(hg:Gl X "range")(hm:X.mg "range"=none)(ha:DA X E [a,b] fa)(hs:autoParam (notStar a=true) qAA)(hs2:autoParam (notStar b=true) qAA):DI X E tg (.Call (.Name "range" p) [a,b] [] pos) (λδ=>fa δ >>= λl=>opt (vP l)):=
 ⟨PI.mono (Dn hg hm ha.h hs hs2).h fun σ H R h=>by
  obtain⟨ρ,δ,M,ev,j,g1⟩:=h;refine⟨ρ,δ,M,ev,j,g1.bind λρ1 H1 M1 x dx e1 j1 c1 g2=>?_⟩
  obtain⟨it,e,q⟩:=g2.opt;unfold vP at e;split at e
  ·split at e
   ·rename_i hk;cases e;cases c1 with | cons c1 c2=>cases c2 with | cons c2 c3=>
    cases c3;cases c1;cases c2;have hk:=(U5 _ _).mp hk;have h1:=UG hk.1;have h2:=UG hk.2;exact⟨_,_,rfl,⟨h1.1,h1.2,h2.1,h2.2⟩,q ρ1 H1 _ .refl j1 Gk⟩
   ·cases e
  ·cases e⟩
noncomputable def o9:D->Option Itn
 |.tup l=>some (.fix l)
 |_=>none
noncomputable def uE:D->Mo->Option Itn
 |.lst l,_=>some (.fix l)
 |.ref n,M=>match M[n]? with
   |some (.lst _)=>some (.dyn n)
   |_=>none
 |_,_=>none
theorem cL(hl:DE X E l fl):DI X E tg l (λδ=>fl δ>>=λd=>opt (o9 d)):=⟨PI.mono (pi_tup hl.h) λσ H R h=>by
 obtain⟨ρ,δ,M,ev,j,g1⟩:=h;refine⟨ρ,δ,M,ev,j,g1.bind λρ1 H1 M1 x dx e1 j1 c1 g2=>?_⟩
 obtain⟨it,e,q⟩:=g2.opt;unfold o9 at e;split at e
 ·cases e;cases c1 with | tup n a c=>
  exact⟨_,rfl,⟨_,SqT.of a⟩,q ρ1 H1 _ .refl j1 (Nr n a c)⟩
 ·cases e⟩
set_option tactic.hygienic true in
theorem jM(hl:DE X E l fl):DI X E tg l (λδ=>fl δ >>= λd=>rd (uE d)):=⟨PI.mono (pi_list hl.h) λσ H R h=>by
 obtain⟨ρ,δ,M,ev,j,g1⟩:=h;refine⟨ρ,δ,M,ev,j,g1.bind λρ1 H1 M1 x dx e1 j1 c1 g2=>?_⟩
 obtain⟨it,e,q⟩:=g2.rd;unfold uE at e;split at e
 ·cases e;cases c1 with | lst n a c=>
  exact⟨_,rfl,⟨_,SqL.of a⟩,q ρ1 H1 _ .refl j1 (Nq n a c)⟩
 ·split at e
  ·rename_i l' hl';cases e;cases c1 with | ref hn=>
   obtain⟨xs,hx,_⟩:=j1.obj _ _ _ hn hl';exact⟨_,rfl,⟨xs,SqL.of hx⟩,q ρ1 H1 _ .refl j1 (Np hn)⟩
  ·cases e
 ·cases e⟩
end
noncomputable def forL(tg:D->ak->DM ak)(fb:ak->DM Fl):List D->ak->DM Fl
 |[],δ=>pure (.nx δ)
 |d::l,δ=>tg d δ>>=λδ1=>fb δ1>>=λr=>match r with
   |.nx δ2=>forL tg fb l δ2
   |.ct δ2=>forL tg fb l δ2
   |.bk δ2=>pure (.nx δ2)
   |.rt d=>pure (.rt d)
noncomputable def yP(tg:D->ak->DM ak)(fb:ak->DM Fl)(n:Nat):Nat->Nat->ak->DM Fl
 |0,_,_=>stuck
 | k + 1,i,δ=>rd (Itn.next (.dyn n) i) >>= λo=>match o with
   |none=>pure (.nx δ)
   |some d=>tg d δ>>=λδ1=>fb δ1>>=λr=>match r with
     |.nx δ2=>yP tg fb n k (i+1) δ2
     |.ct δ2=>yP tg fb n k (i+1) δ2
     |.bk δ2=>pure (.nx δ2)
     |.rt d=>pure (.rt d)
noncomputable def Nh(N:Nat)(tg:D->ak->DM ak)(fb:ak->DM Fl):Itn->ak->DM Fl
 |.fix l=>forL tg fb l
 |.dyn n=>yP tg fb n N 0
theorem bC.rdb{mg:Str->Option Value}{E:XK}{D:Ends}{ρ:Rh}{H:Hp}{M:Mo}{γ:Type}{f:Mo->Option γ}{k:γ->DM Fl}(g:bC mg E D ρ H (L3.rd f>>=k) M):∃a,f M=some a/\bC mg E D ρ H (k a) M:=by
 obtain⟨r,e,p⟩:=g;have e:DM.bind _ _ M=some r:=e;unfold DM.bind L3.rd at e;cases h:f M with
 |none=>rw[h]at e;cases e
 |some a=>rw[h]at e;exact⟨a,rfl,r,e,p⟩
theorem yQ{X:Cx}{E:XK}{fg:D->ak->DM ak}{fb:ak->DM Fl}{D:Ends}{σ:L2.St}{H H':Hp}{ρ:Rh}{δ:ak}{M:Mo}{x:V}{d:L3.D}{N:L2.St->Hp->Prop}{again:ak->DM Fl}
  (ev:Ev X.mg ρ H σ δ) (e1:Ext ρ H ρ H') (j1:J X.mg ρ M H') (c1:Cv X.mg ρ H' x d) (ht:bC X.mg E D ρ H (fg d δ>>=λδ1=>fb δ1>>=λr=>match r with
    |.nx δ2=>again δ2
    |.ct δ2=>again δ2
    |.bk δ2=>pure (.nx δ2)
    |.rt d=>pure (.rt d)) M) (hN:∀ρ2 δ2 M2 σ2 H2,Ext ρ H ρ2 H2->Ev X.mg ρ2 H2 σ2 δ2->J X.mg ρ2 M2 H2->bC X.mg E D ρ2 H2 (again δ2) M2->N σ2 H2) :
  tG X.mg E fg x σ H' λσ2 H2=>tS X.mg E fb { D with nx:=N,ct:=N,bk:=D.nx } σ2 H2:=by
 obtain⟨r,er,p⟩:=ht;have ht':bC X.mg E D ρ H' _ M:=⟨r,er,p.mono e1⟩;refine⟨ρ,δ,M,d,ev.mono e1,j1,c1,bC.bind ht' λρ2 H2 M2 σ2 δ2 e2 j2 ev2 g2=>⟨ρ2,δ2,M2,ev2,j2,g2.seq (λδ' ρ3 H3 M3 σ3 e3 j3 ev3 g3=>?_) (λδ' ρ3 H3 M3 σ3 e3 j3 ev3 g3=>?_) (λδ' ρ3 H3 M3 σ3 e3 j3 ev3 g3=>?_) (λd' ρ3 H3 M3 v e3 j3 c3 g3=>?_)⟩⟩
 ·exact hN ρ3 δ' M3 σ3 H3 ((e1.trans e2).trans e3) ev3 j3 g3
 ·exact bC.pure (a:=.nx δ') g3 ρ3 H3 σ3 .refl j3 ev3
 ·exact hN ρ3 δ' M3 σ3 H3 ((e1.trans e2).trans e3) ev3 j3 g3
 ·exact bC.pure (a:=.rt d') g3 ρ3 H3 v .refl j3 c3
theorem bY{body:List Stmt}{fi:ak->DM Itn}{fg:D->ak->DM ak}{fb:ak->DM Fl}(N:Nat)(hp:PassesOwn (model X.prog X.w) X.A X.env X.xe)(hc:X.calm=true)(hi:DI X E tg iter fi)(hg:DG X E tg fg)(hb:DSs X E body fb)
  (hs:∀x,foldedSetIterable iter X.env x=pure x:=by intro _;rfl):DS X E (.For tg iter body [] pos) (λδ=>fi δ>>=λit=>Nh N fg fb it δ):=⟨PS.mono (ps_for hp hc hi.h hg.h hb.h hs) λD σ H h=>by
 obtain⟨ρ,δ,M,ev,j,g1⟩:=h;refine⟨ρ,δ,M,ev,j,g1.bind λρ1 H1 M1 Jt it e1 j1 iok g2=>?_⟩
 cases it with
 | fix l=>
   refine⟨λi m σ H=>∃ρ' δ' M',Ext ρ1 H1 ρ' H/\Ev X.mg ρ' H σ δ'/\J X.mg ρ' M' H/\m=(l.drop i).length/\bC X.mg E D ρ' H (forL fg fb (l.drop i) δ') M',⟨_,ρ1,δ,M1,.refl,ev.mono e1,j1,rfl,g2⟩,?_⟩
   rintro i m σ2 H2 ⟨ρ2,δ2,M2,e2,ev2,j2,rfl,g3⟩;cases hd:l[i]? with
   |none=>have hl:l.drop i=[]:=List.drop_eq_nil_of_le (Ul.mp hd);rw[hl]at g3;exact .inl ⟨iok.stop i ρ2 H2 M2 e2.kp j2 (congrArg some hd),bC.pure (a:=.nx δ2) g3 ρ2 H2 σ2 .refl j2 ev2⟩
   |some d=>
     obtain⟨hi',hd'⟩:=Ti.mp hd;have hl:l.drop i=d::l.drop (i+1):=by rw[<-hd'];exact Ww hi'
     obtain⟨go,yl⟩:=iok.item i ρ2 H2 M2 d e2.kp j2 (congrArg some hd);rw[hl]at g3;refine .inr ⟨go,λσ' H'=>∃ρ' δ' M',Ext ρ1 H1 ρ' H'/\Ev X.mg ρ' H' σ' δ'/\J X.mg ρ' M' H'/\bC X.mg E D ρ' H' (forL fg fb (l.drop (i+1)) δ') M',λσ' H' ⟨ρ',δ',M',a1,a2,a3,a4⟩=>⟨_,by rw[VJ,VJ];lia,ρ',δ',M',a1,a2,a3,rfl,a4⟩,λx H' y=>?_⟩
     obtain⟨x1,x2,x3⟩:=yl x H' y;exact yQ ev2 x1 x2 x3 g3 λρ3 δ3 M3 σ3 H3 f1 f2 f3 f4=>⟨ρ3,δ3,M3,e2.trans f1,f2,f3,f4⟩
 | dyn n=>
   refine⟨λi m σ H=>∃ρ' δ' M',Ext ρ1 H1 ρ' H/\Ev X.mg ρ' H σ δ'/\J X.mg ρ' M' H/\bC X.mg E D ρ' H (yP fg fb n m i δ') M',⟨N,ρ1,δ,M1,.refl,ev.mono e1,j1,g2⟩,?_⟩
   rintro i m σ2 H2 ⟨ρ2,δ2,M2,e2,ev2,j2,g3⟩;cases m with
   |zero=>obtain⟨r,e,_⟩:=g3;cases e
   | succ m=>
     obtain⟨o,eo,g4⟩:=bC.rdb g3;cases o with
     |none=>exact .inl ⟨iok.stop i ρ2 H2 M2 e2.kp j2 eo,bC.pure (a:=.nx δ2) g4 ρ2 H2 σ2 .refl j2 ev2⟩
     |some d=>
       obtain⟨go,yl⟩:=iok.item i ρ2 H2 M2 d e2.kp j2 eo;refine .inr ⟨go,λσ' H'=>∃ρ' δ' M',Ext ρ1 H1 ρ' H'/\Ev X.mg ρ' H' σ' δ'/\J X.mg ρ' M' H'/\bC X.mg E D ρ' H' (yP fg fb n m (i+1) δ') M',λσ' H' z=>⟨m,Vi _,z⟩,λx H' y=>?_⟩
       obtain⟨x1,x2,x3⟩:=yl x H' y;exact yQ ev2 x1 x2 x3 g4 λρ3 δ3 M3 σ3 H3 f1 f2 f3 f4=>⟨ρ3,δ3,M3,e2.trans f1,f2,f3,f4⟩⟩
noncomputable def iV(c:ak->DM Bool)(fb:ak->DM Fl):Nat->ak->DM Fl
 |0,_=>stuck
 | k + 1,δ=>c δ >>= λb=>if b then (fb δ >>= λr=>match r with
     |.nx δ2=>iV c fb k δ2
     |.ct δ2=>iV c fb k δ2
     |.bk δ2=>pure (.nx δ2)
     |.rt d=>pure (.rt d)) else pure (.nx δ)
theorem Io(N:Nat)(hp:PassesOwn (model X.prog X.w) X.A X.env X.xe)(hc:DT X E c fc)(hb:DSs X E body fb):DS X E (.While c body [] pos) (iV fc fb N):=⟨PS.mono (L2.ps_while hp hc.h hb.h) λD σ H h=>by
 obtain⟨ρ,δ,M,ev,j,g1⟩:=h;refine⟨λm σ H=>∃ρ' δ' M',Ev X.mg ρ' H σ δ'/\J X.mg ρ' M' H/\bC X.mg E D ρ' H (iV fc fb m δ') M',⟨N,ρ,δ,M,ev,j,g1⟩,?_⟩
 rintro m σ2 H2 ⟨ρ2,δ2,M2,ev2,j2,g3⟩;cases m with
 |zero=>obtain⟨r,e,_⟩:=g3;cases e
 | succ m=>
   refine⟨ρ2,δ2,M2,ev2,j2,bC.bind g3 λρ3 H3 M3 b b' e3 j3 cb g4=>?_⟩
   have cb:b=b':=cb;subst cb;cases b with
   |true=>
     refine iteT ⟨λσ' H'=>∃ρ' δ' M',Ev X.mg ρ' H' σ' δ'/\J X.mg ρ' M' H'/\bC X.mg E D ρ' H' (iV fc fb m δ') M',λσ' H' z=>⟨m,Vi _,z⟩,ρ3,δ2,M3,ev2.mono e3,j3,?_⟩
     refine bC.seq g4 (λδ' ρ4 H4 M4 σ4 e4 j4 ev4 g5=>⟨ρ4,δ',M4,ev4,j4,g5⟩) (λδ' ρ4 H4 M4 σ4 e4 j4 ev4 g5=>?_) (λδ' ρ4 H4 M4 σ4 e4 j4 ev4 g5=>⟨ρ4,δ',M4,ev4,j4,g5⟩) (λd' ρ4 H4 M4 v e4 j4 c4 g5=>?_)
     ·exact bC.pure (a:=.nx δ') g5 ρ4 H4 σ4 .refl j4 ev4
     ·exact bC.pure (a:=.rt d') g5 ρ4 H4 v .refl j4 c4
   |false=>exact iteF (bC.pure (a:=.nx δ2) g4 ρ3 H3 σ2 .refl j3 (ev2.mono e3))⟩
noncomputable def Cd(mg:Str->Option Value)(F:List D->DM D):Sp:=λvs H Q E=>∃ρ M ds,Cvs mg ρ H vs ds/\J mg ρ M H/\Go mg E (Cv mg) Q ρ H (F ds) M
structure DefD(P:Program)(w:World)(K:PySem.W.Frag)(mg:Str->Option Value)(base:Heap)(k:Nat)(x:Str)(ps:List Str)(F:List D->DM D):Prop where
 h:DefC P w K mg base k x ps (Cd mg F)
noncomputable def bJ(n:Nat)(ds:List D):ak:=ds.map some++List.replicate (n-ds.length) none
noncomputable def aL(p n:Nat)(fb:ak->DM Fl)(ds:List D):DM D:=if ds.length=p then fb (bJ n ds)>>=λr=>match r with
 |.nx _=>pure .non
 |.rt d=>pure d
 |_=>stuck else stuck
theorem nZ{mg:Str->Option Value}{ρ:Rh}{H:Hp}{N:List Str}{vs:List V}{ds:List D}(c:Cvs mg ρ H vs ds):Ev mg ρ H (L2.start N vs) (bJ N.length ds):=by
 unfold L2.start bJ;refine⟨by simp[c.len],λi d q=>?_⟩
 by_cases hi:i<ds.length
 ·rw[T5 (by rw[Tz];exact hi),T8]at q
  obtain⟨d',h1,h2⟩:=Tp.mp q;cases h2;obtain⟨v,hv,cv⟩:=c.get h1;exact⟨v,by rw[T5 (by rw[Tz,c.len];exact hi),T8,hv];rfl,cv⟩
 ·rw[U7 (by rw[Tz];lia),WD]at q
  split at q<;>cases q
section
variable{P:Program}{w:World}{K:PySem.W.Frag}{mg:Str->Option Value}{base:Heap}{k:Nat}{x:Str}{N ps:List Str}{st:Stmt}
set_option tactic.hygienic true in
theorem bC.aL{E:XK}{Q:VK}{ρ:Rh}{H:Hp}{M:Mo}{n p:Nat}{fb:ak->DM Fl}{ds:List D}(g:Go mg E (Cv mg) Q ρ H (L3.aL p n fb ds) M):ds.length=p/\bC mg E { nx:=λz H'=>Q .non H',rt:=Q } ρ H (fb (bJ n ds)) M:=by
 obtain⟨r,e,p⟩:=g;unfold L3.aL at e;split at e;rotate_left
 ·cases e
 rename_i hl;refine⟨hl,?_⟩;have e:DM.bind _ _ M=some r:=e;unfold DM.bind at e;split at e
 ·cases e
 ·rename_i c M' em;cases e;exact⟨_,em,p⟩
 ·rename_i a M' em;refine⟨_,em,?_⟩;cases a with
  |nx δ'=>cases e;exact λρ1 H1 b x j c=>p ρ1 H1 .non x j .non
  |rt d=>cases e;exact λρ1 H1 b x j c=>p ρ1 H1 b x j c
  |bk δ'=>cases e
  |ct δ'=>cases e
theorem DefAt.okD{fb:ak->DM Fl}(D:DefAt K mg x st)(S:FnScope N ps (defScope st))(hb:∀ (kV doc pm:Value) (an:Option Addr) (cdv ct:Value) (us:List Value),us.length=ps.length->bindArgs (PySem.W.fnOf x x (defArgs st) (defBody st) (defScope st) .none kV doc pm an cdv ct) ⟨us,[]⟩=pure (ps.zip us))
  (hbody:∀(f:Addr) (cdv:Value) (A:Around) (outer:List Env) (s:Shared) (H:Hp) (E:XK),Room k (A.deeper (envOfC x (defScope st) s.heap.objs.size f cdv))->
    DSs (jn P w K mg base N x (defScope st) f cdv A outer s H E) E (defBody st) fb):DefD P w K mg base (k+1) x ps (aL ps.length N.length fb):=⟨by
 refine D.okE S hb (λvs H Q E h=>?_) λf cdv A outer s H vs Q E hr h=>?_
 ·obtain⟨ρ,M,ds,c,j,g⟩:=h;rw[c.len];exact (bC.aL g).1
 obtain⟨ρ,M,ds,c,j,g⟩:=h;exact⟨_,(hbody f cdv A outer s H E hr).h,ρ,_,M,nZ c,j,(bC.aL g).2⟩⟩
theorem DefAt.okN{F:List D->DM D}{fb:Nat->ak->DM Fl}(D:DefAt K mg x st)(S:FnScope N ps (defScope st))(hb:∀ (kV doc pm:Value) (an:Option Addr) (cdv ct:Value) (us:List Value),us.length=ps.length->bindArgs (PySem.W.fnOf x x (defArgs st) (defBody st) (defScope st) .none kV doc pm an cdv ct) ⟨us,[]⟩=pure (ps.zip us))
  (hf:∀ds M r,F ds M=some r->∃n,aL ps.length N.length (fb n) ds M=some r)
  (hbody:∀(n:Nat) (f:Addr) (cdv:Value) (A:Around) (outer:List Env) (s:Shared) (H:Hp) (E:XK),Room k (A.deeper (envOfC x (defScope st) s.heap.objs.size f cdv))->
    DSs (jn P w K mg base N x (defScope st) f cdv A outer s H E) E (defBody st) (fb n)):DefD P w K mg base (k+1) x ps F:=⟨by
 refine D.okE S hb (λvs H Q E h=>?_) λf cdv A outer s H vs Q E hr h=>?_
 ·obtain⟨ρ,M,ds,c,j,r,e,p⟩:=h;obtain⟨n,e2⟩:=hf ds M r e;rw[c.len];exact (bC.aL ⟨r,e2,p⟩).1
 obtain⟨ρ,M,ds,c,j,r,e,p⟩:=h;obtain⟨n,e2⟩:=hf ds M r e;exact⟨_,(hbody n f cdv A outer s H E hr).h,ρ,_,M,nZ c,j,(bC.aL ⟨r,e2,p⟩).2⟩⟩
end
mutual
inductive Fz(M:Mo)(k:Nat):D->D->Prop
 |non:Fz M k .non .non
 |bl (b:Bool):Fz M k (.bl b) (.bl b)
 |int (i:Int):Fz M k (.int i) (.int i)
 |str (x:Str):Fz M k (.str x) (.str x)
 |tup {l l':List D}:Fzs M k l l'->Fz M k (.tup l) (.tup l')
 |lst {l l':List D}:Fzs M k l l'->Fz M k (.lst l) (.lst l')
 |dic {ks:List Key}{l l':List D}:Fzs M k l l'->Fz M k (.dic ks l) (.dic ks l')
 |obj {c:Str}{ns:List Str}{l l':List D}:Fzs M k l l'->Fz M k (.obj c ns l) (.obj c ns l')
 |scr (ns:List Int):Fz M k (.scr ns) (.scr ns)
 |old {n:Nat}:n<k->Fz M k (.ref n) (.ref n)
 |new {n:Nat}{l l':List D}:k<=n->M[n]?=some (.lst l)->Fzs M k l l'->Fz M k (.ref n) (.lst l')
 |cls (c:Str):Fz M k (.cls c) (.cls c)
 |ty (c:String):Fz M k (.ty c) (.ty c)
 |exn (a:Addr):Fz M k (.exn a) (.exn a)
inductive Fzs(M:Mo)(k:Nat):List D->List D->Prop
 |nil:Fzs M k [] []
 |cons {d d':D}{l l':List D}:Fz M k d d'->Fzs M k l l'->Fzs M k (d::l) (d'::l')
end
noncomputable def RQ(M:Mo)(k:Nat):DO->DO->Prop
 |.lst l,.lst l'=>Fzs M k l l'
 |.dic ks l,.dic ks' l'=>ks=ks'/\Fzs M k l l'
 |.ins c ns l,.ins c' ns' l'=>c=c'/\ns=ns'/\Fzs M k l l'
 |_,_=>False
noncomputable def QV(M':Mo)(k:Nat)(M1:Mo):Prop:=M1.length=k/\∀(n:Nat) o,M1[n]?=some o->∃o',M'[n]?=some o'/\RQ M' k o' o
section
variable{mg:Str->Option Value}{ρ ρ':Rh}{H:Hp}{M:Mo}{k:Nat}
structure Sub(ρ ρ':Rh)(k:Nat):Prop where
 st:∃τ,ρ'.st=ρ.st++τ
 vo:ρ'.vo=ρ.vo
 len:ρ.st.length=k
theorem Sub.out(s:Sub ρ ρ' k){a:Addr}(h:a∉ρ'):a∉ρ:=λz=>by
 obtain⟨τ,e⟩:=s.st;rcases z with z | z
 ·exact h (.inl (by rw[e];exact Vv _ z))
 ·exact h (.inr (by rw[s.vo];exact z))
noncomputable def RN(mg:Str->Option Value)(ρ:Rh)(H:Hp)(v:V)(d:D):Prop:=D.casesOn (motive_1:=λz=>Prop) d (v=.non) (λb=>v=.bl b) (λi=>v=.int i) (λx=>v=.str x) (λds=>∃a xs,v=.ref a/\a∉ρ/\H a=some (.tup xs)/\Cvs mg ρ H xs ds) (λds=>∃a xs,v=.ref a/\a∉ρ/\H a=some (.lst xs)/\Cvs mg ρ H xs ds)
 (λks ds=>∃a xs,v=.ref a/\a∉ρ/\H a=some (.dK (ks.zip xs))/\ks.length=xs.length/\Cvs mg ρ H xs ds) (λc ns ds=>∃a C dx xs,v=.ref a/\a∉ρ/\mg c=some (.ref C)/\H a=some (.ins C dx (ns.zip xs))/\ns.length=xs.length/\Cvs mg ρ H xs ds)
 (λns=>∃a,v=.ref a/\a∉ρ/\Rd H a (.lst (ns.map V.int))) (λn=>∃a,v=.ref a/\ρ.st[n]?=some a) (λc=>∃C,v=.ref C/\mg c=some (.ref C)) (λt=>v=.ty t) (λa=>v=.ref a)
set_option tactic.hygienic true in
theorem Cv.inv{v:V}{d:D}(h:Cv mg ρ H v d):RN mg ρ H v d:=by
 cases h
 case non=>exact rfl
 case bl=>exact rfl
 case int=>exact rfl
 case str=>exact rfl
 case tup n h c=>exact⟨_,_,rfl,n,h,c⟩
 case lst n h c=>exact⟨_,_,rfl,n,h,c⟩
 case dic n h l c=>exact⟨_,_,rfl,n,h,l,c⟩
 case obj n m h l c=>exact⟨_,_,_,_,rfl,n,m,h,l,c⟩
 case scr n h=>exact⟨_,rfl,n,h⟩
 case ref h=>exact⟨_,rfl,h⟩
 case cls h=>exact⟨_,rfl,h⟩
 case ty=>exact rfl
 case exn=>exact rfl
theorem Cvs.inv{v:V}{d:D}{vs:List V}{l:List D}(h:Cvs mg ρ H vs (d::l)):∃v vs',vs=v::vs'/\Cv mg ρ H v d/\Cvs mg ρ H vs' l:=by cases h with | cons a b=>exact⟨_,_,rfl,a,b⟩
theorem Cvs.inv0{vs:List V}(h:Cvs mg ρ H vs []):vs=[]:=by cases h;rfl
theorem Cvs.freeze(s:Sub ρ ρ' k)(j:J mg ρ' M H){d d':List D}{v:List V}(f:Fzs M k d d'):Cvs mg ρ' H v d->Cvs mg ρ H v d':=
 Fzs.rec (motive_1:=λd d' y=>∀ v,Cv mg ρ' H v d->Cv mg ρ H v d') (motive_2:=λd d' y=>∀ v,Cvs mg ρ' H v d->Cvs mg ρ H v d')
  (λy c=>Eq.symm (a:=_) (Cv.inv c) ▸ .non) (λb y c=>Eq.symm (a:=_) (Cv.inv c) ▸ .bl b) (λb y c=>Eq.symm (a:=_) (Cv.inv c) ▸ .int b) (λb y c=>Eq.symm (a:=_) (Cv.inv c) ▸ .str b)
  (λy f v c=>let ⟨_,_,e,n,h,c⟩:=Cv.inv c;e ▸ .tup (s.out n) h (f _ c))
  (λy f v c=>let ⟨_,_,e,n,h,c⟩:=Cv.inv c;e ▸ .lst (s.out n) h (f _ c))
  (λy f v c=>let ⟨_,_,e,n,h,l,c⟩:=Cv.inv c;e ▸ .dic (s.out n) h l (f _ c))
  (λy f v c=>let ⟨_,_,_,_,e,n,m,h,l,c⟩:=Cv.inv c;e ▸ .obj (s.out n) m h l (f _ c))
  (λy v c=>let ⟨_,e,n,h⟩:=Cv.inv c;e ▸ .scr (s.out n) h)
  (λhn v c=>by
    obtain⟨a,rfl,h⟩:=Cv.inv c;obtain⟨τ,e⟩:=s.st;rw[e,T5 (by rw[s.len];exact hn)]at h
    exact .ref h)
  (λhn hm y f v c=>by
    obtain⟨a,rfl,h⟩:=Cv.inv c;obtain⟨xs,hx,c⟩:=j.obj _ _ _ h hm;refine .lst (λz=>?_) hx (f _ c)
    rcases z with z | z
    ·obtain⟨m,hm'⟩:=VF.mp z;obtain⟨τ,e⟩:=s.st;have hl:=(Ti.mp hm').1;have h2:ρ'.st[m]?=some a:=by rw[e,T5 hl];exact hm'
     exact Wd.mpr hn (j.inj h h2 ▸ s.len ▸ hl)
    ·exact (j.vol a (by rw[s.vo];exact z)).1 (T9 h))
  (λy v c=>let ⟨_,e,h⟩:=Cv.inv c;e ▸ .cls h) (λb y c=>Eq.symm (a:=_) (Cv.inv c) ▸ .ty b) (λb y c=>Eq.symm (a:=_) (Cv.inv c) ▸ .exn b)
  (λv c=>Cvs.inv0 c ▸ .nil) (λy y f g v c=>let ⟨_,_,e,a,b⟩:=Cvs.inv (v:=.non) c;e ▸ .cons (f _ a) (g _ b)) f v
theorem J.freeze{M1:Mo}(s:Sub ρ ρ' k)(j:J mg ρ' M H)(hk:ρ.st.length=M1.length)(f:QV M k M1):J mg ρ M1 H:=by
 obtain⟨τ,e⟩:=s.st;refine⟨hk,?_,λn a o h1 h2=>?_,λa ha=>?_⟩
 ·have:=j.nd;rw[e]at this;exact (WR.mp this).1
 ·obtain ⟨o',h3,fo⟩:=f.2 n o h2;have hl:=(Ti.mp h1).1;have c:=j.obj n a o' (by rw[e,T5 hl];exact h1) h3
  cases o' with
  |lst l=>cases o with
    |lst l'=>obtain⟨xs,hx,c⟩:=c;exact⟨xs,hx,Cvs.freeze s j fo c⟩
    |dic _ _=>exact (show False from fo).elim
    |ins _ _ _=>exact (show False from fo).elim
  |dic ks l=>cases o with
    |lst l'=>exact (show False from fo).elim
    |dic ks' l'=>obtain⟨xs,hx,q,c⟩:=c;obtain⟨rfl,fo⟩:=fo;exact⟨xs,hx,q,Cvs.freeze s j fo c⟩
    |ins _ _ _=>exact (show False from fo).elim
  |ins c' ns l=>cases o with
    |lst l'=>exact (show False from fo).elim
    |dic _ _=>exact (show False from fo).elim
    |ins c'' ns' l'=>obtain⟨C,dx,xs,m,hx,q,c⟩:=c;obtain⟨rfl,rfl,fo⟩:=fo;exact⟨C,dx,xs,m,hx,q,Cvs.freeze s j fo c⟩
 ·obtain⟨x,xs,h⟩:=j.vol a (by rw[s.vo];exact ha)
  exact⟨λz=>x (by rw[e];exact Vv _ z),xs,h⟩
end
section
variable{X:Cx}{E:XK}{j k:Nat}{ps:List Str}{F:List D->DM D}{x:Str}{p pos:Pos}{e:Expr}{es:List Expr}{fs:ak->DM (List D)}
theorem aB(D:DefD X.prog X.w X.K X.mg X.base j x ps F)(hr:Room k X.A)(hx:Passes (gB X.prog X.w) X E)(ha:DA X E (e::es) fs)(hjk:autoParam (j<=k) qAB)(hg:autoParam (Gl X x) qAA)(hdb:autoParam ((x==("__debug__":Str))=false) qAB)
  (he:autoParam (notStar e=true) qAA) (hpl:autoParam ((backTo pos (starEach es X.env)).any (·.1)=false) qAA) :
  DE X E (.Call (.Name x p) (e::es) [] pos) (λδ=>fs δ>>=F):=⟨PE.mono (GK D.h hr hx ha.h hjk hg hdb he hpl) λσ H Q h=>by
 obtain⟨ρ,δ,M,ev,j,g1⟩:=h;refine⟨ρ,δ,M,ev,j,g1.bind λρ1 H1 M1 xs dxs e1 j1 c1 g2=>?_⟩
 rw[Wr];exact⟨ρ1,M1,dxs,c1,j1,g2⟩⟩
noncomputable def rC(mg:Str->Option Value)(E:XK)(g:List D->DM D):List V->Hp->VK->Prop:=λvs H Q=>∃ρ M ds,J mg ρ M H/\Cvs mg ρ H vs ds/\Go mg E (Cv mg) Q ρ H (g ds) M
noncomputable def CallD(X:Cx)(E:XK)(f:Value)(g:List D->DM D):Prop:=CallR X f (rC X.mg E g)
theorem aO{id:String}{g:List D->DM D}(hc:CallD X E (.builtin id) g)(hm:X.mg x=none)(ha:DA X E (e::es) fs)(hg:autoParam (Gl X x) qAA)(hv:bootBuiltins x=some (.builtin id):=by decide +kernel)(hn:autoParam (x≠"__name__") qAB)(hdb:autoParam ((x==("__debug__":Str))=false) qAB)
  (he:autoParam (notStar e=true) qAA) (hpl:autoParam ((backTo pos (starEach es X.env)).any (·.1)=false) qAA) :
  DE X E (.Call (.Name x p) (e::es) [] pos) (λδ=>fs δ>>=g):=⟨PE.mono (Qm hc hm ha.h hg hv hn hdb he hpl) λσ H Q h=>by
 obtain⟨ρ,δ,M,ev,j,g1⟩:=h;exact⟨ρ,δ,M,ev,j,g1.bind λρ1 H1 M1 xs dxs e1 j1 c1 g2=>⟨ρ1,M1,dxs,j1,c1,g2⟩⟩⟩
theorem iY{T:String}{g:List D->DM D}(hc:CallD X E (.type T) g)(hm:X.mg x=none)(ha:DA X E (e::es) fs)(hg:autoParam (Gl X x) qAA)(hv:bootBuiltins x=some (.type T):=by decide +kernel)(hn:autoParam (x≠"__name__") qAB)(hdb:autoParam ((x==("__debug__":Str))=false) qAB)
  (he:autoParam (notStar e=true) qAA) (hpl:autoParam ((backTo pos (starEach es X.env)).any (·.1)=false) qAA) :
  DE X E (.Call (.Name x p) (e::es) [] pos) (λδ=>fs δ>>=g):=⟨PE.mono (Qo hc hm ha.h hg hv hn hdb he hpl) λσ H Q h=>by
 obtain⟨ρ,δ,M,ev,j,g1⟩:=h;exact⟨ρ,δ,M,ev,j,g1.bind λρ1 H1 M1 xs dxs e1 j1 c1 g2=>⟨ρ1,M1,dxs,j1,c1,g2⟩⟩⟩
theorem CallD.of{f:Value}{r:List V->Hp->VK->Prop}{g:List D->Mo->Option D}(hr:CallR X f r)
  (h:∀vs H Q ρ M ds d,J X.mg ρ M H->Cvs X.mg ρ H vs ds->g ds M=some d->(∀ρ' H' v,Ext ρ H ρ' H'->J X.mg ρ' M H'->Cv X.mg ρ' H' v d->Q v H')->r vs H Q):CallD X E f (λl=>rd (g l)):=by
 intro Yk s σ H vs us Q I rs q;obtain⟨ρ,M,ds,j,c,go⟩:=q;obtain⟨d,e,p⟩:=go.rd;exact hr Yk s σ H vs us Q I rs (h vs H Q ρ M ds d j c e p)
end
section
variable{X:Cx}{E:XK}{mg:Str->Option Value}{ρ:Rh}{H:Hp}{M:Mo}
theorem Cvs.one(c:Cvs mg ρ H vs [d]):∃v,vs=[v]/\Cv mg ρ H v d:=by
 cases c with
 |cons c c2=>cases c2;exact⟨_,rfl,c⟩
theorem Cvs.two(c:Cvs mg ρ H vs [d,e]):∃ v w,vs=[v,w]/\Cv mg ρ H v d/\Cv mg ρ H w e:=by
 cases c with
 |cons c c2=>obtain⟨w,rfl,k⟩:=c2.one;exact⟨_,_,rfl,c,k⟩
noncomputable def dZ:List D->Mo->Option D
 |[.tup l],_=>some (.int l.length)
 |[.scr l],_=>some (.int l.length)
 |[.str x],_=>if x.length<=sizeLine then some (.int x.length) else none
 |[d],M=>(aX d M).map λl=>.int l.length
 |_,_=>none
set_option tactic.hygienic true in
theorem call_lenD:CallD X E (.builtin "len") (λl=>rd (dZ l)):=CallD.of (call_len_seq.or call_len_str) λvs H Q ρ M ds d j c e q=>by
 unfold dZ at e;split at e
 ·cases e;obtain⟨v,rfl,k⟩:=c.one;replace c:=k;cases c with | tup n a c=>
  exact .inl ⟨_,_,rfl,.inr (SqT.of a),by rw[c.len];exact q ρ H _ .refl j (.int _)⟩
 ·cases e;obtain⟨v,rfl,k⟩:=c.one;replace c:=k;cases c with | scr n a=>
  exact .inl ⟨_,_,rfl,.inl (.inl a),by rw[Tz];exact q ρ H _ .refl j (.int _)⟩
 ·split at e
  ·cases e;obtain⟨v,rfl,k⟩:=c.one;replace c:=k;cases c;exact .inr ⟨_,rfl,‹_›,q ρ H _ .refl j (.int _)⟩
  ·cases e
 ·obtain⟨l,h1,rfl⟩:=Tp.mp e;obtain⟨v,rfl,k⟩:=c.one;replace c:=k;obtain⟨a,xs,rfl,ha,c⟩:=cM j c h1;exact .inl ⟨_,_,rfl,.inl (SqL.of ha),by rw[c.len];exact q ρ H _ .refl j (.int _)⟩
 ·cases e
noncomputable def Rf:List D->Mo->Option D
 |[.int i],_=>some (.int (if i<0 then -i else i))
 |_,_=>none
noncomputable def Dh:List D->Mo->Option D
 |[.int i,.int j],_=>some (.int (if j > i then j else i))
 |_,_=>none
noncomputable def Qk:List D->Mo->Option D
 |[.int i,.int j],_=>some (.int (if j<i then j else i))
 |_,_=>none
theorem CJ(hc:X.calm=true):CallD X E (.builtin "max") (λl=>rd (Dh l)):=CallD.of (call_max2 hc) λvs H Q ρ M ds d j c e q=>by
 unfold Dh at e;split at e
 ·cases e;obtain⟨v,w,rfl,k,c2⟩:=c.two;replace c:=k;cases c;cases c2;exact⟨_,_,rfl,q ρ H _ .refl j (.int _)⟩
 ·cases e
noncomputable def gW:D->Mo->Option (List D)
 |.tup l,_=>some l
 |d,M=>aX d M
theorem vg(j:J mg ρ M H)(c:Cv mg ρ H x d)(e:gW d M=some l):∃a xs,x=.ref a/\(H a=some (.lst xs)\/H a=some (.tup xs))/\Cvs mg ρ H xs l:=by
 unfold gW at e;split at e
 ·cases e;cases c with | tup n a c=>exact⟨_,_,rfl,.inr a,c⟩
 ·obtain⟨a,xs,rfl,ha,c⟩:=cM j c e;exact⟨a,xs,rfl,.inl ha,c⟩
noncomputable def intsOf:List D->Option (List Int)
 |[]=>some []
 |.int i::l=>(intsOf l).map (i::·)
 |_=>none
theorem ints_of:∀ {xs:List V}{l:List D}{ns:List Int},Cvs mg ρ H xs l->intsOf l=some ns->xs=ns.map V.int
 |_,_,_,.nil,e=>by cases e;rfl
 | _,_,_,.cons (d:=d) c cs,e=>by
   cases d with
   |int i=>obtain⟨ms,h1,rfl⟩:=Tp.mp e;cases c;rw[ints_of cs h1];rfl
   |_=>cases e
theorem Fd(hh:X.A.handled=none):CallR X (.builtin "sum") (λvs H Q=>∃ (l:Addr) (ns:List Int),vs=[.ref l]/\(H l=some (.lst (ns.map V.int))\/H l=some (.tup (ns.map V.int)))/\Q (.int ns.sum) H):=by
 intro Yk s σ H vs us Q I r h;obtain⟨l,ns,rfl,hH,q⟩:=h;obtain⟨u,rfl,ru⟩:=vals1 r;cases ru;have fin:∀(its:List Value),IntsAre its ns->∃xs,its.toArray=intItems xs/\preSum (numAt xs) xs.size=ns.sum:=λits hi=>by
  obtain⟨xs,hx⟩:=hi.allInts.items;have hn:numsOf its.toArray.toList=ns:=by rw[show its.toArray.toList=its from rfl,hi.numsOf]
  rw[hx]at hn;rw[PySem.nums_intItems]at hn;exact⟨xs,hx,by rw[PySem.preSum_eq,WQ (by simp),hn]⟩
 rcases hH with hH | hH
 ·obtain ⟨its,rv,p,hz⟩:=I.list (SqL.of (K:=X.K) hH);obtain⟨xs,hx,hs⟩:=fin its (intsAre_of rv);have hl:=p.isList;rw[hx]at hl;obtain⟨o,ho,hc,n,hd⟩:=id hl;have hne:l≠s.heap.objs.size:=TF (Tt ho);have hsz:(intItems xs).size=xs.size:=by simp[intItems]
  have W:=(Walks.list (prog:=X.prog) (w:=X.w) (A:=X.A.in1) hh s.heap.objs.size l hne (intItems xs)).toS;rw[hsz]at W;refine call_sum_walkAnyS (Vr hl ?_);refine⟨s.heap.objs.size,_,_,_,_,_,_,numAt xs,rfl,W,⟨⟨_,Tu _ rfl,rfl,rfl⟩,hl.at λo e=>Tf _ e⟩,λb hb=>?_,λi v hP=>intItems_at hP,λs' t' hm=>?_⟩
  ·rcases TV.mp hb with rfl | hb
   ·exact Tt (Tu _ rfl)
   ·obtain rfl:=TQ.mp hb;exact Tt (Tf _ ho)
  ·obtain⟨h',g',d',tk',os'⟩:=s';have e1:g'=s.gens:=hm.gens;have e2:d'=s.drawn:=hm.drawn;have e3:os'=s.os:=hm.os;subst e1 e2 e3;refine⟨.int ns.sum,H,I.kept (h':=h') (t':=tk') λb o e=>hm.heap b o (λhb=>absurd (Tt e) ((TQ.mp hb) ▸ Vs _)) (Tf _ e),⟨t',?_⟩,q⟩
   rw[<-hs]
 ·obtain⟨its,rv,p,hz⟩:=I.tuple (SqT.of (K:=X.K) hH);obtain⟨xs,hx,hs⟩:=fin its (intsAre_of rv);rw[hx]at p;exact PySem.W.ktm_sumG hh (show s.heap.IsTuple l _ from p) λh' tk t' hk=>⟨.int ns.sum,H,I.kept hk,⟨t',by rw[<-hs]⟩,q⟩
noncomputable def Ec:List D->Mo->Option D
 |[d],M=>(gW d M).bind λl=>(intsOf l).map λns=>.int ns.sum
 |_,_=>none
theorem pP(hh:X.A.handled=none):CallD X E (.builtin "sum") (λl=>rd (Ec l)):=CallD.of (Fd hh) λvs H Q ρ M ds d j c e q=>by
 unfold Ec at e;split at e
 ·obtain⟨l,h1,e1⟩:=Ud.mp e;obtain⟨ns,h2,rfl⟩:=Tp.mp e1;obtain⟨v,rfl,k⟩:=c.one;replace c:=k;obtain⟨a,xs,rfl,ha,c⟩:=vg j c h1;have:=ints_of c h2;subst this;exact⟨_,ns,rfl,ha,q ρ H _ .refl j (.int _)⟩
 ·cases e
noncomputable def Ju:D->Option Bool
 |.bl b=>some b
 |.int i=>some (i != 0)
 |_=>none
noncomputable def fY:List D->Option (List Bool)
 |[]=>some []
 |d::l=>match Ju d,fY l with
   |some b,some bs=>some (b::bs)
   |_,_=>none
set_option tactic.hygienic true in
theorem wj:∀ {xs:List V}{l:List D}{bs:List Bool},Cvs mg ρ H xs l->fY l=some bs->(∀ x∈xs,scS x=true)/\xs.map gZ=bs
 |_,_,_,.nil,e=>by cases e;exact⟨(λx hx=>nomatch hx),rfl⟩
 | _,_,_,.cons (d:=d) (ds:=ds) (vs:=vs) c cs,e=>by
   unfold fY at e;split at e
   ·rename_i b bs h1 h2;cases e;obtain⟨a1,a2⟩:=wj cs h2;cases c with
    |bl b'=>cases h1;exact⟨λx hx=>by rcases TV.mp hx with rfl | hx;rfl;exact a1 x hx,by rw[Uu,a2];rfl⟩
    |int b'=>cases h1;exact⟨λx hx=>by rcases TV.mp hx with rfl | hx;rfl;exact a1 x hx,by rw[Uu,a2];rfl⟩
    |_=>cases h1
   ·cases e
noncomputable def nW:List D->Mo->Option D
 |[d],M=>(aX d M).bind λl=>(fY l).map λbs=>.bl (bs.all id)
 |_,_=>none
noncomputable def Mv:List D->Mo->Option D
 |[.tup l],_=>(fY l).map λbs=>.bl (bs.any id)
 |_,_=>none
theorem fG(hh:X.A.handled=none):CallD X E (.builtin "all") (λl=>rd (nW l)):=CallD.of (HX hh) λvs H Q ρ M ds d j c e q=>by
 unfold nW at e;split at e
 ·obtain⟨l,h1,e1⟩:=Ud.mp e;obtain⟨ns,h2,rfl⟩:=Tp.mp e1;obtain⟨v,rfl,k⟩:=c.one;replace c:=k;obtain⟨a,xs,rfl,ha,c⟩:=cM j c h1;obtain⟨t1,t2⟩:=wj c h2;subst t2;exact⟨_,xs,rfl,ha,t1,by have z:=q ρ H _ .refl j (.bl _);rw[List.all_map]at z;exact z⟩
 ·cases e
noncomputable def kI:List D->Mo->Option D
 |[d],M=>(gW d M).map .tup
 |_,_=>none
theorem cO:CallD X E (.type "tuple") (λl=>rd (kI l)):=CallD.of call_tuple_of λvs H Q ρ M ds d j c e q=>by
 unfold kI at e;split at e
 ·obtain⟨l,h1,rfl⟩:=Tp.mp e;obtain⟨v,rfl,k⟩:=c.one;replace c:=k;unfold gW at h1;split at h1
  ·cases h1;cases c with | tup n a c=>
   exact⟨_,_,rfl,.inr ⟨SqT.of a,q ρ H _ .refl j (.tup n a c)⟩⟩
  ·obtain⟨a,xs,rfl,ha,c⟩:=cM j c h1;exact⟨_,_,rfl,.inl ⟨SqL.of ha,λp hp=>q ρ _ _ (.lay hp) (j.lay _ hp) (.tup (j.fresh hp) upd_same (c.mono (.lay hp)))⟩⟩
 ·cases e
noncomputable def uO:List D->Mo->Option (List D)
 |[d],M=>gW d M
 |_,_=>none
theorem uJ:CallD X E (.type "list") (λl=>rd (λM=>(uO l M).map .lst)):=CallD.of call_list_of λvs H Q ρ M ds d j c e q=>by
 obtain⟨l,e1,rfl⟩:=Tp.mp e;unfold uO at e1;split at e1
 ·obtain⟨v,rfl,k⟩:=c.one;replace c:=k;obtain⟨a,xs,rfl,ha,c⟩:=vg j c e1;exact⟨_,_,rfl,ha.imp SqL.of SqT.of,λp hp=>q ρ _ _ (.lay hp) (j.lay _ hp) (.lst (j.fresh hp) upd_same (c.mono (.lay hp)))⟩
 ·cases e1
noncomputable def Dr(d:D):Option PyData:=match toPy d with
 |some p=>some p
 |none=>eF d
noncomputable def xG:List D->Mo->Option D
 |[d],_=>(Dr d).bind λp=>if p.showable&&decide (p.depth<=60)&&decide (cT p<=sizeLine) then some (.str p.shown) else none
 |_,_=>none
set_option tactic.hygienic true in
theorem ju(hg:X.A.guards=some [])(hu:X.A.units + 64<cLine):CallD X E (.builtin "repr") (λl=>rd (xG l)):=CallD.of (CK hg hu) λvs H Q ρ M ds d j c e q=>by
 unfold xG at e;split at e
 ·obtain ⟨p,h1,e1⟩:=Ud.mp e;split at e1
  ·rename_i hk;cases e1;simp only[Bool.and_eq_true,decide_eq_true_eq]at hk;obtain⟨v,rfl,k⟩:=c.one;replace c:=k;have key:∃f,RepF H f v p:=by
    unfold Dr at h1;split at h1
    ·rename_i h2;cases h1;exact⟨true,c.repF h2⟩
    ·exact⟨false,c.repD h1⟩
   obtain⟨f,rp⟩:=key;exact⟨f,_,p,rfl,rp,hk.1.1,hk.1.2,hk.2,q ρ H _ .refl j (.str _)⟩
  ·cases e1
 ·cases e
noncomputable def tyOf:D->Mo->Option String
 |.non,_=>some "NoneType"
 |.bl _,_=>some "bool"
 |.int _,_=>some "int"
 |.str _,_=>some "str"
 |.tup _,_=>some "tuple"
 |.lst _,_=>some "list"
 |.scr _,_=>some "list"
 |.dic _ _,_=>some "dict"
 |.ref n,M=>match M[n]? with
   |some (.lst _)=>some "list"
   |some (.dic _ _)=>some "dict"
   |_=>none
 |_,_=>none
set_option tactic.hygienic true in
theorem QT{K:PySem.W.Frag}(j:J mg ρ M H){x:V}{d:D}{t:String}(c:Cv mg ρ H x d)(e:tyOf d M=some t):TyOf K H x (.type t):=by
 cases c with
 |non=>cases e;exact .non
 |bl b=>cases e;exact .bl b
 |int b=>cases e;exact .int b
 |str b=>cases e;exact .str b
 |tup n h c=>cases e;exact .tup h
 |lst n h c=>cases e;exact .lst h
 |dic n h l c=>cases e;exact .dK h
 |scr n h=>
   cases e;rcases h with h | ⟨o,h⟩
   ·exact .lst h
   ·exact .frz h
 | ref q=>
   unfold tyOf at e;dsimp only at e;split at e
   ·rename_i l hl;cases e;obtain⟨xs,h,_⟩:=j.obj _ _ _ q hl;exact .lst h
   ·rename_i ks l hl;cases e;obtain⟨xs,h,_⟩:=j.obj _ _ _ q hl;exact .dK h
   ·cases e
 |_=>cases e
noncomputable def Eb(t c:String):Bool:=t==c || (t=="bool"&&c=="int")
noncomputable def tys:List String:=["NoneType", "bool", "int", "str", "tuple", "list", "dict"]
noncomputable def iZ:List D->Mo->Option D
 |[d,.ty c],M=>(tyOf d M).bind λt=>if tys.contains c then some (.bl (Eb t c)) else none
 |_,_=>none
theorem Jw(e:tyOf d M=some t):t∈tys:=by unfold tyOf at e;split at e<;>first | (cases e;decide) | (split at e<;>first | (cases e;decide) | cases e) | cases e
theorem Ny{K:PySem.W.Frag}:∀t∈tys,∀c∈tys,PySem.W.kitOne K (.type t) (.type c)=some (Eb t c):=by intro t ht c hc;simp only[tys,List.mem_cons,List.mem_nil_iff,or_false]at ht hc;rcases ht with rfl | rfl | rfl | rfl | rfl | rfl | rfl<;>rcases hc with rfl | rfl | rfl | rfl | rfl | rfl | rfl<;>rfl
set_option tactic.hygienic true in
theorem bK:CallD X E (.builtin "isinstance") (λl=>rd (iZ l)):=CallD.of HY λvs H Q ρ M ds d j c e q=>by
 unfold iZ at e;split at e
 ·obtain⟨t,h1,e1⟩:=Ud.mp e;split at e1
  ·rename_i hk;cases e1;obtain⟨v,w,rfl,k,c2⟩:=c.two;replace c:=k;cases c2;exact⟨_,_,_,_,rfl,QT j c h1,Ny _ (Jw h1) _ (List.contains_iff_mem.mp hk),q ρ H _ .refl j (.bl _)⟩
  ·cases e1
 ·cases e
noncomputable def Q0(X:Cx)(E:XK)(id:String)(g:D->List D->DM D):Prop:=MtR X id (λx vs H Q=>∃ρ M d ds,J X.mg ρ M H/\Cv X.mg ρ H x d/\Cvs X.mg ρ H vs ds/\Go X.mg E (Cv X.mg) Q ρ H (g d ds) M)
noncomputable def HS:D->List D->DM D
 |.ref n,[v]=>λM=>match M[n]? with
   |some (.lst l)=>if l.length<sizeLine then some (.ok .non,M.set n (.lst (l++[v]))) else none
   |_=>none
 |_,_=>stuck
set_option tactic.hygienic true in
theorem vH:Q0 X E "list.append" HS:=by
 intro Yk s σ H x xs v us Q I rx rs q;obtain⟨ρ,M,d,ds,j,cx,cs,r,e,p⟩:=q;cases cx with
 | ref hn=>
   cases cs with
   |nil=>cases e
   | cons c cs=>cases cs with
     |cons _ _=>cases e
     | nil=>
       rename_i n a w dw;have e:(match M[n]? with
        |some (.lst l)=>if l.length<sizeLine then some (R.ok .non,M.set n (.lst (l++[dw]))) else none
        |_=>none)=some r:=e
       split at e
       ·rename_i l hl;split at e
        ·cases e;obtain⟨xs,hx,cl⟩:=j.obj _ _ _ hn hl;have x:Ext ρ H ρ (upd H a (.lst (xs++[w]))):=.upd (T9 hn);exact mt_append (X:=X) Yk s σ H _ _ v us Q I rx rs ⟨_,_,_,rfl,rfl,hx,by rw[cl.len];assumption,p ρ _ .non x (j.upd hn ⟨_,upd_same,(cl.append (.cons c .nil)).mono x⟩) .non⟩
        ·cases e
       ·cases e
 |_=>cases e
theorem CV{name id:String}{g:D->List D->DM D}{o e:Expr}{es:List Expr}{fo:ak->DM D}{fs:ak->DM (List D)}{apos cpos:Pos}(pa:PlainAttrs "list")(slot:Slot "list" name id)(hty:typeOf (.builtin id)=pure (.type "method_descriptor"))(hm:Q0 X E id g)(ho:DE X E o fo)(ha:DA X E (e::es) fs)
  (hbase:autoParam (attributeBase o name X.env (eval o X.env)=eval o X.env) qAA)
  (hfew:autoParam (((backTo cpos (starEach (e::es) X.env)).all (fun x=>!x.1)&&(backToKw cpos (keywordEach [] X.env)).all (fun x=>x.1.isSome)
   &&decide ((e::es).length+([]:List Keyword).length+(if ([]:List Keyword).isEmpty then 0 else 1)<30))=true) qAA)
  (hline:autoParam ((apos.endLine==cpos.line)=true) qAA) (hs:autoParam (notStar e=true) qAA) (hplain:autoParam ((backTo cpos (starEach es X.env)).any (·.1)=false) qAA) :
  DE X E (.Call (.Attribute o name apos) (e::es) [] cpos) (λδ=>fo δ>>=λx=>rd (λM=>aX x M)>>=λz=>fs δ>>=λxs=>g x xs):=⟨PE.mono (Om pa slot hty hm ho.h ha.h hbase hfew hline hs hplain) λσ H Q h=>by
 obtain⟨ρ,δ,M,ev,j,g1⟩:=h;refine⟨ρ,δ,M,ev,j,g1.bind λρ1 H1 M1 x dx e1 j1 c1 g2=>?_⟩
 obtain⟨l,hl,g3⟩:=Go.rdb g2;obtain⟨a,xs,rfl,hx,cl⟩:=cM j1 c1 hl;exact⟨.inl ⟨rfl,_,SqL.of hx⟩,ρ1,δ,M1,ev.mono e1,j1,g3.bind λρ2 H2 M2 ys dys e2 j2 c2 g4=>⟨ρ2,M2,dx,dys,j2,c1.mono e2,c2,g4⟩⟩⟩
end
structure ExtB(acc:Addr)(ρ:Rh)(H:Hp)(ρ':Rh)(H':Hp):Prop where
 pre:∃τ,ρ'.st=ρ.st++τ
 vo:ρ'.vo=ρ.vo
 new:∀a,a∈ρ'.st->a∉ρ.st->H a=none
 keep:∀a o,H a=some o->a∉ρ.st->a≠acc->H' a=some o
 na:acc∉ρ'.st
section
variable{acc:Addr}{ρ ρ1 ρ2:Rh}{H H1 H2:Hp}
theorem ExtB.trans(e:ExtB acc ρ H ρ1 H1)(f:ExtB acc ρ1 H1 ρ2 H2):ExtB acc ρ H ρ2 H2:=by
 have out:∀a o,H a=some o->a∉ρ.st->a∉ρ1.st:=λa o h n z=>by have:=e.new a z n;rw[h]at this;cases this
 refine⟨?_,f.vo.trans e.vo,λa h n=>?_,λa o h n na=>f.keep a o (e.keep a o h n na) (out a o h n) na,f.na⟩
 ·obtain⟨τ,h1⟩:=e.pre;obtain⟨υ,h2⟩:=f.pre;exact⟨τ++υ,by rw[h2,h1,Wf]⟩
 ·by_cases z:a∈ρ1.st
  ·exact e.new a z n
  ·cases q:H a with
   |none=>rfl
   |some o=>have:=f.new a h z;rw[e.keep a o q n (λy=>f.na (y ▸ h))]at this;cases this
theorem Ext.b(e:Ext ρ H ρ1 H1)(na:acc∉ρ1.st):ExtB acc ρ H ρ1 H1:=⟨e.pre,e.vo,e.new,λa o h n z=>e.keep a o h n,na⟩
theorem ExtB.kp(e:ExtB acc ρ H ρ1 H1)(h:acc∈ρ.vo):Kp ρ H ρ1 H1:=⟨e.pre,λa o q n=>by
 have ne:a≠acc:=λz=>n (z ▸ .inr h)
 have ns:a∉ρ.st:=λz=>n (.inl z)
 refine⟨λz=>?_,e.keep a o q ns ne⟩
 rcases z with z | z
 ·have:=e.new a z ns;rw[q]at this;cases this
 ·rw[e.vo]at z;exact n (.inr z)⟩
theorem ExtB.refl(na:acc∉ρ.st):ExtB acc ρ H ρ H:=(Ext.refl).b na
theorem ExtB.grow(na:acc∉ρ.st):ExtB acc ρ H ρ (upd H acc (.lst ys)):=⟨⟨[],by simp⟩,rfl,λa h n=>absurd h n,λa o h z ne=>by rw[upd_ne ne];exact h,na⟩
end
structure Cst(X:Cx)(Yk:List (Addr×Obj))(acc:Addr)(ρ0:Rh)(H0:Hp)(δ:ak)(l:List D)(M:Mo)(fp:List Addr)(s:Shared):Prop where
 ex:∃σ H ρ ys,Inv X Yk σ H s/\ExtB acc ρ0 H0 ρ H/\J X.mg ρ M H/\Ev X.mg ρ H σ δ/\H acc=some (.lst ys)/\Cvs X.mg ρ H ys l/\∀b∈fp,H b=none
noncomputable def bc(fg:D->ak->DM ak)(ft:ak->DM Bool)(fb:ak->List D->DM (ak×List D)):List D->ak->List D->DM (ak×List D)
 |[],δ,l=>pure (δ,l)
 |d::ds,δ,l=>fg d δ>>=λδ1=>ft δ1>>=λb=>(if b then fb δ1 l else pure (δ1,l))>>=λp=>bc fg ft fb ds p.1 p.2
noncomputable def jy(fg:D->ak->DM ak)(ft:ak->DM Bool)(fb:ak->List D->DM (ak×List D))(n:Nat):Nat->Nat->ak->List D->DM (ak×List D)
 |0,_,_,_=>stuck
 |k+1,i,δ,l=>rd (Itn.next (.dyn n) i)>>=λo=>match o with
   |none=>pure (δ,l)
   |some d=>fg d δ>>=λδ1=>ft δ1>>=λb=>(if b then fb δ1 l else pure (δ1,l))>>=λp=>jy fg ft fb n k (i+1) p.1 p.2
noncomputable def cB(fg:D->ak->DM ak)(ft:ak->DM Bool)(fb:ak->List D->DM (ak×List D)):Itn->ak->List D->DM (ak×List D)
 |.fix ds,δ,l=>bc fg ft fb ds δ l
 |.dyn n,δ,l=>rd (λM=>aX (.ref n) M)>>=λm=>jy fg ft fb n (m.length+1) 0 δ l
noncomputable def bA(fe:ak->DM D)(δ:ak)(l:List D):DM (ak×List D):=fe δ>>=λd=>if l.length<sizeLine then pure (δ,l++[d]) else stuck
noncomputable def RZ(X:Cx)(ifs:List Expr)(t:TT):Prop:=∀(Yk:List (Addr×Obj)) (s:Shared) (σ:L2.St) (H:Hp) (Q:Bool->Hp->Prop),Inv X Yk σ H s->t σ H Q->wpAny (model X.prog X.w) X.A (vY ifs X.env) (TP X Yk σ Q) X.xe s
structure DTs(X:Cx)(E:XK)(ifs:List Expr)(f:ak->DM Bool):Prop where
 h:RZ X ifs (tD X.mg E Bv f)
theorem iu:DTs X E [] (λz=>pure true):=⟨λYk s σ H Q I h=>by obtain⟨ρ,δ,M,ev,j,g⟩:=h;exact Th ⟨H,I,g.pure ρ H true .refl j rfl⟩⟩
theorem cY(hc:DT X E c f):DTs X E [c] f:=⟨λYk s σ H Q I h=>wpAny_tests_one (hc.h Yk s σ H Q I h)⟩
set_option tactic.hygienic true in
theorem DM.bind_ok{α β:Type}{m:DM α}{k:α->DM β}{M M':Mo}{b:β}(h:(m>>=k) M=some (.ok b,M')):∃a M1,m M=some (.ok a,M1)/\k a M1=some (.ok b,M'):=by
 have h:DM.bind m k M=some (.ok b,M'):=h;unfold DM.bind at h;split at h
 ·cases h
 ·cases h
 ·rename_i a M1 e;exact⟨a,M1,e,h⟩
noncomputable def BodyOk(X:Cx)(acc:Addr)(W:(Shared->Prop)->Shared->Prop)(fb:ak->List D->DM (ak×List D)):Prop:=
 ∀Yk ρ0 H0 δ l M s δ' l' M',acc∈ρ0.vo->Cst X Yk acc ρ0 H0 δ l M [] s->fb δ l M=some (.ok (δ',l'),M')->W (λs'=>Cst X Yk acc ρ0 H0 δ' l' M' [] s') s
theorem Cst.unpin(c:Cst X (Yk++pl) acc ρ0 H0 δ l M [] s)(h:∀b∈fp,∃o,(b,o)∈pl):
  Cst X Yk acc ρ0 H0 δ l M fp s/\∀p∈pl,s.heap.get? p.1=some p.2:=by
 obtain⟨σ,H,ρ,ys,I,x,j,ev,ha,cl,_⟩:=c.ex;refine⟨⟨σ,H,ρ,ys,I.unpinned,x,j,ev,ha,cl,λb hb=>?_⟩,λp hp=>(I.pin p (UW _ (UW _ hp))).1⟩
 obtain⟨o,ho⟩:=h b hb;exact (I.pin (b,o) (UW _ (UW _ ho))).2.1
noncomputable def wB(fg:D->ak->DM ak)(ft:ak->DM Bool)(fb:ak->List D->DM (ak×List D))(δf:ak)(lf:List D)(Mf:Mo):Itn->Nat->Nat->ak->List D->Mo->Prop
 |.fix ds,n,i,δ,l,M=>n=ds.length-i/\bc fg ft fb (ds.drop i) δ l M=some (.ok (δf,lf),Mf)
 |.dyn a,n,i,δ,l,M=>jy fg ft fb a n i δ l M=some (.ok (δf,lf),Mf)
set_option tactic.hygienic true in
theorem wB.step{fg:D->ak->DM ak}{ft:ak->DM Bool}{fb:ak->List D->DM (ak×List D)}{δf δ:ak}{lf l:List D}{Mf M:Mo}{it:Itn}{n i:Nat}(h:wB fg ft fb δf lf Mf it n i δ l M):
  (it.next i M=some none/\δ=δf/\l=lf/\M=Mf)\/∃d δ1 M1 b M2 δ3 l3 M3 m,it.next i M=some (some d)/\fg d δ M=some (.ok δ1,M1)/\ft δ1 M1=some (.ok b,M2)/\(if b then fb δ1 l else pure (δ1,l)) M2=some (.ok (δ3,l3),M3)/\m<n/\wB fg ft fb δf lf Mf it m (i+1) δ3 l3 M3:=by
 cases it with
 | fix ds=>
   obtain⟨rfl,h⟩:=h;cases hd:ds[i]? with
   |none=>rw[List.drop_eq_nil_of_le (Ul.mp hd)]at h;cases h;exact .inl ⟨congrArg some hd,rfl,rfl,rfl⟩
   |some d=>
     obtain⟨hi',hd'⟩:=Ti.mp hd;have hl:ds.drop i=d::ds.drop (i+1):=by rw[<-hd'];exact Ww hi'
     rw[hl]at h;obtain⟨δ1,M1,e1,h1⟩:=DM.bind_ok h;obtain⟨b,M2,e2,h2⟩:=DM.bind_ok h1;obtain⟨⟨δ3,l3⟩,M3,e3,h3⟩:=DM.bind_ok h2;exact .inr ⟨d,δ1,M1,b,M2,δ3,l3,M3,ds.length-(i+1),congrArg some hd,e1,e2,e3,by lia,rfl,h3⟩
 | dyn a=>
   cases n with
   |zero=>cases h
   | succ n=>
     obtain⟨o,M0,e0,h⟩:=DM.bind_ok h;obtain⟨o',q,z⟩:=Tp.mp e0;cases z;cases o with
     |none=>cases h;exact .inl ⟨q,rfl,rfl,rfl⟩
     |some d=>obtain⟨δ1,M1,e1,h1⟩:=DM.bind_ok h;obtain⟨b,M2,e2,h2⟩:=DM.bind_ok h1;obtain⟨⟨δ3,l3⟩,M3,e3,h3⟩:=DM.bind_ok h2;exact .inr ⟨d,δ1,M1,b,M2,δ3,l3,M3,n,q,e1,e2,e3,Vi _,h3⟩
theorem wB.start{fg:D->ak->DM ak}{ft:ak->DM Bool}{fb:ak->List D->DM (ak×List D)}{δf δ:ak}{lf l:List D}{Mf M:Mo}{it:Itn}(h:cB fg ft fb it δ l M=some (.ok (δf,lf),Mf)):∃ n,wB fg ft fb δf lf Mf it n 0 δ l M:=by
 cases it with
 |fix ds=>exact⟨_,rfl,h⟩
 |dyn a=>obtain⟨m,M0,e0,h⟩:=DM.bind_ok h;obtain⟨m',q,z⟩:=Tp.mp e0;cases z;exact⟨_,h⟩
theorem zf(hc:X.calm=true)(hxe:X.xe=λy y=>False){gens:List Comprehension}{depth:Nat}{bodyK:Sem Fin->Sem Fin}{W:(Shared->Prop)->Shared->Prop}
  (hturn:compTurn (.ListComp elt gens scope pos) depth (.ref it) (.ref acc) X.env=turnOf g bodyK (.compLoop (.ListComp elt gens scope pos) depth (.ref it) (.ref acc) X.env) (.ref it) X.env) (hW:qL X.prog X.w X.A bodyK W) (hmono:∀P P' s,(∀s,P s->P' s)->W P s->W P' s)
  {fg:D->ak->DM ak}{ft:ak->DM Bool}{fb:ak->List D->DM (ak×List D)} (hg:DG X E0 g.target fg) (ht:DTs X E0 g.ifs ft) (hb:BodyOk X acc W fb) {fp:List Addr}{tn:Nat->Heap->Prop} (T:Turn X.prog X.w X.K g.target Jt fp it tn) (iok:ItOk X.mg ρi Hi Jt itn) (hacc:acc∈ρ0.vo) (kp0:Kp ρi Hi ρ0 H0) {Yk:List (Addr×Obj)}
  (fok:∀H',(∀b∈fp,H' b=none)->∀b∈fp,FpOk X Yk H' b) {l:List D} (st:Cst X Yk acc ρ0 H0 δ l M fp s) (htn:tn 0 s.heap) {lf:List D} (hrun:cB fg ft fb itn δ l M=some (.ok (δf,lf),Mf))
  {R:Result->Shared->Prop} (hR:∀s',Cst X Yk acc ρ0 H0 δf lf Mf fp s'->R (.ok .next) s') :
  codeAny (model X.prog X.w) X.A (.compLoop (.ListComp elt gens scope pos) depth (.ref it) (.ref acc) X.env) R s:=by
 obtain⟨n0,rem0⟩:=wB.start hrun;refine I8 (λn s=>∃i δ l M,wB fg ft fb δf lf Mf itn n i δ l M/\Cst X Yk acc ρ0 H0 δ l M fp s/\tn i s.heap) hturn hW ?_ hmono n0 ⟨0,δ,l,M,rem0,st,htn⟩
 rintro n s ⟨i,δ,l,M,rem,st,htn⟩;obtain⟨σ,H,ρ,ys,I,x,j,ev,ha,cl,fr⟩:=st.ex;have kp:Kp ρi Hi ρ H:=kp0.trans (x.kp hacc);rcases rem.step with ⟨hd,rfl,rfl,rfl⟩ | ⟨d,δ1,M1,b,M2,δ3,l3,M3,m,hd,e1,e2,e3,hm,rem3⟩
 ·refine Um (T.done X rfl rfl rfl hc i Yk s σ H _ I (fok H fr) htn (iok.stop i ρ H _ kp j hd)) (λr s1 h1=>?_) λy y z=>z
  obtain⟨rfl,I1⟩:=h1;exact hR s1 ⟨σ,H,ρ,ys,I1,x,j,ev,ha,cl,fr⟩
 ·obtain ⟨go,yl⟩:=iok.item i ρ H M d kp j hd;refine Um (T.item X rfl rfl rfl hc i Yk s σ H (λy y=>False) I (fok H fr) htn go) (λr s1 h1=>?_) λy y z=>z
  obtain⟨u,rfl,h1⟩:=h1;refine Um h1 (λy s2 h2=>?_) λy y z=>z
  obtain⟨xv,H5,I5,r5,y5,tn5,fr5⟩:=h2;obtain⟨x5,j5,c5⟩:=yl xv H5 y5;have I5':=I5.pinned (fok H5 fr5) (T.obj _ _ tn5);refine Um (hg.h _ s2 σ H5 xv u (λσ6 H6=>∃ρ6,Ext ρ H5 ρ6 H6/\J X.mg ρ6 M1 H6/\Ev X.mg ρ6 H6 σ6 δ1) I5' r5 ⟨ρ,δ,M,d,ev.mono x5,j5,c5,_,e1,λρ6 H6 σ6 a1 a2 a3=>⟨ρ6,a1,a2,a3⟩⟩) (λy s3 h3=>?_) λy y z=>by rw[hxe]at z;exact z
  obtain⟨σ6,H6,I6,ρ6,x6,j6,ev6⟩:=h3;refine Um (ht.h _ s3 σ6 H6 (λb' H7=>b'=b/\∃ρ7,Ext ρ6 H6 ρ7 H7/\J X.mg ρ7 M2 H7) I6 ⟨ρ6,δ1,M1,ev6,j6,_,e2,λρ7 H7 b' a1 a2 a3=>⟨a3,ρ7,a1,a2⟩⟩) (λok s4 h4=>?_) λy y z=>by rw[hxe]at z;exact z
  obtain⟨H7,I7,rfl,ρ7,x7,j7⟩:=h4;have nacc:acc∉ρ.st:=x.na;have na6:acc∉ρ6.st:=λz=>by have h5:=x5.keep acc _ ha nacc;have:=x6.new acc z nacc;rw[h5]at this;cases this
  have ha5:=x5.keep acc _ ha nacc;have ha6:=x6.keep acc _ ha5 nacc;have na7:acc∉ρ7.st:=λz=>by have:=x7.new acc z na6;rw[ha6]at this;cases this
  have ha7:=x7.keep acc _ ha6 na6;have xb:ExtB acc ρ0 H0 ρ7 H7:=((x.trans (x5.b nacc)).trans (x6.b na6)).trans (x7.b na7);have ct:Cst X (Yk++pinsAt fp s2.heap) acc ρ0 H0 δ1 l M2 [] s4:=⟨σ6,H7,ρ7,ys,I7,xb,j7,ev6.mono x7,ha7,((cl.mono x5).mono x6).mono x7,λb hb=>nomatch hb⟩
  have fin:∀s5,Cst X (Yk++pinsAt fp s2.heap) acc ρ0 H0 δ3 l3 M3 [] s5->∃m,m<n/\∃i δ l M,wB fg ft fb δf lf Mf itn m i δ l M/\Cst X Yk acc ρ0 H0 δ l M fp s5/\tn i s5.heap:=λs5 c5=>by
   obtain⟨c6,pp⟩:=c5.unpin (fp:=fp) λb hb=>by obtain⟨o,eo,_⟩:=T.obj _ _ tn5 b hb;exact⟨o,mem_pinsAt hb eo⟩
   exact⟨m,hm,i+1,δ3,l3,M3,rem3,c6,T.keep _ _ _ tn5 λb hb o eo=>pp (b,o) (mem_pinsAt hb eo)⟩
  cases ok with
  |true=>exact iteT (hmono _ _ _ fin (hb _ ρ0 H0 δ1 l M2 s4 δ3 l3 M3 hacc ct e3))
  |false=>cases e3;exact iteF (fin s4 ct)
set_option tactic.hygienic true in
theorem vB{X:Cx}(hxe:X.xe=λy y=>False){elt:Expr}{fe:ak->DM D}{acc:Addr}(he:DE X E0 elt fe):
  BodyOk X acc (λP s=>wpAny (model X.prog X.w) X.A (eval elt X.env) (λx s1=>wpAny (model X.prog X.w) X.A (call (.builtin "list.append") [.ref acc,x]) (λy s2=>P s2) (λy y=>False) s1) (λy y=>False) s) (bA fe):=by
 intro Yk ρ0 H0 δ l M s δ' l' M' hacc ct e;obtain⟨d,M1,e1,e2⟩:=DM.bind_ok e;obtain⟨σ,H,ρ,ys,I,x,j,ev,ha,cl,_⟩:=ct.ex;split at e2;rotate_left
 ·cases e2
 rename_i hz;cases e2;refine Um (he.h Yk s σ H (λv H1=>∃ρ1,Ext ρ H ρ1 H1/\J X.mg ρ1 M' H1/\Cv X.mg ρ1 H1 v d) I ⟨ρ,δ,M,ev,j,_,e1,λρ1 H1 v a1 a2 a3=>⟨ρ1,a1,a2,a3⟩⟩) (λu s1 h1=>?_) λy y z=>by rw[hxe]at z;exact z
 obtain⟨v,H1,I1,rv,ρ1,x1,j1,c1⟩:=h1;have nacc:acc∉ρ.st:=x.na;have ha1:=x1.keep acc _ ha nacc;have na1:acc∉ρ1.st:=λz=>by have:=x1.new acc z nacc;rw[ha]at this;cases this
 have hv1:acc∈ρ1.vo:=by rw[x1.vo,x.vo];exact hacc
 refine Um (mt_append (X:=X) Yk s1 σ H1 (.ref acc) [v] (.ref acc) [u] (λy H'=>H'=upd H1 acc (.lst (ys++[v]))) I1 rfl (.cons rv .nil) ⟨_,ys,v,rfl,rfl,ha1,by rw[cl.len];exact hz,rfl⟩) (λy s2 h2=>?_) λy y z=>by rw[hxe]at z;exact z
 obtain⟨_,H2,I2,_,rfl⟩:=h2;exact⟨σ,_,ρ1,ys++[v],I2,(x.trans (x1.b na1)).trans (.grow na1),j1.grow hv1,(ev.mono x1).kp ((ExtB.grow na1).kp hv1),upd_same,((cl.mono x1).append (.cons c1 .nil)).hold hv1,λb hb=>nomatch hb⟩
noncomputable def dM{α:Type}(m:DM α):DM α:=λM=>match m M with
 |some (.ok a,M')=>some (.ok a,M')
 |_=>none
set_option tactic.hygienic true in
theorem uP(h:dM m M=some r):∃a M',m M=some (.ok a,M')/\r=(.ok a,M'):=by
 unfold dM at h;split at h
 ·rename_i a M' e;cases h;exact⟨a,M',e,rfl⟩
 ·cases h
noncomputable def dq(js:List Nat)(δ:ak):ak:=js.map λj=>(δ[j]?).getD none
noncomputable def aZ(k:Nat)(js:List Nat)(δ:ak):ak:=List.replicate k none++dq js δ
theorem Az(ev:Ev mg ρ H σ δ)(k:Nat)(js:List Nat):Ev mg ρ H (List.replicate k none++pick js σ) (aZ k js δ):=by
 unfold aZ pick dq;refine⟨by simp,λi d q=>?_⟩
 by_cases hi:i<k
 ·rw[T5 (by rw[Vt];exact hi),WD]at q
  split at q<;>cases q
 ·rw [U7 (by rw [Vt];lia),Vt,T8]at q ⊢
  cases hj:js[i-k]? with
  |none=>rw[hj]at q;cases q
  | some j=>
    rw[hj]at q;have q:(δ[j]?).getD none=some d:=TJ q;have q':δ[j]?=some (some d):=by
     cases z:δ[j]? with
     |none=>rw[z]at q;cases q
     |some o=>rw[z]at q;exact congrArg some q
    obtain⟨v,h1,h2⟩:=ev.val j d q';exact⟨v,by show some ((σ[j]?).getD none)=_;rw[h1];rfl,h2⟩
theorem ou(hp:H p=none):Kp ρ H (ρ.hold p) (upd H p o):=⟨⟨[],by show ρ.st=_;simp⟩,λa u h n=>⟨Rh.nhold n (ne_of_none h hp),by rw[upd_ne (ne_of_none h hp)];exact h⟩⟩
inductive Out where
 |val | sto
noncomputable def Out.run:Out->List D->DM D
 |.val,l=>pure (.lst l)
 |.sto,l=>λM=>some (.ok (.ref M.length),M++[.lst l])
theorem Out.fin(o:Out)(hf:H2 acc=none)(hn:acc∉ρ1)(x:ExtB acc (ρ1.hold acc) (upd H2 acc (.lst [])) ρ4 H4)(j:J mg ρ4 M H4)(ha:H4 acc=some (.lst ys))(c:Cvs mg ρ4 H4 ys l)
  (g:Go mg E (Cv mg) Q ρ1 H2 (o.run l) M):Q (.ref acc) H4:=by
 have hv:ρ4.vo=acc::ρ1.vo:=x.vo;have na:acc∉ρ1.vo:=λz=>hn (.inr z)
 have nw:∀a,a∈ρ4.st->a∉ρ1.st->H2 a=none:=λa h n=>by
  have:=x.new a h n;by_cases z:a=acc
  ·rw[z,upd_same]at this;cases this
  ·rw[upd_ne z]at this;exact this
 have kp:∀a o,H2 a=some o->a∉ρ1.st->H4 a=some o:=λa o h n=>x.keep a o (by rw[upd_ne (ne_of_none h hf)];exact h) n (ne_of_none h hf)
 cases o with
 | val=>
   have e:Ext ρ1 H2 ⟨ρ4.st,ρ1.vo⟩ H4:=⟨x.pre,rfl,nw,kp⟩;have jd:J mg ⟨ρ4.st,ρ1.vo⟩ M H4:=J.done (ρ:=ρ1) j hv;have cd:Cvs mg ⟨ρ4.st,ρ1.vo⟩ H4 ys l:=Cvs.less (ρ:=ρ4) (ρ1:=⟨ρ4.st,ρ1.vo⟩) rfl (λa h=>by rw[hv];exact .tail _ h) c
   exact Go.pure (a:=D.lst l) g ⟨ρ4.st,ρ1.vo⟩ H4 (.ref acc) e jd (.lst (λz=>by
    rcases z with z | z
    ·exact x.na z
    ·exact na z) ha cd)
 | sto=>
   obtain⟨r,er,p⟩:=g;cases er;have k4:Kp ρ4 H4 ⟨ρ4.st++[acc],ρ1.vo⟩ H4:=⟨⟨[acc],rfl⟩,λa o h n=>⟨λz=>by
    rcases z with z | z
    ·rcases T4.mp z with z | z
     ·exact n (.inl z)
     ·exact n (.inr (by rw[hv,TQ.mp z];exact .head _))
    ·exact n (.inr (by rw[hv];exact .tail _ z)),h⟩⟩
   have e:Ext ρ1 H2 ⟨ρ4.st++[acc],ρ1.vo⟩ H4:=by
    refine⟨?_,rfl,λa h n=>?_,kp⟩
    ·obtain⟨τ,h1⟩:=x.pre;exact⟨τ++[acc],by show ρ4.st++[acc]=_;rw[h1,Wf];rfl⟩
    ·rcases T4.mp h with z | z
     ·exact nw a z n
     ·rw[TQ.mp z];exact hf
   have jd:J mg ⟨ρ4.st++[acc],ρ1.vo⟩ (M++[.lst l]) H4:=by
    refine⟨by show (ρ4.st++[acc]).length=_;rw[T3,T3,j.len];rfl,?_,λn a w h1 h2=>?_,λa h=>?_⟩
    ·show (ρ4.st++[acc]).Nodup;rw[WR];exact⟨j.nd,by simp,λx' hx y hy e=>by rw[TQ.mp hy]at e;exact x.na (e ▸ hx)⟩
    ·have h1:(ρ4.st++[acc])[n]?=some a:=h1;by_cases hl:n<ρ4.st.length
     ·rw[T5 hl]at h1;rw[T5 (by rw[<-j.len];exact hl)]at h2
      exact (j.obj n a w h1 h2).map rfl λvs ds c=>c.kp k4
     ·have hl':n<(ρ4.st++[acc]).length:=(Ti.mp h1).1;rw[T3]at hl';have e:n=ρ4.st.length:=by have:[acc].length=1:=rfl;lia
      subst e;rw[U7 (Tq _)]at h1;rw[j.len,U7 (Tq _)]at h2;simp at h1 h2;subst h1 h2;exact⟨ys,ha,c.kp k4⟩
    ·have h:a∈ρ1.vo:=h;obtain⟨y1,y2⟩:=j.vol a (by rw[hv];exact .tail _ h)
     refine⟨λz=>?_,y2⟩
     rcases T4.mp z with z | z
     ·exact y1 z
     ·exact na (TQ.mp z ▸ h)
   refine p _ H4 (.ref acc) e jd (.ref ?_);show (ρ4.st++[acc])[_]?=_;rw[<-j.len];simp
set_option tactic.hygienic true in
theorem yw{cl:List (Str×Addr)}{own:List Str}{js:List Nat}{fr:List Str}{f0:List Expr}{gs:List Comprehension}{fi:ak->DM Itn}{fg:D->ak->DM ak}{ft:ak->DM Bool}{fb:ak->List D->DM (ak×List D)}
  {bodyK:Cx->Addr->Sem Fin->Sem Fin}{W:Cx->Addr->(Shared->Prop)->Shared->Prop} (o:Out) (hc:X.calm=true) (T:CompG X scope cl own js fr) (hi:DI X E t0 i0 fi)
  (hturn:∀(Y:Cx) it acc,compTurn (.ListComp elt (⟨t0,i0,f0,0⟩::gs) scope pos) 0 (.ref it) (.ref acc) Y.env=turnOf ⟨t0,i0,f0,0⟩ (bodyK Y acc) (.compLoop (.ListComp elt (⟨t0,i0,f0,0⟩::gs) scope pos) 0 (.ref it) (.ref acc) Y.env) (.ref it) Y.env)
  (hW:∀Y acc,qL Y.prog Y.w Y.A (bodyK Y acc) (W Y acc)) (hmono:∀Y acc P P' s,(∀s,P s->P' s)->W Y acc P s->W Y acc P' s)
  (hg:∀Yk m fp C s₂ H₂,DG (X.aR Yk scope (cellsFrom m scope.names cl) (own++fr) fp C s₂ H₂) E0 t0 fg) (ht:∀Yk m fp C s₂ H₂,DTs (X.aR Yk scope (cellsFrom m scope.names cl) (own++fr) fp C s₂ H₂) E0 f0 ft)
  (hb:∀Yk m fp C s₂ H₂ acc,BodyOk (X.aR Yk scope (cellsFrom m scope.names cl) (own++fr) fp C s₂ H₂) acc (W (X.aR Yk scope (cellsFrom m scope.names cl) (own++fr) fp C s₂ H₂) acc) fb)
  (hs:∀y,foldedSetIterable i0 X.env y=pure y:=by intro _;rfl) :
  DE X E (.ListComp elt (⟨t0,i0,f0,0⟩::gs) scope pos) (λδ=>fi δ>>=λit=>dM (cB fg ft fb it (aZ own.length js δ) [])>>=λp=>o.run p.2):=⟨by
 intro Yk s σ H Q I h;obtain⟨ρ,δ,M,ev,j,g1⟩:=h;rw[eval_ListComp];refine wpAny_comprehension_free (cl:=cl) (use:=none) rfl hs T.clos T.kind T.names ?_;refine thn (hi.h Yk s σ H (λJt H1=>∃ρ1 M1 it,Ext ρ H ρ1 H1/\J X.mg ρ1 M1 H1/\ItOk X.mg ρ1 H1 Jt it/\Go X.mg E (Cv X.mg) Q ρ1 H1 (dM (cB fg ft fb it (aZ own.length js δ) [])>>=λp=>o.run p.2) M1) I
  ⟨ρ,δ,M,ev,j,g1.bind λρ1 H1 M1 Jt it e1 j1 iok g2=>⟨ρ1,M1,it,e1,j1,iok,g2⟩⟩) λv s1 h1=>thn h1 λitv s2 h2=>?_
 obtain⟨it,fp,tn,Jt,H2,rfl,I2,Tn,st2,f2,ρ1,M1,itn,x1,j1,iok,g2⟩:=h2;have hrun:∃δf lf Mf,cB fg ft fb itn (aZ own.length js δ) [] M1=some (.ok (δf,lf),Mf)/\Go X.mg E (Cv X.mg) Q ρ1 H2 (o.run lf) Mf:=by
  obtain⟨r,e,p⟩:=g2;have e:DM.bind _ _ M1=some r:=e;unfold DM.bind at e;split at e
  ·cases e
  ·rename_i c M' em;obtain⟨a,M'',_,z⟩:=uP em;cases z
  ·rename_i a M' em;obtain⟨a',M'',e1,z⟩:=uP em;cases z;exact⟨a.1,a.2,M',e1,r,e,p⟩
 obtain⟨δf,lf,Mf,hrun,g3⟩:=hrun;unfold newList;refine Ug (wV ?_);have hlt:∀b∈fp,b<s2.heap.objs.size:=λb hb=>by obtain⟨o,e,_⟩:=Tn.obj _ _ st2 b hb;exact Tt e
 dsimp only;generalize hP:s2.heap.push { cls:=.type "list",dict:=none,data:=.seq ([]:List Value).toArray }=hp1;have hCs:hp1.objs.size=s2.heap.objs.size+1:=by rw[<-hP,Uc]
 have hCe:hp1.objs.size+1=(hp1.push { cls:=.type "dict",data:=.dict #[] }).objs.size:=by rw[Uc]
 have hC:s2.heap.objs.size<=hp1.objs.size:=by lia
 have hne:hp1.objs.size≠s2.heap.objs.size:=by lia
 have old1:∀b o,s2.heap.get? b=some o->hp1.get? b=some o:=λb o e=>by rw[<-hP];exact Tf _ e
 have old:∀b o,s2.heap.get? b=some o->(pushCells (hp1.push { cls:=.type "dict",data:=.dict #[] }) scope.names).get? b=some o:=λb o e=>WM _ _ _ _ (Tf _ (old1 b o e))
 have new:∃n,(pushCells (hp1.push { cls:=.type "dict",data:=.dict #[] }) scope.names).get? s2.heap.objs.size=some { cls:=.type "list",data:=.seq #[] n }:=⟨_,WM _ _ _ _ (Tf _ (by rw[<-hP];exact Tu _ rfl))⟩
 have ns:(pushCells (hp1.push { cls:=.type "dict",data:=.dict #[] }) scope.names).Ns hp1.objs.size λx=>none:=(Heap.Ns.new hp1 (.type "dict")).keeps (WM _ _)
 have hfree:H2 s2.heap.objs.size=none:=I2.hok.fresh (Tq _);have IC:=wG (t':=s2.toks) T I2 f2 hlt old (Tq _) hC hne hCe (Ue hC (Nat.le_succ _)) (Vi _) (Nat.lt_succ_of_le hC) rfl new ns;have OK:=IC.ok;have fok:∀H',(∀b∈fp,H' b=none)->∀b∈fp,FpOk (X.aR Yk scope (cellsFrom (hp1.objs.size+1) scope.names cl) (own++fr) fp hp1.objs.size s2 H2) [] H' b:=λH' hn b hb=>by
  obtain⟨_,g2,g3,g4,g5,g6⟩:=f2 b hb;refine⟨hn b hb,TF (TY (hlt b hb) hC),λhm=>?_,.inl hb,(OK.exf b hb).2,λp hp=>g6 p (by simpa using hp)⟩
  rcases TV.mp (I2.stkSub _ hm) with z | z
  ·exact g2 z
  ·exact g3 z
 have fp1:∀b∈fp,upd H2 s2.heap.objs.size (.lst []) b=none:=λb hb=>by rw[upd_ne (TF (hlt b hb))];exact (f2 b hb).1
 have jb:=j1.begin hfree;have nf:=j1.fresh hfree;have st:Cst (X.aR Yk scope (cellsFrom (hp1.objs.size+1) scope.names cl) (own++fr) fp hp1.objs.size s2 H2) [] s2.heap.objs.size (ρ1.hold s2.heap.objs.size) (upd H2 s2.heap.objs.size (.lst [])) (aZ own.length js δ) [] M1 fp
   { s2 with heap:=pushCells (hp1.push { cls:=.type "dict",data:=.dict #[] }) scope.names,toks:=s2.toks }:=
  ⟨_,_,_,[],IC,.refl (λz=>nf (.inl z)),jb,(Az (ev.mono x1) _ _).kp (ou hfree),upd_same,.nil,fp1⟩
 have tn0:tn 0 (pushCells (hp1.push { cls:=.type "dict",data:=.dict #[] }) scope.names):=Tn.keep _ _ _ st2 (λb x o e=>old b o e)
 have loop:codeAny (model X.prog X.w) X.A (.compLoop (.ListComp elt (⟨t0,i0,f0,0⟩::gs) scope pos) 0 (.ref it) (.ref s2.heap.objs.size) (compEnvC scope (cellsFrom (hp1.objs.size+1) scope.names cl) hp1.objs.size X.env))
   (compPost (model X.prog X.w) X.A X.xe none (EP X Yk σ Q) (.ref s2.heap.objs.size) hp1.objs.size) { s2 with heap:=pushCells (hp1.push { cls:=.type "dict",data:=.dict #[] }) scope.names,toks:=s2.toks }:=by
  refine zf (X:=X.aR Yk scope (cellsFrom (hp1.objs.size+1) scope.names cl) (own++fr) fp hp1.objs.size s2 H2) hc rfl (hturn _ _ _) (hW _ _) (hmono _ _) (hg ..) (ht ..) (hb Yk (hp1.objs.size+1) fp hp1.objs.size s2 H2 s2.heap.objs.size) Tn iok (.head _) (ou hfree) fok st tn0 hrun λs' c'=>?_
  obtain⟨σ4,H4,ρ4,ys,I4,x4,j4,ev4,ha4,cl4,fr4⟩:=c'.ex;obtain⟨m4,hn4,_⟩:=I4.loc;refine⟨m4,hn4,λh' hsb'=>?_⟩
  have un:=HF I4.base hsb' hC;have ok4:=Be I4.hok hsb' I4.free;exact⟨.ref s2.heap.objs.size,H4,I2.call' (s':={ s' with heap:=h' }) (ch:=fp) (I4.os) un ok4 I4.bare (λb hb=>by obtain⟨_,g2,g3,g4,g5,g6⟩:=f2 b hb;exact⟨g4,g2,g5,g6⟩),rfl,o.fin hfree nf x4 j4 ha4 cl4 g3⟩
 show codeAny _ _ (.compStart _ 0 (.ref it) (.ref s2.heap.objs.size) (compEnvC scope (cellsFrom (hp1.objs.size+1) scope.names cl) hp1.objs.size X.env)) _ _;exact qG rfl rfl loop (Tn.self X.A 0 _ _ _ tn0 loop)⟩
theorem cH{cl:List (Str×Addr)}{own:List Str}{js:List Nat}{fr:List Str}{f0:List Expr}{fi:ak->DM Itn}{fg:D->ak->DM ak}{ft:ak->DM Bool}{fe:ak->DM D}
  (o:Out) (hc:X.calm=true) (T:CompG X scope cl own js fr) (hi:DI X E t0 i0 fi)
  (hg:∀Yk m fp C s₂ H₂,DG (X.aR Yk scope (cellsFrom m scope.names cl) (own++fr) fp C s₂ H₂) E0 t0 fg) (ht:∀Yk m fp C s₂ H₂,DTs (X.aR Yk scope (cellsFrom m scope.names cl) (own++fr) fp C s₂ H₂) E0 f0 ft)
  (he:∀Yk m fp C s₂ H₂,DE (X.aR Yk scope (cellsFrom m scope.names cl) (own++fr) fp C s₂ H₂) E0 elt fe)
  (hs:∀y,foldedSetIterable i0 X.env y=pure y:=by intro _;rfl) :
  DE X E (.ListComp elt [⟨t0,i0,f0,0⟩] scope pos) (λδ=>fi δ>>=λit=>dM (cB fg ft (bA fe) it (aZ own.length js δ) [])>>=λp=>o.run p.2):=
 yw (bodyK:=λY acc=>qR elt (.ref acc) Y.env) (W:=λY acc P s=>wpAny (model Y.prog Y.w) Y.A (eval elt Y.env) (λx s1=>wpAny (model Y.prog Y.w) Y.A (call (.builtin "list.append") [.ref acc,x]) (λv s2=>P s2) (λv v=>False) s1) (λv v=>False) s) o hc T hi
  (λY it acc=>JZ ..) (λY acc=>yK) (λY acc P P' s hp h=>Um h (λx s1 h1=>Um h1 (λv s2 h2=>hp _ h2) λv v z=>z) λv v z=>z) hg ht (λYk m fp C s₂ H₂ acc=>vB rfl (he ..)) hs
noncomputable def jO(fi:ak->DM Itn)(fg:D->ak->DM ak)(ft:ak->DM Bool)(fb:ak->List D->DM (ak×List D))(δ:ak)(l:List D):DM (ak×List D):=fi δ>>=λit=>cB fg ft fb it δ l
theorem yU(hc:X.calm=true)(hxe:X.xe=λy y=>False)
  (hi:DI X E0 t1 i1 fi) (hg:DG X E0 t1 fg) (ht:DTs X E0 f1 ft) (he:DE X E0 elt fe) :
  BodyOk X acc (λP s=>wpAny (model X.prog X.w) X.A (eval i1 X.env) (λx s1=>wpAny (model X.prog X.w) X.A (pyIter x) (λit s2=>
   codeAny (model X.prog X.w) X.A (.compStart (.ListComp elt [⟨t0,i0,f0,0⟩,⟨t1,i1,f1,0⟩] scope pos) 1 it (.ref acc) X.env) (λr s3=>match r with
    |.ok _=>P s3
    |.error _=>False) s2) (λy y=>False) s1) (λy y=>False) s) (jO fi fg ft (bA fe)):=by
 intro Yk ρ0 H0 δ l M s δ' l' M' hacc ct e;obtain⟨itn,M2,e1,e3⟩:=DM.bind_ok e;obtain⟨σ,H,ρ,ys,I,x,j,ev,ha,cl,_⟩:=ct.ex;refine Um (hi.h Yk s σ H (λJt H1=>∃ρ1,Ext ρ H ρ1 H1/\J X.mg ρ1 M2 H1/\ItOk X.mg ρ1 H1 Jt itn) I ⟨ρ,δ,M,ev,j,_,e1,λρ1 H1 Jt a1 a2 a3=>⟨ρ1,a1,a2,a3⟩⟩) (λv s1 h1=>?_) λy y z=>by rw[hxe]at z;exact z
 refine Um h1 (λitv s2 h2=>?_) λy y z=>by rw[hxe]at z;exact z
 obtain⟨it,fp,tn,Jt,H2,rfl,I2,Tn,st2,f2,ρ1,x1,j1,iok⟩:=h2;have nacc:acc∉ρ.st:=x.na;have ha2:=x1.keep acc _ ha nacc;have na1:acc∉ρ1.st:=λz=>by have:=x1.new acc z nacc;rw[ha]at this;cases this
 have hv1:acc∈ρ1.vo:=by rw[x1.vo,x.vo];exact hacc
 have st:Cst X Yk acc ρ1 H2 δ l M2 fp s2:=⟨σ,H2,ρ1,ys,I2,.refl na1,j1,ev.mono x1,ha2,cl.mono x1,λb hb=>(f2 b hb).1⟩
 have fok:∀H',(∀b∈fp,H' b=none)->∀b∈fp,FpOk X Yk H' b:=λH' hn b hb=>⟨hn b hb,(f2 b hb).2⟩
 have loop:=zf hc hxe (Pz elt t0 i0 t1 i1 f0 f1 scope pos (.ref it) (.ref acc) X.env) yK (λP P' s hp h=>Um h (λx s1 h1=>Um h1 (λy s2 h2=>hp _ h2) λy y z=>z) λy y z=>z) hg ht (vB hxe he) Tn iok hv1 .refl fok st st2 e3
  (R:=λr s3=>match r with
    |.ok _=>Cst X Yk acc ρ0 H0 δ' l' M' [] s3
    |.error _=>False) λs' c'=>by
    obtain⟨σ4,H4,ρ4,ys,I4,x4,j4,ev4,ha4,cl4,fr4⟩:=c'.ex;exact⟨σ4,H4,ρ4,ys,I4,(x.trans (x1.b na1)).trans x4,j4,ev4,ha4,cl4,λb hb=>nomatch hb⟩
 exact qG rfl rfl loop (Tn.self X.A 0 _ _ _ st2 loop)
theorem Ih{cl:List (Str×Addr)}{own:List Str}{js:List Nat}{fr:List Str}{f0 f1:List Expr}{fi fi1:ak->DM Itn}{fg fg1:D->ak->DM ak}{ft ft1:ak->DM Bool}{fe:ak->DM D}
  (o:Out) (hc:X.calm=true) (T:CompG X scope cl own js fr) (hi:DI X E t0 i0 fi)
  (hg:∀Yk m fp C s₂ H₂,DG (X.aR Yk scope (cellsFrom m scope.names cl) (own++fr) fp C s₂ H₂) E0 t0 fg) (ht:∀Yk m fp C s₂ H₂,DTs (X.aR Yk scope (cellsFrom m scope.names cl) (own++fr) fp C s₂ H₂) E0 f0 ft)
  (hi1:∀Yk m fp C s₂ H₂,DI (X.aR Yk scope (cellsFrom m scope.names cl) (own++fr) fp C s₂ H₂) E0 t1 i1 fi1) (hg1:∀Yk m fp C s₂ H₂,DG (X.aR Yk scope (cellsFrom m scope.names cl) (own++fr) fp C s₂ H₂) E0 t1 fg1)
  (ht1:∀Yk m fp C s₂ H₂,DTs (X.aR Yk scope (cellsFrom m scope.names cl) (own++fr) fp C s₂ H₂) E0 f1 ft1) (he:∀Yk m fp C s₂ H₂,DE (X.aR Yk scope (cellsFrom m scope.names cl) (own++fr) fp C s₂ H₂) E0 elt fe)
  (hs:∀y,foldedSetIterable i0 X.env y=pure y:=by intro _;rfl) (hs1:∀(env:Env) y,foldedSetIterable i1 env y=pure y:=by intro _ _;rfl) :
  DE X E (.ListComp elt [⟨t0,i0,f0,0⟩,⟨t1,i1,f1,0⟩] scope pos) (λδ=>fi δ>>=λit=>dM (cB fg ft (jO fi1 fg1 ft1 (bA fe)) it (aZ own.length js δ) [])>>=λp=>o.run p.2):=
 yw (bodyK:=λY acc=>pX (.ListComp elt [⟨t0,i0,f0,0⟩,⟨t1,i1,f1,0⟩] scope pos) i1 (.ref acc) Y.env) (W:=λY acc P s=>wpAny (model Y.prog Y.w) Y.A (eval i1 Y.env) (λx s1=>wpAny (model Y.prog Y.w) Y.A (pyIter x) (λit s2=>
   codeAny (model Y.prog Y.w) Y.A (.compStart (.ListComp elt [⟨t0,i0,f0,0⟩,⟨t1,i1,f1,0⟩] scope pos) 1 it (.ref acc) Y.env) (λr s3=>match r with
    |.ok _=>P s3
    |.error _=>False) s2) (λv v=>False) s1) (λv v=>False) s) o hc T hi
  (λY it acc=>HB ..) (λY acc=>Bf (hs1 _)) (λY acc P P' s hp h=>Um h (λx s1 h1=>Um h1 (λv s2 h2=>Vw h2 λr s3 h3=>by cases r with | ok f=>exact hp _ h3 | error x=>exact h3) λv v z=>z) λv v z=>z) hg ht (λYk m fp C s₂ H₂ acc=>yU (X:=X.aR Yk scope (cellsFrom m scope.names cl) (own++fr) fp C s₂ H₂) hc rfl (hi1 ..) (hg1 ..) (ht1 ..) (he ..)) hs
theorem boot_zip:bootBuiltins "zip"=some (.type "zip"):=by decide +kernel
noncomputable def frz:D->Option (Bool×List D)
 |.tup l=>some (true,l)
 |.lst l=>some (false,l)
 |_=>none
noncomputable def pairs:List D->List D->List D
 |x::xs,y::ys=>.tup [x,y]::pairs xs ys
 |_,_=>[]
noncomputable def Ad:List D->Option Itn
 |[x,y]=>match frz x,frz y with
   |some (_,l),some (_,m)=>some (.fix (pairs l m))
   |_,_=>none
 |_=>none
theorem pairs_at:∀ (l m:List D) (i:Nat),(pairs l m)[i]?=match l[i]?,m[i]? with
  |some x,some y=>some (.tup [x,y])
  |_,_=>none
 |[],m,i=>by simp[pairs]
 |x::xs,[],i=>by
   cases i with
   |zero=>simp[pairs]
   |succ i=>simp only[pairs,List.getElem?_nil,List.getElem?_cons_succ];cases xs[i]?<;>rfl
 |x::xs,y::ys,0=>by simp[pairs]
 |x::xs,y::ys,i+1=>by simp only[pairs,List.getElem?_cons_succ];exact pairs_at xs ys i
section
variable{mg:Str->Option Value}{ρ:Rh}{H:Hp}
theorem yR{K:PySem.W.Frag}{x:V}{d:D}{b:Bool}{l:List D}(c:Cv mg ρ H x d)(e:frz d=some (b,l)):∃a xs,x=.ref a/\a∉ρ/\H a=some (if b then .tup xs else .lst xs)/\Cvs mg ρ H xs l:=by
 cases c with
 |tup n h c=>cases e;exact⟨_,_,rfl,n,h,c⟩
 |lst n h c=>cases e;exact⟨_,_,rfl,n,h,c⟩
 |_=>cases e
theorem pH{K:PySem.W.Frag}{b:Bool}{a:Addr}{xs:List V}(h:H a=some (if b then .tup xs else .lst xs)):mO b K H a xs:=by
 cases b with
 |true=>exact SqT.of h
 |false=>exact SqL.of h
set_option tactic.hygienic true in
theorem Nt{K:PySem.W.Frag}{b1 b2:Bool}{l1 l2:Addr}{xs ys:List V}{ds es:List D}(n1:l1∉ρ)(n2:l2∉ρ)(h1:H l1=some (if b1 then .tup xs else .lst xs))(h2:H l2=some (if b2 then .tup ys else .lst ys))(c1:Cvs mg ρ H xs ds)(c2:Cvs mg ρ H ys es):ItOk mg ρ H (QX K b1 b2 l1 l2) (.fix (pairs ds es)) where
 item:=λi ρ' H' M' d e j q=>by
  have hq:(pairs ds es)[i]?=some d:=TJ q;rw[pairs_at]at hq;split at hq
  ·rename_i dx dy e1 e2;cases hq;obtain⟨x,hx,cx⟩:=c1.get e1;obtain⟨y,hy,cy⟩:=c2.get e2;have k1:=(e.keep _ _ h1 n1).2;have k2:=(e.keep _ _ h2 n2).2;refine⟨⟨xs,ys,x,y,pH k1,pH k2,hx,hy⟩,λv H2 z=>?_⟩
   obtain⟨p,hp,rfl,z⟩:=z;obtain⟨x',y',hx',hy',rfl⟩:=z xs ys (pH k1) (pH k2);rw[hx]at hx';cases hx';rw[hy]at hy';cases hy';exact⟨.lay hp,j.lay _ hp,.tup (j.fresh hp) upd_same (.cons ((cx.kp e).mono (.lay hp)) (.cons ((cy.kp e).mono (.lay hp)) .nil))⟩
  ·cases hq
 stop:=λi ρ' H' M' e j q=>by
  have hq:(pairs ds es)[i]?=none:=TJ q;rw[pairs_at]at hq;refine⟨xs,ys,pH (e.keep _ _ h1 n1).2,pH (e.keep _ _ h2 n2).2,?_⟩;cases e1:ds[i]? with
  |none=>exact .inl (Ul.mpr (by rw[c1.len];exact Ul.mp e1))
  |some dx=>cases e2:es[i]? with
    |none=>exact .inr (Ul.mpr (by rw[c2.len];exact Ul.mp e2))
    |some dy=>rw[e1,e2]at hq;cases hq
end
set_option tactic.hygienic true in
theorem Fx{X:Cx}{E:XK}{elts:List Expr}{kt:Nat}{tp:Pos}{a b:Expr}{fa:ak->DM (List D)}{p pos:Pos}(hg:Gl X "zip")(hm:X.mg "zip"=none)(ha:DA X E [a,b] fa)(hs:autoParam (notStar a=true) qAA)(hs2:autoParam (notStar b=true) qAA):
  DI X E (.Tuple elts kt tp) (.Call (.Name "zip" p) [a,b] [] pos) (λδ=>fa δ>>=λl=>opt (Ad l)):=⟨by
 intro Yk s σ H R I h;obtain⟨ρ,δ,M,ev,j,g1⟩:=h;refine Call_ (ld_blt I hg hm boot_zip (Uj (thn (ha.h.h pos Yk s σ H (λvs H1=>∃ρ1 M1 ds,Ext ρ H ρ1 H1/\J X.mg ρ1 M1 H1/\Cvs X.mg ρ1 H1 vs ds/\Go X.mg E (ItOk X.mg) R ρ1 H1 (opt (Ad ds)) M1) I ⟨ρ,δ,M,ev,j,g1.bind λρ1 H1 M1 vs ds e1 j1 c1 g2=>⟨ρ1,M1,ds,e1,j1,c1,g2⟩⟩) λus s1 h1=>?_) (aM hs) (by rw[aM hs2];rfl)))
 obtain⟨vs,H1,I1,rv,ρ1,M1,ds,e1,j1,c1,g2⟩:=h1;obtain⟨itn,ei,q⟩:=g2.opt;unfold Ad at ei;split at ei;rotate_left
 ·cases ei
 rename_i dx dy;split at ei;rotate_left
 ·cases ei
 rename_i b1 l b2 m f1 f2;cases ei;obtain⟨v1,v2,rfl,k1,k2⟩:=c1.two;obtain⟨a1,xs,rfl,n1,h1,cx⟩:=yR (K:=X.K) k1 f1;obtain⟨a2,ys,rfl,n2,h2,cy⟩:=yR (K:=X.K) k2 f2;obtain⟨u1,u2,rfl,r1,r2⟩:=vals2 rv;cases r1;cases r2;obtain⟨its1,w1,p1,_⟩:=I1.seqS (pH (K:=X.K) h1);obtain⟨its2,w2,p2,_⟩:=I1.seqS (pH (K:=X.K) h2);refine Fe p1 p2 λh' a1' a2' a3 a4 a5 a6 a7=>wpAny_pyIter_zip a1' ?_
 have lt1:@LT.lt Nat _ a1 s1.heap.objs.size:=p1.lt;have lt2:@LT.lt Nat _ a2 s1.heap.objs.size:=p2.lt;have D:ZipApart (s1.heap.objs.size+4) (s1.heap.objs.size+2) (s1.heap.objs.size+3) s1.heap.objs.size (s1.heap.objs.size+1) a1 a2:=by constructor<;>exact λ(h:@Eq Nat _ _)=>by have:=lt1;have:=lt2;lia
 have I2:Inv X Yk σ H1 { s1 with heap:=h' }:=I1.kept (t':=s1.toks) a7
 refine⟨_,_,_,_,H1,rfl,I2,Jv D,⟨a1',a2',⟨_,_,a3⟩,a4.1,a5.1⟩,λb hb=>?_,q ρ1 H1 _ .refl j1 (Nt n1 n2 h1 h2 cx cy)⟩
 refine I1.fpOk ?_ (I1.hok.fresh ?_)<;>(simp only[List.mem_cons,List.mem_nil_iff,or_false]at hb;rcases hb with rfl | rfl | rfl | rfl | rfl<;>lia)⟩
theorem P0(m:DM α)(f:α->DM β)(g:β->DM γ):(m>>=f)>>=g=m>>=λa=>f a>>=g:=by
 funext M;show DM.bind (DM.bind m f) g M=DM.bind m (λa=>DM.bind (f a) g) M
 unfold DM.bind;cases m M with
 |none=>rfl
 |some r=>obtain⟨r,M'⟩:=r;cases r<;>rfl
theorem Ke:DE X E (.Dict [] [] pos) (λz=>pure (.dic [] [])):=⟨PE.mono pe_dnewK λσ H Q h=>by obtain⟨ρ,δ,M,ev,j,g⟩:=h;exact λp hp=>g.pure ρ _ _ (.lay hp) (j.lay _ hp) (.dic (j.fresh hp) upd_same rfl .nil)⟩
theorem Kf:DE X E (.Dict [some (.Constant (.int i) k1 p1)] [.Constant (.int j) k2 p2] pos) (λz=>pure (.dic [.inl i] [.int j])):=⟨PE.mono (pe_disp (pps_cons pe_int pe_int pps_nil) rfl rfl (by simp) (by show 1<=15;decide)) λσ H Q h=>by
 obtain⟨ρ,δ,M,ev,jj,g⟩:=h;refine λp hp=>⟨upd_same,[(.inl i,.int j)],rfl,(by show 1<=15;decide),?_⟩
 have e:upd (upd H p (HO.dK [])) p (HO.dK (mergeK [] [(.inl i,.int j)]))=upd H p (.dK [(.inl i,.int j)]):=upd_upd;rw[e];exact g.pure ρ _ _ (.lay hp) (jj.lay _ hp) (.dic (ks:=[.inl i]) (xs:=[.int j]) (jj.fresh hp) upd_same rfl (.cons (.int j) .nil))⟩
set_option tactic.hygienic true in
theorem iW:∀ {names:List (Str×NameKind)}{m:Nat}{y:Str}{c:Addr},(y,c)∈cellsFrom m names []->(y,NameKind.cell)∈names
 |[],_,_,_,h=>nomatch h
 | (n,k)::r,m,y,c,h=>by
   unfold cellsFrom at h;split at h
   ·rename_i hk;rw[cG]at h;rcases T4.mp h with z | z
    ·exact .tail _ (iW z)
    ·cases TQ.mp z;have hk':k=.cell:=by cases k<;>first | rfl | cases hk
     rw[hk'];exact .head _
   ·exact .tail _ (iW h)
noncomputable def isC:NameKind->Bool
 |.cell=>true
 |_=>false
theorem Nm(h:isC k=true):k=.cell:=by cases k<;>first | rfl | cases h
set_option tactic.hygienic true in
theorem K4(h:(names.all λp=>!isC p.2 || (match names.lookup p.1 with | some k=>isC k | none=>false))=true):∀(m:Nat) y c,(cellsFrom m names []).lookup y=some c->names.lookup y=some .cell:=λm y c e=>by
 have hm:=iW (Vj e);have q:=Uh.mp h _ hm;simp only[isC,Bool.not_true,Bool.false_or]at q;split at q
 ·rename_i k hk;rw[hk,Nm q]
 ·cases q
theorem K6{cl:List (Str×Addr)}{names:List (Str×NameKind)}(h:yp (λp=>(match names.lookup p.1 with | some k=>isC k | none=>false)=false) cl):∀y c,cl.lookup y=some c->names.lookup y≠some .cell:=λy c e z=>by have:=nY h (y,c) (L2.mem_of_lookup e);simp only[z,isC]at this;cases this
end L3
namespace L3
open PySem PySem.Spec L2
@[simp] theorem aq(a:α)(f:α->DM β):((Pure.pure a:DM α)>>=f)=f a:=id rfl
@[simp] theorem aN(m:DM α)(f:α->DM β)(g:β->DM γ):(m>>=f)>>=g=m>>=λa=>f a>>=g:=P0 m f g
@[simp] theorem fM(a:α):(opt (some a):DM α)=Pure.pure a:=id rfl
@[simp] theorem Qz(a:α):dM (Pure.pure a:DM α)=Pure.pure a:=id rfl
@[simp] theorem RG(c:Str)(f:α->DM β):((raise c:DM α)>>=f)=raise c:=id rfl
theorem bO{α:Type}{f:Mo->Option α}{a:α}(h:∀M,f M=some a):(rd f:DM α)=Pure.pure a:=by funext M;show (f M).map _=_;rw[h M];rfl
@[simp] theorem QB(f g:ak->DM Fl)(δ:ak):DQ f g δ=f δ>>=λr=>match r with
 |.nx δ'=>g δ'
 |r=>Pure.pure r:=id rfl
@[simp] theorem cC(i:Nat)(δ:ak):fH i δ=opt ((δ[i]?).join):=id rfl
@[simp] theorem jz(b:Bool):eN (.bl b)=Pure.pure b:=id rfl
@[simp] theorem OD(p n:Nat)(fb:ak->DM Fl)(ds:List D):aL p n fb ds=if ds.length=p then fb (bJ n ds)>>=λr=>match r with
 |.nx _=>Pure.pure .non
 |.rt d=>Pure.pure d
 |_=>stuck else stuck:=id rfl
@[simp] theorem RJ(n:Nat)(ds:List D):bJ n ds=ds.map some++List.replicate (n-ds.length) none:=id rfl
@[simp] theorem dN(i:Nat)(d:D)(δ:ak):gN i d δ=Pure.pure (δ.set i (some d)):=id rfl
@[simp] theorem Td(n:Nat)(fs:List D->ak->DM ak)(l:List D)(δ:ak):gT n fs (.tup l) δ=if l.length=n then fs l δ else stuck:=id rfl
@[simp] theorem S6(f:D->ak->DM ak)(fs:List D->ak->DM ak)(d:D)(l:List D)(δ:ak):fJ f fs (d::l) δ=f d δ>>=λδ'=>fs l δ':=id rfl
@[simp] theorem S7(δ:ak):n6 [] δ=Pure.pure δ:=id rfl
@[simp] theorem lL(i j:Nat)(fa:ak->DM (List D))(δ:ak):Dl i j fa δ=fa δ>>=λl=>match l with
 |[v,w]=>Pure.pure (.nx ((δ.set i (some v)).set j (some w)))
 |_=>stuck:=id rfl
@[simp] theorem Qt(i j:Int):(rd (b8 (.int i) (.int j)):DM D)=Pure.pure (.int (i+j)):=id rfl
@[simp] theorem QD(i j:Int):(rd (vX (.int i) (.int j)):DM D)=Pure.pure (.int (i-j)):=id rfl
@[simp] theorem Jo(i j:Int):(rd (wR (.int i) (.int j)):DM D)=Pure.pure (.bl (decide (i<j))):=id rfl
@[simp] theorem Jm(i j:Int):(rd (wO (.int i) (.int j)):DM D)=Pure.pure (.bl (decide (i<=j))):=id rfl
@[simp] theorem Rw(i j:Int):(rd (iQ (.int i) (.int j)):DM D)=Pure.pure (.bl (decide (j<i))):=id rfl
@[simp] theorem Rv(i j:Int):(rd (Ga (.int i) (.int j)):DM D)=Pure.pure (.bl (decide (j<=i))):=id rfl
@[simp] theorem Qy(i:Int):(rd (Di (.int i)):DM D)=Pure.pure (.int (-i)):=id rfl
@[simp] theorem SN(i:Int):(rd (Rf [.int i]):DM D)=Pure.pure (.int (if i<0 then -i else i)):=id rfl
@[simp] theorem Sq(i j:Int):(rd (Dh [.int i,.int j]):DM D)=Pure.pure (.int (if j > i then j else i)):=id rfl
@[simp] theorem Ss(i j:Int):(rd (Qk [.int i,.int j]):DM D)=Pure.pure (.int (if j<i then j else i)):=id rfl
theorem Qx{i j:Int}(h:0<j):(rd (jR (.int i) (.int j)):DM D)=Pure.pure (.int (i%j)):=bO λM=>by simp[cX,h]
theorem JR{i j:Int}(h:gf i j=true):(rd (oE (.int i) (.int j)):DM D)=Pure.pure (.int (i*j)):=bO λM=>by simp[cX,h]
theorem O1{i j:Int}(h:qQ i j=true):(rd (uM (.int i) (.int j)):DM D)=Pure.pure (.int (i / j)):=bO λM=>by simp[cX,h]
theorem JS{i j:Int}(h:JN i j=true):(rd (Dq (.int i) (.int j)):DM D)=Pure.pure (.int (i^j.toNat)):=bO λM=>by simp[cX,h]
set_option tactic.hygienic true in
theorem bits_le(h:i.natAbs<2^n):Builtin.Int.intBits i<=n:=by
 unfold Builtin.Int.intBits;split
 ·exact Vl _
 ·rename_i h0;have:i.natAbs≠0:=by intro z;apply h0;simp;lia
  exact (Nat.log2_lt this).mpr h
theorem RC(h:i.natAbs<2^64):gf i j=true:=by
 unfold gf;have:¬ (Builtin.Int.intBits i > shortFactorBits):=by have:=bits_le h;unfold shortFactorBits;lia
 simp[this]
theorem KY(h:j.natAbs<2^64):gf i j=true:=by
 unfold gf;have:¬ (Builtin.Int.intBits j > shortFactorBits):=by have:=bits_le h;unfold shortFactorBits;lia
 simp[this]
theorem Kh(h0:0<j)(h:j.natAbs<2^1000):qQ i j=true:=by
 unfold qQ;have a:Builtin.divisionGoesByPylong i j=false:=by
  unfold Builtin.divisionGoesByPylong;have hj:j.natAbs≠0:=by lia
  have hl:j.natAbs.log2<1000:=(Nat.log2_lt hj).mpr h;have h0':(j==0)=false:=by simp;lia
  simp only[h0'];have:¬ (j.natAbs.log2 / 30+1 > 300):=by lia
  simp[this]
 simp[a,h0]
theorem zO{a b:Nat}(h0:0<b):(rd (jR (.int (a:Int)) (.int (b:Int))):DM D)=Pure.pure (.int ((a%b:Nat):Int)):=by rw[Qx (by lia),Int.natCast_emod]
noncomputable def nD(n:Nat):D:=.int (n:Int)
noncomputable def nT(l:List Nat):D:=.tup (l.map nD)
theorem pM{α:Type}{l:List α}{i:Nat}{a:α}(h:l[i]?=some a):atI l (i:Int)=some a:=by
 have hi:=(Ti.mp h).1;unfold atI ixN;rw[Tv (by lia),Tv (by lia)]
 simpa using h
theorem gP{l:List D}{i:Nat}{a:D}(h:l[i]?=some a):(rd (bU (.tup l) (.int (i:Int))):DM D)=Pure.pure a:=bO λM=>pM h
theorem xF{l:List D}{i:Nat}{a:D}(h:l[i]?=some a):(rd (bU (.lst l) (.int (i:Int))):DM D)=Pure.pure a:=bO λM=>pM h
theorem Qw{l:List Nat}{i:Nat}{a:Nat}(h:l[i]?=some a):(rd (bU (nT l) (.int (i:Int))):DM D)=Pure.pure (nD a):=gP (by simp[h])
@[simp] theorem Sh(l:List D):(rd (dZ [.tup l]):DM D)=Pure.pure (.int (l.length:Int)):=id rfl
@[simp] theorem Sd(l:List D):(rd (dZ [.lst l]):DM D)=Pure.pure (.int (l.length:Int)):=id rfl
@[simp] theorem Sg(l:List Int):(rd (dZ [.scr l]):DM D)=Pure.pure (.int (l.length:Int)):=id rfl
@[simp] theorem Sy(l:List D):(rd (kI [.lst l]):DM D)=Pure.pure (.tup l):=id rfl
@[simp] theorem SJ(l:List D):(rd (kI [.tup l]):DM D)=Pure.pure (.tup l):=id rfl
theorem n8:∀l:List Int,intsOf (l.map D.int)=some l
 |[]=>rfl
 |i::l=>by simp[intsOf,n8 l]
theorem dU:∀l:List Nat,intsOf (l.map nD)=some (l.map λn:Nat=>(n:Int))
 |[]=>rfl
 |i::l=>by simp[intsOf,nD];exact dU l
theorem ux:∀l:List Nat,(l.map λn:Nat=>(n:Int)).sum=((l.sum:Nat):Int)
 |[]=>rfl
 |i::l=>by simp[ux l]
@[simp] theorem Sw(l:List Nat):(rd (Ec [nT l]):DM D)=Pure.pure (nD l.sum):=bO λM=>by show (intsOf (l.map nD)).map _=_;rw[dU];simp[nD,ux]
@[simp] theorem Sv(l:List Nat):(rd (Ec [.lst (l.map nD)]):DM D)=Pure.pure (nD l.sum):=bO λM=>by show (intsOf (l.map nD)).map _=_;rw[dU];simp[nD,ux]
@[simp] theorem O4{n:Nat}(h:n<2^62):uh [.int (n:Int)]=some (.fix ((List.range n).map nD)):=by
 have:oU (n:Int)=true:=by unfold oU;exact Uk ⟨by lia,by lia⟩
 simp[uh,this,oO,nD]
@[simp] theorem SQ(l:List D):o9 (.tup l)=some (.fix l):=id rfl
theorem eE(h:l.length<=1000000):ie l=Pure.pure (.tup l):=by
 have:fu l=true:=by unfold fu;exact Uk (by show l.length<=2^24;lia)
 simp[ie,this]
theorem b7(h:l.length<=1000000):dH l=Pure.pure (.lst l):=by
 have:fu l=true:=by unfold fu;exact Uk (by show l.length<=2^24;lia)
 simp[dH,this]
@[simp] theorem BP(fg:D->ak->DM ak)(ft:ak->DM Bool)(fb:ak->List D->DM (ak×List D))(ds:List D)(δ:ak)(l:List D):cB fg ft fb (.fix ds) δ l=bc fg ft fb ds δ l:=id rfl
theorem tY(S:ak->Prop)(en:D->ak)(p:D->Bool)(e:D->D):∀ (ds:List D) (δ:ak) (l:List D),S δ->l.length + ds.length<=1000000->
  (∀d∈ds,∀δ,S δ->fg d δ=Pure.pure (en d)/\S (en d))->(∀d∈ds,ft (en d)=Pure.pure (p d))->(∀d∈ds,p d=true->fe (en d)=Pure.pure (e d))->∃δ',bc fg ft (bA fe) ds δ l=Pure.pure (δ',l++(ds.filter p).map e)
 |[],δ,l,_,_,_,_,_=>⟨δ,by simp[bc]⟩
 | d::ds,δ,l,s,hl,h0,h1,h2=>by
   have a:=h0 d (T6 ..) δ s;have b:=h1 d (T6 ..);have hl':l.length+(ds.length+1)<=1000000:=by simpa using hl
   have lt:l.length<sizeLine:=by show l.length<2^24;lia
   have ih:=λl' hl'=>tY S en p e ds (en d) l' a.2 hl' (λx hx=>h0 x (Ui _ hx)) (λx hx=>h1 x (Ui _ hx)) (λx hx=>h2 x (Ui _ hx))
   by_cases hp:p d=true
   ·have c:=h2 d (T6 ..) hp;obtain⟨δ',q⟩:=ih (l++[e d]) (by simp;lia)
    refine⟨δ',?_⟩;simp[bc,a.1,b,hp,bA,c,lt,q]
   ·obtain⟨δ',q⟩:=ih l (by lia)
    refine⟨δ',?_⟩;simp[bc,a.1,b,hp,q]
@[simp] theorem Hg(l:List D):Out.run .val l=Pure.pure (.lst l):=id rfl
theorem Qc{ft:ak->DM Bool}{fe:ak->DM D}{x:Option D}{rest:ak}{ds:List D}(p:D->Bool)(e:D->D)(hl:ds.length<=1000000)(h1:∀d∈ds,ft (some d::rest)=Pure.pure (p d))(h2:∀d∈ds,p d=true->fe (some d::rest)=Pure.pure (e d)){β:Type}{k:ak×List D->DM β}{k':List D->DM β}(hk:∀q,k q=k' q.2):
  (dM (bc (gN 0) ft (bA fe) ds (x::rest) [])>>=k)=k' ((ds.filter p).map e):=by
 obtain⟨δ',q⟩:=tY (fg:=gN 0) (ft:=ft) (fe:=fe) (λδ=>∃x,δ=x::rest) (λd=>some d::rest) p e ds (x::rest) [] ⟨x,rfl⟩ (by simpa using hl) (λd _ δ ⟨x,h⟩=>⟨by subst h;rfl,_,rfl⟩) h1 h2
 rw[q];simp[hk]
@[simp] theorem RD(m:DM α):(m>>=λa=>(Pure.pure a:DM α))=m:=by
 funext M;show DM.bind m _ M=m M;unfold DM.bind;cases m M with
 |none=>rfl
 |some r=>obtain⟨r,M'⟩:=r;cases r<;>rfl
noncomputable def jx:Option D->List D->Option D
 |x,[]=>x
 |_,d::ds=>jx (some d) ds
theorem iM:∀ (as bs:List Int),PyData.eqvAll (as.map .int) (bs.map .int)=decide (as=bs)
 |[],[]=>by simp[PyData.eqvAll]
 |[],b::bs=>by simp[PyData.eqvAll]
 |a::as,[]=>by simp[PyData.eqvAll]
 |a::as,b::bs=>by rw[Uu,Uu];simp only[PyData.eqvAll,PyData.eqv,iM as bs];by_cases h:a=b<;>by_cases h2:as=bs<;>simp[h,h2]
theorem gY:∀l:List Int,gh (l.map D.int)=some (l.map PyData.int)
 |[]=>rfl
 |i::l=>by simp[gh,toPy,gY l]
theorem lay_ints:∀l:List Int,PyData.canLayAll0 (l.map PyData.int)=true
 |[]=>rfl
 |i::l=>by simp[PyData.canLayAll0,PyData.canLay0,lay_ints l]
theorem gJ:∀ l:List Int,PyData.depthAll (l.map PyData.int)<=1
 |[]=>by simp[PyData.depthAll]
 |i::l=>by
   have:=gJ l;simp only[List.map_cons,PyData.depthAll,PyData.depth]
   lia
@[simp] theorem Qu(i j:Int):(rd (cU (.int i) (.int j)):DM D)=Pure.pure (.bl (decide (i=j))):=bO λM=>by simp[cU,eqB,eqP,toPy,PyData.canLay0,PyData.depth,PyData.eqv];rw[T7];simp
@[simp] theorem uZ(i j:Int):(rd (fW (.int i) (.int j)):DM D)=Pure.pure (.bl (!decide (i=j))):=bO λM=>by simp[fW,eqB,eqP,toPy,PyData.canLay0,PyData.depth,PyData.eqv];rw[T7];simp
@[simp] theorem S5(i j:Str):(rd (cU (.str i) (.str j)):DM D)=Pure.pure (.bl (decide (i=j))):=id rfl
@[simp] theorem S9(i j:Str):(rd (fW (.str i) (.str j)):DM D)=Pure.pure (.bl (!decide (i=j))):=id rfl
theorem yL(a b:List Int):eqB (.tup (a.map D.int)) (.tup (b.map D.int))=some (decide (a=b)):=by
 have:=gJ a;have h:∀n,n<=1->1+n<=60:=λn h=>by lia
 simp only[eqB,eqP,toPy,gY,Option.map_some,PyData.canLay0,lay_ints,PyData.depth,PyData.eqv,iM];simp
 lia
theorem qW(l:List Nat):nT l=.tup ((l.map λn:Nat=>(n:Int)).map D.int):=by simp[nT,nD,Function.comp_def]
theorem jK{a b:List Nat}:(a.map λn:Nat=>(n:Int))=(b.map λn:Nat=>(n:Int)) ↔ a=b:=List.map_inj_right λx y (h:(x:Int)=(y:Int))=>by lia
@[simp] theorem SX(a b:List Nat):(rd (cU (nT a) (nT b)):DM D)=Pure.pure (.bl (decide (a=b))):=bO λM=>by rw[qW,qW,cU,yL];simp[jK]
@[simp] theorem S8(a b:List Nat):(rd (fW (nT a) (nT b)):DM D)=Pure.pure (.bl (!decide (a=b))):=bO λM=>by rw[qW,qW,fW,yL];simp[jK]
theorem wg:∀l:List Bool,fY (l.map D.bl)=some l
 |[]=>rfl
 |b::l=>by simp[fY,Ju,wg l]
@[simp] theorem nH(l:List Bool):(rd (nW [.lst (l.map D.bl)]):DM D)=Pure.pure (.bl (l.all id)):=bO λM=>by simp[nW,aX,wg]
theorem Hy:∀ l:List Nat,fY (l.map nD)=some (l.map λn=>n != 0)
 |[]=>rfl
 |b::l=>by simp only[List.map_cons,fY,Hy l,nD,Ju];congr 2;rw[T7];simp
@[simp] theorem R9(l:List Nat):(rd (Mv [nT l]):DM D)=Pure.pure (.bl (l.any (·!= 0))):=bO λM=>by simp[Mv,nT,Hy,List.any_map]
theorem cF(h:∀M,tyOf d M=some t)(hc:tys.contains c=true):(rd (iZ [d,.ty c]):DM D)=Pure.pure (.bl (Eb t c)):=bO λM=>by simp only[iZ,h M,Option.bind_some,hc,if_true]
@[simp] theorem Sx(b:Bool):(rd (uy (.bl b)):DM Bool)=Pure.pure b:=id rfl
noncomputable def Rx(d:D):Prop:=∃s,(rd (xG [d]):DM D)=Pure.pure (.str s)
theorem Hn{l:List Int}(h:∀ i∈l,i.natAbs<2 ^ 1000):PyData.showableAll (l.map PyData.int)=true:=by
 induction l with
 |nil=>rfl
 | cons i l ih=>
   have h0:=h i (by simp)
   have:i.natAbs.log2<1920:=by
    rcases Nat.eq_zero_or_pos i.natAbs with z | z
    ·rw[z];decide
    ·exact TY ((Nat.log2_lt (by lia)).mpr h0) (by decide)
   simp[PyData.showableAll,PyData.showable,this,ih λi hi=>h i (by simp[hi])]
@[simp] theorem O7(l m:List D):Ad [.tup l,.tup m]=some (.fix (pairs l m)):=id rfl
noncomputable def Rn{α:Type}(m:DM α)(M:Mo)(Q:α->Mo->Prop):Prop:=∃a M',m M=some (.ok a,M')/\Q a M'
theorem Rn.bind(h:Rn m M Q1)(k:∀a M',Q1 a M'->Rn (f a) M' Q):Rn (m>>=f) M Q:=by obtain⟨a,M',e,q⟩:=h;obtain⟨b,M2,e2,q2⟩:=k a M' q;refine⟨b,M2,?_,q2⟩;show DM.bind m f M=_;unfold DM.bind;rw[e];exact e2
theorem Rn.pure(q:Q a M):Rn (Pure.pure a) M Q:=⟨a,M,rfl,q⟩
theorem Rn.mono{α:Type}{m:DM α}{Q R:α->Mo->Prop}(h:Rn m M Q)(k:∀a M',Q a M'->R a M'):Rn m M R:=by obtain⟨a,M',e,q⟩:=h;exact⟨a,M',e,k a M' q⟩
theorem Rn.rd(h:f M=some a)(q:Q a M):Rn (L3.rd f) M Q:=⟨a,M,by unfold L3.rd;rw[h];rfl,q⟩
theorem Rn.bindRd(a:α)(h:f M=some a)(q:Rn (k a) M Q):Rn (L3.rd f>>=k) M Q:=Rn.bind (Rn.rd h (Q:=λb M'=>b=a/\M'=M) ⟨rfl,rfl⟩) (λb M' ⟨e1,e2⟩=>by rw[e1,e2];exact q)
theorem Rn.call(hp:ds.length=p)(h:Rn (fb (bJ n ds)) M λr M'=>∃d,r=.rt d/\Q d M'):Rn (aL p n fb ds) M Q:=by
 unfold aL;rw[Tv hp];refine Rn.bind h λr M' ⟨d,e,q⟩=>?_
 subst e;exact Rn.pure q
structure Sb(p:Nat)(M M':Mo):Prop where
 le:M.length<=M'.length
 keep:∀q,q≠p->q<M.length->M'[q]?=M[q]?
theorem Sb.refl:Sb p M M:=⟨Tq _,λz z z=>rfl⟩
theorem Sb.trans(h:Sb p M M1)(k:Sb p M1 M2):Sb p M M2:=⟨Ue h.le k.le,λq hq hl=>(k.keep q hq (TY hl h.le)).trans (h.keep q hq hl)⟩
theorem Sb.set:Sb p M (M.set p o):=⟨by simp,λq hq hl=>Vn (λz=>hq z.symm)⟩
theorem Sb.push:Sb p M (M++[o]):=⟨by simp,λq hq hl=>T5 hl⟩
theorem Sb.at(h:Sb p M M')(hq:q≠p)(e:M[q]?=some o):M'[q]?=some o:=(h.keep q hq (Ti.mp e).1).trans e
theorem Sb.new(h:M'.length=M.length\/M.length<=M'.length)(hq:M.length<=q)(k:Sb q M' M2)(h1:Sb p M M'):Sb p M M2:=⟨Ue h1.le k.le,λr hr hl=>(k.keep r (by lia) (TY hl h1.le)).trans (h1.keep r hr hl)⟩
theorem KQ(h:l.length<=1000000):gM l M=some (.ok (.ref M.length),M++[.lst l]):=by
 have:fu l=true:=by unfold fu;exact Uk (by show l.length<=2^24;lia)
 unfold gM;rw[Tv this]
theorem Rn.gM(h:l.length<=1000000)(q:Rn (k (.ref M.length)) (M++[.lst l]) Q):Rn (L3.gM l>>=k) M Q:=Rn.bind ⟨_,_,KQ h,(⟨rfl,rfl⟩:D.ref M.length=.ref M.length/\M++[.lst l]=M++[.lst l])⟩ (Q1:=λa M'=>a=.ref M.length/\M'=M++[.lst l]) (λa M' ⟨e1,e2⟩=>by rw[e1,e2];exact q)
theorem jQ{n:Nat}{l:List D}{i:Nat}(h:M[n]?=some (.lst l))(hi:l[i]?=some a):bU (.ref n) (.int (i:Int)) M=some a:=by show (aX (.ref n) M).bind _=_;simp only[aX,h,Option.bind_some];exact pM hi
theorem Nv(h:i<n):ixN n (i:Int)=some i:=by unfold ixN;rw[Tv (by lia),Tv (by lia)];simp
theorem rF{n:Nat}{l:List D}{i:Nat}(h:M[n]?=some (.lst l))(hi:i<l.length):DR (.ref n) (.int (i:Int)) v M=some (.ok (),M.set n (.lst (l.set i v))):=by delta DR;dsimp only;rw[h];dsimp only;rw[Nv hi]
theorem vq(h:M[n]?=some (.lst l))(hl:l.length<1000000):HS (.ref n) [v] M=some (.ok .non,M.set n (.lst (l++[v]))):=by
 have:l.length<sizeLine:=by show l.length<2^24;lia
 delta HS;dsimp only;rw[h];dsimp only;rw[Tv this]
theorem Rn.run(h:m M=some (.ok a,M'))(q:Rn (k a) M' Q):Rn (m>>=k) M Q:=Rn.bind (Q1:=λb M2=>b=a/\M2=M') ⟨a,M',h,rfl,rfl⟩ (λb M2 ⟨e1,e2⟩=>by rw[e1,e2];exact q)
theorem bZ(I:Nat->ak->Mo->Prop):∀ (ds:List D) (i:Nat) (δ:ak) (M:Mo),I i δ M->(∀ j d δ M,ds[j]?=some d->I (i + j) δ M->Rn (tg d δ >>= fb) M λr M'=>∃ δ',r=.nx δ'/\I (i + j + 1) δ' M')->Rn (forL tg fb ds δ) M λr M'=>∃ δ',r=.nx δ'/\I (i + ds.length) δ' M'
 |[],i,δ,M,h,_=>Rn.pure ⟨δ,rfl,h⟩
 | d::ds,i,δ,M,h,st=>by
   have s:=st 0 d δ M rfl h;have e:forL tg fb (d::ds) δ=(tg d δ>>=fb)>>=λr=>match r with
    |.nx δ2=>forL tg fb ds δ2
    |.ct δ2=>forL tg fb ds δ2
    |.bk δ2=>Pure.pure (.nx δ2)
    |.rt d=>Pure.pure (.rt d):=by rw[aN];rfl
   rw[e];refine Rn.bind s λr M' ⟨δ',e,h'⟩=>?_
   subst e;have ih:=bZ I ds (i+1) δ' M' h' (λj d δ M hj hI=>by
    have:=st (j+1) d δ M (by simpa using hj) (by rw[show i+(j+1)=i+1+j by lia];exact hI)
    rw[show i+1+j+1=i+(j+1)+1 by lia];exact this)
   rw[show i+(d::ds).length=i+1+ds.length by simp;lia]
   exact ih
section
variable{X:Cx}{E:XK}
theorem Gb:PGet X (λx y H Q=>∃p xs i v,x=.ref p/\y=.int i/\0<=i/\SqL X.K H p xs/\atI xs i=some v/\Q v H):=by
 intro Yk s σ H x y ov iv Q I rx ry h;obtain⟨p,xs,i,z,rfl,rfl,h0,hq,he,q⟩:=h;cases rx;obtain⟨t,rfl⟩:=ry;obtain⟨its,r,pl,hz⟩:=I.list hq;obtain⟨j,h1,h2,h3,h4,h5⟩:=atI_get he;obtain⟨w,ew,rw'⟩:=r.get h2;have hl:=r.length;have hn:=line63;have fin:EP X Yk σ Q w s:=⟨z,H,I,rw',q⟩;have hj:i.toNat=j:=by rw[seqIndex_of h0 h5]at h1;exact TJ h1
 exact wpAny_getItem_list pl.isList h0 (by lia) (by rw[hj];simpa using ew) fin
noncomputable def Nx:D->D->Mo->Option D
 |x,.int i,M=>if 0<=i then (aX x M).bind λl=>atI l i else none
 |_,_,_=>none
set_option tactic.hygienic true in
theorem Qi:PGet X (rD X.mg E (λx y=>rd (Nx x y))):=by
 intro Yk s σ H x y ov iv Q I rx ry h;obtain⟨ρ,M,dx,dy,j,cx,cy,go⟩:=h;obtain⟨d,e,p⟩:=go.rd;unfold Nx at e;split at e
 ·cases cy;split at e
  ·rename_i h0;obtain⟨l,h1,e1⟩:=Ud.mp e;obtain⟨a,xs,rfl,ha,c⟩:=cM j cx h1;obtain⟨w,e2,cw⟩:=c.at e1;exact Gb (X:=X) Yk s σ H _ _ ov iv Q I rx ry ⟨_,_,_,_,rfl,rfl,h0,SqL.of ha,e2,p ρ H _ .refl j cw⟩
  ·cases e
 ·cases e
theorem Kl(ho:DE X E o fo)(hi:DE X E i fi)(hop:bM X E (inplaceOp op) gop)(he:DE X E e fe)
  (ha:∀ov iv new,augStore i ov iv new=(do holding [new,ov,iv] (setItem ov iv new);release [new,ov,iv] [];pure .next):=by intros;rfl) :
  DS X E (.AugAssign (.Subscript o i tpos) op e pos) (λδ=>fo δ>>=λa=>fi δ>>=λk=>rd (Nx a k)>>=λx=>fe δ>>=λy=>gop x y>>=λz=>DR a k z>>=λw=>pure (.nx δ)):=
 ⟨PS.mono (ps_augS (tip:=rD X.mg E gop) ho.h hi.h (Qi (E:=E)) he.h hop (xH (E:=E)) ha) fun D σ H h=>by
  obtain⟨ρ,δ,M,ev,j,g1⟩:=h;refine⟨ρ,δ,M,ev,j,g1.bind λρ1 H1 M1 a da e1 j1 c1 g2=>⟨ρ1,δ,M1,ev.mono e1,j1,g2.bind λρ2 H2 M2 k dk e2 j2 c2 g3=>⟨ρ2,M2,da,dk,j2,c1.mono e2,c2,g3.bind λρ3 H3 M3 x dx e3 j3 c3 g4=>?_⟩⟩⟩
  have ev3:=((ev.mono e1).mono e2).mono e3;refine⟨ρ3,δ,M3,ev3,j3,g4.bind λρ4 H4 M4 y dy e4 j4 c4 g5=>⟨ρ4,M4,dx,dy,j4,c3.mono e4,c4,g5.bind λρ5 H5 M5 z dz e5 j5 c5 g6=>?_⟩⟩
  refine⟨ρ5,M5,da,dk,dz,j5,(((c1.mono e2).mono e3).mono e4).mono e5,((c2.mono e3).mono e4).mono e5,c5,g6.bind λρ6 H6 M6 _ _ e6 j6 _ g7=>?_⟩
  exact g7.pure ρ6 H6 σ .refl j6 (((ev3.mono e4).mono e5).mono e6)⟩
end
end L3
namespace L3
open PySem PySem.Spec L2
open PyProof.Rows hiding St
theorem Et:bootBuiltins "enumerate"=some (.type "enumerate"):=by decide +kernel
noncomputable def d8(i:Nat):List D->List D
 |[]=>[]
 |x::xs=>.tup [.int (i:Int),x]::d8 (i+1) xs
noncomputable def uL:List D->Option Itn
 |[x]=>(frz x).map λp=>.fix (d8 0 p.2)
 |_=>none
theorem jC:∀ (l:List D) (k i:Nat),(d8 k l)[i]?=(l[i]?).map λx=>.tup [.int ((k + i:Nat):Int),x]
 |[],k,i=>by simp[d8]
 |x::xs,k,0=>by simp[d8]
 |x::xs,k,i+1=>by simp only[d8,List.getElem?_cons_succ,jC xs (k+1) i];rw[show k+1+i=k+(i+1) by lia]
theorem Kr{mg:Str->Option Value}{ρ:Rh}{H:Hp}{K:PySem.W.Frag}{b:Bool}{l:Addr}{xs:List V}{ds:List D}(n1:l∉ρ)(h1:H l=some (if b then .tup xs else .lst xs))(c1:Cvs mg ρ H xs ds):ItOk mg ρ H (QW K b l) (.fix (d8 0 ds)) where
 item:=λi ρ' H' M' d e j q=>by
  have hq:(d8 0 ds)[i]?=some d:=TJ q;rw[jC]at hq;obtain⟨dx,e1,rfl⟩:=Tp.mp hq;obtain⟨x,hx,cx⟩:=c1.get e1;have k1:=(e.keep _ _ h1 n1).2;refine⟨⟨xs,x,pH k1,hx⟩,λv H2 z=>?_⟩
  obtain⟨p,hp,rfl,z⟩:=z;obtain⟨x',hx',rfl⟩:=z xs (pH k1);rw[hx]at hx';cases hx';rw[Up];exact⟨.lay hp,j.lay _ hp,.tup (j.fresh hp) upd_same (.cons (.int _) (.cons ((cx.kp e).mono (.lay hp)) .nil))⟩
 stop:=λi ρ' H' M' e j q=>by have hq:(d8 0 ds)[i]?=none:=TJ q;rw[jC,Option.map_eq_none_iff]at hq;exact⟨xs,pH (e.keep _ _ h1 n1).2,Ul.mpr (by rw[c1.len];exact Ul.mp hq)⟩
theorem Ax(hg:Gl X "enumerate")(hm:X.mg "enumerate"=none)(ha:DA X E [a] fa)(hs:autoParam (notStar a=true) qAA):
  DI X E (.Tuple elts kt tp) (.Call (.Name "enumerate" p) [a] [] pos) (λδ=>fa δ>>=λl=>opt (uL l)):=⟨by
 intro Yk s σ H R I h;obtain⟨ρ,δ,M,ev,j,g1⟩:=h;refine Call_ (ld_blt I hg hm Et (Uj (thn (ha.h.h pos Yk s σ H (λvs H1=>∃ρ1 M1 ds,Ext ρ H ρ1 H1/\J X.mg ρ1 M1 H1/\Cvs X.mg ρ1 H1 vs ds/\Go X.mg E (ItOk X.mg) R ρ1 H1 (opt (uL ds)) M1) I ⟨ρ,δ,M,ev,j,g1.bind λρ1 H1 M1 vs ds e1 j1 c1 g2=>⟨ρ1,M1,ds,e1,j1,c1,g2⟩⟩) λus s1 h1=>?_) (aM hs) (by rfl)))
 obtain⟨vs,H1,I1,rv,ρ1,M1,ds,e1,j1,c1,g2⟩:=h1;obtain⟨itn,ei,q⟩:=g2.opt;unfold uL at ei;split at ei;rotate_left
 ·cases ei
 obtain⟨⟨b,l⟩,f1,rfl⟩:=Tp.mp ei;cases c1 with
 |cons k1 c1=>
 cases c1;obtain⟨a1,xs,rfl,n1,h1,cx⟩:=yR (K:=X.K) k1 f1;cases rv with
 |cons r1 rv=>
 cases rv;cases r1;obtain⟨its1,w1,p1,_⟩:=I1.seqS (pH (K:=X.K) h1);refine CG p1 λh' a1' a2' a3 a4=>wpAny_pyIter_enum a1' ?_
 have lt1:@LT.lt Nat _ a1 s1.heap.objs.size:=p1.lt;have I2:Inv X Yk σ H1 { s1 with heap:=h' }:=I1.kept (t':=s1.toks) a4
 refine⟨_,_,_,_,H1,rfl,I2,HD (b:=b) (e:=s1.heap.objs.size+1) (it:=s1.heap.objs.size) (l:=a1) (λ(h:@Eq Nat _ _)=>by lia) (λ(h:@Eq Nat _ _)=>by lia) (λ(h:@Eq Nat _ _)=>by lia),⟨⟨_,a1'⟩,a2'.1⟩,λb hb=>?_,q ρ1 H1 _ .refl j1 (Kr n1 h1 cx)⟩
 refine I1.fpOk ?_ (I1.hok.fresh ?_)<;>(simp only[List.mem_cons,List.mem_nil_iff,or_false]at hb;rcases hb with rfl | rfl<;>lia)⟩
set_option tactic.hygienic true in
theorem yx{i:Nat}{cl:List (Str×Addr)}{own:List Str}{js:List Nat}{fr:List Str}{f0:List Expr}{gs:List Comprehension}{fi:ak->DM Itn}{fg:D->ak->DM ak}{ft:ak->DM Bool}{fb:ak->List D->DM (ak×List D)}
  {bodyK:Cx->Addr->Sem Fin->Sem Fin}{W:Cx->Addr->(Shared->Prop)->Shared->Prop} (o:Out) (hN:X.N.Nodup) (hi0:X.N[i]?=some x) (hx:Loc X.env.scope x) (hc:X.calm=true) (T:CompG X scope cl own js fr) (hi:DI X E t0 i0 fi)
  (hturn:∀(Y:Cx) it acc,compTurn (.ListComp elt (⟨t0,i0,f0,0⟩::gs) scope pos) 0 (.ref it) (.ref acc) Y.env=turnOf ⟨t0,i0,f0,0⟩ (bodyK Y acc) (.compLoop (.ListComp elt (⟨t0,i0,f0,0⟩::gs) scope pos) 0 (.ref it) (.ref acc) Y.env) (.ref it) Y.env)
  (hW:∀Y acc,qL Y.prog Y.w Y.A (bodyK Y acc) (W Y acc)) (hmono:∀Y acc P P' s,(∀s,P s->P' s)->W Y acc P s->W Y acc P' s)
  (hg:∀Yk m fp C s₂ H₂,DG (X.aR Yk scope (cellsFrom m scope.names cl) (own++fr) fp C s₂ H₂) E0 t0 fg) (ht:∀Yk m fp C s₂ H₂,DTs (X.aR Yk scope (cellsFrom m scope.names cl) (own++fr) fp C s₂ H₂) E0 f0 ft)
  (hb:∀Yk m fp C s₂ H₂ acc,BodyOk (X.aR Yk scope (cellsFrom m scope.names cl) (own++fr) fp C s₂ H₂) acc (W (X.aR Yk scope (cellsFrom m scope.names cl) (own++fr) fp C s₂ H₂) acc) fb)
  (hsw:autoParam (swapsWith (.ListComp elt (⟨t0,i0,f0,0⟩::gs) scope pos) (some (.Name x px)) spos.line X.env=pure true) qAA)
  (hs:∀y,foldedSetIterable i0 X.env y=pure y:=by intro _;rfl) (hf:X.fn x=true\/X.env.scope.names.lookup x=some .local:=by first | exact .inl rfl | exact .inr rfl | assumption) :
  DS X E (.Assign [.Name x px] (.ListComp elt (⟨t0,i0,f0,0⟩::gs) scope pos) spos) (λδ=>(fi δ>>=λit=>dM (cB fg ft fb it (aZ own.length js δ) [])>>=λp=>o.run p.2)>>=λd=>pure (.nx (δ.set i (some d)))):=⟨by
 intro Yk s σ H D I h;obtain⟨ρ,δ,M,ev,j,g0⟩:=h;let Q:VK:=λv H'=>D.nx (σ.set i (some v)) H'
 have g1:Go X.mg E (Cv X.mg) Q ρ H (fi δ>>=λit=>dM (cB fg ft fb it (aZ own.length js δ) [])>>=λp=>o.run p.2) M:=g0.bind λρ1 H1 M1 v d e1 j1 c1 g2=>g2.pure ρ1 H1 _ .refl j1 ((ev.mono e1).set c1)
 rw[exec_Assign_Name_used _ _ _ _ hsw];refine Te (WL (Te ?_));show wpAny _ _ (do let _ <-comprehension (.ListComp elt (⟨t0,i0,f0,0⟩::gs) scope pos) scope X.env _ (newList []) false (eval i0 X.env) (some (assign (.Name x px) X.env))) _ _ s
 refine Te (Um (wpAny_comprehension_free (cl:=cl) (use:=some (assign (.Name x px) X.env)) (Q:=λu s'=>∃v H',Inv X Yk (σ.set i (some v)) H' s'/\Q v H') rfl hs T.clos T.kind T.names ?_) (λ_ s' ⟨v,H',I',q'⟩=>Th (Th ⟨_,H',I',q'⟩)) λu u e=>e)
 refine thn (hi.h Yk s σ H (λJt H1=>∃ρ1 M1 it,Ext ρ H ρ1 H1/\J X.mg ρ1 M1 H1/\ItOk X.mg ρ1 H1 Jt it/\Go X.mg E (Cv X.mg) Q ρ1 H1 (dM (cB fg ft fb it (aZ own.length js δ) [])>>=λp=>o.run p.2) M1) I
  ⟨ρ,δ,M,ev,j,g1.bind λρ1 H1 M1 Jt it e1 j1 iok g2=>⟨ρ1,M1,it,e1,j1,iok,g2⟩⟩) λv s1 h1=>thn h1 λitv s2 h2=>?_
 obtain⟨it,fp,tn,Jt,H2,rfl,I2,Tn,st2,f2,ρ1,M1,itn,x1,j1,iok,g2⟩:=h2;have hrun:∃δf lf Mf,cB fg ft fb itn (aZ own.length js δ) [] M1=some (.ok (δf,lf),Mf)/\Go X.mg E (Cv X.mg) Q ρ1 H2 (o.run lf) Mf:=by
  obtain⟨r,e,p⟩:=g2;have e:DM.bind _ _ M1=some r:=e;unfold DM.bind at e;split at e
  ·cases e
  ·rename_i c M' em;obtain⟨a,M'',_,z⟩:=uP em;cases z
  ·rename_i a M' em;obtain⟨a',M'',e1,z⟩:=uP em;cases z;exact⟨a.1,a.2,M',e1,r,e,p⟩
 obtain⟨δf,lf,Mf,hrun,g3⟩:=hrun;unfold newList;refine Ug (wV ?_);have hlt:∀b∈fp,b<s2.heap.objs.size:=λb hb=>by obtain⟨o,e,_⟩:=Tn.obj _ _ st2 b hb;exact Tt e
 dsimp only;generalize hP:s2.heap.push { cls:=.type "list",dict:=none,data:=.seq ([]:List Value).toArray }=hp1;have hCs:hp1.objs.size=s2.heap.objs.size+1:=by rw[<-hP,Uc]
 have hCe:hp1.objs.size+1=(hp1.push { cls:=.type "dict",data:=.dict #[] }).objs.size:=by rw[Uc]
 have hC:s2.heap.objs.size<=hp1.objs.size:=by lia
 have hne:hp1.objs.size≠s2.heap.objs.size:=by lia
 have old1:∀b o,s2.heap.get? b=some o->hp1.get? b=some o:=λb o e=>by rw[<-hP];exact Tf _ e
 have old:∀b o,s2.heap.get? b=some o->(pushCells (hp1.push { cls:=.type "dict",data:=.dict #[] }) scope.names).get? b=some o:=λb o e=>WM _ _ _ _ (Tf _ (old1 b o e))
 have new:∃n,(pushCells (hp1.push { cls:=.type "dict",data:=.dict #[] }) scope.names).get? s2.heap.objs.size=some { cls:=.type "list",data:=.seq #[] n }:=⟨_,WM _ _ _ _ (Tf _ (by rw[<-hP];exact Tu _ rfl))⟩
 have ns:(pushCells (hp1.push { cls:=.type "dict",data:=.dict #[] }) scope.names).Ns hp1.objs.size λu=>none:=(Heap.Ns.new hp1 (.type "dict")).keeps (WM _ _)
 have hfree:H2 s2.heap.objs.size=none:=I2.hok.fresh (Tq _);have IC:=wG (t':=s2.toks) T I2 f2 hlt old (Tq _) hC hne hCe (Ue hC (Nat.le_succ _)) (Vi _) (Nat.lt_succ_of_le hC) rfl new ns;have OK:=IC.ok;have fok:∀H',(∀b∈fp,H' b=none)->∀b∈fp,FpOk (X.aR Yk scope (cellsFrom (hp1.objs.size+1) scope.names cl) (own++fr) fp hp1.objs.size s2 H2) [] H' b:=λH' hn b hb=>by
  obtain⟨_,g2,g3,g4,g5,g6⟩:=f2 b hb;refine⟨hn b hb,TF (TY (hlt b hb) hC),λhm=>?_,.inl hb,(OK.exf b hb).2,λp hp=>g6 p (by simpa using hp)⟩
  rcases TV.mp (I2.stkSub _ hm) with z | z
  ·exact g2 z
  ·exact g3 z
 have fp1:∀b∈fp,upd H2 s2.heap.objs.size (.lst []) b=none:=λb hb=>by rw[upd_ne (TF (hlt b hb))];exact (f2 b hb).1
 have jb:=j1.begin hfree;have nf:=j1.fresh hfree;have st:Cst (X.aR Yk scope (cellsFrom (hp1.objs.size+1) scope.names cl) (own++fr) fp hp1.objs.size s2 H2) [] s2.heap.objs.size (ρ1.hold s2.heap.objs.size) (upd H2 s2.heap.objs.size (.lst [])) (aZ own.length js δ) [] M1 fp
   { s2 with heap:=pushCells (hp1.push { cls:=.type "dict",data:=.dict #[] }) scope.names,toks:=s2.toks }:=
  ⟨_,_,_,[],IC,.refl (λz=>nf (.inl z)),jb,(Az (ev.mono x1) _ _).kp (ou hfree),upd_same,.nil,fp1⟩
 have tn0:tn 0 (pushCells (hp1.push { cls:=.type "dict",data:=.dict #[] }) scope.names):=Tn.keep _ _ _ st2 (λb u o e=>old b o e)
 have loop:codeAny (model X.prog X.w) X.A (.compLoop (.ListComp elt (⟨t0,i0,f0,0⟩::gs) scope pos) 0 (.ref it) (.ref s2.heap.objs.size) (compEnvC scope (cellsFrom (hp1.objs.size+1) scope.names cl) hp1.objs.size X.env))
   (compPost (model X.prog X.w) X.A X.xe (some (assign (.Name x px) X.env)) (λu s'=>∃v H',Inv X Yk (σ.set i (some v)) H' s'/\Q v H') (.ref s2.heap.objs.size) hp1.objs.size) { s2 with heap:=pushCells (hp1.push { cls:=.type "dict",data:=.dict #[] }) scope.names,toks:=s2.toks }:=by
  refine zf (X:=X.aR Yk scope (cellsFrom (hp1.objs.size+1) scope.names cl) (own++fr) fp hp1.objs.size s2 H2) hc rfl (hturn _ _ _) (hW _ _) (hmono _ _) (hg ..) (ht ..) (hb Yk (hp1.objs.size+1) fp hp1.objs.size s2 H2 s2.heap.objs.size) Tn iok (.head _) (ou hfree) fok st tn0 hrun λs' c'=>?_
  obtain⟨σ4,H4,ρ4,ys,I4,x4,j4,ev4,ha4,cl4,fr4⟩:=c'.ex;obtain⟨m4,hn4,_⟩:=I4.loc;have hsb0:Heap.SameBut hp1.objs.size s'.heap s'.heap:=⟨rfl,λu u=>rfl⟩
  have un:=HF I4.base hsb0 hC;have ok4:=Be I4.hok hsb0 I4.free;have IO:Inv X Yk σ H4 s':=I2.call' (s':=s') (ch:=fp) (I4.os) un ok4 I4.bare (λb hb=>by obtain⟨_,g2,g3,g4,g5,g6⟩:=f2 b hb;exact⟨g4,g2,g5,g6⟩)
  have fC:FpOk X Yk H4 hp1.objs.size:=I2.fpOk hC I4.free;obtain⟨fC1,fC2,fC3,fC4,fC5,fC6⟩:=fC;show wpAny _ _ (assign (.Name x px) X.env (.ref s2.heap.objs.size)) _ _ s';refine wpAny_assign_Name (store_ok2 IO hN hi0 hx (v:=.ref s2.heap.objs.size) rfl (λs'' I'' hsb=>?_) hf)
  obtain⟨a,sb,ha⟩:=hsb;have nC:hp1.objs.size≠a:=by
   rcases ha with z | z
   ·rw[z];exact fC2
   ·exact λe=>fC5 x a z e.symm
  refine⟨m4,hn4.sameBut sb nC,λh' hsb'=>⟨.ref s2.heap.objs.size,H4,?_,o.fin hfree nf x4 j4 ha4 cl4 g3⟩⟩
  exact I''.turned (it:=hp1.objs.size) (t':=s''.toks) (λb o hb e=>hsb'.extBut b o hb e) fC1 fC2 fC4 (λy c e=>fC5 y c e) fC6
 show codeAny _ _ (.compStart _ 0 (.ref it) (.ref s2.heap.objs.size) (compEnvC scope (cellsFrom (hp1.objs.size+1) scope.names cl) hp1.objs.size X.env)) _ _;exact qG rfl rfl loop (Tn.self X.A 0 _ _ _ tn0 loop)⟩
theorem tL{i:Nat}{cl:List (Str×Addr)}{own:List Str}{js:List Nat}{fr:List Str}{f0:List Expr}{fi:ak->DM Itn}{fg:D->ak->DM ak}{ft:ak->DM Bool}{fe:ak->DM D}
  (o:Out) (hN:X.N.Nodup) (hi0:X.N[i]?=some x) (hx:Loc X.env.scope x) (hc:X.calm=true) (T:CompG X scope cl own js fr) (hi:DI X E t0 i0 fi)
  (hg:∀Yk m fp C s₂ H₂,DG (X.aR Yk scope (cellsFrom m scope.names cl) (own++fr) fp C s₂ H₂) E0 t0 fg) (ht:∀Yk m fp C s₂ H₂,DTs (X.aR Yk scope (cellsFrom m scope.names cl) (own++fr) fp C s₂ H₂) E0 f0 ft)
  (he:∀Yk m fp C s₂ H₂,DE (X.aR Yk scope (cellsFrom m scope.names cl) (own++fr) fp C s₂ H₂) E0 elt fe)
  (hsw:autoParam (swapsWith (.ListComp elt [⟨t0,i0,f0,0⟩] scope pos) (some (.Name x px)) spos.line X.env=pure true) qAA)
  (hs:∀y,foldedSetIterable i0 X.env y=pure y:=by intro _;rfl) (hf:X.fn x=true\/X.env.scope.names.lookup x=some .local:=by first | exact .inl rfl | exact .inr rfl | assumption) :
  DS X E (.Assign [.Name x px] (.ListComp elt [⟨t0,i0,f0,0⟩] scope pos) spos) (λδ=>(fi δ>>=λit=>dM (cB fg ft (bA fe) it (aZ own.length js δ) [])>>=λp=>o.run p.2)>>=λd=>pure (.nx (δ.set i (some d)))):=
 yx (bodyK:=λY acc=>qR elt (.ref acc) Y.env) (W:=λY acc P s=>wpAny (model Y.prog Y.w) Y.A (eval elt Y.env) (λx s1=>wpAny (model Y.prog Y.w) Y.A (call (.builtin "list.append") [.ref acc,x]) (λv s2=>P s2) (λv v=>False) s1) (λv v=>False) s) o hN hi0 hx hc T hi
  (λY it acc=>JZ ..) (λY acc=>yK) (λY acc P P' s hp h=>Um h (λx s1 h1=>Um h1 (λv s2 h2=>hp _ h2) λv v z=>z) λv v z=>z) hg ht (λYk m fp C s₂ H₂ acc=>vB rfl (he ..)) hsw hs hf
end L3
namespace L3
open PySem PySem.Spec L2
structure OCls(K:PySem.W.Frag)(mg:Str->Option Value)(c:Str)(C:Addr)(fs:List Str):Prop where
 at_:mg c=some (.ref C)
 cls:L2.Cls K C
 no:∀f∈fs,NoAttr K C f
theorem tX:∀ {ns:List Str}{xs:List V}{ds:List D}{d:D},Cvs mg ρ H xs ds->(ns.zip ds).lookup f=some d->∃ v,(ns.zip xs).lookup f=some v/\Cv mg ρ H v d
 |[],_,_,_,_,e=>by simp at e
 |n::ns,_,_,_,.nil,e=>by simp at e
 |n::ns,_,_,d,.cons (v:=v) c cs,e=>by
   rw[List.zip_cons_cons,Wh]at e ⊢
   split at e
   ·cases e;exact⟨v,rfl,c⟩
   ·exact tX cs e
noncomputable def CZ(c f:Str):D->Mo->Option D
 |.obj k ns vs,_=>if k=c then (ns.zip vs).lookup f else none
 |.ref n,M=>match M[n]? with
   |some (.ins k ns vs)=>if k=c then (ns.zip vs).lookup f else none
   |_=>none
 |_,_=>none
set_option tactic.hygienic true in
theorem Fo(O:OCls K mg c C fs)(hf:f∈fs)(he:DE X E e fe)
  (hb:autoParam (attributeBase e f X.env (eval e X.env)=eval e X.env) qAA) (hK:autoParam (X.K=K) qAA) (hM:autoParam (X.mg=mg) qAA):DE X E (.Attribute e f pos) (λδ=>fe δ>>=λx=>rd (CZ c f x)):=by
 subst hK hM;refine⟨PE.mono (pe_fld he.h hb) λσ H Q h=>?_⟩
 obtain⟨ρ,δ,M,ev,j,g1⟩:=h;refine⟨ρ,δ,M,ev,j,g1.bind λρ1 H1 M1 x dx e1 j1 c1 g2=>?_⟩
 obtain⟨d,ed,q⟩:=g2.rd;unfold CZ at ed;split at ed
 ·split at ed
  ·rename_i hk;subst hk;cases c1 with
   |obj n m h l cs=>obtain⟨v,hv,cv⟩:=tX cs ed;rw[O.at_]at m;cases m;exact⟨_,_,_,_,v,rfl,h,O.cls,O.no f hf,hv,q ρ1 H1 _ .refl j1 cv⟩
  ·cases ed
 ·split at ed
  ·split at ed
   ·rename_i hm hk;subst hk;cases c1 with
    |ref hn=>obtain⟨C',dx',xs,m,h,l,cs⟩:=j1.obj _ _ _ hn hm;obtain⟨v,hv,cv⟩:=tX cs ed;rw[O.at_]at m;cases m;exact⟨_,_,_,_,v,rfl,h,O.cls,O.no f hf,hv,q ρ1 H1 _ .refl j1 cv⟩
   ·cases ed
  ·cases ed
 ·cases ed
noncomputable def lG:List D->Mo->Option (List D)
 |[.int j],_=>if -(2^62)<=j/\j<=2^20 then some ((List.range j.toNat).map nD) else none
 |_,_=>none
theorem vy:∀l:List Nat,Cvs mg ρ H (l.map λi:Nat=>V.int (i:Int)) (l.map nD)
 |[]=>.nil
 |n::l=>.cons (.int _) (vy l)
section
variable{X:Cx}{E:XK}{a:Expr}{fa:ak->DM (List D)}{p1 p2 pos1 pos2:Pos}
set_option tactic.hygienic true in
theorem wH(hc:X.calm=true)(hmL:X.mg "list"=none)(hm:X.mg "range"=none)(ha:DA X E [a] fa)(hgL:autoParam (Gl X "list") qAA)(hg:autoParam (Gl X "range") qAA)(hs:autoParam (notStar a=true) qAA):
  DE X E (.Call (.Name "list" p1) [.Call (.Name "range" p2) [a] [] pos2] [] pos1) (λδ=>fa δ>>=λl=>rd (λM=>(lG l M).map D.lst)):=⟨PE.mono (GQ hc hgL hmL hg hm ha.h.h hs) λσ H Q h=>by
 obtain⟨ρ,δ,M,ev,j,g1⟩:=h;refine⟨ρ,δ,M,ev,j,g1.bind λρ1 H1 M1 xs ds e1 j1 c1 g2=>?_⟩
 obtain⟨d,ed,q⟩:=g2.rd;obtain⟨l,el,rfl⟩:=Tp.mp ed;unfold lG at el;split at el
 ·split at el
  ·rename_i hb;cases el;obtain⟨v,rfl,k⟩:=c1.one;cases k;exact⟨_,rfl,hb.2,hb.1,λp hp=>q ρ1 _ _ (.lay hp) (j1.lay _ hp) (.lst (j1.fresh hp) upd_same (vy _))⟩
  ·cases el
 ·cases el⟩
end
section
variable{X:Cx}{E:XK}
noncomputable def Dc:List D->Mo->Option D
 |[.bl b],_=>some (.int (if b then 1 else 0))
 |_,_=>none
theorem Ex:CallR X (.type "int") (λxs H Q=>∃ b,xs=[.bl b]/\Q (.int (if b then 1 else 0)) H):=by
 intro Yk s σ H xs us Q I rs h;obtain⟨b,rfl,q⟩:=h;cases rs with
 |cons r rr=>cases rr;cases r;exact call_int_bool ⟨.int (if b then 1 else 0),H,I.tok _,⟨_,rfl⟩,q⟩
theorem uI:CallD X E (.type "int") (λl=>rd (Dc l)):=CallD.of Ex λvs H Q ρ M ds d j c e q=>by
 unfold Dc at e;split at e
 ·cases e;obtain⟨v,rfl,k⟩:=c.one;cases k;exact⟨_,rfl,q ρ H _ .refl j (.int _)⟩
 ·cases e
end
theorem p8(I:Nat->ak->List D->Mo->Prop):∀ (ds:List D) (i:Nat) (δ:ak) (l:List D) (M:Mo),I i δ l M->
  (∀j d δ l M,ds[j]?=some d->I (i+j) δ l M->Rn (fg d δ>>=λδ1=>ft δ1>>=λb=>if b then fb δ1 l else Pure.pure (δ1,l)) M λp M'=>I (i+j+1) p.1 p.2 M')->Rn (bc fg ft fb ds δ l) M λp M'=>I (i+ds.length) p.1 p.2 M'
 |[],i,δ,l,M,h,_=>Rn.pure h
 | d::ds,i,δ,l,M,h,st=>by
   have s:=st 0 d δ l M rfl h;have e:bc fg ft fb (d::ds) δ l=(fg d δ>>=λδ1=>ft δ1>>=λb=>if b then fb δ1 l else Pure.pure (δ1,l))>>=λp=>bc fg ft fb ds p.1 p.2:=by
    rw[aN];show (fg d δ>>=λδ1=>ft δ1>>=λb=>(if b then fb δ1 l else Pure.pure (δ1,l))>>=λp=>bc fg ft fb ds p.1 p.2)=_
    congr 1;funext δ1;rw[aN]
   rw[e];refine Rn.bind s λp M' h'=>?_
   have ih:=p8 I ds (i+1) p.1 p.2 M' h' (λj d δ l M hj hI=>by
    have:=st (j+1) d δ l M (by simpa using hj) (by rw[show i+(j+1)=i+1+j by lia];exact hI)
    rw[show i+1+j+1=i+(j+1)+1 by lia];exact this)
   rw[show i+(d::ds).length=i+1+ds.length by simp;lia]
   exact ih
theorem yo(h:Rn m M Q):Rn (dM m) M Q:=by obtain⟨a,M',e,q⟩:=h;exact⟨a,M',by unfold dM;rw[e],q⟩
theorem Ja(hn:n<=1000)(q:Rn (k (.ref M.length)) (M++[.lst ((List.replicate n 0).map nD)]) Q):Rn (N8 (.lst [.int 0]) (nD n)>>=k) M Q:=by
 have e:uc (.lst [.int 0]) (nD n) M=some ((List.replicate n 0).map nD):=by
  show Dy [.int 0] (n:Int)=_;unfold Dy;rw[Tv (Uk ⟨by lia,by lia,by show _<=2^24;simp;lia⟩)]
  congr 1;simp[List.flatten_replicate_singleton,nD]
 show Rn ((rd (uc (.lst [.int 0]) (nD n))>>=gM)>>=k) M Q;rw[aN];refine Rn.bindRd _ e ?_;exact Rn.gM (by simp;lia) q
end L3
namespace L3
open PySem PySem.Spec L2
open PyProof.Rows hiding St
noncomputable def putN(f:Str):List Str->List Str
 |[]=>[f]
 |g::r=>if g=f then g::r else g::putN f r
noncomputable def jV{α:Type}(f:Str)(v:α):List Str->List α->List α
 |[],_=>[v]
 |g::r,x::xs=>if g=f then v::xs else x::jV f v r xs
 |_::_,[]=>[]
theorem zG(f:Str)(v:V):∀ (ns:List Str) (xs:List V),ns.length=xs.length->putF f v (ns.zip xs)=(putN f ns).zip (jV f v ns xs)
 |[],[],_=>rfl
 |g::r,x::xs,h=>by
   show putF f v ((g,x)::r.zip xs)=_;unfold putF putN jV;by_cases e:g=f
   ·rw[Tv e,Tv e,Tv e];rfl
   ·rw[Tw e,Tw e,Tw e,zG f v r xs (by simpa using h)];rfl
theorem zH{α:Type}(f:Str)(v:α):∀ (ns:List Str) (xs:List α),ns.length=xs.length->(putN f ns).length=(jV f v ns xs).length
 |[],[],_=>rfl
 |g::r,x::xs,h=>by
   unfold putN jV;by_cases e:g=f
   ·rw[Tv e,Tv e];simpa using h
   ·rw[Tw e,Tw e,Ve,Ve,zH f v r xs (by simpa using h)]
theorem Cvs.put{mg:Str->Option Value}{ρ:Rh}{H:Hp}{f:Str}{v:V}{d:D}(c:Cv mg ρ H v d):∀ (ns:List Str) {xs:List V}{ds:List D},Cvs mg ρ H xs ds->Cvs mg ρ H (jV f v ns xs) (jV f d ns ds)
 |[],_,_,_=>.cons c .nil
 |g::r,_,_,.nil=>.nil
 |g::r,_,_,.cons h t=>by
   unfold jV;by_cases e:g=f
   ·rw[Tv e,Tv e];exact .cons c t
   ·rw[Tw e,Tw e];exact .cons h (Cvs.put c r t)
noncomputable def xJ(c f:Str)(o d:D):DM Unit:=λM=>match o with
 |.ref n=>match M[n]? with
   |some (.ins k ns vs)=>if k=c/\ns.length=vs.length/\ns.length<1000 then some (.ok (),M.set n (.ins k (putN f ns) (jV f d ns vs))) else none
   |_=>none
 |_=>none
section
variable{X:Cx}{E:XK}
set_option tactic.hygienic true in
theorem FJ{K:PySem.W.Frag}{mg:Str->Option Value}{c f:Str}{C:Addr}{fs:List Str}{o value:Expr}{fo fv:ak->DM D}{pos pos':Pos}(O:OCls K mg c C fs)(hf:f∈fs)(ho:DE X E o fo)(hv:DE X E value fv)
  (hs:autoParam (swapsWith value (some (.Attribute o f pos')) pos.line X.env=pure false) qAA) (hK:autoParam (X.K=K) qAA) (hM:autoParam (X.mg=mg) qAA) :
  DS X E (.Assign [.Attribute o f pos'] value pos) (λδ=>fv δ>>=λd=>fo δ>>=λo=>xJ c f o d>>=λz=>pure (.nx δ)):=by
 subst hK hM;refine⟨PS.mono (ps_fld ho.h hv.h hs) λD σ H h=>?_⟩
 obtain⟨ρ,δ,M,ev,j,g1⟩:=h;refine⟨ρ,δ,M,ev,j,g1.bind λρ1 H1 M1 y dy e1 j1 c1 g2=>⟨ρ1,δ,M1,ev.mono e1,j1,g2.bind λρ2 H2 M2 x dx e2 j2 c2 g3=>?_⟩⟩
 obtain⟨r,e,p⟩:=g3;have e:DM.bind _ _ M2=some r:=e;unfold DM.bind xJ at e;cases dx with
 | ref n=>
   dsimp only at e;cases c2 with | ref hn=>
   rename_i a;cases hm:M2[n]? with
   |none=>rw[hm]at e;cases e
   | some u=>
     rw[hm]at e;cases u with
     |lst l=>cases e
     |dic ks l=>cases e
     | ins k ns vs=>
       dsimp only at e;split at e
       ·cases e
       ·rename_i he;split at he<;>cases he
       ·rename_i he;split at he
        ·rename_i hk;obtain⟨rfl,hl,hz⟩:=hk;cases he;cases e;obtain⟨C',dx',xs,m,hx,l,cs⟩:=j2.obj _ _ _ hn hm;rw[O.at_]at m;cases m;have c1':=c1.mono e2;have x:Ext ρ2 H2 ρ2 (upd H2 a (.ins C dx' (putF f y (ns.zip xs)))):=.upd (T9 hn);refine⟨a,C,dx',_,rfl,hx,O.cls,O.no f hf,?_,?_⟩
         ·rw[List.length_zip];lia
         refine p ρ2 _ σ x (j2.upd hn ?_) (((ev.mono e1).mono e2).mono x);refine⟨C,dx',jV f y ns xs,O.at_,by rw[upd_same,zG f y ns xs l],zH f y ns xs l,?_⟩
         exact (Cvs.put c1' ns cs).mono x
        ·cases he
 |_=>cases e
end
structure MethD(P:Program)(w:World)(K:PySem.W.Frag)(mg:Str->Option Value)(base:Heap)(k:Nat)(c x qual:Str)(st:Stmt)(ps:List Str)(F:List D->DM D):Prop where
 ex:∃C f fd,mg c=some (.ref C)/\FnOk P w K mg base (gB P w) k f fd ps (Cd mg F)/\Fun K x qual st f fd/\PySem.W.findIn K (.ref C) x=some (some (.ref f))/\PySem.W.isFn K (.ref f)=true/\L2.Cls K C
section
variable{P:Program}{w:World}{K:PySem.W.Frag}{mg:Str->Option Value}{base:Heap}{k:Nat}{C:Addr}{c x qual:Str}{N ps:List Str}{st:Stmt}{fb:ak->DM Fl}{f:Addr}{fd:FuncData}{is:List Int}
theorem Rj(F:Fun K x qual st f fd)(S:FnScope N ps (defScope st))
  (hbody:∀(f:Addr) (cdv:Value) (A:Around) (outer:List Env) (s:Shared) (H:Hp) (E:XK),Room k (A.deeper (envOfC qual (defScope st) s.heap.objs.size f cdv))->
    DSs (jn P w K mg base N qual (defScope st) f cdv A outer s H E) E (defBody st) fb):FnOk P w K mg base (gB P w) (k+1) f fd ps (Cd mg (aL ps.length N.length fb)):=by
 refine Rk F S (λvs H Q E h=>?_) λcdv A outer s H vs Q E hr h=>?_
 ·obtain⟨ρ,M,ds,c,j,g⟩:=h;rw[c.len];exact (bC.aL g).1
 obtain⟨ρ,M,ds,c,j,g⟩:=h;exact⟨_,(hbody f cdv A outer s H E hr).h,ρ,_,M,nZ c,j,(bC.aL g).2⟩
theorem MethAt.okD(T:MethAt K C x qual st)(m:mg c=some (.ref C))(cl:L2.Cls K C)(S:FnScope N ps (defScope st))
  (hbody:∀(f:Addr) (cdv:Value) (A:Around) (outer:List Env) (s:Shared) (H:Hp) (E:XK),Room k (A.deeper (envOfC qual (defScope st) s.heap.objs.size f cdv))->
    DSs (jn P w K mg base N qual (defScope st) f cdv A outer s H E) E (defBody st) fb):MethD P w K mg base (k+1) c x qual st ps (aL ps.length N.length fb):=by
 obtain⟨f,fd,F,a,n⟩:=T.ex;exact⟨C,f,fd,m,Rj F S hbody,F,a,n,cl⟩
end
structure ClsD(P:Program)(w:World)(K:PySem.W.Frag)(mg:Str->Option Value)(base:Heap)(k:Nat)(c:Str)(F:List D->DM D):Prop where
 ex:∃C ps sp,MethC P w K mg base k C "__init__" ps sp/\PySem.W.makesIn K C=true/\PySem.W.keepIn K (.ref C)=true/\mg c=some (.ref C) /\
  ∀ρ M H vs ds Q E,Cvs mg ρ H vs ds->J mg ρ M H->Go mg E (Cv mg) Q ρ H (F ds) M->∀x dx,H x=none->H dx=none->dx≠x->sp (.ref x::vs) (upd (upd H dx (.own x)) x (.ins C dx [])) (λv H2=>v=.non/\Q (.ref x) H2) E
theorem Kg{X:Cx}{E:XK}{j k:Nat}{c:Str}{F:List D->DM D}{p pos:Pos}{e:Expr}{es:List Expr}{fs:ak->DM (List D)}(T:ClsD X.prog X.w X.K X.mg X.base j c F)(hr:Room k X.A)(hx:Passes (gB X.prog X.w) X E)(ha:DA X E (e::es) fs)(hjk:autoParam (j+1<=k) qAB)(hg:autoParam (Gl X c) qAA)(hdb:autoParam ((c==("__debug__":Str))=false) qAB)
  (he:autoParam (notStar e=true) qAA) (hpl:autoParam ((backTo pos (starEach es X.env)).any (·.1)=false) qAA) :
  DE X E (.Call (.Name c p) (e::es) [] pos) (λδ=>fs δ>>=F):=by
 obtain⟨C,ps,sp,G,mk,kc,m,h⟩:=T.ex;refine⟨PE.mono (Jh G mk kc m hr hx ha.h hjk hg hdb he hpl) λσ H Q z=>?_⟩
 obtain⟨ρ,δ,M,ev,j,g1⟩:=z;refine⟨ρ,δ,M,ev,j,g1.bind λρ1 H1 M1 xs dxs e1 j1 c1 g2=>λx dx h1 h2 h3=>?_⟩
 rw[Wr];exact h ρ1 M1 H1 xs dxs Q E c1 j1 g2 x dx h1 h2 h3
section
variable{mg:Str->Option Value}{ρ:Rh}{H:Hp}{k:Nat}{M':Mo}
theorem Cvs.fz(hk:ρ.st.length=k){vs:List V}{ds:List D}(h:Cvs mg ρ H vs ds):Fzs M' k ds ds:=
 Cvs.rec (motive_1:=λz d z=>Fz M' k d d) (motive_2:=λz ds z=>Fzs M' k ds ds) .non .bl .int .str (λz z z=>.tup) (λz z z=>.lst) (λz z z z=>.dic) (λz z z z z=>.obj) (λz z=>.scr _) (λh=>.old (hk ▸ (Ti.mp h).1)) (λz=>.cls _) .ty .exn .nil (λz z=>.cons) h
theorem Cv.fz(hk:ρ.st.length=k){v:V}{d:D}(h:Cv mg ρ H v d):Fz M' k d d:=by cases Cvs.fz hk (.cons h .nil);assumption
theorem Cvs.fz_mem{k:Nat}(hk:ρ.st.length=k){vs:List V}{ds:List D}(h:Cvs mg ρ H vs ds):∀d∈ds,Fz M' k d d:=h.ind (P:=λz ds=>∀d∈ds,Fz M' k d d) nofun λa z i d h=>(TV.mp h).elim (λe=>e ▸ a.fz hk) (i d)
theorem FW{M':Mo}{k:Nat}:∀{ds:List D},(∀d∈ds,Fz M' k d d)->Fzs M' k ds ds
 |[],_=>.nil
 |d::ds,h=>.cons (h d (by simp)) (FW λe he=>h e (by simp[he]))
theorem J.fz{M:Mo}{o:DO}(j:J mg ρ M H):QV (M++[o]) M.length M:=by
 refine⟨rfl,λn u h=>?_⟩
 have hn:=(Ti.mp h).1;refine⟨u,by rw[T5 hn];exact h,?_⟩
 have hl:n<ρ.st.length:=by rw[j.len];exact hn
 have c:=j.obj n ρ.st[n] u (Tj hl) h;cases u with
 |lst l=>obtain⟨xs,_,c⟩:=c;exact c.fz j.len
 |dic ks l=>obtain⟨xs,_,_,c⟩:=c;exact⟨rfl,c.fz j.len⟩
 |ins cc ns l=>obtain⟨C,dx,xs,_,_,_,c⟩:=c;exact⟨rfl,rfl,c.fz j.len⟩
end
noncomputable def Ms(c:Str)(Fi:List D->DM D)(ds:List D)(M:Mo)(r':R D×Mo):Prop:=
 (∃ns vs,Fi (.ref M.length::ds) (M++[.ins c [] []])=some (.ok .non,M++[.ins c ns vs])/\(∀d∈vs,d∈ds\/∃i,d=.int i)/\r'=(.ok (.obj c ns vs),M)) \/
 (∃e o,Fi (.ref M.length::ds) (M++[.ins c [] []])=some (.exc e,M++[o])/\r'=(.exc e,M))
theorem Ri{P:Program}{w:World}{K:PySem.W.Frag}{mg:Str->Option Value}{base:Heap}{k:Nat}{c qual:Str}{st:Stmt}{ps:List Str}{Fi F':List D->DM D}(T:MethD P w K mg base k c "__init__" qual st ps Fi)
  (hb:∀(kV doc pm:Value) (an:Option Addr) (cdv ct:Value) (us:List Value),us.length=ps.length->bindArgs (PySem.W.fnOf "__init__" qual (defArgs st) (defBody st) (defScope st) .none kV doc pm an cdv ct) ⟨us,[]⟩=pure (ps.zip us))
  (hm:∀C,mg c=some (.ref C)->PySem.W.makesIn K C=true/\PySem.W.keepIn K (.ref C)=true) (hf:∀ds M r',F' ds M=some r'->Ms c Fi ds M r'):ClsD P w K mg base k c F':=by
 obtain⟨C,f,fd,mc,G,B,a,n,cl⟩:=T.ex;refine⟨C,ps,_,⟨f,fd,G,B.binds hb,B.kp,a,n⟩,(hm C mc).1,(hm C mc).2,mc,λρ M H vs ds Q E cv j g x dx hx hdx hne=>?_⟩
 obtain⟨r',e,p⟩:=g;have hx':upd H dx (.own x) x=none:=by rw[upd_ne (λz=>hne z.symm)];exact hx
 have x1:Ext ρ H ρ (upd H dx (.own x)):=.lay hdx;have j1:=j.lay (.own x) hdx;have x2:Ext ρ (upd H dx (.own x)) (ρ.put x) (upd (upd H dx (.own x)) x (.ins C dx [])):=.put hx';have j2:J mg (ρ.put x) (M++[.ins c [] []]) (upd (upd H dx (.own x)) x (.ins C dx [])):=j1.put hx' ⟨C,dx,[],mc,upd_same,rfl,.nil⟩;have hput:(ρ.put x).st[M.length]?=some x:=by show (ρ.st++[x])[M.length]?=some x;rw[<-j.len,U7 (Tq _)];simp
 refine⟨ρ.put x,M++[.ins c [] []],.ref M.length::ds,.cons (.ref hput) (cv.mono (x1.trans x2)),j2,?_⟩;have sb:∀{ρ2 H2},Ext (ρ.put x) (upd (upd H dx (.own x)) x (.ins C dx [])) ρ2 H2->Sub ρ ρ2 M.length:=λ{ρ2 H2} y=>by obtain⟨τ,ht⟩:=y.pre;exact⟨⟨[x]++τ,by rw[ht];show (ρ.st++[x])++τ=_;simp⟩,y.vo,j.len⟩
 have ex:∀{ρ2 H2},Ext (ρ.put x) (upd (upd H dx (.own x)) x (.ins C dx [])) ρ2 H2->Ext ρ H ρ H2:=λ{ρ2 H2} y=>⟨⟨[],by simp⟩,rfl,λa h n=>absurd h n,λb o hb hn=>y.keep b o (by
  have nx:b≠x:=ne_of_none hb hx;have ndx:b≠dx:=ne_of_none hb hdx;rw[upd_ne nx,upd_ne ndx];exact hb) (λz=>by
  rcases T4.mp z with z | z
  ·exact hn z
  ·exact ne_of_none hb hx (TQ.mp z))⟩
 rcases hf ds M r' e with ⟨ns,vs',e2,hv,rfl⟩ | ⟨er,o,e2,rfl⟩
 ·refine⟨_,e2,λρ2 H2 b y j3 cb=>?_⟩
  cases cb;refine⟨rfl,p ρ H2 (.ref x) (ex y) (j3.freeze (sb y) j.len j.fz) ?_⟩;have h3:ρ2.st[M.length]?=some x:=y.at hput;obtain⟨C',dx',xs,m',hx3,l,cs⟩:=j3.obj M.length x (.ins c ns vs') h3 (by simp)
  refine .obj (j.fresh hx) m' hx3 l (Cvs.freeze (sb y) j3 (FW λd hd=>?_) cs)
  rcases hv d hd with h | ⟨i,rfl⟩
  ·exact cv.fz_mem j.len d h
  ·exact .int i
 ·refine⟨_,e2,λρ2 H2 C2 y j3 m2=>?_⟩
  exact p ρ H2 C2 (ex y) (j3.freeze (sb y) j.len j.fz) m2
end L3
namespace L3
open PySem PySem.Spec L2
noncomputable def Aa:List D->Mo->Option (List D)
 |[d],M=>(aX d M).bind λl=>(intsOf l).bind λns=>if ns.length<=60 then some ((dC ns).map D.int) else none
 |_,_=>none
theorem iR:∀ {l:List D}{ns:List Int},intsOf l=some ns->l=ns.map D.int
 |[],ns,e=>by cases e;rfl
 | d::l,ns,e=>by
   cases d with
   |int i=>simp only[intsOf,Option.map_eq_some_iff]at e;obtain⟨ms,h,rfl⟩:=e;rw[iR h];rfl
   |_=>simp[intsOf]at e
theorem jL:∀ {ns:List Int}{xs:List V},Cvs mg ρ H xs (ns.map D.int)->xs=ns.map V.int
 |[],_,.nil=>rfl
 |n::ns,_,.cons a t=>by cases a;rw[jL t];rfl
section
variable{X:Cx}{E:XK}{a:Expr}{fa:ak->DM (List D)}{p1 p2 pos1 pos2:Pos}
set_option tactic.hygienic true in
theorem Aw(hc:X.calm=true)(hmL:X.mg "sorted"=none)(hm:X.mg "set"=none)(ha:DA X E [a] fa)(hgL:autoParam (Gl X "sorted") qAA)(hg:autoParam (Gl X "set") qAA)(hs:autoParam (notStar a=true) qAA):
  DE X E (.Call (.Name "sorted" p1) [.Call (.Name "set" p2) [a] [] pos2] [] pos1) (λδ=>fa δ>>=λl=>rd (λM=>(Aa l M).map D.lst)):=⟨PE.mono (Lf hc hgL hmL hg hm ha.h.h hs) λσ H Q h=>by
 obtain⟨ρ,δ,M,ev,j,g1⟩:=h;refine⟨ρ,δ,M,ev,j,g1.bind λρ1 H1 M1 xs ds e1 j1 c1 g2=>?_⟩
 obtain⟨d,ed,q⟩:=g2.rd;obtain⟨l,el,rfl⟩:=Tp.mp ed;unfold Aa at el;split at el
 ·rename_i d0;obtain⟨l0,h0,el⟩:=Ud.mp el;obtain⟨ns,h1,el⟩:=Ud.mp el;split at el
  ·rename_i hn;cases el;have e0:=iR h1;subst e0;obtain⟨v,rfl,k⟩:=c1.one;have fin:∀p,H1 p=some (.lst (ns.map V.int))->∃p' ns',[V.ref p]=[.ref p']/\H1 p'=some (.lst (ns'.map V.int))/\ns'.length<=60/\∀l,H1 l=none->Q (.ref l) (upd H1 l (.lst ((dC ns').map V.int))):=λp hp=>
    ⟨p,ns,rfl,hp,hn,λl hl=>q ρ1 _ _ (.lay hl) (j1.lay _ hl) (.lst (j1.fresh hl) upd_same (Cvs.ints _))⟩
   obtain⟨p,xs,rfl,hx,c⟩:=cM j1 k h0;exact fin p (by rw[hx,jL c])
  ·cases el
 ·cases el⟩
end
theorem IV(h:l.length=1):∃a,l=[a]:=match l,h with | [a],_=>⟨a,rfl⟩
theorem NK(h:l.length=2):∃a b,l=[a,b]:=match l,h with | [a,b],_=>⟨a,b,rfl⟩
theorem NP(h:l.length=3):∃a b c,l=[a,b,c]:=match l,h with | [a,b,c],_=>⟨a,b,c,rfl⟩
theorem NQ(h:l.length=4):∃a b c d,l=[a,b,c,d]:=match l,h with | [a,b,c,d],_=>⟨a,b,c,d,rfl⟩
noncomputable def CN:D->DM D
 |.int n=>if 0<=n/\n<2^63 then pure (.int n) else stuck
 |_=>stuck
noncomputable def yZ(c:Str)(F:List D->DM D):List D->DM D
 |[.obj k ns vs]=>if k=c then F [.obj k ns vs]>>=CN else stuck
 |l=>rd (dZ l)
set_option tactic.hygienic true in
theorem Ez(T:MethD X.prog X.w X.K X.mg X.base j c "__len__" qual st ps F)(hr:Room k X.A)(hx:Passes (gB X.prog X.w) X E)
  (hb:∀(kV doc pm:Value) (an:Option Addr) (cdv ct:Value) (us:List Value),us.length=ps.length->bindArgs (PySem.W.fnOf "__len__" qual (defArgs st) (defBody st) (defScope st) .none kV doc pm an cdv ct) ⟨us,[]⟩=pure (ps.zip us))
  (hjk:autoParam (j+1<=k) qAB):CallD X E (.builtin "len") (yZ c F):=by
 obtain⟨C,f,fd,mc,G,B,a,n,cl⟩:=T.ex;have MC:MethC X.prog X.w X.K X.mg X.base j C "__len__" ps (Cd X.mg F):=⟨f,fd,G,B.binds hb,B.kp,a,n⟩;intro Yk s σ H vs us Q I rs q;obtain⟨ρ,M,ds,j,cv,go⟩:=q;unfold yZ at go;split at go
 ·rename_i k' ns ws;split at go
  ·rename_i hk;subst hk;obtain⟨v,rfl,kv⟩:=cv.one;cases kv with
   | obj hn m hh hl cs=>
     rw[mc]at m;cases m;refine Ey MC (hr.mono hjk) hx Yk s σ H _ us Q I rs ⟨_,_,_,rfl,hh,ρ,M,_,cv,j,go.bind λρ1 H1 M1 b d e1 j1 c1 g2=>?_⟩
     unfold CN at g2;split at g2
     ·split at g2
      ·rename_i hn2;cases c1;exact⟨_,rfl,hn2,g2.pure ρ1 H1 _ .refl j1 (.int _)⟩
      ·obtain⟨r,e,_⟩:=g2;cases e
     ·obtain⟨r,e,_⟩:=g2;cases e
  ·obtain⟨r,e,_⟩:=go;cases e
 ·exact call_lenD Yk s σ H vs us Q I rs ⟨ρ,M,_,j,cv,go⟩
end L3
namespace L2
open PySem PySem.Spec PyProof.Rows
end L2
namespace L3
open PySem PySem.Spec L2
end L3
namespace L2
open PySem PySem.Spec PyProof.Rows
noncomputable def QM(i j k:Nat)(ta:TA):TS:=λD σ H=>ta σ H λvs H1=>∃v w z,vs=[v,w,z]/\D.nx (((σ.set i (some v)).set j (some w)).set k (some z)) H1
theorem Li{kt k2 pt2}(hc:X.calm=true)(hN:X.N.Nodup)(hi:X.N[i]?=some x)(hj:X.N[j]?=some y)(hk:X.N[k]?=some z)(hij:i≠j)(hik:i≠k)(hjk:j≠k)
  (hx:X.env.scope.names.lookup x=some .local) (hy:X.env.scope.names.lookup y=some .local) (hz:X.env.scope.names.lookup z=some .local) (ha:PA X [a,b,c] ta)
  (hw:swappedStores [.Tuple [.Name x px,.Name y py,.Name z pz] kt pt] (.Tuple [a,b,c] k2 pt2) X.env=pure (some [x,y,z]))
  (hs:autoParam (swapsWithSole [.Tuple [.Name x px,.Name y py,.Name z pz] kt pt] (.Tuple [a,b,c] k2 pt2) pos.line X.env=pure false) qAA) :
  PS X (.Assign [.Tuple [.Name x px,.Name y py,.Name z pz] kt pt] (.Tuple [a,b,c] k2 pt2) pos) (QM i j k ta):=by
 intro Yk s σ H D I h;rw[exec_Assign_arm];refine Te (WL ?_);rw[hs];refine Te (Th ?_);rw[Tw (by decide)]
 refine Te (Tuple_ (thn (ha _ Yk s σ H _ I h) λus s1 ⟨vs,H1,I1,r1,q1⟩=>?_))
 obtain⟨v,w,w3,e1,q1⟩:=q1;subst e1;obtain ⟨u1,u2,u3,rfl,rv,rw',rz⟩:∃ u1 u2 u3,us=[u1,u2,u3]/\RelV v u1/\RelV w u2/\RelV w3 u3:=by
  cases r1 with
  | cons p q=>
    cases q with
    | cons p' q'=>
      cases q' with
      |cons p2 q2=>cases q2;exact⟨_,_,_,rfl,p,p',p2⟩
 refine Ug ?_ (by show 3<=sizeLine;decide)
 have I2:Inv X Yk σ H1 { s1 with heap:=s1.heap.push { cls:=.type "tuple",data:=.seq [u1,u2,u3].toArray } }:=I1.kept (t':=s1.toks) λb o e=>Tf _ e
 rw[hw];refine Te (Th ?_);show wpAny (model X.prog X.w) X.A (do rule "assign.swapped-stores";let items <-unpackItems (.ref s1.heap.objs.size) 3 none;assignInOrder [λv=>bindName X.env z v,λv=>bindName X.env y v,λv=>bindName X.env x v] items.reverse;pure Flow.next) _ _ _
 refine Te (VN (Te (unpackItems_tuple (items:=#[u1,u2,u3]) (I.ok.hd hc) (Xh s1.heap _) λh' hx'=>?_)))
 have I3:=I2.kept (h':=h') (t':=s1.toks) λb o e=>hx' b o (TF (Tt e)) e
 show wpAny _ _ (assignInOrder [λv=>bindName X.env z v,λv=>bindName X.env y v,λv=>bindName X.env x v] [u3,u2,u1]>>=λu=>pure Flow.next) _ _ _
 refine Te (Wm (Xp (store_ok I3 hN hk (.inl hz) rz (λs2 I4=>?_) (.inr hz))))
 refine Wm (Xp (store_ok I4 hN hj (.inl hy) rw' (λs3 I5=>?_) (.inr hy)))
 refine Wm (Xp (store_ok I5 hN hi (.inl hx) rv (λs4 I6=>assignInOrder_nil (Th ?_)) (.inr hx)))
 have e:((σ.set k (some w3)).set j (some w)).set i (some v)=((σ.set i (some v)).set j (some w)).set k (some w3):=by rw[List.set_comm _ _ (Ne.symm hjk),List.set_comm _ _ (Ne.symm hik),List.set_comm _ _ (Ne.symm hij)]
 rw[e]at I6;exact⟨_,H1,I6,q1⟩
end L2
namespace L3
open PySem PySem.Spec L2
noncomputable def JM(i j k:Nat)(fa:ak->DM (List D)):ak->DM Fl:=λδ=>fa δ>>=λl=>match l with
 |[v,w,z]=>pure (.nx (((δ.set i (some v)).set j (some w)).set k (some z)))
 |_=>stuck
@[simp] theorem Su(i j k:Nat)(fa:ak->DM (List D))(δ:ak):JM i j k fa δ=fa δ>>=λl=>match l with
 |[v,w,z]=>Pure.pure (.nx (((δ.set i (some v)).set j (some w)).set k (some z)))
 |_=>stuck:=id rfl
theorem Km{kt k2 pt2}(hc:X.calm=true)(hN:X.N.Nodup)(hi:X.N[i]?=some x)(hj:X.N[j]?=some y)(hk:X.N[k]?=some z)(hij:i≠j)(hik:i≠k)(hjk:j≠k)
  (hx:X.env.scope.names.lookup x=some .local) (hy:X.env.scope.names.lookup y=some .local) (hz:X.env.scope.names.lookup z=some .local) (ha:DA X E [a,b,c] fa)
  (hw:swappedStores [.Tuple [.Name x px,.Name y py,.Name z pz] kt pt] (.Tuple [a,b,c] k2 pt2) X.env=pure (some [x,y,z]))
  (hs:autoParam (swapsWithSole [.Tuple [.Name x px,.Name y py,.Name z pz] kt pt] (.Tuple [a,b,c] k2 pt2) pos.line X.env=pure false) qAA) :
  DS X E (.Assign [.Tuple [.Name x px,.Name y py,.Name z pz] kt pt] (.Tuple [a,b,c] k2 pt2) pos) (JM i j k fa):=⟨PS.mono (Li hc hN hi hj hk hij hik hjk hx hy hz ha.h.h hw hs) λD σ H h=>by
 obtain⟨ρ,δ,M,ev,j,g1⟩:=h;refine⟨ρ,δ,M,ev,j,bC.bind g1 λρ1 H1 M1 v d e1 j1 c1 g2=>?_⟩
 cases c1 with
 |nil=>obtain⟨r,e,_⟩:=g2;cases e
 | cons c1 c2=>cases c2 with
   |nil=>obtain⟨r,e,_⟩:=g2;cases e
   | cons c2 c3=>cases c3 with
     |nil=>obtain⟨r,e,_⟩:=g2;cases e
     |cons c3 c4=>cases c4 with
       |nil=>exact⟨_,_,_,rfl,bC.pure (a:=.nx _) g2 ρ1 H1 _ .refl j1 ((((ev.mono e1).set c1).set c2).set c3)⟩
       |cons _ _=>obtain⟨r,e,_⟩:=g2;cases e⟩
end L3
namespace N10
noncomputable def R5(f s:List Nat):Nat:=(List.zipWith (λa b=>a-b) f s).sum
noncomputable def pl(a b:Nat):Nat×Nat:=(a / Nat.gcd a b,b / Nat.gcd a b)
noncomputable def LC(x y:Nat):Nat:=x / Nat.gcd x y*y
noncomputable def R7(a b:List Nat):List Nat:=a.map λw=>w*(LC a.sum b.sum / a.sum)
noncomputable def R8(a b:List Nat):List Nat:=b.map λw=>w*(LC a.sum b.sum / b.sum)
noncomputable def ap(a b:List Nat):Nat×Nat:=pl (R5 (R7 a b) (R8 a b)) (LC a.sum b.sum)
noncomputable def Ro(l:List Nat):Nat:=l.foldl Nat.gcd 0
noncomputable def lst(l:List Nat):List Nat:=l.map (·/ Ro l)
noncomputable def S:Nat->(Nat->Nat)->Nat
 |0,_=>0
 |n+1,f=>S n f+f n
noncomputable def up(f:Nat->Nat)(x v:Nat):Nat->Nat:=λi=>if i=x then v else f i
theorem En:∀ {n:Nat},(∀ i,i<n->f i=0)->S n f=0
 |0,_=>rfl
 |n+1,h=>by show S n f+f n=0;rw[En λi hi=>h i (by lia),h n (by lia)]
theorem Em(f:Nat->Nat):∀ n:Nat,((List.range n).map f).sum=S n f
 |0=>rfl
 |n+1=>by
   rw[List.range_succ,Wc,List.sum_append,Em f n];show S n f+(f n+0)=S n f+f n
   lia
structure G where
 A:Nat->Nat->Nat
 L:Nat->Nat
 W:Nat->Nat
end N10
namespace L3
open PySem PySem.Spec L2
noncomputable def nM(R:List (List Nat)):D:=.tup (R.map nT)
noncomputable def ga(l:List Nat)(i:Nat):Nat:=l.getD i 0
noncomputable def gr(R:List (List Nat))(i:Nat):List Nat:=R.getD i []
theorem FZ(h:i<l.length):ga l i∈l:=by unfold ga;rw[Vc,Tj h];exact UV _
theorem gr_mem{R:List (List Nat)}{i:Nat}(h:i<R.length):gr R i∈R:=by unfold gr;rw[Vc,Tj h];exact UV _
theorem lz(h:i<l.length):ga l i=l[i]:=by unfold ga;rw[Vc,Tj h];rfl
theorem gK{R:List (List Nat)}{i:Nat}(h:i<R.length):gr R i=R[i]:=by unfold gr;rw[Vc,Tj h];rfl
theorem Oa(h:nD a=nD b):a=b:=by
 have:=D.int.inj h
 lia
theorem Od(h:nT a=nT b):a=b:=(List.map_inj_right λz z=>Oa).mp (D.tup.inj h)
theorem Ob(h:nM a=nM b):a=b:=(List.map_inj_right λz z=>Od).mp (D.tup.inj h)
theorem Gs{α:Type}{ft:ak->DM Bool}{fe:ak->DM D}{rest:ak}(enc:α->D)(p:α->Bool)(e:α->D):∀ (as:List α) (x:Option D) (l:List D),l.length + as.length<=1000000->(∀ a∈as,ft (some (enc a)::rest)=Pure.pure (p a))->(∀ a∈as,p a=true->fe (some (enc a)::rest)=Pure.pure (e a))->
  bc (gN 0) ft (bA fe) (as.map enc) (x::rest) l=Pure.pure (jx x (as.map enc)::rest,l++(as.filter p).map e)
 |[],x,l,_,_,_=>by simp[bc,jx]
 | d::ds,x,l,hl,h1,h2=>by
   have b:=h1 d (T6 ..);have hl':l.length+(ds.length+1)<=1000000:=by simpa using hl
   have lt:l.length<sizeLine:=by show l.length<2^24;lia
   have ih:=λl' hl'=>Gs (rest:=rest) enc p e ds (some (enc d)) l' hl' (λx hx=>h1 x (Ui _ hx)) (λx hx=>h2 x (Ui _ hx))
   by_cases hp:p d=true
   ·have c:=h2 d (T6 ..) hp;have q:=ih (l++[e d]) (by simp;lia)
    simp[bc,b,hp,bA,c,lt,q,jx]
   ·have q:=ih l (by lia)
    simp[bc,b,hp,q,jx]
theorem aR{α:Type}{ft:ak->DM Bool}{fe:ak->DM D}{x:Option D}{rest:ak}{as:List α}(enc:α->D)(p:α->Bool)(e:α->D)(hl:as.length<=1000000)(h1:∀a∈as,ft (some (enc a)::rest)=Pure.pure (p a))(h2:∀a∈as,p a=true->fe (some (enc a)::rest)=Pure.pure (e a)):
  dM (bc (gN 0) ft (bA fe) (as.map enc) (x::rest) [])=Pure.pure (jx x (as.map enc)::rest,(as.filter p).map e):=by
 rw[Gs enc p e as x [] (by simpa using hl) h1 h2];simp
theorem lu{α:Type}{fe:ak->DM D}{x:Option D}{rest:ak}{as:List α}(enc:α->D)(e:α->D)(hl:as.length<=1000000)(h2:∀a∈as,fe (some (enc a)::rest)=Pure.pure (e a)):
  dM (bc (gN 0) (λz=>Pure.pure true) (bA fe) (as.map enc) (x::rest) [])=Pure.pure (jx x (as.map enc)::rest,as.map e):=by
 rw[aR enc (λz=>true) e hl (λz z=>rfl) λa ha z=>h2 a ha,List.filter_eq_self.mpr (λz z=>rfl)]
theorem zN(h0:0<b)(h:b<2^1000):(rd (uM (nD a) (nD b)):DM D)=Pure.pure (nD (a / b)):=by unfold nD;rw[O1 (Kh (by lia) (by simpa using h)),Int.natCast_ediv]
theorem Hd(h:b<2^64):(rd (oE (nD a) (nD b)):DM D)=Pure.pure (nD (a*b)):=by unfold nD;rw[JR (KY (by simpa using h)),Int.natCast_mul]
theorem nG(a b:Nat):(rd (b8 (nD a) (nD b)):DM D)=Pure.pure (nD (a+b)):=by unfold nD;rw[Qt,Int.natCast_add]
theorem nF(a:Nat):(rd (b8 (nD a) (.int 1)):DM D)=Pure.pure (nD (a+1)):=nG a 1
theorem Ov(a:Nat):(rd (b8 (.int 1) (nD a)):DM D)=Pure.pure (nD (a+1)):=by rw[Nat.add_comm];exact nG 1 a
theorem O5(h:b<=a):(rd (vX (nD a) (nD b)):DM D)=Pure.pure (nD (a-b)):=by
 unfold nD;rw[QD];have:(a:Int)-(b:Int)=((a-b:Nat):Int):=by lia
 rw[this]
theorem cg(a b:Nat):(rd (cU (nD a) (nD b)):DM D)=Pure.pure (.bl (decide (a=b))):=by
 unfold nD;rw[Qu];have:decide ((a:Int)=(b:Int))=decide (a=b):=by rw[T7,U6,U6];lia
 rw[this]
theorem Hf(a b:Nat):(rd (fW (nD a) (nD b)):DM D)=Pure.pure (.bl (!decide (a=b))):=by
 unfold nD;rw[uZ];have:decide ((a:Int)=(b:Int))=decide (a=b):=by rw[T7,U6,U6];lia
 rw[this]
theorem Hc(a b:Nat):(rd (wR (nD a) (nD b)):DM D)=Pure.pure (.bl (decide (a<b))):=by
 unfold nD;rw[Jo];have:decide ((a:Int)<(b:Int))=decide (a<b):=by rw[T7];simp
 rw[this]
theorem Hb(a b:Nat):(rd (wO (nD a) (nD b)):DM D)=Pure.pure (.bl (decide (a<=b))):=by
 unfold nD;rw[Jm];have:decide ((a:Int)<=(b:Int))=decide (a<=b):=by rw[T7];simp
 rw[this]
theorem nJ(a b:Nat):(rd (iQ (nD a) (nD b)):DM D)=Pure.pure (.bl (decide (b<a))):=by
 unfold nD;rw[Rw];have:decide ((b:Int)<(a:Int))=decide (b<a):=by rw[T7];simp
 rw[this]
theorem G6(a b:Nat):(rd (Ga (nD a) (nD b)):DM D)=Pure.pure (.bl (decide (b<=a))):=by
 unfold nD;rw[Rv];have:decide ((b:Int)<=(a:Int))=decide (b<=a):=by rw[T7];simp
 rw[this]
theorem iC(h:0<b):(rd (jR (nD a) (nD b)):DM D)=Pure.pure (nD (a%b)):=zO h
theorem fL(R:List (List Nat)):(rd (dZ [nM R]):DM D)=Pure.pure (nD R.length):=by simp[nM,nD]
theorem Qv(l:List D):(rd (iZ [.tup l,.ty "tuple"]):DM D)=Pure.pure (.bl true):=cF (t := "tuple") (λz=>rfl) (by decide)
theorem G7(R:List (List Nat)):(rd (iZ [nM R,.ty "tuple"]):DM D)=Pure.pure (.bl true):=Qv _
theorem cV(h:n<2^62):uh [nD n]=some (.fix ((List.range n).map nD)):=O4 h
theorem G5(R:List (List Nat)):o9 (nM R)=some (.fix (R.map nT)):=rfl
theorem Oz(l:List D):(rd (uE (.lst l)):DM Itn)=Pure.pure (.fix l):=rfl
theorem uY(h:i<l.length):(rd (bU (nT l) (nD i)):DM D)=Pure.pure (nD (ga l i)):=Qw (by unfold ga;rw[Vc,Tj h];rfl)
theorem rB{R:List (List Nat)}{i:Nat}(h:i<R.length):(rd (bU (nM R) (nD i)):DM D)=Pure.pure (nT (gr R i)):=gP (by unfold gr;rw[T8,Vc,Tj h];rfl)
theorem G9{R:List (List Nat)}(h:0<R.length):(rd (bU (nM R) (.int 0)):DM D)=Pure.pure (nT (gr R 0)):=rB h
end L3
namespace LS
open PySem PySem.Spec PyProof.Rows PyProof
end LS
namespace L2
open PySem PySem.Spec PyProof.Rows
variable{X:Cx}{pos:Pos}
end L2
namespace L3
open PySem PySem.Spec PyProof.Rows L2
variable{X:Cx}{E:XK}{pos:Pos}
noncomputable def gL(n:Nat)(fs:List D->ak->DM ak):D->ak->DM ak
 |.lst l,δ=>if l.length=n then fs l δ else stuck
 |_,_=>stuck
@[simp] theorem Tc(n:Nat)(fs:List D->ak->DM ak)(l:List D)(δ:ak):gL n fs (.lst l) δ=if l.length=n then fs l δ else stuck:=id rfl
theorem Im{X:Cx}{E:XK}{st:Stmt}:DS X E st (λz=>stuck):=⟨by intro Yk s σ H D I h;obtain⟨ρ,δ,M,ev,j,g1⟩:=h;obtain⟨r,e,_⟩:=g1;cases e⟩
end L3
namespace L3
open PySem PySem.Spec L2
noncomputable abbrev Mg:=Str->Option Value
noncomputable abbrev Fn:=List D->DM D
noncomputable abbrev Nn(mg:Mg)(x:Str):Prop:=mg x=none
noncomputable abbrev Gi(mg:Mg)(x:Str)(i:Int)(t:Tok):Prop:=mg x=some (.int i t)
noncomputable abbrev Rm(k:Nat)(A:Around)(q:Str)(st:Stmt)(s:Shared)(f:Addr)(cdv:Value):Prop:=Room k (A.deeper (PyProof.Rows.envOfC q (defScope st) s.heap.objs.size f cdv))
noncomputable abbrev Ds(P:Program)(w:World)(K:PySem.W.Frag)(mg:Mg)(base:Heap)(N:List Str)(q:Str)(st:Stmt)(f:Addr)(cdv:Value)(A:Around)(outer:List Env)(s:Shared)(H:Hp)(E:XK)(b:ak->DM Fl):Prop:=
 DSs (jn P w K mg base N q (defScope st) f cdv A outer s H E) E (defBody st) b
theorem QG(a:sc.kind=.function)(b:sc.isCoroutine=false)(c:sc.isGenerator=false)(p:N.take P.length=P)(d:(decide N.Nodup&&(decide (∀x∈P,sc.names.lookup x=some .local\/sc.names.lookup x=some .cell)&&decide (∀y∈sc.names,y.2≠.free)))=true):FnScope N P sc:=by simp only[Bool.and_eq_true,decide_eq_true_eq]at d;exact⟨a,b,c,d.1,p,d.2.1,d.2.2⟩
section
variable{X:Cx}{E:XK}{a:Expr}{fa:ak->DM (List D)}{p1 p2 pos1 pos2:Pos}
set_option tactic.hygienic true in
theorem Fv(hc:X.calm=true)(hmL:X.mg "tuple"=none)(hm:X.mg "range"=none)(ha:DA X E [a] fa)(hgL:autoParam (Gl X "tuple") qAA)(hg:autoParam (Gl X "range") qAA)(hs:autoParam (notStar a=true) qAA):
  DE X E (.Call (.Name "tuple" p1) [.Call (.Name "range" p2) [a] [] pos2] [] pos1) (λδ=>fa δ>>=λl=>rd (λM=>(lG l M).map D.tup)):=⟨PE.mono (GX hc hgL hmL hg hm ha.h.h hs) λσ H Q h=>by
 obtain⟨ρ,δ,M,ev,j,g1⟩:=h;refine⟨ρ,δ,M,ev,j,g1.bind λρ1 H1 M1 xs ds e1 j1 c1 g2=>?_⟩
 obtain⟨d,ed,q⟩:=g2.rd;obtain⟨l,el,rfl⟩:=Tp.mp ed;unfold lG at el;split at el
 ·split at el
  ·rename_i hb;cases el;obtain⟨v,rfl,k⟩:=c1.one;cases k;exact⟨_,rfl,hb.2,hb.1,λp hp=>q ρ1 _ _ (.lay hp) (j1.lay _ hp) (.tup (j1.fresh hp) upd_same (vy _))⟩
  ·cases el
 ·cases el⟩
end
noncomputable def inD(x y:D)(M:Mo):Option D:=match x with
 |.int i=>((gW y M).bind intsOf).map λns=>.bl (ns.contains i)
 |_=>none
noncomputable def Dk(x y:D)(M:Mo):Option D:=match x with
 |.int i=>((gW y M).bind intsOf).map λns=>.bl (!ns.contains i)
 |_=>none
theorem tU(i:Int):∀ ns:List Int,inV (.int i) (ns.map V.int)=ns.contains i
 |[]=>rfl
 |n::ns=>by
   have ih:=tU i ns;unfold inV at ih ⊢
   rw[Uu,XH,ih,List.contains_cons];congr 1;show eqV (.int n) (.int i)=_;unfold eqV;rw[T7];simp;exact⟨λh=>h.symm,λh=>h.symm⟩
theorem wL(ns:List Int):(ns.map V.int).all flatV=true:=by simp[flatV]
section
variable{X:Cx}{E:XK}
theorem qe:bM X E (compareOp .In) (λx y=>rd (inD x y)):=by
 refine bM.of op_in_seq λx y H Q ρ M dx dy d j cx cy e q=>?_
 unfold inD at e;split at e
 ·obtain⟨ns,h1,rfl⟩:=Tp.mp e;obtain⟨l,h2,h3⟩:=Ud.mp h1;cases cx;obtain⟨a,xs,rfl,ha,c⟩:=vg j cy h2;have:=ints_of c h3;subst this;refine⟨a,_,rfl,ha.imp (λh=>SqL.of h) (λh=>SqT.of h),rfl,wL ns,?_⟩
  rw[Tw (by simp),tU]
  exact q ρ H _ .refl j (.bl _)
 ·cases e
theorem Ld:bM X E (compareOp .NotIn) (λx y=>rd (Dk x y)):=by
 refine bM.of op_notIn_seq λx y H Q ρ M dx dy d j cx cy e q=>?_
 unfold Dk at e;split at e
 ·obtain⟨ns,h1,rfl⟩:=Tp.mp e;obtain⟨l,h2,h3⟩:=Ud.mp h1;cases cx;obtain⟨a,xs,rfl,ha,c⟩:=vg j cy h2;have:=ints_of c h3;subst this;refine⟨a,_,rfl,ha.imp (λh=>SqL.of h) (λh=>SqT.of h),rfl,wL ns,?_⟩
  rw[Tv rfl,tU];exact q ρ H _ .refl j (.bl _)
 ·cases e
end
theorem tR(l:List Nat)(i:Nat):(l.map λn:Nat=>(n:Int)).contains (i:Int)=l.contains i:=by
 rw[T7];simp;constructor
 ·rintro⟨a,h,e⟩;have:a=i:=by lia
  exact this ▸ h
 ·exact λh=>⟨i,h,rfl⟩
noncomputable def JV(lo hi:Option Int):D->Mo->Option D
 |.scr ns,_=>some (.lst (cutD (ns.map D.int) lo hi))
 |_,_=>none
theorem Av:∀l:List Int,Cvs mg ρ H (l.map V.int) (l.map D.int)
 |[]=>.nil
 |n::l=>.cons (.int _) (Av l)
section
variable{X:Cx}{E:XK}
theorem Rz:SlR X (λx lo hi H Q=>∃ρ M dx d,J X.mg ρ M H/\Cv X.mg ρ H x dx/\JV lo hi dx M=some d/\∀ρ' H' v,Ext ρ H ρ' H'->J X.mg ρ' M H'->Cv X.mg ρ' H' v d->Q v H'):=by
 intro Yk s σ H x v vl vu lo hi sl Q I rx hs pl pu h;obtain⟨ρ,M,dx,d,j,c,e,q⟩:=h;unfold JV at e;split at e
 ·cases e;cases c with | scr n rd=>
  refine sl_list (X:=X) Yk s σ H _ v vl vu lo hi sl Q I rx hs pl pu ⟨_,_,rfl,.inl rd,λp hp=>?_⟩
  exact q ρ _ _ (.lay hp) (j.lay _ hp) (.lst (j.fresh hp) upd_same (((Av _).cut lo hi).mono (.lay hp)))
 ·cases e
theorem Fq(ha:DE X E a fa)(hl:DP X E lo fl)(hh:DP X E hi fh):
  DE X E (.Subscript a (.Slice lo hi none p2) pos) (λδ=>fa δ>>=λx=>fl δ>>=λl=>fh δ>>=λh=>rd (JV l h x)):=⟨PE.mono (pe_slice Rz ha.h hl.h hh.h) λσ H Q h=>by
 obtain⟨ρ,δ,M,ev,j,g1⟩:=h;refine⟨ρ,δ,M,ev,j,g1.bind λρ1 H1 M1 x dx e1 j1 c1 g2=>⟨ρ1,δ,M1,ev.mono e1,j1,g2.bind λρ2 H2 M2 l dl e2 j2 c2 g3=>⟨ρ2,δ,M2,(ev.mono e1).mono e2,j2,g3.bind λρ3 H3 M3 h dh e3 j3 c3 g4=>?_⟩⟩⟩
 have c2:l=dl:=c2;have c3:h=dh:=c3;subst c2 c3;obtain⟨d,e,q⟩:=g4.rd;exact⟨ρ3,M3,dx,d,j3,(c1.mono e2).mono e3,e,q⟩⟩
end
theorem QC(ns:List Int)(lo hi:Option Int):(rd (JV lo hi (.scr ns)):DM D)=Pure.pure (.lst (cutD (ns.map D.int) lo hi)):=rfl
theorem u1(h:n+64<cLine):n+1<cLine:=by lia
end L3
namespace L3
open PySem L2
end L3
namespace L3
open PySem PySem.Spec L2 LB
noncomputable def tupI(t:List Int):D:=.tup (t.map D.int)
noncomputable def qH:List D->Option (List (List Int))
 |[]=>some []
 |.tup l::r=>(intsOf l).bind λt=>if t=[] then none else (qH r).map (t::·)
 |_::_=>none
set_option tactic.hygienic true in
theorem wZ:∀ {l:List D}{ts:List (List Int)},qH l=some ts->l=ts.map tupI/\∀ t∈ts,t≠[]
 |[],ts,e=>by cases e;exact⟨rfl,λt h=>by cases h⟩
 | d::l,ts,e=>by
   cases d with
   | tup l0=>
     obtain⟨t,h1,e⟩:=Ud.mp e;split at e
     ·cases e
     ·rename_i hne;obtain⟨ms,h,rfl⟩:=Tp.mp e;obtain⟨h2,h3⟩:=wZ h;refine⟨by rw[h2,iR h1];rfl,λx hx=>?_⟩
      rcases TV.mp hx with rfl | hx
      ·exact hne
      ·exact h3 x hx
   |_=>simp[qH]at e
theorem vh:∀ {ts:List (List Int)},(∀ t∈ts,t≠[])->qH (ts.map tupI)=some ts
 |[],_=>rfl
 |t::ts,h=>by
   have ih:=vh (ts:=ts) λx hx=>h x (.tail _ hx)
   have h1:=h t (T6);show (intsOf (t.map D.int)).bind _=_;rw[n8];show (if t=[] then none else _)=_
   rw[Tw h1,ih];rfl
end L3
namespace L3
open PySem L2
theorem wQ{α:Type}{fe:ak->DM D}{rest:ak}{n:Nat}{M:Mo}{L:List α}(enc e:α->D)(hM:M[n]?=some (.lst (L.map enc)))(hL:L.length<=1000000)(h:∀ a∈L,fe (some (enc a)::rest) M=some (.ok (e a),M)):
  ∀(k i:Nat) (x:Option D) (l:List D),i+k=L.length+1->1<=k->l=(L.take i).map e->∃z,jy (gN 0) (λy=>Pure.pure true) (bA fe) n k i (x::rest) l M=some (.ok (z::rest,L.map e),M)
 |0,i,x,l,_,h1,_=>by lia
 | k + 1,i,x,l,hk,_,hl=>by
   have rn:rd (Itn.next (.dyn n) i) M=some (.ok ((L.map enc)[i]?),M):=by
    have:Itn.next (.dyn n) i M=some ((L.map enc)[i]?):=by simp only[Itn.next,hM]
    unfold rd;rw[this];rfl
   by_cases c:i<L.length
   ·have e1:(L.map enc)[i]?=some (enc L[i]):=by rw[T8,Tj c];rfl
    rw[e1]at rn;have ih:=wQ enc e hM hL h k (i+1) (some (enc L[i])) (l++[e L[i]]) (by lia) (by lia) (by rw[hl,List.take_succ_eq_append_getElem c,Wc];rfl)
    obtain⟨z,ih⟩:=ih;refine⟨z,?_⟩;have hf:=h L[i] (UV c);have lt:l.length<sizeLine:=by show _<2^24;rw[hl];simp;lia
    show DM.bind (rd (Itn.next (.dyn n) i)) _ M=_;unfold DM.bind;rw[rn];show ((gN 0 (enc L[i]) (x::rest))>>=λδ1=>(Pure.pure true:DM Bool)>>=λb=>(if b then bA fe δ1 l else Pure.pure (δ1,l))>>=λp=>jy _ _ _ n k (i+1) p.1 p.2) M=_
    rw[dN,aq,aq];show ((bA fe (some (enc L[i])::rest) l)>>=λp=>jy _ _ _ n k (i+1) p.1 p.2) M=_
    unfold bA;rw[aN];show DM.bind (fe _) _ M=_;unfold DM.bind;rw[hf];dsimp only;rw[Tv lt];exact ih
   ·have e1:(L.map enc)[i]?=none:=Uz (by rw[Tz];lia)
    rw[e1]at rn;refine⟨x,?_⟩;show DM.bind (rd (Itn.next (.dyn n) i)) _ M=_;unfold DM.bind;rw[rn];have:L.take i=L:=WQ (by lia)
    rw[hl,this];rfl
theorem Ko{α:Type}{fe:ak->DM D}{rest:ak}{n:Nat}{M:Mo}{L:List α}{x:Option D}(enc e:α->D)(hM:M[n]?=some (.lst (L.map enc)))(hL:L.length<=1000000)(h:∀a∈L,fe (some (enc a)::rest) M=some (.ok (e a),M)){β:Type}{k:ak×List D->DM β}{Q:β->Mo->Prop}(k':List D->DM β)(hk:∀q,k q=k' q.2)(q:Rn (k' (L.map e)) M Q):
  Rn (rd (uE (.ref n))>>=λit=>dM (cB (gN 0) (λy=>Pure.pure true) (bA fe) it (x::rest) [])>>=k) M Q:=by
 refine Rn.bindRd (.dyn n) (by simp only[uE,hM]) ?_
 obtain⟨z,e2⟩:=wQ (rest:=rest) enc e hM hL h (L.length+1) 0 x [] (by lia) (by lia) rfl
 have e1:cB (gN 0) (λy=>Pure.pure true) (bA fe) (.dyn n) (x::rest) [] M=some (.ok (z::rest,L.map e),M):=by
  show DM.bind (rd (λM=>aX (.ref n) M)) _ M=_
  unfold DM.bind rd;simp only[aX,hM,Option.map_some,List.length_map];exact e2
 refine Rn.bind (yo ⟨_,_,e1,rfl,rfl⟩:Rn (dM _) M λp M'=>p=(z::rest,L.map e)/\M'=M) λp M' ⟨e1,e2⟩=>?_
 subst e1 e2;rw[hk];exact q
end L3
namespace L3
open PySem PySem.Spec L2 LA LB
open PyProof.Rows hiding St
noncomputable def mR(acc:List (List Int))(t:List Int):List (List Int):=if t∈acc then acc else acc++[t]
noncomputable def yC(ts:List (List Int)):List (List Int):=ts.foldl mR []
theorem Kd(acc:List (List Int))(t:List Int):(mR acc t).length<=acc.length+1:=by unfold mR;split<;>simp
theorem Ka(ts:List (List Int)):(yC ts).length<=ts.length:=by
 have key:∀ (ts acc:List (List Int)),(ts.foldl mR acc).length<=acc.length + ts.length:=by
  intro ts;induction ts with
  |nil=>intro acc;simp
  |cons t ts ih=>
    intro acc;have:=ih (mR acc t);have:=Kd acc t;rw[V2,Ve]
    lia
 have:=key ts [];simpa[yC] using this
end L3
namespace L3
open PySem PySem.Spec L2 LA LB LS
open PyProof.Rows hiding St
noncomputable def JW(l:List D):Option D:=(qH l).map λts=>.lst ((zZ (yC ts)).map tupI)
theorem yz:∀{cs:List (Addr×List Int)},(∀c∈cs,c.1∉ρ/\H c.1=some (.tup (c.2.map V.int)))->Cvs mg ρ H (cs.map λc=>V.ref c.1) ((cs.map (·.2)).map tupI)
 |[],_=>.nil
 |c::cs,h=>.cons (.tup (h c T6).1 (h c T6).2 (Cvs.ints _)) (yz λx hx=>h x (Ui _ hx))
end L3
namespace L2
open PySem PySem.Spec PyProof.Rows LS LA LB
noncomputable def Pq(ta:TA):TE:=λσ H Q=>ta σ H λxs H1=>∃(p:Addr) (all:List (Addr×List Int)),xs=[.ref p]/\H1 p=some (.lst (all.map λc=>V.ref c.1))/\(∀c∈all,c.2≠[]/\H1 c.1=some (.tup (c.2.map V.int)))/\all.length<=18/\∀(l:Addr) (cs':List (Addr×List Int)),H1 l=none->(∀c∈cs',c∈all)->cs'.map (·.2)=zZ ((all.foldl dD []).map (·.2))->Q (.ref l) (upd H1 l (.lst (cs'.map λc=>V.ref c.1)))
theorem w5:∀ {all:List (Addr×List Int)}{us:List Value},Vals (all.map λc=>V.ref c.1) us->us=all.map λc=>Value.ref c.1
 |[],_,.nil=>rfl
 |c::all,_,.cons r t=>by obtain rfl:_=Value.ref c.1:=r;rw[w5 t];rfl
section
variable{X:Cx}
theorem Jj(hc:X.calm=true)(hu:X.A.units + 8<cLine)(hgL:Gl X "sorted")(hmL:X.mg "sorted"=none)(hg:Gl X "set")(hm:X.mg "set"=none)(ha:PA X [a] ta)(hs:autoParam (notStar a=true) qAA):
  PE X (.Call (.Name "sorted" p1) [.Call (.Name "set" p2) [a] [] pos2] [] pos1) (Pq ta):=by
 intro Yk s σ H Q I h;have hst:starEach [Expr.Call (.Name "set" p2) [a] [] pos2] X.env=(false,eval (.Call (.Name "set" p2) [a] [] pos2) X.env)::starEach [] X.env:=aM rfl;refine Call_ (ld_blt I hgL hmL gG (VD ?_ hst rfl));rw[hst];show wpAny _ _ (spliced ((false,eval (.Call (.Name "set" p2) [a] [] pos2) X.env)::[])) _ _ s;refine V9 ?_;refine Call_ (ld_blt I hg hm lq (Uj (thn (ha pos2 Yk s σ H _ I h) λus s1 ⟨vs,H1,I1,r1,q1⟩=>?_) (aM hs) rfl))
 obtain⟨p,all,e,hp,hT,hl,q⟩:=q1;subst e;cases r1 with
 | cons r rr=>
   cases rr;cases r;obtain⟨_,its,n,vl,ho⟩:=I1.hok p _ hp;have iv:=w5 vl;subst iv;have hd:=I1.ok.hd hc;have HT:nU X.prog X.w s1.heap all:=λc hc=>Kw I1.hok (hT c hc).2
   refine EY (items:=(all.map λc=>Value.ref c.1).toArray) (all:=all) hd ⟨_,ho,rfl,n,rfl⟩ (by simp) HT hu hl λh1 tk1 g k1=>?_
   refine We ?_;have fs:∀x∈all.foldl dD [],x∈all:=λx hx=>by simpa using tQ all [] (S:=[]) hx (λz=>by cases z)
   have fl:=tO all [];refine Am (s:={ s1 with heap:=h1,toks:=tk1 }) hd g (λc hc=>?_) (by simp at fl;lia) λh2 tk2 d2 l m cs' pm ri hge hol k2=>?_
   ·obtain⟨ne,hc'⟩:=hT c (fs c hc);obtain⟨_,its,hv,it⟩:=I1.hok _ _ hc';exact⟨ne,its.toArray,it.keeps λb o e=>k1 b o (Tt e) e,by simpa using qJ hv⟩
   ·have sz:s1.heap.objs.size<=l:=by obtain⟨_,_,_,_,hs1,_⟩:=g;exact Ue (V6 (Tt hs1)) hge
    have kk:∀b o,s1.heap.get? b=some o->h2.get? b=some o:=λb o e=>k2 b o (k1 b o (Tt e) e)
    have zl:(cs'.map λc=>V.ref c.1).length<=sizeLine:=by
     rw[Tz,pm.length_eq];simp at fl;show _<=2^24
     lia
    have vv:∀l:List (Addr×List Int),Vals (l.map λc=>V.ref c.1) (l.map λc=>Value.ref c.1):=by
     intro l;induction l with
     |nil=>exact .nil
     |cons c l ih=>exact .cons rfl ih
    have I2:=I1.call (h':=h2) (t':=tk2) (d':=d2) (g':=s1.gens) (ch:=[]) (Un.laid kk sz (I1.hok.fresh sz)) (I1.hok.laid (o:=.lst (cs'.map λc=>V.ref c.1)) kk sz ⟨zl,_,m,vv cs',hol⟩) I1.bare (λy z=>nomatch z)
    exact⟨.ref l,upd H1 l (.lst (cs'.map λc=>V.ref c.1)),I2,rfl,q l cs' (I1.hok.fresh sz) (λc hc=>fs c (pm.mem_iff.mp hc)) (wW ((pm.map _).trans (jD _).1.symm) ri (jD _).2)⟩
end
end L2
namespace L3
open PySem PySem.Spec L2 LA LB
theorem yO:∀ (l acc:List (Addr×List Int)),(l.foldl dD acc).map (·.2)=(l.map (·.2)).foldl mR (acc.map (·.2))
 |[],_=>rfl
 |c::l,acc=>by rw[V2,yO l,Uu,V2];congr 1;unfold dD mR;split<;>simp
noncomputable def xK:List D->Mo->Option D
 |[d],M=>(aX d M).bind λl=>if l.length<=18 then JW l else none
 |_,_=>none
set_option tactic.hygienic true in
theorem Cj:∀ {ts:List (List Int)}{xs:List V},(∀ t∈ts,t≠[])->Cvs mg ρ H xs (ts.map tupI)->∃ all:List (Addr×List Int),xs=all.map (λc=>V.ref c.1)/\all.map (·.2)=ts/\∀ c∈all,c.2≠[]/\c.1∉ρ/\H c.1=some (.tup (c.2.map V.int))
 |[],_,_,.nil=>⟨[],rfl,rfl,λc h=>by cases h⟩
 | t::ts,_,h,.cons a c=>by
   obtain⟨all,e1,e2,h3⟩:=Cj (λx hx=>h x (.tail _ hx)) c
   cases a with
   |tup n ha k=>
     rename_i b xs;refine⟨(b,t)::all,by rw[e1];rfl,by rw[<-e2];rfl,λc hc=>?_⟩
     rcases TV.mp hc with rfl | hc
     ·exact⟨h t T6,n,by rw[ha,jL k]⟩
     ·exact h3 c hc
section
variable{X:Cx}{E:XK}{a:Expr}{fa:ak->DM (List D)}{p1 p2 pos1 pos2:Pos}
set_option tactic.hygienic true in
theorem Ij(hc:X.calm=true)(hu:X.A.units + 64<cLine)(hmL:X.mg "sorted"=none)(hm:X.mg "set"=none)(ha:DA X E [a] fa)(hgL:autoParam (Gl X "sorted") qAA)(hg:autoParam (Gl X "set") qAA)(hs:autoParam (notStar a=true) qAA):
  DE X E (.Call (.Name "sorted" p1) [.Call (.Name "set" p2) [a] [] pos2] [] pos1) (λδ=>fa δ>>=λl=>rd (xK l)):=⟨PE.mono (Jj hc (by lia) hgL hmL hg hm ha.h.h hs) λσ H Q h=>by
 obtain⟨ρ,δ,M,ev,j,g1⟩:=h;refine⟨ρ,δ,M,ev,j,g1.bind λρ1 H1 M1 xs ds e1 j1 c1 g2=>?_⟩
 obtain⟨d,ed,q⟩:=g2.rd;unfold xK at ed;split at ed
 ·rename_i d0;obtain⟨l0,h0,ed⟩:=Ud.mp ed;split at ed
  ·rename_i hn;unfold JW at ed;obtain⟨ts,h1,rfl⟩:=Tp.mp ed;obtain⟨e0,ne⟩:=wZ h1;obtain⟨v,rfl,k⟩:=c1.one;obtain⟨p,xs,rfl,hx,c⟩:=cM j1 k h0;rw[e0]at c;obtain⟨all,rfl,et,h3⟩:=Cj ne c;refine⟨p,all,rfl,hx,λc hc=>⟨(h3 c hc).1,(h3 c hc).2.2⟩,?_,λl cs' hl sub es=>q ρ1 _ _ (.lay hl) (j1.lay _ hl) (.lst (j1.fresh hl) upd_same ?_)⟩
   ·have:=congrArg List.length et;have:=congrArg List.length e0;simp at *
    lia
   ·have ed:yC ts=(all.foldl dD []).map (·.2):=by rw[yO,et];rfl
    rw[ed,<-es];exact (yz λc hc=>(h3 c (sub c hc)).2).mono (.lay hl)
  ·cases ed
 ·cases ed⟩
end
end L3
namespace L3
open PySem PySem.Spec L2
open PyProof.Rows hiding St
end L3
namespace L3
open PySem PySem.Spec PyProof.Rows L2
noncomputable abbrev TB(K:PySem.W.Frag)(x:Str):Prop:=PySem.W.nsIn K mainGlobals x=some none
noncomputable def TD(K:PySem.W.Frag)(x:Str)(st:Stmt):Prop:=∀{h:Heap}{mg:Mg},K.In h->h.Ns mainGlobals mg->DefAt K mg x st
section
variable{K:PySem.W.Frag}{x:Str}{st:Stmt}{f:Addr}{oc:Value}{od an:Option Addr}{osl:Array (Option Value)}{kV doc pm cdv ct:Value}
theorem QS(a:PySem.W.nsIn K mainGlobals x=some (some (.ref f)))(l:K.lookup f=some ⟨oc,od,.func (PySem.W.fnOf x x (defArgs st) (defBody st) (defScope st) .none kV doc pm an cdv ct),osl⟩)(c:PySem.W.codeIn K cdv x=true)(k:PySem.W.keepIn K (.ref f)=true):TD K x st:=
 λX G=>Ik X G a l c k
end
section
variable{P:Program}{w:World}{K:PySem.W.Frag}{mg:Mg}{base:Heap}{k:Nat}{C:Addr}{c x qual:Str}{N ps:List Str}{st:Stmt}{fb:ak->DM Fl}{is:List Int}
theorem okd(T:DefAt K mg x st)(S:FnScope N ps (defScope st))(hbody:∀{f cdv A outer s H E},Rm k A x st s f cdv->Ds P w K mg base N x st f cdv A outer s H E fb)
  (hb:∀(kV doc pm:Value) (an:Option Addr) (cdv ct:Value) (us:List Value),us.length=ps.length->bindArgs (PySem.W.fnOf x x (defArgs st) (defBody st) (defScope st) .none kV doc pm an cdv ct) ⟨us,[]⟩=pure (ps.zip us):=by intro _ _ _ _ _ _ us hl;first | (obtain⟨_,rfl⟩:=IV hl;rfl) | (obtain⟨_,_,rfl⟩:=NK hl;rfl) | (obtain⟨_,_,_,rfl⟩:=NP hl;rfl) | (obtain⟨_,_,_,_,rfl⟩:=NQ hl;rfl)) :
  DefD P w K mg base (k+1) x ps (aL ps.length N.length fb):=L3.DefAt.okD T S hb λz z z z z z z=>hbody
theorem okn(fb:Nat->ak->DM Fl)(T:DefAt K mg x st)(S:FnScope N ps (defScope st))(hf:∀ds M r,F ds M=some r->∃n,aL ps.length N.length (fb n) ds M=some r)(hbody:∀n {f cdv A outer s H E},Rm k A x st s f cdv->Ds P w K mg base N x st f cdv A outer s H E (fb n))
  (hb:∀(kV doc pm:Value) (an:Option Addr) (cdv ct:Value) (us:List Value),us.length=ps.length->bindArgs (PySem.W.fnOf x x (defArgs st) (defBody st) (defScope st) .none kV doc pm an cdv ct) ⟨us,[]⟩=pure (ps.zip us):=by intro _ _ _ _ _ _ us hl;first | (obtain⟨_,rfl⟩:=IV hl;rfl) | (obtain⟨_,_,rfl⟩:=NK hl;rfl) | (obtain⟨_,_,_,rfl⟩:=NP hl;rfl) | (obtain⟨_,_,_,_,rfl⟩:=NQ hl;rfl)) :
  DefD P w K mg base (k+1) x ps F:=L3.DefAt.okN T S hb hf λn z z z z z z z=>hbody n
theorem Q5(T:MethAt K C x qual st)(m:mg c=some (.ref C))(cl:L2.Cls K C)(S:FnScope N ps (defScope st))(hbody:∀{f cdv A outer s H E},Rm k A qual st s f cdv->Ds P w K mg base N qual st f cdv A outer s H E fb):MethD P w K mg base (k+1) c x qual st ps (aL ps.length N.length fb):=L3.MethAt.okD T m cl S λz z z z z z z=>hbody
end
end L3
namespace LA
open PySem PySem.W PySem.Calls LS PyProof.Rows LB
end LA
namespace L2
open PySem PySem.Spec PyProof.Rows LS LA LB
end L2
namespace L3
open PySem PySem.Spec L2 LA LB LS
open PyProof.Rows hiding St
end L3
namespace L3
open PySem PySem.Spec L2
open PyProof.Rows hiding St
end L3
namespace L3
open PySem PySem.Spec L2 LB
end L3
namespace L3
open PySem PySem.Spec L2
open PyProof.Rows hiding St
section
variable{X:Cx}{E:XK}{a:Expr}{fa:ak->DM D}{fs:ak->DM (List D)}{pos p1 p2 p3 p4:Pos}
noncomputable def JG:D->D->Mo->Option D
 |.tup l,.tup [],_=>some (.bl l.isEmpty)
 |_,_,_=>none
theorem K8(hu:X.A.units+64<cLine):OpR X (compareOp .Eq) (λx y H Q=>∃a b xs,x=.ref a/\y=.ref b/\H a=some (.tup xs)/\H b=some (.tup [])/\Q (.bl xs.isEmpty) H):=by
 intro Yk s σ H x y v u Q I rx ry h;obtain⟨a,b,xs,rfl,rfl,ha,hb,q⟩:=h;cases rx;cases ry;obtain⟨i1,r1,h1,_⟩:=I.tuple (SqT.of (K:=X.K) ha);obtain⟨i2,r2,h2,_⟩:=I.tuple (SqT.of (K:=X.K) hb);cases r2;refine PySem.SeqAt.RcAt.tuples (e:=λz=>true) h1 h2 (by lia) (λj z j2=>absurd j2 (Nat.not_lt_zero _)) _ _ _ _ ?_
 refine⟨.bl xs.isEmpty,H,I,?_,q⟩;cases r1<;>rfl
theorem vL(hu:X.A.units + 64<cLine):bM X E (compareOp .Eq) (λx y=>rd (JG x y)):=bM.of (K8 hu) λx y H Q ρ M dx dy d j cx cy e q=>by
 unfold JG at e;split at e
 ·cases e;cases cx with
  | tup n1 h1 c1=>
    cases cy with
    |tup n2 h2 c2=>cases c2;refine⟨_,_,_,rfl,rfl,h1,h2,?_⟩;rw[c1.empty];exact q ρ H _ .refl j (.bl _)
 ·cases e
noncomputable def Jq:D->Option D
 |.tup l=>some (.tup l.reverse)
 |_=>none
theorem MP{i:Nat}(ha:DE X E a fa):DE X E (.Subscript a (.Slice none none (some (.UnaryOp .USub (.Constant (.int 1) i p3) p4)) p2) pos) (λδ=>fa δ>>=λx=>opt (Jq x)):=⟨PE.mono (Oo ha.h) λσ H Q h=>by
 obtain⟨ρ,δ,M,ev,j,g1⟩:=h;refine⟨ρ,δ,M,ev,j,g1.bind λρ1 H1 M1 x dx e1 j1 c1 g2=>?_⟩
 obtain⟨d,ed,q⟩:=g2.opt;unfold Jq at ed;split at ed
 ·cases ed;cases c1 with
  |tup n h c=>exact⟨_,_,rfl,h,λp hp=>q ρ1 _ _ (.lay hp) (j1.lay _ hp) (.tup (j1.fresh hp) upd_same (c.reverse.mono (.lay hp)))⟩
 ·cases ed⟩
noncomputable def nb(b:Bool):Int:=if b=true then 1 else 0
noncomputable def HQ:D->D->Mo->Option D
 |.int i,.int j,_=>some (.int (i+j))
 |.bl b,.int j,_=>some (.int (nb b+j))
 |_,_,_=>none
noncomputable def subB:D->D->Mo->Option D
 |.int i,.int j,_=>some (.int (i-j))
 |.bl b,.int j,_=>some (.int (nb b-j))
 |.int i,.bl b,_=>some (.int (i-nb b))
 |_,_,_=>none
theorem Bt:bM X E (binaryOp .Add) (λx y=>rd (HQ x y)):=by
 have h:OpR X (binaryOp .Add) (λx y H Q=>∃b j,x=.bl b/\y=.int j/\Q (.int (nb b+j)) H):=by intro Yk s σ H x y v u Q I rx ry h;obtain⟨b,j,rfl,rfl,q⟩:=h;cases rx;obtain⟨t,rfl⟩:=ry;exact PySem.IntBool.add_bool_int ⟨.int _,H,I.tok _,⟨_,rfl⟩,q⟩
 refine bM.of (op_add.or h) λx y H Q ρ M dx dy d j cx cy e q=>?_
 unfold HQ at e;split at e
 ·cases e;cases cx;cases cy;exact .inl ⟨_,_,rfl,rfl,q ρ H _ .refl j (.int _)⟩
 ·cases e;cases cx;cases cy;exact .inr ⟨_,_,rfl,rfl,q ρ H _ .refl j (.int _)⟩
 ·cases e
theorem Bw:bM X E (binaryOp .Sub) (λx y=>rd (subB x y)):=by
 have h:OpR X (binaryOp .Sub) (λx y H Q=>∃b j,x=.bl b/\y=.int j/\Q (.int (nb b-j)) H):=by intro Yk s σ H x y v u Q I rx ry h;obtain⟨b,j,rfl,rfl,q⟩:=h;cases rx;obtain⟨t,rfl⟩:=ry;exact PySem.IntBool.sub_bool_int ⟨.int _,H,I.tok _,⟨_,rfl⟩,q⟩
 have h':OpR X (binaryOp .Sub) (λx y H Q=>∃i b,x=.int i/\y=.bl b/\Q (.int (i-nb b)) H):=by intro Yk s σ H x y v u Q I rx ry h;obtain⟨i,b,rfl,rfl,q⟩:=h;cases ry;obtain⟨t,rfl⟩:=rx;exact PySem.IntBool.sub_int_bool ⟨.int _,H,I.tok _,⟨_,rfl⟩,q⟩
 refine bM.of (op_sub.or (h.or h')) λx y H Q ρ M dx dy d j cx cy e q=>?_
 unfold subB at e;split at e
 ·cases e;cases cx;cases cy;exact .inl ⟨_,_,rfl,rfl,q ρ H _ .refl j (.int _)⟩
 ·cases e;cases cx;cases cy;exact .inr (.inl ⟨_,_,rfl,rfl,q ρ H _ .refl j (.int _)⟩)
 ·cases e;cases cx;cases cy;exact .inr (.inr ⟨_,_,rfl,rfl,q ρ H _ .refl j (.int _)⟩)
 ·cases e
theorem FN{st:List Stmt}:DSs X E st (λz=>stuck):=⟨by intro Yk s σ H D I h;obtain⟨ρ,δ,M,ev,j,g1⟩:=h;obtain⟨r,e,_⟩:=g1;cases e⟩
end
end L3
namespace L2
open PySem PySem.Spec PyProof.Rows LS
end L2
namespace L3
open PySem PySem.Spec L2
end L3
namespace L3
open PySem PySem.Spec L2 PyProof.Rows
end L3
namespace L3
open PySem PySem.Spec L2
open PyProof.Rows hiding St
noncomputable abbrev AT:=L2.St->Rh->Hp->Prop
noncomputable def tA(An:AT)(mg:Str->Option Value)(E:XK)(f:ak->DM D):TE:=λσ H Q=>∃ρ δ M,An σ ρ H/\Ev mg ρ H σ δ/\J mg ρ M H/\Go mg E (Cv mg) Q ρ H (f δ) M
open PySem PySem.Spec L2
open PyProof.Rows hiding St
theorem Il{X:Cx}{E:XK}{i:Nat}{x:Str}{px spos:Pos}{scope:Scope}{cl:List (Str×Addr)}{own:List Str}{js:List Nat}{fr:List Str}{elt t0 i0 t1 i1:Expr}{f0 f1:List Expr}{pos:Pos}{fi fi1:ak->DM Itn}{fg fg1:D->ak->DM ak}{ft ft1:ak->DM Bool}{fe:ak->DM D}
  (o:Out) (hN:X.N.Nodup) (hi0:X.N[i]?=some x) (hx:Loc X.env.scope x) (hc:X.calm=true) (T:CompG X scope cl own js fr) (hi:DI X E t0 i0 fi)
  (hg:∀Yk m fp C s₂ H₂,DG (X.aR Yk scope (cellsFrom m scope.names cl) (own++fr) fp C s₂ H₂) E0 t0 fg) (ht:∀Yk m fp C s₂ H₂,DTs (X.aR Yk scope (cellsFrom m scope.names cl) (own++fr) fp C s₂ H₂) E0 f0 ft)
  (hi1:∀Yk m fp C s₂ H₂,DI (X.aR Yk scope (cellsFrom m scope.names cl) (own++fr) fp C s₂ H₂) E0 t1 i1 fi1) (hg1:∀Yk m fp C s₂ H₂,DG (X.aR Yk scope (cellsFrom m scope.names cl) (own++fr) fp C s₂ H₂) E0 t1 fg1)
  (ht1:∀Yk m fp C s₂ H₂,DTs (X.aR Yk scope (cellsFrom m scope.names cl) (own++fr) fp C s₂ H₂) E0 f1 ft1) (he:∀Yk m fp C s₂ H₂,DE (X.aR Yk scope (cellsFrom m scope.names cl) (own++fr) fp C s₂ H₂) E0 elt fe)
  (hsw:autoParam (swapsWith (.ListComp elt [⟨t0,i0,f0,0⟩,⟨t1,i1,f1,0⟩] scope pos) (some (.Name x px)) spos.line X.env=pure true) qAA)
  (hs:∀y,foldedSetIterable i0 X.env y=pure y:=by intro _;rfl) (hs1:∀(env:Env) y,foldedSetIterable i1 env y=pure y:=by intro _ _;rfl) (hf:X.fn x=true\/X.env.scope.names.lookup x=some .local:=by first | exact .inl rfl | exact .inr rfl | assumption) :
  DS X E (.Assign [.Name x px] (.ListComp elt [⟨t0,i0,f0,0⟩,⟨t1,i1,f1,0⟩] scope pos) spos) (λδ=>(fi δ>>=λit=>dM (cB fg ft (jO fi1 fg1 ft1 (bA fe)) it (aZ own.length js δ) [])>>=λp=>o.run p.2)>>=λd=>pure (.nx (δ.set i (some d)))):=
 yx (bodyK:=λY acc=>pX (.ListComp elt [⟨t0,i0,f0,0⟩,⟨t1,i1,f1,0⟩] scope pos) i1 (.ref acc) Y.env) (W:=λY acc P s=>wpAny (model Y.prog Y.w) Y.A (eval i1 Y.env) (λx s1=>wpAny (model Y.prog Y.w) Y.A (pyIter x) (λit s2=>
   codeAny (model Y.prog Y.w) Y.A (.compStart (.ListComp elt [⟨t0,i0,f0,0⟩,⟨t1,i1,f1,0⟩] scope pos) 1 it (.ref acc) Y.env) (λr s3=>match r with
    |.ok _=>P s3
    |.error _=>False) s2) (λv v=>False) s1) (λv v=>False) s) o hN hi0 hx hc T hi
  (λY it acc=>HB ..) (λY acc=>Bf (hs1 _)) (λY acc P P' s hp h=>Um h (λx s1 h1=>Um h1 (λv s2 h2=>Vw h2 λr s3 h3=>by cases r with | ok f=>exact hp _ h3 | error x=>exact h3) λv v z=>z) λv v z=>z) hg ht (λYk m fp C s₂ H₂ acc=>yU (X:=X.aR Yk scope (cellsFrom m scope.names cl) (own++fr) fp C s₂ H₂) hc rfl (hi1 ..) (hg1 ..) (ht1 ..) (he ..)) hsw hs hf
noncomputable def oN(lo c:Int)(n:Nat):List D:=(List.range n).map λi=>.int (lo+(i:Nat)*c)
theorem vQ{lo c:Int}{n i:Nat}:(oN lo c n)[i]?=if i<n then some (.int (lo+(i:Nat)*c)) else none:=by
 unfold oN;rw[T8];by_cases h:i<n
 ·rw[Tv h,Vz h];rfl
 ·rw[Tw h,Ul.mpr (by simp;lia)];rfl
set_option tactic.hygienic true in
theorem Ks{mg:Str->Option Value}{ρ:Rh}{H:Hp}{lo c:Int}{n:Nat}:ItOk mg ρ H (Mp lo c n) (.fix (oN lo c n)) where
 item:=λi ρ' H' M' d e j q=>by
  have hq:(oN lo c n)[i]?=some d:=TJ q;rw[vQ]at hq;split at hq
  ·rename_i h;cases hq;refine⟨h,λx H2 y=>?_⟩
   obtain⟨rfl,rfl⟩:=y;exact⟨.refl,j,.int _⟩
  ·cases hq
 stop:=λi ρ' H' M' e j q=>by
  have hq:(oN lo c n)[i]?=none:=TJ q;rw[vQ]at hq;split at hq
  ·cases hq
  ·rename_i h;exact Wd.mp h
open Classical in
noncomputable def Jr:List D->Option Itn
 |[.int i,.int j,.int c]=>if zT i j c then some (.fix (oN i c (Builtin.Range.rangeSize i j c).toNat)) else none
 |_=>none
set_option tactic.hygienic true in
theorem Fw{X:Cx}{E:XK}{tg a b c:Expr}{fa:ak->DM (List D)}{p pos:Pos}(hg:Gl X "range")(hm:X.mg "range"=none)(ha:DA X E [a,b,c] fa)(hs:autoParam (notStar a=true) qAA)(hs2:autoParam (notStar b=true) qAA)(hs3:autoParam (notStar c=true) qAA):
  DI X E tg (.Call (.Name "range" p) [a,b,c] [] pos) (λδ=>fa δ>>=λl=>opt (Jr l)):=
 ⟨PI.mono (GZ hg hm ha.h.h hs hs2 hs3) fun σ H R h=>by
  obtain⟨ρ,δ,M,ev,j,g1⟩:=h;refine⟨ρ,δ,M,ev,j,g1.bind λρ1 H1 M1 x dx e1 j1 c1 g2=>?_⟩
  obtain⟨it,e,q⟩:=g2.opt;unfold Jr at e;split at e
  ·split at e
   ·rename_i hk;cases e;cases c1 with | cons c1 c2=>cases c2 with | cons c2 c3=>cases c3 with | cons c3 c4=>
    cases c4;cases c1;cases c2;cases c3;exact⟨_,_,_,rfl,hk,q ρ1 H1 _ .refl j1 Ks⟩
   ·cases e
  ·cases e⟩
noncomputable def vI:D->D->Mo->Option D
 |.tup l,.int k,_=>if decide (1<=l.length/\l.length<=1000/\2<=k/\k<=100) then some (.tup (List.replicate k.toNat l).flatten) else none
 |_,_,_=>none
set_option tactic.hygienic true in
theorem vM{X:Cx}{E:XK}:bM X E (binaryOp .Mult) (λx y=>rd (vI x y)):=bM.of Le λx y H Q ρ M dx dy d j cx cy e q=>by
 unfold vI at e;split at e
 ·split at e
  ·rename_i hk;have hk:=UG hk;cases e;cases cy;cases cx with | tup n a c=>
   refine⟨_,_,_,rfl,rfl,a,by rw[c.len];exact hk.1,by rw[c.len];exact hk.2.1,hk.2.2.1,hk.2.2.2,λp H' hn S hp=>?_⟩
   exact q ρ H' _ (.same S) (j.same S) (.tup ((j.same S).notup hp) hp ((Cvs.reps c _).mono (.same S)))
  ·cases e
 ·cases e
noncomputable def xM:List D->Mo->Option (List D)
 |[d],M=>(aX d M).bind λl=>(intsOf l).bind λns=>if ns.length<=2000/\(ns.foldl step_dedup []).length<=60 then some ((dC ns).map D.int) else none
 |_,_=>none
section
variable{X:Cx}{E:XK}{a:Expr}{fa:ak->DM (List D)}{p1 p2 pos1 pos2:Pos}
set_option tactic.hygienic true in
theorem Ii(hc:X.calm=true)(hmL:X.mg "sorted"=none)(hm:X.mg "set"=none)(ha:DA X E [a] fa)(hgL:autoParam (Gl X "sorted") qAA)(hg:autoParam (Gl X "set") qAA)(hs:autoParam (notStar a=true) qAA):
  DE X E (.Call (.Name "sorted" p1) [.Call (.Name "set" p2) [a] [] pos2] [] pos1) (λδ=>fa δ>>=λl=>rd (λM=>(xM l M).map D.lst)):=⟨PE.mono (Ji hc hgL hmL hg hm ha.h.h hs) λσ H Q h=>by
 obtain⟨ρ,δ,M,ev,j,g1⟩:=h;refine⟨ρ,δ,M,ev,j,g1.bind λρ1 H1 M1 xs ds e1 j1 c1 g2=>?_⟩
 obtain⟨d,ed,q⟩:=g2.rd;obtain⟨l,el,rfl⟩:=Tp.mp ed;unfold xM at el;split at el
 ·rename_i d0;obtain⟨l0,h0,el⟩:=Ud.mp el;obtain⟨ns,h1,el⟩:=Ud.mp el;split at el
  ·rename_i hn;cases el;have e0:=iR h1;subst e0;obtain⟨v,rfl,k⟩:=c1.one;have fin:∀p,H1 p=some (.lst (ns.map V.int))->∃p' ns',[V.ref p]=[.ref p']/\H1 p'=some (.lst (ns'.map V.int))/\(ns'.length<=2000/\(ns'.foldl step_dedup []).length<=60)/\∀l,H1 l=none->Q (.ref l) (upd H1 l (.lst ((dC ns').map V.int))):=λp hp=>
    ⟨p,ns,rfl,hp,hn,λl hl=>q ρ1 _ _ (.lay hl) (j1.lay _ hl) (.lst (j1.fresh hl) upd_same (Cvs.ints _))⟩
   obtain⟨p,xs,rfl,hx,c⟩:=cM j1 k h0;exact fin p (by rw[hx,jL c])
  ·cases el
 ·cases el⟩
end
end L3
namespace L2
open PySem PySem.Spec PyProof.Rows LS
section
variable{X:Cx}
noncomputable def Mj(ta:TA):TE:=λσ H Q=>ta σ H λvs H1=>∃(p:Addr) (ns:List Int),vs=[.ref p]/\H1 p=some (.tup (ns.map V.int))/\(ns.length<=2000/\(ns.foldl step_dedup []).length<=60)/\∀l,H1 l=none->Q (.ref l) (upd H1 l (.lst ((dC ns).map V.int)))
theorem GR{a:Expr}{ta:TA}{p1 p2 pos1 pos2:Pos}(hc:X.calm=true)(hgL:Gl X "sorted")(hmL:X.mg "sorted"=none)(hg:Gl X "set")(hm:X.mg "set"=none)(ha:PA X [a] ta)(hs:autoParam (notStar a=true) qAA):
  PE X (.Call (.Name "sorted" p1) [.Call (.Name "set" p2) [a] [] pos2] [] pos1) (Mj ta):=by
 intro Yk s σ H Q I h;have hst:starEach [Expr.Call (.Name "set" p2) [a] [] pos2] X.env=(false,eval (.Call (.Name "set" p2) [a] [] pos2) X.env)::starEach [] X.env:=aM rfl;refine Call_ (ld_blt I hgL hmL gG (VD ?_ hst rfl));rw[hst];show wpAny _ _ (spliced ((false,eval (.Call (.Name "set" p2) [a] [] pos2) X.env)::[])) _ _ s;refine V9 ?_;refine Call_ (ld_blt I hg hm lq (Uj (thn (ha pos2 Yk s σ H _ I h) λus s1 ⟨vs,H1,I1,r1,q1⟩=>?_) (aM hs) rfl))
 obtain⟨p,ns,e,hp,hl,q⟩:=q1;subst e;cases r1 with
 | cons r rr=>
   cases rr;cases r;obtain⟨its,vl,ho,_⟩:=I1.tuple (SqT.of (K:=X.K) hp);have ia:=lB vl;have il:its.length=ns.length:=W2 ia;have hd:=I1.ok.hd hc;refine Fb (items:=its.toArray) (ns:=ns) hd ho (by simpa using ia) (by simp[scanBound];have:=hl.1;lia) λh1 tk1 g k1=>?_
   refine We ?_;rw[show its.toArray.size=ns.length from by rw[TX];exact il,jN]at g
   have sl:=hl.2;refine o7 (s:={ s1 with heap:=h1,toks:=tk1 }) hd g (by lia) λh2 tk2 d2 l m ws ms hge hol ims pm so k2=>?_
   have sz:s1.heap.objs.size<=l:=by obtain⟨es,ep,t,hs1,_⟩:=g.ex;exact Ue (V6 (Tt hs1)) hge
   have em:ms=dC ns:=fX (pm.trans (bV _).1.symm) so (bV _).2;have kk:∀b o,s1.heap.get? b=some o->h2.get? b=some o:=λb o e=>k2 b o (k1 b o (Tt e) e)
   have zl:((dC ns).map V.int).length<=sizeLine:=by
    rw[Tz];have:=vW ns;have:=hl.1;show _<=2^24
    lia
   have I2:=I1.call (h':=h2) (t':=tk2) (d':=d2) (g':=s1.gens) (ch:=[]) (Un.laid kk sz (I1.hok.fresh sz)) (I1.hok.laid (o:=.lst ((dC ns).map V.int)) kk sz ⟨zl,ws,m,by rw[<-em];exact vals_ints ims,hol⟩) I1.bare (λy z=>nomatch z)
   exact⟨.ref l,upd H1 l (.lst ((dC ns).map V.int)),I2,rfl,q l (I1.hok.fresh sz)⟩
end
end L2
namespace L3
open PySem PySem.Spec L2
open PyProof.Rows hiding St
section
variable{X:Cx}{E:XK}{a:Expr}{fa:ak->DM (List D)}{p1 p2 pos1 pos2:Pos}
noncomputable def qF:List D->Option (List D)
 |[.tup l]=>(intsOf l).bind λns=>if ns.length<=2000/\(ns.foldl step_dedup []).length<=60 then some ((dC ns).map D.int) else none
 |_=>none
set_option tactic.hygienic true in
theorem Ft(hc:X.calm=true)(hmL:X.mg "sorted"=none)(hm:X.mg "set"=none)(ha:DA X E [a] fa)(hgL:autoParam (Gl X "sorted") qAA)(hg:autoParam (Gl X "set") qAA)(hs:autoParam (notStar a=true) qAA):
  DE X E (.Call (.Name "sorted" p1) [.Call (.Name "set" p2) [a] [] pos2] [] pos1) (λδ=>fa δ>>=λl=>opt ((qF l).map D.lst)):=⟨PE.mono (GR hc hgL hmL hg hm ha.h.h hs) λσ H Q h=>by
 obtain⟨ρ,δ,M,ev,j,g1⟩:=h;refine⟨ρ,δ,M,ev,j,g1.bind λρ1 H1 M1 xs ds e1 j1 c1 g2=>?_⟩
 obtain⟨d,ed,q⟩:=g2.opt;obtain⟨l,el,rfl⟩:=Tp.mp ed;unfold qF at el;split at el
 ·obtain⟨ns,h1,el⟩:=Ud.mp el;split at el
  ·rename_i hn;cases el;have e0:=iR h1;subst e0;obtain⟨v,rfl,k⟩:=c1.one;cases k with
   |tup n h c=>exact⟨_,ns,rfl,by rw[h,jL c],hn,λl hl=>q ρ1 _ _ (.lay hl) (j1.lay _ hl) (.lst (j1.fresh hl) upd_same (Cvs.ints _))⟩
  ·cases el
 ·cases el⟩
end
open PySem PySem.Spec L2
open PyProof.Rows hiding St
section
variable{X:Cx}{E:XK}
noncomputable def xu:List D->Mo->Option D
 |[d],M=>(aX d M).bind λl=>(fY l).map λbs=>.bl (bs.any id)
 |_,_=>none
theorem Cz(hh:X.A.handled=none):CallD X E (.builtin "any") (λl=>rd (xu l)):=CallD.of (Ew hh) λvs H Q ρ M ds d j c e q=>by
 unfold xu at e;split at e
 ·obtain⟨l,h1,e1⟩:=Ud.mp e;obtain⟨ns,h2,rfl⟩:=Tp.mp e1;obtain⟨v,rfl,k⟩:=c.one;replace c:=k;obtain⟨a,xs,rfl,ha,c⟩:=cM j c h1;obtain⟨t1,t2⟩:=wj c h2;subst t2;exact⟨_,xs,rfl,ha,t1,by have z:=q ρ H _ .refl j (.bl _);rw[List.any_map]at z;exact z⟩
 ·cases e
end
end L3
namespace N10
end N10
namespace K
open PySem L2 L3
theorem gC(l:List Str)(h:autoParam (l.Nodup) qAB):l.Nodup:=h
local macro_rules | `(tactic| trivial)=>`(tactic| refine⟨rfl,by decide +kernel,rfl,Pk ?_,λm_=>Nk rfl,by decide,rfl,K4 rfl,K6 ?_,Ni ?_⟩<;>((repeat' apply And.intro)<;>first | exact True.intro | rfl | exact Or.inl rfl | exact Or.inr rfl | exact⟨_,rfl⟩))
noncomputable def top(i:Nat):Stmt:=PySem.Challenge.pw_fadewalk_k33_rings_looked_at.main.body.getD i (.Pass ⟨0,0,0,0⟩)
noncomputable abbrev Qd(k:Nat)(N:List Str)(x:Str)(st:Stmt)(Y:Program->World->PySem.W.Frag->Mg->Heap->Prop->Prop):={b:ak->DM Fl // ∀{P w K mg base f cdv A outer s H E},Y P w K mg base (Rm k A x st s f cdv->Ds P w K mg base N x st f cdv A outer s H E b)}
noncomputable abbrev Qe(k:Nat)(N:List Str)(x:Str)(st:Stmt)(Y:(Nat->Str->List Str->Fn->Prop)->(Str->Prop)->Prop->Prop):=Qd k N x st λP w K m o=>Y (DefD P w K m o) (Nn m)
noncomputable abbrev Sc(N ps:List Str)(st:Stmt):=FnScope N ps (defScope st)
theorem cQ{N P:List Str}{sc:Scope}(a:sc.kind=.function:=by exact rfl)(b:sc.isCoroutine=false:=by exact rfl)(c:sc.isGenerator=false:=by exact rfl)(p:N.take P.length=P:=by exact rfl)(d:(decide N.Nodup&&(decide (∀x∈P,sc.names.lookup x=some .local\/sc.names.lookup x=some .cell)&&decide (∀y∈sc.names,y.2≠.free)))=true:=by decide +kernel):FnScope N P sc:=QG a b c p d
theorem uK{X:Cx}{E:XK}{scope:Scope}{cl:List (Str×Addr)}{elt i0:Expr}{p0 pos:Pos}{fi:ak->DM Itn}{fe:ak->DM D}(x:Str)(js:List Nat)(fr:List Str)(hi:DI X E (.Name x p0) i0 fi)
  (he:∀{Yk m fp C s₂ H₂},DE (X.aR Yk scope (cellsFrom m scope.names cl) ([x]++fr) fp C s₂ H₂) E0 elt fe) (T:CompG X scope cl [x] js fr:=by trivial) (hc:X.calm=true:=by exact rfl)
  (nd:autoParam (([x]++fr).Nodup) qAB) (hl:∀m C Z,(compEnvC scope (cellsFrom m scope.names cl) C Z).scope.names.lookup x=some .local:=by intros;exact rfl)
  (hs:∀y,foldedSetIterable i0 X.env y=pure y:=by intro _;rfl) :
  DE X E (.ListComp elt [⟨.Name x p0,i0,[],0⟩] scope pos) (λδ=>fi δ>>=λit=>dM (cB (gN 0) (λz=>pure true) (bA fe) it (aZ [x].length js δ) [])>>=λp=>Out.val.run p.2):=
 cH (own:=[x]) .val hc T hi (λz z z z z z=>aF (i:=0) nd rfl (Or.inl (hl ..)) (Or.inr (hl ..))) (λz z z z z z=>iu) (λz z z z z z=>he) hs
section
variable(N:Nat)(v0 v1 v2 v3 v4 v5 v6 v7 v8 v9 v10 v11 v12 v13 v14 v15 v16 v17 v18 v19:Fn)
noncomputable abbrev o4:Stmt:=top 5
theorem Al:Sc ["thing"] ["thing"] o4:=cQ
@[simp] noncomputable def uX:Qe 0 ["thing"] "is_whole" o4 λD n Z=>n "bool"->n "int"->n "isinstance"->Z:=
 ⟨_,λya yb yc hr=>(aA (aD (mU (aO bK yc (ao (aa 0) (ao (dY (T := "int") yb) aj))) (mV (yE (aO bK yc (ao (aa 0) (ao (dY (T := "bool") ya) aj))))))))⟩
noncomputable def jt:=(uX).1
noncomputable abbrev jh:Stmt:=top 8
theorem vU:Sc ["thing", "many"] ["thing", "many"] jh:=cQ
@[simp] noncomputable def pC:Qe 1 ["thing", "many"] "are_weights" jh fun D n Z=>D 1 "is_whole" ["thing"] v0->n "all"->n "isinstance"->n "len"->n "tuple"->Z:=
 ⟨_,fun ya yb yc yd ye hr=>(az (bB (DW.dt (cZ (bL (bw (aO bK yc (ao (aa 0) (ao (dY (T := "tuple") ye) aj))) (fun _=>rfl))) (dg (aP (cu hr.units) (aO call_lenD yd (ao (aa 0) aj)) (aa 1)))))
  (aA (aD bR))
  aW)
  (aA (aD (aO (fG hr.hd) yb (ao (uK "weight" [] [] (cL (aa 0)) (mU (aB ya hr jU (ao (aa 0) aj)) (mV (gH zB (aa 0) au)))) aj)))))⟩
noncomputable def pA:=(pC v0).1
noncomputable abbrev oY:Stmt:=top 9
theorem Aj:Sc ["thing", "many"] ["thing", "many"] oY:=cQ
@[simp] noncomputable def uV:Qe 2 ["thing", "many"] "are_rows" oY fun D n Z=>D 2 "are_weights" ["thing", "many"] v0->n "all"->n "isinstance"->n "len"->n "tuple"->Z:=
 ⟨_,fun ya yb yc yd ye hr=>(az (bB (DW.dt (cZ (bL (bw (aO bK yc (ao (aa 0) (ao (dY (T := "tuple") ye) aj))) (fun _=>rfl))) (dg (aP (cu hr.units) (aO call_lenD yd (ao (aa 0) aj)) (aa 1)))))
  (aA (aD bR))
  aW)
  (aA (aD (aO (fG hr.hd) yb (ao (uK "row" [1] ["many"] (cL (aa 0)) (aB ya hr jU (ao (aa 0) (ao (aa 1) aj)))) aj)))))⟩
noncomputable def uH:=(uV v0).1
noncomputable abbrev oZ:Stmt:=top 10
theorem Ak:Sc ["thing", "many"] ["thing", "many"] oZ:=cQ
@[simp] noncomputable def uW:Qe 1 ["thing", "many"] "is_place" oZ λD n Z=>D 1 "is_whole" ["thing"] v0->Z:=
 ⟨_,λya hr=>(aA (aD (mU (aB ya hr aV (ao (aa 0) aj)) (mV (Ig uT qg au (aa 0) (aa 1))))))⟩
noncomputable def jr:=(uW v0).1
noncomputable abbrev mJ:Stmt:=top 11
theorem zX:Sc ["things"] ["things"] mJ:=cQ
@[simp] noncomputable def sI:Qe 0 ["things"] "is_rising" mJ λD n Z=>n "all"->n "len"->n "range"->Z:=
 ⟨_,λya yb yc hr=>(aA (aD (aO (fG hr.hd) ya (ao (uK "at" [0] ["things"] (wI rfl yc (ao au (ao (aO call_lenD yb (ao (aa 0) aj)) aj))) (gH qg (aU bj (aa 1) (aG vN (aa 0) au)) (aU bj (aa 1) (aa 0)))) aj))))⟩
noncomputable def sy:=(sI).1
noncomputable abbrev fj:Stmt:=top 12
theorem o5:Sc ["thing", "many"] ["thing", "many"] fj:=cQ
@[simp] noncomputable def ig:Qe 2 ["thing", "many"] "are_rising_places" fj fun D n Z=>D 2 "is_place" ["thing", "many"] v0->D 1 "is_rising" ["things"] v1->n "all"->n "isinstance"->n "tuple"->Z:=
 ⟨_,fun ya yb yc yd ye hr=>(az (bB (DW.dt (cZ (bL (bw (aO bK yd (ao (aa 0) (ao (dY (T := "tuple") ye) aj))) (fun _=>rfl))) (dg (bL (bw (aO (fG hr.hd) yc (ao (uK "place" [1] ["many"] (cL (aa 0)) (aB ya hr jU (ao (aa 0) (ao (aa 1) aj)))) aj)) (fun _=>rfl))))))
  (aA (aD bR))
  aW)
  (aA (aD (aB yb hr aV (ao (aa 0) aj)))))⟩
noncomputable def eX:=(ig v0 v1).1
noncomputable abbrev um:Stmt:=top 13
theorem Hl:Sc ["thing", "many"] ["thing", "many"] um:=cQ
@[simp] noncomputable def zM:Qe 3 ["thing", "many"] "is_set" um λD n Z=>D 3 "are_rising_places" ["thing", "many"] v0->n "len"->Z:=
 ⟨_,λya yb hr=>(aA (aD (mU (aB ya hr aV (ao (aa 0) (ao (aa 1) aj))) (mV (gH jT (aO call_lenD yb (ao (aa 0) aj)) au)))))⟩
noncomputable def tE:=(zM v0).1
noncomputable abbrev ji:Stmt:=top 15
theorem vV:Sc ["walk"] ["walk"] ji:=cQ
@[simp] noncomputable def pD:Qd 0 ["walk"] "next_places" ji λP w K m o Z=>∀{C_Walk},OCls K m "Walk" C_Walk ["rows", "whole"]->Nn m "enumerate"->Nn m "tuple"->Z:=
 ⟨_,λya yb yc hr=>(aA (aD (cH (own:=["row"]) (js:=[]) (fr:=[]) .val rfl (by trivial) (cL (Fo ya (by decide) (aa 0))) (λz z z z z z=>(aF (i:=0) (gC ["row"]) rfl (Or.inl rfl))) (λz z z z z z=>iu) (λz z z z z z=>(iY (T := "tuple") cO yc (ao (cH (own:=["place", "weight"]) (js:=[]) (fr:=[]) .val rfl (by trivial) (Ax rfl yb (ao (aa 0) aj)) (λz z z z z z=>(mW (n:=2) rfl (cJ (aF (i:=0) (gC ["place", "weight"]) rfl (Or.inl rfl)) (cJ (aF (i:=1) (gC ["place", "weight"]) rfl (Or.inl rfl)) jB)))) (λz z z z z z=>(cY (aP jT (aa 1) au))) (λz z z z z z=>(aa 0))) aj))))))⟩
noncomputable def pB:=(pD).1
noncomputable abbrev fO:Stmt:=inClass (top 21) 1
theorem u9:Sc ["self"] ["self"] fO:=cQ
@[simp] noncomputable def nu:Qd 0 ["self"] "Walk.__len__" fO λP w K m o Z=>∀{C_Walk},OCls K m "Walk" C_Walk ["rows", "whole"]->Nn m "len"->Z:=
 ⟨_,λya yb hr=>(aA (aD (aO call_lenD yb (ao (Fo ya (by decide) (aa 0)) aj))))⟩
noncomputable def mQ:=(nu).1
noncomputable abbrev qp:Stmt:=top 17
theorem vf:Sc ["walk", "thing", "nexts", "at", "followings"] ["walk", "thing"] qp:=cQ
@[simp] noncomputable def qj:Qd 4 ["walk", "thing", "nexts", "at", "followings"] "is_ring" qp fun P w K m o Z=>DefD P w K m o 4 "is_set" ["thing", "many"] v0->DefD P w K m o 1 "next_places" ["walk"] v1->MethD P w K m o 1 "Walk" "__len__" "Walk.__len__" fO ["self"] v2->Nn m "all"->Nn m "isinstance"->Nn m "len"->Nn m "range"->Nn m "tuple"->Z:=
 ⟨_,fun ya yb yc yd ye yf yg yh hr=>have nd:=vf.nd;(az (bB (DW.dt (cZ (bL (bw (aO bK ye (ao (aa 1) (ao (dY (T := "tuple") yh) aj))) (fun _=>rfl))) (dg (bL (bw (aa 1) (fun _=>rfl))))))
  (aA (aD bR))
  aW)
  (az (bB (bL (bw (aO (fG hr.hd) yd (ao (uK "places" [0] ["walk"] (cL (aa 1)) (aB ya hr jU (ao (aa 0) (ao (aO (Ez yc hr jU (λz z z z z z us hl=>by obtain⟨_,rfl⟩:=IV hl;rfl)) yf (ao (aa 1) aj)) aj)))) aj)) (λz=>rfl)))
  (aA (aD bR))
  aW)
  (az (bf (i:=2) nd rfl (Or.inr rfl) (aB yb hr aV (ao (aa 0) aj)))
  (az (bY 0 Ut rfl (bD rfl yg (ao (aO call_lenD yf (ao (aa 1) aj)) aj)) (aF (i:=3) nd rfl (Or.inr rfl))
  (az (Il (i:=4) (own:=["place", "following"]) (js:=[2]) (fr:=["nexts"]) .val nd rfl (Or.inl rfl) rfl (by trivial) (cL (aU bj (aa 1) (aG vN (aa 3) au))) (λz z z z z z=>(aF (i:=0) (gC ["place", "following", "nexts"]) rfl (Or.inl rfl))) (λz z z z z z=>iu) (λz z z z z z=>(cL (aU bj (aa 2) (aa 0)))) (λz z z z z z=>(aF (i:=1) (gC ["place", "following", "nexts"]) rfl (Or.inl rfl))) (λz z z z z z=>iu) (λz z z z z z=>(aa 1)))
  (aA (bB (bL (bw (aO (fG hr.hd) yd (ao (uK "following" [1,3] ["thing", "at"] (jM (aa 4)) (gH qe (aa 0) (aU bj (aa 1) (aa 2)))) aj)) (λz=>rfl)))
  (aA (aD bR))
  aW))))
  (aA (aD bR))))))⟩
noncomputable def wD:=(qj v0 v1 v2).1
noncomputable abbrev mH:Stmt:=top 18
theorem qD:Sc ["walk", "thing", "one", "other"] ["walk", "thing"] mH:=cQ
@[simp] noncomputable def lZ:Qe 5 ["walk", "thing", "one", "other"] "are_rings" mH fun D n Z=>D 5 "is_ring" ["walk", "thing"] v0->n "any"->n "isinstance"->n "len"->n "tuple"->n "zip"->Z:=
 ⟨_,fun ya yb yc yd ye yf hr=>have nd:=qD.nd;(az (bB (DW.dt (cZ (bL (bw (aO bK yc (ao (aa 1) (ao (dY (T := "tuple") ye) aj))) (fun _=>rfl))) (dg (aP (cu hr.units) (aO call_lenD yd (ao (aa 1) aj)) au))))
  (aA (aD bR))
  aW)
  (az (pQ (aa 1) (mW (n:=2) rfl (cJ (aF (i:=2) nd rfl (Or.inl rfl)) (cJ (aF (i:=3) nd rfl (Or.inl rfl)) jB))))
  (az (bB (DW.dt (cZ (bL (bw (aB ya hr aV (ao (aa 0) (ao (aa 2) aj))) (λz=>rfl))) (cZ (bL (bw (aB ya hr aV (ao (aa 0) (ao (aa 3) aj))) (λz=>rfl))) (dg (aP (cu hr.units) (aO call_lenD yd (ao (aa 2) aj)) (aO call_lenD yd (ao (aa 3) aj)))))))
  (aA (aD bR))
  aW)
  (aA (aD (yE (aO (Cz hr.hd) yb (ao (Ih (own:=["places", "others", "place"]) (js:=[]) (fr:=[]) .val rfl (by trivial) (Fx rfl yf (ao (aa 2) (ao (aa 3) aj))) (λz z z z z z=>(mW (n:=2) rfl (cJ (aF (i:=0) (gC ["places", "others", "place"]) rfl (Or.inl rfl)) (cJ (aF (i:=1) (gC ["places", "others", "place"]) rfl (Or.inl rfl)) jB)))) (λz z z z z z=>iu) (λz z z z z z=>(cL (aa 1))) (λz z z z z z=>(aF (i:=2) (gC ["places", "others", "place"]) rfl (Or.inl rfl))) (λz z z z z z=>iu) (λz z z z z z=>(gH qe (aa 2) (aa 0)))) aj))))))))⟩
noncomputable def rZ:=(lZ v0).1
noncomputable abbrev gU:Stmt:=top 20
theorem kj:Sc ["thing", "whole"] ["thing"] gU:=cQ
@[simp] noncomputable def lK:Qd 3 ["thing", "whole"] "can_be_walked" gU fun P w K m o Z=>∀{t_MOST_PLACES},DefD P w K m o 3 "are_rows" ["thing", "many"] v0->Gi m "MOST_PLACES" 25 t_MOST_PLACES->Nn m "all"->Nn m "isinstance"->Nn m "len"->Nn m "sum"->Nn m "tuple"->Z:=
 ⟨_,fun ya yb yc yd ye yf yg hr=>have nd:=kj.nd;(az (bB (DW.dt (cZ (bL (bw (aO bK yd (ao (aa 0) (ao (dY (T := "tuple") yg) aj))) (fun _=>rfl))) (cZ (bL (yH uT uT au (aO call_lenD ye (ao (aa 0) aj)) (Qg yb))) (dg (bL (bw (aB ya hr aV (ao (aa 0) (ao (aO call_lenD ye (ao (aa 0) aj)) aj))) (fun _=>rfl)))))))
  (aA (aD bR))
  aW)
  (az (bf (i:=1) nd rfl (Or.inr rfl) (aO (pP hr.hd) yf (ao (aU bj (aa 0) au) aj)))
  (aA (aD (mU (gH zB (aa 1) au) (mV (aO (fG hr.hd) yc (ao (uK "row" [1] ["whole"] (cL (aa 0)) (gH (cR hr.units) (aO (pP hr.hd) yf (ao (aa 0) aj)) (aa 1))) aj))))))))⟩
noncomputable def kZ:=(lK v0).1
noncomputable abbrev gQ:Stmt:=inClass (top 21) 0
theorem uo:Sc ["self", "rows"] ["self", "rows"] gQ:=cQ
@[simp] noncomputable def lJ:Qd 4 ["self", "rows"] "Walk.__init__" gQ fun P w K m o Z=>∀{C_Walk},DefD P w K m o 4 "can_be_walked" ["thing"] v0->OCls K m "Walk" C_Walk ["rows", "whole"]->Nn m "sum"->Z:=
 ⟨_,fun ya yb yc hr=>(az (bB (bL (bw (aB ya hr aV (ao (aa 1) aj)) (fun _=>rfl)))
  (aA Im)
  aW)
  (az (FJ yb (by decide) (aa 0) (aa 1))
  (aA (FJ yb (by decide) (aa 0) (aO (pP hr.hd) yc (ao (aU bj (aa 1) au) aj))))))⟩
noncomputable def kW:=(lJ v0).1
noncomputable abbrev iD:Stmt:=top 23
theorem vd:Sc ["_law_script", "_law_k"] ["_law_script", "_law_k"] iD:=cQ
@[simp] noncomputable def nA:Qe 0 ["_law_script", "_law_k"] "_law_cell_at" iD fun D n Z=>n "len"->Z:=
 ⟨_,fun ya hr=>(az (bB (aP qg (aa 1) (aO call_lenD ya (ao (aa 0) aj)))
  (aA (aD (aU bj (aa 0) (aa 1))))
  aW)
  (aA (aD au)))⟩
noncomputable def ik:=(nA).1
noncomputable abbrev mq:Stmt:=top 24
theorem qw:Sc ["_law_seed"] ["_law_seed"] mq:=cQ
@[simp] noncomputable def sH:Qe 0 ["_law_seed"] "_law_next" mq fun _ _ Z=>Z:=
 ⟨_,fun  hr=>have nd:=qw.nd;(az (bf (i:=0) nd rfl (Or.inl rfl) (aG eU (aG aY (aa 0) au) au))
  (aA (aD (aG eU (aG aY (aG aY (aG m9 (aa 0) (aa 0)) (aG m9 au (aa 0))) au) au))))⟩
noncomputable def rQ:=(sH).1
noncomputable abbrev jg:Stmt:=top 25
theorem nQ:Sc ["_law_cell", "_law_left"] ["_law_cell"] jg:=cQ
@[simp] noncomputable def je:Qe 0 ["_law_cell", "_law_left"] "_law_pen_of" jg fun D n Z=>n "int"->n "max"->Z:=
 ⟨_,fun ya yb hr=>have nd:=nQ.nd;(az (bf (i:=1) nd rfl (Or.inl rfl) (aO (CJ rfl) yb (ao (aa 0) (ao (aG vN au (aa 0)) aj))))
  (aA (aD (qN (ao (aa 1) (ao (iY (T := "int") uI ya (ao (gH zB (aa 1) (aG Bu au au)) aj)) (ao (aG eU (aa 1) au) aj)))))))⟩
noncomputable def ph:=(je).1
noncomputable abbrev mj:Stmt:=top 26
theorem qu:Sc ["_law_pen", "_law_many", "_law_found"] ["_law_pen", "_law_many"] mj:=cQ
@[simp] noncomputable def lU:Qe 1 ["_law_pen", "_law_many", "_law_found"] "_law_draw" mj fun D n Z=>D 1 "_law_next" ["_law_seed"] v0->Z:=
 ⟨_,fun ya hr=>have nd:=qu.nd;(az (bB (DW.dt (yI (aP (cR hr.units) (aU bj (aa 0) au) au) (vA (aP jT (aU bj (aa 0) au) au))))
  (az (bf (i:=2) nd rfl (Or.inl rfl) (aG eU (aU bj (aa 0) au) (aa 1)))
  (az (pQ (aG oG (aU bj (aa 0) au) (aa 1)) (yG (aa 0) au xH))
  (aA (aD (aa 2)))))
  aW)
  (az (pQ (aB ya hr aV (ao (aG aY (aB ya hr aV (ao (aU bj (aa 0) au) aj)) au) aj)) (yG (aa 0) au xH))
  (aA (aD (aG eU (aG oG (aU bj (aa 0) au) au) (aa 1))))))⟩
noncomputable def rP:=(lU v0).1
noncomputable abbrev my:Stmt:=top 27
theorem qx:Sc ["_law_pen", "_law_most", "_law_many", "_law_whole_here", "_law_way", "_law_rows_here", "_law_x", "_law_some_here", "_law_row", "_law_ball"] ["_law_pen", "_law_most"] my:=cQ
@[simp] noncomputable def lV:Qe 2 ["_law_pen", "_law_most", "_law_many", "_law_whole_here", "_law_way", "_law_rows_here", "_law_x", "_law_some_here", "_law_row", "_law_ball"] "_law_rows" my fun D n Z=>D 2 "_law_draw" ["_law_pen", "_law_many"] v0->n "int"->n "len"->n "list"->n "range"->n "tuple"->Z:=
 ⟨_,fun ya yb yc yd ye yf hr=>have nd:=qx.nd;(az (Km (i:=2) (j:=3) (k:=4) rfl nd rfl rfl rfl (by decide) (by decide) (by decide) rfl rfl rfl (ao (aG aY au (aB ya hr aV (ao (aa 0) (ao (aa 1) aj)))) (ao (aU bj (bF (ao au (ao au (ao au (ao au (ao au (ao au aj))))))) (aB ya hr aV (ao (aa 0) (ao au aj)))) (ao (aB ya hr aV (ao (aa 0) (ao au aj))) aj))) rfl)
  (az (bf (i:=5) nd rfl (Or.inl rfl) (qN aj))
  (az (bY 0 Ut rfl (bD rfl ye (ao (aa 2) aj)) (aF (i:=6) nd rfl (Or.inr rfl))
  (az (bf (i:=7) nd rfl (Or.inl rfl) (wH rfl yd ye (ao (aa 2) aj)))
  (az (bB (aP (cR hr.units) (aa 4) au)
  (aA (bf (i:=7) nd rfl (Or.inl rfl) (bF (ao (aB ya hr aV (ao (aa 0) (ao (aa 2) aj))) (ao (aB ya hr aV (ao (aa 0) (ao (aa 2) aj))) aj)))))
  aW)
  (az (bB (aP (cR hr.units) (aa 4) au)
  (aA (bf (i:=7) nd rfl (Or.inl rfl) (bF (ao (aG eU (aG aY (aa 6) au) (aa 2)) aj))))
  aW)
  (az (bB (aP (cR hr.units) (aa 4) au)
  (aA (bf (i:=7) nd rfl (Or.inl rfl) (aG aY (cH (own:=["_law_y"]) (js:=[6]) (fr:=["_law_x"]) .val rfl (by trivial) (bD rfl ye (ao (aa 2) aj)) (λz z z z z z=>(aF (i:=0) (gC ["_law_y", "_law_x"]) rfl (Or.inl rfl))) (λz z z z z z=>(cY (aP (cu hr.units) (aG eU (aa 0) au) (aG eU (aa 1) au)))) (λz z z z z z=>(aa 0))) (aG La (bF (ao (aa 6) aj)) (iY (T := "int") uI yb (ao (gH (cR hr.units) (aa 2) au) aj))))))
  aW)
  (az (bB (aP (cR hr.units) (aa 4) au)
  (aA (tL (i:=7) (own:=["_law_y"]) (js:=[6]) (fr:=["_law_x"]) .val nd rfl (Or.inl rfl) rfl (by trivial) (bD rfl ye (ao (aa 2) aj)) (λz z z z z z=>(aF (i:=0) (gC ["_law_y", "_law_x"]) rfl (Or.inl rfl))) (λz z z z z z=>(cY (aP (cR hr.units) (aG oG (aa 0) au) (aG oG (aa 1) au)))) (λz z z z z z=>(aa 0))))
  aW)
  (az (bB (aP (cR hr.units) (aa 4) au)
  (aA (bf (i:=7) nd rfl (Or.inl rfl) (wH rfl yd ye (ao (aG aY (aa 6) au) aj))))
  aW)
  (az (bf (i:=8) nd rfl (Or.inl rfl) (aG Lb (bF (ao au aj)) (aa 2)))
  (az (bY 0 Ut rfl (bD rfl ye (ao (aa 3) aj)) (aF (i:=9) nd rfl (Or.inl rfl))
  (aA (Kl (aa 8) (aU bj (aa 7) (aB ya hr aV (ao (aa 0) (ao (aO call_lenD yc (ao (aa 7) aj)) aj)))) Jf au)))
  (aA (vz (CV Xq Xl Xm vH (aa 5) (ao (iY (T := "tuple") cO yf (ao (aa 8) aj)) aj)))))))))))))
  (aA (aD (iY (T := "tuple") cO yf (ao (aa 5) aj)))))))⟩
noncomputable def rR:=(lV v0).1
noncomputable abbrev oW:Stmt:=top 28
theorem sJ:Sc ["_law_rows_here", "_law_many", "_law_found", "_law_middle", "_law_x"] ["_law_rows_here"] oW:=cQ
@[simp] noncomputable def oJ:Qe 0 ["_law_rows_here", "_law_many", "_law_found", "_law_middle", "_law_x"] "_law_led" oW fun D n Z=>n "len"->n "range"->n "set"->n "sorted"->n "tuple"->Z:=
 ⟨_,fun ya yb yc yd ye hr=>have nd:=sJ.nd;(az (bf (i:=1) nd rfl (Or.inr rfl) (aO call_lenD ya (ao (aa 0) aj)))
  (az (tL (i:=2) (own:=["_law_x"]) (js:=[1,0]) (fr:=["_law_many", "_law_rows_here"]) .sto nd rfl (Or.inl rfl) rfl (by trivial) (bD rfl yb (ao (aa 1) aj)) (λz z z z z z=>(aF (i:=0) (gC ["_law_x", "_law_many", "_law_rows_here"]) rfl (Or.inr rfl))) (λz z z z z z=>iu) (λz z z z z z=>(Aw rfl yd yc (ao (aG aY (bF (ao (aa 0) aj)) (cH (own:=["_law_y"]) (js:=[2,0]) (fr:=["_law_rows_here", "_law_x"]) .val rfl (by trivial) (bD rfl yb (ao (aa 1) aj)) (λz z z z z z=>(aF (i:=0) (gC ["_law_y", "_law_rows_here", "_law_x"]) rfl (Or.inl rfl))) (λz z z z z z=>(cY (aP jT (aU bj (aU bj (aa 1) (aa 2)) (aa 0)) au))) (λz z z z z z=>(aa 0)))) aj))))
  (az (bY 0 Ut rfl (bD rfl yb (ao (aa 1) aj)) (aF (i:=3) nd rfl (Or.inl rfl))
  (aA (bY 0 Ut rfl (bD rfl yb (ao (aa 1) aj)) (aF (i:=4) nd rfl (Or.inl rfl))
  (aA (bB (aP qe (aa 3) (aU bj (aa 2) (aa 4)))
  (aA (pQ (Aw rfl yd yc (ao (aG aY (aU bj (aa 2) (aa 4)) (aU bj (aa 2) (aa 3))) aj)) (yG (aa 2) (aa 4) xH)))
  aW)))))
  (aA (aD (iY (T := "tuple") cO ye (ao (uK "_law_some_here" [] [] (jM (aa 2)) (iY (T := "tuple") cO ye (ao (aa 0) aj))) aj)))))))⟩
noncomputable def uF:=(oJ).1
noncomputable abbrev mC:Stmt:=top 29
theorem qy:Sc ["_law_rows_here", "_law_led_here", "_law_found"] ["_law_rows_here"] mC:=cQ
@[simp] noncomputable def lW:Qe 1 ["_law_rows_here", "_law_led_here", "_law_found"] "_law_shut" mC fun D n Z=>D 1 "_law_led" ["_law_rows_here"] v0->n "set"->n "sorted"->n "tuple"->Z:=
 ⟨_,fun ya yb yc yd hr=>have nd:=qy.nd;(az (bf (i:=1) nd rfl (Or.inr rfl) (aB ya hr aV (ao (aa 0) aj)))
  (az (tL (i:=2) (own:=["_law_some_here"]) (js:=[1]) (fr:=["_law_led_here"]) .val nd rfl (Or.inl rfl) rfl (by trivial) (cL (aa 1)) (λz z z z z z=>(aF (i:=0) (gC ["_law_some_here", "_law_led_here"]) rfl (Or.inr rfl))) (λz z z z z z=>(cY (aP (cR hr.units) (cH (own:=["_law_y"]) (js:=[1,0]) (fr:=["_law_led_here", "_law_some_here"]) .val rfl (by trivial) (cL (aa 0)) (λz z z z z z=>(aF (i:=0) (gC ["_law_y", "_law_led_here", "_law_some_here"]) rfl (Or.inl rfl))) (λz z z z z z=>(cY (aP (cu hr.units) (aU bj (aa 1) (aa 0)) (aa 2)))) (λz z z z z z=>(aa 0))) (bF aj)))) (λz z z z z z=>(aa 0)))
  (aA (aD (iY (T := "tuple") cO yd (ao (Ij rfl hr.units yc yb (ao (aa 2) aj)) aj))))))⟩
noncomputable def rT:=(lW v0).1
noncomputable abbrev jf:Stmt:=top 30
theorem nP:Sc ["_law_one", "_law_other"] ["_law_one", "_law_other"] jf:=cQ
@[simp] noncomputable def jc:Qe 0 ["_law_one", "_law_other"] "_law_common" jf fun _ _ Z=>Z:=
 ⟨_,fun  hr=>have nd:=nP.nd;(az (Io N PassesOwn.leaving (aP jT (aa 1) au) (aA (pR (i:=0) (j:=1) rfl nd rfl rfl (by decide) rfl rfl (ao (aa 1) (ao (aG eU (aa 0) (aa 1)) aj)) rfl)))
  (aA (aD (aa 0))))⟩
noncomputable def f9(N:Nat):=(jc N).1
noncomputable abbrev fU:Stmt:=top 31
theorem iT:Sc ["_law_numbers", "_law_found", "_law_number"] ["_law_numbers"] fU:=cQ
@[simp] noncomputable def fQ:Qe 1 ["_law_numbers", "_law_found", "_law_number"] "_law_all_common" fU fun D n Z=>D 1 "_law_common" ["_law_one", "_law_other"] v0->Z:=
 ⟨_,fun ya hr=>have nd:=iT.nd;(az (bf (i:=1) nd rfl (Or.inl rfl) au)
  (az (bY 0 Ut rfl (jM (aa 0)) (aF (i:=2) nd rfl (Or.inl rfl))
  (aA (bf (i:=1) nd rfl (Or.inl rfl) (aB ya hr aV (ao (aa 1) (ao (aa 2) aj))))))
  (aA (aD (aa 1)))))⟩
noncomputable def jm:=(fQ v0).1
noncomputable abbrev jZ:Stmt:=top 32
theorem pF:Sc ["_law_rows_here", "_law_start", "_law_many", "_law_found", "_law_turn_here"] ["_law_rows_here", "_law_start", "_law_many"] jZ:=cQ
@[simp] noncomputable def jW:Qe 0 ["_law_rows_here", "_law_start", "_law_many", "_law_found", "_law_turn_here"] "_law_lands" jZ fun D n Z=>n "len"->n "range"->Z:=
 ⟨_,fun ya yb hr=>have nd:=pF.nd;(az (bf (i:=3) nd rfl (Or.inr rfl) (qN (ao (bF (ao (aa 1) aj)) aj)))
  (az (bY 0 Ut rfl (bD rfl yb (ao (aa 2) aj)) (aF (i:=4) nd rfl (Or.inl rfl))
  (aA (vz (CV Xq Xl Xm vH (aa 3) (ao (cH (own:=["_law_y"]) (js:=[3,0]) (fr:=["_law_found", "_law_rows_here"]) .val rfl (by trivial) (bD rfl yb (ao (aO call_lenD ya (ao (aa 0) aj)) aj)) (λz z z z z z=>(aF (i:=0) (gC ["_law_y", "_law_found", "_law_rows_here"]) rfl (Or.inr rfl))) (λz z z z z z=>(cY (aP (cu hr.units) (cH (own:=["_law_x"]) (js:=[2,0]) (fr:=["_law_rows_here", "_law_y"]) .val rfl (by trivial) (jM (aU bj (aa 1) (yD au))) (λz z z z z z=>(aF (i:=0) (gC ["_law_x", "_law_rows_here", "_law_y"]) rfl (Or.inl rfl))) (λz z z z z z=>(cY (aP jT (aU bj (aU bj (aa 1) (aa 0)) (aa 2)) au))) (λz z z z z z=>(aa 0))) (bF aj)))) (λz z z z z z=>(aa 0))) aj)))))
  (aA (aD (aa 3)))))⟩
noncomputable def pN:=(jW).1
noncomputable abbrev mF:Stmt:=top 33
theorem qC:Sc ["_law_rows_here", "_law_shut_here", "_law_lands_here"] ["_law_rows_here", "_law_shut_here"] mF:=cQ
@[simp] noncomputable def lY:Qe 2 ["_law_rows_here", "_law_shut_here", "_law_lands_here"] "_law_turn" mF fun D n Z=>D 1 "_law_lands" ["_law_rows_here", "_law_start", "_law_many"] v0->D 2 "_law_all_common" ["_law_numbers"] v1->n "len"->n "range"->Z:=
 ⟨_,fun ya yb yc yd hr=>have nd:=qC.nd;(az (bf (i:=2) nd rfl (Or.inr rfl) (aB ya hr aV (ao (aa 0) (ao (aU bj (aa 1) au) (ao (aG m9 au (aO call_lenD yc (ao (aa 0) aj))) aj)))))
  (aA (aD (aB yb hr aV (ao (cH (own:=["_law_steps"]) (js:=[1,2]) (fr:=["_law_shut_here", "_law_lands_here"]) .val rfl (by trivial) (wI rfl yd (ao au (ao (aO call_lenD yc (ao (aa 2) aj)) aj))) (λz z z z z z=>(aF (i:=0) (gC ["_law_steps", "_law_shut_here", "_law_lands_here"]) rfl (Or.inl rfl))) (λz z z z z z=>(cY (aP qe (aU bj (aa 1) au) (aU bj (aa 2) (aa 0))))) (λz z z z z z=>(aa 0))) aj)))))⟩
noncomputable def rY:=(lY v0 v1).1
noncomputable abbrev j0:Stmt:=top 34
theorem pG:Sc ["_law_rows_here", "_law_shut_here", "_law_turn_here", "_law_lands_here", "_law_found", "_law_side", "_law_some_here", "_law_steps"] ["_law_rows_here", "_law_shut_here"] j0:=cQ
@[simp] noncomputable def jX:Qe 3 ["_law_rows_here", "_law_shut_here", "_law_turn_here", "_law_lands_here", "_law_found", "_law_side", "_law_some_here", "_law_steps"] "_law_sides" j0 fun D n Z=>D 1 "_law_lands" ["_law_rows_here", "_law_start", "_law_many"] v0->D 3 "_law_turn" ["_law_rows_here", "_law_shut_here"] v1->n "len"->n "range"->n "set"->n "sorted"->n "tuple"->Z:=
 ⟨_,fun ya yb yc yd ye yf yg hr=>have nd:=pG.nd;(az (pR (i:=2) (j:=3) rfl nd rfl rfl (by decide) rfl rfl (ao (aB yb hr aV (ao (aa 0) (ao (aa 1) aj))) (ao (aB ya hr aV (ao (aa 0) (ao (aU bj (aa 1) au) (ao (aG aY (aG m9 (aG m9 au (aO call_lenD yc (ao (aa 0) aj))) (aO call_lenD yc (ao (aa 0) aj))) au) aj)))) aj)) rfl)
  (az (bf (i:=4) nd rfl (Or.inl rfl) (qN aj))
  (az (bY 0 Ut rfl (bD rfl yd (ao (aa 2) aj)) (aF (i:=5) nd rfl (Or.inl rfl))
  (az (bf (i:=6) nd rfl (Or.inl rfl) (bF aj))
  (az (bY 0 Ut rfl (Fw rfl yd (ao (aa 5) (ao (aO call_lenD yc (ao (aa 3) aj)) (ao (aa 2) aj)))) (aF (i:=7) nd rfl (Or.inl rfl))
  (aA (bf (i:=6) nd rfl (Or.inl rfl) (aG aY (aa 6) (aU bj (aa 3) (aa 7))))))
  (aA (vz (CV Xq Xl Xm vH (aa 4) (ao (iY (T := "tuple") cO yg (ao (Ii rfl yf ye (ao (aa 6) aj)) aj)) aj)))))))
  (aA (aD (iY (T := "tuple") cO yg (ao (aa 4) aj)))))))⟩
noncomputable def pO:=(jX v0 v1).1
noncomputable abbrev oX:Stmt:=top 35
theorem sO:Sc ["_law_pen", "_law_some_here"] ["_law_pen"] oX:=cQ
@[simp] noncomputable def oK:Qe 2 ["_law_pen", "_law_some_here"] "_law_odd" oX fun D n Z=>D 2 "_law_draw" ["_law_pen", "_law_many"] v0->Z:=
 ⟨_,fun ya hr=>have nd:=sO.nd;(az (bf (i:=1) nd rfl (Or.inl rfl) (bF (ao Fp (ao bR (ao bR (ao (yD au) (ao au (ao (aG Bu au au) (ao yF (ao yF (ao (bh aj) (ao (bF aj) (ao Ke (ao (bh (ao (bh aj) aj)) (ao (bh (ao au aj)) (ao (bF (ao au aj)) (ao (bh (ao au (ao au aj))) (ao yF (ao Kf aj)))))))))))))))))))
  (aA (aD (aU bj (aa 1) (aB ya hr aV (ao (aa 0) (ao au aj)))))))⟩
noncomputable def uG:=(oK v0).1
noncomputable abbrev iH:Stmt:=top 36
theorem kh:Sc ["_law_pen", "_law_thing", "_law_way", "_law_at"] ["_law_pen", "_law_thing"] iH:=cQ
@[simp] noncomputable def lQ(v0 v1 v2:Fn):{b // ∀{P w K mg base f cdv A outer s H E k_} (hk_:3≤k_) (ya:DefD P w K mg base 2 "_law_draw" ["_law_pen", "_law_many"] v0) (yb:DefD P w K mg base 3 "_law_odd" ["_law_pen"] v1) (yc:DefD P w K mg base k_ "_law_bent" ["_law_pen", "_law_thing"] v2) (yd:Nn mg "int") (ye:Nn mg "isinstance") (yf:Nn mg "len") (yg:Nn mg "list") (yh:Nn mg "tuple") (hq_:Rm k_ A "_law_bent" iH s f cdv),Ds P w K mg base ["_law_pen", "_law_thing", "_law_way", "_law_at"] "_law_bent" iH f cdv A outer s H E b}:=
 ⟨_,fun hk_ ya yb yc yd ye yf yg yh hq_=>have hr:=hq_.mono hk_;have nd:=kh.nd;(az (bf (i:=2) nd rfl (Or.inl rfl) (aB ya hr aV (ao (aa 0) (ao au aj))))
  (az (bB (bL (bw (aO bK ye (ao (aa 1) (ao (dY (T := "tuple") yh) aj))) (λz=>rfl)))
  (az (bB (DW.dt (yI (bw (aO bK ye (ao (aa 1) (ao (dY (T := "int") yd) aj))) (λz=>rfl)) (vA (aP qg (aa 2) au))))
  (aA (aD (aU bj (bF (ao (aG Bt (aa 1) au) (ao (aG Bw (aa 1) au) (ao (aG Bw au (aa 1)) (ao bR (ao (aG Bt (aa 1) au) aj)))))) (aa 2))))
  aW)
  (aA (aD (aB yb hr aV (ao (aa 0) aj)))))
  aW)
  (az (bB (DW.dt (cZ (aP (vL hr.units) (aa 1) (bh aj)) (dg (aP (cR hr.units) (aa 2) au))))
  (aA (aD (aU bj (bF (ao (iY (T := "list") uJ yg (ao (aa 1) aj)) (ao (aG aY (aa 1) (bh (ao (aB yb hr aV (ao (aa 0) aj)) aj))) (ao (aB yb hr aV (ao (aa 0) aj)) (ao (MP (aa 1)) (ao (cI (aa 1) (cj au) dI) aj)))))) (aB ya hr aV (ao (aa 0) (ao au aj))))))
  aW)
  (az (bf (i:=3) nd rfl (Or.inl rfl) (aB ya hr aV (ao (aa 0) (ao (aO call_lenD yf (ao (aa 1) aj)) aj))))
  (az (bB (aP (cR hr.units) (aa 2) au)
  (aA (aD (aG aY (cI (aa 1) dI (cj (aa 3))) (cI (aa 1) (cj (aG aY (aa 3) au)) dI))))
  aW)
  (az (bB (aP (cR hr.units) (aa 2) au)
  (aA (aD (aG aY (aG aY (cI (aa 1) dI (cj (aa 3))) (cI (aa 1) (cj (aa 3)) (cj (aG aY (aa 3) au)))) (cI (aa 1) (cj (aa 3)) dI))))
  aW)
  (aA (aD (aG aY (aG aY (cI (aa 1) dI (cj (aa 3))) (bh (ao (aB yc hq_ aV (ao (aa 0) (ao (aU bj (aa 1) (aa 3)) aj)) (Tq _)) aj))) (cI (aa 1) (cj (aG aY (aa 3) au)) dI))))))))))⟩
noncomputable def rO:=(lQ v0 v1 v2).1
noncomputable abbrev j8:Stmt:=top 37
theorem xm:Sc ["_law_thing"] ["_law_thing"] j8:=cQ
@[simp] noncomputable def qi:Qe 0 ["_law_thing"] "_law_whole" j8 λD n Z=>n "bool"->n "int"->n "isinstance"->Z:=
 ⟨_,λya yb yc hr=>(aA (aD (mU (aO bK yc (ao (aa 0) (ao (dY (T := "int") yb) aj))) (mV (yE (aO bK yc (ao (aa 0) (ao (dY (T := "bool") ya) aj))))))))⟩
noncomputable def jJ:=(qi).1
noncomputable abbrev gR:Stmt:=top 38
theorem j9:Sc ["_law_rows_here", "_law_thing", "_law_some_here"] ["_law_rows_here", "_law_thing"] gR:=cQ
@[simp] noncomputable def gO:Qe 1 ["_law_rows_here", "_law_thing", "_law_some_here"] "_law_are_sets" gR fun D n Z=>D 1 "_law_whole" ["_law_thing"] v0->n "isinstance"->n "len"->n "list"->n "set"->n "sorted"->n "tuple"->Z:=
 ⟨_,fun ya yb yc yd ye yf yg hr=>have nd:=j9.nd;(az (bB (DW.dt (cZ (bL (bw (aO bK yb (ao (aa 1) (ao (dY (T := "tuple") yg) aj))) (fun _=>rfl))) (dg (aP (vL hr.units) (aa 1) (bh aj)))))
  (aA (aD bR))
  aW)
  (az (bY 0 Ut rfl (cL (aa 1)) (aF (i:=2) nd rfl (Or.inl rfl))
  (az (bB (DW.dt (cZ (bL (bw (aO bK yb (ao (aa 2) (ao (dY (T := "tuple") yg) aj))) (λz=>rfl))) (dg (aP (vL hr.units) (aa 2) (bh aj)))))
  (aA (aD bR))
  aW)
  (az (bB (aP (cu hr.units) (cH (own:=["_law_one"]) (js:=[0]) (fr:=["_law_rows_here"]) .val rfl (by trivial) (cL (aa 2)) (λz z z z z z=>(aF (i:=0) (gC ["_law_one", "_law_rows_here"]) rfl (Or.inl rfl))) (λz z z z z z=>(cY (DW.dt (cZ (bL (bw (aB ya hr jU (ao (aa 0) aj)) (λz=>rfl))) (dg (bL (yH uT qg au (aa 0) (aO call_lenD yc (ao (aa 1) aj))))))))) (λz z z z z z=>au)) (bF aj))
  (aA (aD bR))
  aW)
  (aA (bB (aP (cu hr.units) (iY (T := "list") uJ yd (ao (aa 2) aj)) (Ft rfl yf ye (ao (aa 2) aj)))
  (aA (aD bR))
  aW)))))
  (aA (aD bR))))⟩
noncomputable def kY:=(gO v0).1
noncomputable abbrev gA:Stmt:=top 39
theorem jo:Sc ["_law_rows_here", "_law_thing", "_law_mine", "_law_yours", "_law_ring", "_law_at", "_law_some_here", "_law_later", "_law_x"] ["_law_rows_here", "_law_thing"] gA:=cQ
@[simp] noncomputable def gq:Qe 2 ["_law_rows_here", "_law_thing", "_law_mine", "_law_yours", "_law_ring", "_law_at", "_law_some_here", "_law_later", "_law_x"] "_law_are_rings" gA fun D n Z=>D 2 "_law_are_sets" ["_law_rows_here", "_law_thing"] v0->n "enumerate"->n "isinstance"->n "len"->n "range"->n "tuple"->n "zip"->Z:=
 ⟨_,fun ya yb yc yd ye yf yg hr=>have nd:=jo.nd;(az (bB (DW.dt (cZ (bL (bw (aO bK yc (ao (aa 1) (ao (dY (T := "tuple") yf) aj))) (fun _=>rfl))) (dg (aP (cu hr.units) (aO call_lenD yd (ao (aa 1) aj)) au))))
  (aA (aD bR))
  aW)
  (az (bB (DW.dt (cZ (bL (bw (aB ya hr aV (ao (aa 0) (ao (aU bj (aa 1) au) aj))) (λz=>rfl))) (cZ (bL (bw (aB ya hr aV (ao (aa 0) (ao (aU bj (aa 1) au) aj))) (λz=>rfl))) (dg (aP (cu hr.units) (aO call_lenD yd (ao (aU bj (aa 1) au) aj)) (aO call_lenD yd (ao (aU bj (aa 1) au) aj)))))))
  (aA (aD bR))
  aW)
  (az (bY 0 Ut rfl (Fx rfl yg (ao (aU bj (aa 1) au) (ao (aU bj (aa 1) au) aj))) (mW (n:=2) rfl (cJ (aF (i:=2) nd rfl (Or.inl rfl)) (cJ (aF (i:=3) nd rfl (Or.inr rfl)) jB)))
  (aA (bB (aP (cu hr.units) (cH (own:=["_law_place"]) (js:=[3]) (fr:=["_law_yours"]) .val rfl (by trivial) (cL (aa 2)) (λz z z z z z=>(aF (i:=0) (gC ["_law_place", "_law_yours"]) rfl (Or.inl rfl))) (λz z z z z z=>(cY (aP qe (aa 0) (aa 1)))) (λz z z z z z=>(aa 0))) (bF aj))
  (aA (aD bR))
  aW)))
  (az (bY 0 Ut rfl (cL (aa 1)) (aF (i:=4) nd rfl (Or.inl rfl))
  (aA (bY 0 Ut rfl (Ax rfl yb (ao (aa 4) aj)) (mW (n:=2) rfl (cJ (aF (i:=5) nd rfl (Or.inl rfl)) (cJ (aF (i:=6) nd rfl (Or.inl rfl)) jB)))
  (az (bf (i:=7) nd rfl (Or.inr rfl) (aU bj (aa 4) (aG eU (aG aY (aa 5) au) (aO call_lenD yd (ao (aa 4) aj)))))
  (aA (bY 0 Ut rfl (cL (aa 6)) (aF (i:=8) nd rfl (Or.inr rfl))
  (aA (bB (aP (cu hr.units) (cH (own:=["_law_y"]) (js:=[0,8,7]) (fr:=["_law_rows_here", "_law_x", "_law_later"]) .val rfl (by trivial) (bD rfl ye (ao (aO call_lenD yd (ao (aa 0) aj)) aj)) (λz z z z z z=>(aF (i:=0) (gC ["_law_y", "_law_rows_here", "_law_x", "_law_later"]) rfl (Or.inl rfl))) (λz z z z z z=>(cY (DW.dt (yI (aP jT (aU bj (aU bj (aa 1) (aa 2)) (aa 0)) au) (vA (aP Ld (aa 0) (aa 3))))))) (λz z z z z z=>(aa 0))) (bF aj))
  (aA (aD bR))
  aW))))))))
  (aA (aD bR))))))⟩
noncomputable def jH:=(gq v0).1
noncomputable abbrev mD:Stmt:=top 40
theorem qz:Sc ["_law_pen", "_law_rows_here", "_law_shuts", "_law_one", "_law_other", "_law_mine", "_law_yours", "_law_by", "_law_found"] ["_law_pen", "_law_rows_here"] mD:=cQ
@[simp] noncomputable def lX:Qe 4 ["_law_pen", "_law_rows_here", "_law_shuts", "_law_one", "_law_other", "_law_mine", "_law_yours", "_law_by", "_law_found"] "_law_some" mD fun D n Z=>D 2 "_law_shut" ["_law_rows_here"] v0->D 2 "_law_draw" ["_law_pen", "_law_many"] v1->D 4 "_law_sides" ["_law_rows_here", "_law_shut_here"] v2->n "len"->n "range"->n "tuple"->Z:=
 ⟨_,fun ya yb yc yd ye yf hr=>have nd:=qz.nd;(az (bf (i:=2) nd rfl (Or.inl rfl) (aB ya hr aV (ao (aa 1) aj)))
  (az (pR (i:=3) (j:=4) rfl nd rfl rfl (by decide) rfl rfl (ao (aU bj (aa 2) (aB yb hr aV (ao (aa 0) (ao (aO call_lenD yd (ao (aa 2) aj)) aj)))) (ao (aU bj (aa 2) (aB yb hr aV (ao (aa 0) (ao (aO call_lenD yd (ao (aa 2) aj)) aj)))) aj)) rfl)
  (az (pR (i:=5) (j:=6) rfl nd rfl rfl (by decide) rfl rfl (ao (aB yc hr aV (ao (aa 1) (ao (aa 3) aj))) (ao (aB yc hr aV (ao (aa 1) (ao (aa 4) aj))) aj)) rfl)
  (az (bf (i:=7) nd rfl (Or.inl rfl) (aB yb hr aV (ao (aa 0) (ao (aO call_lenD yd (ao (aa 5) aj)) aj))))
  (az (bf (i:=8) nd rfl (Or.inl rfl) (bF (ao (bh (ao (bh (ao (aa 3) aj)) (ao (bh (ao (aa 4) aj)) aj))) (ao (bh (ao (aa 5) (ao (aG aY (cI (aa 5) (cj (aa 7)) dI) (cI (aa 5) dI (cj (aa 7)))) aj))) (ao (bh (ao (aG vM (aa 5) au) (ao (aG aY (aG aY (cI (aa 5) (cj au) dI) (aa 5)) (cI (aa 5) dI (cj au))) aj))) (ao (bh (ao (aa 5) (ao (aa 6) aj))) aj))))))
  (aA (aD (aG aY (aa 8) (bF (ao (bh (ao (bh (ao (Fv rfl yf ye (ao (aO call_lenD yd (ao (aa 1) aj)) aj)) aj)) (ao (bh (ao (aa 3) aj)) aj))) (ao (bh (ao (bh (ao (aU bj (aa 2) au) aj)) (ao (bh (ao (aU bj (aa 2) (yD au)) aj)) aj))) (ao (bh (ao (aG vM (aa 5) au) (ao (aG vM (aa 6) au) aj))) aj))))))))))))⟩
noncomputable def rW:=(lX v0 v1 v2).1
noncomputable abbrev DK:Stmt:=top 41
theorem Hm:Sc ["_law_script", "_law_cell", "_law_pen", "_law_turn_here", "_law_rows_here", "_law_walk", "_law_some_here", "_law_things", "_law_thing", "_law_lap", "_law_bent_here", "_law_kept", "_law_due"] ["_law_script"] DK:=cQ
@[simp] noncomputable def Dt:Qd 11 ["_law_script", "_law_cell", "_law_pen", "_law_turn_here", "_law_rows_here", "_law_walk", "_law_some_here", "_law_things", "_law_thing", "_law_lap", "_law_bent_here", "_law_kept", "_law_due"] "law" DK fun P w K m o Z=>DefD P w K m o 1 "_law_cell_at" ["_law_script", "_law_k"] v0->DefD P w K m o 1 "_law_pen_of" ["_law_cell"] v1->DefD P w K m o 3 "_law_rows" ["_law_pen", "_law_most"] v2->DefD P w K m o 5 "_law_some" ["_law_pen", "_law_rows_here"] v3->DefD P w K m o 3 "_law_odd" ["_law_pen"] v4->DefD P w K m o 11 "_law_bent" ["_law_pen", "_law_thing"] v5->DefD P w K m o 3 "_law_are_rings" ["_law_rows_here", "_law_thing"] v6->DefD P w K m o 6 "are_rings" ["walk", "thing"] v7->ClsD P w K m o 5 "Walk" v8->Nn m "range"->Nn m "repr"->Z:=
 ⟨_,fun ya yb yc yd ye yf yg yh yi yj yk hr=>have nd:=Hm.nd;(az (bY 0 PassesOwn.leaving rfl (jM (aG aY (bF (ao (aB ya hr aV (ao (aa 0) (ao au aj))) aj)) (Fq (aa 0) (cj au) (cj au)))) (aF (i:=1) nd rfl (Or.inl rfl))
  (az (bf (i:=2) nd rfl (Or.inl rfl) (aB yb hr aV (ao (aa 1) aj)))
  (aA (bY 0 Ut rfl (bD rfl yj (ao au aj)) (aF (i:=3) nd rfl (Or.inl rfl))
  (az (bf (i:=4) nd rfl (Or.inl rfl) (aB yc hr aV (ao (aa 2) (ao au aj))))
  (az (pQ (bh (ao (Kg yi hr aV (ao (aa 4) aj)) (ao (aB yd hr aV (ao (aa 2) (ao (aa 4) aj))) aj))) (mW (n:=2) rfl (cJ (aF (i:=5) nd rfl (Or.inr rfl)) (cJ (aF (i:=6) nd rfl (Or.inl rfl)) jB))))
  (az (bf (i:=7) nd rfl (Or.inl rfl) (aG aY (aa 6) (bF (ao Fp (ao (bh aj) (ao (bh (ao (bh aj) (ao (bh aj) aj))) (ao (bh (ao au (ao au (ao (bh (ao (bh (ao au aj)) aj)) aj)))) (ao (aB ye hr aV (ao (aa 2) aj)) aj))))))))
  (az (bY 0 Ut rfl (jM (aa 6)) (aF (i:=8) nd rfl (Or.inr rfl))
  (aA (bY 0 Ut rfl (bD rfl yj (ao au aj)) (aF (i:=9) nd rfl (Or.inl rfl))
  (az (bf (i:=10) nd rfl (Or.inl rfl) (aB yf hr aV (ao (aa 2) (ao (aa 8) aj))))
  (aA (bf (i:=7) nd rfl (Or.inl rfl) (aG aY (aa 7) (bF (ao (aa 10) (ao (aB yf hr aV (ao (aa 2) (ao (aa 10) aj))) aj))))))))))
  (aA (bY 0 Ut rfl (jM (aa 7)) (aF (i:=8) nd rfl (Or.inr rfl))
  (az (pR (i:=11) (j:=12) rfl nd rfl rfl (by decide) rfl rfl (ao (aO (ju hr.gd hr.units) yk (ao (aa 8) aj)) (ao (aB yg hr aV (ao (aa 4) (ao (aa 8) aj))) aj)) rfl)
  (aA (bB (DW.dt (cZ (aP (cu hr.units) (aO (ju hr.gd hr.units) yk (ao (uK "_law_lap" [5,8] ["_law_walk", "_law_thing"] (bD rfl yj (ao au aj)) (aB yh hr jU (ao (aa 1) (ao (aa 2) aj)))) aj)) (aO (ju hr.gd hr.units) yk (ao (bF (ao (aa 12) (ao (aa 12) aj))) aj))) (dg (aP (cu hr.units) (aO (ju hr.gd hr.units) yk (ao (aa 8) aj)) (aa 11)))))
  (aA (aD bR))
  aW)))))))))))))
  (aA (aD bR)))⟩
noncomputable def JB:=(Dt v0 v1 v2 v3 v4 v5 v6 v7 v8).1
end
end K
namespace K
open PySem L2 L3 N10
theorem cD:(∀(α:Type) (a:α) (l:List α),(a::l)[0]?=some a)/\(∀(α:Type) (a:α) (l:List α) (i:Nat),(a::l)[i+1]?=l[i]?)/\(∀(α:Type) (x:Option α),(some x).join=x)/\(∀(α:Type) (a:α),(opt (some a):DM α)=pure a)/\∀(α β:Type) (a:α) (f:α->DM β),((pure a:DM α)>>=f)=f a:=⟨λz z z=>rfl,λz z z z=>rfl,λz z=>rfl,λz z=>fM _,λz z z z=>aq _ _⟩
theorem dm:(∀(α:Type) (a b:α) (l:List α) (i:Nat),(a::l).set (i+1) b=a::l.set i b)/\∀(α:Type) (a b:α) (l:List α),(a::l).set 0 b=b::l:=⟨λz z z z z=>rfl,λz z z z=>rfl⟩
noncomputable def rN:=aL 1 1 jt
noncomputable def Aq:=aL 2 2 (pA rN)
theorem Nu(n:Nat):rN [nD n]=pure (.bl true):=by
 have a:(rd (iZ [nD n,.ty "int"]):DM D)=pure (.bl true):=cF (t := "int") (λz=>rfl) (by decide)
 have b:(rd (iZ [nD n,.ty "bool"]):DM D)=pure (.bl false):=cF (t := "int") (λz=>rfl) (by decide)
 simp[rN,jt,a,b]
noncomputable def pT(p:Nat×Nat):D:=nT [p.1,p.2]
theorem Mx{l:List Nat}(hl:l.length<=1000):Aq [nT l,.int (l.length:Int)]=pure (.bl true):=by
 have a:(rd (iZ [nT l,.ty "tuple"]):DM D)=pure (.bl true):=cF (t := "tuple") (λz=>rfl) (by decide)
 have ln:(rd (dZ [nT l]):DM D)=pure (.int (l.length:Int)):=by simp[nT]
 simp[Aq,pA,a,ln,aZ,dq];show (dM (bc _ _ _ (l.map nD) _ _)>>=_)=_;rw[Qc (λz=>true) (λz=>.bl true) (by simpa using Ue hl (by decide)) (λz z=>rfl) (λd hd z=>?_) (k':=λl=>rd (nW [.lst l])) (λz=>rfl)]
 ·have:((l.map nD).filter (λz=>true)).map (λz=>D.bl true)=(l.map λz=>true).map D.bl:=by rw[List.filter_eq_self.mpr (λz z=>rfl),UT,UT];rfl
  have q:(l.map λz=>true).all id=true:=by rw[Uh];intro x hx;obtain⟨_,_,rfl⟩:=Us.mp hx;rfl
  rw[this,nH,q]
 ·obtain⟨n,_,rfl⟩:=Us.mp hd;have:=Nu n;unfold nD at this ⊢
  simp[this]
theorem Ce:∀ {l:List Nat}{n:Nat},n∈l->n<=l.sum
 |a::l,n,h=>by
   rw[List.sum_cons];rcases TV.mp h with rfl | h
   ·lia
   ·have:=Ce h;lia
noncomputable def xP:=aL 2 2 ik
theorem Mz(cs:List Int)(k:Nat):∃ c:Int,xP [.scr cs,nD k]=pure (.int c):=by
 by_cases h:k<cs.length
 ·have e:decide ((k:Int)<(cs.length:Int))=true:=Uk (by lia)
  have ix:(rd (bU (.scr cs) (.int (k:Int))):DM D)=pure (.int cs[k]):=bO λM=>by show (atI cs (k:Int)).map _=_;rw[pM (Tj h)];rfl
  refine⟨cs[k],?_⟩;simp[xP,ik,nD,e,ix,h]
 ·have e:decide ((k:Int)<(cs.length:Int))=false:=Ux (by lia)
  refine⟨0,?_⟩;simp[xP,ik,nD,e,h]
theorem aH{f g:ak->DM Fl}{δ:ak}{M:Mo}{Q:Fl->Mo->Prop}(h:∀K:Fl->DM Fl,(∀δ',K (.nx δ')=g δ')->Rn (f δ>>=K) M Q):Rn (DQ f g δ) M Q:=by
 have:=h (λr=>match r with | .nx δ'=>g δ' | r=>Pure.pure r) (λz=>rfl)
 exact this
structure WK(R:List (List Nat))(W:Nat):Prop where
 n1:1<=R.length
 n25:R.length<=25
 row:∀r∈R,r.length=R.length
 sum:∀r∈R,r.sum=W
 w1:1<=W
theorem WK.head{R:List (List Nat)}{W:Nat}(h:WK R W):gr R 0∈R:=gr_mem (by have:=h.n1;lia)
noncomputable def Ef:=aL 2 2 (uH Aq)
noncomputable def Eg:=aL 1 2 (kZ Ef)
theorem J5{l:List Nat}{n:Nat}(h:l.length=n)(hl:n<=1000):Aq [nT l,nD n]=pure (.bl true):=by subst h;exact Mx hl
theorem yq(n:Nat):(rd (nW [.lst (List.replicate n (.bl true))]):DM D)=pure (.bl true):=by have:=nH (List.replicate n true);rw[List.map_replicate]at this;rw[this];simp
theorem wU{α:Type}(l:List α)(d:D):(l.map λz=>d)=List.replicate l.length d:=List.map_const' ..
theorem Mw{R:List (List Nat)}{W:Nat}(h:WK R W):Ef [nM R,nD R.length]=pure (.bl true):=by
 have:=h.n25;simp[Ef,uH,G7,fL,Hf,G5,aZ,dq];rw[lu nT (λz=>.bl true) (by lia) (λr hr=>by simp[J5 (h.row r hr) (by lia)])]
 rw[aq,wU,yq]
theorem MN{R:List (List Nat)}{W:Nat}(h:WK R W):Eg [nM R]=pure (.bl true):=by
 have h1:=h.n1;have h2:=h.n25;have e1:(rd (wO (.int 1) (nD R.length)):DM D)=pure (.bl true):=by rw[show D.int 1=nD 1 from rfl,Hb,Uk h1]
 have e2:(rd (wO (nD R.length) (.int 25)):DM D)=pure (.bl true):=by rw[show D.int 25=nD 25 from rfl,Hb,Uk h2]
 have e3:(rd (Ga (nD W) (.int 1)):DM D)=pure (.bl true):=by rw[show D.int 1=nD 1 from rfl,G6,Uk h.w1]
 have e4:∀r∈R,(rd (cU (nD r.sum) (nD W)):DM D)=pure (.bl true):=λr hr=>by rw[cg,h.sum r hr];simp
 simp[Eg,kZ,G7,fL,e1,e2,Mw h,G9 (R:=R) (by lia),h.sum _ h.head]
 simp[e3,G5,aZ,dq];rw[lu nT (λz=>.bl true) (by lia) (λr hr=>by simp[e4 r hr])]
 rw[aq,wU,yq]
noncomputable def bQ(R:List (List Nat))(W:Nat):D:=.obj "Walk" ["rows", "whole"] [nM R,nD W]
noncomputable def Fin:=aL 2 2 (kW Eg)
theorem BZ{M:Mo}{ns:List Str}{vs:List D}{f:Str}{d:D}(hl:ns.length=vs.length)(hz:ns.length<1000):xJ "Walk" f (.ref M.length) d (M++[.ins "Walk" ns vs])=some (.ok (),M++[.ins "Walk" (putN f ns) (jV f d ns vs)]):=by
 unfold xJ;simp[hl]
 lia
theorem pW{R:List (List Nat)}{W:Nat}(h:WK R W)(M:Mo):Fin (.ref M.length::[nM R]) (M++[.ins "Walk" [] []])=some (.ok .non,M++[.ins "Walk" ["rows", "whole"] [nM R,nD W]]):=by
 have h1:=h.n1;have go:Rn (Fin (.ref M.length::[nM R])) (M++[.ins "Walk" [] []]) λd M'=>d=.non/\M'=M++[.ins "Walk" ["rows", "whole"] [nM R,nD W]]:=by
  simp[Fin,kW,MN h,G9 (R:=R) (by lia)]
  refine Rn.run (BZ rfl (by decide)) ?_
  rw[h.sum _ h.head];refine Rn.run (BZ rfl (by decide)) ?_
  exact Rn.pure ⟨rfl,rfl⟩
 obtain⟨d,M',e,rfl,rfl⟩:=go;exact e
open Classical in
noncomputable def xO(ds:List D):DM D:=if h:∃p:List (List Nat)×Nat,WK p.1 p.2/\ds=[nM p.1] then pure (bQ (choose h).1 (choose h).2) else stuck
theorem PL{R:List (List Nat)}{W:Nat}(h:WK R W):xO [nM R]=pure (bQ R W):=by
 have q:∃p:List (List Nat)×Nat,WK p.1 p.2/\[nM R]=[nM p.1]:=⟨(R,W),h,rfl⟩;unfold xO;rw[dif_pos q];obtain⟨a,b⟩:=Classical.choose_spec q;generalize Classical.choose q=p at a b;have e:R=p.1:=Ob (by simpa using b)
 have w:W=p.2:=by have:=h.sum _ h.head;rw[<-this,e];exact a.sum _ a.head
 rw[<-e,<-w]
set_option tactic.hygienic true in
theorem PN:∀ds M r',xO ds M=some r'->Ms "Walk" Fin ds M r':=by
 intro ds M r' e;unfold xO at e;split at e
 ·rename_i q;obtain⟨a,b⟩:=Classical.choose_spec q;generalize Classical.choose q=p at a b e;subst b;cases e;refine .inl ⟨["rows", "whole"],[nM p.1,nD p.2],pW a M,λd hd=>?_,rfl⟩
  rcases TV.mp hd with rfl | hd
  ·exact .inl (by simp)
  ·exact .inr ⟨p.2,by simpa[nD] using hd⟩
 ·cases e
theorem yN(R:List (List Nat))(W:Nat):(rd (CZ "Walk" "rows" (bQ R W)):DM D)=pure (nM R):=bO λM=>by simp[CZ,bQ]
noncomputable def uz:=aL 1 1 mQ
theorem NT(R:List (List Nat))(W:Nat):uz [bQ R W]=pure (nD R.length):=by simp[uz,mQ,yN,fL]
theorem KH{R:List (List Nat)}{W:Nat}(h:R.length<=25):yZ "Walk" uz [bQ R W]=pure (nD R.length):=by
 have e:yZ "Walk" uz [bQ R W]=(if ("Walk":Str) = "Walk" then uz [bQ R W]>>=CN else stuck):=rfl
 rw[e,Tv rfl,NT,aq];have q:(0:Int)<=(R.length:Int)/\(R.length:Int)<2^63:=⟨by lia,by lia⟩
 unfold CN nD;dsimp only;rw[Tv q]
noncomputable def wz:=aL 2 2 (jr rN)
theorem nq{m:DM D}{v:D}(h:∀M,Rn m M λd M'=>d=v/\M'=M):m=pure v:=by funext M;obtain⟨d,M',e,rfl,rfl⟩:=h M;exact e
theorem Q9:∀l:List Nat,S l.length (ga l)=l.sum:=λl=>by
 rw[<-Em];congr 1;apply WW;intro k;by_cases hk:k<l.length
 ·rw[T8,Vz hk,Tj hk,WP,lz hk]
 ·rw[Uz (by simp;lia),Uz (by lia)]
theorem Gg(b:Bool):(rd (Dc [.bl b]):DM D)=pure (nD (if b then 1 else 0)):=by cases b<;>rfl
theorem Lw{l:List Nat}{i v:Nat}(h:i<l.length):(l.set i v).sum + ga l i=l.sum + v:=by
 induction l generalizing i with
 |nil=>simp at h
 | cons a l ih=>
   cases i with
   |zero=>simp[ga];lia
   |succ i=>
     have:=ih (i:=i) (by simpa using h)
     rw[List.set_cons_succ,List.sum_cons,List.sum_cons];have e:ga (a::l) (i+1)=ga l i:=rfl;rw[e];lia
theorem oR{n j:Nat}{d:D}(h:((List.range n).map nD)[j]?=some d):j<n/\d=nD j:=by
 have hj:j<n:=by have:=(Ti.mp h).1;simpa using this
 rw[T8,Vz hj]at h;exact⟨hj,(TJ h).symm⟩
theorem QK{n:Nat}{a:List Nat}(ha:a.length=n):a.sum=S n (ga a):=by rw[<-ha,Q9]
theorem G8{l:List Nat}{i:Nat}(h:i<l.length):(rd (bU (.lst (l.map nD)) (nD i)):DM D)=pure (nD (ga l i)):=xF (i:=i) (by rw[T8,Tj h,lz h];rfl)
theorem fF{k:Nat}{tg:D->ak->DM ak}{fb:ak->DM Fl}{l:List D}{δ:ak}:Nh k tg fb (.fix l) δ=forL tg fb l δ:=rfl
theorem lA{fg:D->ak->DM ak}{ft:ak->DM Bool}{fb:ak->List D->DM (ak×List D)}{ds:List D}{δ:ak}{l:List D}:cB fg ft fb (.fix ds) δ l=bc fg ft fb ds δ l:=rfl
set_option tactic.hygienic true in
theorem Es{i:Int}(h:i.natAbs<2^1000):Builtin.Int.intBits i<=1000:=by
 unfold Builtin.Int.intBits;split
 ·exact Vl _
 ·rename_i h0;have:i.natAbs≠0:=by intro z;apply h0;simp;lia
  exact (Nat.log2_lt this).mpr h
theorem KR{i j:Int}(h:i.natAbs<2^1000)(h':j.natAbs<2^1000):gf i j=true:=by
 unfold gf;have h1:=Es h;have h2:=Es h';have:Builtin.Int.intTooBig ((Builtin.Int.intBits i:Int)+(Builtin.Int.intBits j:Int))=false:=by
  unfold Builtin.Int.intTooBig;refine Ux λq=>?_
  have hb:2000<=bitsLine:=by decide
  lia
 simp[this]
theorem zP{a b:Nat}(h:a<2^1000)(h':b<2^1000):(rd (oE (nD a) (nD b)):DM D)=pure (nD (a*b)):=by unfold nD;rw[JR (KR (by simpa using h) (by simpa using h')),Int.natCast_mul]
theorem BV{a b:Nat}(ha:a<2^62)(hb:b<2^62):vP [nD a,nD b]=some (.fix ((List.range (b-a)).map λk=>nD (a+k))):=by
 have e:∀x:Nat,x<2^62->oU (x:Int)=true:=λx h=>by unfold oU;simp;lia
 have e2:((b:Int)-(a:Int)).toNat=b-a:=by lia
 simp[vP,nD,e a ha,e b hb,e2,oO]
end K
set_option exponentiation.threshold 2000
namespace K
open PySem L2 L3 N10
theorem bz{f g:ak->DM Fl}{δ:ak}{M:Mo}{Q:Fl->Mo->Prop}(h:∀K:Fl->DM Fl,(∀δ',K (.nx δ')=g δ')->(∀d,K (.rt d)=Pure.pure (.rt d))->Rn (f δ>>=K) M Q):Rn (DQ f g δ) M Q:=by
 have:=h (λr=>match r with | .nx δ'=>g δ' | r=>Pure.pure r) (λz=>rfl) (λz=>rfl)
 exact this
noncomputable def Ei:=aL 1 1 rQ
theorem GF{s:Nat}(h:s<2^40):∃t:Nat,t<2147483629/\Ei [nD s]=pure (nD t):=by
 refine⟨(((s+7919)%2147483647)*((s+7919)%2147483647)+48271*((s+7919)%2147483647)+12345)%2147483629,Vo _ (by decide),?_⟩
 have a1:(rd (b8 (nD s) (.int 7919)):DM D)=pure (nD (s+7919)):=nG s 7919;have a2:(rd (jR (nD (s+7919)) (.int 2147483647)):DM D)=pure (nD ((s+7919)%2147483647)):=iC (b:=2147483647) (by decide)
 have lt:=Vo (s+7919) (show 2147483647 > 0 by decide)
 generalize (s+7919)%2147483647=x at a2 lt;have a3:(rd (oE (nD x) (nD x)):DM D)=pure (nD (x*x)):=Hd (by lia)
 have a4:(rd (oE (.int 48271) (nD x)):DM D)=pure (nD (48271*x)):=Hd (a:=48271) (by lia)
 have a5:∀a b:Nat,(rd (b8 (nD a) (nD b)):DM D)=pure (nD (a+b)):=λa b=>nG a b
 have a6:(rd (b8 (nD (x*x+48271*x)) (.int 12345)):DM D)=pure (nD (x*x+48271*x+12345)):=nG _ 12345;have a7:(rd (jR (nD (x*x+48271*x+12345)) (.int 2147483629)):DM D)=pure (nD ((x*x+48271*x+12345)%2147483629)):=iC (b:=2147483629) (by decide)
 simp[Ei,rQ,a1,a2,a3,a4,a5,a6,a7]
noncomputable def cN(p:Nat)(M:Mo):Prop:=∃a b c:Nat,c<2^40/\M[p]?=some (.lst [nD a,nD b,nD c])
theorem cN.lt{p:Nat}{M:Mo}(h:cN p M):p<M.length:=by obtain⟨a,b,c,_,e⟩:=h;exact (Ti.mp e).1
theorem cN.sb{p q:Nat}{M M':Mo}(h:cN p M)(s:Sb q M M')(hq:p≠q):cN p M':=by obtain⟨a,b,c,hc,e⟩:=h;exact⟨a,b,c,hc,s.at hq e⟩
noncomputable def xY:=aL 1 2 ph
theorem Lh(c:Int)(M:Mo):Rn (xY [.int c]) M λd M'=>d=.ref M.length/\cN M.length M':=by
 unfold xY ph je;dsimp only;refine Rn.call rfl ?_;refine aH λK hK=>?_
 have p18:(rd (Dq (.int 10) (.int 18)):DM D)=pure (.int 1000000000000000000):=by rw[JS (by decide)];rfl
 have st:bJ 2 [D.int c]=[some (.int c),none]:=rfl;rw[st];simp;have en:D.int (if c < -c then -c else c)=nD (if c < -c then -c else c).toNat:=by unfold nD;congr 1;split<;>lia
 rw[en];generalize (if c < -c then -c else c).toNat=n
 rw[hK];clear hK K;have ge:(rd (Ga (nD n) (.int 1000000000000000000)):DM D)=pure (.bl (decide (1000000000000000000<=n))):=G6 n 1000000000000000000;have md:(rd (jR (nD n) (.int 1000003)):DM D)=pure (nD (n%1000003)):=iC (b:=1000003) (by decide)
 simp[p18,ge,Gg,md];refine Rn.gM (by simp) ?_
 have lt:=Vo n (show 1000003 > 0 by decide)
 exact Rn.pure ⟨_,rfl,rfl,n,(if 1000000000000000000<=n then 1 else 0),n%1000003,by lia,by simp⟩
noncomputable def pJ:=aL 2 3 (rP Ei)
theorem dJ{p:Nat}{M:Mo}{m:Nat}(h:cN p M)(h0:0<m)(h1:m<2 ^ 60):Rn (pJ [.ref p,nD m]) M λd M'=>∃ t:Nat,t<m/\d=nD t/\cN p M'/\Sb p M M':=by
 obtain⟨a,b,c,hc,e⟩:=h;have hp:=(Ti.mp e).1;unfold pJ rP lU;dsimp only;refine Rn.call rfl ?_;have st:bJ 3 [D.ref p,nD m]=[some (.ref p),some (nD m),none]:=rfl;rw[st];have i0:bU (.ref p) (.int 0) M=some (nD a):=jQ (i:=0) e rfl;have i1:bU (.ref p) (.int 1) M=some (nD b):=jQ (i:=1) e rfl;have i2:bU (.ref p) (.int 2) M=some (nD c):=jQ (i:=2) e rfl;have eb:(rd (cU (nD b) (.int 1)):DM D)=pure (.bl (decide (b=1))):=cg b 1;have ga:(rd (iQ (nD a) (.int 0)):DM D)=pure (.bl (decide (0<a))):=nJ a 0;refine bz λK hK hR=>?_
 have rest:Rn (K (.nx [some (.ref p),some (nD m),none])) M λr M'=>∃d,r=.rt d/\∃t:Nat,t<m/\d=nD t/\cN p M'/\Sb p M M':=by
  rw[hK];clear hK hR K;refine aH λK hK=>?_
  simp;refine Rn.bindRd _ i2 ?_;obtain⟨t1,l1,e1⟩:=GF hc;have a7:(rd (b8 (nD t1) (.int 7)):DM D)=pure (nD (t1+7)):=nG t1 7;obtain⟨t2,l2,e2⟩:=GF (s:=t1+7) (by lia)
  simp only[e1,aq,a7,e2];refine Rn.run (rF (i:=2) e (by simp)) ?_
  rw[hK];clear hK K;simp;have at2:(M.set p (.lst [nD a,nD b,nD t2]))[p]?=some (.lst [nD a,nD b,nD t2]):=UJ hp;refine Rn.bindRd (nD t2) (jQ (i:=2) at2 rfl) ?_;have dv:(rd (uM (nD t2) (.int 64)):DM D)=pure (nD (t2 / 64)):=zN (b:=64) (by decide) (by decide)
  simp[dv,iC (a:=t2 / 64) (b:=m) h0];exact Rn.pure ⟨_,rfl,_,Vo _ h0,rfl,⟨a,b,t2,by lia,at2⟩,Sb.set⟩
 simp;refine Rn.bindRd _ i1 ?_;simp only[eb,aq,jz];by_cases hb:b=1
 ·simp[hb];refine Rn.bindRd _ i0 ?_;simp only[ga,aq,jz];by_cases ha:0<a
  ·simp[ha];refine Rn.bindRd _ i0 ?_;simp[iC (a:=a) (b:=m) h0];refine Rn.bindRd _ i0 ?_;simp[zN (a:=a) (b:=m) h0 (Nat.lt_trans h1 (by decide))]
   refine Rn.run (rF (i:=0) e (by simp)) ?_
   have at2:(M.set p (.lst [nD (a / m),nD b,nD c]))[p]?=some (.lst [nD (a / m),nD b,nD c]):=UJ hp;simp;rw[hR];exact Rn.pure ⟨_,rfl,_,Vo _ h0,rfl,⟨_,b,c,hc,at2⟩,Sb.set⟩
  ·simp[ha];exact rest
 ·simp[hb];exact rest
structure Smn(n:Nat)(l:List Nat):Prop where
 ne:l≠[]
 lt:∀i∈l,i<n
 len:l.length<=100
theorem BR{n:Nat}(h:n<=1000):(rd (λM=>(lG [nD n] M).map D.lst):DM D)=pure (.lst ((List.range n).map nD)):=bO λM=>by
 have:lG [nD n] M=some ((List.range n).map nD):=by
  unfold nD;show (if -(2^62)<=(n:Int)/\(n:Int)<=2^20 then some ((List.range (n:Int).toNat).map nD) else none)=_
  rw[Tv ⟨by lia,by lia⟩,Vq]
  rfl
 rw[this];rfl
theorem Lj(a b:Nat):(rd (cX (λz z=>true) (λi j=>.int (i+j)) (nD a) (nD b)):DM D)=pure (nD (a+b)):=bO λM=>by simp[cX,nD]
theorem rA{a b:List Nat}(h:a.length+b.length<=1000000):(rd (b8 (.lst (a.map nD)) (.lst (b.map nD))):DM D)=pure (.lst ((a++b).map nD)):=bO λM=>by
 have:fu (a.map nD++b.map nD)=true:=by unfold fu;exact Uk (by show _<=2^24;rw[T3,Tz,Tz];lia)
 simp[b8,aX,I9,this]
theorem Ln(x:Nat)(b:Bool):(rd (λM=>(uc (.lst [nD x]) (nD (if b then 1 else 0)) M).map D.lst):DM D)=pure (.lst ((if b then [x] else []).map nD)):=bO λM=>by cases b<;>rfl
noncomputable def xZ:=aL 2 10 (rR pJ)
structure RwsS(M0:Mo)(p q n W:Nat)(i:Nat)(M:Mo):Prop where
 pen:cN p M
 sb:Sb p M0 M
 ex:∃R:List (List Nat),R.length=i/\M[q]?=some (.lst (R.map nT))/\∀r∈R,r.length=n/\r.sum=W
noncomputable def Cr(M0:Mo)(p tp q n W kd:Nat)(i:Nat)(δ:ak)(M:Mo):Prop:=(∃z6 z7 z8 z9,δ=[some (.ref p),some (nD tp),some (nD n),some (nD W),some (nD kd),some (.ref q),z6,z7,z8,z9])/\RwsS M0 p q n W i M
structure BalS(M0:Mo)(p q t n:Nat)(L:List (List Nat))(i:Nat)(M:Mo):Prop where
 pen:cN p M
 sb:Sb p M0 M
 atq:M[q]?=some (.lst (L.map nT))
 ex:∃r:List Nat,M[t]?=some (.lst (r.map nD))/\r.length=n/\r.sum=i
noncomputable def Q6(M0:Mo)(p q t n:Nat)(L:List (List Nat))(pre:ak)(i:Nat)(δ:ak)(M:Mo):Prop:=(∃z9,δ=pre++[z9])/\BalS M0 p q t n L i M
theorem Ls{p tp:Nat}{M:Mo}(hp:cN p M)(h1:1<=tp)(h2:tp<=6):Rn (xZ [.ref p,nD tp]) M λd M'=>∃ (R:List (List Nat)) (W:Nat),d=nM R/\WK R W/\R.length<=tp/\W<=12/\cN p M'/\Sb p M M':=by
 have hpl:=hp.lt;unfold xZ rR lV;dsimp only;refine Rn.call rfl ?_;have st:bJ 10 [D.ref p,nD tp]=[some (.ref p),some (nD tp),none,none,none,none,none,none,none,none]:=rfl;rw[st];refine aH λK hK=>?_
 simp;refine Rn.bind (dJ hp (by lia:0<tp) (by lia)) λd1 M1 ⟨t1,g1,e1,hp1,s1⟩=>?_
 subst e1;have ml:dH [.int 1,.int 2,.int 3,.int 4,.int 6,.int 12]=pure (.lst ([1,2,3,4,6,12].map nD)):=b7 (by simp)
 simp only[Ov,aq,ml];have d6:=dJ (m:=6) hp1 (by decide) (by decide)
 refine Rn.bind d6 λd2 M2 ⟨t2,g2,e2,hp2,s2⟩=>?_
 subst e2;have ht2:t2<[1,2,3,4,6,12].length:=by simpa using g2
 rw[G8 ht2];have hW:1<=ga [1,2,3,4,6,12] t2/\ga [1,2,3,4,6,12] t2<=12:=by
  have:=FZ ht2;generalize ga [1,2,3,4,6,12] t2=x at this;simp at this
  lia
 revert hW;generalize ga [1,2,3,4,6,12] t2=W;intro hW;have d7:=dJ (m:=7) hp2 (by decide) (by decide)
 simp only[aq];refine Rn.bind d7 λd3 M3 ⟨kd,g3,e3,hp3,s3⟩=>?_
 subst e3;rw[hK];clear hK K d6 d7 ml ht2;have sb3:Sb p M M3:=s1.trans (s2.trans s3);have hn1:1<=t1+1:=by lia
 have hn2:t1+1<=tp:=by lia
 revert hn1 hn2;generalize t1+1=n;intro n1 n2
 -- the list of rows
 refine aH λK hK=>?_
 simp;refine Rn.gM (by simp) ?_
 have pq:p≠M3.length:=by have:=hp3.lt;lia
 have ql:M.length<=M3.length:=sb3.le;have st0:RwsS M p M3.length n W 0 (M3++[.lst []]):=⟨hp3.sb (q:=M3.length) Sb.push pq,Sb.new (p:=p) (.inr sb3.le) ql Sb.push sb3,[],rfl,by simp,by simp⟩
 rw[hK];clear hK K hp1 hp2 hp3 s1 s2 s3;revert st0 pq ql;generalize M3.length=q;generalize M3++[DO.lst []]=M4;intro pq ql st0;refine aH λK hK=>?_
 simp[cV (n:=n) (by lia),fF]
 refine Rn.bind (bZ (Cr M p tp q n W kd) _ 0 _ _ ⟨⟨_,_,_,_,rfl⟩,st0⟩ (λx d δ M5 hx hI=>?_)) (λr M5 hI=>?_)
 rotate_left
 ·obtain⟨δ',rfl,⟨z6,z7,z8,z9,rfl⟩,hp5,sb5,R,lR,at5,hR⟩:=hI;rw[hK];clear hK K;rw[Tz,Uo,Up]at lR;simp;refine Rn.bindRd (nM R) (by show (aX (.ref q) M5).map _=_;simp only[aX,at5];rfl) ?_
  exact Rn.pure ⟨_,rfl,R,rfl,W,⟨by lia,by lia,λr hr=>by rw[(hR r hr).1,lR],λr hr=>(hR r hr).2,hW.1⟩,by lia,hW.2,hp5,sb5⟩
 clear hK K;obtain⟨⟨z6,z7,z8,z9,rfl⟩,hp5,sb5,R,lR,at5,hR⟩:=hI;obtain⟨hx',rfl⟩:=oR hx;rw[Up]at lR ⊢
 rw[dN,aq];have hQ:∀δ' M',Cr M p tp q n W kd (x+1) δ' M'->(λ(r:Fl) (M':Mo)=>∃δ',r=.nx δ'/\Cr M p tp q n W kd (x+1) δ' M') (.nx δ') M':=λδ' M' h=>⟨δ',rfl,h⟩
 revert hQ;generalize (λ(r:Fl) (M':Mo)=>∃δ',r=.nx δ'/\Cr M p tp q n W kd (x+1) δ' M')=Q
 intro hQ
 -- all places
 refine aH λK hK=>?_
 simp[BR (n:=n) (by lia)]
 rw[hK];clear hK K;have som0:Smn n (List.range n):=⟨by simp;lia,λi hi=>Tr.mp hi,by simp;lia⟩
 -- 1
 refine aH λK hK=>?_
 suffices H:∀(l:List Nat) (M6:Mo),Smn n l->cN p M6->Sb p M5 M6->Rn (K (.nx [some (.ref p),some (nD tp),some (nD n),some (nD W),some (nD kd),some (.ref q),some (nD x),some (.lst (l.map nD)),z8,z9])) M6 Q by
  by_cases h:kd=1
  ·have e:(rd (cU (nD kd) (.int 1)):DM D)=pure (.bl true):=by rw[show D.int 1=nD 1 from rfl,cg,h];rfl
   simp[e];refine Rn.bind (dJ hp5 (by lia:0<n) (by lia)) λd1 M7 ⟨u1,g1,e1,hp7,s7⟩=>?_
   refine Rn.bind (dJ hp7 (by lia:0<n) (by lia)) λd2 M8 ⟨u2,g2,e2,hp8,s8⟩=>?_
   subst e1 e2;have ml:dH [nD u1,nD u2]=pure (.lst ([u1,u2].map nD)):=b7 (by simp)
   simp only[ml,aq];exact H [u1,u2] M8 ⟨by simp,λi hi=>by simp at hi;lia,by simp⟩ hp8 (s7.trans s8)
  ·have e:(rd (cU (nD kd) (.int 1)):DM D)=pure (.bl false):=by rw[show D.int 1=nD 1 from rfl,cg,Ux h]
   simp[e];exact H _ _ som0 hp5 Sb.refl
 intro l1 M6_1 som1 hp6_1 sb6_1;rw[hK];clear hK K
 -- 2
 refine aH λK hK=>?_
 suffices H:∀(l:List Nat) (M6:Mo),Smn n l->cN p M6->Sb p M5 M6->Rn (K (.nx [some (.ref p),some (nD tp),some (nD n),some (nD W),some (nD kd),some (.ref q),some (nD x),some (.lst (l.map nD)),z8,z9])) M6 Q by
  by_cases h:kd=2
  ·have e:(rd (cU (nD kd) (.int 2)):DM D)=pure (.bl true):=by rw[show D.int 2=nD 2 from rfl,cg,h];rfl
   have ml:dH [nD ((x+1)%n)]=pure (.lst ([(x+1)%n].map nD)):=b7 (by simp)
   have hm:=Vo (x+1) (show n > 0 by lia)
   simp[e,nF,iC (a:=x+1) (b:=n) (by lia),ml]
   exact H [(x+1)%n] _ ⟨by simp,λi hi=>by simp at hi;lia,by simp⟩ hp6_1 sb6_1
  ·have e:(rd (cU (nD kd) (.int 2)):DM D)=pure (.bl false):=by rw[show D.int 2=nD 2 from rfl,cg,Ux h]
   simp[e];exact H _ _ som1 hp6_1 sb6_1
 intro l2 M6_2 som2 hp6_2 sb6_2;rw[hK];clear hK K
 -- 3
 refine aH λK hK=>?_
 suffices H:∀ (l:List Nat) (M6:Mo),Smn n l->cN p M6->Sb p M5 M6->Rn (K (.nx [some (.ref p),some (nD tp),some (nD n),some (nD W),some (nD kd),some (.ref q),some (nD x),some (.lst (l.map nD)),z8,z9])) M6 Q by
  by_cases h:kd=3
  ·have e:(rd (cU (nD kd) (.int 3)):DM D)=pure (.bl true):=by rw [show D.int 3=nD 3 from rfl,cg,h];rfl
   have md:∀y:Nat,(rd (jR (nD y) (.int 2)):DM D)=pure (nD (y%2)):=λy=>iC (b:=2) (by decide)
   have e1:(rd (cU (nD n) (.int 1)):DM D)=pure (.bl (decide (n=1))):=cg n 1;have ml:dH [nD x]=pure (.lst [nD x]):=b7 (by simp)
   have fl:((List.range n).filter λy=>!decide (y%2=x%2)).length<=n:=by
    have:=Uq (λy=>!decide (y%2=x%2)) (List.range n)
    rwa [Uo]at this
   have il:(if decide (n=1)=true then [x] else []).length<=1:=by split<;>simp
   have ad:=rA (a:=(List.range n).filter λy=>!decide (y%2=x%2)) (b:=if decide (n=1)=true then [x] else []) (by lia)
   have mu:=Ln x (decide (n=1));have ge:=H (((List.range n).filter λy=>!decide (y%2=x%2))++if decide (n=1)=true then [x] else []) M6_2 ⟨λz=>?_,λi hi=>?_,?_⟩ hp6_2 sb6_2
   ·simp only[dm,cD,cC,aN,e,jz,if_true,cV (n:=n) (by lia),BP,aZ,dq,List.length_cons,List.length_nil,List.map_cons,List.map_nil,List.replicate_succ,List.replicate_zero,List.cons_append,List.nil_append,Option.getD_some]
    rw[aR nD (λy=>!decide (y%2=x%2)) nD (by simp;lia) (λy hy=>by simp[md,Hf]) (λy hy w=>by simp)]
    simp only[dm,aq,Hg,ml,e1,Gg,mu,ad];exact ge
   ·rw [List.append_eq_nil_iff] at z
    by_cases h1:n=1
    ·rw[Uk h1,Tv rfl]at z;cases z.2
    ·have m:(if x % 2=0 then 1 else 0)∈(List.range n).filter λy=>!decide (y % 2=x % 2):=by
      rw[Ua,Tr];constructor
      ·split<;>lia
      ·by_cases h2:x%2=0
       ·simp[h2]
       ·have:x%2=1:=by lia
        simp[this]
     rw[z.1]at m;cases m
   ·rcases T4.mp hi with h2 | h2
    ·exact Tr.mp (Ua.mp h2).1
    ·split at h2
     ·simp at h2;lia
     ·cases h2
   ·rw[T3];lia
  ·have e:(rd (cU (nD kd) (.int 3)):DM D)=pure (.bl false):=by rw[show D.int 3=nD 3 from rfl,cg,Ux h]
   simp[e];exact H _ _ som2 hp6_2 sb6_2
 intro l3 M6_3 som3 hp6_3 sb6_3;rw[hK];clear hK K
 -- 4
 refine aH λK hK=>?_
 suffices H:∀ (l:List Nat) (M6:Mo),Smn n l->cN p M6->Sb p M5 M6->Rn (K (.nx [some (.ref p),some (nD tp),some (nD n),some (nD W),some (nD kd),some (.ref q),some (nD x),some (.lst (l.map nD)),z8,z9])) M6 Q by
  by_cases h:kd=4
  ·have e:(rd (cU (nD kd) (.int 4)):DM D)=pure (.bl true):=by rw[show D.int 4=nD 4 from rfl,cg,h];rfl
   have dv:∀y:Nat,(rd (uM (nD y) (.int 2)):DM D)=pure (nD (y / 2)):=λy=>zN (b:=2) (by decide) (by decide)
   have fl:((List.range n).filter λy=>decide (y / 2=x / 2)).length<=n:=by
    have:=Uq (λy=>decide (y / 2=x / 2)) (List.range n)
    rwa [Uo]at this
   simp only[dm,cD,cC,aN,e,jz,if_true,cV (n:=n) (by lia),BP,aZ,dq,List.length_cons,List.length_nil,List.map_cons,List.map_nil,List.replicate_succ,List.replicate_zero,List.cons_append,List.nil_append,Option.getD_some]
   rw[aR nD (λy=>decide (y / 2=x / 2)) nD (by simp;lia) (λy hy=>by simp[dv,cg]) (λy hy w=>by simp)]
   simp only[dm,aq,Hg];refine H _ _ ⟨λz=>?_,λi hi=>Tr.mp (Ua.mp hi).1,by lia⟩ hp6_3 sb6_3
   have m:x∈(List.range n).filter λy=>decide (y / 2=x / 2):=by rw[Ua,Tr];exact⟨hx',by simp⟩
   rw[z]at m;cases m
  ·have e:(rd (cU (nD kd) (.int 4)):DM D)=pure (.bl false):=by rw[show D.int 4=nD 4 from rfl,cg,Ux h]
   simp[e];exact H _ _ som3 hp6_3 sb6_3
 intro l4 M6_4 som4 hp6_4 sb6_4;rw[hK];clear hK K
 -- 5
 refine aH λK hK=>?_
 suffices H:∀(l:List Nat) (M6:Mo),Smn n l->cN p M6->Sb p M5 M6->Rn (K (.nx [some (.ref p),some (nD tp),some (nD n),some (nD W),some (nD kd),some (.ref q),some (nD x),some (.lst (l.map nD)),z8,z9])) M6 Q by
  by_cases h:kd=5
  ·have e:(rd (cU (nD kd) (.int 5)):DM D)=pure (.bl true):=by rw[show D.int 5=nD 5 from rfl,cg,h];rfl
   simp[e,nF,BR (n:=x+1) (by lia)]
   exact H (List.range (x+1)) _ ⟨by simp,λi hi=>by have:=Tr.mp hi;lia,by simp;lia⟩ hp6_4 sb6_4
  ·have e:(rd (cU (nD kd) (.int 5)):DM D)=pure (.bl false):=by rw[show D.int 5=nD 5 from rfl,cg,Ux h]
   simp[e];exact H _ _ som4 hp6_4 sb6_4
 intro l5 M6_5 som5 hp6_5 sb6_5;rw[hK];clear hK K
 -- the row
 have q6:q<M6_5.length:=(Ti.mp (sb6_5.at (λz=>pq z.symm) at5)).1
 have at6:=sb6_5.at (λz=>pq z.symm) at5
 have sb6:Sb p M M6_5:=sb5.trans sb6_5;have m0:dH [.int 0]=pure (.lst [.int 0]):=b7 (by simp)
 refine aH λK hK=>?_
 simp[m0];refine Ja (by lia) ?_
 have pt:p≠M6_5.length:=by have:=hp6_5.lt;lia
 have qt:q≠M6_5.length:=by lia
 have tl:M.length<=M6_5.length:=sb6.le;have bs0:BalS M p q M6_5.length n R 0 (M6_5++[.lst ((List.replicate n 0).map nD)]):=⟨hp6_5.sb (q:=M6_5.length) Sb.push pt,Sb.new (p:=p) (.inr sb6.le) tl Sb.push sb6,by rw[T5 q6];exact at6,List.replicate n 0,by simp,by simp,by simp⟩
 rw[hK];clear hK K;revert bs0 pt qt tl;generalize M6_5.length=t;generalize M6_5++[DO.lst ((List.replicate n 0).map nD)]=M7;intro pt qt tl bs0
 -- ball by ball
 refine aH λK hK=>?_
 simp[cV (n:=W) (by lia),fF]
 refine Rn.bind (bZ (Q6 M p q t n R [some (.ref p),some (nD tp),some (nD n),some (nD W),some (nD kd),some (.ref q),some (nD x),some (.lst (l5.map nD)),some (.ref t)]) _ 0 _ _ ⟨⟨z9,rfl⟩,bs0⟩ (λj d δ M8 hj hI=>?_)) (λr M8 hI=>?_)
 ·obtain⟨⟨z9,rfl⟩,hp8,sb8,atq8,r,at8,lr,sr⟩:=hI;obtain⟨hj',rfl⟩:=oR hj;rw[Up]at sr ⊢
  rw[dN,aq];have ln:(rd (dZ [.lst (l5.map nD)]):DM D)=pure (nD l5.length):=by simp[nD]
  have l0:0<l5.length:=List.length_pos_iff.mpr som5.ne;simp[ln];refine Rn.bind (dJ hp8 l0 (by have:=som5.len;lia)) λd9 M9 ⟨u,g9,e9,hp9,s9⟩=>?_
  subst e9;simp only[G8 g9,aq];have ul:ga l5 u<r.length:=by rw[lr];exact som5.lt _ (FZ g9)
  have at9:=s9.at (λz=>pt z.symm) at8
  have atq9:=s9.at (λz=>pq z.symm) atq8
  have t9:=(Ti.mp at9).1;generalize ga l5 u=v at ul;refine Rn.bindRd (nD (ga r v)) (by
   show (if 0<=(v:Int) then (aX (.ref t) M9).bind λl=>atI l (v:Int) else none)=_
   rw[Tv (by lia)]
   simp only[aX,at9,Option.bind_some];exact pM (by rw[T8,Tj ul,lz ul];rfl)) ?_
  have ia:(rd (cX (λw w=>true) (λi j=>.int (i+j)) (nD (ga r v)) (.int 1)):DM D)=pure (nD (ga r v+1)):=Lj (ga r v) 1
  simp[ia];refine Rn.run (rF at9 (by rw[Tz];exact ul)) ?_
  refine Rn.pure ⟨_,rfl,⟨_,rfl⟩,hp9.sb (q:=t) Sb.set pt,Sb.new (p:=p) (.inr (sb8.trans s9).le) tl Sb.set (sb8.trans s9),by rw[Vn (λz=>qt z.symm)];exact atq9,r.set v (ga r v+1),?_,by rw[WN];exact lr,?_⟩
  ·rw[UJ t9,List.map_set]
  ·have:=Lw (l:=r) (i:=v) (v:=ga r v+1) ul
   lia
 obtain⟨δ',rfl,⟨z9,rfl⟩,hp8,sb8,atq8,r,at8,lr,sr⟩:=hI;rw[Tz,Uo,Up]at sr;rw[hK];clear hK K;simp;refine Rn.bindRd _ (by simp only[aX,atq8];rfl) ?_
 refine Rn.bindRd (nT r) (by show (aX (.ref t) M8).map _=_;simp only[aX,at8];rfl) ?_
 have q8:=(Ti.mp atq8).1;refine Rn.run (vq atq8 (by rw[Tz];lia)) ?_
 refine Rn.pure (hQ _ _ ⟨⟨_,_,_,_,rfl⟩,hp8.sb (q:=q) Sb.set pq,Sb.new (p:=p) (.inr sb8.le) ql Sb.set sb8,R++[r],by simp[lR],by rw[UJ q8];simp,λr' hr'=>?_⟩)
 rcases T4.mp hr' with z | z
 ·exact hR r' z
 ·rw[TQ.mp z];exact⟨lr,sr⟩
mutual
noncomputable def wt:D->Nat
 |.int _=>1921
 |.str x=>(reprText x).length
 |.tup l=>bu l+3
 |.lst l=>bu l+3
 |.dic _ _=>8000
 |_=>5
noncomputable def bu:List D->Nat
 |[]=>0
 |d::l=>wt d+2+bu l
end
inductive Gd(B:Nat):Nat->D->Prop
 |non {n:Nat}:Gd B n .non
 |bl {n:Nat} (b:Bool):Gd B n (.bl b)
 |int {n:Nat}{i:Int}:i.natAbs<=B->Gd B n (.int i)
 |str {n:Nat}{x:Str}:Gd B n (.str x)
 |d0 {n:Nat}:Gd B n (.dic [] [])
 |d1 {n:Nat}:Gd B n (.dic [.inl 0] [.int 1])
 |tup {n:Nat}{l:List D}:(∀x∈l,Gd B n x)->Gd B (n+1) (.tup l)
 |lst {n:Nat}{l:List D}:(∀x∈l,Gd B n x)->Gd B (n+1) (.lst l)
theorem Gd.mono{B B':Nat}(hB:B<=B'):∀ {n n':Nat}{d:D},Gd B n d->n<=n'->Gd B' n' d
 |_,_,_,.non,_=>.non
 |_,_,_,.bl b,_=>.bl b
 |_,_,_,.int h,_=>.int (Ue h hB)
 |_,_,_,.str,_=>.str
 |_,_,_,.d0,_=>.d0
 |_,_,_,.d1,_=>.d1
 |_,n',_,.tup h,hn=>by
   obtain⟨m,rfl⟩:∃m,n'=m+1:=⟨n' - 1,by lia⟩
   exact .tup λx hx=>(h x hx).mono hB (by lia)
 |_,n',_,.lst h,hn=>by
   obtain⟨m,rfl⟩:∃m,n'=m+1:=⟨n' - 1,by lia⟩
   exact .lst λx hx=>(h x hx).mono hB (by lia)
theorem zL{k:Nat}:∀ {l:List D},(∀ x∈l,∃ p,eF x=some p/\p.showable=true/\p.depth<=k/\cT p=wt x)->∃ ps,dR l=some ps/\PyData.showableAll ps=true/\PyData.depthAll ps<=k/\lg ps=bu l
 |[],_=>⟨[],by simp only[dR],by simp only[PyData.showableAll],by simp only[PyData.depthAll];lia,by simp only[lg,bu]⟩
 |d::l,h=>by
   obtain⟨p,a,b,c,e⟩:=h d (.head _);obtain⟨ps,a',b',c',e'⟩:=zL λx hx=>h x (.tail _ hx)
   exact⟨p::ps,by simp only[dR,a,a'],by simp only[PyData.showableAll,b,b',Bool.and_self],by simp only[PyData.depthAll];lia,by simp only[lg,bu,e,e']⟩
theorem Gd.py{B:Nat}(hB:B<2 ^ 1000):∀ {n:Nat}{d:D},Gd B n d->∃ p,eF d=some p/\p.showable=true/\p.depth<=n + 3/\cT p=wt d
 |_,_,.non=>⟨_,rfl,rfl,by simp only[PyData.depth];lia,by simp only[cT,wt]⟩
 |_,_,.bl b=>⟨_,rfl,rfl,by simp only[PyData.depth];lia,by simp only[cT,wt]⟩
 |_,_,.int h=>⟨_,rfl,by simpa[PyData.showableAll] using Hn (l:=[_]) (λi hi=>by rw[TQ.mp hi];exact Xo h hB),by simp only[PyData.depth];lia,by simp only[cT,wt]⟩
 |_,_,.str=>⟨_,rfl,by simp only[PyData.showable],by simp only[PyData.depth];lia,by simp only[cT,wt]⟩
 |_,_,.d0=>⟨_,rfl,by simp[PyData.showable,PyData.showableKv],by simp[PyData.depth,PyData.depthKv],by simp only[cT,wt]⟩
 |_,_,.d1=>⟨_,rfl,by simp only[PyData.showable,PyData.showableKv];decide +kernel,by simp[PyData.depth,PyData.depthKv],by simp only[cT,wt]⟩
 |_,_,.tup h=>by
   obtain⟨ps,a,b,c,e⟩:=zL λx hx=>(h x hx).py hB
   exact⟨.tuple ps,by simp only[eF,a,Option.map_some],by simpa only[PyData.showable] using b,by simp only[PyData.depth];lia,by simp only[cT,wt,e]⟩
 |_,_,.lst h=>by
   obtain⟨ps,a,b,c,e⟩:=zL λx hx=>(h x hx).py hB
   exact⟨.list ps,by simp only[eF,a,Option.map_some],by simpa only[PyData.showable] using b,by simp only[PyData.depth];lia,by simp only[cT,wt,e]⟩
set_option tactic.hygienic true in
mutual
theorem Hx:∀ {d:D}{p:PyData},toPy d=some p->eF d=some p
 |.non,_,h=>h
 |.bl _,_,h=>h
 |.int _,_,h=>h
 |.str _,_,h=>h
 |.tup l,_,h=>by simp only[toPy,Option.map_eq_some_iff]at h;obtain⟨ps,a,rfl⟩:=h;simp only[eF,vZ a,Option.map_some]
 |.lst l,_,h=>by simp only[toPy,Option.map_eq_some_iff]at h;obtain⟨ps,a,rfl⟩:=h;simp only[eF,vZ a,Option.map_some]
 |.dic _ _,_,h=>by simp[toPy]at h
 |.obj _ _ _,_,h=>by simp[toPy]at h
 |.scr _,_,h=>by simp[toPy]at h
 |.ref _,_,h=>by simp[toPy]at h
 |.cls _,_,h=>by simp[toPy]at h
 |.ty _,_,h=>by simp[toPy]at h
 |.exn _,_,h=>by simp[toPy]at h
theorem vZ:∀ {l:List D}{ps:List PyData},gh l=some ps->dR l=some ps
 |[],_,h=>h
 | d::l,_,h=>by
   simp only[gh]at h;split at h
   ·rename_i a b;cases h;simp only[dR,Hx a,vZ b]
   ·cases h
end
set_option tactic.hygienic true in
theorem Gd.sh{B n:Nat}{d:D}(h:Gd B n d)(hB:B<2 ^ 1000)(hn:n<=50)(hw:wt d<=10000000):Rx d:=by
 obtain⟨p,a,b,c,e⟩:=h.py hB;refine⟨p.shown,bO λM=>?_⟩
 have h0:Dr d=some p:=by
  unfold Dr;split
  ·rename_i q hq;rw[<-a,Hx hq]
  ·exact a
 simp only[xG,h0,Option.bind_some,b,Bool.true_and];rw[Tv];rw[U5,U6,U6];exact⟨by lia,by show _<=2^24;lia⟩
theorem iG:∀a b:List D,bu (a++b)=bu a+bu b
 |[],b=>by simp[bu]
 |x::a,b=>by simp only[List.cons_append,bu,iG a b];lia
theorem Cm:∀a:List D,bu a.reverse=bu a
 |[]=>rfl
 |x::a=>by simp only[List.reverse_cons,iG,Cm a,bu];lia
theorem ww(a:List D)(i:Nat):bu (a.take i)+bu (a.drop i)=bu a:=by rw[<-iG,W0]
theorem jG:∀a:List D,2*a.length<=bu a
 |[]=>by simp[bu]
 |x::a=>by have:=jG a;simp only[List.length_cons,bu];lia
theorem eV:∀{a:List D}{x:D},x∈a->wt x+2<=bu a
 |x::a,_,.head _=>by simp only[bu];lia
 |x::a,_,.tail _ h=>by have:=eV h;simp only[bu];lia
noncomputable def wA:=aL 1 2 (uG pJ)
noncomputable def oF:List D:=[.non,.bl true,.bl false,.int (-1),.int 99,.int 100000000000,.str "",.str "0",.tup [],.lst [],.dic [] [],.tup [.tup []],.tup [.int 0],.lst [.int 0],.tup [.int 0,.int 0],.str "ab",.dic [.inl 0] [.int 1]]
theorem Oi:∀d∈oF,Gd (10^11) 2 d/\wt d<=9000:=by
 have t0:Gd (10^11) 1 (.tup []):=.tup λz h=>by cases h
 have i0:Gd (10^11) 1 (.int 0):=.int (by decide)
 have s1:∀x:Str,(reprText x).length<=100->Gd (10^11) 2 (.str x)/\wt (.str x)<=9000:=λx h=>⟨.str,by simp only[wt];lia⟩
 intro d hd;simp only[oF,List.mem_cons,List.not_mem_nil,or_false]at hd;rcases hd with rfl | rfl | rfl | rfl | rfl | rfl | rfl | rfl | rfl | rfl | rfl | rfl | rfl | rfl | rfl | rfl | rfl
 ·exact⟨.non,by simp[wt]⟩
 ·exact⟨.bl _,by simp[wt]⟩
 ·exact⟨.bl _,by simp[wt]⟩
 ·exact⟨.int (by decide),by simp[wt]⟩
 ·exact⟨.int (by decide),by simp[wt]⟩
 ·exact⟨.int (by decide),by simp[wt]⟩
 ·exact s1 _ (by decide +kernel)
 ·exact s1 _ (by decide +kernel)
 ·exact⟨.tup λz h=>(by cases h),by simp[wt,bu]⟩
 ·exact⟨.lst λz h=>(by cases h),by simp[wt,bu]⟩
 ·exact⟨.d0,by simp[wt]⟩
 ·exact⟨.tup λx h=>by rw[TQ.mp h];exact t0,by simp[wt,bu]⟩
 ·exact⟨.tup λx h=>by rw[TQ.mp h];exact i0,by simp[wt,bu]⟩
 ·exact⟨.lst λx h=>by rw[TQ.mp h];exact i0,by simp[wt,bu]⟩
 ·exact⟨.tup λx h=>by simp at h;rw[h];exact i0,by simp[wt,bu]⟩
 ·exact s1 _ (by decide +kernel)
 ·exact⟨.d1,by simp[wt]⟩
theorem uR{p:Nat}{M:Mo}(h:cN p M):Rn (wA [.ref p]) M λd M'=>(Gd (10^11) 2 d/\wt d<=9000)/\cN p M'/\Sb p M M':=by
 unfold wA uG oK;dsimp only;refine Rn.call rfl ?_;have p11:(rd (Dq (.int 10) (.int 11)):DM D)=pure (.int 100000000000):=by rw[JS (by decide)];rfl
 have m1:ie []=pure (.tup []):=eE (by simp)
 have m2:dH []=pure (.lst []):=b7 (by simp)
 have m3:ie [.tup []]=pure (.tup [.tup []]):=eE (by simp)
 have m4:ie [.int 0]=pure (.tup [.int 0]):=eE (by simp)
 have m5:dH [.int 0]=pure (.lst [.int 0]):=b7 (by simp)
 have m6:ie [.int 0,.int 0]=pure (.tup [.int 0,.int 0]):=eE (by simp)
 have m7:dH oF=pure (.lst oF):=b7 (by simp[oF])
 refine aH λK hK=>?_
 simp[p11,m1,m2,m3,m4,m5,m6];change Rn (dH oF>>=_) M _;rw[m7,aq,hK];clear hK K;simp;refine Rn.bind (dJ (m:=17) h (by decide) (by decide)) λd1 M1 ⟨t,g,e,hp1,s1⟩=>?_
 subst e;have ht:t<oF.length:=g;rw[show rd (bU (.lst oF) (nD t))=(pure oF[t]:DM D) from xF (Tj ht)]
 exact Rn.pure ⟨_,rfl,Oi _ (UV ht),hp1,s1⟩
noncomputable def wy:Nat->List D->DM D
 |0=>aL 2 4 λz=>stuck
 |n+1=>aL 2 4 (rO pJ wA (wy n))
noncomputable def Jy(B n:Nat)(d:D)(p:Nat)(M:Mo)(r:D)(M':Mo):Prop:=(Gd (B+10^12) (n+2) r/\wt r<=2*wt d+10000)/\cN p M'/\Sb p M M'
theorem Jy.mk{B n p:Nat}{d r:D}{M M':Mo}(a:Gd (B+10^12) (n+2) r)(b:wt r<=2*wt d+10000)(c:cN p M')(e:Sb p M M'):Jy B n d p M r M':=⟨⟨a,b⟩,c,e⟩
theorem BL{L:List D}{t:Nat}(h:t<L.length):∃x,x∈L/\(rd (bU (.lst L) (nD t)):DM D)=pure x:=⟨L[t],UV h,xF (Tj h)⟩
noncomputable def gk:D->Bool
 |.tup _=>true
 |_=>false
noncomputable def isNm:D->Bool
 |.int _=>true
 |.bl _=>true
 |_=>false
theorem Gd.isT{B n:Nat}{d:D}(h:Gd B n d):(rd (iZ [d,.ty "tuple"]):DM D)=pure (.bl (gk d)):=by cases h<;>first | exact cF (t := "NoneType") (λz=>rfl) (by decide) | exact cF (t := "bool") (λz=>rfl) (by decide) | exact cF (t := "int") (λz=>rfl) (by decide) | exact cF (t := "str") (λz=>rfl) (by decide) | exact cF (t := "dict") (λz=>rfl) (by decide) | exact cF (t := "tuple") (λz=>rfl) (by decide) | exact cF (t := "list") (λz=>rfl) (by decide)
theorem Gd.isN{B n:Nat}{d:D}(h:Gd B n d):(rd (iZ [d,.ty "int"]):DM D)=pure (.bl (isNm d)):=by cases h<;>first | exact cF (t := "NoneType") (λz=>rfl) (by decide) | exact cF (t := "bool") (λz=>rfl) (by decide) | exact cF (t := "int") (λz=>rfl) (by decide) | exact cF (t := "str") (λz=>rfl) (by decide) | exact cF (t := "dict") (λz=>rfl) (by decide) | exact cF (t := "tuple") (λz=>rfl) (by decide) | exact cF (t := "list") (λz=>rfl) (by decide)
theorem Gd.num{B n:Nat}{d:D}(h:Gd B n d)(hn:isNm d=true):∃i:Int,i.natAbs<=B+1/\(∀j,(rd (HQ d (.int j)):DM D)=pure (.int (i+j)))/\(∀j,(rd (subB d (.int j)):DM D)=pure (.int (i-j)))/\(rd (subB (.int 0) d):DM D)=pure (.int (0-i)):=by
 cases h with
 |bl b=>exact⟨nb b,by cases b<;>simp[nb],λz=>rfl,λz=>rfl,rfl⟩
 | @int _ i hi=>exact⟨i,by lia,λz=>rfl,λz=>rfl,rfl⟩
 |_=>cases hn
theorem Ph(l:List D)(i:Nat):(rd (km none (some (i:Int)) (.tup l)):DM D)=pure (.tup (l.take i)):=bO λM=>by simp only[km,cutD,HT.sIx_none,HT.sIx_nat,List.drop_zero,Nat.sub_zero];exact congrArg (λz=>some (D.tup z)) (List.take_eq_take_iff.mpr (by lia))
theorem u6(l:List D)(i:Nat):(rd (km (some (i:Int)) none (.tup l)):DM D)=pure (.tup (l.drop i)):=bO λM=>by
 simp only[km,cutD,HT.sIx_none,HT.sIx_nat];by_cases h:i<=l.length
 ·rw[Nat.min_eq_left h,WQ (by simp)]
 ·rw[Nat.min_eq_right (by lia),List.drop_of_length_le (Tq _),List.drop_of_length_le (by lia),List.take_nil]
theorem QF{l:List D}{i:Nat}(h:i<l.length):(rd (km (some (i:Int)) (some ((i+1:Nat):Int)) (.tup l)):DM D)=pure (.tup [l[i]]):=bO λM=>by simp only[km,cutD,HT.sIx_nat];rw[Nat.min_eq_left (by lia),Nat.min_eq_left (by lia),Ww h,Nat.add_sub_cancel_left];rfl
theorem iB{x y:List D}(h:x.length+y.length<=10000000):(rd (b8 (.tup x) (.tup y)):DM D)=pure (.tup (x++y)):=bO λM=>by
 have:fu (x++y)=true:=by unfold fu;exact Uk (by show _<=2^24;rw[T3];lia)
 simp[b8,Py,this]
theorem Rg(i:Int):Ar (.int i)=pure (some i):=id rfl
theorem tu(i:Nat):Ar (nD i)=pure (some (i:Int)):=id rfl
theorem Rn.asc{α β γ:Type}{m:DM α}{f:α->DM β}{g:β->DM γ}{M:Mo}{Q:γ->Mo->Prop}(h:Rn (m>>=λa=>f a>>=g) M Q):Rn ((m>>=f)>>=g) M Q:=by rw[aN];exact h
theorem Eu:∀ (m:Nat) {n B p:Nat}{d:D}{M:Mo},n<m->Gd B n d->cN p M->wt d<=1000000->Rn (wy m [.ref p,d]) M (Jy B n d p M):=by
 intro m;induction m with
 |zero=>intro n B p d M h;lia
 | succ m ih=>
   intro n B p d M hm hd hp hw;unfold wy rO lQ;dsimp only;refine Rn.call rfl ?_;have st:bJ 4 [D.ref p,d]=[some (.ref p),some d,none,none]:=rfl;rw[st];refine bz λK hK hR=>?_
   simp;refine Rn.bind (dJ (m:=8) hp (by decide) (by decide)) λd1 M1 ⟨way,g,e,hp1,s1⟩=>?_
   subst e;rw[hK];clear hK hR K;refine bz λK hK hR=>?_
   simp[hd.isT];by_cases hT:gk d=true
   ·simp [hT]
    rw[hK];clear hK hR K;cases hd with
    | @tup n l hl=>
      have hwl:bu l+3<=1000000:=by simpa only[wt] using hw
      have hlen:=jG l;have m0:ie []=pure (.tup []):=eE (by simp)
      have eqz:(rd (JG (.tup l) (.tup [])):DM D)=pure (.bl l.isEmpty):=bO λM=>rfl
      have ew:∀j:Nat,(rd (cU (nD way) (.int (j:Int))):DM D)=pure (.bl (decide (way=j))):=λj=>cg way j
      have ew0:(rd (cU (nD way) (.int 0)):DM D)=pure (.bl (decide (way=0))):=cg way 0;have ew1:(rd (cU (nD way) (.int 1)):DM D)=pure (.bl (decide (way=1))):=cg way 1;have ew2:(rd (cU (nD way) (.int 2)):DM D)=pure (.bl (decide (way=2))):=cg way 2;have mg:∀{x:D},Gd B n x->Gd (B+10^12) (n+2) x:=λh=>h.mono (by lia) (by lia)
      have md:∀{x:D},Gd (10^11) 2 x->Gd (B+10^12) (n+2) x:=λh=>h.mono (by lia) (by lia)
      refine bz λK hK hR=>?_
      refine Rn.asc (Rn.bind (Q1:=λk M'=>k=(l.isEmpty || decide (way=0))/\M'=M1) ?_ λk M' ⟨e1,e2⟩=>?_)
      ·by_cases h:l.isEmpty=true
       ·simp[m0,eqz,h];exact Rn.pure ⟨rfl,rfl⟩
       ·rw[Vd]at h;simp[m0,eqz,h,ew0];exact Rn.pure ⟨rfl,rfl⟩
      subst e1 e2;by_cases hz:(l.isEmpty || decide (way=0))=true
      ·rw [hz,Tv rfl];have ll:(rd (λM=>(uO [.tup l] M).map D.lst):DM D)=pure (.lst l):=bO λM=>rfl
       have rv:Jq (.tup l)=some (.tup l.reverse):=rfl;simp[ll,rv,Rg];refine Rn.bind (uR hp1) λo1 M2 ⟨⟨go,wo⟩,hp2,s2⟩=>?_
       have mk1:ie [o1]=pure (.tup [o1]):=eE (by simp)
       have ad1:(rd (b8 (.tup l) (.tup [o1])):DM D)=pure (.tup (l++[o1])):=iB (by simp;lia)
       simp only[mk1,aq,ad1];refine Rn.bind (uR hp2) λo2 M3 ⟨⟨Bc,wo2⟩,hp3,s3⟩=>?_
       have sl1:(rd (km (some 1) none (.tup l)):DM D)=pure (.tup (l.drop 1)):=u6 l 1;have ml:dH [.lst l,.tup (l++[o1]),o2,.tup l.reverse,.tup (l.drop 1)]=pure (.lst [.lst l,.tup (l++[o1]),o2,.tup l.reverse,.tup (l.drop 1)]):=b7 (by simp)
       simp only[sl1,ml,aq];refine Rn.bind (dJ (m:=5) hp3 (by decide) (by decide)) λd3 M4 ⟨t,gt,e,hp4,s4⟩=>?_
       subst e;have hm':∀ x∈([.lst l,.tup (l++[o1]),o2,.tup l.reverse,.tup (l.drop 1)]:List D),Gd (B + 10 ^ 12) (n + 1 + 2) x/\wt x<=2 * wt (.tup l) + 10000:=by
        have c1:=ww l 1;intro x hx;simp only[List.mem_cons,List.not_mem_nil,or_false]at hx;simp only[wt];rcases hx with rfl | rfl | rfl | rfl | rfl
        ·exact⟨.lst λx hx=>mg (hl x hx),by simp only[wt];lia⟩
        ·exact⟨.tup λx hx=>by
          rcases T4.mp hx with hx | hx
          ·exact mg (hl x hx)
          ·rw[TQ.mp hx];exact md go,by simp only[wt,iG,bu];lia⟩
        ·exact⟨(md Bc).mono (Tq _) (by lia),by lia⟩
        ·exact⟨.tup λx hx=>mg (hl x (List.mem_reverse.mp hx)),by simp only[wt,Cm];lia⟩
        ·exact⟨.tup λx hx=>mg (hl x (VR hx)),by simp only[wt];lia⟩
       obtain⟨x,hx,ex⟩:=BL (L:=[.lst l,.tup (l++[o1]),o2,.tup l.reverse,.tup (l.drop 1)]) (t:=t) gt;rw[ex,aq,hR];exact Rn.pure ⟨_,rfl,.mk (hm' _ hx).1 (hm' _ hx).2 hp4 (s1.trans (s2.trans (s3.trans s4)))⟩
      ·rw [Tw hz,aq,hK];clear hK hR K;have l0:0<l.length:=by
        cases l with
        |nil=>simp at hz
        |cons a l=>simp
       refine aH λK hK=>?_
       simp;refine Rn.bind (dJ (m:=l.length) hp1 l0 (by lia)) λd3 M2 ⟨a,ga',e,hp2,s2⟩=>?_
       subst e;rw[hK];clear hK K;have c1:=ww l a;have c2:=ww l (a+1);have c3:=eV (UV ga');have c4:bu (l.drop a)=wt l[a]+2+bu (l.drop (a+1)):=by rw[Ww ga'];simp only[bu]
       have to1:=Ph l a;have fr1:(rd (km (some ((a+1:Nat):Int)) none (.tup l)):DM D)=pure (.tup (l.drop (a+1))):=u6 l (a+1);have fr0:=u6 l a;have one:=QF ga';have hwt:wt (.tup l)=bu l+3:=by simp only[wt]
       have g1:∀x∈l.take a,Gd (B+10^12) (n+2) x:=λx hx=>mg (hl x (Wb hx))
       have g2:∀x∈l.drop (a+1),Gd (B+10^12) (n+2) x:=λx hx=>mg (hl x (VR hx))
       have g3:∀x∈l.drop a,Gd (B+10^12) (n+2) x:=λx hx=>mg (hl x (VR hx))
       have t1:(l.take a).length<=l.length:=by rw[VG];lia
       have t2:(l.drop (a+1)).length<=l.length:=by rw[VJ];lia
       have t3:(l.drop a).length<=l.length:=by rw[VJ];lia
       have ixa:(rd (bU (.tup l) (nD a)):DM D)=pure l[a]:=gP (Tj ga');have hza:=hl _ (UV ga');revert c1 c2 c3 c4 to1 fr1 fr0 one g1 g2 g3 t1 t2 t3 ixa hza;generalize l[a]=z;generalize l.take a=ta;generalize l.drop (a+1)=db;generalize l.drop a=da;intro c1 c2 c3 c4 to1 fr1 fr0 one g1 g2 g3 t1 t2 t3 ixa hza;refine bz λK hK hR=>?_
       by_cases h1:way=1
       ·have ad:(rd (b8 (.tup ta) (.tup db)):DM D)=pure (.tup (ta++db)):=iB (by lia)
        have ew1':(rd (cU (nD way) (.int 1)):DM D)=pure (.bl true):=by rw[ew1,Uk h1]
        simp[ew1',tu,to1];simp only[nF,aq,tu,fr1,ad,hR];refine Rn.pure ⟨_,rfl,.mk (.tup λx hx=>?_) ?_ hp2 (s1.trans s2)⟩
        ·rcases T4.mp hx with hx | hx
         ·exact g1 x hx
         ·exact g2 x hx
        ·rw[hwt];simp only[wt,iG];lia
       simp[ew1,h1];rw[hK];clear hK hR K;refine bz λK hK hR=>?_
       by_cases h2:way=2
       ·have ad:(rd (b8 (.tup ta) (.tup [z])):DM D)=pure (.tup (ta++[z])):=iB (by simp;lia)
        have ad':(rd (b8 (.tup (ta++[z])) (.tup da)):DM D)=pure (.tup (ta++[z]++da)):=iB (by simp;lia)
        have ew2':(rd (cU (nD way) (.int 2)):DM D)=pure (.bl true):=by rw[ew2,Uk h2]
        simp[ew2',tu,to1];simp only[nF,aq,tu,fr0,one,ad,ad',hR];refine Rn.pure ⟨_,rfl,.mk (.tup λx hx=>?_) ?_ hp2 (s1.trans s2)⟩
        ·rcases T4.mp hx with hx | hx
         ·rcases T4.mp hx with hx | hx
          ·exact g1 x hx
          ·rw[TQ.mp hx];exact mg hza
         ·exact g3 x hx
        ·rw[hwt];simp only[wt,iG,bu];lia
       simp[ew2,h2];rw[hK];clear hK hR K;simp[tu,to1,ixa];refine Rn.bind (ih (by lia) hza hp2 (by lia)) λr M3 ⟨⟨gr,wr⟩,hp3,s3⟩=>?_
       have mk1:ie [r]=pure (.tup [r]):=eE (by simp)
       have ad:(rd (b8 (.tup ta) (.tup [r])):DM D)=pure (.tup (ta++[r])):=iB (by simp;lia)
       have ad':(rd (b8 (.tup (ta++[r])) (.tup db)):DM D)=pure (.tup (ta++[r]++db)):=iB (by simp;lia)
       simp only[mk1,aq,ad,nF,tu,fr1,ad'];refine Rn.pure ⟨_,rfl,.mk (.tup λx hx=>?_) ?_ hp3 (s1.trans (s2.trans s3))⟩
       ·rcases T4.mp hx with hx | hx
        ·rcases T4.mp hx with hx | hx
         ·exact g1 x hx
         ·rw[TQ.mp hx];exact gr
        ·exact g2 x hx
       ·rw[hwt];simp only[wt,iG,bu];lia
    |_=>cases hT
   ·rw [Vd]at hT;simp[hT];simp[hd.isN];have odw:Rn (wA [.ref p]) M1 λr M'=>Jy B n d p M r M':=(uR hp1).mono λr M' ⟨⟨a,b⟩,c,e⟩=>.mk (a.mono (by lia) (by lia)) (by lia) c (s1.trans e)
    by_cases hN:isNm d=true
    ·obtain ⟨i,bi,e1,e2,e3⟩:=hd.num hN;have lt5:(rd (wR (nD way) (.int 5)):DM D)=pure (.bl (decide (way<5))):=Hc way 5;simp[hN,lt5];by_cases h5:way<5
     ·have ml:dH [.int (i+1),.int (i-1),.int (0-i),.bl true,.int (i+7)]=pure (.lst [.int (i+1),.int (i-1),.int (0-i),.bl true,.int (i+7)]):=b7 (by simp)
      have hm':∀x∈([.int (i+1),.int (i-1),.int (0-i),.bl true,.int (i+7)]:List D),Gd (B+10^12) (n+2) x/\wt x<=2*wt d+10000:=by
       intro x hx;simp only[List.mem_cons,List.not_mem_nil,or_false]at hx;rcases hx with rfl | rfl | rfl | rfl | rfl
       ·exact⟨.int (by lia),by simp only[wt];lia⟩
       ·exact⟨.int (by lia),by simp only[wt];lia⟩
       ·exact⟨.int (by lia),by simp only[wt];lia⟩
       ·exact⟨.bl _,by simp only[wt];lia⟩
       ·exact⟨.int (by lia),by simp only[wt];lia⟩
      obtain⟨x,hx,ex⟩:=BL (L:=[.int (i+1),.int (i-1),.int (0-i),.bl true,.int (i+7)]) (t:=way) h5;simp only[h5,↓reduceIte,e1,e2,e3,aq,ml,ex,hR];exact Rn.pure ⟨_,rfl,.mk (hm' _ hx).1 (hm' _ hx).2 hp1 s1⟩
     ·simp[h5];exact Rn.bind odw λr M' q=>by rw[hR];exact Rn.pure ⟨_,rfl,q⟩
    ·rw[Vd]at hN;simp[hN];exact Rn.bind odw λr M' q=>by rw[hR];exact Rn.pure ⟨_,rfl,q⟩
noncomputable def oh:D->Bool
 |.int _=>true
 |_=>false
noncomputable def eQ(n:Nat):D->Bool
 |.int i=>decide (0<=i)&&decide (i<n)
 |_=>false
theorem Gd.isB{B n:Nat}{d:D}(h:Gd B n d)(hN:isNm d=true):(rd (iZ [d,.ty "bool"]):DM D)=pure (.bl (!oh d)):=by
 cases h with
 |bl b=>exact cF (t := "bool") (λz=>rfl) (by decide)
 |int _=>exact cF (t := "int") (λz=>rfl) (by decide)
 |_=>cases hN
theorem Gd.iw{B n:Nat}{d:D}(h:Gd B n d):rN [d]=pure (.bl (oh d)):=by
 by_cases hN:isNm d=true
 ·simp[rN,jt,h.isN,hN,h.isB hN]
 ·have:oh d=false:=by cases d<;>first | rfl | (exact absurd rfl hN)
  rw[Vd]at hN;simp[rN,jt,h.isN,hN,this]
theorem Gd.ip{B n:Nat}{d:D}(h:Gd B n d)(m:Nat):wz [d,nD m]=pure (.bl (eQ m d)):=by
 by_cases hW:oh d=true
 ·cases h with
  | @int _ i hi=>
    have e1:(rd (wO (.int 0) (.int i)):DM D)=pure (.bl (decide (0<=i))):=Jm 0 i;have e2:(rd (wR (.int i) (nD m)):DM D)=pure (.bl (decide (i<m))):=Jo i m;by_cases h0:0<=i
    ·simp[wz,jr,(Gd.int (n:=0) hi).iw,oh,h0,e2,eQ]
    ·simp[wz,jr,(Gd.int (n:=0) hi).iw,oh,h0,eQ]
  |_=>cases hW
 ·have e:eQ m d=false:=by cases d<;>first | rfl | (exact absurd rfl hW)
  rw[Vd]at hW;simp[wz,jr,h.iw,hW,e]
noncomputable def xX:=aL 1 1 jJ
theorem Gd.lw{B n:Nat}{d:D}(h:Gd B n d):xX [d]=pure (.bl (oh d)):=by
 by_cases hN:isNm d=true
 ·simp[xX,jJ,h.isN,hN,h.isB hN]
 ·have:oh d=false:=by cases d<;>first | rfl | (exact absurd rfl hN)
  rw[Vd]at hN;simp[xX,jJ,h.isN,hN,this]
theorem lH{m:Nat}:∀ {l:List D},l.all (eQ m)=true->∃ ps:List Nat,l=ps.map nD/\∀ x∈ps,x<m
 |[],_=>⟨[],rfl,λz h=>by cases h⟩
 | d::l,h=>by
   rw[XF,U5]at h;obtain⟨ps,rfl,hp⟩:=lH h.2;have h1:=h.1;cases d with
   | int i=>
     simp only[eQ,Bool.and_eq_true,decide_eq_true_eq]at h1;refine⟨i.toNat::ps,?_,λx hx=>?_⟩
     ·have:nD i.toNat=.int i:=by unfold nD;congr 1;lia
      simp[this]
     ·rcases TV.mp hx with rfl | hx
      ·lia
      ·exact hp x hx
   |_=>cases h1
noncomputable def Nz(w:List Nat):Nat:=ga w (w.length-1)
theorem jC:∀ (l:List D) (k j:Nat) {d:D},(d8 k l)[j]?=some d->∃ x,l[j]?=some x/\d=.tup [nD (k + j),x]
 |[],k,j,d,h=>by simp[d8]at h
 |a::l,k,0,d,h=>by simp[d8]at h;exact⟨a,rfl,by simpa[nD] using h.symm⟩
 |a::l,k,j+1,d,h=>by
   obtain⟨x,h1,h2⟩:=jC l (k+1) j (by simpa[d8] using h)
   exact⟨x,by simpa using h1,by rw[h2,show k+1+j=k+(j+1) by lia]⟩
theorem zz:∀(l:List D) (k:Nat),(d8 k l).length=l.length
 |[],k=>rfl
 |a::l,k=>by simp[d8,zz l]
theorem JF{fe:ak->DM D}{x:Option D}{rest:ak}{l:List D}(e:D->D)(hl:l.length<=1000000)(h:∀d∈l,fe (some d::rest)=pure (e d)):
  dM (bc (gN 0) (λz=>pure true) (bA fe) l (x::rest) [])=pure (jx x l::rest,l.map e):=by
 have:=lu (x:=x) (rest:=rest) (as:=l) (fe:=fe) id e hl h;simpa using this
theorem Qf{ft:ak->DM Bool}{fe:ak->DM D}{x:Option D}{rest:ak}{l:List D}(p:D->Bool)(e:D->D)(hl:l.length<=1000000)(h1:∀d∈l,ft (some d::rest)=pure (p d))(h2:∀d∈l,p d=true->fe (some d::rest)=pure (e d)):
  dM (bc (gN 0) ft (bA fe) l (x::rest) [])=pure (jx x l::rest,(l.filter p).map e):=by
 have:=aR (x:=x) (rest:=rest) (as:=l) (ft:=ft) (fe:=fe) id p e hl h1 h2;simpa using this
theorem zQ(a b:List Nat):(rd (fW (.lst (a.map nD)) (.lst (b.map nD))):DM D)=pure (.bl (!decide (a=b))):=bO λM=>by
 have e:∀l:List Nat,l.map nD=(l.map λn:Nat=>(n:Int)).map D.int:=λl=>by rw[UT];rfl
 have d:=gJ (a.map λn:Nat=>(n:Int))
 have q:=iM (a.map λn:Nat=>(n:Int)) (b.map λn:Nat=>(n:Int))
 have c:decide ((a.map λn:Nat=>(n:Int))=(b.map λn:Nat=>(n:Int)))=decide (a=b):=by rw[T7,U6,U6];exact jK
 rw[e a,e b];simp only[fW,L3.eqB,eqP,toPy,gY,Option.map_some,PyData.canLay0,lay_ints,PyData.depth,PyData.eqv];rw[q,c,Tv (by rw[Bool.and_self,Bool.true_and];exact Uk (by lia))]
 rfl
theorem K3(k:Nat):(rd (fW (.lst (List.replicate k (.int 1))) (.lst [])):DM D)=pure (.bl (decide (k≠0))):=by
 have:=zQ (List.replicate k 1) [];rw[List.map_replicate]at this;rw[show (D.int 1)=nD 1 from rfl]
 refine this.trans ?_;congr 2;rw[T7];simp
theorem rm{a b:List D}(h:a.length+b.length<=1000000):(rd (b8 (.lst a) (.lst b)):DM D)=pure (.lst (a++b)):=bO λM=>by
 have:fu (a++b)=true:=by unfold fu;exact Uk (by show _<=2^24;rw[T3];lia)
 simp[b8,aX,I9,this]
theorem kO:∀l:List Nat,bu (l.map nD)=1923*l.length
 |[]=>rfl
 |a::l=>by have:=kO l;simp only[List.map_cons,bu,nD,wt,List.length_cons]at this ⊢;lia
end K
namespace K
open PySem L2 L3 N10 LB
inductive Rch(N:List (List Nat))(x:Nat):Nat->Prop
 |here:Rch N x x
 |step {y z:Nat}:Rch N x y->z∈gr N y->Rch N x z
theorem CP{ft:ak->DM Bool}{rest:ak}{n:Nat}{h:Nat->D}{x y:Option D}(p:Nat->Bool)(hn:n<=1000)(hf:∀ j,j<n->ft (some (nD j)::some (h j)::rest)=pure (p j)):
  ∃δ',dM (bc (gT 2 (fJ (gN 0) (fJ (gN 1) n6))) ft (bA (fH 0)) ((List.range n).map λj=>.tup [nD j,h j]) (x::y::rest) [])=pure (δ',((List.range n).filter p).map nD):=by
 let f1:D->D:=λd=>match d with | .tup [a,b]=>a | _=>.non
 let f2:D->D:=λd=>match d with | .tup [a,b]=>b | _=>.non
 let pd:D->Bool:=λd=>match d with | .tup [.int i,_]=>p i.toNat | _=>false
 obtain ⟨δ',q⟩:=tY (fg:=gT 2 (fJ (gN 0) (fJ (gN 1) n6))) (ft:=ft) (fe:=fH 0) (λδ=>∃ x y,δ=x::y::rest) (λd=>some (f1 d)::some (f2 d)::rest) pd f1 ((List.range n).map λj=>.tup [nD j,h j]) (x::y::rest) [] ⟨x,y,rfl⟩ (by simp;lia)
  (λd hd δ ⟨x,y,hδ⟩=>by
    obtain⟨j,_,rfl⟩:=Us.mp hd;exact⟨by subst hδ;rfl,_,_,rfl⟩) (λd hd=>by
    obtain⟨j,hj,rfl⟩:=Us.mp hd;have:=hf j (Tr.mp hj);show ft (some (nD j)::some (h j)::rest)=pure (p (j:Int).toNat);rw[Vq];exact this) (λd hd z=>by
    obtain⟨j,hj,rfl⟩:=Us.mp hd;rfl)
 refine⟨δ',?_⟩;rw[q,Qz,X8,List.filter_map,UT];congr 2
open Classical in
noncomputable def rc(N:List (List Nat))(x y:Nat):Bool:=decide (Rch N x y)
theorem qm{N:List (List Nat)}{x y:Nat}:rc N x y=true ↔ Rch N x y:=by classical exact⟨λh=>UG h,λh=>Uk h⟩
noncomputable def Dd(N:List (List Nat))(n:Nat):List (List Nat):=(List.range n).map λx=>(List.range n).filter (rc N x)
theorem LQ{ns:List Int}{x:Int}:x∈dC ns ↔ x∈ns:=by
 unfold dC;rw[(bV _).1.mem_iff];have:∀ (l acc:List Int),x∈l.foldl PyProof.Rows.step_dedup acc ↔ x∈acc\/x∈l:=by
  intro l;induction l with
  |nil=>intro acc;simp
  | cons a l ih=>
    intro acc;rw[V2,ih,<-LS.uv];by_cases h:a∈acc
    ·rw [Tv h];constructor
     ·rintro (h1 | h1)
      ·exact .inl h1
      ·exact .inr (.tail _ h1)
     ·rintro (h1 | h1)
      ·exact .inl h1
      ·rcases TV.mp h1 with rfl | h1
       ·exact .inl h
       ·exact .inr h1
    ·rw[Tw h,T4,TQ,TV,or_assoc]
 rw[this];simp
theorem Hs(ns:List Int):(dC ns).Nodup:=by
 unfold dC;rw[(bV _).1.nodup_iff];have:∀ (l acc:List Int),acc.Nodup->(l.foldl PyProof.Rows.step_dedup acc).Nodup:=by
  intro l;induction l with
  |nil=>intro acc h;exact h
  | cons a l ih=>
    intro acc h;rw[V2,<-LS.uv];by_cases q:a∈acc
    ·rw[Tv q];exact ih acc h
    ·rw[Tw q];refine ih _ (WR.mpr ⟨h,by simp,λx hx y hy e=>?_⟩)
     rw[TQ.mp hy]at e;exact q (e ▸ hx)
 exact this ns [] (by simp)
theorem OJ(a b:List Nat):(rd (cU (.lst (a.map nD)) (.lst (b.map nD))):DM D)=pure (.bl (decide (a=b))):=bO λM=>by
 have e:∀l:List Nat,l.map nD=(l.map λn:Nat=>(n:Int)).map D.int:=λl=>by rw[UT];rfl
 have d:=gJ (a.map λn:Nat=>(n:Int))
 have q:=iM (a.map λn:Nat=>(n:Int)) (b.map λn:Nat=>(n:Int))
 have c:decide ((a.map λn:Nat=>(n:Int))=(b.map λn:Nat=>(n:Int)))=decide (a=b):=by rw[T7,U6,U6];exact jK
 rw[e a,e b];simp only[cU,L3.eqB,eqP,toPy,gY,Option.map_some,PyData.canLay0,lay_ints,PyData.depth,PyData.eqv];rw[q,c,Tv (by rw[Bool.and_self,Bool.true_and];exact Uk (by lia))]
 rfl
theorem uQ(h:Nat->D):∀ (n k:Nat),d8 k ((List.range' k n).map h)=(List.range' k n).map λj=>.tup [nD j,h j]
 |0,k=>rfl
 |n+1,k=>by rw[List.range'_succ,Uu,Uu];show D.tup [.int (k:Int),h k]::d8 (k+1) _=_;rw[uQ h n (k+1)];rfl
noncomputable def cP(R:List (List Nat)):List (List Nat):=R.map λr=>(List.range r.length).filter λy=>decide (0<ga r y)
noncomputable def Eh:=aL 1 1 pB
theorem Og{R:List (List Nat)}{W:Nat}(h:WK R W):Eh [bQ R W]=pure (.lst ((cP R).map nT)):=by
 have n25:=h.n25;have as:o9 (nM R)=some (.fix (R.map nT)):=rfl;have ce:aZ 1 [] [some (bQ R W)]=[none]:=rfl;simp[Eh,pB,yN,as,lA,ce];rw[lu nT (λr=>nT ((List.range r.length).filter λy=>decide (0<ga r y))) (by lia) λr hr=>?_]
 ·simp[cP];rfl
 ·have lr:=h.row r hr;have en:uL [nT r]=some (.fix ((List.range r.length).map λj=>.tup [nD j,nD (ga r j)])):=by
   have e:r.map nD=(List.range' 0 r.length).map λj=>nD (ga r j):=by
    apply XQ
    ·simp
    ·intro i h1 h2;simp at h1;simp[lz h1]
   show some (Itn.fix (d8 0 (r.map nD)))=_;rw[e,uQ,List.range_eq_range']
  have ce2:aZ 2 [] [some (nT r)]=[none,none]:=rfl;obtain⟨δ',q⟩:=CP (rest:=[]) (n:=r.length) (h:=λj=>nD (ga r j)) (x:=none) (y:=none) (ft:=λδ=>opt δ[1]?.join>>=λa=>rd (iQ a (D.int 0))>>=eN) (λy=>decide (0<ga r y)) (by lia) λj hj=>by have gt:(rd (iQ (nD (ga r j)) (.int 0)):DM D)=pure (.bl (decide (0<ga r j))):=nJ (ga r j) 0;simp[gt]
  simp only[List.getElem?_cons_zero,Option.join_some,fM,aq,en,lA,ce2,q];rfl
theorem qX(R:List (List Nat)):(cP R).length=R.length:=by simp[cP]
theorem qd{R:List (List Nat)}{x:Nat}(hx:x<R.length):gr (cP R) x=(List.range (gr R x).length).filter λy=>decide (0<ga (gr R x) y):=by
 rw[gK (by rw[qX];exact hx),gK hx]
 simp[cP]
theorem Oh{R:List (List Nat)}{W:Nat}(h:WK R W)(x:Nat):∀ y∈gr (cP R) x,y<R.length:=λy hy=>by
 by_cases hx:x<R.length
 ·rw[qd hx]at hy;have:=Tr.mp (Ua.mp hy).1;rw[h.row _ (gr_mem hx)]at this;exact this
 ·have:gr (cP R) x=[]:=by unfold gr;rw[Vc,Uz (by rw[qX];lia)];rfl
  rw[this]at hy;cases hy
noncomputable def LD(R:List (List Nat)):List (List Nat):=Dd (cP R) R.length
theorem mK(R:List (List Nat)):(LD R).length=R.length:=by simp[LD,Dd]
noncomputable def sW(l:List Nat):List Int:=l.map λn:Nat=>(n:Int)
theorem Oc(l:List Nat):nT l=tupI (sW l):=by simp[nT,tupI,sW,nD,Function.comp_def]
theorem uA{R:List (List Nat)}{l:List Nat}(h:l∈LD R):l≠[]/\l.length<=R.length/\∀y∈l,y<R.length:=by
 obtain⟨x,hx,rfl⟩:=Us.mp h;have hx:=Tr.mp hx;refine⟨λz=>?_,?_,λy hy=>Tr.mp (Ua.mp hy).1⟩
 ·have:x∈(List.range R.length).filter (rc (cP R) x):=Ua.mpr ⟨Tr.mpr hx,qm.mpr .here⟩;rw[z]at this;cases this
 ·have:=Uq (rc (cP R) x) (List.range R.length)
  rwa [Uo]at this
theorem Ha{R:List (List Nat)}{i:Nat}(h:i<R.length):(rd (bU (nM R) (nD i)):DM D)=pure (nT (gr R i)):=gP (i:=i) (by rw[T8,Tj h,gK h];rfl)
noncomputable def dB(L:List (List Nat))(l:List Nat):Bool:=l.all λy=>decide (gr L y=l)
noncomputable def iI(L:List (List Nat)):List (List Int):=zZ (yC ((L.filter (dB L)).map sW))
theorem ut{n:Nat}{l:List Nat}(h:∀ x∈l,x<n):dC (l.map λn:Nat=>(n:Int))=((List.range n).filter λy=>decide (y∈l)).map λn:Nat=>(n:Int):=by
 refine fX ((List.perm_ext_iff_of_nodup (Hs _) ?_).mpr λx=>?_) (bV _).2 ?_
 ·rw[List.Nodup,WT];exact (List.nodup_range.filter _).imp λh z=>h (by lia)
 ·rw[LQ,Us,Us];constructor
  ·rintro⟨a,ha,rfl⟩;exact⟨a,Ua.mpr ⟨Tr.mpr (h a ha),by simpa using ha⟩,rfl⟩
  ·rintro⟨a,ha,rfl⟩;exact⟨a,by simpa using (Ua.mp ha).2,rfl⟩
 ·rw[WT];refine List.Pairwise.imp (λh=>?_) ((Wk (n:=n)).filter _)
  lia
noncomputable def ro(n:Nat)(A:Nat->Nat->Bool)(x:Nat):List Nat:=(List.range n).filter (A x)
noncomputable def cW(n:Nat)(A:Nat->Nat->Bool)(x:Nat):D:=.lst ((ro n A x).map nD)
theorem Hh{n:Nat}{l:List Nat}(h:∀x∈l,x<n)(hl:l.length<=60){M:Mo}:(λM=>(Aa [.lst (l.map nD)] M).map D.lst) M=some (.lst (((List.range n).filter λy=>decide (y∈l)).map nD)):=by
 have e:l.map nD=(l.map λn:Nat=>(n:Int)).map D.int:=by rw[UT];rfl
 show (Aa [.lst (l.map nD)] M).map D.lst=_;unfold Aa;simp only[aX,Option.bind_some];rw[e,n8,Option.bind_some,Tv (by simpa using hl),ut h]
 simp[nD]
noncomputable def dX(A:Nat->Nat->Bool)(m x:Nat):Nat->Nat->Bool:=λi j=>if i<x then A i j || (A i m&&A m j) else A i j
noncomputable def kJ(A:Nat->Nat->Bool)(n:Nat):Nat->Nat->Nat->Bool
 |0=>A
 |m+1=>dX (kJ A n m) m n
structure Wa(n:Nat)(E A:Nat->Nat->Bool)(m:Nat):Prop where
 refl:∀x,x<n->A x x=true
 base:∀x y,x<n->y<n->E x y=true->A x y=true
 tr:∀x y k,x<n->y<n->k<m->A x k=true->A k y=true->A x y=true
theorem Wa.step{n m:Nat}{E A:Nat->Nat->Bool}(h:Wa n E A m)(hm:m<n):Wa n E (dX A m n) (m + 1):=by
 have e:∀x y,x<n->dX A m n x y=(A x y || (A x m&&A m y)):=λx y hx=>by unfold dX;rw[Tv hx]
 refine⟨λx hx=>by rw[e x x hx,h.refl x hx];rfl,λx y hx hy hb=>by rw[e x y hx,h.base x y hx hy hb];rfl,λx y k hx hy hk h1 h2=>?_⟩
 have hkn:k<n:=by lia
 rw[e x k hx]at h1;rw[e k y hkn]at h2;rw[e x y hx];simp only[Bool.or_eq_true,Bool.and_eq_true]at h1 h2 ⊢
 by_cases c:k=m
 ·subst c;have a1:A x k=true:=by rcases h1 with z | z;exact z;exact z.1
  have a2:A k y=true:=by rcases h2 with z | z;exact z;exact z.2
  exact .inr ⟨a1,a2⟩
 ·have lk:k<m:=by lia
  rcases h1 with h1 | ⟨h1,h1'⟩
  ·rcases h2 with h2 | ⟨h2,h2'⟩
   ·exact .inl (h.tr x y k hx hy lk h1 h2)
   ·exact .inr ⟨h.tr x m k hx hm lk h1 h2,h2'⟩
  ·rcases h2 with h2 | ⟨h2,h2'⟩
   ·exact .inr ⟨h1,h.tr m y k hm hy lk h1' h2⟩
   ·exact .inr ⟨h1,h2'⟩
theorem Rch.trans{N:List (List Nat)}{x y z:Nat}(h1:Rch N x y)(h2:Rch N y z):Rch N x z:=by
 induction h2 with
 |here=>exact h1
 |step _ e ih=>exact ih.step e
noncomputable def A0(R:List (List Nat)):Nat->Nat->Bool:=λx y=>decide (y=x) || decide (0<ga (gr R x) y)
theorem lM{R:List (List Nat)}{W:Nat}(h:WK R W):∀ (m x y:Nat),m<=R.length->x<R.length->y<R.length->kJ (A0 R) R.length m x y=true->Rch (cP R) x y
 | 0,x,y,_,hx,hy,e=>by
   unfold kJ A0 at e;simp only[Bool.or_eq_true,decide_eq_true_eq]at e;rcases e with rfl | e
   ·exact .here
   ·refine .step .here ?_;rw[qd hx];exact Ua.mpr ⟨Tr.mpr (by rw[h.row _ (gr_mem hx)];exact hy),by simpa using e⟩
 |m+1,x,y,hm,hx,hy,e=>by
   unfold kJ dX at e;rw[Tv hx]at e;simp only[Bool.or_eq_true,Bool.and_eq_true]at e;rcases e with e | ⟨e1,e2⟩
   ·exact lM h m x y (by lia) hx hy e
   ·exact (lM h m x m (by lia) hx (by lia) e1).trans (lM h m m y (by lia) (by lia) hy e2)
theorem HH(R:List (List Nat)):∀m,m<=R.length->Wa R.length (A0 R) (kJ (A0 R) R.length m) m
 |0,_=>⟨λx z=>by simp[kJ,A0],λz z z z h=>h,λz z z z z h=>by lia⟩
 |m+1,hm=>(HH R m (by lia)).step (by lia)
set_option tactic.hygienic true in
theorem PJ{R:List (List Nat)}{W:Nat}(h:WK R W){x y:Nat}(hx:x<R.length)(hy:y<R.length):kJ (A0 R) R.length R.length x y=rc (cP R) x y:=by
 rw[T7,qm];refine⟨lM h _ x y (Tq _) hx hy,λr=>?_⟩
 have wa:=HH R R.length (Tq _);induction r with
 |here=>exact wa.refl x hx
 | step r e ih=>
   rename_i b c;have hb:b<R.length:=by
    cases r with
    |here=>exact hx
    |step _ e=>exact Oh h _ _ e
   have b1:=ih hb;rw[qd hb]at e;exact wa.tr x c b hx hy hb b1 (wa.base b c hb hy (by
    unfold A0;have:=(Ua.mp e).2;simp at this ⊢
    exact .inr this))
theorem PB{R:List (List Nat)}{W:Nat}(h:WK R W):(List.range R.length).map (ro R.length (kJ (A0 R) R.length R.length))=LD R:=by
 unfold LD Dd;refine Wx λx hx=>?_
 unfold ro;exact Xw λy hy=>PJ h (Tr.mp hx) (Tr.mp hy)
noncomputable def xV:=aL 1 5 uF
noncomputable def eG(M M':Mo):Prop:=∀(j:Nat) (o:DO),M[j]?=some o->M'[j]?=some o
theorem JQ(i:Nat)(l:List Nat):(rd (inD (nD i) (.lst (l.map nD))):DM D)=Pure.pure (.bl (l.contains i)):=bO λM=>by show ((intsOf (l.map nD))).map _=_;rw[dU,WP,tR]
theorem Pa{n:Nat}{A:Nat->Nat->Bool}{x m:Nat}(hm:m<n):(ro n A x).contains m=A x m:=by rw[T7,List.contains_iff_mem];unfold ro;rw[Ua,Tr];exact⟨λh=>h.2,λh=>⟨hm,h⟩⟩
theorem oV{n:Nat}{A B:Nat->Nat->Bool}{x:Nat}(h:∀y,y<n->A x y=B x y):cW n A x=cW n B x:=by unfold cW ro;rw[Xw λy hy=>h y (Tr.mp hy)]
theorem Hu{A:Nat->Nat->Bool}{m x i j:Nat}(h:i≠x):dX A m (x+1) i j=dX A m x i j:=by
 unfold dX;by_cases c:i<x
 ·rw[Tv c,Tv (by lia)]
 ·rw[Tw c,Tw (by lia)]
theorem Ab{A:Nat->Nat->Bool}{m x j:Nat}:dX A m x x j=A x j:=by unfold dX;rw[Tw (by lia)]
theorem Ac{A:Nat->Nat->Bool}{m x j:Nat}:dX A m (x+1) x j=(A x j || (A x m&&A m j)):=by unfold dX;rw[Tv (by lia)]
theorem Mi{A:Nat->Nat->Bool}{m x j:Nat}:dX A m x m j=A m j:=by
 unfold dX;split
 ·cases A m j<;>simp
 ·rfl
set_option tactic.hygienic true in
theorem zU{n x m:Nat}{A:Nat->Nat->Bool}(hx:x<n){d:D}(hd:d=cW n (dX A m (x + 1)) x):((List.range n).map (cW n (dX A m x))).set x d=(List.range n).map (cW n (dX A m (x + 1))):=by
 apply XQ
 ·simp
 ·intro i h1 h2;simp at h1;rw[List.getElem_set];split
  ·rename_i e;subst e;rw[hd];simp
  ·rename_i e;simp;exact oV λy w=>(Hu (λz=>e z.symm)).symm
noncomputable def RW(R:List (List Nat))(M0:Mo)(m:Nat)(δ:ak)(M:Mo):Prop:=(∃z3 z4,δ=[some (nM R),some (nD R.length),some (.ref M0.length),z3,z4])/\eG M0 M/\M[M0.length]?=some (.lst ((List.range R.length).map (cW R.length (kJ (A0 R) R.length m))))
noncomputable def RT(R:List (List Nat))(M0:Mo)(m x:Nat)(δ:ak)(M:Mo):Prop:=(∃z4,δ=[some (nM R),some (nD R.length),some (.ref M0.length),some (nD m),z4])/\eG M0 M/\M[M0.length]?=some (.lst ((List.range R.length).map (cW R.length (dX (kJ (A0 R) R.length m) m x))))
theorem Kz{R:List (List Nat)}{W:Nat}(h:WK R W)(M:Mo):Rn (xV [nM R]) M λd M'=>d=nM (LD R)/\eG M M':=by
 have n1:=h.n1;have n25:=h.n25;have l0:(rd (dZ [nM R]):DM D)=pure (nD R.length):=by simp[nM,nD]
 unfold xV uF oJ;dsimp only;refine Rn.call rfl ?_;have st:bJ 5 [nM R]=[some (nM R),none,none,none,none]:=rfl;rw[st];refine aH λK hK=>?_
 simp[l0];rw[hK];clear hK K;refine aH λK hK=>?_
 simp[cV (n:=R.length) (by lia),lA]
 have ce:aZ 1 [1,0] [some (nM R),some (nD R.length),none,none,none]=[none,some (nD R.length),some (nM R)]:=rfl;rw[ce,lu nD (cW R.length (A0 R)) (by simp;lia) λx hx=>?_]
 rotate_left
 ·have hx:=Tr.mp hx;have lr:=h.row _ (gr_mem hx);have m1:dH [nD x]=pure (.lst ([x].map nD)):=b7 (by simp)
  have ce2:aZ 1 [2,0] [some (nD x),some (nD R.length),some (nM R)]=[none,some (nM R),some (nD x)]:=rfl;simp only[cD,m1,cV (n:=R.length) (by lia),lA,ce2]
  rw[aR nD (λy=>decide (0<ga (gr R x) y)) nD (by simp;lia) (λy hy=>?_) (λy hy w=>by simp)]
  rotate_left
  ·have hy:=Tr.mp hy;have gt:(rd (iQ (nD (ga (gr R x) y)) (.int 0)):DM D)=pure (.bl (decide (0<ga (gr R x) y))):=nJ _ 0;simp[Ha (R:=R) (i:=x) hx,uY (l:=gr R x) (i:=y) (by lia),gt]
  have fl:=Uq (λy=>decide (0<ga (gr R x) y)) (List.range R.length)
  rw[Uo]at fl;simp only[aq];rw[rA (a:=[x]) (b:=(List.range R.length).filter λy=>decide (0<ga (gr R x) y)) (by simp;lia),aq]
  refine bO λM=>?_
  have fl':([x]++(List.range R.length).filter λy=>decide (0<ga (gr R x) y)).length<=60:=by simp;lia
  refine (Hh (n:=R.length) (λy hy=>?_) fl').trans ?_
  rotate_left
  ·unfold cW ro;congr 3;refine Xw λy hy=>?_
   unfold A0;rw[T7];simp[List.mem_range.mp hy]
  ·rcases T4.mp hy with z | z
   ·simp at z;lia
   ·exact Tr.mp (Ua.mp z).1
 simp only[aq];refine Rn.run (a:=.ref M.length) (M':=M++[.lst ((List.range R.length).map (cW R.length (A0 R)))]) rfl ?_;rw[hK];clear hK K;have kp0:eG M (M++[.lst ((List.range R.length).map (cW R.length (A0 R)))]):=λj o e=>by rw[T5 (Ti.mp e).1];exact e
 have at0:(M++[.lst ((List.range R.length).map (cW R.length (A0 R)))])[M.length]?=some (.lst ((List.range R.length).map (cW R.length (kJ (A0 R) R.length 0)))):=by simp[kJ]
 revert kp0 at0;generalize M++[.lst ((List.range R.length).map (cW R.length (A0 R)))]=M1;intro kp0 at0;refine aH λK hK=>?_
 simp[cV (n:=R.length) (by lia),fF]
 refine Rn.bind (bZ (RW R M) _ 0 _ _ ⟨⟨_,_,rfl⟩,kp0,at0⟩ (λm d δ M2 hm hI=>?_)) (λr M2 hI=>?_)
 ·clear hK K;obtain⟨⟨z3,z4,rfl⟩,kp,at2⟩:=hI;obtain⟨hm',rfl⟩:=oR hm;rw[Up]at at2 ⊢
  simp only[dm,cD,dN,cV (n:=R.length) (by lia),fF]
  have at3:M2[M.length]?=some (.lst ((List.range R.length).map (cW R.length (dX (kJ (A0 R) R.length m) m 0)))):=by rw[at2];congr 3
  refine (bZ (RT R M m) _ 0 _ _ ⟨⟨_,rfl⟩,kp,at3⟩ (λx d δ M3 hx hI=>?_)).mono λr M3 hI=>?_
  ·obtain ⟨⟨z4,rfl⟩,kp3,at3⟩:=hI;obtain⟨hx',rfl⟩:=oR hx;rw[Up]at at3 ⊢
   have q3:=(Ti.mp at3).1;generalize hA:kJ (A0 R) R.length m=A at at3;have ix:∀i,i<R.length->bU (.ref M.length) (nD i) M3=some (cW R.length (dX A m x) i):=λi hi=>jQ (i:=i) at3 (by rw[T8,Vz hi];rfl)
   have ex:cW R.length (dX A m x) x=cW R.length A x:=oV λy w=>Ab
   have em:cW R.length (dX A m x) m=cW R.length A m:=oV λy w=>Mi
   simp only[dm,cD,dN];refine Rn.bindRd _ (ix x hx') ?_;rw[ex];have inn:(rd (inD (nD m) (cW R.length A x)):DM D)=pure (.bl (A x m)):=by unfold cW;rw[JQ,Pa hm']
   simp only[inn,aq,jz];cases hc:A x m with
   | true=>
     rw[Tv rfl];refine Rn.bindRd _ (ix x hx') ?_;refine Rn.bindRd _ (ix m hm') ?_;rw[ex,em];have f1:=Uq (A x) (List.range R.length);have f2:=Uq (A m) (List.range R.length);rw[Uo]at f1 f2;have ad:(rd (b8 (cW R.length A x) (cW R.length A m)):DM D)=pure (.lst ((ro R.length A x++ro R.length A m).map nD)):=rA (by unfold ro;lia)
     simp only[ad,aq];refine Rn.bindRd _ (Hh (n:=R.length) (l:=ro R.length A x++ro R.length A m) (λy hy=>?_) (by unfold ro;rw[T3];lia)) ?_
     ·rcases T4.mp hy with z | z
      ·exact Tr.mp (Ua.mp z).1
      ·exact Tr.mp (Ua.mp z).1
     refine Rn.run (rF (i:=x) at3 (by simpa using hx')) ?_
     have er:D.lst (((List.range R.length).filter λy=>decide (y∈ro R.length A x++ro R.length A m)).map nD)=cW R.length (dX A m (x+1)) x:=by
      unfold cW;congr 2;unfold ro;refine Xw λy hy=>?_
      rw[Ac,hc,T7];simp[List.mem_range.mp hy]
     rw[zU hx' er];refine Rn.pure ⟨_,rfl,⟨_,rfl⟩,λj o e=>?_,by rw[UJ q3,hA]⟩
     rw[Vn (λz=>by have:=(Ti.mp e).1;lia)]
     exact kp3 j o e
   | false=>
     rw[Tw (by decide)]
     refine Rn.pure ⟨_,rfl,⟨_,rfl⟩,kp3,?_⟩;rw[at3,hA];congr 2;have e:=zU (m:=m) (A:=A) hx' (d:=cW R.length (dX A m (x+1)) x) rfl;rw[<-e];symm;have:cW R.length (dX A m (x+1)) x=((List.range R.length).map (cW R.length (dX A m x)))[x]'(by simpa using hx'):=by simp;exact oV λy w=>by rw[Ac,Ab,hc];simp
     rw[this,List.set_getElem_self]
  ·obtain⟨δ',rfl,⟨z4,rfl⟩,kp3,at3⟩:=hI;rw[Tz,Uo,Up]at at3;exact⟨_,rfl,⟨_,_,rfl⟩,kp3,at3⟩
 ·obtain⟨δ',rfl,⟨z3,z4,rfl⟩,kp,at2⟩:=hI;rw[Tz,Uo,Up]at at2;rw[hK];clear hK K;have ce3:aZ 1 [] [some (nM R),some (nD R.length),some (D.ref M.length),z3,z4]=[none]:=rfl;simp[ce3];have at3:M2[M.length]?=some (.lst (((List.range R.length).map (ro R.length (kJ (A0 R) R.length R.length))).map λl=>.lst (l.map nD))):=by rw[at2,UT];rfl
  refine Ko (λl:List Nat=>.lst (l.map nD)) nT at3 (by simp;lia) (λl w=>?_) (λl=>pure (Fl.rt (D.tup l))) (λq=>rfl) ?_
  ·simp;rfl
  ·refine Rn.pure ⟨_,rfl,?_,kp⟩;rw[PB h];rfl
noncomputable def xW:=aL 1 3 (rT xV)
theorem O3(a b:List Nat):(rd (fW (nT a) (nT b)):DM D)=pure (.bl (!decide (a=b))):=bO λM=>by
 have e:∀l:List Nat,l.map nD=(l.map λn:Nat=>(n:Int)).map D.int:=λl=>by rw[UT];rfl
 have d:=gJ (a.map λn:Nat=>(n:Int))
 have q:=iM (a.map λn:Nat=>(n:Int)) (b.map λn:Nat=>(n:Int))
 have c:decide ((a.map λn:Nat=>(n:Int))=(b.map λn:Nat=>(n:Int)))=decide (a=b):=by rw[T7,U6,U6];exact jK
 unfold nT;rw[e a,e b];simp only[fW,L3.eqB,eqP,toPy,gY,Option.map_some,PyData.canLay0,lay_ints,PyData.depth,PyData.eqv];rw[q,c,Tv (by rw[Bool.and_self,Bool.true_and];exact Uk (by lia))]
 rfl
theorem Ho{R:List (List Nat)}:JW (((LD R).filter (dB (LD R))).map nT)=some (.lst ((iI (LD R)).map tupI)):=by
 have e:((LD R).filter (dB (LD R))).map nT=((((LD R).filter (dB (LD R))).map sW)).map tupI:=by rw[UT];exact Wx λl y=>Oc l
 rw[e];unfold JW;rw[vh λt ht=>by obtain⟨l,hl,rfl⟩:=Us.mp ht;exact λz=>(uA (Ua.mp hl).1).1 (by unfold sW at z;simpa using z)]
 rfl
theorem KD{R:List (List Nat)}{W:Nat}(h:WK R W)(hn:R.length<=18)(M:Mo):Rn (xW [nM R]) M λd M'=>d=.tup ((iI (LD R)).map tupI)/\eG M M':=by
 unfold xW rT lW;dsimp only;refine Rn.call rfl ?_;have st:bJ 3 [nM R]=[some (nM R),none,none]:=rfl;rw[st];refine aH λK hK=>?_
 simp;refine Rn.bind (Kz h M) λd M1 ⟨e,k1⟩=>?_
 subst e;rw[hK];clear hK K;refine aH λK hK=>?_
 have as:o9 (nM (LD R))=some (.fix ((LD R).map nT)):=rfl;have ce:aZ 1 [1] [some (nM R),some (nM (LD R)),none]=[none,some (nM (LD R))]:=rfl;have m0:dH []=pure (.lst []):=b7 (by simp)
 simp[as,lA,ce];rw[aR nT (dB (LD R)) nT (by rw[mK];lia) (λl hl=>?_) (λl z z=>by simp)]
 rotate_left
 ·have hl':=uA hl;have at':o9 (nT l)=some (.fix (l.map nD)):=rfl;have ce2:aZ 1 [1,0] [some (nT l),some (nM (LD R))]=[none,some (nM (LD R)),some (nT l)]:=rfl;simp only[List.getElem?_cons_zero,Option.join_some,fM,aq,at',lA,ce2];rw[aR nD (λy=>!decide (gr (LD R) y=l)) nD (by lia) (λy hy=>by simp[Ha (R:=LD R) (i:=y) (by rw[mK];exact hl'.2.2 y hy),O3]) (λy z z=>by simp)]
  have eq:(rd (cU (.lst ((l.filter λy=>!decide (gr (LD R) y=l)).map nD)) (.lst [])):DM D)=pure (.bl (decide ((l.filter λy=>!decide (gr (LD R) y=l))=[]))):=OJ _ []
  simp only[aq,m0,eq,jz];congr 1;unfold dB;rw[T7,U6,Wj,Uh];exact⟨λh y hy=>by simpa using h y hy,λh y hy=>by simpa using h y hy⟩
 simp only[aq];rw[hK];clear hK K;simp;have fl:=Uq (dB (LD R)) (LD R);rw[mK]at fl;refine Rn.bindRd (.lst ((iI (LD R)).map tupI)) ?_ ?_
 ·show xK [.lst (((LD R).filter (dB (LD R))).map nT)] M1=_;simp only[xK,aX,Option.bind_some];rw[Tv (by rw[Tz];lia),Ho]
 ·exact Rn.bindRd (.tup ((iI (LD R)).map tupI)) rfl (Rn.pure ⟨_,rfl,rfl,k1⟩)
theorem Eo{L:List (List Nat)}:∀ {l:List (List Int)},(∀ t∈l,t∈L.map sW)->∃ Y:List (List Nat),l=Y.map sW/\∀ y∈Y,y∈L
 |[],_=>⟨[],rfl,λy h=>by cases h⟩
 | t::l,h=>by
   obtain⟨Y,e,k⟩:=Eo (l:=l) λx hx=>h x (.tail _ hx)
   obtain⟨y,hy,rfl⟩:=Us.mp (h t T6);exact⟨y::Y,by rw[e];rfl,λz hz=>by
    rcases TV.mp hz with rfl | hz
    ·exact hy
    ·exact k z hz⟩
theorem Kc{t:List Int}{ts:List (List Int)}(h:t∈yC ts):t∈ts:=by
 have key:∀ (ts acc:List (List Int)),t∈ts.foldl mR acc->t∈acc\/t∈ts:=by
  intro ts;induction ts with
  |nil=>intro acc h;exact .inl h
  | cons u ts ih=>
    intro acc h;rcases ih (mR acc u) h with z | z
    ·unfold mR at z;split at z
     ·exact .inl z
     ·rcases T4.mp z with z | z
      ·exact .inl z
      ·exact .inr (by rw[TQ.mp z];exact T6)
    ·exact .inr (.tail _ z)
 rcases key ts [] h with z | z
 ·cases z
 ·exact z
theorem cN.kpt{p:Nat}{M M':Mo}(h:cN p M)(k:eG M M'):cN p M':=by obtain⟨a,b,c,hc,e⟩:=h;exact⟨a,b,c,hc,k _ _ e⟩
end K
namespace K
open PySem L2 L3 N10
theorem gj{tg:D->ak->DM ak}{fb:ak->DM Fl}(I:Nat->ak->Mo->Prop)(P:D->Mo->Prop):∀ (ds:List D) (i:Nat) (δ:ak) (M:Mo),I i δ M->(∀ j d δ M,ds[j]?=some d->I (i + j) δ M->Rn (tg d δ >>= fb) M λr M'=>(∃ δ',r=.nx δ'/\I (i + j + 1) δ' M')\/∃ d,r=.rt d/\P d M')->Rn (forL tg fb ds δ) M λr M'=>(∃ δ',r=.nx δ'/\I (i + ds.length) δ' M')\/∃ d,r=.rt d/\P d M'
 |[],i,δ,M,h,_=>Rn.pure (.inl ⟨δ,rfl,h⟩)
 | d::ds,i,δ,M,h,st=>by
   have s:=st 0 d δ M rfl h;have e:forL tg fb (d::ds) δ=(tg d δ>>=fb)>>=λr=>match r with
    |.nx δ2=>forL tg fb ds δ2
    |.ct δ2=>forL tg fb ds δ2
    |.bk δ2=>Pure.pure (.nx δ2)
    |.rt d=>Pure.pure (.rt d):=by rw[aN];rfl
   rw[e];refine Rn.bind s λr M' h=>?_
   rcases h with ⟨δ',e,h'⟩ | ⟨d',e,h'⟩
   ·subst e;have ih:=gj I P ds (i+1) δ' M' h' (λj d δ M hj hI=>by
     have:=st (j+1) d δ M (by simpa using hj) (by rw[show i+(j+1)=i+1+j by lia];exact hI)
     rw[show i+1+j+1=i+(j+1)+1 by lia];exact this)
    rw[show i+(d::ds).length=i+1+ds.length by simp;lia]
    exact ih
   ·subst e;exact Rn.pure (.inr ⟨_,rfl,h'⟩)
noncomputable def PQ(M0:Mo)(rest:ak)(p:Nat->Bool)(i:Nat)(δ:ak)(l:List D)(M:Mo):Prop:=(∃z,δ=z::rest)/\l=((List.range i).filter p).map nD/\M=M0
theorem CQ{ft:ak->DM Bool}{fe:ak->DM D}{rest:ak}{n:Nat}{p:Nat->Bool}{M:Mo}{x:Option D}(hn:n<=1000)(h:∀ j,j<n->Rn (ft (some (nD j)::rest)) M λb M'=>b=p j/\M'=M)(h2:∀ j,j<n->fe (some (nD j)::rest)=pure (nD j)):
  Rn (bc (gN 0) ft (bA fe) ((List.range n).map nD) (x::rest) []) M λq M'=>M'=M/\q.2=((List.range n).filter p).map nD:=by
 refine (p8 (PQ M rest p) ((List.range n).map nD) 0 (x::rest) [] M ⟨⟨x,rfl⟩,rfl,rfl⟩ (λj d δ l M1 hj hI=>?_)).mono λq M' hI=>?_
 ·obtain ⟨⟨z,rfl⟩,rfl,rfl⟩:=hI;obtain⟨hj',rfl⟩:=oR hj;have le:=Uq p (List.range j);rw[Uo]at le;have lt:(((List.range (0+j)).filter p).map nD).length<sizeLine:=by
   show _<2^24;rw[Tz,Up]
   lia
  rw[dN,aq];refine Rn.bind (h j hj') λb M' ⟨e1,e2⟩=>?_
  subst e1 e2;rw[Up]at lt ⊢
  cases hp:p j with
  |true=>rw[Tv rfl];unfold bA;show Rn (fe (some (nD j)::rest)>>=_) _ _;rw[h2 j hj',aq,Tv lt];exact Rn.pure ⟨⟨_,rfl⟩,by simp[List.range_succ,List.filter_append,hp],rfl⟩
  |false=>
    rw[Tw (by decide)]
    exact Rn.pure ⟨⟨_,rfl⟩,by simp[List.range_succ,List.filter_append,hp],rfl⟩
 ·obtain⟨_,e1,e2⟩:=hI;exact⟨e2,by rw[e1];simp⟩
noncomputable def lD(l:List Nat):D:=.lst (l.map nD)
theorem vJ(xs:List Nat):(rd (fW (lD xs) (.lst [])):DM D)=pure (.bl (!xs.isEmpty)):=by have:=zQ xs [];refine this.trans ?_;congr 2;cases xs<;>simp
noncomputable def can(R:List (List Nat))(l:List Nat)(y:Nat):Bool:=!(l.filter λx=>decide (0<ga (gr R x) y)).isEmpty
noncomputable def nxt(R:List (List Nat))(l:List Nat):List Nat:=(List.range R.length).filter (can R l)
noncomputable def dW(R:List (List Nat)):Nat->Nat->List Nat
 |0,x=>[x]
 |k+1,x=>nxt R (dW R k x)
theorem GJ{R:List (List Nat)}{l:List Nat}{y:Nat}(h:y∈nxt R l):y<R.length:=Tr.mp (Ua.mp h).1
theorem K5(R:List (List Nat))(l:List Nat):(nxt R l).length<=R.length:=Ue (Uq _ _) (by simp)
theorem zc{R:List (List Nat)}{x:Nat}(hx:x<R.length):∀{k y:Nat},y∈dW R k x->y<R.length
 |0,y,h=>by rw[TQ.mp h];exact hx
 |k+1,y,h=>GJ h
theorem Bl{R:List (List Nat)}{x:Nat}(hx:1<=R.length):∀k:Nat,(dW R k x).length<=R.length
 |0=>hx
 |k+1=>K5 R _
theorem Jd{R:List (List Nat)}{W:Nat}{l:List Nat}(wk:WK R W)(hl:∀x∈l,x<R.length)(hn:l.length<=1000){z:Option D}(y:Nat)(hy:y<R.length):(dM (bc (gN 0) (λδ=>opt δ[1]?.join>>=λa=>opt δ[0]?.join>>=λb=>rd (bU a b)>>=λa=>opt δ[2]?.join>>=λb=>rd (bU a b)>>=λa=>rd (iQ a (.int 0))>>=eN) (bA (fH 0)) (l.map nD) [none,some (nM R),some (nD y)] [])>>=λp=>dH []>>=λb=>rd (fW (.lst p.2) b)>>=eN)=pure (can R l y):=by
 have c:=aR (x:=none) (rest:=[some (nM R),some (nD y)]) (as:=l) (ft:=λδ=>opt δ[1]?.join>>=λa=>opt δ[0]?.join>>=λb=>rd (bU a b)>>=λa=>opt δ[2]?.join>>=λb=>rd (bU a b)>>=λa=>rd (iQ a (.int 0))>>=eN) (fe:=fH 0) nD (λx=>decide (0<ga (gr R x) y)) nD (by lia) (λx hx=>by
  have g:∀a:Nat,(rd (iQ (nD a) (.int 0)):DM D)=pure (.bl (decide (0<a))):=λa=>nJ a 0
  simp only[cD];simp only[rB (hl x hx),aq,uY (l:=gr R x) (i:=y) (by rw[wk.row _ (gr_mem (hl x hx))];exact hy),g,jz]) (λw w w=>by simp)
 have m0:dH []=pure (.lst []):=b7 (by simp)
 have:=vJ (l.filter λx=>decide (0<ga (gr R x) y))
 unfold lD at this;rw[c,aq,m0,aq,this,aq,jz];rfl
theorem KJ{R:List (List Nat)}{l:List Nat}{y:Nat}(h:y∈nxt R l):∃ z,z∈l/\0<ga (gr R z) y:=by
 have h:=(Ua.mp h).2;unfold can at h;cases e:l.filter λx=>decide (0<ga (gr R x) y) with
 |nil=>rw[e]at h;cases h
 |cons a t=>
   have:a∈l.filter λx=>decide (0<ga (gr R x) y):=by rw[e];exact .head _
   rw[Ua]at this;exact⟨a,this.1,by simpa using this.2⟩
theorem Ku{n:Nat}{M:Mo}{l:List D}(h:M[n]?=some (.lst l))(h0:0<l.length):bU (.ref n) (.int (-1)) M=some (l[l.length-1]'(by lia)):=by
 show (aX (.ref n) M).bind _=_;simp only[aX,h,Option.bind_some];unfold atI;have e:ixN l.length (-1)=some (l.length-1):=by
  unfold ixN;rw[Tw (by lia),Tv (by lia)]
  congr 1
  lia
 rw[e];exact Tj (by lia)
noncomputable def PX(M0:Mo)(rest:ak)(p:Nat->Bool)(L:List Nat)(i:Nat)(δ:ak)(l:List D)(M:Mo):Prop:=(∃z,δ=z::rest)/\l=((L.take i).filter p).map nD/\M=M0
theorem CT{ft:ak->DM Bool}{fe:ak->DM D}{rest:ak}{L:List Nat}{p:Nat->Bool}{M:Mo}{x:Option D}(hn:L.length<=1000)(h:∀ y∈L,Rn (ft (some (nD y)::rest)) M λb M'=>b=p y/\M'=M)(h2:∀ y∈L,fe (some (nD y)::rest)=pure (nD y)):
  Rn (bc (gN 0) ft (bA fe) (L.map nD) (x::rest) []) M λq M'=>M'=M/\q.2=(L.filter p).map nD:=by
 refine (p8 (PX M rest p L) (L.map nD) 0 (x::rest) [] M ⟨⟨x,rfl⟩,by simp,rfl⟩ (λj d δ l M1 hj hI=>?_)).mono λq M' hI=>?_
 ·obtain ⟨⟨z,rfl⟩,rfl,rfl⟩:=hI;rw[T8]at hj;obtain⟨y,hy,rfl⟩:=Tp.mp hj;obtain⟨hj',rfl⟩:=Ti.mp hy;have le:=Uq p (L.take (0+j));rw[VG]at le;have lt:(((L.take (0+j)).filter p).map nD).length<sizeLine:=by
   show _<2^24;rw[Tz]
   lia
  have tk:L.take (j+1)=L.take j++[L[j]]:=List.take_succ_eq_append_getElem hj';have hm:=UV hj';rw[dN,aq];refine Rn.bind (h _ hm) λb M' ⟨e1,e2⟩=>?_
  subst e1 e2;rw[Up]at lt ⊢
  cases hp:p L[j] with
  |true=>rw[Tv rfl];unfold bA;show Rn (fe (some (nD L[j])::rest)>>=_) _ _;rw[h2 _ hm,aq,Tv lt];exact Rn.pure ⟨⟨_,rfl⟩,by rw[tk,List.filter_append,Wc];simp[hp],rfl⟩
  |false=>
    rw[Tw (by decide)]
    exact Rn.pure ⟨⟨_,rfl⟩,by rw[tk,List.filter_append,Wc];simp[hp],rfl⟩
 ·obtain⟨_,e1,e2⟩:=hI;exact⟨e2,by rw[e1];simp⟩
noncomputable def eZ(R:List (List Nat))(x m:Nat):List D:=(List.range m).map λi=>lD (dW R i x)
noncomputable def sZ:=aL 3 5 pN
noncomputable def RV(R:List (List Nat))(M0:Mo)(x m q:Nat)(i:Nat)(δ:ak)(M:Mo):Prop:=(∃z,δ=[some (nM R),some (nD x),some (nD m),some (.ref q),z])/\M[q]?=some (.lst (eZ R x (i+1)))/\eG M0 M
theorem eG.set{M0 M:Mo}{q:Nat}{o:DO}(h:eG M0 M)(hq:M0.length<=q):eG M0 (M.set q o):=λj o' e=>by have hj:=(Ti.mp e).1;rw[Vn (by lia)];exact h j o' e
theorem eG.push{M:Mo}{o:DO}:eG M (M++[o]):=λj o' e=>by rw[T5 (Ti.mp e).1];exact e
theorem eG.trans{M M1 M2:Mo}(a:eG M M1)(b:eG M1 M2):eG M M2:=λj o e=>b j o (a j o e)
theorem Bh{R:List (List Nat)}{W x m:Nat}(wk:WK R W)(hn:R.length<=6)(hx:x<R.length)(hm:m<=100)(M:Mo):Rn (sZ [nM R,nD x,nD m]) M λd M'=>d=.ref M.length/\M'[M.length]?=some (.lst (eZ R x (m + 1)))/\eG M M':=by
 have n1:=wk.n1;unfold sZ pN jW;dsimp only;refine Rn.call rfl ?_;have st:bJ 5 [nM R,nD x,nD m]=[some (nM R),some (nD x),some (nD m),none,none]:=rfl;rw[st];refine aH λK hK=>?_
 have ml:dH [nD x]=pure (.lst [nD x]):=b7 (by simp)
 simp[ml];refine Rn.gM (by simp) ?_
 rw[hK];clear hK K;have at0:(M++[DO.lst [.lst [nD x]]])[M.length]?=some (.lst (eZ R x 1)):=by simp[eZ,dW,lD]
 have k0:eG M (M++[DO.lst [.lst [nD x]]]):=eG.push;have ql:M.length<=M.length:=Tq _;revert at0 k0 ql;generalize hq:M.length=q;generalize M++[DO.lst [.lst [nD x]]]=M1;intro at0 k0 ql;refine aH λK hK=>?_
 simp[cV (n:=m) (by lia),fF]
 refine Rn.bind (bZ (RV R M x m q) _ 0 _ _ ⟨⟨_,rfl⟩,at0,k0⟩ (λi d δ M5 hi hI=>?_)) (λr M5 hI=>?_)
 ·obtain⟨⟨z,rfl⟩,a5,k5⟩:=hI;clear hK K;rw[Up]at a5 ⊢
  rw[dN,aq];simp[fL,cV (n:=R.length) (by lia),aZ,dq]
  refine Rn.bindRd (eZ R x (i+1)) (by simp only[aX,a5]) ?_
  have ll:(eZ R x (i+1)).length=i+1:=by simp[eZ]
  have lst1:bU (.ref q) (.int (-1)) M5=some (lD (dW R i x)):=by
   rw[Ku a5 (by lia)]
   simp[eZ]
  have lx:∀z∈dW R i x,z<R.length:=λz hz=>zc hx hz
  have ln:=Bl (R:=R) (x:=x) n1 i;refine Rn.bind (yo (CQ (n:=R.length) (p:=can R (dW R i x)) (M:=M5) (x:=none) (rest:=[some (.ref q),some (nM R)]) (by lia) (λz hz=>?_) (λz hz=>by simp))) λpr M6 ⟨e1,e2⟩=>?_
  ·simp only[cD,Option.getD_some];refine Rn.bindRd _ lst1 ?_;have al:(rd (uE (lD (dW R i x))):DM Itn)=pure (.fix ((dW R i x).map nD)):=rfl;rw[al,aq];simp only[lA];rw[Jd wk lx (by lia) (z:=none) z hz]
   exact Rn.pure ⟨rfl,rfl⟩
  subst e1;rw[e2];have i20:i<m:=by have:=(Ti.mp hi).1;simpa using this
  refine Rn.run (vq a5 (by lia)) ?_
  refine Rn.pure ⟨_,rfl,⟨_,rfl⟩,?_,k5.set (by lia)⟩
  rw[UJ (Ti.mp a5).1];unfold eZ;rw[List.range_succ (n:=i+1),Wc];rfl
 ·obtain⟨δ',rfl,⟨z,rfl⟩,a5,k5⟩:=hI;rw[Tz,Uo,Up]at a5;rw[hK];clear hK K;simp;exact Rn.pure ⟨_,rfl,rfl,a5,k5⟩
end K
namespace K
open PySem L2 L3 N10 LB
theorem Ng{α:Type}{p q:α->Bool}:∀ {l:List α},(∀ a∈l,p a=true->q a=true)->(l.filter p).length<=(l.filter q).length
 |[],_=>Tq _
 | a::l,h=>by
   have ih:=Ng (l:=l) λb hb=>h b (.tail _ hb)
   have ha:=h a (.head _);cases hp:p a with
   |true=>rw[V0 hp,V0 (ha hp)];simp;exact ih
   |false=>
     rw[Wz (by simp[hp])]
     cases hq:q a with
     |true=>rw[V0 hq];simp;lia
     |false=>rw[Wz (by simp[hq])];exact ih
theorem JH{α:Type}{p q:α->Bool}:∀ {l:List α},(∀ a∈l,p a=true->q a=true)->(l.filter q).length<=(l.filter p).length->l.filter p=l.filter q
 |[],_,_=>rfl
 | a::l,h,hl=>by
   have h':∀b∈l,p b=true->q b=true:=λb hb=>h b (.tail _ hb)
   have ha:=h a (.head _);have le:=Ng (l:=l) h';cases hp:p a with
   |true=>
     rw[V0 hp,V0 (ha hp)]at hl ⊢
     simp at hl;rw[JH h' hl]
   | false=>
     rw[Wz (p:=p) (by simp[hp])]at hl ⊢
     cases hq:q a with
     |true=>rw[V0 (p:=q) hq]at hl;simp at hl;lia
     |false=>
       rw[Wz (p:=q) (by simp[hq])]at hl ⊢
       exact JH h' hl
theorem Gy(f:Nat->Nat):∀ n:Nat,1<=n->∃ x,x<n/\∀ y,y<n->f x<=f y
 |0,h=>by lia
 |1,_=>⟨0,by lia,λy hy=>by rw[show y=0 by lia];exact Tq _⟩
 | n + 2,_=>by
   obtain⟨x,hx,h⟩:=Gy f (n+1) (by lia)
   by_cases c:f x<=f (n+1)
   ·exact⟨x,by lia,λy hy=>by
     by_cases e:y=n+1
     ·rw[e];exact c
     ·exact h y (by lia)⟩
   ·exact⟨n+1,by lia,λy hy=>by
     by_cases e:y=n+1
     ·rw[e];exact Tq _
     ·have:=h y (by lia);lia⟩
theorem Cp{R:List (List Nat)}{x:Nat}(hx:x<R.length):gr (LD R) x=(List.range R.length).filter (rc (cP R) x):=by
 rw[gK (by rw[mK];exact hx)]
 simp[LD,Dd]
theorem ym{R:List (List Nat)}{x y:Nat}(hx:x<R.length):y∈gr (LD R) x ↔ y<R.length/\Rch (cP R) x y:=by rw[Cp hx,Ua,Tr,qm]
theorem Lx{R:List (List Nat)}{W:Nat}(wk:WK R W):∃y∈LD R,dB (LD R) y=true:=by
 obtain⟨x,hx,h⟩:=Gy (λx=>(gr (LD R) x).length) R.length wk.n1
 refine⟨gr (LD R) x,gr_mem (by rw[mK];exact hx),?_⟩
 unfold dB;rw[Uh];intro z hz;obtain⟨hz1,hz2⟩:=(ym hx).mp hz;refine Uk ?_;have hl:(gr (LD R) x).length<=(gr (LD R) z).length:=h z hz1;rw[Cp hx,Cp hz1]at hl ⊢
 exact JH (λa w ha=>qm.mpr (hz2.trans (qm.mp ha))) hl
set_option tactic.hygienic true in
theorem J9{t:List Int}{ts:List (List Int)}(h:t∈ts):t∈yC ts:=by
 have key:∀ (ts acc:List (List Int)),t∈acc\/t∈ts->t∈ts.foldl mR acc:=by
  intro ts;induction ts with
  |nil=>intro acc h;exact h.elim id λz=>by cases z
  | cons u ts ih=>
    intro acc h;refine ih (mR acc u) ?_;unfold mR;rcases h with h | h
    ·split
     ·exact .inl h
     ·exact .inl (Vv _ h)
    ·rcases TV.mp h with rfl | h
     ·split
      ·rename_i hm;exact .inl hm
      ·exact .inl (UW _ (TQ.mpr rfl))
     ·exact .inr h
 exact key ts [] (.inr h)
structure Shuts(R Y:List (List Nat)):Prop where
 ne:Y≠[]
 len:Y.length<=R.length
 mem:∀y∈Y,y∈LD R/\dB (LD R) y=true
theorem shuts{R:List (List Nat)}{W:Nat}(wk:WK R W):∃ Y:List (List Nat),D.tup ((iI (LD R)).map tupI)=nM Y/\Shuts R Y:=by
 have sub:∀t∈iI (LD R),t∈((LD R).filter (dB (LD R))).map sW:=λt ht=>Kc ((jD _).1.mem_iff.mp ht)
 obtain⟨Y,e,k⟩:=Eo sub;have l1:(iI (LD R)).length=Y.length:=by rw[e];simp
 refine⟨Y,?_,?_,?_,λy hy=>?_⟩
 ·rw[e,UT];unfold nM;congr 1;exact Wx λl x=>(Oc l).symm
 ·intro z;obtain⟨y,h1,h2⟩:=Lx wk;have:sW y∈iI (LD R):=(jD _).1.mem_iff.mpr (J9 (List.mem_map_of_mem (Ua.mpr ⟨h1,h2⟩)));rw[e,z]at this;cases this
 ·have l2:(iI (LD R)).length<=((LD R).filter (dB (LD R))).length:=by
   unfold iI;rw[(jD _).1.length_eq];have:=Ka (((LD R).filter (dB (LD R))).map sW)
   rwa [Tz]at this
  have fl:=Uq (dB (LD R)) (LD R);rw[mK]at fl
  lia
 ·exact Ua.mp (k y hy)
theorem vK{R:List (List Nat)}{l:List Nat}{z y:Nat}(hz:z∈l)(hy:y<R.length)(h:0<ga (gr R z) y):y∈nxt R l:=by
 unfold nxt;rw[Ua];refine⟨Tr.mpr hy,?_⟩;unfold can;cases e:l.filter λx=>decide (0<ga (gr R x) y) with
 |nil=>
   have:z∈l.filter λx=>decide (0<ga (gr R x) y):=Ua.mpr ⟨hz,by simpa using h⟩
   rw[e]at this;cases this
 |cons a t=>rfl
theorem Bk{R:List (List Nat)}{x w j:Nat}(hw:w∈dW R j x):∀ {k z:Nat},z∈dW R k w->z∈dW R (j + k) x
 |0,z,h=>by rw[TQ.mp h];exact hw
 |k+1,z,h=>by obtain⟨u,hu,h0⟩:=KJ h;exact vK (Bk hw hu) (GJ h) h0
theorem qY{R:List (List Nat)}{W x y:Nat}(wk:WK R W)(hx:x<R.length):y∈gr (cP R) x ↔ y<R.length/\0<ga (gr R x) y:=by rw[qd hx,Ua,Tr,wk.row _ (gr_mem hx)];simp
noncomputable def near(R:List (List Nat))(w k z:Nat):Bool:=(List.range (k+1)).any λi=>(dW R i w).contains z
theorem gm{R:List (List Nat)}{w k z:Nat}:near R w k z=true ↔ ∃i,i<=k/\z∈dW R i w:=by
 unfold near;rw[VL];constructor
 ·rintro⟨i,hi,h⟩;exact⟨i,by have:=Tr.mp hi;lia,by simpa using h⟩
 ·rintro⟨i,hi,h⟩;exact⟨i,Tr.mpr (by lia),by simpa using h⟩
theorem zx{R:List (List Nat)}{W w:Nat}(wk:WK R W)(hw:w<R.length):∀ k:Nat,(∀ z,Rch (cP R) w z->near R w k z=true)\/k + 1<=((List.range R.length).filter (near R w k)).length
 |0=>by refine .inr ?_;have:w∈(List.range R.length).filter (near R w 0):=Ua.mpr ⟨Tr.mpr hw,gm.mpr ⟨0,Tq _,TQ.mpr rfl⟩⟩;exact List.length_pos_of_mem this
 | k + 1=>by
   have mono:∀z,near R w k z=true->near R w (k+1) z=true:=λz h=>by obtain⟨i,hi,hz⟩:=gm.mp h;exact gm.mpr ⟨i,by lia,hz⟩
   rcases zx wk hw k with h | h
   ·exact .inl λz hz=>mono z (h z hz)
   by_cases c:((List.range R.length).filter (near R w (k+1))).length<=((List.range R.length).filter (near R w k)).length
   ·have e:=JH (l:=List.range R.length) (λa x ha=>mono a ha) c
    refine .inl λz hz=>?_
    refine mono z ?_;induction hz with
    |here=>exact gm.mpr ⟨0,by lia,TQ.mpr rfl⟩
    | @step y z h1 h2 ih=>
      obtain⟨i,hi,hy⟩:=gm.mp ih;have hy':=zc hw hy;obtain⟨hz,h0⟩:=(qY wk hy').mp h2;have:z∈(List.range R.length).filter (near R w (k+1)):=Ua.mpr ⟨Tr.mpr hz,gm.mpr ⟨i+1,by lia,vK hy hz h0⟩⟩
      rw[<-e]at this;exact (Ua.mp this).2
   ·exact .inr (by lia)
theorem Rch.near{R:List (List Nat)}{W w z:Nat}(wk:WK R W)(hw:w<R.length)(h:Rch (cP R) w z):∃k,k<=R.length/\z∈dW R k w:=by
 rcases zx wk hw R.length with q | q
 ·exact gm.mp (q z h)
 ·have:=Uq (K.near R w R.length) (List.range R.length);rw[Uo]at this
  lia
theorem Lp{R:List (List Nat)}{W x:Nat}(wk:WK R W)(hx:x<R.length):∃ y,y<R.length/\0<ga (gr R x) y:=by
 have s:=wk.sum _ (gr_mem hx);have l:=wk.row _ (gr_mem hx);have w1:=wk.w1;cases h:(List.range R.length).find? λy=>decide (0<ga (gr R x) y) with
 |some y=>have a:=List.mem_of_find?_eq_some h;have b:=List.find?_some h;exact⟨y,Tr.mp a,by simpa using b⟩
 | none=>
   have z:=List.find?_eq_none.mp h;have:(gr R x).sum=0:=by rw[QK l];exact En λi hi=>by have:=z i (Tr.mpr hi);simpa using this
   lia
theorem round{R Y:List (List Nat)}{W:Nat}{y:List Nat}(wk:WK R W)(h:y∈LD R)(hs:dB (LD R) y=true):∃ x,y[0]?=some x/\x<R.length/\∃ k,1<=k/\k<=R.length + 1/\x∈dW R k x:=by
 obtain⟨hne,hlen,hlt⟩:=uA h;cases y with
 |nil=>exact absurd rfl hne
 |cons x t=>
   have hx:=hlt x (.head _);refine⟨x,rfl,hx,?_⟩;unfold dB at hs;rw[Uh]at hs;have e1:=UG (hs x (.head _));obtain⟨w,hw,h0⟩:=Lp wk hx;have r1:Rch (cP R) x w:=.step .here ((qY wk hx).mpr ⟨hw,h0⟩);have m1:w∈x::t:=by rw[<-e1];exact (ym hx).mpr ⟨hw,r1⟩
   have e2:=UG (hs w m1);have m2:x∈gr (LD R) w:=by rw[e2];exact .head _
   obtain⟨k,hk,hm⟩:=((ym hw).mp m2).2.near wk hw;refine⟨1+k,by lia,by lia,Bk (w:=w) (j:=1) ?_ hm⟩
   exact vK (z:=x) (TQ.mpr rfl) hw h0
end K
namespace K
open PySem L2 L3 N10
noncomputable def xQ:List D->DM D
 |[.int a,.int b]=>if 0<=a/\0<=b then pure (nD (Nat.gcd a.toNat b.toNat)) else stuck
 |_=>stuck
theorem MJ(a b:Nat):xQ [nD a,nD b]=pure (nD (Nat.gcd a b)):=by simp[xQ,nD]
theorem J7{c:ak->DM Bool}{f:ak->DM Fl}(h1:∀ a b:Nat,c [some (nD a),some (nD b)]=pure (b != 0))(h2:∀ a b:Nat,0<b->f [some (nD a),some (nD b)]=pure (.nx [some (nD b),some (nD (a % b))])):
  ∀b a:Nat,∃n,iV c f n [some (nD a),some (nD b)]=pure (.nx [some (nD (Nat.gcd a b)),some (nD 0)]):=by
 intro b;induction b using Nat.strongRecOn with
 | ind b ih=>
   intro a;rcases Nat.eq_zero_or_pos b with rfl | hb
   ·exact⟨1,by simp[iV,h1]⟩
   ·obtain⟨n,hn⟩:=ih (a%b) (Vo _ hb) b;refine⟨n+1,?_⟩;have hb':(b != 0)=true:=by simp;lia
    simp only[iV,h1,aq,hb',if_true,h2 a b hb,hn];rw[Nat.gcd_comm a b,Nat.gcd_rec b a,Nat.gcd_comm]
set_option tactic.hygienic true in
theorem Qa:∀ ds M r,xQ ds M=some r->∃ n,aL 2 2 (f9 n) ds M=some r:=by
 intro ds M r h;unfold xQ at h;split at h
 ·rename_i a b;split at h
  ·rename_i hab;obtain⟨x,rfl⟩:∃x:Nat,a=x:=⟨a.toNat,by lia⟩
   obtain⟨y,rfl⟩:∃y:Nat,b=y:=⟨b.toNat,by lia⟩
   have h1:∀a b:Nat,(λδ=>((fH 1) δ>>=λx=>(λz=>pure (D.int 0)) δ>>=λy=>(λx y=>rd (iQ x y)) x y)>>=eN) [some (nD a),some (nD b)]=(pure (b != 0):DM Bool):=λa b=>by have g:(rd (iQ (nD b) (.int 0)):DM D)=pure (.bl (decide (0<b))):=nJ b 0;simp[g];congr 1;rw[T7];simp;lia
   have h2:∀a b:Nat,0<b->(Dl 0 1 (λδ=>(fH 1) δ>>=λx=>(λδ=>(λδ=>(fH 0) δ>>=λx=>(fH 1) δ>>=λy=>rd (jR x y)) δ>>=λx=>(λz=>pure []) δ>>=λxs=>pure (x::xs)) δ>>=λxs=>pure (x::xs))) [some (nD a),some (nD b)]=pure (.nx [some (nD b),some (nD (a%b))]):=λa b hb=>by
    have:=zO (a:=a) hb;simp[nD]at this ⊢
    simp[this]
   obtain⟨n,hn⟩:=J7 (c:=(λδ=>((fH 1) δ>>=λx=>(λz=>pure (D.int 0)) δ>>=λy=>(λx y=>rd (iQ x y)) x y)>>=eN)) (f:=(Dl 0 1 (λδ=>(fH 1) δ>>=λx=>(λδ=>(λδ=>(fH 0) δ>>=λx=>(fH 1) δ>>=λy=>rd (jR x y)) δ>>=λx=>(λz=>pure []) δ>>=λxs=>pure (x::xs)) δ>>=λxs=>pure (x::xs)))) h1 h2 y x
   refine⟨n,?_⟩;rw[<-h];have:aL 2 2 (f9 n) [.int x,.int y]=pure (nD (Nat.gcd x y)):=by unfold f9 jc;have e:bJ 2 [D.int x,D.int y]=[some (nD x),some (nD y)]:=rfl;simp only[OD,e,QB,hn];simp
   rw[this];simp
  ·cases h
 ·cases h
end K
namespace K
open PySem L2 L3 N10 LB
noncomputable def Ed:=aL 1 3 (jm xQ)
noncomputable def RK(l:List Nat)(M0:Mo)(i:Nat)(δ:ak)(M:Mo):Prop:=(∃z,δ=[some (.lst (l.map nD)),some (nD ((l.take i).foldl Nat.gcd 0)),z])/\M=M0
theorem Mt(l:List Nat):Ed [.lst (l.map nD)]=pure (nD (l.foldl Nat.gcd 0)):=nq λM=>by
 unfold Ed jm fQ;dsimp only;refine Rn.call rfl ?_;have st:bJ 3 [.lst (l.map nD)]=[some (.lst (l.map nD)),none,none]:=rfl;rw[st];refine aH λK hK=>?_
 simp;rw[hK];clear hK K;refine aH λK hK=>?_
 have al:(rd (uE (.lst (l.map nD))):DM Itn)=pure (.fix (l.map nD)):=rfl;simp[al,fF];refine Rn.bind (bZ (RK l M) _ 0 _ _ ⟨⟨none,rfl⟩,rfl⟩ (λj d δ M1 hj hI=>?_)) (λr M1 hI=>?_)
 ·obtain⟨⟨z,rfl⟩,rfl⟩:=hI;rw[T8]at hj;obtain⟨a,ha,rfl⟩:=Tp.mp hj;rw[Up,dN,aq];simp[MJ];refine Rn.pure ⟨_,rfl,⟨some (nD a),?_⟩,rfl⟩;rw[List.take_add_one,ha,List.foldl_append];rfl
 ·obtain⟨δ',rfl,⟨z,rfl⟩,rfl⟩:=hI;rw[hK];clear hK K;simp;exact Rn.pure ⟨_,rfl,rfl,rfl⟩
theorem Nj:∀ (l:List Nat) (a:Nat),l.foldl Nat.gcd a ∣ a/\∀ b∈l,l.foldl Nat.gcd a ∣ b
 |[],a=>⟨Nat.dvd_refl _,λb h=>by cases h⟩
 |c::l,a=>by
   obtain⟨h1,h2⟩:=Nj l (Nat.gcd a c);rw[V2];refine⟨Nat.dvd_trans h1 (Nat.gcd_dvd_left _ _),λb hb=>?_⟩
   rcases TV.mp hb with rfl | hb
   ·exact Nat.dvd_trans h1 (Nat.gcd_dvd_right _ _)
   ·exact h2 b hb
noncomputable def Mr(R:List (List Nat))(y:List Nat)(x:Nat):Prop:=y[0]?=some x/\x<R.length/\∃k,1<=k/\k<=R.length+1/\x∈dW R k x
noncomputable def El:=aL 2 3 (rY sZ Ed)
theorem Bm{R:List (List Nat)}{x m i:Nat}(h:i<m):(eZ R x m)[i]?=some (lD (dW R i x)):=by unfold eZ;rw[T8,Vz h];rfl
theorem Gq{q:Nat}{M:Mo}{l:List D}(h:M[q]?=some (.lst l)):dZ [.ref q] M=some (.int (l.length:Int)):=by simp[dZ,aX,gW,h]
theorem Px{R:List (List Nat)}{W x:Nat}{y:List Nat}(wk:WK R W)(hn:R.length<=6)(hr:Mr R y x)(M:Mo):Rn (El [nM R,nT y]) M λd M'=>∃t:Nat,d=nD t/\1<=t/\t<=7/\eG M M':=by
 obtain⟨h0,hx,k,k1,k2,kx⟩:=hr;unfold El rY lY;dsimp only;refine Rn.call rfl ?_;have st:bJ 3 [nM R,nT y]=[some (nM R),some (nT y),none]:=rfl;rw[st];have ix0:(rd (bU (nT y) (.int 0)):DM D)=pure (nD x):=gP (i:=0) (by rw[T8,h0];rfl)
 have mu:(rd (oE (.int 3) (nD R.length)):DM D)=pure (nD (3*R.length)):=zP (a:=3) (by decide) (Xo hn (by decide))
 refine aH λK hK=>?_
 simp[ix0,fL,mu];refine Rn.bind (Bh wk hn hx (m:=3*R.length) (by lia) M) λd M1 ⟨e,at1,kp⟩=>?_
 subst e;rw[hK];clear hK K;simp;refine Rn.bindRd _ (Gq at1) ?_;have ll:(eZ R x (3*R.length+1)).length=3*R.length+1:=by simp[eZ]
 have r2:vP [.int 1,.int ((eZ R x (3*R.length+1)).length:Int)]=some (.fix ((List.range (3*R.length)).map λk=>nD (1+k))):=by
  rw[ll];have:=BV (a:=1) (b:=3*R.length+1) (by decide) (by lia)
  rw[show 3*R.length+1-1=3*R.length by lia]at this
  exact this
 simp only[r2,fM,aq,aZ,dq,List.replicate,List.map_cons,List.map_nil,List.getElem?_cons_zero,List.getElem?_cons_succ,Option.getD_some,List.length_cons,List.length_nil,List.cons_append,List.nil_append,lA];have em:((List.range (3*R.length)).map λk=>nD (1+k))=((List.range (3*R.length)).map λk=>1+k).map nD:=by rw[UT];rfl
 rw[em];refine Rn.bind (yo (CT (p:=λi=>(dW R i x).contains x) (M:=M1) (by simp;lia) (λi hi=>?_) (λi hi=>by simp))) λpr M2 ⟨e1,e2⟩=>?_
 ·obtain⟨i',hi',rfl⟩:=Us.mp hi;have hi'':=Tr.mp hi';simp only[cD,cC,aN,ix0];refine Rn.bindRd _ (jQ (i:=1+i') at1 (Bm (by lia))) ?_
  have:=JQ x (dW R (1+i') x);unfold lD;rw[this,aq,jz];exact Rn.pure ⟨rfl,rfl⟩
 subst e1;simp only[aq,Out.run,e2,Mt];refine Rn.pure ⟨_,rfl,_,rfl,?_,?_,kp⟩ <;>
 ·have g:=(Nj ((((List.range (3*R.length)).map λk=>1+k)).filter λi=>(dW R i x).contains x) 0).2 k (Ua.mpr ⟨Us.mpr ⟨k-1,Tr.mpr (by lia),by lia⟩,by simpa using kx⟩)
  have:=Nat.le_of_dvd (by lia) g
  have:=Nat.pos_of_dvd_of_pos g (by lia)
  lia
noncomputable def Ej:=aL 2 8 (pO sZ El)
structure Plcs(n:Nat)(s:List Nat):Prop where
 len:s.length<=n
 lt:∀z∈s,z<n
set_option tactic.hygienic true in
theorem JT{a b c:Int}{i:Nat}(hc:1<=c)(ha:0<=a)(h:i<(Builtin.Range.rangeSize a b c).toNat):a + i * c<b/\(i:Int)<b:=by
 unfold Builtin.Range.rangeSize at h;rw[Tv (by lia)]at h
 split at h
 ·rename_i hab;have h1:(i:Int)<=(b-a-1) / c:=by lia
  have h2:(i:Int)*c<=b-a-1:=by
   have:=Int.mul_le_mul_of_nonneg_right h1 (show (0:Int)<=c by lia)
   exact Int.le_trans this (Int.ediv_mul_le _ (by lia))
  have h3:(i:Int)<=i*c:=by
   have:=Int.mul_le_mul_of_nonneg_left hc (show (0:Int)<=(i:Int) by lia)
   lia
  lia
 ·simp at h
theorem Ht{n:Nat}{l:List Nat}(hn:n<=25)(h:∀x∈l,x<n)(hl:l.length<=2000):(rd (λM=>(xM [.lst (l.map nD)] M).map D.lst):DM D)=pure (.lst (((List.range n).filter λy=>decide (y∈l)).map nD)):=bO λM=>by
 have e:intsOf (l.map nD)=some (l.map λn:Nat=>(n:Int)):=dU l
 have ss:=ut h;have le:=Uq (λy=>decide (y∈l)) (List.range n)
 rw[Uo]at le;have dl:((l.map λn:Nat=>(n:Int)).foldl PyProof.Rows.step_dedup []).length<=60:=by
  have:=(bV ((l.map λn:Nat=>(n:Int)).foldl PyProof.Rows.step_dedup [])).1.length_eq
  have e2:(((l.map λn:Nat=>(n:Int)).foldl PyProof.Rows.step_dedup []).foldr jP [])=dC (l.map λn:Nat=>(n:Int)):=rfl
  rw[e2,ss,Tz]at this
  lia
 simp only[xM,aX,Option.bind_some,e];rw[Tv ⟨by simpa using hl,dl⟩,ss,WP,UT]
 rfl
noncomputable def R3(R:List (List Nat))(M0:Mo)(pre:ak)(i:Nat)(δ:ak)(M:Mo):Prop:=(∃(l:List Nat) (z:Option D),δ=pre++[some (.lst (l.map nD)),z]/\(∀x∈l,x<R.length)/\l.length<=6*i)/\M=M0
noncomputable def R1(R:List (List Nat))(M0:Mo)(y:List Nat)(x t m q q2:Nat)(i:Nat)(δ:ak)(M:Mo):Prop:=(∃z5 z6 z7,δ=[some (nM R),some (nT y),some (nD t),some (.ref q),some (.ref q2),z5,z6,z7])/\M[q]?=some (.lst (eZ R x m))/\eG M0 M/\∃S:List (List Nat),S.length=i/\(∀s∈S,Plcs R.length s)/\M[q2]?=some (.lst (S.map nT))
set_option tactic.hygienic true in
theorem Hq{R:List (List Nat)}{W x:Nat}{y:List Nat}(wk:WK R W)(hn:R.length<=6)(hr:Mr R y x)(M:Mo):Rn (Ej [nM R,nT y]) M λd M'=>∃ S:List (List Nat),d=nM S/\1<=S.length/\S.length<=7/\(∀ s∈S,Plcs R.length s)/\eG M M':=by
 have n1:=wk.n1;unfold Ej pO jX;dsimp only;refine Rn.call rfl ?_;have st:bJ 8 [nM R,nT y]=[some (nM R),some (nT y),none,none,none,none,none,none]:=rfl;rw[st];have ix0:(rd (bU (nT y) (.int 0)):DM D)=pure (nD x):=gP (i:=0) (by rw[T8,hr.1];rfl)
 have sq:R.length*R.length<=36:=Nat.mul_le_mul hn hn;have b6:R.length<2^1000:=Xo hn (by decide)
 have mu:(rd (oE (.int 2) (nD R.length)):DM D)=pure (nD (2*R.length)):=zP (a:=2) (by decide) b6
 have mu2:(rd (oE (nD (2*R.length)) (nD R.length)):DM D)=pure (nD (2*R.length*R.length)):=zP (Xo (show 2*R.length<=12 by lia) (by decide)) b6
 have ad:(rd (b8 (nD (2*R.length*R.length)) (.int 9)):DM D)=pure (nD (2*R.length*R.length+9)):=by funext M;rfl
 have m100:2*R.length*R.length+9<=100:=by rw[Nat.mul_assoc];lia
 refine aH λK hK=>?_
 simp only[cD,lL,cC,aN,ix0,fL,mu,mu2,ad];refine Rn.bind (Px wk hn hr M) λd M1 ⟨t,e,t1,t7,kp1⟩=>?_
 subst e;refine Rn.bind (Bh wk hn hr.2.1 m100 M1) λd M2 ⟨e,at2,kp2⟩=>?_
 subst e;simp only[dm,aq];rw[hK];clear hK K;have kp:eG M M2:=kp1.trans kp2;have q1:M.length<=M1.length:=by
  cases e:M.length with
  |zero=>lia
  |succ k=>
    have hk:k<M.length:=by lia
    have:=(Ti.mp (kp1 k _ (Tj hk))).1
    lia
 revert q1 at2;generalize M1.length=q;intro at2 q1;clear kp1 kp2;generalize hm:2*R.length*R.length+9+1=m at at2;refine aH λK hK=>?_
 simp;refine Rn.gM (by simp) ?_
 rw[hK];clear hK K;have qlt:=(Ti.mp at2).1;have a0:(M2++[DO.lst []])[q]?=some (.lst (eZ R x m)):=by rw[T5 qlt];exact at2
 have a1:(M2++[DO.lst []])[M2.length]?=some (.lst (([]:List (List Nat)).map nT)):=by simp
 have k3:eG M (M2++[DO.lst []]):=kp.trans eG.push;have q2:M.length<=M2.length/\q≠M2.length:=⟨by lia,by lia⟩
 revert a0 a1 k3 q2;generalize M2.length=q2;generalize M2++[DO.lst []]=M3;intro a0 a1 k3 q2';refine aH λK hK=>?_
 simp[cV (n:=t) (by lia),fF]
 refine Rn.bind (bZ (R1 R M y x t m q q2) _ 0 _ _ ⟨⟨_,_,_,rfl⟩,a0,k3,[],rfl,λs h=>(by cases h),a1⟩ (λi d δ M4 hi hI=>?_)) (λr M4 hI=>?_)
 ·obtain ⟨⟨z5,z6,z7,rfl⟩,b0,k4,S,hS,hP,b1⟩:=hI;obtain⟨hi',rfl⟩:=oR hi;clear hK K;rw[dN,aq];refine aH λK hK=>?_
  have m0:dH []=pure (.lst []):=b7 (by simp)
  simp[m0];rw[hK];clear hK K;refine aH λK hK=>?_
  simp;refine Rn.bindRd _ (Gq b0) ?_;have ll:(eZ R x m).length=m:=by simp[eZ]
  rw[ll];have rgk:zT (i:Int) (m:Int) (t:Int):=⟨by lia,by lia,by lia,by lia,by lia,by lia⟩
  have r3:Jr [nD i,.int (m:Int),nD t]=some (.fix (oN (i:Int) (t:Int) (Builtin.Range.rangeSize (i:Int) (m:Int) (t:Int)).toNat)):=Tv rgk;simp only[r3,fM,aq,fF];refine Rn.bind (bZ (R3 R M4 [some (nM R),some (nT y),some (nD t),some (.ref q),some (.ref q2),some (nD i)]) _ 0 _ _ ⟨⟨[],_,rfl,λv h=>(by cases h),Tq _⟩,rfl⟩ (λj d δ M5 hj hI=>?_)) (λr M5 hI=>?_)
  ·obtain⟨⟨l,z,rfl,hl,ln⟩,rfl⟩:=hI;clear hK K;rw[vQ]at hj;split at hj;rotate_left
   ·cases hj
   rename_i hjl;cases hj;obtain⟨g1,g2⟩:=JT (a:=(i:Int)) (b:=(m:Int)) (c:=(t:Int)) (by lia) (by lia) hjl
   obtain⟨w,hw⟩:∃w:Nat,(i:Int)+(j:Int)*(t:Int)=(w:Int):=⟨i+j*t,by push_cast;rfl⟩
   rw[hw]at g1;rw[Up]at ln ⊢
   rw[dN,aq,hw];simp only[dm,cD,List.cons_append,List.nil_append,cC,aN];refine Rn.bindRd _ (jQ (i:=w) b0 (Bm (by lia))) ?_
   have lx:∀z∈dW R w x,z<R.length:=λz hz=>zc hr.2.1 hz
   have l2:=Bl (R:=R) (x:=x) n1 w;have ap:(rd (b8 (.lst (l.map nD)) (lD (dW R w x))):DM D)=pure (.lst ((l++dW R w x).map nD)):=rA (by lia)
   rw[ap,aq];refine Rn.pure ⟨_,rfl,⟨l++dW R w x,_,rfl,λz hz=>?_,?_⟩,rfl⟩
   ·rcases T4.mp hz with h | h
    ·exact hl z h
    ·exact lx z h
   ·rw[T3];lia
  ·obtain ⟨δ',rfl,⟨l,z,rfl,hl,ln⟩,rfl⟩:=hI;rw[hK];clear hK K;have l2k:l.length<=2000:=by
    have lr:(oN (i:Int) (t:Int) (Builtin.Range.rangeSize (i:Int) (m:Int) (t:Int)).toNat).length=(Builtin.Range.rangeSize (i:Int) (m:Int) (t:Int)).toNat:=by simp[oN]
    rw[lr,Up]at ln;have:(Builtin.Range.rangeSize (i:Int) (m:Int) (t:Int)).toNat<=m:=by
     cases e:(Builtin.Range.rangeSize (i:Int) (m:Int) (t:Int)).toNat with
     |zero=>lia
     |succ k=>
       have:=JT (i:=k) (a:=(i:Int)) (b:=(m:Int)) (c:=(t:Int)) (by lia) (by lia) (by lia)
       lia
    lia
   have tp:(rd (kI [.lst ((((List.range R.length).filter λy=>decide (y∈l))).map nD)]):DM D)=pure (nT ((List.range R.length).filter λy=>decide (y∈l))):=bO λM=>rfl
   simp only[cD,List.cons_append,List.nil_append,cC,aN,Ht (n:=R.length) (by lia) hl l2k,tp]
   refine Rn.bindRd (S.map nT) (by simp only[aX,b1]) ?_
   refine Rn.run (vq b1 (by simp;lia)) ?_
   have le:=Uq (λy=>decide (y∈l)) (List.range R.length)
   rw[Uo]at le;refine Rn.pure ⟨_,rfl,⟨_,_,_,rfl⟩,?_,k4.set (by lia),S++[(List.range R.length).filter λy=>decide (y∈l)],?_,λs hs=>?_,?_⟩
   ·rw[Vn (Ne.symm q2'.2)];exact b0
   ·rw[T3,hS];simp
   ·rcases T4.mp hs with h | h
    ·exact hP s h
    ·rw[TQ.mp h];exact⟨le,λz hz=>Tr.mp (Ua.mp hz).1⟩
   ·rw[UJ (Ti.mp b1).1,Wc];rfl
 ·obtain⟨δ',rfl,⟨z5,z6,z7,rfl⟩,b0,k4,S,hS,hP,b1⟩:=hI;rw[hK];clear hK K;rw[Tz,Uo,Up]at hS;simp;have tp:kI [.ref q2] M4=some (nM S):=by simp[kI,gW,aX,b1,nM]
  refine Rn.bindRd _ tp ?_;exact Rn.pure ⟨_,rfl,S,rfl,by lia,by lia,hP,k4⟩
noncomputable def u5(ps:List Nat):Bool:=(List.range (ps.length-1)).all λk=>decide (ga ps k<ga ps (1+k))
noncomputable def Fri:=aL 1 1 sy
theorem O8{ps:List Nat}(h:ps.length<=1000000):Fri [nT ps]=pure (.bl (u5 ps)):=by
 have r2:vP [.int 1,.int (ps.length:Int)]=some (.fix ((List.range (ps.length-1)).map λk=>nD (1+k))):=BV (a:=1) (b:=ps.length) (by decide) (by lia)
 have c:=lu (x:=none) (rest:=[some (nT ps)]) (as:=List.range (ps.length-1)) (fe:=λδ=>opt δ[1]?.join>>=λa=>opt δ[0]?.join>>=λb=>rd (vX b (.int 1))>>=λb=>rd (bU a b)>>=λx=>opt δ[1]?.join>>=λa=>opt δ[0]?.join>>=λb=>rd (bU a b)>>=λy=>rd (wR x y)) (λk=>nD (1+k)) (λk=>.bl (decide (ga ps k<ga ps (1+k)))) (by simp;lia) (λk hk=>by
  have hk':=Tr.mp hk;have s:(rd (vX (nD (1+k)) (.int 1)):DM D)=pure (nD k):=by
   have:=O5 (a:=1+k) (b:=1) (by lia)
   rw[show 1+k-1=k by lia]at this
   exact this
  simp[s,uY (l:=ps) (i:=k) (by lia),uY (l:=ps) (i:=1+k) (by lia),Hc])
 have al:=nH ((List.range (ps.length-1)).map λk=>decide (ga ps k<ga ps (1+k)))
 rw[UT]at al;have ln:(rd (dZ [nT ps]):DM D)=pure (.int (ps.length:Int)):=by simp[nT]
 simp[Fri,sy,ln,r2,aZ,dq];rw[c,aq];exact al.trans (by unfold u5;rw[List.all_map];rfl)
theorem Lq{ps:List Nat}:u5 ps=true ↔ ps.Pairwise (·< ·):=by
 unfold u5;rw[Uh,VB];constructor
 ·intro h;have adj:∀k,(hk:k+1<ps.length)->ps[k]<ps[k+1]:=λk hk=>by
   have:=UG (h k (Tr.mpr (by lia)))
   rw[lz (by lia),lz (by lia)]at this
   have e:ps[1+k]'(by lia)=ps[k+1]:=by congr 1;lia
   lia
  intro i j hi hj hij;obtain⟨m,rfl⟩:∃m,j=i+1+m:=⟨j-i-1,by lia⟩
  clear hij;induction m with
  |zero=>exact adj i (by lia)
  |succ m ih=>exact W3 (ih (by lia)) (adj (i+1+m) (by lia))
 ·intro h k hk;have hk':=Tr.mp hk;refine Uk ?_;rw[lz (by lia),lz (by lia)]
  exact h k (1+k) (by lia) (by lia) (by lia)
theorem FQ:∀ {a b:List Nat},a.Pairwise (·< ·)->b.Pairwise (·< ·)->(∀ x,x∈a ↔ x∈b)->a=b
 |[],[],_,_,_=>rfl
 |[],y::b,_,_,h=>absurd ((h y).mpr (.head _)) (by simp)
 |x::a,[],_,_,h=>absurd ((h x).mp (.head _)) (by simp)
 | x::a,y::b,ha,hb,h=>by
   have a1:∀{z},z∈a->x<z:=λhz=>List.rel_of_pairwise_cons ha hz
   have b1:∀{z},z∈b->y<z:=λhz=>List.rel_of_pairwise_cons hb hz
   have e:x=y:=by
    rcases TV.mp ((h x).mp (.head _)) with z | z
    ·exact z
    ·rcases TV.mp ((h y).mpr (.head _)) with w | w
     ·exact w.symm
     ·have:=b1 z;have:=a1 w
      lia
   subst e;rw[FQ (List.Pairwise.of_cons ha) (List.Pairwise.of_cons hb) λz=>?_]
   constructor
   ·intro hz;rcases TV.mp ((h z).mp (.tail _ hz)) with w | w
    ·have:=a1 hz;lia
    ·exact w
   ·intro hz;rcases TV.mp ((h z).mpr (.tail _ hz)) with w | w
    ·have:=b1 hz;lia
    ·exact w
theorem Pb{n:Nat}{ps:List Nat}(h:∀x∈ps,x<n):decide (ps=(List.range n).filter λy=>decide (y∈ps))=u5 ps:=by
 have fl:((List.range n).filter λy=>decide (y∈ps)).Pairwise (·< ·):=List.Pairwise.filter _ Wk
 rw[T7,decide_eq_true_iff,Lq];constructor
 ·intro e;rw[e];exact fl
 ·intro hp;refine FQ hp fl λx=>?_
  rw[Ua,Tr,decide_eq_true_iff];exact⟨λhx=>⟨h x hx,hx⟩,λhx=>hx.2⟩
noncomputable def qb:D->Nat
 |.int i=>i.toNat
 |_=>0
theorem KZ:(qb ∘ nD)=id:=by funext k;simp[qb,nD]
theorem zu(ps:List Nat):(ps.map nD).map qb=ps:=by
 rw[UT];have:(qb ∘ nD)=id:=by funext k;simp[qb,nD]
 rw[this,List.map_id]
noncomputable def uD(n:Nat):D->Bool
 |.tup l=>l.all (eQ n)&&u5 (l.map qb)
 |_=>false
noncomputable def dF(n:Nat):D->Bool
 |.tup l=>l.all (eQ n)&&u5 (l.map qb)&&!l.isEmpty
 |_=>false
noncomputable def vm:=aL 2 2 (eX wz Fri)
noncomputable def xT:=aL 2 2 (tE vm)
theorem Gj{d:D}(h:gk d=false)(n:Nat):dF n d=false/\uD n d=false:=by cases d<;>first | exact⟨rfl,rfl⟩ | cases h
theorem J3(n:Nat)(l:List D):(rd (nW [.lst (l.map λd=>.bl (eQ n d))]):DM D)=pure (.bl (l.all (eQ n))):=by have:=nH (l.map (eQ n));rw[UT]at this;simpa[Function.comp_def] using this
theorem Gd.uD{B m n:Nat}{d:D}(h:Gd B m d)(hw:wt d<=2000000):vm [d,nD n]=pure (.bl (uD n d)):=by
 have isT:=h.isT;by_cases hT:gk d=false
 ·simp[vm,eX,isT,hT,(Gj hT n).2]
 cases h with
 | @tup m l hl=>
   have hlen:=jG l;have hwl:bu l+3<=2000000:=by simpa only[wt] using hw
   have hT':gk (.tup l)=true:=rfl;have c1:=JF (x:=none) (rest:=[some (nD n)]) (l:=l) (fe:=λδ=>opt δ[0]?.join>>=λa=>opt δ[1]?.join>>=λb=>wz [a,b]) (λd=>.bl (eQ n d)) (by lia) (λd hd=>by simp[(hl d hd).ip])
   simp[vm,eX,isT,hT',aZ,dq,lA];rw[c1,aq,J3,aq];clear c1;by_cases hA:l.all (eQ n)=true
   ·obtain⟨ps,rfl,hp⟩:=lH hA;have rn:=O8 (ps:=ps) (by rw[Tz]at hlen;lia)
    unfold nT at rn;simp[hA,rn,K.uD,KZ]
   ·rw[Vd]at hA;simp[hA,K.uD]
 |_=>exact absurd rfl hT
theorem Gd.is{B m n:Nat}{d:D}(h:Gd B m d)(hw:wt d<=2000000):xT [d,nD n]=pure (.bl (dF n d)):=by
 have a:=h.uD (n:=n) hw;cases e:K.uD n d with
 | false=>
   have:dF n d=false:=by cases d<;>first | rfl | (simp only[K.uD]at e;simp only[dF,e];rfl)
   simp[xT,tE,a,e,this]
 | true=>
   cases d with
   | tup l=>
     have ln:(rd (iQ (.int (l.length:Int)) (.int 0)):DM D)=pure (.bl (!l.isEmpty)):=by
      rw[show (rd (iQ (.int (l.length:Int)) (.int 0)):DM D)=pure (.bl (decide ((l.length:Int) > 0))) from by funext M;rfl]
      congr 2;cases l<;>simp
     have:dF n (.tup l)=!l.isEmpty:=by simp only[K.uD]at e;simp only[dF,e];simp
     simp[xT,tE,a,e,this,ln]
   |_=>cases e
noncomputable def bW(n:Nat):D->Bool
 |.tup l=>!l.isEmpty&&l.all (dF n)
 |_=>false
noncomputable def xU:=aL 2 3 (kY xX)
theorem qT(l:List D):(rd (JG (.tup l) (.tup [])):DM D)=pure (.bl l.isEmpty):=bO λM=>by cases l<;>rfl
theorem Js{n:Nat}{l:List Nat}(hn:n<=25)(h:∀x∈l,x<n)(hl:l.length<=2000):(opt ((qF [nT l]).map D.lst):DM D)=pure (.lst (((List.range n).filter λy=>decide (y∈l)).map nD)):=by
 have e:intsOf (l.map nD)=some (l.map λn:Nat=>(n:Int)):=dU l
 have ss:=ut h;have le:=Uq (λy=>decide (y∈l)) (List.range n)
 rw[Uo]at le;have dl:((l.map λn:Nat=>(n:Int)).foldl PyProof.Rows.step_dedup []).length<=60:=by
  have:=(bV ((l.map λn:Nat=>(n:Int)).foldl PyProof.Rows.step_dedup [])).1.length_eq
  have e2:(((l.map λn:Nat=>(n:Int)).foldl PyProof.Rows.step_dedup []).foldr jP [])=dC (l.map λn:Nat=>(n:Int)):=rfl
  rw[e2,ss,Tz]at this
  lia
 have q:qF [nT l]=some ((((List.range n).filter λy=>decide (y∈l)).map λn:Nat=>(n:Int)).map D.int):=by unfold qF nT;simp only[e,Option.bind_some];rw[Tv ⟨by simpa using hl,dl⟩,ss]
 rw[q,WP,fM,UT];rfl
noncomputable def RL(M0:Mo)(R:List (List Nat))(l:List D)(i:Nat)(δ:ak)(M:Mo):Prop:=(∃z,δ=[some (nM R),some (.tup l),z])/\M=M0/\∀j d,j<i->l[j]?=some d->dF R.length d=true
theorem Gd.Nz{R:List (List Nat)}{W B m:Nat}{d:D}(wk:WK R W)(h:Gd B m d)(hw:wt d<=2000000):xU [nM R,d]=pure (.bl (bW R.length d)):=nq λM=>by
 have isT:=h.isT;have n25:=wk.n25;have m00:ie []=pure (.tup []):=eE (by simp)
 unfold xU kY gO;dsimp only;refine Rn.call rfl ?_;have st:bJ 3 [nM R,d]=[some (nM R),some d,none]:=rfl;rw[st];clear st;refine bz λK hK hR'=>?_
 by_cases hT:gk d=false
 ·have e:bW R.length d=false:=by cases d<;>first | rfl | cases hT
  simp[isT,hT];rw[hR',e];exact Rn.pure ⟨_,rfl,rfl,rfl⟩
 cases h with
 | @tup m l hl=>
   have hlen:=jG l;have hwl:bu l+3<=2000000:=by simpa only[wt] using hw
   have hT':gk (.tup l)=true:=rfl;by_cases hE:l.isEmpty=true
   ·simp[isT,hT',m00,qT,hE];rw[hR'];exact Rn.pure ⟨_,rfl,by simp[bW,hE],rfl⟩
   rw[Vd]at hE;simp[isT,hT',m00,qT,hE];rw[hK];clear hK hR' K;refine bz λK hK hR'=>?_
   simp[fF];refine Rn.bind (gj (RL M R l) (λr M'=>r=.bl false/\M'=M/\bW R.length (.tup l)=false) l 0 _ _ ⟨⟨_,rfl⟩,rfl,λj d hj=>by lia⟩ (λj x δ M1 hj hI=>?_)) (λr M1 hI=>?_)
   ·obtain ⟨⟨z,rfl⟩,rfl,hI⟩:=hI;clear hK hR' K;rw[Up]at hI ⊢
    have hx:=hl x (T9 hj);have bad:dF R.length x=false->bW R.length (.tup l)=false:=λe=>by simp only[bW,hE,Bool.not_false,Bool.true_and];rw[Wv];intro ha;have:=Uh.mp ha x (T9 hj);rw[e]at this;cases this
    have wx:wt x+2<=bu l:=eV (T9 hj);have isX:=hx.isT;rw[dN,aq];by_cases hX:gk x=false
    ·refine bz λK hK hR'=>?_
     simp[isX,hX];rw[hR'];exact Rn.pure (.inr ⟨_,rfl,rfl,rfl,bad (Gj hX _).1⟩)
    cases hx with
    | @tup m2 lx hlx=>
      have hX':gk (.tup lx)=true:=rfl;have wlx:bu lx+3+2<=bu l:=by simpa only[wt] using wx
      have hlenx:=jG lx;refine bz λK hK hR'=>?_
      by_cases hXE:lx.isEmpty=true
      ·simp[isX,hX',m00,qT,hXE];rw[hR'];exact Rn.pure (.inr ⟨_,rfl,rfl,rfl,bad (by simp[dF,hXE])⟩)
      rw[Vd]at hXE;simp[isX,hX',m00,qT,hXE];rw[hK];clear hK hR' K;have c2:=Qf (x:=none) (rest:=[some (nM R)]) (l:=lx) (ft:=λδ=>opt δ[0]?.join >>= λa=>xX [a] >>= λa=>rd (uy a) >>= λa=>if a=false then pure true else opt δ[0]?.join >>= λa=>rd (wO (D.int 0) a) >>= λa_1=>eN a_1 >>= λa_2=>(if a_2=true then opt δ[1]?.join >>= λa_3=>rd (dZ [a_3]) >>= λw=>rd (wR a w) else pure (D.bl false)) >>= λa=>eN a >>= λk=>pure !k) (fe:=λx=>pure (D.int 1)) (λd=>!eQ R.length d) (λy=>.int 1) (by lia) (λd hd=>by
       have hw:=(hlx d hd).lw;by_cases hW:oh d=true
       ·cases d with
        |int i=>
          have e1:(rd (wO (.int 0) (.int i)):DM D)=pure (.bl (decide (0<=i))):=Jm 0 i;have e2:(rd (wR (.int i) (nD R.length)):DM D)=pure (.bl (decide (i<R.length))):=Jo i R.length;by_cases h0:0<=i
          ·simp[hw,hW,h0,fL,e2,eQ]
          ·simp[hw,hW,h0,eQ]
        |_=>cases hW
       ·have e:eQ R.length d=false:=by cases d<;>first | rfl | (exact absurd rfl hW)
        rw[Vd]at hW;simp[hw,hW,e]) (λy y y=>rfl)
      have m0:dH []=pure (.lst []):=b7 (by simp)
      have ne0:(rd (fW (.lst ((lx.filter λd=>!eQ R.length d).map λy=>.int 1)) (.lst [])):DM D)=pure (.bl (!lx.all (eQ R.length))):=by rw[List.map_const',K3];congr 2;rw[T7];simp
      refine bz λK hK hR'=>?_
      simp[aZ,dq,lA];rw[c2,aq,m0,aq,ne0];by_cases hA:lx.all (eQ R.length)=false
      ·simp[hA];rw[hR'];exact Rn.pure (.inr ⟨_,rfl,rfl,rfl,bad (by simp[dF,hA])⟩)
      rw[XC]at hA;simp[hA];rw[hK];clear hK hR' K c2 ne0;obtain⟨ps,rfl,hp⟩:=lH hA;have l2k:ps.length<=2000:=by
       have:=kO ps
       lia
      have sU:=Js n25 hp l2k;have ls:(rd (λM=>Option.map D.lst (uO [nT ps] M)):DM D)=pure (.lst (ps.map nD)):=bO λM=>by simp[uO,gW,nT]
      unfold nT at sU ls;simp only[dm,cD,cC,aN,sU,ls,zQ];rw[Pb hp];have e:dF R.length (.tup (ps.map nD))=u5 ps:=by simp only[dF,hA,hXE,zu];simp
      cases er:u5 ps with
      |true=>
        simp;refine Rn.pure (.inl ⟨_,rfl,⟨_,rfl⟩,rfl,λj2 d2 h2 hd2=>?_⟩)
        by_cases q:j2=j
        ·subst q;rw[hj]at hd2;cases hd2;rw[e,er]
        ·exact hI j2 d2 (by lia) hd2
      |false=>simp;exact Rn.pure (.inr ⟨_,rfl,rfl,rfl,bad (by rw[e,er])⟩)
    |_=>exact absurd rfl hX
   ·rcases hI with ⟨δ',rfl,⟨z,rfl⟩,rfl,hI⟩ | ⟨d,rfl,rfl,rfl,e⟩
    ·rw[hK];refine Rn.pure ⟨_,rfl,?_,rfl⟩;simp only[bW,hE,Bool.not_false,Bool.true_and];have:l.all (dF R.length)=true:=Uh.mpr λx hx=>by obtain⟨j,hj⟩:=VF.mp hx;exact hI j x (by have:=(Ti.mp hj).1;lia) hj
     rw[this]
    ·rw[hR'];exact Rn.pure ⟨_,rfl,by rw[e],rfl⟩
 |_=>exact absurd rfl hT
theorem Ge{β:Type}{fe:ak->DM D}{A:Option D}{rest:ak}(enc:β->D)(e:β->D):∀ (bs:List β) (y:Option D) (l:List D),l.length + bs.length<=1000000->(∀ b∈bs,fe (A::some (enc b)::rest)=pure (e b))->
  ∃y',bc (gN 1) (λz=>pure true) (bA fe) (bs.map enc) (A::y::rest) l=pure (A::y'::rest,l++bs.map e)
 |[],y,l,_,_=>⟨y,by simp[bc]⟩
 |b::bs,y,l,hl,h=>by
   have c:=h b (by simp)
   have hl':l.length+(bs.length+1)<=1000000:=by simpa using hl
   have lt:l.length<sizeLine:=by show l.length<2^24;lia
   obtain⟨y',q⟩:=Ge (rest:=rest) enc e bs (some (enc b)) (l++[e b]) (by simp;lia) (λb hb=>h b (by simp[hb]))
   exact⟨y',by simp[bc,bA,c,lt,q]⟩
theorem Ff{α β:Type}{fi:ak->DM Itn}{fe:ak->DM D}{rest:ak}(enc:α->D)(enc':β->D)(e:α->β->D)(bs:α->List β)(m:Nat)(hb:∀ a,(bs a).length<=m):∀ (as:List α) (x y:Option D) (l:List D),l.length + as.length * m<=1000000->
  (∀a∈as,∀y,fi (some (enc a)::y::rest)=pure (.fix ((bs a).map enc')))->(∀a∈as,∀b∈bs a,fe (some (enc a)::some (enc' b)::rest)=pure (e a b))->
  ∃δ',bc (gN 0) (λz=>pure true) (jO fi (gN 1) (λz=>pure true) (bA fe)) (as.map enc) (x::y::rest) l=pure (δ',l++as.flatMap λa=>(bs a).map (e a))
 |[],x,y,l,_,_,_=>⟨x::y::rest,by simp[bc]⟩
 |a::as,x,y,l,hl,h1,h2=>by
   have hl':l.length+(as.length*m+m)<=1000000:=by rw[<-Nat.succ_mul];simpa using hl
   have ha:=hb a;obtain⟨y',q⟩:=Ge (A:=some (enc a)) (rest:=rest) enc' (e a) (bs a) y l (by lia) (λb hb=>h2 a (by simp) b hb)
   obtain⟨δ',q'⟩:=Ff (rest:=rest) enc enc' e bs m hb as (some (enc a)) y' (l++(bs a).map (e a)) (by simp;lia) (λa ha=>h1 a (by simp[ha])) (λa ha=>h2 a (by simp[ha]))
   exact⟨δ',by simp[bc,jO,h1 a (by simp),cB,q,q']⟩
theorem Gm{l:List D}(h0:0<l.length):(rd (bU (.tup l) (.int (-1))):DM D)=pure (l[l.length-1]'(by lia)):=bO λM=>by
 show atI l (-1)=_;unfold atI;have e:ixN l.length (-1)=some (l.length-1):=by
  unfold ixN;rw[Tw (by lia),Tv (by lia)]
  congr 1
  lia
 rw[e];exact Tj (by lia)
theorem Kv{S:List (List Nat)}{j:Nat}(hj:j<S.length):(rd (bU (.tup (S.map nT)) (.int ((j:Int) - 1))):DM D)=pure (nT (gr S ((j + S.length - 1) % S.length))):=by
 cases j with
 |zero=>
   have e:(0+S.length-1)%S.length=S.length-1:=by rw[Up];exact V8 (by lia)
   rw[e];refine (Gm (l:=S.map nT) (by simpa using hj)).trans ?_
   congr 1;rw[gK (by lia)]
   simp
 | succ j=>
   have e:(j+1+S.length-1)%S.length=j:=by rw[show j+1+S.length-1=j+S.length by lia,Nat.add_mod_right];exact V8 (by lia)
   rw[e];have:((j+1:Nat):Int)-1=(j:Int):=by lia
   rw[this];exact gP (i:=j) (by rw[T8,Tj (by lia),gK (by lia)];rfl)
theorem Du(i:Nat)(l:List Nat):(rd (inD (nD i) (nT l)):DM D)=Pure.pure (.bl (l.contains i)):=bO λM=>by show ((intsOf (l.map nD))).map _=_;rw[dU,WP,tR]
theorem za{α β:Type}{m:Nat}{f:α->List β}:∀ {l:List α},(∀ a∈l,(f a).length<=m)->(l.flatMap f).length<=l.length * m
 |[],_=>by simp
 |a::l,h=>by
   have h1:=h a (.head _);have h2:=za (l:=l) λb hb=>h b (.tail _ hb)
   rw[List.flatMap_cons,T3,Ve,Nat.add_mul]
   lia
theorem Lk{N:List (List Nat)}{x:Nat}(h:x<N.length):(rd (bU (.lst (N.map nT)) (nD x)):DM D)=pure (nT (gr N x)):=xF (i:=x) (by rw[T8,Tj h,gK h];rfl)
noncomputable def o6:D->List Nat
 |.tup l=>l.map qb
 |_=>[]
noncomputable def mY(R:List (List Nat))(s:List Nat):List Nat:=s.flatMap λx=>(gr (cP R) x).map λy=>y
noncomputable def vO(R S:List (List Nat))(i:Nat):Bool:=(mY R (gr S ((i+S.length-1)%S.length))).all λy=>(gr S i).contains y
noncomputable def oM(R S:List (List Nat)):Bool:=(List.range S.length).all (vO R S)
theorem sets_of{n:Nat}:∀ {l:List D},l.all (dF n)=true->l=(l.map o6).map nT/\∀ s∈l.map o6,∀ x∈s,x<n
 |[],_=>⟨rfl,λs h=>by cases h⟩
 | d::l,h=>by
   rw[XF,U5]at h;obtain⟨e,k⟩:=sets_of h.2;have h1:=h.1;cases d with
   | tup a=>
     simp only[dF,Bool.and_eq_true]at h1;obtain⟨ps,rfl,hp⟩:=lH h1.1.1;have e1:o6 (.tup (ps.map nD))=ps:=zu ps;refine⟨?_,λs hs=>?_⟩
     ·rw[Uu,Uu,<-e,e1];rfl
     ·rw[Uu,e1]at hs;rcases TV.mp hs with rfl | hs
      ·exact hp
      ·exact k s hs
   |_=>cases h1
noncomputable def xR:=aL 2 5 (wD xT Eh uz)
noncomputable def rE(R:List (List Nat)):D->Bool
 |.tup l=>oM R (l.map o6)
 |_=>false
noncomputable def R0(M0:Mo)(R S:List (List Nat))(W:Nat)(i:Nat)(δ:ak)(M:Mo):Prop:=(∃z3 z4,δ=[some (bQ R W),some (.tup (S.map nT)),some (.lst ((cP R).map nT)),z3,z4])/\M=M0/\∀j,j<i->vO R S j=true
theorem Gd.rg{R:List (List Nat)}{W B m:Nat}{d:D}(wk:WK R W)(h:Gd B m d)(hw:wt d<=2000000):xR [bQ R W,d]=pure (.bl (bW R.length d && rE R d)):=nq λM=>by
 have isT:=h.isT;have n25:=wk.n25;unfold xR wD qj;dsimp only;refine Rn.call rfl ?_;have st:bJ 5 [bQ R W,d]=[some (bQ R W),some d,none,none,none]:=rfl;rw[st];clear st;refine bz λK hK hR'=>?_
 by_cases hT:gk d=false
 ·have e:bW R.length d=false:=by cases d<;>first | rfl | cases hT
  simp[isT,hT];rw[hR',e];exact Rn.pure ⟨_,rfl,rfl,rfl⟩
 cases h with
 | @tup m l hl=>
   have hlen:=jG l;have hwl:bu l+3<=2000000:=by simpa only[wt] using hw
   have hT':gk (.tup l)=true:=rfl;have tr:(rd (uy (.tup l)):DM Bool)=pure (!l.isEmpty):=bO λM=>rfl
   by_cases hE:l.isEmpty=true
   ·simp[isT,hT',tr,hE];rw[hR'];exact Rn.pure ⟨_,rfl,by simp[bW,hE],rfl⟩
   rw[Vd]at hE;simp[isT,hT',tr,hE];rw[hK];clear hK hR' K;have c1:=JF (x:=none) (rest:=[some (bQ R W)]) (l:=l) (fe:=λδ=>opt δ[0]?.join>>=λa=>opt δ[1]?.join>>=λb=>yZ (Str.ofString "Walk") uz [b]>>=λc=>xT [a,c]) (λd=>.bl (dF R.length d)) (by lia) (λd hd=>by have:=eV hd;simp[KH n25,(hl d hd).is (n:=R.length) (by lia)])
   have al:(rd (nW [.lst (l.map λd=>.bl (dF R.length d))]):DM D)=pure (.bl (l.all (dF R.length))):=by have:=nH (l.map (dF R.length));rw[UT]at this;simpa[Function.comp_def] using this
   refine bz λK hK hR'=>?_
   simp[aZ,dq,lA];rw[c1,aq,al,aq];by_cases hA:l.all (dF R.length)=false
   ·simp[hA];rw[hR'];exact Rn.pure ⟨_,rfl,by simp[bW,hA],rfl⟩
   rw[XC]at hA;simp[hA];rw[hK];clear hK hR' K c1;obtain⟨eS,hS⟩:=sets_of hA;have e0:bW R.length (.tup l)=true:=by simp[bW,hE,hA]
   rw[e0,Bool.true_and];show Rn _ M λr M'=>∃d,r=Fl.rt d/\d=.bl (oM R (l.map o6))/\M'=M
   have sl:(l.map o6).length=l.length:=Tz _;have s1:1<=l.length:=by cases l<;>simp at hE ⊢
   revert eS hS sl;generalize l.map o6=S;intro eS hS sl;have hLen:∀s∈S,s.length<=2000:=λs hs=>by
    have:=eV (a:=l) (x:=nT s) (by rw[eS];exact List.mem_map_of_mem hs)
    have q:wt (nT s)=bu (s.map nD)+3:=by simp only[nT,wt]
    rw[q,kO]at this
    lia
   have nb:∀a,(gr (cP R) a).length<=25:=λa=>by
    by_cases ha:a<R.length
    ·rw[qd ha];have:=Uq (λy=>decide (0<ga (gr R a) y)) (List.range (gr R a).length)
     rw[Uo,wk.row _ (gr_mem ha)]at this;rw[wk.row _ (gr_mem ha)]
     lia
    ·have:gr (cP R) a=[]:=by unfold gr;rw[Vc,Uz (by rw[qX];lia)];rfl
     rw[this];simp
   rw[eS];have np:=Og wk;refine bz λK hK hR'=>?_
   simp[np];rw[hK];clear hK hR' K;refine bz λK hK hR'=>?_
   have ln:(rd (dZ [.tup (S.map nT)]):DM D)=pure (nD S.length):=by simp[nD]
   simp only[cD,cC,aN,ln,cV (n:=S.length) (by lia),fF]
   refine Rn.bind (gj (R0 M R S W) (λr M'=>r=.bl false/\M'=M/\oM R S=false) _ 0 _ _ ⟨⟨_,_,rfl⟩,rfl,λj hj=>by lia⟩ (λj x δ M1 hj hI=>?_)) (λr M1 hI=>?_)
   ·obtain ⟨⟨z3,z4,rfl⟩,rfl,hI⟩:=hI;clear hK hR' K;obtain⟨hj',rfl⟩:=oR hj;rw[Up]at hI ⊢
    rw[dN,aq];refine bz λK hK hR'=>?_
    have pl:(j+S.length-1)%S.length<S.length:=Vo _ (by lia)
    have sb:(rd (vX (nD j) (.int 1)):DM D)=pure (.int ((j:Int)-1)):=by funext M;rfl
    have ixp:=Kv hj';simp only[dm,cD,cC,aN,sb,ixp];have as1:o9 (nT (gr S ((j+S.length-1)%S.length)))=some (.fix ((gr S ((j+S.length-1)%S.length)).map nD)):=rfl;have ce:aZ [Str.ofString "place",Str.ofString "following"].length [2] [some (bQ R W),some (D.tup (List.map nT S)),some (D.lst (List.map nT (cP R))),some (nD j),z4]=[none,none,some (.lst ((cP R).map nT))]:=rfl;rw[as1,fM,aq,ce,lA];have mem:∀i,i<S.length->gr S i∈S:=λi hi=>gr_mem hi
    have plt:∀x∈gr S ((j+S.length-1)%S.length),x<R.length:=hS _ (mem _ pl);have e2:((gr S ((j+S.length-1)%S.length)).flatMap λa=>(gr (cP R) a).map λb=>nD b)=(mY R (gr S ((j+S.length-1)%S.length))).map nD:=by unfold mY;rw[List.map_flatMap];simp
    have lf:(mY R (gr S ((j+S.length-1)%S.length))).length<=25*2000:=by
     have:=congrArg List.length e2;rw[Tz]at this;rw[<-this];refine Ue (za (m:=25) λa ha=>?_) ?_
     ·rw[Tz];exact nb a
     ·have:=hLen _ (mem _ pl);exact Ue (Nat.mul_le_mul_right 25 this) (by lia)
    obtain⟨δ2,q2⟩:=Ff (fi:=λδ=>opt δ[2]?.join>>=λa=>opt δ[0]?.join>>=λb=>rd (bU a b)>>=λd=>opt (o9 d)) (fe:=fH 1) (rest:=[some (.lst ((cP R).map nT))]) nD nD (λz b=>nD b) (λa=>gr (cP R) a) 25 nb (gr S ((j+S.length-1)%S.length)) none none [] (by have:=hLen _ (mem _ pl);simp;lia) (λa ha y=>by
     have:=Lk (N:=cP R) (x:=a) (by rw[qX];exact plt a ha)
     simp[this];rfl) (λa ha b hb=>by simp)
    rw[q2];simp only[List.nil_append];have nx:(dM (pure (δ2,(gr S ((j+S.length-1)%S.length)).flatMap λa=>(gr (cP R) a).map λb=>nD b)):DM (ak×List D))=pure (δ2,(gr S ((j+S.length-1)%S.length)).flatMap λa=>(gr (cP R) a).map λb=>nD b):=rfl
    rw[nx,aq];show Rn (Out.val.run ((gr S ((j+S.length-1)%S.length)).flatMap λa=>(gr (cP R) a).map λb=>nD b)>>=_) _ _
    rw[e2];have or1:Out.val.run ((mY R (gr S ((j+S.length-1)%S.length))).map nD)=(pure (.lst ((mY R (gr S ((j+S.length-1)%S.length))).map nD)):DM D):=rfl;rw[or1,aq,hK];clear hK hR' K;have ixj:(rd (bU (.tup (S.map nT)) (nD j)):DM D)=pure (nT (gr S j)):=gP (i:=j) (by rw[T8,Tj hj',gK hj'];rfl)
    have c3:=lu (x:=none) (rest:=[some (.tup (S.map nT)),some (nD j)]) (as:=mY R (gr S ((j+S.length-1)%S.length))) (fe:=λδ=>opt δ[0]?.join>>=λa=>opt δ[1]?.join>>=λb=>opt δ[2]?.join>>=λc=>rd (bU b c)>>=λd=>rd (inD a d)) nD (λy=>.bl ((gr S j).contains y)) (by lia) (λy hy=>by simp[ixj,Du])
    have al3:=nH ((mY R (gr S ((j+S.length-1)%S.length))).map λy=>(gr S j).contains y)
    rw[UT,List.all_map]at al3;have as2:(rd (uE (.lst ((mY R (gr S ((j+S.length-1)%S.length))).map nD))):DM Itn)=pure (.fix ((mY R (gr S ((j+S.length-1)%S.length))).map nD)):=rfl;simp[as2,aZ,dq,lA];rw[c3,aq];have al4:(rd (nW [.lst ((mY R (gr S ((j+S.length-1)%S.length))).map λy=>.bl ((gr S j).contains y))]):DM D)=pure (.bl (vO R S j)):=al3
    rw[al4,aq];cases er:vO R S j with
    |true=>
      simp;refine Rn.pure (.inl ⟨_,rfl,⟨_,_,rfl⟩,rfl,λj2 h2=>?_⟩)
      by_cases q:j2=j
      ·rw[q];exact er
      ·exact hI j2 (by lia)
    |false=>simp;refine Rn.pure (.inr ⟨_,rfl,rfl,rfl,?_⟩);rw[Wv];intro ha;have:=Uh.mp ha j (Tr.mpr hj');rw[er]at this;cases this
   ·rcases hI with ⟨δ',rfl,⟨z3,z4,rfl⟩,rfl,hI⟩ | ⟨d,rfl,rfl,rfl,e⟩
    ·rw[hK];refine Rn.pure ⟨_,rfl,?_,rfl⟩;have:oM R S=true:=Uh.mpr λx hx=>hI x (by have:=Tr.mp hx;simp;lia)
     rw[this]
    ·rw[hR'];exact Rn.pure ⟨_,rfl,by rw[e],rfl⟩
 |_=>exact absurd rfl hT
noncomputable def aK:D->List (List Nat)
 |.tup l=>l.map o6
 |_=>[]
theorem Gf{β:Type}{fe:ak->DM D}{A B:Option D}{rest:ak}(enc:β->D)(e:β->D):∀ (bs:List β) (y:Option D) (l:List D),l.length + bs.length<=1000000->(∀ b∈bs,fe (A::B::some (enc b)::rest)=pure (e b))->
  ∃y',bc (gN 2) (λz=>pure true) (bA fe) (bs.map enc) (A::B::y::rest) l=pure (A::B::y'::rest,l++bs.map e)
 |[],y,l,_,_=>⟨y,by simp[bc]⟩
 |b::bs,y,l,hl,h=>by
   have c:=h b (by simp)
   have hl':l.length+(bs.length+1)<=1000000:=by simpa using hl
   have lt:l.length<sizeLine:=by show l.length<2^24;lia
   obtain⟨y',q⟩:=Gf (rest:=rest) enc e bs (some (enc b)) (l++[e b]) (by simp;lia) (λb hb=>h b (by simp[hb]))
   exact⟨y',by simp[bc,bA,c,lt,q]⟩
theorem JK{i j:Nat}{x y:D}{δ:ak}:gT 2 (fJ (gN i) (fJ (gN j) n6)) (.tup [x,y]) δ=pure ((δ.set i (some x)).set j (some y)):=by simp[gT,fJ,n6]
theorem Fg{fi:ak->DM Itn}{fe:ak->DM D}(h1:∀ (a b:List Nat) z,fi [some (nT a),some (nT b),z]=pure (.fix (b.map nD)))(h2:∀ (a b:List Nat) w,fe [some (nT a),some (nT b),some (nD w)]=pure (.bl (decide (w∈a)))):∀ (P Q:List (List Nat)) (x y z:Option D) (l:List D),l.length + (Q.map List.length).sum<=1000000->
  ∃δ',bc (gT 2 (fJ (gN 0) (fJ (gN 1) n6))) (λv=>pure true) (jO fi (gN 2) (λv=>pure true) (bA fe)) (pairs (P.map nT) (Q.map nT)) [x,y,z] l=pure (δ',l++((P.zip Q).flatMap λp=>p.2.map λw=>decide (w∈p.1)).map D.bl)
 |[],Q,x,y,z,l,_=>⟨[x,y,z],by simp[pairs,bc]⟩
 |a::P,[],x,y,z,l,_=>⟨[x,y,z],by simp[pairs,bc]⟩
 |a::P,b::Q,x,y,z,l,hl=>by
   have hl':l.length+(b.length+(Q.map List.length).sum)<=1000000:=by simpa using hl
   obtain⟨z',q⟩:=Gf (fe:=fe) (A:=some (nT a)) (B:=some (nT b)) (rest:=[]) nD (λw=>.bl (decide (w∈a))) b z l (by lia) (λw v=>h2 a b w)
   obtain⟨δ',q'⟩:=Fg h1 h2 P Q (some (nT a)) (some (nT b)) z' (l++b.map λw=>.bl (decide (w∈a))) (by simp;lia)
   refine⟨δ',?_⟩;simp[pairs,bc,JK,jO,h1,cB,q];rw[q'];simp[Function.comp_def]
theorem Ox(l:List Bool):(rd (xu [.lst (l.map .bl)]):DM D)=pure (.bl (l.any id)):=bO λM=>by simp[xu,aX,wg]
theorem O2(i:Nat)(l:List Nat):(rd (inD (nD i) (nT l)):DM D)=Pure.pure (.bl (decide (i∈l))):=by rw[Du];simp
noncomputable def dj(S T:List (List Nat)):Bool:=!((S.zip T).flatMap λp=>p.2.map λw=>decide (w∈p.1)).any id
noncomputable def eO(R:List (List Nat))(a b:D):Bool:=bW R.length a&&rE R a&&(bW R.length b&&rE R b)&&decide ((aK a).length=(aK b).length)&&dj (aK a) (aK b)
noncomputable def vR(R:List (List Nat)):D->Bool
 |.tup [a,b]=>eO R a b
 |_=>false
noncomputable def sY:=aL 2 4 (rZ xR)
theorem jE{n:Nat}{d:D}(h:bW n d=true):d=.tup ((aK d).map nT)/\(∀ s∈aK d,∀ x∈s,x<n)/\1<=(aK d).length:=by
 cases d with
 |tup l=>
   simp only[bW,Bool.and_eq_true]at h;obtain⟨e,k⟩:=sets_of h.2;refine⟨congrArg D.tup e,k,?_⟩;show 1<=(l.map o6).length;rw[Tz];cases l<;>simp at h ⊢
 |_=>cases h
theorem p7(S:List (List Nat)):(rd (dZ [.tup (S.map nT)]):DM D)=pure (.int (S.length:Int)):=by simp
theorem pL(b:Bool):(eN (.bl b):DM Bool)=pure b:=by funext M;rfl
theorem uq:∀ S:List (List Nat),2 * (S.map List.length).sum<=bu (S.map nT)
 |[]=>Vl _
 |s::S=>by
   have:=uq S;have q:wt (nT s)=bu (s.map nD)+3:=by simp only[nT,wt]
   simp only[List.map_cons,List.sum_cons,bu,q,kO]
   lia
theorem Gd.ars{R:List (List Nat)}{W B m:Nat}{d:D}(wk:WK R W)(h:Gd B m d)(hw:wt d<=2000000):sY [bQ R W,d]=pure (.bl (vR R d)):=nq λM=>by
 have isT:=h.isT;unfold sY rZ lZ;dsimp only;refine Rn.call rfl ?_;have st:bJ 4 [bQ R W,d]=[some (bQ R W),some d,none,none]:=rfl;rw[st];clear st;refine bz λK hK hR'=>?_
 by_cases hT:gk d=false
 ·have e:vR R d=false:=by cases d<;>first | rfl | cases hT
  simp[isT,hT];rw[hR',e];exact Rn.pure ⟨_,rfl,rfl,rfl⟩
 cases h with
 | @tup m l hl=>
   have hwl:bu l+3<=2000000:=by simpa only[wt] using hw
   have hT':gk (.tup l)=true:=rfl;have ln:(rd (fW (.int (l.length:Int)) (.int 2)):DM D)=pure (.bl (!decide ((l.length:Int)=2))):=uZ _ _;by_cases h2:l.length=2;rotate_left
   ·have e:vR R (.tup l)=false:=by
     match l,h2 with
     |[],_=>rfl
     |[_],_=>rfl
     |_::_::_::_,_=>rfl
    have l2:decide ((l.length:Int)=2)=false:=Ux (by lia)
    simp[isT,hT',ln,l2];rw[hR',e];exact Rn.pure ⟨_,rfl,rfl,rfl⟩
   obtain⟨a,b,rfl⟩:∃a b,l=[a,b]:=by
    match l,h2 with
    |[a,b],_=>exact⟨a,b,rfl⟩
   have wa:=eV (a:=[a,b]) (x:=a) (by simp)
   have wb:=eV (a:=[a,b]) (x:=b) (by simp)
   have ra:=(hl a (by simp)).rg wk (by lia)
   have rb:=(hl b (by simp)).rg wk (by lia)
   have l2:decide (((([a,b]:List D).length:Nat):Int)=2)=true:=rfl;show Rn _ M λr M'=>∃d,r=Fl.rt d/\d=D.bl (eO R a b)/\M'=M
   simp[isT,hT',ln,l2];rw[hK];clear hK hR' K;refine bz λK hK hR'=>?_
   simp[JK];rw[hK];clear hK hR' K;refine bz λK hK hR'=>?_
   by_cases ea:(bW R.length a&&rE R a)=true;rotate_left
   ·rw[Vd]at ea;simp[ra,ea];rw[hR'];exact Rn.pure ⟨_,rfl,by unfold eO;rw[ea];rfl,rfl⟩
   by_cases eb:(bW R.length b&&rE R b)=true;rotate_left
   ·rw[Vd]at eb;simp[ra,ea,rb,eb];rw[hR'];exact Rn.pure ⟨_,rfl,by unfold eO;rw[ea,eb];rfl,rfl⟩
   have fin:eO R a b=(decide ((aK a).length=(aK b).length)&&dj (aK a) (aK b)):=by unfold eO;rw[ea,eb];rfl
   rw[fin];clear fin;obtain⟨da,pa,la⟩:=jE ((U5 _ _).mp ea).1;obtain⟨db,pb,lb⟩:=jE ((U5 _ _).mp eb).1;rw[ea]at ra;rw[eb]at rb;have wb':bu ((aK b).map nT)<=2000000:=by
    have:wt (.tup ((aK b).map nT))<=2000000:=by rw[<-db];lia
    simp only[wt]at this
    lia
   have hb:((aK b).map List.length).sum<=1000000:=by have:=uq (aK b);lia
   clear ea eb isT hl hw hwl wa wb ln l2 hT hT' h2 wb' pa pb la lb;revert da db hb;generalize aK a=S;generalize aK b=T;intro da db hb;subst da db;have l3:(rd (fW (.int (S.length:Int)) (.int (T.length:Int))):DM D)=pure (.bl (!decide (S.length=T.length))):=by rw[uZ];congr 3;rw[decide_eq_decide];lia
   cases eL':decide (S.length=T.length) with
   |false=>simp[ra,rb,p7,l3,eL'];rw[hR'];exact Rn.pure ⟨_,rfl,rfl,rfl⟩
   |true=>
     simp[ra,rb,p7,l3,eL'];rw[hK];clear hK hR' K;obtain⟨δ',q⟩:=Fg (fi:=λδ=>opt δ[1]?.join>>=λd=>opt (o9 d)) (fe:=λδ=>opt δ[2]?.join>>=λa=>opt δ[0]?.join>>=λb=>rd (inD a b)) (λa b z=>by simp;rfl) (λa b w=>by simp[O2]) S T none none none [] (by simpa using hb)
     simp[aZ,dq,lA];rw[q];simp only[List.nil_append];have nx:∀(v:ak×List D),(dM (pure v):DM (ak×List D))=pure v:=λv=>rfl
     rw[nx,aq];simp only[Ox,aq,pL];exact Rn.pure ⟨_,rfl,rfl,rfl⟩
 |_=>exact absurd rfl hT
noncomputable def outs(R:List (List Nat))(x:Nat)(s:List Nat):List Nat:=(List.range R.length).filter λy=>decide (0<ga (gr R x) y)&&!s.contains y
noncomputable def fits(R S:List (List Nat))(i:Nat):Bool:=(gr S i).all λx=>(outs R x (gr S ((i+1)%S.length))).isEmpty
noncomputable def fB(R S:List (List Nat)):Bool:=(List.range S.length).all (fits R S)
noncomputable def Fy(S T:List (List Nat)):Bool:=(S.zip T).all λp=>(p.1.filter λx=>p.2.contains x).isEmpty
theorem Qh(S T:List (List Nat)):Fy S T=dj S T:=by
 unfold Fy dj;rw[T7,Bool.not_eq_true',Wv,Ne,VL,Uh];constructor
 ·rintro h ⟨b,hb,e⟩;obtain⟨p,hp,hb⟩:=XS.mp hb;obtain⟨w,hw,rfl⟩:=Us.mp hb;have:=h p hp;rw[XJ,Wj]at this;have e':w∈p.1:=by simpa using e
  exact this w e' (by simpa using hw)
 ·intro h p hp;rw[XJ,Wj];intro x hx hc;exact h ⟨true,XS.mpr ⟨p,hp,Us.mpr ⟨x,by simpa using hc,by simpa using hx⟩⟩,rfl⟩
theorem BW{R S:List (List Nat)}{W:Nat}(wk:WK R W)(hS:∀ s∈S,∀ x∈s,x<R.length):fB R S=oM R S:=by
 by_cases h0:S.length=0
 ·have:S=[]:=List.eq_nil_of_length_eq_zero h0;subst this;rfl
 have key:∀ i j,i<S.length->(i + 1) % S.length=j->fits R S i=vO R S j:=λi j hi hj=>by
  have hj':j<S.length:=by rw[<-hj];exact Vo _ (by lia)
  have pv:(j+S.length-1)%S.length=i:=by
   rw[<-hj];by_cases q:i+1=S.length
   ·rw[q,Nat.mod_self,Up];rw[V8 (by lia)];lia
   ·rw[V8 (show i+1<S.length by lia),show i+1+S.length-1=i+S.length by lia,Nat.add_mod_right]
    exact V8 hi
  unfold fits vO;rw[hj,pv,T7,Uh,Uh];constructor
  ·intro h y hy;unfold mY at hy;obtain⟨x,hx,hy⟩:=XS.mp hy;rw[List.map_id']at hy;have hx':=hS _ (gr_mem hi) x hx;obtain⟨y1,y2⟩:=(qY wk hx').mp hy;have:=h x hx;unfold outs at this;rw[XJ,Wj]at this;have q:=this y (Tr.mpr y1);simpa[y2] using q
  ·intro h x hx;have hx':=hS _ (gr_mem hi) x hx;unfold outs;rw[XJ,Wj];intro y hy hc;rw[U5]at hc;have m:=h y (by unfold mY;refine XS.mpr ⟨x,hx,?_⟩;rw[List.map_id'];exact (qY wk hx').mpr ⟨Tr.mp hy,by simpa using hc.1⟩)
   rw[m]at hc;simp at hc
 unfold fB oM;rw[T7,Uh,Uh];constructor
 ·intro h j hj;have hj':=Tr.mp hj;have e:((j+S.length-1)%S.length+1)%S.length=j:=by
   by_cases q:j=0
   ·subst q;rw[Up,V8 (show S.length-1<S.length by lia),show S.length-1+1=S.length by lia,Nat.mod_self]
   ·rw[show j+S.length-1=(j-1)+S.length by lia,Nat.add_mod_right,V8 (show j-1<S.length by lia),show j-1+1=j by lia]
    exact V8 hj'
  have hi:(j+S.length-1)%S.length<S.length:=Vo _ (by lia)
  rw[<-key _ j hi e];exact h _ (Tr.mpr hi)
 ·intro h i hi;have hi':=Tr.mp hi;rw[key i _ hi' rfl];exact h _ (Tr.mpr (Vo _ (by lia)))
noncomputable def vp:=aL 2 9 (jH xU)
noncomputable def R4(M0:Mo)(pre:ak)(S T:List (List Nat))(i:Nat)(δ:ak)(M:Mo):Prop:=(∃z2 z3 z4 z5 z6 z7 z8,δ=pre++[z2,z3,z4,z5,z6,z7,z8])/\M=M0/\∀j p,j<i->(S.zip T)[j]?=some p->(p.1.filter λx=>p.2.contains x).isEmpty=true
theorem zE:∀(S T:List (List Nat)),pairs (S.map nT) (T.map nT)=(S.zip T).map λp=>.tup [nT p.1,nT p.2]
 |[],_=>by simp[pairs]
 |_::_,[]=>by simp[pairs]
 |a::S,b::T=>by simp[pairs,zE S T]
noncomputable def RX(M0:Mo)(R S:List (List Nat))(pre:ak)(i:Nat)(k:Nat)(δ:ak)(M:Mo):Prop:=(∃z8,δ=pre++[z8])/\M=M0/\∀j x,j<k->(gr S i)[j]?=some x->(outs R x (gr S ((i+1)%S.length))).isEmpty=true
noncomputable def RP(M0:Mo)(R S:List (List Nat))(pre:ak)(i:Nat)(δ:ak)(M:Mo):Prop:=(∃z5 z6 z7 z8,δ=pre++[z5,z6,z7,z8])/\M=M0/\∀j,j<i->fits R S j=true
noncomputable def RM(M0:Mo)(R:List (List Nat))(l:List D)(pre:ak)(z2 z3:Option D)(i:Nat)(δ:ak)(M:Mo):Prop:=(∃z4 z5 z6 z7 z8,δ=pre++[z2,z3,z4,z5,z6,z7,z8])/\M=M0/\∀j d,j<i->l[j]?=some d->fB R (aK d)=true
set_option tactic.hygienic true in
theorem Gd.lar{R:List (List Nat)}{W B m:Nat}{d:D}(wk:WK R W)(h:Gd B m d)(hw:wt d<=2000000):vp [nM R,d]=pure (.bl (vR R d)):=nq λM=>by
 have isT:=h.isT;have n25:=wk.n25;unfold vp jH gq;dsimp only;refine Rn.call rfl ?_;have st:bJ 9 [nM R,d]=[some (nM R),some d,none,none,none,none,none,none,none]:=rfl;rw[st];clear st;refine bz λK hK hR'=>?_
 by_cases hT:gk d=false
 ·have e:vR R d=false:=by cases d<;>first | rfl | cases hT
  simp[isT,hT];rw[hR',e];exact Rn.pure ⟨_,rfl,rfl,rfl⟩
 cases h with
 | @tup m l hl=>
   have hwl:bu l+3<=2000000:=by simpa only[wt] using hw
   have hT':gk (.tup l)=true:=rfl;have ln:(rd (fW (.int (l.length:Int)) (.int 2)):DM D)=pure (.bl (!decide ((l.length:Int)=2))):=uZ _ _;by_cases h2:l.length=2;rotate_left
   ·have e:vR R (.tup l)=false:=by
     match l,h2 with
     |[],_=>rfl
     |[_],_=>rfl
     |_::_::_::_,_=>rfl
    have l2:decide ((l.length:Int)=2)=false:=Ux (by lia)
    simp[isT,hT',ln,l2];rw[hR',e];exact Rn.pure ⟨_,rfl,rfl,rfl⟩
   obtain⟨a,b,rfl⟩:∃a b,l=[a,b]:=by
    match l,h2 with
    |[a,b],_=>exact⟨a,b,rfl⟩
   have wa:=eV (a:=[a,b]) (x:=a) (by simp)
   have wb:=eV (a:=[a,b]) (x:=b) (by simp)
   have ra:=(hl a (by simp)).Nz wk (by lia)
   have rb:=(hl b (by simp)).Nz wk (by lia)
   have l2:decide (((([a,b]:List D).length:Nat):Int)=2)=true:=rfl;have i0:(rd (bU (.tup [a,b]) (.int 0)):DM D)=pure a:=gP (i:=0) rfl;have i1:(rd (bU (.tup [a,b]) (.int 1)):DM D)=pure b:=gP (i:=1) rfl;show Rn _ M λr M'=>∃d,r=Fl.rt d/\d=D.bl (eO R a b)/\M'=M
   simp[isT,hT',ln,l2];rw[hK];clear hK hR' K;refine bz λK hK hR'=>?_
   by_cases ea:bW R.length a=false
   ·simp[i0,i1,ra,ea];rw[hR'];exact Rn.pure ⟨_,rfl,by simp[eO,ea],rfl⟩
   rw[XC]at ea;by_cases eb:bW R.length b=false
   ·simp[i0,i1,ra,ea,rb,eb];rw[hR'];exact Rn.pure ⟨_,rfl,by simp[eO,eb],rfl⟩
   rw[XC]at eb;obtain⟨da,pa,la⟩:=jE ea;obtain⟨db,pb,lb⟩:=jE eb;have lna:(rd (dZ [a]):DM D)=pure (.int ((aK a).length:Int)):=by
    conv=>lhs;rw[da]
    exact p7 _
   have lnb:(rd (dZ [b]):DM D)=pure (.int ((aK b).length:Int)):=by
    conv=>lhs;rw[db]
    exact p7 _
   have l3:(rd (fW (.int ((aK a).length:Int)) (.int ((aK b).length:Int))):DM D)=pure (.bl (!decide ((aK a).length=(aK b).length))):=by rw[uZ];congr 3;rw[decide_eq_decide];lia
   by_cases eL:(aK a).length=(aK b).length;rotate_left
   ·have eL':decide ((aK a).length=(aK b).length)=false:=Ux eL;simp[i0,i1,ra,ea,rb,eb,lna,lnb,l3,eL'];rw[hR'];exact Rn.pure ⟨_,rfl,by simp[eO,eL'],rfl⟩
   have eL':decide ((aK a).length=(aK b).length)=true:=Uk eL;have m0:dH []=pure (.lst []):=b7 (by simp)
   have hLs:∀d,wt d<=2000000->bW R.length d=true->∀s∈aK d,s.length<=1000000:=λd hd he s hs=>by
    obtain⟨e,_,_⟩:=jE he;have q:bu ((aK d).map nT)+3<=2000000:=by
     have:wt (.tup ((aK d).map nT))<=2000000:=by rw[<-e];exact hd
     simpa only[wt] using this
    have:=uq (aK d);have:=Ce (l:=(aK d).map List.length) (List.mem_map_of_mem hs)
    lia
   have hLa:=hLs a (by lia) ea
   have hLb:=hLs b (by lia) eb
   have fin:eO R a b=(fB R (aK a)&&fB R (aK b)&&Fy (aK a) (aK b)):=by
    have q1:∀d,bW R.length d=true->rE R d=oM R (aK d):=λd hd=>by cases d<;>first | rfl | cases hd
    unfold eO;rw[ea,eb,eL',q1 a ea,q1 b eb,<-BW wk pa,<-BW wk pb,<-Qh];simp
   simp[i0,i1,ra,ea,rb,eb,lna,lnb,l3,eL'];rw[hK];clear hK hR' K;refine bz λK hK hR'=>?_
   have zp:Ad [a,b]=some (.fix (((aK a).zip (aK b)).map λp=>.tup [nT p.1,nT p.2])):=by
    conv=>lhs;rw[da,db]
    rw[O7,zE]
   simp[i0,i1,zp,fF];refine Rn.bind (gj (R4 M [some (nM R),some (.tup [a,b])] (aK a) (aK b)) (λr M'=>r=.bl false/\M'=M/\Fy (aK a) (aK b)=false) _ 0 _ _ ⟨⟨_,_,_,_,_,_,_,rfl⟩,rfl,λj p hj=>by lia⟩ (λj x δ M1 hj hI=>?_)) (λr M1 hI=>?_)
   ·obtain ⟨⟨z2,z3,z4,z5,z6,z7,z8,rfl⟩,rfl,hI⟩:=hI;clear hK hR' K;rw[T8]at hj;obtain⟨p,hp,rfl⟩:=Tp.mp hj;rw[Up]at hI ⊢
    rw[JK,aq];simp[aZ,dq];have as1:o9 (nT p.1)=some (.fix (p.1.map nD)):=rfl;have pm:=Wo (T9 hp);have cz:=aR (x:=none) (rest:=[some (nT p.2)]) (as:=p.1) (ft:=λδ=>opt δ[0]?.join>>=λa=>opt δ[1]?.join>>=λb=>rd (inD a b)>>=eN) (fe:=fH 0) nD (λx=>p.2.contains x) nD (hLa _ pm.1) (λx hx=>by simp[Du]) (λz z z=>by simp)
    have nn:=vJ (p.1.filter λx=>p.2.contains x)
    unfold lD at nn;rw[as1,fM,aq,lA,cz,aq,m0,aq,nn,aq,pL,aq];cases er:(p.1.filter λx=>p.2.contains x).isEmpty with
    |true=>
      simp;refine Rn.pure (.inl ⟨_,rfl,⟨_,_,_,_,_,_,_,rfl⟩,rfl,λj2 p2 h2 hp2=>?_⟩)
      by_cases q:j2=j
      ·subst q;rw[hp]at hp2;cases hp2;exact er
      ·exact hI j2 p2 (by lia) hp2
    |false=>simp;refine Rn.pure (.inr ⟨_,rfl,rfl,rfl,?_⟩);rw[Wv];intro ha;have:=Uh.mp ha p (T9 hp);rw[er]at this;cases this
   rcases hI with ⟨δ',rfl,⟨z2,z3,z4,z5,z6,z7,z8,rfl⟩,rfl,hI⟩ | ⟨d,rfl,rfl,rfl,e⟩
   rotate_left
   ·rw[hR'];exact Rn.pure ⟨_,rfl,by rw[fin,e];simp,rfl⟩
   have dj1:Fy (aK a) (aK b)=true:=Uh.mpr λp hp=>by obtain⟨j,hj⟩:=VF.mp hp;exact hI j p (by have:=(Ti.mp hj).1;simp at this ⊢;lia) hj
   rw[hK];clear hK hR' K;rw[fin,dj1,Bool.and_true];refine bz λK hK hR'=>?_
   simp[fF];refine Rn.bind (gj (RM M1 R [a,b] [some (nM R),some (.tup [a,b])] z2 z3) (λr M'=>r=.bl false/\M'=M1/\(fB R (aK a)&&fB R (aK b))=false) _ 0 _ _ ⟨⟨_,_,_,_,_,rfl⟩,rfl,λj d hj=>by lia⟩ (λj x δ M2 hj hI=>?_)) (λr M2 hI=>?_)
   ·obtain ⟨⟨y4,y5,y6,y7,y8,rfl⟩,rfl,hI⟩:=hI;clear hK hR' K;rw[Up]at hI ⊢
    have hx:x∈[a,b]:=T9 hj;have ex:bW R.length x=true:=by
     simp at hx;rcases hx with rfl | rfl
     ·exact ea
     ·exact eb
    have wx:wt x<=2000000:=by
     have:=eV hx
     lia
    have hLx:=hLs x wx ex;have bad:fB R (aK x)=false->(fB R (aK a)&&fB R (aK b))=false:=λe=>by
     simp at hx;rcases hx with rfl | rfl
     ·rw[e];rfl
     ·rw[e];simp
    obtain⟨dx,px,lx⟩:=jE ex;have okx:fB R (aK x)=true->Rn (pure (Fl.nx [])) M2 (λr M'=>True):=λz=>Rn.pure trivial
    clear okx;have next:fB R (aK x)=true->∀j2 d2,j2<j+1->[a,b][j2]?=some d2->fB R (aK d2)=true:=λe j2 d2 h2 hd2=>by
     by_cases q:j2=j
     ·subst q;rw[hj]at hd2;cases hd2;exact e
     ·exact hI j2 d2 (by lia) hd2
    revert bad next dx px lx hLx
    generalize aK x=S;intro hLx bad dx px lx next
    rw[dN,aq];have en:uL [x]=some (.fix (d8 0 (S.map nT))):=by rw[dx];rfl
    simp only[dm,cD,List.cons_append,List.nil_append,cC,aN,en,fF];refine (gj (RP M2 R S [some (nM R),some (.tup [a,b]),z2,z3,some x]) (λr M'=>r=.bl false/\M'=M2/\fB R S=false) _ 0 _ _ ⟨⟨_,_,_,_,rfl⟩,rfl,λj hj=>by lia⟩ (λi w δ M3 hi hI2=>?_)).mono (λr M3 hI2=>?_)
    rotate_left
    ·rcases hI2 with ⟨δ',rfl,⟨y5,y6,y7,y8,rfl⟩,rfl,hI2⟩ | ⟨d,rfl,rfl,rfl,e⟩
     ·refine .inl ⟨_,rfl,⟨_,_,_,_,_,rfl⟩,rfl,next ?_⟩
      refine Uh.mpr λi hi=>hI2 i ?_
      have:=Tr.mp hi;rw[zz];simp;lia
     ·exact .inr ⟨_,rfl,rfl,rfl,bad e⟩
    obtain⟨⟨y5,y6,y7,y8,rfl⟩,rfl,hI2⟩:=hI2;obtain⟨w',hw',rfl⟩:=jC _ _ _ hi;rw[T8]at hw';obtain⟨s,hs,rfl⟩:=Tp.mp hw';have hiS:i<S.length:=(Ti.mp hs).1;have gs:gr S i=s:=by rw[gK hiS];exact (Ti.mp hs).2
    rw[Up]at hI2 ⊢
    rw[JK,aq];refine bz λK hK hR'=>?_
    have lnx:(rd (dZ [x]):DM D)=pure (nD S.length):=by rw[dx];exact p7 S
    have ad:(rd (b8 (nD i) (.int 1)):DM D)=pure (nD (i+1)):=by funext M;rfl
    have md:(rd (jR (nD (i+1)) (nD S.length)):DM D)=pure (nD ((i+1)%S.length)):=zO (by lia)
    have lt:(i+1)%S.length<S.length:=Vo _ (by lia)
    have ixx:(rd (bU x (nD ((i+1)%S.length))):DM D)=pure (nT (gr S ((i+1)%S.length))):=by rw[dx];exact gP (i:=(i+1)%S.length) (by rw[T8,Tj lt,gK lt];rfl)
    simp only[dm,cD,List.cons_append,List.nil_append,cC,aN,lnx,ad,md,ixx];rw[hK];clear hK hR' K;have as1:o9 (nT s)=some (.fix (s.map nD)):=rfl;simp only[dm,cD,List.cons_append,List.nil_append,cC,aN,as1,fF];refine (gj (RX M3 R S [some (nM R),some (.tup [a,b]),z2,z3,some x,some (nD i),some (nT s),some (nT (gr S ((i+1)%S.length)))] i) (λr M'=>r=.bl false/\M'=M3/\fits R S i=false) _ 0 _ _ ⟨⟨_,rfl⟩,rfl,λj x hj=>by lia⟩ (λk v δ M4 hk hI3=>?_)).mono (λr M4 hI3=>?_)
    rotate_left
    ·rcases hI3 with ⟨δ',rfl,⟨y8',rfl⟩,rfl,hI3⟩ | ⟨d,rfl,rfl,rfl,e⟩
     ·refine .inl ⟨_,rfl,⟨_,_,_,_,rfl⟩,rfl,λi2 h2=>?_⟩
      by_cases q:i2=i
      ·subst q;refine Uh.mpr λv hv=>?_
       obtain⟨k,hk⟩:=VF.mp hv;refine hI3 k v ?_ hk;have:=(Ti.mp hk).1;rw[gs]at this;simp;lia
      ·exact hI2 i2 (by lia)
     ·refine .inr ⟨_,rfl,rfl,rfl,?_⟩;rw[Wv];intro ha;have:=Uh.mp ha i (Tr.mpr hiS);rw[e]at this;cases this
    obtain⟨⟨y8',rfl⟩,rfl,hI3⟩:=hI3;rw[T8]at hk;obtain⟨v',hv',rfl⟩:=Tp.mp hk;have vlt:v'<R.length:=px s (T9 hs) v' (T9 hv');rw[Up]at hI3 ⊢
    rw[dN,aq];have co:=aR (x:=none) (rest:=[some (nM R),some (nD v'),some (nT (gr S ((i+1)%S.length)))]) (as:=List.range R.length) (ft:=λδ=>opt δ[1]?.join>>=λa=>opt δ[2]?.join>>=λb=>rd (bU a b)>>=λa=>opt δ[0]?.join>>=λb=>rd (bU a b)>>=λa=>rd (iQ a (.int 0))>>=λa=>eN a>>=λk=>if k=true then opt δ[0]?.join>>=λa=>opt δ[3]?.join>>=λb=>rd (Dk a b)>>=eN else pure false) (fe:=fH 0) nD (λy=>decide (0<ga (gr R v') y)&&!(gr S ((i+1)%S.length)).contains y) nD (by simp;lia) (λy hy=>by
     have hy':=Tr.mp hy;have g:∀a:Nat,(rd (iQ (nD a) (.int 0)):DM D)=pure (.bl (decide (0<a))):=λa=>nJ a 0
     have ni:(rd (Dk (nD y) (nT (gr S ((i+1)%S.length)))):DM D)=pure (.bl (!(gr S ((i+1)%S.length)).contains y)):=bO λM=>by show ((intsOf ((gr S ((i+1)%S.length)).map nD))).map _=_;rw[dU,WP,tR]
     simp only[List.getElem?_cons_zero,List.getElem?_cons_succ,Option.join_some,fM,aq,rB vlt,uY (l:=gr R v') (i:=y) (by rw[wk.row _ (gr_mem vlt)];exact hy'),g,pL]
     cases e:decide (0<ga (gr R v') y) with
     |true=>simp only[if_true,ni,aq,pL,Bool.true_and]
     |false=>rfl) (λz z z=>by simp)
    have nn:=vJ (outs R v' (gr S ((i+1)%S.length)));unfold lD outs at nn;simp only[dm,cD,List.cons_append,List.nil_append,cC,aN,fL,cV (n:=R.length) (by lia),lA]
    have ce:aZ 1 [0,8,7] [some (nM R),some (.tup [a,b]),z2,z3,some x,some (nD i),some (nT s),some (nT (gr S ((i+1)%S.length))),some (nD v')]=[none,some (nM R),some (nD v'),some (nT (gr S ((i+1)%S.length)))]:=rfl;rw[ce,co,aq,m0,aq,nn,aq,pL,aq];have ot:(List.filter (λy=>decide (0<ga (gr R v') y)&&!(gr S ((i+1)%S.length)).contains y) (List.range R.length))=outs R v' (gr S ((i+1)%S.length)):=rfl
    rw[ot];cases er:(outs R v' (gr S ((i+1)%S.length))).isEmpty with
    | true=>
      simp;refine Rn.pure (.inl ⟨_,rfl,⟨_,rfl⟩,rfl,λj2 p2 h2 hp2=>?_⟩)
      by_cases q:j2=k
      ·subst q;rw[gs]at hp2;rw[hv']at hp2;cases hp2;exact er
      ·exact hI3 j2 p2 (by lia) hp2
    |false=>
      simp;refine Rn.pure (.inr ⟨_,rfl,rfl,rfl,?_⟩);rw[Wv];intro ha;have:=Uh.mp ha v' (by rw[gs];exact T9 hv')
      rw[er]at this;cases this
   rcases hI with ⟨δ',rfl,⟨y4,y5,y6,y7,y8,rfl⟩,rfl,hI⟩ | ⟨d,rfl,rfl,rfl,e⟩
   ·rw[hK];refine Rn.pure ⟨_,rfl,?_,rfl⟩;rw[hI 0 a (by simp) rfl,hI 1 b (by simp) rfl];rfl
   ·rw[hR'];exact Rn.pure ⟨_,rfl,by rw[e],rfl⟩
 |_=>exact absurd rfl hT
noncomputable def Pr(d:D):Prop:=∃A B:List (List Nat),d=.tup [nM A,nM B]/\A.length<=21/\B.length<=21/\(∀s∈A,Plcs 6 s)/\∀s∈B,Plcs 6 s
theorem wu:∀ {A:List (List Nat)},(∀ s∈A,Plcs 6 s)->bu (A.map nT)<=11543 * A.length
 |[],_=>Vl _
 |s::A,h=>by
   have:=wu (A:=A) λx hx=>h x (.tail _ hx)
   have l:=(h s (.head _)).len;have q:wt (nT s)=bu (s.map nD)+3:=by simp only[nT,wt]
   simp only[List.map_cons,bu,q,kO,List.length_cons]
   lia
theorem Bb{A:List (List Nat)}(h:∀s∈A,Plcs 6 s):Gd 100 2 (nM A):=.tup λx hx=>by
 obtain⟨s,hs,rfl⟩:=Us.mp hx;refine .tup λx hx=>?_
 obtain⟨z,hz,rfl⟩:=Us.mp hx;have:=(h s hs).lt z hz;exact .int (by show z<=_;lia)
theorem Pr.ok{d:D}(h:Pr d):Gd 100 3 d/\wt d<=484820:=by
 obtain⟨A,B,rfl,a,b,ha,hb⟩:=h;have wa:=wu ha;have wb:=wu hb;refine⟨.tup λx hx=>?_,?_⟩
 ·simp only[List.mem_cons,List.not_mem_nil,or_false]at hx;rcases hx with rfl | rfl
  ·exact Bb ha
  ·exact Bb hb
 ·simp only[wt,bu,nM]
  lia
theorem Gw(S:List (List Nat))(i:Nat):(rd (km (some (i:Int)) none (nM S)):DM D)=pure (nM (S.drop i)):=by unfold nM;rw[u6,List.map_drop]
theorem N7(S:List (List Nat))(i:Nat):(rd (km none (some (i:Int)) (nM S)):DM D)=pure (nM (S.take i)):=by unfold nM;rw[Ph,List.map_take]
theorem Df{A B:List (List Nat)}(h:A.length+B.length<=1000000):(rd (b8 (nM A) (nM B)):DM D)=pure (nM (A++B)):=by unfold nM;rw[iB (by simp;lia),Wc]
theorem Dg{S:List (List Nat)}{k:Nat}(h1:1<=S.length)(h2:S.length<=1000)(h3:2<=k)(h4:k<=100):(rd (vI (nM S) (.int (k:Int))):DM D)=pure (nM (List.replicate k S).flatten):=bO λM=>by
 show (if _ then _ else _)=_
 rw[Tv (Uk ⟨by simp;lia,by simp;lia,by lia,by lia⟩)]
 show some (D.tup (List.replicate k (S.map nT)).flatten)=_;unfold nM;rw[List.map_flatten,List.map_replicate]
theorem N6{Y:List (List Nat)}(h:Y≠[]):(rd (bU (nM Y) (.int (-1))):DM D)=pure (nT (gr Y (Y.length-1))):=by
 have h0:0<Y.length:=List.length_pos_iff.mpr h;have:=Gm (l:=Y.map nT) (by simpa using h0)
 unfold nM;rw[this,gK (by lia)]
 simp
theorem O6{n:Nat}(h:n<=1000):(rd (λM=>(lG [nD n] M).map D.tup):DM D)=pure (nT (List.range n)):=bO λM=>by
 have:lG [nD n] M=some ((List.range n).map nD):=by
  unfold nD;show (if -(2^62)<=(n:Int)/\(n:Int)<=2^20 then some ((List.range (n:Int).toNat).map nD) else none)=_
  rw[Tv ⟨by lia,by lia⟩,Vq]
  rfl
 rw[this];rfl
theorem len_rep{S:List (List Nat)}(k:Nat):(List.replicate k S).flatten.length=k*S.length:=by simp
noncomputable def Ek:=aL 2 9 (rW xW pJ Ej)
theorem Pj{R:List (List Nat)}{W p:Nat}{M:Mo}(wk:WK R W)(hn:R.length<=6)(hp:cN p M):Rn (Ek [.ref p,nM R]) M λd M'=>(∃ L:List D,d=.lst L/\L.length=7/\∀ x∈L,Pr x)/\cN p M':=by
 have n1:=wk.n1;unfold Ek rW lX;dsimp only;refine Rn.call rfl ?_;have st:bJ 9 [D.ref p,nM R]=[some (.ref p),some (nM R),none,none,none,none,none,none,none]:=rfl;rw[st];obtain⟨Y,eY,hY⟩:=shuts wk;have y1:0<Y.length:=List.length_pos_iff.mpr hY.ne;have y6:=hY.len;have rn:∀t,t<Y.length->∃x,Mr R (gr Y t) x:=λt ht=>by have m:=hY.mem _ (gr_mem ht);exact round (Y:=Y) wk m.1 m.2
 have eQ:∀t,t<Y.length->Plcs 6 (gr Y t):=λt ht=>by have m:=uA (hY.mem _ (gr_mem ht)).1;exact⟨by have:=m.2.1;lia,λz hz=>by have:=m.2.2 z hz;lia⟩
 refine aH λK hK=>?_
 simp only[cD,lL,cC,aN];refine Rn.bind (KD wk (by lia) M) λd M1 ⟨e,k1⟩=>?_
 subst e;rw[eY];have hp1:=hp.kpt k1;simp only[dm,aq];rw[hK];clear hK K;refine aH λK hK=>?_
 simp only[cD,lL,cC,aN,fL];refine Rn.bind (dJ (m:=Y.length) hp1 y1 (by lia)) λd1 M2 ⟨a,ga',e,hp2,_⟩=>?_
 subst e;simp only[rB ga',aq];refine Rn.bind (dJ (m:=Y.length) hp2 y1 (by lia)) λd1 M3 ⟨b,gb',e,hp3,_⟩=>?_
 subst e;simp only[rB gb',aq];have pa:=eQ a ga';have pb:=eQ b gb';have rb:=rn b gb';have ra:=rn a ga';revert pa pb ra rb;generalize gr Y a=ya;generalize gr Y b=yb;intro pa pb rb ra;have mt1:∀a:List Nat,ie [nT a]=pure (nM [a]):=λa=>eE (by simp)
 have mt2:∀a b:D,ie [a,b]=pure (.tup [a,b]):=λa b=>eE (by simp)
 simp only[dm,aq];rw[hK];clear hK K;obtain⟨x,ra⟩:=ra;obtain⟨x',rb⟩:=rb;refine aH λK hK=>?_
 simp only[cD,lL,cC,aN];refine Rn.bind (Hq wk hn ra M3) λd M4 ⟨S,e,s1,s7,pS,k4⟩=>?_
 subst e;refine Rn.bind (Hq wk hn rb M4) λd M5 ⟨T,e,t1,t7,pT,k5⟩=>?_
 subst e;have hp5:=(hp3.kpt k4).kpt k5;simp only[dm,aq];rw[hK];clear hK K;refine aH λK hK=>?_
 simp only[cD,lL,cC,aN,fL];refine Rn.bind (dJ (m:=S.length) hp5 (by lia) (by lia)) λd1 M6 ⟨c,gc,e,hp6,_⟩=>?_
 subst e;simp only[dm,aq];rw[hK];clear hK K;have q6:∀s,Plcs R.length s->Plcs 6 s:=λs h=>⟨by have:=h.len;lia,λz hz=>by have:=h.lt z hz;lia⟩
 have pS':∀s∈S,Plcs 6 s:=λs hs=>q6 s (pS s hs)
 have pT':∀s∈T,Plcs 6 s:=λs hs=>q6 s (pT s hs)
 have pd:∀i,∀s∈S.drop i,Plcs 6 s:=λi s hs=>pS' s (VR hs)
 have pt:∀i,∀s∈S.take i,Plcs 6 s:=λi s hs=>pS' s (Wb hs)
 have ld:∀i,(S.drop i).length<=7:=λi=>by rw[VJ];lia
 have lt:∀i,(S.take i).length<=7:=λi=>by rw[VG];lia
 have f1:(rd (km (some 1) none (nM S)):DM D)=pure (nM (S.drop 1)):=Gw S 1;have g1:(rd (km none (some 1) (nM S)):DM D)=pure (nM (S.take 1)):=N7 S 1;have fc:=Gw S c;have gc':=N7 S c;have ac:=Df (A:=S.drop c) (B:=S.take c) (by have:=ld c;have:=lt c;lia)
 have a1:=Df (A:=S.drop 1) (B:=S) (by have:=ld 1;lia)
 have a2:=Df (A:=S.drop 1++S) (B:=S.take 1) (by have:=ld 1;have:=lt 1;simp only[List.length_append];lia)
 have u2:(rd (vI (nM S) (.int 2)):DM D)=pure (nM (List.replicate 2 S).flatten):=Dg (k:=2) s1 (by lia) (by lia) (by lia)
 have u3:(rd (vI (nM S) (.int 3)):DM D)=pure (nM (List.replicate 3 S).flatten):=Dg (k:=3) s1 (by lia) (by lia) (by lia)
 have v3:(rd (vI (nM T) (.int 3)):DM D)=pure (nM (List.replicate 3 T).flatten):=Dg (k:=3) t1 (by lia) (by lia) (by lia)
 have as1:(Ar (.int 1):DM (Option Int))=pure (some 1):=rfl;have prep:∀k,∀s∈(List.replicate k S).flatten,Plcs 6 s:=λk s hs=>by obtain⟨l,hl,hs⟩:=List.mem_flatten.mp hs;rw[List.eq_of_mem_replicate hl]at hs;exact pS' s hs
 have prepT:∀k,∀s∈(List.replicate k T).flatten,Plcs 6 s:=λk s hs=>by obtain⟨l,hl,hs⟩:=List.mem_flatten.mp hs;rw[List.eq_of_mem_replicate hl]at hs;exact pT' s hs
 have one:∀{y},Plcs 6 y->∀s∈[y],Plcs 6 s:=λh s hs=>by rw[TQ.mp hs];exact h
 obtain⟨E4,hE4⟩:∃E:List D,E=[.tup [nM [ya],nM [yb]],.tup [nM S,nM (S.drop c++S.take c)],.tup [nM (List.replicate 2 S).flatten,nM (S.drop 1++S++S.take 1)],.tup [nM S,nM T]]:=⟨_,rfl⟩;have ml4:dH E4=pure (.lst E4):=b7 (by rw[hE4];simp)
 refine aH λK hK=>?_
 simp only[cD,lL,cC,aN,mt1,mt2,tu,as1,fc,gc',ac,f1,g1,a1,a2,u2];rw[<-hE4,ml4];simp only[dm,aq];rw[hK];clear hK K;obtain⟨E3,hE3⟩:∃E:List D,E=[.tup [nM [List.range R.length],nM [ya]],.tup [nM [gr Y 0],nM [gr Y (Y.length-1)]],.tup [nM (List.replicate 3 S).flatten,nM (List.replicate 3 T).flatten]]:=⟨_,rfl⟩;have ml3:dH E3=pure (.lst E3):=b7 (by rw[hE3];simp)
 have ix0:(rd (bU (nM Y) (.int 0)):DM D)=pure (nT (gr Y 0)):=rB (i:=0) y1;have ixl:=N6 hY.ne;have l4:E4.length=4:=by rw[hE4];rfl
 have l3:E3.length=3:=by rw[hE3];rfl
 have ad:=rm (a:=E4) (b:=E3) (by lia)
 have ng:(rd (Di (.int 1)):DM D)=pure (.int (-1)):=Qy 1;simp only[cD,lL,cC,aN,mt1,mt2,fL,O6 (n:=R.length) (by lia),ix0,ng,ixl,u3,v3]
 rw[<-hE3,ml3];simp only[aq,ad];refine Rn.pure ⟨_,rfl,⟨_,rfl,by rw[T3];lia,λx hx=>?_⟩,hp6⟩
 rcases T4.mp hx with hx | hx
 ·rw [hE4]at hx;simp only[List.mem_cons,List.not_mem_nil,or_false]at hx;rcases hx with rfl | rfl | rfl | rfl
  ·exact⟨_,_,rfl,by simp,by simp,one pa,one pb⟩
  ·refine⟨_,_,rfl,by lia,?_,pS',λs hs=>?_⟩
   ·have:=ld c;have:=lt c;rw[T3];lia
   ·rcases T4.mp hs with hs | hs
    ·exact pd c s hs
    ·exact pt c s hs
  ·refine ⟨_,_,rfl,by rw [len_rep];lia,?_,prep 2,λs hs=>?_⟩
   ·have:=ld 1;have:=lt 1;rw[T3,T3];lia
   ·rcases T4.mp hs with hs | hs
    ·rcases T4.mp hs with hs | hs
     ·exact pd 1 s hs
     ·exact pS' s hs
    ·exact pt 1 s hs
  ·exact⟨_,_,rfl,by lia,by lia,pS',pT'⟩
 ·rw[hE3]at hx;simp only[List.mem_cons,List.not_mem_nil,or_false]at hx;rcases hx with rfl | rfl | rfl
  ·exact⟨_,_,rfl,by simp,by simp,one ⟨by simpa using hn,λz hz=>by have:=Tr.mp hz;lia⟩,one pa⟩
  ·exact⟨_,_,rfl,by simp,by simp,one (eQ 0 y1),one (eQ _ (by lia))⟩
  ·exact⟨_,_,rfl,by rw[len_rep];lia,by rw[len_rep];lia,prep 3,prepT 3⟩
noncomputable def HN:=aL 1 13 (JB xP xY xZ Ek wA (wy 8) vp sY xO)
noncomputable def Tg(d:D):Prop:=Gd (10^13) 7 d/\wt d<=2000000
noncomputable def Q8(cs:List Int)(i:Nat)(δ:ak)(M:Mo):Prop:=∃x1 x2 x3 x4 x5 x6 x7 x8 x9 x10 x11 x12,δ=[some (.scr cs),x1,x2,x3,x4,x5,x6,x7,x8,x9,x10,x11,x12]
noncomputable def Rc(cs:List Int)(p:Nat)(i:Nat)(δ:ak)(M:Mo):Prop:=(∃x1 x3 x4 x5 x6 x7 x8 x9 x10 x11 x12,δ=[some (.scr cs),x1,some (.ref p),x3,x4,x5,x6,x7,x8,x9,x10,x11,x12])/\cN p M
noncomputable def Ra(cs:List Int)(p:Nat)(R:List (List Nat))(W:Nat)(S:List D)(i:Nat)(δ:ak)(M:Mo):Prop:=(∃x1 x3 x8 x9 x10 x11 x12 T,δ=[some (.scr cs),x1,some (.ref p),x3,some (nM R),some (bQ R W),some (.lst S),some (.lst T),x8,x9,x10,x11,x12]/\T.length<=100+10*i/\∀d∈T,Tg d)/\cN p M
noncomputable def Q7(cs:List Int)(p:Nat)(R:List (List Nat))(W:Nat)(S:List D)(b:Nat)(d:D)(i:Nat)(δ:ak)(M:Mo):Prop:=(∃x1 x3 x9 x10 x11 x12 T,δ=[some (.scr cs),x1,some (.ref p),x3,some (nM R),some (bQ R W),some (.lst S),some (.lst T),some d,x9,x10,x11,x12]/\T.length<=b+2*i/\∀d∈T,Tg d)/\cN p M
noncomputable def Rb(cs:List Int)(p:Nat)(R:List (List Nat))(W:Nat)(S T:List D)(i:Nat)(δ:ak)(M:Mo):Prop:=(∃x1 x3 x8 x9 x10 x11 x12,δ=[some (.scr cs),x1,some (.ref p),x3,some (nM R),some (bQ R W),some (.lst S),some (.lst T),x8,x9,x10,x11,x12])/\cN p M
theorem Ky(cs:List Int)(hcs:cs.length<=100000):Rn (HN [.scr cs]) [] λd z=>d=.bl true:=by
 unfold HN JB Dt;dsimp only;refine Rn.call rfl ?_;have st:bJ 13 [D.scr cs]=[some (.scr cs),none,none,none,none,none,none,none,none,none,none,none,none]:=rfl;rw[st];obtain⟨c0,ec⟩:=Mz cs 0;have ec':xP [.scr cs,.int 0]=pure (.int c0):=ec;have l1:∀x:D,dH [x]=pure (.lst [x]):=λx=>b7 (by simp)
 have cl:(cutD (cs.map D.int) (some 1) (some 4)).length<=100000:=by
  unfold cutD;rw[VG,VJ,Tz]
  lia
 have ci:∀d∈[.int c0]++cutD (cs.map D.int) (some 1) (some 4),∃c:Int,d=.int c:=λd hd=>by
  rcases T4.mp hd with h | h
  ·exact⟨c0,TQ.mp h⟩
  ·unfold cutD at h;obtain⟨c,_,rfl⟩:=Us.mp (VR (Wb h));exact⟨c,rfl⟩
 have ad:=rm (a:=[.int c0]) (b:=cutD (cs.map D.int) (some 1) (some 4)) (by simp;lia)
 have a1:(Ar (.int 1):DM (Option Int))=pure (some 1):=rfl;have a3:(Ar (.int 4):DM (Option Int))=pure (some 4):=rfl;refine aH λK hK=>?_
 simp[ec',l1,QC];rw[a1,aq,a3,aq,ad];simp only[aq,Oz,fF,fM,List.map_cons,List.map_nil];clear ad cl;generalize [.int c0]++cutD (cs.map D.int) (some 1) (some 4)=cl at ci;refine Rn.bind (bZ (Q8 cs) cl 0 _ _ ⟨_,_,_,_,_,_,_,_,_,_,_,_,rfl⟩ (λj d δ M hj hI=>?_)) (λr M hI=>?_)
 rotate_left
 ·obtain⟨δ',rfl,_⟩:=hI;rw[hK];exact Rn.pure rfl
 clear hK K;obtain⟨c,rfl⟩:=ci d (T9 hj);obtain⟨x1,x2,x3,x4,x5,x6,x7,x8,x9,x10,x11,x12,rfl⟩:=hI;generalize 0+j+1=nx;rw[dN,aq];refine aH λK hK=>?_
 simp only[dm,cD,aN];refine Rn.bind (Lh c M) λd M0 ⟨e,hp⟩=>?_
 subst e;revert hp;generalize M.length=p;intro hp
 try simp only[dm,aq]
 rw[hK];clear hK K;simp only[List.getElem?_cons_zero,List.getElem?_cons_succ,Option.join_some,fM,aq,aN,show uh [.int 3]=some (.fix ((List.range 3).map nD)) from cV (n:=3) (by decide),fF]
 refine (bZ (Rc cs p) _ 0 _ _ ⟨⟨_,_,_,_,_,_,_,_,_,_,_,rfl⟩,hp⟩ (λs d δ M2 hj2 hI=>?_)).mono (λr M2 hI=>?_)
 rotate_left
 ·obtain⟨δ',rfl,⟨_,_,_,_,_,_,_,_,_,_,_,rfl⟩,_⟩:=hI;exact⟨_,rfl,_,_,_,_,_,_,_,_,_,_,_,_,rfl⟩
 obtain⟨⟨y1,y3,y4,y5,y6,y7,y8,y9,y10,y11,y12,rfl⟩,hp2⟩:=hI;generalize 0+s+1=nx2;rw[dN,aq];refine aH λK hK=>?_
 simp only[dm,cD,aN];refine Rn.bind (Ls (tp:=6) hp2 (by decide) (by decide)) λd M3 ⟨R,W,e,wk,h6,hW,hp3,_⟩=>?_
 subst e
 try simp only[dm,aq]
 rw[hK];clear hK K;have n1:=wk.n1;refine aH λK hK=>?_
 simp only[cD,lL,cC,aN,PL wk];refine Rn.bind (Pj wk h6 hp3) λd1 M5 ⟨⟨S,e,lS,alS⟩,hp5⟩=>?_
 subst e;have mk2:ie [bQ R W,.lst S]=pure (.tup [bQ R W,.lst S]):=eE (by simp)
 simp[mk2];rw[hK];clear hK K mk2;refine aH λK hK=>?_
 have mt1:∀a:D,ie [a]=pure (.tup [a]):=λa=>eE (by simp)
 have mt2:∀a b:D,ie [a,b]=pure (.tup [a,b]):=λa b=>eE (by simp)
 have mt3:∀a b c:D,ie [a,b,c]=pure (.tup [a,b,c]):=λa b c=>eE (by simp)
 have mt0:ie []=pure (.tup []):=eE (by simp)
 simp only[dm,cD,cC,aN,mt0,mt1,mt2,mt3];refine Rn.bind (uR hp5) λo1 M6 ⟨⟨go,wo⟩,hp6,_⟩=>?_
 obtain⟨E6,hE6⟩:∃E:List D,E=[.non,.tup [],.tup [.tup [],.tup []],.tup [.int 0,.int 0,.tup [.tup [.int 0]]],o1]:=⟨_,rfl⟩;have mlE:dH E6=pure (.lst E6):=b7 (by rw[hE6];simp)
 have lE:E6.length=5:=by rw[hE6];rfl
 have i0:∀{n:Nat},Gd 10 n (.int 0):=.int (by decide)
 have tgE:∀ d∈E6,Tg d:=λd hd=>by
  rw[hE6]at hd;simp only[List.mem_cons,List.not_mem_nil,or_false]at hd;rcases hd with rfl | rfl | rfl | rfl | rfl
  ·exact⟨.non,by simp[wt]⟩
  ·exact⟨.tup λz h=>(by cases h),by simp[wt,bu]⟩
  ·refine⟨.tup λx hx=>?_,by simp[wt,bu]⟩
   simp at hx;rw[hx];exact .tup λz h=>(by cases h)
  ·refine⟨Gd.mono (B:=10) (n:=3) (by decide) (.tup λx hx=>?_) (by decide),by simp only[bu,wt];lia⟩
   simp only[List.mem_cons,List.not_mem_nil,or_false]at hx;rcases hx with rfl | rfl | rfl
   ·exact i0
   ·exact i0
   ·refine .tup λx hx=>?_
    rw[TQ.mp hx];refine .tup λx hx=>?_
    rw[TQ.mp hx];exact i0
  ·exact⟨go.mono (by decide) (by decide),by lia⟩
 have adT:=rm (a:=S) (b:=E6) (by lia)
 rw[<-hE6];simp only[dm,mlE,aq,adT];rw[hK];clear hK K;have alT:∀d∈S++E6,Tg d:=λd hd=>by
  rcases T4.mp hd with hd | hd
  ·have:=(alS d hd).ok;exact⟨this.1.mono (by decide) (by decide),by have:=this.2;lia⟩
  ·exact tgE d hd
 have lT:(S++E6).length<=100:=by rw[T3];lia
 revert alT lT;generalize S++E6=T;intro alT lT;refine aH λK hK=>?_
 have al':∀l:List D,(rd (uE (.lst l)):DM Itn)=pure (.fix l):=λz=>rfl
 have rg2:uh [.int 2]=some (.fix ((List.range 2).map nD)):=cV (n:=2) (by decide)
 simp only[cD,aN,al',fF];refine Rn.bind (bZ (Ra cs p R W S) _ 0 _ _ ⟨⟨_,_,_,_,_,_,_,_,rfl,by lia,alT⟩,hp6⟩ (λs d δ M7 hj3 hI=>?_)) (λr M7 hI=>?_)
 ·clear hK K;obtain⟨⟨z1,z3,z8,z9,z10,z11,z12,T,rfl,lT,alT⟩,hp7⟩:=hI;have sl:=(Ti.mp hj3).1;have sg:=(alS d (T9 hj3)).ok;rw[Up]at lT ⊢
  rw[dN,aq];simp only[dm,cD,aN,rg2,fF];refine (bZ (Q7 cs p R W S (100+10*s) d) _ 0 _ _ ⟨⟨_,_,_,_,_,_,_,rfl,by lia,alT⟩,hp7⟩ (λv d2 δ M8 hj4 hI=>?_)).mono (λr M8 hI=>?_)
  ·obtain⟨⟨w1,w3,w9,w10,w11,w12,T,rfl,lT,alT⟩,hp8⟩:=hI;have vl:v<2:=by have:=(Ti.mp hj4).1;simpa using this
   rw[Up]at lT ⊢
   rw[dN,aq];refine aH λK hK=>?_
   simp only[dm,cD,aN];refine Rn.bind (Eu 8 (by decide) sg.1 hp8 (by have:=sg.2;lia)) λb1 M9 ⟨⟨g1,w1⟩,hp9,_⟩=>?_
   rw[hK];clear hK K;simp only[dm,cD,aN];have s2:=sg.2;refine Rn.bind (Eu 8 (by decide) g1 hp9 (by lia)) λb2 M10 ⟨⟨g2,w2⟩,hp10,_⟩=>?_
   have ml2:dH [b1,b2]=pure (.lst [b1,b2]):=b7 (by simp)
   have ad2:=rm (a:=T) (b:=[b1,b2]) (by simp;lia)
   simp only[dm,ml2,aq,ad2];refine Rn.pure ⟨_,rfl,⟨_,_,_,_,_,_,_,rfl,by simp;lia,λd hd=>?_⟩,hp10⟩
   rcases T4.mp hd with hd | hd
   ·exact alT d hd
   ·simp only[List.mem_cons,List.not_mem_nil,or_false]at hd;rcases hd with rfl | rfl
    ·exact⟨g1.mono (by decide) (by decide),by lia⟩
    ·exact⟨g2.mono (by decide) (by decide),by lia⟩
  ·obtain⟨δ',rfl,⟨w1,w3,w9,w10,w11,w12,T,rfl,lT,alT⟩,hp8⟩:=hI;exact⟨_,rfl,⟨_,_,_,_,_,_,_,_,rfl,by simp at lT;lia,alT⟩,hp8⟩
 obtain⟨δ',rfl,⟨z1,z3,z8,z9,z10,z11,z12,T,rfl,lT,alT⟩,hp7⟩:=hI;rw[hK];clear hK K;simp only[cD,aN,al',fF];refine (bZ (Rb cs p R W S T) _ 0 _ _ ⟨⟨_,_,_,_,_,_,_,rfl⟩,hp7⟩ (λs d δ M8 hj3 hI=>?_)).mono (λr M8 hI=>?_)
 rotate_left
 ·obtain⟨δ',rfl,⟨_,_,_,_,_,_,_,rfl⟩,hp8⟩:=hI;exact⟨_,rfl,⟨_,_,_,_,_,_,_,_,_,_,_,rfl⟩,hp8⟩
 obtain⟨⟨z1,z3,z8,z9,z10,z11,z12,rfl⟩,hp8⟩:=hI;have tg:=alT d (T9 hj3);obtain⟨b,e1,e2⟩:∃b,sY [bQ R W,d]=pure (.bl b)/\vp [nM R,d]=pure (.bl b):=⟨_,tg.1.ars wk tg.2,tg.1.lar wk tg.2⟩;obtain⟨sv,esv⟩:=tg.1.sh (by decide +kernel) (by decide) (by have:=tg.2;lia)
 generalize 0+s+1=nx3;rw[dN,aq];refine aH λK hK=>?_
 simp[esv,e1,e2];rw[hK];clear hK K;have mb:dH [.bl b,.bl b]=pure (.lst [.bl b,.bl b]):=b7 (by simp)
 have gb:Gd 0 1 (.lst [.bl b,.bl b]):=.lst λx hx=>by simp at hx;rw[hx];exact .bl b
 obtain⟨sb,esb⟩:=gb.sh (by decide +kernel) (by decide) (by simp[wt,bu])
 have c2:=lu (x:=none) (rest:=[some (bQ R W),some d]) (as:=List.range 2) (fe:=λδ=>opt δ[1]?.join>>=λa=>opt δ[2]?.join>>=λb=>sY [a,b]) nD (λz=>.bl b) (by simp) (λx hx=>by simp only[cD,e1])
 have r2:(List.range 2).map (λ_:Nat=>D.bl b)=[.bl b,.bl b]:=rfl
 rw[r2]at c2;simp[rg2,aZ,dq];rw[c2,aq];simp[esb,mb,esv];exact Rn.pure ⟨_,rfl,⟨_,_,_,_,_,_,_,rfl⟩,hp8⟩
end K
namespace K
open PySem L2 L3 N10
noncomputable def GD(K:PySem.W.Frag):Bool:=K.all λp=>!(p.2.cls==.type "list")
theorem Oe{K:PySem.W.Frag}(h:GD K=true){a:Addr}{o:Obj}(e:K.lookup a=some o):o.cls≠.type "list":=by
 have:∀ (l:List (Addr×Obj)),(l.all λp=>!(p.2.cls == .type "list"))=true->l.lookup a=some o->o.cls≠.type "list":=by
  intro l;induction l with
  |nil=>intro _ e;cases e
  | cons p l ih=>
    intro h e;rw[XF,U5]at h;rw[Wh]at e;split at e
    ·cases e;intro z;rw[z]at h;exact absurd h.1 (by decide)
    ·exact ih h.2 e
 exact this K h e
theorem rd_of{K:PySem.W.Frag}{H:Hp}{a:Addr}{xs:List V}(h:GD K=true)(s:SqL K H a xs):Rd H a (.lst xs):=by
 rcases s with s | ⟨o,its,n,e,c,_⟩
 ·exact s
 ·exact absurd c (Oe h e)
structure Cls(K:PySem.W.Frag)(mg:Str->Option Value)(CC_Walk:Addr)(tg_MOST_PLACES:Tok):Prop where
 m_MOST_PLACES:mg "MOST_PLACES"=some (.int 25 tg_MOST_PLACES)
 o_Walk:OCls K mg "Walk" CC_Walk ["rows", "whole"]
 k_Walk:PySem.W.makesIn K CC_Walk=true/\PySem.W.keepIn K (.ref CC_Walk)=true
 nl:GD K=true
theorem MF{K:PySem.W.Frag}{h:Heap}{mg:Str->Option Value}(X:K.In h)(G:h.Ns mainGlobals mg){CC_Walk:Addr}{tg_MOST_PLACES:Tok}
  (g_MOST_PLACES:PySem.W.nsIn K mainGlobals "MOST_PLACES"=some (some (.int 25 tg_MOST_PLACES)))
  (cm_Walk:PySem.W.nsIn K mainGlobals "Walk"=some (some (.ref CC_Walk)))
  (pg_Walk:PySem.W.plainGet K CC_Walk Str.empty=true)
  (hd_Walk:PySem.W.hasDictIn K CC_Walk=true)
  (po_Walk:PySem.W.plainOver K CC_Walk=true)
  (sa_Walk:PySem.W.findIn K (.ref CC_Walk) "__setattr__"=some (some (.builtin "object.__setattr__")))
  (mk_Walk:PySem.W.makesIn K CC_Walk=true)
  (kc_Walk:PySem.W.keepIn K (.ref CC_Walk)=true)
  (nf_Walk_rows:PySem.W.findIn K (.ref CC_Walk) "rows"=some none)
  (nf_Walk_whole:PySem.W.findIn K (.ref CC_Walk) "whole"=some none)
  (nl:GD K=true)
  : Cls K mg CC_Walk tg_MOST_PLACES:=by
 have nof_Walk:∀f∈(["rows", "whole"]:List Str),NoAttr K CC_Walk f:=by
  intro f hf;simp only[List.mem_cons,List.not_mem_nil,or_false]at hf;rcases hf with rfl | rfl
  ·exact nf_Walk_rows
  ·exact nf_Walk_whole
 refine⟨PySem.W.mg_of X G g_MOST_PLACES,⟨PySem.W.mg_of X G cm_Walk,⟨pg_Walk,hd_Walk,po_Walk,sa_Walk⟩,nof_Walk⟩,⟨mk_Walk,kc_Walk⟩,nl⟩
noncomputable def spLaw(K:PySem.W.Frag):Sp:=λvs H Q z=>∃(a:Addr) (ns:List Int),vs=[.ref a]/\SqL K H a (ns.map V.int)/\ns.length<=63/\∀H',Q (.bl true) H'
theorem QJ{K:PySem.W.Frag}{mg:Str->Option Value}(nl:GD K=true){vs:List V}{H:Hp}{Q:VK}{E:XK}(h:spLaw K vs H Q E):Cd mg HN vs H Q E:=by
 obtain⟨a,ns,rfl,hS,hl,q⟩:=h;have rd:=rd_of nl hS;obtain⟨d,M',e,ed⟩:=Ky ns (by lia)
 refine⟨⟨[],[]⟩,[],[.scr ns],.cons (.scr (λz=>by rcases z with z | z<;>cases z) rd) .nil,⟨rfl,List.nodup_nil,λn a o h=>by simp at h,λa h=>by cases h⟩,_,e,λρ' H' b x j c=>?_⟩
 subst ed;cases c;exact q H'
theorem R6{P:Program}{w:World}{K:PySem.W.Frag}{mg:Str->Option Value}{base:Heap}{k:Nat}{x:Str}{N ps:List Str}{st:Stmt}{fb:ak->DM Fl}{f:Addr}{fd:FuncData}(F:Fun K x x st f fd)(S:FnScope N ps (defScope st))
  (hbody:∀(cdv:Value) (A:Around) (outer:List Env) (s:Shared) (H:Hp) (E:XK),Room k (A.deeper (PyProof.Rows.envOfC x (defScope st) s.heap.objs.size f cdv))->
    DSs (jn P w K mg base N x (defScope st) f cdv A outer s H E) E (defBody st) fb):FnOk P w K mg base (gB P w) (k+1) f fd ps (Cd mg (aL ps.length N.length fb)):=by
 refine Q3 F S (λvs H Q E h=>?_) λcdv A outer s H vs Q E hr h=>?_
 ·obtain⟨ρ,M,ds,c,j,g⟩:=h;rw[c.len];exact (bC.aL g).1
 obtain⟨ρ,M,ds,c,j,g⟩:=h;exact⟨_,(hbody cdv A outer s H E hr).h,ρ,_,M,nZ c,j,(bC.aL g).2⟩
theorem all_mk{P:Program}{w:World}{K:PySem.W.Frag}{mg:Mg}{fa:Addr}{CC_Walk:Addr}{tg_MOST_PLACES:Tok}(hfa:mg "law"=some (.ref fa)){h:Heap}(X:K.In h)(G:h.Ns mainGlobals mg)(t0:TD K "is_whole" o4)(t1:TD K "are_weights" jh)(t2:TD K "are_rows" oY)(t3:TD K "is_place" oZ)(t4:TD K "is_rising" mJ)(t5:TD K "are_rising_places" fj)(t6:TD K "is_set" um)(t7:TD K "next_places" ji)(t8:MethAt K CC_Walk "__len__" "Walk.__len__" fO)(t9:TD K "is_ring" qp)(t10:TD K "are_rings" mH)(t11:TD K "can_be_walked" gU)(t12:MethAt K CC_Walk "__init__" "Walk.__init__" gQ)(t13:TD K "_law_cell_at" iD)(t14:TD K "_law_next" mq)(t15:TD K "_law_pen_of" jg)(t16:TD K "_law_draw" mj)(t17:TD K "_law_rows" my)(t18:TD K "_law_led" oW)(t19:TD K "_law_shut" mC)(t20:TD K "_law_common" jf)(t21:TD K "_law_all_common" fU)(t22:TD K "_law_lands" jZ)(t23:TD K "_law_turn" mF)(t24:TD K "_law_sides" j0)(t25:TD K "_law_odd" oX)(t26:TD K "_law_bent" iH)(t27:TD K "_law_whole" j8)(t28:TD K "_law_are_sets" gR)(t29:TD K "_law_are_rings" gA)(t30:TD K "_law_some" mD)(t31:TD K "law" DK)(z0:TB K "all")(z1:TB K "any")(z2:TB K "bool")(z3:TB K "enumerate")(z4:TB K "int")(z5:TB K "isinstance")(z6:TB K "len")(z7:TB K "list")(z8:TB K "max")(z9:TB K "range")(z10:TB K "repr")(z11:TB K "set")(z12:TB K "sorted")(z13:TB K "sum")(z14:TB K "tuple")(z15:TB K "zip")(Z:Cls K mg CC_Walk tg_MOST_PLACES):
  ∃fd:FuncData,(∀(s:Shared) (v:Value),BindsTo s fd ⟨[v],[]⟩ [("_law_script",v)])/\∀base:Heap,K.In base->base.Ns mainGlobals mg->FnOk P w K mg base (gB P w) 16 fa fd ["_law_script"] (spLaw K):=by
 obtain⟨f,fd,F,m⟩:=(t31 X G).ex;have e:=hfa.symm.trans m;cases e;refine⟨fd,?_,λbase z z=>?_⟩
 ·obtain⟨oc,od,kV,doc,pm,an,cdv,ct,osl,rfl,_⟩:=F.ex;exact λs v=>.of_eq rfl
 have yz0:=Uv X G z0;have yz1:=Uv X G z1;have yz2:=Uv X G z2;have yz3:=Uv X G z3;have yz4:=Uv X G z4;have yz5:=Uv X G z5;have yz6:=Uv X G z6;have yz7:=Uv X G z7;have yz8:=Uv X G z8;have yz9:=Uv X G z9;have yz10:=Uv X G z10;have yz11:=Uv X G z11;have yz12:=Uv X G z12;have yz13:=Uv X G z13;have yz14:=Uv X G z14;have yz15:=Uv X G z15;have D0:DefD P w K mg base _ _ _ rN:=okd (t0 X G) Al ((uX).2 yz2 yz4 yz5);have D1:DefD P w K mg base _ _ _ Aq:=okd (t1 X G) vU ((pC rN).2 D0 yz0 yz5 yz6 yz14);have D2:DefD P w K mg base _ _ _ Ef:=okd (t2 X G) Aj ((uV Aq).2 D1 yz0 yz5 yz6 yz14);have D3:DefD P w K mg base _ _ _ wz:=okd (t3 X G) Ak ((uW rN).2 D0);have D4:DefD P w K mg base _ _ _ Fri:=okd (t4 X G) zX ((sI).2 yz0 yz6 yz9);have D5:DefD P w K mg base _ _ _ vm:=okd (t5 X G) o5 ((ig wz Fri).2 D3 D4 yz0 yz5 yz14);have D6:DefD P w K mg base _ _ _ xT:=okd (t6 X G) Hl ((zM vm).2 D5 yz6);have D7:DefD P w K mg base _ _ _ Eh:=okd (t7 X G) vV ((pD).2 Z.o_Walk yz3 yz14);have M8:MethD P w K mg base _ "Walk" _ _ _ _ uz:=Q5 t8 Z.o_Walk.at_ Z.o_Walk.cls u9 ((nu).2 Z.o_Walk yz6);have D9:DefD P w K mg base _ _ _ xR:=okd (t9 X G) vf ((qj xT Eh uz).2 D6 D7 M8 yz0 yz5 yz6 yz9 yz14);have D10:DefD P w K mg base _ _ _ sY:=okd (t10 X G) qD ((lZ xR).2 D9 yz1 yz5 yz6 yz14 yz15);have D11:DefD P w K mg base _ _ _ Eg:=okd (t11 X G) kj ((lK Ef).2 D2 Z.m_MOST_PLACES yz0 yz5 yz6 yz13 yz14);have M12:MethD P w K mg base _ "Walk" _ _ _ _ Fin:=Q5 t12 Z.o_Walk.at_ Z.o_Walk.cls uo ((lJ Eg).2 D11 Z.o_Walk yz13);have W_Walk:ClsD P w K mg base _ "Walk" xO:=Ri M12 (λz z z z z z us hl=>match us,hl with | [_,_],_=>rfl) (λC hC=>by have q:=hC.symm.trans Z.o_Walk.at_;cases q;exact Z.k_Walk) PN
 have D13:DefD P w K mg base _ _ _ xP:=okd (t13 X G) vd ((nA).2 yz6);have D14:DefD P w K mg base _ _ _ Ei:=okd (t14 X G) qw ((sH).2 );have D15:DefD P w K mg base _ _ _ xY:=okd (t15 X G) nQ ((je).2 yz4 yz8);have D16:DefD P w K mg base _ _ _ pJ:=okd (t16 X G) qu ((lU Ei).2 D14);have D17:DefD P w K mg base _ _ _ xZ:=okd (t17 X G) qx ((lV pJ).2 D16 yz4 yz6 yz7 yz9 yz14);have D18:DefD P w K mg base _ _ _ xV:=okd (t18 X G) sJ ((oJ).2 yz6 yz9 yz11 yz12 yz14);have D19:DefD P w K mg base _ _ _ xW:=okd (t19 X G) qy ((lW xV).2 D18 yz11 yz12 yz14);have D20:DefD P w K mg base _ _ _ xQ:=okn (λN=>f9 N) (t20 X G) nP Qa λN=>(jc N).2
 have D21:DefD P w K mg base _ _ _ Ed:=okd (t21 X G) iT ((fQ xQ).2 D20);have D22:DefD P w K mg base _ _ _ sZ:=okd (t22 X G) pF ((jW).2 yz6 yz9);have D23:DefD P w K mg base _ _ _ El:=okd (t23 X G) qC ((lY sZ Ed).2 D22 D21 yz6 yz9);have D24:DefD P w K mg base _ _ _ Ej:=okd (t24 X G) pG ((jX sZ El).2 D22 D23 yz6 yz9 yz11 yz12 yz14);have D25:DefD P w K mg base _ _ _ wA:=okd (t25 X G) sO ((oK pJ).2 D16);have R26:∀n,DefD P w K mg base (3+n) _ _ (wy n):=λn=>by
  induction n with
  |zero=>exact (okd (k:=2) (t26 X G) kh λz=>FN)
  |succ n ih=>exact okd (t26 X G) kh ((lQ pJ wA (wy n)).2 (Nat.le_add_right _ _) D16 D25 ih yz4 yz5 yz6 yz7 yz14)
 have D26:DefD P w K mg base _ _ _ (wy 8):=R26 _;have D27:DefD P w K mg base _ _ _ xX:=okd (t27 X G) xm ((qi).2 yz2 yz4 yz5);have D28:DefD P w K mg base _ _ _ xU:=okd (t28 X G) j9 ((gO xX).2 D27 yz5 yz6 yz7 yz11 yz12 yz14);have D29:DefD P w K mg base _ _ _ vp:=okd (t29 X G) jo ((gq xU).2 D28 yz3 yz5 yz6 yz9 yz14 yz15);have D30:DefD P w K mg base _ _ _ Ek:=okd (t30 X G) qz ((lX xW pJ Ej).2 D19 D16 D24 yz6 yz9 yz14);exact ((R6 (P:=P) (w:=w) (base:=base) F Hm λcdv A outer s H E hr=>(Dt xP xY xZ Ek wA (wy 8) vp sY xO).2 D13 D15 D17 D30 D25 D26 D29 D10 W_Walk yz9 yz10 hr).imp λvs H Q E h=>QJ Z.nl h).mono (by decide)
theorem walk{l:PySem.W.OpenLaw}{q:Program}{loose:List Str}{XP:(Str->Option Value)->Heap->Prop}{YP:World->Heap->Prop}{d:DefRec}{K:Params->PySem.W.Frag}(hn:l.most=some 63)(hdf:d.params.defaults=[])
  (hY:∀(w:World) (h:Heap),YP w h->(K w.params).In h)
  (F:∀(w:World) (mg:Str->Option Value) (fa:Addr) (h:Heap),(K w.params).In h->h.Ns mainGlobals mg->mg d.name=some (.ref fa)->
    ∃fd:FuncData,(∀(s:Shared) (u:Value),BindsTo s fd ⟨[u],[]⟩ [("_law_script",u)])/\∀base:Heap,(K w.params).In base->base.Ns mainGlobals mg->FnOk l.prog w (K w.params) mg base (gB l.prog w) 16 fa fd ["_law_script"] (spLaw (K w.params))) :
  PySem.W.WalkO q loose XP YP l.row.toRowW d [] (λf vs=>PySem.call f vs):=
 L2.walk_of (n:=63) (k:=16) (x := "_law_script") (CX:=λw=>gB l.prog w) (sp:=λw=>spLaw (K w.params)) hn (by decide) hdf ⟨rfl,by decide,by decide,rfl⟩ hY F (λy y a ns hl y hS=>⟨a,ns,rfl,hS,hl,λy=>rfl⟩) λy y y y y z=>by obtain⟨_,_,_,_,_,_,_,_,_,_,_,_,_,q⟩:=z;exact q.elim
end K
open PySem PySem.W PyProof.Rows
set_option maxRecDepth 100000 in
set_option maxHeartbeats 0 in
theorem PySem.Challenge.cw_fadewalk_k33_rings_looked_at_holds : PySem.Challenge.rw_fadewalk_k33_rings_looked_at.Holds := by
 w_on;refine T.cut ?_
 k_fill
 refine K.walk (l:=PySem.Challenge.rw_fadewalk_k33_rings_looked_at) rfl rfl (λw h Y=>PySem.W.kIn_of Y) ?F
 case F=>
  intro w mg fa h KX G hmg
  refine' K.all_mk hmg KX G ?t0 ?t1 ?t2 ?t3 ?t4 ?t5 ?t6 ?t7 ?t8 ?t9 ?t10 ?t11 ?t12 ?t13 ?t14 ?t15 ?t16 ?t17 ?t18 ?t19 ?t20 ?t21 ?t22 ?t23 ?t24 ?t25 ?t26 ?t27 ?t28 ?t29 ?t30 ?t31 ?z0 ?z1 ?z2 ?z3 ?z4 ?z5 ?z6 ?z7 ?z8 ?z9 ?z10 ?z11 ?z12 ?z13 ?z14 ?z15 (K.MF KX G ?g_MOST_PLACES ?cm_Walk ?pg_Walk ?hd_Walk ?po_Walk ?sa_Walk ?mk_Walk ?kc_Walk ?nf_Walk_rows ?nf_Walk_whole ?nl)
  case cm_Walk=>k_is
  case g_MOST_PLACES | pg_Walk | hd_Walk | po_Walk | sa_Walk | mk_Walk | kc_Walk | nf_Walk_rows | nf_Walk_whole | nl=>first | k_is | k_exc | kernel_rfl
  case t8 | t12=>apply L2.Gx<;>k_is
  case t0 | t1 | t2 | t3 | t4 | t5 | t6 | t7 | t9 | t10 | t11 | t13 | t14 | t15 | t16 | t17 | t18 | t19 | t20 | t21 | t22 | t23 | t24 | t25 | t26 | t27 | t28 | t29 | t30 | t31=>apply L3.QS<;>k_is
  case z0 | z1 | z2 | z3 | z4 | z5 | z6 | z7 | z8 | z9 | z10 | z11 | z12 | z13 | z14 | z15=>delta L3.TB;k_is
