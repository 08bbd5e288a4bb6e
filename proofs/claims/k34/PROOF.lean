import PyProof.Rows.All
import Wide.All
import OpenK.AllK
import Wide.FinOn
import Lean
import PyProof.EqAt
import PyProof.EqKinds
import PyProof.TupleCall
import PyProof.ReprRoads
import PyProof.P3Eq
import PyProof.NeData
import PyProof.ReprLen
import PyProof.Rows.RegStrFacts
import OpenK.KOwn
import PyProof.StationsW
import PyProof.Rows.Catch
import PyProof.Rows.Own
import PyProof.RulesAs
import PyProof.ExcBaseAll.ValueError
import PyProof.NsDelKeeps
import PyProof.ExcArgsOwn
import PyProof.ExcAttrAll.ValueError
import PyProof.CompFree
import PyProof.CompMap
import PyProof.ConsumeWalk
import PyProof.SumWalk
import PyProof.Rows.TupIter
import PyProof.Rows.SumGenD
import PyProof.FString
import PyProof.Rows.FStr
import PyProof.Rows.RuleIs
import PyProof.FactsAll.tuple_iterator_1
import PyProof.FactsAll.tuple_2
import PyProof.FactsAll.list_3
import PyProof.Cells
import PyProof.ZipIter
import PyProof.EnumMake
import PyProof.EnumFor
import PyProof.ListRange
import PyProof.TupleOfSeq
import PyProof.Rows.SetFrom
import PyProof.Rows.SortShell
import PyProof.CollectWalk
import PyProof.FactsAll.set_1
import PyProof.Rows.SortWalk
import PyProof.FactsAll.set_2
import KE.KDictSum
import KE.KSortTup
import PyProof.TupleKey
import PyProof.IsRules
import KE.KTupSum
import PyProof.WalkInts
import PyProof.SeqI3
import PyProof.Conv_int_bool
import PySem.Challenge.RW_fadewalk_k34_forgets_or_not
section
open PySem PySem.Spec PySem.W PySem.Calls PyProof.Rows
def SX:=@wpAny_bind
def S5:=@Heap.get?_push_of_some
def S6:=@wpAny_pure
def S7:=@List.getElem?_eq_some_iff
def S8:=@Option.map_eq_some_iff
def S9:=@List.length_map
def Tc:=@List.getElem?_eq_getElem
def Td:=@Nat.le_refl
def Te:=@Heap.lt_size
def Tf:=@if_pos
def Tg:=@Heap.get?_push_size
def Th:=@List.mem_range
def Ti:=@if_neg
def Tj:=@Nat.ne_of_lt
def Tp:=@List.getElem?_map
def Tq:=@List.getElem?_append_left
def Tr:=@Nat.lt_of_lt_of_le
def Tt:=@List.mem_cons
def Tu:=@Option.some.inj
def Tv:=@List.mem_filter
def Tw:=@decide_eq_true
def Tz:=@wpAny_mono
def TF:=@List.size_toArray
def TJ:=@List.mem_singleton
def TQ:=@Option.bind_eq_some_iff
def TV:=@List.mem_append
def TX:=@Bool.false_ne_true
def TY:=@List.mem_cons_self
def T3:=@List.mem_of_getElem?
def T4:=@List.length_append
def T5:=@Heap.size_push
def T6:=@Bool.eq_iff_iff
def T7:=@List.mem_append_right
def T8:=@List.getD_eq_getElem?_getD
def T9:=@List.length_range
def Ua:=@List.mem_cons_of_mem
def Ub:=@Nat.zero_add
def Uc:=@List.getElem?_eq_none_iff
def Ud:=@List.map_cons
def Ue:=@Nat.le_trans
def Ug:=@List.map_map
def Uh:=@List.mem_map
def Ui:=@of_decide_eq_true
def Uj:=@wpAny_newObj_type
def Uk:=@wpAny_call_entry
def Ul:=@wpAny_callSpecial?_slot
def Um:=@PassesOwn.leaving
def Uo:=@List.getElem?_append_right
def Up:=@wpAny_holding
def Uq:=@decide_eq_false
def Ur:=@List.getElem?_eq_none
def Us:=@List.pairwise_cons
def Ut:=@PySem.W.mg_none_of
def Uu:=@List.length_filter_le
def Uv:=@List.length_replicate
def Uw:=@Array.getElem?_eq_getElem
def Ux:=@Array.getD_eq_getD_getElem?
def Uy:=@List.getElem?_set_self
def Uz:=@wpAny_field
def UG:=@List.length_cons
def UJ:=@decide_eq_true_eq
def UL:=@List.mem_iff_getElem
def UT:=@PyProof.Rows.callWith_type1
def UV:=@Nat.mod_lt
def UW:=@PySem.mem_of_lookup
def U0:=@Array.length_toList
def U3:=@List.all_eq_true
def U4:=@wpAny_setState_of
def U5:=@List.getElem?_set_ne
def U6:=@List.take_of_length_le
def U7:=@Nat.lt_succ_self
def U8:=@List.getElem_mem
def U9:=@List.getElem?_range
def Va:=@Int.toNat_natCast
def Vb:=@Nat.zero_le
def Vc:=@Around.under_plainId
def Vd:=@pushCells_keeps
def Ve:=@Heap.SameBut.update
def Vf:=@List.length_pos_iff
def Vg:=@List.contains_iff_mem
def Vh:=@PySem.W.kia_one
def Vi:=@Bool.and_eq_true
def Vj:=@Nat.lt_irrefl
def Vk:=@List.pairwise_lt_range
def Vl:=@wpAny_setField
def Vm:=@List.filter_eq_nil_iff
def Vn:=@List.pairwise_iff_getElem
def Vo:=@codeAny_builtin
def Vp:=@wpAny_rule
def Vq:=@wpAny_askSetting
def Vr:=@List.mem_append_left
def Vs:=@wpAny_seqItems
def Vt:=@List.filter_cons_of_pos
def Vu:=@Nat.lt_succ_of_lt
def Vv:=@List.append_assoc
def Vw:=@wpAny_truthy_bool
def Vx:=@List.map_append
def Vy:=@List.replicate_succ
def Vz:=@wpAny_setEntries_of
def VB:=@sizeLine_eq
def VD:=@Heap.get?_update_other
def VF:=@wpAny_standAt
def VG:=@Nat.not_lt
def VH:=@List.length_take
def VJ:=@PyProof.Rows.slot_tuple_getitem
def VL:=@List.append_nil
def VM:=@wpAny_pyIter_list
def VN:=@List.nodup_append
def VP:=@wpAny_attempt
def VR:=@List.getElem?_replicate
def V0:=@beq_eq_false_iff_ne
def V1:=@List.map_congr_left
def V2:=@List.any_eq_true
def V3:=@List.lookup_cons
def V4:=@List.ext_getElem
def V5:=@Option.bind_some
def V6:=@Nat.add_mod
def V7:=@PyProof.Rows.F.plain_set_update_loop
def V8:=@codeAny_mono
def V9:=@assignInOrder_cons
def Wa:=@List.zip_cons_cons
def Wb:=@Nat.ne_of_gt
def Wc:=@Array.getElem?_toList
def Wd:=@wpAny_passesOwn
def We:=@List.perm_ext_iff_of_nodup
def Wf:=@F.plain_list_iadd
def Wg:=@List.flatten_cons
def Wh:=@Nat.lt_trichotomy
def Wi:=@Calls.call_function_entry
def Wj:=@Option.isSome_iff_exists
def Wk:=@List.length_drop
def Wm:=@Nat.lt_trans
def Wn:=@Nat.le_of_lt
def Wo:=@wpAny_comprehension_free
def Wq:=@List.filterMap_cons
def Wr:=@Heap.get?_update_ne
def Ws:=@List.filter_eq_self
def Wt:=@List.filter_cons_of_neg
def Wu:=@PySem.F.plainAttrs_list
def Wv:=@plainId_quiet
def Ww:=@listUpdate_at
def Wx:=@List.length_set
def Wz:=@List.foldl_cons
def WD:=@List.filter_append
def WF:=@List.of_mem_zip
def WL:=@Option.map_some
def WM:=@Nat.le_succ
def WN:=@fits_of_scanBound
def WP:=@List.Pairwise.map
def WQ:=@List.pairwise_map
def WR:=@List.mem_iff_getElem?
def WT:=@List.Pairwise.sublist
def WW:=@Heap.get?_update_self
def WX:=@F.slot_enumerate_next
def WY:=@Nat.mul_le_mul
def W0:=@wpAny_fieldsOf
def W2:=@wpAny_typeOf
def W3:=@List.idxOf_lt_length_of_mem
def W4:=@F.args_object_init_3
def W5:=@List.cons_append
def W6:=@List.range_eq_range'
def W7:=@Array.getElem?_eq_some_iff
def W8:=@Paired.length
def W9:=@List.any_cons
def Xa:=@Array.getElem?_eq_none_iff
def Xb:=@List.filter_sublist
def Xc:=@slot_tupleiter_next
def Xd:=@List.nodup_cons
def Xe:=@get?_update_seq
def Xf:=@List.Pairwise.imp_of_mem
def Xg:=@tupleKind_room_in1
def Xh:=@PyProof.Rows.F.entry_set_update_loop
def Xi:=@SetTable.toList_insertAt
def Xj:=@List.map_nil
def Xk:=@wpAny_Call_Name_kw
def Xl:=@List.map_inj_right
def Xm:=@PySem.F.slot_list_append
def Xn:=@List.getElem_append_left
def Xo:=@PySem.F.args_tuple_add_2
def Xp:=@Nat.eq_zero_or_pos
def Xq:=@PySem.F.type_list_append
def Xr:=@AutoSeq1.wpAny_loadPart'
def Xu:=@List.take_succ
def Xv:=@wpAny_bindName
def Xw:=@intKind_is
def Xx:=@IntsAre.length
def Xy:=@List.length_eq_zero_iff
def Xz:=@PySem.F.entry_tuple_add
def XC:=@List.ext_getElem?
def XD:=@Nat.lt_succ_of_le
def XF:=@wpAny_storeSet_of
def XH:=@Nat.le_of_lt_succ
def XJ:=@Heap.get?_push_ne
def XM:=@List.foldl_append
def XN:=@Nat.dvd_of_mod_eq_zero
def XQ:=@PySem.F.slot_tuple_add
def XR:=@Nat.le_of_not_lt
def XS:=@Heap.size_update
def XX:=@List.getElem_map
def X3:=@F.typeCall_zip_2
def X4:=@List.mem_flatMap
def X5:=@wpAny_isInstance
def X6:=@Nat.mod_eq_of_lt
def X7:=@List.take_append_drop
def X8:=@F.entry_proto_collect
def Yb:=@F.plain_proto_collect
def Yc:=@callType_new
def Yd:=@List.mem_of_mem_take
def Ye:=@F.newCall_zip_2
def Yg:=@F.entry_zip_new
def Yh:=@Nat.mod_add_mod
def Yi:=@List.nil_append
def Yj:=@PyProof.Rows.callWith_builtin1
def Yk:=@iter_tuple
def Yl:=@List.mem_of_mem_drop
def Ym:=@codeAny_of_tree
def Yn:=@beq_iff_eq
def Yo:=@wpAny_execs_nil
def Yp:=@Nat.add_zero
def Yq:=@wpAny_runValue
def Yr:=@Calls.spliced_cons
def Ys:=@Calls.spliced_nil
def Yt:=@List.drop_eq_getElem_cons
def Yu:=@call_meets
def Yv:=@List.isEmpty_iff
def Yw:=@IsTup.new
def Yx:=@wpAny_call
def Yy:=@List.all_cons
def Yz:=@List.sum_cons
end
set_option Elab.async false
set_option maxRecDepth 100000
set_option maxHeartbeats 8000000
namespace T
open PySem PySem.W PyProof.Rows
/-- the top's run over a tree -/
noncomputable def runT(p:Program)(w:World)(m:Nat)(a:Option Value):Nat->SharedT->Thread->Option SharedT
 | 0,_,_=>none
 | n + 1,s,t=>match through t with
   | true=>some s
   | false=>match stepOk m a t with
     | false=>none
     | true=>match stepT (denote treeTable) p w s t with
       | some r=>runT p w m a n r.1 r.2
       | none=>none
theorem run_of{p:Program}{w:World}{m:Nat}{a:Option Value}:∀ {n:Nat}{s s':SharedT}{t:Thread},runT p w m a n s t=some s'->topRun treeTable p w m a n s.abs t=some s'.abs
 | 0,_,_,_,h=>by cases h
 | n + 1,s,s',t,h=>by
   unfold runT at h;unfold topRun;cases ht:through t with
   | true=>rw [ht]at h;cases h;rfl
   | false=>
     rw [ht]at h;cases hk:stepOk m a t with
     | false=>rw [hk]at h;cases h
     | true=>
       rw [hk]at h;cases hs:stepT (denote treeTable) p w s t with
       | none=>rw [hs]at h;cases h
       | some r=>obtain ⟨s2,t2⟩:=r;rw [hs]at h;rw [stepT_spec hs];exact run_of h
noncomputable def grow:List Obj->Nat->BT->BT
 | [],_,t=>t
 | o::l,n,t=>grow l (n + 1) (t.ins n o)
noncomputable def bootT(B:Heap)(os:OsState):SharedT:=⟨grow B.objs.toList 0 .nil,B.objs.size,B.life,#[],boot_drawn,boot_toks,os⟩
noncomputable def bootA(w:World)(os:OsState):Shared:=⟨boot_heap w.params,#[],boot_drawn,boot_toks,os⟩
def boot_abs(w:World)(os:OsState):(bootT (boot_heap w.params) os).abs=bootA w os:=by kernel_rfl
def boot_ns(w:World):((boot_heap w.params).isNs mainGlobals && (#[]:Array GenState).size == 0)=true:=by kernel_rfl
noncomputable def chk{α:Type}(p q:Program)(loose:List Str)(Xt:Shared->Bool)(Yf:Shared->α)(N:Nat)(B:Heap)(w:World)(os:OsState):=
 (runT p w B.objs.size (B.nsMap mainGlobals "__annotations__") N (bootT B os) (topStub p)).map λs=>
   (staticsOk (importedModules p.main.body) B s.abs.heap && namesBound p s.abs.heap && gensDone s.abs && laidKept B s.abs.heap,openSeen q loose (importedModules p.main.body) Xt true s.abs,Yf s.abs)
def left{α:Type}{p q:Program}{loose:List Str}{Xt:Shared->Bool}{Yf:Shared->α}{Ya:World->α}{N:Nat}(e:opening p=plainProg p.main.scope.names)(hN:Nat.ble 600 N=true)(f:∀ s,fenceModules? p s=some s)
  (h:∀ (w:World) (os:OsState),chk p q loose Xt Yf N (boot_heap w.params) w os=some (true,openGood q loose,Ya w)):LeftO p q loose Xt Yf Ya N:=λw=>by
 obtain ⟨⟨hh,gs,d,k,os⟩,e1,e2⟩:=S8.mp (boot_open (N:=N) e hN f w);obtain ⟨rfl,rfl,rfl,rfl⟩:hh=boot_heap w.params/\gs=#[]/\d=boot_drawn/\k=boot_toks:=by simpa using e2
 obtain ⟨s,r1,r2⟩:=S8.mp (h w os);have r:=run_of r1;rw [boot_abs]at r;obtain ⟨l1,l2,l3⟩:_/\_/\_:=by simpa only [Prod.mk.injEq] using r2
 unfold openEnds topFrom;rw [e1];show (match (boot_heap w.params).isNs mainGlobals && (#[]:Array GenState).size == 0 with | true=>_ | false=>_:Option Shared).map _=_
 rw [boot_ns];show ((topRun treeTable p w (boot_heap w.params).objs.size _ N (bootA w os) (topStub p)).bind _).map _=_;rw [r];show (match staticsOk (importedModules p.main.body) (boot_heap w.params) s.abs.heap && namesBound p s.abs.heap && gensDone s.abs && laidKept (boot_heap w.params) s.abs.heap with | true=>_ | false=>_:Option Shared).map _=_
 rw [l1];show some (openSeen q loose (importedModules p.main.body) Xt true s.abs,Yf s.abs)=some _;rw [l2,l3]
noncomputable def tp(i:Nat):Stmt:=PySem.Challenge.pw_fadewalk_k34_forgets_or_not.main.body.getD i (.Pass ⟨0,0,0,0⟩)
noncomputable def view:Program:={ PySem.Challenge.pw_fadewalk_k34_forgets_or_not with main:={ PySem.Challenge.pw_fadewalk_k34_forgets_or_not.main with body:=[tp 0,tp 2,tp 3,tp 4,tp 6,tp 7,tp 9,tp 10,tp 11,tp 12,tp 13,tp 14,tp 16,tp 17,tp 18,tp 19,tp 20,tp 21,tp 22,tp 24,tp 25,tp 26,tp 27,tp 28,tp 30,tp 31,tp 33,tp 34,tp 35,tp 36,tp 37,tp 38,tp 39,tp 40,tp 41,tp 42,tp 43,tp 44,tp 45] } }
noncomputable def loos:List Str:=["Walk"]
noncomputable def lvs:List (Str×WData):=[]
noncomputable def lhs(B:Heap)(as:List Addr)(w:World)(os:OsState):=chk PySem.Challenge.pw_fadewalk_k34_forgets_or_not view loos (λs=>xlAt view lvs s && recOk (RowW.records (OpenRow.toRowW (OpenLaw.row PySem.Challenge.rw_fadewalk_k34_forgets_or_not))) s) (λs=>as.map s.heap.get?) 4274 B w os
noncomputable def rhs(K:Params->Frag)(w:World):=some (true,openGood view loos,(K w.params).map λp=>some p.2)
end T
noncomputable def PySem.W.Fast.tw4855959522784874501:PySem.Program:=PySem.Challenge.pw_fadewalk_k34_forgets_or_not
def PySem.W.Fast.te4855959522784874501:PySem.Challenge.pw_fadewalk_k34_forgets_or_not=PySem.W.Fast.tw4855959522784874501:=rfl
namespace T
open PySem PySem.W PyProof.Rows
lay_quick T.lhs T.rhs
def hook{K:Params->Frag}{as:List Addr}{e:∀ P,as=(K P).map (·.1)}(h:∀ (w:World) (os:OsState),PySem.W.Fast.tw12313586583820656202 (boot_heap w.params) as w os=PySem.W.Fast.tw7420988445182104193 K w):
  LeftO PySem.Challenge.pw_fadewalk_k34_forgets_or_not view loos (λs=>xlAt view lvs s && recOk (RowW.records (OpenRow.toRowW (OpenLaw.row PySem.Challenge.rw_fadewalk_k34_forgets_or_not))) s) (Hook.obs (kHook K as e)) (Hook.val (kHook K as e)) 4274:=
 left rfl (by decide) (λ_=>rfl) λw os=>by show lhs (boot_heap w.params) as w os=rhs K w;rw [PySem.W.Fast.te12313586583820656202,PySem.W.Fast.te7420988445182104193];exact h w os
local macro_rules
 | `(tactic| o_head $H)=>`(tactic| (
   refine PySem.W.holds_open (q:=T.view) (loose:=T.loos)
    (Xt:=λs=>PySem.W.xlAt T.view T.lvs s && PySem.W.recOk (PySem.W.RowW.records (PySem.W.OpenRow.toRowW (PySem.W.OpenLaw.row PySem.Challenge.rw_fadewalk_k34_forgets_or_not))) s)
    (XP:=PySem.W.XL T.view T.lvs) (Yf:=PySem.W.Hook.obs $H) (Ya:=PySem.W.Hook.val $H)
    (YP:=PySem.W.Hook.says $H) (N:=4274) ?hl (PySem.W.Hook.of $H) (PySem.W.Hook.keeps $H)
    (λs e=>PySem.W.xl_of s (Bool.and_eq_true_iff.mp e).1) PySem.W.XL.keeps rfl rfl rfl
    (λs e=>PySem.W.recFacts_of (Bool.and_eq_true_iff.mp e).2) rfl
    (by first | assumption | decide +kernel) (by decide +kernel)
    ⟨rfl,rfl,rfl,rfl,rfl,by decide +kernel⟩ ?hw ?hc;(case hl=>exact T.hook (λw os=>by kernel_rfl))))
open_top cut for PySem.Challenge.rw_fadewalk_k34_forgets_or_not
end T
set_option linter.all false
set_option tactic.hygienic false
set_option bootstrap.genMatcherCode false
namespace L2
open PySem PySem.Spec PyProof.Rows
abbrev Key:=Sum Int Str
def keyIs:Key->Value->Bool
 |.inl k,v=>Value.isInt k v
 |.inr x,v=>Value.isStrOf x v
def keyH(w:World):Key->Int
 |.inl k=>hashInt k
 |.inr x=>hashStr w x
def keyIs_shape:∀ {k:Key}{v:Value},keyIs k v=true->(∃ i t,k=Sum.inl i/\v=Value.int i t)\/(∃ x t,k=Sum.inr x/\v=Value.str x t)
 |.inl i,v,h=>by obtain⟨t,e⟩:=Value.isInt_shape (k:=i) (v:=v) h;exact .inl ⟨i,t,rfl,e⟩
 |.inr x,v,h=>by obtain⟨t,e⟩:=Value.isStrOf_shape (x:=x) (v:=v) h;exact .inr ⟨x,t,rfl,e⟩
def keyIs_int(i:Int)(t:Tok):keyIs (.inl i) (.int i t)=true:=by simp[keyIs,Value.isInt]
def keyIs_str(x:Str)(t:Tok):keyIs (.inr x) (.str x t)=true:=by simp[keyIs,Value.isStrOf]
def key_ll(a b:Int):decide ((Sum.inl a:Key)=Sum.inl b)=(a==b):=by
 by_cases e:a=b
 ·subst e;simp
 ·have h:¬ (Sum.inl a:Key)=Sum.inl b:=λq=>e (Sum.inl.inj q)
  rw[Uq h];exact (V0.mpr e).symm
def key_rr(a b:Str):decide ((Sum.inr a:Key)=Sum.inr b)=decide (a=b):=by
 by_cases e:a=b
 ·subst e;simp
 ·have h:¬ (Sum.inr a:Key)=Sum.inr b:=λq=>e (Sum.inr.inj q)
  rw[Uq h,Uq e]
def key_lr(a:Int)(b:Str):decide ((Sum.inl a:Key)=Sum.inr b)=false:=Uq (λq=>nomatch q)
def key_rl(a:Str)(b:Int):decide ((Sum.inr a:Key)=Sum.inl b)=false:=Uq (λq=>nomatch q)
def mixKind(prog:Program)(w:World):PySem.KeyKind prog w Key where
 is:=keyIs
 hash:=keyH w
 inj:=λv a b ha hb=>by
  rcases keyIs_shape ha with ⟨i,t,rfl,rfl⟩ | ⟨x,t,rfl,rfl⟩
  ·rcases keyIs_shape hb with ⟨j,u,rfl,e⟩ | ⟨y,u,rfl,e⟩
   ·injection e with e1 _;rw[e1]
   ·exact nomatch e
  ·rcases keyIs_shape hb with ⟨j,u,rfl,e⟩ | ⟨y,u,rfl,e⟩
   ·exact nomatch e
   ·injection e with e1 _;rw[e1]
 byValue:=λk v h=>by rcases keyIs_shape h with ⟨i,t,rfl,rfl⟩ | ⟨x,t,rfl,rfl⟩<;>rfl
 pyHash:=λhv h=>by
  rcases keyIs_shape hv with ⟨i,t,rfl,rfl⟩ | ⟨x,t,rfl,rfl⟩
  ·exact wpAny_pyHash_int h
  ·exact wpAny_pyHash_str h
 eqBool:=λhu hv h=>by
  rcases keyIs_shape hu with ⟨i,t,rfl,rfl⟩ | ⟨x,t,rfl,rfl⟩
  ·rcases keyIs_shape hv with ⟨j,u,rfl,rfl⟩ | ⟨y,u,rfl,rfl⟩
   ·rw[key_ll]at h;exact wpAny_eqBool_int h
   ·rw[key_lr]at h;exact SeqAt.EqAt.int_str i t y u _ _ _ _ h
  ·rcases keyIs_shape hv with ⟨j,u,rfl,rfl⟩ | ⟨y,u,rfl,rfl⟩
   ·rw[key_rl]at h;exact SeqAt.EqAt.str_int x t j u _ _ _ _ h
   ·rw[key_rr]at h;exact wpAny_eqBool_str h
 «strs»:=λk x t v h=>by
  rcases keyIs_shape h with ⟨i,u,rfl,e⟩ | ⟨y,u,rfl,e⟩
  ·exact nomatch e
  ·injection e with e1 _
   subst e1;cases v<;>rfl
def mixKind_is(prog:Program)(w:World)(k:Key)(v:Value):(mixKind prog w).is k v=keyIs k v:=rfl
def mixKind_int(prog:Program)(w:World)(i:Int)(t:Tok):(mixKind prog w).is (.inl i) (.int i t)=true:=keyIs_int i t
def mixKind_str(prog:Program)(w:World)(x:Str)(t:Tok):(mixKind prog w).is (.inr x) (.str x t)=true:=keyIs_str x t
open PySem PySem.Spec PyProof.Rows
inductive V where
 |non | bl (b:Bool) | int (i:Int) | str (x:Str) | byt (b:Array UInt8) | flt (b:UInt64) | ref (a:Addr) | ty (n:String)
 deriving DecidableEq
def RelV:V->Value->Prop
 |.non,u=>u=Value.none
 |.bl b,u=>u=Value.bool b
 |.int i,u=>∃t,u=Value.int i t
 |.str x,u=>∃t,u=Value.str x t
 |.byt b,u=>∃t,u=Value.bytes b t
 |.flt b,u=>∃t,u=Value.float b t
 |.ref a,u=>u=Value.ref a
 |.ty n,u=>u=Value.type n
abbrev Vals:List V->List Value->Prop:=Paired RelV
theorem Vals.length(r:Vals xs us):xs.length=us.length:=W8 r
theorem Vals.get:∀ {xs:List V}{us:List Value}{i:Nat}{x:V},Vals xs us->xs[i]?=some x->∃ u,us[i]?=some u/\RelV x u
 |_,_,_,_,.nil,e=>by simp at e
 |_,_,0,_,.cons r _,e=>by simp at e;subst e;exact⟨_,rfl,r⟩
 |_,_,i+1,x,.cons _ t,e=>by
   obtain⟨u,h1,h2⟩:=Vals.get (i:=i) (x:=x) t (by simpa using e)
   exact⟨u,by simpa using h1,h2⟩
theorem Vals.set(r:RelV x u):∀{xs:List V}{us:List Value} (i:Nat),Vals xs us->Vals (xs.set i x) (us.set i u)
 |_,_,_,.nil=>.nil
 |_,_,0,.cons _ t=>.cons r t
 |_,_,i+1,.cons q t=>.cons q (Vals.set r i t)
theorem Vals.append:∀{xs ys:List V}{us ws:List Value},Vals xs us->Vals ys ws->Vals (xs++ys) (us++ws)
 |_,_,_,_,.nil,s=>s
 |_,_,_,_,.cons r t,s=>.cons r (Vals.append t s)
theorem Vals.take:∀{xs:List V}{us:List Value} (n:Nat),Vals xs us->Vals (xs.take n) (us.take n)
 |_,_,0,_=>.nil
 |_,_,_+1,.nil=>.nil
 |_,_,n+1,.cons r t=>.cons r (Vals.take n t)
theorem Vals.drop:∀{xs:List V}{us:List Value} (n:Nat),Vals xs us->Vals (xs.drop n) (us.drop n)
 |_,_,0,r=>r
 |_,_,_+1,.nil=>.nil
 |_,_,n+1,.cons _ t=>Vals.drop n t
def Vals.none_of:∀{xs:List V}{us:List Value}{i:Nat},Vals xs us->xs[i]?=none->us[i]?=none:=λ{xs us i} r e=>by have h1:=r.length;have h2:xs.length<=i:=Uc.mp e;exact Uc.mpr (by omega)
def RelO:Option V->Option Value->Prop
 |some v,some u=>RelV v u
 |none,none=>True
 |_,_=>False
def KV{κ:Type}:List (κ×V)->List (κ×Value)->Prop:=Paired λ(p:κ×V) (q:κ×Value)=>p.1=q.1/\RelV p.2 q.2
def kV:Key->V
 |.inl i=>.int i
 |.inr x=>.str x
inductive HO where
 /-- a list -/
 |lst (xs:List V)
 /-- a tuple (never changes) -/
 |tup (xs:List V)
 /-- a dict whose keys are ints and texts;one whose keys are tuples of ints and texts (the empty one is both) -/
 |dK (kvs:List (Key×V)) | dT (kvs:List (List Key×V))
 /-- a set of ints: its members,its size -/
 |set (S:Int->Bool) (n:Nat)
 /-- an instance of the class at C,its dict at dx,its attributes -/
 |ins (C dx:Addr) (fs:List (Str×V))
 /-- the dict of the instance at x -/
 |own (x:Addr)
 /-- the dict of an exception -/
 |xd (fs:List (Str×V))
 /-- a bound method,f of x -/
 |met (f x:Addr)
 /-- a range object lo,lo+1,.. below hi -/
 |rng (lo hi:Int)
 /-- a thing that is known to the object (the script;a dict while a loop walks it): read,never written while it is so -/
 |frz (o:Obj) (u:HO)
 /-- a code object's table -/
 |tbl (ps:Array Value)
 /-- any other thing,by what is true of its one object (a def of one's own: SetO a S n:=HO.ext λh=>..) -/
 |ext (φ:Heap->Prop)
abbrev Hp:=Addr->Option HO
def upd(H:Hp)(a:Addr)(o:HO):Hp:=λb=>if b=a then some o else H b
def upd_same{H:Hp}{a:Addr}{o:HO}:upd H a o a=some o:=by unfold upd;rw[Tf rfl]
def upd_ne{H:Hp}{a b:Addr}{o:HO}(h:b≠a):upd H a o b=H b:=by unfold upd;rw[Ti h]
def upd_upd:upd (upd H a o) a u=upd H a u:=by funext b;unfold upd;split<;>rfl
def ne_of{H:Hp}{a b:Addr}{o u:HO}(h:H a=some o)(h':H b=some u)(d:o≠u):a≠b:=by intro e;subst e;rw[h]at h';exact d (Tu h')
def ne_of_none{H:Hp}{a b:Addr}{o:HO}(h:H a=some o)(h':H b=none):a≠b:=by intro e;subst e;rw[h]at h';cases h'
def RecAt(H:Hp)(v:Value):Prop:=∃c o fs q t,v=.ref c/\H c=some (.frz o (.own c))/\o.data=.fields fs/\fs[1]?=some (.str q t)
section
variable(P:Program)(w:World)
def ObjOk(H:Hp)(h:Heap)(a:Addr):HO->Prop
 |.lst xs=>xs.length<=sizeLine/\∃(its:List Value) (n:Nat),Vals xs its/\h.get? a=some { cls:=.type "list",data:=.seq its.toArray n }
 |.tup xs=>xs.length<=sizeLine/\∃its:List Value,Vals xs its/\IsTup h a its.toArray
 |.dK kvs=>kvs.length<=sizeLine/\(a==sysModules)=false/\∃vs,KV kvs vs/\h.DictOf (mixKind P w) a vs
 |.dT kvs=>kvs.length<=sizeLine/\(a==sysModules)=false/\∃xs:List (List Key×Addr×Value),
   Paired (λ(p:List Key×V) (q:List Key×Addr×Value)=>p.1=q.1/\H q.2.1=some (.tup (p.1.map kV))/\RelV p.2 q.2.2) kvs xs /\
   ∃o es ep,h.get? a=some o/\o.ExactDict/\o.data=.dict es ep/\es.toList=xs.map (entryOfKey (tupleKind (mixKind P w)))/\(xs.map (·.1)).Nodup
 |.set S n=>h.SetOf (intKind P w) a S n
 |.ins C dx fs=>H dx=some (.own a)/\fs.length<=1000/\dx≠a/\h.get? a=some (PySem.W.instObj C dx) /\
   ∃mA,h.Ns1 dx mA/\(∀f,RelO (fs.lookup f) (mA f))/\PySem.Within mA (fs.map (·.1))
 |.own _=>∃o,h.get? a=some o
 |.xd fs=>∃mA,h.Ns1 a mA/\∀f,RelO (fs.lookup f) (mA f)
 |.rng lo hi=>∃t u v,h.get? a=some { cls:=.type "range",data:=.fields #[.int lo t,.int hi u,.int 1 v] }
 |.frz o u=>h.get? a=some o/\ObjOk H h a u
 |.tbl _=>∃ps:Array Value,h.get? a=some { cls:=.none,data:=.fields ps }/\TriplesOk ps.toList/\∀pos cv,codeAmong pos ps.toList=some cv->RecAt H cv
 |.met f x=>h.get? a=some (PySem.W.methodObj (.ref f) (.ref x))
 |.ext φ=>φ h/\(∃o,h.get? a=some o)/\∀h1 h2:Heap,φ h1->(∀o,h1.get? a=some o->h2.get? a=some o)->φ h2
def HOk(H:Hp)(h:Heap):Prop:=∀a o,H a=some o->ObjOk P w H h a o
end
section
variable{P:Program}{w:World}{H H':Hp}{h h':Heap}{a:Addr}{o:HO}
theorem ObjOk.lt(x:ObjOk P w H h a o):a<h.objs.size:=by
 cases o with
 |lst xs=>obtain⟨_,_,_,_,e⟩:=x;exact Te e
 |tup xs=>obtain⟨_,_,_,p⟩:=x;exact p.lt
 |dK kvs=>obtain⟨_,_,_,_,o,_,_,e,_⟩:=x;exact Te e
 |dT kvs=>obtain⟨_,_,_,_,o,_,_,e,_⟩:=x;exact Te e
 |set S n=>obtain⟨o,_,_,_,e,_⟩:=x;exact Te e
 |ins C dx fs=>obtain⟨_,_,_,e,_⟩:=x;exact Te e
 |own y=>obtain⟨_,e⟩:=x;exact Te e
 |xd fs=>obtain⟨_,⟨_,_,_,e,_⟩,_⟩:=x;exact Te e
 |rng lo hi=>obtain⟨_,_,_,e⟩:=x;exact Te e
 |frz ob u=>obtain⟨e,_⟩:=x;exact Te e
 |tbl ps=>obtain⟨_,e,_⟩:=x;exact Te e
 |met f y=>exact Te (show h.get? a=some _ from x)
 |ext φ=>obtain⟨_,⟨_,e⟩,_⟩:=x;exact Te e
theorem Paired.mapP:∀{l₁:List α}{l₂:List β},Paired F l₁ l₂->(∀a b,F a b->G a b)->Paired G l₁ l₂
 |_,_,.nil,_=>.nil
 |_,_,.cons r t,f=>.cons (f _ _ r) (Paired.mapP t f)
def ObjOk.stay(x:ObjOk P w H h a o)(k:∀ b u,(b=a\/H b=some (.own a))->h.get? b=some u->h'.get? b=some u)
  (ho:∀b,H b=some (.own a)->H' b=some (.own a)) (ht:∀b xs,H b=some (.tup xs)->H' b=some (.tup xs)) (hf:∀b o,H b=some (.frz o (.own b))->H' b=some (.frz o (.own b)):=by exact λs s q=>q):ObjOk P w H' h' a o:=by
 induction o with
 |lst xs=>obtain⟨z,its,n,r,e⟩:=x;exact⟨z,its,n,r,k _ _ (.inl rfl) e⟩
 |tup xs=>obtain⟨z,its,r,ob,e,c⟩:=x;exact⟨z,its,r,ob,k _ _ (.inl rfl) e,c⟩
 |dK kvs=>obtain⟨z,y,vs,r,ob,es,ep,e,c⟩:=x;exact⟨z,y,vs,r,ob,es,ep,k _ _ (.inl rfl) e,c⟩
 |dT kvs=>obtain⟨z,y,xs,r,ob,es,ep,e,c⟩:=x;exact⟨z,y,xs,Paired.mapP r λp q z=>⟨z.1,ht _ _ z.2.1,z.2.2⟩,ob,es,ep,k _ _ (.inl rfl) e,c⟩
 |set S n=>obtain⟨ob,es,ep,t,e,c⟩:=x;exact⟨ob,es,ep,t,k _ _ (.inl rfl) e,c⟩
 |ins C dx fs=>obtain⟨d,z,ne,e,mA,⟨od,es,ep,e2,c⟩,r⟩:=x;exact⟨ho _ d,z,ne,k _ _ (.inl rfl) e,mA,⟨od,es,ep,k _ _ (.inr d) e2,c⟩,r⟩
 |own y=>obtain⟨ob,e⟩:=x;exact⟨ob,k _ _ (.inl rfl) e⟩
 |xd fs=>obtain⟨mA,⟨od,es,ep,e,c⟩,r⟩:=x;exact⟨mA,⟨od,es,ep,k _ _ (.inl rfl) e,c⟩,r⟩
 |rng lo hi=>obtain⟨t,u,v,e⟩:=x;exact⟨t,u,v,k _ _ (.inl rfl) e⟩
 |frz ob u ih=>obtain⟨e,q⟩:=x;exact⟨k _ _ (.inl rfl) e,ih q⟩
 |tbl ps=>obtain⟨ps',e,z,r⟩:=x;exact⟨ps',k a _ (.inl rfl) e,z,λpos cv q=>let ⟨c,o,fs,q',t,g1,g2,g3⟩:=r pos cv q;⟨c,o,fs,q',t,g1,hf c o g2,g3⟩⟩
 |met f y=>have e:h.get? a=some (PySem.W.methodObj (.ref f) (.ref y)):=x;show h'.get? a=some (PySem.W.methodObj (.ref f) (.ref y));exact k a _ (.inl rfl) e
 |ext φ=>obtain⟨p,⟨o,e⟩,st⟩:=x;exact⟨st _ _ p λo q=>k _ _ (.inl rfl) q,⟨o,k _ _ (.inl rfl) e⟩,st⟩
theorem HOk.lt(x:HOk P w H h)(e:H a=some o):a<h.objs.size:=(x a o e).lt
def HOk.fresh(x:HOk P w H h)(e:h.objs.size<=a):H a=none:=by
 cases q:H a with
 |none=>rfl
 |some u=>exact absurd (Tr (x.lt q) e) (Vj _)
def HOk.kept(x:HOk P w H h)(k:∀b u,h.get? b=some u->h'.get? b=some u):HOk P w H h':=λa o e=>
 (x a o e).stay (λb u z q=>k b u q) (λz q=>q) λz z q=>q
def HOk.laid(x:HOk P w H h)(k:∀b u,h.get? b=some u->h'.get? b=some u)(hp:h.objs.size<=a)(new:ObjOk P w (upd H a o) h' a o):HOk P w (upd H a o) h':=λb u e=>by
 have hn:=x.fresh hp;by_cases hb:b=a
 ·subst hb;rw[upd_same]at e;cases e;exact new
 ·rw[upd_ne hb]at e;exact (x b u e).stay (λc v z q=>k c v q) (λc q=>by rw[upd_ne (ne_of_none q hn)];exact q) (λc xs q=>by rw[upd_ne (ne_of_none q hn)];exact q) λc o q=>by rw[upd_ne (ne_of_none q hn)];exact q
end
def Rd(H:Hp)(a:Addr)(u:HO):Prop:=H a=some u\/∃o,H a=some (.frz o u)
def Rd.ok(r:Rd H a u)(x:HOk P w H h):ObjOk P w H h a u:=by
 rcases r with r | ⟨o,r⟩
 ·exact x a u r
 ·obtain⟨_,q⟩:=x a _ r;exact q
def Mut:Option HO->Prop
 |some (.lst _)=>True
 |some (.dK _)=>True
 |some (.dT _)=>True
 |some (.set _ _)=>True
 |some (.ins _ _ _)=>True
 |some (.ext _)=>True
 |_=>False
section
variable{P:Program}{w:World}{H:Hp}{h h':Heap}{x e:Addr}{o':HO}
def HOk.write(ok:HOk P w H h)(mu:Mut (H x))(he:e=x\/H e=some (.own x))(k:∀ b u,b≠e->h.get? b=some u->h'.get? b=some u)(heo:∃ u,h'.get? e=some u)
  (new:ObjOk P w (upd H x o') h' x o'):HOk P w (upd H x o') h':=λb u q=>by
 have nown:∀c y,H c=some (.own y)->c≠x:=λc y r z=>by subst z;rw[r]at mu;exact mu
 have ntup:∀c xs,H c=some (.tup xs)->c≠x:=λc xs r z=>by subst z;rw[r]at mu;exact mu
 have nfrz:∀c o u,H c=some (.frz o u)->c≠x:=λc o u r z=>by subst z;rw[r]at mu;exact mu
 by_cases hb:b=x
 ·subst hb;rw[upd_same]at q;cases q;exact new
 ·rw [upd_ne hb]at q;by_cases hbe:b=e
  ·have q':H b=some (.own x):=by
    rcases he with z | z
    ·exact absurd (hbe.trans z) hb
    ·rw[hbe];exact z
   rw[q]at q';cases q';obtain⟨v,hv⟩:=heo;exact⟨v,by rw[hbe];exact hv⟩
  ·refine (ok b u q).stay (λc v hc r=>k c v ?_ r) (λc r=>by rw[upd_ne (nown c b r)];exact r) (λc xs r=>by rw[upd_ne (ntup c xs r)];exact r) λc o r=>by rw[upd_ne (nfrz c o _ r)];exact r
   rcases hc with rfl | hc
   ·exact hbe
   ·rintro rfl;rcases he with z | z
    ·exact nown c b hc z
    ·rw[hc]at z;cases z;exact hb rfl
end
structure Un(fs ex:List Addr)(H H':Hp)(h h':Heap):Prop where
 keep:∀b o,h.get? b=some o->H b=none->b∉fs->b∉ex->h'.get? b=some o
 slot:∀b o,h.get? b=some o->H b=none->b∈fs->b∉ex->∃sl,h'.get? b=some { o with slots:=sl }
 free:∀b o,h.get? b=some o->H b=none->b∉ex->H' b=none
 there:∀b o,h.get? b=some o->b∉ex->∃o',h'.get? b=some o'
 tups:∀b xs,H b=some (.tup xs)->H' b=some (.tup xs)
 frzs:∀b o u,H b=some (.frz o u)->H' b=some (.frz o u)
 tbls:∀b ps,H b=some (.tbl ps)->∃more,H' b=some (.tbl (ps++more))
section
variable{fs fs' ex ex':List Addr}{H H1 H2:Hp}{h h1 h2 h':Heap}{a x e:Addr}{o:HO}
def Un.any(u:Un fs ex H H1 h h1)(q:h.get? b=some ob)(n:H b=none)(hx:b∉ex):∃sl,h1.get? b=some { ob with slots:=sl }:=by
 by_cases hb:b∈fs
 ·exact u.slot b ob q n hb hx
 ·exact⟨ob.slots,u.keep b ob q n hb hx⟩
def Un.kept(k:∀b u,h.get? b=some u->h'.get? b=some u):Un fs ex H H h h':=
 ⟨λb ob q z z z=>k b ob q,λb ob q z z z=>⟨ob.slots,k b ob q⟩,λz z z n z=>n,λb ob q z=>⟨ob,k b ob q⟩,λz z q=>q,λz z z q=>q,λz ps q=>⟨#[],by rw[q];simp⟩⟩
def Un.refl:Un fs ex H H h h:=Un.kept λz z q=>q
def Un.laid(k:∀b u,h.get? b=some u->h'.get? b=some u)(hp:h.objs.size<=a)(hn:H a=none):Un fs ex H (upd H a o) h h' where
 keep:=λb u q z z z=>k b u q
 slot:=λb u q z z z=>⟨u.slots,k b u q⟩
 free:=λb u q n z=>by rw[upd_ne (Tj (Tr (Te q) hp))];exact n
 there:=λb u q z=>⟨u,k b u q⟩
 tups:=λb xs q=>by rw[upd_ne (ne_of_none q hn)];exact q
 frzs:=λb u xs q=>by rw[upd_ne (ne_of_none q hn)];exact q
 tbls:=λb ps q=>⟨#[],by rw[upd_ne (ne_of_none q hn),q];simp⟩
def Un.write(mu:Mut (H x))(he:e=x\/H e=some (.own x))(k:∀b u,b≠e->h.get? b=some u->h'.get? b=some u)(heo:∃u,h'.get? e=some u):Un fs ex H (upd H x o) h h':=by
 have hx:∀b,H b=none->b≠x:=λb n z=>by subst z;rw[n]at mu;exact mu
 have hb:∀b,H b=none->b≠e:=λb n z=>by
  subst z;rcases he with r | r
  ·exact hx b n r
  ·rw[n]at r;cases r
 have hm:∀b u,H b=some u->¬ Mut (some u)->b≠x:=λb u q nm z=>by subst z;rw[q]at mu;exact nm mu
 refine⟨λb u q n y y=>k b u (hb b n) q,λb u q n y y=>⟨u.slots,k b u (hb b n) q⟩,λb u q n y=>by rw[upd_ne (hx b n)];exact n,λb u q y=>?_,
  λb xs q=>by rw[upd_ne (hm b _ q λz=>z)];exact q,λb u xs q=>by rw[upd_ne (hm b _ q λz=>z)];exact q,λb ps q=>⟨#[],by rw[upd_ne (hm b _ q λz=>z),q];simp⟩⟩
 by_cases hbe:b=e
 ·subst hbe;exact heo
 ·exact⟨u,k b u hbe q⟩
end
def trk(h:Heap)(H:Hp):List Addr:=(List.range h.objs.size).filter λa=>(H a).isSome
def hidT(h:Heap)(H:Hp):Heap:=PySem.W.hideAll h (trk h H)
def hidT_size(h:Heap)(H:Hp):(hidT h H).objs.size=h.objs.size:=PySem.W.hideAll_size _ _
def hidT_get(e:h.get? b=some o)(n:H b=none):(hidT h H).get? b=some o:=
 PySem.W.hideAll_get _ e λhm=>by have q:(H b).isSome=true:=(Tv.mp hm).2;rw[n]at q;simp at q
def of_hidT(e:(hidT h H).get? b=some o):h.get? b=some o/\H b=none:=by
 have e':h.get? b=some o:=PySem.W.of_hideAll (trk h H) e;refine⟨e',?_⟩;cases q:H b with
 |none=>rfl
 |some x=>
   have hm:b∈trk h H:=Tv.mpr ⟨Th.mpr (Te e'),by simp[q]⟩
   have z:(hidT h H).get? b=none:=PySem.W.hideAll_none (trk h H) hm;rw[z]at e;cases e
def allNews(g h:Heap)(L:Addr):List (Addr×Obj):=(List.range h.objs.size).filterMap λa=>if a=L\/(g.get? a).isSome=true then none else (h.get? a).map λo=>(a,o)
def rest(g h:Heap)(L d:Addr):List (Addr×Obj):=(allNews g h L).filter λp=>decide (p.1≠d)
open PySem PySem.Spec PyProof.Rows
structure Mod(K:PySem.W.Frag)(mg:Str->Option Value)(base:Heap):Prop where
 kin:K.In base
 glob:base.Ns mainGlobals mg
 blt:∃mb,base.Ns builtinsNs mb/\∀x:Str,x≠"__name__"->mb x=bootBuiltins x
 nolimit:base.NoLimit
structure Cx where
 prog:Program
 w:World
 K:PySem.W.Frag
 mg:Str->Option Value
 base:Heap
 A:Around
 N:List Str
 s₀:Shared
 H₀:Hp
 env:Env
 outer:List Env
 stack:List Env
 ex:List Addr
 fn:Str->Bool
 calm:Bool
 pn:List (Addr×Obj)
 xe:Value->Shared->Prop
def frs(l:List Env):List Addr:=l.filterMap (·.frame)
abbrev Cx.fs(X:Cx):List Addr:=frs X.outer
def Vis(sc:Scope)(x:Str):Prop:=sc.names.lookup x=some .local\/sc.names.lookup x=some .cell\/sc.names.lookup x=some .free
def Loc(sc:Scope)(x:Str):Prop:=sc.names.lookup x=some .local\/sc.names.lookup x=some .cell
def Look(env:Env)(h:Heap)(m:Str->Option Value)(x:Str)(u:Value):Prop:=
 (env.kindOf x=some .local/\m x=some u)\/((env.kindOf x=some .cell\/env.kindOf x=some .free)/\∃c,env.cells.lookup x=some c/\h.IsCell c (some u))
structure Cx.Ok(X:Cx):Prop where
 mod:Mod X.K X.mg X.base
 kind:X.env.scope.kind=.function
 glob:X.env.globals=mainGlobals
 blt:X.env.builtins=builtinsNs
 above:X.s₀.heap.objs.size<=X.env.locals
 inj:∀x y c,X.env.cells.lookup x=some c->X.env.cells.lookup y=some c->x=y
 has:∀x,(X.env.kindOf x=some .cell\/X.env.kindOf x=some .free)->∃c,X.env.cells.lookup x=some c
 cab:∀x c,X.fn x=true->X.env.cells.lookup x=some c->X.s₀.heap.objs.size<=c
 hd:X.calm=true->X.A.handled=none
 frames:X.A.frames=some X.stack
 stk:X.stack=X.outer\/(X.stack=X.env::X.outer/\X.env.frame=some X.env.locals)
 exf:∀b∈X.ex,b≠X.env.locals/\∀x c,X.env.cells.lookup x=some c->c≠b
 bs:∀b o,X.base.get? b=some o->X.s₀.heap.get? b=some o/\X.H₀ b=none
 bsz:X.base.objs.size<=X.s₀.heap.objs.size
 noex:∀b o,X.base.get? b=some o->b∉X.ex
 exfs:∀b∈X.ex,b∉X.fs
 funs:X.s₀.heap.FunFrames X.base X.outer
 frf:∀b∈X.fs,X.H₀ b=none
structure Inv(X:Cx)(YB:List (Addr×Obj))(σ:List (Option V))(H:Hp)(s:Shared):Prop where
 ok:X.Ok
 os:s.os=X.s₀.os
 bare:AllBare s.gens
 base:Un X.fs X.ex X.H₀ H X.s₀.heap s.heap
 loc:∃m,s.heap.Ns X.env.locals m/\∀(i:Nat) (x:Str) (v:V),X.N[i]?=some x->σ[i]?=some (some v)->Vis X.env.scope x->∃u,RelV v u/\Look X.env s.heap m x u
 cell:∀x c,X.env.cells.lookup x=some c->∃v,s.heap.IsCell c v
 free:H X.env.locals=none
 freeC:∀x c,X.env.cells.lookup x=some c->H c=none
 pin:∀p∈X.pn++YB,s.heap.get? p.1=some p.2/\H p.1=none/\p.1≠X.env.locals/\p.1∉X.fs/\∀v,p.2.data≠.cell v
 hok:HOk X.prog X.w H s.heap
 len:σ.length=X.N.length
section
variable{X:Cx}{YB:List (Addr×Obj)}{σ:List (Option V)}{H H':Hp}{s:Shared}{h':Heap}
def Cx.Ok.nofr(ok:X.Ok)(e:X.base.get? b=some o):b∉X.fs:=λhb=>by have:=(ok.funs.mem hb).1;rw[e]at this;cases this
theorem Inv.bs(I:Inv X YB σ H s):∀b o,X.base.get? b=some o->s.heap.get? b=some o/\H b=none:=λb o e=>
 ⟨I.base.keep b o (I.ok.bs b o e).1 (I.ok.bs b o e).2 (I.ok.nofr e) (I.ok.noex b o e),I.base.free b o (I.ok.bs b o e).1 (I.ok.bs b o e).2 (I.ok.noex b o e)⟩
def Inv.bk(I:Inv X YB σ H s):∀b o,X.base.get? b=some o->s.heap.get? b=some o:=λb o e=>(I.bs b o e).1
theorem Inv.mod(I:Inv X YB σ H s):Mod X.K X.mg X.base:=I.ok.mod
def Inv.kIn(I:Inv X YB σ H s):X.K.In s.heap:=I.ok.mod.kin.keeps I.bk
theorem Inv.lt(I:Inv X YB σ H s):X.env.locals<s.heap.objs.size:=let ⟨_,hn,_⟩:=I.loc;hn.lt
def Inv.sz(I:Inv X YB σ H s):X.s₀.heap.objs.size<=s.heap.objs.size:=Ue I.ok.above (Wn I.lt)
def Inv.nofs(I:Inv X YB σ H s)(h:s.heap.objs.size<=a):a∉X.fs:=λhb=>by obtain⟨_,o,ho,_⟩:=I.ok.funs.mem hb;exact absurd (Tr (Te ho) (Ue I.sz h)) (Vj _)
def Inv.cne(I:Inv X YB σ H s):∀x c,X.env.cells.lookup x=some c->c≠X.env.locals:=λx c e z=>by obtain⟨v,o,ho,hd⟩:=I.cell x c e;obtain⟨m,⟨o',es,ep,ho',hd',_⟩,_⟩:=I.loc;rw[z,ho']at ho;cases ho;rw[hd']at hd;cases hd
theorem Inv.funs(I:Inv X YB σ H s):s.heap.FunFrames X.base X.outer:=by
 have all:∀ (l:List Env),(∀ b∈frs l,b∈X.fs)->X.s₀.heap.FunFrames X.base l->s.heap.FunFrames X.base l:=by
  intro l;induction l with
  |nil=>intro _ _;trivial
  |cons env r ih=>
    intro hs hl;obtain⟨hk,⟨L,o,hf,hn,ho,hd⟩,hr⟩:=hl;have hL:L∈X.fs:=hs L (by unfold frs;rw[Wq,hf];exact TY)
    obtain⟨sl,e⟩:=I.base.slot L o ho (I.ok.frf L hL) hL λz=>I.ok.exfs L z hL
    exact⟨hk,⟨L,_,hf,hn,e,hd⟩,ih (λb hb=>hs b (by unfold frs;rw[Wq,hf];exact Ua _ hb)) hr⟩
 exact all X.outer (λy hb=>hb) I.ok.funs
theorem Inv.stack(I:Inv X YB σ H s):s.heap.FunFrames X.base X.stack:=by
 rcases I.ok.stk with e | ⟨e,hf⟩
 ·rw[e];exact I.funs
 ·rw[e];obtain⟨m,hn,_⟩:=I.loc;refine .cons (by rw[I.ok.kind];decide) hf hn ?_ I.funs
  exact Heap.get?_none_of_le (Ue I.ok.bsz I.ok.above)
def Inv.stkSub(I:Inv X YB σ H s):∀b∈frs X.stack,b∈X.env.locals::X.fs:=λb hb=>by
 rcases I.ok.stk with e | ⟨e,hf⟩
 ·rw[e]at hb;exact Ua _ hb
 ·rw[e]at hb;unfold frs at hb;rw[Wq,hf]at hb;exact hb
def Inv.stkFree(I:Inv X YB σ H s):∀b∈frs X.stack,H b=none:=λb hb=>by
 rcases Tt.mp (I.stkSub b hb) with e | hb
 ·rw[e];exact I.free
 ·obtain⟨_,o,ho,_⟩:=I.ok.funs.mem hb;exact I.base.free b o ho (I.ok.frf b hb) λz=>I.ok.exfs b z hb
def Inv.step{g':Array GenState}{t':Nat}{ch:List Addr}(I:Inv X YB σ H s)
  (hch:∀b∈ch,(b∈X.ex\/X.s₀.heap.objs.size<=b)/\b≠X.env.locals/\(∀x c,X.env.cells.lookup x=some c->c≠b)/\∀p∈X.pn++YB,p.1≠b)
  (keep:∀b o,b≠X.env.locals->b∉X.fs->b∉ch->s.heap.get? b=some o->H b=none->h'.get? b=some o)
  (slot:∀b o,b≠X.env.locals->b∈X.fs->b∉ch->s.heap.get? b=some o->H b=none->∃sl,h'.get? b=some { o with slots:=sl }) (free:∀b o,b∉ch->s.heap.get? b=some o->H b=none->H' b=none)
  (there:∀b o,b∉ch->s.heap.get? b=some o->∃o',h'.get? b=some o')
  (tups:∀b xs,H b=some (.tup xs)->H' b=some (.tup xs)) (frzs:∀b o u,H b=some (.frz o u)->H' b=some (.frz o u)) (tbls:∀b ps,H b=some (.tbl ps)->∃more,H' b=some (.tbl (ps++more)))
  (ns:∀m,s.heap.Ns X.env.locals m->h'.Ns X.env.locals m) (hok:HOk X.prog X.w H' h') (hg:AllBare g') :
  Inv X YB σ H' { s with heap:=h',gens:=g',drawn:=d',toks:=t' }:=by
 have neL:∀b o,X.s₀.heap.get? b=some o->b≠X.env.locals:=λb o e=>Tj (Tr (Te e) I.ok.above)
 have neC:∀b o,X.s₀.heap.get? b=some o->b∉X.ex->b∉ch:=λb o e hx hb=>by
  rcases (hch b hb).1 with z | z
  ·exact hx z
  ·exact absurd (Tr (Te e) z) (Vj _)
 have cellK:∀x c,X.env.cells.lookup x=some c->∀v,s.heap.IsCell c v->h'.IsCell c v:=λx c e v ⟨o,ho,hd⟩=>by
  have nch:c∉ch:=λz=>(hch c z).2.2.1 x c e rfl
  by_cases hc:c∈X.fs
  ·obtain⟨sl,q⟩:=slot c o (I.cne x c e) hc nch ho (I.freeC x c e);exact⟨_,q,hd⟩
  ·exact⟨o,keep c o (I.cne x c e) hc nch ho (I.freeC x c e),hd⟩
 refine⟨I.ok,I.os,hg,⟨λb o e n hb hx=>?_,λb o e n hb hx=>?_,λb o e n hx=>?_,λb o e hx=>?_,λb xs e=>tups b xs (I.base.tups b xs e),λb o xs e=>frzs b o xs (I.base.frzs b o xs e),λb ps e=>?_⟩,?_,λx c e=>?_,?_,λx c e=>?_,λp hp=>?_,hok,I.len⟩
 ·exact keep b o (neL b o e) hb (neC b o e hx) (I.base.keep b o e n hb hx) (I.base.free b o e n hx)
 ·obtain⟨sl,e1⟩:=I.base.slot b o e n hb hx;obtain⟨sl',e2⟩:=slot b _ (neL b o e) hb (neC b o e hx) e1 (I.base.free b o e n hx);exact⟨sl',e2⟩
 ·obtain⟨o',e1⟩:=I.base.there b o e hx;exact free b o' (neC b o e hx) e1 (I.base.free b o e n hx)
 ·obtain⟨o',e1⟩:=I.base.there b o e hx;exact there b o' (neC b o e hx) e1
 ·obtain⟨m1,e1⟩:=I.base.tbls b ps e;obtain⟨m2,e2⟩:=tbls b _ e1;exact⟨m1++m2,by rw[e2,Array.append_assoc]⟩
 ·obtain⟨m,hn,hl⟩:=I.loc;refine⟨m,ns m hn,λi x v e1 e2 e3=>?_⟩
  obtain⟨u,r,l⟩:=hl i x v e1 e2 e3;refine⟨u,r,?_⟩;rcases l with l | ⟨k,c,e,z⟩
  ·exact .inl l
  ·exact .inr ⟨k,c,e,cellK x c e _ z⟩
 ·obtain⟨v,z⟩:=I.cell x c e;exact⟨v,cellK x c e v z⟩
 ·obtain⟨m,⟨o,_,_,ho,_⟩,_⟩:=I.loc;exact free _ o (λz=>(hch _ z).2.1 rfl) ho I.free
 ·obtain⟨v,o,ho,hd⟩:=I.cell x c e;exact free c o (λz=>(hch c z).2.2.1 x c e rfl) ho (I.freeC x c e)
 ·obtain⟨e,n,ne,nf,d⟩:=I.pin p hp;have nch:p.1∉ch:=λz=>(hch p.1 z).2.2.2 p hp rfl
  exact⟨keep p.1 p.2 ne nf nch e n,free p.1 p.2 nch e n,ne,nf,d⟩
def Inv.un{t':Nat}(I:Inv X YB σ H s)(u:Un X.fs [] H H' s.heap h')(hok:HOk X.prog X.w H' h'):Inv X YB σ H' { s with heap:=h',toks:=t' }:=by
 obtain⟨m,⟨o,es,ep,ho,r⟩,_⟩:=id I.loc;obtain⟨sl,hL⟩:=u.any ho I.free (by simp)
 exact I.step (g':=s.gens) (d':=s.drawn) (ch:=[]) (λy z=>nomatch z) (λb o y hb y e n=>u.keep b o e n hb (by simp)) (λb o y hb y e n=>u.slot b o e n hb (by simp)) (λb o y e n=>u.free b o e n (by simp)) (λb o y e=>u.there b o e (by simp)) u.tups u.frzs u.tbls (λm' hm=>by obtain⟨o',es',ep',ho',r'⟩:=hm;rw[ho]at ho';cases ho';exact⟨_,es',ep',hL,r'⟩) hok I.bare
def Inv.call{g':Array GenState}{t':Nat}{ch:List Addr}(I:Inv X YB σ H s)(u:Un (frs X.stack) ch H H' s.heap h')(hok:HOk X.prog X.w H' h')(hg:AllBare g')
  (hch:∀b∈ch,(b∈X.ex\/X.s₀.heap.objs.size<=b)/\b≠X.env.locals/\(∀x c,X.env.cells.lookup x=some c->c≠b)/\∀p∈X.pn++YB,p.1≠b) :
  Inv X YB σ H' { s with heap:=h',gens:=g',drawn:=d',toks:=t' }:=by
 obtain⟨m,⟨o,es,ep,ho,r⟩,_⟩:=id I.loc;obtain⟨sl,hL⟩:=u.any ho I.free λz=>(hch _ z).2.1 rfl
 exact I.step (ch:=ch) hch (λb o hL hb hc e n=>u.keep b o e n (λz=>(Tt.mp (I.stkSub b z)).elim hL hb) hc) (λb o y y hc e n=>u.any e n hc) (λb o hc e n=>u.free b o e n hc) (λb o hc e=>u.there b o e hc) u.tups u.frzs u.tbls (λm' hm=>by obtain⟨o',es',ep',ho',r'⟩:=hm;rw[ho]at ho';cases ho';exact⟨_,es',ep',hL,r'⟩) hok hg
def Inv.turned{t':Nat}(I:Inv X YB σ H s)(k:∀b o,b≠it->s.heap.get? b=some o->h'.get? b=some o)(hn:H it=none)(hL:it≠X.env.locals)
  (h1:it∈X.ex\/X.s₀.heap.objs.size<=it) (h2:∀x c,X.env.cells.lookup x=some c->c≠it) (h3:∀p∈X.pn++YB,p.1≠it):Inv X YB σ H { s with heap:=h',toks:=t' }:=by
 have nit:∀b u,H b=some u->b≠it:=λb u e z=>by rw[z,hn]at e;cases e
 refine I.step (g':=s.gens) (d':=s.drawn) (ch:=[it]) (λb hb=>?_) (λb o y y hc e y=>k b o (λz=>hc (by simp[z])) e) (λb o y y hc e y=>⟨o.slots,k b o (λz=>hc (by simp[z])) e⟩) (λy y y y n=>n)
  (λb o hc e=>⟨o,k b o (λz=>hc (by simp[z])) e⟩) (λy y e=>e) (λy y y e=>e) (λb ps e=>⟨#[],by rw[e];simp⟩) (λm hm=>?_) (λb u e=>?_) I.bare
 ·have e:b=it:=by simpa using hb
  subst e;exact⟨h1,hL,h2,h3⟩
 ·obtain⟨o,es,ep,ho,r⟩:=hm;exact⟨o,es,ep,k _ o (Ne.symm hL) ho,r⟩
 ·refine (I.hok b u e).stay (λc v hc q=>k c v ?_ q) (λy q=>q) λy y q=>q
  rcases hc with z | z
  ·rw[z];exact nit b u e
  ·exact nit c _ z
def Inv.tok(I:Inv X YB σ H s)(t:Nat):Inv X YB σ H { s with toks:=t }:=I.un (h':=s.heap) (t':=t) Un.refl I.hok
theorem Inv.kept(I:Inv X YB σ H s)(k:∀b u,s.heap.get? b=some u->h'.get? b=some u):Inv X YB σ H { s with heap:=h',toks:=t' }:=I.un (Un.kept k) (I.hok.kept k)
theorem Inv.laid(I:Inv X YB σ H s)(k:∀b u,s.heap.get? b=some u->h'.get? b=some u)(hp:s.heap.objs.size<=a)(new:ObjOk X.prog X.w (upd H a o) h' a o):
  Inv X YB σ (upd H a o) { s with heap:=h',toks:=t' }:=I.un (Un.laid k hp (I.hok.fresh hp)) (I.hok.laid k hp new)
theorem Inv.write(I:Inv X YB σ H s)(mu:Mut (H x))(he:e=x\/H e=some (.own x))(k:∀b u,b≠e->s.heap.get? b=some u->h'.get? b=some u)(heo:∃u,h'.get? e=some u)
  (new:ObjOk X.prog X.w (upd H x o) h' x o):Inv X YB σ (upd H x o) { s with heap:=h',toks:=t' }:=I.un (Un.write mu he k heo) (I.hok.write mu he k heo new)
def Inv.pins_of(I:Inv X YB σ H s)(h:∀p∈pins',s.heap.get? p.1=some p.2/\H p.1=none/\p.1≠X.env.locals/\p.1∉X.fs/\∀v,p.2.data≠.cell v):Inv X pins' σ H s:=
 ⟨I.ok,I.os,I.bare,I.base,I.loc,I.cell,I.free,I.freeC,λp hp=>(TV.mp hp).elim (λz=>I.pin p (Vr _ z)) (h p),I.hok,I.len⟩
def nodup_ix{N:List Str}(hN:N.Nodup){i j:Nat}(a:N[i]?=some x)(b:N[j]?=some x):i=j:=by obtain⟨h1,e1⟩:=S7.mp a;obtain⟨h2,e2⟩:=S7.mp b;exact (List.getElem_inj hN).mp (e1.trans e2.symm)
def store_ok2{E:Value->Shared->Prop}{i:Nat}{Q:Unit->Shared->Prop}(I:Inv X YB σ H s)(hN:X.N.Nodup)(hi:X.N[i]?=some x)(hx:Loc X.env.scope x)(r:RelV v u)
  (h:∀s',Inv X YB (σ.set i (some v)) H s'->(∃a,Heap.SameBut a s.heap s'.heap/\(a=X.env.locals\/X.env.cells.lookup x=some a))->Q () s') (hf:X.fn x=true\/X.env.scope.names.lookup x=some .local:=by first | exact .inl rfl | exact .inr rfl | assumption):wpAny M A (storeName X.env x u) Q E s:=by
 obtain⟨m,hn,hl⟩:=id I.loc;have hcls:(X.env.scope.kind==.class || (X.env.scope.kind==.module&&X.env.locals != X.env.globals))=false:=by rw[I.ok.kind];rfl
 have hiσ:i<σ.length:=by rw[I.len];exact (S7.mp hi).1
 have cne:=I.cne;have tracked:∀{a:Addr}{h':Heap},(∃o,s.heap.get? a=some o/\H a=none)->Heap.SameBut a s.heap h'->HOk X.prog X.w H h':=λ{a h'} ha hs b ob e=>by
  obtain⟨_,_,hfree⟩:=ha;refine (I.hok b ob e).stay (λc w' hc q=>(hs.2 c ?_).trans q) (λt q=>q) λt t q=>q
  rintro rfl;rcases hc with rfl | hc
  ·rw[hfree]at e;cases e
  ·rw[hfree]at hc;cases hc
 rcases hx with hk | hk
 ·refine wpAny_storeName_local hk hn (λh' hn' hs=>?_) hcls
  obtain⟨oL,_,_,hoL,_⟩:=id hn;refine h _ ⟨I.ok,I.os,I.bare,⟨λb o e n hb hx=>?_,λb o e n hb hx=>?_,I.base.free,λb o e hx=>?_,I.base.tups,I.base.frzs,I.base.tbls⟩,⟨_,hn',λj y v' e1 e2 e3=>?_⟩,λy c e=>?_,I.free,I.freeC,λp hp=>?_,tracked ⟨oL,hoL,I.free⟩ hs,by simpa using I.len⟩ ⟨_,hs,.inl rfl⟩
  ·exact (hs.2 b (Tj (Tr (Te e) I.ok.above))).trans (I.base.keep b o e n hb hx)
  ·obtain⟨sl,e1⟩:=I.base.slot b o e n hb hx;exact⟨sl,(hs.2 b (Tj (Tr (Te e) I.ok.above))).trans e1⟩
  ·obtain⟨o',e1⟩:=I.base.there b o e hx;exact⟨o',(hs.2 b (Tj (Tr (Te e) I.ok.above))).trans e1⟩
  ·by_cases hj:j=i
   ·subst hj;rw[hi]at e1;cases e1;rw[Uy hiσ]at e2;cases e2;exact⟨u,r,.inl ⟨hk,by simp⟩⟩
   ·rw[U5 (Ne.symm hj)]at e2;obtain⟨u',r',q⟩:=hl j y v' e1 e2 e3;refine⟨u',r',?_⟩;rcases q with ⟨k,e⟩ | ⟨k,c,e,z⟩
    ·refine .inl ⟨k,?_⟩;have:y≠x:=λe=>hj (nodup_ix hN e1 (e ▸ hi))
     simp[this,e]
    ·exact .inr ⟨k,c,e,z.sameBut hs (cne y c e)⟩
  ·obtain⟨w',z⟩:=I.cell y c e;exact⟨w',z.sameBut hs (cne y c e)⟩
  ·obtain⟨e,n,ne,nf,d⟩:=I.pin p hp;exact⟨(hs.2 p.1 ne).trans e,n,ne,nf,d⟩
 ·have hfn:X.fn x=true:=by
   rcases hf with z | z
   ·exact z
   ·rw[z]at hk;cases hk
  obtain⟨c,hc⟩:=I.ok.has x (.inl hk);obtain⟨w',z⟩:=I.cell x c hc;refine wpAny_storeName_cell I.ok.kind hk hc z (λh' hc' hs=>?_)
  obtain⟨oc,hoc,hocd⟩:=id z;refine h { s with heap:=h' } ⟨I.ok,I.os,I.bare,⟨λb o e n hb hx=>?_,λb o e n hb hx=>?_,I.base.free,λb o e hx=>?_,I.base.tups,I.base.frzs,I.base.tbls⟩,⟨m,hn.sameBut hs (Ne.symm (cne x c hc)),λj y v' e1 e2 e3=>?_⟩,λy c' e=>?_,I.free,I.freeC,λp hp=>?_,tracked ⟨oc,hoc,I.freeC x c hc⟩ hs,by simpa using I.len⟩ ⟨c,hs,.inr hc⟩
  ·exact (hs.2 b (Tj (Tr (Te e) (I.ok.cab x c hfn hc)))).trans (I.base.keep b o e n hb hx)
  ·obtain⟨sl,e1⟩:=I.base.slot b o e n hb hx;exact⟨sl,(hs.2 b (Tj (Tr (Te e) (I.ok.cab x c hfn hc)))).trans e1⟩
  ·obtain⟨o',e1⟩:=I.base.there b o e hx;exact⟨o',(hs.2 b (Tj (Tr (Te e) (I.ok.cab x c hfn hc)))).trans e1⟩
  ·by_cases hj:j=i
   ·subst hj;rw[hi]at e1;cases e1;rw[Uy hiσ]at e2;cases e2;exact⟨u,r,.inr ⟨.inl hk,c,hc,hc'⟩⟩
   ·rw[U5 (Ne.symm hj)]at e2;obtain⟨u',r',q⟩:=hl j y v' e1 e2 e3;refine⟨u',r',?_⟩;rcases q with q | ⟨k,c',e,z'⟩
    ·exact .inl q
    ·refine .inr ⟨k,c',e,z'.sameBut hs ?_⟩;rintro rfl;exact hj (nodup_ix hN e1 (I.ok.inj _ _ _ e hc ▸ hi))
  ·by_cases hcc:c'=c
   ·subst hcc;exact⟨_,hc'⟩
   ·obtain⟨w2,z2⟩:=I.cell y c' e;exact⟨w2,z2.sameBut hs hcc⟩
  ·obtain⟨e,n,ne,nf,d⟩:=I.pin p hp;refine⟨(hs.2 p.1 ?_).trans e,n,ne,nf,d⟩;intro q;rw[q,hoc]at e;have q':oc=p.2:=Tu e;exact d w' (by rw[<-q'];exact hocd)
def store_ok(I:Inv X YB σ H s)(hN:X.N.Nodup)(hi:X.N[i]?=some x)(hx:Loc X.env.scope x)(r:RelV v u)
  (h:∀s',Inv X YB (σ.set i (some v)) H s'->Q () s') (hf:X.fn x=true\/X.env.scope.names.lookup x=some .local:=by first | exact .inl rfl | exact .inr rfl | assumption):wpAny M A (storeName X.env x u) Q E s:=
 store_ok2 I hN hi hx r (λs' I' z=>h s' I') hf
def Inv.call'(I:Inv X YB σ H s)(ho:s'.os=s.os)(u:Un (frs X.stack) ch H H' s.heap s'.heap)(hok:HOk X.prog X.w H' s'.heap)(hg:AllBare s'.gens)
  (hch:∀b∈ch,(b∈X.ex\/X.s₀.heap.objs.size<=b)/\b≠X.env.locals/\(∀x c,X.env.cells.lookup x=some c->c≠b)/\∀p∈X.pn++YB,p.1≠b):Inv X YB σ H' s':=by
 obtain⟨h',g',d',t',o'⟩:=s';have e:o'=s.os:=ho;subst e;exact I.call (g':=g') (t':=t') (d':=d') u hok hg hch
end
abbrev XK:=Value->Option Addr->Hp->Prop
abbrev St:=List (Option V)
abbrev VK:=V->Hp->Prop
abbrev TE:=St->Hp->VK->Prop
abbrev TT:=St->Hp->(Bool->Hp->Prop)->Prop
abbrev TA:=St->Hp->(List V->Hp->Prop)->Prop
structure Ends where
 nx:St->Hp->Prop
 rt:VK
 bk:St->Hp->Prop:=λ_ _=>False
 ct:St->Hp->Prop:=λ_ _=>False
abbrev TS:=Ends->St->Hp->Prop
def EP(X:Cx)(YB:List (Addr×Obj))(σ:St)(Q:VK)(u:Value)(s':Shared):Prop:=∃v H',Inv X YB σ H' s'/\RelV v u/\Q v H'
def TP(X:Cx)(YB:List (Addr×Obj))(σ:St)(Q:Bool->Hp->Prop)(b:Bool)(s':Shared):Prop:=∃H',Inv X YB σ H' s'/\Q b H'
def AP(X:Cx)(YB:List (Addr×Obj))(σ:St)(Q:List V->Hp->Prop)(us:List Value)(s':Shared):Prop:=∃vs H',Inv X YB σ H' s'/\Vals vs us/\Q vs H'
def SP(X:Cx)(YB:List (Addr×Obj))(D:Ends)(f:Flow)(s':Shared):Prop:=
 match f with
 |.next=>∃σ' H',Inv X YB σ' H' s'/\D.nx σ' H'
 |.brk=>∃σ' H',Inv X YB σ' H' s'/\D.bk σ' H'
 |.cont=>∃σ' H',Inv X YB σ' H' s'/\D.ct σ' H'
 |.ret u=>∃v σ' H',Inv X YB σ' H' s'/\RelV v u/\D.rt v H'
def PE(X:Cx)(e:Expr)(t:TE):Prop:=
 ∀(YB:List (Addr×Obj)) (s:Shared) (σ:St) (H:Hp) (Q:VK),Inv X YB σ H s->t σ H Q->wpAny (model X.prog X.w) X.A (eval e X.env) (EP X YB σ Q) X.xe s
def PT(X:Cx)(e:Expr)(t:TT):Prop:=
 ∀(YB:List (Addr×Obj)) (s:Shared) (σ:St) (H:Hp) (Q:Bool->Hp->Prop),Inv X YB σ H s->t σ H Q->wpAny (model X.prog X.w) X.A (isTrue e X.env (eval e X.env)) (TP X YB σ Q) X.xe s
def PW(X:Cx)(e:Expr)(t:TT):Prop:=
 ∀(whole:Sem Value) (YB:List (Addr×Obj)) (s:Shared) (σ:St) (H:Hp) (Q:Bool->Hp->Prop),Inv X YB σ H s->t σ H Q->wpAny (model X.prog X.w) X.A (isTrue e X.env whole) (TP X YB σ Q) X.xe s
def PW.pt(h:PW X e t):PT X e t:=h _
def PA(X:Cx)(es:List Expr)(t:TA):Prop:=
 ∀(pos:Pos) (YB:List (Addr×Obj)) (s:Shared) (σ:St) (H:Hp) (Q:List V->Hp->Prop),Inv X YB σ H s->t σ H Q->wpAny (model X.prog X.w) X.A (spliced (backTo pos (starEach es X.env))) (AP X YB σ Q) X.xe s
def PS(X:Cx)(st:Stmt)(t:TS):Prop:=
 ∀(YB:List (Addr×Obj)) (s:Shared) (σ:St) (H:Hp) (D:Ends),Inv X YB σ H s->t D σ H->wpAny (model X.prog X.w) X.A (exec st X.env) (SP X YB D) X.xe s
def PSs(X:Cx)(st:List Stmt)(t:TS):Prop:=
 ∀(YB:List (Addr×Obj)) (s:Shared) (σ:St) (H:Hp) (D:Ends),Inv X YB σ H s->t D σ H->wpAny (model X.prog X.w) X.A (execs st X.env) (SP X YB D) X.xe s
def thn(h:wpAny M A t Q E s)(hQ:∀a s,Q a s->Q' a s):wpAny M A t Q' E s:=Tz h hQ λz z x=>x
open PySem PySem.Spec PyProof.Rows
section
variable{X:Cx}
def bin(ha:PE X a ta)(hb:PE X b tb){YB:List (Addr×Obj)}{R:V->V->Hp->Prop}(I:Inv X YB σ H s)(h:ta σ H λx H1=>tb σ H1 λy H2=>R x y H2)
  {α:Type}{Q:α->Shared->Prop}{f:Value->Value->Sem α}
  (hf:∀v u s2 x y H2,Inv X YB σ H2 s2->RelV x v->RelV y u->R x y H2->wpAny (model X.prog X.w) X.A (f v u) Q X.xe s2) :
  wpAny (model X.prog X.w) X.A (eval a X.env) (λv s₁=>wpAny (model X.prog X.w) X.A (eval b X.env) (λu s₂=>wpAny (model X.prog X.w) X.A (f v u) Q X.xe s₂) X.xe s₁) X.xe s:=by
 refine thn (ha YB s σ H _ I h) λv s1 ⟨x,H1,I1,r1,q1⟩=>?_
 refine thn (hb YB s1 σ H1 _ I1 q1) λu s2 ⟨y,H2,I2,r2,q2⟩=>?_
 exact hf v u s2 x y H2 I2 r1 r2 q2
def tVar(i:Nat):TE:=λσ H Q=>∃v,σ[i]?=some (some v)/\Q v H
def tC(v:V):TE:=λz H Q=>Q v H
def pe_var(hN:X.N[i]?=some x)(hv:Vis X.env.scope x)(hd:(x==("__debug__":Str))=false:=by decide)(hcd:(x==("__classdict__":Str))=false:=by decide):PE X (.Name x pos) (tVar i):=by
 intro YB s σ H Q I h;obtain⟨v,e,h⟩:=h;obtain⟨m,hn,hl⟩:=I.loc;obtain⟨u,r,l⟩:=hl i x v hN e hv;have fin:EP X YB σ Q u s:=⟨v,H,I,r,h⟩;rcases l with ⟨hk,hm⟩ | ⟨hk,c,hc,hcell⟩
 ·exact wpAny_Name (wpAny_loadName_local I.ok.kind hk hn hm fin) hd
 ·rcases hk with hk | hk
  ·exact wpAny_Name (wpAny_loadName_cell I.ok.kind hk hc hcell fin) hd
  ·exact wpAny_Name (wpAny_loadName_free I.ok.kind hk hc hcell fin hcd) hd
def pe_int{i j pos}:PE X (.Constant (.int i) j pos) (tC (.int i)):=λz z z H z I h=>wpAny_Constant_int ⟨.int i,H,I.tok _,⟨_,rfl⟩,h⟩
def pe_bl{b j pos}:PE X (.Constant (.bool b) j pos) (tC (.bl b)):=λz z z H z I h=>Constant_bool ⟨.bl b,H,I,rfl,h⟩
def pe_non{j pos}:PE X (.Constant .none j pos) (tC .non):=λz z z H z I h=>Constant_none ⟨.non,H,I,rfl,h⟩
def pe_str{x j pos}:PE X (.Constant (.str x) j pos) (tC (.str x)):=λz z z H z I h=>Calls.Constant_str ⟨.str x,H,I.tok _,⟨_,rfl⟩,h⟩
def Gl(X:Cx)(x:Str):Prop:=X.env.kindOf x=some .globalImplicit
def ld_glob(I:Inv X YB σ H s)(hg:Gl X x)(hm:X.mg x=some u)(h:Q u s)
  (hd:(x==("__debug__":Str))=false:=by decide):wpAny (model X.prog X.w) X.A (eval (.Name x pos) X.env) Q E s:=
 Calls.Name_function_global I.ok.kind hg (Calls.loadGlobal_global (by rw[I.ok.glob];exact I.mod.glob.keeps I.bk) hm h) hd
def ld_blt(I:Inv X YB σ H s)(hg:Gl X x)(hm:X.mg x=none)(hv:bootBuiltins x=some u)(h:Q u s)
  (hn:x≠"__name__":=by decide) (hd:(x==("__debug__":Str))=false:=by decide):wpAny (model X.prog X.w) X.A (eval (.Name x pos) X.env) Q E s:=by
 obtain⟨mb,h1,h2⟩:=I.mod.blt;exact Calls.Name_function_global I.ok.kind hg (Calls.loadGlobal_builtin (by rw[I.ok.glob];exact I.mod.glob.keeps I.bk) hm (by rw[I.ok.blt];exact h1.keeps I.bk) ((h2 x hn).trans hv) h) hd
def pe_glob(hg:Gl X x)(hm:X.mg x=some u)(r:RelV v u)(hd:(x==("__debug__":Str))=false:=by decide):PE X (.Name x pos) (tC v):=
 λz z z H z I h=>ld_glob I hg hm ⟨v,H,I,r,h⟩ hd
def pe_bltn(hg:Gl X x)(hm:X.mg x=none)(hv:bootBuiltins x=some u)(r:RelV v u)(hn:x≠"__name__":=by decide)(hd:(x==("__debug__":Str))=false:=by decide):PE X (.Name x pos) (tC v):=
 λz z z H z I h=>ld_blt I hg hm hv ⟨v,H,I,r,h⟩ hn hd
variable{a b:Expr}{ta tb:TE}{pos:Pos}
variable{tA tB':TT}{rest:List Expr}
def tAnd(t u:TT):TT:=λσ H Q=>t σ H λc H1=>if c=true then u σ H1 Q else Q false H1
def tOr(t u:TT):TT:=λσ H Q=>t σ H λc H1=>if c=true then Q true H1 else u σ H1 Q
def tNot(t:TT):TT:=λσ H Q=>t σ H λc H1=>Q (!c) H1
def pw_and1(ha:PT X a tA):PW X (.BoolOp .And [a] pos) tA:=by
 intro wh YB s σ H Q I h;refine isTrue_and (thn (ha YB s σ H Q I h) λc s1 e=>?_)
 cases c with
 |true=>exact isTrue_and_nil e
 |false=>exact e
def pw_or1(ha:PT X a tA):PW X (.BoolOp .Or [a] pos) tA:=by
 intro wh YB s σ H Q I h;refine isTrue_or (thn (ha YB s σ H Q I h) λc s1 e=>?_)
 cases c with
 |false=>exact isTrue_or_nil e
 |true=>exact e
def pw_and(ha:PT X a tA)(hb:PW X (.BoolOp .And (b::rest) pos) tB'):PW X (.BoolOp .And (a::b::rest) pos) (tAnd tA tB'):=by
 intro wh YB s σ H Q I h;refine isTrue_and (thn (ha YB s σ H _ I h) λc s1 ⟨H1,I1,q1⟩=>?_)
 cases c with
 |true=>exact hb wh YB s1 σ H1 Q I1 q1
 |false=>exact⟨H1,I1,q1⟩
def pw_or(ha:PT X a tA)(hb:PW X (.BoolOp .Or (b::rest) pos) tB'):PW X (.BoolOp .Or (a::b::rest) pos) (tOr tA tB'):=by
 intro wh YB s σ H Q I h;refine isTrue_or (thn (ha YB s σ H _ I h) λc s1 ⟨H1,I1,q1⟩=>?_)
 cases c with
 |true=>exact⟨H1,I1,q1⟩
 |false=>exact hb wh YB s1 σ H1 Q I1 q1
def pt_not(ha:PT X a tA):PT X (.UnaryOp .Not a pos) (tNot tA):=by intro YB s σ H Q I h;exact isTrue_not (ha YB s σ H (λc H1=>Q (!c) H1) I h)
def tAndV(ta tb:TE):TE:=λσ H Q=>ta σ H λx H1=>∃c,x=.bl c/\if c=true then tb σ H1 Q else Q (.bl false) H1
def tNotV(ta:TE):TE:=λσ H Q=>ta σ H λx H1=>∃c,x=.bl c/\Q (.bl (!c)) H1
def pe_one{op}(h:PE X a t):PE X (.BoolOp op [a] pos) t:=λYB s σ H Q I hw=>BoolOp_one (h YB s σ H Q I hw)
def pe_and(ha:PE X a ta)(hb:PE X (.BoolOp .And (b::rest) pos) tb):PE X (.BoolOp .And (a::b::rest) pos) (tAndV ta tb):=by
 intro YB s σ H Q I h;refine BoolOp_and (thn (ha YB s σ H _ I h) λv s1 ⟨x,H1,I1,r1,q1⟩=>?_)
 obtain⟨c,rfl,q1⟩:=q1;cases r1;refine Vw ?_;cases c with
 |true=>exact hb YB s1 σ H1 Q I1 q1
 |false=>exact⟨.bl false,H1,I1,rfl,q1⟩
def pe_not(ha:PE X a ta):PE X (.UnaryOp .Not a pos) (tNotV ta):=by
 intro YB s σ H Q I h;refine UnaryOp_ (thn (ha YB s σ H _ I h) λv s1 ⟨x,H1,I1,r1,q1⟩=>?_)
 obtain⟨c,rfl,q1⟩:=q1;cases r1;exact not_of (Vw ⟨.bl (!c),H1,I1,rfl,q1⟩)
end
open PySem PySem.Spec PyProof.Rows
def SqL(K:PySem.W.Frag)(H:Hp)(a:Addr)(xs:List V):Prop:=
 Rd H a (.lst xs) \/
  ∃(o:Obj) (its:Array Value) (n:Nat),K.lookup a=some o/\o.cls=.type "list"/\o.dict=none/\o.data=.seq its n/\its.size<=sizeLine/\Vals xs its.toList
def SqT(K:PySem.W.Frag)(H:Hp)(a:Addr)(xs:List V):Prop:=
 Rd H a (.tup xs) \/
  ∃(o:Obj) (its:Array Value) (n:Nat),K.lookup a=some o/\o.cls=.type "tuple"/\o.data=.seq its n/\its.size<=sizeLine/\Vals xs its.toList
def absV:Value->Option V
 |.none=>some .non
 |.bool b=>some (.bl b)
 |.int i _=>some (.int i)
 |.str x _=>some (.str x)
 |.bytes b _=>some (.byt b)
 |.float b _=>some (.flt b)
 |.ref a=>some (.ref a)
 |.type n=>some (.ty n)
 |_=>none
def RelV.abs(r:RelV x u):absV u=some x:=by
 cases x with
 |non=>cases r;rfl
 |bl _=>cases r;rfl
 |int _=>obtain⟨t,rfl⟩:=r;rfl
 |str _=>obtain⟨t,rfl⟩:=r;rfl
 |byt _=>obtain⟨t,rfl⟩:=r;rfl
 |flt _=>obtain⟨t,rfl⟩:=r;rfl
 |ref _=>cases r;rfl
 |ty _=>cases r;rfl
def RelV.inj(r:RelV x u)(q:RelV y u):x=y:=Tu (r.abs.symm.trans q.abs)
theorem Vals.inj:∀{xs ys:List V}{us:List Value},Vals xs us->Vals ys us->xs=ys
 |_,_,_,.nil,.nil=>rfl
 |_,_,_,.cons r t,.cons r' t'=>by rw[r.inj r',Vals.inj t t']
section
variable{X:Cx}{YB:List (Addr×Obj)}{σ:St}{H:Hp}{s:Shared}{a:Addr}{xs ys:List V}
def SqL.of{K:PySem.W.Frag}(h:H a=some (.lst xs)):SqL K H a xs:=.inl (.inl h)
def SqT.of{K:PySem.W.Frag}(h:H a=some (.tup xs)):SqT K H a xs:=.inl (.inl h)
def Inv.list(I:Inv X YB σ H s)(h:SqL X.K H a xs):∃its:List Value,Vals xs its/\PlainL s.heap a its.toArray/\xs.length<=sizeLine:=by
 rcases h with h | ⟨o,its,n,hk,hc,hd,hs,hz,r⟩
 ·obtain⟨z,its,n,r,e⟩:=h.ok I.hok;exact⟨its,r,⟨_,n,e,rfl,rfl,rfl⟩,z⟩
 ·refine⟨its.toList,r,⟨o,n,I.kIn a o hk,hc,hd,by simpa using hs⟩,?_⟩
  have e:=r.length;simp only[Array.length_toList]at e;omega
def Inv.tuple(I:Inv X YB σ H s)(h:SqT X.K H a xs):∃its:List Value,Vals xs its/\IsTup s.heap a its.toArray/\xs.length<=sizeLine:=by
 rcases h with h | ⟨o,its,n,hk,hc,hs,hz,r⟩
 ·obtain⟨z,its,r,p⟩:=h.ok I.hok;exact⟨its,r,p,z⟩
 ·refine⟨its.toList,r,⟨o,I.kIn a o hk,hc,n,by simpa using hs⟩,?_⟩
  have e:=r.length;simp only[Array.length_toList]at e;omega
def Inv.list_inj(I:Inv X YB σ H s)(h:SqL X.K H a xs)(h':SqL X.K H a ys):xs=ys:=by
 obtain⟨its,r,⟨o,n,e,_,_,d⟩,_⟩:=I.list h;obtain⟨its',r',⟨o',n',e',_,_,d'⟩,_⟩:=I.list h';rw[e]at e';cases e';rw[d]at d';injection d' with d1 _
 have:its=its':=by simpa using congrArg Array.toList d1
 subst this;exact r.inj r'
def Inv.tuple_inj(I:Inv X YB σ H s)(h:SqT X.K H a xs)(h':SqT X.K H a ys):xs=ys:=by
 obtain⟨its,r,⟨o,e,_,n,d⟩,_⟩:=I.tuple h;obtain⟨its',r',⟨o',e',_,n',d'⟩,_⟩:=I.tuple h';rw[e]at e';cases e';rw[d]at d';injection d' with d1 _
 have:its=its':=by simpa using congrArg Array.toList d1
 subst this;exact r.inj r'
end
section
variable{X:Cx}{st:Stmt}{rest:List Stmt}{t u:TS}{e:Expr}{te:TE}{pos:Pos}
def tNext:TS:=λD σ H=>D.nx σ H
def tSeq(t u:TS):TS:=λD σ H=>t { D with nx:=u D } σ H
def pss_nil:PSs X [] tNext:=λ_ _ σ H _ I h=>Yo ⟨σ,H,I,h⟩
def pss_cons(h1:PS X st t)(h2:PSs X rest u):PSs X (st::rest) (tSeq t u):=by
 intro YB s σ H D I h;refine wpAny_execs_cons (thn (h1 YB s σ H { D with nx:=u D } I h) λf s1 q=>?_)
 cases f with
 |next=>obtain⟨σ',H',I',q⟩:=q;exact h2 YB s1 σ' H' D I' q
 |ret v=>exact q
 |brk=>exact q
 |cont=>exact q
def pss_one(h1:PS X st t):PSs X [st] t:=by
 intro YB s σ H D I h;refine wpAny_execs_cons (thn (h1 YB s σ H D I h) λf s1 q=>?_)
 cases f with
 |next=>exact Yo q
 |ret v=>exact q
 |brk=>exact q
 |cont=>exact q
def Inv.quiet(I:Inv X YB σ H s):interactive X.env=false:=by simp[interactive,I.ok.kind]
def tDrop(te:TE):TS:=λD σ H=>te σ H λz H1=>D.nx σ H1
def ps_expr(he:PE X e te)(hs:swapsWith e none pos.line X.env=pure false:=by rfl):PS X (.Expr e pos) (tDrop te):=by intro YB s σ H D I h;exact wpAny_Expr_any (thn (he YB s σ H _ I h) λv s1 ⟨x,H1,I1,r1,q1⟩=>⟨σ,H1,I1,q1⟩) I.quiet hs
def tRet(te:TE):TS:=λD σ H=>te σ H D.rt
def ps_ret(he:PE X e te):PS X (.Return (some e) pos) (tRet te):=by intro YB s σ H D I h;exact wpAny_Return_some (thn (he YB s σ H _ I h) λv s1 ⟨x,H1,I1,r1,q1⟩=>⟨x,σ,H1,I1,r1,q1⟩)
def tIfS(c:TT)(t u:TS):TS:=λD σ H=>c σ H λb H1=>if b=true then t D σ H1 else u D σ H1
def ps_if(hc:PT X c tc)(ha:PSs X a t)(hb:PSs X b u):PS X (.If c a b pos) (tIfS tc t u):=by
 intro YB s σ H D I h;refine wpAny_If (thn (hc YB s σ H _ I h) λd s1 ⟨H1,I1,q1⟩=>?_)
 cases d with
 |true=>exact ha YB s1 σ H1 D I1 q1
 |false=>exact hb YB s1 σ H1 D I1 q1
end
abbrev TG:=V->St->Hp->(St->Hp->Prop)->Prop
abbrev TGs:=List V->St->Hp->(St->Hp->Prop)->Prop
def PG(X:Cx)(target:Expr)(t:TG):Prop:=
 ∀(YB:List (Addr×Obj)) (s:Shared) (σ:St) (H:Hp) (v:V) (u:Value) (Q:St->Hp->Prop),Inv X YB σ H s->RelV v u->t v σ H Q->
   wpAny (model X.prog X.w) X.A (assign target X.env u) (λz s'=>∃σ' H',Inv X YB σ' H' s'/\Q σ' H') X.xe s
def PGs(X:Cx)(ts:List Expr)(t:TGs):Prop:=
 ∀(YB:List (Addr×Obj)) (s:Shared) (σ:St) (H:Hp) (vs:List V) (us:List Value) (Q:St->Hp->Prop),Inv X YB σ H s->Vals vs us->t vs σ H Q->
   wpAny (model X.prog X.w) X.A (assignInOrder ((assignEach ts X.env).map (·.2)) us) (λz s'=>∃σ' H',Inv X YB σ' H' s'/\Q σ' H') X.xe s
abbrev TSet:=V->V->V->Hp->(Hp->Prop)->Prop
def PSet(X:Cx)(t:TSet):Prop:=
 ∀(YB:List (Addr×Obj)) (s:Shared) (σ:St) (H:Hp) (o i v:V) (ov iv u:Value) (Q:Hp->Prop),Inv X YB σ H s->RelV o ov->RelV i iv->RelV v u->t o i v H Q->
   wpAny (model X.prog X.w) X.A (setItem ov iv u) (λz s'=>∃H',Inv X YB σ H' s'/\Q H') X.xe s
abbrev TIp:=V->V->Hp->VK->Prop
def PIp(X:Cx)(op:Operator)(t:TIp):Prop:=
 ∀(YB:List (Addr×Obj)) (s:Shared) (σ:St) (H:Hp) (x y:V) (v u:Value) (Q:VK),Inv X YB σ H s->RelV x v->RelV y u->t x y H Q->
   wpAny (model X.prog X.w) X.A (inplaceOp op v u) (EP X YB σ Q) X.xe s
section
variable{X:Cx}{pos:Pos}
def gName(i:Nat):TG:=λv σ H Q=>Q (σ.set i (some v)) H
def pg_name(hN:X.N.Nodup)(hi:X.N[i]?=some x)(hx:Loc X.env.scope x)(hf:X.fn x=true\/X.env.scope.names.lookup x=some .local:=by first | exact .inl rfl | exact .inr rfl | assumption):PG X (.Name x pos) (gName i):=by intro YB s σ H v u Q I r h;exact wpAny_assign_Name (store_ok I hN hi hx r (λs' I'=>⟨_,H,I',h⟩) hf)
def gNil:TGs:=λvs σ H Q=>vs=[]/\Q σ H
def gCons(t:TG)(u:TGs):TGs:=λvs σ H Q=>∃v r,vs=v::r/\t v σ H λσ' H'=>u r σ' H' Q
def pgs_nil:PGs X [] gNil:=by intro YB s σ H vs us Q I r h;obtain⟨e,h⟩:=h;subst e;cases r;exact assignInOrder_nil ⟨σ,H,I,h⟩
def pgs_cons(h1:PG X e t)(h2:PGs X es u)
  (hs:(assignEach (e::es) X.env).map (·.2)=assign e X.env::(assignEach es X.env).map (·.2):=by rfl):PGs X (e::es) (gCons t u):=by
 intro YB s σ H vs us Q I r h;obtain⟨v,vr,e1,h⟩:=h;subst e1;cases r with
 |cons r rr=>
   rw[hs];refine V9 (thn (h1 YB s σ H _ _ _ I r h) λ_ s1 ⟨σ1,H1,I1,q1⟩=>?_)
   exact h2 YB s1 σ1 H1 _ _ Q I1 rr q1
def gTup(K:PySem.W.Frag)(n:Nat)(t:TGs):TG:=λv σ H Q=>∃a xs,v=.ref a/\SqT K H a xs/\xs.length=n/\t xs σ H Q
def pg_tup(hc:X.calm=true)(h:PGs X es t)
  (hn:(assignEach es X.env).length=n:=by rfl) (hst:(assignEach es X.env).findIdx? (·.1)=none:=by rfl):PG X (.Tuple es k pos) (gTup X.K n t):=by
 intro YB s σ H v u Q I r hw;obtain⟨a,xs,e1,hq,hl,hw⟩:=hw;subst e1;cases r;obtain⟨its,rv,ht,hz⟩:=I.tuple hq;refine assign_Tuple_tuple (I.ok.hd hc) ht (by simp[hn,<-hl,rv.length]) hst λh' hx=>?_
 have I1:Inv X YB σ H { s with heap:=h' }:=I.kept (t':=s.toks) λb o e=>hx b o (Tj (Te e)) e
 exact h YB _ σ H xs _ Q I1 (by simpa using rv) hw
def gSub(to ti:TE)(t:TSet):TG:=λv σ H Q=>to σ H λo H1=>ti σ H1 λi H2=>t o i v H2 λH3=>Q σ H3
def pg_sub(ho:PE X o to)(hi:PE X i ti)(hs:PSet X t)
  (ha:∀v,assign (.Subscript o i pos) X.env v=(do
    let ov <-holding [v] (eval o X.env)
    let iv <-holding [v,ov] (eval i X.env)
    standAt pos
    holding [v,ov,iv] (setItem ov iv v)
    release [v,ov,iv] []):=by intro _;rfl):PG X (.Subscript o i pos) (gSub to ti t):=by
 intro YB s σ H v u Q I r h;rw[ha];refine SX (Up (thn (ho YB s σ H _ I h) λov s1 ⟨x,H1,I1,r1,q1⟩=>?_))
 refine SX (Up (thn (hi YB s1 σ H1 _ I1 q1) λiv s2 ⟨y,H2,I2,r2,q2⟩=>?_))
 refine SX (VF (SX (Up (thn (hs YB s2 σ H2 x y v ov iv u _ I2 r1 r2 r q2) λ_ s3 ⟨H3,I3,q3⟩=>?_))))
 exact wpAny_release ⟨σ,H3,I3,q3⟩
def tAsg(te:TE)(g:TG):TS:=λD σ H=>te σ H λx H1=>g x σ H1 D.nx
def ps_asg(he:PE X e te)(hg:PG X tg g)(hs:swapsWithSole [tg] e pos.line X.env=pure false:=by rfl)(hw:swappedStores [tg] e X.env=pure none:=by rfl)
  (h1:(assignEach [tg] X.env).map (·.2)=[assign tg X.env]:=by rfl):PS X (.Assign [tg] e pos) (tAsg te g):=by
 intro YB s σ H D I h;refine wpAny_Assign_stores (thn (he YB s σ H _ I h) λv s1 ⟨x,H1,I1,r1,q1⟩=>?_) hs hw
 rw[h1];exact thn (hg YB s1 σ H1 x v _ I1 r1 q1) λz s2 q=>q
def ps_set(hN:X.N.Nodup)(hi:X.N[i]?=some x)(hx:Loc X.env.scope x)(he:PE X e te)(hs:swapsWith e (some (.Name x pos')) pos.line X.env=pure false:=by rfl)(hf:X.fn x=true\/X.env.scope.names.lookup x=some .local:=by first | exact .inl rfl | exact .inr rfl | assumption):
  PS X (.Assign [.Name x pos'] e pos) (tAsg te (gName i)):=by
 intro YB s σ H D I h;refine wpAny_Assign_Name (thn (he YB s σ H _ I h) λv s1 ⟨y,H1,I1,r1,q1⟩=>?_) hs
 exact store_ok I1 hN hi hx r1 (λs2 I2=>⟨_,H1,I2,q1⟩) hf
def tPar(i j:Nat)(ta:TA):TS:=λD σ H=>ta σ H λvs H1=>∃v w,vs=[v,w]/\D.nx ((σ.set i (some v)).set j (some w)) H1
def ps_par{kt k2 pt2}(hc:X.calm=true)(hN:X.N.Nodup)(hi:X.N[i]?=some x)(hj:X.N[j]?=some y)(hij:i≠j)
  (hx:X.env.scope.names.lookup x=some .local) (hy:X.env.scope.names.lookup y=some .local) (ha:PA X [a,b] ta)
  (hw:swappedStores [.Tuple [.Name x px,.Name y py] kt pt] (.Tuple [a,b] k2 pt2) X.env=pure (some [x,y]))
  (hs:swapsWithSole [.Tuple [.Name x px,.Name y py] kt pt] (.Tuple [a,b] k2 pt2) pos.line X.env=pure false:=by rfl) :
  PS X (.Assign [.Tuple [.Name x px,.Name y py] kt pt] (.Tuple [a,b] k2 pt2) pos) (tPar i j ta):=by
 intro YB s σ H D I h;rw[exec_Assign_arm];refine SX (VF ?_);rw[hs];refine SX (S6 ?_);rw[Ti (by decide)]
 refine SX (Tuple_ (thn (ha _ YB s σ H _ I h) λus s1 ⟨vs,H1,I1,r1,q1⟩=>?_))
 obtain⟨v,w,e1,q1⟩:=q1;subst e1;obtain ⟨u1,u2,rfl,rv,rw'⟩:∃ u1 u2,us=[u1,u2]/\RelV v u1/\RelV w u2:=by
  cases r1 with
  | cons p q=>
    cases q with
    |cons p' q'=>cases q';exact⟨_,_,rfl,p,p'⟩
 refine Uj ?_ (by show 2<=sizeLine;decide)
 have I2:Inv X YB σ H1 { s1 with heap:=s1.heap.push { cls:=.type "tuple",data:=.seq [u1,u2].toArray } }:=I1.kept (t':=s1.toks) λb o e=>S5 _ e
 rw[hw];refine SX (S6 ?_);show wpAny (model X.prog X.w) X.A (do rule "assign.swapped-stores";let items <-unpackItems (.ref s1.heap.objs.size) 2 none;assignInOrder [λv=>bindName X.env y v,λv=>bindName X.env x v] items.reverse;pure Flow.next) _ _ _
 refine SX (Vp (SX (unpackItems_tuple (items:=#[u1,u2]) (I.ok.hd hc) (Yw s1.heap _) λh' hx'=>?_)))
 have I3:=I2.kept (h':=h') (t':=s1.toks) λb o e=>hx' b o (Tj (Te e)) e
 show wpAny _ _ (assignInOrder [λv=>bindName X.env y v,λv=>bindName X.env x v] [u2,u1]>>=λz=>pure Flow.next) _ _ _
 refine SX (V9 (Xv (store_ok I3 hN hj (.inl hy) rw' (λs2 I4=>?_) (.inr hy))))
 refine V9 (Xv (store_ok I4 hN hi (.inl hx) rv (λs3 I5=>assignInOrder_nil (S6 ?_)) (.inr hx)))
 rw[List.set_comm _ _ (Ne.symm hij)]at I5;exact⟨_,H1,I5,q1⟩
def tAug(i:Nat)(te:TE)(ti:TIp):TS:=λD σ H=>∃x,σ[i]?=some (some x)/\te σ H λy H1=>ti x y H1 λz H2=>D.nx (σ.set i (some z)) H2
def ps_aug(hN:X.N.Nodup)(hi:X.N[i]?=some x)(hx:Loc X.env.scope x)(he:PE X e te)(ho:PIp X op ti)(hf:X.fn x=true\/X.env.scope.names.lookup x=some .local:=by first | exact .inl rfl | exact .inr rfl | assumption):
  PS X (.AugAssign (.Name x pos') op e pos) (tAug i te ti):=by
 intro YB s σ H D I h;obtain⟨v,e1,h⟩:=h;obtain⟨m,hn,hl⟩:=I.loc;have vis:Vis X.env.scope x:=by rcases hx with k | k;exact .inl k;exact .inr (.inl k)
 obtain⟨u,r,l⟩:=hl i x v hi e1 vis;refine wpAny_AugAssign_Name ?_;have go:wpAny (model X.prog X.w) X.A (eval e X.env) (λw s₂=>wpAny (model X.prog X.w) X.A (inplaceOp op u w) (λr s₃=>wpAny (model X.prog X.w) X.A (storeName X.env x r) (λt=>SP X YB D .next) X.xe s₃) X.xe s₂) X.xe s:=by
  refine thn (he YB s σ H _ I h) λw s1 ⟨y,H1,I1,r1,q1⟩=>?_
  refine thn (ho YB s1 σ H1 v y u w _ I1 r r1 q1) λz s2 ⟨zv,H2,I2,r2,q2⟩=>?_
  exact store_ok I2 hN hi hx r2 (λs3 I3=>⟨_,H2,I3,q2⟩) hf
 rcases l with ⟨hk,hm⟩ | ⟨hk,c,hc,hcell⟩
 ·exact wpAny_loadName_local I.ok.kind hk hn hm go
 ·rcases hk with hk | hk
  ·exact wpAny_loadName_cell I.ok.kind hk hc hcell go
  ·rcases hx with k | k
   ·have:X.env.scope.names.lookup x=some .free:=hk;rw[k]at this;cases this
   ·have:X.env.scope.names.lookup x=some .free:=hk;rw[k]at this;cases this
def tAugS(to ti te:TE)(tget:V->V->Hp->VK->Prop)(tip:TIp)(tset:TSet):TS:=λD σ H=>to σ H λo H1=>ti σ H1 λi H2=>tget o i H2 λx H3=>te σ H3 λy H4=>tip x y H4 λz H5=>tset o i z H5 λH6=>D.nx σ H6
def PGet(X:Cx)(t:V->V->Hp->VK->Prop):Prop:=
 ∀(YB:List (Addr×Obj)) (s:Shared) (σ:St) (H:Hp) (o i:V) (ov iv:Value) (Q:VK),Inv X YB σ H s->RelV o ov->RelV i iv->t o i H Q->
   wpAny (model X.prog X.w) X.A (getItem ov iv) (EP X YB σ Q) X.xe s
def ps_augS(ho:PE X o to)(hi:PE X i ti)(hg:PGet X tget)(he:PE X e te)(hp:PIp X op tip)(hs:PSet X tset)
  (ha:∀ov iv new,augStore i ov iv new=(do holding [new,ov,iv] (setItem ov iv new);release [new,ov,iv] [];pure .next):=by intros;rfl):PS X (.AugAssign (.Subscript o i tpos) op e pos) (tAugS to ti te tget tip tset):=by
 intro YB s σ H D I h;refine wpAny_AugAssign_SubscriptAny (thn (ho YB s σ H _ I h) λov s1 ⟨x1,H1,I1,r1,q1⟩=>?_) ha
 refine thn (hi YB s1 σ H1 _ I1 q1) λiv s2 ⟨x2,H2,I2,r2,q2⟩=>?_
 refine thn (hg YB s2 σ H2 x1 x2 ov iv _ I2 r1 r2 q2) λold s3 ⟨x3,H3,I3,r3,q3⟩=>?_
 refine thn (he YB s3 σ H3 _ I3 q3) λv s4 ⟨x4,H4,I4,r4,q4⟩=>?_
 refine thn (hp YB s4 σ H4 x3 x4 old v _ I4 r3 r4 q4) λnew s5 ⟨x5,H5,I5,r5,q5⟩=>?_
 exact thn (hs YB s5 σ H5 x1 x2 x5 ov iv new _ I5 r1 r2 r5 q5) λ_ s6 ⟨H6,I6,q6⟩=>⟨σ,H6,I6,q6⟩
end
section
variable{X:Cx}{pos:Pos}
def tWhile(c:TT)(tb:TS):TS:=λD σ H=>∃W:Nat->St->Hp->Prop,(∃m,W m σ H)/\∀m σ H,W m σ H->
 c σ H λb H1=>if b=true then ∃N:St->Hp->Prop,(∀σ' H',N σ' H'->∃m',m'<m/\W m' σ' H')/\tb { D with nx:=N,ct:=N,bk:=D.nx } σ H1 else D.nx σ H1
def ps_while(hp:PassesOwn (model X.prog X.w) X.A X.env X.xe)(hc:PT X c tc)(hb:PSs X body tb):PS X (.While c body [] pos) (tWhile tc tb):=by
 intro YB s σ H D I h;obtain⟨W,⟨m0,w0⟩,turn⟩:=h;refine wpAny_While (codeAny_whileLoop (λn s'=>∃σ' H',Inv X YB σ' H' s'/\W n σ' H') ?_ m0 ⟨σ,H,I,w0⟩)
 rintro n s1 ⟨σ1,H1,I1,w1⟩;refine Wd hp (thn (hc YB s1 σ1 H1 _ I1 (turn n σ1 H1 w1)) λb s2 ⟨H2,I2,q2⟩=>?_)
 cases b with
 | true=>
   obtain⟨N,hN,q2⟩:=q2;rw[Tf rfl];refine Wd hp (thn (hb YB s2 σ1 H2 _ I2 q2) λf s3 q3=>?_)
   cases f with
   |next=>obtain⟨σ3,H3,I3,n3⟩:=q3;obtain⟨m',hm,w3⟩:=hN σ3 H3 n3;exact⟨m',hm,σ3,H3,I3,w3⟩
   |cont=>obtain⟨σ3,H3,I3,n3⟩:=q3;obtain⟨m',hm,w3⟩:=hN σ3 H3 n3;exact⟨m',hm,σ3,H3,I3,w3⟩
   |brk=>exact q3
   |ret v=>exact q3
 |false=>rw[Ti TX];exact Yo ⟨σ1,H2,I2,q2⟩
end
structure It where
 go:Nat->Hp->Prop
 yld:Nat->Hp->V->Hp->Prop
 stop:Nat->Hp->Prop
def FpOk(X:Cx)(YB:List (Addr×Obj))(H:Hp)(b:Addr):Prop:=
 H b=none/\b≠X.env.locals/\b∉X.fs/\(b∈X.ex\/X.s₀.heap.objs.size<=b)/\(∀x c,X.env.cells.lookup x=some c->c≠b)/\∀p∈X.pn++YB,p.1≠b
def Inv.fpOk(I:Inv X YB σ H s)(hb:s.heap.objs.size<=b)(hn:H' b=none):FpOk X YB H' b:=by
 refine⟨hn,Wb (Tr I.lt hb),I.nofs hb,.inr (Ue I.sz hb),λx c e z=>?_,λp hp z=>?_⟩
 ·obtain⟨v,q⟩:=I.cell x c e;exact absurd (Tr q.lt (by rw[z];exact hb)) (Vj _)
 ·exact absurd (Tr (Te (I.pin p hp).1) (by rw[z];exact hb)) (Vj _)
structure Turn(P:Program)(w:World)(K:PySem.W.Frag)(tg:Expr)(J:It)(fp:List Addr)(it:Addr)(tn:Nat->Heap->Prop):Prop where
 mem:it∈fp
 obj:∀i h,tn i h->∀b∈fp,∃o,h.get? b=some o/\∀v,o.data≠.cell v
 keep:∀i h h',tn i h->(∀b∈fp,∀o,h.get? b=some o->h'.get? b=some o)->tn i h'
 item:∀(X:Cx),X.prog=P->X.w=w->X.K=K->X.calm=true->∀(i:Nat) (YB:List (Addr×Obj)) (s:Shared) (σ:St) (H:Hp) (E:Value->Shared->Prop),Inv X YB σ H s->(∀b∈fp,FpOk X YB H b)->tn i s.heap->J.go i H->
  wpAny (model P w) X.A (pyNext (.ref it)) (λr s1=>∃u,r=some u /\
   wpAny (model P w) X.A (letOwnedTupleGo tg (.ref it) u) (λ_ s2=>∃x H',Inv X YB σ H' s2/\RelV x u/\J.yld i H x H'/\tn (i+1) s2.heap/\∀b∈fp,H' b=none) E s1) E s
 done:∀(X:Cx),X.prog=P->X.w=w->X.K=K->X.calm=true->∀(i:Nat) (YB:List (Addr×Obj)) (s:Shared) (σ:St) (H:Hp) (E:Value->Shared->Prop),Inv X YB σ H s->(∀b∈fp,FpOk X YB H b)->tn i s.heap->J.stop i H->
  wpAny (model P w) X.A (pyNext (.ref it)) (λr s1=>r=none/\Inv X YB σ H s1) E s
 self:∀(A:Around) (i:Nat) (s:Shared) (Q:Value->Shared->Prop) (E:Value->Shared->Prop),tn i s.heap->Q (.ref it) s->wpAny (model P w) A (pyIter (.ref it)) Q E s
abbrev TI:=St->Hp->(It->Hp->Prop)->Prop
def PIE(X:Cx)(YB:List (Addr×Obj))(σ:St)(tg:Expr)(R:It->Hp->Prop)(itv:Value)(s2:Shared):Prop:=
 ∃(it:Addr) (fp:List Addr) (tn:Nat->Heap->Prop) (J:It) (H':Hp),itv=.ref it/\Inv X YB σ H' s2/\Turn X.prog X.w X.K tg J fp it tn/\tn 0 s2.heap/\(∀b∈fp,FpOk X YB H' b)/\R J H'
def PI(X:Cx)(tg iter:Expr)(wi:TI):Prop:=
 ∀(YB:List (Addr×Obj)) (s:Shared) (σ:St) (H:Hp) (R:It->Hp->Prop),Inv X YB σ H s->wi σ H R->
   wpAny (model X.prog X.w) X.A (eval iter X.env) (λv s1=>wpAny (model X.prog X.w) X.A (pyIter v) (PIE X YB σ tg R) X.xe s1) X.xe s
def go_of(ho:s.heap.get? it=some o)(hc:o.cls=.type n)(hd:o.data=.fields vs)
  (hn:["enumerate", "zip", "dict_itemiterator", "dict_reverseitemiterator", "odict_iterator", "itertools.zip_longest", "itertools.pairwise"].contains n=false) (hQ:Q () s):wpAny M A (letOwnedTupleGo tg (.ref it) u) Q E s:=by
 unfold letOwnedTupleGo;cases tg<;>first
  |exact S6 hQ
  | (cases u<;>first
      |exact S6 hQ
      | (refine wpAny_bind (wpAny_load ho ?_)
         rw[hc,hd];show wpAny M A (if (["enumerate", "zip", "dict_itemiterator", "dict_reverseitemiterator", "odict_iterator", "itertools.zip_longest", "itertools.pairwise"].contains n&&vs[0]?==some (rawInt _))=true then _ else _) Q E s
         rw[Ti (by intro h;rw[hn,Bool.false_and]at h;cases h)]
         exact S6 hQ))
def Itl(K:PySem.W.Frag)(a:Addr):It:=
 ⟨λi H=>∃xs x,SqL K H a xs/\xs[i]?=some x,λi H x H'=>H'=H/\∀xs,SqL K H a xs->xs[i]?=some x,λi H=>∃xs,SqL K H a xs/\xs.length<=i⟩
def Itt(K:PySem.W.Frag)(a:Addr):It:=
 ⟨λi H=>∃xs x,SqT K H a xs/\xs[i]?=some x,λi H x H'=>H'=H/\∀xs,SqT K H a xs->xs[i]?=some x,λi H=>∃xs,SqT K H a xs/\xs.length<=i⟩
def Itr(lo:Int)(n:Nat):It:=⟨λi z=>i<n,λi H x H'=>H'=H/\x=.int (lo+i),λi z=>n<=i⟩
def turn_list{P:Program}{w:World}{K:PySem.W.Frag}{tg:Expr}(a it:Addr):Turn P w K tg (Itl K a) [it] it (λi h=>h.IsListIter it a i) where
 mem:=by simp
 obj:=λi h st b hb=>by
  have e:b=it:=by simpa using hb
  subst e;obtain⟨o,e,c,d⟩:=st;exact⟨o,e,λv z=>by rw[d]at z;cases z⟩
 keep:=λi h h' st k=>st.at λo e=>k it (by simp) o e
 item:=by
  intro X hP hw hK hc i YB s σ H E I hf st hg;subst hP hw hK;obtain⟨xs,x,hq,hx⟩:=hg;obtain⟨its,rv,p,hz⟩:=I.list hq;obtain⟨u,hu,ru⟩:=rv.get hx;obtain⟨f0,f1,f2,f3,f4,f5⟩:=hf it (by simp)
  refine wpAny_pyNext_list_item st p.isList (x:=u) (by simpa using hu) λh' st' sb=>?_
  have I1:Inv X YB σ H { s with heap:=h' }:=I.turned (t':=s.toks) (λb o hb e=>(sb.2 b hb).trans e) f0 f1 f3 f4 f5
  obtain⟨o,e,c,d⟩:=id st';exact⟨u,rfl,go_of (s:={ s with heap:=h' }) e c d (by decide) ⟨x,H,I1,ru,⟨rfl,λys hy=>by rw[I.list_inj hy hq];exact hx⟩,st',λb hb=>(hf b hb).1⟩⟩
 done:=by
  intro X hP hw hK hc i YB s σ H E I hf st hg;subst hP hw hK;obtain⟨xs,hq,hx⟩:=hg;obtain⟨its,rv,p,hz⟩:=I.list hq;obtain⟨f0,f1,f2,f3,f4,f5⟩:=hf it (by simp)
  have hl:=rv.length;exact wpAny_pyNext_list_end (I.ok.hd hc) st p.isList (by simp;omega) λh' eb=>⟨rfl,I.turned (t':=s.toks) (λb o hb e=>eb b o hb e) f0 f1 f3 f4 f5⟩
 self:=λy y y y y st h=>wpAny_pyIter_listiter st h
def turn_tuple{P:Program}{w:World}{K:PySem.W.Frag}{tg:Expr}(a it:Addr):Turn P w K tg (Itt K a) [it] it (λi h=>h.IsTupleIter it a i) where
 mem:=by simp
 obj:=λi h st b hb=>by
  have e:b=it:=by simpa using hb
  subst e;obtain⟨o,e,c,d⟩:=st;exact⟨o,e,λv z=>by rw[d]at z;cases z⟩
 keep:=λi h h' st k=>st.at λo e=>k it (by simp) o e
 item:=by
  intro X hP hw hK hc i YB s σ H E I hf st hg;subst hP hw hK;obtain⟨xs,x,hq,hx⟩:=hg;obtain⟨its,rv,p,hz⟩:=I.tuple hq;obtain⟨u,hu,ru⟩:=rv.get hx;obtain⟨f0,f1,f2,f3,f4,f5⟩:=hf it (by simp)
  refine wpAny_pyNext_tuple_item st (show s.heap.IsTuple a its.toArray from p) (x:=u) (by simpa using hu) λh' st' sb=>?_
  have I1:Inv X YB σ H { s with heap:=h' }:=I.turned (t':=s.toks) (λb o hb e=>(sb.2 b hb).trans e) f0 f1 f3 f4 f5
  obtain⟨o,e,c,d⟩:=id st';exact⟨u,rfl,go_of (s:={ s with heap:=h' }) e c d (by decide) ⟨x,H,I1,ru,⟨rfl,λys hy=>by rw[I.tuple_inj hy hq];exact hx⟩,st',λb hb=>(hf b hb).1⟩⟩
 done:=by
  intro X hP hw hK hc i YB s σ H E I hf st hg;subst hP hw hK;obtain⟨xs,hq,hx⟩:=hg;obtain⟨its,rv,p,hz⟩:=I.tuple hq;obtain⟨f0,f1,f2,f3,f4,f5⟩:=hf it (by simp)
  have hl:=rv.length;exact wpAny_pyNext_tuple_end (I.ok.hd hc) st (show s.heap.IsTuple a its.toArray from p) (by simp;omega) λh' eb=>⟨rfl,I.turned (t':=s.toks) (λb o hb e=>eb b o hb e) f0 f1 f3 f4 f5⟩
 self:=λy y y y y st h=>wpAny_pyIter_tupleiter st h
def turn_range{P:Program}{w:World}{K:PySem.W.Frag}{tg:Expr}(it:Addr)(lo:Int)(n:Nat):Turn P w K tg (Itr lo n) [it] it (λi h=>IsRangeIter h it (lo + (i:Nat) * 1) ((n:Int) - (i:Nat)) 1) where
 mem:=by simp
 obj:=λi h st b hb=>by
  have e:b=it:=by simpa using hb
  subst e;exact⟨_,st,λv z=>by have z':Data.fields _=Data.cell v:=z;cases z'⟩
 keep:=λi h h' st k=>k it (by simp) _ st
 item:=by
  intro X hP hw hK hc i YB s σ H E I hf st hg;subst hP hw hK;obtain⟨f0,f1,f2,f3,f4,f5⟩:=hf it (by simp)
  have W:=Walks.range (prog:=X.prog) (w:=X.w) (I.ok.hd hc) it lo 1 n;refine W.item i s _ _ hg st λv h' tk hv st' kk=>?_
  obtain⟨t,rfl⟩:=hv;have I1:Inv X YB σ H { s with heap:=h',toks:=tk }:=I.turned (λb o hb e=>kk b o (by simpa using hb) e) f0 f1 f3 f4 f5
  refine⟨_,rfl,go_of (s:={ s with heap:=h',toks:=tk }) (n := "range_iterator") st' rfl rfl (by decide) ⟨.int (lo+i),H,I1,⟨t,?_⟩,⟨rfl,rfl⟩,st',λb hb=>(hf b hb).1⟩⟩
  rw[Int.mul_one]
 done:=by
  intro X hP hw hK hc i YB s σ H E I hf st hg;subst hP hw hK;obtain⟨f0,f1,f2,f3,f4,f5⟩:=hf it (by simp)
  exact wpAny_pyNext_range_end (I.ok.hd hc) st (by have:n<=i:=hg;omega) λh' eb=>⟨rfl,I.turned (t':=s.toks) (λb o hb e=>eb b o hb e) f0 f1 f3 f4 f5⟩
 self:=λy y y y y st h=>wpAny_pyIter_rangeiter st h
open PySem PySem.Spec PyProof.Rows
section
variable{X:Cx}{tg:Expr}
def iList(K:PySem.W.Frag)(tl:TE):TI:=λσ H R=>tl σ H λx H1=>∃a,x=.ref a/\(∃xs,SqL K H1 a xs)/\R (Itl K a) H1
def iTup(K:PySem.W.Frag)(tl:TE):TI:=λσ H R=>tl σ H λx H1=>∃a,x=.ref a/\(∃xs,SqT K H1 a xs)/\R (Itt K a) H1
def pi_list{l:Expr}{tl:TE}(hl:PE X l tl):PI X tg l (iList X.K tl):=by
 intro YB s σ H R I h;refine thn (hl YB s σ H _ I h) λv s1 ⟨x,H1,I1,r1,q1⟩=>?_
 obtain⟨a,e,⟨xs,hq⟩,q⟩:=q1;subst e;cases r1;obtain⟨its,rv,p,hz⟩:=I1.list hq;refine VM p.isList ?_;refine⟨s1.heap.objs.size,[s1.heap.objs.size],_,_,H1,rfl,I1.kept (t':=s1.toks) λb o e=>S5 _ e,turn_list a _,⟨_,Tg _ rfl,rfl,rfl⟩,λb hb=>?_,q⟩
 have e:b=s1.heap.objs.size:=by simpa using hb
 subst e;exact I1.fpOk (Td _) (I1.hok.fresh (Td _))
def pi_tup{l:Expr}{tl:TE}(hl:PE X l tl):PI X tg l (iTup X.K tl):=by
 intro YB s σ H R I h;refine thn (hl YB s σ H _ I h) λv s1 ⟨x,H1,I1,r1,q1⟩=>?_
 obtain⟨a,e,⟨xs,hq⟩,q⟩:=q1;subst e;cases r1;obtain⟨its,rv,p,hz⟩:=I1.tuple hq;refine wpAny_pyIter_tuple (show s1.heap.IsTuple a its.toArray from p) ?_
 refine⟨s1.heap.objs.size,[s1.heap.objs.size],_,_,H1,rfl,I1.kept (t':=s1.toks) λb o e=>S5 _ e,turn_tuple a _,⟨_,Tg _ rfl,rfl,rfl⟩,λb hb=>?_,q⟩
 have e:b=s1.heap.objs.size:=by simpa using hb
 subst e;exact I1.fpOk (Td _) (I1.hok.fresh (Td _))
def range_it{YB:List (Addr×Obj)}{R:It->Hp->Prop}{E:Value->Shared->Prop}{lo hi:Int}{tk:Nat}(I:Inv X YB σ H s)(h1:-(2^62)<=lo)(h2:lo<2^62)(h3:-(2^62)<=hi)(h4:hi<2^62)
  (q:R (Itr lo (hi-lo).toNat) H):wpAny (model X.prog X.w) X.A (pyIter (.ref s.heap.objs.size)) (PIE X YB σ tg R) E { s with heap:=s.heap.push { cls:=.type "range",data:=.fields #[.int lo t,.int hi u,.int 1 v] },toks:=tk }:=by
 refine wpAny_pyIter_range (IsRange.new ..) (small_one h1 h2 h3 h4) ?_;have I1:Inv X YB σ H { s with heap:=s.heap.push { cls:=.type "range",data:=.fields #[.int lo t,.int hi u,.int 1 v] },toks:=tk }:=I.kept λb o e=>S5 _ e
 refine⟨(s.heap.push { cls:=.type "range",data:=.fields #[.int lo t,.int hi u,.int 1 v] }).objs.size,[(s.heap.push { cls:=.type "range",data:=.fields #[.int lo t,.int hi u,.int 1 v] }).objs.size],_,_,H,rfl,
  I1.kept (t':=tk) λb o e=>S5 _ e,turn_range _ lo (hi-lo).toNat,?_,λb hb=>?_,q⟩
 ·have e1:lo+((0:Nat):Int)*1=lo:=by simp
  have e2:(((hi-lo).toNat:Nat):Int)-((0:Nat):Int)=Builtin.Range.rangeSize lo hi 1:=by rw[rangeSize_one];split<;>omega
  show IsRangeIter _ _ (lo+((0:Nat):Int)*1) ((((hi-lo).toNat:Nat):Int)-((0:Nat):Int)) 1;rw[e1,e2];exact Tg _ rfl
 ·have e:b=(s.heap.push { cls:=.type "range",data:=.fields #[.int lo t,.int hi u,.int 1 v] }).objs.size:=by simpa using hb
  subst e;exact I1.fpOk (Td _) (I1.hok.fresh (Td _))
def iRng1(ta:TA):TI:=λσ H R=>ta σ H λvs H1=>∃j:Int,vs=[.int j]/\-(2^62)<=j/\j<2^62/\R (Itr 0 j.toNat) H1
def iRng2(ta:TA):TI:=λσ H R=>ta σ H λvs H1=>∃i j:Int,vs=[.int i,.int j]/\(-(2^62)<=i/\i<2^62/\-(2^62)<=j/\j<2^62)/\R (Itr i (j-i).toNat) H1
def pi_range1(hg:Gl X "range")(hm:X.mg "range"=none)(ha:PA X [a] ta)(hs:starEach [a] X.env=[(false,eval a X.env)]:=by rfl):PI X tg (.Call (.Name "range" p) [a] [] pos) (iRng1 ta):=by
 intro YB s σ H R I h;refine Call_ (ld_blt I hg hm boot_range (UT (thn (ha pos YB s σ H _ I h) λus s1 ⟨vs,H1,I1,r1,q1⟩=>?_) hs rfl))
 obtain⟨j,e,q1,q2,q⟩:=q1;subst e;cases r1 with
 |cons r rr=>cases rr;obtain⟨t,rfl⟩:=r;exact call_range_1 (range_it I1 (by omega) (by omega) q1 q2 (by simpa using q))
def pi_range2(hg:Gl X "range")(hm:X.mg "range"=none)(ha:PA X [a,b] ta)(hs:starEach [a,b] X.env=[(false,eval a X.env),(false,eval b X.env)]:=by rfl)(hs2:starEach [b] X.env=[(false,eval b X.env)]:=by rfl):
  PI X tg (.Call (.Name "range" p) [a,b] [] pos) (iRng2 ta):=by
 intro YB s σ H R I h;refine Call_ (ld_blt I hg hm boot_range (UT (thn (ha pos YB s σ H _ I h) λus s1 ⟨vs,H1,I1,r1,q1⟩=>?_) (by rw[hs,hs2]) (by rw[hs2];rfl)))
 obtain⟨i,j,e,⟨q1,q2,q3,q4⟩,q⟩:=q1;subst e;cases r1 with
 | cons r rr=>
   cases rr with
   |cons r' rr=>cases rr;obtain⟨t,rfl⟩:=r;obtain⟨t',rfl⟩:=r';exact call_range_2 (range_it I1 q1 q2 q3 q4 q)
def tFor(wi:TI)(g:TG)(tb:TS):TS:=λD σ H=>wi σ H λJ H1=>∃W:Nat->Nat->St->Hp->Prop,(∃m,W 0 m σ H1)/\∀i m σ H,W i m σ H->
 (J.stop i H/\D.nx σ H)\/(J.go i H/\∃N:St->Hp->Prop,(∀σ' H',N σ' H'->∃m',m'<m/\W (i+1) m' σ' H')/\∀x H',J.yld i H x H'->g x σ H' λσ2 H2=>tb { D with nx:=N,ct:=N,bk:=D.nx } σ2 H2)
def pinsAt(fp:List Addr)(h:Heap):List (Addr×Obj):=fp.filterMap λb=>(h.get? b).map λo=>(b,o)
def mem_pinsAt(hb:b∈fp)(e:h.get? b=some o):(b,o)∈pinsAt fp h:=List.mem_filterMap.mpr ⟨b,hb,by rw[e];rfl⟩
def of_pinsAt(hp:p∈pinsAt fp h):p.1∈fp/\h.get? p.1=some p.2:=by
 obtain⟨b,hb,e⟩:=List.mem_filterMap.mp hp;cases q:h.get? b with
 |none=>rw[q]at e;cases e
 |some o=>rw[q]at e;have e':(b,o)=p:=Tu e;subst e';exact⟨hb,q⟩
def Inv.pinned(I:Inv X YB σ H s)(hf:∀b∈fp,FpOk X YB H b)(ho:∀b∈fp,∃o,s.heap.get? b=some o/\∀v,o.data≠.cell v):Inv X (YB++pinsAt fp s.heap) σ H s:=
 I.pins_of λp hp=>(TV.mp hp).elim (λz=>I.pin p (T7 _ z)) λz=>by obtain⟨hb,e⟩:=of_pinsAt z;obtain⟨f0,f1,f2,_⟩:=hf p.1 hb;obtain⟨o,e',d⟩:=ho p.1 hb;rw[e]at e';cases e';exact⟨e,f0,f1,f2,d⟩
def Inv.unpinned(I:Inv X (YB++pl) σ H s):Inv X YB σ H s:=I.pins_of λp hp=>I.pin p (T7 _ (Vr _ hp))
def ps_for(hp:PassesOwn (model X.prog X.w) X.A X.env X.xe)(hc:X.calm=true)(hi:PI X tg iter wi)(hg:PG X tg g)(hb:PSs X body tb)
  (hs:∀x,foldedSetIterable iter X.env x=pure x:=by intro _;rfl):PS X (.For tg iter body [] pos) (tFor wi g tb):=by
 intro YB s σ H D I h;refine wpAny_For (thn (hi YB s σ H _ I h) λv s1 h1=>thn h1 λitv s2 h2=>?_) hs
 obtain⟨it,fp,tn,J,H2,e,I2,T,st2,f2,W,⟨m0,w0⟩,turn⟩:=h2;subst e
 -- what stays true of the iterator's objects through the loop
 have stat:∀{H':Hp},(∀b∈fp,H' b=none)->∀b∈fp,FpOk X YB H' b:=λhn b hb=>⟨hn b hb,(f2 b hb).2⟩
 refine codeAny_forLoop_any (λn s'=>∃i σ' H',Inv X YB σ' H' s'/\tn i s'.heap/\(∀b∈fp,H' b=none)/\W i n σ' H') ?_ m0 ⟨0,σ,H2,I2,st2,λb hb=>(f2 b hb).1,w0⟩
 rintro n s3 ⟨i,σ3,H3,I3,st3,fr3,w3⟩;rcases turn i n σ3 H3 w3 with ⟨stop,qn⟩ | ⟨go,N,hN,step⟩
 ·refine Wd hp (thn (T.done X rfl rfl rfl hc i YB s3 σ3 H3 X.xe I3 (stat fr3) st3 stop) λr s4 ⟨hr,I4⟩=>?_)
  subst hr;exact Yo ⟨σ3,H3,I4,qn⟩
 ·refine Wd hp (thn (T.item X rfl rfl rfl hc i YB s3 σ3 H3 X.xe I3 (stat fr3) st3 go) λr s4 ⟨u,hr,h4⟩=>?_)
  subst hr;refine Wd hp (thn h4 λ_ s5 ⟨x,H5,I5,r5,y5,st5,fr5⟩=>?_)
  have I5':=I5.pinned (stat fr5) (T.obj _ _ st5);refine Wd hp (thn (hg _ s5 σ3 H5 x u _ I5' r5 (step x H5 y5)) λ_ s6 ⟨σ6,H6,I6,q6⟩=>?_)
  refine Wd hp (thn (hb _ s6 σ6 H6 _ I6 q6) λf s7 q7=>?_)
  have again:∀{σ7:St}{H7:Hp},Inv X (YB++pinsAt fp s5.heap) σ7 H7 s7->N σ7 H7->∃m,m<n/\∃i σ' H',Inv X YB σ' H' s7/\tn i s7.heap/\(∀b∈fp,H' b=none)/\W i m σ' H':=λ{σ7 H7} I7 n7=>by
   obtain⟨m',hm,w7⟩:=hN σ7 H7 n7;refine⟨m',hm,i+1,σ7,H7,I7.unpinned,T.keep _ _ _ st5 λb hb o e=>(I7.pin (b,o) (T7 _ (T7 _ (mem_pinsAt hb e)))).1,λb hb=>?_,w7⟩
   obtain⟨o,e,d⟩:=T.obj _ _ st5 b hb;exact (I7.pin (b,o) (T7 _ (T7 _ (mem_pinsAt hb e)))).2.1
  cases f with
  |next=>obtain⟨σ7,H7,I7,n7⟩:=q7;exact again I7 n7
  |cont=>obtain⟨σ7,H7,I7,n7⟩:=q7;exact again I7 n7
  |brk=>obtain⟨σ7,H7,I7,q7⟩:=q7;exact⟨σ7,H7,I7.unpinned,q7⟩
  |ret v=>obtain⟨x7,σ7,H7,I7,r7,q7⟩:=q7;exact⟨x7,σ7,H7,I7.unpinned,r7,q7⟩
end
open PySem PySem.Spec PyProof.Rows
abbrev R2:=V->V->Hp->VK->Prop
def OpR(X:Cx)(f:Value->Value->Sem Value)(r:R2):Prop:=
 ∀(YB:List (Addr×Obj)) (s:Shared) (σ:St) (H:Hp) (x y:V) (v u:Value) (Q:VK),Inv X YB σ H s->RelV x v->RelV y u->r x y H Q->
   wpAny (model X.prog X.w) X.A (f v u) (EP X YB σ Q) X.xe s
def CallR(X:Cx)(f:Value)(r:List V->Hp->VK->Prop):Prop:=
 ∀(YB:List (Addr×Obj)) (s:Shared) (σ:St) (H:Hp) (xs:List V) (us:List Value) (Q:VK),Inv X YB σ H s->Vals xs us->r xs H Q->
   wpAny (model X.prog X.w) X.A (call f us) (EP X YB σ Q) X.xe s
def TruR(X:Cx)(r:V->Hp->(Bool->Hp->Prop)->Prop):Prop:=
 ∀(YB:List (Addr×Obj)) (s:Shared) (σ:St) (H:Hp) (x:V) (v:Value) (Q:Bool->Hp->Prop),Inv X YB σ H s->RelV x v->r x H Q->
   wpAny (model X.prog X.w) X.A (truthy v) (TP X YB σ Q) X.xe s
def tOp(r:R2)(ta tb:TE):TE:=λσ H Q=>ta σ H λx H1=>tb σ H1 λy H2=>r x y H2 Q
def rI(C:Int->Int->Prop)(g:Int->Int->V):R2:=λx y H Q=>∃i j,x=.int i/\y=.int j/\C i j/\Q (g i j) H
def rI0(g:Int->Int->V):R2:=λx y H Q=>∃i j,x=.int i/\y=.int j/\Q (g i j) H
section
variable{X:Cx}{a b c:Expr}{ta tb tc:TE}{pos:Pos}
def binT(ha:PE X a ta)(hb:PE X b tb){YB:List (Addr×Obj)}{R:V->V->Hp->Prop}(I:Inv X YB σ H s)
  (h:ta σ H λx H1=>tb σ H1 λy H2=>R x y H2) {Q:Value->Shared->Prop}{f:Value->Value->Sem Value}
  (hf:∀v u s2 x y H2,Inv X YB σ H2 s2->RelV x v->RelV y u->R x y H2->wpAny (model X.prog X.w) X.A (f v u) Q X.xe s2) :
  wpAny (model X.prog X.w) X.A (eval a X.env) (λv s₁=>wpAny (model X.prog X.w) X.A (eval b X.env) (λu s₂=>wpAny (model X.prog X.w) X.A (f v u) Q X.xe s₂) X.xe s₁) X.xe s:=by
 refine thn (ha YB s σ H _ I h) λv s1 ⟨x,H1,I1,r1,q1⟩=>?_
 refine thn (hb YB s1 σ H1 _ I1 q1) λu s2 ⟨y,H2,I2,r2,q2⟩=>?_
 exact hf v u s2 x y H2 I2 r1 r2 q2
def pe_op(ho:OpR X (binaryOp op) r)(ha:PE X a ta)(hb:PE X b tb):PE X (.BinOp a op b pos) (tOp r ta tb):=by intro YB s σ H Q I h;exact wpAny_BinOp (binT ha hb I h λv u s2 x y H2 I2 rx ry q=>ho YB s2 σ H2 x y v u Q I2 rx ry q)
def opI{f:Value->Value->Sem Value}{C:Int->Int->Prop}{g:Int->Int->Int}
  (rule:∀(i j:Int) (t u:Tok) (s:Shared) (Q:Value->Shared->Prop) (E:Value->Shared->Prop),C i j->Q (.int (g i j) s.toks) { s with toks:=s.toks+1 }->wpAny (model X.prog X.w) X.A (f (.int i t) (.int j u)) Q E s) :
  OpR X f (rI C λi j=>.int (g i j)):=by
 intro YB s σ H x y v u Q I rx ry h;obtain⟨i,j,rfl,rfl,hc,q⟩:=h;obtain⟨t,rfl⟩:=rx;obtain⟨t',rfl⟩:=ry;exact rule i j t t' s _ _ hc ⟨.int (g i j),H,I.tok _,⟨_,rfl⟩,q⟩
def opI0{f:Value->Value->Sem Value}{g:Int->Int->Int}
  (rule:∀(i j:Int) (t u:Tok) (s:Shared) (Q:Value->Shared->Prop) (E:Value->Shared->Prop),Q (.int (g i j) s.toks) { s with toks:=s.toks+1 }->wpAny (model X.prog X.w) X.A (f (.int i t) (.int j u)) Q E s) :
  OpR X f (rI0 λi j=>.int (g i j)):=by
 intro YB s σ H x y v u Q I rx ry h;obtain⟨i,j,rfl,rfl,q⟩:=h;obtain⟨t,rfl⟩:=rx;obtain⟨t',rfl⟩:=ry;exact rule i j t t' s _ _ ⟨.int (g i j),H,I.tok _,⟨_,rfl⟩,q⟩
def opB0{f:Value->Value->Sem Value}{g:Int->Int->Bool}
  (rule:∀(i j:Int) (t u:Tok) (s:Shared) (Q:Value->Shared->Prop) (E:Value->Shared->Prop),Q (.bool (g i j)) s->wpAny (model X.prog X.w) X.A (f (.int i t) (.int j u)) Q E s) :
  OpR X f (rI0 λi j=>.bl (g i j)):=by
 intro YB s σ H x y v u Q I rx ry h;obtain⟨i,j,rfl,rfl,q⟩:=h;obtain⟨t,rfl⟩:=rx;obtain⟨t',rfl⟩:=ry;exact rule i j t t' s _ _ ⟨.bl (g i j),H,I,rfl,q⟩
def CPow(i j:Int):Prop:=0<=j/\j<=1000000/\i.natAbs<2^64
def op_add:OpR X (binaryOp .Add) (rI0 λi j=>.int (i+j)):=opI0 λz z z z z z z q=>add_int q
def op_sub:OpR X (binaryOp .Sub) (rI0 λi j=>.int (i-j)):=opI0 λz z z z z z z q=>sub_int q
def op_mod:OpR X (binaryOp .Mod) (rI (λz j=>0<j) λi j=>.int (i%j)):=opI λi j z z z z z hc q=>by have h1:(0:Int)<j:=hc;exact mod_int' (by omega) (by rw[Int.fmod_eq_emod_of_nonneg i (by omega)];exact q)
def op_pow:OpR X (binaryOp .Pow) (rI CPow λi j=>.int (i^j.toNat)):=opI λz z z z z z z hc q=>pow_int_small hc.1 hc.2.1 hc.2.2 q
def iop_add:OpR X (inplaceOp .Add) (rI0 λi j=>.int (i+j)):=opI0 λz z z z z z z q=>iadd_int q
end
def scal:V->V->Bool
 |.non,.non=>true | .non,.int _=>true | .int _,.non=>true | .non,.bl _=>true | .bl _,.non=>true | .non,.str _=>true | .str _,.non=>true
 |.int _,.int _=>true | .bl _,.bl _=>true | .str _,.str _=>true | .byt _,.byt _=>true
 |.int _,.str _=>true | .str _,.int _=>true | .bl _,.str _=>true | .str _,.bl _=>true
 |_,_=>false
def rEq:R2:=λx y H Q=>scal x y=true/\Q (.bl (decide (x=y))) H
def rNe:R2:=λx y H Q=>scal x y=true/\Q (.bl (!decide (x=y))) H
def dec_int:decide (V.int i=V.int j)=(i==j):=by rw[T6];simp
def dec_bl:decide (V.bl i=V.bl j)=(i==j):=by rw[T6];simp
def dec_str:decide (V.str i=V.str j)=(i==j):=by rw[T6];simp
def dec_byt:decide (V.byt i=V.byt j)=(i.toList==j.toList):=by rw[T6];cases i;cases j;simp
section
variable{X:Cx}{a b c:Expr}{ta tb tc:TE}{pos:Pos}
def fin_bl(I:Inv X YB σ H s)(q:Q (.bl k) H)(e:k=k'):EP X YB σ Q (.bool k') s:=by subst e;exact⟨.bl k,H,I,rfl,q⟩
def op_eq:OpR X (compareOp .Eq) rEq:=by
 intro YB s σ H x y v u Q I rx ry h;obtain⟨hs,q⟩:=h;cases x with
 |non=>
   cases rx;cases y with
   |non=>cases ry;exact PySem.EqNone.eq_none_none (fin_bl I q (by simp))
   |bl j=>cases ry;exact PySem.EqNone.eq_none_bool (fin_bl I q (by simp))
   |int j=>obtain⟨t',rfl⟩:=ry;exact PySem.EqNone.eq_none_int (fin_bl I q (by simp))
   |str j=>obtain⟨t',rfl⟩:=ry;exact PySem.EqNone.eq_none_str (fin_bl I q (by simp))
   |_=>exact absurd (show false=true from hs) TX
 |bl i=>
   cases rx;cases y with
   |non=>cases ry;exact PySem.EqNone.eq_bool_none (fin_bl I q (by simp))
   |bl j=>cases ry;exact eq_bool (fin_bl I q dec_bl)
   |str j=>obtain⟨t',rfl⟩:=ry;exact PySem.EqMixed.eq_bool_str (fin_bl I q (by simp))
   |_=>exact absurd (show false=true from hs) TX
 |int i=>
   obtain⟨t,rfl⟩:=rx;cases y with
   |non=>cases ry;exact PySem.EqNone.eq_int_none (fin_bl I q (by simp))
   |int j=>obtain⟨t',rfl⟩:=ry;exact eq_int (fin_bl I q dec_int)
   |str j=>obtain⟨t',rfl⟩:=ry;exact PySem.EqMixed.eq_int_str (fin_bl I q (by simp))
   |_=>exact absurd (show false=true from hs) TX
 |str i=>
   obtain⟨t,rfl⟩:=rx;cases y with
   |non=>cases ry;exact PySem.EqNone.eq_str_none (fin_bl I q (by simp))
   |bl j=>cases ry;exact PySem.EqMixed.eq_str_bool (fin_bl I q (by simp))
   |int j=>obtain⟨t',rfl⟩:=ry;exact PySem.EqMixed.eq_str_int (fin_bl I q (by simp))
   |str j=>obtain⟨t',rfl⟩:=ry;exact eq_str (fin_bl I q dec_str)
   |_=>exact absurd (show false=true from hs) TX
 |byt i=>
   obtain⟨t,rfl⟩:=rx;cases y with
   |byt j=>obtain⟨t',rfl⟩:=ry;exact PySem.W.eq_bytes (fin_bl I q dec_byt)
   |_=>exact absurd (show false=true from hs) TX
 |_=>cases y<;>exact absurd (show false=true from hs) TX
def op_ne:OpR X (compareOp .NotEq) rNe:=by
 intro YB s σ H x y v u Q I rx ry h;obtain⟨hs,q⟩:=h;cases x with
 |non=>
   cases rx;cases y with
   |non=>cases ry;exact PySem.EqNone.ne_none_none (fin_bl I q (by simp))
   |bl j=>cases ry;exact PySem.EqNone.ne_none_bool (fin_bl I q (by simp))
   |int j=>obtain⟨t',rfl⟩:=ry;exact PySem.EqNone.ne_none_int (fin_bl I q (by simp))
   |str j=>obtain⟨t',rfl⟩:=ry;exact PySem.EqNone.ne_none_str (fin_bl I q (by simp))
   |_=>exact absurd (show false=true from hs) TX
 |bl i=>
   cases rx;cases y with
   |non=>cases ry;exact PySem.EqNone.ne_bool_none (fin_bl I q (by simp))
   |bl j=>cases ry;exact ne_bool (fin_bl I q (congrArg not dec_bl))
   |str j=>obtain⟨t',rfl⟩:=ry;exact PySem.EqMixed.ne_bool_str (fin_bl I q (by simp))
   |_=>exact absurd (show false=true from hs) TX
 |int i=>
   obtain⟨t,rfl⟩:=rx;cases y with
   |non=>cases ry;exact PySem.EqNone.ne_int_none (fin_bl I q (by simp))
   |int j=>obtain⟨t',rfl⟩:=ry;exact ne_int (fin_bl I q (congrArg not dec_int))
   |str j=>obtain⟨t',rfl⟩:=ry;exact PySem.EqMixed.ne_int_str (fin_bl I q (by simp))
   |_=>exact absurd (show false=true from hs) TX
 |str i=>
   obtain⟨t,rfl⟩:=rx;cases y with
   |non=>cases ry;exact PySem.EqNone.ne_str_none (fin_bl I q (by simp))
   |bl j=>cases ry;exact PySem.EqMixed.ne_str_bool (fin_bl I q (by simp))
   |int j=>obtain⟨t',rfl⟩:=ry;exact PySem.EqMixed.ne_str_int (fin_bl I q (by simp))
   |str j=>obtain⟨t',rfl⟩:=ry;exact ne_str (fin_bl I q (congrArg not dec_str))
   |_=>exact absurd (show false=true from hs) TX
 |byt i=>
   obtain⟨t,rfl⟩:=rx;cases y with
   |byt j=>obtain⟨t',rfl⟩:=ry;exact PySem.W.ne_bytes (fin_bl I q (congrArg not dec_byt))
   |_=>exact absurd (show false=true from hs) TX
 |_=>cases y<;>exact absurd (show false=true from hs) TX
def op_lt:OpR X (compareOp .Lt) (rI0 λi j=>.bl (decide (i<j))):=opB0 λz z z z z z z q=>lt_int q
def op_le:OpR X (compareOp .LtE) (rI0 λi j=>.bl (decide (i<=j))):=opB0 λz z z z z z z q=>le_int q
def op_gt:OpR X (compareOp .Gt) (rI0 λi j=>.bl (decide (j<i))):=opB0 λz z z z z z z q=>gt_int q
def op_ge:OpR X (compareOp .GtE) (rI0 λi j=>.bl (decide (j<=i))):=opB0 λz z z z z z z q=>ge_int q
def op_isN:OpR X (compareOp .Is) (λx y H Q=>y=.non/\Q (.bl (decide (x=.non))) H):=by
 intro YB s σ H x y v u Q I rx ry h;obtain⟨rfl,q⟩:=h;cases ry;refine is_none_gen (fin_bl I q ?_);cases x<;>first
  |(cases rx;rfl)
  |(obtain⟨t,rfl⟩:=rx;rfl)
def OpR.or(h:OpR X f r)(h':OpR X f r'):OpR X f (λx y H Q=>r x y H Q\/r' x y H Q):=by
 intro YB s σ H x y v u Q I rx ry q;rcases q with q | q
 ·exact h YB s σ H x y v u Q I rx ry q
 ·exact h' YB s σ H x y v u Q I rx ry q
def nomark(b:Expr)(h:op≠.In:=by decide)(h2:op≠.NotIn:=by decide):behindInMarks op b=false:=by
 have e1:(op==CmpOp.In)=false:=by cases op<;>first | rfl | exact absurd rfl h
 have e2:(op==CmpOp.NotIn)=false:=by cases op<;>first | rfl | exact absurd rfl h2
 cases b<;>simp[behindInMarks,e1,e2]
def pe_cmpR(ho:OpR X (compareOp op) r)(ha:PE X a ta)(hb:PE X b tb)(hm:behindInMarks op b=false):PE X (.Compare a [op] [b] pos) (tOp r ta tb):=by intro YB s σ H Q I h;exact wpAny_Compare1 (binT ha hb I h λv u s2 x y H2 I2 rx ry q=>ho YB s2 σ H2 x y v u Q I2 rx ry q) hm
def tTest(t:TE):TT:=λσ H Q=>t σ H λx H'=>∃k,x=.bl k/\Q k H'
def pt_cmpR(ho:OpR X (compareOp op) r)(ha:PE X a ta)(hb:PE X b tb)(hm:behindInMarks op b=false):PT X (.Compare a [op] [b] pos) (tTest (tOp r ta tb)):=by
 intro YB s σ H Q I h;refine wpAny_isTrue_Compare1 (thn (ha YB s σ H _ I h) λv s1 ⟨x,H1,I1,r1,q1⟩=>thn (hb YB s1 σ H1 _ I1 q1) λu s2 ⟨y,H2,I2,r2,q2⟩=>
  thn (ho YB s2 σ H2 x y v u _ I2 r1 r2 q2) λc s3 ⟨z,H3,I3,r3,k,e,q3⟩=>?_) hm
 subst e;cases r3;exact Vw ⟨H3,I3,q3⟩
def tChain(r r':R2)(ta tb tc:TE):TE:=λσ H Q=>ta σ H λx H1=>tb σ H1 λy H2=>r x y H2 λz H3=>∃k,z=.bl k /\
 (if k=true then tc σ H3 λw' H4=>r' y w' H4 Q else Q (.bl false) H3)
def pe_chain(ho:OpR X (compareOp op) r)(ho':OpR X (compareOp op') r')(ha:PE X a ta)(hb:PE X b tb)(hc:PE X c tc)
  (hm:lastMarks [op,op'] [b,c]=false:=by with_unfolding_all rfl):PE X (.Compare a [op,op'] [b,c] pos) (tChain r r' ta tb tc):=by
 intro YB s σ H Q I h;refine Compare_chain (thn (ha YB s σ H _ I h) λv s1 ⟨x,H1,I1,r1,q1⟩=>chain_link (thn (hb YB s1 σ H1 _ I1 q1) λu s2 ⟨y,H2,I2,r2,q2⟩=>
  thn (ho YB s2 σ H2 x y v u _ I2 r1 r2 q2) λd s3 ⟨z,H3,I3,r3,k,e,q3⟩=>?_)) hm
 subst e;cases r3;refine Vw ?_;cases k with
 |false=>exact ite_ff ⟨.bl false,H3,I3,rfl,q3⟩
 |true=>exact ite_tt (chain_last (thn (hc YB s3 σ H3 _ I3 q3) λw' s4 ⟨z',H4,I4,r4,q4⟩=>ho' YB s4 σ H4 y z' u w' Q I4 r2 r4 q4))
def pt_chain(ho:OpR X (compareOp op) r)(ho':OpR X (compareOp op') r')(ha:PE X a ta)(hb:PE X b tb)(hc:PE X c tc)
  (hm:lastMarks [op,op'] [b,c]=false:=by with_unfolding_all rfl):PT X (.Compare a [op,op'] [b,c] pos) (tTest (tChain r r' ta tb tc)):=by
 intro YB s σ H Q I h;refine isTrue_chain (thn (ha YB s σ H _ I h) λv s1 ⟨x,H1,I1,r1,q1⟩=>test_link (thn (hb YB s1 σ H1 _ I1 q1) λu s2 ⟨y,H2,I2,r2,q2⟩=>
  thn (ho YB s2 σ H2 x y v u _ I2 r1 r2 q2) λd s3 ⟨z,H3,I3,r3,k,e,q3⟩=>?_)) hm
 subst e;cases r3;refine Vw ?_;cases k with
 |false=>obtain⟨k',e',q'⟩:=q3;cases e';exact ite_ff ⟨H3,I3,q'⟩
 |true=>
   refine ite_tt (test_last (thn (hc YB s3 σ H3 _ I3 q3) λw' s4 ⟨z',H4,I4,r4,q4⟩=>thn (ho' YB s4 σ H4 y z' u w' _ I4 r2 r4 q4) λd' s5 ⟨z2,H5,I5,r5,k2,e2,q5⟩=>?_))
   subst e2;cases r5;exact Vw ⟨H5,I5,q5⟩
def TruV(K:PySem.W.Frag)(x:V)(H:Hp)(k:Bool):Prop:=
 match x with
 |.non=>k=false
 |.bl b=>k=b
 |.int i=>k=(i != 0)
 |.str y=>y.length<=sizeLine/\k=((y.length:Int) != 0)
 |.byt y=>y.size<=sizeLine/\k=((y.size:Int) != 0)
 |.ref p=>(∃xs,SqL K H p xs/\k=!xs.isEmpty)\/(∃xs,SqT K H p xs/\k=!xs.isEmpty)\/∃kvs,H p=some (.dK kvs)/\k=!kvs.isEmpty
 |_=>False
def isEmpty_kv(r:KV kvs vs):(!vs.isEmpty)=!kvs.isEmpty:=by cases r<;>rfl
def isEmpty_of(r:Vals xs its):(!its.toArray.isEmpty)=!xs.isEmpty:=by cases r<;>simp
def line63:(sizeLine:Nat)<2^63:=by rw[VB];decide
def tru_ok:TruR X (λx H Q=>∃ k,TruV X.K x H k/\Q k H):=by
 intro YB s σ H x v Q I rx h;obtain⟨k,e,q⟩:=h;have hl:=line63;have hs:sizeLine=16777216:=VB;cases x with
 |non=>cases rx;have e':k=false:=e;subst e';exact truthy_none ⟨H,I,q⟩
 |bl b=>cases rx;have e':k=b:=e;subst e';exact Vw ⟨H,I,q⟩
 |int i=>obtain⟨t,rfl⟩:=rx;have e':k=(i != 0):=e;subst e';exact PySem.P.truthy_int ⟨H,I,q⟩
 |str y=>obtain⟨t,rfl⟩:=rx;obtain⟨hy,e'⟩:y.length<=sizeLine/\k=((y.length:Int) != 0):=e;subst e';exact PySem.P.truthy_str (by omega) ⟨H,I.tok _,q⟩
 |byt y=>obtain⟨t,rfl⟩:=rx;obtain⟨hy,e'⟩:y.size<=sizeLine/\k=((y.size:Int) != 0):=e;subst e';exact PySem.W.truthy_bytes (by omega) ⟨H,I.tok _,q⟩
 | ref p=>
   cases rx;have e':(∃xs,SqL X.K H p xs/\k=!xs.isEmpty)\/(∃xs,SqT X.K H p xs/\k=!xs.isEmpty)\/∃kvs,H p=some (.dK kvs)/\k=!kvs.isEmpty:=e;rcases e' with ⟨xs,hx,e'⟩ | ⟨xs,hx,e'⟩ | ⟨kvs,hx,e'⟩
   ·subst e';obtain⟨its,r,pl,hz⟩:=I.list hx;have hlen:=r.length;exact wpAny_truthy_list pl.isList (by simp only[List.size_toArray];omega) ⟨H,I.tok _,by rw[isEmpty_of r];exact q⟩
   ·subst e';obtain⟨its,r,pl,hz⟩:=I.tuple hx;have hlen:=r.length;exact truthy_tuple pl (by simp only[List.size_toArray];omega) ⟨H,I.tok _,by rw[isEmpty_of r];exact q⟩
   ·subst e';obtain⟨hz,hS,vs,r,m⟩:kvs.length<=sizeLine/\(p==sysModules)=false/\∃vs,KV kvs vs/\s.heap.DictOf (mixKind X.prog X.w) p vs:=I.hok p _ hx;have hlen:kvs.length=vs.length:=W8 r;exact wpAny_truthy_dict hS m (by omega) ⟨H,I.tok _,by rw[isEmpty_kv r];exact q⟩
 |_=>exact (show False from e).elim
def pt_truth(ha:PE X a ta)(he:∀whole,isTrue a X.env whole=(do let v <-whole;standAt a.pos;holding [v] (truthy v))):
  PT X a (λσ H Q=>ta σ H λx H'=>∃k,TruV X.K x H' k/\Q k H'):=by
 intro YB s σ H Q I h;exact isTrue_plain (thn (ha YB s σ H _ I h) λv s1 ⟨x,H1,I1,r1,q1⟩=>tru_ok YB s1 σ H1 x v Q I1 r1 q1) (he _)
def op_add_str:OpR X (binaryOp .Add) (λx y H Q=>∃i j,x=.str i/\y=.str j/\i.length+j.length<=sizeLine/\Q (.str (i++j)) H):=by intro YB s σ H x y v u Q I rx ry h;obtain⟨i,j,rfl,rfl,hz,q⟩:=h;obtain⟨t,rfl⟩:=rx;obtain⟨t',rfl⟩:=ry;exact add_str (λt' tk=>⟨.str (i++j),H,I.tok _,⟨_,rfl⟩,q⟩) hz
def vals1(r:Vals [x] us):∃u,us=[u]/\RelV x u:=by
 cases r with
 |cons r1 r2=>cases r2;exact⟨_,rfl,r1⟩
def vals2(r:Vals [x,y] us):∃ u w',us=[u,w']/\RelV x u/\RelV y w':=by
 cases r with
 |cons r1 r2=>
   cases r2 with
   |cons r3 r4=>cases r4;exact⟨_,_,rfl,r1,r3⟩
def call_max2(hc:X.calm=true):CallR X (.builtin "max") (λxs H Q=>∃i j,xs=[.int i,.int j]/\Q (.int (if j > i then j else i)) H):=by
 intro YB s σ H xs us Q I r h;obtain⟨i,j,rfl,q⟩:=h;obtain⟨u,w',rfl,⟨t,rfl⟩,⟨t',rfl⟩⟩:=vals2 r;refine max_two_ints (I.ok.hd hc) λh' tk k=>⟨_,H,I.kept k,?_,q⟩
 by_cases hj:j > i
 ·rw[Tf hj,Tf hj];exact⟨_,rfl⟩
 ·rw[Ti hj,Ti hj];exact⟨_,rfl⟩
end
open PySem PySem.Spec PyProof.Rows
structure ObjM(h:Heap)(x dx C:Addr)(mA:Str->Option Value):Prop where
 obj:h.get? x=some (PySem.W.instObj C dx)
 ns:h.Ns1 dx mA
 ne:dx≠x
set_option tactic.hygienic true in
def lookIn_ns{h:Heap}{dx:Addr}{mA:Str->Option Value}(n:h.Ns1 dx mA):∃ od,h.get? dx=some od/\∀ name,PySem.W.lookIn name od=some (mA name):=by
 obtain⟨o,es,ep,ho,hd,hk,_,hm⟩:=n;refine⟨o,ho,λname=>?_⟩
 have e:=hm name;unfold nsFind findBy at e;rw[<-Array.find?_toList]at e;unfold PySem.W.lookIn;rw[hd];dsimp only;split
 ·rename_i y q;rw[q]at e;exact congrArg some e
 ·rename_i q;rw[q]at e;have a:es.toList.any (·.refKey)=false:=by rw[List.any_eq_false];intro y hy;obtain⟨z,t,hkey⟩:=hk y (Array.mem_toList_iff.mp hy);simp[DictEntry.refKey,hkey]
  have a':¬ es.toList.any (·.refKey)=true:=by rw[a];exact TX
  rw[Ti a'];exact congrArg some e
def ObjM.look(I:ObjM h x dx C mA):∃od,PySem.W.InstAt h x (PySem.W.instObj C dx) C (some od)/\∀name,PySem.W.lookIn name od=some (mA name):=
 let ⟨od,ho,hl⟩:=lookIn_ns I.ns
 ⟨od,⟨I.obj,rfl,rfl,ho⟩,hl⟩
section
variable{prog:Program}{w:World}{A:Around}{E:Value->Shared->Prop}{s:Shared}{K:PySem.W.Frag}{x dx C f:Addr}{mA:Str->Option Value}{name:Str}{v:Value}
def get_map(X:K.In s.heap)(I:ObjM s.heap x dx C mA)(hg:PySem.W.plainGet K C name=true)(hh:PySem.W.hasDictIn K C=true)
  (ha:PySem.W.findIn K (.ref C) name=some none) (hv:mA name=some v) (hv':PySem.W.handedIn v=true) (h:Q v { s with toks:=s.toks+1 }) :
  wpAny (model prog w) A (getAttr (.ref x) name expr) Q E s:=by
 obtain⟨od,J,hl⟩:=I.look;exact PySem.W.get_value X J (PySem.W.plainGet_of hg).1 (PySem.W.findObj_own hh ha rfl (by rw[hl,hv])) hv' h
def set_map(X:K.In s.heap)(I:ObjM s.heap x dx C mA)
  (hs:PySem.W.findIn K (.ref C) "__setattr__"=some (some (.builtin "object.__setattr__"))) (hp:PySem.W.plainOver K C=true) (ht:PySem.W.takerIn K C name=some none) (hh:PySem.W.hasDictIn K C=true)
  (hw:PySem.Within mA ns) (hsz:ns.length<=sizeLine)
  (h:∀h',ObjM h' x dx C (λy=>if y=name then some v else mA y)->Heap.SameBut dx s.heap h'->Q () { s with heap:=h',toks:=s.toks+2 }) :
  wpAny (model prog w) A (setAttr (.ref x) name v) Q E s:=by
 obtain⟨od,J,hl⟩:=I.look;refine PySem.W.set_plain X J hs (PySem.W.osa_open (s:={ s with toks:=s.toks+1 }) (r:=none) X J hp ht λb=>?_)
 obtain⟨cd,hc,hd'⟩:=PySem.W.any_some hh;have hx:s.heap.get? x=some ⟨.ref C,some dx,.plain,#[]⟩:=I.obj;refine SX (S6 (SX (SX (wpAny_loadPart hx (SX (PySem.W.Looks.here (s:={ s with toks:=s.toks+1 }) (PySem.W.looks_clsIn X hc) ?_))))))
 rw[hd'];refine S6 (a:=some dx) (SX (S6 (SX ?_)));refine wpAny_nsSet1 (s:={ s with toks:=s.toks+1 }) I.ns λh' hn2 hs2=>?_
 obtain⟨oD,esD,epD,hoD,hdD,hcD⟩:=hn2.count (PySem.Within.cons name v hw);refine SX (wpAny_lookBehind hoD (by rw[hdD];exact pastItsLine_dict (Ue hcD (by rw[UG];omega))) ?_)
 exact S6 (h _ ⟨(hs2.2 _ (Ne.symm I.ne)).trans I.obj,hn2,I.ne⟩ hs2)
def make_map(X:K.In s.heap)(hm:PySem.W.makesIn K C=true)
  (hi:PySem.W.findIn K (.ref C) "__init__"=some (some (.ref f))) (hf:PySem.W.typeIn K (.ref f)=some (.type "function"))
  (h:codeAny (model prog w) (A.under (.builtin "type.__call__" ⟨.ref C::vs,kw⟩)) (.call (.ref f) ⟨.ref (s.heap.objs.size+1)::vs,kw⟩) (PySem.W.InitBack (s.heap.objs.size+1) R)
    { s with heap:=(s.heap.push PySem.W.emptyDict).push (PySem.W.instObj C s.heap.objs.size) }) :
  codeAny (model prog w) A (.call (.ref C) ⟨vs,kw⟩) R s:=by
 obtain⟨hh,g,d,t,os⟩:=s;exact PySem.W.make_core (PySem.W.makes_of X hm) (PySem.W.looks_findIn X hi) (λself=>PySem.W.bind_fn X self hf) (.inl rfl) h
end
def putF(f:Str)(v:V):List (Str×V)->List (Str×V)
 |[]=>[(f,v)]
 |(g,x)::r=>if g=f then (g,v)::r else (g,x)::putF f v r
theorem lookup_putF(f g:Str)(v:V):∀ fs:List (Str×V),(putF f v fs).lookup g=if g=f then some v else fs.lookup g
 | []=>by
   show List.lookup g [(f,v)]=_;by_cases h:g=f
   ·have hb:(g==f)=true:=Yn.mpr h;simp only[List.lookup,hb,if_pos h]
   ·have hb:(g==f)=false:=V0.mpr h;simp only[List.lookup,hb,if_neg h]
 | (k,x)::r=>by
   have ih:=lookup_putF f g v r;rw[show putF f v ((k,x)::r)=(if k=f then (k,v)::r else (k,x)::putF f v r) from rfl]
   by_cases hk:k=f
   ·rw[Tf hk];by_cases h:g=k
    ·have hb:(g==k)=true:=Yn.mpr h;simp only[List.lookup,hb,if_pos (h.trans hk)]
    ·have hb:(g==k)=false:=V0.mpr h;simp only[List.lookup,hb,if_neg (λe:g=f=>h (e.trans hk.symm))]
   ·rw[Ti hk];by_cases h:g=k
    ·have hb:(g==k)=true:=Yn.mpr h;simp only[List.lookup,hb,if_neg (λe:g=f=>hk (h.symm.trans e))]
    ·have hb:(g==k)=false:=V0.mpr h;simp only[List.lookup,hb];exact ih
theorem keys_putF(f:Str)(v:V):∀ fs:List (Str×V),f∈(putF f v fs).map (·.1)/\∀ g,g∈fs.map (·.1)->g∈(putF f v fs).map (·.1)
 |[]=>⟨by simp[putF],λg h=>by simp at h⟩
 | (k,x)::r=>by
   obtain⟨i1,i2⟩:=keys_putF f v r;rw[show putF f v ((k,x)::r)=(if k=f then (k,v)::r else (k,x)::putF f v r) from rfl]
   by_cases hk:k=f
   ·rw[Tf hk];subst hk;exact⟨by simp,λg h=>by simpa using h⟩
   ·rw[Ti hk];refine⟨?_,λg h=>?_⟩
    ·rw[Ud];exact Ua _ i1
    ·rw[Ud]at h ⊢
     rcases Tt.mp h with e | e
     ·exact Tt.mpr (.inl e)
     ·exact Ua _ (i2 g e)
theorem length_putF(f:Str)(v:V):∀ fs:List (Str×V),(putF f v fs).length<=fs.length + 1
 |[]=>by simp[putF]
 |(k,x)::r=>by
   have ih:=length_putF f v r;rw[show putF f v ((k,x)::r)=(if k=f then (k,v)::r else (k,x)::putF f v r) from rfl]
   by_cases hk:k=f
   ·rw[Tf hk,UG,UG];omega
   ·rw[Ti hk,UG,UG];omega
def RelO.some_of(r:RelO (some v) o):∃u,o=some u/\RelV v u:=by
 cases o with
 |none=>exact (show False from r).elim
 |some u=>exact⟨u,rfl,r⟩
def handed_of(r:RelV v u):PySem.W.handedIn u=true:=by
 cases v with
 |non=>cases (show u=Value.none from r);rfl
 |bl b=>cases (show u=Value.bool b from r);rfl
 |int i=>obtain⟨t,e⟩:=(show ∃t,u=Value.int i t from r);cases e;rfl
 |str x=>obtain⟨t,e⟩:=(show ∃t,u=Value.str x t from r);cases e;rfl
 |byt b=>obtain⟨t,e⟩:=(show ∃t,u=Value.bytes b t from r);cases e;rfl
 |flt b=>obtain⟨t,e⟩:=(show ∃t,u=Value.float b t from r);cases e;rfl
 |ref a=>cases (show u=Value.ref a from r);rfl
 |ty n=>cases (show u=Value.type n from r);rfl
section
variable{P:Program}{w:World}{H H':Hp}{h h':Heap}{a C dx:Addr}{fs fs':List (Str×V)}
def ins_get(hok:HOk P w H h)(e:H a=some (.ins C dx fs)):∃mA,ObjM h a dx C mA/\(∀f,RelO (fs.lookup f) (mA f))/\PySem.Within mA (fs.map (·.1))/\fs.length<=1000/\H dx=some (.own a):=by
 obtain⟨d,z,ne,ob,mA,n,r,q⟩:=(show ObjOk P w H h a (.ins C dx fs) from hok a _ e)
 exact⟨mA,⟨ob,n,ne⟩,r,q,z,d⟩
end
structure Cls(K:PySem.W.Frag)(C:Addr):Prop where
 pg:PySem.W.plainGet K C Str.empty=true
 hd:PySem.W.hasDictIn K C=true
 po:PySem.W.plainOver K C=true
 sa:PySem.W.findIn K (.ref C) "__setattr__"=some (some (.builtin "object.__setattr__"))
def Cls.get{K:PySem.W.Frag}{C:Addr}(c:Cls K C)(f:Str):PySem.W.plainGet K C f=true:=c.pg
def NoAttr(K:PySem.W.Frag)(C:Addr)(f:Str):Prop:=PySem.W.findIn K (.ref C) f=some none
def NoAttr.taker{K:PySem.W.Frag}{C:Addr}{f:Str}(n:NoAttr K C f):PySem.W.takerIn K C f=some none:=by
 unfold PySem.W.takerIn;rw[show PySem.W.findIn K (.ref C) f=some none from n]
 rfl
section
variable{X:Cx}{YB:List (Addr×Obj)}{σ:St}{H:Hp}{s:Shared}{a C dx:Addr}{fs:List (Str×V)}{f:Str}{v:V}{A:Around}{E:Value->Shared->Prop}
def getattr_ok(I:Inv X YB σ H s)(e:H a=some (.ins C dx fs))(c:Cls X.K C)(n:NoAttr X.K C f)(l:fs.lookup f=some v)
  (h:∀u s',Inv X YB σ H s'->RelV v u->Q u s'):wpAny (model X.prog X.w) A (getAttr (.ref a) f b) Q E s:=by
 obtain⟨mA,O,r,_,_,_⟩:=ins_get I.hok e;obtain⟨u,hu,ru⟩:=RelO.some_of (v:=v) (o:=mA f) (by rw[<-l];exact r f)
 exact get_map I.kIn O (c.get f) c.hd n hu (handed_of ru) (h u _ (I.tok _) ru)
def setattr_ok(I:Inv X YB σ H s)(e:H a=some (.ins C dx fs))(c:Cls X.K C)(n:NoAttr X.K C f)(hl:fs.length<1000)(ry:RelV y u)
  (h:∀s',Inv X YB σ (upd H a (.ins C dx (putF f y fs))) s'->Q () s'):wpAny (model X.prog X.w) A (setAttr (.ref a) f u) Q E s:=by
 obtain⟨mA,O,r,wi,_,ho⟩:=ins_get I.hok e;have hz:(fs.map (·.1)).length<=sizeLine:=by rw[S9,VB];omega
 refine set_map I.kIn O c.sa c.po n.taker c.hd wi hz λh' O' sb=>h _ ?_
 have hd:∃o,h'.get? dx=some o:=let ⟨o,_,_,e',_⟩:=O'.ns;⟨o,e'⟩
 refine I.write (x:=a) (e:=dx) (by rw[e];exact True.intro) (.inr ho) (λb q hb z=>(sb.2 b hb).trans z) hd ?_
 refine⟨by rw[upd_ne O.ne];exact ho,?_,O.ne,O'.obj,_,O'.ns,λg=>?_,λg hg=>?_⟩
 ·have:=length_putF f y fs;omega
 ·show RelO ((putF f y fs).lookup g) (if g=f then some u else mA g)
  rw[lookup_putF];by_cases q:g=f
  ·rw[Tf q,Tf q];exact ry
  ·rw[Ti q,Ti q];exact r g
 ·by_cases q:g=f
  ·rw[q];exact (keys_putF f y fs).1
  ·refine (keys_putF f y fs).2 g (wi g λz=>hg ?_)
   show (if g=f then some u else mA g)=none
   rw[Ti q];exact z
def Inv.made(I:Inv X YB σ H s):Inv X YB σ (upd (upd H s.heap.objs.size (.own (s.heap.objs.size+1))) (s.heap.objs.size+1) (.ins C s.heap.objs.size []))
  { s with heap:=(s.heap.push PySem.W.emptyDict).push (PySem.W.instObj C s.heap.objs.size) }:=by
 have e1:(s.heap.push PySem.W.emptyDict).get? s.heap.objs.size=some PySem.W.emptyDict:=Tg s.heap rfl;have e2:((s.heap.push PySem.W.emptyDict).push (PySem.W.instObj C s.heap.objs.size)).get? (s.heap.objs.size+1)=some (PySem.W.instObj C s.heap.objs.size):=by
  have:=Tg (s.heap.push PySem.W.emptyDict) (o:=PySem.W.instObj C s.heap.objs.size) rfl
  rwa [T5]at this
 have e3:(s.heap.push PySem.W.emptyDict).Ns s.heap.objs.size (λz=>none):=⟨PySem.W.emptyDict,#[],_,e1,rfl,(λe he=>absurd he (by simp)),λz=>rfl⟩
 have I1:=I.laid (a:=s.heap.objs.size) (o:=.own (s.heap.objs.size+1)) (h':=s.heap.push PySem.W.emptyDict) (t':=s.toks) (λb u q=>S5 _ q) (Td _) ⟨_,e1⟩
 refine I1.laid (a:=s.heap.objs.size+1) (o:=.ins C s.heap.objs.size []) (t':=s.toks) (λb u q=>S5 _ q) (Nat.le_of_eq (T5 _ _)) ?_
 have ne:s.heap.objs.size≠s.heap.objs.size+1:=Tj (U7 _);refine⟨by rw[upd_ne ne,upd_same],Vb _,ne,e2,λz=>none,(Heap.Ns1.of_empty e3).at λo q=>S5 _ q,λz=>True.intro,λy hy=>absurd rfl hy⟩
def attr_of(hb:attributeBase e f env (eval e env)=eval e env)
  (h:wpAny (model prog w) A (eval e env) (λo s₁=>wpAny (model prog w) A (getAttr o f true) Q E s₁) E s):wpAny (model prog w) A (eval (.Attribute e f pos) env) Q E s:=
 Attribute_any_ h (by rw[arm_eval_Attribute,hb])
end
def tFld(K:PySem.W.Frag)(ta:TE)(f:Str):TE:=λσ H Q=>ta σ H λx H1=>∃a C dx fs v,x=.ref a/\H1 a=some (.ins C dx fs)/\Cls K C/\NoAttr K C f/\fs.lookup f=some v/\Q v H1
def sFld(K:PySem.W.Frag)(ta tv:TE)(f:Str):TS:=λD σ H=>tv σ H λy H1=>ta σ H1 λx H2=>∃a C dx fs,x=.ref a/\H2 a=some (.ins C dx fs)/\Cls K C/\NoAttr K C f/\fs.length<1000 /\
 D.nx σ (upd H2 a (.ins C dx (putF f y fs)))
section
variable{X:Cx}{o e value:Expr}{f:Str}{pos pos' tpos:Pos}{ta tv:TE}
def pe_fld(he:PE X e ta)(hb:attributeBase e f X.env (eval e X.env)=eval e X.env):PE X (.Attribute e f pos) (tFld X.K ta f):=by
 intro YB s σ H Q I h;refine attr_of hb (thn (he YB s σ H _ I h) λu s1 ⟨x,H1,I1,rx,a,C,dx,fs,v,ex,ea,c,n,l,q⟩=>?_)
 subst ex;obtain rfl:u=Value.ref a:=rx;exact getattr_ok I1 ea c n l λu' s2 I2 ru=>⟨v,H1,I2,ru,q⟩
def ps_fld(ha:PE X o ta)(hv:PE X value tv)(hs:swapsWith value (some (.Attribute o f pos')) pos.line X.env=pure false):PS X (.Assign [.Attribute o f pos'] value pos) (sFld X.K ta tv f):=by
 intro YB s σ H D I h;refine plainObj_wpAny_Assign_Attribute (thn (hv YB s σ H _ I h) λu s1 ⟨y,H1,I1,ry,q⟩=>thn (ha YB s1 σ H1 _ I1 q) λov s2 ⟨x,H2,I2,rx,a,C,dx,fs,ex,ea,c,n,l,q2⟩=>?_) hs
 subst ex;obtain rfl:ov=Value.ref a:=rx;exact setattr_ok I2 ea c n l ry λs3 I3=>⟨σ,_,I3,q2⟩
end
section
variable{X:Cx}{YB:List (Addr×Obj)}{σ:St}{H:Hp}{s:Shared}{A:Around}{E:Value->Shared->Prop}{Q:Value->Shared->Prop}{c:Value}{b:Bool}
inductive TyOf(K:PySem.W.Frag)(H:Hp):V->Value->Prop where
 |non:TyOf K H .non (.type "NoneType")
 |bl (x:Bool):TyOf K H (.bl x) (.type "bool")
 |int (i:Int):TyOf K H (.int i) (.type "int")
 |str (x:Str):TyOf K H (.str x) (.type "str")
 |flt (x:UInt64):TyOf K H (.flt x) (.type "float")
 |lst {a:Addr}{xs:List V} (e:H a=some (.lst xs)):TyOf K H (.ref a) (.type "list")
 |frz {a:Addr}{o:Obj}{xs:List V} (e:H a=some (.frz o (.lst xs))):TyOf K H (.ref a) (.type "list")
 |tup {a:Addr}{xs:List V} (e:H a=some (.tup xs)):TyOf K H (.ref a) (.type "tuple")
 |dK {a:Addr}{kvs:List (Key×V)} (e:H a=some (.dK kvs)):TyOf K H (.ref a) (.type "dict")
 |dT {a:Addr}{kvs:List (List Key×V)} (e:H a=some (.dT kvs)):TyOf K H (.ref a) (.type "dict")
 |ins {a C dx:Addr}{fs:List (Str×V)} (e:H a=some (.ins C dx fs)) (cl:Cls K C) (ha:PySem.W.findIn K (.ref C) "__class__"=some (some (.builtin "object.__class__")))
   (hn:PySem.W.specialIn K (.builtin "object.__class__") "__get__"=some (some (.builtin "getset_descriptor.__get__"))) (htk:PySem.W.takesIn K (.builtin "object.__class__")=some true)
   (hm:PySem.W.mroIn K C (.type "object")=some true):TyOf K H (.ref a) (.ref C)
def isinst_ok(I:Inv X YB σ H s)(rx:RelV x u)(ty:TyOf X.K H x t)(e:PySem.W.kitOne X.K t c=some b)(h:∀ tk,Q (.bool b) { s with toks:=tk }):
  wpAny (model X.prog X.w) A (call (.builtin "isinstance") [u,c]) Q E s:=by
 cases ty with
 |non=>cases (show u=Value.none from rx);exact Vh PySem.W.kitx_none I.kIn True.intro e (λz=>nomatch z) h
 |bl y=>cases (show u=Value.bool y from rx);exact Vh PySem.W.kitx_bool I.kIn True.intro e (λz=>nomatch z) h
 |int i=>obtain⟨t,q⟩:=(show ∃t,u=Value.int i t from rx);cases q;exact Vh PySem.W.kitx_int I.kIn True.intro e (λz=>nomatch z) h
 |str y=>obtain⟨t,q⟩:=(show ∃t,u=Value.str y t from rx);cases q;exact Vh PySem.W.kitx_str I.kIn True.intro e (λz=>nomatch z) h
 |flt y=>obtain⟨t,q⟩:=(show ∃t,u=Value.float y t from rx);cases q;exact Vh PySem.W.kitx_float I.kIn True.intro e (λz=>nomatch z) h
 | @lst a xs ea=>
   cases (show u=Value.ref a from rx)
   obtain⟨_,_,n,_,h1⟩:=(show ObjOk X.prog X.w H s.heap a (.lst xs) from I.hok a _ ea)
   exact Vh PySem.W.kitx_list I.kIn ⟨_,h1,rfl⟩ e (λz=>nomatch z) h
 | @frz a ob xs ea=>
   cases (show u=Value.ref a from rx)
   obtain⟨_,_,_,n,_,h1⟩:=(show ObjOk X.prog X.w H s.heap a (.frz ob (.lst xs)) from I.hok a _ ea)
   exact Vh PySem.W.kitx_list I.kIn ⟨_,h1,rfl⟩ e (λz=>nomatch z) h
 | @tup a xs ea=>
   cases (show u=Value.ref a from rx)
   obtain⟨_,_,_,p⟩:=(show ObjOk X.prog X.w H s.heap a (.tup xs) from I.hok a _ ea)
   obtain⟨o,h1,h2,_⟩:=p;exact Vh PySem.W.kitx_tuple I.kIn ⟨o,h1,h2⟩ e (λz=>nomatch z) h
 | @dK a kvs ea=>
   cases (show u=Value.ref a from rx)
   obtain⟨_,_,vs,_,p⟩:=(show ObjOk X.prog X.w H s.heap a (.dK kvs) from I.hok a _ ea)
   obtain⟨o,es,ep,h1,h2,_⟩:=p;exact Vh PySem.W.kitx_dict I.kIn ⟨o,h1,h2.1⟩ e (λz=>nomatch z) h
 | @dT a kvs ea=>
   cases (show u=Value.ref a from rx)
   obtain⟨_,_,xs,_,o,es,ep,h1,h2,_⟩:=(show ObjOk X.prog X.w H s.heap a (.dT kvs) from I.hok a _ ea)
   exact Vh PySem.W.kitx_dict I.kIn ⟨o,h1,h2.1⟩ e (λz=>nomatch z) h
 | @ins a C dx fs ea cl ha hn htk hm=>
   cases (show u=Value.ref a from rx)
   obtain⟨mA,O,_⟩:=ins_get I.hok ea;obtain⟨od,J,_⟩:=O.look;exact Vh (PySem.W.kitx_own (cl.get _) cl.hd ha hn htk hm) I.kIn J e (λz=>nomatch z) h
end
open PySem PySem.Spec PyProof.Rows
structure Room(k:Nat)(A:Around):Prop where
 hd:A.handled=none
 dp:A.depth+3*k+5<recursionLimit
 un:A.units+16*k+200<cLine
 gd:A.guards=some []
def Room.mono(r:Room k A)(h:j<=k):Room j A:=⟨r.hd,by have:=r.dp;omega,by have:=r.un;omega,r.gd⟩
theorem Room.deeper(r:Room (k+1) A)(env:Env):Room k (A.deeper env):=
 ⟨r.hd,by have:=r.dp;show A.depth+1+3*k+5<_;omega,by have:=r.un;show A.units+3+16*k+200<_;omega,r.gd⟩
theorem Room.in1(r:Room (k+1) A):Room k A.in1:=
 ⟨r.hd,by have:=r.dp;show A.depth+3*k+5<_;omega,by have:=r.un;show A.units+1+16*k+200<_;omega,r.gd⟩
def make_depth{A:Around}{C:Addr}{us:List Value}{kw:List (Str×Value)}:(A.under (.builtin "type.__call__" ⟨.ref C::us,kw⟩)).depth=A.depth+1:=by
 first | rfl | simp[Around.under,Code.weight,Code.isCreation,Code.isGuard,Code.isCaller,Code.frames,Code.isFrame,guardIds]
def make_units{A:Around}{C:Addr}{us:List Value}{kw:List (Str×Value)}:(A.under (.builtin "type.__call__" ⟨.ref C::us,kw⟩)).units=A.units+1:=by
 first | rfl | simp[Around.under,Code.cUnits,Code.frames,Code.isFrame]
def Am{A:Around}{C:Addr}{us:List Value}{kw:List (Str×Value)}:(A.under (.builtin "type.__call__" ⟨.ref C::us,kw⟩)).guards=A.guards:=by simp[Around.under,Code.guards,Code.isGuard,guardIds,pushGuards]
def Room.make(r:Room (k+1) A)(C:Addr)(us:List Value)(kw:List (Str×Value)):Room k (A.under (.builtin "type.__call__" ⟨.ref C::us,kw⟩)):=
 ⟨r.hd,by have:=r.dp;rw[make_depth];omega,by have:=r.un;rw[make_units];omega,by first | (rw[Am];exact r.gd) | exact r.gd⟩
theorem Room.depth(r:Room k A):A.depth<recursionLimit:=by have:=r.dp;omega
theorem Room.units(r:Room k A):A.units+64<cLine:=by have:=r.un;omega
def tNil:TA:=λz H Q=>Q [] H
def tCons(ta:TE)(tr:TA):TA:=λσ H Q=>ta σ H λx H1=>tr σ H1 λxs H2=>Q (x::xs) H2
section
variable{X:Cx}{e:Expr}{es:List Expr}{te:TE}{t:TA}{pos:Pos}
def pa_nil:PA X [] tNil:=λz z z z H Q I h=>Ys ⟨[],H,I,.nil,h⟩
def pa_cons(ha:PE X e te)(hr:PA X es t)(hs:starEach (e::es) X.env=(false,eval e X.env)::starEach es X.env:=by rfl):PA X (e::es) (tCons te t):=by
 intro pos YB s σ H Q I h;rw[hs];show wpAny _ _ (spliced ((false,eval e X.env)::backTo pos (starEach es X.env))) _ _ s;refine Yr (thn (ha YB s σ H _ I h) λu s1 ⟨x,H1,I1,r1,q1⟩=>?_)
 exact thn (hr pos YB s1 σ H1 _ I1 q1) λus s2 ⟨xs,H2,I2,r2,q2⟩=>⟨x::xs,H2,I2,.cons r1 r2,q2⟩
def tTup(t:TA):TE:=λσ H Q=>t σ H λxs H1=>xs.length<=sizeLine/\∀p,H1 p=none->Q (.ref p) (upd H1 p (.tup xs))
def tLst(t:TA):TE:=λσ H Q=>t σ H λxs H1=>xs.length<=sizeLine/\∀p,H1 p=none->Q (.ref p) (upd H1 p (.lst xs))
def pe_tup{x1}(h:PA X es t):PE X (.Tuple es x1 pos) (tTup t):=by
 intro YB s σ H Q I hq;refine wpAny_Tuple_spliced (thn (h pos YB s σ H _ I hq) λus s1 ⟨xs,H1,I1,r,z,q⟩=>⟨by rw[<-r.length];exact z,?_⟩)
 have hf:H1 s1.heap.objs.size=none:=I1.hok.fresh (Td _);refine⟨.ref s1.heap.objs.size,upd H1 s1.heap.objs.size (.tup xs),I1.laid (t':=s1.toks) (λb u e=>S5 _ e) (Td _) ?_,rfl,q _ hf⟩
 exact⟨z,us,r,⟨_,Tg _ rfl,rfl,_,rfl⟩⟩
def pe_lst(h:PA X es t):PE X (.List es pos) (tLst t):=by
 intro YB s σ H Q I hq;refine wpAny_List_spliced (thn (h pos YB s σ H _ I hq) λus s1 ⟨xs,H1,I1,r,z,q⟩=>⟨by rw[<-r.length];exact z,?_⟩)
 have hf:H1 s1.heap.objs.size=none:=I1.hok.fresh (Td _);refine⟨.ref s1.heap.objs.size,upd H1 s1.heap.objs.size (.lst xs),I1.laid (t':=s1.toks) (λb u e=>S5 _ e) (Td _) ?_,rfl,q _ hf⟩
 exact⟨z,us,0,r,Tg _ rfl⟩
end
abbrev Sp:=List V->Hp->VK->XK->Prop
abbrev CXT:=List Env->Hp->Shared->XK->Value->Shared->Prop
structure Env0(P:Program)(w:World)(K:PySem.W.Frag)(mg:Str->Option Value)(base:Heap)(A:Around)(outer:List Env)(s:Shared)(H:Hp):Prop where
 frames:A.frames=some outer
 mod:Mod K mg base
 bs:∀b o,base.get? b=some o->s.heap.get? b=some o/\H b=none
 bsz:base.objs.size<=s.heap.objs.size
 funs:s.heap.FunFrames base outer
 frf:∀b∈frs outer,H b=none
 hok:HOk P w H s.heap
 bare:AllBare s.gens
def CE(outer:List Env)(P:Program)(w:World)(H:Hp)(s:Shared)(Q:VK)(u:Value)(s':Shared):Prop:=
 ∃v H',s'.os=s.os/\AllBare s'.gens/\Un (frs outer) [] H H' s.heap s'.heap/\HOk P w H' s'.heap/\RelV v u/\Q v H'
def CR(CX:CXT)(outer:List Env)(P:Program)(w:World)(H:Hp)(s:Shared)(Q:VK)(E:XK)(r:Result)(s':Shared):Prop:=
 match r with
 |.ok (.ret u)=>CE outer P w H s Q u s'
 |.ok _=>False
 |.error e=>CX outer H s E e s'
structure FnOk(P:Program)(w:World)(K:PySem.W.Frag)(mg:Str->Option Value)(base:Heap)(CX:CXT)(k:Nat)(f:Addr)(fd:FuncData)(ps:List Str)(sp:Sp):Prop where
 len:∀vs H Q E,sp vs H Q E->vs.length=ps.length
 run:∀(A:Around) (outer:List Env) (s:Shared) (H:Hp) (args:Args) (us:List Value) (vs:List V) (Q:VK) (E:XK),Room k A->Env0 P w K mg base A outer s H->BindsTo s fd args (ps.zip us)->Vals vs us->sp vs H Q E->
  codeAny (model P w) A (.call (.ref f) args) (CR CX outer P w H s Q E) s
theorem FnOk.mono{P:Program}{w:World}{K:PySem.W.Frag}{mg:Str->Option Value}{base:Heap}{CX:CXT}{j k:Nat}{f:Addr}{fd:FuncData}{ps:List Str}{sp:Sp}(F:FnOk P w K mg base CX j f fd ps sp)(h:j<=k):
  FnOk P w K mg base CX k f fd ps sp:=⟨F.len,λA outer s H args us vs Q E hr=>F.run A outer s H args us vs Q E (hr.mono h)⟩
def FnOk.imp{P:Program}{w:World}{K:PySem.W.Frag}{mg:Str->Option Value}{base:Heap}{CX:CXT}{k:Nat}{f:Addr}{fd:FuncData}{ps:List Str}{sp sp':Sp}(F:FnOk P w K mg base CX k f fd ps sp)
  (h:∀vs H Q E,sp' vs H Q E->sp vs H Q E):FnOk P w K mg base CX k f fd ps sp':=
 ⟨λvs H Q E q=>F.len vs H Q E (h _ _ _ _ q),λA outer s H args us vs Q E hr he hb hv hs=>F.run A outer s H args us vs Q E hr he hb hv (h _ _ _ _ hs)⟩
def Env0.make{P:Program}{w:World}{K:PySem.W.Frag}{mg:Str->Option Value}{base:Heap}{A:Around}{outer:List Env}{s:Shared}{H:Hp}(e:Env0 P w K mg base A outer s H)(C:Addr)(us:List Value)(kw:List (Str×Value)):
  Env0 P w K mg base (A.under (.builtin "type.__call__" ⟨.ref C::us,kw⟩)) outer s H:=⟨by first | exact e.frames | (simpa[Around.under,Code.envs,Code.isFrame,pushEnvs] using e.frames),e.mod,e.bs,e.bsz,e.funs,e.frf,e.hok,e.bare⟩
section
variable{X:Cx}{YB:List (Addr×Obj)}{σ:St}{H:Hp}{s s':Shared}
def Inv.env0(I:Inv X YB σ H s):Env0 X.prog X.w X.K X.mg X.base X.A X.stack s H:=
 ⟨I.ok.frames,I.ok.mod,I.bs,Ue I.ok.bsz I.sz,I.stack,I.stkFree,I.hok,I.bare⟩
def Inv.after(I:Inv X YB σ H s)(h:CE X.stack X.prog X.w H s Q u s'):EP X YB σ Q u s':=by obtain⟨v,H',os,bare,un,hok,r,q⟩:=h;obtain⟨hh,g,d,t,os'⟩:=s';obtain rfl:os'=s.os:=os;exact⟨v,H',I.call (h':=hh) (g':=g) (d':=d) (t':=t) (ch:=[]) un hok bare (λb z=>absurd z (by simp)),r,q⟩
end
def tCall(sp:Sp)(dvs:List V)(E:XK)(t:TA):TE:=λσ H Q=>t σ H λvs H1=>sp (vs++dvs) H1 Q E
def tMake(C:Addr)(sp:Sp)(dvs:List V)(E:XK)(t:TA):TE:=λσ H Q=>t σ H λvs H1=>∀x dx,H1 x=none->H1 dx=none->dx≠x->
 sp (.ref x::(vs++dvs)) (upd (upd H1 dx (.own x)) x (.ins C dx [])) (λv H2=>v=.non/\Q (.ref x) H2) E
def Binds(K:PySem.W.Frag)(fd:FuncData)(ps:List Str)(ds:List Value):Prop:=
 ∀(s:Shared) (us:List Value),K.In s.heap->(us++ds).length=ps.length->BindsTo s fd ⟨us,[]⟩ (ps.zip (us++ds))
def Binds.all{K:PySem.W.Frag}{fd:FuncData}{ps:List Str}(h:∀us:List Value,us.length=ps.length->bindArgs fd ⟨us,[]⟩=pure (ps.zip us)):Binds K fd ps []:=λs us z hl=>by
 rw[VL]at hl ⊢
 exact .of_eq (h us hl)
def Passes(CX:CXT)(X:Cx)(E:XK):Prop:=∀(YB:List (Addr×Obj)) (σ:St) (H:Hp) (s:Shared) (e:Value) (s':Shared),Inv X YB σ H s->CX X.stack H s E e s'->X.xe e s'
section
variable{X:Cx}{CX:CXT}{k:Nat}{f C:Addr}{fd:FuncData}{ps:List Str}{sp:Sp}{dvs:List V}{ds:List Value}{E:XK}{x m:Str}{p pos apos:Pos}{e o:Expr}{es:List Expr}{ta:TE}{t:TA}
def run_fn(F:FnOk X.prog X.w X.K X.mg X.base CX k f fd ps sp)(hr:Room k X.A)(hb:Binds X.K fd ps ds)(hd:Vals dvs ds)(hx:Passes CX X E)
  (I:Inv X YB σ H s) (r:Vals vs us) (h:sp (vs++dvs) H Q E):wpAny (model X.prog X.w) X.A (call (.ref f) us) (EP X YB σ Q) X.xe s:=by
 have r2:Vals (vs++dvs) (us++ds):=r.append hd;have hl:(us++ds).length=ps.length:=by rw[<-r2.length];exact F.len _ _ _ _ h
 refine Yx (V8 (F.run X.A X.stack s H ⟨us,[]⟩ (us++ds) (vs++dvs) Q E hr I.env0 (hb s us I.kIn hl) r2 h) λr s' hq=>?_)
 cases r with
 |error e=>exact hx YB σ H s e s' I hq
 |ok fl=>
   cases fl with
   |ret u=>exact I.after hq
   |next=>exact False.elim hq
   |brk=>exact False.elim hq
   |cont=>exact False.elim hq
def pe_call(F:FnOk X.prog X.w X.K X.mg X.base CX k f fd ps sp)(hr:Room k X.A)(hg:Gl X x)(hm:X.mg x=some (.ref f))(hk:PySem.W.keepIn X.K (.ref f)=true)(hb:Binds X.K fd ps ds)(hd:Vals dvs ds)(hx:Passes CX X E)
  (ha:PA X (e::es) t) (hdb:(x==("__debug__":Str))=false:=by decide) (he:starEach (e::es) X.env=(false,eval e X.env)::starEach es X.env:=by rfl) (hpl:(backTo pos (starEach es X.env)).any (·.1)=false:=by rfl) :
  PE X (.Call (.Name x p) (e::es) [] pos) (tCall sp dvs E t):=by
 intro YB s σ H Q I h;refine Xk (ld_glob I hg hm ?_ hdb);refine PySem.W.callWith_K (h₀:=X.base) I.ok.mod.kin hk (thn (ha pos YB s σ H _ I h) λus s1 ⟨vs,H1,I1,r,q⟩=>⟨I1.kIn,?_⟩) he hpl
 exact run_fn F hr hb hd hx I1 r q
structure Mk(K:PySem.W.Frag)(C f:Addr):Prop where
 makes:PySem.W.makesIn K C=true
 init:PySem.W.findIn K (.ref C) "__init__"=some (some (.ref f))
 fn:PySem.W.isFn K (.ref f)=true
 kp:PySem.W.keepIn K (.ref C)=true
def run_make(M:Mk X.K C f)(F:FnOk X.prog X.w X.K X.mg X.base CX k f fd ps sp)(hr:Room (k + 1) X.A)(hb:Binds X.K fd ps ds)(hd:Vals dvs ds)
  (hx:Passes CX X E) (I:Inv X YB σ H s) (r:Vals vs us)
  (h:∀x dx,H x=none->H dx=none->dx≠x->sp (.ref x::(vs++dvs)) (upd (upd H dx (.own x)) x (.ins C dx [])) (λv H2=>v=.non/\Q (.ref x) H2) E) :
  wpAny (model X.prog X.w) X.A (call (.ref C) us) (EP X YB σ Q) X.xe s:=by
 have hq:=h (s.heap.objs.size+1) s.heap.objs.size (I.hok.fresh (WM _)) (I.hok.fresh (Td _)) (Tj (U7 _));have I2:=Inv.made (C:=C) I;have r2:Vals (V.ref (s.heap.objs.size+1)::(vs++dvs)) (Value.ref (s.heap.objs.size+1)::(us++ds)):=.cons rfl (r.append hd);have hl:(Value.ref (s.heap.objs.size+1)::us++ds).length=ps.length:=by have e:=r2.length;rw[F.len _ _ _ _ hq]at e;exact e.symm
 refine Yx (make_map (f:=f) I.kIn M.makes M.init (Yn.mp M.fn) (V8 (F.run _ X.stack _ _ ⟨Value.ref (s.heap.objs.size+1)::us,[]⟩ (Value.ref (s.heap.objs.size+1)::(us++ds)) _ _ E (hr.make C us [])
  (I2.env0.make C us []) (hb _ (Value.ref (s.heap.objs.size+1)::us) I2.kIn hl) r2 hq) λr s' hq'=>?_))
 cases r with
 |error e=>exact hx YB σ _ _ e s' I2 hq'
 | ok fl=>
   cases fl with
   |ret u=>obtain⟨v,H',I3,rv,ev,q3⟩:=I2.after hq';subst ev;exact⟨rv,⟨V.ref (s.heap.objs.size+1),H',I3,rfl,q3⟩⟩
   |next=>exact False.elim hq'
   |brk=>exact False.elim hq'
   |cont=>exact False.elim hq'
def pe_make(M:Mk X.K C f)(F:FnOk X.prog X.w X.K X.mg X.base CX k f fd ps sp)(hr:Room (k+1) X.A)(hg:Gl X x)(hm:X.mg x=some (.ref C))(hb:Binds X.K fd ps ds)(hd:Vals dvs ds)(hx:Passes CX X E)
  (ha:PA X (e::es) t) (hdb:(x==("__debug__":Str))=false:=by decide) (he:starEach (e::es) X.env=(false,eval e X.env)::starEach es X.env:=by rfl) (hpl:(backTo pos (starEach es X.env)).any (·.1)=false:=by rfl) :
  PE X (.Call (.Name x p) (e::es) [] pos) (tMake C sp dvs E t):=by
 intro YB s σ H Q I h;refine Xk (ld_glob I hg hm ?_ hdb);refine PySem.W.callWith_K (h₀:=X.base) I.ok.mod.kin M.kp (thn (ha pos YB s σ H _ I h) λus s1 ⟨vs,H1,I1,r,q⟩=>⟨I1.kIn,?_⟩) he hpl
 exact run_make M F hr hb hd hx I1 r q
end
structure FnScope(N P:List Str)(sc:Scope):Prop where
 kind:sc.kind=.function
 co:sc.isCoroutine=false
 gen:sc.isGenerator=false
 nd:N.Nodup
 pre:N.take P.length=P
 par:∀x∈P,sc.names.lookup x=some .local\/sc.names.lookup x=some .cell
 nofree:∀y∈sc.names,y.2≠.free
theorem bindL_out{kindOf:Str->Option NameKind}:∀ {binds:List (Str×Value)}{m:Str->Option Value},(∀ v,(x,v)∉binds)->bindL kindOf binds m x=m x
 |[],_,_=>rfl
 | (n,v)::r,m,h=>by
   unfold bindL;rw[bindL_out λw hw=>h w (Ua _ hw)]
   split
   ·have:x≠n:=by rintro rfl;exact h v TY
    simp[this]
   ·rfl
theorem bindC_out{kindOf:Str->Option NameKind}:∀ {binds:List (Str×Value)}{m:Str->Option Value},(∀ v,(x,v)∉binds)->bindC kindOf binds m x=m x
 |[],_,_=>rfl
 | (n,v)::r,m,h=>by
   unfold bindC;rw[bindC_out λw hw=>h w (Ua _ hw)]
   split
   ·rfl
   ·have:x≠n:=by rintro rfl;exact h v TY
    simp[this]
theorem bindL_get{kindOf:Str->Option NameKind}:∀ {P:List Str}{vs:List Value}{i:Nat}{m:Str->Option Value},P.Nodup->P[i]?=some x->vs[i]?=some v->kindOf x=some .local->
  bindL kindOf (P.zip vs) m x=some v
 |[],_,_,_,_,h,_,_=>by simp at h
 |_::_,[],_,_,_,_,h,_=>by simp at h
 |p::P,w::vs,0,m,nd,h1,h2,hk=>by
   simp at h1 h2;subst h1;subst h2;show bindL kindOf ((p,w)::P.zip vs) m p=_;unfold bindL;rw[bindL_out λv hv=>(Xd.mp nd).1 (WF hv).1,Tf hk]
   simp
 |p::P,w::vs,i+1,m,nd,h1,h2,hk=>by show bindL kindOf ((p,w)::P.zip vs) m x=_;unfold bindL;exact bindL_get (i:=i) (Xd.mp nd).2 (by simpa using h1) (by simpa using h2) hk
theorem bindC_get{kindOf:Str->Option NameKind}:∀ {P:List Str}{vs:List Value}{i:Nat}{m:Str->Option Value},P.Nodup->P[i]?=some x->vs[i]?=some v->kindOf x≠some .local->
  bindC kindOf (P.zip vs) m x=some v
 |[],_,_,_,_,h,_,_=>by simp at h
 |_::_,[],_,_,_,_,h,_=>by simp at h
 |p::P,w::vs,0,m,nd,h1,h2,hk=>by
   simp at h1 h2;subst h1;subst h2;show bindC kindOf ((p,w)::P.zip vs) m p=_;unfold bindC;rw[bindC_out λv hv=>(Xd.mp nd).1 (WF hv).1,Ti hk]
   simp
 |p::P,w::vs,i+1,m,nd,h1,h2,hk=>by show bindC kindOf ((p,w)::P.zip vs) m x=_;unfold bindC;exact bindC_get (i:=i) (Xd.mp nd).2 (by simpa using h1) (by simpa using h2) hk
def start(N:List Str)(vs:List V):St:=vs.map some++List.replicate (N.length-vs.length) none
def cxOf(CX:CXT)(P:Program)(w:World)(K:PySem.W.Frag)(mg:Str->Option Value)(base:Heap)(N:List Str)(qual:Str)(scope:Scope)(f:Addr)(cd:Value)(A:Around)(outer:List Env)(s:Shared)(H:Hp)(E:XK):Cx where
 prog:=P
 w:=w
 K:=K
 mg:=mg
 base:=base
 A:=A.deeper (envOfC qual scope s.heap.objs.size f cd)
 N:=N
 s₀:=s
 H₀:=H
 env:=envOfC qual scope s.heap.objs.size f cd
 outer:=outer
 stack:=envOfC qual scope s.heap.objs.size f cd::outer
 ex:=[]
 calm:=true
 fn:=λz=>true
 pn:=[]
 xe:=λe s'=>wpAny (model P w) (A.deeper (envOfC qual scope s.heap.objs.size f cd)) (leaving (envOfC qual scope s.heap.objs.size f cd) e) (λz s''=>CX outer H s E e s'') (λe' s''=>CX outer H s E e' s'') s'
def cell_has{sc:Scope}{n:Nat}{x:Str}(h:sc.names.lookup x=some .cell):∃c,(cellsFrom n sc.names []).lookup x=some c:=by have q:=PySem.W.cellsFrom_some sc.names n [] (.inl h);exact Wj.mp q
def inv_start{CX:CXT}{P:Program}{w:World}{K:PySem.W.Frag}{mg:Str->Option Value}{base:Heap}{N ps:List Str}{qual:Str}{scope:Scope}{f:Addr}{cd:Value}{A:Around}{outer:List Env}{s s1:Shared}{H:Hp}{E:XK}{us:List Value}{vs:List V}
  (S:FnScope N ps scope) (hd:A.handled=none) (e0:Env0 P w K mg base A outer s H) (hl:vs.length=ps.length) (r:Vals vs us)
  (x:InCallC s s.heap.objs.size (bindL (envOfC qual scope s.heap.objs.size f cd).kindOf (ps.zip us) λt=>none) (cellsFrom (s.heap.objs.size+1) scope.names []) (bindC (envOfC qual scope s.heap.objs.size f cd).kindOf (ps.zip us) λt=>none) s1) :
  Inv (cxOf CX P w K mg base N qual scope f cd A outer s H E) [] (start N vs) H s1:=by
 have hpl:ps.length<=N.length:=by have:=congrArg List.length S.pre;rw[VH]at this;omega
 obtain⟨h1,tk,rfl,hk⟩:=x.done;have noA:∀b:Addr,b∉(cxOf CX P w K mg base N qual scope f cd A outer s H E).ex:=λb z=>absurd (show b∈([]:List Addr) from z) (by simp)
 refine⟨⟨e0.mod,S.kind,rfl,rfl,Td _,λy z c h1 h2=>?_,λy hy=>?_,λy c t h=>?_,λt=>hd,Around.frames_deeper e0.frames,.inr ⟨rfl,rfl⟩,λb z=>absurd z (noA b),e0.bs,e0.bsz,λb t t=>noA b,λb z=>absurd z (noA b),e0.funs,e0.frf⟩,
  rfl,e0.bare,Un.kept hk,⟨_,x.toInCall.ns,λi y v h1 h2 h3=>?_⟩,λy c h=>⟨_,x.cell y c h⟩,e0.hok.fresh (Td _),λy c h=>?_,λp hp=>absurd (show p∈([]:List (Addr×Obj)) from hp) (by simp),e0.hok.kept hk,?_⟩
 ·exact name_of_addr x.apart (UW h1) (UW h2)
 ·have hy:scope.names.lookup y=some .cell\/scope.names.lookup y=some .free:=hy;rcases hy with hy | hy
  ·exact cell_has hy
  ·exact absurd rfl (S.nofree _ (UW hy))
 ·exact Wn (x.above y c (UW h))
 ·have hi:i<vs.length:=by
   unfold start at h2;by_cases hi:i<vs.length
   ·exact hi
   ·rw[Uo (by simpa using hi)]at h2
    rw[VR]at h2;split at h2<;>cases h2
  have ha:vs[i]?=some v:=by
   unfold start at h2;rw[Tq (by simpa using hi),Tp]at h2
   cases e:vs[i]? with
   |none=>rw[e]at h2;cases h2
   |some a=>rw[e]at h2;cases h2;rfl
  obtain⟨u,hu,rv⟩:=r.get ha;have hp:ps[i]?=some y:=by rw[<-S.pre,List.getElem?_take_of_lt (by omega)];exact h1
  have ndP:ps.Nodup:=by rw[<-S.pre];exact S.nd.sublist (List.take_sublist _ _)
  refine⟨u,rv,?_⟩;rcases S.par y (T3 hp) with k | k
  ·exact .inl ⟨k,bindL_get ndP hp hu k⟩
  ·obtain⟨c,e⟩:=cell_has (n:=s.heap.objs.size+1) k;refine .inr ⟨.inl k,c,e,?_⟩;have q:=x.cell y c e;rw[bindC_get ndP hp hu (by show scope.names.lookup y≠_;rw[k];decide)]at q
   exact q
 ·exact e0.hok.fresh (Wn (x.above y c (UW h)))
 ·unfold start;show _=N.length;rw[T4,S9,Uv];omega
def fn_of{CX:CXT}{P:Program}{w:World}{K:PySem.W.Frag}{mg:Str->Option Value}{base:Heap}{k:Nat}{f:Addr}{name qual:Str}{params:Arguments}{body:List Stmt}{scope:Scope}{dV kV doc pm cdv ct oc:Value}{an od:Option Addr}
  {osl:Array (Option Value)}{N ps:List Str}{sp:Sp} (lk:K.lookup f=some ⟨oc,od,.func (PySem.W.fnOf name qual params body scope dV kV doc pm an cdv ct),osl⟩) (hcd:PySem.W.codeIn K cdv qual=true) (S:FnScope N ps scope)
  (len:∀vs H Q E,sp vs H Q E->vs.length=ps.length)
  (hbody:∀(A:Around) (outer:List Env) (s:Shared) (H:Hp) (vs:List V) (Q:VK) (E:XK),Room k (A.deeper (envOfC qual scope s.heap.objs.size f cdv))->sp vs H Q E->
    ∃t,PSs (cxOf CX P w K mg base N qual scope f cdv A outer s H E) body t/\t { nx:=λz H'=>Q .non H',rt:=Q } (start N vs) H) :
  FnOk P w K mg base CX (k+1) f (PySem.W.fnOf name qual params body scope dV kV doc pm an cdv ct) ps sp:=by
 refine⟨len,λA outer s H args us vs Q E hr e0 hb r hsp=>?_⟩
 have hl:=len _ _ _ _ hsp;have KX:K.In s.heap:=e0.mod.kin.keeps λb o e=>(e0.bs b o e).1
 have lim:s.heap.NoLimit:=e0.mod.nolimit.keeps λb o e=>(e0.bs b o e).1
 have hkind:∀y∈ps.zip us,scope.names.lookup y.1=some .local\/(scope.names.lookup y.1=some .cell/\((cellsFrom (s.heap.objs.size+1) scope.names []).lookup y.1).isSome=true):=λ⟨n,v⟩ hy=>by
  rcases S.par n (WF hy).1 with q | q
  ·exact .inl q
  ·exact .inr ⟨q,PySem.W.cellsFrom_some _ _ _ (.inl q)⟩
 refine codeAny_call_function hr.depth (KX _ _ lk) rfl S.co S.gen rfl (PySem.W.codeRec_of KX hcd) (hb _ _ _ _ ?_);refine wpAny_newFunctionEnv_cells S.kind hkind λenv he s1 x=>?_
 subst he;refine⟨lim.keeps x.toInCall.keep,codeAny_func ?_⟩;obtain⟨t,ht,hq⟩:=hbody A outer s H vs Q E (hr.deeper _) hsp;have I:Inv (cxOf CX P w K mg base N qual scope f cdv A outer s H E) [] (start N vs) H s1:=inv_start S hr.hd e0 hl r x;refine Tz (ht [] s1 (start N vs) H _ I hq) (λfl s' hs=>?_) λe s' hs=>hs
 have fin:∀{σ':St}{H':Hp}{v:V}{u:Value},Inv (cxOf CX P w K mg base N qual scope f cdv A outer s H E) [] σ' H' s'->RelV v u->Q v H'->CE outer P w H s Q u s':=
  λ{σ' H' v u} J rv q=>⟨v,H',J.os,J.bare,J.base,J.hok,rv,q⟩
 cases fl with
 |ret u=>obtain⟨v,σ',H',J,rv,q⟩:=hs;exact fin J rv q
 |next=>obtain⟨σ',H',J,q⟩:=hs;exact fin (v:=V.non) (u:=Value.none) J rfl q
 |brk=>obtain⟨_,_,_,q⟩:=hs;exact False.elim q
 |cont=>obtain⟨_,_,_,q⟩:=hs;exact False.elim q
open PySem PySem.Spec PyProof.Rows
section
variable{X:Cx}{x:Str}{p pos:Pos}{e:Expr}{es:List Expr}{t:TA}{id T:String}{r:List V->Hp->VK->Prop}
def tCB(r:List V->Hp->VK->Prop)(t:TA):TE:=λσ H Q=>t σ H λvs H1=>r vs H1 Q
def pe_callB(hc:CallR X (.builtin id) r)(hg:Gl X x)(hm:X.mg x=none)(hv:bootBuiltins x=some (.builtin id))(ha:PA X (e::es) t)(hn:x≠"__name__":=by decide)(hdb:(x==("__debug__":Str))=false:=by decide)
  (he:starEach (e::es) X.env=(false,eval e X.env)::starEach es X.env:=by rfl) (hpl:(backTo pos (starEach es X.env)).any (·.1)=false:=by rfl):PE X (.Call (.Name x p) (e::es) [] pos) (tCB r t):=by
 intro YB s σ H Q I h;refine Xk (ld_blt I hg hm hv ?_ hn hdb);exact Yj (thn (ha pos YB s σ H _ I h) λus s1 ⟨vs,H1,I1,r1,q1⟩=>hc YB s1 σ H1 vs us Q I1 r1 q1) he hpl
def pe_callTy(hc:CallR X (.type T) r)(hg:Gl X x)(hm:X.mg x=none)(hv:bootBuiltins x=some (.type T))(ha:PA X (e::es) t)(hn:x≠"__name__":=by decide)(hdb:(x==("__debug__":Str))=false:=by decide)
  (he:starEach (e::es) X.env=(false,eval e X.env)::starEach es X.env:=by rfl) (hpl:(backTo pos (starEach es X.env)).any (·.1)=false:=by rfl):PE X (.Call (.Name x p) (e::es) [] pos) (tCB r t):=by
 intro YB s σ H Q I h;refine Xk (ld_blt I hg hm hv ?_ hn hdb);exact UT (thn (ha pos YB s σ H _ I h) λus s1 ⟨vs,H1,I1,r1,q1⟩=>hc YB s1 σ H1 vs us Q I1 r1 q1) he hpl
end
end L2
namespace HT
open PySem PyProof.Rows
section
open PySem.SeqAt
open PySem.AutoSeq1 (wpAny_loadPart')
open PySem.MeetsSeq PySem.MeetsSeq2 PySem.MeetsSeq3
end
section
variable{prog:Program}{w:World}{A:Around}{E:Value->Shared->Prop}{s:Shared}
def cat_tup(ht:IsTup s.heap t vs.toArray)(hb:IsTup s.heap b ws.toArray)(hv:vs≠[])
  (h1:ws=[]->Q (.ref t) s) (h2:ws≠[]->Q (.ref s.heap.objs.size) { s with heap:=s.heap.push { cls:=.type "tuple",data:=.seq (vs++ws).toArray } })
  (hsz:vs.length+ws.length<=sizeLine):wpAny (model prog w) A (binaryOp .Add (.ref t) (.ref b)) Q E s:=by
 obtain⟨⟨cls,dd,data,sl⟩,ho,hc,n,hd⟩:=id ht;obtain⟨⟨cls2,dd2,data2,sl2⟩,ho2,hc2,n2,hd2⟩:=id hb;simp only at hc hd hc2 hd2;subst hc hd hc2 hd2;have e:vs.toArray++ws.toArray=(vs++ws).toArray:=by simp
 by_cases hw:ws=[]
 ·exact concat_meets ⟨_,ho,rfl⟩ ⟨_,ho2,rfl⟩ noFill_tuple_add seq_tuple_add XQ Xz (Xo _ _)
   (tuple_addW1 t b vs.toArray ws.toArray n n2 dd dd2 sl sl2 (by simpa using hv) (by simp[hw])) ⟨ho,ho2,h1 hw⟩
 ·refine concat_meets ⟨_,ho,rfl⟩ ⟨_,ho2,rfl⟩ noFill_tuple_add seq_tuple_add XQ Xz (Xo _ _)
   (tuple_addW2 t b vs.toArray ws.toArray n n2 dd dd2 sl sl2 (by simpa using hv) (by simpa using hw) (by rw[TF,TF];exact hsz)) ⟨ho,ho2,?_⟩
  rw[e];exact h2 hw
def sIx(n d:Nat):Option Int->Nat
 |none=>d
 |some v=>if v<0 then (v+(n:Int)).toNat else min v.toNat n
def sIx_none(n d:Nat):sIx n d none=d:=rfl
def sIx_nat(n d k:Nat):sIx n d (some (k:Int))=min k n:=by
 show (if (k:Int)<0 then ((k:Int)+(n:Int)).toNat else min (k:Int).toNat n)=min k n
 rw[Ti (by omega),Va]
def sIx_le(n d:Nat)(hd:d<=n)(o:Option Int):sIx n d o<=n:=by
 cases o with
 |none=>exact hd
 |some v=>
   show (if v<0 then (v+(n:Int)).toNat else min v.toNat n)<=n
   by_cases hv:v<0
   ·rw[Tf hv];omega
   ·rw[Ti hv];exact Nat.min_le_right _ _
def clip_eq(v:Int)(n d:Nat):(if v<0 then max (v+(n:Int)) 0 else min v (n:Int))=((sIx n d (some v):Nat):Int):=by
 show (if v<0 then max (v+(n:Int)) 0 else min v (n:Int))=(((if v<0 then (v+(n:Int)).toNat else min v.toNat n):Nat):Int)
 by_cases hv:v<0
 ·simp only[if_pos hv];omega
 ·simp only[if_neg hv];omega
def adjust_gen(lo hi:Option Int)(n:Nat):Builtin.Slice.sliceAdjust lo hi 1 (n:Int)=(((sIx n 0 lo:Nat):Int),((sIx n n hi:Nat):Int)):=by
 have h1:¬ ((1:Int)<0):=by omega
 unfold Builtin.Slice.sliceAdjust;simp only[h1,if_false];refine Prod.ext ?_ ?_
 ·cases lo with
  |none=>rfl
  |some v=>exact clip_eq v n 0
 ·cases hi with
  |none=>rfl
  |some v=>exact clip_eq v n n
def places_gen(i j:Nat):Builtin.Slice.slicePlaces (i:Int) (j:Int) 1=j-i:=by
 unfold Builtin.Slice.slicePlaces;have h1:(1:Int) > 0:=by omega
 simp only[h1,if_true,Int.ediv_one];split<;>omega
def slicePart_(p:IsPart v o)(h:Q o s):wpAny (model prog w) A (Builtin.Slice.slicePartIndex v) Q E s:=by
 cases p with
 |none=>exact slicePart_none h
 |int i t=>exact slicePart_int h
def sliceApplied_gen{lo hi:Option Int}{n:Nat}{Q:Int×Int×Nat->Shared->Prop}(hs:s.heap.IsSliceOf sl vl vu .none)(pl:IsPart vl lo)(pu:IsPart vu hi)
  (h:Q (((sIx n 0 lo:Nat):Int),1,sIx n n hi-sIx n 0 lo) s):wpAny (model prog w) A (Builtin.Slice.sliceApplied (.ref sl) (pure (n:Int))) Q E s:=by
 obtain⟨os,hos,hcs,hds⟩:=id hs;unfold Builtin.Slice.sliceApplied Builtin.Slice.sliceFields;refine SX (SX (Uz hos hds (x:=vl) rfl (SX (Uz hos hds (x:=vu) rfl (SX (Uz hos hds (x:=.none) rfl (S6 ?_)))))));refine SX (slicePart_none ?_);show wpAny _ _ (if ((1:Int)==0)=true then _ else _) _ _ s
 rw[Ti (by decide)]
 refine SX (slicePart_ pl (SX (slicePart_ pu (SX (S6 ?_)))));show wpAny _ _ (match Builtin.Slice.sliceAdjust lo hi 1 (n:Int) with | (lo,hi)=>pure (lo,(1:Int),Builtin.Slice.slicePlaces lo hi 1)) _ _ s
 rw[adjust_gen lo hi n];show wpAny _ _ (pure (((sIx n 0 lo:Nat):Int),(1:Int),Builtin.Slice.slicePlaces ((sIx n 0 lo:Nat):Int) ((sIx n n hi:Nat):Int) 1)) _ _ s;rw[places_gen];exact S6 h
def pick_gen(xs:Array Value)(i k:Nat):((List.range k).filterMap λ(m:Nat)=>xs[((i:Int)+(m:Int)*1).toNat]?).toArray=((xs.toList.drop i).take k).toArray:=by
 have e:(λ(m:Nat)=>xs[((i:Int)+(m:Int)*1).toNat]?)=λm=>xs[i+m]?:=by
  funext m;have:((i:Int)+(m:Int)*1).toNat=i+m:=by omega
  rw[this]
 rw[e];have:=pick_run xs i k;rw[List.filterMap_map]at this;have e2:((λx=>xs[x]?) ∘ λx=>i+x)=λm=>xs[i+m]?:=rfl
 rw[e2]at this;rw[this]
def getItem_tuple_cut{items:Array Value}{lo hi:Option Int}{Q:Value->Shared->Prop}(ht:IsTup s.heap t items)(hs:s.heap.IsSliceOf sl vl vu .none)(pl:IsPart vl lo)(pu:IsPart vu hi)
  (hw:¬ (sIx items.size 0 lo=0/\sIx items.size items.size hi=items.size))
  (h:Q (.ref s.heap.objs.size) { s with heap:=s.heap.push { cls:=.type "tuple",data:=.seq ((items.toList.drop (sIx items.size 0 lo)).take (sIx items.size items.size hi-sIx items.size 0 lo)).toArray } })
  (hsz:items.size<=sizeLine):wpAny (model prog w) A (getItem (.ref t) (.ref sl)) Q E s:=by
 have htake:sizeOk (.seq ((items.toList.drop (sIx items.size 0 lo)).take (sIx items.size items.size hi-sIx items.size 0 lo)).toArray):=by show ((items.toList.drop (sIx items.size 0 lo)).take (sIx items.size items.size hi-sIx items.size 0 lo)).toArray.size<=sizeLine;rw[TF,VH,Wk,U0];omega
 have hj:sIx items.size items.size hi<=items.size:=sIx_le _ _ (Td _) hi;obtain⟨os,hos,hcs,hds⟩:=id hs;have hTs:s.TypeIs (.ref sl) "slice":=⟨os,hos,hcs⟩;unfold getItem
 try with_reducible refine Up ?_
 first | refine SX (S6 ?_) | skip
 refine SX (wpAny_sequenceKey ht.typeIs (by decide) ?_)
 refine SX (Ul (name:=Str.ofString "__getitem__") ht.typeIs VJ
  (Uk VJ ht.typeIs entry_tuple_getitem ?_ (args_tuple_getitem _ _)))
 show wpAny _ _ (Builtin.Tuple.tupleItemsOf (.ref t)>>=_) _ _ s;refine SX (tupleItemsOf_ ht ?_);refine SX (W2 hTs ?_);rw[Tf (by decide)]
 refine SX (sliceApplied_gen hs pl pu ?_);have hno:¬ ((((sIx items.size 0 lo:Nat):Int)==0&&(1:Int)==1&&(sIx items.size items.size hi-sIx items.size 0 lo)==items.size)=true):=by intro q;rw[Vi,Vi]at q;have q1:((sIx items.size 0 lo:Nat):Int)=0:=eq_of_beq q.1.1;have q2:sIx items.size items.size hi-sIx items.size 0 lo=items.size:=eq_of_beq q.2;exact hw ⟨by omega,by omega⟩
 show wpAny _ _ (if (((sIx items.size 0 lo:Nat):Int)==0&&(1:Int)==1&&(sIx items.size items.size hi-sIx items.size 0 lo)==items.size)=true then _ else _) _ _ s
 rw[Ti hno,pick_gen]
 first
  |exact SX (m:=Builtin.Tuple.tupleExact _) (Uj (S6 ⟨_,rfl,S6 h⟩) htake)
  |exact SX (m:=Builtin.Tuple.tupleExact _) (Uj (SX (S6 (S6 ⟨_,rfl,S6 h⟩))) htake)
  |exact SX (SX (m:=Builtin.Tuple.tupleExact _) (Uj (S6 (S6 ⟨_,rfl,S6 h⟩)) htake))
  |exact SX (SX (m:=Builtin.Tuple.tupleExact _) (Uj (S6 ⟨_,rfl,S6 h⟩) htake))
end
end HT
namespace L2
open PySem PySem.Spec PyProof.Rows
abbrev TO:=St->Hp->(Option Int->Hp->Prop)->Prop
def PO(X:Cx)(e:Option Expr)(t:TO):Prop:=
 ∀(YB:List (Addr×Obj)) (s:Shared) (σ:St) (H:Hp) (Q:Option Int->Hp->Prop),Inv X YB σ H s->t σ H Q->
   wpAny (model X.prog X.w) X.A (evalPart e X.env) (λu s'=>∃o H',Inv X YB σ H' s'/\IsPart u o/\Q o H') X.xe s
def tNoPart:TO:=λz H Q=>Q none H
def tPart(t:TE):TO:=λσ H Q=>t σ H λx H1=>∃i,x=.int i/\Q (some i) H1
def intsAre_of:∀ {us:List Value},Vals (ns.map V.int) us->IntsAre us ns:=by
 induction ns with
 |nil=>intro us r;rw[Xj]at r;cases r;exact .nil
 | cons n ns ih=>
   intro us r;rw[Ud]at r;cases r with
   |cons r1 r2=>obtain⟨t,e⟩:=r1;subst e;exact .cons n t (ih r2)
section
variable{X:Cx}{e:Expr}{te:TE}{lo hi:Option Expr}{tl th:TO}{pos p2:Pos}
def po_none:PO X none tNoPart:=by intro YB s σ H Q I h;rw[evalPart_none];exact S6 ⟨none,H,I,.none,h⟩
def po_some(h:PE X e te):PO X (some e) (tPart te):=by
 intro YB s σ H Q I hw;rw[evalPart_some];refine thn (h YB s σ H _ I hw) λu s1 ⟨x,H1,I1,r1,q1⟩=>?_
 obtain⟨i,rfl,q⟩:=q1;obtain⟨t,rfl⟩:=r1;exact⟨some i,H1,I1,.int i t,q⟩
def SlR(X:Cx)(r:V->Option Int->Option Int->Hp->VK->Prop):Prop:=
 ∀(YB:List (Addr×Obj)) (s:Shared) (σ:St) (H:Hp) (x:V) (v vl vu:Value) (lo hi:Option Int) (sl:Addr) (Q:VK),Inv X YB σ H s->RelV x v->s.heap.IsSliceOf sl vl vu .none->IsPart vl lo->IsPart vu hi->r x lo hi H Q->
   ∃T id,typeLookup (.type T) "__getitem__"=pure (some (.builtin id))/\s.TypeIs v T/\wpAny (model X.prog X.w) X.A (getItem v (.ref sl)) (EP X YB σ Q) X.xe s
def tSl(r:V->Option Int->Option Int->Hp->VK->Prop)(te:TE)(tl th:TO):TE:=λσ H Q=>te σ H λx H1=>tl σ H1 λl H2=>th σ H2 λu H3=>r x l u H3 Q
def pe_slice(hr:SlR X r)(he:PE X e te)(hl:PO X lo tl)(hu:PO X hi th):PE X (.Subscript e (.Slice lo hi none p2) pos) (tSl r te tl th):=by
 intro YB s σ H Q I h;refine Subscript_ (thn (he YB s σ H _ I h) λv s1 ⟨x,H1,I1,r1,q1⟩=>?_)
 refine wpAny_Slice (thn (hl YB s1 σ H1 _ I1 q1) λvl s2 ⟨l,H2,I2,pl,q2⟩=>thn (hu YB s2 σ H2 _ I2 q2) λvu s3 ⟨u,H3,I3,pu,q3⟩=>?_)
 rw[evalPart_none];refine S6 ?_;have I4:Inv X YB σ H3 { s3 with heap:=s3.heap.push { cls:=.type "slice",data:=.fields #[vl,vu,.none] } }:=I3.kept (t':=s3.toks) λb ob q=>S5 _ q
 obtain⟨T,id,hT,ht,hg⟩:=hr YB { s3 with heap:=s3.heap.push { cls:=.type "slice",data:=.fields #[vl,vu,.none] } } σ H3 x v vl vu l u s3.heap.objs.size Q I4 r1 (Heap.IsSliceOf.new ..) pl pu q3
 show wpAny (model X.prog X.w) X.A (subscriptTail e (.Slice lo hi none p2) v (.ref s3.heap.objs.size)) (EP X YB σ Q) X.xe { s3 with heap:=s3.heap.push { cls:=.type "slice",data:=.fields #[vl,vu,.none] } }
 exact tail_any (ops:=[.ref s3.heap.objs.size,v]) ht hT hg (by with_unfolding_all rfl)
def cutV(xs:List V)(lo hi:Option Int):List V:=(xs.drop (HT.sIx xs.length 0 lo)).take (HT.sIx xs.length xs.length hi-HT.sIx xs.length 0 lo)
def cutV_length(xs:List V)(lo hi:Option Int):(cutV xs lo hi).length<=xs.length:=by unfold cutV;rw[VH,Wk];omega
def rSlT(K:PySem.W.Frag):V->Option Int->Option Int->Hp->VK->Prop:=λx lo hi H Q=>∃a xs,x=.ref a/\SqT K H a xs /\
 ¬ (HT.sIx xs.length 0 lo=0/\HT.sIx xs.length xs.length hi=xs.length)/\∀p,H p=none->Q (.ref p) (upd H p (.tup (cutV xs lo hi)))
def sl_tup:SlR X (rSlT X.K):=by
 intro YB s σ H x v vl vu lo hi sl Q I rx hs pl pu h;obtain⟨a,xs,rfl,hx,hw,q⟩:=h;cases rx;obtain⟨its,r,ht,hz⟩:=I.tuple hx;have hlen:its.toArray.size=xs.length:=by rw[TF];exact r.length.symm
 refine⟨"tuple",_,PyProof.Rows.slot_tuple_getitem.lookup,ht.typeIs,?_⟩;refine HT.getItem_tuple_cut ht hs pl pu (by rw[hlen];exact hw) ?_ (by rw[hlen];exact hz)
 rw[hlen];refine⟨.ref s.heap.objs.size,_,I.laid (t':=s.toks) (o:=.tup (cutV xs lo hi)) (λb ob q=>S5 _ q) (Td _) ?_,rfl,q _ (I.hok.fresh (Td _))⟩
 exact⟨Ue (cutV_length xs lo hi) hz,_,(r.drop (HT.sIx xs.length 0 lo)).take (HT.sIx xs.length xs.length hi-HT.sIx xs.length 0 lo),Yw _ _⟩
def rCatT(K:PySem.W.Frag):R2:=λx y H Q=>∃a b xs ys,x=.ref a/\y=.ref b/\SqT K H a xs/\SqT K H b ys/\xs≠[]/\xs.length+ys.length<=sizeLine /\
 (ys=[]->Q (.ref a) H)/\(ys≠[]->∀p,H p=none->Q (.ref p) (upd H p (.tup (xs++ys))))
def Vals.nil_iff(r:Vals xs us):us=[] ↔ xs=[]:=by
 cases r with
 |nil=>simp
 |cons _ _=>simp
def op_catT:OpR X (binaryOp .Add) (rCatT X.K):=by
 intro YB s σ H x y v u Q I rx ry h;obtain⟨a,b,xs,ys,rfl,rfl,ha,hb,hx,hz,q1,q2⟩:=h;cases rx;cases ry;obtain⟨its,r1,p1,_⟩:=I.tuple ha;obtain⟨its2,r2,p2,_⟩:=I.tuple hb;refine HT.cat_tup p1 p2 (λz=>hx (r1.nil_iff.mp z)) (λz=>⟨.ref a,H,I,rfl,q1 (r2.nil_iff.mp z)⟩) (λz=>?_) (by rw[<-r1.length,<-r2.length];exact hz)
 refine⟨.ref s.heap.objs.size,_,I.laid (t':=s.toks) (o:=.tup (xs++ys)) (λb ob q=>S5 _ q) (Td _) ?_,rfl,q2 (λw=>z (r2.nil_iff.mpr w)) _ (I.hok.fresh (Td _))⟩
 exact⟨by rw[T4];exact hz,_,r1.append r2,Yw _ _⟩
end
open PySem PySem.Spec PyProof.Rows
def ixN(n:Nat)(i:Int):Option Nat:=if 0<=i then (if i<n then some i.toNat else none) else if -(n:Int)<=i then some (i+n).toNat else none
def atI{α:Type}(xs:List α)(i:Int):Option α:=(ixN xs.length i).bind λj=>xs[j]?
def ixN_seq(h:ixN n i=some j):seqIndex? i n=some j/\j<n/\-(n:Int)<=i/\i<n:=by
 unfold ixN at h;by_cases h0:0<=i
 ·rw[Tf h0]at h;by_cases h1:i<n
  ·rw[Tf h1]at h;have e:i.toNat=j:=Tu h;exact⟨by rw[seqIndex_of h0 h1,e],by omega,by omega,h1⟩
  ·rw[Ti h1]at h;cases h
 ·rw[Ti h0]at h;by_cases h1:-(n:Int)<=i
  ·rw[Tf h1]at h;have e:(i+n).toNat=j:=Tu h;exact⟨by rw[seqIndex_neg (by omega) h1,e],by omega,h1,by omega⟩
  ·rw[Ti h1]at h;cases h
def atI_get(h:atI xs i=some v):∃ j,seqIndex? i xs.length=some j/\xs[j]?=some v/\j<xs.length/\-(xs.length:Int)<=i/\i<xs.length:=by
 unfold atI at h;cases e:ixN xs.length i with
 |none=>rw[e]at h;cases h
 |some j=>rw[e]at h;obtain⟨h1,h2,h3,h4⟩:=ixN_seq e;exact⟨j,h1,h,h2,h3,h4⟩
def PlainIx(b:Expr):Prop:=∀o i,subscripted b false o i=operate [o,i] (getItem o i)
def IxR(X:Cx)(r:R2):Prop:=
 ∀(value slice:Expr) (YB:List (Addr×Obj)) (s:Shared) (σ:St) (H:Hp) (x y:V) (v u:Value) (Q:VK),Inv X YB σ H s->RelV x v->RelV y u->r x y H Q->
   subscripted slice false v u=operate [v,u] (getItem v u)->wpAny (model X.prog X.w) X.A (subscriptTail value slice v u) (EP X YB σ Q) X.xe s
def MtR(X:Cx)(id:String)(r:V->List V->Hp->VK->Prop):Prop:=
 ∀(YB:List (Addr×Obj)) (s:Shared) (σ:St) (H:Hp) (x:V) (xs:List V) (v:Value) (us:List Value) (Q:VK),Inv X YB σ H s->RelV x v->Vals xs us->r x xs H Q->
   wpAny (model X.prog X.w) X.A (call (.builtin id) (v::us)) (EP X YB σ Q) X.xe s
section
variable{X:Cx}{a b:Expr}{ta tb:TE}{pos:Pos}
def pe_ix(hr:IxR X r)(ha:PE X a ta)(hb:PE X b tb)(hs:PlainIx b):PE X (.Subscript a b pos) (tOp r ta tb):=by intro YB s σ H Q I h;exact Subscript_ (binT ha hb I h λv u s2 x y H2 I2 rx ry q=>hr a b YB s2 σ H2 x y v u Q I2 rx ry q (hs _ _))
def rIxL(K:PySem.W.Frag):R2:=λx y H Q=>∃p xs i v,x=.ref p/\y=.int i/\SqL K H p xs/\atI xs i=some v/\Q v H
def rIxT(K:PySem.W.Frag):R2:=λx y H Q=>∃p xs i v,x=.ref p/\y=.int i/\SqT K H p xs/\atI xs i=some v/\Q v H
def ix_list:IxR X (rIxL X.K):=by
 intro value slice YB s σ H x y v u Q I rx ry h hs;obtain⟨p,xs,i,z,rfl,rfl,hq,he,q⟩:=h;cases rx;obtain⟨t,rfl⟩:=ry;obtain⟨its,r,pl,hz⟩:=I.list hq;obtain⟨j,h1,h2,h3,h4,h5⟩:=atI_get he;obtain⟨w,ew,rw'⟩:=r.get h2;have hl:=r.length;have hn:=line63;have fin:EP X YB σ Q w s:=⟨z,H,I,rw',q⟩;by_cases h0:0<=i
 ·have hj:i.toNat=j:=by rw[seqIndex_of h0 h5]at h1;exact Tu h1
  exact item_listR pl.isList h0 (by omega) (by rw[hj];simpa using ew) fin hs
 ·have hj:(i+(its.toArray.size:Int)).toNat=j:=by
   rw[seqIndex_neg (by omega) h4]at h1
   rw[TF,<-hl];exact Tu h1
  exact subscriptTail_builtinR (x:=w) pl.isList.typeIs slot_list_getitem.lookup
   (wpAny_getItem_list_neg (Q:=λr s'=>r=w/\EP X YB σ Q r s') pl.isList (by omega) (by rw[TF]<;>omega) (by omega) (by rw[hj];simpa using ew) ⟨rfl,fin⟩) hs
def ix_tup:IxR X (rIxT X.K):=by
 intro value slice YB s σ H x y v u Q I rx ry h hs;obtain⟨p,xs,i,z,rfl,rfl,hq,he,q⟩:=h;cases rx;obtain⟨t,rfl⟩:=ry;obtain⟨its,r,pl,hz⟩:=I.tuple hq;obtain⟨j,h1,h2,h3,h4,h5⟩:=atI_get he;obtain⟨w,ew,rw'⟩:=r.get h2;have hl:=r.length;have hn:=line63;have fin:EP X YB σ Q w s:=⟨z,H,I,rw',q⟩;exact subscriptTail_builtinR (x:=w) pl.typeIs slot_tuple_getitem.lookup
  (getItem_tuple (j:=j) (Q:=λr s'=>r=w/\EP X YB σ Q r s') pl (by omega) (by omega) (by rw[TF,<-hl];exact h1) (by simpa using ew) ⟨rfl,fin⟩) hs
def mapSeq_set(its:List Value)(n j:Nat)(u:Value):Obj.mapSeq (·.setIfInBounds j u) { cls:=.type "list",data:=.seq its.toArray n }={ cls:=.type "list",data:=.seq (its.set j u).toArray n }:=by simp[Obj.mapSeq]
theorem Inv.lst(I:Inv X YB σ H s)(h:H p=some (.lst xs)):
  ∃(its:List Value) (n:Nat),Vals xs its/\s.heap.get? p=some { cls:=.type "list",data:=.seq its.toArray n }/\xs.length<=sizeLine:=by
 obtain⟨z,its,n,r,e⟩:=I.hok p _ h;exact⟨its,n,r,e,z⟩
def Inv.lstUpd{YB:List (Addr×Obj)}{xs ys:List V}{its its':List Value}{n n':Nat}{f:Obj->Obj}(I:Inv X YB σ H s)(h:H p=some (.lst xs))
  (ho:s.heap.get? p=some { cls:=.type "list",data:=.seq its.toArray n }) (hf:f { cls:=.type "list",data:=.seq its.toArray n }={ cls:=.type "list",data:=.seq its'.toArray n' }) (r:Vals ys its') (hz:ys.length<=sizeLine) (t:Nat) :
  Inv X YB σ (upd H p (.lst ys)) { s with heap:=s.heap.update p f,toks:=t }:=by
 have e:(s.heap.update p f).get? p=some { cls:=.type "list",data:=.seq its'.toArray n' }:=by rw[WW f ho (by rw[hf]<;>rfl),hf]
 refine I.write (x:=p) (e:=p) (by rw[h];trivial) (.inl rfl) (λb u hb q=>(VD _ _ (Ne.symm hb)).trans q) ⟨_,e⟩ ?_
 exact⟨hz,its',n',r,e⟩
def rSetL:V->V->V->Hp->(Hp->Prop)->Prop:=λo i v H Q=>∃p xs k j,o=.ref p/\i=.int k/\H p=some (.lst xs)/\ixN xs.length k=some j/\Q (upd H p (.lst (xs.set j v)))
def set_list:PSet X rSetL:=by
 intro YB s σ H o i v ov iv u Q I ro ri rv h;obtain⟨p,xs,k,j,rfl,rfl,hp,hj,q⟩:=h;cases ro;obtain⟨t,rfl⟩:=ri;obtain⟨its,n,r,ho,hz⟩:=I.lst hp;obtain⟨h1,h2,h3,h4⟩:=ixN_seq hj;have hl:=r.length;have hn:=line63;have I':Inv X YB σ (upd H p (.lst (xs.set j v))) { s with heap:=s.heap.update p (Obj.mapSeq (·.setIfInBounds j u)) }:=
  I.lstUpd hp ho (mapSeq_set its n j u) (r.set rv j) (by rw[Wx];exact hz) s.toks
 by_cases h0:0<=k
 ·have hk:k.toNat=j:=by rw[seqIndex_of h0 h4]at h1;exact Tu h1
  exact PySem.W.ki_setAt ho h0 (by omega) (by rw[TF,<-hl];exact h4) (by rw[hk];exact⟨_,I',q⟩)
 ·have hk:(k+(its.toArray.size:Int)).toNat=j:=by
   rw[seqIndex_neg (by omega) h3]at h1
   rw[TF,<-hl];exact Tu h1
  exact PySem.W.ki_setBack ho (by omega) (by rw[TF,<-hl];exact h3) (by omega) (by rw[hk];exact⟨_,I',q⟩)
def slice_bounds(lo hi:Option Int)(n:Nat):(sliceBounds lo hi none n).1=((HT.sIx n 0 lo:Nat):Int)/\(sliceBounds lo hi none n).2.1=((HT.sIx n n hi:Nat):Int)/\(sliceBounds lo hi none n).2.2=1:=by
 refine⟨?_,?_,rfl⟩
 ·cases lo with
  |none=>simp[sliceBounds,HT.sIx]
  |some i=>
    simp only[sliceBounds,HT.sIx,Option.getD_none,show (1:Int) > 0 by decide,if_true]
    by_cases h:i<0
    ·simp only[h,if_true]<;>omega
    ·simp only[h,if_false]<;>omega
 ·cases hi with
  |none=>simp[sliceBounds,HT.sIx]
  |some i=>
    simp only[sliceBounds,HT.sIx,Option.getD_none,show (1:Int) > 0 by decide,if_true]
    by_cases h:i<0
    ·simp only[h,if_true]<;>omega
    ·simp only[h,if_false]<;>omega
def slicePick_cut(its:List Value)(lo hi:Option Int):slicePick its.toArray lo hi none=((its.drop (HT.sIx its.length 0 lo)).take (HT.sIx its.length its.length hi-HT.sIx its.length 0 lo)).toArray:=by obtain⟨h1,h2,h3⟩:=slice_bounds lo hi its.toArray.size;unfold slicePick;rw[h1,h2,h3];simp only[sliceRange_one,pick_run,List.size_toArray]<;>rfl
def rSlL(K:PySem.W.Frag):V->Option Int->Option Int->Hp->VK->Prop:=λx lo hi H Q=>∃a xs,x=.ref a/\SqL K H a xs/\∀p,H p=none->Q (.ref p) (upd H p (.lst (cutV xs lo hi)))
def sl_list:SlR X (rSlL X.K):=by
 intro YB s σ H x v vl vu lo hi sl Q I rx hs pl pu h;obtain⟨a,xs,rfl,hx,q⟩:=h;cases rx;obtain⟨its,r,ht,hz⟩:=I.list hx;have hlen:=r.length;refine⟨"list",_,slot_list_getitem.lookup,ht.isList.typeIs,?_⟩;refine wpAny_getItem_list_slice ht.isList hs pl pu .none (by simp) ?_ (by rw[TF]<;>omega)
 rw[slicePick_cut,<-hlen];refine⟨.ref s.heap.objs.size,_,I.laid (t':=s.toks) (o:=.lst (cutV xs lo hi)) (λb ob q=>S5 _ q) (Td _) ?_,rfl,q _ (I.hok.fresh (Td _))⟩
 exact⟨Ue (cutV_length xs lo hi) hz,_,0,(r.drop (HT.sIx xs.length 0 lo)).take (HT.sIx xs.length xs.length hi-HT.sIx xs.length 0 lo),Tg _ rfl⟩
def flatV:V->Bool
 |.non=>true
 |.bl _=>true
 |.int _=>true
 |.str _=>true
 |_=>false
def eqV:V->V->Bool
 |.non,.non=>true
 |.bl a,.bl b=>a==b
 |.bl a,.int b=>(if a then 1 else 0)==b
 |.int a,.bl b=>a==(if b then 1 else 0)
 |.int a,.int b=>a==b
 |.str a,.str b=>a==b
 |_,_=>false
def eqAt_V(ry:RelV y u)(rx:RelV x v)(fy:flatV y=true)(fx:flatV x=true):SeqAt.EqAt A s u v (eqV y x):=by
 cases y with
 |non=>
   cases ry;cases x with
   |non=>cases rx;exact SeqAt.EqAt.same _
   |bl b=>cases rx;exact SeqAt.EqAt.none_bool b
   |int b=>obtain⟨t,rfl⟩:=rx;exact SeqAt.EqAt.none_int b t
   |str b=>obtain⟨t,rfl⟩:=rx;exact SeqAt.EqAt.none_str b t
   |_=>exact absurd (show false=true from fx) TX
 |bl a=>
   cases ry;cases x with
   |non=>cases rx;exact SeqAt.EqAt.bool_none a
   |bl b=>cases rx;exact SeqAt.EqAt.bool_bool a b
   |int b=>obtain⟨t,rfl⟩:=rx;exact SeqAt.EqAt.bool_int a b t
   |str b=>obtain⟨t,rfl⟩:=rx;exact SeqAt.EqAt.bool_str a b t
   |_=>exact absurd (show false=true from fx) TX
 |int a=>
   obtain⟨t',rfl⟩:=ry;cases x with
   |non=>cases rx;exact SeqAt.EqAt.int_none a t'
   |bl b=>cases rx;exact SeqAt.EqAt.int_bool a t' b
   |int b=>obtain⟨t,rfl⟩:=rx;exact SeqAt.EqAt.int_int a t' b t
   |str b=>obtain⟨t,rfl⟩:=rx;exact SeqAt.EqAt.int_str a t' b t
   |_=>exact absurd (show false=true from fx) TX
 |str a=>
   obtain⟨t',rfl⟩:=ry;cases x with
   |non=>cases rx;exact SeqAt.EqAt.str_none a t'
   |bl b=>cases rx;exact SeqAt.EqAt.str_bool a t' b
   |int b=>obtain⟨t,rfl⟩:=rx;exact SeqAt.EqAt.str_int a t' b t
   |str b=>obtain⟨t,rfl⟩:=rx;exact SeqAt.EqAt.str_str a t' b t
   |_=>exact absurd (show false=true from fx) TX
 |_=>exact absurd (show false=true from fy) TX
def eqU(x:V)(u:Value):Bool:=match u with
 |.none=>eqV .non x
 |.bool b=>eqV (.bl b) x
 |.int i _=>eqV (.int i) x
 |.str z _=>eqV (.str z) x
 |_=>false
def eqU_of(r:RelV y u)(f:flatV y=true):eqU x u=eqV y x:=by
 cases y with
 |non=>cases r;rfl
 |bl b=>cases r;rfl
 |int i=>obtain⟨t,rfl⟩:=r;rfl
 |str z=>obtain⟨t,rfl⟩:=r;rfl
 |_=>exact absurd (show false=true from f) TX
theorem any_eqU:∀ {xs:List V}{us:List Value},Vals xs us->xs.all flatV=true->us.any (eqU x)=xs.any λy=>eqV y x
 |_,_,.nil,_=>rfl
 |y::xs,u::us,.cons r t,f=>by rw[Yy,Vi]at f;rw[W9,W9,eqU_of r f.1,any_eqU t f.2]
theorem mem_eqAt(rx:RelV x v)(fx:flatV x=true):∀ {xs:List V}{us:List Value},Vals xs us->xs.all flatV=true->∀ u∈us,SeqAt.EqAt A s u v (eqU x u)
 |_,_,.nil,_=>λu hu=>by cases hu
 |y::xs,u::us,.cons r t,f=>λu' hu=>by
   rw[Yy,Vi]at f;rcases Tt.mp hu with rfl | hu
   ·rw[eqU_of r f.1];exact eqAt_V r rx f.1 fx
   ·exact mem_eqAt rx fx t f.2 u' hu
def inV(x:V)(xs:List V):Bool:=xs.any λy=>eqV y x
def rIn(K:PySem.W.Frag)(neg:Bool):R2:=λx y H Q=>∃p xs,y=.ref p/\(SqL K H p xs\/SqT K H p xs)/\flatV x=true/\xs.all flatV=true/\Q (.bl (if neg then !inV x xs else inV x xs)) H
def op_in_seq:OpR X (compareOp .In) (rIn X.K false):=by
 intro YB s σ H x y v u Q I rx ry h;obtain⟨p,xs,rfl,hq,fx,fs,q⟩:=h;cases ry;rcases hq with hq | hq
 ·obtain⟨its,r,pl,hz⟩:=I.list hq;refine SeqAt.in_listAt (eqU x) pl.isList (λw hw=>mem_eqAt rx fx r fs w (by simpa using hw)) ⟨.bl _,H,I,rfl,?_⟩
  rw[show its.toArray.any (eqU x)=its.any (eqU x) by simp,any_eqU r fs]
  exact q
 ·obtain⟨its,r,pl,hz⟩:=I.tuple hq;refine SeqAt.in_tupleAt (eqU x) pl (λw hw=>mem_eqAt rx fx r fs w (by simpa using hw)) ⟨.bl _,H,I,rfl,?_⟩
  rw[show its.toArray.any (eqU x)=its.any (eqU x) by simp,any_eqU r fs]
  exact q
def op_notIn_seq:OpR X (compareOp .NotIn) (rIn X.K true):=by
 intro YB s σ H x y v u Q I rx ry h;obtain⟨p,xs,rfl,hq,fx,fs,q⟩:=h;cases ry;rcases hq with hq | hq
 ·obtain⟨its,r,pl,hz⟩:=I.list hq;refine SeqAt.notIn_listAt (eqU x) pl.isList (λw hw=>mem_eqAt rx fx r fs w (by simpa using hw)) ⟨.bl _,H,I,rfl,?_⟩
  rw[show its.toArray.any (eqU x)=its.any (eqU x) by simp,any_eqU r fs]
  exact q
 ·obtain⟨its,r,pl,hz⟩:=I.tuple hq;refine SeqAt.notIn_tupleAt (eqU x) pl (λw hw=>mem_eqAt rx fx r fs w (by simpa using hw)) ⟨.bl _,H,I,rfl,?_⟩
  rw[show its.toArray.any (eqU x)=its.any (eqU x) by simp,any_eqU r fs]
  exact q
def call_len_seq:CallR X (.builtin "len") (λxs H Q=>∃p ys,xs=[.ref p]/\(SqL X.K H p ys\/SqT X.K H p ys)/\Q (.int ys.length) H):=by
 intro YB s σ H xs us Q I r h;obtain⟨p,ys,rfl,hq,q⟩:=h;obtain⟨u,rfl,rx⟩:=vals1 r;cases rx;have hn:=line63;rcases hq with hq | hq
 ·obtain⟨its,r',pl,hz⟩:=I.list hq;have hlen:=r'.length;exact Calls.call_len_list pl.isList (by simp only[List.size_toArray]<;>omega) ⟨.int ys.length,H,I.tok _,⟨s.toks+1,by rw[TF,hlen]⟩,q⟩
 ·obtain⟨its,r',pl,hz⟩:=I.tuple hq;have hlen:=r'.length;exact len_tuple pl (by simp only[List.size_toArray]<;>omega) ⟨.int ys.length,H,I.tok _,⟨s.toks+1,by rw[TF,hlen]⟩,q⟩
def call_len_str:CallR X (.builtin "len") (λxs H Q=>∃z,xs=[.str z]/\z.length<=sizeLine/\Q (.int z.length) H):=by intro YB s σ H xs us Q I r h;obtain⟨z,rfl,hz,q⟩:=h;obtain⟨u,rfl,t,rfl⟩:=vals1 r;have hn:=line63;exact len_str (by omega) ⟨.int z.length,H,I.tok _,⟨_,rfl⟩,q⟩
def CallR.or(h:CallR X f r)(h':CallR X f r'):CallR X f (λxs H Q=>r xs H Q\/r' xs H Q):=by
 intro YB s σ H xs us Q I rs q;rcases q with q | q
 ·exact h YB s σ H xs us Q I rs q
 ·exact h' YB s σ H xs us Q I rs q
def call_list_of:CallR X (.type "list") (λxs H Q=>∃ p ys,xs=[.ref p]/\(SqL X.K H p ys\/SqT X.K H p ys)/\∀ l,H l=none->Q (.ref l) (upd H l (.lst ys))):=by
 intro YB s σ H xs us Q I r h;obtain⟨p,ys,rfl,hq,q⟩:=h;obtain⟨u,rfl,rx⟩:=vals1 r;cases rx;have fin:∀(its:List Value),Vals ys its->ys.length<=sizeLine->∀(h':Heap) (c':Nat),(∀b o',s.heap.get? b=some o'->h'.get? b=some o')->
   h'.get? s.heap.objs.size=some { cls:=.type "list",dict:=none,data:=.seq its.toArray c',slots:=#[] }->EP X YB σ Q (.ref s.heap.objs.size) { s with heap:=h' }:=λits r' hz h' c' kp e=>
  ⟨.ref s.heap.objs.size,_,I.laid (t':=s.toks) kp (Td _) (show ObjOk X.prog X.w _ h' _ (.lst ys) from⟨hz,its,c',r',e⟩),rfl,q _ (I.hok.fresh (Td _))⟩
 rcases hq with hq | hq
 ·obtain⟨its,r',pl,hz⟩:=I.list hq;have hlen:=r'.length;obtain⟨o,ho,hc,n,hd⟩:=pl.isList;exact call_list_seq p (.inl rfl) ho hc hd (λh' c' kp e=>fin its r' hz h' c' kp e) (by simp only[List.size_toArray]<;>omega)
 ·obtain⟨its,r',pl,hz⟩:=I.tuple hq;have hlen:=r'.length;obtain⟨o,ho,hc,n,hd⟩:=pl;exact call_list_seq p (.inr rfl) ho hc hd (λh' c' kp e=>fin its r' hz h' c' kp e) (by simp only[List.size_toArray]<;>omega)
def call_tuple_of:CallR X (.type "tuple") (λxs H Q=>∃ p ys,xs=[.ref p]/\((SqL X.K H p ys/\∀ l,H l=none->Q (.ref l) (upd H l (.tup ys)))\/(SqT X.K H p ys/\Q (.ref p) H))):=by
 intro YB s σ H xs us Q I r h;obtain⟨p,ys,rfl,h⟩:=h;obtain⟨u,rfl,rx⟩:=vals1 r;cases rx;rcases h with ⟨hq,q⟩ | ⟨hq,q⟩
 ·obtain⟨its,r',pl,hz⟩:=I.list hq;have hlen:=r'.length;refine call_tuple_list pl.isList (λh' kp=>?_) (by simp only[List.size_toArray]<;>omega)
  have I1:Inv X YB σ H { s with heap:=h' }:=I.kept (t':=s.toks) kp
  have I2:Inv X YB σ (upd H h'.objs.size (.tup ys)) { s with heap:=h'.push { cls:=.type "tuple",data:=.seq its.toArray } }:=
   I1.laid (t':=s.toks) (λb o e=>S5 _ e) (Td _) (show ObjOk X.prog X.w _ _ _ (.tup ys) from⟨hz,its,r',Yw _ _⟩)
  exact⟨.ref h'.objs.size,_,I2,rfl,q _ (I1.hok.fresh (Td _))⟩
 ·obtain⟨its,r',pl,hz⟩:=I.tuple hq;exact call_tuple_same pl ⟨.ref p,H,I,rfl,q⟩
def tyV(K:PySem.W.Frag)(T:String)(x:V)(H:Hp):Prop:=match x with
 |.str _=>T = "str"
 |.int _=>T = "int"
 |.ref p=>(T = "list"/\∃xs,SqL K H p xs)\/(T = "tuple"/\∃o,K.lookup p=some o/\o.cls=.type "tuple"/\o.dict=none) \/
   (T = "dict"/\((∃kvs,H p=some (.dK kvs))\/∃kvs,H p=some (.dT kvs)))\/(T = "set"/\∃S n,H p=some (.set S n))
 |_=>False
def tyV_is(I:Inv X YB σ H s)(r:RelV x v)(ty:tyV X.K T x H):
  s.TypeIs v T/\∀a,v=.ref a->∃ob,s.heap.get? a=some ob/\ob.dict=none:=by
 cases x with
 |str z=>
   obtain⟨t,rfl⟩:=r;cases (show T = "str" from ty)
   exact⟨typeIs_str s z t,λy e=>nomatch e⟩
 |int i=>
   obtain⟨t,rfl⟩:=r;cases (show T = "int" from ty)
   exact⟨typeIs_int s i t,λy e=>nomatch e⟩
 | ref p=>
   cases r;rcases ty with ⟨rfl,xs,hq⟩ | ⟨rfl,o,hk,hc,hd⟩ | ⟨rfl,hk⟩ | ⟨rfl,S,n,hk⟩
   ·obtain⟨its,_,pl,_⟩:=I.list hq;refine⟨pl.isList.typeIs,λa e=>?_⟩
    cases e;obtain⟨o,n,e,c,hd,_⟩:=pl;exact⟨o,e,hd⟩
   ·refine⟨⟨o,I.kIn p o hk,hc⟩,λa e=>?_⟩
    cases e;exact⟨o,I.kIn _ o hk,hd⟩
   ·have z:∃ o,s.heap.get? p=some o/\o.ExactDict:=by
     rcases hk with ⟨kvs,hk⟩ | ⟨kvs,hk⟩
     ·obtain⟨_,_,_,_,o,_,_,e,ex,_⟩:=I.hok p _ hk;exact⟨o,e,ex⟩
     ·obtain⟨_,_,_,_,o,_,_,e,ex,_⟩:=I.hok p _ hk;exact⟨o,e,ex⟩
    obtain⟨o,e,ex⟩:=z;refine⟨⟨o,e,ex.1⟩,λa e2=>?_⟩
    cases e2;exact⟨o,e,ex.2.1⟩
   ·obtain⟨o,_,_,_,e,ex,_⟩:=I.hok p _ hk;refine⟨⟨o,e,ex.1⟩,λa e2=>?_⟩
    cases e2;exact⟨o,e,ex.2.1⟩
 |_=>exact False.elim ty
def tBM(K:PySem.W.Frag)(T:String)(r:V->List V->Hp->VK->Prop)(to:TE)(t:TA):TE:=λσ H Q=>to σ H λx H1=>tyV K T x H1/\t σ H1 λxs H2=>r x xs H2 Q
variable{o e:Expr}{es:List Expr}{to:TE}{t:TA}{name:Str}{apos cpos:Pos}{T id:String}{r:V->List V->Hp->VK->Prop}
def pe_bm(pa:PlainAttrs T)(slot:Slot T name id)(hty:typeOf (.builtin id)=pure (.type "method_descriptor"))(hm:MtR X id r)(ho:PE X o to)(ha:PA X (e::es) t)
  (hbase:attributeBase o name X.env (eval o X.env)=eval o X.env:=by rfl)
  (hfew:((backTo cpos (starEach (e::es) X.env)).all (fun x=>!x.1)&&(backToKw cpos (keywordEach [] X.env)).all (fun x=>x.1.isSome)
   &&decide ((e::es).length+([]:List Keyword).length+(if ([]:List Keyword).isEmpty then 0 else 1)<30))=true:=by rfl)
  (hline:(apos.endLine==cpos.line)=true:=by rfl) (hs:starEach (e::es) X.env=(false,eval e X.env)::starEach es X.env:=by rfl) (hplain:(backTo cpos (starEach es X.env)).any (·.1)=false:=by rfl) :
  PE X (.Call (.Attribute o name apos) (e::es) [] cpos) (tBM X.K T r to t):=by
 intro YB s σ H Q I h;refine wpAny_Call_method_late hbase hfew hline rfl (thn (ho YB s σ H _ I h) λv s1 ⟨x,H1,I1,r1,ty,q1⟩=>?_)
 obtain⟨h1,h2⟩:=tyV_is I1 r1 ty;refine⟨T,id,pa,slot,hty,h1,h2,?_⟩;have hA:=ha cpos YB s1 σ H1 _ I1 q1;rw[hs]at hA ⊢
 refine Calls.callWith_builtin (by show (false || (backTo cpos (starEach es X.env)).any (·.1))=false;rw[hplain]<;>rfl) (Calls.evalArgs_plain ?_)
 exact thn hA λus s2 ⟨vs,H2,I2,r2,q2⟩=>hm YB s2 σ H2 x vs v us Q I2 r1 r2 q2
end
open PySem PySem.Spec PyProof.Rows
def MtM(X:Cx)(id:String)(r:V->List V->Hp->VK->Prop):Prop:=
 ∀(YB:List (Addr×Obj)) (s:Shared) (σ:St) (H:Hp) (x:V) (xs:List V) (v:Value) (us:List Value) (Q:VK),Inv X YB σ H s->RelV x v->Vals xs us->r x xs H Q->
   wpAny (model X.prog X.w) X.A (call (.builtin id) (v::us)) (EP X YB σ Q) X.xe s
def Vals.one:∀{x:V}{us:List Value},Vals [x] us->∃u,us=[u]/\RelV x u
 |_,_,.cons r .nil=>⟨_,rfl,r⟩
theorem Vals.eraseIdx:∀{xs:List V}{us:List Value} (i:Nat),Vals xs us->Vals (xs.eraseIdx i) (us.eraseIdx i)
 |_,_,_,.nil=>.nil
 |_,_,0,.cons _ t=>t
 |_,_,i+1,.cons r t=>.cons r (Vals.eraseIdx i t)
theorem Vals.rep(h:Vals xs us):∀ k:Nat,Vals (List.replicate k xs).flatten (List.replicate k us).flatten
 |0=>.nil
 |k+1=>by rw[Vy,Vy,Wg,Wg];exact Vals.append h (Vals.rep h k)
theorem len_erase:∀(l:List α) (i:Nat),(l.eraseIdx i).length<=l.length
 |[],_=>Td _
 |_::_,0=>WM _
 |_::r,i+1=>Nat.succ_le_succ (len_erase r i)
theorem foldl_rep(its:List Value):∀ (k:Nat) (acc:List Value),
  List.foldl (λx1 x2=>x1++x2) acc.toArray (List.replicate k its.toArray)=(acc++(List.replicate k its).flatten).toArray
 |0,acc=>by simp
 | k + 1,acc=>by
   have e:acc.toArray++its.toArray=(acc++its).toArray:=by simp
   have e2:(acc++its)++(List.replicate k its).flatten=acc++(List.replicate (k+1) its).flatten:=by rw[Vy,Wg,Vv]
   rw[<-e2,<-foldl_rep its k (acc++its),<-e,Vy,Wz]
section
variable{X:Cx}{YB:List (Addr×Obj)}{σ:St}{H:Hp}{s:Shared}{l b:Addr}{xs ys zs:List V}
def Inv.lset{its its':List Value}{n:Nat}{f:Array Value->Array Value}{t':Nat}(I:Inv X YB σ H s)(hH:H l=some (.lst xs))
  (e:s.heap.get? l=some { cls:=.type "list",data:=.seq its.toArray n }) (hf:f its.toArray=its'.toArray) (hv:Vals ys its') (hz:ys.length<=sizeLine) :
  Inv X YB σ (upd H l (.lst ys)) { s with heap:=s.heap.update l (Obj.mapSeq f),toks:=t' }:=by
 have q:=PySem.IsL.update e f;rw[hf]at q;refine I.write (x:=l) (e:=l) (by rw[hH];exact trivial) (.inl rfl) (λb' u hb hu=>(VD s.heap (Obj.mapSeq f) (Ne.symm hb)).trans hu) ⟨_,q⟩ ?_
 exact⟨hz,its',_,hv,q⟩
def Inv.lnew(I:Inv X YB σ H s)(hv:Vals ys its)(hz:ys.length<=sizeLine):
  Inv X YB σ (upd H s.heap.objs.size (.lst ys)) { s with heap:=s.heap.push { cls:=.type "list",data:=.seq its.toArray },toks:=t' }:=
 I.laid (λz z q=>S5 _ q) (Td _) ⟨hz,its,0,hv,Tg _ rfl⟩
theorem Inv.fresh(I:Inv X YB σ H s):H s.heap.objs.size=none:=I.hok.fresh (Td _)
def Inv.lstM(I:Inv X YB σ H s)(hH:H l=some (.lst xs)):xs.length<=sizeLine/\∃(its:List Value) (n:Nat),Vals xs its/\xs.length=its.length/\s.heap.get? l=some { cls:=.type "list",data:=.seq its.toArray n }:=by obtain⟨z,its,n,r,e⟩:=I.hok l _ hH;exact⟨z,its,n,r,r.length,e⟩
def notLongL{n:Nat}(h:n<=sizeLine):Builtin.List.listTooLong n=false:=by unfold Builtin.List.listTooLong;exact Uq (by omega)
end
section
variable{X:Cx}
def rAppend:V->List V->Hp->VK->Prop:=λx vs H Q=>∃l xs y,x=.ref l/\vs=[y]/\H l=some (.lst xs)/\xs.length<sizeLine/\Q .non (upd H l (.lst (xs++[y])))
def mt_append:MtM X "list.append" rAppend:=by
 intro YB s σ H x vs v us Q I rx rv h;obtain⟨l,xs,y,rfl,rfl,hH,hz,q⟩:=h;cases rx;obtain⟨u,rfl,ru⟩:=rv.one;obtain⟨z,its,n,r,hl,e⟩:=I.lstM hH;refine Yu F.slot_list_append ⟨_,e,rfl⟩ F.entry_list_append (F.args_list_append_2 _ _) (PySem.list_append l its.toArray n u (by rw[TF];omega)) ⟨e,?_⟩
 refine⟨.non,_,I.lset (its':=its++[u]) hH e (by simp) (r.append (.cons ru .nil)) ?_,rfl,q⟩
 rw[T4,List.length_singleton];omega
def rExtend:V->List V->Hp->VK->Prop:=λx vs H Q=>∃l b xs zs,x=.ref l/\vs=[.ref b]/\H l=some (.lst xs)/\H b=some (.lst zs)/\xs.length+zs.length<=sizeLine/\Q .non (upd H l (.lst (xs++zs)))
def mt_extend:MtM X "list.extend" rExtend:=by
 intro YB s σ H x vs v us Q I rx rv h;obtain⟨l,b,xs,zs,rfl,rfl,hH,hB,hz,q⟩:=h;cases rx;obtain⟨u,rfl,ru⟩:=rv.one;cases ru;obtain⟨z,its,n,r,hl,e⟩:=I.lstM hH;obtain⟨z2,its2,n2,r2,hl2,e2⟩:=I.lstM hB;have hsz:its.toArray.size+its2.toArray.size<=sizeLine:=by rw[TF,TF];omega
 have hlong:¬ (!its.toArray.isEmpty&&Builtin.List.listTooLong (its.toArray.size+its2.toArray.size))=true:=by rw[notLongL hsz,Bool.and_false];exact TX
 refine Yu F.slot_list_extend ⟨_,e,rfl⟩ F.entry_list_extend (F.args_list_extend_2 _ _)
  (AutoSeq1.list_extend_list_list_0 l its.toArray n b its2.toArray n2 hlong (by rw[TF];omega) (by omega)) ⟨e,e2,?_⟩
 refine⟨.non,_,I.lset (its':=its++its2) hH e (by simp) (r.append r2) ?_,rfl,q⟩
 rw[T4];omega
def rPopAt:V->List V->Hp->VK->Prop:=λx vs H Q=>∃l xs i k y,x=.ref l/\vs=[.int i]/\H l=some (.lst xs)/\-(2^63)<=i/\i<2^63/\seqIndex? i xs.length=some k/\xs[k]?=some y/\Q y (upd H l (.lst (xs.eraseIdx k)))
def mt_popAt:MtM X "list.pop" rPopAt:=by
 intro YB s σ H x vs v us Q I rx rv h;obtain⟨l,xs,i,k,y,rfl,rfl,hH,h1,h2,hk,hy,q⟩:=h;cases rx;obtain⟨u,rfl,ru⟩:=rv.one;obtain⟨t,rfl⟩:=ru;obtain⟨z,its,n,r,hl,e⟩:=I.lstM hH;obtain⟨w,hw,rw'⟩:=r.get hy;refine Yu F.slot_list_pop ⟨_,e,rfl⟩ F.entry_list_pop (F.args_list_pop_2 _ _)
  (MeetsSeq.list_pop_at l its.toArray n i t k w (fitsIndex_both h1 h2) (by rw[TF,<-hl];exact hk) (by rw[<-Wc];exact hw) (by rw[TF];omega)) ⟨e,?_⟩
 refine⟨y,_,I.lset (its':=its.eraseIdx k) hH e ?_ (r.eraseIdx k) ?_,rw',q⟩
 ·show its.toArray.eraseIdxIfInBounds k=(its.eraseIdx k).toArray;rw[List.eraseIdxIfInBounds_toArray]
 ·have:=len_erase xs k;omega
def rCat:R2:=λx y H Q=>∃l b xs zs,x=.ref l/\y=.ref b/\H l=some (.lst xs)/\H b=some (.lst zs)/\xs.length+zs.length<=sizeLine/\∀p,H p=none->Q (.ref p) (upd H p (.lst (xs++zs)))
def op_cat:OpR X (binaryOp .Add) rCat:=by
 intro YB s σ H x y v u Q I rx ry h;obtain⟨l,b,xs,zs,rfl,rfl,hH,hB,hz,q⟩:=h;cases rx;cases ry;obtain⟨z,its,n,r,hl,e⟩:=I.lstM hH;obtain⟨z2,its2,n2,r2,hl2,e2⟩:=I.lstM hB;refine PySem.P.add_list e e2 ?_ (by rw[TF,TF];omega)
 have ea:its.toArray++its2.toArray=(its++its2).toArray:=by simp
 rw[ea];exact⟨.ref _,_,I.lnew (t':=s.toks) (r.append r2) (by rw[T4];omega),rfl,q _ I.fresh⟩
def rRep:R2:=λx y H Q=>∃l k xs,x=.ref l/\y=.int k/\H l=some (.lst xs)/\-(2^63)<=k/\k<2^63/\xs.length*k.toNat<=sizeLine /\
 ∀p,H p=none->Q (.ref p) (upd H p (.lst (List.replicate k.toNat xs).flatten))
def len_rep(xs:List α)(k:Nat):(List.replicate k xs).flatten.length=k*xs.length:=by
 induction k with
 |zero=>simp
 |succ k ih=>rw[Vy,Wg,T4,ih,Nat.succ_mul,Nat.add_comm]
def op_rep:OpR X (binaryOp .Mult) rRep:=by
 intro YB s σ H x y v u Q I rx ry h;obtain⟨l,k,xs,rfl,rfl,hH,h1,h2,hz,q⟩:=h;cases rx;obtain⟨t,rfl⟩:=ry;obtain⟨z,its,n,r,hl,e⟩:=I.lstM hH;have hlen:its.toArray.size*k.toNat<=sizeLine:=by rw[TF,<-hl];exact hz
 have hcap:¬ its.toArray.size*k.toNat > (2^63-1) / 8:=by
  have:(sizeLine:Nat)<=(2^63-1) / 8:=by decide
  omega
 have hfit:¬ (!Builtin.List.listFitsIndex k)=true:=by rw[fitsIndex_both h1 h2];exact TX
 have hlong:¬ Builtin.List.listTooLong (its.toArray.size*k.toNat)=true:=by rw[notLongL hlen];exact TX
 have hnew:List.foldl (λx1 x2=>x1++x2) #[] (List.replicate (if its.toArray.isEmpty=true then 0 else k.toNat) its.toArray)=(List.replicate k.toNat its).flatten.toArray:=by
  have f0:∀m:Nat,List.foldl (λx1 x2=>x1++x2) #[] (List.replicate m its.toArray)=(List.replicate m its).flatten.toArray:=λm=>by have:=foldl_rep its m [];rw[Yi]at this;exact this
  rw[f0];cases its with
  |nil=>simp
  |cons a r'=>rw[Ti (by simp)]
 refine wpAny_binaryOp_repeat_ref (T := "list") (U := "int") (by decide) ⟨_,e,rfl⟩ (λs'=>typeIs_int s' k t) noFill_list_mul F.fills_int_mul F.slot_int_rmul repeat_list F.slot_int_index.lookup
  (Yu F.slot_int_rmul (typeIs_int s k t) F.entry_int_rmul (F.args_int_rmul_2 _ _) (int___rmul___int_list k t l its.toArray n)
    ⟨e,rfl,⟨_,e,rfl⟩,Yu F.slot_list_mul ⟨_,e,rfl⟩ F.entry_list_mul (F.args_list_mul_2 _ _) (AutoListH.list___mul___list_int_3 l its.toArray n k t hfit hcap hlong) ⟨e,?_⟩⟩)
 rw[hnew];exact⟨.ref _,_,I.lnew (t':=s.toks) (r.rep k.toNat) (by rw[len_rep,Nat.mul_comm];exact hz),rfl,q _ I.fresh⟩
end
end L2
namespace Att
open PySem PySem.W PySem.Calls PyProof.Rows
def ints_of_wellAll:∀ (ns:List Int) (vs:List Value),WellAll P h vs (ns.map WData.int)->IntsAre vs ns:=by
 intro ns;induction ns with
 |nil=>intro vs w;rw[Xj]at w;cases w;exact .nil
 | cons n ns ih=>
   intro vs w;rw[Ud]at w;cases w with
   |cons a b=>cases a;exact .cons _ _ (ih _ b)
def script_of{l:OpenLaw}{n:Nat}(hn:l.most=some n){P:Params}{h:Heap}{args:List WData}{vals:List Value}
  (hpre:l.row.toRowW.claim.pre args=true) (hwl:WellAll P h vals args) :
  ∃a vs ns,vals=[Value.ref a]/\args=[WData.list (ns.map WData.int)]/\h.get? a=some { cls:=.type "list",data:=.seq vs.toArray }/\IntsAre vs ns/\ns.length<=n:=by
 have hsh:WShape.hasAll [] args [.list .int]=true:=(pre_splitW hpre).1;have hc:l.pre.holds [] { args:=args }=true:=(pre_splitW hpre).2;obtain⟨d,r,rfl,h1,h2⟩:=hasAllW_cons hsh;obtain rfl:=hasAllW_nil h2;obtain⟨xs,rfl,h3⟩:=hasW_list h1;obtain⟨ns,rfl⟩:=items_int h3;have hlen:ns.length<=n:=by
  unfold OpenLaw.pre at hc;have h4:(WTm.not (.lt (.lit (.int (n:Int))) (.len (.arg 0)))).holds [] { args:=[.list (ns.map .int)] }=true:=by have h4:=(holds_andW hc).1;rw[hn]at h4;exact h4
  have h5:=condW_of h4 (w_not (w_lt w_lit (w_len_list (w_arg rfl))));rw[S9]at h5;refine XR λq=>?_
  have q':(n:Int)<((ns.length:Nat):Int):=by omega
  first
   |(rw[Tw q']at h5;exact absurd h5 (by decide))
   |(simp at h5;omega)
 cases hwl with
 |cons w1 w2=>
   cases w2;cases w1 with
   |list ho hall=>exact⟨_,_,ns,rfl,rfl,ho,ints_of_wellAll ns _ hall,hlen⟩
def post_true(l:OpenLaw)(args:List WData):l.row.toRowW.claim.post args (.bool true) args=true:=
 postW_of (r:=l.row.toRowW) (X:=(true==true))
  (show WShape.has [] (.bool true) .bool=true by first | rfl | decide | simp[WShape.has,WShape.arms,WShape.armsAll])
  (show (WTm.eq .res (.lit (.bool true))).value [] { args:=args,res:=some (.bool true),after:=args }=some (.bool (true==true)) from w_eq_bool (w_res rfl) w_lit) rfl
def attach_call{l:OpenLaw}{n:Nat}{q:Program}{loose:List Str}{XP:(Str->Option Value)->Heap->Prop}{YP:World->Heap->Prop}{d:DefRec}
  (hn:l.most=some n) (hdf:d.params.defaults=[])
  (call:∀(w:World) (s₀ s₁:Shared) (mg mb:Str->Option Value) (fa:Addr) (o:Obj) (pm cd doc:Value) (a:Addr) (vs:List Value) (ns:List Int),
    Ground q loose [] XP w s₀ mg mb s₁.heap->YP w s₁.heap->
    s₁.heap.get? fa=some o->o.data=.func (docDef d.name d.params d.body d.scope pm cd doc)->s₁.heap.CodeRec cd d.name->mg d.name=some (.ref fa)->
    s₁.heap.get? a=some { cls:=.type "list",data:=.seq vs.toArray }->IntsAre vs ns->ns.length<=n->s₁.gens=#[]->
    codeAny (model l.prog w) callerA (.call (.ref fa) ⟨[.ref a],[]⟩) (λr s'=>r=.ok (.ret (.bool true))/\OldK s₁.heap s'.heap/\s'.os=s₁.os/\AllBare s'.gens) s₁) :
  WalkO q loose XP YP l.row.toRowW d [] (λf vs=>PySem.call f vs):=by
 intro w s₀ s₁ mg mb G Y fa o pm cd doc dV kV ho hd hcd hD hmg hg args vals as hpre hlay hrd hwl hlo;obtain rfl:dV=.none:=Dflts.none hD hdf;obtain rfl:kV=.none:=Dflts.noKw hD;obtain⟨a,vs,ns,rfl,rfl,hobj,hints,hlen⟩:=script_of hn hpre hwl;refine enter_call (V8 (call w s₀ s₁ mg mb fa o pm cd doc a vs ns G Y ho (fd_plain hd) hcd hmg hobj hints hlen hg) λr s' hq=>?_)
 obtain⟨rfl,h2,h3,h4⟩:=hq;exact⟨.inl ⟨.bool true,.bool true,[],rfl,λz=>rfl,.bool true,post_true l _,λz=>⟨List.Pairwise.nil,λz hm=>(nomatch hm)⟩⟩,h2,h3,h4⟩
end Att
namespace L2
open PySem PySem.Spec PyProof.Rows
theorem vals_ints:∀{vs:List Value}{ns:List Int},IntsAre vs ns->Vals (ns.map V.int) vs
 |_,_,.nil=>.nil
 |_,_,.cons n t h=>.cons ⟨t,rfl⟩ (vals_ints h)
def Only(H:Hp):Prop:=∀b,H b=none\/∃o xs,H b=some (.frz o (.lst xs))
def law_call{P:Program}{w:World}{K:PySem.W.Frag}{mg mb:Str->Option Value}{CX:CXT}{k:Nat}{fa a:Addr}{fd:FuncData}{x:Str}{sp:Sp}{s₁:Shared}{vs:List Value}{ns:List Int}
  (KX:K.In s₁.heap) (hns:s₁.heap.Ns mainGlobals mg) (hb:s₁.heap.Ns builtinsNs mb) (hbb:∀x:Str,x≠"__name__"->mb x=bootBuiltins x) (hlim:s₁.heap.NoLimit) (hg:s₁.gens=#[])
  (ha:s₁.heap.get? a=some { cls:=.type "list",data:=.seq vs.toArray }) (hi:IntsAre vs ns) (hl:ns.length<=sizeLine) (hr:Room k callerA)
  (F:∀base:Heap,K.In base->base.Ns mainGlobals mg->FnOk P w K mg base CX k fa fd [x] sp) (hbind:∀(s:Shared) (u:Value),BindsTo s fd ⟨[u],[]⟩ [(x,u)])
  (hsp:∀H:Hp,Only H->SqL K H a (ns.map V.int)->sp [.ref a] H (λv y=>v=.bl true) λy y y=>False)
  (hCX:∀H e s',CX [] H s₁ (λy y y=>False) e s'->False) :
  codeAny (model P w) callerA (.call (.ref fa) ⟨[.ref a],[]⟩) (λr s'=>r=.ok (.ret (.bool true))/\OldK s₁.heap s'.heap/\s'.os=s₁.os/\AllBare s'.gens) s₁:=by
 have rv:=vals_ints hi;have lenV:=hi.length
 -- from an abstract heap in which nothing but the script may be tracked
 have core:∀ H:Hp,Only H->SqL K H a (ns.map V.int)->HOk P w H s₁.heap->(∀ b,H b≠none->b=a)->(H a≠none->K.lookup a=none)->
   codeAny (model P w) callerA (.call (.ref fa) ⟨[.ref a],[]⟩) (λr s'=>r=.ok (.ret (.bool true))/\OldK s₁.heap s'.heap/\s'.os=s₁.os/\AllBare s'.gens) s₁:=by
  intro H hO hS hok hA hK;have base_of:∀{b:Addr}{o:Obj},s₁.heap.get? b=some o->H b=none->(hidT s₁.heap H).get? b=some o:=λe n=>hidT_get e n
  have noA:∀ {b:Addr}{o:Obj}{es:Array DictEntry}{ep:Nat},s₁.heap.get? b=some o->o.data=.dict es ep->H b=none:=λ{b o es ep} e d=>by
   cases q:H b with
   |none=>rfl
   |some u=>
     have e':b=a:=hA b (by rw[q];simp)
     subst e';rw[ha]at e;cases e;have d':Data.seq vs.toArray _=Data.dict es ep:=d;cases d'
  have nsK:∀{b:Addr}{m:Str->Option Value},s₁.heap.Ns b m->(hidT s₁.heap H).Ns b m:=λ{b m} ⟨o,es,ep,e,d,r⟩=>⟨o,es,ep,base_of e (noA e d),d,r⟩
  have hKb:K.In (hidT s₁.heap H):=λb o e=>base_of (KX b o e) (by
   cases q:H b with
   |none=>rfl
   |some u=>
     have e':b=a:=hA b (by rw[q];simp)
     subst e';rw[hK (by rw[q];simp)]at e;cases e)
  have hM:Mod K mg (hidT s₁.heap H):=⟨hKb,nsK hns,⟨mb,nsK hb,hbb⟩,let ⟨mc,h1,h2⟩:=hlim;⟨mc,nsK h1,h2⟩⟩
  have e0:Env0 P w K mg (hidT s₁.heap H) callerA [] s₁ H:=⟨rfl,hM,λb o e=>of_hidT e,Nat.le_of_eq (hidT_size _ _),trivial,λb hb=>absurd (show b∈([]:List Addr) from hb) (by simp),hok,.of_eq hg⟩
  refine V8 ((F _ hKb (nsK hns)).run callerA [] s₁ H ⟨[.ref a],[]⟩ [.ref a] [.ref a] _ _ hr e0 (hbind s₁ (.ref a)) (.cons rfl .nil) (hsp H hO hS)) λr s' h=>?_
  cases r with
  |error e=>exact (hCX H e s' h).elim
  | ok fl=>
    cases fl with
    |next=>exact False.elim h
    |brk=>exact False.elim h
    |cont=>exact False.elim h
    | ret u=>
      obtain⟨v,H',os,bare,un,hok',r',q⟩:=h;have q':v=.bl true:=q;subst q';obtain rfl:u=Value.bool true:=r';refine⟨rfl,OldK.of_keep λb o e=>?_,os,bare⟩
      cases q:H b with
      |none=>exact un.keep b o e q (by intro z;exact absurd (show b∈([]:List Addr) from z) (by simp)) (by simp)
      | some u=>
        rcases hO b with z | ⟨ob,xs,z⟩
        ·rw[q]at z;cases z
        ·have z2:=un.frzs b ob _ z;obtain⟨e1,_⟩:=hok b _ z;obtain⟨e2,_⟩:=hok' b _ z2;rw[e]at e1;cases e1;exact e2
 cases hk:K.lookup a with
 |some o=>
   -- the script is one of the module's own objects
   have e:=KX a o hk;rw[ha]at e;cases e;refine core (λy=>none) (λy=>.inl rfl) (.inr ⟨_,vs.toArray,_,hk,rfl,rfl,rfl,by rw[TF,lenV];exact hl,by simpa using rv⟩) (λb u z=>by have z':(none:Option HO)=some u:=z;cases z') (λb z=>absurd rfl z) λz=>absurd rfl z
 | none=>
   refine core (λb=>if b=a then some (.frz { cls:=.type "list",data:=.seq vs.toArray } (.lst (ns.map V.int))) else none) (λb=>?_) (.inl (.inr ⟨{ cls:=.type "list",data:=.seq vs.toArray },Tf rfl⟩)) (λb u z=>?_) (λb z=>?_) λy=>hk
   ·by_cases hb:b=a
    ·exact .inr ⟨_,_,Tf hb⟩
    ·exact .inl (Ti hb)
   ·by_cases hb:b=a
    ·have z':=(Tf hb).symm.trans z;cases z';subst hb;exact⟨ha,by rw[S9];exact hl,vs,_,rv,ha⟩
    ·have z':=(Ti hb).symm.trans z;cases z'
   ·by_cases hb:b=a
    ·exact hb
    ·exact absurd (Ti hb) z
open PySem PySem.Spec PyProof.Rows
def walk_of{l:PySem.W.OpenLaw}{n k:Nat}{q:Program}{loose:List Str}{XP:(Str->Option Value)->Heap->Prop}{YP:World->Heap->Prop}{d:DefRec}{K:Params->PySem.W.Frag}{CX:World->CXT}{sp:World->Sp}{x:Str}
  (hn:l.most=some n) (hn2:n<=sizeLine) (hdf:d.params.defaults=[]) (hr:Room k callerA)
  (hY:∀(w:World) (h:Heap),YP w h->(K w.params).In h)
  (F:∀ (w:World) (mg:Str->Option Value) (fa:Addr) (h:Heap),(K w.params).In h->h.Ns mainGlobals mg->mg d.name=some (.ref fa)->
    ∃fd:FuncData,(∀(s:Shared) (u:Value),BindsTo s fd ⟨[u],[]⟩ [(x,u)]) /\
      ∀base:Heap,(K w.params).In base->base.Ns mainGlobals mg->FnOk l.prog w (K w.params) mg base (CX w) k fa fd [x] (sp w))
  (hsp:∀(w:World) (H:Hp) (a:Addr) (ns:List Int),ns.length<=n->Only H->SqL (K w.params) H a (ns.map V.int)->sp w [.ref a] H (λv z=>v=.bl true) λz z z=>False)
  (hCX:∀(w:World) (H:Hp) (s:Shared) (e:Value) (s':Shared),CX w [] H s (λz z z=>False) e s'->False) :
  PySem.W.WalkO q loose XP YP l.row.toRowW d [] (λf vs=>PySem.call f vs):=by
 refine Att.attach_call hn hdf λw s₀ s₁ mg mb fa o pm cd doc a vs ns G Y ho hd hcd hmg hobj hints hlen hg=>?_
 have KX:=hY w _ Y;obtain⟨fd,hb,hF⟩:=F w mg fa _ KX G.T.g hmg;exact law_call KX G.T.g G.T.b G.T.builtins G.T.nolimit hg hobj hints (Ue hlen hn2) hr hF hb (λH hO hS=>hsp w H a ns hlen hO hS) λH e s'=>hCX w H s₁ e s'
open PySem PySem.Spec PyProof.Rows
def inClass(s:Stmt)(j:Nat):Stmt:=match s with
 |.ClassDef _ _ _ body _ _ _ _ _ _ _=>body.getD j (.Pass ⟨0,0,0,0⟩)
 |_=>.Pass ⟨0,0,0,0⟩
def defArgs(s:Stmt):Arguments:=match s with
 |.FunctionDef _ a _ _ _ _ _ _ _ _=>a
 |_=>{ posonlyargs:=[],args:=[],vararg:=none,kwonlyargs:=[],kw_defaults:=[],kwarg:=none,defaults:=[] }
def defBody(s:Stmt):List Stmt:=match s with
 |.FunctionDef _ _ b _ _ _ _ _ _ _=>b
 |_=>[]
def defScope(s:Stmt):Scope:=match s with
 |.FunctionDef _ _ _ _ _ _ sc _ _ _=>sc
 |_=>{ kind:=.function,names:=[],isGenerator:=false,isCoroutine:=false }
abbrev E0:XK:=λ_ _ _=>False
structure Fun(K:PySem.W.Frag)(x qual:Str)(st:Stmt)(f:Addr)(fd:FuncData):Prop where
 ex:∃(oc:Value) (od:Option Addr) (kV doc pm:Value) (an:Option Addr) (cdv ct:Value) (osl:Array (Option Value)),
  fd=PySem.W.fnOf x qual (defArgs st) (defBody st) (defScope st) .none kV doc pm an cdv ct/\K.lookup f=some ⟨oc,od,.func fd,osl⟩/\PySem.W.codeIn K cdv qual=true
 kp:PySem.W.keepIn K (.ref f)=true
section
variable{P:Program}{w:World}{K:PySem.W.Frag}{mg:Str->Option Value}{base:Heap}
def Fun.binds{x qual:Str}{st:Stmt}{f:Addr}{fd:FuncData}{ps:List Str}(F:Fun K x qual st f fd)
  (h:∀(kV doc pm:Value) (an:Option Addr) (cdv ct:Value) (us:List Value),us.length=ps.length->bindArgs (PySem.W.fnOf x qual (defArgs st) (defBody st) (defScope st) .none kV doc pm an cdv ct) ⟨us,[]⟩=pure (ps.zip us)):Binds K fd ps []:=by
 obtain⟨oc,od,kV,doc,pm,an,cdv,ct,osl,rfl,lk,hcd⟩:=F.ex;exact .all (h kV doc pm an cdv ct)
def fun_mk{x qual:Str}{st:Stmt}{f:Addr}{oc:Value}{od an:Option Addr}{osl:Array (Option Value)}{kV doc pm cdv ct:Value}(l:K.lookup f=some ⟨oc,od,.func (PySem.W.fnOf x qual (defArgs st) (defBody st) (defScope st) .none kV doc pm an cdv ct),osl⟩)
  (c:PySem.W.codeIn K cdv qual=true) (k:PySem.W.keepIn K (.ref f)=true):Fun K x qual st f (PySem.W.fnOf x qual (defArgs st) (defBody st) (defScope st) .none kV doc pm an cdv ct):=⟨⟨oc,od,kV,doc,pm,an,cdv,ct,osl,rfl,l,c⟩,k⟩
end
def iteF{A B:Prop}(h:B):if false=true then A else B:=by rw[Ti TX];exact h
def iteT{A B:Prop}(h:A):if true=true then A else B:=by rw[Tf rfl];exact h
def Same(H H':Hp):Prop:=∀b o,H b=some o->H' b=some o
def Same.refl(H:Hp):Same H H:=λz z h=>h
mutual
inductive Rep(K:PySem.W.Frag)(H:Hp):V->PyData->Prop
 |non:Rep K H .non .none
 |bl (b:Bool):Rep K H (.bl b) (.bool b)
 |int (i:Int):Rep K H (.int i) (.int i)
 |str (x:Str):Rep K H (.str x) (.str x)
 |lst {a:Addr}{xs:List V}{ds:List PyData}:SqL K H a xs->Reps K H xs ds->Rep K H (.ref a) (.list ds)
 |tup {a:Addr}{xs:List V}{ds:List PyData}:SqT K H a xs->Reps K H xs ds->Rep K H (.ref a) (.tuple ds)
inductive Reps(K:PySem.W.Frag)(H:Hp):List V->List PyData->Prop
 |nil:Reps K H [] []
 |cons {v:V}{d:PyData}{vs:List V}{ds:List PyData}:Rep K H v d->Reps K H vs ds->Reps K H (v::vs) (d::ds)
end
section
variable{X:Cx}{YB:List (Addr×Obj)}{σ:St}{H:Hp}{s:Shared}
def Rep.reads(I:Inv X YB σ H s){v:V}{d:PyData}{u:Value}(h:Rep X.K H v d):RelV v u->∃ as,Reads s.heap u d as:=
 Rep.rec (motive_1:=λv d z=>∀ u,RelV v u->∃ as,Reads s.heap u d as) (motive_2:=λvs ds z=>∀ us,Vals vs us->∃ as,ReadsAll s.heap us ds as)
  (λu r=>by cases r;exact⟨_,.none⟩)
  (λb u r=>by cases r;exact⟨_,.bool b⟩)
  (λi u r=>by obtain⟨t,rfl⟩:=r;exact⟨_,.int i t⟩)
  (λi u r=>by obtain⟨t,rfl⟩:=r;exact⟨_,.str i t⟩)
  (λh hs ih u r=>by cases r;obtain⟨its,rv,⟨o,n,h1,h2,_,h3⟩,_⟩:=I.list h;obtain⟨as,ra⟩:=ih _ rv;exact⟨_,.list h1 h2 h3 ra⟩)
  (λh hs ih u r=>by cases r;obtain⟨its,rv,⟨o,h1,h2,n,h3⟩,_⟩:=I.tuple h;obtain⟨as,ra⟩:=ih _ rv;exact⟨_,.tuple h1 h2 h3 ra⟩)
  (λu r=>by cases r;exact⟨_,.nil⟩)
  (λh hs i1 i2 u r=>by
    cases r with
    |cons r1 r2=>obtain⟨a1,e1⟩:=i1 _ r1;obtain⟨a2,e2⟩:=i2 _ r2;exact⟨_,.cons e1 e2⟩)
  h u
end
def same_new{H:Hp}{p:Addr}(h:H p=none)(o:HO):Same H (upd H p o):=λb u q=>by rw[upd_ne (ne_of_none q h)];exact q
section
variable{X:Cx}
def Jm(K:PySem.W.Frag)(neg:Bool):R2:=λx y H Q=>∃da db,Rep K H x da/\Rep K H y db/\da.canLay0=true/\db.canLay0=true/\da.depth<=60/\Q (.bl (if neg then !PyData.eqv da db else PyData.eqv da db)) H
def OJ(hu:X.A.units+64<cLine):OpR X (compareOp .Eq) (Jm X.K false):=by intro YB s σ H x y v u Q I rx ry h;obtain⟨da,db,ha,hb,la,lb,hd,q⟩:=h;obtain⟨as,ra⟩:=ha.reads I rx;obtain⟨bs,rb⟩:=hb.reads I ry;exact PySem.SeqAt.compareEq_reads ra rb la lb (by lia) ⟨.bl _,H,I,rfl,q⟩
def O1(hu:X.A.units+64<cLine):OpR X (compareOp .NotEq) (Jm X.K true):=by intro YB s σ H x y v u Q I rx ry h;obtain⟨da,db,ha,hb,la,lb,hd,q⟩:=h;obtain⟨as,ra⟩:=ha.reads I rx;obtain⟨bs,rb⟩:=hb.reads I ry;exact PySem.SeqAt.compareNe_reads ra rb la lb (by lia) ⟨.bl _,H,I,rfl,q⟩
def PB(i j:Int):Prop:=IntMulOk i j
def K5:OpR X (binaryOp .Mult) (rI PB λi j=>.int (i*j)):=opI λz z z z z z z hc q=>mul_int q hc
def HR:CallR X (.builtin "isinstance") (λxs H Q=>∃x t c b,xs=[x,.ty c]/\TyOf X.K H x t/\PySem.W.kitOne X.K t (.type c)=some b/\Q (.bl b) H):=by intro YB s σ H xs us Q I r h;obtain⟨x,t,c,b,rfl,ty,e,q⟩:=h;obtain⟨u,w',rfl,r1,r2⟩:=vals2 r;cases r2;exact isinst_ok I r1 ty e λtk=>⟨.bl b,H,I.tok _,rfl,q⟩
end
open PySem PySem.Spec PyProof.Rows
structure DefAt(K:PySem.W.Frag)(mg:Str->Option Value)(x:Str)(st:Stmt):Prop where
 ex:∃f fd,Fun K x x st f fd/\mg x=some (.ref f)
def Ih{K:PySem.W.Frag}{h:Heap}{mg:Str->Option Value}{x:Str}{st:Stmt}{f:Addr}{oc:Value}{od an:Option Addr}{osl:Array (Option Value)}{kV doc pm cdv ct:Value}(X:K.In h)(G:h.Ns mainGlobals mg)
  (a:PySem.W.nsIn K mainGlobals x=some (some (.ref f))) (l:K.lookup f=some ⟨oc,od,.func (PySem.W.fnOf x x (defArgs st) (defBody st) (defScope st) .none kV doc pm an cdv ct),osl⟩) (c:PySem.W.codeIn K cdv x=true) (k:PySem.W.keepIn K (.ref f)=true):DefAt K mg x st:=
 ⟨f,_,fun_mk l c k,PySem.W.mg_of X G a⟩
section
variable{X:Cx}{j k:Nat}{ps:List Str}{sp:Sp}{x:Str}{p pos:Pos}{e:Expr}{es:List Expr}{t:TA}
def Rf{id:String}{r:List V->Hp->VK->Prop}(hc:CallR X (.builtin id) r)(hm:X.mg x=none)(ha:PA X (e::es) t)(hg:Gl X x:=by rfl)(hv:bootBuiltins x=some (.builtin id):=by decide +kernel)(hn:x≠"__name__":=by decide)(hdb:(x==("__debug__":Str))=false:=by decide)
  (he:starEach (e::es) X.env=(false,eval e X.env)::starEach es X.env:=by rfl) (hpl:(backTo pos (starEach es X.env)).any (·.1)=false:=by rfl) :
  PE X (.Call (.Name x p) (e::es) [] pos) (tCB r t):=pe_callB hc hg hm hv ha hn hdb he hpl
def Qh{T:String}(hm:X.mg x=none)(hg:Gl X x:=by rfl)(hv:bootBuiltins x=some (.type T):=by decide +kernel)(hn:x≠"__name__":=by decide)(hdb:(x==("__debug__":Str))=false:=by decide):PE X (.Name x pos) (tC (.ty T)):=
 pe_bltn hg hm hv rfl hn hdb
end
end L2
namespace L2
open PySem PySem.Spec PyProof.Rows
open PySem PySem.Spec PyProof.Rows
end L2
namespace L2
open PySem PySem.Spec PyProof.Rows
def gD(P:Program)(w:World):CXT:=λouter H s E e s'=>
 ∃(x:Addr) (C a0:Value) (H':Hp) (B:Heap),e=.ref x∧s'.os=s.os∧AllBare s'.gens∧Un (frs outer) [] H H' s.heap s'.heap∧HOk P w H' s'.heap∧Heap.FlyingW B outer x C a0 s'.heap ∧
   (∀b,H' b≠none->∃o,B.get? b=some o)/\(∀b o,s.heap.get? b=some o->b∉frs outer->∃o',B.get? b=some o')/\E C none H'
def Ir{env:Env}{l:List Env}{L:Addr}(h:env.frame=some L):frs (env::l)=L::frs l:=by unfold frs;rw[Wq,h]
def Mm{fs:List Addr}{H H':Hp}{h0 h h' B:Heap}(u:Un fs [] H H' h0 h)(hB:B.StaysIn h)(hB':B.StaysIn h')(up:h.UpToSlots h')
  (fr:∀b∈fs,∃o,h.get? b=some o/\∀vs,o.data≠.fields vs) (cov:∀b o,h0.get? b=some o->b∉fs->∃o',B.get? b=some o'):Un fs [] H H' h0 h' where
 keep b o e n hb hx:=by have h1:=u.keep b o e n hb hx;obtain⟨o',e'⟩:=cov b o e hb;have h2:=hB b o' e';rw[h1]at h2;cases h2;exact hB' b o e'
 slot b o e n hb hx:=by obtain⟨sl,h1⟩:=u.slot b o e n hb hx;obtain⟨o1,h2,nf⟩:=fr b hb;rw[h1]at h2;cases h2;obtain⟨sl2,h3⟩:=up b _ h1 nf;exact⟨sl2,h3⟩
 free:=u.free
 there b o e hx:=by
  by_cases hb:b∈fs
  ·obtain⟨o1,h2,nf⟩:=fr b hb;obtain⟨sl2,h3⟩:=up b _ h2 nf;exact⟨_,h3⟩
  ·obtain⟨o',e'⟩:=cov b o e hb;exact⟨o',hB' b o' e'⟩
 tups:=u.tups
 frzs:=u.frzs
 tbls:=u.tbls
def Iv{P:Program}{w:World}{H':Hp}{h h' B:Heap}(ok:HOk P w H' h)(hB:B.StaysIn h)(hB':B.StaysIn h')(cov:∀ b,H' b≠none->∃ o,B.get? b=some o):HOk P w H' h':=λa o e=>
 (ok a o e).stay (λb u hb hu=>by
   have hn:H' b≠none:=by
    rcases hb with rfl | hb
    ·rw[e];simp
    ·rw[hb];simp
   obtain⟨o',e'⟩:=cov b hn;have:=hB b o' e';rw[hu]at this;cases this;exact hB' b u e') (λz h=>h) (λz z h=>h)
section
variable{P:Program}{w:World}{K:PySem.W.Frag}{mg:Str->Option Value}{base:Heap}{N:List Str}{qual:Str}{scope:Scope}{f:Addr}{cd:Value}{A:Around}{outer:List Env}{s:Shared}{H:Hp}{E:XK}
abbrev jE(P:Program)(w:World)(K:PySem.W.Frag)(mg:Str->Option Value)(base:Heap)(N:List Str)(qual:Str)(scope:Scope)(f:Addr)(cd:Value)(A:Around)(outer:List Env)(s:Shared)(H:Hp)(E:XK):Cx:=
 cxOf (gD P w) P w K mg base N qual scope f cd A outer s H E
def aP:Passes (gD P w) (jE P w K mg base N qual scope f cd A outer s H E) E:=by
 intro YB σ H1 s1 e s' I hf;obtain⟨x,C,a0,H',B,rfl,os,bare,un,hok,fl,ci,cii,q⟩:=hf;have J:Inv (jE P w K mg base N qual scope f cd A outer s H E) YB σ H' s':=I.call' (ch:=[]) os un hok bare (λb z=>absurd z (by simp))
 have hfr:(jE P w K mg base N qual scope f cd A outer s H E).A.frames=some ((jE P w K mg base N qual scope f cd A outer s H E).env::outer):=I.ok.frames;have hfs:∀b∈frs outer,∃o,s'.heap.get? b=some o/\∀vs,o.data≠.fields vs:=λb hb=>(fl.2.2.1.2.2.mem hb).2
 have hfrm:(jE P w K mg base N qual scope f cd A outer s H E).env.frame=some (jE P w K mg base N qual scope f cd A outer s H E).env.locals:=rfl;have cov:∀b o,s.heap.get? b=some o->b∉frs outer->∃o',B.get? b=some o':=λb o e hb=>by
  obtain⟨o1,h1⟩:=I.base.there b o e (show b∉([]:List Addr) by simp)
  refine cii b o1 h1 ?_;show b∉frs ((jE P w K mg base N qual scope f cd A outer s H E).env::outer);rw[Ir hfrm];intro hm;rcases Tt.mp hm with rfl | hm
  ·exact absurd (Te e) (VG.mpr I.ok.above)
  ·exact hb hm
 show wpAny _ _ (leaving _ (.ref x)) _ _ s';refine wpAny_leaves_onW hfr rfl fl λh' fl' up=>?_
 exact⟨x,C,a0,H',B,rfl,J.os,bare,Mm J.base fl.1 fl'.1 up hfs cov,Iv hok fl.1 fl'.1 ci,fl',ci,cov,q⟩
end
def pick(js:List Nat)(σ:St):St:=js.map λj=>(σ[j]?).getD none
def vp(u:Un fs ex H H' h0 h)(hs:Heap.SameBut C h h')(hC:h0.objs.size<=C):Un fs ex H H' h0 h' where
 keep b o e n hb hx:=(hs.2 b (Tj (Tr (Te e) hC))).trans (u.keep b o e n hb hx)
 slot b o e n hb hx:=by obtain⟨sl,e1⟩:=u.slot b o e n hb hx;exact⟨sl,(hs.2 b (Tj (Tr (Te e) hC))).trans e1⟩
 free:=u.free
 there b o e hx:=by obtain⟨o',e1⟩:=u.there b o e hx;exact⟨o',(hs.2 b (Tj (Tr (Te e) hC))).trans e1⟩
 tups:=u.tups
 frzs:=u.frzs
 tbls:=u.tbls
def rF(ok:HOk P w H h)(hs:Heap.SameBut C h h')(hC:H C=none):HOk P w H h':=λb ob e=>
 (ok b ob e).stay (λc w' hc q=>(hs.2 c (by
   rintro rfl;rcases hc with hc | hc
   ·rw[<-hc,hC]at e;cases e
   ·rw[hC]at hc;cases hc)).trans q) (λz q=>q) λz z q=>q
structure DefC(P:Program)(w:World)(K:PySem.W.Frag)(mg:Str->Option Value)(base:Heap)(k:Nat)(x:Str)(ps:List Str)(sp:Sp):Prop where
 ex:∃f fd,FnOk P w K mg base (gD P w) k f fd ps sp/\Binds K fd ps []/\PySem.W.keepIn K (.ref f)=true/\mg x=some (.ref f)
section
variable{P:Program}{w:World}{K:PySem.W.Frag}{mg:Str->Option Value}{base:Heap}{k:Nat}{x:Str}{N ps:List Str}{sp:Sp}{st:Stmt}
def QS(F:Fun K x x st f fd)(S:FnScope N ps (defScope st))(len:∀ vs H Q E,sp vs H Q E->vs.length=ps.length)
  (hbody:∀(cdv:Value) (A:Around) (outer:List Env) (s:Shared) (H:Hp) (vs:List V) (Q:VK) (E:XK),Room k (A.deeper (envOfC x (defScope st) s.heap.objs.size f cdv))->sp vs H Q E->
    ∃t,PSs (jE P w K mg base N x (defScope st) f cdv A outer s H E) (defBody st) t/\t { nx:=λz H'=>Q .non H',rt:=Q } (start N vs) H):FnOk P w K mg base (gD P w) (k+1) f fd ps sp:=by
 obtain⟨oc,od,kV,doc,pm,an,cdv,ct,osl,rfl,l,c⟩:=F.ex;exact fn_of l c S len (hbody cdv)
def DefAt.okE(D:DefAt K mg x st)(S:FnScope N ps (defScope st))(hb:∀ (kV doc pm:Value) (an:Option Addr) (cdv ct:Value) (us:List Value),us.length=ps.length->bindArgs (PySem.W.fnOf x x (defArgs st) (defBody st) (defScope st) .none kV doc pm an cdv ct) ⟨us,[]⟩=pure (ps.zip us))
  (len:∀vs H Q E,sp vs H Q E->vs.length=ps.length)
  (hbody:∀(f:Addr) (cdv:Value) (A:Around) (outer:List Env) (s:Shared) (H:Hp) (vs:List V) (Q:VK) (E:XK),Room k (A.deeper (envOfC x (defScope st) s.heap.objs.size f cdv))->sp vs H Q E->
    ∃t,PSs (jE P w K mg base N x (defScope st) f cdv A outer s H E) (defBody st) t/\t { nx:=λz H'=>Q .non H',rt:=Q } (start N vs) H):DefC P w K mg base (k+1) x ps sp:=by
 obtain⟨f,fd,F,m⟩:=D.ex;exact⟨f,fd,QS F S len (hbody f),F.binds hb,F.kp,m⟩
end
def km:Passes (gD P w) X E0:=λz z z z z z z h=>by obtain⟨_,_,_,_,_,_,_,_,_,_,_,_,_,q⟩:=h;exact q.elim
section
variable{X:Cx}{j k:Nat}{ps:List Str}{sp:Sp}{x:Str}{p pos:Pos}{e:Expr}{es:List Expr}{t:TA}{E:XK}
def Jg(D:DefC X.prog X.w X.K X.mg X.base j x ps sp)(hr:Room k X.A)(hx:Passes (gD X.prog X.w) X E)(ha:PA X (e::es) t)(hjk:j<=k:=by decide)(hg:Gl X x:=by rfl)(hdb:(x==("__debug__":Str))=false:=by decide)
  (he:starEach (e::es) X.env=(false,eval e X.env)::starEach es X.env:=by rfl) (hpl:(backTo pos (starEach es X.env)).any (·.1)=false:=by rfl) :
  PE X (.Call (.Name x p) (e::es) [] pos) (tCall sp [] E t):=by
 obtain⟨f,fd,F,b,kp,m⟩:=D.ex;exact pe_call F (hr.mono hjk) hg m kp b .nil hx ha hdb he hpl
end
section
variable{κ:Type}[DecidableEq κ]
def valV(kvs:List (κ×V))(k:κ):Option V:=(kvs.find? λkv=>decide (kv.1=k)).map (·.2)
def putK(kvs:List (κ×V))(k:κ)(v:V):List (κ×V):=
 if (kvs.any λkv=>decide (kv.1=k))=true then kvs.map (λkv=>if kv.1=k then (kv.1,v) else kv) else kvs++[(k,v)]
def valV_pos{r:List (κ×V)}(e:p.1=k):valV (p::r) k=some p.2:=by simp[valV,List.find?_cons,e]
def valV_neg{r:List (κ×V)}(e:¬ p.1=k):valV (p::r) k=valV r k:=by simp[valV,List.find?_cons,e]
theorem valV_any(k:κ):∀ kvs:List (κ×V),(kvs.any λkv=>decide (kv.1=k))=(valV kvs k).isSome
 |[]=>rfl
 |p::r=>by
   rw[W9];by_cases e:p.1=k
   ·simp only[valV_pos e,decide_eq_true e,Bool.true_or,Option.isSome_some]
   ·rw[valV_neg e,Uq e,Bool.false_or];exact valV_any k r
def length_putK(kvs:List (κ×V))(k:κ)(v:V):(putK kvs k v).length<=kvs.length+1:=by
 unfold putK;split
 ·rw[S9];lia
 ·rw[T4,UG,List.length_nil];lia
def putK_new{kvs:List (κ×V)}(v:V)(h:valV kvs k=none):putK kvs k v=kvs++[(k,v)]:=by unfold putK;rw[valV_any,h];exact Ti (by decide)
def RelO.isSome_eq(r:RelO o u):o.isSome=u.isSome:=by
 cases o with
 |none=>cases u with
   |none=>rfl
   |some _=>exact (show False from r).elim
 |some _=>cases u with
   |none=>exact (show False from r).elim
   |some _=>rfl
def KV.val{kvs:List (κ×V)}{vs:List (κ×Value)}(r:KV kvs vs)(k:κ):RelO (valV kvs k) (valueAt vs k):=by
 unfold KV at r;induction r with
 |nil=>exact True.intro
 | @cons p q ps qs h t ih=>
   obtain⟨h1,h2⟩:=h;by_cases e:p.1=k
   ·have e':q.1=k:=h1.symm.trans e;have b:valueAt (q::qs) k=some q.2:=by simp[valueAt,List.find?_cons,e']
    rw[valV_pos e,b];exact h2
   ·have e':¬ q.1=k:=λz=>e (h1.trans z)
    have b:valueAt (q::qs) k=valueAt qs k:=by simp[valueAt,List.find?_cons,e']
    rw[valV_neg e,b];exact ih
theorem KV.any(r:KV kvs vs)(k:κ):(kvs.any λkv=>decide (kv.1=k))=vs.any λkv=>decide (kv.1=k):=by
 unfold KV at r;induction r with
 |nil=>rfl
 |cons h t ih=>rw[W9,W9,ih,h.1]
def KV.repl(r:KV kvs vs)(k:κ)(ry:RelV y u):
  KV (kvs.map λkv=>if kv.1=k then (kv.1,y) else kv) (vs.map λkv=>if kv.1=k then (kv.1,u) else kv):=by
 unfold KV at r ⊢
 induction r with
 |nil=>exact .nil
 | @cons p q ps qs h t ih=>
   rw[Ud,Ud];refine .cons ?_ ih;obtain⟨h1,h2⟩:=h;by_cases e:p.1=k
   ·rw[Tf e,Tf (h1.symm.trans e)];exact⟨h1,ry⟩
   ·rw[Ti e,Ti (λz=>e (h1.trans z))];exact⟨h1,h2⟩
def KV.put(r:KV kvs vs)(k:κ)(ry:RelV y u):KV (putK kvs k y) (stored vs k u):=by
 unfold putK stored;rw[r.any k];by_cases e:(vs.any λkv=>decide (kv.1=k))=true
 ·rw[Tf e,Tf e];exact r.repl k ry
 ·rw[Ti e,Ti e];exact Paired.snoc r ⟨rfl,ry⟩
def KV.keys{kvs:List (κ×V)}{vs:List (κ×Value)}(r:KV kvs vs):kvs.map (·.1)=vs.map (·.1):=by
 unfold KV at r;induction r with
 |nil=>rfl
 |cons h t ih=>rw[Ud,Ud,ih,h.1]
theorem KV.length(r:KV kvs vs):kvs.length=vs.length:=W8 r
end
def kV_is(r:RelV (kV k) u):(mixKind P w).is k u=true:=by
 cases k with
 |inl i=>obtain⟨t,e⟩:=(show ∃t,u=Value.int i t from r);subst e;exact mixKind_int P w i t
 |inr x=>obtain⟨t,e⟩:=(show ∃t,u=Value.str x t from r);subst e;exact mixKind_str P w x t
theorem items_are:∀ {ks:List Key}{us:List Value},Vals (ks.map kV) us->ItemsAre (mixKind P w) ks us
 |[],_,r=>by rw[Xj]at r;cases r;exact .nil
 |k::ks,_,r=>by
   rw[Ud]at r;cases r with
   |cons h t=>exact .cons (kV_is h) (items_are t)
abbrev KT(H:Hp):List (List Key×V)->List (List Key×Addr×Value)->Prop:=Paired λp q=>p.1=q.1/\H q.2.1=some (.tup (p.1.map kV))/\RelV p.2 q.2.2
def KT.val{kvs:List (List Key×V)}{xs:List (List Key×Addr×Value)}(r:KT H kvs xs)(k:List Key):RelO (valV kvs k) ((atKey xs k).map (·.2)):=by
 induction r with
 |nil=>exact True.intro
 | @cons p q ps qs h t ih=>
   obtain⟨h1,_,h2⟩:=h;by_cases e:p.1=k
   ·have e':q.1=k:=h1.symm.trans e;have b:atKey (q::qs) k=some q.2:=by simp[atKey,List.find?_cons,e']
    rw[valV_pos e,b];exact h2
   ·have e':¬ q.1=k:=λz=>e (h1.trans z)
    have b:atKey (q::qs) k=atKey qs k:=by simp[atKey,List.find?_cons,e']
    rw[valV_neg e,b];exact ih
def KT.repl(r:KT H kvs xs)(k:List Key)(ry:RelV y u):
  KT H (kvs.map λkv=>if kv.1=k then (kv.1,y) else kv) (xs.map (putAt k u)):=by
 induction r with
 |nil=>exact .nil
 | @cons p q ps qs h t ih=>
   rw[Ud,Ud];refine .cons ?_ ih;obtain⟨h1,h2,h3⟩:=h;unfold putAt;by_cases e:p.1=k
   ·rw[Tf e,Tf (h1.symm.trans e)];exact⟨h1,h2,ry⟩
   ·rw[Ti e,Ti (λz=>e (h1.trans z))];exact⟨h1,h2,h3⟩
def KT.put(r:KT H kvs xs)(k:List Key)(hb:H b=some (.tup (k.map kV)))(ry:RelV y u):
  KT H (putK kvs k y) (storedH xs k b u):=by
 have e:(kvs.any λkv=>decide (kv.1=k))=(atKey xs k).isSome:=by rw[valV_any,(r.val k).isSome_eq,Option.isSome_map]
 unfold putK storedH;rw[e];by_cases q:(atKey xs k).isSome=true
 ·rw[Tf q,Tf q];exact r.repl k ry
 ·rw[Ti q,Ti q];exact Paired.snoc r ⟨rfl,hb,ry⟩
def KT.keeps(r:KT H kvs xs)(ht:∀b ys,H b=some (.tup ys)->H' b=some (.tup ys)):KT H' kvs xs:=
 Paired.mapP r λy y z=>⟨z.1,ht _ _ z.2.1,z.2.2⟩
section
variable{P:Program}{w:World}{H:Hp}{h:Heap}{a:Addr}
def rd_of(ok:HOk P w H h)(e:Rd H a u):ObjOk P w H h a u:=e.ok ok
def dk_rd(ok:HOk P w H h)(e:Rd H a (.dK kvs)):kvs.length<=sizeLine/\(a==sysModules)=false/\∃vs,KV kvs vs/\h.DictOf (mixKind P w) a vs:=
 show ObjOk P w H h a (.dK kvs) from rd_of ok e
def dk_of(ok:HOk P w H h)(e:H a=some (.dK kvs)):kvs.length<=sizeLine/\(a==sysModules)=false/\∃vs,KV kvs vs/\h.DictOf (mixKind P w) a vs:=dk_rd ok (.inl e)
def key_of(ok:HOk P w H h)(e:H a=some (.tup (ks.map kV))):(tupleKind (mixKind P w)).is h ks a:=by
 obtain⟨_,its,r,o,h1,h2,n,h3⟩:=(show ObjOk P w H h a (.tup (ks.map kV)) from ok a _ e)
 exact⟨o,its.toArray,n,h1,h2,h3,by simpa using items_are r⟩
def dt_rd(ok:HOk P w H h)(e:Rd H a (.dT kvs)):kvs.length<=sizeLine/\(a == sysModules)=false /\
  ∃xs,KT H kvs xs/\h.DictOfH (tupleKind (mixKind P w)) a xs:=by
 obtain⟨z,y,xs,r,o,es,ep,h1,h2,h3,h4,h5⟩:=(show ObjOk P w H h a (.dT kvs) from rd_of ok e)
 refine⟨z,y,xs,r,o,es,ep,h1,h2,h3,h4,λx hx=>?_,h5⟩
 have all:∀ {l:List (List Key×V)}{m:List (List Key×Addr×Value)},KT H l m->∀ x∈m,(tupleKind (mixKind P w)).is h x.1 x.2.1:=by
  intro l m q;induction q with
  |nil=>intro x hx;exact nomatch hx
  | @cons p q ps qs hq t ih=>
    intro x hx;rcases Tt.mp hx with e | hx
    ·subst e;exact key_of ok (by rw[<-hq.1];exact hq.2.1)
    ·exact ih x hx
 exact all r x hx
def dt_of(ok:HOk P w H h)(e:H a=some (.dT kvs)):kvs.length<=sizeLine/\(a==sysModules)=false /\
  ∃xs,KT H kvs xs/\h.DictOfH (tupleKind (mixKind P w)) a xs:=dt_rd ok (.inl e)
end
def DGet(H:Hp)(a:Addr)(y:V)(r:Option V):Prop:=
 (∃kvs k,Rd H a (.dK kvs)/\y=kV k/\r=valV kvs k)\/∃kvs k b,Rd H a (.dT kvs)/\y=.ref b/\H b=some (.tup (k.map kV))/\r=valV kvs k
def DPut(H:Hp)(a:Addr)(y v:V)(H':Hp):Prop:=
 (∃kvs k,H a=some (.dK kvs)/\y=kV k/\kvs.length<sizeLine/\H'=upd H a (.dK (putK kvs k v))) \/
 ∃kvs k b,H a=some (.dT kvs)/\y=.ref b/\H b=some (.tup (k.map kV))/\kvs.length<sizeLine/\H'=upd H a (.dT (putK kvs k v))
theorem DGet.k{H:Hp}{a:Addr}{kvs:List (Key×V)}{k:Key}(e:H a=some (.dK kvs)):DGet H a (kV k) (valV kvs k):=.inl ⟨kvs,k,.inl e,rfl,rfl⟩
theorem DPut.k{H:Hp}{a:Addr}{kvs:List (Key×V)}{k:Key}{v:V}(e:H a=some (.dK kvs))(hl:kvs.length<sizeLine):DPut H a (kV k) v (upd H a (.dK (putK kvs k v))):=.inl ⟨kvs,k,e,rfl,hl,rfl⟩
section
variable{X:Cx}{YB:List (Addr×Obj)}{σ:St}{H:Hp}{s:Shared}{a:Addr}{y v:V}{u r:Value}{o:Option V}{A:Around}{E:Value->Shared->Prop}
def Inv.big(I:Inv X YB σ H s):sysModules<s.heap.objs.size:=by have h:mainGlobals<s.heap.objs.size:=(I.mod.glob.keeps I.bk).lt;exact Wm (by decide) h
def d_getItem(hu:A.units+1<cLine)(I:Inv X YB σ H s)(g:DGet H a y (some v))(ry:RelV y u)(h:∀w' s',Inv X YB σ H s'->RelV v w'->Q w' s'):
  wpAny (model X.prog X.w) A (getItem (.ref a) u) Q E s:=by
 rcases g with ⟨kvs,k,e,ey,l⟩ | ⟨kvs,k,b,e,ey,eb,l⟩
 ·subst ey;obtain⟨z,hd,vs,rel,dd⟩:=dk_rd I.hok e;obtain⟨w',hw,rw'⟩:=RelO.some_of (v:=v) (o:=valueAt vs k) (by rw[l];exact rel.val k)
  exact wpAny_getItem_of (kV_is ry) dd.mapOf hw (h w' _ (I.tok _) rw')
 ·subst ey;cases (show u=Value.ref b from ry)
  obtain⟨z,hd,xs,rel,dd⟩:=dt_rd I.hok e;obtain⟨w',hw,rw'⟩:=RelO.some_of (v:=v) (o:=(atKey xs k).map (·.2)) (by rw[l];exact rel.val k)
  obtain⟨p,hp,hp2⟩:=S8.mp hw;refine wpAny_getItem_heap (Xg hu) (key_of I.hok eb) dd hp ?_;rw[hp2];exact h w' _ (I.tok _) rw'
def d_in(hu:A.units+1<cLine)(I:Inv X YB σ H s)(g:DGet H a y o)(ry:RelV y u)(h:∀s',Inv X YB σ H s'->Q (.bool o.isSome) s'):
  wpAny (model X.prog X.w) A (compareOp .In u (.ref a)) Q E s:=by
 rcases g with ⟨kvs,k,e,ey,l⟩ | ⟨kvs,k,b,e,ey,eb,l⟩
 ·subst ey;obtain⟨z,hd,vs,rel,dd⟩:=dk_rd I.hok e;refine wpAny_in_of (kV_is ry) hd dd.mapOf ?_;rw[<-(rel.val k).isSome_eq,<-l];exact h _ (I.tok _)
 ·subst ey;cases (show u=Value.ref b from ry)
  obtain⟨z,hd,xs,rel,dd⟩:=dt_rd I.hok e;refine wpAny_in_heap (Xg hu) (key_of I.hok eb) hd dd ?_;have q:=(rel.val k).isSome_eq;rw[Option.isSome_map]at q;rw[<-q,<-l];exact h _ (I.tok _)
def d_notIn(hu:A.units+1<cLine)(I:Inv X YB σ H s)(g:DGet H a y o)(ry:RelV y u)(h:∀s',Inv X YB σ H s'->Q (.bool (!o.isSome)) s'):
  wpAny (model X.prog X.w) A (compareOp .NotIn u (.ref a)) Q E s:=by
 rcases g with ⟨kvs,k,e,ey,l⟩ | ⟨kvs,k,b,e,ey,eb,l⟩
 ·subst ey;obtain⟨z,hd,vs,rel,dd⟩:=dk_rd I.hok e;refine wpAny_notIn_of (kV_is ry) hd dd.mapOf ?_;rw[<-(rel.val k).isSome_eq,<-l];exact h _ (I.tok _)
 ·subst ey;cases (show u=Value.ref b from ry)
  obtain⟨z,hd,xs,rel,dd⟩:=dt_rd I.hok e;refine wpAny_notIn_heap (Xg hu) (key_of I.hok eb) hd dd ?_;have q:=(rel.val k).isSome_eq;rw[Option.isSome_map]at q;rw[<-q,<-l];exact h _ (I.tok _)
def d_write(I:Inv X YB σ H s)(mu:Mut (H a))(hs:Heap.SameBut a s.heap h')(he:∃q,h'.get? a=some q)(new:ObjOk X.prog X.w (upd H a ob) h' a ob):
  Inv X YB σ (upd H a ob) { s with heap:=h',toks:=t' }:=
 I.write (x:=a) (e:=a) mu (.inl rfl) (λb q hb z=>(hs.2 b hb).trans z) he new
def dk_new(z:kvs.length<=sizeLine)(hd:(a==sysModules)=false)(rel:KV kvs vs)(dd:h'.DictOf (mixKind P w) a vs):
  ObjOk P w H' h' a (.dK kvs):=⟨z,hd,vs,rel,dd⟩
def d_setItem(hu:A.units+1<cLine)(I:Inv X YB σ H s)(g:DPut H a y v H')(ry:RelV y u)(rv:RelV v r)(h:∀s',Inv X YB σ H' s'->Q () s'):
  wpAny (model X.prog X.w) A (setItem (.ref a) u r) Q E s:=by
 rcases g with ⟨kvs,k,e,ey,l,eH⟩ | ⟨kvs,k,b,e,ey,eb,l,eH⟩
 ·subst ey eH;obtain⟨z,hd,vs,rel,dd⟩:=dk_of I.hok e;have hz:vs.length<=sizeLine:=by rw[<-rel.length];exact z
  have hl:(putK kvs k v).length<=sizeLine:=by have:=length_putK kvs k v;lia
  refine wpAny_setItem_pairs (hsz:=hz) (kV_is ry) dd λh' dd' hs=>h _ ?_
  have he:∃q,h'.get? a=some q:=let ⟨q,_,_,hq,_⟩:=dd';⟨q,hq⟩
  exact d_write I (by rw[e];exact True.intro) hs he (dk_new hl hd (rel.put k rv) dd')
 ·subst ey eH;cases (show u=Value.ref b from ry)
  obtain⟨z,hd,xs,rel,dd⟩:=dt_of I.hok e;have hz:xs.length<=sizeLine:=by rw[<-W8 rel];exact z
  have hl:(putK kvs k v).length<=sizeLine:=by have:=length_putK kvs k v;lia
  refine wpAny_setItem_heap (hsz:=hz) (Xg hu) (key_of I.hok eb) dd λh' dd' hs=>h _ ?_
  obtain⟨q,es,ep,hq,h2,h3,h4,_,h5⟩:=dd';refine d_write I (by rw[e];exact True.intro) hs ⟨q,hq⟩ ⟨hl,hd,_,(rel.put k eb rv).keeps λc ys ec=>?_,q,es,ep,hq,h2,h3,h4,h5⟩
  rw[upd_ne (ne_of ec e (λz=>nomatch z))]
  exact ec
end
def NoSl(i:Expr):Prop:=∀ov iv,subscripted i false ov iv=operate [ov,iv] (getItem ov iv)
def subD_of{prog:Program}{w:World}{A:Around}{E:Value->Shared->Prop}{s:Shared}{env:Env}{value slice:Expr}{pos:Pos}{T id:String}{Q:Value->Shared->Prop}
  (hl:typeLookup (.type T) "__getitem__"=pure (some (.builtin id))) (hs:NoSl slice)
  (h:wpAny (model prog w) A (eval value env) (λo s₁=>wpAny (model prog w) A (eval slice env) (λi s₂=>s₂.TypeIs o T/\wpAny (model prog w) A (getItem o i) Q E s₂) E s₁) E s) :
  wpAny (model prog w) A (eval (.Subscript value slice pos) env) Q E s:=by
 refine Subscript_ (Tz h (λo s₁ h₁=>Tz h₁ (λi s₂ h₂=>?_) λz z x=>x) λz z x=>x)
 obtain⟨hT,h₂⟩:=h₂;unfold subscriptTail;refine SX ?_;rw[getitemInPython_of_ne hT.not_modules];refine SX (wpAny_specialOf hT hl ?_);have fin:wpAny (model prog w) A (subscripted slice false o i) (λr s₃=>wpAny (model prog w) A (letTemporaryGo value o r>>=λz=>pure r) Q E s₃) E s₂:=by rw[hs o i];exact wpAny_operating (Tz h₂ (λr s₃ h₃=>SX (wpAny_letTemporaryGo (S6 h₃))) λz z x=>x)
 first
  |exact S6 (SX fin)
  |exact SX (S6 (SX fin))
  |exact SX fin
def dict_typeIs(I:Inv X YB σ H s)(g:DGet H a y o):s.TypeIs (.ref a) "dict":=by
 rcases g with ⟨kvs,k,e,_,_⟩ | ⟨kvs,k,b,e,_,_,_⟩
 ·obtain⟨_,_,vs,_,dd⟩:=dk_rd I.hok e;exact dd.typeIs
 ·obtain⟨_,_,xs,_,dd⟩:=dt_rd I.hok e;exact dd.typeIs
def tDGet(td ty:TE):TE:=λσ H Q=>td σ H λx H1=>ty σ H1 λy H2=>∃a v,x=.ref a/\DGet H2 a y (some v)/\Q v H2
section
variable{X:Cx}{o i e value:Expr}{pos pos' tpos:Pos}{td ty tv:TE}
def pe_dget(hu:X.A.units+1<cLine)(ho:PE X o td)(hi:PE X i ty)(hs:NoSl i):PE X (.Subscript o i pos) (tDGet td ty):=by
 intro YB s σ H Q I h;refine subD_of PySem.F.slot_dict_getitem.lookup hs (thn (ho YB s σ H _ I h) λu s1 ⟨x,H1,I1,rx,q1⟩=>thn (hi YB s1 σ H1 _ I1 q1) λiv s2 ⟨y,H2,I2,ry,a,v,ex,g,q2⟩=>?_)
 subst ex;obtain rfl:u=Value.ref a:=rx;exact⟨dict_typeIs I2 g,d_getItem hu I2 g ry λw' s3 I3 rw'=>⟨v,H2,I3,rw',q2⟩⟩
end
def dk_empty(h:Heap)(hb:sysModules<h.objs.size):ObjOk P w H (h.push { cls:=.type "dict",data:=.dict #[] }) h.objs.size (.dK []):=
 ⟨Vb _,V0.mpr (Ne.symm (Tj hb)),[],.nil,Heap.DictOf.new h⟩
def tDNewK:TE:=λz H Q=>∀p,H p=none->Q (.ref p) (upd H p (.dK []))
section
variable{X:Cx}{pos:Pos}
def pe_dnewK:PE X (.Dict [] [] pos) tDNewK:=λYB s σ H Q I h=>
 wpAny_Dict_empty ⟨.ref s.heap.objs.size,_,I.laid (a:=s.heap.objs.size) (o:=.dK []) (t':=s.toks) (λz z q=>S5 _ q) (Td _) (dk_empty s.heap I.big),rfl,h _ (I.hok.fresh (Td _))⟩
end
def tPairs:List (TE×TE)->St->Hp->(List (V×V)->Hp->Prop)->Prop
 |[],_,H,Q=>Q [] H
 |(tk,tv)::r,σ,H,Q=>tk σ H λx H1=>tv σ H1 λy H2=>tPairs r σ H2 λps H3=>Q ((x,y)::ps) H3
abbrev VV:List (V×V)->List (Value×Value)->Prop:=Paired λp q=>RelV p.1 q.1/\RelV p.2 q.2
def PPs(X:Cx)(pos:Pos)(keys:List (Option Expr))(values:List Expr)(trs:List (TE×TE)):Prop:=
 ∀(YB:List (Addr×Obj)) (s:Shared) (σ:St) (H:Hp) (Q:List (V×V)->Hp->Prop),Inv X YB σ H s->tPairs trs σ H Q->
   wpAny (model X.prog X.w) X.A (evalPairs (pairTrees keys values X.env pos)) (λvs s'=>∃ps H',Inv X YB σ H' s'/\VV ps vs/\Q ps H') X.xe s
def pps_nil:PPs X pos [] [] []:=λYB s σ H Q I h=>pairTrees_nil_walk ⟨[],H,I,.nil,h⟩
def pps_cons(hk:PE X k tk)(hv:PE X v tv)(hr:PPs X pos ks vs trs):
  PPs X pos (some k::ks) (v::vs) ((tk,tv)::trs):=λYB s σ H Q I h=>
 pairTrees_cons_walk (thn (hk YB s σ H _ I h) λu s1 ⟨x,H1,I1,rx,q1⟩=>thn (hv YB s1 σ H1 _ I1 q1) λw2 s2 ⟨y,H2,I2,ry,q2⟩=>
  thn (hr YB s2 σ H2 _ I2 q2) λws s3 ⟨ps,H3,I3,rel,q3⟩=>⟨(x,y)::ps,H3,I3,.cons ⟨rx,ry⟩ rel,q3⟩)
def mergeK(kvs more:List (Key×V)):List (Key×V):=more.foldl (λacc kv=>putK acc kv.1 kv.2) kvs
def KV.merge:∀ {more:List (Key×V)}{rs:List (Key×Value)}{kvs:List (Key×V)}{vs:List (Key×Value)},KV more rs->KV kvs vs->KV (mergeK kvs more) (merged vs rs):=by
 intro more rs kvs vs r;unfold KV at r;induction r generalizing kvs vs with
 |nil=>intro q;exact q
 | @cons p q ps qs h t ih=>
   intro r0;have e:KV (putK kvs p.1 p.2) (stored vs q.1 q.2):=by have:=r0.put p.1 h.2;rw[<-h.1];exact this
   exact ih e
theorem length_mergeK:∀ (more kvs:List (Key×V)),(mergeK kvs more).length<=kvs.length + more.length
 |[],kvs=>by show kvs.length<=kvs.length+0;lia
 |p::r,kvs=>by have h1:=length_mergeK r (putK kvs p.1 p.2);have h2:=length_putK kvs p.1 p.2;show (mergeK (putK kvs p.1 p.2) r).length<=_;rw[UG];lia
theorem carries_of:∀ {kvs:List (Key×V)}{ws:List (Value×Value)},VV (kvs.map λkv=>(kV kv.1,kv.2)) ws->∃ rs,Carries (mixKind P w) ws rs/\KV kvs rs
 |[],_,r=>by rw[Xj]at r;cases r;exact⟨[],True.intro,.nil⟩
 | p::kvs,_,r=>by
   rw[Ud]at r;cases r with
   | @cons a b as bs h t=>obtain⟨rs,c,q⟩:=carries_of (P:=P) (w:=w) t;obtain⟨b1,b2⟩:=b;exact⟨(p.1,b2)::rs,⟨kV_is h.1,rfl,c⟩,.cons ⟨rfl,h.2⟩ q⟩
def tDisp(trs:List (TE×TE)):TE:=λσ H Q=>∀p,H p=none->tPairs trs σ (upd H p (.dK [])) λps H2=>H2 p=some (.dK [])/\∃kvs:List (Key×V),ps=kvs.map (λkv=>(kV kv.1,kv.2))/\kvs.length<=15/\Q (.ref p) (upd H2 p (.dK (mergeK [] kvs)))
def pe_disp(h:PPs X pos keys values trs)(hall:keys.all (·.isSome)=true)(hl:keys.length=values.length)(h0:keys≠[])
  (h15:keys.length<=15):PE X (.Dict keys values pos) (tDisp trs):=by
 intro YB s σ H Q I q;have hn:=I.hok.fresh (Td s.heap.objs.size);have I1:=I.laid (a:=s.heap.objs.size) (o:=.dK []) (h':=s.heap.push { cls:=.type "dict",data:=.dict #[] }) (t':=s.toks) (λy y q=>S5 _ q) (Td _) (dk_empty s.heap I.big)
 refine wpAny_Dict_walk (knd:=mixKind X.prog X.w) hall hl h0 h15 (thn (h YB _ σ _ _ I1 (q _ hn)) λws s2 ⟨ps,H2,I2,rel,e,kvs,ep,lk,q2⟩=>?_)
 subst ep;obtain⟨rs,c,rk⟩:=carries_of (P:=X.prog) (w:=X.w) rel;obtain⟨z,hd,vs0,r0,dd⟩:=dk_of I2.hok e;cases r0;refine⟨rs,c,dd,λh' dd' hs=>⟨.ref s.heap.objs.size,_,?_,rfl,q2⟩⟩
 have hz:(mergeK [] kvs).length<=sizeLine:=by have h1:=length_mergeK kvs [];rw[List.length_nil]at h1;rw[VB];lia
 have he:∃q,h'.get? s.heap.objs.size=some q:=let ⟨q,_,_,hq,_⟩:=dd';⟨q,hq⟩
 exact d_write I2 (by rw[e];exact True.intro) hs he (dk_new hz hd (rk.merge .nil) dd')
end L2
namespace HT
open PySem PySem.Spec PyProof.Rows PySem.W
section
variable{prog:Program}{w:World}{A:Around}{E:Value->Shared->Prop}{s:Shared}
def HS{vs ws:List Value}{Q:Value->Shared->Prop}(ht:IsTup s.heap t vs.toArray)(hb:IsTup s.heap b ws.toArray)(hv:vs=[])
  (h1:Q (.ref b) s):wpAny (model prog w) A (binaryOp .Add (.ref t) (.ref b)) Q E s:=by
 obtain⟨⟨cls,dd,data,sl⟩,ho,hc,n,hd⟩:=id ht;obtain⟨⟨cls2,dd2,data2,sl2⟩,ho2,hc2,n2,hd2⟩:=id hb;simp only at hc hd hc2 hd2;subst hc hd hc2 hd2;exact concat_meets ⟨_,ho,rfl⟩ ⟨_,ho2,rfl⟩ noFill_tuple_add seq_tuple_add XQ Xz (Xo _ _)
   (tuple_addW0 t b vs.toArray ws.toArray n n2 dd dd2 sl sl2 (by simp[hv])) ⟨ho,ho2,h1⟩
def rR{items:Array Value}{lo hi:Option Int}{Q:Value->Shared->Prop}(ht:IsTup s.heap t items)(hs:s.heap.IsSliceOf sl vl vu .none)(pl:IsPart vl lo)(pu:IsPart vu hi)
  (hw:sIx items.size 0 lo=0/\sIx items.size items.size hi=items.size) (h:Q (.ref t) s):wpAny (model prog w) A (getItem (.ref t) (.ref sl)) Q E s:=by
 obtain⟨os,hos,hcs,hds⟩:=id hs;obtain⟨ot,hot,hct,nt,hdt⟩:=id ht;have hTs:s.TypeIs (.ref sl) "slice":=⟨os,hos,hcs⟩;have hTt:s.TypeIs (.ref t) "tuple":=⟨ot,hot,hct⟩;unfold getItem
 try with_reducible refine Up ?_
 first | refine SX (S6 ?_) | skip
 refine SX (wpAny_sequenceKey ht.typeIs (by decide) ?_)
 refine SX (Ul (name:=Str.ofString "__getitem__") ht.typeIs VJ
  (Uk VJ ht.typeIs entry_tuple_getitem ?_ (args_tuple_getitem _ _)))
 show wpAny _ _ (Builtin.Tuple.tupleItemsOf (.ref t)>>=_) _ _ s;refine SX (tupleItemsOf_ ht ?_);refine SX (W2 hTs ?_);rw[Tf (by decide)]
 refine SX (sliceApplied_gen hs pl pu ?_);have hno:((((sIx items.size 0 lo:Nat):Int)==0&&(1:Int)==1&&(sIx items.size items.size hi-sIx items.size 0 lo)==items.size)=true):=by rw[hw.1,hw.2];simp
 show wpAny _ _ (if (((sIx items.size 0 lo:Nat):Int)==0&&(1:Int)==1&&(sIx items.size items.size hi-sIx items.size 0 lo)==items.size)=true then _ else _) _ _ s
 rw[Tf hno];unfold Builtin.Tuple.tupleIsExact;refine SX ?_;refine SX (W2 hTt (S6 ?_));rw[Tf (by decide)]
 exact SX (Vp (S6 ⟨_,rfl,S6 h⟩))
end
end HT
namespace L2
open PySem PySem.Spec PyProof.Rows
section
variable{X:Cx}
def Ia{xs:List V}{lo hi:Option Int}(h:HT.sIx xs.length 0 lo=0/\HT.sIx xs.length xs.length hi=xs.length):cutV xs lo hi=xs:=by unfold cutV;rw[h.1,h.2];simp
def Ri:V->Option Int->Option Int->Hp->VK->Prop:=λx lo hi H Q=>∃a xs,x=.ref a/\H a=some (.tup xs)/\∀p H',Same H H'->H' p=some (.tup (cutV xs lo hi))->Q (.ref p) H'
def Lx:SlR X Ri:=by
 intro YB s σ H x v vl vu lo hi sl Q I rx hs pl pu h;obtain⟨a,xs,rfl,hx,q⟩:=h;by_cases hw:HT.sIx xs.length 0 lo=0/\HT.sIx xs.length xs.length hi=xs.length
 ·cases rx;obtain⟨its,r,ht,hz⟩:=I.tuple (SqT.of hx);have hlen:its.toArray.size=xs.length:=by rw[TF];exact r.length.symm
  refine⟨"tuple",_,PyProof.Rows.slot_tuple_getitem.lookup,ht.typeIs,?_⟩;refine HT.rR ht hs pl pu (by rw[hlen];exact hw) ⟨.ref a,H,I,rfl,q a H (Same.refl _) (by rw[Ia hw];exact hx)⟩
 ·exact sl_tup (X:=X) YB s σ H _ v vl vu lo hi sl Q I rx hs pl pu ⟨a,xs,rfl,SqT.of hx,hw,λp hp=>q p _ (same_new hp _) upd_same⟩
def Qj:R2:=λx y H Q=>∃a b xs ys,x=.ref a/\y=.ref b/\H a=some (.tup xs)/\H b=some (.tup ys)/\xs.length+ys.length<=sizeLine/\∀p H',Same H H'->H' p=some (.tup (xs++ys))->Q (.ref p) H'
def KZ:OpR X (binaryOp .Add) Qj:=by
 intro YB s σ H x y v u Q I rx ry h;obtain⟨a,b,xs,ys,rfl,rfl,ha,hb,hz,q⟩:=h;by_cases hx:xs=[]
 ·cases rx;cases ry;obtain⟨its,r1,p1,_⟩:=I.tuple (SqT.of ha);obtain⟨its2,r2,p2,_⟩:=I.tuple (SqT.of hb);exact HT.HS p1 p2 (r1.nil_iff.mpr hx) ⟨.ref b,H,I,rfl,q b H (Same.refl _) (by rw[hx,Yi];exact hb)⟩
 ·exact op_catT (X:=X) YB s σ H _ _ v u Q I rx ry ⟨a,b,xs,ys,rfl,rfl,SqT.of ha,SqT.of hb,hx,hz,λe=>q a H (Same.refl _) (by rw[e,VL];exact ha),λz p hp=>q p _ (same_new hp _) upd_same⟩
end
mutual
inductive RepF(H:Hp):Bool->V->PyData->Prop
 |non {f:Bool}:RepF H f .non .none
 |bl {f:Bool} (b:Bool):RepF H f (.bl b) (.bool b)
 |int {f:Bool} (i:Int):RepF H f (.int i) (.int i)
 |str {f:Bool} (x:Str):RepF H f (.str x) (.str x)
 |lst {f:Bool}{a:Addr}{xs:List V}{ds:List PyData}:H a=some (.lst xs)->RepsF H f xs ds->RepF H f (.ref a) (.list ds)
 |tup {f:Bool}{a:Addr}{xs:List V}{ds:List PyData}:H a=some (.tup xs)->RepsF H f xs ds->RepF H f (.ref a) (.tuple ds)
 |d0 {a:Addr}:H a=some (.dK [])->RepF H false (.ref a) (.dict [])
 |d1 {a:Addr}{i j:Int}:H a=some (.dK [(.inl i,.int j)])->RepF H false (.ref a) (.dict [(.int i,.int j)])
inductive RepsF(H:Hp):Bool->List V->List PyData->Prop
 |nil {f:Bool}:RepsF H f [] []
 |cons {f:Bool}{v:V}{d:PyData}{vs:List V}{ds:List PyData}:RepF H f v d->RepsF H f vs ds->RepsF H f (v::vs) (d::ds)
end
def RepF.toRep{K:PySem.W.Frag}{H:Hp}{v:V}{d:PyData}(h:RepF H true v d):Rep K H v d:=
 RepF.rec (motive_1:=λf v d z=>f=true->Rep K H v d) (motive_2:=λf vs ds z=>f=true->Reps K H vs ds) (λz=>.non) (λb z=>.bl b) (λb z=>.int b) (λb z=>.str b) (λh z i e=>.lst (SqL.of h) (i e)) (λh z i e=>.tup (SqT.of h) (i e)) (λz e=>nomatch e) (λz e=>nomatch e) (λz=>.nil) (λz z i j e=>.cons (i e) (j e)) h rfl
def Rg(hc:CallR X (.type T) r)(hm:X.mg x=none)(ha:PA X (e::es) t)(hg:Gl X x:=by rfl)(hv:bootBuiltins x=some (.type T):=by decide +kernel)(hn:x≠"__name__":=by decide)(hdb:(x==("__debug__":Str))=false:=by decide)
  (he:starEach (e::es) X.env=(false,eval e X.env)::starEach es X.env:=by rfl) (hpl:(backTo pos (starEach es X.env)).any (·.1)=false:=by rfl) :
  PE X (.Call (.Name x p) (e::es) [] pos) (tCB r t):=pe_callTy hc hg hm hv ha hn hdb he hpl
def notStar:Expr->Bool
 |.Starred _ _=>false
 |_=>true
def bH(h:notStar e=true):starEach (e::es) env=(false,eval e env)::starEach es env:=by cases e<;>first | rfl | cases h
def O2(ha:PE X e te)(hr:PA X es t)(hs:notStar e=true:=by rfl):PA X (e::es) (tCons te t):=pa_cons ha hr (bH hs)
structure QI(X:Cx)(tg l:Expr)(wi:TI):Prop where
 h:PI X tg l wi
structure QA(X:Cx)(es:List Expr)(t:TA):Prop where
 h:PA X es t
def zF:QA X [] tNil:=⟨pa_nil⟩
def Jl(ha:PE X e te)(hr:QA X es t)(hs:notStar e=true:=by rfl):QA X (e::es) (tCons te t):=⟨O2 ha hr.h hs⟩
section
variable{X:Cx}{j k:Nat}{ps:List Str}{sp:Sp}{x:Str}{p pos:Pos}{e:Expr}{es:List Expr}{t:TA}{E:XK}
def Lb{x1}(h:QA X es t):PE X (.Tuple es x1 pos) (tTup t):=pe_tup h.h
def Cd(h:QA X es t):PE X (.List es pos) (tLst t):=pe_lst h.h
def GR(D:DefC X.prog X.w X.K X.mg X.base j x ps sp)(hr:Room k X.A)(hx:Passes (gD X.prog X.w) X E)(ha:QA X (e::es) t)(hjk:j<=k:=by decide)(hg:Gl X x:=by rfl)(hdb:(x==("__debug__":Str))=false:=by decide)
  (he:notStar e=true:=by rfl) (hpl:(backTo pos (starEach es X.env)).any (·.1)=false:=by rfl) :
  PE X (.Call (.Name x p) (e::es) [] pos) (tCall sp [] E t):=Jg D hr hx ha.h hjk hg hdb (bH he) hpl
def Dt{id:String}{r:List V->Hp->VK->Prop}(hc:CallR X (.builtin id) r)(hm:X.mg x=none)(ha:QA X (e::es) t)(hg:Gl X x:=by rfl)(hv:bootBuiltins x=some (.builtin id):=by decide +kernel)(hn:x≠"__name__":=by decide)(hdb:(x==("__debug__":Str))=false:=by decide)
  (he:notStar e=true:=by rfl) (hpl:(backTo pos (starEach es X.env)).any (·.1)=false:=by rfl) :
  PE X (.Call (.Name x p) (e::es) [] pos) (tCB r t):=Rf hc hm ha.h hg hv hn hdb (bH he) hpl
def Qg(hc:CallR X (.type T) r)(hm:X.mg x=none)(ha:QA X (e::es) t)(hg:Gl X x:=by rfl)(hv:bootBuiltins x=some (.type T):=by decide +kernel)(hn:x≠"__name__":=by decide)(hdb:(x==("__debug__":Str))=false:=by decide)
  (he:notStar e=true:=by rfl) (hpl:(backTo pos (starEach es X.env)).any (·.1)=false:=by rfl) :
  PE X (.Call (.Name x p) (e::es) [] pos) (tCB r t):=Rg hc hm ha.h hg hv hn hdb (bH he) hpl
def O3{T name id:String}{r:V->List V->Hp->VK->Prop}{o:Expr}{to:TE}{apos cpos:Pos}(pa:PlainAttrs T)(slot:Slot T name id)(hty:typeOf (.builtin id)=pure (.type "method_descriptor"))(hm:MtR X id r)(ho:PE X o to)(ha:QA X (e::es) t)
  (hbase:attributeBase o name X.env (eval o X.env)=eval o X.env:=by rfl)
  (hfew:((backTo cpos (starEach (e::es) X.env)).all (fun x=>!x.1)&&(backToKw cpos (keywordEach [] X.env)).all (fun x=>x.1.isSome)
   &&decide ((e::es).length+([]:List Keyword).length+(if ([]:List Keyword).isEmpty then 0 else 1)<30))=true:=by rfl)
  (hline:(apos.endLine==cpos.line)=true:=by rfl) (hs:notStar e=true:=by rfl) (hplain:(backTo cpos (starEach es X.env)).any (·.1)=false:=by rfl) :
  PE X (.Call (.Attribute o name apos) (e::es) [] cpos) (tBM X.K T r to t):=pe_bm pa slot hty hm ho ha.h hbase hfew hline (bH hs) hplain
def Dv(hg:Gl X "range")(hm:X.mg "range"=none)(ha:QA X [a] ta)(hs:notStar a=true:=by rfl):QI X tg (.Call (.Name "range" p) [a] [] pos) (iRng1 ta):=⟨pi_range1 hg hm ha.h (bH hs)⟩
def Dw(hg:Gl X "range")(hm:X.mg "range"=none)(ha:QA X [a,b] ta)(hs:notStar a=true:=by rfl)(hs2:notStar b=true:=by rfl):QI X tg (.Call (.Name "range" p) [a,b] [] pos) (iRng2 ta):=
 ⟨pi_range2 hg hm ha.h ((bH hs).trans (by rw[bH hs2];rfl)) (bH hs2)⟩
end
def xV{α:Type}(P:α->Prop):List α->Prop
 |[]=>True
 |a::l=>P a/\xV P l
theorem oH:∀ {l:List α},xV P l->∀ a∈l,P a
 |[],_,_,h=>nomatch h
 |b::l,h,a,hm=>by
   rcases Tt.mp hm with rfl | hm
   ·exact h.1
   ·exact oH h.2 a hm
set_option tactic.hygienic true in
theorem mem_of_lookup:∀ {l:List (Str×β)},l.lookup y=some c->(y,c)∈l
 |[],h=>by cases h
 | (z,d)::l,h=>by
   rw[V3]at h;split at h
   ·rename_i e;have e':y=z:=by simpa using e
    cases h;rw[e'];exact TY ..
   ·exact Ua _ (mem_of_lookup h)
def Pq{cl cells:List (Str×Addr)}(h:xV (λp=>cells.lookup p.1=some p.2) cl):∀y c,cl.lookup y=some c->cells.lookup y=some c:=λy c e=>oH h (y,c) (mem_of_lookup e)
def Iw:NameKind->Bool
 |.cell | .free=>true
 |_=>false
def NQ{names:List (Str×NameKind)}{cl:List (Str×Addr)}(h:(names.all λp=>!Iw p.2 || (cl.lookup p.1).isSome)=true):∀y,(names.lookup y=some .cell\/names.lookup y=some .free)->∃c,cl.lookup y=some c:=λy e=>by
 have hh:=U3.mp h;rcases e with e | e
 ·have:=hh _ (mem_of_lookup e);simp only[Iw,Bool.not_true,Bool.false_or]at this;exact Wj.mp this
 ·have:=hh _ (mem_of_lookup e);simp only[Iw,Bool.not_true,Bool.false_or]at this;exact Wj.mp this
def NB{js:List Nat}{fr:List Str}{P:Nat->Str->Prop}(h:xV (λp:Nat×Str=>P p.1 p.2) (js.zip fr)):∀(k j:Nat) (y:Str),js[k]?=some j->fr[k]?=some y->P j y:=λk j y h1 h2=>by refine oH h (j,y) (WR.mpr ⟨k,?_⟩);rw[List.getElem?_zip_eq_some];exact⟨h1,h2⟩
section
variable{X:Cx}
def pD:V->Bool
 |.bl b=>b
 |.int i=>i != 0
 |_=>false
def scS:V->Bool
 |.bl _=>true
 |.int _=>true
 |_=>false
def Hv(h:scS v=true)(r:RelV v u)(q:Q (pD v) s):wpAny (model prog w) A (truthy u) Q E s:=by
 cases v with
 |bl b=>cases r;exact Vw q
 |int i=>obtain⟨t,rfl⟩:=r;exact PyProof.Rows.truthy_int q
 |_=>cases h
def range_all{xs:List V}{tr:Nat->Bool}(h:∀(i:Nat) (x:V),xs[i]?=some x->tr i=pD x):(List.range xs.length).all tr=xs.all pD:=by
 rw[T6,U3,U3];constructor
 ·intro q x hx;obtain⟨i,hi,e⟩:=UL.mp hx;have:=q i (Th.mpr hi);rw[h i x (by rw[Tc hi,e])]at this
  exact this
 ·intro q i hi;have hi':=Th.mp hi;rw[h i xs[i] (Tc hi')];exact q _ (U8 hi')
def QG{xs:List V}{its:List Value}(rv:Vals xs its)(hs:∀x∈xs,scS x=true):TruthOf prog w A (λi v=>its.toArray[i]?=some v) (λi=>pD (xs[i]?.getD .non)):=by
 intro i v s Q E hP hQ;have e:its[i]?=some v:=by simpa using hP
 have hl:=rv.length;have hi:i<xs.length:=by rw[hl];exact (S7.mp e).1
 obtain⟨u,e2,r⟩:=rv.get (Tc hi);rw[e]at e2;cases e2;refine Hv (hs _ (U8 hi)) r ?_;have hQ':Q (pD (xs[i]?.getD V.non)) s:=hQ;rw[Tc hi]at hQ';exact hQ'
def HQ(hh:X.A.handled=none):CallR X (.builtin "all") (λvs H Q=>∃l xs,vs=[.ref l]/\H l=some (.lst xs)/\(∀x∈xs,scS x=true)/\Q (.bl (xs.all pD)) H):=by
 intro YB s σ H vs us Q I r h;obtain⟨l,xs,rfl,hH,hs,q⟩:=h;obtain⟨u,rfl,ru⟩:=vals1 r;cases ru;obtain⟨its,rv,p,hz⟩:=I.list (SqL.of (K:=X.K) hH);have hl:l<s.heap.objs.size:=by obtain⟨o,n,e,_⟩:=p;exact Te e
 refine call_all_walk (VM p.isList ?_);refine⟨s.heap.objs.size,[s.heap.objs.size,l],[s.heap.objs.size],its.toArray.size,λi v=>its.toArray[i]?=some v,λi h=>h.IsListIter s.heap.objs.size l i/\h.IsList l its.toArray,λi=>pD (xs[i]?.getD .non),rfl,Walks.list (A:=X.A.in1) hh s.heap.objs.size l (Tj hl) its.toArray,⟨⟨_,Tg _ rfl,rfl,rfl⟩,p.isList.at λo e=>S5 _ e⟩,QG rv hs,λh' tk hk=>?_⟩
 refine⟨.bl (xs.all pD),H,I.kept λb o e=>hk b o (λz=>?_) (S5 _ e),?_,q⟩
 ·have:b=s.heap.objs.size:=by simpa using z
  exact absurd (Te e) (by rw[this];exact Vj _)
 ·rw[show its.toArray.size=xs.length by rw[TF];exact rv.length.symm]
  show Value.bool _=Value.bool _;rw[range_all λi x e=>by rw[e];rfl]
def Qf(h:X.mg x=some (.int i t))(hg:Gl X x:=by rfl)(hd:(x==("__debug__":Str))=false:=by decide):PE X (.Name x pos) (tC (.int i)):=pe_glob hg h ⟨t,rfl⟩ hd
end
structure MethAt(K:PySem.W.Frag)(C:Addr)(x qual:Str)(st:Stmt):Prop where
 ex:∃f fd,Fun K x qual st f fd/\PySem.W.findIn K (.ref C) x=some (some (.ref f))/\PySem.W.isFn K (.ref f)=true
structure MethC(P:Program)(w:World)(K:PySem.W.Frag)(mg:Str->Option Value)(base:Heap)(k:Nat)(C:Addr)(x:Str)(ps:List Str)(sp:Sp):Prop where
 ex:∃f fd,FnOk P w K mg base (gD P w) k f fd ps sp/\Binds K fd ps []/\PySem.W.keepIn K (.ref f)=true/\PySem.W.findIn K (.ref C) x=some (some (.ref f))/\PySem.W.isFn K (.ref f)=true
def Gz{K:PySem.W.Frag}{C:Addr}{x qual:Str}{st:Stmt}{f:Addr}{oc:Value}{od an:Option Addr}{osl:Array (Option Value)}{kV doc pm cdv ct:Value}
  (a:PySem.W.findIn K (.ref C) x=some (some (.ref f))) (n:PySem.W.isFn K (.ref f)=true) (l:K.lookup f=some ⟨oc,od,.func (PySem.W.fnOf x qual (defArgs st) (defBody st) (defScope st) .none kV doc pm an cdv ct),osl⟩) (c:PySem.W.codeIn K cdv qual=true) (k:PySem.W.keepIn K (.ref f)=true):MethAt K C x qual st:=
 ⟨f,_,fun_mk l c k,a,n⟩
section
variable{P:Program}{w:World}{K:PySem.W.Frag}{mg:Str->Option Value}{base:Heap}{k:Nat}{C:Addr}{x qual:Str}{N ps:List Str}{sp:Sp}{st:Stmt}
def Ra(F:Fun K x qual st f fd)(S:FnScope N ps (defScope st))(len:∀ vs H Q E,sp vs H Q E->vs.length=ps.length)
  (hbody:∀(cdv:Value) (A:Around) (outer:List Env) (s:Shared) (H:Hp) (vs:List V) (Q:VK) (E:XK),Room k (A.deeper (envOfC qual (defScope st) s.heap.objs.size f cdv))->sp vs H Q E->
    ∃t,PSs (jE P w K mg base N qual (defScope st) f cdv A outer s H E) (defBody st) t/\t { nx:=λz H'=>Q .non H',rt:=Q } (start N vs) H):FnOk P w K mg base (gD P w) (k+1) f fd ps sp:=by
 obtain⟨oc,od,kV,doc,pm,an,cdv,ct,osl,rfl,l,c⟩:=F.ex;exact fn_of l c S len (hbody cdv)
end
section
variable{X:Cx}{j k:Nat}{C:Addr}{ps:List Str}{sp:Sp}{x:Str}{p pos:Pos}{e:Expr}{es:List Expr}{t:TA}{E:XK}
def Jh(D:MethC X.prog X.w X.K X.mg X.base j C "__init__" ps sp)(mk:PySem.W.makesIn X.K C=true)(kc:PySem.W.keepIn X.K (.ref C)=true)(hm:X.mg x=some (.ref C))(hr:Room k X.A)(hx:Passes (gD X.prog X.w) X E)(ha:QA X (e::es) t)(hjk:j+1<=k:=by decide)(hg:Gl X x:=by rfl)(hdb:(x==("__debug__":Str))=false:=by decide)
  (he:notStar e=true:=by rfl) (hpl:(backTo pos (starEach es X.env)).any (·.1)=false:=by rfl) :
  PE X (.Call (.Name x p) (e::es) [] pos) (tMake C sp [] E t):=by
 obtain⟨f,fd,F,b,kp,a,n⟩:=D.ex;exact pe_make ⟨mk,a,n,kc⟩ F (hr.mono hjk) hg hm b .nil hx ha.h hdb (bH he) hpl
end
open PySem PySem.Spec PyProof.Rows
section
variable{X:Cx}{CX:CXT}{k:Nat}{f C:Addr}{fd:FuncData}{ps:List Str}{sp:Sp}{E:XK}
def Lq(F:FnOk X.prog X.w X.K X.mg X.base CX k f fd ps sp)(hr:Room k X.A.in1)(hb:Binds X.K fd ps [])(hx:Passes CX X E)
  (I:Inv X YB σ H s) (r:Vals vs us) (h:sp vs H Q E):wpAny (model X.prog X.w) X.A.in1 (call (.ref f) us) (EP X YB σ Q) X.xe s:=by
 have hl:(us++[]).length=ps.length:=by rw[VL,<-r.length];exact F.len _ _ _ _ h
 have hl':us.length=ps.length:=by rw[VL]at hl;exact hl
 have bb:=hb s us I.kIn hl;rw[VL]at bb;refine Yx (V8 (F.run X.A.in1 X.stack s H ⟨us,[]⟩ us vs Q E hr ⟨(show X.A.in1.frames=some X.stack from I.ok.frames),I.ok.mod,I.bs,Ue I.ok.bsz I.sz,I.stack,I.stkFree,I.hok,I.bare⟩ bb r h) λr s' hq=>?_)
 cases r with
 |error e=>exact hx YB σ H s e s' I hq
 |ok fl=>
   cases fl with
   |ret u=>exact I.after hq
   |next=>exact False.elim hq
   |brk=>exact False.elim hq
   |cont=>exact False.elim hq
def Fe(D:MethC X.prog X.w X.K X.mg X.base j C "__len__" ps sp)(hr:Room (j+1) X.A)(hx:Passes (gD X.prog X.w) X E):
  CallR X (.builtin "len") (λvs H Q=>∃x dx fs,vs=[.ref x]/\H x=some (.ins C dx fs)/\sp [.ref x] H (λv H2=>∃n:Int,v=.int n/\(0<=n/\n<2^63)/\Q (.int n) H2) E):=by
 intro YB s σ H vs us Q I r h;obtain⟨x,dx,fs,rfl,hx',q⟩:=h;obtain⟨f,fd,F,b,kp,a,n⟩:=D.ex;obtain⟨u,rfl,ru⟩:=vals1 r;cases ru;obtain⟨mA,O,_⟩:=ins_get I.hok hx';obtain⟨od,IA,_⟩:=O.look;refine Wi PySem.kind_len PySem.plain_len PySem.entry_len (PySem.args_len1 _) ?_;unfold Builtin.«len»
 refine SX (m:=oneArg "len" _) (S6 ?_);refine SX (m:=callSpecial? (.ref x) (Str.ofString "__len__")) (PySem.W.special_fn I.kIn IA a (Yn.mp n) (Tz (Lq (vs:=[.ref x]) F hr.in1 b hx I (.cons rfl .nil) q) (λw' s' hw=>?_) λz z y=>y))
 obtain⟨v,H2,I2,rv,m,rfl,⟨h0,h1⟩,qq⟩:=hw;obtain⟨t,rfl⟩:=rv;refine SX (Up (S6 ?_));refine SX (wpAny_letGo ?_);show wpAny _ _ (if m<0 then _ else _) _ _ _
 rw[Ti (by lia)]
 show wpAny _ _ (if m ≥ 2^63 then _ else _) _ _ _
 rw[Ti (by lia)]
 exact SX (wpAny_mkInt (S6 ⟨_,rfl,.int m,H2,I2.tok _,⟨_,rfl⟩,qq⟩))
end
theorem b7:∀ (names:List (Str×NameKind)) (n:Nat) (acc:List (Str×Addr)),cellsFrom n names acc=cellsFrom n names []++acc
 |[],_,_=>rfl
 |(name,kind)::r,n,acc=>by
   unfold cellsFrom;split
   ·rw[b7 r (n+1) ((name,n)::acc),b7 r (n+1) [(name,n)],Vv];rfl
   ·exact b7 r n acc
def lV
  (hQ:Q (newEnv scope s.heap.objs.size globals (cellsFrom (s.heap.objs.size+1) scope.names cl) qual none .none (some env) builtinsNs) { s with heap:=pushCells (s.heap.push { cls:=.type "dict",data:=.dict #[] }) scope.names }) :
  wpAny M A (newFunctionEnv scope globals cl [] qual none .none (some env)) Q E s:=by
 simp only[newFunctionEnv,Option.isSome_some,if_true];refine SX (wpAny_alloc ?_);refine SX (wpAny_layCells _ (λname kind cells=>by cases hkc:kind==NameKind.cell<;>simp[hkc]) _ _ _ _ ?_)
 rw[show ({ s with heap:=s.heap.push { cls:=.type "dict",data:=.dict #[] } }:Shared).heap.objs.size=s.heap.objs.size+1 from T5 ..]
 refine SX ?_;rw[List.forIn_nil];exact S6 (S6 hQ)
abbrev Cx.aK(X:Cx)(YB:List (Addr×Obj))(scope:Scope)(cs:List (Str×Addr))(Nc:List Str)(fp:List Addr)(C:Addr)(s₂:Shared)(H₂:Hp):Cx where
 prog:=X.prog
 w:=X.w
 K:=X.K
 mg:=X.mg
 base:=X.base
 A:=X.A
 N:=Nc
 s₀:=s₂
 H₀:=H₂
 env:=compEnvC scope cs C X.env
 outer:=X.stack
 stack:=X.stack
 ex:=fp
 fn:=λy=>scope.names.lookup y==some .cell
 calm:=X.calm
 pn:=X.pn++YB
 xe:=λ_ _=>False
structure CompG(X:Cx)(scope:Scope)(cl:List (Str×Addr))(own:List Str)(js:List Nat)(fr:List Str):Prop where
 kind:scope.kind=.function
 names:∀y∈scope.names,y.2=.local->scope.names.lookup y.1=some .local
 clos:closureFor scope X.env=pure cl
 sub:∀y c,cl.lookup y=some c->X.env.cells.lookup y=some c
 has:∀(m:Nat) y,((relabel scope X.env).names.lookup y=some .cell\/(relabel scope X.env).names.lookup y=some .free)->∃c,(cellsFrom m scope.names cl).lookup y=some c
 nd:(own++fr).Nodup
 len:js.length=fr.length
 newc:∀(m:Nat) y c,(cellsFrom m scope.names []).lookup y=some c->scope.names.lookup y=some .cell
 oldc:∀y c,cl.lookup y=some c->scope.names.lookup y≠some .cell
 fre:∀(k j:Nat) (y:Str),js[k]?=some j->fr[k]?=some y->X.N[j]?=some y/\(X.env.scope.names.lookup y=some .cell\/X.env.scope.names.lookup y=some .free)/\((relabel scope X.env).names.lookup y=some .cell\/(relabel scope X.env).names.lookup y=some .free)/\∃c,cl.lookup y=some c
theorem jK:∀ {l m:List (Str×α)},(l++m).lookup y=some c->l.lookup y=some c\/(l.lookup y=none/\m.lookup y=some c)
 |[],_,h=>.inr ⟨rfl,h⟩
 |(k,v)::r,m,h=>by
   rw[W5,V3]at h;rw[V3];split at h
   ·exact .inl h
   ·exact jK h
theorem gO:∀ {l m:List (Str×α)},l.lookup y=none->(l++m).lookup y=m.lookup y
 |[],_,_=>rfl
 |(k,v)::r,m,h=>by
   rw[V3]at h;rw[W5,V3];split at h
   ·cases h
   ·exact gO h
section
variable{X:Cx}{YB:List (Addr×Obj)}{σ:St}{H:Hp}{s:Shared}{scope:Scope}{cl:List (Str×Addr)}{own:List Str}{js:List Nat}{fr:List Str}{fp:List Addr}{C m:Addr}
def yt{hh:Heap}(T:CompG X scope cl own js fr)(I:Inv X YB σ H s)(f:∀ b∈fp,FpOk X YB H b)(hlt:∀ b∈fp,b<s.heap.objs.size)(hC:s.heap.objs.size<=C)(hm:m=hh.objs.size)(hms:s.heap.objs.size<=m):
  (X.aK YB scope (cellsFrom m scope.names cl) (own++fr) fp C s H).Ok:=by
 have ok:CellsOk (pushCells hh scope.names) m (cellsFrom m scope.names []):=by
  have:=cellsFrom_ok scope.names hh m [] ⟨λx x hm=>(nomatch hm),List.Pairwise.nil⟩ (by rw[hm];exact Td _)
  rw[<-hm]at this;exact this
 have hold:∀y c,cl.lookup y=some c->c<s.heap.objs.size:=λy c e=>by obtain⟨v,q⟩:=I.cell y c (T.sub _ _ e);exact q.lt
 have spl:∀y c,(cellsFrom m scope.names cl).lookup y=some c->(m<=c/\(cellsFrom m scope.names []).lookup y=some c)\/(cl.lookup y=some c/\c<s.heap.objs.size):=λy c e=>by
  rw[b7]at e;rcases jK e with z | ⟨_,z⟩
  ·exact .inl ⟨(ok.empty _ _ (UW z)).2,z⟩
  ·exact .inr ⟨z,hold _ _ z⟩
 refine⟨I.ok.mod,T.kind,I.ok.glob,I.ok.blt,hC,λy z c h1 h2=>?_,λy h=>T.has m y h,λy c h1 h2=>?_,I.ok.hd,I.ok.frames,.inl rfl,λb hb=>⟨Tj (Tr (hlt b hb) hC),λy c h=>?_⟩,λb o e=>I.bs b o e,Ue I.ok.bsz I.sz,λb o e hb=>?_,λb hb hm'=>?_,I.stack,I.stkFree⟩
 ·rcases spl _ _ h1 with ⟨a1,a2⟩ | ⟨a1,a2⟩
  ·rcases spl _ _ h2 with ⟨b1,b2⟩ | ⟨b1,b2⟩
   ·exact name_of_addr ok.apart (UW a2) (UW b2)
   ·exact absurd (Tr b2 hms) (VG.mpr a1)
  ·rcases spl _ _ h2 with ⟨b1,b2⟩ | ⟨b1,b2⟩
   ·exact absurd (Tr a2 hms) (VG.mpr b1)
   ·exact I.ok.inj y z c (T.sub _ _ a1) (T.sub _ _ b1)
 ·rcases spl _ _ h2 with ⟨a1,a2⟩ | ⟨a1,a2⟩
  ·exact Ue hms a1
  ·exact absurd (by simpa using h1) (T.oldc _ _ a1)
 ·rcases spl _ _ h with ⟨a1,a2⟩ | ⟨a1,a2⟩
  ·exact λz=>absurd (Tr (hlt b hb) hms) (VG.mpr (z ▸ a1))
  ·exact (f b hb).2.2.2.2.1 y c (T.sub _ _ a1)
 ·rcases (f b hb).2.2.2.1 with z | z
  ·exact I.ok.noex b o e z
  ·exact absurd (Tr (Te e) I.ok.bsz) (VG.mpr z)
 ·rcases Tt.mp (I.stkSub b hm') with z | z
  ·exact (f b hb).2.1 z
  ·exact (f b hb).2.2.1 z
def vW(T:CompG X scope cl own js fr)(I:Inv X YB σ H s)(f:∀ b∈fp,FpOk X YB H b)(hlt:∀ b∈fp,b<s.heap.objs.size)
  (k:∀b o,s.heap.get? b=some o->h'.get? b=some o) (ha:s.heap.objs.size<=acc) (hC:s.heap.objs.size<=C) (hne:C≠acc) (hm:m=hh.objs.size) (hms:s.heap.objs.size<=m) (hCm:C<m) (ham:acc<m) (hh':h'=pushCells hh scope.names)
  (new:∃n,h'.get? acc=some { cls:=.type "list",data:=.seq #[] n }) (ns:h'.Ns C mm) :
  Inv (X.aK YB scope (cellsFrom m scope.names cl) (own++fr) fp C s H) [] (List.replicate own.length none++pick js σ) (upd H acc (.lst [])) { s with heap:=h',toks:=t' }:=by
 have ok:CellsOk (pushCells hh scope.names) m (cellsFrom m scope.names []):=by
  have:=cellsFrom_ok scope.names hh m [] ⟨λx x hm=>(nomatch hm),List.Pairwise.nil⟩ (by rw[hm];exact Td _)
  rw[<-hm]at this;exact this
 have hold:∀y c,cl.lookup y=some c->c<s.heap.objs.size:=λy c e=>by obtain⟨v,q⟩:=I.cell y c (T.sub _ _ e);exact q.lt
 have spl:∀y c,(cellsFrom m scope.names cl).lookup y=some c->(m<=c/\h'.IsCell c none)\/(cl.lookup y=some c/\c<s.heap.objs.size):=λy c e=>by
  rw[b7]at e;rcases jK e with z | ⟨_,z⟩
  ·have:=ok.empty _ _ (UW z);exact .inl ⟨this.2,by rw[hh'];exact this.1⟩
  ·exact .inr ⟨z,hold _ _ z⟩
 have hn:H acc=none:=I.hok.fresh ha;have fC:H C=none:=I.hok.fresh hC;have ob:ObjOk X.prog X.w (upd H acc (.lst [])) h' acc (.lst []):=by obtain⟨n,e⟩:=new;exact⟨Vb _,[],n,.nil,e⟩
 refine⟨yt T I f hlt hC hm hms,rfl,I.bare,Un.laid k ha hn,⟨mm,ns,λi y v h1 h2 h3=>?_⟩,λy c e=>?_,by show upd H acc _ C=none;rw[upd_ne hne];exact fC,λy c e=>?_,λp hp=>?_,I.hok.laid k ha ob,?_⟩
 ·have h1:(own++fr)[i]?=some y:=h1;by_cases hi:i<own.length
  ·rw[Tq (by rw[Uv];exact hi),VR]at h2
   split at h2<;>cases h2
  ·rw [List.getElem?_append_right (by lia)] at h1
   rw[Uo (by rw[Uv];lia),Uv]at h2
   unfold pick at h2;rw[Tp]at h2;cases hj:js[i-own.length]? with
   |none=>rw[hj]at h2;cases h2
   | some j=>
     rw[hj]at h2;have h2s:(σ[j]?).getD none=some v:=Tu h2;have h2'':σ[j]?=some (some v):=by
      cases z:σ[j]? with
      |none=>rw[z]at h2s;cases h2s
      |some w=>rw[z]at h2s;exact congrArg some h2s
     obtain⟨g1,g2,g3,c,gc⟩:=T.fre _ j y hj h1;obtain⟨mX,_,hl⟩:=I.loc;have vis:Vis X.env.scope y:=g2.elim (λz=>.inr (.inl z)) λz=>.inr (.inr z)
     obtain⟨u,r,q⟩:=hl j y v g1 h2'' vis;refine⟨u,r,.inr ⟨g3,c,?_,?_⟩⟩
     ·show (cellsFrom m scope.names cl).lookup y=some c;rw[b7];cases z:(cellsFrom m scope.names []).lookup y with
      |none=>rw[gO z];exact gc
      |some c'=>exact absurd (T.newc m y c' z) (T.oldc y c gc)
     ·have hc':=T.sub _ _ gc;rcases q with ⟨q,_⟩ | ⟨_,c2,e2,z⟩
      ·have q:X.env.scope.names.lookup y=some .local:=q;rcases g2 with g2 | g2<;>(rw[g2]at q;cases q)
      ·rw[hc']at e2;cases e2;exact z.keeps k
 ·rcases spl y c e with ⟨_,z⟩ | ⟨z,_⟩
  ·exact⟨_,z⟩
  ·obtain⟨v,q⟩:=I.cell y c (T.sub _ _ z);exact⟨v,q.keeps k⟩
 ·rcases spl y c e with ⟨z,_⟩ | ⟨z,lt⟩
  ·show upd H acc _ c=none;rw[upd_ne (λ(q:c=acc)=>absurd ham (VG.mpr (q ▸ z)))]
   exact I.hok.fresh (Ue hms z)
  ·show upd H acc _ c=none;rw[upd_ne (λ(q:c=acc)=>absurd lt (VG.mpr (q ▸ ha)))]
   exact I.freeC y c (T.sub _ _ z)
 ·have hp':p∈X.pn++YB:=by simpa using hp
  obtain⟨e,n,ne,nf,d⟩:=I.pin p hp';refine⟨k _ _ e,?_,Tj (Tr (Te e) hC),λhm=>?_,d⟩
  ·show upd H acc _ p.1=none;rw[upd_ne (λz=>absurd (Te e) (by rw[z];exact VG.mpr ha))]
   exact n
  ·rcases Tt.mp (I.stkSub _ hm) with z | z
   ·exact ne z
   ·exact nf z
 ·show (List.replicate own.length none++pick js σ).length=(own++fr).length;unfold pick;rw[T4,Uv,S9,T4,T.len]
end
section
variable{prog:Program}{w:World}{A:Around}{R:Result->Shared->Prop}{s:Shared}
def rQ(ifs:List Expr)(env:Env):Sem Bool:=forIn ifs true λc r=>if r=true then do let ok <-isTrue c env (eval c env);pure (ForInStep.yield ok) else pure (ForInStep.yield r)
def turnOf(g:Comprehension)(bodyK:Sem Fin->Sem Fin)(c:Code)(it:Value)(env:Env):Sem Fin:=do
 standAt g.iter.pos
 match <-pyNext it with
 |none=>pure (.done .next)
 |some v=>
   letOwnedTupleGo g.target it v
   assign g.target env v
   let ok <-rQ g.ifs env
   if ok then bodyK (again c) else again c
def uE(elt:Expr)(acc:Value)(env:Env)(k:Sem Fin):Sem Fin:=do
 (do let _ <-call (.builtin "list.append") [acc,<-eval elt env])
 k
def yQ(e:Expr)(i1:Expr)(acc:Value)(env:Env)(k:Sem Fin):Sem Fin:=do
 let x <-eval i1 env
 standAt i1.pos
 let x <-foldedSetIterable i1 env x
 let _ <-runOwn (.compStart e 1 (<-holding [x] (pyIter x)) acc env) env
 k
def JW(elt target iter:Expr)(ifs:List Expr)(scope:Scope)(pos:Pos)(it acc:Value)(env:Env):
  compTurn (.ListComp elt [⟨target,iter,ifs,0⟩] scope pos) 0 it acc env=turnOf ⟨target,iter,ifs,0⟩ (uE elt acc env) (.compLoop (.ListComp elt [⟨target,iter,ifs,0⟩] scope pos) 0 it acc env) it env:=rfl
def iY(prog:Program)(w:World)(A:Around)(bodyK:Sem Fin->Sem Fin)(W:(Shared->Prop)->Shared->Prop):Prop:=
 ∀(k:Sem Fin) (Q:Fin->Shared->Prop) (E:Value->Shared->Prop) (s:Shared),W (λs'=>wpAny (model prog w) A k Q E s') s->wpAny (model prog w) A (bodyK k) Q E s
def FW:iY prog w A (uE elt acc env) (λP s=>wpAny (model prog w) A (eval elt env) (λx s1=>wpAny (model prog w) A (call (.builtin "list.append") [acc,x]) (λy s2=>P s2) (λy y=>False) s1) (λy y=>False) s):=by intro k Q E s h;unfold uE;exact SX (SX (Tz h (λx s1 h1=>SX (Tz h1 (λy s2 h2=>S6 h2) λy y z=>z.elim)) λy y z=>z.elim))
def Ko(hs:∀ x,foldedSetIterable i1 env x=pure x):iY prog w A (yQ e i1 acc env) (λP s=>wpAny (model prog w) A (eval i1 env) (λx s1=>wpAny (model prog w) A (pyIter x) (λit s2=>
  codeAny (model prog w) A (.compStart e 1 it acc env) (λr s3=>match r with
   |.ok _=>P s3
   |.error _=>False) s2) (λy y=>False) s1) (λy y=>False) s):=by
 intro k Q E s h;unfold yQ;refine SX (Tz h (λx s1 h1=>SX (VF (SX (wpAny_of_eq (hs x) (SX (Up (Tz h1 (λit s2 h2=>?_) λy y z=>z.elim))))))) λy y z=>z.elim)
 refine SX (wpAny_runOwn (V8 h2 λr s3 h3=>?_))
 cases r with
 |ok f=>exact h3
 |error x=>exact h3.elim
def IV(I:Nat->Shared->Prop)
  (hturn:compTurn (.ListComp elt gens scope pos) depth it acc env=turnOf g bodyK (.compLoop (.ListComp elt gens scope pos) depth it acc env) it env) (hW:iY prog w A bodyK W)
  (turn:∀ n s,I n s->wpAny (model prog w) A (pyNext it) (λr s₁=>match r with
    |none=>R (.ok .next) s₁
    |some v=>wpAny (model prog w) A (letOwnedTupleGo g.target it v) (λz s₂=>wpAny (model prog w) A (assign g.target env v) (λz s₃=>
      wpAny (model prog w) A (rQ g.ifs env) (λok s₄=>if ok=true then W (λs₅=>∃m,m<n/\I m s₅) s₄ else ∃m,m<n/\I m s₄) (λz z=>False) s₃) (λz z=>False) s₂) (λz z=>False) s₁) (λz z=>False) s)
  (hmono:∀P P' s,(∀s,P s->P' s)->W P s->W P' s)
  (n:Nat) (h:I n s):codeAny (model prog w) A (.compLoop (.ListComp elt gens scope pos) depth it acc env) R s:=by
 refine codeAny_loop rfl I (λn s hI=>?_) n h
 show wpAny _ A ((compTurn (.ListComp elt gens scope pos) depth it acc env).onRaise (λx=>do noteFrame x env;theTreesLotGoes x)) _ _ s
 refine wpAny_noted ?_;rw[hturn];unfold turnOf;refine SX (VF (SX (Tz (turn n s hI) (λr s₁ h₁=>?_) λz z h'=>h'.elim)))
 cases r with
 |none=>exact S6 h₁
 | some v=>
   refine SX (Tz h₁ (λz s₂ h₂=>SX (Tz h₂ (λz s₃ h₃=>SX (Tz h₃ (λok s₄ h₄=>?_) λz z h'=>h'.elim)) λz z h'=>h'.elim)) λz z h'=>h'.elim)
   cases ok with
   |false=>have h₄:∃m,m<n/\I m s₄:=h₄;exact S6 ⟨rfl,h₄⟩
   |true=>
     have h₄:W (λs₅=>∃m,m<n/\I m s₅) s₄:=h₄
     exact hW _ _ _ _ (hmono _ _ _ (λs₅ h₅=>S6 ⟨rfl,h₅⟩) h₄)
def wJ(hg:gens[depth]?=some g)(ha:g.is_async=0)
  (h0:codeAny (model prog w) A (.compLoop (.ListComp elt gens scope pos) depth it acc env) R s)
  (h:wpAny (model prog w) A (pyIter it) (λit' s'=>codeAny (model prog w) A (.compLoop (.ListComp elt gens scope pos) depth it' acc env) R s') (λz z=>False) s) :
  codeAny (model prog w) A (.compStart (.ListComp elt gens scope pos) depth it acc env) R s:=by
 refine Ym ?_;show wpAny _ _ ((compStart (.ListComp elt gens scope pos) depth it acc env).onRaise (λx=>do noteFrame x env;standAt theWindowsPlace)) _ _ s
 refine wpAny_notedAt ?_;unfold compStart;have e1:(((clausesOf (.ListComp elt gens scope pos))[depth]?).elim false (·.is_async != 0))=false:=by show ((gens[depth]?).elim false (·.is_async != 0))=false;rw[hg];show (g.is_async != 0)=false;rw[ha];rfl
 rw[e1];simp only[Bool.false_eq_true,if_false,pure_bind];refine SX (Vq (wpAny_ite ?_));split
 ·first
   |exact SX (S6 (S6 (And.intro rfl h0)))
   |exact S6 (And.intro rfl h0)
 ·refine SX (Vp ?_);have e2:(clausesOf (.ListComp elt gens scope pos))[depth]?=some g:=hg;rw[e2];exact SX (VF (SX (Tz h (λit' s' h'=>S6 (And.intro rfl h')) λz z x=>x.elim)))
end
section
variable{prog:Program}{w:World}{A:Around}{E:Value->Shared->Prop}{s:Shared}
def Do(hi:IsTupIter s.heap ia t k)(ht:IsTup s.heap t its)(hy:its[k]?=some y)
  (hQ:∀h',IsTupIter h' ia t (k+1)->Heap.SameBut ia s.heap h'->Q y { s with heap:=h' }):wpAny (model prog w) A (Builtin.SmallTypes.nextOf (.ref ia)) Q E s:=by
 obtain⟨oi,hoi,hci,hdi⟩:=id hi;obtain⟨ot,hot,_,nt,hdt⟩:=ht;unfold Builtin.SmallTypes.nextOf;refine SX (Ul (name:=Str.ofString "__next__") hi.typeIs Xc (Uk Xc hi.typeIs entry_tupleiter_next ?_ (args_tupleiter_next _)));show wpAny _ _ (field (.ref ia) 0>>=_) _ _ s;refine SX (Uz hoi hdi (x:=.ref t) rfl ?_);show wpAny _ _ (if (Value.ref t==Value.none)=true then _ else _) _ _ s
 rw[Ti (λz:(Value.ref t==Value.none)=true=>TX z)]
 show wpAny _ _ (field (.ref ia) 1>>=_) _ _ s;refine SX (Uz hoi hdi (x:=.int k 0) rfl ?_);show wpAny _ _ (seqItems? (.ref t)>>=_) _ _ s;refine SX (Vs hot hdt ?_);simp only[Int.toNat_natCast,hy];refine SX (Vl hoi hdi (by simp) (S6 ⟨y,rfl,S6 (hQ _ ⟨_,WW _ hoi (Obj.isFreed_of_fields (Obj.data_mapFields hdi _)),(Obj.cls_mapFields ..).trans hci,?_⟩ (Ve ..))⟩))
 rw[Obj.data_mapFields hdi];simp[rawInt]
def Ao(hh:A.handled=none)(hi:IsTupIter s.heap ia t k)(ht:IsTup s.heap t its)(hy:its[k]?=none)
  (hE:∀h' e,Heap.ExtBut ia s.heap h'->(∃o,h'.get? e=some o/\o.cls=.type "StopIteration")->E (.ref e) { s with heap:=h' }):wpAny (model prog w) A (Builtin.SmallTypes.nextOf (.ref ia)) Q E s:=by
 obtain⟨oi,hoi,hci,hdi⟩:=id hi;obtain⟨ot,hot,_,nt,hdt⟩:=ht;unfold Builtin.SmallTypes.nextOf;refine SX (Ul (name:=Str.ofString "__next__") hi.typeIs Xc (Uk Xc hi.typeIs entry_tupleiter_next ?_ (args_tupleiter_next _)));show wpAny _ _ (field (.ref ia) 0>>=_) _ _ s;refine SX (Uz hoi hdi (x:=.ref t) rfl ?_);show wpAny _ _ (if (Value.ref t==Value.none)=true then _ else _) _ _ s
 rw[Ti (λz:(Value.ref t==Value.none)=true=>TX z)]
 show wpAny _ _ (field (.ref ia) 1>>=_) _ _ s;refine SX (Uz hoi hdi (x:=.int k 0) rfl ?_);show wpAny _ _ (seqItems? (.ref t)>>=_) _ _ s;refine SX (Vs hot hdt ?_);simp only[Int.toNat_natCast,hy];refine SX (Vp (SX (Vl hoi hdi (by simp) ?_)))
 show wpAny _ _ (newExc (.type "StopIteration") ([]:List Value)>>=λy=>_) _ _ _
 refine SX ?_;simp only[newExc,newTuple];refine SX (Uj ?_ (by size_fits:_))
 refine SX (m:=firstArgMember _ _) (wpAny_of_eq (a:=Value.none) (by first | rfl | simp only[firstArgMember]) ?_)
 refine Uj ?_ (by size_fits:_)
 simp only[raiseNew];refine SX (wpAny_handled ?_)
 first | rw[hh] | rw[show A.in1.handled=none from hh]
 refine SX (S6 (wpAny_throw (hE _ _ (((Ve ..).extBut.push _).push _) ⟨_,Tg _ rfl,rfl⟩)))
end
structure SubIt(P:Program)(w:World)(i l:Addr)(its:Array Value)(st:Nat->Heap->Prop):Prop where
 obj:∀k h,st k h->(∃o,h.get? i=some o/\∀v,o.data≠.cell v)/\∃o,h.get? l=some o
 keep:∀k h h',st k h->(∀o,h.get? i=some o->h'.get? i=some o)->(∀o,h.get? l=some o->h'.get? l=some o)->st k h'
 item:∀(A:Around) k (s:Shared) x (Q:Value->Shared->Prop) (E:Value->Shared->Prop),st k s.heap->its[k]?=some x->(∀h',st (k+1) h'->Heap.SameBut i s.heap h'->Q x { s with heap:=h' })->wpAny (model P w) A (Builtin.SmallTypes.nextOf (.ref i)) Q E s
 done:∀(A:Around) k (s:Shared) (Q:Value->Shared->Prop) (E:Value->Shared->Prop),A.handled=none->st k s.heap->its[k]?=none->(∀h' e,Heap.ExtBut i s.heap h'->(∃o,h'.get? e=some o/\o.cls=.type "StopIteration")->E (.ref e) { s with heap:=h' })->wpAny (model P w) A (Builtin.SmallTypes.nextOf (.ref i)) Q E s
def Ma(hne:l≠i)(its:Array Value):SubIt P w i l its (λk h=>IsTupIter h i l k/\IsTup h l its) where
 obj:=λk h ⟨⟨o,e,_,d⟩,⟨o',e',_⟩⟩=>⟨⟨o,e,λv z=>by rw[d]at z;cases z⟩,o',e'⟩
 keep:=λk h h' ⟨⟨o,e,r⟩,⟨o',e',r'⟩⟩ k1 k2=>⟨⟨o,k1 _ e,r⟩,⟨o',k2 _ e',r'⟩⟩
 item:=λA k s x Q E st hx hQ=>Do st.1 st.2 hx λh' h1 h2=>hQ h' ⟨h1,st.2.extBut h2.extBut hne⟩ h2
 done:=λA k s Q E hh st hx hE=>Ao hh st.1 st.2 hx hE
def LR(hne:l≠i)(its:Array Value):SubIt P w i l its (λk h=>h.IsListIter i l k/\h.IsList l its) where
 obj:=λk h ⟨⟨o,e,_,d⟩,⟨o',e',_⟩⟩=>⟨⟨o,e,λv z=>by rw[d]at z;cases z⟩,o',e'⟩
 keep:=λk h h' ⟨⟨o,e,r⟩,⟨o',e',r'⟩⟩ k1 k2=>⟨⟨o,k1 _ e,r⟩,⟨o',k2 _ e',r'⟩⟩
 item:=λA k s x Q E st hx hQ=>wpAny_nextOf_list_item st.1 st.2 hx λh' h1 h2=>hQ h' ⟨h1,st.2.extBut h2.extBut hne⟩ h2
 done:=λA k s Q E hh st hx hE=>wpAny_nextOf_list_end hh st.1 st.2 hx hE
section
variable{P:Program}{w:World}{A:Around}{E:Value->Shared->Prop}{s:Shared}{z TI TO i1 i2 l1 l2:Addr}{xs ys:Array Value}{st1 st2:Nat->Heap->Prop}
def Hz{k:Nat}{Q:Value->Shared->Prop}(D:ZipApart z TI TO i1 i2 l1 l2)(S1:SubIt P w i1 l1 xs st1)(S2:SubIt P w i2 l2 ys st2)
  (hz:IsZip s.heap z TI TO .none) (hTI:IsPair s.heap TI (.ref i1) (.ref i2)) (hTO:IsPair s.heap TO a b) (h1:st1 k s.heap) (h2:st2 k s.heap) (hx:xs[k]?=some x) (hy:ys[k]?=some y)
  (hQ:∀h',IsZip h' z TI TO (rawInt s.heap.objs.size)->IsPair h' TO x y->st1 (k+1) h'->st2 (k+1) h'->IsPair h' s.heap.objs.size x y->h'.objs.size=s.heap.objs.size+1->(∀c o,c≠z->c≠TO->c≠i1->c≠i2->s.heap.get? c=some o->h'.get? c=some o)->Q (.ref s.heap.objs.size) { s with heap:=h' }) :
  wpAny (model P w) A (Builtin.«zip.__next__» ⟨[.ref z],[]⟩) (λfin s'=>∃v,fin=.done (.ret v)/\Q v s') E s:=by
 show wpAny _ _ (field (.ref z) 2>>=λu=>_) _ _ _
 refine SX (Uz hz rfl (x:=.bool false) rfl (show _ from ?_))
 show wpAny _ _ (field (.ref z) 3>>=λu=>_) _ _ _
 refine SX (Uz hz rfl (x:=.ref TI) rfl (show _ from ?_))
 refine SX (Vs hTI rfl (show _ from ?_))
 show wpAny _ _ (Builtin.SmallTypes.ownedTupleIsFree (.ref z)>>=λu=>_) _ _ _
 refine SX ?_;unfold Builtin.SmallTypes.ownedTupleIsFree;refine SX (Uz hz rfl (x:=.none) rfl (S6 (show _ from ?_)))
 simp only[if_true];refine SX (Vp (show _ from ?_))
 refine SX (Uz hz rfl (x:=.ref TO) rfl (show _ from ?_))
 refine SX (wpAny_setField_rec hz (by simp) λg1 hz1 e1=>?_)
 replace hz1:IsZip g1 z TI TO .ellipsis:=hz1;have n1:=(S1.obj _ _ h1).2;refine SX ?_;simp only[List.zipIdx_cons,List.zipIdx_nil,List.forIn_cons,List.forIn_nil];refine SX (SX (wpAny_onRaise (show _ from ?_)))
 show wpAny _ _ (Builtin.SmallTypes.nextOf (.ref i1)>>=λu=>_) _ _ _
 refine SX (S1.item _ k _ x _ _ (S1.keep _ _ _ h1 (λo q=>e1.extBut _ _ D.i1z q) λo q=>e1.extBut _ _ D.l1z q) hx λg2 h12 e2=>S6 ?_)
 have hTO2:IsPair g2 TO a b:=e2.extBut _ _ D.TOi1 (e1.extBut _ _ D.TOz hTO);refine SX (Vs hTO2 rfl (show _ from ?_))
 refine SX (wpAny_updateSeq_pair hTO2 λg3 hTO3 e3=>?_)
 replace hTO3:IsPair g3 TO x b:=hTO3;refine SX (wpAny_letGo (S6 (show _ from ?_)))
 refine SX (SX (wpAny_onRaise (show _ from ?_)))
 show wpAny _ _ (Builtin.SmallTypes.nextOf (.ref i2)>>=λu=>_) _ _ _
 refine SX (S2.item _ k _ y _ _ (S2.keep _ _ _ h2 (λo q=>e3.extBut _ _ D.TOi2.symm (e2.extBut _ _ D.i12.symm (e1.extBut _ _ D.i2z q))) λo q=>e3.extBut _ _ D.l2TO (e2.extBut _ _ D.l2i1 (e1.extBut _ _ D.l2z q))) hy λg4 h24 e4=>S6 ?_)
 have hTO4:IsPair g4 TO x b:=e4.extBut _ _ D.TOi2 hTO3;refine SX (Vs hTO4 rfl (show _ from ?_))
 refine SX (wpAny_updateSeq_pair hTO4 λg5 hTO5 e5=>?_)
 replace hTO5:IsPair g5 TO x y:=hTO5;refine SX (wpAny_letGo (S6 (S6 (show _ from ?_))))
 refine SX (Vs hTO5 rfl (show _ from ?_))
 refine SX (wpAny_newTuple (show _ from ?_))
 have hsz:g5.objs.size=s.heap.objs.size:=by rw[e5.1,e4.1,e3.1,e2.1,e1.1]
 have hz5:IsZip g5 z TI TO .ellipsis:=e5.extBut _ _ D.TOz.symm (e4.extBut _ _ D.i2z.symm (e3.extBut _ _ D.TOz.symm (e2.extBut _ _ D.i1z.symm hz1)));have hk5:∀c o,c≠z->c≠TO->c≠i1->c≠i2->s.heap.get? c=some o->g5.get? c=some o:=λc o c1 c2 c3 c4 q=>e5.extBut _ _ c2 (e4.extBut _ _ c4 (e3.extBut _ _ c2 (e2.extBut _ _ c3 (e1.extBut _ _ c1 q))))
 have h15:st1 (k+1) g5:=S1.keep _ _ _ h12 (λo q=>e5.extBut _ _ D.TOi1.symm (e4.extBut _ _ D.i12 (e3.extBut _ _ D.TOi1.symm q))) λo q=>e5.extBut _ _ D.l1TO (e4.extBut _ _ D.l1i2 (e3.extBut _ _ D.l1TO q))
 have h25:st2 (k+1) g5:=S2.keep _ _ _ h24 (λo q=>e5.extBut _ _ D.TOi2.symm q) λo q=>e5.extBut _ _ D.l2TO q
 have hzlt:z<g5.objs.size:=Te hz5;show wpAny _ _ (Builtin.SmallTypes.ownedTupleHandOut (.ref z) (.ref g5.objs.size)>>=λu=>_) _ _ _
 refine SX ?_;unfold Builtin.SmallTypes.ownedTupleHandOut;have hz6:IsZip (g5.push { cls:=.type "tuple",data:=.seq #[x,y] }) z TI TO .ellipsis:=S5 _ hz5;refine SX (wpAny_setField_rec hz6 (by simp) λg7 hz7 e7=>?_)
 replace hz7:IsZip g7 z TI TO (rawInt g5.objs.size):=hz7;refine wpAny_setField_rec hz7 (by simp) λg8 hz8 e8=>?_
 replace hz8:IsZip g8 z TI TO (rawInt g5.objs.size):=hz8;have up:∀c o,c≠z->g5.get? c=some o->g8.get? c=some o:=λc o c1 q=>e8.extBut _ _ c1 (e7.extBut _ _ c1 (S5 _ q))
 have hT8:IsPair g8 g5.objs.size x y:=e8.extBut _ _ (Wb hzlt) (e7.extBut _ _ (Wb hzlt) (Tg _ rfl));have sz8:g8.objs.size=g5.objs.size+1:=by rw[e8.1,e7.1,T5]
 rw[hsz]at hz8 hT8 sz8;refine S6 ⟨_,rfl,?_⟩;show Q (.ref g5.objs.size) _;rw[hsz];exact hQ g8 hz8 (up _ _ D.TOz hTO5) (S1.keep _ _ _ h15 (λo q=>up _ o D.i1z q) λo q=>up _ o D.l1z q) (S2.keep _ _ _ h25 (λo q=>up _ o D.i2z q) λo q=>up _ o D.l2z q) hT8 sz8 λc o c1 c2 c3 c4 q=>up c o c1 (hk5 c o c1 c2 c3 c4 q)
def Jv(hh:A.handled=none)(D:ZipApart z TI TO i1 i2 l1 l2)(S1:SubIt P w i1 l1 xs st1)(S2:SubIt P w i2 l2 ys st2)
  (hz:IsZip s.heap z TI TO .none) (hTI:IsPair s.heap TI (.ref i1) (.ref i2)) (hTO:IsPair s.heap TO a b) (h1:st1 k s.heap) (h2:st2 k s.heap) (hend:xs[k]?=none\/ys[k]?=none)
  (hE:∀h' e,(∀c o,c≠z->c≠TO->c≠i1->c≠i2->s.heap.get? c=some o->h'.get? c=some o)->(∃o,h'.get? e=some o/\o.cls=.type "StopIteration")->E (.ref e) { s with heap:=h' }) :
  wpAny (model P w) A (Builtin.«zip.__next__» ⟨[.ref z],[]⟩) Q E s:=by
 show wpAny _ _ (field (.ref z) 2>>=λy=>_) _ _ _
 refine SX (Uz hz rfl (x:=.bool false) rfl (show _ from ?_))
 show wpAny _ _ (field (.ref z) 3>>=λy=>_) _ _ _
 refine SX (Uz hz rfl (x:=.ref TI) rfl (show _ from ?_))
 refine SX (Vs hTI rfl (show _ from ?_))
 show wpAny _ _ (Builtin.SmallTypes.ownedTupleIsFree (.ref z)>>=λy=>_) _ _ _
 refine SX ?_;unfold Builtin.SmallTypes.ownedTupleIsFree;refine SX (Uz hz rfl (x:=.none) rfl (S6 (show _ from ?_)))
 simp only[if_true];refine SX (Vp (show _ from ?_))
 refine SX (Uz hz rfl (x:=.ref TO) rfl (show _ from ?_))
 refine SX (wpAny_setField_rec hz (by simp) λg1 hz1 e1=>?_)
 replace hz1:IsZip g1 z TI TO .ellipsis:=hz1;refine SX ?_;simp only[List.zipIdx_cons,List.zipIdx_nil,List.forIn_cons,List.forIn_nil];refine SX (SX (wpAny_onRaise (show _ from ?_)))
 show wpAny _ _ (Builtin.SmallTypes.nextOf (.ref i1)>>=λy=>_) _ _ _
 have h11:st1 k g1:=S1.keep _ _ _ h1 (λo q=>e1.extBut _ _ D.i1z q) λo q=>e1.extBut _ _ D.l1z q
 cases hx:xs[k]? with
 |none=>
   refine SX (S1.done _ k _ _ _ hh h11 hx λg2 e e2 he=>?_)
   obtain⟨oe,hoe,hce⟩:=he;have hz2:IsZip g2 z TI TO .ellipsis:=e2 _ _ D.i1z.symm hz1;have hez:e≠z:=λq=>by subst q;rw[hz2]at hoe;cases hoe;simp at hce
   refine wpAny_setField_rec hz2 (by simp) λg3 y e3=>hE g3 e (λc o c1 y c3 y q=>e3.extBut _ _ c1 (e2 _ _ c3 (e1.extBut _ _ c1 q))) ⟨oe,e3.extBut _ _ hez hoe,hce⟩
 |some x=>
   have hy:ys[k]?=none:=by rcases hend with q | q;rw[hx]at q;cases q;exact q
   refine SX (S1.item _ k _ x _ _ h11 hx λg2 h12 e2=>S6 ?_)
   have hTO2:IsPair g2 TO a b:=e2.extBut _ _ D.TOi1 (e1.extBut _ _ D.TOz hTO);refine SX (Vs hTO2 rfl (show _ from ?_))
   refine SX (wpAny_updateSeq_pair hTO2 λg3 hTO3 e3=>?_)
   refine SX (wpAny_letGo (S6 (show _ from ?_)))
   refine SX (SX (wpAny_onRaise (show _ from ?_)))
   show wpAny _ _ (Builtin.SmallTypes.nextOf (.ref i2)>>=λy=>_) _ _ _
   refine SX (S2.done _ k _ _ _ hh (S2.keep _ _ _ h2 (λo q=>e3.extBut _ _ D.TOi2.symm (e2.extBut _ _ D.i12.symm (e1.extBut _ _ D.i2z q))) λo q=>e3.extBut _ _ D.l2TO (e2.extBut _ _ D.l2i1 (e1.extBut _ _ D.l2z q))) hy λg4 e e4 he=>?_)
   obtain⟨oe,hoe,hce⟩:=he;have hz4:IsZip g4 z TI TO .ellipsis:=e4 _ _ D.i2z.symm (e3.extBut _ _ D.TOz.symm (e2.extBut _ _ D.i1z.symm hz1));have hez:e≠z:=λq=>by subst q;rw[hz4]at hoe;cases hoe;simp at hce
   refine wpAny_setField_rec hz4 (by simp) λg5 y e5=>hE g5 e (λc o c1 c2 c3 c4 q=>e5.extBut _ _ c1 (e4 _ _ c4 (e3.extBut _ _ c2 (e2.extBut _ _ c3 (e1.extBut _ _ c1 q))))) ⟨oe,e5.extBut _ _ hez hoe,hce⟩
end
abbrev qT(h:Heap)(T1:String)(l1:Addr):Heap:=h.push { cls:=.type T1,data:=.fields #[.ref l1,.int 0 0] }
abbrev JX(h:Heap)(T1 T2:String)(l1 l2:Addr):Heap:=(qT h T1 l1).push { cls:=.type T2,data:=.fields #[.ref l2,.int 0 0] }
abbrev JZ(h:Heap)(T1 T2:String)(l1 l2:Addr):Heap:=(JX h T1 T2 l1 l2).push { cls:=.type "tuple",data:=.seq #[.ref h.objs.size,.ref (qT h T1 l1).objs.size] }
abbrev tu(h:Heap)(T1 T2:String)(l1 l2:Addr):Heap:=(JZ h T1 T2 l1 l2).push { cls:=.type "tuple",data:=.seq #[.none,.none] }
abbrev oE(h:Heap)(T1 T2:String)(l1 l2:Addr):Heap:=(tu h T1 T2 l1 l2).push { cls:=.type "zip",data:=.fields #[.none,.bool false,.bool false,.ref (JX h T1 T2 l1 l2).objs.size,.ref (JZ h T1 T2 l1 l2).objs.size] }
def zg(l1 l2:Addr)(xs ys:Array Value):
  Meets (Builtin.«zip.__new__» ⟨[.type "zip",.ref l1,.ref l2],[]⟩) (λz R s=>IsTup s.heap l1 xs/\IsTup s.heap l2 ys/\R (.ok (.ret (.ref (tu s.heap "tuple_iterator" "tuple_iterator" l1 l2).objs.size))) { s with heap:=oE s.heap "tuple_iterator" "tuple_iterator" l1 l2 }):=
 .of_wp λprog w A R s h=>by
  obtain⟨hp,gn,dr,tk,os⟩:=s;obtain⟨k1,k2,h⟩:=h;have hsub:=sub_zip;have K1:IsTup (Shared.heap ⟨hp,gn,dr,tk,os⟩) l1 xs:=k1;have K2:IsTup (Shared.heap ⟨hp.push { cls:=.type "tuple_iterator",data:=.fields #[.ref l1,.int 0 0] },gn,dr,tk,os⟩) l2 ys:=k2.push _
  wp_walk using Yk K1,Yk K2
  exact⟨_,rfl,h⟩
def zc(l1 l2:Addr)(xs ys:Array Value):
  Meets (Builtin.«zip.__new__» ⟨[.type "zip",.ref l1,.ref l2],[]⟩) (λz R s=>s.heap.IsList l1 xs/\IsTup s.heap l2 ys/\R (.ok (.ret (.ref (tu s.heap "list_iterator" "tuple_iterator" l1 l2).objs.size))) { s with heap:=oE s.heap "list_iterator" "tuple_iterator" l1 l2 }):=
 .of_wp λprog w A R s h=>by
  obtain⟨hp,gn,dr,tk,os⟩:=s;obtain⟨k1,k2,h⟩:=h;have hsub:=sub_zip;have K1:Heap.IsList (Shared.heap ⟨hp,gn,dr,tk,os⟩) l1 xs:=k1;have K2:IsTup (Shared.heap ⟨hp.push { cls:=.type "list_iterator",data:=.fields #[.ref l1,.int 0 0] },gn,dr,tk,os⟩) l2 ys:=k2.push _
  wp_walk using VM K1,Yk K2
  exact⟨_,rfl,h⟩
def zf(l1 l2:Addr)(xs ys:Array Value):
  Meets (Builtin.«zip.__new__» ⟨[.type "zip",.ref l1,.ref l2],[]⟩) (λz R s=>IsTup s.heap l1 xs/\s.heap.IsList l2 ys/\R (.ok (.ret (.ref (tu s.heap "tuple_iterator" "list_iterator" l1 l2).objs.size))) { s with heap:=oE s.heap "tuple_iterator" "list_iterator" l1 l2 }):=
 .of_wp λprog w A R s h=>by
  obtain⟨hp,gn,dr,tk,os⟩:=s;obtain⟨k1,k2,h⟩:=h;have hsub:=sub_zip;have K1:IsTup (Shared.heap ⟨hp,gn,dr,tk,os⟩) l1 xs:=k1;have K2:Heap.IsList (Shared.heap ⟨hp.push { cls:=.type "tuple_iterator",data:=.fields #[.ref l1,.int 0 0] },gn,dr,tk,os⟩) l2 ys:=Heap.IsList.push k2 _
  wp_walk using Yk K1,VM K2
  exact⟨_,rfl,h⟩
def zb(l1 l2:Addr)(xs ys:Array Value):
  Meets (Builtin.«zip.__new__» ⟨[.type "zip",.ref l1,.ref l2],[]⟩) (λz R s=>s.heap.IsList l1 xs/\s.heap.IsList l2 ys/\R (.ok (.ret (.ref (tu s.heap "list_iterator" "list_iterator" l1 l2).objs.size))) { s with heap:=oE s.heap "list_iterator" "list_iterator" l1 l2 }):=
 .of_wp λprog w A R s h=>by
  obtain⟨hp,gn,dr,tk,os⟩:=s;obtain⟨k1,k2,h⟩:=h;have hsub:=sub_zip;have K1:Heap.IsList (Shared.heap ⟨hp,gn,dr,tk,os⟩) l1 xs:=k1;have K2:Heap.IsList (Shared.heap ⟨hp.push { cls:=.type "list_iterator",data:=.fields #[.ref l1,.int 0 0] },gn,dr,tk,os⟩) l2 ys:=Heap.IsList.push k2 _
  wp_walk using VM K1,VM K2
  exact⟨_,rfl,h⟩
def f9(b:Bool)(h:Heap)(l:Addr)(xs:Array Value):Prop:=if b then IsTup h l xs else h.IsList l xs
def qU(b:Bool)(i l:Addr)(xs:Array Value)(k:Nat)(h:Heap):Prop:=(if b then IsTupIter h i l k else h.IsListIter i l k)/\f9 b h l xs
def jQ(b:Bool)(hne:l≠i)(its:Array Value):SubIt P w i l its (qU b i l its):=by
 cases b with
 |true=>exact Ma hne its
 |false=>exact LR hne its
def f9.lt(q:f9 b h l xs):l<h.objs.size:=by
 cases b with
 |true=>obtain⟨o,e,_⟩:=(show IsTup h l xs from q);exact Te e
 |false=>obtain⟨o,e,_⟩:=(show h.IsList l xs from q);exact Te e
def f9.keep(q:f9 b h l xs)(k:∀o,h.get? l=some o->h'.get? l=some o):f9 b h' l xs:=by
 cases b with
 |true=>obtain⟨o,e,r⟩:=(show IsTup h l xs from q);exact⟨o,k _ e,r⟩
 |false=>obtain⟨o,e,r⟩:=(show h.IsList l xs from q);exact⟨o,k _ e,r⟩
section
variable{P:Program}{w:World}{A:Around}{E:Value->Shared->Prop}{s:Shared}{l1 l2:Addr}{xs ys:Array Value}
def Fj(k1:f9 b1 s.heap l1 xs)(k2:f9 b2 s.heap l2 ys)
  (h:∀h',IsZip h' (s.heap.objs.size+4) (s.heap.objs.size+2) (s.heap.objs.size+3) .none->IsPair h' (s.heap.objs.size+2) (.ref s.heap.objs.size) (.ref (s.heap.objs.size+1))->IsPair h' (s.heap.objs.size+3) .none .none->
    qU b1 s.heap.objs.size l1 xs 0 h'->qU b2 (s.heap.objs.size+1) l2 ys 0 h'->h'.objs.size=s.heap.objs.size+5->(∀c o,s.heap.get? c=some o->h'.get? c=some o)->Q (.ref (s.heap.objs.size+4)) { s with heap:=h' }) :
  wpAny (model P w) A (call (.type "zip") [.ref l1,.ref l2]) Q E s:=by
 have fin:∀T1 T2,(∀h' k,h'.get? s.heap.objs.size=some { cls:=.type T1,data:=.fields #[.ref l1,.int 0 0] }->f9 b1 h' l1 xs->k=0->qU b1 s.heap.objs.size l1 xs k h')->
   (∀h' k,h'.get? (s.heap.objs.size+1)=some { cls:=.type T2,data:=.fields #[.ref l2,.int 0 0] }->f9 b2 h' l2 ys->k=0->qU b2 (s.heap.objs.size+1) l2 ys k h')->
   s.TypeIs (.ref (tu s.heap T1 T2 l1 l2).objs.size) "zip"\/True->Q (.ref (tu s.heap T1 T2 l1 l2).objs.size) { s with heap:=oE s.heap T1 T2 l1 l2 }/\({ s with heap:=oE s.heap T1 T2 l1 l2 }:Shared).TypeIs (.ref (tu s.heap T1 T2 l1 l2).objs.size) "zip":=by
  intro T1 T2 f1 f2 _;have z1:(qT s.heap T1 l1).objs.size=s.heap.objs.size+1:=T5 ..
  have z2:(JX s.heap T1 T2 l1 l2).objs.size=s.heap.objs.size+2:=by rw[T5,z1]
  have z3:(JZ s.heap T1 T2 l1 l2).objs.size=s.heap.objs.size+3:=by rw[T5,z2]
  have z4:(tu s.heap T1 T2 l1 l2).objs.size=s.heap.objs.size+4:=by rw[T5,z3]
  have z5:(oE s.heap T1 T2 l1 l2).objs.size=s.heap.objs.size+5:=by rw[T5,z4]
  have up:∀c o,s.heap.get? c=some o->(oE s.heap T1 T2 l1 l2).get? c=some o:=λc o q=>S5 _ (S5 _ (S5 _ (S5 _ (S5 _ q))))
  have q5:(oE s.heap T1 T2 l1 l2).get? (tu s.heap T1 T2 l1 l2).objs.size=some _:=Tg _ rfl;have q4:(oE s.heap T1 T2 l1 l2).get? (JZ s.heap T1 T2 l1 l2).objs.size=some _:=S5 _ (Tg _ rfl);have q3:(oE s.heap T1 T2 l1 l2).get? (JX s.heap T1 T2 l1 l2).objs.size=some _:=S5 _ (S5 _ (Tg _ rfl));have q2:(oE s.heap T1 T2 l1 l2).get? (qT s.heap T1 l1).objs.size=some _:=S5 _ (S5 _ (S5 _ (Tg _ rfl)));have q1:(oE s.heap T1 T2 l1 l2).get? s.heap.objs.size=some _:=S5 _ (S5 _ (S5 _ (S5 _ (Tg _ rfl))));rw[z2,z3,z4]at q5;rw[z1,z2]at q3;rw[z3]at q4;rw[z1]at q2;rw[z4];exact⟨h _ q5 q3 q4 (f1 _ 0 q1 (k1.keep λo q=>up _ _ q) rfl) (f2 _ 0 q2 (k2.keep λo q=>up _ _ q) rfl) z5 up,_,q5,rfl⟩
 cases b1 with
 | true=>cases b2 with
   |true=>
     refine Yc F.called_zip (by decide) (X3 _ _) (Ye _ _) (λobj=>W4 obj _ _) Yg (zg l1 l2 xs ys) ⟨k1,k2,?_⟩
     obtain⟨a1,a2⟩:=fin "tuple_iterator" "tuple_iterator" (λh' k q q' e=>by subst e;exact⟨⟨_,q,rfl,rfl⟩,q'⟩) (λh' k q q' e=>by subst e;exact⟨⟨_,q,rfl,rfl⟩,q'⟩) (.inr trivial)
     exact⟨a2,a1⟩
   |false=>
     refine Yc F.called_zip (by decide) (X3 _ _) (Ye _ _) (λobj=>W4 obj _ _) Yg (zf l1 l2 xs ys) ⟨k1,k2,?_⟩
     obtain⟨a1,a2⟩:=fin "tuple_iterator" "list_iterator" (λh' k q q' e=>by subst e;exact⟨⟨_,q,rfl,rfl⟩,q'⟩) (λh' k q q' e=>by subst e;exact⟨⟨_,q,rfl,rfl⟩,q'⟩) (.inr trivial)
     exact⟨a2,a1⟩
 | false=>cases b2 with
   |true=>
     refine Yc F.called_zip (by decide) (X3 _ _) (Ye _ _) (λobj=>W4 obj _ _) Yg (zc l1 l2 xs ys) ⟨k1,k2,?_⟩
     obtain⟨a1,a2⟩:=fin "list_iterator" "tuple_iterator" (λh' k q q' e=>by subst e;exact⟨⟨_,q,rfl,rfl⟩,q'⟩) (λh' k q q' e=>by subst e;exact⟨⟨_,q,rfl,rfl⟩,q'⟩) (.inr trivial)
     exact⟨a2,a1⟩
   |false=>
     refine Yc F.called_zip (by decide) (X3 _ _) (Ye _ _) (λobj=>W4 obj _ _) Yg (zb l1 l2 xs ys) ⟨k1,k2,?_⟩
     obtain⟨a1,a2⟩:=fin "list_iterator" "list_iterator" (λh' k q q' e=>by subst e;exact⟨⟨_,q,rfl,rfl⟩,q'⟩) (λh' k q q' e=>by subst e;exact⟨⟨_,q,rfl,rfl⟩,q'⟩) (.inr trivial)
     exact⟨a2,a1⟩
end
section
variable{X:Cx}{YB:List (Addr×Obj)}{σ:St}{H:Hp}{s:Shared}{h':Heap}
def Inv.turnedL{t':Nat}{ch:List Addr}(I:Inv X YB σ H s)(k:∀b o,b∉ch->s.heap.get? b=some o->h'.get? b=some o)(hf:∀b∈ch,FpOk X YB H b)(hL:∀b∈ch,b≠X.env.locals):Inv X YB σ H { s with heap:=h',toks:=t' }:=by
 have nit:∀b u,H b=some u->b∉ch:=λb u e z=>by have:=(hf b z).1;rw[e]at this;cases this
 refine I.step (g':=s.gens) (d':=s.drawn) (ch:=ch) (λb hb=>?_) (λb o y y hc e y=>k b o hc e) (λb o y y hc e y=>⟨o.slots,k b o hc e⟩) (λy y y y n=>n)
  (λb o hc e=>⟨o,k b o hc e⟩) (λy y e=>e) (λy y y e=>e) (λb ps e=>⟨#[],by rw[e];simp⟩) (λm hm=>?_) (λb u e=>?_) I.bare
 ·obtain⟨_,f1,_,f3,f4,f5⟩:=hf b hb;exact⟨f3,f1,f4,f5⟩
 ·obtain⟨o,es,ep,ho,r⟩:=hm;exact⟨o,es,ep,k _ o (λz=>(hL _ z) rfl) ho,r⟩
 ·refine (I.hok b u e).stay (λc v hc q=>k c v ?_ q) (λy q=>q) λy y q=>q
  rcases hc with z | z
  ·rw[z];exact nit b u e
  ·exact nit c _ z
def Inv.turnedLay{t':Nat}{ch:List Addr}{p:Addr}{o:HO}(I:Inv X YB σ H s)(k:∀ b o,b∉ch->s.heap.get? b=some o->h'.get? b=some o)(hf:∀ b∈ch,FpOk X YB H b)(hp:s.heap.objs.size<=p)(new:ObjOk X.prog X.w (upd H p o) h' p o):Inv X YB σ (upd H p o) { s with heap:=h',toks:=t' }:=by
 have nit:∀b u,H b=some u->b∉ch:=λb u e z=>by have:=(hf b z).1;rw[e]at this;cases this
 have hn:H p=none:=I.hok.fresh hp;have tr:∀b u,H b=some u->upd H p o b=some u:=λb u e=>by rw[upd_ne (ne_of_none e hn)];exact e
 refine I.step (g':=s.gens) (d':=s.drawn) (ch:=ch) (λb hb=>?_) (λb o x x hc e x=>k b o hc e) (λb o x x hc e x=>⟨o.slots,k b o hc e⟩) (λb u x e n=>by rw[upd_ne (Tj (Tr (Te e) hp))];exact n)
  (λb o hc e=>⟨o,k b o hc e⟩) (λb xs e=>tr b _ e) (λb x x e=>tr b _ e) (λb ps e=>⟨#[],by rw[tr b _ e];simp⟩) (λm hm=>?_) (λb u e=>?_) I.bare
 ·obtain⟨_,f1,_,f3,f4,f5⟩:=hf b hb;exact⟨f3,f1,f4,f5⟩
 ·obtain⟨o,es,ep,ho,r⟩:=hm;exact⟨o,es,ep,k _ o (λz=>(hf _ z).2.1 rfl) ho,r⟩
 ·by_cases z:b=p
  ·subst z;rw[upd_same]at e;cases e;exact new
  ·rw[upd_ne z]at e;refine (I.hok b u e).stay (λc v hc q=>k c v ?_ q) (λc q=>tr c _ q) (λc xs q=>tr c _ q) λc o q=>tr c _ q
   rcases hc with y | y
   ·rw[y];exact nit b u e
   ·exact nit c _ y
end
def m6(b:Bool)(K:PySem.W.Frag)(H:Hp)(l:Addr)(xs:List V):Prop:=if b then SqT K H l xs else SqL K H l xs
def Inv.seqS{X:Cx}{YB:List (Addr×Obj)}{σ:St}{H:Hp}{s:Shared}{b:Bool}{l:Addr}{xs:List V}(I:Inv X YB σ H s)(h:m6 b X.K H l xs):∃its:List Value,Vals xs its/\f9 b s.heap l its.toArray/\xs.length<=sizeLine:=by
 cases b with
 |true=>obtain⟨its,r,p,z⟩:=I.tuple (show SqT X.K H l xs from h);exact⟨its,r,p,z⟩
 |false=>obtain⟨its,r,p,z⟩:=I.list (show SqL X.K H l xs from h);exact⟨its,r,p.isList,z⟩
def Inv.seqS_inj{X:Cx}{YB:List (Addr×Obj)}{σ:St}{H:Hp}{s:Shared}{b:Bool}{l:Addr}{xs ys:List V}(I:Inv X YB σ H s)(h:m6 b X.K H l xs)(q:m6 b X.K H l ys):xs=ys:=by
 cases b with
 |true=>exact I.tuple_inj (show SqT X.K H l xs from h) q
 |false=>exact I.list_inj (show SqL X.K H l xs from h) q
def eY(b:Bool)(i l:Addr)(k:Nat)(h:Heap):Prop:=if b then IsTupIter h i l k else h.IsListIter i l k
def eY.keep{b:Bool}{i l:Addr}{k:Nat}{h h':Heap}(q:eY b i l k h)(kk:∀o,h.get? i=some o->h'.get? i=some o):eY b i l k h':=by
 cases b with
 |true=>obtain⟨o,e,r⟩:=(show IsTupIter h i l k from q);exact⟨o,kk _ e,r⟩
 |false=>obtain⟨o,e,r⟩:=(show h.IsListIter i l k from q);exact⟨o,kk _ e,r⟩
def eY.obj{b:Bool}{i l:Addr}{k:Nat}{h:Heap}(q:eY b i l k h):∃o,h.get? i=some o/\∀v,o.data≠.cell v:=by
 cases b with
 |true=>obtain⟨o,e,_,d⟩:=(show IsTupIter h i l k from q);exact⟨o,e,λv z=>by rw[d]at z;cases z⟩
 |false=>obtain⟨o,e,_,d⟩:=(show h.IsListIter i l k from q);exact⟨o,e,λv z=>by rw[d]at z;cases z⟩
def QQ(K:PySem.W.Frag)(b1 b2:Bool)(l1 l2:Addr):It:=
 ⟨fun i H=>∃xs ys x y,m6 b1 K H l1 xs∧m6 b2 K H l2 ys∧xs[i]?=some x∧ys[i]?=some y,
  λi H v H'=>∃p,H p=none/\v=.ref p/\∀xs ys,m6 b1 K H l1 xs->m6 b2 K H l2 ys->∃x y,xs[i]?=some x/\ys[i]?=some y/\H'=upd H p (.tup [x,y]),
  λi H=>∃xs ys,m6 b1 K H l1 xs/\m6 b2 K H l2 ys/\(xs[i]?=none\/ys[i]?=none)⟩
def sO{P:Program}{w:World}{A:Around}{E:Value->Shared->Prop}{s:Shared}{z TI TO:Addr}{f0:Value}{Q:Option Value->Shared->Prop}(hz:IsZip s.heap z TI TO f0)
  (h:wpAny (model P w) A.in1 (Builtin.«zip.__next__» ⟨[.ref z],[]⟩) (λfin s'=>∃v,fin=.done (.ret v)/\Q (some v) s') (λe s'=>∃o ea,e=.ref ea/\s'.heap.get? ea=some o/\o.cls=.type "StopIteration"/\Q none s') s):wpAny (model P w) A (pyNext (.ref z)) Q E s:=by
 have hT:s.TypeIs (.ref z) "zip":=⟨_,hz,rfl⟩;unfold pyNext;refine SX (VP (Ul (name:=Str.ofString "__next__") hT F.slot_zip_next (Uk F.slot_zip_next hT F.entry_zip_next (Tz h (λfin s' q=>?_) λe s' q=>?_) (F.args_zip_next_1 _))))
 ·obtain⟨v,rfl,q⟩:=q;exact⟨v,rfl,S6 q⟩
 ·obtain⟨o,ea,rfl,ho,hc,q⟩:=q;exact SX (X5 (T := "StopIteration") (b:=true) ⟨o,ho,hc⟩ isSubtype_stop (S6 q))
def Js{P:Program}{w:World}{K:PySem.W.Frag}{elts:List Expr}{x1}{tp:Pos}{b1 b2:Bool}{z TI TO i1 i2 l1 l2:Addr}(D:ZipApart z TI TO i1 i2 l1 l2):
  Turn P w K (.Tuple elts x1 tp) (QQ K b1 b2 l1 l2) [z,TI,TO,i1,i2] z (λi h=>IsZip h z TI TO .none/\IsPair h TI (.ref i1) (.ref i2)/\(∃a b,IsPair h TO a b)/\eY b1 i1 l1 i h/\eY b2 i2 l2 i h) where
 mem:=by simp
 obj:=λi h st b hb=>by
  obtain⟨hz,hTI,⟨a,c,hTO⟩,h1,h2⟩:=st;simp only[List.mem_cons,List.mem_nil_iff,or_false]at hb;rcases hb with rfl | rfl | rfl | rfl | rfl
  ·exact⟨_,hz,λv q=>by cases q⟩
  ·exact⟨_,hTI,λv q=>by cases q⟩
  ·exact⟨_,hTO,λv q=>by cases q⟩
  ·exact h1.obj
  ·exact h2.obj
 keep:=λi h h' st k=>by obtain⟨hz,hTI,⟨a,c,hTO⟩,h1,h2⟩:=st;exact⟨k z (by simp) _ hz,k TI (by simp) _ hTI,⟨a,c,k TO (by simp) _ hTO⟩,h1.keep λo q=>k i1 (by simp) o q,h2.keep λo q=>k i2 (by simp) o q⟩
 item:=by
  intro X hP hw hK hc i YB s σ H E I hf st hg;subst hP hw hK;obtain⟨hz,hTI,⟨a,c,hTO⟩,h1,h2⟩:=st;obtain⟨xs,ys,x,y,s1,s2,hx,hy⟩:=hg;obtain⟨its1,r1,q1,_⟩:=I.seqS s1;obtain⟨its2,r2,q2,_⟩:=I.seqS s2;obtain⟨u1,e1,ru1⟩:=r1.get hx;obtain⟨u2,e2,ru2⟩:=r2.get hy;refine sO hz (Tz (Hz D (jQ b1 D.l1i1 its1.toArray) (jQ b2 D.l2i2 its2.toArray) hz hTI hTO ⟨h1,q1⟩ ⟨h2,q2⟩ (by simpa using e1) (by simpa using e2) (Q:=λv s'=>∃h',v=.ref s.heap.objs.size/\s'={ s with heap:=h' }/\IsZip h' z TI TO (rawInt s.heap.objs.size)/\IsPair h' TO u1 u2/\eY b1 i1 l1 (i+1) h'/\eY b2 i2 l2 (i+1) h'/\IsPair h' s.heap.objs.size u1 u2/\(∀c o,c≠z->c≠TO->c≠i1->c≠i2->s.heap.get? c=some o->h'.get? c=some o)) (E:=λu u=>False)
   λh' a1 a2 a3 a4 a5 a6 a7=>⟨h',rfl,rfl,a1,a2,a3.1,a4.1,a5,a7⟩) (λfin s' q=>?_) λu u q=>q.elim)
  obtain⟨v,rfl,h',rfl,rfl,a1,a2,a3,a4,a5,a7⟩:=q;refine⟨_,rfl,_,rfl,wpAny_letOwnedTupleGo_zip a1 λh2' hz' hs'=>?_⟩
  have lt:z<s.heap.objs.size:=Te hz;have kk:∀b o,b∉[z,TI,TO,i1,i2]->s.heap.get? b=some o->h2'.get? b=some o:=λb o hb q=>hs'.extBut _ _ (λe=>hb (by simp[e])) (a7 b o (λe=>hb (by simp[e])) (λe=>hb (by simp[e])) (λe=>hb (by simp[e])) (λe=>hb (by simp[e])) q)
  have fresh:H s.heap.objs.size=none:=I.hok.fresh (Td _);have I1:Inv X YB σ H { s with heap:=h2',toks:=s.toks }:=I.turnedL kk hf (λb hb=>(hf b hb).2.1)
  have pr:IsPair h2' s.heap.objs.size u1 u2:=hs'.extBut _ _ (Wb lt) a5;have nw:ObjOk X.prog X.w (upd H s.heap.objs.size (.tup [x,y])) h2' s.heap.objs.size (.tup [x,y]):=⟨by show 2<=sizeLine;decide,[u1,u2],.cons ru1 (.cons ru2 .nil),⟨_,pr,rfl,_,rfl⟩⟩
  have nfp:∀b∈[z,TI,TO,i1,i2],b≠s.heap.objs.size:=λb hb e=>by
   obtain⟨o,ho,_⟩:∃o,s.heap.get? b=some o/\True:=by
    simp only[List.mem_cons,List.mem_nil_iff,or_false]at hb;rcases hb with rfl | rfl | rfl | rfl | rfl
    ·exact⟨_,hz,trivial⟩
    ·exact⟨_,hTI,trivial⟩
    ·exact⟨_,hTO,trivial⟩
    ·obtain⟨o,q,_⟩:=h1.obj;exact⟨o,q,trivial⟩
    ·obtain⟨o,q,_⟩:=h2.obj;exact⟨o,q,trivial⟩
   exact absurd (Te ho) (by rw[e];exact Vj _)
  refine⟨.ref s.heap.objs.size,upd H s.heap.objs.size (.tup [x,y]),?_,rfl,⟨_,fresh,rfl,λxs' ys' q1' q2'=>⟨x,y,by rw[I.seqS_inj q1' s1];exact hx,by rw[I.seqS_inj q2' s2];exact hy,rfl⟩⟩,⟨hz',?_,⟨u1,u2,hs'.extBut _ _ D.TOz a2⟩,a3.keep λo q=>hs'.extBut _ _ D.i1z q,a4.keep λo q=>hs'.extBut _ _ D.i2z q⟩,λb hb=>by rw[upd_ne (nfp b hb)];exact (hf b hb).1⟩
  ·exact I.turnedLay (t':=s.toks) kk hf (Td _) nw
  ·exact hs'.extBut _ _ D.TIz (a7 _ _ D.TIz D.TITO D.TIi1 D.TIi2 hTI)
 done:=by
  intro X hP hw hK hc i YB s σ H E I hf st hg;subst hP hw hK;obtain⟨hz,hTI,⟨a,c,hTO⟩,h1,h2⟩:=st;obtain⟨xs,ys,s1,s2,hend⟩:=hg;obtain⟨its1,r1,q1,_⟩:=I.seqS s1;obtain⟨its2,r2,q2,_⟩:=I.seqS s2;have hend':its1.toArray[i]?=none\/its2.toArray[i]?=none:=hend.imp (λq=>by simpa using r1.none_of q) λq=>by simpa using r2.none_of q
  refine sO hz (Jv (show X.A.in1.handled=none from I.ok.hd hc) D (jQ b1 D.l1i1 its1.toArray) (jQ b2 D.l2i2 its2.toArray) hz hTI hTO ⟨h1,q1⟩ ⟨h2,q2⟩ hend' λh' e kk he=>?_)
  obtain⟨o,ho,hco⟩:=he;exact⟨o,e,rfl,ho,hco,rfl,I.turnedL (t':=s.toks) (λb o hb q=>kk b o (λe=>hb (by simp[e])) (λe=>hb (by simp[e])) (λe=>hb (by simp[e])) (λe=>hb (by simp[e])) q) hf (λb hb=>(hf b hb).2.1)⟩
 self:=λu u u u u st h=>wpAny_pyIter_zip st.1 h
set_option tactic.hygienic true in
def za(l:Addr)(xs:Array Value):
  Meets (Builtin.«enumerate.__new__» ⟨[.type "enumerate",.ref l],[]⟩) (λz R s=>IsTup s.heap l xs /\
   R (.ok (.ret (.ref (qT s.heap "tuple_iterator" l).objs.size))) { s with heap:=(qT s.heap "tuple_iterator" l).push { cls:=.type "enumerate",data:=.fields #[.none,.bool false,.ref s.heap.objs.size,rawInt 0,.none,.none] } }):=
 .of_wp λprog w A R s h=>by
  obtain⟨hp,gn,dr,tk,os⟩:=s;obtain⟨k1,h⟩:=h;have hsub:=sub_enumerate;have K1:IsTup (Shared.heap ⟨hp,gn,dr,tk,os⟩) l xs:=k1;obtain⟨ot,hot,r⟩:=id K1
  wp_walk using Xr hot
  refine wpAny_stack_any λsk=>S6 ?_
  split
  ·rename_i c _ _ _ _ _;cases (c==Value.type "enumerate")<;>(wp_walk using Xr hot,Yk K1;exact⟨_,rfl,h⟩)
  ·wp_walk using Xr hot,Yk K1
   exact⟨_,rfl,h⟩
section
variable{P:Program}{w:World}{A:Around}{E:Value->Shared->Prop}{s:Shared}{e it l:Addr}{xs:Array Value}{st:Nat->Heap->Prop}
def CW(k1:f9 b s.heap l xs)
  (h:∀h',IsEnum h' (s.heap.objs.size+1) s.heap.objs.size 0 .none->qU b s.heap.objs.size l xs 0 h'->h'.objs.size=s.heap.objs.size+2->(∀c o,s.heap.get? c=some o->h'.get? c=some o)->Q (.ref (s.heap.objs.size+1)) { s with heap:=h' }) :
  wpAny (model P w) A (call (.type "enumerate") [.ref l]) Q E s:=by
 cases b with
 |false=>exact call_enumerate_list (show s.heap.IsList l xs from k1) λh' a1 a2 a3 a4=>h h' a1 ⟨a2,k1.keep λo q=>a4 _ _ q⟩ a3 a4
 |true=>
   refine Yc F.called_enumerate (by decide) (F.typeCall_enumerate_1 _) (F.newCall_enumerate_1 _) (λobj=>F.args_object_init_2 obj _) F.entry_enumerate_new (za l xs) ⟨k1,?_⟩
   have z1:(qT s.heap "tuple_iterator" l).objs.size=s.heap.objs.size+1:=T5 ..
   have up:∀c o,s.heap.get? c=some o->((qT s.heap "tuple_iterator" l).push { cls:=.type "enumerate",data:=.fields #[.none,.bool false,.ref s.heap.objs.size,rawInt 0,.none,.none] }).get? c=some o:=λc o q=>S5 _ (S5 _ q)
   have q2:((qT s.heap "tuple_iterator" l).push { cls:=.type "enumerate",data:=.fields #[.none,.bool false,.ref s.heap.objs.size,rawInt 0,.none,.none] }).get? (qT s.heap "tuple_iterator" l).objs.size=some _:=Tg _ rfl;have q1:((qT s.heap "tuple_iterator" l).push { cls:=.type "enumerate",data:=.fields #[.none,.bool false,.ref s.heap.objs.size,rawInt 0,.none,.none] }).get? s.heap.objs.size=some _:=S5 _ (Tg _ rfl);show _/\_;rw[z1]at q2 ⊢
   exact⟨⟨_,q2,rfl⟩,h _ q2 ⟨⟨_,q1,rfl,rfl⟩,k1.keep λo q=>up _ _ q⟩ (by rw[T5,z1]) up⟩
def Dk{i:Nat}{Q:Value->Shared->Prop}(S:SubIt P w it l xs st)(ne:e≠it)(nl:l≠e)(he:IsEnum s.heap e it i old)(h0:st i s.heap)(hx:xs[i]?=some x)
  (hQ:∀h',IsEnumOut h' e it ((i:Int)+1) x s.heap.objs.size->st (i+1) h'->IsPair h' s.heap.objs.size (.int i s.toks) x->h'.objs.size=s.heap.objs.size+1->
    (∀c o,c≠e->c≠it->s.heap.get? c=some o->h'.get? c=some o)->Q (.ref s.heap.objs.size) { s with heap:=h',toks:=s.toks+1 }) :
  wpAny (model P w) A (Builtin.«enumerate.__next__» ⟨[.ref e],[]⟩) (λfin s'=>∃v,fin=.done (.ret v)/\Q v s') E s:=by
 obtain⟨hp,gn,dr,tk,os⟩:=s;show wpAny _ _ (field (.ref e) 2>>=λz=>_) _ _ _
 refine SX (Uz he rfl (x:=.ref it) rfl (show _ from ?_))
 refine SX (S.item _ i _ x _ _ h0 hx λg1 n1 e1=>(show _ from ?_))
 replace e1:Heap.SameBut it hp g1:=e1;have c1:IsEnum g1 e it i old:=e1.extBut _ _ ne he;show wpAny _ _ (field (.ref e) 3>>=λz=>_) _ _ ⟨g1,gn,dr,tk,os⟩
 refine SX (Uz c1 rfl (x:=rawInt i) rfl (show _ from ?_))
 show wpAny _ _ (field (.ref e) 4>>=λz=>_) _ _ ⟨g1,gn,dr,tk,os⟩
 refine SX (Uz c1 rfl (x:=.none) rfl (show _ from ?_))
 show wpAny _ _ (mkInt i>>=λz=>_) _ _ ⟨g1,gn,dr,tk,os⟩
 refine SX (wpAny_mkInt (show _ from ?_))
 show wpAny _ _ (setField (.ref e) 3 (rawInt ((i:Int)+1))>>=λz=>_) _ _ ⟨g1,gn,dr,tk+1,os⟩
 refine SX (wpAny_setField_rec c1 (by simp) λg2 c2 e2=>?_)
 replace e2:Heap.SameBut e g1 g2:=e2;replace c2:IsEnum g2 e it ((i:Int)+1) old:=c2;show wpAny _ _ (setField (.ref e) 4 .none>>=λz=>_) _ _ ⟨g2,gn,dr,tk+1,os⟩
 refine SX (wpAny_setField_rec c2 (by simp) λg3 c3 e3=>?_)
 replace e3:Heap.SameBut e g2 g3:=e3;replace c3:IsEnum g3 e it ((i:Int)+1) old:=c3;show wpAny _ _ (newTuple [.int i tk,x]>>=λz=>_) _ _ ⟨g3,gn,dr,tk+1,os⟩
 refine SX (wpAny_newTuple (show _ from ?_))
 have c4:IsEnum (g3.push { cls:=.type "tuple",data:=.seq #[.int i tk,x] }) e it ((i:Int)+1) old:=S5 _ c3;have sz:g3.objs.size=hp.objs.size:=by rw[e3.1,e2.1,e1.1]
 have el:e<hp.objs.size:=Te he;have t4:IsPair (g3.push { cls:=.type "tuple",data:=.seq #[.int i tk,x] }) hp.objs.size (.int i tk) x:=by rw[<-sz];exact Tg _ rfl
 have z4:(g3.push { cls:=.type "tuple",data:=.seq #[.int i tk,x] }).objs.size=hp.objs.size+1:=by rw[T5,sz]
 have k4:∀c o,c≠e->c≠it->hp.get? c=some o->(g3.push { cls:=.type "tuple",data:=.seq #[.int i tk,x] }).get? c=some o:=λc o a1 a2 q=>S5 _ (e3.extBut _ _ a1 (e2.extBut _ _ a1 (e1.extBut _ _ a2 q)))
 have n4:st (i+1) (g3.push { cls:=.type "tuple",data:=.seq #[.int i tk,x] }):=S.keep _ _ _ n1 (λo q=>S5 _ (e3.extBut _ _ ne.symm (e2.extBut _ _ ne.symm q))) λo q=>S5 _ (e3.extBut _ _ nl (e2.extBut _ _ nl q))
 revert c4 t4 z4 k4 n4;generalize g3.push { cls:=.type "tuple",data:=.seq #[.int i tk,x] }=g4;intro c4 t4 z4 k4 n4;show wpAny _ _ (Builtin.SmallTypes.ownedTupleIsFree (.ref e)>>=λz=>_) _ _ ⟨g4,gn,dr,tk+1,os⟩
 rw[sz];refine SX ?_;unfold Builtin.SmallTypes.ownedTupleIsFree;refine SX (Uz c4 rfl (x:=.none) rfl (S6 (show _ from ?_)))
 simp only[if_true];refine SX (Vp (show _ from ?_))
 refine SX (Uz c4 rfl (x:=old) rfl (show _ from ?_))
 refine SX (wpAny_setField_rec c4 (by simp) λg5 c5 e5=>?_)
 replace e5:Heap.SameBut e g4 g5:=e5;replace c5:IsEnum g5 e it ((i:Int)+1) x:=c5;show wpAny _ _ (Builtin.SmallTypes.ownedTupleHandOut (.ref e) (.ref hp.objs.size)>>=λz=>_) _ _ ⟨g5,gn,dr,tk+1,os⟩
 refine SX ?_;unfold Builtin.SmallTypes.ownedTupleHandOut;refine SX (wpAny_setField_rec c5 (by simp) λg6 c6 e6=>?_)
 replace e6:Heap.SameBut e g5 g6:=e6;replace c6:IsEnumOut g6 e it ((i:Int)+1) x hp.objs.size:=c6;refine wpAny_setField_rec c6 (by simp) λg7 c7 e7=>?_
 replace e7:Heap.SameBut e g6 g7:=e7;replace c7:IsEnumOut g7 e it ((i:Int)+1) x hp.objs.size:=c7;have up:∀c o,c≠e->g4.get? c=some o->g7.get? c=some o:=λc o a1 q=>e7.extBut _ _ a1 (e6.extBut _ _ a1 (e5.extBut _ _ a1 q))
 refine SX (wpAny_letGo (S6 ⟨_,rfl,hQ g7 c7 ?_ (up _ _ (Wb el) t4) (by rw[e7.1,e6.1,e5.1,z4]) λc o a1 a2 q=>up _ _ a1 (k4 _ _ a1 a2 q)⟩))
 exact S.keep _ _ _ n4 (λo q=>up _ _ ne.symm q) λo q=>up _ _ nl q
def zE{i:Nat}{Q:Option Value->Shared->Prop}(S:SubIt P w it l xs st)(ne:e≠it)(nl:l≠e)(he:IsEnum s.heap e it i old)(h0:st i s.heap)(hx:xs[i]?=some x)
  (hQ:∀h',IsEnumOut h' e it ((i:Int)+1) x s.heap.objs.size->st (i+1) h'->IsPair h' s.heap.objs.size (.int i s.toks) x->h'.objs.size=s.heap.objs.size+1->
    (∀c o,c≠e->c≠it->s.heap.get? c=some o->h'.get? c=some o)->Q (some (.ref s.heap.objs.size)) { s with heap:=h',toks:=s.toks+1 }):wpAny (model P w) A (pyNext (.ref e)) Q E s:=by
 have T:s.TypeIs (.ref e) "enumerate":=⟨_,he,rfl⟩;unfold pyNext;exact SX (VP (Ul (name:=Str.ofString "__next__") T WX (Uk WX T F.entry_enumerate_next (Dk S ne nl he h0 hx λh' a b c d k=>S6 (hQ h' a b c d k)) (F.args_enumerate_next_1 _))))
def zB{i:Nat}{Q:Option Value->Shared->Prop}(hh:A.handled=none)(S:SubIt P w it l xs st)(he:IsEnum s.heap e it i old)(h0:st i s.heap)(hx:xs[i]?=none)
  (hQ:∀h',Heap.ExtBut it s.heap h'->Q none { s with heap:=h' }):wpAny (model P w) A (pyNext (.ref e)) Q E s:=by
 have T:s.TypeIs (.ref e) "enumerate":=⟨_,he,rfl⟩;unfold pyNext;refine SX (VP (Ul (name:=Str.ofString "__next__") T WX (Uk WX T F.entry_enumerate_next (show _ from ?_) (F.args_enumerate_next_1 _))))
 show wpAny _ _ (field (.ref e) 2>>=λz=>_) _ _ _
 refine SX (Uz he rfl (x:=.ref it) rfl (show _ from ?_))
 refine SX (S.done _ i _ _ _ (show A.in1.handled=none from hh) h0 hx λh' y e1 hy=>?_)
 obtain⟨o,ho,hc⟩:=hy;exact SX (X5 (T := "StopIteration") (b:=true) ⟨o,ho,hc⟩ isSubtype_stop (S6 (hQ _ e1)))
end
def QM(K:PySem.W.Frag)(b:Bool)(l:Addr):It:=
 ⟨fun i H=>∃xs x,m6 b K H l xs∧xs[i]?=some x,
  λi H v H'=>∃p,H p=none/\v=.ref p/\∀xs,m6 b K H l xs->∃x,xs[i]?=some x/\H'=upd H p (.tup [.int (i:Int),x]),
  λi H=>∃xs,m6 b K H l xs/\xs[i]?=none⟩
def Hw{P:Program}{w:World}{K:PySem.W.Frag}{elts:List Expr}{x1}{tp:Pos}{b:Bool}{e it l:Addr}(ne:e≠it)(nl:l≠e)(ni:l≠it):
  Turn P w K (.Tuple elts x1 tp) (QM K b l) [e,it] e (λi h=>(∃old,IsEnum h e it i old)/\eY b it l i h) where
 mem:=by simp
 obj:=λi h st c hc=>by
  obtain⟨⟨old,he⟩,h1⟩:=st;simp only[List.mem_cons,List.mem_nil_iff,or_false]at hc;rcases hc with rfl | rfl
  ·exact⟨_,he,λv q=>by cases q⟩
  ·exact h1.obj
 keep:=λi h h' st k=>by obtain⟨⟨old,he⟩,h1⟩:=st;exact⟨⟨old,k e (by simp) _ he⟩,h1.keep λo q=>k it (by simp) o q⟩
 item:=by
  intro X hP hw hK hc i YB s σ H E I hf st hg;subst hP hw hK;obtain⟨⟨old,he⟩,h1⟩:=st;obtain⟨xs,x,s1,hx⟩:=hg;obtain⟨its1,r1,q1,_⟩:=I.seqS s1;obtain⟨u1,e1,ru1⟩:=r1.get hx;refine zE (jQ b ni its1.toArray) ne nl he ⟨h1,q1⟩ (by simpa using e1) λh' a1 a2 a3 a4 a5=>⟨_,rfl,wpAny_letOwnedTupleGo_enum a1 λh2' he' hs'=>?_⟩
  have lt:e<s.heap.objs.size:=Te he;have kk:∀c o,c∉[e,it]->s.heap.get? c=some o->h2'.get? c=some o:=λc o hb q=>hs'.extBut _ _ (λz=>hb (by simp[z])) (a5 c o (λz=>hb (by simp[z])) (λz=>hb (by simp[z])) q)
  have fresh:H s.heap.objs.size=none:=I.hok.fresh (Td _);have pr:IsPair h2' s.heap.objs.size (.int i s.toks) u1:=hs'.extBut _ _ (Wb lt) a3;have nw:ObjOk X.prog X.w (upd H s.heap.objs.size (.tup [.int (i:Int),x])) h2' s.heap.objs.size (.tup [.int (i:Int),x]):=⟨by show 2<=sizeLine;decide,[.int i s.toks,u1],.cons ⟨_,rfl⟩ (.cons ru1 .nil),⟨_,pr,rfl,_,rfl⟩⟩
  have nfp:∀c∈[e,it],c≠s.heap.objs.size:=λc hc z=>by
   obtain⟨o,ho⟩:∃o,s.heap.get? c=some o:=by
    simp only[List.mem_cons,List.mem_nil_iff,or_false]at hc;rcases hc with rfl | rfl
    ·exact⟨_,he⟩
    ·obtain⟨o,q,_⟩:=h1.obj;exact⟨o,q⟩
   exact absurd (Te ho) (by rw[z];exact Vj _)
  refine⟨.ref s.heap.objs.size,upd H s.heap.objs.size (.tup [.int (i:Int),x]),?_,rfl,⟨_,fresh,rfl,λxs' q1'=>⟨x,by rw[I.seqS_inj q1' s1];exact hx,rfl⟩⟩,⟨⟨_,he'⟩,(show eY b it l (i+1) h' from a2.1).keep λo q=>hs'.extBut _ _ ne.symm q⟩,λc hc=>by rw[upd_ne (nfp c hc)];exact (hf c hc).1⟩
  exact I.turnedLay (t':=s.toks+1) kk hf (Td _) nw
 done:=by
  intro X hP hw hK hc i YB s σ H E I hf st hg;subst hP hw hK;obtain⟨⟨old,he⟩,h1⟩:=st;obtain⟨xs,s1,hend⟩:=hg;obtain⟨its1,r1,q1,_⟩:=I.seqS s1;refine zB (I.ok.hd hc) (jQ b ni its1.toArray) he ⟨h1,q1⟩ (by simpa using r1.none_of hend) λh' e1=>?_
  exact⟨rfl,I.turnedL (t':=s.toks) (λc o hb q=>e1 _ _ (λz=>hb (by simp[z])) q) hf (λc hc=>(hf c hc).2.1)⟩
 self:=λy y y y y st h=>by obtain⟨⟨old,he⟩,_⟩:=st;exact wpAny_pyIter_enum he h
def CV:bootBuiltins "list"=some (.type "list"):=by decide +kernel
theorem wK:∀ (vs:List Value) (k:Nat),(∀ (j:Nat) v,vs[j]?=some v->∃ t,v=.int ((k + j:Nat):Int) t)->Vals ((List.range' k vs.length).map λi:Nat=>V.int (i:Int)) vs
 |[],k,_=>.nil
 | v::vs,k,h=>by
   have h0:=h 0 v rfl;have ih:=wK vs (k+1) λj u e=>by
    have:=h (j+1) u (by simpa using e)
    rw[show k+1+j=k+(j+1) by lia];exact this
   rw[UG,List.range'_succ,Ud];exact .cons h0 ih
section
variable{X:Cx}
def QC(ta:TA):TE:=λσ H Q=>ta σ H λvs H1=>∃j:Int,vs=[.int j]/\j<=2^20/\-(2^62)<=j/\∀l,H1 l=none->Q (.ref l) (upd H1 l (.lst ((List.range j.toNat).map λi:Nat=>V.int (i:Int))))
def GX(hc:X.calm=true)(hgL:Gl X "list")(hmL:X.mg "list"=none)(hg:Gl X "range")(hm:X.mg "range"=none)(ha:PA X [a] ta)(hs:notStar a=true:=by rfl):
  PE X (.Call (.Name "list" p1) [.Call (.Name "range" p2) [a] [] pos2] [] pos1) (QC ta):=by
 intro YB s σ H Q I h;have hst:starEach [Expr.Call (.Name "range" p2) [a] [] pos2] X.env=(false,eval (.Call (.Name "range" p2) [a] [] pos2) X.env)::starEach [] X.env:=bH rfl;refine Call_ (ld_blt I hgL hmL CV (UT ?_ hst rfl));rw[hst];show wpAny _ _ (spliced ((false,eval (.Call (.Name "range" p2) [a] [] pos2) X.env)::[])) _ _ s;refine Yr ?_;refine Call_ (ld_blt I hg hm boot_range (UT (thn (ha pos2 YB s σ H _ I h) λus s1 ⟨vs,H1,I1,r1,q1⟩=>?_) (bH hs) rfl))
 obtain⟨j,e,q1,q2,q⟩:=q1;subst e;cases r1 with
 | cons r rr=>
   cases rr;obtain⟨t,rfl⟩:=r;refine call_range_1 ?_;refine Ys ?_;have rs:Builtin.Range.rangeSize 0 j 1=((j.toNat:Nat):Int):=by rw[rangeSize_one];split<;>lia
   refine call_list_range (n:=j.toNat) (I1.ok.hd hc) (IsRange.new ..) (small_one (by lia) (by lia) q2 (by lia)) rs (by lia) λh' tk acc c k1 k2 k3=>?_
   have vl:Vals ((List.range j.toNat).map λi:Nat=>V.int (i:Int)) acc.toList:=by
    have:=wK acc.toList 0 λi v e=>by
     obtain⟨t,rfl⟩:=k3.2 i v (by simpa using e)
     exact⟨t,by congr 1;lia⟩
    rw[W6];rw[show acc.toList.length=j.toNat by simpa using k3.1]at this
    exact this
   refine⟨.ref _,upd H1 _ (.lst ((List.range j.toNat).map λi:Nat=>V.int (i:Int))),?_,rfl,q _ (I1.hok.fresh ?_)⟩
   ·refine I1.turnedLay (ch:=[]) (t':=tk) (λb o z e=>k1 b o (S5 _ e)) (λb hb=>nomatch hb) ?_ ⟨?_,acc.toList,c,vl,k2⟩
    ·rw[T5];lia
    ·rw[S9,T9];show _<=2^24;lia
   ·rw[T5];lia
end
end L2
namespace L2
open PySem PySem.Spec PyProof.Rows
open PySem.AutoSeq1 (wpAny_loadPart')
open PySem PySem.Spec PyProof.Rows
end L2
namespace LS
open PySem
def m5(xs:Array Nat):Prop:=xs.toList.Pairwise (·< ·)
def m5.lt{xs:Array Nat}(h:m5 xs){a b:Nat}(hab:a<b)(hb:b<xs.size):xs[a]<xs[b]:=by
 have:=Vn.mp h a b (by simpa using Wm hab hb) (by simpa using hb) hab
 simpa using this
structure Bel(xs:Array Nat)(j r:Nat):Prop where
 le:r<=xs.size
 lo:∀k (hk:k<xs.size),k<r->xs[k]<j
 hi:∀k (hk:k<xs.size),r<=k->j<=xs[k]
theorem tH{xs:Array Nat}{j:Nat}(h:m5 xs):∀ (fuel lo hi:Nat),hi - lo<=fuel->lo<=hi->hi<=xs.size->(∀ k (hk:k<xs.size),k<lo->xs[k]<j)->(∀ k (hk:k<xs.size),hi<=k->j<=xs[k])->Bel xs j (SetTable.below.go xs j fuel lo hi)
 |0,lo,hi,hf,hl,hs,h1,h2=>by
   unfold SetTable.below.go;have:lo=hi:=by lia
   subst this;exact⟨hs,h1,h2⟩
 | fuel + 1,lo,hi,hf,hl,hs,h1,h2=>by
   unfold SetTable.below.go;by_cases c:lo<hi
   ·rw[Tf c];dsimp only;have hm:(lo+hi) / 2<hi:=by lia
    have hm':lo<=(lo+hi) / 2:=by lia
    generalize (lo+hi) / 2=mid at hm hm';have hms:mid<xs.size:=by lia
    have e:xs.getD mid j=xs[mid]:=by rw[Ux,Uw hms];rfl
    rw[e];by_cases c2:xs[mid]<j
    ·rw[Tf c2];refine tH h fuel (mid+1) hi (by lia) (by lia) hs (λk hk hkm=>?_) h2
     by_cases q:k=mid
     ·subst q;exact c2
     ·have:=h.lt (show k<mid by lia) hms;lia
    ·rw[Ti c2];refine tH h fuel lo mid (by lia) hm' (by lia) h1 (λk hk hkm=>?_)
     by_cases q:k=mid
     ·subst q;lia
     ·have:=h.lt (show mid<k by lia) hk;lia
   ·rw[Ti c];have:lo=hi:=by lia
    subst this;exact⟨hs,h1,h2⟩
def jj{xs:Array Nat}(h:m5 xs)(j:Nat):Bel xs j (SetTable.below xs j):=by unfold SetTable.below;exact tH h xs.size 0 xs.size (by lia) (by lia) (Td _) (λk hk z=>by lia) (λk hk z=>by lia)
def below_at{xs:Array Nat}(h:m5 xs){i:Nat}(hi:i<xs.size):SetTable.below xs xs[i]=i:=by
 have b:=jj h xs[i];generalize SetTable.below xs xs[i]=r at b;rcases Wh r i with c | c | c
 ·have:=b.hi r (by lia) (Td _)
  have:=h.lt c hi
  lia
 ·exact c
 ·have:=b.lo i hi c
  lia
def CT{xs:Array Nat}(h:m5 xs):SetTable.below xs 0=0:=by
 have b:=jj h 0;generalize SetTable.below xs 0=r at b;rcases Xp r with c | c
 ·exact c
 ·have:=b.le;have:=b.lo 0 (by lia) c
  lia
def CQ{xs:Array Nat}(h:m5 xs){i:Nat}(hi:i<xs.size):SetTable.below xs (xs[i]+1)=i+1:=by
 have b:=jj h (xs[i]+1);generalize SetTable.below xs (xs[i]+1)=r at b;have ble:=b.le;rcases Wh r (i+1) with c | c | c
 ·have:=b.hi i hi (by lia)
  lia
 ·exact c
 ·have l:=b.lo (i+1) (by lia) c
  have:=h.lt (show i<i+1 by lia) (show i+1<xs.size by lia)
  lia
def uK{xs:Array Nat}(h:m5 xs){j:Nat}(hj:j∉xs.toList):m5 (SetTable.insertAt xs (SetTable.below xs j) j):=by
 have b:=jj h j;unfold m5;rw[Xi];generalize SetTable.below xs j=r at b;have h':(xs.toList.take r++xs.toList.drop r).Pairwise (·< ·):=by rw[X7];exact h
 rw[List.pairwise_append]at h' ⊢
 refine⟨h'.1,Us.mpr ⟨λx hx=>?_,h'.2.1⟩,λx hx y hy=>?_⟩
 ·obtain⟨k,hk,rfl⟩:=UL.mp hx;rw[Wk,U0]at hk;rw[List.getElem_drop];have:=b.hi (r+k) (by lia) (by lia)
  have ne:xs.toList[r+k]'(by simp;lia)≠j:=λz=>hj (z ▸ U8 _)
  simp at this ne ⊢
  lia
 ·have lt:x<j:=by
   obtain⟨k,hk,rfl⟩:=UL.mp hx;rw[VH,U0]at hk;rw[List.getElem_take];have:=b.lo k (by lia) (by lia)
   simpa using this
  rcases Tt.mp hy with rfl | hy
  ·exact lt
  ·exact h'.2.2 x hx y hy
structure TI(L:Bool)(t:SetTable):Prop where
 ris:m5 t.place
 dum:t.dummies=#[]
 led:t.led=L
theorem TI.fresh{L:Bool}(f m:Nat):TI L (.fresh f m L):=⟨List.Pairwise.nil,rfl,rfl⟩
theorem TI.standIn{L:Bool}{t:SetTable}(h:TI L t)(n:Nat):TI L (t.standIn n):=⟨by
 unfold m5 SetTable.standIn;rw[show (Array.range n).toList=List.range n by simp]
 exact Vk,rfl,h.led⟩
theorem TI.orStandIn{L:Bool}{t:SetTable}(h:TI L t)(n:Nat):TI L (t.orStandIn n):=by
 unfold SetTable.orStandIn;split
 ·exact h
 ·exact h.standIn n
def Eg{L:Bool}{t:SetTable}(h:TI L t){j:Nat}(e:t.slot j=.empty):j∉t.place.toList:=λhj=>by
 obtain⟨k,hk,rfl⟩:=UL.mp hj;have hk':k<t.place.size:=by simpa using hk
 have b:=below_at h.ris hk';unfold SetTable.slot at e;simp only[Array.getElem_toList]at e;rw[b]at e;simp[Array.getElem?_eq_getElem hk']at e
def Ef{L:Bool}{t:SetTable}(h:TI L t)(j:Nat):t.slot j≠.dummy:=λe=>by
 unfold SetTable.slot SetTable.has at e;rw[h.dum]at e;dsimp only at e;split at e
 ·cases e
 ·simp at e
set_option tactic.hygienic true in
theorem sJ{L:Bool}{t:SetTable}(ti:TI L t){ha:Nat->Int}{h:Int}{j:Nat}{d:Option Nat}:∀ (fuel:Nat) (p:SetTable.Probe),p.dummy=none->SetTable.probe.go t ha h fuel p=some (.empty j d)->t.slot j=.empty/\d=none
 |0,p,_,e=>by unfold SetTable.probe.go at e;cases e
 | fuel + 1,p,hp,e=>by
   unfold SetTable.probe.go at e;split at e
   ·rename_i hs;cases e;exact⟨hs,hp⟩
   ·rename_i hs;exact absurd hs (Ef ti _)
   ·split at e
    ·cases e
    ·refine sJ ti fuel _ ?_ e;unfold SetTable.advance;split<;>exact hp
set_option tactic.hygienic true in
def Gr{L:Bool}{t:SetTable}(h:TI L t)(es:Array (Int×Value))(hs:Int)(x:Value):TI L (layNew t es hs x).2.1:=by
 unfold layNew;split
 ·rename_i slot wd e;unfold SetTable.freeSlot SetTable.probe at e;split at e
  ·rename_i j d em;obtain⟨h1,h2⟩:=sJ h _ _ rfl em;subst h2;cases e;dsimp only;refine TI.orStandIn (t:=(t.put (none.getD j)).1) (TI.mk ?_ ?_ h.led) _
   ·exact uK h.ris (Eg h h1)
   ·show (if SetTable.has t.dummies _ then _ else _)=_
    rw[h.dum];split
    ·rename_i c;unfold SetTable.has at c;simp at c
    ·rfl
  ·cases e
 ·exact h.standIn _
def Bu{L:Bool}{mask finger moves:Nat}{plain:Bool}{hs:Array Int}{r:SetTable×Array Nat}(e:SetTable.laid mask finger moves L plain hs=some r):TI L r.1:=by
 unfold SetTable.laid at e;obtain⟨owner,_,e2⟩:=TQ.mp e;cases e2;refine⟨?_,rfl,rfl⟩;unfold m5;dsimp only;rw[WQ];refine List.Pairwise.filterMap (R:=λ(a b:Nat)=>a<b) _ (λa b hab x hx y hy=>?_) Vk
 obtain⟨_,_,rfl⟩:=S8.mp hx;obtain⟨_,_,rfl⟩:=S8.mp hy;exact hab
set_option tactic.hygienic true in
def Jo{L:Bool}{t:SetTable}(h:TI L t)(es:Array (Int×Value))(n:Nat):TI L (relayAll t es n).2.1:=by
 unfold relayAll;split
 ·rename_i t' order e;dsimp only;split
  ·unfold SetTable.relaid at e;rw[h.led]at e;exact Bu e
  ·exact h.standIn _
 ·exact h.standIn _
end LS
namespace LS
open PySem PySem.Spec PyProof.Rows
def vInt:Value->Int
 |.int i _=>i
 |_=>0
def jJ(l:List (Int×Value)):List Int:=l.map λe=>vInt e.2
abbrev bc(es:Array (Int×Value))(ep:Nat)(t:SetTable):Obj:={ cls:=.type "set",dict:=none,data:=.set es ep t }
structure SetG(prog:Program)(w:World)(L:Bool)(h:Heap)(a:Addr)(ks:List Int):Prop where
 ex:∃es ep t,h.get? a=some (bc es ep t)/\ElemsOf (intKind prog w) es.toList/\(jJ es.toList).Perm ks/\t.fits es.size=true/\TI L t/\es.size<scanBound
def yR(h:(intKind prog w).is k v=true):∃t,v=.int k t:=by have h':Value.isInt k v=true:=h;cases v<;>simp[Value.isInt]at h';subst h';exact⟨_,rfl⟩
def yG(h:ElemsOf (intKind prog w) l)(he:e∈l):∃t,e.2=.int (vInt e.2) t:=by obtain⟨⟨k,hk,_⟩,_⟩:=h e he;obtain⟨t,q⟩:=yR hk;rw[q];exact⟨t,rfl⟩
def find_key(h:ElemsOf (intKind prog w) l)(k:Int):(l.findIdx? λe=>(intKind prog w).is k e.2).isSome=decide (k∈jJ l):=by
 rw[T6,UJ,List.findIdx?_isSome,V2];unfold jJ;rw[Uh];constructor
 ·rintro⟨e,he,q⟩;obtain⟨t,e2⟩:=yR q;exact⟨e,he,by rw[e2];rfl⟩
 ·rintro⟨e,he,rfl⟩;obtain⟨t,q⟩:=yG h he;refine⟨e,he,?_⟩;rw[q];exact Xw _ _ _ _
section
variable{prog:Program}{w:World}{A:Around}{E:Value->Shared->Prop}{s:Shared}{L:Bool}
def rO{h:Heap}{a:Addr}{es es1:Array (Int×Value)}{ep:Nat}{t t1:SetTable}(ho:h.get? a=some (bc es ep t)):(h.update a (Obj.putSet es1 t1)).get? a=some (bc es1 (ep+1) t1):=by
 have q:=WW (Obj.putSet es1 t1) ho (by rw[putSet_of es1 t1 rfl];rfl)
 rw[putSet_of es1 t1 rfl]at q;exact q
def Ht{g:Bool->Sem Unit}(hg:∀ (b:Bool) (s1:Shared) (R:Unit->Shared->Prop),R () s1->wpAny (model prog w) A (g b) R E s1){a:Addr}{es es1:Array (Int×Value)}{ep:Nat}{t t2:SetTable}{ks:List Int}{wd:Bool}
  (ho:s.heap.get? a=some (bc es ep t)) (hel:ElemsOf (intKind prog w) es1.toList) (hp:(jJ es1.toList).Perm ks) (hb:es1.size<scanBound) (hf:t2.fits es1.size=true) (ti:TI L t2) {R:Option Bool->Shared->Prop}
  (h:∀h',Heap.SameBut a s.heap h'->SetG prog w L h' a ks->R (some true) { s with heap:=h' }) :
  wpAny (model prog w) A (do
    storeSet a es1 t2
    if (!wd && t2.tooFull)=true then do
        g (relayAll t2 es1 (SetTable.grown es1.size)).2.2
        storeSet a (relayAll t2 es1 (SetTable.grown es1.size)).1 (relayAll t2 es1 (SetTable.grown es1.size)).2.1
        pure (some true)
     else pure (some true)) R E s:=by
 refine SX (XF ho rfl ?_ (WN hb));have o1:=rO (es1:=es1) (t1:=t2) ho;have b1:=Ve s.heap a (Obj.putSet es1 t2);split
 ·have p2:=relayAll_perm t2 es1 (SetTable.grown es1.size);have f2:=relayAll_fits t2 es1 (SetTable.grown es1.size);have ti2:=Jo ti es1 (SetTable.grown es1.size);revert p2 f2 ti2;generalize relayAll t2 es1 (SetTable.grown es1.size)=Z;obtain⟨es2,t3,gv⟩:=Z;dsimp only;intro p2 f2 ti2;have sz:es2.size=es1.size:=by rw[<-U0,p2.length_eq,U0]
  refine SX (hg _ _ _ (SX (XF o1 rfl ?_ (WN (by rw[sz];exact hb)))))
  refine S6 (h _ (b1.trans (Ve _ a _)) ⟨es2,_,t3,rO o1,hel.perm p2,(p2.map _).trans hp,f2,ti2,by rw[sz];exact hb⟩)
 ·exact S6 (h _ b1 ⟨es1,_,t2,o1,hel,hp,hf,ti,hb⟩)
def add_int(hS:SetG prog w L s.heap a ks)(room:ks.length + 1<scanBound)
  (h:∀h' b,Heap.SameBut a s.heap h'->SetG prog w L h' a (if k∈ks then ks else ks++[k])->Q b { s with heap:=h' }):wpAny (model prog w) A (setAddHashed a (.int k tk) ((intKind prog w).hash k)) Q E s:=by
 obtain⟨es,ep,t,ho,hel,hp,hf,ti,hb⟩:=hS.ex;have kk:(intKind prog w).is k (.int k tk)=true:=Xw _ _ _ _;have len:es.size=ks.length:=by have:=hp.length_eq;unfold jJ at this;rw[S9,U0]at this;exact this
 unfold setAddHashed setAddHashedIn;refine Up (SX (U4 ho rfl hf ?_));dsimp only;rw[byScan_of (knd:=intKind prog w) (x:=.int k tk) rfl hb hel,Tf rfl];unfold setAddByScan;refine SX (SX (Vp (SX (wpAny_setScan_of kk ho rfl hf hel ?_))));have fk:=find_key hel k;have mk:k∈jJ es.toList ↔ k∈ks:=hp.mem_iff;cases hr:List.findIdx? (λe=>(intKind prog w).is k e.2) es.toList with
 |some j=>
   rw[hr]at fk;have hk:k∈ks:=mk.mp (Ui fk.symm);have q:=h s.heap false (Heap.SameBut.refl a s.heap) (by rw[Tf hk];exact hS)
   have e:s={ s with heap:=s.heap }:=by cases s;rfl
   rw[e];exact S6 (S6 q)
 | none=>
   rw[hr]at fk;have hk:k∉ks:=λz=>by have:=of_decide_eq_false fk.symm;exact this (mk.mpr z)
   rw[Ti hk]at h;dsimp only;have p1:=layNew_perm t es ((intKind prog w).hash k) (.int k tk);have f1:=layNew_fits t es ((intKind prog w).hash k) (.int k tk);have ti1:=Gr ti es ((intKind prog w).hash k) (.int k tk);revert p1 f1 ti1;generalize layNew t es ((intKind prog w).hash k) (.int k tk)=Z;obtain⟨es1,t1,wd,gv⟩:=Z;dsimp only;intro p1 f1 ti1;rw[Array.toList_push]at p1;have el1:ElemsOf (intKind prog w) es1.toList:=(hel.push kk rfl).perm p1;have pk:(jJ es1.toList).Perm (ks++[k]):=by refine (p1.map _).trans ?_;rw[Vx];exact hp.append_right _
   have b1:es1.size<scanBound:=by rw[<-U0,p1.length_eq,T4,U0,len];exact room
   have gw:∀(b:Bool) (s1:Shared) (R:Unit->Shared->Prop),R () s1->wpAny (model prog w) A (match b with | true=>rule "set.scan.the-table-gave-way" | false=>pure ()) R E s1:=λb s1 R hq=>by
    cases b
    ·exact S6 hq
    ·exact Vp hq
   refine SX (gw gv _ _ ?_);split
   ·refine SX ?_;rw[hashByValue_scannable 8 (x:=.int k tk) rfl];refine S6 ?_;simp only[plainKind,↓reduceIte];refine Ht ?_ ho el1 pk b1 f1 ti1 ?_
    ·intro b s1 R hq;cases b
     ·exact S6 hq
     ·exact Vp hq
    ·intro h' sb g;exact S6 (h h' true sb g)
   ·refine SX (S6 ?_);simp only[↓reduceIte];refine Ht ?_ ho el1 pk b1 f1 ti1 ?_
    ·intro b s1 R hq;cases b
     ·exact S6 hq
     ·exact Vp hq
    ·intro h' sb g;exact S6 (h h' true sb g)
end
def cJ:Slot "set_iterator" "__next__" "set_iterator.__next__":=.of (owner := "set_iterator") (n := "__next__") (by rw[typeLookup_type,builtinLookup_eq_fast];kernel_rfl) (by decide +kernel) (by decide +kernel) (by decide +kernel) (by first | exact .inl (by decide +kernel) | exact .inr (by decide +kernel)) (by rw[isSubtype_type];kernel_rfl)
def Cq:Slot "set_iterator" "__iter__" "set_iterator.__iter__":=.of (owner := "set_iterator") (n := "__iter__") (by rw[typeLookup_type,builtinLookup_eq_fast];kernel_rfl) (by decide +kernel) (by decide +kernel) (by decide +kernel) (by first | exact .inl (by decide +kernel) | exact .inr (by decide +kernel)) (by rw[isSubtype_type];kernel_rfl)
def iJ:entryFor table "set_iterator.__next__"=some Builtin.«set_iterator.__next__»:=entryFor_of_fast (by kernel_rfl)
def Ip:entryFor table "set_iterator.__iter__"=some Builtin.«dict_keyiterator.__iter__»:=entryFor_alias (id' := "dict_keyiterator.__iter__") (by kernel_rfl) rfl (by decide +kernel) (by kernel_rfl)
def wN:entryFor table "set.__iter__"=some Builtin.«frozenset.__iter__»:=entryFor_alias (id' := "frozenset.__iter__") (by kernel_rfl) rfl (by decide +kernel) (by kernel_rfl)
def jN(a:Value):argsOk "set_iterator.__next__" ⟨[a],[]⟩:=by unfold argsOk;kernel_rfl
def J1(a:Value):argsOk "set_iterator.__iter__" ⟨[a],[]⟩:=by unfold argsOk;kernel_rfl
set_option tactic.hygienic true in
theorem Ce(next:Nat->Nat):∀ (fuel k:Nat) (left:List α) (out:Array α),left.length=fuel->(pickOrder.go next fuel k left out).toList.Perm (out.toList++left)
 |0,k,left,out,h=>by have:left=[]:=Xy.mp h;subst this;unfold pickOrder.go;simp
 | fuel + 1,k,left,out,h=>by
   unfold pickOrder.go;have hm:next k%left.length<left.length:=UV _ (by lia)
   generalize next k%left.length=m at hm
   rw[Tc hm];dsimp only;refine (Ce next fuel (k+1) (left.eraseIdx m) (out.push left[m]) (by rw[List.length_eraseIdx,Tf hm];lia)).trans ?_
   rw[Array.toList_push,Vv];refine List.Perm.append_left _ ?_;have:∀ (l:List α) (t:Nat) (ht:t<l.length),(l[t]::l.eraseIdx t).Perm l:=by
    intro l;induction l with
    |nil=>intro t ht;exact absurd ht (by simp)
    |cons a l ih=>
      intro t ht;cases t with
      |zero=>exact .refl _
      |succ t=>exact (List.Perm.swap a _ _).trans ((ih t (by simpa using ht)).cons a)
   exact this left m hm
set_option tactic.hygienic true in
def G3(next:Nat->Nat)(xs:Array α):(pickOrder next xs).toList.Perm xs.toList:=by unfold pickOrder;exact (Ce next xs.size 0 xs.toList #[] (by simp)).trans (by simp)
section
variable{prog:Program}{w:World}{A:Around}{E:Value->Shared->Prop}{s:Shared}
def wQ(hn:n≠0)(h:∀i d',i<n->Q i { s with drawn:=d' }):wpAny (model prog w) A (choose src n) Q E s:=λΓ p hΓ=>⟨hn,h _ _ (UV _ (by lia))⟩
theorem vY:∀ (n:Nat) (xs:List Nat) {s:Shared}{Q:List Nat->Shared->Prop},xs.length=n->(∀ ys d',ys.Perm xs->Q ys { s with drawn:=d' })->wpAny (model prog w) A (drawOrder n xs) Q E s
 |0,xs,s,Q,h,q=>by have:xs=[]:=Xy.mp h;subst this;unfold drawOrder;exact S6 (q [] s.drawn (.refl _))
 |n+1,[],s,Q,h,q=>by cases h
 | n + 1,x::xs,s,Q,h,q=>by
   unfold drawOrder;refine SX (wQ (by simp) λi d' hi=>?_)
   rw[Tc hi];dsimp only;refine SX (vY n ((x::xs).eraseIdx i) (by rw[List.length_eraseIdx,Tf hi];simp at h ⊢;lia) λys d2 p=>S6 (q _ d2 ?_))
   refine (p.cons _).trans ?_;have:∀ (l:List Nat) (t:Nat) (ht:t<l.length),(l[t]::l.eraseIdx t).Perm l:=by
    intro l;induction l with
    |nil=>intro t ht;exact absurd ht (by simp)
    |cons a l ih=>
      intro t ht;cases t with
      |zero=>exact .refl _
      |succ t=>exact (List.Perm.swap a _ _).trans ((ih t (by simpa using ht)).cons a)
   exact this _ i hi
end
abbrev lQ(vs:Array Value):Obj:={ cls:=.type "set_iterator",data:=.fields vs }
abbrev bJ(w:World):Bool:=w.params.followText "set-order"
def pW(w:World)(h:Heap)(I a tp:Addr)(es:Array (Int×Value))(ep:Nat)(t:SetTable)(ord:List Value)(i:Nat):Prop:=
 (bJ w=true/\h.get? I=some (lQ #[.int 0 0,.int i 0,.ref a,.int es.size 0,.int ep 0])/\ord=(pickOrder (w.params.setOrder a ep) es).toList.map (·.2))
 \/ (bJ w=false/\(!t.plain&&decide (es.size > 1))=false/\∃sl:Nat,h.get? I=some (lQ #[.int sl 0,.int i 0,.ref a,.int es.size 0,.int ep 0])/\SetTable.below t.place sl=i/\ord=es.toList.map (·.2))
 \/ (bJ w=false/\(!t.plain&&decide (es.size > 1))=true/\∃ps,tp≠I/\h.get? I=some (lQ #[.ref tp,.int i 0,.ref a,.int es.size 0,.int ep 0])/\h.get? tp=some { cls:=.type "tuple",data:=.seq ((ps:List Nat).map λ(p:Nat)=>rawInt (p:Int)).toArray }/\ps.Perm (List.range es.size)/\ord=ps.map (λp=>(es.getD p (0,.none)).2))
section
variable{prog:Program}{w:World}{A:Around}{E:Value->Shared->Prop}{s:Shared}{I a tp:Addr}{es:Array (Int×Value)}{ep:Nat}{t:SetTable}{ord:List Value}{i:Nat}
def jr{h:Heap}{vs:Array Value}{k:Nat}{v:Value}(e:h.get? I=some (lQ vs)):(h.update I (Obj.mapFields (·.setIfInBounds k v))).get? I=some (lQ (vs.setIfInBounds k v)):=by have q:=WW (Obj.mapFields (·.setIfInBounds k v)) e (Obj.isFreed_of_fields (Obj.data_mapFields rfl _));rw[q];rfl
def GC(hb:bJ w=true)(ho:s.heap.get? a=some (bc es ep t))(hf:t.fits es.size=true){sl:Nat}{Q:Option (Value×Nat)->Shared->Prop}(q:Q (((pickOrder (w.params.setOrder a ep) es)[i]?).map λe=>(e.2,sl)) s):
  wpAny (model prog w) A (setNext a sl i ep) Q E s:=by
 unfold setNext setsByText;refine SX (U4 ho rfl hf ?_);refine SX (SX (Vq (S6 ?_)));have hb':(model prog w).w.params.followText "set-order"=true:=hb;rw[Tf hb'];simp only[bne_self_eq_false,Bool.false_eq_true,↓reduceIte];unfold setWalk setsByText;refine SX (SX (U4 ho rfl hf ?_));refine SX (SX (Vq (S6 ?_)));rw[Tf hb'];exact SX (Vq (S6 (S6 q)))
def GD(hb:bJ w=false)(hd:(!t.plain && decide (es.size > 1))=false)(ti:TI (!bJ w) t)(ho:s.heap.get? a=some (bc es ep t))(hf:t.fits es.size=true){sl:Nat}{Q:Option (Value×Nat)->Shared->Prop}
  (q:Q (match es[SetTable.below t.place sl]?,t.place[SetTable.below t.place sl]? with
    |some (_,x),some j=>some (x,j+1)
    |_,_=>none) s):wpAny (model prog w) A (setNext a sl i ep) Q E s:=by
 unfold setNext setsByText;refine SX (U4 ho rfl hf ?_);refine SX (SX (Vq (S6 ?_)));have hb':¬ (model prog w).w.params.followText "set-order"=true:=by rw[show (model prog w).w.params.followText "set-order"=bJ w from rfl,hb];decide
 rw[Ti hb'];have hl:t.led=true:=by rw[ti.led,hb];rfl
 show wpAny _ _ (if (!t.plain&&decide (es.size > 1))=true then _ else _) _ _ _
 rw[hd,Ti (by decide)]
 refine SX ?_;show wpAny _ _ (if (!t.led&&!es.isEmpty)=true then _ else _) _ _ _
 rw[hl];exact S6 (S6 q)
def next_item(ho:s.heap.get? a=some (bc es ep t))(hf:t.fits es.size=true)(ti:TI (!bJ w) t)(hne:a≠I)(c:pW w s.heap I a tp es ep t ord i)(hi:i<ord.length){Q:Option Value->Shared->Prop}
  (q:∀h',Heap.SameBut I s.heap h'->pW w h' I a tp es ep t ord (i+1)->Q (some ord[i]) { s with heap:=h' }):wpAny (model prog w) A (pyNext (.ref I)) Q E s:=by
 have ho':∀(k:Nat) (v:Value),(s.heap.update I (Obj.mapFields (·.setIfInBounds k v))).get? a=some (bc es ep t):=λk v=>by rw[VD _ _ (λz=>hne z.symm)];exact ho
 have sz:(((es.size:Nat):Int) != ((es.size:Nat):Int))=false:=bne_self_eq_false _;have sb2:∀(v1 v2:Value) (k1 k2:Nat),Heap.SameBut I s.heap ((s.heap.update I (Obj.mapFields (·.setIfInBounds k1 v1))).update I (Obj.mapFields (·.setIfInBounds k2 v2))):=λv1 v2 k1 k2=>(Ve _ I _).trans (Ve _ I _)
 rcases c with ⟨hb,hI,e⟩ | ⟨hb,hd,sl,hI,hs,e⟩ | ⟨hb,hd,ps,htp,hI,hT,hp,e⟩
 ·have ty:s.TypeIs (.ref I) "set_iterator":=⟨_,hI,rfl⟩;unfold pyNext;refine SX (VP (Ul (name:=Str.ofString "__next__") ty cJ (Uk cJ ty iJ ?_ (jN _))));unfold Builtin.«set_iterator.__next__» slotArgs;refine SX (S6 ?_);refine SX (W0 hI rfl ?_);dsimp only;refine SX (Vz ho rfl hf ?_);rw[sz,Ti (by decide)]
  refine SX (GC hb ho hf ?_);have hi':i<(pickOrder (w.params.setOrder a ep) es).size:=by rw[e]at hi;simpa using hi
  have oi:ord[i]=((pickOrder (w.params.setOrder a ep) es)[i]).2:=by subst e;simp
  rw[show ((i:Int)).toNat=i from Va i,Uw hi']
  dsimp only[Option.map_some];refine SX (Vl hI rfl (by simp) ?_)
  refine SX (Vl (jr hI) rfl (by simp) ?_)
  refine S6 ⟨_,rfl,S6 ?_⟩;rw[<-oi];refine q _ (sb2 _ _ _ _) (.inl ⟨hb,?_,e⟩);rw[jr (jr hI)];simp[rawInt]
 ·have ty:s.TypeIs (.ref I) "set_iterator":=⟨_,hI,rfl⟩;unfold pyNext;refine SX (VP (Ul (name:=Str.ofString "__next__") ty cJ (Uk cJ ty iJ ?_ (jN _))));unfold Builtin.«set_iterator.__next__» slotArgs;refine SX (S6 ?_);refine SX (W0 hI rfl ?_);dsimp only;refine SX (Vz ho rfl hf ?_);rw[sz,Ti (by decide)]
  refine SX (GD hb hd ti ho hf ?_);have hi':i<es.size:=by rw[e]at hi;simpa using hi
  have hps:t.place.size=es.size:=by simp only[SetTable.fits,Bool.and_eq_true,beq_iff_eq]at hf;exact hf.1
  have hi2:i<t.place.size:=by rw[hps];exact hi'
  have oi:ord[i]=(es[i]).2:=by subst e;simp
  rw[show ((sl:Int)).toNat=sl from Va sl,hs,Uw hi',Uw hi2]
  dsimp only;refine SX (Vl hI rfl (by simp) ?_)
  refine SX (Vl (jr hI) rfl (by simp) ?_)
  refine S6 ⟨_,rfl,S6 ?_⟩;rw[<-oi];refine q _ (sb2 _ _ _ _) (.inr (.inl ⟨hb,hd,t.place[i]+1,?_,CQ ti.ris hi2,e⟩));rw[jr (jr hI)];simp[rawInt]
 ·have ty:s.TypeIs (.ref I) "set_iterator":=⟨_,hI,rfl⟩;have hpl:ps.length=es.size:=by rw[hp.length_eq,T9]
  have hi':i<ps.length:=by rw[e]at hi;simpa using hi
  have hpi:ps[i]<es.size:=Th.mp (hp.mem_iff.mp (U8 hi'));unfold pyNext;refine SX (VP (Ul (name:=Str.ofString "__next__") ty cJ (Uk cJ ty iJ ?_ (jN _))));unfold Builtin.«set_iterator.__next__» slotArgs;refine SX (S6 ?_);refine SX (W0 hI rfl ?_);dsimp only;refine SX (Vz ho rfl hf ?_);rw[sz,Ti (by decide)]
  refine SX (Vs hT rfl ?_);have g:((ps.map λ(p:Nat)=>rawInt (p:Int)).toArray)[i]?=some (rawInt (ps[i]:Int)):=by simp[hi']
  rw[show ((i:Int)).toNat=i from Va i]
  dsimp only;rw[g];dsimp only[rawInt];unfold setNextDrawn;refine SX (SX (U4 ho rfl hf ?_));simp only[bne_self_eq_false,Bool.false_eq_true,↓reduceIte,Int.toNat_natCast];rw[Uw hpi];dsimp only;refine S6 ?_;refine SX (Vl hI rfl (by simp) ?_)
  refine S6 ⟨_,rfl,S6 ?_⟩;have oi:ord[i]=(es[ps[i]]).2:=by subst e;simp[hpi]
  rw[<-oi];refine q _ (Ve _ I _) (.inr (.inr ⟨hb,hd,ps,htp,?_,?_,hp,e⟩))
  ·rw[jr hI];simp
  ·rw[VD _ _ (λz=>htp z.symm)];exact hT
end
section
variable{prog:Program}{w:World}{A:Around}{E:Value->Shared->Prop}{s:Shared}{I a tp:Addr}{es:Array (Int×Value)}{ep:Nat}{t:SetTable}{ord:List Value}{i:Nat}
def uo(hh:A.handled=none){R:Fin->Shared->Prop}{Q:Option Value->Shared->Prop}(q:∀h',(∀b o,s.heap.get? b=some o->h'.get? b=some o)->Q none { s with heap:=h' }):
  wpAny (model prog w) A.in1 (do raiseNew (<-newExc (.type "StopIteration") [])) R (λe s'=>wpAny (model prog w) A (do if <-isInstance e (.type "StopIteration") then pure none else throw e) Q E s') s:=by
 refine SX ?_;simp only[newExc,newTuple];refine SX (Uj ?_ (by size_fits))
 refine SX (m:=firstArgMember _ _) (wpAny_of_eq (a:=.none) (by first | rfl | (simp only[firstArgMember];rfl)) (Uj ?_ (by size_fits)))
 simp only[raiseNew];refine SX (wpAny_handled ?_);have h1:A.in1.handled=none:=hh;rw[h1];refine SX (S6 (wpAny_throw ?_));refine SX (X5 (T := "StopIteration") (b:=true) ⟨_,Tg _ rfl,rfl⟩ isSubtype_stop ?_);exact S6 (q _ λb o e=>S5 _ (S5 _ e))
def next_end(hh:A.handled=none)(ho:s.heap.get? a=some (bc es ep t))(hf:t.fits es.size=true)(ti:TI (!bJ w) t)(c:pW w s.heap I a tp es ep t ord ord.length){Q:Option Value->Shared->Prop}
  (q:∀h',(∀b o,b≠I->s.heap.get? b=some o->h'.get? b=some o)->Q none { s with heap:=h' }):wpAny (model prog w) A (pyNext (.ref I)) Q E s:=by
 have sz:(((es.size:Nat):Int) != ((es.size:Nat):Int))=false:=bne_self_eq_false _;have k1:∀(v1:Value) (k1:Nat) b o,b≠I->s.heap.get? b=some o->(s.heap.update I (Obj.mapFields (·.setIfInBounds k1 v1))).get? b=some o:=λv1 k1 b o hb e=>by rw[VD _ _ (λz=>hb z.symm)];exact e
 rcases c with ⟨hb,hI,e⟩ | ⟨hb,hd,sl,hI,hs,e⟩ | ⟨hb,hd,ps,htp,hI,hT,hp,e⟩
 ·have ty:s.TypeIs (.ref I) "set_iterator":=⟨_,hI,rfl⟩;unfold pyNext;refine SX (VP (Ul (name:=Str.ofString "__next__") ty cJ (Uk cJ ty iJ ?_ (jN _))));unfold Builtin.«set_iterator.__next__» slotArgs;refine SX (S6 (SX (W0 hI rfl ?_)));dsimp only;refine SX (Vz ho rfl hf ?_);rw[sz,Ti (by decide)]
  refine SX (GC hb ho hf ?_);have hi':(pickOrder (w.params.setOrder a ep) es)[((ord.length:Int)).toNat]?=none:=by rw[Va,Xa,e];simp
  rw[hi'];dsimp only[Option.map_none];refine SX (Vl hI rfl (by simp) ?_)
  exact uo hh λh' k=>q h' λb o hb e=>k b o (k1 _ _ b o hb e)
 ·have ty:s.TypeIs (.ref I) "set_iterator":=⟨_,hI,rfl⟩;unfold pyNext;refine SX (VP (Ul (name:=Str.ofString "__next__") ty cJ (Uk cJ ty iJ ?_ (jN _))));unfold Builtin.«set_iterator.__next__» slotArgs;refine SX (S6 (SX (W0 hI rfl ?_)));dsimp only;refine SX (Vz ho rfl hf ?_);rw[sz,Ti (by decide)]
  refine SX (GD hb hd ti ho hf ?_);have hi':es[ord.length]?=none:=by rw[Xa,e];simp
  rw[show ((sl:Int)).toNat=sl from Va sl,hs,hi']
  dsimp only;refine SX (Vl hI rfl (by simp) ?_)
  exact uo hh λh' k=>q h' λb o hb e=>k b o (k1 _ _ b o hb e)
 ·have ty:s.TypeIs (.ref I) "set_iterator":=⟨_,hI,rfl⟩;unfold pyNext;refine SX (VP (Ul (name:=Str.ofString "__next__") ty cJ (Uk cJ ty iJ ?_ (jN _))));unfold Builtin.«set_iterator.__next__» slotArgs;refine SX (S6 (SX (W0 hI rfl ?_)));dsimp only;refine SX (Vz ho rfl hf ?_);rw[sz,Ti (by decide)]
  refine SX (Vs hT rfl ?_);have g:((ps.map λ(p:Nat)=>rawInt (p:Int)).toArray)[((ord.length:Int)).toNat]?=none:=by rw[Va,Xa,e];simp
  dsimp only;rw[g];dsimp only;refine SX (Vl hI rfl (by simp) ?_)
  refine SX (Vl (jr hI) rfl (by simp) ?_)
  refine uo hh λh' k=>q h' λb o hb e=>k b o ?_
  rw[VD _ _ (λz=>hb z.symm)]
  exact k1 _ _ b o hb e
def yS(ho:s.heap.get? a=some (bc es ep t))(hf:t.fits es.size=true)(ti:TI (!bJ w) t)(hb:es.size<scanBound)
  (q:∀h' d' I tp ord,s.heap.objs.size<=I->(∀b o,s.heap.get? b=some o->h'.get? b=some o)->I<h'.objs.size->(tp=a\/(s.heap.objs.size<=tp/\tp<h'.objs.size))->pW w h' I a tp es ep t ord 0->ord.Perm (es.toList.map (·.2))->Q (.ref I) { s with heap:=h',drawn:=d' }):wpAny (model prog w) A (pyIter (.ref a)) Q E s:=by
 have ty:s.TypeIs (.ref a) "set":=⟨_,ho,rfl⟩;refine wpAny_pyIter_slot ty F.slot_set_iter (Uk F.slot_set_iter ty wN ?_ (F.args_set_iter_1 _));unfold Builtin.«frozenset.__iter__» Builtin.Frozenset.slot0 slotArgs Builtin.Frozenset.addrOf Builtin.Frozenset.sizeOf setDrawn setsByText;simp only[List.isEmpty_nil,Bool.not_true,Bool.false_eq_true,↓reduceIte,bind_assoc,List.length_nil,bne_self_eq_false];refine SX (S6 (SX (S6 ?_)));refine SX (Vz ho rfl hf (SX (S6 ?_)));refine SX (U4 ho rfl hf ?_);refine SX (Vq (SX (S6 (SX (S6 ?_)))));show wpAny _ _ (if (!bJ w&&(!t.plain&&decide (es.size > 1)))=true then _ else _) _ _ _
 by_cases hc:(!bJ w&&(!t.plain&&decide (es.size > 1)))=true
 ·rw[Tf hc];rw[Vi]at hc;have hB:bJ w=false:=by simpa using hc.1
  refine SX (vY es.size (List.range es.size) (by simp) λps d' hp=>?_)
  have pl:ps.length=es.size:=by rw[hp.length_eq,T9]
  simp only[newTuple,newFields];refine SX (Uj ?_ (by show _<=sizeLine;have:=WN hb;simp;lia))
  have ho1:=S5 { cls:=.type "tuple",data:=.seq ((ps.map λ(i:Nat)=>rawInt (i:Int)).toArray) } ho
  refine SX (wpAny_setEpoch_of ho1 rfl hf ?_);refine SX (Uj (S6 ⟨_,rfl, "set_iterator",_,⟨_,Tg _ rfl,rfl⟩,cJ.lookup,?_⟩) (by show _<=_;simp[sizeLine_eq]))
  refine q _ d' _ s.heap.objs.size (ps.map (λp=>(es.getD p (0,.none)).2)) (by dsimp only;simp only[Heap.size_push];lia) (λb o e=>S5 _ (S5 _ e)) (by dsimp only;simp only[Heap.size_push];lia) (.inr ⟨Td _,by dsimp only;simp only[Heap.size_push];exact Vu (U7 _)⟩) (.inr (.inr ⟨hB,hc.2,ps,?_,Tg _ rfl,S5 _ (Tg _ rfl),hp,rfl⟩)) ?_
  ·dsimp only;simp only[Heap.size_push];exact Tj (U7 _)
  ·refine (hp.map _).trans (List.Perm.of_eq ?_);apply XC;intro k;by_cases hk:k<es.size
   ·simp[hk,Array.getD]
   ·rw[Ur (by simp;lia),Ur (by simp;lia)]
 ·rw [Ti hc];refine SX (S6 ?_);simp only[newFields];refine SX (wpAny_setEpoch_of ho rfl hf ?_);refine SX (Uj (S6 ⟨_,rfl, "set_iterator",_,⟨_,Tg _ rfl,rfl⟩,cJ.lookup,?_⟩) (by show _<=_;simp[sizeLine_eq]))
  have fin:∀ord,pW w (s.heap.push (lQ #[.int 0 0,.int 0 0,.ref a,.int es.size 0,.int ep 0])) s.heap.objs.size a a es ep t ord 0->ord.Perm (es.toList.map (·.2))->Q (.ref s.heap.objs.size) { s with heap:=s.heap.push (lQ #[.int 0 0,.int 0 0,.ref a,.int es.size 0,.int ep 0]) }:=λord c p=>
   q _ s.drawn s.heap.objs.size a ord (Td _) (λb o e=>S5 _ e) (by rw[T5];lia) (.inl rfl) c p
  cases hB:bJ w with
  |true=>exact fin _ (.inl ⟨hB,Tg _ rfl,rfl⟩) ((G3 _ es).map _)
  |false=>
    rw[hB]at hc;have hd:(!t.plain&&decide (es.size > 1))=false:=by simpa using hc
    exact fin _ (.inr (.inl ⟨hB,hd,0,Tg _ rfl,CT ti.ris,rfl⟩)) (.refl _)
def pW.at(c:pW w h I a tp es ep t ord i)(k1:∀o,h.get? I=some o->h'.get? I=some o)(k2:∀o,h.get? tp=some o->h'.get? tp=some o):pW w h' I a tp es ep t ord i:=by
 rcases c with ⟨hb,hI,e⟩ | ⟨hb,hd,sl,hI,hs,e⟩ | ⟨hb,hd,ps,htp,hI,hT,hp,e⟩
 ·exact .inl ⟨hb,k1 _ hI,e⟩
 ·exact .inr (.inl ⟨hb,hd,sl,k1 _ hI,hs,e⟩)
 ·exact .inr (.inr ⟨hb,hd,ps,htp,k1 _ hI,k2 _ hT,hp,e⟩)
def pW.ty(c:pW w h I a tp es ep t ord i):∃vs,h.get? I=some (lQ vs):=by rcases c with ⟨hb,hI,e⟩ | ⟨hb,hd,sl,hI,hs,e⟩ | ⟨hb,hd,ps,htp,hI,hT,hp,e⟩<;>exact⟨_,hI⟩
def wL(hh:A.handled=none)(hf:t.fits es.size=true)(ti:TI (!bJ w) t)(hne:a≠I):
  Walks prog w A I [I,a,tp] [I] ord.length (λi v=>ord[i]?=some v) (λi h=>h.get? a=some (bc es ep t)/\pW w h I a tp es ep t ord i) where
 sub:=λb hb=>by simp at hb;simp[hb]
 frame:=λz z z st hk=>⟨hk a (by simp) _ st.1,st.2.at (λo e=>hk I (by simp) o e) λo e=>hk tp (by simp) o e⟩
 item:=λi s Q E hi st hQ=>next_item st.1 hf ti hne st.2 hi λh' sb c=>hQ _ h' s.toks (by simp[hi]) ⟨sb.extBut a _ hne st.1,c⟩ λb o hb e=>sb.extBut b o (λh=>hb (by simp[h])) e
 done:=λs Q E st hQ=>next_end hh st.1 hf ti st.2 λh' k=>hQ h' s.toks λb o hb e=>k b o (λh=>hb (by simp[h])) e
 self:=λi s Q E st hQ=>by obtain⟨vs,hI⟩:=st.2.ty;have ty:s.TypeIs (.ref I) "set_iterator":=⟨_,hI,rfl⟩;exact wpAny_pyIter_slot ty Cq (Uk Cq ty Ip (S6 ⟨_,rfl, "set_iterator",_,ty,cJ.lookup,hQ⟩) (J1 _))
end
def SetG.at(g:SetG prog w L h a ks)(k:∀o,h.get? a=some o->h'.get? a=some o):SetG prog w L h' a ks:=by obtain⟨es,ep,t,ho,r⟩:=g.ex;exact⟨es,ep,t,k _ ho,r⟩
def pC(ks:List Int)(k:Int):(if k∈ks then ks else ks++[k])=step_dedup ks k:=by
 unfold step_dedup;by_cases h:k∈ks
 ·rw[Tf h,Tf (V2.mpr ⟨k,h,by simp⟩)]
 ·rw[Ti h,Ti (λz=>by obtain⟨x,hx,e⟩:=V2.mp z;exact h (by rw[<-Yn.mp e];exact hx))]
section
variable{prog:Program}{w:World}{A:Around}{R:Result->Shared->Prop}{I:Addr}{fp wr:List Addr}{G:Array GenState->Array GenState->Prop}{n:Nat}{P:Nat->Value->Prop}{St:Nat->Shared->Prop}{L:Bool}
def jL(W:WalksS prog w A.in1 I fp wr G n P St)(S:Addr)(hSf:S∉fp)(val:Nat->Int)(hval:∀ i v,P i v->∃ t,v=.int (val i) t)(hb:n + 1<scanBound):∀ (k i:Nat) (s:Shared),n - i=k->i<=n->St i s->SetG prog w L s.heap S (firstMet val i)->
  (∀s',Moved (S::wr) G s s'->SetG prog w L s'.heap S (firstMet val n)->R (.ok (.ret .none)) s')->codeAny (model prog w) A (.builtin "set.update.loop" ⟨[.ref S,.ref I],[]⟩) R s:=by
 have nw:S∉wr:=λh=>hSf (W.sub _ h)
 have sub:∀b∈wr,b∈S::wr:=λb hb=>.tail _ hb
 intro k;induction k with
 |zero=>
   intro i s hk hi hst g hR;obtain rfl:i=n:=by lia
   refine Vo Xh ?_;rw[Vc V7 _];refine SX (m:=pyNext (.ref I)) (W.done s _ _ hst λs' hm=>?_)
   exact S6 (hR s' (hm.mono sub) (g.at λo e=>hm.heap S _ nw e))
 | succ k ih=>
   intro i s hk hi hst g hR;have lt:i<n:=by lia
   refine Vo Xh ?_;rw[Vc V7 _];refine SX (m:=pyNext (.ref I)) (W.item i s _ _ lt hst λv s' hP hst' hm=>?_)
   obtain⟨t,rfl⟩:=hval i v hP;have g':=g.at (h':=s'.heap) λo e=>hm.heap S _ nw e
   refine SX (m:=holding [Value.int (val i) t] (setAdd S (.int (val i) t))) (Up ?_);unfold setAdd;refine Up (SX ((intKind prog w).pyHash (k:=val i) (Xw _ _ _ _) ?_));have room:(firstMet val i).length+1<scanBound:=by have:=firstMet_length_le val i;lia
   refine add_int (s:={ s' with toks:=s'.toks+1 }) g' room λh' b sb g2=>?_
   rw[pC,<-firstMet_succ]at g2;refine S6 ⟨Wv V7 _,ih (i+1) _ (by lia) lt (W.frame _ s' _ _ hst' (WM _) λc hc o e=>?_) g2 λs2 hm2 g3=>?_⟩
   ·rw[sb.2 c (λz=>hSf (z ▸ hc))];exact e
   ·refine hR s2 (Moved.trans W.gtrans ((hm.mono sub).then_heap (WM _) λc o hc e=>?_) hm2) g3
    rw[sb.2 c (λz=>hc (z ▸ TY))];exact e
end
section
variable{prog:Program}{w:World}{A:Around}{E:Value->Shared->Prop}{s:Shared}
def KN(v:Value)(h:Q (.ref s.heap.objs.size) { s with heap:=s.heap.push (bc #[] 0 (.fresh 0 0 (!bJ w))) }):
  codeAny (model prog w) A (.call (.builtin "set.__new__") ⟨[.type "set",v],[]⟩) (wants Q E) s:=by
 refine Ym (SX (m:=checkBuiltinCall "set.__new__" ⟨[.type "set",v],[]⟩) (wpAny_of_eq (F.newCall_set_1 v) (S6 ⟨Wv F.plain_set_new _,Vo F.entry_set_new ?_⟩)));rw[Vc F.plain_set_new _];unfold Builtin.«set.__new__» Builtin.Frozenset.newClass;have hsub:=sub_set_self;obtain⟨hp,g,d,tk,os⟩:=s;dsimp only
 wp_walk
 refine Vq (S6 ?_);dsimp only;simp only[newObj];exact SX (wpAny_alloc (S6 (S6 h)))
def Hl{l:Addr}{ks:List Int}{Q:Value->Shared->Prop}
  (hin:Shared.TypeIs { s with heap:=s.heap.push (bc #[] 0 (.fresh 0 0 (!bJ w))) } (.ref s.heap.objs.size) "set"->codeAny (model prog w) A.in1 (.call (.builtin "set.__init__") ⟨[.ref s.heap.objs.size]++[.ref l],[]⟩) (wants (λr s2=>r=.none/\∃h' tk,s2={ s with heap:=h',toks:=tk }/\SetG prog w (!bJ w) h' s.heap.objs.size ks/\(∀b o,b<s.heap.objs.size->s.heap.get? b=some o->h'.get? b=some o)) E) { s with heap:=s.heap.push (bc #[] 0 (.fresh 0 0 (!bJ w))) })
  (h:∀(h':Heap) (tk:Nat),SetG prog w (!bJ w) h' s.heap.objs.size ks->(∀b o,b<s.heap.objs.size->s.heap.get? b=some o->h'.get? b=some o)->Q (.ref s.heap.objs.size) { s with heap:=h',toks:=tk }) :
  wpAny (model prog w) A (call (.type "set") [.ref l]) Q E s:=by
 obtain⟨c,tl,hmro⟩:=F.called_set.mro;have hmade:=F.called_set.made;have hsub:=F.called_set.sub;refine Yx (Ym (S6 ⟨Code.quiet_builtin _ (by decide +kernel),Vo F.entry_type_call ?_⟩))
 rw[Around.under_plain (weight_type_call_type "set" [.ref l] []) rfl];have h1:=F.called_set.notType;have h2:=F.called_set.canCreate;have hct:=F.typeCall_set_1 (.ref l)
 repeat (any_goals (first | assumption | wp_step))
 refine V8 (KN (.ref l) (E:=E) (Q:=λobj s1=>obj=.ref s.heap.objs.size/\s1={ s with heap:=s.heap.push (bc #[] 0 (.fresh 0 0 (!bJ w))) }) ⟨rfl,rfl⟩) λr s1 hr=>?_
 cases r with
 |error e=>exact hr
 | ok fl=>
   cases fl with
   | ret obj=>
     obtain⟨rfl,rfl⟩:=hr;have hS:(s.heap.push (bc #[] 0 (.fresh 0 0 (!bJ w)))).get? s.heap.objs.size=some (bc #[] 0 (.fresh 0 0 (!bJ w))):=Tg _ rfl;have hT:Shared.TypeIs { s with heap:=s.heap.push (bc #[] 0 (.fresh 0 0 (!bJ w))) } (.ref s.heap.objs.size) "set":=⟨_,hS,rfl⟩
     have hli:=F.called_set.init.lookup;have hbi:=F.called_set.init.bind (.ref s.heap.objs.size)
     repeat (any_goals (first | assumption | wp_step))
     refine V8 (hin hT) λr2 s2 hr2=>?_
     cases r2 with
     |error e=>exact hr2
     | ok fl2=>
       cases fl2 with
       |ret r=>
         obtain⟨rfl,h',tk,rfl,hS',hk'⟩:=hr2
         repeat (any_goals (first | assumption | wp_step))
         exact h _ _ hS' hk'
       |_=>exact hr2.elim
   |_=>exact hr.elim
end
theorem ints_of:∀ {l:List (Int×Value)},ElemsOf (intKind prog w) l->IntsAre (l.map (·.2)) (jJ l)
 |[],_=>.nil
 |e::l,h=>by
   obtain⟨t,q⟩:=yG h (TY (a:=e) (l:=l));show IntsAre (e.2::l.map (·.2)) (vInt e.2::jJ l);have ih:=ints_of (prog:=prog) (w:=w) (l:=l) λx hx=>h x (.tail _ hx)
   rw[q];exact .cons _ _ ih
def Gj(h:IntsAre vs ns)(p:vs'.Perm vs):∃ ns',IntsAre vs' ns'/\ns'.Perm ns:=by
 have key:∀ {vs:List Value}{ns:List Int},IntsAre vs ns->ns=vs.map vInt/\∀ v∈vs,∃ t,v=.int (vInt v) t:=λ{vs ns} h=>by
  induction h with
  |nil=>exact⟨rfl,λv hv=>by cases hv⟩
  |cons n t hr ih=>
    refine⟨by rw[Ud,<-ih.1];rfl,λv hv=>?_⟩
    rcases Tt.mp hv with rfl | hv
    ·exact⟨t,rfl⟩
    ·exact ih.2 v hv
 obtain⟨e,k⟩:=key h;have back:∀ (l:List Value),(∀ v∈l,∃ t,v=.int (vInt v) t)->IntsAre l (l.map vInt):=by
  intro l;induction l with
  |nil=>intro _;exact .nil
  |cons v l ih=>
    intro hl;obtain⟨t,q⟩:=hl v (TY);have r:=ih λx hx=>hl x (.tail _ hx)
    rw[Ud];generalize vInt v=i at q ⊢
    subst q;exact .cons _ _ r
 refine⟨vs'.map vInt,back vs' λv hv=>k v (p.mem_iff.mp hv),?_⟩
 rw[e];exact p.map _
def wY(h:b+1<=a):a≠b:=by lia
section
variable{prog:Program}{w:World}{A:Around}{E:Value->Shared->Prop}{s:Shared}
def yP(ho:s.heap.get? a=some (bc es ep t))(q:Q false s):wpAny (model prog w) A (Builtin.List.listLengthHint (.ref a)) Q E s:=by
 have ty:s.TypeIs (.ref a) "set":=⟨_,ho,rfl⟩;unfold Builtin.List.listLengthHint;refine SX (wpAny_specialOf ty F.slot_set_len.lookup ?_);have sp:splitId "set.__len__"=some ("set", "__len__"):=by decide +kernel
 dsimp only;rw[sp];dsimp only;refine SX (X5 (b:=true) ty sub_set_self ?_);refine SX (W2 ty ?_);exact S6 q
def Aj(hh:A.handled=none)(g:SetG prog w (!bJ w) s.heap a ks)(h:∀ h' tk d' vs ns,IntsAre vs ns->ns.Perm ks->s.heap.objs.size<=h'.objs.size->(∀ b o,s.heap.get? b=some o->h'.get? b=some o)->Q vs { s with heap:=h',toks:=tk,drawn:=d' }):wpAny (model prog w) A (collect (.ref a)) Q E s:=by
 obtain⟨es,ep,t,ho,hel,hp,hf,ti,hb⟩:=g.ex;have ia:=ints_of hel;unfold collect;refine SX (Yq (Vo X8 ?_));rw[Vc Yb _];refine SX (m:=newList []) (Uj (S6 ⟨Wv Wf _,Vo F.entry_list_iadd ?_⟩));rw[Vc Wf _];have ha:a<s.heap.objs.size:=Te ho;have ne:s.heap.objs.size≠a:=λz=>by rw[z]at ha;exact Vj _ ha
 have sr:Builtin.List.listSameRef (.ref s.heap.objs.size) (.ref a)=false:=by simp[Builtin.List.listSameRef,ne]
 have lst0:(s.heap.push (seqObj "list" #[] 0)).get? s.heap.objs.size=some (seqObj "list" #[] 0):=Tg _ rfl;have ho1:(s.heap.push (seqObj "list" #[] 0)).get? a=some (bc es ep t):=S5 _ ho;show wpAny _ A.in1 (Builtin.List.listExtendWith (.ref s.heap.objs.size) (.ref a) (.ref s.heap.objs.size)) _ _ { s with heap:=s.heap.push (seqObj "list" #[] 0) }
 unfold Builtin.List.listExtendWith;refine SX (W2 (T := "set") ⟨_,ho1,rfl⟩ ?_);rw[Ti (by rw[sr];decide)]
 refine SX (yS (s:={ s with heap:=s.heap.push (seqObj "list" #[] 0) }) ho1 hf ti hb λh1 d1 I tp ord hI k1 hI1 htp c po=>?_)
 have ho2:=k1 a _ ho1;have lst1:=k1 _ _ lst0;have szI:s.heap.objs.size+1<=I:=by have:(s.heap.push (seqObj "list" #[] 0)).objs.size<=I:=hI;rw[T5]at this;exact this
 refine SX (Up (yP ho2 ?_));dsimp only;refine SX (m:=rule _) (Vp ?_);unfold Builtin.List.listTouch;refine SX (SX (Ww lst1 rfl ?_ (by simp) (by simp)))
 have lst2:=Xe lst1 (λx:Array Value=>x.push .none)
 refine Ww lst2 rfl ?_ (by simp[sizeLine_eq]) (by simp)
 have lst3:=Xe lst2 (λx:Array Value=>x.pop)
 have up:∀b o,b≠s.heap.objs.size->h1.get? b=some o->((h1.update s.heap.objs.size (Obj.mapSeq λx=>x.push .none)).update s.heap.objs.size (Obj.mapSeq λx=>x.pop)).get? b=some o:=λb o hb e=>by rw[Wr _ _ _ _ hb,Wr _ _ _ _ hb];exact e
 have neI:I≠s.heap.objs.size:=wY szI;have netp:tp≠s.heap.objs.size:=by
  rcases htp with z | ⟨z,_⟩
  ·rw[z];exact λq=>ne q.symm
  ·have:s.heap.objs.size+1<=tp:=by have:(s.heap.push (seqObj "list" #[] 0)).objs.size<=tp:=z;rw[T5]at this;exact this
   exact wY this
 have hne:a≠I:=Tj (Wm ha szI);have hh1:A.in1.in1.handled=none:=by simp[hh]
 have W:=(wL (prog:=prog) (w:=w) (A:=A.in1) (I:=I) (a:=a) (tp:=tp) (es:=es) (ep:=ep) (t:=t) (ord:=ord) (by simp[hh]) hf ti hne).toS
 have ol:ord.length=es.size:=by rw[po.length_eq];simp
 refine S6 ⟨Wv F.plain_extend_loop _,codeAny_extend_loopS W (by rw[ol];exact WN hb) s.heap.objs.size (by simp;exact⟨λz=>neI z.symm,ne,λz=>netp z.symm⟩) _ ord.length 0 _ #[] _ rfl (Vb _) ⟨up a _ (λq=>ne q.symm) ho2,c.at (λo e=>up I o neI e) λo e=>up tp o netp e⟩ lst3 (ItemsOf.nil _) λs' acc c' hm hS' hacc=>?_⟩
 refine SX (m:=load s.heap.objs.size) (wpAny_load hS' ?_);have ea:acc.toList=ord:=by
  apply XC;intro k;by_cases hk:k<acc.size
  ·have:=hacc.2 k acc[k] (by rw[Uw hk])
   rw[this,Wc,Uw hk]
  ·rw[Ur (by simp;lia),Ur (by have:=hacc.1;lia)]
 obtain⟨h2,g2,d2,tk2,os2⟩:=s';have eg:g2=s.gens:=hm.gens;have ed:d2=d1:=hm.drawn;have eo:os2=s.os:=hm.os;subst eg ed eo;obtain⟨ns,hi,hpn⟩:=Gj ia (vs':=acc.toList) (by rw[ea];exact po)
 refine S6 (h h2 tk2 d2 acc.toList ns hi (hpn.trans hp) (Wn (Te hS')) λb o e=>?_)
 have lt:b<s.heap.objs.size:=Te e;refine hm.heap b o (by simp;exact⟨Tj lt,Tj (Wm lt szI)⟩) (up b o (Tj lt) (k1 b o (S5 _ e)))
def vh(hh:A.handled=none)(g:SetG prog w (!bJ w) s.heap a ks)(h64:ks.length<64)
  (h:∀h' tk d' p n vs ns,s.heap.objs.size<=p->h'.get? p=some (seqObj "list" (vs:List Value).toArray n)->IntsAre vs ns->ns.Perm ks->ns.Pairwise (·<= ·)->(∀b o,s.heap.get? b=some o->h'.get? b=some o)->Q (.ref p) { s with heap:=h',toks:=tk,drawn:=d' }) :
  wpAny (model prog w) A (call (.builtin "sorted") [.ref a]) Q E s:=by
 refine Wi kind_sorted plain_sorted entry_sorted (args_sorted1 _) ?_;unfold Builtin.«sorted»
 refine SX (m:=checkCount "sorted" 1 1 _) (S6 ?_);refine SX (Aj (by simp[hh]) g λh1 tk1 d1 vs ns hi hp sz k1=>?_)
 have vl:vs.length=ns.length:=Xx hi;have nl:ns.length=ks.length:=hp.length_eq;have zl:vs.toArray.size<=sizeLine:=by rw[TF,VB];lia
 refine SX (wpAny_newList ?_ zl);have oL:(h1.push (seqObj "list" vs.toArray 0)).get? h1.objs.size=some (seqObj "list" vs.toArray 0):=Tg _ rfl;refine SX (Up (Uk slot_list_sort ⟨_,oL,rfl⟩ entry_list_sort (list_sort_tree oL hi (by lia) λout ns' a1 a2 a3=>⟨_,rfl,?_⟩) (args_list_sort _)))
 obtain⟨e,he⟩:=sortedHeap_at (out:=out) oL;refine S6 ⟨_,rfl,h _ _ _ h1.objs.size e out.toList ns' sz (by simpa using he) a1 (a2.trans hp) a3 λb o eb=>?_⟩
 have lt:=Te (k1 b o eb);rw[sortedHeap_old (Tj lt) (by rw[size_push'];exact Vu lt)]
 exact S5 _ (k1 b o eb)
end
end LS
namespace L2
open PySem PySem.Spec PyProof.Rows LS
def j8(x:Int):List Int->List Int
 |[]=>[x]
 |y::r=>if x<=y then x::y::r else y::j8 x r
theorem qx(x:Int):∀ l:List Int,(j8 x l).Perm (x::l)
 |[]=>.refl _
 |y::r=>by
   unfold j8;split
   ·exact .refl _
   ·exact ((qx x r).cons y).trans (.swap x y r)
set_option tactic.hygienic true in
theorem wu(x:Int):∀ {l:List Int},l.Pairwise (·<= ·)->(j8 x l).Pairwise (·<= ·)
 |[],_=>by simp[j8]
 | y::r,h=>by
   unfold j8;split
   ·rename_i c;refine Us.mpr ⟨λz hz=>?_,h⟩
    rcases Tt.mp hz with rfl | hz
    ·exact c
    ·exact Int.le_trans c ((Us.mp h).1 z hz)
   ·rename_i c;have h':=Us.mp h;refine Us.mpr ⟨λz hz=>?_,wu x h'.2⟩
    rcases Tt.mp ((qx x r).mem_iff.mp hz) with rfl | hz
    ·lia
    ·exact h'.1 z hz
def eN(ns:List Int):List Int:=(ns.foldl step_dedup []).foldr j8 []
theorem bD:∀ l:List Int,(l.foldr j8 []).Perm l/\(l.foldr j8 []).Pairwise (·<= ·)
 |[]=>⟨.refl _,by simp⟩
 |x::l=>by obtain⟨a,b⟩:=bD l;exact⟨(qx x _).trans (a.cons x),wu x b⟩
theorem dD:∀ {a b:List Int},a.Perm b->a.Pairwise (·<= ·)->b.Pairwise (·<= ·)->a=b
 |[],b,p,_,_=>p.nil_eq
 |x::a,[],p,_,_=>by have:=p.length_eq;simp at this
 | x::a,y::b,p,ha,hb=>by
   have h1:=Us.mp ha;have h2:=Us.mp hb;have xy:x=y:=by
    have m1:x∈y::b:=p.mem_iff.mp (TY);have m2:y∈x::a:=p.mem_iff.mpr (TY);rcases Tt.mp m1 with e | m1
    ·exact e
    ·rcases Tt.mp m2 with e | m2
     ·exact e.symm
     ·exact Int.le_antisymm (h1.1 y m2) (h2.1 x m1)
   subst xy;rw[dD (List.Perm.cons_inv p) h1.2 h2.2]
def LC(ns:List Int):(eN ns).length<=ns.length:=by unfold eN;rw[(bD _).1.length_eq];exact foldl_step_dedup_nil_length_le ns
def yJ(ns:List Int):firstMet (λi=>ns.getD i 0) ns.length=ns.foldl step_dedup []:=by
 unfold firstMet;congr 1;apply XC;intro k;by_cases hk:k<ns.length
 ·simp[hk]
 ·rw[Ur (by simp;lia),Ur (by lia)]
theorem wA:∀ {ns:List Int}{us:List Value},Vals (ns.map V.int) us->IntsAre us ns
 |[],_,.nil=>.nil
 |n::ns,_,.cons r rr=>by obtain⟨t,rfl⟩:=r;exact .cons n t (wA rr)
def xY:bootBuiltins "sorted"=some (.builtin "sorted"):=by decide +kernel
def Fb:bootBuiltins "set"=some (.type "set"):=by decide +kernel
theorem Bs:∀ {vs:List Value}{ns:List Int},vs.length=ns.length->(∀ (j:Nat) v,vs[j]?=some v->∃ n t,ns[j]?=some n/\v=.int n t)->IntsAre vs ns
 |[],[],_,_=>.nil
 |[],_::_,h,_=>by cases h
 |_::_,[],h,_=>by cases h
 |v::vs,n::ns,h,q=>by obtain⟨m,t,e,rfl⟩:=q 0 v rfl;cases e;exact .cons _ _ (Bs (by simpa using h) λj v e=>q (j+1) v e)
section
variable{prog:Program}{w:World}{A:Around}{E:Value->Shared->Prop}{s:Shared}
def Ak(K:PySem.W.KdlSrc prog w T r d n P OK)(hh:A.handled=none)(hok:OK s.heap)(hn:n<=sizeLine)
  (h:∀h' tk (acc:Array Value),s.heap.objs.size<=h'.objs.size->(∀b o,s.heap.get? b=some o->h'.get? b=some o)->ItemsOf P acc n->Q acc.toList { s with heap:=h',toks:=tk }):wpAny (model prog w) A (collect (.ref r)) Q E s:=by
 unfold collect;refine SX (Yq (Vo X8 ?_));rw[Vc Yb _];refine SX (m:=newList []) (Uj (S6 ⟨Wv Wf _,Vo F.entry_list_iadd ?_⟩));rw[Vc Wf _];obtain⟨t1,t2⟩:=K.there _ hok;have lst0:(s.heap.push (seqObj "list" #[] 0)).get? s.heap.objs.size=some (seqObj "list" #[] 0):=Tg _ rfl;have ok1:OK (s.heap.push (seqObj "list" #[] 0)):=K.keep _ _ hok λb z o e=>S5 _ e
 show wpAny _ A.in1 (Builtin.List.listExtendWith (.ref s.heap.objs.size) (.ref r) (.ref s.heap.objs.size)) _ _ { s with heap:=s.heap.push (seqObj "list" #[] 0) }
 refine PySem.W.kdl_extend (A:=A) (R:=λq s'=>match q with
  | .ok (.ret v)=>wpAny (model prog w) A (match v with
    | .ref a=>do
      let o <-load a
      match o.data with
       |.seq xs _=>pure xs.toList
       |_=>unsupported "internal:collect"
    |_=>unsupported "internal:collect") Q E s'
  |.ok _=>False
  |.error e=>E e s') (s:={ s with heap:=s.heap.push (seqObj "list" #[] 0) }) K hh ok1 s.heap.objs.size (Wb t1) (Wb t2) (.ref s.heap.objs.size) 0 lst0 (λh1 tk1 acc c1 hk hS' hacc=>?_) hn
 refine SX (m:=load s.heap.objs.size) (wpAny_load hS' ?_);exact S6 (h h1 tk1 acc (Wn (Te hS')) (λb o e=>hk b o (Tj (Te e)) (S5 _ e)) hacc)
def Ax(hh:A.handled=none)(dd:s.heap.DictOf (mixKind prog w) a kvs)(lo:(a == sysModules)=false)(hk:kvs.map (·.1)=ks.map Sum.inl)(h64:ks.length<64)
  (h:∀h' tk p n vs ns,s.heap.objs.size<=p->h'.get? p=some (seqObj "list" (vs:List Value).toArray n)->IntsAre vs ns->ns.Perm ks->ns.Pairwise (·<= ·)->(∀b o,s.heap.get? b=some o->h'.get? b=some o)->Q (.ref p) { s with heap:=h',toks:=tk }) :
  wpAny (model prog w) A (call (.builtin "sorted") [.ref a]) Q E s:=by
 refine Wi kind_sorted plain_sorted entry_sorted (args_sorted1 _) ?_;unfold Builtin.«sorted»
 refine SX (m:=checkCount "sorted" 1 1 _) (S6 ?_);obtain⟨ep,hat⟩:=dd.dictAt;have kl:kvs.length=ks.length:=by have:=congrArg List.length hk;simpa using this
 refine SX (Ak (PySem.W.kdl_dict (knd:=mixKind prog w) (kvs:=kvs) (ep:=ep) lo) (by simp[hh]) hat (by rw[VB];lia) λh1 tk1 acc sz k1 hacc=>?_)
 have hi:IntsAre acc.toList ks:=Bs (by rw[U0,hacc.1,kl]) λj v e=>by
  obtain⟨k,x,e1,e2⟩:=hacc.2 j v (by rw[<-Wc];exact e)
  have e3:(kvs.map (·.1))[j]?=some k:=by rw[Tp,e1];rfl
  rw[hk,Tp]at e3;obtain⟨n,e4,rfl⟩:=S8.mp e3;have e2:keyIs (Sum.inl n) v=true:=by rw[<-mixKind_is prog w];exact e2
  rcases keyIs_shape e2 with ⟨i,t,h1,h2⟩ | ⟨x,t,h1,h2⟩
  ·cases h1;exact⟨n,t,e4,h2⟩
  ·cases h1
 have vl:acc.toList.length=ks.length:=Xx hi;have zl:acc.toList.toArray.size<=sizeLine:=by rw[TF,VB];lia
 refine SX (wpAny_newList ?_ zl);have oL:(h1.push (seqObj "list" acc.toList.toArray 0)).get? h1.objs.size=some (seqObj "list" acc.toList.toArray 0):=Tg _ rfl;refine SX (Up (Uk slot_list_sort ⟨_,oL,rfl⟩ entry_list_sort (list_sort_tree oL hi (by lia) λout ns' a1 a2 a3=>⟨_,rfl,?_⟩) (args_list_sort _)))
 obtain⟨e,he⟩:=sortedHeap_at (out:=out) oL;refine S6 ⟨_,rfl,h _ _ h1.objs.size e out.toList ns' sz (by simpa using he) a1 a2 a3 λb o eb=>?_⟩
 have lt:=Te (k1 b o eb);rw[sortedHeap_old (Tj lt) (by rw[size_push'];exact Vu lt)]
 exact S5 _ (k1 b o eb)
end
def qN(ks:List Int):List Int:=ks.foldr j8 []
def yj(hh:X.A.handled=none):CallR X (.builtin "sorted") (λxs H Q=>∃ (p:Addr) (kvs:List (Key×V)) (ks:List Int),xs=[.ref p]/\H p=some (.dK kvs)/\kvs.map (·.1)=ks.map Sum.inl/\ks.length<=60/\∀ l,H l=none->Q (.ref l) (upd H l (.lst ((qN ks).map V.int)))):=by
 intro YB s σ H xs us Q I r1 h;obtain⟨p,kvs,ks,rfl,hp,hk,hl,q⟩:=h;cases r1 with
 | cons r rr=>
   cases rr;cases r;obtain⟨z,lo,vs,rel,dd⟩:=dk_of I.hok hp;have hkk:vs.map (·.1)=ks.map Sum.inl:=by rw[<-rel.keys,hk]
   refine Ax hh dd lo hkk (by lia) λh2 tk2 l m ws ms hge hol ims pm so k2=>?_
   have em:ms=qN ks:=dD (pm.trans (bD _).1.symm) so (bD _).2;have zl:((qN ks).map V.int).length<=sizeLine:=by
    have e:(qN ks).length=ks.length:=(bD ks).1.length_eq;rw[S9,e];show _<=2^24
    lia
   have I2:=I.call (h':=h2) (t':=tk2) (d':=s.drawn) (g':=s.gens) (ch:=[]) (Un.laid k2 hge (I.hok.fresh hge)) (I.hok.laid (o:=.lst ((qN ks).map V.int)) k2 hge ⟨zl,ws,m,by rw[<-em];exact vals_ints ims,hol⟩) I.bare (λy z=>nomatch z)
   exact⟨.ref l,upd H l (.lst ((qN ks).map V.int)),I2,rfl,q l (I.hok.fresh hge)⟩
end L2
namespace LS
open PySem PySem.Spec PyProof.Rows
section
variable{prog:Program}{w:World}{A:Around}{E:Value->Shared->Prop}{s:Shared}
def Ff{l:Addr}{items:Array Value}{ns:List Int}{Q:Value->Shared->Prop}(hh:A.handled=none)(hl:s.heap.IsTuple l items)(hi:IntsAre items.toList ns)(hb:items.size + 1<scanBound)
  (h:∀(h':Heap) (tk:Nat),SetG prog w (!bJ w) h' s.heap.objs.size (firstMet (λi=>ns.getD i 0) items.size)->(∀b o,b<s.heap.objs.size->s.heap.get? b=some o->h'.get? b=some o)->Q (.ref s.heap.objs.size) { s with heap:=h',toks:=tk }) :
  wpAny (model prog w) A (call (.type "set") [.ref l]) Q E s:=by
 refine Hl (ks:=firstMet (λi=>ns.getD i 0) items.size) (λhT=>codeAny_call_builtin F.called_set.init.plain F.entry_set_init (check_set_init_1 hT ?_)) h
 have hS:(s.heap.push (bc #[] 0 (.fresh 0 0 (!bJ w)))).get? s.heap.objs.size=some (bc #[] 0 (.fresh 0 0 (!bJ w))):=Tg _ rfl;obtain⟨ol,hol,hcl,nl,hdl⟩:=hl;obtain⟨ocls,odict,odata,oslots⟩:=ol;simp only at hcl hdl;subst hcl;subst hdl;have hol':(s.heap.push (bc #[] 0 (.fresh 0 0 (!bJ w)))).get? l=some { cls:=.type "tuple",dict:=odict,data:=.seq items nl,slots:=oslots }:=S5 _ hol;have hsls:=F.sub_tuple_set;have hslf:=F.sub_tuple_frozenset;have hne:(Value.type "tuple"==Value.type "dict")=false:=by decide
 have hl1:(s.heap.push (bc #[] 0 (.fresh 0 0 (!bJ w)))).IsTuple l items:=⟨_,hol',rfl,nl,rfl⟩;unfold Builtin.«set.__init__» noKeywords Builtin.Frozenset.updateFrom;generalize hPI:pyIter=PI
 wp_walk
 subst hPI;refine wpAny_pyIter_tuple hl1 (SX (Yq ?_));have hlS:l<s.heap.objs.size:=Te hol;have hh3:A.in1.in1.in1.handled=none:=by simp[hh]
 have hneI:l≠(s.heap.push (bc #[] 0 (.fresh 0 0 (!bJ w)))).objs.size:=by rw[T5];exact Tj (Vu hlS)
 have hSf:s.heap.objs.size∉[(s.heap.push (bc #[] 0 (.fresh 0 0 (!bJ w)))).objs.size,l]:=by rw[T5];simp only[List.mem_cons,List.mem_singleton,List.not_mem_nil,or_false,not_or];exact⟨Tj (U7 _),Wb hlS⟩
 have hval:∀(i:Nat) (v:Value),items[i]?=some v->∃t,v=.int ((λi=>ns.getD i 0) i) t:=λi v hv=>IntsAre.int_at hi i v (by rw[Wc];exact hv)
 refine jL (L:=!bJ w) ((Walks.tuple hh3 _ l hneI items).toS) s.heap.objs.size hSf (λi=>ns.getD i 0) hval hb (items.size-0) 0 _ (by lia) (Vb _) ⟨⟨_,Tg _ rfl,rfl,rfl⟩,(hl1.push _)⟩ ?hS0 ?hR
 case hS0=>exact⟨#[],0,_,S5 _ hS,(λe he=>by simp at he),.refl _,rfl,TI.fresh 0 0,by decide⟩
 case hR=>
  intro s' hm hS';obtain⟨h',g',d',tk',os'⟩:=s';have eg:g'=s.gens:=hm.gens;have ed:d'=s.drawn:=hm.drawn;have eo:os'=s.os:=hm.os;subst eg;subst ed;subst eo;refine S6 (S6 ⟨rfl,h',tk',rfl,hS',λb o hb e=>?_⟩)
  have hb2:b≠(s.heap.push (bc #[] 0 (.fresh 0 0 (!bJ w)))).objs.size:=by rw[T5];exact Tj (Vu hb)
  exact hm.heap b o (by simp only[List.mem_cons,List.mem_singleton,List.not_mem_nil,or_false,not_or];exact⟨Tj hb,hb2⟩) (S5 _ (S5 _ e))
end
end LS
namespace L2
open PySem PySem.Spec PyProof.Rows LS
end L2
namespace L2
open PySem PySem.Spec PyProof.Rows
end L2
namespace L2
open PySem PySem.Spec PyProof.Rows LS
end L2
namespace L2
open PySem PySem.Spec PyProof.Rows
end L2
namespace L2
open PySem PySem.Spec PyProof.Rows
open PySem PySem.Spec PyProof.Rows
end L2
namespace L2
open PySem PySem.Spec PyProof.Rows
section
variable{X:Cx}{tg:Expr}
def Rq(lo hi c:Int):Prop:=0<=lo/\lo<2^20/\0<=hi/\hi<2^20/\1<=c/\c<2^20
end
open PySem PySem.Spec PyProof.Rows
open PySem PySem.Spec PyProof.Rows
end L2
namespace L2
open PySem PySem.Spec PyProof.Rows LS
end L2
namespace L2
open PySem PySem.Spec PyProof.Rows
end L2
namespace LB
open PySem PySem.W PyProof.Rows
def aR{α:Type}(o:Nat->Nat->Bool):KasT α->α
 |.ret a=>a
 |.ask i j k=>aR o (k (o i j))
theorem gG:∀(t:KasT α),aR o (t.bind f)=aR o (f (aR o t))
 |.ret _=>rfl
 |.ask i j k=>gG (k (o i j))
structure Ord(K:Type) where
 le:K->K->Prop
 dec:∀a b,Decidable (le a b)
 rfl:∀a,le a a
 trans:∀{a b c},le a b->le b c->le a c
 tot:∀a b,le a b\/le b a
section
variable{K:Type}(R:Ord K)(v:Nat->K)
def ans(i j:Nat):Bool:=!(R.dec (v j) (v i)).decide
def V(p:Array Nat)(i:Nat):K:=v (p.getD i 0)
def SU(p:Array Nat)(n:Nat):Prop:=∀i j,i<=j->j<n->R.le (V v p i) (V v p j)
def DU(p:Array Nat)(n:Nat):Prop:=∀i j,i<=j->j<n->R.le (V v p j) (V v p i)
variable{R v}{p:Array Nat}
def wV(h:ans R v i j=true):R.le (v i) (v j):=by
 have n:¬ R.le (v j) (v i):=by simpa[ans] using h
 exact (R.tot _ _).resolve_right n
def ut(h:¬ ans R v i j=true):R.le (v j) (v i):=by simpa[ans] using h
def nH{p q:Array Nat}{i j:Nat}(h:p[i]?=q[j]?):p.getD i 0=q.getD j 0:=by rw[Ux,Ux,h]
set_option tactic.hygienic true in
def jH{i j:Nat}(hj:j<=p.size)(k:Nat):V v (kas_rev p i j) k=if i<=k/\k<j then V v p (i+j-1-k) else V v p k:=by
 have h:=getElem?_mirror_all (i:=i) hj k;unfold V kas_rev;split
 ·rename_i c;rw[Tf c]at h;rw[nH h]
 ·rename_i c;rw[Ti c]at h;rw[nH h]
def Jy{s d:Nat}(hs:s<p.size)(hd:d<=s)(k:Nat):V v (bubble p s d) k=if k=s-d then V v p s else if s-d<k/\k<=s then V v p (k-1) else V v p k:=by
 have h:=getElem?_bubble hs d hd k;by_cases c:k=s-d
 ·rw[Tf c]at h ⊢;exact congrArg v (nH h)
 ·rw[Ti c]at h ⊢
  by_cases c2:s-d<k/\k<=s
  ·rw[Tf c2]at h ⊢;exact congrArg v (nH h)
  ·rw[Ti c2]at h ⊢;exact congrArg v (nH h)
def ug(i j:Nat):(kas_rev p i j).Perm p:=mirror_perm _ _ _ _
def SU.up(h:SU R v p n)(h1:1<=n)(q:R.le (V v p (n-1)) (V v p n)):SU R v p (n+1):=λi j hij hj=>by
 by_cases c:j<n
 ·exact h i j hij c
 ·obtain rfl:j=n:=by lia
  by_cases d:i=j
  ·subst d;exact R.rfl _
  ·exact R.trans (h i (j-1) (by lia) (by lia)) q
def DU.up(h:DU R v p n)(h1:1<=n)(q:R.le (V v p n) (V v p (n-1))):DU R v p (n+1):=λi j hij hj=>by
 by_cases c:j<n
 ·exact h i j hij c
 ·obtain rfl:j=n:=by lia
  by_cases d:i=j
  ·subst d;exact R.rfl _
  ·exact R.trans q (h i (j-1) (by lia) (by lia))
theorem xX:∀ (f n:Nat),1<=n->SU R v p n->SU R v p (aR (ans R v) (kas_asc p f n))/\n<=aR (ans R v) (kas_asc p f n)/\aR (ans R v) (kas_asc p f n)<=n + f/\(aR (ans R v) (kas_asc p f n)<n + f->R.le (V v p (aR (ans R v) (kas_asc p f n))) (V v p (aR (ans R v) (kas_asc p f n) - 1)))
 |0,n,_,h=>⟨h,Td _,Td _,λz=>absurd z (Vj _)⟩
 | f + 1,n,h1,h=>by
   by_cases c:ans R v (p.getD n 0) (p.getD (n-1) 0)=true
   ·have e:aR (ans R v) (kas_asc p (f+1) n)=n:=by
     show aR (ans R v) (if ans R v (p.getD n 0) (p.getD (n-1) 0)=true then .ret n else _)=n
     rw[Tf c];rfl
    rw[e];exact⟨h,Td _,by lia,λy=>wV c⟩
   ·have e:aR (ans R v) (kas_asc p (f+1) n)=aR (ans R v) (kas_asc p f (n+1)):=by
     show aR (ans R v) (if ans R v (p.getD n 0) (p.getD (n-1) 0)=true then .ret n else _)=_
     rw[Ti c]
    rw[e];obtain⟨a,b,d,g⟩:=xX f (n+1) (by lia) (h.up h1 (ut c))
    exact⟨a,by lia,by lia,λz=>g (by lia)⟩
structure De(R:Ord K)(v:Nat->K)(p₀ p:Array Nat)(n q:Nat):Prop where
 du:DU R v p n
 pm:p.Perm p₀
 le:q+1<=n
 eq:∀k,n-(q+1)<=k->k<n->R.le (V v p k) (V v p (n-1))/\R.le (V v p (n-1)) (V v p k)
def De.rev(h:De R v p₀ p n q)(hn:n<=p₀.size):DU R v (kas_rev p (n-(q+1)) n) n/\(kas_rev p (n-(q+1)) n).Perm p₀:=by
 refine⟨λi j hij hj=>?_,(ug _ _).trans h.pm⟩
 have hn':n<=p.size:=by rw[h.pm.size_eq];exact hn
 have:=h.le;rw[jH hn',jH hn'];by_cases a:n-(q+1)<=i/\i<n
 ·rw[Tf a,Tf (by lia)]
  exact R.trans (h.eq _ (by lia) (by lia)).1 (h.eq _ (by lia) (by lia)).2
 ·rw[Ti a];by_cases b:n-(q+1)<=j/\j<n
  ·rw[Tf b];exact h.du _ _ (by lia) (by lia)
  ·rw[Ti b];exact h.du _ _ hij hj
def De.zero(a:DU R v p n)(b:p.Perm p₀)(c:1<=n):De R v p₀ p n 0:=⟨a,b,c,λk h1 h2=>by
 obtain rfl:k=n-1:=by lia
 exact⟨R.rfl _,R.rfl _⟩⟩
def Iz(h:De R v p₀ p n q)(hn:n<=p₀.size):R.le (V v p (n-1)) (V v (kas_rev p (n-(q+1)) n) (n-1)):=by
 have hn':n<=p.size:=by rw[h.pm.size_eq];exact hn
 have:=h.le;rw[jH hn',Tf (by lia)]
 exact (h.eq _ (by lia) (by lia)).2
def vU(hj:j<=p.size)(hk:j<=k):V v (kas_rev p i j) k=V v p k:=by rw[jH hj,Ti (by lia)]
theorem qZ:∀ (f:Nat) (p:Array Nat) (n q:Nat),n + f<=p₀.size->De R v p₀ p n q->∃ p' n' q',aR (ans R v) (kas_desc f p n q)=(p',n',q')/\n<=n'/\n'<=n + f/\De R v p₀ p' n' q'
 |0,p,n,q,_,h=>⟨p,n,q,rfl,Td _,Td _,h⟩
 | f + 1,p,n,q,hs,h=>by
   have h1:=h.le;by_cases c:ans R v (p.getD n 0) (p.getD (n-1) 0)=true
   ·by_cases hq:q > 0
    ·have e:aR (ans R v) (kas_desc (f+1) p n q)=aR (ans R v) (kas_desc f (kas_rev p (n-(q+1)) n) (n+1) 0):=by
      show aR (ans R v) (if ans R v (p.getD n 0) (p.getD (n-1) 0)=true then (if q > 0 then _ else _) else _)=_
      rw[Tf c,Tf hq]
     rw[e];obtain⟨d1,d2⟩:=h.rev (by lia)
     have hn':n<=p.size:=by rw[h.pm.size_eq];lia
     have d3:DU R v (kas_rev p (n-(q+1)) n) (n+1):=d1.up (by lia) (by rw[vU hn' (Td _)];exact R.trans (wV c) (Iz h (by lia)))
     obtain⟨p',n',q',e1,e2,e3,e4⟩:=qZ f _ (n+1) 0 (by lia) (De.zero d3 d2 (by lia))
     exact⟨p',n',q',e1,by lia,by lia,e4⟩
    ·have e:aR (ans R v) (kas_desc (f+1) p n q)=aR (ans R v) (kas_desc f p (n+1) 0):=by
      show aR (ans R v) (if ans R v (p.getD n 0) (p.getD (n-1) 0)=true then (if q > 0 then _ else _) else _)=_
      rw[Tf c,Ti hq]
     rw[e];obtain⟨p',n',q',e1,e2,e3,e4⟩:=qZ f p (n+1) 0 (by lia) (De.zero (h.du.up (by lia) (wV c)) h.pm (by lia))
     exact⟨p',n',q',e1,by lia,by lia,e4⟩
   ·by_cases d:ans R v (p.getD (n - 1) 0) (p.getD n 0)=true
    ·refine⟨p,n,q,?_,Td _,by lia,h⟩
     show aR (ans R v) (if ans R v (p.getD n 0) (p.getD (n-1) 0)=true then _ else _)=_
     rw[Ti c];show aR (ans R v) (if ans R v (p.getD (n-1) 0) (p.getD n 0)=true then _ else _)=_
     rw[Tf d];rfl
    ·have e:aR (ans R v) (kas_desc (f + 1) p n q)=aR (ans R v) (kas_desc f p (n + 1) (q + 1)):=by
      show aR (ans R v) (if ans R v (p.getD n 0) (p.getD (n-1) 0)=true then _ else _)=_
      rw[Ti c];show aR (ans R v) (if ans R v (p.getD (n-1) 0) (p.getD n 0)=true then _ else _)=_
      rw[Ti d]
     rw[e];have x1:R.le (V v p (n-1)) (V v p n):=ut c;have x2:R.le (V v p n) (V v p (n-1)):=ut d;have hh:De R v p₀ p (n+1) (q+1):=⟨h.du.up (by lia) x2,h.pm,by lia,λk hk1 hk2=>by
      show R.le (V v p k) (V v p n)/\R.le (V v p n) (V v p k);by_cases z:k=n
      ·subst z;exact⟨R.rfl _,R.rfl _⟩
      ·obtain⟨y1,y2⟩:=h.eq k (by lia) (by lia)
       exact⟨R.trans y1 x1,R.trans x2 y2⟩⟩
     obtain⟨p',n',q',e1,e2,e3,e4⟩:=qZ f p (n+1) (q+1) (by lia) hh
     exact⟨p',n',q',e1,by lia,by lia,e4⟩
def Cn(R:Ord K)(v:Nat->K)(p₀:Array Nat)(r:Nat×Array Nat):Prop:=SU R v r.2 r.1/\r.2.Perm p₀/\r.1<=p₀.size
def Cy(h1:1<=n)(hn:n<=p₀.size)(d:DU R v p n)(pm:p.Perm p₀):Cn R v p₀ (aR (ans R v) (kas_tail3 n p₀.size p)):=by
 have hn':n<=p.size:=by rw[pm.size_eq];exact hn
 have s:SU R v (kas_rev p 0 n) n:=λi j hij hj=>by
  rw[jH hn',jH hn',Tf (by lia),Tf (by lia)]
  exact d _ _ (by lia) (by lia)
 obtain⟨a,b,c,_⟩:=xX (p:=kas_rev p 0 n) (p₀.size-n) n h1 s;unfold kas_tail3;rw[gG];exact⟨a,(ug _ _).trans pm,by show aR _ _<=_;lia⟩
def Ca(h1:1<=n)(hn:n+1<=p₀.size)(d:DU R v p (n+1))(pm:p.Perm p₀):Cn R v p₀ (aR (ans R v) (kas_descPart n p₀.size p)):=by
 obtain⟨p',n',q',e1,e2,e3,e4⟩:=qZ (p₀:=p₀) (p₀.size-(n+1)) p (n+1) 0 (by lia) (De.zero d pm (by lia))
 unfold kas_descPart;rw[gG,e1];show Cn R v p₀ (aR _ (if q' > 0 then _ else _))
 split
 ·obtain⟨d1,d2⟩:=e4.rev (by lia)
  exact Cy (n:=n') (by lia) (by lia) d1 d2
 ·exact Cy (n:=n') (by lia) (by lia) e4.du e4.pm
def H9(h1:1<=p₀.size):Cn R v p₀ (aR (ans R v) (kas_count p₀.size p₀)):=by
 have s1:SU R v p₀ 1:=λi j hij hj=>by
  obtain rfl:i=j:=by lia
  exact R.rfl _
 obtain⟨a,b,c,g⟩:=xX (p:=p₀) (p₀.size-1) 1 (Td _) s1;unfold kas_count;rw[gG];generalize aR (ans R v) (kas_asc p₀ (p₀.size-1) 1)=n at a b c g;by_cases e:(n==p₀.size)=true
 ·rw[Tf e];exact⟨a,.refl _,by show n<=_;lia⟩
 ·rw [Ti e];have ne:n≠p₀.size:=by simpa using e
  have g':=g (by lia)
  by_cases h:n > 1
  ·rw [Tf h];show Cn R v p₀ (aR _ (if ans R v (p₀.getD 0 0) (p₀.getD (n-1) 0)=true then _ else _))
   by_cases x:ans R v (p₀.getD 0 0) (p₀.getD (n-1) 0)=true
   ·rw[Tf x];exact⟨a,.refl _,by show n<=_;lia⟩
   ·rw[Ti x];have al:R.le (V v p₀ (n-1)) (V v p₀ 0):=ut x;have d:DU R v (kas_rev p₀ 0 n) n:=λi j hij hj=>by
     rw[jH (by lia),jH (by lia),Tf (by lia),Tf (by lia)]
     exact a _ _ (by lia) (by lia)
    refine Ca (by lia) (by lia) (d.up (by lia) ?_) (ug _ _)
    rw[vU (by lia) (Td _),jH (by lia),Tf (by lia)]
    exact R.trans g' (R.trans al (a 0 _ (by lia) (by lia)))
  ·rw[Ti h];obtain rfl:n=1:=by lia
   refine Ca (Td _) (by lia) ?_ (.refl _)
   have d1:DU R v p₀ 1:=λi j hij hj=>by
    obtain rfl:i=j:=by lia
    exact R.rfl _
   exact d1.up (Td _) g'
theorem ue(s:SU R v p k):∀ (f l r:Nat),l<=r->r<=k->r - l<=f->(∀ i,i<l->R.le (V v p i) (V v p k))->(∀ i,r<=i->i<k->R.le (V v p k) (V v p i))->
  aR (ans R v) (kas_place p k f l r)<=k/\(∀i,i<aR (ans R v) (kas_place p k f l r)->R.le (V v p i) (V v p k))/\∀i,aR (ans R v) (kas_place p k f l r)<=i->i<k->R.le (V v p k) (V v p i)
 |0,l,r,h1,h2,h3,a,b=>by
   obtain rfl:l=r:=by lia
   exact⟨h2,a,b⟩
 | f + 1,l,r,h1,h2,h3,a,b=>by
   by_cases c:l ≥ r
   ·have e:aR (ans R v) (kas_place p k (f+1) l r)=l:=by
     show aR (ans R v) (if l ≥ r then .ret l else _)=l
     rw[Tf c];rfl
    rw[e];exact⟨by lia,a,λi hi=>b i (by lia)⟩
   ·by_cases d:ans R v (p.getD k 0) (p.getD ((l + r) / 2) 0)=true
    ·have e:aR (ans R v) (kas_place p k (f+1) l r)=aR (ans R v) (kas_place p k f l ((l+r) / 2)):=by
      show aR (ans R v) (if l ≥ r then .ret l else _)=_
      rw[Ti c];show aR (ans R v) (if ans R v (p.getD k 0) (p.getD ((l+r) / 2) 0)=true then _ else _)=_
      rw[Tf d]
     rw[e];have x:R.le (V v p k) (V v p ((l+r) / 2)):=wV d;exact ue s f l _ (by lia) (by lia) (by lia) a λi hi hk=>R.trans x (s _ _ hi hk)
    ·have e:aR (ans R v) (kas_place p k (f+1) l r)=aR (ans R v) (kas_place p k f ((l+r) / 2+1) r):=by
      show aR (ans R v) (if l ≥ r then .ret l else _)=_
      rw[Ti c];show aR (ans R v) (if ans R v (p.getD k 0) (p.getD ((l+r) / 2) 0)=true then _ else _)=_
      rw[Ti d]
     rw[e];have x:R.le (V v p ((l+r) / 2)) (V v p k):=ut d;exact ue s f _ r (by lia) (by lia) (by lia) (λi hi=>R.trans (s i _ (by lia) (by lia)) x) b
theorem Ez:∀ (f:Nat) (p:Array Nat) (k:Nat),k + f=p₀.size->p.Perm p₀->SU R v p k->SU R v (aR (ans R v) (kas_bin f p k)) p₀.size/\(aR (ans R v) (kas_bin f p k)).Perm p₀
 |0,p,k,h,pm,s=>by
   obtain rfl:k=p₀.size:=by lia
   exact⟨s,pm⟩
 | f + 1,p,k,h,pm,s=>by
   obtain⟨a,b,c⟩:=ue s k 0 k (by lia) (Td _) (by lia) (λi hi=>by lia) (λi h1 h2=>by lia)
   show SU R v (aR (ans R v) ((kas_place p k k 0 k).bind λl=>kas_bin f (bubble p k (k-l)) (k+1))) _/\(aR (ans R v) ((kas_place p k k 0 k).bind λl=>kas_bin f (bubble p k (k-l)) (k+1))).Perm p₀
   rw[gG];generalize aR (ans R v) (kas_place p k k 0 k)=l at a b c;have ks:k<p.size:=by rw[pm.size_eq];lia
   refine Ez f _ (k+1) (by lia) ((bubble_perm _ _ _).trans pm) λi j hij hj=>?_
   rw[Jy ks (by lia),Jy ks (by lia)]
   have el:k-(k-l)=l:=by lia
   rw[el];by_cases c1:i=l
   ·rw[Tf c1];by_cases c2:j=l
    ·rw[Tf c2];exact R.rfl _
    ·rw[Ti c2,Tf (by lia)]
     exact c _ (by lia) (by lia)
   ·rw [Ti c1];by_cases c3:l<i/\i<=k
    ·rw[Tf c3,Ti (by lia),Tf (by lia)]
     exact s _ _ (by lia) (by lia)
    ·rw[Ti c3];by_cases c2:j=l
     ·rw[Tf c2];exact b _ (by lia)
     ·rw[Ti c2];by_cases c4:l<j/\j<=k
      ·rw[Tf c4];exact s _ _ (by lia) (by lia)
      ·rw[Ti c4];exact s _ _ (by lia) (by lia)
def Lz(h2:1<=n):SU R v (aR (ans R v) (kas_sort n)) n/\(aR (ans R v) (kas_sort n)).Perm (List.range n).toArray:=by
 have z:(List.range n).toArray.size=n:=by simp
 have c:=H9 (R:=R) (v:=v) (p₀:=(List.range n).toArray) (by lia)
 rw[z]at c;unfold kas_sort;rw[gG];revert c;generalize aR (ans R v) (kas_count n (List.range n).toArray)=r;obtain⟨m,p⟩:=r;rintro⟨a,b,d⟩;dsimp only at a b d ⊢
 rw[z]at d;by_cases e:m<n
 ·rw [Tf e];have q:=Ez (R:=R) (v:=v) (p₀:=(List.range n).toArray) (n-max m 1) p (max m 1) (by rw[z];lia) b (by
   by_cases x:1<=m
   ·rw[Nat.max_eq_left x];exact a
   ·have:max m 1=1:=by lia
    rw[this];intro i j hij hj;obtain rfl:i=j:=by lia
    exact R.rfl _)
  rw[z]at q;exact q
 ·rw[Ti e];obtain rfl:m=n:=by lia
  exact⟨a,b⟩
end
def fW{α:Type}(n:Nat)(P:α->Prop):KasT α->Prop
 |.ret a=>P a
 |.ask i j k=>i<n/\j<n/\∀b,fW n P (k b)
theorem fW.bind{α β:Type}{n:Nat}{P:α->Prop}{P':β->Prop}{f:α->KasT β}(hf:∀a,P a->fW n P' (f a)):∀{t:KasT α},fW n P t->fW n P' (t.bind f)
 |.ret a,h=>hf a h
 |.ask _ _ k,h=>⟨h.1,h.2.1,λb=>fW.bind hf (h.2.2 b)⟩
theorem CK(h:∀i j C,i<n->j<n->C (o i j) s->cmp i j C s):∀(t:KasT α),fW n P t->Q (aR o t) s->t.kasWp cmp Q s
 |.ret _,_,q=>q
 |.ask i j k,b,q=>h i j _ b.1 b.2.1 (CK h (k (o i j)) (b.2.2 _) q)
def Bd(n:Nat)(p:Array Nat):Prop:=0<n/\∀x∈p.toList,x<n
theorem Bd.at(h:Bd n p)(i:Nat):p.getD i 0<n:=by
 rw[Ux];cases e:p[i]? with
 |none=>exact h.1
 |some x=>exact h.2 x (by rw[W7]at e;obtain⟨h1,rfl⟩:=e;simp)
def Bd.perm(h:Bd n p)(pm:q.Perm p):Bd n q:=⟨h.1,λx hx=>h.2 x ((Array.perm_iff_toList_perm.mp pm).mem_iff.mp hx)⟩
def Bd.rev(h:Bd n p)(i j:Nat):Bd n (kas_rev p i j):=h.perm (mirror_perm _ _ _ _)
theorem xW(h:Bd n p):∀ (f m:Nat),fW n (λz=>True) (kas_asc p f m)
 |0,_=>trivial
 |f+1,m=>⟨h.at _,h.at _,λb=>by
   cases b
   ·exact xW h f (m+1)
   ·exact trivial⟩
theorem qY:∀ (f:Nat) (p:Array Nat) (m q:Nat),Bd n p->fW n (λr=>Bd n r.1) (kas_desc f p m q)
 |0,p,_,_,h=>h
 | f + 1,p,m,q,h=>⟨h.at _,h.at _,λb=>by
   cases b
   ·exact⟨h.at _,h.at _,λb=>by
     cases b
     ·exact qY f _ _ _ h
     ·exact h⟩
   ·show fW n _ (if q > 0 then _ else _)
    split
    ·exact qY f _ _ _ (h.rev _ _)
    ·exact qY f _ _ _ h⟩
def Cw{n m k:Nat}{p:Array Nat}(h:Bd n p):fW n (λr=>Bd n r.2) (kas_tail3 m k p):=by
 unfold kas_tail3;refine fW.bind (P:=λz=>True) (λa z=>?_) (xW (h.rev _ _) _ _)
 show Bd n (kas_rev p 0 m);exact h.rev 0 m
def BZ{n m k:Nat}{p:Array Nat}(h:Bd n p):fW n (λr=>Bd n r.2) (kas_descPart m k p):=fW.bind (P:=λr=>Bd n r.1) (λr hr=>by
 split
 ·exact Cw (hr.rev _ _)
 ·exact Cw hr) (qY _ _ _ _ h)
def H8{n k:Nat}{p:Array Nat}(h:Bd n p):fW n (λr=>Bd n r.2) (kas_count k p):=fW.bind (P:=λz=>True) (λm z=>by
 split
 ·exact h
 ·split
  ·exact⟨h.at _,h.at _,λb=>by
    cases b
    ·exact BZ (h.rev _ _)
    ·exact h⟩
  ·exact BZ h) (xW h _ _)
theorem ud(h:Bd n p)(k:Nat):∀ (f l r:Nat),fW n (λz=>True) (kas_place p k f l r)
 |0,_,_=>trivial
 | f + 1,l,r=>by
   unfold kas_place;split
   ·exact trivial
   ·exact⟨h.at _,h.at _,λb=>by
     cases b
     ·exact ud h k f _ _
     ·exact ud h k f _ _⟩
theorem Ey{n:Nat}:∀(f:Nat) (p:Array Nat) (k:Nat),Bd n p->fW n (λz=>True) (kas_bin f p k)
 |0,_,_,_=>trivial
 |f+1,p,k,h=>fW.bind (P:=λz=>True) (λl z=>Ey f _ _ (h.perm (bubble_perm _ _ _))) (ud h _ _ _ _)
def Ly{n:Nat}(h:0<n):fW n (λz=>True) (kas_sort n):=by
 have b:Bd n (List.range n).toArray:=⟨h,λx hx=>by simpa using hx⟩
 refine fW.bind (P:=λr=>Bd n r.2) (λr hr=>?_) (H8 b)
 split
 ·exact Ey _ _ _ hr
 ·exact trivial
end LB
namespace LB
open PySem PySem.W PySem.Calls PyProof.Rows
def dF:List Int->List Int->Bool
 |[],[]=>false
 |[],_::_=>true
 |_::_,[]=>false
 |a::x,b::y=>if a=b then dF x y else decide (a<b)
theorem BK:∀x,dF x x=false
 |[]=>rfl
 |a::x=>by simp[dF,BK x]
theorem BL:∀ {x y:List Int},dF x y=false->dF y x=false->x=y
 |[],[],_,_=>rfl
 |[],_::_,h,_=>by cases h
 |_::_,[],_,h=>by cases h
 | a::x,b::y,h1,h2=>by
   simp only[dF]at h1 h2;by_cases c:a=b
   ·subst c;rw[Tf rfl]at h1 h2;rw[BL h1 h2]
   ·rw[Ti c]at h1;rw[Ti (Ne.symm c)]at h2;simp at h1 h2
    lia
theorem tZ:∀ {x y:List Int},dF x y=true->dF y x=false
 |[],[],h=>by cases h
 |[],_::_,_=>rfl
 |_::_,[],h=>by cases h
 | a::x,b::y,h=>by
   simp only[dF]at h ⊢
   by_cases c:a=b
   ·subst c;rw[Tf rfl]at h ⊢
    exact tZ h
   ·rw[Ti c]at h;rw[Ti (Ne.symm c)];simp at h ⊢
    lia
theorem qm:∀ {x y z:List Int},dF y x=false->dF z y=false->dF z x=false
 |[],[],[],_,_=>rfl
 |[],[],_::_,_,_=>rfl
 |[],_::_,[],_,h=>by cases h
 |[],_::_,_::_,_,_=>rfl
 |_::_,[],_,h,_=>by cases h
 |_::_,_::_,[],_,h=>by cases h
 | a::x,b::y,c::z,h1,h2=>by
   simp only[dF]at h1 h2 ⊢
   by_cases e1:b=a
   ·subst e1;rw[Tf rfl]at h1;by_cases e2:c=b
    ·subst e2;rw[Tf rfl]at h2 ⊢
     exact qm h1 h2
    ·rw[Ti e2]at h2 ⊢
     exact h2
   ·rw[Ti e1]at h1;by_cases e2:c=b
    ·subst e2;rw[Ti e1];exact h1
    ·rw[Ti e2]at h2;simp at h1 h2;rw[Ti (by lia)]
     simp
     lia
def iQ:Ord (List Int) where
 le x y:=dF y x=false
 dec x y:=inferInstance
 rfl:=BK
 trans:=qm
 tot x y:=by
  cases h:dF y x
  ·exact .inl rfl
  ·exact .inr (tZ h)
def tV(x:List Int):List (List Int)->List (List Int)
 |[]=>[x]
 |y::r=>if dF y x=false then x::y::r else y::tV x r
def Aa(l:List (List Int)):List (List Int):=l.foldr tV []
theorem qw(x:List Int):∀ l,(tV x l).Perm (x::l)
 |[]=>.refl _
 |y::r=>by
   unfold tV;split
   ·exact .refl _
   ·exact ((qw x r).cons y).trans (.swap x y r)
abbrev my(l:List (List Int)):Prop:=l.Pairwise λx y=>dF y x=false
set_option tactic.hygienic true in
theorem wj(x:List Int):∀ {l:List (List Int)},my l->my (tV x l)
 |[],_=>by simp[tV,my]
 | y::r,h=>by
   have h':=Us.mp h;unfold tV;split
   ·rename_i c;exact Us.mpr ⟨λz hz=>by
     rcases Tt.mp hz with rfl | hz
     ·exact c
     ·exact qm c (h'.1 z hz),h⟩
   ·rename_i c;refine Us.mpr ⟨λz hz=>?_,wj x h'.2⟩
    rcases Tt.mp ((qw x r).mem_iff.mp hz) with rfl | hz
    ·exact tZ (by simpa using c)
    ·exact h'.1 z hz
theorem iV:∀ l:List (List Int),(Aa l).Perm l/\my (Aa l)
 |[]=>⟨.refl _,List.Pairwise.nil⟩
 |x::l=>by obtain⟨a,b⟩:=iV l;exact⟨(qw x _).trans (a.cons x),wj x b⟩
theorem wF:∀ {a b:List (List Int)},a.Perm b->my a->my b->a=b
 |[],b,p,_,_=>(List.nil_perm.mp p).symm
 |x::a,[],p,_,_=>absurd p.length_eq (by simp)
 | x::a,y::b,p,ha,hb=>by
   have ha':=Us.mp ha;have hb':=Us.mp hb;have e:x=y:=by
    have m1:y∈x::a:=p.mem_iff.mpr (TY);have m2:x∈y::b:=p.mem_iff.mp (TY);rcases Tt.mp m1 with e | m1
    ·exact e.symm
    ·rcases Tt.mp m2 with e | m2
     ·exact e
     ·exact BL (hb'.1 x m2) (ha'.1 y m1)
   subst e;rw[wF (List.Perm.cons_inv p) ha'.2 hb'.2]
section
variable{prog:Program}{w:World}{A:Around}{E:Value->Shared->Prop}{s:Shared}{b fin:Bool}{Q:Bool->Shared->Prop}
theorem yX:∀ {xs ys:List Value}{x y:List Int} (i:Nat),IntsAre xs x->IntsAre ys y->fin=decide (x.length<y.length)->Q (dF x y) s->KatLex prog w A b fin Q (xs.zip ys) i s
 |[],[],_,_,i,.nil,.nil,hf,q=>by have e:fin=false:=hf;subst e;exact kat_nil q
 |[],_::_,_,_,i,.nil,.cons m u r,hf,q=>by
   have e:fin=true:=by rw[hf];simp
   subst e;exact kat_nil q
 |_::_,[],_,_,i,.cons m u r,.nil,hf,q=>by
   have e:fin=false:=by rw[hf];simp
   subst e;exact kat_nil q
 | _::xs,_::ys,_,_,i,.cons m t (ns:=x) r,.cons n u (ns:=y) r',hf,q=>by
   rw[Wa];refine kat_cons ((intKind prog w).eqBool (a:=m) (b:=n) (Xw _ _ _ _) (Xw _ _ _ _) ?_);by_cases c:m=n
   ·rw[Tw c];have q':Q (dF x y) s:=by rw[dF,Tf c]at q;exact q
    exact kat_yes (yX (i+1) r r' (by rw[hf];simp) q')
   ·rw[Uq c];have q':Q (decide (m<n)) s:=by rw[dF,Ti c]at q;exact q
    refine kat_no ?_;cases (b&&i==0) with
    |true=>exact oneLt_int q'
    |false=>exact kat_one _ _ (PySem.P.lt_int q')
end
def TupAt(h:Heap)(v:Value)(t:List Int):Prop:=t≠[]/\∃a its,v=.ref a/\IsTup h a its/\IntsAre its.toList t
abbrev gH(h:Heap):List Value->List (List Int)->Prop:=Paired (TupAt h)
theorem oZ:∀{xs:List α}{ys:List β}{i:Nat}{x:α}{y:β},Paired R xs ys->xs[i]?=some x->ys[i]?=some y->R x y
 |_,_,0,_,_,.cons r _,e1,e2=>by cases e1;cases e2;exact r
 |_,_,i+1,_,_,.cons _ t,e1,e2=>oZ (i:=i) t e1 e2
theorem gH.keep(k:∀a its,IsTup h a its->IsTup h' a its):∀{vs:List Value}{ts:List (List Int)},gH h vs ts->gH h' vs ts
 |_,_,.nil=>.nil
 |_,_,.cons ⟨n,a,its,e,i,q⟩ t=>.cons ⟨n,a,its,e,k _ _ i,q⟩ (gH.keep k t)
section
variable{prog:Program}{w:World}{A:Around}{E:Value->Shared->Prop}{s:Shared}
theorem vZ:∀ {vs:List Value}{ts:List (List Int)},gH h vs ts->∃ fs,KatTups h vs fs/\fs.length=vs.length/\∀ v∈fs,∃ i t,v=.int i t
 |_,_,.nil=>⟨[],.nil,rfl,λv hv=>by cases hv⟩
 | _,_,.cons r tl=>by
   obtain⟨fs,k,l,q⟩:=vZ tl;obtain⟨ne,a,its,rfl,⟨o,ho,hc,n,hd⟩,hi⟩:=r;obtain⟨l'⟩:=its;cases hi with
   |nil=>exact absurd rfl ne
   |cons i t r2=>
     refine⟨_::fs,KatTups.cons ho hc hd rfl k,by simp[l],λv hv=>?_⟩
     rcases Tt.mp hv with rfl | hv
     ·exact⟨i,t,rfl⟩
     ·exact q v hv
def Gq(h:gH s.heap vs ts)(h1:0<vs.length)(q:Q (tuples' true) s):wpAny (model prog w) A (keyKind' vs.toArray) Q E s:=by obtain⟨fs,k,l,f⟩:=vZ h;exact kat_kind (T:=.type "int") k (by lia) (λv hv=>by obtain⟨i,t,rfl⟩:=f v hv;exact Looks.of_pure rfl) (by decide) q
def HN(h:gH s.heap vs ts)(hi:i<vs.length)(hj:j<vs.length)(q:C (dF (ts.getD i []) (ts.getD j [])) s):kas_ask prog w A (tuples' true) vs i j C s:=by
 have hl:=W8 h;unfold kas_ask;have e1:vs.getD i Value.none=vs[i]:=by simp[hi]
 have e2:vs.getD j Value.none=vs[j]:=by simp[hj]
 have t1:ts.getD i []=ts[i]'(by lia):=by simp[show i<ts.length by lia]
 have t2:ts.getD j []=ts[j]'(by lia):=by simp[show j<ts.length by lia]
 rw[e1,e2];rw[t1,t2]at q;obtain⟨_,a,its,ea,⟨oa,hoa,_,na,hda⟩,ia⟩:=oZ (i:=i) h (Tc hi) (Tc (by lia))
 obtain⟨_,b,jts,eb,⟨ob,hob,_,nb,hdb⟩,ib⟩:=oZ (i:=j) h (Tc hj) (Tc (by lia))
 rw[ea,eb];refine kat_lt hoa hda hob hdb (yX 0 ia ib ?_ q);have:=Xx ia;have:=Xx ib;simp at *;congr 1
 lia
end
def Mv{ts:List (List Int)}(i j:Nat):ans iQ (λi=>ts.getD i []) i j=dF (ts.getD i []) (ts.getD j []):=by
 by_cases h:dF (ts.getD i []) (ts.getD j [])=true
 ·rw[h];have:¬ iQ.le (ts.getD j []) (ts.getD i []):=λz=>by have z:dF (ts.getD i []) (ts.getD j [])=false:=z;rw[h]at z;cases z
  unfold ans;rw[@decide_eq_false _ (iQ.dec _ _) this];rfl
 ·have h:dF (ts.getD i []) (ts.getD j [])=false:=by simpa using h
  have:iQ.le (ts.getD j []) (ts.getD i []):=h;unfold ans;rw[h,@decide_eq_true _ (iQ.dec _ _) this];rfl
def Pj{p:Array Nat}{ts:List (List Int)}{n:Nat}(h:SU iQ (λi=>ts.getD i []) p n)(hs:p.size=n):my (p.toList.map λi=>ts.getD i []):=by
 rw[my,WQ,Vn];intro i j h1 h2 hij;have h1':i<p.size:=by simpa using h1
 have h2':j<p.size:=by simpa using h2
 have z:dF (ts.getD (p.getD j 0) []) (ts.getD (p.getD i 0) [])=false:=h i j (Wn hij) (by lia)
 have e1:p.getD i 0=p.toList[i]:=by simp[Array.getD,h1']
 have e2:p.getD j 0=p.toList[j]:=by simp[Array.getD,h2']
 rw[e1,e2]at z;exact z
section
variable{prog:Program}{w:World}{A:Around}{E:Value->Shared->Prop}{s:Shared}
structure Srt(vs:List Value)(ts:List (List Int))(is:List Nat):Prop where
 lt:∀i∈is,i<vs.length
 pm:is.Perm (List.range vs.length)
 ris:my (is.map λi=>ts.getD i [])
def vH(ho:s.heap.get? a=some (seqObj "list" vs.toArray n))
  (hT:gH s.heap vs ts) (h64:vs.length<64)
  (h:∀is,Srt vs ts is->P (.done (.ret .none)) { s with heap:=sortedHeap s.heap a vs (is.map λi=>vs.getD i Value.none).toArray }) :
  wpAny (model prog w) A (Builtin.«list.sort» ⟨[.ref a],[]⟩) P E s:=by
 have hl:=W8 hT;rw[list_sort_plain];have ha:a<s.heap.objs.size:=Te ho;refine SX (listItems_at ho rfl ?_);refine SX (Ww ho rfl ?_);obtain⟨e1,ho1⟩:∃e1,(s.heap.update a (Obj.mapSeq λy=>#[])).get? a=some (seqObj "list" #[] e1):=⟨_,Xe ho (λy=>#[])⟩
 refine SX (seqEpoch_at ho1 rfl ?_);refine SX (wpAny_newTuple ?_);refine SX (wpAny_newList ?_);refine Up ?_;have ho6:(((s.heap.update a (Obj.mapSeq λy=>#[])).push (seqObj "tuple" vs.toArray 0)).push (seqObj "list" #[] 0)).get? a=some (seqObj "list" #[] e1):=by
  rw[XJ _ _ _ (by rw[size_push',XS];exact Tj (Vu ha)),XJ _ _ _ (by rw[XS];exact Tj ha)]
  exact ho1
 have kp:∀b its,IsTup s.heap b its->IsTup (((s.heap.update a (Obj.mapSeq λy=>#[])).push (seqObj "tuple" vs.toArray 0)).push (seqObj "list" #[] 0)) b its:=λb its hb=>by
  obtain⟨o,hb,hc,r⟩:=hb;have ne:b≠a:=λz=>by subst z;rw[ho]at hb;cases hb;have hc:Value.type "list"=Value.type "tuple":=hc;exact absurd hc (by decide)
  have lt:=Te hb;refine⟨o,?_,hc,r⟩;rw[XJ _ _ _ (by rw[size_push',XS];exact Tj (Vu lt)),XJ _ _ _ (by rw[XS];exact Tj lt),Wr _ _ _ _ ne]
  exact hb
 have hT':=hT.keep kp;show wpAny (model prog w) A _ P E { s with heap:=((s.heap.update a (Obj.mapSeq λy=>#[])).push (seqObj "tuple" vs.toArray 0)).push (seqObj "list" #[] 0) }
 dsimp only;have hsz:vs.toArray.size=vs.length:=by simp
 by_cases h2:vs.toArray.size<2
 ·rw[Tf h2,Tf h2];refine SX (S6 ?_);rw[StateT.run_pure];refine SX (S6 ?_);dsimp only;refine SX (seqEpoch_at ho6 rfl ?_);refine SX (Ww ho6 rfl ?_ (hsz2:=by rw[Array.size_map];show (pairsOf vs).size<=_;rw[pairsOf_size,VB];lia))
  simp only[bne_self_eq_false,Bool.false_eq_true,if_false];have fin:=h (List.range vs.length) ⟨λi hi=>Th.mp hi,.refl _,by
   rw[hsz]at h2
   match vs,h2 with
   |[],_=>exact List.Pairwise.nil
   |[_],_=>exact List.pairwise_singleton _ _
   |_::_::_,z=>simp at z;lia⟩
  have e:((List.range vs.length).map λi=>vs.getD i Value.none).toArray=(arrOf (SortSt.mk' general' (vs.toArray.zip vs.toArray) #[] 7 none)).map (·.2):=by
   show _=(vs.toArray.zip vs.toArray).map (·.2);rw[hsz]at h2
   match vs,h2 with
   |[],_=>simp
   |[_],_=>simp
   |_::_::_,z=>simp at z;lia
  rw[e]at fin;exact S6 fin
 ·rw [Ti h2,Ti h2];rw[hsz]at h2;refine SX (Gq hT' (by lia) ?_)
  obtain⟨su,pm⟩:=Lz (R:=iQ) (v:=λi=>ts.getD i []) (n:=vs.length) (by lia)
  have pl:(aR (ans iQ λi=>ts.getD i []) (kas_sort vs.length)).toList.Perm (List.range vs.length):=by simpa using Array.perm_iff_toList_perm.mp pm
  have fin:=h (aR (ans iQ λi=>ts.getD i []) (kas_sort vs.length)).toList ⟨λi hi=>Th.mp (pl.mem_iff.mp hi),pl,by exact Pj su (by have:=pl.length_eq;simp only[Array.length_toList,List.length_range]at this;exact this)⟩
  have ask:(kas_sort vs.length).kasWp (kas_ask prog w A (tuples' true) vs) (λp s'=>p=aR (ans iQ λi=>ts.getD i []) (kas_sort vs.length)/\s'={ s with heap:=((s.heap.update a (Obj.mapSeq λy=>#[])).push (seqObj "tuple" vs.toArray 0)).push (seqObj "list" #[] 0) }) { s with heap:=((s.heap.update a (Obj.mapSeq λy=>#[])).push (seqObj "tuple" vs.toArray 0)).push (seqObj "list" #[] 0) }:=
   CK (o:=ans iQ λi=>ts.getD i []) (λi j C hi hj q=>HN hT' hi hj (by
    have e:ans iQ (λi=>ts.getD i []) i j=dF (ts.getD i []) (ts.getD j []):=by exact Mv _ _
    rw[e]at q;exact q)) _ (Ly (by lia)) ⟨rfl,rfl⟩
  refine SX (Tz (kat_run (Q:=λst' s'=>arrOf st'=(aR (ans iQ λi=>ts.getD i []) (kas_sort vs.length)).map (kas_item (vs.toArray.zip vs.toArray))/\failedOf st'=none/\s'={ s with heap:=((s.heap.update a (Obj.mapSeq λy=>#[])).push (seqObj "tuple" vs.toArray 0)).push (seqObj "list" #[] 0) })
   rfl (by lia) h64 (λp' st' s' a1 a2 a3 a4=>by obtain⟨rfl,rfl⟩:=a4;exact⟨a2,a3,rfl⟩) ask) ?_ λy y e=>e)
  rintro⟨⟨⟩,st'⟩ s' ⟨har,hf,rfl⟩;dsimp only;have hout:=kat_snds (vs:=vs) rfl har;refine SX (seqEpoch_at ho6 rfl ?_);rw[hout];refine SX (Ww ho6 rfl ?_ (hsz2:=by rw[TF,S9,VB];have:=pl.length_eq;simp at this ⊢;lia))
  rw[hf];simp only[bne_self_eq_false,Bool.false_eq_true,if_false];exact S6 fin
end
end LB
namespace L2
open PySem PySem.Spec PyProof.Rows LS LB
theorem qQ:∀ {ns:List Int}{us:List Value},Vals (ns.map V.int) us->IntsAre us ns
 |[],_,.nil=>.nil
 |n::ns,_,.cons r t=>by obtain⟨k,rfl⟩:=r;exact .cons _ _ (qQ t)
end L2
namespace LB
open PySem PySem.W PySem.Calls PyProof.Rows
end LB
namespace L2
open PySem PySem.Spec PyProof.Rows LS LB
end L2
namespace LA
open PySem LS
def pY(m:Nat)(p:SetTable.Probe):SetTable.Probe:=
 if p.more > 0 then { p with j:=p.j+1,more:=p.more-1 } else
 { p with j:=(SetTable.leap m p.i p.perturb).1,more:=SetTable.runEnd m (SetTable.leap m p.i p.perturb).1-(SetTable.leap m p.i p.perturb).1,i:=(SetTable.leap m p.i p.perturb).1,perturb:=(SetTable.leap m p.i p.perturb).2 }
def rs(m i q:Nat):SetTable.Probe:={ j:=i,more:=SetTable.runEnd m i-i,i:=i,perturb:=q,dummy:=none }
def st(m:Nat)(h:Int):SetTable.Probe:=rs m (SetTable.bits h%(m+1)) (SetTable.bits h)
def pr(m:Nat)(h:Int):Nat->SetTable.Probe
 |0=>st m h
 |n+1=>pY m (pr m h n)
def J(m:Nat)(h:Int)(n:Nat):Nat:=(pr m h n).j
theorem zy(m:Nat)(h:Int):∀ n,(pr m h n).dummy=none
 |0=>rfl
 |n+1=>by have ih:=zy m h n;show (pY m (pr m h n)).dummy=none;unfold pY;split<;>exact ih
def lp(m:Nat)(h:Int):Nat->Nat×Nat
 |0=>(SetTable.bits h%(m+1),SetTable.bits h)
 |n+1=>SetTable.leap m (lp m h n).1 (lp m h n).2
def Pk(m i:Nat):SetTable.runEnd m i-i<=9:=by unfold SetTable.runEnd;split<;>lia
def zT(m i:Nat):i<=SetTable.runEnd m i:=by unfold SetTable.runEnd;split<;>lia
def zU(h:i<=m):SetTable.runEnd m i<=m:=by unfold SetTable.runEnd;split<;>lia
theorem qp(e:pr m h n=rs m i q):∀ k,k<=SetTable.runEnd m i - i->pr m h (n + k)={ rs m i q with j:=i + k,more:=SetTable.runEnd m i - i - k }
 |0,_=>e
 |k+1,hk=>by
   have ih:=qp e k (by lia)
   show pY m (pr m h (n+k))=_;rw[ih];unfold pY;rw[Tf (by show SetTable.runEnd m i-i-k > 0;lia)]
   show SetTable.Probe.mk _ _ _ _ _=SetTable.Probe.mk _ _ _ _ _;congr 1
def Ja(e:pr m h n=rs m i q):pr m h (n+(SetTable.runEnd m i-i)+1)=rs m (SetTable.leap m i q).1 (SetTable.leap m i q).2:=by
 have:=qp e _ (Td _);show pY m (pr m h (n+(SetTable.runEnd m i-i)))=_;rw[this];unfold pY;rw[Ti (by show ¬ SetTable.runEnd m i-i-(SetTable.runEnd m i-i) > 0;lia)]
 rfl
def bg(m:Nat)(h:Int):Nat->Nat
 |0=>0
 |L+1=>bg m h L+(SetTable.runEnd m (lp m h L).1-(lp m h L).1)+1
theorem JD(m:Nat)(h:Int):∀L,pr m h (bg m h L)=rs m (lp m h L).1 (lp m h L).2
 |0=>rfl
 |L+1=>Ja (JD m h L)
theorem JC(m:Nat)(h:Int):∀ L,bg m h L<=10 * L
 |0=>Td _
 |L+1=>by
   have:=JC m h L;have:=Pk m (lp m h L).1;show bg m h L+(SetTable.runEnd m (lp m h L).1-(lp m h L).1)+1<=_
   lia
def wR(m:Nat)(h:Int)(L k:Nat)(hk:k<=SetTable.runEnd m (lp m h L).1-(lp m h L).1):J m h (bg m h L+k)=(lp m h L).1+k:=by unfold J;rw[qp (JD m h L) k hk]
theorem Oo(m:Nat)(h:Int):∀ L,(lp m h L).2=SetTable.bits h / 32 ^ L
 |0=>by simp[lp]
 |L+1=>by show (lp m h L).2 / 32=_;rw[Oo m h L,Nat.div_div_eq_div_mul,Nat.pow_succ]
def J3(h:Int):SetTable.bits h<2^64:=by
 unfold SetTable.bits;have a:=Int.emod_nonneg h (show (2^64:Int)≠0 by decide)
 have b:=Int.emod_lt_of_pos h (show (0:Int)<2^64 by decide)
 have e:((2^64:Int))=((2^64:Nat):Int):=by norm_cast
 lia
def Ky(m:Nat)(h:Int)(L:Nat):(lp m h (13+L)).2=0:=by
 rw[Oo];refine Nat.div_eq_of_lt (Tr (J3 h) ?_);have:(32:Nat)^13<=32^(13+L):=Nat.pow_le_pow_right (by decide) (by lia)
 exact Ue (by decide) this
def Fq(m:Nat):Nat->Nat->Nat
 |0,i=>i
 |k+1,i=>(Fq m k i*5+1)%(m+1)
theorem Gx(m:Nat)(h:Int):∀ k,(lp m h (13 + k)).1=Fq m k (lp m h 13).1
 |0=>rfl
 |k+1=>by show ((lp m h (13+k)).1*5+1+(lp m h (13+k)).2 / 32)%(m+1)=_;rw[Ky,Gx m h k];rfl
def JL(m:Nat)(h:Int):∀L,(lp m h L).1<=m
 |0=>XH (UV _ (by lia))
 |L+1=>XH (UV _ (by lia))
def MK(m:Nat):Prop:=m=7\/m=31
def J6:∀{m:Nat},MK m->∀i s,i<=m->s<=m->∃k,k<=m/\Fq m k i=s:=by
 intro m hm i s hi hs;have c7:∀i:Fin 8,∀s:Fin 8,((List.range 8).any λk=>Fq 7 k i==s)=true:=by decide
 have c31:∀i:Fin 32,∀s:Fin 32,((List.range 32).any λk=>Fq 31 k i==s)=true:=by decide +kernel
 rcases hm with rfl | rfl
 ·have:=c7 ⟨i,by lia⟩ ⟨s,by lia⟩
  obtain⟨k,hk,e⟩:=V2.mp this;exact⟨k,by have:=Th.mp hk;lia,by simpa using e⟩
 ·have:=c31 ⟨i,by lia⟩ ⟨s,by lia⟩
  obtain⟨k,hk,e⟩:=V2.mp this;exact⟨k,by have:=Th.mp hk;lia,by simpa using e⟩
def Gw(hm:MK m)(h:Int)(hs:s<=m):∃L,L<m+15/\(lp m h L).1=s:=by obtain⟨k,hk,e⟩:=J6 hm _ s (JL m h 13) hs;exact⟨13+k,by lia,by rw[Gx];exact e⟩
def visit(hm:MK m)(h:Int)(hs:s<=m):∃n,n<10*(m+15)/\J m h n=s:=by
 obtain⟨L,hL,e⟩:=Gw hm h hs;refine⟨bg m h L,by have:=JC m h L;lia,?_⟩
 have:=wR m h L 0 (Vb _);rw[Yp,Yp]at this;rw[this,e]
def yK{P:Nat->Prop}:∀ {n:Nat},P n->∃ k,k<=n/\P k/\∀ m,m<k->¬ P m:=by
 intro n;induction n using Nat.strongRecOn with
 | ind n ih=>
   intro h;by_cases c:∃m,m<n/\P m
   ·obtain⟨m,hm,hp⟩:=c;obtain⟨k,h1,h2,h3⟩:=ih m hm hp;exact⟨k,by lia,h2,h3⟩
   ·exact⟨n,Td _,h,λm hm hp=>c ⟨m,hm,hp⟩⟩
def G4:∀ (m:Nat) (l:List Nat),l.length<=m->∃ s,s<=m/\s∉l:=by
 intro m;induction m with
 |zero=>intro l hl;exact⟨0,Td _,by have:l=[]:=Xy.mp (by lia);rw[this];simp⟩
 | succ m ih=>
   intro l hl;by_cases c:m+1∈l
   ·obtain⟨s,h1,h2⟩:=ih (l.erase (m+1)) (by rw[List.length_erase_of_mem c];lia)
    exact⟨s,by lia,λz=>h2 ((List.mem_erase_of_ne (by lia)).mpr z)⟩
   ·exact⟨m+1,Td _,c⟩
def Io{m:Nat}(hm:MK m)(h:Int){l:List Nat}(hl:l.length<=m):∃n,n<10*(m+15)/\J m h n∉l/\∀k,k<n->J m h k∈l:=by
 obtain⟨s,hs,ns⟩:=G4 m l hl;obtain⟨n,hn,e⟩:=visit hm h hs;obtain⟨k,h1,h2,h3⟩:=yK (P:=λn=>J m h n∉l) (n:=n) (by rw[e];exact ns)
 exact⟨k,by lia,h2,λi hi=>Classical.byContradiction λz=>h3 i hi z⟩
set_option tactic.hygienic true in
def Ms:∀ n,J m h n<=m:=by
 have key:∀ n,(pr m h n).i<=m/\(pr m h n).j + (pr m h n).more<=m:=by
  intro n;induction n with
  |zero=>
    have a:SetTable.bits h%(m+1)<=m:=XH (UV _ (by lia))
    have b:=zU a;have c:=zT m (SetTable.bits h%(m+1));exact⟨a,by show SetTable.bits h%(m+1)+(SetTable.runEnd m _-_)<=m;lia⟩
  | succ n ih=>
    show (pY m (pr m h n)).i<=m/\(pY m (pr m h n)).j+(pY m (pr m h n)).more<=m;unfold pY;split
    ·rename_i c;exact⟨ih.1,by show (pr m h n).j+1+((pr m h n).more-1)<=m;lia⟩
    ·have a:(SetTable.leap m (pr m h n).i (pr m h n).perturb).1<=m:=XH (UV _ (by lia))
     have b:=zU a;have c:=zT m (SetTable.leap m (pr m h n).i (pr m h n).perturb).1;exact⟨a,by show (SetTable.leap m (pr m h n).i (pr m h n).perturb).1+(SetTable.runEnd m _-_)<=m;lia⟩
 intro n;have:=(key n).2;unfold J
 lia
end LA
namespace LA
open PySem LS PyProof.Rows
def Hm(ti:TI L t)(h:j∈t.place.toList):∃i,t.slot j=.live i/\t.place[i]?=some j:=by
 obtain⟨k,hk,rfl⟩:=UL.mp h;have hk':k<t.place.size:=by simpa using hk
 have b:=below_at ti.ris hk';refine⟨k,?_,?_⟩
 ·unfold SetTable.slot;simp only[Array.getElem_toList];rw[b];simp[Array.getElem?_eq_getElem hk']
 ·simp[Array.getElem?_eq_getElem hk']
def zZ(ti:TI L t)(h:j∉t.place.toList):t.slot j=.empty:=by
 unfold SetTable.slot;have n:¬ (t.place[SetTable.below t.place j]?==some j)=true:=λz=>by
  have z:t.place[SetTable.below t.place j]?=some j:=by simpa using z
  exact h (by have:=Array.mem_of_getElem? z;simpa using this)
 simp only[n];have:SetTable.has t.dummies j=false:=by rw[ti.dum];unfold SetTable.has;simp
 simp[this]
section
variable{L:Bool}{t:SetTable}{ha:Nat->Int}{h:Int}
theorem vC(ti:TI L t):∀ (k fuel n:Nat),k<=fuel->(∀ m,n<=m->m<n + k->∃ i,t.slot (J t.mask h m)=.live i/\ha i≠h)->SetTable.probe.go t ha h fuel (pr t.mask h n)=SetTable.probe.go t ha h (fuel - k) (pr t.mask h (n + k))
 |0,fuel,n,_,_=>rfl
 |k+1,0,n,hf,_=>by lia
 | k + 1,fuel + 1,n,hf,hs=>by
   obtain⟨i,h1,h2⟩:=hs n (Td _) (by lia)
   have h1:t.slot (pr t.mask h n).j=.live i:=h1;have h3:(ha i==h)=false:=by simpa using h2
   have e:SetTable.probe.go t ha h (fuel+1) (pr t.mask h n)=SetTable.probe.go t ha h fuel (pr t.mask h (n+1)):=by
    show (match t.slot (pr t.mask h n).j with
     |.empty=>some (SetTable.Met.empty (pr t.mask h n).j (pr t.mask h n).dummy)
     |.dummy=>SetTable.probe.go t ha h fuel (t.advance { pr t.mask h n with dummy:=some (pr t.mask h n).j })
     |.live i=>if ha i==h then some (.candidate (pr t.mask h n).j i (t.advance (pr t.mask h n))) else SetTable.probe.go t ha h fuel (t.advance (pr t.mask h n)))=_
    rw[h1];dsimp only;rw[h3];rfl
   rw[e,vC ti k fuel (n+1) (by lia) λm h1 h2=>hs m (by lia) (by lia)]
   congr 1
   ·lia
   ·congr 1;lia
def Iu(ti:TI L t)(hf:k<fuel)(hs:∀ m,n<=m->m<n + k->∃ i,t.slot (J t.mask h m)=.live i/\ha i≠h)(he:J t.mask h (n + k)∉t.place.toList):SetTable.probe.go t ha h fuel (pr t.mask h n)=some (.empty (J t.mask h (n + k)) none):=by
 rw[vC ti k fuel n (by lia) hs]
 obtain⟨f,e⟩:∃f,fuel-k=f+1:=⟨fuel-k-1,by lia⟩
 rw[e];have h1:t.slot (pr t.mask h (n+k)).j=.empty:=zZ ti he
 show (match t.slot (pr t.mask h (n + k)).j with
       |.empty=>some (SetTable.Met.empty (pr t.mask h (n+k)).j (pr t.mask h (n+k)).dummy)
       |.dummy=>_
       |.live i=>_)=_
 rw[h1];dsimp only;rw[zy];rfl
def Km(ti:TI L t)(hf:k<fuel)(hs:∀ m,n<=m->m<n + k->∃ i,t.slot (J t.mask h m)=.live i/\ha i≠h)(he:t.slot (J t.mask h (n + k))=.live i)(hh:ha i=h):SetTable.probe.go t ha h fuel (pr t.mask h n)=some (.candidate (J t.mask h (n + k)) i (pr t.mask h (n + k + 1))):=by
 rw[vC ti k fuel n (by lia) hs]
 obtain⟨f,e⟩:∃f,fuel-k=f+1:=⟨fuel-k-1,by lia⟩
 rw[e];have h1:t.slot (pr t.mask h (n+k)).j=.live i:=he
 show (match t.slot (pr t.mask h (n + k)).j with
       |.empty=>_
       |.dummy=>_
       |.live i=>if ha i==h then some (SetTable.Met.candidate (pr t.mask h (n+k)).j i (t.advance (pr t.mask h (n+k)))) else _)=_
 rw[h1];dsimp only;rw[Tf (by simpa using hh)]
 rfl
end
abbrev iK(prog:Program)(w:World):=intKind prog w
def hT(prog:Program)(w:World)(k:List Int):Int:=tupleKeyHash (iK prog w) k
def ent(prog:Program)(w:World)(c:Addr×List Int):Int×Value:=(hT prog w c.2,.ref c.1)
structure TT(prog:Program)(w:World)(L:Bool)(t:SetTable)(cs:List (Addr×List Int)):Prop where
 ti:TI L t
 msk:MK t.mask
 len:t.place.size=cs.length
 bd:∀s∈t.place.toList,s<=t.mask
 fl:cs.length<=t.mask
 rc:∀z∈t.place.toList.zip cs,∃n,J t.mask (hT prog w z.2.2) n=z.1/\∀m,m<n->J t.mask (hT prog w z.2.2) m∈t.place.toList
 plain:t.plain=true
abbrev xU(prog:Program)(w:World)(h:Heap)(cs:List (Addr×List Int)):Prop:=∀c∈cs,IsTupleKey (iK prog w) h c.2 c.1
section
variable{prog:Program}{w:World}{A:Around}{E:Value->Shared->Prop}{s:Shared}{L:Bool}{t:SetTable}{cs:List (Addr×List Int)}{a:Addr}{ep:Nat}
def sZ(ho:s.heap.get? b=some o)(hd:o.data=.seq items n)(q:Q (some items) s):wpAny (model prog w) A (seqItems? (.ref b)) Q E s:=by unfold seqItems?;refine SX (wpAny_load ho ?_);rw[hd];exact S6 q
def items_int(h:ItemsAre (iK prog w) ks vs):∀ v∈vs,∃ i u,v=.int i u:=by
 induction h with
 |nil=>intro v hv;cases hv
 | cons h1 _ ih=>
   intro v hv;rcases Tt.mp hv with rfl | hv
   ·obtain⟨u,e⟩:=yR h1;exact⟨_,u,e⟩
   ·exact ih v hv
def zj(hk:IsTupleKey (iK prog w) s.heap k b)(q:Q false s):wpAny (model prog w) A (ofAClassStatement 8 (.ref b)) Q E s:=by
 have hT:=hk.typeIs;obtain⟨o,items,n,ho,_,hd,hi⟩:=hk;have ii:=items_int hi;unfold ofAClassStatement;refine SX (W2 hT ?_);dsimp only;refine SX (S6 ?_);simp only[Bool.not_true,Bool.false_eq_true,if_false];refine SX (sZ ho hd ?_);dsimp only;refine SX ?_;rw[<-Array.forIn_toList];refine wpAny_forIn_list _ (λrest r s'=>r=(none,())/\s'=s/\∀v∈rest,∃i u,v=.int i u) _ ?_ ?_ _ _ ⟨rfl,rfl,ii⟩
 ·rintro x rest r s' ⟨rfl,rfl,hall⟩;obtain⟨i,u,rfl⟩:=hall x TY;refine SX (S6 ?_);exact S6 ⟨rfl,rfl,λv hv=>hall v (Ua _ hv)⟩
 ·rintro r s' ⟨rfl,rfl,_⟩;exact S6 q
def Dy(hk:IsTupleKey (iK prog w) s.heap k b)(q:Q true s):wpAny (model prog w) A (hashByValue 8 (.ref b)) Q E s:=by
 have hT:=hk.typeIs;obtain⟨o,items,n,ho,_,hd,hi⟩:=hk;have ii:=items_int hi;unfold hashByValue;refine SX (wpAny_specialOf hT F.slot_tuple_hash.lookup ?_);dsimp only;refine SX (sZ ho hd ?_);refine SX ?_;show wpAny _ _ (forIn items _ _) _ _ _;rw[<-Array.forIn_toList];refine wpAny_forIn_list _ (λrest r s'=>r=(none,())/\s'=s/\∀v∈rest,∃i u,v=.int i u) _ ?_ ?_ _ _ ⟨rfl,rfl,ii⟩
 ·rintro x rest r s' ⟨rfl,rfl,hall⟩;obtain⟨i,u,rfl⟩:=hall x TY;refine SX (S6 ?_);exact S6 ⟨rfl,rfl,λv hv=>hall v (Ua _ hv)⟩
 ·rintro r s' ⟨rfl,rfl,_⟩;exact S6 q
def Jc(hk:IsTupleKey (iK prog w) s.heap k b)(hl:∀ v∈l,∃ b' k',v=.ref b'/\IsTupleKey (iK prog w) s.heap k' b')(q:Q false s):wpAny (model prog w) A (searchCouldBeSeen (.ref b) l) Q E s:=by
 unfold searchCouldBeSeen;refine SX ?_;refine wpAny_forIn_list _ (λrest r s'=>r=(none,())/\s'=s/\∀v∈rest,∃b' k',v=.ref b'/\IsTupleKey (iK prog w) s.heap k' b') _ ?_ ?_ _ _ ⟨rfl,rfl,hl⟩
 ·rintro x rest r s' ⟨rfl,rfl,hall⟩;obtain⟨b',k',rfl,hk'⟩:=hall x TY;have nx:∀v∈rest,∃b' k',v=.ref b'/\IsTupleKey (iK prog w) s'.heap k' b':=λv hv=>hall v (Ua _ hv)
  dsimp only;split
  ·exact S6 ⟨rfl,rfl,nx⟩
  ·refine SX (wpAny_eqIsQuiet_tuple hk ?_);simp only[Bool.not_true,Bool.false_eq_true,if_false];refine SX (wpAny_eqIsQuiet_tuple hk' ?_);simp only[Bool.not_true,Bool.false_eq_true,if_false];refine SX (zj hk ?_);simp only[Bool.false_eq_true,if_false];refine SX (zj hk' ?_);simp only[Bool.false_eq_true,if_false];exact S6 ⟨rfl,rfl,nx⟩
 ·rintro r s' ⟨rfl,rfl,_⟩;exact S6 q
end
abbrev bY(prog:Program)(w:World)(cs:List (Addr×List Int)):Array (Int×Value):=(cs.map (ent prog w)).toArray
section
variable{prog:Program}{w:World}{A:Around}{E:Value->Shared->Prop}{s:Shared}{L:Bool}{t:SetTable}{cs:List (Addr×List Int)}{a:Addr}{ep:Nat}
theorem TT.fits(T:TT prog w L t cs):t.fits (bY prog w cs).size=true:=by unfold SetTable.fits SetTable.fill;have h1:=T.len;have h2:=T.fl;have h3:=T.ti.dum;simp[h3,h1,h2]
def TT.led(T:TT prog w L t cs):t.gaveWay=false:=by unfold SetTable.gaveWay;rcases T.msk with e | e<;>rw[e]<;>rfl
def TT.at(T:TT prog w L t cs){i j:Nat}(h:t.place[i]?=some j):∃c,cs[i]?=some c/\(j,c)∈t.place.toList.zip cs:=by
 have hi:i<t.place.size:=(W7.mp h).1;have hc:i<cs.length:=by rw[<-T.len];exact hi
 refine⟨cs[i],Tc hc,?_⟩;have e:t.place[i]=j:=by obtain⟨_,e⟩:=W7.mp h;exact e
 have hz:i<(t.place.toList.zip cs).length:=by simp;lia
 have:(t.place.toList.zip cs)[i]=(j,cs[i]):=by simp[e]
 rw[<-this];exact U8 hz
theorem TT.slot(T:TT prog w L t cs){j:Nat}(h:j∈t.place.toList):∃i c,t.slot j=.live i/\cs[i]?=some c/\(j,c)∈t.place.toList.zip cs:=by obtain⟨i,h1,h2⟩:=Hm T.ti h;obtain⟨c,h3,h4⟩:=T.at h2;exact⟨i,c,h1,h3,h4⟩
def TT.of_mem(T:TT prog w L t cs)(h:c∈cs):∃j,(j,c)∈t.place.toList.zip cs:=by
 obtain⟨i,hi,rfl⟩:=UL.mp h;have hp:i<t.place.size:=by rw[T.len];exact hi
 obtain⟨c',h1,h2⟩:=T.at (i:=i) (j:=t.place[i]) (Uw hp);rw[Tc hi]at h1;cases h1;exact⟨_,h2⟩
def TT.inj(T:TT prog w L t cs)(h1:(j,c)∈t.place.toList.zip cs)(h2:(j,c')∈t.place.toList.zip cs):c=c':=by
 obtain⟨i,hi,e⟩:=UL.mp h1;obtain⟨i',hi',e'⟩:=UL.mp h2;simp only[List.getElem_zip,Prod.mk.injEq]at e e';have l1:i<t.place.toList.length:=by simp at hi;simp;lia
 have l2:i'<t.place.toList.length:=by simp at hi';simp;lia
 have:i=i':=by
  have r:t.place.toList.Pairwise (·< ·):=T.ti.ris;rcases Wh i i' with c | c | c
  ·have:=Vn.mp r i i' l1 l2 c;lia
  ·exact c
  ·have:=Vn.mp r i' i l2 l1 c;lia
 subst this;exact e.2.symm.trans e'.2
def rB{i:Nat}(h:cs[i]?=some c):(bY prog w cs)[i]?=some (ent prog w c):=by simp[h]
def Qz{i:Nat}(h:cs[i]?=some c):((bY prog w cs)[i]?.map (·.1)).getD 0=hT prog w c.2:=by rw[rB h];rfl
variable{b:Addr}{k:List Int}
set_option tactic.hygienic true in
theorem sY(hu:A.units<cLine)(ho:s.heap.get? a=some (bc (bY prog w cs) ep t))(T:TT prog w L t cs)(H:xU prog w s.heap cs)(hk:IsTupleKey (iK prog w) s.heap k b){N:Nat}(hN:N<10 * (t.mask + 15))(hN1:J t.mask (hT prog w k) N∉t.place.toList)(hN2:∀ m,m<N->J t.mask (hT prog w k) m∈t.place.toList)
  {Q:SetFound->Shared->Prop} (q1:k∈cs.map (·.2)->Q (.there none) s) (q2:k∉cs.map (·.2)->Q (.free (J t.mask (hT prog w k) N) false) s) :
  ∀(fuel n:Nat) (sd:Option SetTable.Probe),sd.getD (t.probeStart (hT prog w k))=pr t.mask (hT prog w k) n->n≤N->N-n<fuel->(∀m,m<n->∀c,(J t.mask (hT prog w k) m,c)∈t.place.toList.zip cs->c.2≠k)->
    wpAny (model prog w) A (setSearchFrom a (.ref b) (hT prog w k) true fuel sd) Q E s
 |0,n,sd,_,_,hf,_=>by lia
 | fuel + 1,n,sd,hs,hn,hf,hne=>by
   unfold setSearchFrom;refine SX (U4 ho rfl T.fits ?_);dsimp only;rw[T.led];simp only[Bool.false_eq_true,if_false];rw[hs]
   -- the next place that is empty or has the same hash
   obtain⟨m,hm1,hm2,hm3⟩:=yK (P:=λd=>n+d=N\/∃i,t.slot (J t.mask (hT prog w k) (n+d))=.live i/\(((bY prog w cs)[i]?.map (·.1)).getD 0)=hT prog w k) (n:=N-n) (.inl (by lia))
   have nmN:n+m<=N:=by clear hm2 hm3;lia
   have skip:∀d,n<=d->d<n+m->∃i,t.slot (J t.mask (hT prog w k) d)=.live i/\(((bY prog w cs)[i]?.map (·.1)).getD 0)≠hT prog w k:=λd h1 h2=>by
    have nn:=hm3 (d-n) (by clear hm2 hm3;lia)
    rw[show n+(d-n)=d by lia]at nn
    obtain⟨i,c,e1,_,_⟩:=T.slot (hN2 d (Tr h2 nmN));exact⟨i,e1,λz=>nn (.inr ⟨i,e1,z⟩)⟩
   have nomatch':∀d,d<n+m->∀c,(J t.mask (hT prog w k) d,c)∈t.place.toList.zip cs->c.2≠k:=λd h1 c hc=>by
    by_cases z:d<n
    ·exact hne d z c hc
    ·obtain⟨i,e1,e2⟩:=skip d (XR z) h1;obtain⟨i',c',e1',e3,e4⟩:=T.slot (hN2 d (Tr h1 nmN));rw[e1]at e1';cases e1';have:=T.inj hc e4;subst this;rw[Qz e3]at e2;exact λz=>e2 (by rw[z])
   rcases hm2 with hm2 | ⟨i,hi,hh⟩
   ·have pg:t.probe (λi=>((bY prog w cs)[i]?.map (·.1)).getD 0) (hT prog w k) (pr t.mask (hT prog w k) n)=some (.empty (J t.mask (hT prog w k) (n + m)) none):=Iu T.ti (by show m<10 * (t.mask + 15);lia) skip (by rw [hm2];exact hN1)
    rw[hm2]at pg;generalize hpg:SetTable.probe t _ (hT prog w k) (pr t.mask (hT prog w k) n)=X;obtain rfl:X=some (.empty (J t.mask (hT prog w k) N) none):=hpg.symm.trans pg;refine S6 (q2 λz=>?_)
    obtain⟨c,hc,e⟩:=Uh.mp z;obtain⟨j,hj⟩:=T.of_mem hc;obtain⟨n0,e0,h0⟩:=T.rc _ hj;dsimp only at e0 h0;rw[e]at e0 h0;have lt:n0<N:=by
     rcases Nat.lt_or_ge n0 N with x | x
     ·exact x
     ·exfalso
      rcases Nat.lt_or_eq_of_le x with y | y
      ·exact hN1 (h0 N y)
      ·subst y;have:j∈t.place.toList:=(WF hj).1;rw[<-e0]at this;exact hN1 this
    exact nomatch' n0 (by rw[hm2];exact lt) c (by rw[e0];exact hj) e
   ·have hi':=hi;have iN:n+m<N:=by
     rcases Nat.lt_or_eq_of_le nmN with x | x
     ·exact x
     ·rw[x,zZ T.ti hN1]at hi;cases hi
    obtain⟨i',c,e1,e3,e4⟩:=T.slot (hN2 (n+m) iN);rw[hi]at e1;cases e1;have pg:t.probe (λi=>((bY prog w cs)[i]?.map (·.1)).getD 0) (hT prog w k) (pr t.mask (hT prog w k) n)=some (.candidate (J t.mask (hT prog w k) (n+m)) i (pr t.mask (hT prog w k) (n+m+1))):=Km T.ti (by show m<10*(t.mask+15);clear hm3;lia) skip hi hh
    generalize hpg:SetTable.probe t _ (hT prog w k) (pr t.mask (hT prog w k) n)=X;obtain rfl:X=some (.candidate (J t.mask (hT prog w k) (n+m)) i (pr t.mask (hT prog w k) (n+m+1))):=hpg.symm.trans pg;dsimp only;have hc:IsTupleKey (iK prog w) s.heap c.2 c.1:=H c (WF e4).2;have hl:∀v∈((bY prog w cs).filter (λx=>x.1==hT prog w k)).toList.map (·.2),∃b' k',v=.ref b'/\IsTupleKey (iK prog w) s.heap k' b':=λv hv=>by
     obtain⟨e,he,rfl⟩:=Uh.mp hv;have he:e∈(bY prog w cs).toList:=by have:=Array.mem_toList_iff.mp he;exact Array.mem_toList_iff.mpr (Array.mem_filter.mp this).1
     have he:e∈cs.map (ent prog w):=he;obtain⟨c,hc,rfl⟩:=Uh.mp he;exact⟨c.1,c.2,rfl,H c hc⟩
    have sm:t.sameMemory t.moves t.mask=some true:=by simp[SetTable.sameMemory]
    have rec':=sY hu ho T H hk hN hN1 hN2 q1 q2 fuel (n+m+1) (some (pr t.mask (hT prog w k) (n+m+1))) rfl (by lia) (by clear hm3;lia)
    have mem:c.2=k->k∈cs.map (·.2):=λz=>Uh.mpr ⟨c,(WF e4).2,z⟩
    split
    ·refine SX (Jc hk hl ?_);simp only[Bool.false_eq_true,if_false];rw[rB e3];dsimp only[ent];refine SX (Up (wpAny_eqBool_tuple hu hc hk ?_));refine SX (U4 ho rfl T.fits ?_);dsimp only;by_cases ek:c.2=k
     ·rw[Tw ek];exact S6 (q1 (mem ek))
     ·rw[Uq ek];simp only[Bool.and_false,Bool.false_eq_true,if_false];rw[sm];dsimp only;rw[Tf rfl,hi];dsimp only;rw[rB e3];dsimp only[ent];refine SX (wpAny_isSame_ref_self ?_);refine SX (S6 ?_);refine rec' λd hd c' hc'=>?_
      by_cases z:d=n+m
      ·subst z;have:=T.inj hc' e4;rw[this];exact ek
      ·exact nomatch' d (by lia) c' hc'
    ·rw [rB e3];dsimp only[ent];refine SX (Up (wpAny_eqBool_tuple hu hc hk ?_));refine SX (U4 ho rfl T.fits ?_);dsimp only;by_cases ek:c.2=k
     ·rw[Tw ek];exact S6 (q1 (mem ek))
     ·rw[Uq ek];simp only[Bool.and_false,Bool.false_eq_true,if_false];rw[sm];dsimp only;rw[Tf rfl,hi];dsimp only;rw[rB e3];dsimp only[ent];refine SX (wpAny_isSame_ref_self ?_);refine SX (S6 ?_);refine rec' λd hd c' hc'=>?_
      by_cases z:d=n+m
      ·subst z;have:=T.inj hc' e4;rw[this];exact ek
      ·exact nomatch' d (by lia) c' hc'
def Ea(hu:A.units<cLine)(ho:s.heap.get? a=some (bc (bY prog w cs) ep t))(T:TT prog w L t cs)(H:xU prog w s.heap cs)(hk:IsTupleKey (iK prog w) s.heap k b)(q1:k∈cs.map (·.2)->Q (.there none) s)(q2:k∉cs.map (·.2)->∀n,J t.mask (hT prog w k) n∉t.place.toList->(∀m,m<n->J t.mask (hT prog w k) m∈t.place.toList)->Q (.free (J t.mask (hT prog w k) n) false) s):
  wpAny (model prog w) A (setSearch a (.ref b) (hT prog w k) true) Q E s:=by
 obtain⟨N,h1,h2,h3⟩:=Io T.msk (hT prog w k) (l:=t.place.toList) (by rw[U0,T.len];exact T.fl)
 unfold setSearch;refine sY hu ho T H hk h1 h2 h3 q1 (λz=>q2 z N h2 h3) 100000 0 none rfl (Vb _) ?_ (λm h=>by lia)
 rcases T.msk with e | e<;>rw[e]at h1<;>lia
end
def NF(t:SetTable)(cs:List (Addr×List Int)):Prop:=cs.length*5<t.mask*3
def mD(cs:List (Addr×List Int))(p:Nat)(c:Addr×List Int):List (Addr×List Int):=cs.take p++c::cs.drop p
def qu(cs:List (Addr×List Int))(p:Nat)(c:Addr×List Int):(mD cs p c).Perm (cs++[c]):=by unfold mD;refine List.perm_middle.trans ?_;rw[X7];exact (List.perm_append_singleton c cs).symm
section
variable{prog:Program}{w:World}{L:Bool}{t:SetTable}{cs:List (Addr×List Int)}{b:Addr}{k:List Int}
def Nq(p:Nat):SetTable.insertAt (bY prog w cs) p (hT prog w k,.ref b)=bY prog w (mD cs p (b,k)):=by apply Array.toList_inj.mp;rw[Xi];simp[mD,ent,List.map_take,List.map_drop]
def O4(ti:TI L t)(hj:j∉t.place.toList):t.put j=({ t with place:=SetTable.insertAt t.place (SetTable.below t.place j) j },SetTable.below t.place j):=by
 unfold SetTable.put;have:SetTable.has t.dummies j=false:=by rw[ti.dum];unfold SetTable.has;simp
 rw[this];rfl
def TT.put(T:TT prog w L t cs)(nf:NF t cs)(h1:J t.mask (hT prog w k) n∉t.place.toList)(h2:∀ m,m<n->J t.mask (hT prog w k) m∈t.place.toList):
  TT prog w L { t with place:=SetTable.insertAt t.place (SetTable.below t.place (J t.mask (hT prog w k) n)) (J t.mask (hT prog w k) n) } (mD cs (SetTable.below t.place (J t.mask (hT prog w k) n)) (b,k)):=by
 have bel:=(jj T.ti.ris (J t.mask (hT prog w k) n)).le;have ris:=uK T.ti.ris h1;have jl:J t.mask (hT prog w k) n<=t.mask:=Ms n;generalize hj:J t.mask (hT prog w k) n=j at h1 bel ris jl;generalize SetTable.below t.place j=p at bel ris;have tl:(SetTable.insertAt t.place p j).toList=t.place.toList.take p++j::t.place.toList.drop p:=Xi _ _ _;have sub:∀x∈t.place.toList,x∈(SetTable.insertAt t.place p j).toList:=λx hx=>by
  rw[tl,TV,Tt];rw[<-X7 p t.place.toList,TV]at hx;rcases hx with h | h
  ·exact .inl h
  ·exact .inr (.inr h)
 have len:=T.len;have fl:=T.fl;refine⟨⟨ris,T.ti.dum,T.ti.led⟩,T.msk,?_,?_,?_,?_,T.plain⟩
 ·show (SetTable.insertAt t.place p j).size=_;rw[<-U0,tl,(qu cs p (b,k)).length_eq];simp
  lia
 ·intro x hx;have hx:x∈t.place.toList.take p++j::t.place.toList.drop p:=tl ▸ hx;rcases TV.mp hx with h | h
  ·exact T.bd x (Yd h)
  ·rcases Tt.mp h with rfl | h
   ·exact jl
   ·exact T.bd x (Yl h)
 ·rw[(qu cs p (b,k)).length_eq];unfold NF at nf;have:=T.msk;unfold MK at this;simp;show cs.length+1<=t.mask
  lia
 ·intro z hz;have ez:(SetTable.insertAt t.place p j).toList.zip (mD cs p (b,k))=(t.place.toList.zip cs).take p++(j,(b,k))::(t.place.toList.zip cs).drop p:=by
   rw[tl];unfold mD;have t1:(t.place.toList.take p).zip (cs.take p)=(t.place.toList.zip cs).take p:=by unfold List.zip;rw[List.take_zipWith]
   have t2:(t.place.toList.drop p).zip (cs.drop p)=(t.place.toList.zip cs).drop p:=by unfold List.zip;rw[List.drop_zipWith]
   rw[List.zip_append (by simp;lia),Wa,t1,t2]
  have hz:z∈(t.place.toList.zip cs).take p++(j,(b,k))::(t.place.toList.zip cs).drop p:=ez ▸ hz;have old:z∈t.place.toList.zip cs->∃n,J t.mask (hT prog w z.2.2) n=z.1/\∀m,m<n->J t.mask (hT prog w z.2.2) m∈(SetTable.insertAt t.place p j).toList:=λh=>by obtain⟨n,e1,e2⟩:=T.rc z h;exact⟨n,e1,λm hm=>sub _ (e2 m hm)⟩
  rcases TV.mp hz with h | h
  ·exact old (Yd h)
  ·rcases Tt.mp h with rfl | h
   ·exact⟨n,hj,λm hm=>sub _ (h2 m hm)⟩
   ·exact old (Yl h)
end
structure Ow(m:Nat)(hs:List Int)(sl:List Nat)(ow:Array (Option Nat)):Prop where
 sz:ow.size=m+1
 len:sl.length=hs.length
 nd:sl.Nodup
 le:∀s∈sl,s<=m
 own:∀(k:Nat) (hk:k<sl.length),ow[sl[k]]?=some (some k)
 non:∀j,j<=m->j∉sl->ow[j]?=some none
 rc:∀(k:Nat) (hk:k<sl.length) (h:Int),hs[k]?=some h->∃n,J m h n=sl[k]/\∀i,i<n->J m h i∈sl
theorem Ow.isNone(o:Ow m hs sl ow)(hj:j<=m):(ow.getD j (some 0)).isNone=decide (j∉sl):=by
 by_cases c:j∈sl
 ·obtain⟨k,hk,rfl⟩:=UL.mp c;rw[Ux,o.own k hk];simp
 ·rw[Ux,o.non j hj c];simp[c]
theorem Br(o:Ow m hs sl ow)(h:Int)(hL0:(lp m h L0).1∉sl):∀ (fuel L:Nat),L<=L0->L0<L + fuel->(∀ i,i<bg m h L->J m h i∈sl)->
  ∃n,SetTable.layClean.free m ow fuel (lp m h L).1 (lp m h L).2=some (J m h n)/\J m h n∉sl/\∀i,i<n->J m h i∈sl
 |0,L,h1,h2,_=>by lia
 | fuel + 1,L,h1,h2,hb=>by
   have il:=JL m h L;have rg:=zT m (lp m h L).1;have ri:=zU il;unfold SetTable.layClean.free;cases hf:(List.range (SetTable.runEnd m (lp m h L).1+1-(lp m h L).1)).find? (λk=>(ow.getD ((lp m h L).1+k) (some 0)).isNone) with
   | some k=>
     dsimp only;obtain⟨p1,as,bs,e1,e2⟩:=List.find?_eq_some_iff_append.mp hf;have hk:k<SetTable.runEnd m (lp m h L).1+1-(lp m h L).1:=Th.mp (by rw[e1];simp)
     have hJ:=wR m h L k (by lia)
     have la:as.length=k/\∀i,i<k->i∈as:=by
      have hk2:(List.range (SetTable.runEnd m (lp m h L).1+1-(lp m h L).1))[as.length]?=some k:=by rw[e1];simp
      have al:as.length<SetTable.runEnd m (lp m h L).1+1-(lp m h L).1:=by
       have:=congrArg List.length e1;simp at this
       lia
      rw[U9 al]at hk2;have ek:as.length=k:=by simpa using hk2
      refine⟨ek,λi hi=>?_⟩
      have:(List.range (SetTable.runEnd m (lp m h L).1+1-(lp m h L).1))[i]?=as[i]?:=by rw[e1,Tq (by lia)]
      rw[U9 (by lia)]at this
      exact T3 this.symm
     refine⟨bg m h L+k,by rw[hJ],?_,λi hi=>?_⟩
     ·rw[hJ];rw[o.isNone (by lia)]at p1
      simpa using p1
     ·by_cases c:i<bg m h L
      ·exact hb i c
      ·have:=e2 (i-bg m h L) (la.2 _ (by lia))
       rw[o.isNone (by lia)]at this
       have hJ2:=wR m h L (i-bg m h L) (by lia)
       rw[show bg m h L+(i-bg m h L)=i by lia]at hJ2
       rw[hJ2];simpa using this
   | none=>
     dsimp only;have all:∀k,k<=SetTable.runEnd m (lp m h L).1-(lp m h L).1->(lp m h L).1+k∈sl:=λk hk=>by
      have:=List.find?_eq_none.mp hf k (Th.mpr (by lia))
      rw[o.isNone (by lia)]at this
      simpa using this
     have ne:L≠L0:=λz=>by subst z;have:=all 0 (Vb _);exact hL0 this
     have ih:=Br o h hL0 fuel (L+1) (by lia) (by lia) λi hi=>by
      by_cases c:i<bg m h L
      ·exact hb i c
      ·have hi:i<bg m h L+(SetTable.runEnd m (lp m h L).1-(lp m h L).1)+1:=hi;have hJ2:=wR m h L (i-bg m h L) (by lia)
       rw[show bg m h L+(i-bg m h L)=i by lia]at hJ2
       rw[hJ2];exact all _ (by lia)
     exact ih
def Ow.zero(m:Nat):Ow m [] [] (Array.replicate (m+1) none):=⟨by simp,rfl,List.nodup_nil,λs h=>(by cases h),λk h=>(by cases h),λj hj z=>by rw[Array.getElem?_replicate,Tf (by lia)],λk h=>(by cases h)⟩
def Ow.add(o:Ow m hs sl ow)(h1:J m h n∉sl)(h2:∀ i,i<n->J m h i∈sl):Ow m (hs++[h]) (sl++[J m h n]) (ow.setIfInBounds (J m h n) (some hs.length)):=by
 have jl:J m h n<=m:=Ms n;have jb:J m h n<ow.size:=by rw[o.sz];lia
 have len:=o.len;refine⟨by simp[o.sz],by simp[o.len],?_,λs hs'=>?_,λk hk=>?_,λj hj nj=>?_,λk hk h' eh=>?_⟩
 ·rw[VN];exact⟨o.nd,by simp,λa ha b hb=>by simp at hb;subst hb;exact λz=>h1 (z ▸ ha)⟩
 ·rcases TV.mp hs' with z | z
  ·exact o.le s z
  ·simp at z;lia
 ·by_cases c:k<sl.length
  ·have e:(sl++[J m h n])[k]=sl[k]:=Xn c;have ne:J m h n≠sl[k]:=λz=>h1 (z ▸ U8 c)
   rw[e,Array.getElem?_setIfInBounds_ne ne];exact o.own k c
  ·have ek:k=sl.length:=by simp at hk;lia
   subst ek;have e:(sl++[J m h n])[sl.length]=J m h n:=by simp
   rw[e,Array.getElem?_setIfInBounds_self_of_lt jb,o.len]
 ·rw[TV,not_or]at nj;rw[Array.getElem?_setIfInBounds_ne (λz=>nj.2 (by simp[z]))]
  exact o.non j hj nj.1
 ·by_cases c:k<sl.length
  ·have e:(sl++[J m h n])[k]=sl[k]:=Xn c;rw[e];rw[Tq (by lia)]at eh
   obtain⟨n',e1,e2⟩:=o.rc k c h' eh;exact⟨n',e1,λi hi=>Vr _ (e2 i hi)⟩
  ·have ek:k=sl.length:=by simp at hk;lia
   subst ek;have e:(sl++[J m h n])[sl.length]=J m h n:=by simp
   rw[e];rw[o.len,List.getElem?_concat_length]at eh;cases eh;exact⟨n,rfl,λi hi=>Vr _ (h2 i hi)⟩
def nJ(m:Nat)(acc:Option (Array (Option Nat)×Nat))(h:Int):Option (Array (Option Nat)×Nat):=acc.bind λp=>(SetTable.layClean.free m p.1 (SetTable.turns m) (SetTable.bits h%(m+1)) (SetTable.bits h)).bind λj=>some (p.1.setIfInBounds j (some p.2),p.2+1)
theorem yU(hm:MK m):∀ (rest hs:List Int) (sl:List Nat) (ow:Array (Option Nat)),Ow m hs sl ow->hs.length + rest.length<=m->∃ sl' ow',rest.foldl (nJ m) (some (ow,hs.length))=some (ow',(hs++rest).length)/\Ow m (hs++rest) sl' ow'
 |[],hs,sl,ow,o,_=>⟨sl,ow,by simp,by simpa using o⟩
 | h::rest,hs,sl,ow,o,hl=>by
   obtain⟨s,h1,h2⟩:=G4 m sl (by rw[o.len];simp at hl;lia)
   obtain⟨L0,h3,h4⟩:=Gw hm h h1;obtain⟨n,e,n1,n2⟩:=Br o h (L0:=L0) (by rw[h4];exact h2) (SetTable.turns m) 0 (Vb _) (by unfold SetTable.turns;lia) (λi hi=>by cases hi)
   have e:SetTable.layClean.free m ow (SetTable.turns m) (SetTable.bits h%(m+1)) (SetTable.bits h)=some (J m h n):=e;have o':=o.add n1 n2;obtain⟨sl',ow',e2,o2⟩:=yU hm rest (hs++[h]) _ _ o' (by simp at hl ⊢;lia)
   refine⟨sl',ow',?_,by simpa using o2⟩
   rw[Wz];have es:nJ m (some (ow,hs.length)) h=some (ow.setIfInBounds (J m h n) (some hs.length),(hs++[h]).length):=by unfold nJ;rw[V5,e,V5];simp
   rw[es,e2];simp
def Od(hm:MK m)(hl:hs.length<=m):∃sl ow,SetTable.layClean m hs.toArray=some ow/\Ow m hs sl ow:=by
 obtain⟨sl,ow,e,o⟩:=yU hm hs [] [] _ (Ow.zero m) (by simpa using hl)
 refine⟨sl,ow,?_,by simpa using o⟩
 have key:∀(l:List Int) (x:Option (Array (Option Nat)×Nat)),List.foldl (λacc h=>do
  let (owner,k) <-acc
  let j <-SetTable.layClean.free m owner (SetTable.turns m) (SetTable.bits h%(m+1)) (SetTable.bits h)
  pure (owner.setIfInBounds j (some k),k+1)) x l=l.foldl (nJ m) x:=by
  intro l;induction l with
  |nil=>intro x;rfl
  |cons a l ih=>intro x;exact ih _
 unfold SetTable.layClean;rw[List.foldl_toArray];have:=key hs (some (Array.replicate (m+1) none,0));have e:hs.foldl (nJ m) (some (Array.replicate (m+1) none,0))=some (ow,hs.length):=by simpa using e
 exact (congrArg (Option.map (·.1)) (this.trans e))
def bQ(m:Nat)(ow:Array (Option Nat)):List (Nat×Nat):=(List.range (m+1)).filterMap λj=>(ow.getD j none).map (j,·)
def IK(m:Nat)(ow:Array (Option Nat)):(bQ m ow).Pairwise λa b=>a.1<b.1:=by
 unfold bQ;refine List.Pairwise.filterMap (R:=λ(a b:Nat)=>a<b) _ (λa b hab x hx y hy=>?_) Vk
 obtain⟨_,_,rfl⟩:=S8.mp hx;obtain⟨_,_,rfl⟩:=S8.mp hy;exact hab
def fu(o:Ow m hs sl ow):(j,k)∈bQ m ow ↔ sl[k]?=some j:=by
 unfold bQ;rw[List.mem_filterMap];constructor
 ·rintro⟨j',hj',e⟩;obtain⟨k',e1,e2⟩:=S8.mp e;cases e2;have hj':=Th.mp hj';by_cases c:j∈sl
  ·obtain⟨i,hi,rfl⟩:=UL.mp c;have:=o.own i hi;rw[Ux,this]at e1;have:i=k:=by simpa using e1
   subst this;exact Tc hi
  ·have:=o.non j (by lia) c
   rw[Ux,this]at e1;cases e1
 ·intro e;obtain⟨hk,rfl⟩:=S7.mp e;refine⟨sl[k],Th.mpr (by have:=o.le _ (U8 hk);lia),?_⟩
  rw[Ux,o.own k hk];rfl
def Gs(o:Ow m hs sl ow):((bQ m ow).map (·.2)).Perm (List.range hs.length):=by
 have nd:((bQ m ow).map (·.2)).Nodup:=by
  rw[List.Nodup,WQ];refine Xf ?_ (IK m ow);rintro⟨j,k⟩ ⟨j',k'⟩ h1 h2 lt e;dsimp only at lt e;subst e;have a:=(fu o).mp h1;have b:=(fu o).mp h2;rw[a]at b;cases b
  lia
 refine (We nd List.nodup_range).mpr λk=>?_
 rw[Th,<-o.len,Uh];constructor
 ·rintro⟨⟨j,k'⟩,h,rfl⟩;exact (S7.mp ((fu o).mp h)).1
 ·intro hk;exact⟨(sl[k],k),(fu o).mpr (Tc hk),rfl⟩
section
variable{prog:Program}{w:World}{A:Around}{E:Value->Shared->Prop}{s:Shared}{L:Bool}{t:SetTable}{cs:List (Addr×List Int)}{a b:Addr}{k:List Int}
def kZ(cs:List (Addr×List Int))(m:Nat)(ow:Array (Option Nat)):List (Addr×List Int):=(bQ m ow).map λz=>cs.getD z.2 (0,[])
def Hd(o:Ow m hs sl ow)(hl:hs.length=cs.length):(kZ cs m ow).Perm cs:=by
 have:=(Gs o).map λi=>cs.getD i (0,[])
 unfold kZ;rw[Ug]at this;refine this.trans ?_;rw[hl];have e:(List.range cs.length).map (λi=>cs.getD i (0,[]))=cs:=by
  apply V4
  ·simp
  ·intro i h1 h2;simp at h1 ⊢
   rw[Tc h1];rfl
 rw[e]
def Bx(o:Ow m hs sl ow)(h:z∈bQ m ow):z.2<hs.length:=by
 have:=(S7.mp ((fu o).mp (show (z.1,z.2)∈bQ m ow from h))).1
 rw[o.len]at this;exact this
def Hf(hm:MK m)(T:TT prog w L t cs)(hl:cs.length * 5<m * 3):∃ ow,SetTable.laid m t.finger (t.movedTo m) t.led t.plain ((bY prog w cs).map (·.1))=some ({ mask:=m,place:=((bQ m ow).map (·.1)).toArray,dummies:=#[],finger:=t.finger,led:=t.led,moves:=t.movedTo m,plain:=t.plain },((bQ m ow).map (·.2)).toArray) /\
  TT prog w L { mask:=m,place:=((bQ m ow).map (·.1)).toArray,dummies:=#[],finger:=t.finger,led:=t.led,moves:=t.movedTo m,plain:=t.plain } (kZ cs m ow)/\(kZ cs m ow).Perm cs/\((bQ m ow).map (·.2)).toArray.filterMap ((bY prog w cs)[·]?)=bY prog w (kZ cs m ow):=by
 have eh:(bY prog w cs).map (·.1)=(cs.map λc=>hT prog w c.2).toArray:=by simp[ent,Function.comp_def]
 obtain⟨sl,ow,e,o⟩:=Od hm (hs:=cs.map λc=>hT prog w c.2) (by simp;lia)
 have la:SetTable.laid m t.finger (t.movedTo m) t.led t.plain ((bY prog w cs).map (·.1))=some ({ mask:=m,place:=((bQ m ow).map (·.1)).toArray,dummies:=#[],finger:=t.finger,led:=t.led,moves:=t.movedTo m,plain:=t.plain },((bQ m ow).map (·.2)).toArray):=by rw[eh];unfold SetTable.laid;rw[e];rfl
 have hlen:(cs.map λc=>hT prog w c.2).length=cs.length:=by simp
 have pm:=Hd (cs:=cs) o hlen;refine⟨ow,la,⟨?_,hm,?_,?_,?_,?_,T.plain⟩,pm,?_⟩
 ·have:=Bu la;rw[T.ti.led]at this;refine⟨this.ris,rfl,T.ti.led⟩
 ·simp[kZ]
 ·intro s hs;obtain⟨z,hz,rfl⟩:=Uh.mp (show s∈(bQ m ow).map (·.1) by simpa using hs)
  have:=(fu o).mp (show (z.1,z.2)∈bQ m ow from hz)
  exact o.le _ (T3 this)
 ·rw[pm.length_eq];show cs.length<=m
  lia
 ·intro z hz;have ez:(((bQ m ow).map (·.1)).toArray.toList).zip (kZ cs m ow)=(bQ m ow).map λz=>(z.1,cs.getD z.2 (0,[])):=by unfold kZ;rw[List.zip_map']
  have hz:z∈(bQ m ow).map λz=>(z.1,cs.getD z.2 (0,[])):=ez ▸ hz
  obtain⟨y,hy,rfl⟩:=Uh.mp hz;have hy':=(fu o).mp (show (y.1,y.2)∈bQ m ow from hy)
  have yl:=Bx o hy;rw[hlen]at yl;obtain⟨hk,ek⟩:=S7.mp hy';obtain⟨n,e1,e2⟩:=o.rc y.2 hk (hT prog w (cs[y.2]).2) (by rw[Tp,Tc yl];rfl)
  have eg:cs.getD y.2 (0,[])=cs[y.2]:=by simp[yl]
  refine⟨n,?_,λi hi=>?_⟩
  ·show J m (hT prog w (cs.getD y.2 (0,[])).2) n=y.1;rw[eg,e1,ek]
  ·show J m (hT prog w (cs.getD y.2 (0,[])).2) i∈_;rw[eg];obtain⟨q,hq,eq⟩:=UL.mp (e2 i hi);have:(sl[q],q)∈bQ m ow:=(fu o).mpr (Tc hq);show J m (hT prog w (cs[y.2]).2) i∈((bQ m ow).map (·.1)).toArray.toList;rw[<-eq];exact Uh.mpr ⟨_,this,rfl⟩
 ·apply Array.toList_inj.mp;rw[Array.toList_filterMap];show List.filterMap _ ((bQ m ow).map (·.2))=(kZ cs m ow).map (ent prog w);unfold kZ;rw[List.filterMap_map,Ug];have:∀ l:List (Nat×Nat),(∀ z∈l,z.2<cs.length)->List.filterMap ((λx=>(bY prog w cs)[x]?) ∘ λz:Nat×Nat=>z.2) l=l.map (ent prog w ∘ λz=>cs.getD z.2 (0,[])):=by
   intro l;induction l with
   |nil=>intro _;rfl
   | cons z l ih=>
     intro h;have hz:=h z TY;rw[Ud,Wq];have e:((λx=>(bY prog w cs)[x]?) ∘ λz:Nat×Nat=>z.2) z=some (ent prog w (cs.getD z.2 (0,[]))):=by show (bY prog w cs)[z.2]?=_;rw[rB (Tc hz)];simp[hz]
     rw[e,ih λy hy=>h y (Ua _ hy)]
     rfl
  exact this _ λz hz=>by have:=Bx o hz;rw[hlen]at this;exact this
def SetT(prog:Program)(w:World)(L:Bool)(h:Heap)(a:Addr)(cs:List (Addr×List Int)):Prop:=∃cs' ep t,cs'.Perm cs/\h.get? a=some (bc (bY prog w cs') ep t)/\TT prog w L t cs'/\NF t cs'
def Bq(h:cs.length<=18):(bY prog w cs).size<=sizeLine:=by rw[VB];simp;lia
def J0(hu:A.units<cLine)(hS:SetT prog w L s.heap a cs)(H:xU prog w s.heap cs)(hk:IsTupleKey (iK prog w) s.heap k b)(room:cs.length + 1<=18)
  (h:∀h' r,Heap.SameBut a s.heap h'->SetT prog w L h' a (if k∈cs.map (·.2) then cs else cs++[(b,k)])->Q r { s with heap:=h' }):wpAny (model prog w) A (setAddHashed a (.ref b) (hT prog w k)) Q E s:=by
 obtain⟨cs',ep,t,pm,ho,T,nf⟩:=hS;have H':xU prog w s.heap cs':=λc hc=>H c (pm.mem_iff.mp hc)
 have pl:=pm.length_eq;unfold setAddHashed;refine Up ?_;unfold setAddHashedIn;refine SX (U4 ho rfl T.fits ?_);dsimp only;have bs:byScan (.ref b) (bY prog w cs')=false:=rfl;rw[bs];simp only[Bool.false_eq_true,if_false];refine SX (Ea hu ho T H' hk (λm=>?_) λm n n1 n2=>?_)
 ·have m':k∈cs.map (·.2):=(pm.map _).mem_iff.mp m;have q:=h s.heap false (Heap.SameBut.refl a s.heap) (by rw[Tf m'];exact⟨cs',ep,t,pm,ho,T,nf⟩)
  have e:s={ s with heap:=s.heap }:=by cases s;rfl
  rw[e];exact S6 q
 ·have m':k∉cs.map (·.2):=λz=>m ((pm.map _).mem_iff.mpr z)
  rw[Ti m']at h;dsimp only;refine SX (U4 ho rfl T.fits ?_);dsimp only;rw[O4 T.ti n1];dsimp only;rw[Tf (show t.plain=true from T.plain)]
  refine SX (Dy hk ?_);simp only[if_true];have T1:=TT.put (b:=b) T nf n1 n2;rw[Nq];have pm1:(mD cs' (SetTable.below t.place (J t.mask (hT prog w k) n)) (b,k)).Perm (cs++[(b,k)]):=(qu _ _ _).trans (pm.append_right _);have l1:(mD cs' (SetTable.below t.place (J t.mask (hT prog w k) n)) (b,k)).length=cs.length+1:=by rw[pm1.length_eq];simp
  generalize hc1:mD cs' (SetTable.below t.place (J t.mask (hT prog w k) n)) (b,k)=cs1 at T1 pm1 l1;generalize ht1:({ t with place:=SetTable.insertAt t.place (SetTable.below t.place (J t.mask (hT prog w k) n)) (J t.mask (hT prog w k) n) }:SetTable)=t1 at T1
  have e1:t1.mask=t.mask:=by rw[<-ht1]
  refine SX (XF ho rfl ?_ (Bq (by lia)))
  have o1:=rO (es1:=bY prog w cs1) (t1:=t1) ho;have b1:=Ve s.heap a (Obj.putSet (bY prog w cs1) t1);have fill:t1.fill=cs1.length:=by unfold SetTable.fill;rw[T1.ti.dum,T1.len];rfl
  have nf0:cs'.length*5<t.mask*3:=nf;by_cases full:t1.tooFull=true
  ·rw[full];simp only[Bool.not_false,Bool.and_true,if_true];have full':t1.mask*3<=cs1.length*5:=by unfold SetTable.tooFull at full;rw[fill]at full;simpa using full
   have m7:t.mask=7/\cs.length=4:=by
    have:=T.msk;unfold MK at this;rw[e1]at full'
    lia
   unfold setRelay;refine SX (SX (U4 o1 rfl T1.fits ?_));have sz:(bY prog w cs').size=4:=by simp;lia
   rw[sz];have gr:SetTable.sizeAbove (SetTable.grown (4+1))=32:=by decide
   dsimp only;rw[gr,Ti (by rw[VB];decide)]
   obtain⟨ow,la,T2,pm2,ef⟩:=Hf (m:=31) (.inr rfl) T1 (by lia)
   have rl:t1.relaid ((bY prog w cs1).map (·.1)) (SetTable.grown (4+1))=some ({ mask:=31,place:=((bQ 31 ow).map (·.1)).toArray,dummies:=#[],finger:=t1.finger,led:=t1.led,moves:=t1.movedTo 31,plain:=t1.plain },((bQ 31 ow).map (·.2)).toArray):=by unfold SetTable.relaid;rw[gr];exact la
   rw[rl];refine SX ?_;show wpAny (model prog w) A (if ((((bQ 31 ow).map (·.2)).toArray.filterMap ((bY prog w cs1)[·]?)).size != (bY prog w cs1).size)=true then (unsupported _>>=_) else pure (_,_)) _ _ _
   have sz2:((((bQ 31 ow).map (·.2)).toArray.filterMap ((bY prog w cs1)[·]?)).size != (bY prog w cs1).size)=false:=by rw[ef];have:=pm2.length_eq;simp[this]
   rw[sz2,Ti (by decide)]
   refine S6 ?_;dsimp only;rw[ef];refine XF o1 rfl ?_ (Bq (by rw[pm2.length_eq];lia))
   have o2:=rO (es1:=bY prog w (kZ cs1 31 ow)) (t1:={ mask:=31,place:=((bQ 31 ow).map (·.1)).toArray,dummies:=#[],finger:=t1.finger,led:=t1.led,moves:=t1.movedTo 31,plain:=t1.plain }) o1;refine S6 (h _ true (b1.trans (Ve _ a _)) ⟨_,_,_,pm2.trans pm1,o2,T2,?_⟩);unfold NF;rw[pm2.length_eq];show cs1.length*5<31*3
   lia
  ·have nfull:(!false&&t1.tooFull)=true ↔ False:=by simp[full]
   rw[Ti (by rw[nfull];exact id)]
   refine SX (S6 ?_);refine S6 (h _ true b1 ⟨cs1,_,t1,pm1,o1,T1,?_⟩);unfold NF;unfold SetTable.tooFull at full;rw[fill]at full;simpa using full
end
end LA
namespace L2
open PySem PySem.Spec PyProof.Rows LS LA LB
section
variable{X:Cx}{YB:List (Addr×Obj)}{σ:St}{H:Hp}{s:Shared}{scope:Scope}{cl:List (Str×Addr)}{own:List Str}{js:List Nat}{fr:List Str}{fp:List Addr}{C m:Addr}
def uz(T:CompG X scope cl own js fr)(I:Inv X YB σ H s)(f:∀ b∈fp,FpOk X YB H b)(hlt:∀ b∈fp,b<s.heap.objs.size)
  (k:∀b o,s.heap.get? b=some o->h'.get? b=some o) (ha:s.heap.objs.size<=acc) (hC:s.heap.objs.size<=C) (hne:C≠acc) (hm:m=hh.objs.size) (hms:s.heap.objs.size<=m) (hCm:C<m) (ham:acc<m) (hh':h'=pushCells hh scope.names) (ob:ObjOk X.prog X.w (upd H acc ho) h' acc ho) (ns:h'.Ns C mm) :
  Inv (X.aK YB scope (cellsFrom m scope.names cl) (own++fr) fp C s H) [] (List.replicate own.length none++pick js σ) (upd H acc ho) { s with heap:=h',toks:=t' }:=by
 have ok:CellsOk (pushCells hh scope.names) m (cellsFrom m scope.names []):=by
  have:=cellsFrom_ok scope.names hh m [] ⟨λx x hm=>(nomatch hm),List.Pairwise.nil⟩ (by rw[hm];exact Td _)
  rw[<-hm]at this;exact this
 have hold:∀y c,cl.lookup y=some c->c<s.heap.objs.size:=λy c e=>by obtain⟨v,q⟩:=I.cell y c (T.sub _ _ e);exact q.lt
 have spl:∀y c,(cellsFrom m scope.names cl).lookup y=some c->(m<=c/\h'.IsCell c none)\/(cl.lookup y=some c/\c<s.heap.objs.size):=λy c e=>by
  rw[b7]at e;rcases jK e with z | ⟨_,z⟩
  ·have:=ok.empty _ _ (UW z);exact .inl ⟨this.2,by rw[hh'];exact this.1⟩
  ·exact .inr ⟨z,hold _ _ z⟩
 have hn:H acc=none:=I.hok.fresh ha;have fC:H C=none:=I.hok.fresh hC;refine⟨yt T I f hlt hC hm hms,rfl,I.bare,Un.laid k ha hn,⟨mm,ns,λi y v h1 h2 h3=>?_⟩,λy c e=>?_,by show upd H acc _ C=none;rw[upd_ne hne];exact fC,λy c e=>?_,λp hp=>?_,I.hok.laid k ha ob,?_⟩
 ·have h1:(own++fr)[i]?=some y:=h1;by_cases hi:i<own.length
  ·rw[Tq (by rw[Uv];exact hi),VR]at h2
   split at h2<;>cases h2
  ·rw [List.getElem?_append_right (by lia)] at h1
   rw[Uo (by rw[Uv];lia),Uv]at h2
   unfold pick at h2;rw[Tp]at h2;cases hj:js[i-own.length]? with
   |none=>rw[hj]at h2;cases h2
   | some j=>
     rw[hj]at h2;have h2s:(σ[j]?).getD none=some v:=Tu h2;have h2'':σ[j]?=some (some v):=by
      cases z:σ[j]? with
      |none=>rw[z]at h2s;cases h2s
      |some w=>rw[z]at h2s;exact congrArg some h2s
     obtain⟨g1,g2,g3,c,gc⟩:=T.fre _ j y hj h1;obtain⟨mX,_,hl⟩:=I.loc;have vis:Vis X.env.scope y:=g2.elim (λz=>.inr (.inl z)) λz=>.inr (.inr z)
     obtain⟨u,r,q⟩:=hl j y v g1 h2'' vis;refine⟨u,r,.inr ⟨g3,c,?_,?_⟩⟩
     ·show (cellsFrom m scope.names cl).lookup y=some c;rw[b7];cases z:(cellsFrom m scope.names []).lookup y with
      |none=>rw[gO z];exact gc
      |some c'=>exact absurd (T.newc m y c' z) (T.oldc y c gc)
     ·have hc':=T.sub _ _ gc;rcases q with ⟨q,_⟩ | ⟨_,c2,e2,z⟩
      ·have q:X.env.scope.names.lookup y=some .local:=q;rcases g2 with g2 | g2<;>(rw[g2]at q;cases q)
      ·rw[hc']at e2;cases e2;exact z.keeps k
 ·rcases spl y c e with ⟨_,z⟩ | ⟨z,_⟩
  ·exact⟨_,z⟩
  ·obtain⟨v,q⟩:=I.cell y c (T.sub _ _ z);exact⟨v,q.keeps k⟩
 ·rcases spl y c e with ⟨z,_⟩ | ⟨z,lt⟩
  ·show upd H acc _ c=none;rw[upd_ne (λ(q:c=acc)=>absurd ham (VG.mpr (q ▸ z)))]
   exact I.hok.fresh (Ue hms z)
  ·show upd H acc _ c=none;rw[upd_ne (λ(q:c=acc)=>absurd lt (VG.mpr (q ▸ ha)))]
   exact I.freeC y c (T.sub _ _ z)
 ·have hp':p∈X.pn++YB:=by simpa using hp
  obtain⟨e,n,ne,nf,d⟩:=I.pin p hp';refine⟨k _ _ e,?_,Tj (Tr (Te e) hC),λhm=>?_,d⟩
  ·show upd H acc _ p.1=none;rw[upd_ne (λz=>absurd (Te e) (by rw[z];exact VG.mpr ha))]
   exact n
  ·rcases Tt.mp (I.stkSub _ hm) with z | z
   ·exact ne z
   ·exact nf z
 ·show (List.replicate own.length none++pick js σ).length=(own++fr).length;unfold pick;rw[T4,Uv,S9,T4,T.len]
end
section
variable{prog:Program}{w:World}{A:Around}{R:Result->Shared->Prop}{s:Shared}
def uF(elt:Expr)(acc:Value)(env:Env)(k:Sem Fin):Sem Fin:=(eval elt env>>=λv=>standAt elt.pos>>=λz=>call (.builtin "set.add") [acc,v]>>=λz=>pure ())>>=λz=>k
def Py(elt target iter:Expr)(ifs:List Expr)(scope:Scope)(pos:Pos)(it acc:Value)(env:Env):
  compTurn (.SetComp elt [⟨target,iter,ifs,0⟩] scope pos) 0 it acc env=turnOf ⟨target,iter,ifs,0⟩ (uF elt acc env) (.compLoop (.SetComp elt [⟨target,iter,ifs,0⟩] scope pos) 0 it acc env) it env:=rfl
def Bo:iY prog w A (uF elt acc env) (λP s=>wpAny (model prog w) A (eval elt env) (λx s1=>wpAny (model prog w) A (call (.builtin "set.add") [acc,x]) (λy s2=>P s2) (λy y=>False) s1) (λy y=>False) s):=by intro k Q E s h;unfold uF;exact SX (SX (Tz h (λx s1 h1=>SX (VF (SX (Tz h1 (λy s2 h2=>S6 h2) λy y z=>z.elim)))) λy y z=>z.elim))
def wB(I:Nat->Shared->Prop)
  (hturn:compTurn (.SetComp elt gens scope pos) depth it acc env=turnOf g bodyK (.compLoop (.SetComp elt gens scope pos) depth it acc env) it env) (hW:iY prog w A bodyK W)
  (turn:∀ n s,I n s->wpAny (model prog w) A (pyNext it) (λr s₁=>match r with
    |none=>R (.ok .next) s₁
    |some v=>wpAny (model prog w) A (letOwnedTupleGo g.target it v) (λz s₂=>wpAny (model prog w) A (assign g.target env v) (λz s₃=>
      wpAny (model prog w) A (rQ g.ifs env) (λok s₄=>if ok=true then W (λs₅=>∃m,m<n/\I m s₅) s₄ else ∃m,m<n/\I m s₄) (λz z=>False) s₃) (λz z=>False) s₂) (λz z=>False) s₁) (λz z=>False) s)
  (hmono:∀P P' s,(∀s,P s->P' s)->W P s->W P' s)
  (n:Nat) (h:I n s):codeAny (model prog w) A (.compLoop (.SetComp elt gens scope pos) depth it acc env) R s:=by
 refine codeAny_loop rfl I (λn s hI=>?_) n h
 show wpAny _ A ((compTurn (.SetComp elt gens scope pos) depth it acc env).onRaise (λx=>do noteFrame x env;theTreesLotGoes x)) _ _ s
 refine wpAny_noted ?_;rw[hturn];unfold turnOf;refine SX (VF (SX (Tz (turn n s hI) (λr s₁ h₁=>?_) λz z h'=>h'.elim)))
 cases r with
 |none=>exact S6 h₁
 | some v=>
   refine SX (Tz h₁ (λz s₂ h₂=>SX (Tz h₂ (λz s₃ h₃=>SX (Tz h₃ (λok s₄ h₄=>?_) λz z h'=>h'.elim)) λz z h'=>h'.elim)) λz z h'=>h'.elim)
   cases ok with
   |false=>have h₄:∃m,m<n/\I m s₄:=h₄;exact S6 ⟨rfl,h₄⟩
   |true=>
     have h₄:W (λs₅=>∃m,m<n/\I m s₅) s₄:=h₄
     exact hW _ _ _ _ (hmono _ _ _ (λs₅ h₅=>S6 ⟨rfl,h₅⟩) h₄)
def pB(hg:gens[depth]?=some g)(ha:g.is_async=0)
  (h0:codeAny (model prog w) A (.compLoop (.SetComp elt gens scope pos) depth it acc env) R s)
  (h:wpAny (model prog w) A (pyIter it) (λit' s'=>codeAny (model prog w) A (.compLoop (.SetComp elt gens scope pos) depth it' acc env) R s') (λz z=>False) s) :
  codeAny (model prog w) A (.compStart (.SetComp elt gens scope pos) depth it acc env) R s:=by
 refine Ym ?_;show wpAny _ _ ((compStart (.SetComp elt gens scope pos) depth it acc env).onRaise (λx=>do noteFrame x env;standAt theWindowsPlace)) _ _ s
 refine wpAny_notedAt ?_;unfold compStart;have e1:(((clausesOf (.SetComp elt gens scope pos))[depth]?).elim false (·.is_async != 0))=false:=by show ((gens[depth]?).elim false (·.is_async != 0))=false;rw[hg];show (g.is_async != 0)=false;rw[ha];rfl
 rw[e1];simp only[Bool.false_eq_true,if_false,pure_bind];refine SX (Vq (wpAny_ite ?_));split
 ·first
   |exact SX (S6 (S6 (And.intro rfl h0)))
   |exact S6 (And.intro rfl h0)
 ·refine SX (Vp ?_);have e2:(clausesOf (.SetComp elt gens scope pos))[depth]?=some g:=hg;rw[e2];exact SX (VF (SX (Tz h (λit' s' h'=>S6 (And.intro rfl h')) λz z x=>x.elim)))
end
def lE(P:Program)(w:World)(a:Addr)(cs:List (Addr×List Int)):HO:=.ext λh=>SetT P w (!bJ w) h a cs
def Hk(h:SetT P w L h1 a cs)(k:∀o,h1.get? a=some o->h2.get? a=some o):SetT P w L h2 a cs:=by obtain⟨cs',ep,t,p,e,r⟩:=h;exact⟨cs',ep,t,p,k _ e,r⟩
def Ck(k:SetT P w (!bJ w) h a cs):ObjOk P w H h a (lE P w a cs):=⟨k,by obtain⟨_,_,_,_,e,_⟩:=k;exact⟨_,e⟩,λz z k1 s=>Hk k1 s⟩
def uB(cs:List (Addr×List Int))(c:Addr×List Int):List (Addr×List Int):=if c.2∈cs.map (·.2) then cs else cs++[c]
def Bt(ok:HOk P w H h)(hb:H b=some (.tup (k.map V.int))):IsTupleKey (iK P w) h k b:=by
 obtain⟨_,its,hv,o,ho,hc,n,hd⟩:=ok _ _ hb;refine⟨o,its.toArray,n,ho,hc,hd,?_⟩;have:∀ {ks:List Int}{us:List Value},Vals (ks.map V.int) us->ItemsAre (iK P w) ks us:=by
  intro ks;induction ks with
  |nil=>intro us h;cases h;exact .nil
  | cons k ks ih=>
    intro us h;cases h with
    |cons r t=>obtain⟨u,rfl⟩:=r;exact .cons (Xw _ _ _ _) (ih t)
 simpa using this hv
section
variable{X:Cx}
def Ls(hu:X.A.units+1<cLine)(I:Inv X YB σ H s)(ha:H a=some (lE X.prog X.w a cs))(hb:H b=some (.tup (k.map V.int)))
  (hcs:∀c∈cs,H c.1=some (.tup (c.2.map V.int))) (room:cs.length+1<=18) (q:∀s',Inv X YB σ (upd H a (lE X.prog X.w a (uB cs (b,k)))) s'->Q .none s') :
  wpAny (model X.prog X.w) X.A (call (.builtin "set.add") [.ref a,.ref b]) Q E s:=by
 have hS:SetT X.prog X.w (!bJ X.w) s.heap a cs:=(I.hok _ _ ha).1;have tI:s.TypeIs (.ref a) "set":=by obtain⟨_,_,_,_,e,_⟩:=hS;exact⟨_,e,rfl⟩
 have hk:=Bt I.hok hb;have hH:xU X.prog X.w s.heap cs:=λc hc=>Bt I.hok (hcs c hc)
 refine Uk F.slot_set_add tI F.entry_set_add ?_ (F.args_set_add_2 _ _);unfold Builtin.«set.add» Builtin.Frozenset.oneOther;simp only[List.isEmpty_nil,bind_assoc];unfold Builtin.Frozenset.addrOf setAdd;refine SX (S6 ?_)
 try dsimp only
 refine SX (S6 ?_)
 try dsimp only
 refine SX ?_;refine Up ?_;refine SX (wpAny_pyHash_tuple (knd:=iK X.prog X.w) (by simpa using hu) hk ?_)
 refine J0 (s:={ s with toks:=s.toks+(k.length+1) }) (by simpa using hu) hS hH hk room λh' r sb g=>?_
 show wpAny _ _ (ret Value.none) _ _ _;refine S6 ⟨_,rfl,q _ ?_⟩;refine I.write (x:=a) (e:=a) (o:=lE X.prog X.w a (uB cs (b,k))) (by rw[ha];trivial) (.inl rfl) (λb u ne e=>(sb.2 b ne).trans e) (by obtain⟨_,_,_,_,e,_⟩:=g;exact⟨_,e⟩) ?_
 exact Ck (by unfold uB;exact g)
end
end L2
namespace LA
open PySem PySem.Spec PyProof.Rows LS LB
section
variable{prog:Program}{w:World}{A:Around}{E:Value->Shared->Prop}{s:Shared}
def yq(hh:A.handled=none)(ho:s.heap.get? a=some (bc es ep t))(hf:t.fits es.size=true)(ti:TI (!bJ w) t)(hb:es.size<scanBound)(h:∀ h' tk d' vs,vs.Perm (es.toList.map (·.2))->s.heap.objs.size<=h'.objs.size->(∀ b o,s.heap.get? b=some o->h'.get? b=some o)->Q vs { s with heap:=h',toks:=tk,drawn:=d' }):wpAny (model prog w) A (collect (.ref a)) Q E s:=by
 unfold collect;refine SX (Yq (Vo X8 ?_));rw[Vc Yb _];refine SX (m:=newList []) (Uj (S6 ⟨Wv Wf _,Vo F.entry_list_iadd ?_⟩));rw[Vc Wf _];have ha:a<s.heap.objs.size:=Te ho;have ne:s.heap.objs.size≠a:=λz=>by rw[z]at ha;exact Vj _ ha
 have sr:Builtin.List.listSameRef (.ref s.heap.objs.size) (.ref a)=false:=by simp[Builtin.List.listSameRef,ne]
 have lst0:(s.heap.push (seqObj "list" #[] 0)).get? s.heap.objs.size=some (seqObj "list" #[] 0):=Tg _ rfl;have ho1:(s.heap.push (seqObj "list" #[] 0)).get? a=some (bc es ep t):=S5 _ ho;show wpAny _ A.in1 (Builtin.List.listExtendWith (.ref s.heap.objs.size) (.ref a) (.ref s.heap.objs.size)) _ _ { s with heap:=s.heap.push (seqObj "list" #[] 0) }
 unfold Builtin.List.listExtendWith;refine SX (W2 (T := "set") ⟨_,ho1,rfl⟩ ?_);rw[Ti (by rw[sr];decide)]
 refine SX (yS (s:={ s with heap:=s.heap.push (seqObj "list" #[] 0) }) ho1 hf ti hb λh1 d1 I tp ord hI k1 hI1 htp c po=>?_)
 have ho2:=k1 a _ ho1;have lst1:=k1 _ _ lst0;have szI:s.heap.objs.size+1<=I:=by have:(s.heap.push (seqObj "list" #[] 0)).objs.size<=I:=hI;rw[T5]at this;exact this
 refine SX (Up (yP ho2 ?_));dsimp only;refine SX (m:=rule _) (Vp ?_);unfold Builtin.List.listTouch;refine SX (SX (Ww lst1 rfl ?_ (by simp) (by simp)))
 have lst2:=Xe lst1 (λx:Array Value=>x.push .none)
 refine Ww lst2 rfl ?_ (by simp[sizeLine_eq]) (by simp)
 have lst3:=Xe lst2 (λx:Array Value=>x.pop)
 have up:∀b o,b≠s.heap.objs.size->h1.get? b=some o->((h1.update s.heap.objs.size (Obj.mapSeq λx=>x.push .none)).update s.heap.objs.size (Obj.mapSeq λx=>x.pop)).get? b=some o:=λb o hb e=>by rw[Wr _ _ _ _ hb,Wr _ _ _ _ hb];exact e
 have neI:I≠s.heap.objs.size:=wY szI;have netp:tp≠s.heap.objs.size:=by
  rcases htp with z | ⟨z,_⟩
  ·rw[z];exact λq=>ne q.symm
  ·have:s.heap.objs.size+1<=tp:=by have:(s.heap.push (seqObj "list" #[] 0)).objs.size<=tp:=z;rw[T5]at this;exact this
   exact wY this
 have hne:a≠I:=Tj (Wm ha szI);have hh1:A.in1.in1.handled=none:=by simp[hh]
 have W:=(wL (prog:=prog) (w:=w) (A:=A.in1) (I:=I) (a:=a) (tp:=tp) (es:=es) (ep:=ep) (t:=t) (ord:=ord) (by simp[hh]) hf ti hne).toS
 have ol:ord.length=es.size:=by rw[po.length_eq];simp
 refine S6 ⟨Wv F.plain_extend_loop _,codeAny_extend_loopS W (by rw[ol];exact WN hb) s.heap.objs.size (by simp;exact⟨λz=>neI z.symm,ne,λz=>netp z.symm⟩) _ ord.length 0 _ #[] _ rfl (Vb _) ⟨up a _ (λq=>ne q.symm) ho2,c.at (λo e=>up I o neI e) λo e=>up tp o netp e⟩ lst3 (ItemsOf.nil _) λs' acc c' hm hS' hacc=>?_⟩
 refine SX (m:=load s.heap.objs.size) (wpAny_load hS' ?_);have ea:acc.toList=ord:=by
  apply XC;intro k;by_cases hk:k<acc.size
  ·have:=hacc.2 k acc[k] (by rw[Uw hk])
   rw[this,Wc,Uw hk]
  ·rw[Ur (by simp;lia),Ur (by have:=hacc.1;lia)]
 obtain⟨h2,g2,d2,tk2,os2⟩:=s';have eg:g2=s.gens:=hm.gens;have ed:d2=d1:=hm.drawn;have eo:os2=s.os:=hm.os;subst eg ed eo;refine S6 (h h2 tk2 d2 acc.toList (by rw[ea];exact po) (Wn (Te hS')) λb o e=>?_)
 have lt:b<s.heap.objs.size:=Te e;refine hm.heap b o (by simp;exact⟨Tj lt,Tj (Wm lt szI)⟩) (up b o (Tj lt) (k1 b o (S5 _ e)))
def Aq:∀ {l:List α}{m:List β},m.Perm (l.map f)->∃ l':List α,l'.Perm l/\m=l'.map f:=by
 intro l m p;generalize e:l.map f=x at p;induction p generalizing l with
 |nil=>exact⟨[],by cases l<;>simp_all,rfl⟩
 | cons x p ih=>
   cases l with
   |nil=>cases e
   |cons a l=>simp only[List.map_cons,List.cons.injEq]at e;obtain⟨l',p',rfl⟩:=ih e.2;exact⟨a::l',p'.cons a,by rw[Ud,e.1]⟩
 | swap x y l0=>
   cases l with
   |nil=>cases e
   | cons a l=>
     cases l with
     |nil=>simp at e
     |cons b l=>simp only[List.map_cons,List.cons.injEq]at e;exact⟨b::a::l,.swap a b l,by simp[e]⟩
 |trans p1 p2 ih1 ih2=>obtain⟨l',q1,e1⟩:=ih2 e;obtain⟨l'',q2,e2⟩:=ih1 e1.symm;exact⟨l'',q2.trans q1,e2⟩
def Ay(hh:A.handled=none)(g:SetT prog w (!bJ w) s.heap a cs)(hT:∀ c∈cs,c.2≠[]/\∃ its,IsTup s.heap c.1 its/\IntsAre its.toList c.2)(hl:cs.length<=60)
  (h:∀h' tk d' p n (cs':List (Addr×List Int)),cs'.Perm cs->my (cs'.map (·.2))->s.heap.objs.size<=p->h'.get? p=some (seqObj "list" (cs'.map λc=>Value.ref c.1).toArray n)->(∀b o,s.heap.get? b=some o->h'.get? b=some o)->Q (.ref p) { s with heap:=h',toks:=tk,drawn:=d' }) :
  wpAny (model prog w) A (call (.builtin "sorted") [.ref a]) Q E s:=by
 obtain⟨c0,ep,t,pm,ho,T,nf⟩:=g;refine Wi kind_sorted plain_sorted entry_sorted (args_sorted1 _) ?_;unfold Builtin.«sorted»
 refine SX (m:=checkCount "sorted" 1 1 _) (S6 ?_);have l0:=pm.length_eq;refine SX (yq (by simp[hh]) ho T.fits T.ti (by simp[scanBound];lia) λh1 tk1 d1 vs hp sz k1=>?_)
 have e1:(bY prog w c0).toList.map (·.2)=c0.map λc=>Value.ref c.1:=by simp[ent,Function.comp_def]
 rw[e1]at hp;obtain⟨c1,p1,rfl⟩:=Aq hp;have l1:=p1.length_eq;have zl:(c1.map λc=>Value.ref c.1).toArray.size<=sizeLine:=by rw[TF,S9,VB];lia
 refine SX (wpAny_newList ?_ zl);have oL:(h1.push (seqObj "list" (c1.map λc=>Value.ref c.1).toArray 0)).get? h1.objs.size=some (seqObj "list" (c1.map λc=>Value.ref c.1).toArray 0):=Tg _ rfl
 have tups:∀ (l:List (Addr×List Int)),(∀ c∈l,c∈cs)->gH (h1.push (seqObj "list" (c1.map λc=>Value.ref c.1).toArray 0)) (l.map λc=>Value.ref c.1) (l.map (·.2)):=by
  intro l;induction l with
  |nil=>intro _;exact .nil
  |cons c l ih=>intro hc;obtain⟨ne,its,it,ia⟩:=hT c (hc c TY);exact .cons ⟨ne,c.1,its,rfl,it.keeps λb o e=>S5 _ (k1 b o e),ia⟩ (ih λx hx=>hc x (Ua _ hx))
 have hts:=tups c1 λc hc=>pm.mem_iff.mp (p1.mem_iff.mp hc)
 refine SX (Up (Uk slot_list_sort ⟨_,oL,rfl⟩ entry_list_sort (vH oL hts (by rw[S9];lia) λis si=>⟨_,rfl,?_⟩) (args_list_sort _)))
 obtain⟨e,he⟩:=sortedHeap_at (out:=(is.map λi=>(c1.map λc=>Value.ref c.1).getD i Value.none).toArray) oL
 have sl:=si.lt;rw[S9]at sl;have ev:(is.map λi=>(c1.map λc=>Value.ref c.1).getD i Value.none)=(is.map λi=>c1.getD i (0,[])).map λc=>Value.ref c.1:=by rw[Ug];exact V1 λi hi=>by have:=sl i hi;simp[this]
 have ek:(is.map λi=>(c1.map (·.2)).getD i [])=(is.map λi=>c1.getD i (0,[])).map (·.2):=by rw[Ug];exact V1 λi hi=>by have:=sl i hi;simp[this]
 have pk:(is.map λi=>c1.getD i (0,[])).Perm cs:=by
  have sp:=si.pm;rw[S9]at sp;refine (sp.map _).trans ?_;have e3:(List.range c1.length).map (λi=>c1.getD i (0,[]))=c1:=by
   apply V4
   ·simp
   ·intro i h1 h2;simp at h1 ⊢
    rw[Tc h1];rfl
  rw[e3];exact p1.trans pm
 have ris:=si.ris;rw[ek]at ris;rw[ev]at he ⊢
 refine S6 ⟨_,rfl,h _ _ _ h1.objs.size e _ pk ris sz he λb o eb=>?_⟩
 have lt:=Te (k1 b o eb);rw[sortedHeap_old (Tj lt) (by rw[size_push'];exact Vu lt)]
 exact S5 _ (k1 b o eb)
end
end LA
namespace L2
open PySem PySem.Spec PyProof.Rows LS LA LB
def yo(hh:X.A.handled=none):CallR X (.builtin "sorted") (λxs H Q=>∃ (p:Addr) (cs:List (Addr×List Int)),xs=[.ref p]/\H p=some (lE X.prog X.w p cs)/\(∀ c∈cs,c.2≠[]/\H c.1=some (.tup (c.2.map V.int)))/\cs.length<=60/\∀ (l:Addr) (cs':List (Addr×List Int)),H l=none->cs'.Perm cs->(cs'.map (·.2))=Aa (cs.map (·.2))->Q (.ref l) (upd H l (.lst (cs'.map λc=>V.ref c.1)))):=by
 intro YB s σ H xs us Q I r1 h;obtain⟨p,cs,rfl,hp,hT,hl,q⟩:=h;cases r1 with
 | cons r rr=>
   cases rr;cases r;have hS:SetT X.prog X.w (!bJ X.w) s.heap p cs:=(I.hok _ _ hp).1;refine Ay hh hS (λc hc=>?_) hl λh2 tk2 d2 l m cs' pm ri hge hol k2=>?_
   ·obtain⟨ne,hc'⟩:=hT c hc;obtain⟨_,its,hv,it⟩:=I.hok _ _ hc';exact⟨ne,its.toArray,it,by simpa using qQ hv⟩
   ·have zl:(cs'.map λc=>V.ref c.1).length<=sizeLine:=by
     rw[S9,pm.length_eq];show _<=2^24
     lia
    have vv:∀l:List (Addr×List Int),Vals (l.map λc=>V.ref c.1) (l.map λc=>Value.ref c.1):=by
     intro l;induction l with
     |nil=>exact .nil
     |cons c l ih=>exact .cons rfl ih
    have I2:=I.call (h':=h2) (t':=tk2) (d':=d2) (g':=s.gens) (ch:=[]) (Un.laid k2 hge (I.hok.fresh hge)) (I.hok.laid (o:=.lst (cs'.map λc=>V.ref c.1)) k2 hge ⟨zl,_,m,vv cs',hol⟩) I.bare (λy z=>nomatch z)
    exact⟨.ref l,upd H l (.lst (cs'.map λc=>V.ref c.1)),I2,rfl,q l cs' (I.hok.fresh hge) pm (wF ((pm.map _).trans (iV _).1.symm) ri (iV _).2)⟩
end L2
namespace LA
open PySem PySem.Spec PyProof.Rows LS
end LA
namespace L2
open PySem PySem.Spec PyProof.Rows LS
def mY(P:Program)(w:World)(a:Addr)(ks:List Int):HO:=.ext λh=>SetG P w (!bJ w) h a ks
def Cj{P:Program}{w:World}{H:Hp}{h:Heap}{a:Addr}{ks:List Int}(k:SetG P w (!bJ w) h a ks):ObjOk P w H h a (mY P w a ks):=⟨k,by obtain⟨_,_,_,e,_⟩:=k.ex;exact⟨_,e⟩,λz z k1 s=>SetG.at k1 s⟩
section
variable{X:Cx}
def Jp{YB:List (Addr×Obj)}{s:Shared}{σ:St}{H:Hp}{a:Addr}{k:Int}{tk:Tok}{ks:List Int}{Q:Value->Shared->Prop}{E:Value->Shared->Prop}(I:Inv X YB σ H s)(ha:H a=some (mY X.prog X.w a ks))(room:ks.length+1<scanBound)
  (q:∀s',Inv X YB σ (upd H a (mY X.prog X.w a (step_dedup ks k))) s'->Q .none s') :
  wpAny (model X.prog X.w) X.A (call (.builtin "set.add") [.ref a,.int k tk]) Q E s:=by
 have hS:SetG X.prog X.w (!bJ X.w) s.heap a ks:=(I.hok _ _ ha).1;have tI:s.TypeIs (.ref a) "set":=by obtain⟨_,_,_,e,_⟩:=hS.ex;exact⟨_,e,rfl⟩
 refine Uk F.slot_set_add tI F.entry_set_add ?_ (F.args_set_add_2 _ _);unfold Builtin.«set.add» Builtin.Frozenset.oneOther;simp only[List.isEmpty_nil,bind_assoc];unfold Builtin.Frozenset.addrOf setAdd;refine SX (S6 ?_)
 try dsimp only
 refine SX (S6 ?_)
 try dsimp only
 refine SX ?_;refine Up (SX ((intKind X.prog X.w).pyHash (k:=k) (Xw _ _ _ _) ?_));refine add_int (s:={ s with toks:=s.toks+1 }) hS room λh' b sb g=>?_
 rw[pC]at g;show wpAny _ _ (ret Value.none) _ _ _;refine S6 ⟨_,rfl,q _ ?_⟩;refine I.write (x:=a) (e:=a) (o:=mY X.prog X.w a (step_dedup ks k)) (by rw[ha];trivial) (.inl rfl) (λb u ne e=>(sb.2 b ne).trans e) (by obtain⟨_,_,_,e,_⟩:=g.ex;exact⟨_,e⟩) ?_
 exact Cj g
def xZ(hh:X.A.handled=none):CallR X (.builtin "sorted") (λxs H Q=>∃ (p:Addr) (ns:List Int),xs=[.ref p]/\H p=some (mY X.prog X.w p (ns.foldl step_dedup []))/\(ns.foldl step_dedup []).length<=60/\∀ (l:Addr),H l=none->Q (.ref l) (upd H l (.lst ((eN ns).map V.int)))):=by
 intro YB s σ H xs us Q I r1 h;obtain⟨p,ns,rfl,hp,hl,q⟩:=h;cases r1 with
 | cons r rr=>
   cases rr;cases r;have hS:SetG X.prog X.w (!bJ X.w) s.heap p (ns.foldl step_dedup []):=(I.hok _ _ hp).1;refine vh hh hS (by lia) λh2 tk2 d2 l m ws ms hge hol ims pm so k2=>?_
   have em:ms=eN ns:=dD (pm.trans (bD _).1.symm) so (bD _).2;have zl:((eN ns).map V.int).length<=sizeLine:=by
    rw[S9,show (eN ns).length=(ns.foldl step_dedup []).length from (bD _).1.length_eq]
    show _<=2^24
    lia
   have I2:=I.call (h':=h2) (t':=tk2) (d':=d2) (g':=s.gens) (ch:=[]) (Un.laid k2 hge (I.hok.fresh hge)) (I.hok.laid (o:=.lst ((eN ns).map V.int)) k2 hge ⟨zl,_,m,by rw[<-em];exact vals_ints ims,hol⟩) I.bare (λy z=>nomatch z)
   exact⟨.ref l,upd H l (.lst ((eN ns).map V.int)),I2,rfl,q l (I.hok.fresh hge)⟩
end
end L2
namespace L3
open PySem PySem.Spec L2
open PyProof.Rows hiding St
inductive D where
 |non | bl (b:Bool) | int (i:Int) | str (x:Str)
 |tup (l:List D) | lst (l:List D)
 |dic (ks:List Key) (vs:List D)
 |obj (c:Str) (ns:List Str) (vs:List D)
 |scr (ns:List Int)
 |ref (n:Nat)
 |cls (c:Str) | ty (t:String)
 |exn (a:Addr)
instance:Inhabited D:=⟨.non⟩
inductive DO where
 |lst (l:List D)
 |dic (ks:List Key) (vs:List D)
 |ins (c:Str) (ns:List Str) (vs:List D)
abbrev Mo:=List DO
inductive R(α:Type) where
 |ok (a:α) | exc (c:Str)
def DM(α:Type):=Mo->Option (R α×Mo)
@[reducible] def DM.pure{α:Type}(a:α):DM α:=λM=>some (.ok a,M)
def DM.bind{α β:Type}(m:DM α)(f:α->DM β):DM β:=λM=>match m M with
 |none=>none
 |some (.exc c,M')=>some (.exc c,M')
 |some (.ok a,M')=>f a M'
instance:Monad DM where
 pure:=DM.pure
 bind:=DM.bind
def rd{α:Type}(f:Mo->Option α):DM α:=λM=>(f M).map λa=>(.ok a,M)
def opt{α:Type}(o:Option α):DM α:=λM=>o.map λa=>(.ok a,M)
def stuck{α:Type}:DM α:=λz=>none
def raise{α:Type}(c:Str):DM α:=λM=>some (.exc c,M)
abbrev aa:=List (Option D)
structure Rh where
 st:List Addr
 vo:List Addr
instance:Membership Addr Rh:=⟨λρ a=>a∈ρ.st\/a∈ρ.vo⟩
def Rh.put(ρ:Rh)(p:Addr):Rh:=⟨ρ.st++[p],ρ.vo⟩
def Rh.hold(ρ:Rh)(p:Addr):Rh:=⟨ρ.st,p::ρ.vo⟩
mutual
inductive Cv(mg:Str->Option Value)(ρ:Rh)(H:Hp):V->D->Prop
 |non:Cv mg ρ H .non .non
 |bl (b:Bool):Cv mg ρ H (.bl b) (.bl b)
 |int (i:Int):Cv mg ρ H (.int i) (.int i)
 |str (x:Str):Cv mg ρ H (.str x) (.str x)
 |tup {a:Addr}{xs:List V}{ds:List D}:a∉ρ->H a=some (.tup xs)->Cvs mg ρ H xs ds->Cv mg ρ H (.ref a) (.tup ds)
 |lst {a:Addr}{xs:List V}{ds:List D}:a∉ρ->H a=some (.lst xs)->Cvs mg ρ H xs ds->Cv mg ρ H (.ref a) (.lst ds)
 |dic {a:Addr}{ks:List Key}{xs:List V}{ds:List D}:a∉ρ->H a=some (.dK (ks.zip xs))->ks.length=xs.length->Cvs mg ρ H xs ds->Cv mg ρ H (.ref a) (.dic ks ds)
 |obj {a C dx:Addr}{c:Str}{ns:List Str}{xs:List V}{ds:List D}:a∉ρ->mg c=some (.ref C)->H a=some (.ins C dx (ns.zip xs))->ns.length=xs.length->Cvs mg ρ H xs ds->Cv mg ρ H (.ref a) (.obj c ns ds)
 |scr {a:Addr}{ns:List Int}:a∉ρ->Rd H a (.lst (ns.map V.int))->Cv mg ρ H (.ref a) (.scr ns)
 |ref {n:Nat}{a:Addr}:ρ.st[n]?=some a->Cv mg ρ H (.ref a) (.ref n)
 |cls {c:Str}{C:Addr}:mg c=some (.ref C)->Cv mg ρ H (.ref C) (.cls c)
 |ty (t:String):Cv mg ρ H (.ty t) (.ty t)
 |exn (a:Addr):Cv mg ρ H (.ref a) (.exn a)
inductive Cvs(mg:Str->Option Value)(ρ:Rh)(H:Hp):List V->List D->Prop
 |nil:Cvs mg ρ H [] []
 |cons {v:V}{d:D}{vs:List V}{ds:List D}:Cv mg ρ H v d->Cvs mg ρ H vs ds->Cvs mg ρ H (v::vs) (d::ds)
end
structure Ext(ρ:Rh)(H:Hp)(ρ':Rh)(H':Hp):Prop where
 pre:∃τ,ρ'.st=ρ.st++τ
 vo:ρ'.vo=ρ.vo
 new:∀a,a∈ρ'.st->a∉ρ.st->H a=none
 keep:∀a o,H a=some o->a∉ρ.st->H' a=some o
def Ext.refl:Ext ρ H ρ H:=⟨⟨[],by simp⟩,rfl,λa h n=>absurd h n,λz z h z=>h⟩
def Ext.keeps(e:Ext ρ H ρ' H')(h:H a=some o)(n:a∉ρ):H' a=some o:=e.keep a o h λz=>n (.inl z)
def Ext.out1(e:Ext ρ H ρ' H')(h:H a=some o)(n:a∉ρ.st):a∉ρ'.st:=λz=>by have:=e.new a z n;rw[h]at this;cases this
def Ext.out(e:Ext ρ H ρ' H')(h:H a=some o)(n:a∉ρ):a∉ρ':=λz=>by
 rcases z with z | z
 ·exact e.out1 h (λy=>n (.inl y)) z
 ·rw[e.vo]at z;exact n (.inr z)
theorem Ext.trans(e:Ext ρ H ρ1 H1)(f:Ext ρ1 H1 ρ2 H2):Ext ρ H ρ2 H2:=by
 refine⟨?_,f.vo.trans e.vo,λa h n=>?_,λa o h n=>f.keep a o (e.keep a o h n) (e.out1 h n)⟩
 ·obtain⟨τ,h1⟩:=e.pre;obtain⟨υ,h2⟩:=f.pre;exact⟨τ++υ,by rw[h2,h1,Vv]⟩
 ·by_cases z:a∈ρ1.st
  ·exact e.new a z n
  ·cases q:H a with
   |none=>rfl
   |some o=>have:=f.new a h z;rw[e.keep a o q n]at this;cases this
def Ext.at(e:Ext ρ H ρ' H'){n:Nat}(h:ρ.st[n]?=some a):ρ'.st[n]?=some a:=by obtain⟨τ,h1⟩:=e.pre;rw[h1,Tq (S7.mp h).1];exact h
def Rh.nhold{ρ:Rh}{a p:Addr}(h:a∉ρ)(n:a≠p):a∉ρ.hold p:=λz=>by
 rcases z with z | z
 ·exact h (.inl z)
 ·rcases Tt.mp z with z | z
  ·exact n z
  ·exact h (.inr z)
section
variable{mg:Str->Option Value}{ρ ρ':Rh}{H H':Hp}
def Cvs.ind{P:List V->List D->Prop}{vs:List V}{ds:List D}(h:Cvs mg ρ H vs ds)(n:P [] [])(c:∀{v d vs ds},Cv mg ρ H v d->Cvs mg ρ H vs ds->P vs ds->P (v::vs) (d::ds)):P vs ds:=
 Cvs.rec (motive_1:=λz z z=>True) (motive_2:=λvs ds z=>P vs ds) ⟨⟩ (λz=>⟨⟩) (λz=>⟨⟩) (λz=>⟨⟩) (λz z z z=>⟨⟩) (λz z z z=>⟨⟩) (λz z z z z=>⟨⟩) (λz z z z z z=>⟨⟩) (λz z=>⟨⟩) (λz=>⟨⟩) (λz=>⟨⟩) (λz=>⟨⟩) (λz=>⟨⟩) n (λa t z i=>c a t i) h
def Cvs.gen(at_:∀(n:Nat) a,ρ.st[n]?=some a->ρ'.st[n]?=some a)(kp:∀a o,H a=some o->a∉ρ->(∀φ,o≠.ext φ)->a∉ρ'/\H' a=some o){vs:List V}{ds:List D}(h:Cvs mg ρ H vs ds):Cvs mg ρ' H' vs ds:=
 Cvs.rec (motive_1:=λv d z=>Cv mg ρ' H' v d) (motive_2:=λvs ds z=>Cvs mg ρ' H' vs ds) .non .bl .int .str (λn h z c=>.tup (kp _ _ h n nofun).1 (kp _ _ h n nofun).2 c) (λn h z c=>.lst (kp _ _ h n nofun).1 (kp _ _ h n nofun).2 c) (λn h l z c=>.dic (kp _ _ h n nofun).1 (kp _ _ h n nofun).2 l c) (λn m h l z c=>.obj (kp _ _ h n nofun).1 m (kp _ _ h n nofun).2 l c)
  (λn h=>h.elim (λh=>.scr (kp _ _ h n nofun).1 (.inl (kp _ _ h n nofun).2)) λ⟨_,h⟩=>.scr (kp _ _ h n nofun).1 (.inr ⟨_,(kp _ _ h n nofun).2⟩)) (λh=>.ref (at_ _ _ h)) .cls .ty .exn .nil (λz z=>.cons) h
def Cvs.hd{v:V}{d:D}{vs:List V}{ds:List D}(h:Cvs mg ρ H (v::vs) (d::ds)):Cv mg ρ H v d:=by cases h;assumption
theorem Cv.gen(at_:∀(n:Nat) a,ρ.st[n]?=some a->ρ'.st[n]?=some a)(kp:∀a o,H a=some o->a∉ρ->(∀φ,o≠.ext φ)->a∉ρ'/\H' a=some o){v:V}{d:D}(h:Cv mg ρ H v d):Cv mg ρ' H' v d:=(Cvs.gen at_ kp (.cons h .nil)).hd
def Cv.mono(e:Ext ρ H ρ' H'){v:V}{d:D}(h:Cv mg ρ H v d):Cv mg ρ' H' v d:=h.gen (λz z=>e.at) λz z h n z=>⟨e.out h n,e.keeps h n⟩
def Cvs.mono(e:Ext ρ H ρ' H'){v:List V}{d:List D}(h:Cvs mg ρ H v d):Cvs mg ρ' H' v d:=h.gen (λz z=>e.at) λz z h n z=>⟨e.out h n,e.keeps h n⟩
def Cvs.len{vs:List V}{ds:List D}(h:Cvs mg ρ H vs ds):vs.length=ds.length:=h.ind (P:=λvs ds=>vs.length=ds.length) rfl λz z=>congrArg (·+ 1)
def Cvs.append{vs us:List V}{ds es:List D}(h:Cvs mg ρ H vs ds)(h2:Cvs mg ρ H us es):Cvs mg ρ H (vs++us) (ds++es):=h.ind (P:=λvs ds=>Cvs mg ρ H (vs++us) (ds++es)) h2 λa z=>.cons a
theorem Cvs.take{vs:List V}{ds:List D}(n:Nat)(h:Cvs mg ρ H vs ds):Cvs mg ρ H (vs.take n) (ds.take n):=h.ind (P:=λvs ds=>∀n,Cvs mg ρ H (vs.take n) (ds.take n)) (λn=>by rw[List.take_nil,List.take_nil];exact .nil) (λa z i n=>by cases n with | zero=>exact .nil | succ n=>exact .cons a (i n)) n
theorem Cvs.drop{vs:List V}{ds:List D}(n:Nat)(h:Cvs mg ρ H vs ds):Cvs mg ρ H (vs.drop n) (ds.drop n):=h.ind (P:=λvs ds=>∀n,Cvs mg ρ H (vs.drop n) (ds.drop n)) (λn=>by rw[List.drop_nil,List.drop_nil];exact .nil) (λa t i n=>by cases n with | zero=>exact .cons a t | succ n=>exact i n) n
def Cvs.get{vs:List V}{ds:List D}{i:Nat}{d:D}(h:Cvs mg ρ H vs ds):ds[i]?=some d->∃v,vs[i]?=some v/\Cv mg ρ H v d:=h.ind (P:=λvs ds=>∀i,ds[i]?=some d->∃v,vs[i]?=some v/\Cv mg ρ H v d) (λz e=>by cases e) (λ{v _ _ _} a _ r i=>by cases i with | zero=>exact λe=>⟨v,rfl,Tu e ▸ a⟩ | succ n=>exact r n) i
theorem Cvs.set{v:V}{d:D}(h:Cv mg ρ H v d){vs:List V}{ds:List D}(i:Nat)(c:Cvs mg ρ H vs ds):Cvs mg ρ H (vs.set i v) (ds.set i d):=c.ind (P:=λvs ds=>∀i,Cvs mg ρ H (vs.set i v) (ds.set i d)) (λz=>.nil) (λa t r i=>by cases i with | zero=>exact .cons h t | succ n=>exact .cons a (r n)) i
theorem Cvs.ints:∀ns:List Int,Cvs mg ρ H (ns.map V.int) (ns.map D.int)
 |[]=>.nil
 |n::ns=>.cons (.int n) (Cvs.ints ns)
def jR(mg:Str->Option Value)(ρ:Rh)(H:Hp)(a:Addr):DO->Prop
 |.lst l=>∃xs,H a=some (.lst xs)/\Cvs mg ρ H xs l
 |.dic ks l=>∃xs,H a=some (.dK (ks.zip xs))/\ks.length=xs.length/\Cvs mg ρ H xs l
 |.ins c ns l=>∃C dx xs,mg c=some (.ref C)/\H a=some (.ins C dx (ns.zip xs))/\ns.length=xs.length/\Cvs mg ρ H xs l
theorem jR.some{a:Addr}{o:DO}(h:jR mg ρ H a o):∃u,H a=some u:=by
 cases o with
 |lst l=>obtain⟨xs,h,_⟩:=h;exact⟨_,h⟩
 |dic ks l=>obtain⟨xs,h,_⟩:=h;exact⟨_,h⟩
 |ins c ns l=>obtain⟨C,dx,xs,_,h,_⟩:=h;exact⟨_,h⟩
theorem jR.mono{a:Addr}{o:DO}(e:Ext ρ H ρ' H')(k:H' a=H a)(h:jR mg ρ H a o):jR mg ρ' H' a o:=by
 cases o with
 |lst l=>obtain⟨xs,h,c⟩:=h;exact⟨xs,k.trans h,c.mono e⟩
 |dic ks l=>obtain⟨xs,h,q,c⟩:=h;exact⟨xs,k.trans h,q,c.mono e⟩
 |ins c ns l=>obtain⟨C,dx,xs,m,h,q,c⟩:=h;exact⟨C,dx,xs,m,k.trans h,q,c.mono e⟩
structure J(mg:Str->Option Value)(ρ:Rh)(M:Mo)(H:Hp):Prop where
 len:ρ.st.length=M.length
 nd:ρ.st.Nodup
 obj:∀(n:Nat) a o,ρ.st[n]?=some a->M[n]?=some o->jR mg ρ H a o
 vol:∀a,a∈ρ.vo->a∉ρ.st/\∃xs,H a=some (.lst xs)
theorem J.some{M:Mo}(j:J mg ρ M H){a:Addr}(h:a∈ρ):∃u,H a=some u:=by
 rcases h with h | h
 ·obtain⟨n,hn⟩:=WR.mp h;have lt:n<M.length:=by rw[<-j.len];exact (S7.mp hn).1
  exact (j.obj n a M[n] hn (Tc lt)).some
 ·obtain⟨_,xs,e⟩:=j.vol a h;exact⟨_,e⟩
def J.fresh{M:Mo}(j:J mg ρ M H){p:Addr}(h:H p=none):p∉ρ:=λz=>by obtain⟨u,e⟩:=j.some z;rw[h]at e;cases e
def J.inj{M:Mo}(j:J mg ρ M H){n m:Nat}{a:Addr}(h:ρ.st[n]?=Option.some a)(k:ρ.st[m]?=Option.some a):n=m:=by
 obtain⟨h1,e1⟩:=S7.mp h;obtain⟨h2,e2⟩:=S7.mp k;have q:∀i k (hi:i<ρ.st.length) (hk:k<ρ.st.length),i<k->ρ.st[i]≠ρ.st[k]:=λi k hi hk lt=>Vn.mp j.nd i k hi hk lt
 rcases Wh n m with z | z | z
 ·exact absurd (e1.trans e2.symm) (q n m h1 h2 z)
 ·exact z
 ·exact absurd (e2.trans e1.symm) (q m n h2 h1 z)
def Ext.lay{p:Addr}{o:HO}(h:H p=none):Ext ρ H ρ (upd H p o):=⟨⟨[],by simp⟩,rfl,λa h n=>absurd h n,λa o e z=>by rw[upd_ne (ne_of_none e h)];exact e⟩
def Ext.same(S:Same H H'):Ext ρ H ρ H':=⟨⟨[],by simp⟩,rfl,λa h n=>absurd h n,λa o e z=>S _ _ e⟩
theorem J.same{M:Mo}(j:J mg ρ M H)(S:Same H H'):J mg ρ M H':=⟨j.len,j.nd,λn a o h k=>by have c:=j.obj n a o h k;obtain⟨u,e⟩:=c.some;exact c.mono (Ext.same S) (by rw[e,S _ _ e]),λa h=>let ⟨x,xs,e⟩:=j.vol a h;⟨x,xs,S _ _ e⟩⟩
def J.lay{M:Mo}(j:J mg ρ M H){p:Addr}(o:HO)(h:H p=none):J mg ρ M (upd H p o):=j.same (same_new h o)
theorem Ext.put{p:Addr}{o:HO}(h:H p=none):Ext ρ H (ρ.put p) (upd H p o):=⟨⟨[p],rfl⟩,rfl,λa ha n=>by
 rcases TV.mp ha with z | z
 ·exact absurd z n
 ·rw[TJ.mp z];exact h,λa o e y=>by rw[upd_ne (ne_of_none e h)];exact e⟩
theorem J.put{M:Mo}(j:J mg ρ M H){p:Addr}{o:HO}{u:DO}(h:H p=none)(c:jR mg (ρ.put p) (upd H p o) p u):J mg (ρ.put p) (M++[u]) (upd H p o):=by
 have np:p∉ρ.st:=λz=>j.fresh h (.inl z)
 refine⟨?_,?_,λn a w h1 h2=>?_,λa ha=>?_⟩
 ·show (ρ.st++[p]).length=_;rw[T4,T4,j.len];rfl
 ·show (ρ.st++[p]).Nodup;rw[VN];exact⟨j.nd,by simp,λx hx y hy e=>by rw[TJ.mp hy]at e;exact np (e ▸ hx)⟩
 ·have h1:(ρ.st++[p])[n]?=Option.some a:=h1;by_cases hn:n<ρ.st.length
  ·rw[Tq hn]at h1;rw[Tq (by rw[<-j.len];exact hn)]at h2
   have c:=j.obj n a w h1 h2;exact c.mono (Ext.put h) (upd_ne λ(z:a=p)=>np (z ▸ T3 h1))
  ·have hl:n<(ρ.st++[p]).length:=(S7.mp h1).1;rw[T4]at hl;have e:n=ρ.st.length:=by have:[p].length=1:=rfl;lia
   subst e;rw[Uo (Td _)]at h1;rw[j.len,Uo (Td _)]at h2;simp at h1 h2;subst h1 h2;exact c
 ·obtain⟨x,xs,e⟩:=j.vol a ha;have ne:a≠p:=ne_of_none e h;refine⟨λz=>?_,xs,by rw[upd_ne ne];exact e⟩
  rcases TV.mp z with z | z
  ·exact x z
  ·exact ne (TJ.mp z)
theorem Ext.upd{p:Addr}{o:HO}(h:p∈ρ.st):Ext ρ H ρ (L2.upd H p o):=⟨⟨[],by simp⟩,rfl,λa h n=>absurd h n,λa u e n=>by rw[upd_ne (λ(z:a=p)=>n (z ▸ h))];exact e⟩
theorem J.upd{M:Mo}(j:J mg ρ M H){n:Nat}{p:Addr}{o:HO}{u:DO}(h:ρ.st[n]?=Option.some p)(c:jR mg ρ (L2.upd H p o) p u):J mg ρ (M.set n u) (L2.upd H p o):=by
 refine⟨by rw[Wx];exact j.len,j.nd,λm a w h1 h2=>?_,λa ha=>?_⟩
 ·by_cases e:m=n
  ·subst e;rw[h]at h1;cases h1;have lt:m<M.length:=by rw[<-j.len];exact (S7.mp h).1
   rw[Uy lt]at h2;cases h2;exact c
  ·rw[U5 (λz=>e z.symm)]at h2
   have ne:a≠p:=λz=>by subst z;exact e (j.inj h1 h)
   exact (j.obj m a w h1 h2).mono (Ext.upd (T3 h)) (by rw[upd_ne ne])
 ·obtain⟨x,xs,e⟩:=j.vol a ha;exact⟨x,xs,by rw[upd_ne (λ(z:a=p)=>x (z ▸ T3 h))];exact e⟩
def Mq{p a:Addr}{o:HO}(hp:p∈ρ.vo)(n:a∉ρ):L2.upd H p o a=H a:=upd_ne λz=>n (by rw[z];exact .inr hp)
def Cvs.hold{p:Addr}{o:HO}(hp:p∈ρ.vo){v:List V}{d:List D}(h:Cvs mg ρ H v d):Cvs mg ρ (L2.upd H p o) v d:=h.gen (λz z h=>h) λz z h n z=>⟨n,(Mq hp n).trans h⟩
def Cvs.less{ρ1:Rh}(hs:ρ1.st=ρ.st)(hv:∀a,a∈ρ1.vo->a∈ρ.vo){v:List V}{d:List D}(h:Cvs mg ρ H v d):Cvs mg ρ1 H v d:=h.gen (λx x h=>hs ▸ h) λx x h n x=>⟨λz=>n (z.elim (λy=>.inl (hs ▸ y)) λy=>.inr (hv _ y)),h⟩
def Cvs.more{p:Addr}(hp:H p=none){v:List V}{d:List D}(h:Cvs mg ρ H v d):Cvs mg (ρ.hold p) H v d:=h.gen (ρ:=ρ) (ρ':=ρ.hold p) (λz z h=>h) λz z h n z=>⟨Rh.nhold n (ne_of_none h hp),h⟩
def jR.map{ρ1:Rh}{H1:Hp}{a:Addr}{o:DO}(k:H1 a=H a)(f:∀vs ds,Cvs mg ρ H vs ds->Cvs mg ρ1 H1 vs ds)(h:jR mg ρ H a o):jR mg ρ1 H1 a o:=by
 cases o with
 |lst l=>obtain⟨xs,h,c⟩:=h;exact⟨xs,k.trans h,f _ _ c⟩
 |dic ks l=>obtain⟨xs,h,q,c⟩:=h;exact⟨xs,k.trans h,q,f _ _ c⟩
 |ins c ns l=>obtain⟨C,dx,xs,m,h,q,c⟩:=h;exact⟨C,dx,xs,m,k.trans h,q,f _ _ c⟩
def J.begin{M:Mo}(j:J mg ρ M H){p:Addr}(hp:H p=none):J mg (ρ.hold p) M (L2.upd H p (.lst [])):=by
 have np:p∉ρ.st:=λz=>j.fresh hp (.inl z)
 refine⟨j.len,j.nd,λn a o h1 h2=>?_,λa ha=>?_⟩
 ·exact (j.obj n a o h1 h2).map (upd_ne λ(z:a=p)=>np (z ▸ T3 h1)) λvs ds c=>(c.more hp).hold (.head _)
 ·rcases Tt.mp ha with rfl | ha
  ·exact⟨np,[],upd_same⟩
  ·obtain⟨x,xs,e⟩:=j.vol a ha;exact⟨x,xs,by rw[upd_ne (ne_of_none e hp)];exact e⟩
def J.grow{M:Mo}(j:J mg ρ M H){p:Addr}{ys:List V}(hp:p∈ρ.vo):J mg ρ M (L2.upd H p (.lst ys)):=by
 refine⟨j.len,j.nd,λn a o h1 h2=>?_,λa ha=>?_⟩
 ·exact (j.obj n a o h1 h2).map (upd_ne λ(z:a=p)=>(j.vol p hp).1 (z ▸ T3 h1)) λvs ds c=>c.hold hp
 ·by_cases z:a=p
  ·subst z;exact⟨(j.vol a ha).1,ys,upd_same⟩
  ·obtain⟨x,xs,e⟩:=j.vol a ha;exact⟨x,xs,by rw[upd_ne z];exact e⟩
def J.done{M:Mo}{p:Addr}{ρ1:Rh}(j:J mg ρ1 M H)(hv:ρ1.vo=p::ρ.vo):J mg ⟨ρ1.st,ρ.vo⟩ M H:=by
 refine⟨j.len,j.nd,λn a o h1 h2=>?_,λa ha=>?_⟩
 ·exact jR.map (ρ:=ρ1) rfl (λvs ds c=>Cvs.less (ρ:=ρ1) (ρ1:=⟨ρ1.st,ρ.vo⟩) rfl (λa ha=>by rw[hv];exact .tail _ ha) c) (j.obj n a o h1 h2)
 ·obtain⟨x,y⟩:=j.vol a (by rw[hv];exact .tail _ ha)
  exact⟨x,y⟩
end
structure Kp(ρ:Rh)(H:Hp)(ρ':Rh)(H':Hp):Prop where
 pre:∃τ,ρ'.st=ρ.st++τ
 keep:∀a o,H a=some o->a∉ρ->(∀φ,o≠.ext φ)->a∉ρ'/\H' a=some o
def Ext.kp{ρ ρ':Rh}{H H':Hp}(e:Ext ρ H ρ' H'):Kp ρ H ρ' H':=⟨e.pre,λa o h n z=>⟨e.out h n,e.keeps h n⟩⟩
def Kp.trans{ρ ρ1 ρ2:Rh}{H H1 H2:Hp}(a:Kp ρ H ρ1 H1)(b:Kp ρ1 H1 ρ2 H2):Kp ρ H ρ2 H2:=by
 refine⟨?_,λc o h n ne=>let ⟨x,y⟩:=a.keep c o h n ne;b.keep c o y x ne⟩
 obtain⟨τ,h1⟩:=a.pre;obtain⟨υ,h2⟩:=b.pre;exact⟨τ++υ,by rw[h2,h1,Vv]⟩
def Kp.at{ρ ρ':Rh}{H H':Hp}(e:Kp ρ H ρ' H'){n:Nat}{a:Addr}(h:ρ.st[n]?=some a):ρ'.st[n]?=some a:=by obtain⟨τ,h1⟩:=e.pre;rw[h1,Tq (S7.mp h).1];exact h
section
variable{mg:Str->Option Value}{ρ ρ':Rh}{H H':Hp}
def Cv.kp(e:Kp ρ H ρ' H'){v:V}{d:D}(h:Cv mg ρ H v d):Cv mg ρ' H' v d:=h.gen (λz z=>e.at) e.keep
def Cvs.kp(e:Kp ρ H ρ' H'){v:List V}{d:List D}(h:Cvs mg ρ H v d):Cvs mg ρ' H' v d:=h.gen (λz z=>e.at) e.keep
end
def oG(mg:Str->Option Value)(ρ:Rh)(H:Hp){α β:Type}(rel:Rh->Hp->β->α->Prop)(Q:β->Hp->Prop)(E:XK):R α×Mo->Prop
 |(.ok a,M')=>∀ρ' H' b,Ext ρ H ρ' H'->J mg ρ' M' H'->rel ρ' H' b a->Q b H'
 |(.exc c,M')=>∀ρ' H' C,Ext ρ H ρ' H'->J mg ρ' M' H'->mg c=some (.ref C)->E (.ref C) none H'
def Go(mg:Str->Option Value)(E:XK){α β:Type}(rel:Rh->Hp->β->α->Prop)(Q:β->Hp->Prop)(ρ:Rh)(H:Hp)(m:DM α)(M:Mo):Prop:=∃r,m M=some r/\oG mg ρ H rel Q E r
section
variable{mg:Str->Option Value}{ρ ρ':Rh}{H H':Hp}{E:XK}{α β γ δ':Type}{rel:Rh->Hp->β->α->Prop}{rel':Rh->Hp->δ'->γ->Prop}{Q:δ'->Hp->Prop}{Q':β->Hp->Prop}
def oG.mono{r:R α×Mo}(e:Ext ρ H ρ' H')(h:oG mg ρ H rel Q' E r):oG mg ρ' H' rel Q' E r:=by
 obtain⟨r,M'⟩:=r;cases r with
 |ok a=>exact λρ2 H2 b e2 j c=>h ρ2 H2 b (e.trans e2) j c
 |exc c=>exact λρ2 H2 C e2 j m=>h ρ2 H2 C (e.trans e2) j m
set_option tactic.hygienic true in
theorem Go.bind{m:DM α}{k:α->DM γ}{M:Mo}(g:Go mg E rel' Q ρ H (m>>=k) M)
  (f:∀ρ1 H1 M1 b a,Ext ρ H ρ1 H1->J mg ρ1 M1 H1->rel ρ1 H1 b a->Go mg E rel' Q ρ1 H1 (k a) M1->Q' b H1):Go mg E rel Q' ρ H m M:=by
 obtain⟨r,e,p⟩:=g;have e:DM.bind m k M=some r:=e;unfold DM.bind at e;split at e
 ·cases e
 ·rename_i c M' em;cases e;exact⟨_,em,p⟩
 ·rename_i a M' em;exact⟨_,em,λρ1 H1 b x j c=>f ρ1 H1 M' b a x j c ⟨r,e,p.mono x⟩⟩
theorem Go.rd{f:Mo->Option α}{M:Mo}(g:Go mg E rel Q' ρ H (rd f) M):∃a,f M=some a/\∀ρ' H' b,Ext ρ H ρ' H'->J mg ρ' M H'->rel ρ' H' b a->Q' b H':=by obtain⟨r,e,p⟩:=g;obtain⟨a,e1,rfl⟩:=S8.mp e;exact⟨a,e1,p⟩
theorem Go.opt{o:Option α}{M:Mo}(g:Go mg E rel Q' ρ H (opt o) M):∃a,o=some a/\∀ρ' H' b,Ext ρ H ρ' H'->J mg ρ' M H'->rel ρ' H' b a->Q' b H':=by obtain⟨r,e,p⟩:=g;obtain⟨a,e1,rfl⟩:=S8.mp e;exact⟨a,e1,p⟩
theorem Go.pure{a:α}{M:Mo}(g:Go mg E rel Q' ρ H (pure a) M):∀ρ' H' b,Ext ρ H ρ' H'->J mg ρ' M H'->rel ρ' H' b a->Q' b H':=by obtain⟨r,e,p⟩:=g;have e:some (R.ok a,M)=some r:=e;cases e;exact p
end
structure Ev(mg:Str->Option Value)(ρ:Rh)(H:Hp)(σ:St)(δ:aa):Prop where
 len:σ.length=δ.length
 val:∀(i:Nat) d,δ[i]?=some (some d)->∃v,σ[i]?=some (some v)/\Cv mg ρ H v d
theorem Ev.mono{mg:Str->Option Value}{ρ ρ':Rh}{H H':Hp}{σ:St}{δ:aa}(e:Ext ρ H ρ' H')(h:Ev mg ρ H σ δ):Ev mg ρ' H' σ δ:=
 ⟨h.len,λi d q=>let ⟨v,a,b⟩:=h.val i d q;⟨v,a,b.mono e⟩⟩
theorem Ev.kp{mg:Str->Option Value}{ρ ρ':Rh}{H H':Hp}{σ:St}{δ:aa}(e:Kp ρ H ρ' H')(h:Ev mg ρ H σ δ):Ev mg ρ' H' σ δ:=
 ⟨h.len,λi d q=>let ⟨v,a,b⟩:=h.val i d q;⟨v,a,b.kp e⟩⟩
theorem Ev.set{mg:Str->Option Value}{ρ:Rh}{H:Hp}{σ:St}{δ:aa}{i:Nat}{v:V}{d:D}(h:Ev mg ρ H σ δ)(c:Cv mg ρ H v d):Ev mg ρ H (σ.set i (some v)) (δ.set i (some d)):=by
 refine⟨by rw[Wx,Wx,h.len],λj x q=>?_⟩
 by_cases e:j=i
 ·subst e;have hj:j<(δ.set j (some d)).length:=(S7.mp q).1;rw[Wx]at hj;rw[Uy hj]at q;cases q;exact⟨v,Uy (by rw[h.len];exact hj),c⟩
 ·rw[U5 (λz=>e z.symm)]at q ⊢
  exact h.val j x q
def tD(mg:Str->Option Value)(E:XK){α β:Type}(rel:Rh->Hp->β->α->Prop)(f:aa->DM α):St->Hp->(β->Hp->Prop)->Prop:=λσ H Q=>
 ∃ρ δ M,Ev mg ρ H σ δ/\J mg ρ M H/\Go mg E rel Q ρ H (f δ) M
def Bv(_:Rh)(_:Hp)(b a:Bool):Prop:=b=a
structure DE(X:Cx)(E:XK)(e:Expr)(f:aa->DM D):Prop where
 h:PE X e (tD X.mg E (Cv X.mg) f)
structure DA(X:Cx)(E:XK)(es:List Expr)(f:aa->DM (List D)):Prop where
 h:QA X es (tD X.mg E (Cvs X.mg) f)
structure DT(X:Cx)(E:XK)(e:Expr)(f:aa->DM Bool):Prop where
 h:PT X e (tD X.mg E Bv f)
def PE.mono{X:Cx}{e:Expr}{t t':TE}(h:PE X e t)(f:∀σ H Q,t' σ H Q->t σ H Q):PE X e t':=λYB s σ H Q I q=>h YB s σ H Q I (f σ H Q q)
def PT.mono{X:Cx}{e:Expr}{t t':TT}(h:PT X e t)(f:∀σ H Q,t' σ H Q->t σ H Q):PT X e t':=λYB s σ H Q I q=>h YB s σ H Q I (f σ H Q q)
def PA.mono{X:Cx}{e:List Expr}{t t':TA}(h:PA X e t)(f:∀σ H Q,t' σ H Q->t σ H Q):PA X e t':=λp YB s σ H Q I q=>h p YB s σ H Q I (f σ H Q q)
mutual
def toPy:D->Option PyData
 |.non=>some .none
 |.bl b=>some (.bool b)
 |.int i=>some (.int i)
 |.str x=>some (.str x)
 |.tup l=>(gb l).map .tuple
 |.lst l=>(gb l).map .list
 |_=>none
def gb:List D->Option (List PyData)
 |[]=>some []
 |d::l=>match toPy d,gb l with
   |some p,some ps=>some (p::ps)
   |_,_=>none
end
section
variable{mg:Str->Option Value}{ρ:Rh}{H:Hp}
def nO{α:Type}{p:α}{P:Prop}(e:none=some p):P:=nomatch e
def Cvs.repF{vs:List V}{ds:List D}{ps:List PyData}(h:Cvs mg ρ H vs ds):gb ds=some ps->RepsF H true vs ps:=
 Cvs.rec (motive_1:=λv d z=>∀ p,toPy d=some p->RepF H true v p) (motive_2:=λvs ds z=>∀ ps,gb ds=some ps->RepsF H true vs ps)
  (λz e=>Tu e ▸ .non) (λb z e=>Tu e ▸ .bl b) (λb z e=>Tu e ▸ .int b) (λb z e=>Tu e ▸ .str b)
  (λz h z c z e=>by obtain⟨ps,e1,e2⟩:=S8.mp e;exact e2 ▸ .tup h (c _ e1)) (λz h z c z e=>by obtain⟨ps,e1,e2⟩:=S8.mp e;exact e2 ▸ .lst h (c _ e1))
  (λz z z z z z e=>nO e) (λz z z z z z z e=>nO e) (λz z z e=>nO e) (λz z e=>nO e) (λz z e=>nO e) (λz z e=>nO e) (λz z e=>nO e)
  (λz e=>Tu e ▸ .nil) (λ{_ d _ l} _ _ i j _ e=>by
    revert e;show (match toPy d,gb l with | some p,some ps=>some (p::ps) | _,_=>none)=_->_
    cases h1:toPy d with
    |none=>exact λe=>nO e
    |some p=>cases h2:gb l with
      |none=>exact λe=>nO e
      |some q=>exact λe=>Tu e ▸ .cons (i _ h1) (j _ h2)) h ps
theorem Cv.repF{v:V}{d:D}{p:PyData}(h:Cv mg ρ H v d)(e:toPy d=some p):RepF H true v p:=by
 have z:gb [d]=some [p]:=by
  show (match toPy d,some [] with | some p,some ps=>some (p::ps) | _,_=>none)=_
  rw[e]
 cases Cvs.repF (.cons h .nil) z;assumption
end
section
variable{X:Cx}{E:XK}{a b c:Expr}{fa fb fc:aa->DM D}{pos:Pos}
def cU(i:Nat)(δ:aa):DM D:=opt ((δ[i]?).join)
def aj(i:Nat){x:Str}(hN:X.N[i]?=some x:=by rfl)(hv:Vis X.env.scope x:=by first | exact Or.inl rfl | exact Or.inr (Or.inl rfl) | exact Or.inr (Or.inr rfl))(hd:(x==("__debug__":Str))=false:=by decide)
  (hcd:(x==("__classdict__":Str))=false:=by decide):DE X E (.Name x pos) (cU i):=⟨PE.mono (pe_var (i:=i) hN hv hd hcd) λσ H Q h=>by
 obtain⟨ρ,δ,M,ev,j,g⟩:=h;obtain⟨d,e,q⟩:=g.opt;have e':δ[i]?=some (some d):=by
  cases z:δ[i]? with
  |none=>rw[z]at e;cases e
  |some o=>rw[z]at e;exact congrArg some e
 obtain⟨v,h1,h2⟩:=ev.val i d e';exact⟨v,h1,q ρ H v .refl j h2⟩⟩
def iH{e:Expr}{v:V}{d:D}(h:PE X e (tC v))(hc:∀ρ H,Cv X.mg ρ H v d):DE X E e (λz=>pure d):=⟨PE.mono h λσ H Q h=>by obtain⟨ρ,δ,M,ev,j,g⟩:=h;exact g.pure ρ H v .refl j (hc _ _)⟩
def au{i j}:DE X E (.Constant (.int i) j pos) (λz=>pure (.int i)):=iH pe_int λz z=>.int i
def cA{i j}:DE X E (.Constant (.bool i) j pos) (λz=>pure (.bl i)):=iH pe_bl λz z=>.bl i
def yx{j}:DE X E (.Constant .none j pos) (λz=>pure .non):=iH pe_non λz z=>.non
def qi{x j}:DE X E (.Constant (.str x) j pos) (λz=>pure (.str x)):=iH pe_str λz z=>.str x
def PP{x:Str}{i:Int}{t:Tok}(h:X.mg x=some (.int i t))(hg:Gl X x:=by rfl)(hd:(x==("__debug__":Str))=false:=by decide):DE X E (.Name x pos) (λz=>pure (.int i)):=iH (Qf h hg hd) λz z=>.int i
def dY{x:Str}{T:String}(hm:X.mg x=none)(hg:Gl X x:=by rfl)(hv:bootBuiltins x=some (.type T):=by decide +kernel)(hn:x≠"__name__":=by decide)(hdb:(x==("__debug__":Str))=false:=by decide):DE X E (.Name x pos) (λz=>pure (.ty T)):=
 iH (Qh hm hg hv hn hdb) λz z=>.ty T
def rD(mg:Str->Option Value)(E:XK)(g:D->D->DM D):R2:=λx y H Q=>∃ρ M dx dy,J mg ρ M H/\Cv mg ρ H x dx/\Cv mg ρ H y dy/\Go mg E (Cv mg) Q ρ H (g dx dy) M
def bU(X:Cx)(E:XK)(f:Value->Value->Sem Value)(g:D->D->DM D):Prop:=OpR X f (rD X.mg E g)
def JH{g:D->D->DM D}{r:R2}(hr:∀x y H Q,rD X.mg E g x y H Q->r x y H Q){σ:L2.St}{H:Hp}{Q:VK}(h:tD X.mg E (Cv X.mg) (λδ=>fa δ>>=λx=>fb δ>>=λy=>g x y) σ H Q):
  tOp r (tD X.mg E (Cv X.mg) fa) (tD X.mg E (Cv X.mg) fb) σ H Q:=by
 obtain⟨ρ,δ,M,ev,j,g1⟩:=h;exact⟨ρ,δ,M,ev,j,g1.bind λρ1 H1 M1 x dx e1 j1 c1 g2=>⟨ρ1,δ,M1,ev.mono e1,j1,g2.bind λρ2 H2 M2 y dy e2 j2 c2 g3=>hr _ _ _ _ ⟨ρ2,M2,dx,dy,j2,c1.mono e2,c2,g3⟩⟩⟩
def aZ{op:Operator}{g:D->D->DM D}(ho:bU X E (binaryOp op) g)(ha:DE X E a fa)(hb:DE X E b fb):DE X E (.BinOp a op b pos) (λδ=>fa δ>>=λx=>fb δ>>=λy=>g x y):=
 ⟨PE.mono (pe_op ho ha.h hb.h) λσ H Q h=>JH (λw w w w z=>z) h⟩
def eZ{op:CmpOp}{g:D->D->DM D}(ho:bU X E (compareOp op) g)(ha:DE X E a fa)(hb:DE X E b fb)(hm:behindInMarks op b=false:=by first | exact nomark _ | rfl):DE X E (.Compare a [op] [b] pos) (λδ=>fa δ>>=λx=>fb δ>>=λy=>g x y):=
 ⟨PE.mono (pe_cmpR ho ha.h hb.h hm) λσ H Q h=>JH (λw w w w z=>z) h⟩
def gF:D->DM Bool
 |.bl b=>pure b
 |_=>stuck
theorem Go.gF{mg:Str->Option Value}{ρ:Rh}{H:Hp}{d:D}{M:Mo}{Q:Bool->Hp->Prop}(g:Go mg E Bv Q ρ H (gF d) M):∃k,d=.bl k/\∀ρ' H',Ext ρ H ρ' H'->J mg ρ' M H'->Q k H':=by
 cases d with
 |bl k=>exact⟨k,rfl,λρ' H' e j=>(show Go mg E Bv Q ρ H (Pure.pure k) M from g).pure ρ' H' k e j rfl⟩
 |_=>obtain⟨r,e,_⟩:=g;cases e
def dt_of{e:Expr}{f:aa->DM D}{t:TE}(h:PT X e (tTest t))(ht:∀σ H Q,tD X.mg E (Cv X.mg) f σ H Q->t σ H Q):DT X E e (λδ=>f δ>>=gF):=⟨PT.mono h λσ H Q h=>by
 obtain⟨ρ,δ,M,ev,j,g1⟩:=h;refine ht _ _ _ ⟨ρ,δ,M,ev,j,g1.bind λρ1 H1 M1 x dx e1 j1 c1 g2=>?_⟩
 obtain⟨k,rfl,q⟩:=Go.gF g2;cases c1;exact⟨k,rfl,q ρ1 H1 .refl j1⟩⟩
def aN{op:CmpOp}{g:D->D->DM D}(ho:bU X E (compareOp op) g)(ha:DE X E a fa)(hb:DE X E b fb)(hm:behindInMarks op b=false:=by first | exact nomark _ | rfl):DT X E (.Compare a [op] [b] pos) (λδ=>(fa δ>>=λx=>fb δ>>=λy=>g x y)>>=gF):=
 dt_of (pt_cmpR ho ha.h hb.h hm) λσ H Q h=>JH (λw w w w z=>z) h
def QT{g g':D->D->DM D}{σ:L2.St}{H:Hp}{Q:VK}(h:tD X.mg E (Cv X.mg) (λδ=>fa δ >>= λx=>fb δ >>= λy=>g x y >>= λz=>gF z >>= λk=>if k then fc δ >>= λw=>g' y w else pure (.bl false)) σ H Q):
  tChain (rD X.mg E g) (rD X.mg E g') (tD X.mg E (Cv X.mg) fa) (tD X.mg E (Cv X.mg) fb) (tD X.mg E (Cv X.mg) fc) σ H Q:=by
 obtain⟨ρ,δ,M,ev,j,g1⟩:=h;refine⟨ρ,δ,M,ev,j,g1.bind λρ1 H1 M1 x dx e1 j1 c1 g2=>⟨ρ1,δ,M1,ev.mono e1,j1,g2.bind λρ2 H2 M2 y dy e2 j2 c2 g3=>⟨ρ2,M2,dx,dy,j2,c1.mono e2,c2,g3.bind λρ3 H3 M3 z dz e3 j3 c3 g4=>?_⟩⟩⟩
 have g5:=g4.bind (rel:=Bv) (Q':=λk H4=>dz=.bl k/\∃ρ4 M4,Ext ρ3 H3 ρ4 H4/\J X.mg ρ4 M4 H4/\Go X.mg E (Cv X.mg) Q ρ4 H4 (if k then fc δ>>=λw=>g' dy w else pure (.bl false)) M4)
 have key:∃k,dz=.bl k/\Go X.mg E (Cv X.mg) Q ρ3 H3 (if k then fc δ>>=λw=>g' dy w else pure (.bl false)) M3:=by
  cases dz with
  |bl k=>exact⟨k,rfl,g4⟩
  |_=>obtain⟨r,e,_⟩:=g4;cases e
 obtain⟨k,rfl,g6⟩:=key;cases c3;refine⟨k,rfl,?_⟩;cases k with
 |false=>exact iteF (g6.pure ρ3 H3 _ .refl j3 (.bl false))
 |true=>
   have g6:Go X.mg E (Cv X.mg) Q ρ3 H3 (fc δ>>=λw=>g' dy w) M3:=g6
   exact iteT ⟨ρ3,δ,M3,((ev.mono e1).mono e2).mono e3,j3,g6.bind λρ4 H4 M4 w dw e4 j4 c4 g7=>⟨ρ4,M4,dy,dw,j4,(c2.mono e3).mono e4,c4,g7⟩⟩
def Ie{op op':CmpOp}{g g':D->D->DM D}(ho:bU X E (compareOp op) g)(ho':bU X E (compareOp op') g')(ha:DE X E a fa)(hb:DE X E b fb)(hc:DE X E c fc)(hm:lastMarks [op,op'] [b,c]=false:=by with_unfolding_all rfl):
  DE X E (.Compare a [op,op'] [b,c] pos) (λδ=>fa δ>>=λx=>fb δ>>=λy=>g x y>>=λz=>gF z>>=λk=>if k then fc δ>>=λw=>g' y w else pure (.bl false)):=
 ⟨PE.mono (pe_chain ho ho' ha.h hb.h hc.h hm) λσ H Q h=>QT h⟩
def oN{op op':CmpOp}{g g':D->D->DM D}(ho:bU X E (compareOp op) g)(ho':bU X E (compareOp op') g')(ha:DE X E a fa)(hb:DE X E b fb)(hc:DE X E c fc)(hm:lastMarks [op,op'] [b,c]=false:=by with_unfolding_all rfl):
  DT X E (.Compare a [op,op'] [b,c] pos) (λδ=>(fa δ>>=λx=>fb δ>>=λy=>g x y>>=λz=>gF z>>=λk=>if k then fc δ>>=λw=>g' y w else pure (.bl false))>>=gF):=
 dt_of (pt_chain ho ho' ha.h hb.h hc.h hm) λσ H Q h=>QT h
def iW:D->Mo->Option Bool
 |.non,_=>some false
 |.bl b,_=>some b
 |.int i,_=>some (i != 0)
 |.str y,_=>if y.length<=sizeLine then some ((y.length:Int) != 0) else none
 |.tup l,_=>some (!l.isEmpty)
 |.lst l,_=>some (!l.isEmpty)
 |.scr l,_=>some (!l.isEmpty)
 |.dic ks _,_=>some (!ks.isEmpty)
 |.ref n,M=>match M[n]? with
   |some (.lst l)=>some (!l.isEmpty)
   |some (.dic ks _)=>some (!ks.isEmpty)
   |_=>none
 |_,_=>none
def wM{α β:Type}{ks:List α}{xs:List β}(h:ks.length=xs.length):(ks.zip xs).isEmpty=ks.isEmpty:=by
 cases ks with
 |nil=>simp
 |cons k ks=>cases xs with
   |nil=>simp at h
   |cons x xs=>rfl
def Cvs.empty{mg:Str->Option Value}{ρ:Rh}{H:Hp}{vs:List V}{ds:List D}(c:Cvs mg ρ H vs ds):vs.isEmpty=ds.isEmpty:=by cases c<;>rfl
set_option tactic.hygienic true in
def Px{K:PySem.W.Frag}{mg:Str->Option Value}{ρ:Rh}{H:Hp}{M:Mo}{x:V}{d:D}{k:Bool}(j:J mg ρ M H)(h:Cv mg ρ H x d)(e:iW d M=some k):TruV K x H k:=by
 cases h with
 |non=>cases e;rfl
 |bl b=>cases e;rfl
 |int i=>cases e;rfl
 |str y=>
   unfold iW at e;dsimp only at e;split at e
   ·cases e;exact⟨‹_›,rfl⟩
   ·cases e
 |tup n h c=>cases e;exact .inr (.inl ⟨_,SqT.of h,by rw[c.empty]⟩)
 |lst n h c=>cases e;exact .inl ⟨_,SqL.of h,by rw[c.empty]⟩
 |scr n h=>cases e;exact .inl ⟨_,.inl h,by simp⟩
 |dic n h l c=>cases e;exact .inr (.inr ⟨_,h,by rw[wM l]⟩)
 | ref q=>
   rename_i n a;unfold iW at e;dsimp only at e;split at e
   ·rename_i l hl;cases e;obtain⟨xs,h,c⟩:=j.obj n a _ q hl;exact .inl ⟨_,SqL.of h,by rw[c.empty]⟩
   ·rename_i ks l hl;cases e;obtain⟨xs,h,z,c⟩:=j.obj n a _ q hl;exact .inr (.inr ⟨_,h,by rw[wM z]⟩)
   ·cases e
 |obj=>cases e
 |cls=>cases e
 |ty=>cases e
 |exn=>cases e
def aU(ha:DE X E a fa)(he:∀whole,isTrue a X.env whole=(do let v <-whole;standAt a.pos;holding [v] (truthy v))):DT X E a (λδ=>fa δ>>=λx=>rd (iW x)):=⟨PT.mono (pt_truth ha.h he) λσ H Q h=>by
 obtain⟨ρ,δ,M,ev,j,g1⟩:=h;refine⟨ρ,δ,M,ev,j,g1.bind λρ1 H1 M1 x dx e1 j1 c1 g2=>?_⟩
 obtain⟨k,e,q⟩:=g2.rd;exact⟨k,Px j1 c1 e,q ρ1 H1 k .refl j1 rfl⟩⟩
variable{ta tb:aa->DM Bool}
def bx(ha:DT X E a ta):DT X E (.UnaryOp .Not a pos) (λδ=>ta δ>>=λk=>pure (!k)):=⟨PT.mono (pt_not ha.h) λσ H Q h=>by
 obtain⟨ρ,δ,M,ev,j,g1⟩:=h;refine⟨ρ,δ,M,ev,j,g1.bind λρ1 H1 M1 x dx e1 j1 c1 g2=>?_⟩
 have c1:x=dx:=c1;subst c1;exact g2.pure ρ1 H1 _ .refl j1 rfl⟩
structure DW(X:Cx)(E:XK)(e:Expr)(f:aa->DM Bool):Prop where
 h:PW X e (tD X.mg E Bv f)
def PW.mono{e:Expr}{t t':TT}(h:PW X e t)(f:∀σ H Q,t' σ H Q->t σ H Q):PW X e t':=λw YB s σ H Q I q=>h w YB s σ H Q I (f σ H Q q)
def DW.dt{e:Expr}(h:DW X E e ta):DT X E e ta:=⟨PW.pt h.h⟩
def Bm(ha:DT X E a ta):DW X E (.BoolOp .And [a] pos) ta:=⟨pw_and1 ha.h⟩
def cG(ha:DT X E a ta):DW X E (.BoolOp .Or [a] pos) ta:=⟨pw_or1 ha.h⟩
variable{rest:List Expr}
def FQ(ha:DT X E a ta)(hb:DW X E (.BoolOp .And (b::rest) pos) tb):DW X E (.BoolOp .And (a::b::rest) pos) (λδ=>ta δ>>=λk=>if k then tb δ else pure false):=⟨PW.mono (pw_and ha.h hb.h) λσ H Q h=>by
 obtain⟨ρ,δ,M,ev,j,g1⟩:=h;refine⟨ρ,δ,M,ev,j,g1.bind λρ1 H1 M1 x dx e1 j1 c1 g2=>?_⟩
 have c1:x=dx:=c1;subst c1;cases x with
 |true=>exact iteT ⟨ρ1,δ,M1,ev.mono e1,j1,g2⟩
 |false=>exact iteF (Go.pure (a:=false) g2 ρ1 H1 _ .refl j1 rfl)⟩
def cB(ha:DT X E a ta)(hb:DW X E (.BoolOp .Or (b::rest) pos) tb):DW X E (.BoolOp .Or (a::b::rest) pos) (λδ=>ta δ>>=λk=>if k then pure true else tb δ):=⟨PW.mono (pw_or ha.h hb.h) λσ H Q h=>by
 obtain⟨ρ,δ,M,ev,j,g1⟩:=h;refine⟨ρ,δ,M,ev,j,g1.bind λρ1 H1 M1 x dx e1 j1 c1 g2=>?_⟩
 have c1:x=dx:=c1;subst c1;cases x with
 |false=>exact iteF ⟨ρ1,δ,M1,ev.mono e1,j1,g2⟩
 |true=>exact iteT (Go.pure (a:=true) g2 ρ1 H1 _ .refl j1 rfl)⟩
def nu{op:BoolOp}(ha:DE X E a fa):DE X E (.BoolOp op [a] pos) fa:=⟨pe_one ha.h⟩
def Go.isB{mg:Str->Option Value}{ρ:Rh}{H:Hp}{α β:Type}{rel:Rh->Hp->β->α->Prop}{Q:β->Hp->Prop}{d:D}{M:Mo}{f:Bool->DM α}(g:Go mg E rel Q ρ H (L3.gF d>>=f) M):∃k,d=.bl k/\Go mg E rel Q ρ H (f k) M:=by
 cases d with
 |bl k=>exact⟨k,rfl,g⟩
 |_=>obtain⟨r,e,_⟩:=g;cases e
def m9(ha:DE X E a fa)(hb:DE X E (.BoolOp .And (b::rest) pos) fb):DE X E (.BoolOp .And (a::b::rest) pos) (λδ=>fa δ>>=λx=>gF x>>=λk=>if k then fb δ else pure (.bl false)):=⟨PE.mono (pe_and ha.h hb.h) λσ H Q h=>by
 obtain⟨ρ,δ,M,ev,j,g1⟩:=h;refine⟨ρ,δ,M,ev,j,g1.bind λρ1 H1 M1 x dx e1 j1 c1 g2=>?_⟩
 obtain⟨k,rfl,g3⟩:=Go.isB g2;cases c1;refine⟨k,rfl,?_⟩;cases k with
 |true=>exact iteT ⟨ρ1,δ,M1,ev.mono e1,j1,g3⟩
 |false=>exact iteF (Go.pure (a:=D.bl false) g3 ρ1 H1 _ .refl j1 (.bl false))⟩
def Fv(ha:DE X E a fa):DE X E (.UnaryOp .Not a pos) (λδ=>fa δ>>=λx=>gF x>>=λk=>pure (.bl (!k))):=⟨PE.mono (pe_not ha.h) λσ H Q h=>by
 obtain⟨ρ,δ,M,ev,j,g1⟩:=h;refine⟨ρ,δ,M,ev,j,g1.bind λρ1 H1 M1 x dx e1 j1 c1 g2=>?_⟩
 obtain⟨k,rfl,g3⟩:=Go.isB g2;cases c1;exact⟨k,rfl,g3.pure ρ1 H1 _ .refl j1 (.bl _)⟩⟩
def ak:DA X E [] (λz=>pure []):=⟨⟨PA.mono zF.h λσ H Q h=>by obtain⟨ρ,δ,M,ev,j,g⟩:=h;exact g.pure ρ H [] .refl j .nil⟩⟩
def ao{es:List Expr}{fs:aa->DM (List D)}(ha:DE X E a fa)(hr:DA X E es fs)(hs:notStar a=true:=by rfl):DA X E (a::es) (λδ=>fa δ>>=λx=>fs δ>>=λxs=>pure (x::xs)):=⟨⟨PA.mono (Jl ha.h hr.h hs).h λσ H Q h=>by obtain⟨ρ,δ,M,ev,j,g1⟩:=h;exact⟨ρ,δ,M,ev,j,g1.bind λρ1 H1 M1 x dx e1 j1 c1 g2=>⟨ρ1,δ,M1,ev.mono e1,j1,g2.bind λρ2 H2 M2 xs dxs e2 j2 c2 g3=>g3.pure ρ2 H2 _ .refl j2 (.cons (c1.mono e2) c2)⟩⟩⟩⟩
def dR{α:Type}(l:List α):Bool:=decide (l.length<=sizeLine)
def wC(l:List D):DM D:=opt (if dR l then some (.tup l) else none)
def fX(l:List D):DM D:=opt (if dR l then some (.lst l) else none)
def gP(l:List D):DM D:=λM=>if dR l then some (.ok (.ref M.length),M++[.lst l]) else none
set_option tactic.hygienic true in
def uQ{l:List D}{d e:D}(h:(if dR l then some d else none)=some e):l.length<=sizeLine/\d=e:=by
 split at h
 ·cases h;exact⟨Ui ‹_›,rfl⟩
 ·cases h
variable{es:List Expr}{fs:aa->DM (List D)}
def dJ{x1}(h:DA X E es fs):DE X E (.Tuple es x1 pos) (λδ=>fs δ>>=wC):=⟨PE.mono (Lb h.h) λσ H Q h=>by
 obtain⟨ρ,δ,M,ev,j,g1⟩:=h;refine⟨ρ,δ,M,ev,j,g1.bind λρ1 H1 M1 xs dxs e1 j1 c1 g2=>?_⟩
 obtain⟨d,e,q⟩:=Go.opt g2;obtain⟨hz,rfl⟩:=uQ e;exact⟨by rw[c1.len];exact hz,λp hp=>q ρ1 _ _ (.lay hp) (j1.lay _ hp) (.tup (j1.fresh hp) upd_same (c1.mono (.lay hp)))⟩⟩
def cN(h:DA X E es fs):DE X E (.List es pos) (λδ=>fs δ>>=fX):=⟨PE.mono (Cd h.h) λσ H Q h=>by
 obtain⟨ρ,δ,M,ev,j,g1⟩:=h;refine⟨ρ,δ,M,ev,j,g1.bind λρ1 H1 M1 xs dxs e1 j1 c1 g2=>?_⟩
 obtain⟨d,e,q⟩:=Go.opt g2;obtain⟨hz,rfl⟩:=uQ e;exact⟨by rw[c1.len];exact hz,λp hp=>q ρ1 _ _ (.lay hp) (j1.lay _ hp) (.lst (j1.fresh hp) upd_same (c1.mono (.lay hp)))⟩⟩
set_option tactic.hygienic true in
theorem Go.gP{mg:Str->Option Value}{ρ:Rh}{H:Hp}{M:Mo}{Q:VK}{l:List D}{xs:List V}{p:Addr}(g:Go mg E (Cv mg) Q ρ H (gP l) M)(j:J mg ρ M H)(c:Cvs mg ρ H xs l)(hp:H p=none):l.length<=sizeLine/\Q (.ref p) (upd H p (.lst xs)):=by
 obtain⟨r,e,q⟩:=g;unfold L3.gP at e;split at e
 ·cases e;refine⟨Ui ‹_›,?_⟩;have x:Ext ρ H (ρ.put p) (upd H p (.lst xs)):=.put hp;refine q _ _ _ x (j.put hp ⟨xs,upd_same,c.mono x⟩) (.ref ?_);show (ρ.st++[p])[_]?=_;rw[<-j.len];simp
 ·cases e
set_option tactic.hygienic true in
def Go.mkR_len{mg:Str->Option Value}{ρ:Rh}{H:Hp}{M:Mo}{Q:VK}{l:List D}(g:Go mg E (Cv mg) Q ρ H (L3.gP l) M):l.length<=sizeLine:=by
 obtain⟨r,e,q⟩:=g;unfold L3.gP at e;split at e
 ·exact Ui ‹_›
 ·cases e
def qX(h:DA X E es fs):DE X E (.List es pos) (λδ=>fs δ>>=gP):=⟨PE.mono (Cd h.h) λσ H Q h=>by
 obtain⟨ρ,δ,M,ev,j,g1⟩:=h;refine⟨ρ,δ,M,ev,j,g1.bind λρ1 H1 M1 xs dxs e1 j1 c1 g2=>?_⟩
 exact⟨by rw[c1.len];exact g2.mkR_len,λp hp=>(g2.gP j1 c1 hp).2⟩⟩
end
section
variable{X:Cx}{E:XK}{mg:Str->Option Value}{ρ:Rh}{H:Hp}{M:Mo}
def Go.rdb(g:Go mg E rel Q ρ H (L3.rd f>>=k) M):∃a,f M=some a/\Go mg E rel Q ρ H (k a) M:=by
 obtain⟨r,e,p⟩:=g;have e:DM.bind _ _ M=some r:=e;unfold DM.bind L3.rd at e;cases h:f M with
 |none=>rw[h]at e;cases e
 |some a=>rw[h]at e;exact⟨a,rfl,r,e,p⟩
def bU.of{f:Value->Value->Sem Value}{g:D->D->Mo->Option D}(hr:OpR X f r)
  (h:∀x y H Q ρ M dx dy d,J X.mg ρ M H->Cv X.mg ρ H x dx->Cv X.mg ρ H y dy->g dx dy M=some d->(∀ρ' H' v,Ext ρ H ρ' H'->J X.mg ρ' M H'->Cv X.mg ρ' H' v d->Q v H')->r x y H Q):bU X E f (λx y=>rd (g x y)):=by
 intro YB s σ H x y v u Q I rx ry q;obtain⟨ρ,M,dx,dy,j,cx,cy,go⟩:=q;obtain⟨d,e,p⟩:=go.rd;exact hr YB s σ H x y v u Q I rx ry (h x y H Q ρ M dx dy d j cx cy e p)
def bw:D->Mo->Option (List D)
 |.lst l,_=>some l
 |.ref n,M=>match M[n]? with
   |some (.lst l)=>some l
   |_=>none
 |_,_=>none
set_option tactic.hygienic true in
def eE(j:J mg ρ M H){l:List D}(c:Cv mg ρ H x d)(e:bw d M=some l):∃ a xs,x=.ref a/\H a=some (.lst xs)/\Cvs mg ρ H xs l:=by
 cases c with
 |lst n h c=>cases e;exact⟨_,_,rfl,h,c⟩
 | ref q=>
   unfold bw at e;dsimp only at e;split at e
   ·rename_i l' hl;cases e;obtain⟨xs,h,c⟩:=j.obj _ _ _ q hl;exact⟨_,_,rfl,h,c⟩
   ·cases e
 |_=>cases e
def J.notup(j:J mg ρ M H)(h:H p=Option.some (HO.tup xs)):p∉ρ:=λz=>by
 rcases z with z | z
 rotate_left
 ·obtain⟨_,ys,e⟩:=j.vol p z;rw[h]at e;cases e
 obtain⟨n,hn⟩:=WR.mp z;have lt:n<M.length:=by rw[<-j.len];exact (S7.mp hn).1
 have c:=j.obj n p M[n] hn (Tc lt);cases hm:M[n] with
 |lst l=>rw[hm]at c;obtain⟨xs,e,_⟩:=c;rw[h]at e;cases e
 |dic ks l=>rw[hm]at c;obtain⟨xs,e,_⟩:=c;rw[h]at e;cases e
 |ins c' ns l=>rw[hm]at c;obtain⟨_,_,_,_,e,_⟩:=c;rw[h]at e;cases e
def Jr(l:List D):Option D:=if dR l then some (.tup l) else none
def IW(l:List D):Option D:=if dR l then some (.lst l) else none
def cZ:D->D->Mo->Option D
 |.int i,.int j,_=>some (.int (i+j))
 |.str a,.str b,_=>if a.length+b.length<=sizeLine then some (.str (a++b)) else none
 |.tup l,.tup m,_=>Jr (l++m)
 |x,y,M=>match bw x M,bw y M with
   |some l,some m=>IW (l++m)
   |_,_=>none
set_option tactic.hygienic true in
def HH(h:cZ x y M=some d):(∃ i j,x=.int i/\y=.int j/\d=.int (i + j))\/(∃ a b,x=.str a/\y=.str b/\a.length + b.length<=sizeLine/\d=.str (a++b))\/(∃ l m,x=.tup l/\y=.tup m/\l.length + m.length<=sizeLine/\d=.tup (l++m)) \/
  ∃l m,bw x M=some l/\bw y M=some m/\l.length+m.length<=sizeLine/\d=.lst (l++m):=by
 unfold cZ at h;split at h
 ·cases h;exact .inl ⟨_,_,rfl,rfl,rfl⟩
 ·split at h
  ·cases h;exact .inr (.inl ⟨_,_,rfl,rfl,‹_›,rfl⟩)
  ·cases h
 ·obtain⟨hz,rfl⟩:=uQ h;rw[T4]at hz;exact .inr (.inr (.inl ⟨_,_,rfl,rfl,hz,rfl⟩))
 ·split at h
  ·rename_i l m h1 h2;obtain⟨hz,rfl⟩:=uQ h;rw[T4]at hz;exact .inr (.inr (.inr ⟨l,m,h1,h2,hz,rfl⟩))
  ·cases h
def cz:bU X E (binaryOp .Add) (λx y=>rd (cZ x y)):=by
 refine bU.of (op_add.or (op_add_str.or (KZ.or op_cat))) λx y H Q ρ M dx dy d j cx cy e q=>?_
 rcases HH e with ⟨i,k,rfl,rfl,rfl⟩ | ⟨i,k,rfl,rfl,hz,rfl⟩ | ⟨l,m,rfl,rfl,hz,rfl⟩ | ⟨l,m,h1,h2,hz,rfl⟩
 ·cases cx;cases cy;exact .inl ⟨_,_,rfl,rfl,q ρ H _ .refl j (.int _)⟩
 ·cases cx;cases cy;exact .inr (.inl ⟨_,_,rfl,rfl,hz,q ρ H _ .refl j (.str _)⟩)
 ·cases cx with | tup n1 a1 c1=>cases cy with | tup n2 a2 c2=>
  refine .inr (.inr (.inl ⟨_,_,_,_,rfl,rfl,a1,a2,by rw[c1.len,c2.len];exact hz,λp H' S hp=>?_⟩))
  exact q ρ H' _ (.same S) (j.same S) (.tup ((j.same S).notup hp) hp ((c1.append c2).mono (.same S)))
 ·obtain⟨a1,x1,rfl,a2,c1⟩:=eE j cx h1;obtain⟨b1,y1,rfl,b2,c2⟩:=eE j cy h2;refine .inr (.inr (.inr ⟨_,_,_,_,rfl,rfl,a2,b2,by rw[c1.len,c2.len];exact hz,λp hp=>?_⟩))
  exact q ρ _ _ (.lay hp) (j.lay _ hp) (.lst (j.fresh hp) upd_same ((c1.append c2).mono (.lay hp)))
def dg(C:Int->Int->Bool)(g:Int->Int->D):D->D->Mo->Option D
 |.int i,.int j,_=>if C i j then some (g i j) else none
 |_,_,_=>none
set_option tactic.hygienic true in
def vD(h:dg C g x y M=some d):∃i j,x=.int i/\y=.int j/\C i j=true/\d=g i j:=by
 unfold dg at h;split at h
 ·split at h
  ·cases h;exact⟨_,_,rfl,rfl,‹_›,rfl⟩
  ·cases h
 ·cases h
def rM{f:Value->Value->Sem Value}{C:Int->Int->Bool}{g:Int->Int->Int}{P:Int->Int->Prop}(hr:OpR X f (rI P λi j=>.int (g i j)))(hc:∀i j,C i j=true->P i j):bU X E f (λx y=>rd (dg C (λi j=>.int (g i j)) x y)):=
 bU.of hr λx y H Q ρ M dx dy d j cx cy e q=>by obtain⟨i,k,rfl,rfl,hh,rfl⟩:=vD e;cases cx;cases cy;exact⟨_,_,rfl,rfl,hc _ _ hh,q ρ H _ .refl j (.int _)⟩
def zr{f:Value->Value->Sem Value}{g:Int->Int->Int}(hr:OpR X f (rI0 λi j=>.int (g i j))):bU X E f (λx y=>rd (dg (λz z=>true) (λi j=>.int (g i j)) x y)):=
 bU.of hr λx y H Q ρ M dx dy d j cx cy e q=>by obtain⟨i,k,rfl,rfl,hh,rfl⟩:=vD e;cases cx;cases cy;exact⟨_,_,rfl,rfl,q ρ H _ .refl j (.int _)⟩
def rK{f:Value->Value->Sem Value}{g:Int->Int->Bool}(hr:OpR X f (rI0 λi j=>.bl (g i j))):bU X E f (λx y=>rd (dg (λz z=>true) (λi j=>.bl (g i j)) x y)):=
 bU.of hr λx y H Q ρ M dx dy d j cx cy e q=>by obtain⟨i,k,rfl,rfl,hh,rfl⟩:=vD e;cases cx;cases cy;exact⟨_,_,rfl,rfl,q ρ H _ .refl j (.bl _)⟩
abbrev Ae:D->D->Mo->Option D:=dg (λ_ _=>true) λi j=>.int (i-j)
def nU:bU X E (binaryOp .Sub) (λx y=>rd (Ae x y)):=zr op_sub
def jh(i j:Int):Bool:=!(decide (Builtin.Int.intBits i > shortFactorBits)&&decide (Builtin.Int.intBits j > shortFactorBits)&&Builtin.Int.intTooBig (Builtin.Int.intBits i+Builtin.Int.intBits j))
def jh.ok(h:jh i j=true):IntMulOk i j:=λz=>by unfold jh at h;rw[z]at h;cases h
abbrev vK:D->D->Mo->Option D:=dg jh λi j=>.int (i*j)
def vM:bU X E (binaryOp .Mult) (λx y=>rd (vK x y)):=rM K5 λi j h=>jh.ok h
def rm(i j:Int):Bool:=decide (0<j)&&!Builtin.divisionGoesByPylong i j
def Jf:OpR X (binaryOp .FloorDiv) (rI (λi j=>rm i j=true) λi j=>.int (i / j)):=opI λi j z z z z z hc q=>by
 unfold rm at hc;have h0:0<j:=by have:=(Vi _ _).mp hc;exact Ui this.1
 have h1:Builtin.divisionGoesByPylong i j=false:=by have:=(Vi _ _).mp hc;simpa using this.2
 have e:i.fdiv j=i / j:=Int.fdiv_eq_ediv_of_nonneg i (Int.le_of_lt h0);exact floordiv_int (Int.ne_of_gt h0) (by rw[e];exact q) (.inl h1)
abbrev uG:D->D->Mo->Option D:=dg rm λi j=>.int (i / j)
def oY:bU X E (binaryOp .FloorDiv) (λx y=>rd (uG x y)):=rM Jf λi j h=>h
abbrev mF:D->D->Mo->Option D:=dg (λ_ j=>decide (0<j)) λi j=>.int (i%j)
def dM:bU X E (binaryOp .Mod) (λx y=>rd (mF x y)):=rM op_mod λi j h=>Ui h
def JN(i j:Int):Bool:=decide (0<=j/\j<=1000000/\i.natAbs<2^64)
abbrev Jk:D->D->Mo->Option D:=dg JN λi j=>.int (i^j.toNat)
def La:bU X E (binaryOp .Pow) (λx y=>rd (Jk x y)):=rM op_pow λi j h=>Ui (p:=0<=j/\j<=1000000/\i.natAbs<2^64) h
abbrev Gy:D->D->Mo->Option D:=dg (λ_ _=>true) λi j=>.bl (decide (i<j))
abbrev yV:D->D->Mo->Option D:=dg (λ_ _=>true) λi j=>.bl (decide (i<=j))
abbrev lO:D->D->Mo->Option D:=dg (λ_ _=>true) λi j=>.bl (decide (j<i))
abbrev Gb:D->D->Mo->Option D:=dg (λ_ _=>true) λi j=>.bl (decide (j<=i))
def kj:bU X E (compareOp .Lt) (λx y=>rd (Gy x y)):=rK op_lt
def nR:bU X E (compareOp .LtE) (λx y=>rd (yV x y)):=rK op_le
def nQ:bU X E (compareOp .Gt) (λx y=>rd (lO x y)):=rK op_gt
def zu:bU X E (compareOp .GtE) (λx y=>rd (Gb x y)):=rK op_ge
def eqP(x y:D):Option Bool:=match toPy x,toPy y with
 |some p,some q=>if p.canLay0&&q.canLay0&&decide (p.depth<=60) then some (PyData.eqv p q) else none
 |_,_=>none
def eqB:D->D->Option Bool
 |.str a,.str b=>some (decide (a=b))
 |x,y=>eqP x y
def cX(x y:D)(_:Mo):Option D:=(eqB x y).map .bl
def eF(x y:D)(_:Mo):Option D:=(eqB x y).map λb=>.bl (!b)
set_option tactic.hygienic true in
def Np(h:eqP x y=some b):∃ p q,toPy x=some p/\toPy y=some q/\p.canLay0=true/\q.canLay0=true/\p.depth<=60/\b=PyData.eqv p q:=by
 unfold eqP at h;split at h
 ·rename_i p q h1 h2;split at h
  ·rename_i hc;cases h;simp only[Bool.and_eq_true,decide_eq_true_eq]at hc;exact⟨p,q,h1,h2,hc.1.1,hc.1.2,hc.2,rfl⟩
  ·cases h
 ·cases h
def Nk(h:eqB x y=some b):(∃a c,x=.str a/\y=.str c/\b=decide (a=c))\/eqP x y=some b:=by
 unfold eqB at h;split at h
 ·cases h;exact .inl ⟨_,_,rfl,rfl,rfl⟩
 ·exact .inr h
def LQ:decide (V.str a=V.str c)=decide (a=c):=by rw[T6];simp
def BV(h1:OpR X f (λx y H Q=>scal x y=true/\Q (.bl (n ^^ decide (x=y))) H))(h2:OpR X f (Jm X.K n)):bU X E f (λx y=>rd λz=>(eqB x y).map λb=>.bl (n ^^ b)):=by
 intro YB s σ H x y v u Q I rx ry q;obtain⟨ρ,M,dx,dy,j,cx,cy,g⟩:=q;obtain⟨d,e,q⟩:=Go.rd g;obtain⟨b,hb,rfl⟩:=S8.mp e;rcases Nk hb with ⟨a,c,rfl,rfl,rfl⟩ | hb
 ·cases cx;cases cy;refine h1 YB s σ H _ _ v u Q I rx ry ⟨rfl,?_⟩;rw[LQ];exact q ρ H _ .refl j (.bl _)
 ·obtain⟨p,p',k1,k2,h3,h4,h5,rfl⟩:=Np hb;refine h2 YB s σ H x y v u Q I rx ry ⟨p,p',(cx.repF k1).toRep,(cy.repF k2).toRep,h3,h4,h5,?_⟩;have:=q ρ H _ .refl j (.bl _);cases n
  ·simpa using this
  ·simpa using this
def cI(hu:X.A.units+64<cLine):bU X E (compareOp .Eq) (λx y=>rd (cX x y)):=by
 have h:=BV (X:=X) (E:=E) (n:=false) (f:=compareOp .Eq) (λYB s σ H x y v u Q I rx ry q=>op_eq (X:=X) YB s σ H x y v u Q I rx ry ⟨q.1,by simpa using q.2⟩) (OJ hu)
 have e:(λx y=>(rd (cX x y):DM D))=λx y=>rd λz=>(eqB x y).map λb=>.bl (false ^^ b):=by funext x y;show rd _=rd _;congr 1;funext M;simp only[cX,Bool.false_xor,Bool.true_xor]
 rw[e];exact h
def bM(hu:X.A.units+64<cLine):bU X E (compareOp .NotEq) (λx y=>rd (eF x y)):=by
 have h:=BV (X:=X) (E:=E) (n:=true) (f:=compareOp .NotEq) (λYB s σ H x y v u Q I rx ry q=>op_ne (X:=X) YB s σ H x y v u Q I rx ry ⟨q.1,by simpa using q.2⟩) (O1 hu)
 have e:(λx y=>(rd (eF x y):DM D))=λx y=>rd λz=>(eqB x y).map λb=>.bl (true ^^ b):=by funext x y;show rd _=rd _;congr 1;funext M;simp only[eF,Bool.false_xor,Bool.true_xor]
 rw[e];exact h
def QV:D->Bool
 |.non=>true
 |_=>false
def N5(c:Cv mg ρ H x d):decide (x=.non)=QV d:=by cases c<;>rfl
def isD(x y:D)(_:Mo):Option D:=match y with
 |.non=>some (.bl (QV x))
 |_=>none
def GQ:bU X E (compareOp .Is) (λx y=>rd (isD x y)):=bU.of op_isN λx y H Q ρ M dx dy d j cx cy e q=>by
 unfold isD at e;split at e
 ·cases e;cases cy;exact⟨rfl,by rw[N5 cx];exact q ρ H _ .refl j (.bl _)⟩
 ·cases e
theorem Cvs.rep(c:Cv mg ρ H v d):∀n,Cvs mg ρ H (List.replicate n v) (List.replicate n d)
 |0=>.nil
 |n+1=>.cons c (Cvs.rep c n)
def DX(l:List D)(k:Int):Option (List D):=if decide (-(2^63)<=k/\k<2^63/\l.length*k.toNat<=sizeLine) then some (List.replicate k.toNat l).flatten else none
theorem Cvs.reps{vs:List V}{ds:List D}(c:Cvs mg ρ H vs ds):∀n,Cvs mg ρ H (List.replicate n vs).flatten (List.replicate n ds).flatten
 |0=>.nil
 |n+1=>by rw[Vy,Vy,Wg,Wg];exact c.append (Cvs.reps c n)
def uc(x y:D)(M:Mo):Option (List D):=match bw x M,y with
 |some l,.int k=>DX l k
 |_,_=>none
set_option tactic.hygienic true in
def BP{l:List D}(h:uc x y M=some l):∃ m k,bw x M=some m/\y=.int k/\(-(2 ^ 63)<=k/\k<2 ^ 63/\m.length * k.toNat<=sizeLine)/\l=(List.replicate k.toNat m).flatten:=by
 unfold uc at h;split at h
 ·rename_i m k h1;unfold DX at h;split at h
  ·rename_i hk;cases h;exact⟨m,k,h1,rfl,Ui hk,rfl⟩
  ·cases h
 ·cases h
def K6:bU X E (binaryOp .Mult) (λx y=>rd (λM=>(uc x y M).map .lst)):=bU.of op_rep λx y H Q ρ M dx dy d j cx cy e q=>by
 obtain⟨l,e1,rfl⟩:=S8.mp e;obtain⟨m,k,h1,rfl,⟨h2,h3,h4⟩,rfl⟩:=BP e1;obtain⟨a,xs,rfl,ha,c⟩:=eE j cx h1;cases cy;refine⟨_,_,_,rfl,rfl,ha,h2,h3,by rw[c.len];exact h4,λp hp=>?_⟩
 exact q ρ _ _ (.lay hp) (j.lay _ hp) (.lst (j.fresh hp) upd_same ((Cvs.reps c _).mono (.lay hp)))
def Ot(x y:D):DM D:=rd (uc x y)>>=gP
def K7:bU X E (binaryOp .Mult) Ot:=by intro YB s σ H x y v u Q I rx ry q;obtain⟨ρ,M,dx,dy,j,cx,cy,go⟩:=q;obtain⟨l,e1,g⟩:=Go.rdb go;obtain⟨m,k,h1,rfl,⟨h2,h3,h4⟩,rfl⟩:=BP e1;obtain⟨a,xs,rfl,ha,c⟩:=eE j cx h1;cases cy;exact op_rep (X:=X) YB s σ H _ _ v u Q I rx ry ⟨_,_,_,rfl,rfl,ha,h2,h3,by rw[c.len];exact h4,λp hp=>(g.gP j (Cvs.reps c _) hp).2⟩
def Rc:D->Mo->Option D
 |.int i,_=>some (.int (-i))
 |_,_=>none
theorem Cvs.at(c:Cvs mg ρ H vs ds)(h:atI ds i=some d):∃v,atI vs i=some v/\Cv mg ρ H v d:=by
 unfold atI at h ⊢
 rw[c.len];obtain⟨n,hn,e⟩:=TQ.mp h;obtain⟨v,e2,cv⟩:=c.get e;exact⟨v,by rw[hn];exact e2,cv⟩
def bW:D->D->Mo->Option D
 |.tup l,.int i,_=>atI l i
 |.scr l,.int i,_=>(atI l i).map .int
 |x,.int i,M=>(bw x M).bind λl=>atI l i
 |_,_,_=>none
def QR(X:Cx)(E:XK)(g:D->D->DM D):Prop:=IxR X (rD X.mg E g)
set_option tactic.hygienic true in
def aV:QR X E (λx y=>rd (bW x y)):=by
 intro value slice YB s σ H x y v u Q I rx ry q hs;obtain⟨ρ,M,dx,dy,j,cx,cy,go⟩:=q;obtain⟨d,e,p⟩:=go.rd;unfold bW at e;split at e
 ·cases cy;cases cx with | tup n a c=>
  obtain⟨w,e2,cw⟩:=c.at e;exact ix_tup (X:=X) value slice YB s σ H _ _ v u Q I rx ry ⟨_,_,_,_,rfl,rfl,SqT.of a,e2,p ρ H _ .refl j cw⟩ hs
 ·rename_i l i;cases cy;cases cx with | scr n a=>
  obtain⟨z,e1,rfl⟩:=S8.mp e;have e2:atI (l.map V.int) i=some (V.int z):=by
   unfold atI at e1 ⊢
   rw[S9];obtain⟨n,hn,e⟩:=TQ.mp e1;rw[hn];show (List.map V.int _)[n]?=_;rw[Tp,e];rfl
  exact ix_list (X:=X) value slice YB s σ H _ _ v u Q I rx ry ⟨_,_,_,_,rfl,rfl,.inl a,e2,p ρ H _ .refl j (.int z)⟩ hs
 ·cases cy;obtain⟨l,h1,e1⟩:=TQ.mp e;obtain⟨a,xs,rfl,ha,c⟩:=eE j cx h1;obtain⟨w,e2,cw⟩:=c.at e1;exact ix_list (X:=X) value slice YB s σ H _ _ v u Q I rx ry ⟨_,_,_,_,rfl,rfl,SqL.of ha,e2,p ρ H _ .refl j cw⟩ hs
 ·cases e
def aM(hi:QR X E g)(ha:DE X E a fa)(hb:DE X E b fb)(hs:PlainIx b:=by exact λw w=>rfl):DE X E (.Subscript a b pos) (λδ=>fa δ>>=λx=>fb δ>>=λy=>g x y):=
 ⟨PE.mono (pe_ix hi ha.h hb.h hs) λσ H Q h=>JH (λw w w w z=>z) h⟩
def Eu:D->DM (Option Int)
 |.int i=>pure (some i)
 |_=>stuck
def cutD(xs:List D)(lo hi:Option Int):List D:=(xs.drop (HT.sIx xs.length 0 lo)).take (HT.sIx xs.length xs.length hi-HT.sIx xs.length 0 lo)
def Cvs.cut(c:Cvs mg ρ H vs ds)(lo hi:Option Int):Cvs mg ρ H (cutV vs lo hi) (cutD ds lo hi):=by unfold cutV cutD;rw[c.len];exact (c.drop _).take _
structure DP(X:Cx)(E:XK)(e:Option Expr)(f:aa->DM (Option Int)):Prop where
 h:PO X e (tD X.mg E (λ_ _ (b a:Option Int)=>b=a) f)
def PO.mono(h:PO X e t)(f:∀σ H Q,t' σ H Q->t σ H Q):PO X e t':=λYB s σ H Q I q=>h YB s σ H Q I (f σ H Q q)
def vA:DP X E none (λz=>pure none):=⟨PO.mono po_none λσ H Q h=>by obtain⟨ρ,δ,M,ev,j,g⟩:=h;exact g.pure ρ H none .refl j rfl⟩
def nF(ha:DE X E a fa):DP X E (some a) (λδ=>fa δ>>=Eu):=⟨PO.mono (po_some ha.h) λσ H Q h=>by
 obtain⟨ρ,δ,M,ev,j,g1⟩:=h;refine⟨ρ,δ,M,ev,j,g1.bind λρ1 H1 M1 x dx e1 j1 c1 g2=>?_⟩
 cases dx with
 |int i=>cases c1;exact⟨i,rfl,Go.pure (a:=some i) g2 ρ1 H1 _ .refl j1 rfl⟩
 |_=>obtain⟨r,e,_⟩:=g2;cases e⟩
def Cp(lo hi:Option Int):D->Mo->Option D
 |.tup l,_=>some (.tup (cutD l lo hi))
 |x,M=>(bw x M).map λl=>.lst (cutD l lo hi)
def Rt:SlR X (λx lo hi H Q=>∃ρ M dx d,J X.mg ρ M H/\Cv X.mg ρ H x dx/\Cp lo hi dx M=some d/\∀ρ' H' v,Ext ρ H ρ' H'->J X.mg ρ' M H'->Cv X.mg ρ' H' v d->Q v H'):=by
 intro YB s σ H x v vl vu lo hi sl Q I rx hs pl pu h;obtain⟨ρ,M,dx,d,j,c,e,q⟩:=h;unfold Cp at e;split at e
 ·cases e;cases c with | tup n a c=>
  refine Lx (X:=X) YB s σ H _ v vl vu lo hi sl Q I rx hs pl pu ⟨_,_,rfl,a,λp H' S hp=>?_⟩
  exact q ρ H' _ (.same S) (j.same S) (.tup ((j.same S).notup hp) hp ((c.cut lo hi).mono (.same S)))
 ·obtain⟨l,h1,rfl⟩:=S8.mp e;obtain⟨a,xs,rfl,ha,c⟩:=eE j c h1;refine sl_list (X:=X) YB s σ H _ v vl vu lo hi sl Q I rx hs pl pu ⟨_,_,rfl,SqL.of ha,λp hp=>?_⟩
  exact q ρ _ _ (.lay hp) (j.lay _ hp) (.lst (j.fresh hp) upd_same ((c.cut lo hi).mono (.lay hp)))
def tK{fa:aa->DM D}{lo hi:Option Expr}{fl fh:aa->DM (Option Int)}(ha:DE X E a fa)(hl:DP X E lo fl)(hh:DP X E hi fh):
  DE X E (.Subscript a (.Slice lo hi none p2) pos) (λδ=>fa δ>>=λx=>fl δ>>=λl=>fh δ>>=λh=>rd (Cp l h x)):=⟨PE.mono (pe_slice Rt ha.h hl.h hh.h) λσ H Q h=>by
 obtain⟨ρ,δ,M,ev,j,g1⟩:=h;refine⟨ρ,δ,M,ev,j,g1.bind λρ1 H1 M1 x dx e1 j1 c1 g2=>⟨ρ1,δ,M1,ev.mono e1,j1,g2.bind λρ2 H2 M2 l dl e2 j2 c2 g3=>⟨ρ2,δ,M2,(ev.mono e1).mono e2,j2,g3.bind λρ3 H3 M3 h dh e3 j3 c3 g4=>?_⟩⟩⟩
 have c2:l=dl:=c2;have c3:h=dh:=c3;subst c2 c3;obtain⟨d,e,q⟩:=g4.rd;exact⟨ρ3,M3,dx,d,j3,(c1.mono e2).mono e3,e,q⟩⟩
end
inductive Fl where
 |nx (δ:aa) | rt (d:D) | bk (δ:aa) | ct (δ:aa)
def ur(mg:Str->Option Value)(ρ:Rh)(H:Hp)(D:Ends)(E:XK):R Fl×Mo->Prop
 |(.ok (.nx δ'),M')=>∀ρ' H' σ',Ext ρ H ρ' H'->J mg ρ' M' H'->Ev mg ρ' H' σ' δ'->D.nx σ' H'
 |(.ok (.bk δ'),M')=>∀ρ' H' σ',Ext ρ H ρ' H'->J mg ρ' M' H'->Ev mg ρ' H' σ' δ'->D.bk σ' H'
 |(.ok (.ct δ'),M')=>∀ρ' H' σ',Ext ρ H ρ' H'->J mg ρ' M' H'->Ev mg ρ' H' σ' δ'->D.ct σ' H'
 |(.ok (.rt d),M')=>∀ρ' H' v,Ext ρ H ρ' H'->J mg ρ' M' H'->Cv mg ρ' H' v d->D.rt v H'
 |(.exc c,M')=>∀ρ' H' C,Ext ρ H ρ' H'->J mg ρ' M' H'->mg c=some (.ref C)->E (.ref C) none H'
def bC(mg:Str->Option Value)(E:XK)(D:Ends)(ρ:Rh)(H:Hp)(m:DM Fl)(M:Mo):Prop:=∃r,m M=some r/\ur mg ρ H D E r
section
variable{mg:Str->Option Value}{ρ ρ':Rh}{H H':Hp}{E:XK}{α β:Type}{rel:Rh->Hp->β->α->Prop}{D D':Ends}{Q':β->Hp->Prop}{M:Mo}
def ur.mono(e:Ext ρ H ρ' H')(h:ur mg ρ H D E r):ur mg ρ' H' D E r:=by
 obtain⟨r,M'⟩:=r;cases r with
 |ok a=>cases a<;>exact λρ2 H2 b e2 j c=>h ρ2 H2 b (e.trans e2) j c
 |exc c=>exact λρ2 H2 C e2 j m=>h ρ2 H2 C (e.trans e2) j m
set_option tactic.hygienic true in
theorem bC.bind(g:bC mg E D ρ H (m>>=k) M)
  (f:∀ρ1 H1 M1 b a,Ext ρ H ρ1 H1->J mg ρ1 M1 H1->rel ρ1 H1 b a->bC mg E D ρ1 H1 (k a) M1->Q' b H1):Go mg E rel Q' ρ H m M:=by
 obtain⟨r,e,p⟩:=g;have e:DM.bind m k M=some r:=e;unfold DM.bind at e;split at e
 ·cases e
 ·rename_i c M' em;cases e;exact⟨_,em,p⟩
 ·rename_i a M' em;exact⟨_,em,λρ1 H1 b x j c=>f ρ1 H1 M' b a x j c ⟨r,e,p.mono x⟩⟩
theorem bC.pure(g:bC mg E D ρ H (pure a) M):ur mg ρ H D E (.ok a,M):=by obtain⟨r,e,p⟩:=g;have e:some (R.ok a,M)=some r:=e;cases e;exact p
def Eb(f g:aa->DM Fl):aa->DM Fl:=λδ=>f δ>>=λr=>match r with
 |.nx δ'=>g δ'
 |r=>Pure.pure r
set_option tactic.hygienic true in
def bC.seq(g:bC mg E D ρ H (f>>=k) M)
  (hn:∀δ' ρ1 H1 M1 σ1,Ext ρ H ρ1 H1->J mg ρ1 M1 H1->Ev mg ρ1 H1 σ1 δ'->bC mg E D ρ1 H1 (k (.nx δ')) M1->D'.nx σ1 H1)
  (hb:∀δ' ρ1 H1 M1 σ1,Ext ρ H ρ1 H1->J mg ρ1 M1 H1->Ev mg ρ1 H1 σ1 δ'->bC mg E D ρ1 H1 (k (.bk δ')) M1->D'.bk σ1 H1)
  (hc:∀δ' ρ1 H1 M1 σ1,Ext ρ H ρ1 H1->J mg ρ1 M1 H1->Ev mg ρ1 H1 σ1 δ'->bC mg E D ρ1 H1 (k (.ct δ')) M1->D'.ct σ1 H1)
  (hr:∀d ρ1 H1 M1 v,Ext ρ H ρ1 H1->J mg ρ1 M1 H1->Cv mg ρ1 H1 v d->bC mg E D ρ1 H1 (k (.rt d)) M1->D'.rt v H1):bC mg E D' ρ H f M:=by
 obtain⟨r,e,p⟩:=g;have e:DM.bind f k M=some r:=e;unfold DM.bind at e;split at e
 ·cases e
 ·rename_i c M' em;cases e;exact⟨_,em,p⟩
 ·rename_i a M' em;refine⟨_,em,?_⟩;cases a with
  |nx δ'=>exact λρ1 H1 b x j c=>hn δ' ρ1 H1 M' b x j c ⟨r,e,p.mono x⟩
  |bk δ'=>exact λρ1 H1 b x j c=>hb δ' ρ1 H1 M' b x j c ⟨r,e,p.mono x⟩
  |ct δ'=>exact λρ1 H1 b x j c=>hc δ' ρ1 H1 M' b x j c ⟨r,e,p.mono x⟩
  |rt d=>exact λρ1 H1 b x j c=>hr d ρ1 H1 M' b x j c ⟨r,e,p.mono x⟩
end
def tS(mg:Str->Option Value)(E:XK)(f:aa->DM Fl):TS:=λD σ H=>∃ρ δ M,Ev mg ρ H σ δ/\J mg ρ M H/\bC mg E D ρ H (f δ) M
structure DS(X:Cx)(E:XK)(st:Stmt)(f:aa->DM Fl):Prop where
 h:PS X st (tS X.mg E f)
structure DSs(X:Cx)(E:XK)(st:List Stmt)(f:aa->DM Fl):Prop where
 h:PSs X st (tS X.mg E f)
def PS.mono(h:PS X e t)(f:∀D σ H,t' D σ H->t D σ H):PS X e t':=λYB s σ H D I q=>h YB s σ H D I (f D σ H q)
def PSs.mono(h:PSs X e t)(f:∀D σ H,t' D σ H->t D σ H):PSs X e t':=λYB s σ H D I q=>h YB s σ H D I (f D σ H q)
section
variable{X:Cx}{E:XK}{st:Stmt}{rest:List Stmt}{f g:aa->DM Fl}{e:Expr}{fe:aa->DM D}{pos:Pos}
def aQ:DSs X E [] (λδ=>pure (.nx δ)):=⟨PSs.mono pss_nil λD σ H h=>by obtain⟨ρ,δ,M,ev,j,g⟩:=h;exact g.pure ρ H σ .refl j ev⟩
def aA(h:DS X E st f):DSs X E [st] f:=⟨pss_one h.h⟩
def az(h1:DS X E st f)(h2:DSs X E rest g):DSs X E (st::rest) (Eb f g):=⟨PSs.mono (pss_cons h1.h h2.h) λD σ H h=>by
 obtain⟨ρ,δ,M,ev,j,g1⟩:=h;refine⟨ρ,δ,M,ev,j,g1.seq (λδ' ρ1 H1 M1 σ1 e1 j1 ev1 g2=>⟨ρ1,δ',M1,ev1,j1,g2⟩) (λδ' ρ1 H1 M1 σ1 e1 j1 ev1 g2=>?_) (λδ' ρ1 H1 M1 σ1 e1 j1 ev1 g2=>?_) (λd ρ1 H1 M1 v e1 j1 c1 g2=>?_)⟩
 ·exact bC.pure g2 ρ1 H1 σ1 .refl j1 ev1
 ·exact bC.pure g2 ρ1 H1 σ1 .refl j1 ev1
 ·exact bC.pure g2 ρ1 H1 v .refl j1 c1⟩
def aG(he:DE X E e fe):DS X E (.Return (some e) pos) (λδ=>fe δ>>=λd=>pure (.rt d)):=⟨PS.mono (L2.ps_ret he.h) λD σ H h=>by obtain⟨ρ,δ,M,ev,j,g1⟩:=h;exact⟨ρ,δ,M,ev,j,g1.bind λρ1 H1 M1 v d e1 j1 c1 g2=>g2.pure ρ1 H1 v .refl j1 c1⟩⟩
def rA(he:DE X E e fe)(hs:swapsWith e none pos.line X.env=pure false:=by rfl):DS X E (.Expr e pos) (λδ=>fe δ>>=λz=>pure (.nx δ)):=⟨PS.mono (ps_expr he.h hs) λD σ H h=>by obtain⟨ρ,δ,M,ev,j,g1⟩:=h;exact⟨ρ,δ,M,ev,j,g1.bind λρ1 H1 M1 v d e1 j1 c1 g2=>g2.pure ρ1 H1 σ .refl j1 (ev.mono e1)⟩⟩
def aX(hN:X.N.Nodup)(hi:X.N[i]?=some x)(hx:Loc X.env.scope x)(he:DE X E e fe)(hs:swapsWith e (some (.Name x pos')) pos.line X.env=pure false:=by rfl)(hf:X.fn x=true\/X.env.scope.names.lookup x=some .local:=by first | exact .inl rfl | exact .inr rfl | assumption):
  DS X E (.Assign [.Name x pos'] e pos) (λδ=>fe δ>>=λd=>pure (.nx (δ.set i (some d)))):=⟨PS.mono (ps_set hN hi hx he.h hs hf) λD σ H h=>by
 obtain⟨ρ,δ,M,ev,j,g1⟩:=h;exact⟨ρ,δ,M,ev,j,g1.bind λρ1 H1 M1 v d e1 j1 c1 g2=>g2.pure ρ1 H1 _ .refl j1 ((ev.mono e1).set c1)⟩⟩
def bu(hc:DT X E c tc)(ha:DSs X E a f)(hb:DSs X E b g):DS X E (.If c a b pos) (λδ=>tc δ>>=λk=>if k then f δ else g δ):=⟨PS.mono (L2.ps_if hc.h ha.h hb.h) λD σ H h=>by
 obtain⟨ρ,δ,M,ev,j,g1⟩:=h;refine⟨ρ,δ,M,ev,j,g1.bind λρ1 H1 M1 x dx e1 j1 c1 g2=>?_⟩
 have c1:x=dx:=c1;subst c1;cases x with
 |true=>exact iteT ⟨ρ1,δ,M1,ev.mono e1,j1,g2⟩
 |false=>exact iteF ⟨ρ1,δ,M1,ev.mono e1,j1,g2⟩⟩
def tG(mg:Str->Option Value)(E:XK)(fg:D->aa->DM aa):TG:=λv σ H Q=>∃ρ δ M d,Ev mg ρ H σ δ/\J mg ρ M H/\Cv mg ρ H v d/\Go mg E (Ev mg) Q ρ H (fg d δ) M
def Sd(mg:Str->Option Value)(E:XK)(fg:List D->aa->DM aa):TGs:=λvs σ H Q=>∃ρ δ M ds,Ev mg ρ H σ δ/\J mg ρ M H/\Cvs mg ρ H vs ds/\Go mg E (Ev mg) Q ρ H (fg ds δ) M
structure DG(X:Cx)(E:XK)(tg:Expr)(fg:D->aa->DM aa):Prop where
 h:PG X tg (tG X.mg E fg)
structure DGs(X:Cx)(E:XK)(tg:List Expr)(fg:List D->aa->DM aa):Prop where
 h:PGs X tg (Sd X.mg E fg)
def PG.mono(h:PG X tg t)(f:∀v σ H Q,t' v σ H Q->t v σ H Q):PG X tg t':=λYB s σ H v u Q I r q=>h YB s σ H v u Q I r (f v σ H Q q)
def PGs.mono(h:PGs X tg t)(f:∀v σ H Q,t' v σ H Q->t v σ H Q):PGs X tg t':=λYB s σ H v u Q I r q=>h YB s σ H v u Q I r (f v σ H Q q)
def gN(i:Nat):D->aa->DM aa:=λd δ=>pure (δ.set i (some d))
def aJ(hN:X.N.Nodup)(hi:X.N[i]?=some x)(hx:Loc X.env.scope x)(hf:X.fn x=true\/X.env.scope.names.lookup x=some .local:=by first | exact .inl rfl | exact .inr rfl | assumption):DG X E (.Name x pos) (gN i):=
 ⟨PG.mono (pg_name hN hi hx hf) fun v σ H Q h=>by obtain⟨ρ,δ,M,d,ev,j,c,g1⟩:=h;exact Go.pure g1 ρ H _ .refl j (ev.set c)⟩
def jf:List D->aa->DM aa
 |[],δ=>pure δ
 |_,_=>stuck
def cR(f:D->aa->DM aa)(fs:List D->aa->DM aa):List D->aa->DM aa
 |d::l,δ=>f d δ>>=λδ'=>fs l δ'
 |_,_=>stuck
def jO:DGs X E [] jf:=⟨PGs.mono pgs_nil λvs σ H Q h=>by
 obtain⟨ρ,δ,M,ds,ev,j,c,g1⟩:=h;cases c with
 |nil=>exact⟨rfl,Go.pure (a:=δ) g1 ρ H σ .refl j ev⟩
 |cons _ _=>obtain⟨r,e,_⟩:=g1;cases e⟩
def cP(h1:DG X E e fg)(h2:DGs X E es fgs)(hs:(assignEach (e::es) X.env).map (·.2)=assign e X.env::(assignEach es X.env).map (·.2):=by rfl):DGs X E (e::es) (cR fg fgs):=
 ⟨PGs.mono (pgs_cons h1.h h2.h hs) fun vs σ H Q h=>by
  obtain⟨ρ,δ,M,ds,ev,j,c,g1⟩:=h;cases c with
  |nil=>obtain⟨r,e,_⟩:=g1;cases e
  |cons c1 c2=>
    have g1:Go X.mg E (Ev X.mg) Q ρ H (fg _ δ>>=λδ'=>fgs _ δ') M:=g1
    exact⟨_,_,rfl,ρ,δ,M,_,ev,j,c1,g1.bind λρ1 H1 M1 σ1 δ1 e1 j1 ev1 g2=>⟨ρ1,δ1,M1,_,ev1,j1,c2.mono e1,g2⟩⟩⟩
def gT(n:Nat)(fs:List D->aa->DM aa):D->aa->DM aa
 |.tup l,δ=>if l.length=n then fs l δ else stuck
 |_,_=>stuck
set_option tactic.hygienic true in
def nA(hc:X.calm=true)(h:DGs X E es fgs)(hn:(assignEach es X.env).length=n:=by rfl)(hst:(assignEach es X.env).findIdx? (·.1)=none:=by rfl):DG X E (.Tuple es k pos) (gT n fgs):=
 ⟨PG.mono (pg_tup hc h.h hn hst) fun v σ H Q h=>by
  obtain⟨ρ,δ,M,d,ev,j,c,g1⟩:=h;cases c with
  | tup nx a c=>
    have g1:Go X.mg E (Ev X.mg) Q ρ H (if _ then _ else _) M:=g1
    split at g1
    ·rename_i hl;exact⟨_,_,rfl,SqT.of a,by rw[c.len];exact hl,ρ,δ,M,_,ev,j,c,g1⟩
    ·obtain⟨r,e,_⟩:=g1;cases e
  |_=>obtain⟨r,e,_⟩:=g1;cases e⟩
def Ec:D->D->D->DM Unit
 | .ref n,.int k,v=>λM=>match M[n]? with
   |some (.lst l)=>match ixN l.length k with
     |some j=>some (.ok (),M.set n (.lst (l.set j v)))
     |none=>none
   |_=>none
 |_,_,_=>stuck
def DN(mg:Str->Option Value)(E:XK)(gs:D->D->D->DM Unit):TSet:=λo i v H Q=>∃ρ M dO di dv,J mg ρ M H/\Cv mg ρ H o dO/\Cv mg ρ H i di/\Cv mg ρ H v dv/\Go mg E (λ_ _ (_:Unit) (_:Unit)=>True) (λz H'=>Q H') ρ H (gs dO di dv) M
set_option tactic.hygienic true in
def Ed:PSet X (DN X.mg E Ec):=by
 intro YB s σ H o i v ov iv u Q I ro ri rv h;obtain⟨ρ,M,dO,di,dv,j,co,ci,cv,r,e,p⟩:=h;cases co with
 | ref hn=>
   cases ci with
   | int k=>
     rename_i n a;have e:(match M[n]? with
      |some (.lst l)=>match ixN l.length k with
        |some j=>some (R.ok (),M.set n (.lst (l.set j dv)))
        |none=>none
      |_=>none)=some r:=e
     split at e
     ·rename_i l hl;split at e
      ·rename_i q hq;cases e;obtain⟨xs,hx,c⟩:=j.obj _ _ _ hn hl;have x:Ext ρ H ρ (upd H a (.lst (xs.set q v))):=.upd (T3 hn);exact set_list (X:=X) YB s σ H _ _ v ov iv u Q I ro ri rv ⟨_,_,_,q,rfl,rfl,hx,by rw[c.len];exact hq,p ρ _ () x (j.upd hn ⟨_,upd_same,(c.set cv q).mono x⟩) trivial⟩
      ·cases e
     ·cases e
   |_=>cases e
 |_=>cases e
def uC(ho:DE X E o fo)(hi:DE X E i fi)(hs:PSet X (DN X.mg E gs))
  (ha:∀v,assign (.Subscript o i pos) X.env v=(do
    let ov <-holding [v] (eval o X.env)
    let iv <-holding [v,ov] (eval i X.env)
    standAt pos
    holding [v,ov,iv] (setItem ov iv v)
    release [v,ov,iv] []):=by intro _;rfl):DG X E (.Subscript o i pos) (λd δ=>fo δ>>=λo=>fi δ>>=λi=>gs o i d>>=λz=>pure δ):=
 ⟨PG.mono (pg_sub ho.h hi.h hs ha) fun v σ H Q h=>by obtain⟨ρ,δ,M,d,ev,j,c,g1⟩:=h;exact⟨ρ,δ,M,ev,j,g1.bind λρ1 H1 M1 x dx e1 j1 c1 g2=>⟨ρ1,δ,M1,ev.mono e1,j1,g2.bind λρ2 H2 M2 y dy e2 j2 c2 g3=>⟨ρ2,M2,dx,dy,d,j2,c1.mono e2,c2,(c.mono e1).mono e2,g3.bind λρ3 H3 M3 _ _ e3 j3 _ g4=>g4.pure ρ3 H3 σ .refl j3 (((ev.mono e1).mono e2).mono e3)⟩⟩⟩⟩
def qj(he:DE X E e fe)(hg:DG X E tg fg)(hs:swapsWithSole [tg] e pos.line X.env=pure false:=by rfl)(hw:swappedStores [tg] e X.env=pure none:=by rfl)
  (h1:(assignEach [tg] X.env).map (·.2)=[assign tg X.env]:=by rfl):DS X E (.Assign [tg] e pos) (λδ=>fe δ>>=λd=>fg d δ>>=λδ'=>pure (.nx δ')):=⟨PS.mono (ps_asg he.h hg.h hs hw h1) λD σ H h=>by
 obtain⟨ρ,δ,M,ev,j,g1⟩:=h;exact⟨ρ,δ,M,ev,j,g1.bind λρ1 H1 M1 v d e1 j1 c1 g2=>⟨ρ1,δ,M1,d,ev.mono e1,j1,c1,g2.bind λρ2 H2 M2 σ2 δ2 e2 j2 ev2 g3=>g3.pure ρ2 H2 σ2 .refl j2 ev2⟩⟩⟩
def Dr(i j:Nat)(fa:aa->DM (List D)):aa->DM Fl:=λδ=>fa δ>>=λl=>match l with
 |[v,w]=>pure (.nx ((δ.set i (some v)).set j (some w)))
 |_=>stuck
def Nf{kt k2 pt2}(hc:X.calm=true)(hN:X.N.Nodup)(hi:X.N[i]?=some x)(hj:X.N[j]?=some y)(hij:i≠j)
  (hx:X.env.scope.names.lookup x=some .local) (hy:X.env.scope.names.lookup y=some .local) (ha:DA X E [a,b] fa)
  (hw:swappedStores [.Tuple [.Name x px,.Name y py] kt pt] (.Tuple [a,b] k2 pt2) X.env=pure (some [x,y]))
  (hs:swapsWithSole [.Tuple [.Name x px,.Name y py] kt pt] (.Tuple [a,b] k2 pt2) pos.line X.env=pure false:=by rfl) :
  DS X E (.Assign [.Tuple [.Name x px,.Name y py] kt pt] (.Tuple [a,b] k2 pt2) pos) (Dr i j fa):=⟨PS.mono (ps_par hc hN hi hj hij hx hy ha.h.h hw hs) λD σ H h=>by
 obtain⟨ρ,δ,M,ev,j,g1⟩:=h;refine⟨ρ,δ,M,ev,j,bC.bind g1 λρ1 H1 M1 v d e1 j1 c1 g2=>?_⟩
 cases c1 with
 |nil=>obtain⟨r,e,_⟩:=g2;cases e
 | cons c1 c2=>cases c2 with
   |nil=>obtain⟨r,e,_⟩:=g2;cases e
   |cons c2 c3=>cases c3 with
     |nil=>exact⟨_,_,rfl,bC.pure (a:=.nx _) g2 ρ1 H1 _ .refl j1 (((ev.mono e1).set c1).set c2)⟩
     |cons _ _=>obtain⟨r,e,_⟩:=g2;cases e⟩
set_option tactic.hygienic true in
def Nb(hN:X.N.Nodup)(hi:X.N[i]?=some x)(hx:Loc X.env.scope x)(ho:bU X E (inplaceOp op) gop)(he:DE X E e fe)(hf:X.fn x=true\/X.env.scope.names.lookup x=some .local:=by first | exact .inl rfl | exact .inr rfl | assumption):
  DS X E (.AugAssign (.Name x pos') op e pos) (λδ=>cU i δ>>=λa=>fe δ>>=λb=>gop a b>>=λd=>pure (.nx (δ.set i (some d)))):=⟨PS.mono (ps_aug (ti:=rD X.mg E gop) hN hi hx he.h ho hf) λD σ H h=>by
 obtain⟨ρ,δ,M,ev,j,g1⟩:=h;obtain⟨r,e1,p⟩:=g1;have e1:DM.bind (cU i δ) _ M=some r:=e1;unfold DM.bind at e1;split at e1
 ·cases e1
 ·rename_i c M' em;obtain⟨a,_,z⟩:=S8.mp em;cases z
 ·rename_i a M' em;obtain⟨a',q,z⟩:=S8.mp em;cases z;have e':δ[i]?=some (some a):=by
   cases z:δ[i]? with
   |none=>rw[z]at q;cases q
   |some o=>rw[z]at q;exact congrArg some q
  obtain⟨v,h1,h2⟩:=ev.val i a e';have g2:bC X.mg E D ρ H (fe δ>>=λb=>gop a b>>=λd=>pure (.nx (δ.set i (some d)))) M:=⟨r,e1,p⟩
  exact⟨v,h1,ρ,δ,M,ev,j,g2.bind λρ1 H1 M1 y dy e1 j1 c1 g3=>⟨ρ1,M1,a,dy,j1,h2.mono e1,c1,g3.bind λρ2 H2 M2 z dz e2 j2 c2 g4=>g4.pure ρ2 H2 _ .refl j2 (((ev.mono e1).mono e2).set c2)⟩⟩⟩
def zx:bU X E (inplaceOp .Add) (λx y=>rd (dg (λz z=>true) (λi j=>.int (i+j)) x y)):=zr iop_add
end
inductive Itn where
 |fix (l:List D) | dyn (n:Nat)
def Itn.next:Itn->Nat->Mo->Option (Option D)
 |.fix l,i,_=>some l[i]?
 |.dyn n,i,M=>match M[n]? with
   |some (.lst l)=>some l[i]?
   |_=>none
set_option tactic.hygienic true in
structure ItOk(mg:Str->Option Value)(ρ:Rh)(H:Hp)(Jt:It)(it:Itn):Prop where
 item:∀(i:Nat) ρ' H' M' d,Kp ρ H ρ' H'->J mg ρ' M' H'->it.next i M'=some (some d)->Jt.go i H'/\∀x H2,Jt.yld i H' x H2->Ext ρ' H' ρ' H2/\J mg ρ' M' H2/\Cv mg ρ' H2 x d
 stop:∀(i:Nat) ρ' H' M',Kp ρ H ρ' H'->J mg ρ' M' H'->it.next i M'=some none->Jt.stop i H'
def tI(mg:Str->Option Value)(E:XK)(fi:aa->DM Itn):TI:=λσ H R=>tD mg E (ItOk mg) fi σ H R
structure DI(X:Cx)(E:XK)(tg it:Expr)(fi:aa->DM Itn):Prop where
 h:PI X tg it (tI X.mg E fi)
def PI.mono(h:PI X tg e t)(f:∀σ H Q,t' σ H Q->t σ H Q):PI X tg e t':=λYB s σ H Q I q=>h YB s σ H Q I (f σ H Q q)
def N7{K:PySem.W.Frag}{mg:Str->Option Value}{ρ:Rh}{H:Hp}{a:Addr}{xs:List V}{ds:List D}(n:a∉ρ)(h:H a=some (.lst xs))(c:Cvs mg ρ H xs ds):ItOk mg ρ H (Itl K a) (.fix ds) where
 item:=λi ρ' H' M' d e j q=>by
  have hq:ds[i]?=some d:=Tu q;obtain⟨v,hv,cv⟩:=c.get hq;have h':=(e.keep _ _ h n nofun).2
  refine⟨⟨xs,v,SqL.of h',hv⟩,λx H2 y=>?_⟩
  obtain⟨rfl,y⟩:=y;have:=y xs (SqL.of h');rw[hv]at this;cases this;exact⟨.refl,j,cv.kp e⟩
 stop:=λi ρ' H' M' e j q=>by have hq:ds[i]?=none:=Tu q;exact⟨xs,SqL.of (e.keep _ _ h n nofun).2,by rw[c.len];exact Uc.mp hq⟩
def N8{K:PySem.W.Frag}{mg:Str->Option Value}{ρ:Rh}{H:Hp}{a:Addr}{xs:List V}{ds:List D}(n:a∉ρ)(h:H a=some (.tup xs))(c:Cvs mg ρ H xs ds):ItOk mg ρ H (Itt K a) (.fix ds) where
 item:=λi ρ' H' M' d e j q=>by
  have hq:ds[i]?=some d:=Tu q;obtain⟨v,hv,cv⟩:=c.get hq;have h':=(e.keep _ _ h n nofun).2
  refine⟨⟨xs,v,SqT.of h',hv⟩,λx H2 y=>?_⟩
  obtain⟨rfl,y⟩:=y;have:=y xs (SqT.of h');rw[hv]at this;cases this;exact⟨.refl,j,cv.kp e⟩
 stop:=λi ρ' H' M' e j q=>by have hq:ds[i]?=none:=Tu q;exact⟨xs,SqT.of (e.keep _ _ h n nofun).2,by rw[c.len];exact Uc.mp hq⟩
set_option tactic.hygienic true in
def N6{K:PySem.W.Frag}{mg:Str->Option Value}{ρ:Rh}{H:Hp}{a:Addr}{n:Nat}(h:ρ.st[n]?=some a):ItOk mg ρ H (Itl K a) (.dyn n) where
 item:=λi ρ' H' M' d e j q=>by
  have h':=e.at h;unfold Itn.next at q;dsimp only at q;split at q
  ·rename_i l hl;obtain⟨xs,hx,c⟩:=j.obj n a _ h' hl;have hq:l[i]?=some d:=Tu q;obtain⟨v,hv,cv⟩:=c.get hq;refine⟨⟨xs,v,SqL.of hx,hv⟩,λx H2 y=>?_⟩
   obtain⟨rfl,y⟩:=y;have:=y xs (SqL.of hx);rw[hv]at this;cases this;exact⟨.refl,j,cv⟩
  ·cases q
 stop:=λi ρ' H' M' e j q=>by
  have h':=e.at h;unfold Itn.next at q;dsimp only at q;split at q
  ·rename_i l hl;obtain⟨xs,hx,c⟩:=j.obj n a _ h' hl;have hq:l[i]?=none:=Tu q;exact⟨xs,SqL.of hx,by rw[c.len];exact Uc.mp hq⟩
  ·cases q
def o5(lo:Int)(n:Nat):List D:=(List.range n).map λi=>.int (lo+(i:Nat))
def Ci{lo:Int}{n i:Nat}:(o5 lo n)[i]?=if i<n then some (.int (lo+(i:Nat))) else none:=by
 unfold o5;rw[Tp];by_cases h:i<n
 ·rw[Tf h,U9 h];rfl
 ·rw[Ti h,Uc.mpr (by simp;lia)];rfl
set_option tactic.hygienic true in
def Gk{mg:Str->Option Value}{lo:Int}{n:Nat}:ItOk mg ρ H (Itr lo n) (.fix (o5 lo n)) where
 item:=λi ρ' H' M' d e j q=>by
  have hq:(o5 lo n)[i]?=some d:=Tu q;rw[Ci]at hq;split at hq
  ·rename_i h;cases hq;refine⟨h,λx H2 y=>?_⟩
   obtain⟨rfl,rfl⟩:=y;exact⟨.refl,j,.int _⟩
  ·cases hq
 stop:=λi ρ' H' M' e j q=>by
  have hq:(o5 lo n)[i]?=none:=Tu q;rw[Ci]at hq;split at hq
  ·cases hq
  ·rename_i h;exact VG.mp h
section
variable{X:Cx}{E:XK}{tg:Expr}
def o6(i:Int):Bool:=decide (-(2^62)<=i/\i<2^62)
def mL:List D->Option Itn
 |[.int j]=>if o6 j then some (.fix (o5 0 j.toNat)) else none
 |_=>none
def zR:List D->Option Itn
 |[.int i,.int j]=>if o6 i&&o6 j then some (.fix (o5 i (j-i).toNat)) else none
 |_=>none
set_option tactic.hygienic true in
def bN(hg:Gl X "range")(hm:X.mg "range"=none)(ha:DA X E [a] fa)(hs:notStar a=true:=by rfl):DI X E tg (.Call (.Name "range" p) [a] [] pos) (λδ=>fa δ >>= λl=>opt (mL l)):=
 ⟨PI.mono (Dv hg hm ha.h hs).h fun σ H R h=>by
  obtain⟨ρ,δ,M,ev,j,g1⟩:=h;refine⟨ρ,δ,M,ev,j,g1.bind λρ1 H1 M1 x dx e1 j1 c1 g2=>?_⟩
  obtain⟨it,e,q⟩:=g2.opt;unfold mL at e;split at e
  ·split at e
   ·rename_i hk;cases e;cases c1 with | cons c1 c2=>
    cases c2;cases c1;have hk:=Ui hk;exact⟨_,rfl,hk.1,hk.2,q ρ1 H1 _ .refl j1 Gk⟩
   ·cases e
  ·cases e⟩
set_option tactic.hygienic true in
def FJ(hg:Gl X "range")(hm:X.mg "range"=none)(ha:DA X E [a,b] fa)(hs:notStar a=true:=by rfl)(hs2:notStar b=true:=by rfl):DI X E tg (.Call (.Name "range" p) [a,b] [] pos) (λδ=>fa δ >>= λl=>opt (zR l)):=
 ⟨PI.mono (Dw hg hm ha.h hs hs2).h fun σ H R h=>by
  obtain⟨ρ,δ,M,ev,j,g1⟩:=h;refine⟨ρ,δ,M,ev,j,g1.bind λρ1 H1 M1 x dx e1 j1 c1 g2=>?_⟩
  obtain⟨it,e,q⟩:=g2.opt;unfold zR at e;split at e
  ·split at e
   ·rename_i hk;cases e;cases c1 with | cons c1 c2=>cases c2 with | cons c2 c3=>
    cases c3;cases c1;cases c2;have hk:=(Vi _ _).mp hk;have h1:=Ui hk.1;have h2:=Ui hk.2;exact⟨_,_,rfl,⟨h1.1,h1.2,h2.1,h2.2⟩,q ρ1 H1 _ .refl j1 Gk⟩
   ·cases e
  ·cases e⟩
def jV:D->Option Itn
 |.tup l=>some (.fix l)
 |_=>none
def p6:D->Mo->Option Itn
 |.lst l,_=>some (.fix l)
 |.ref n,M=>match M[n]? with
   |some (.lst _)=>some (.dyn n)
   |_=>none
 |_,_=>none
def cC(hl:DE X E l fl):DI X E tg l (λδ=>fl δ>>=λd=>opt (jV d)):=⟨PI.mono (pi_tup hl.h) λσ H R h=>by
 obtain⟨ρ,δ,M,ev,j,g1⟩:=h;refine⟨ρ,δ,M,ev,j,g1.bind λρ1 H1 M1 x dx e1 j1 c1 g2=>?_⟩
 obtain⟨it,e,q⟩:=g2.opt;unfold jV at e;split at e
 ·cases e;cases c1 with | tup n a c=>
  exact⟨_,rfl,⟨_,SqT.of a⟩,q ρ1 H1 _ .refl j1 (N8 n a c)⟩
 ·cases e⟩
set_option tactic.hygienic true in
def jk(hl:DE X E l fl):DI X E tg l (λδ=>fl δ >>= λd=>rd (p6 d)):=⟨PI.mono (pi_list hl.h) λσ H R h=>by
 obtain⟨ρ,δ,M,ev,j,g1⟩:=h;refine⟨ρ,δ,M,ev,j,g1.bind λρ1 H1 M1 x dx e1 j1 c1 g2=>?_⟩
 obtain⟨it,e,q⟩:=g2.rd;unfold p6 at e;split at e
 ·cases e;cases c1 with | lst n a c=>
  exact⟨_,rfl,⟨_,SqL.of a⟩,q ρ1 H1 _ .refl j1 (N7 n a c)⟩
 ·split at e
  ·rename_i l' hl';cases e;cases c1 with | ref hn=>
   obtain⟨xs,hx,_⟩:=j1.obj _ _ _ hn hl';exact⟨_,rfl,⟨xs,SqL.of hx⟩,q ρ1 H1 _ .refl j1 (N6 hn)⟩
  ·cases e
 ·cases e⟩
end
def forL(tg:D->aa->DM aa)(fb:aa->DM Fl):List D->aa->DM Fl
 |[],δ=>pure (.nx δ)
 |d::l,δ=>tg d δ>>=λδ1=>fb δ1>>=λr=>match r with
   |.nx δ2=>forL tg fb l δ2
   |.ct δ2=>forL tg fb l δ2
   |.bk δ2=>pure (.nx δ2)
   |.rt d=>pure (.rt d)
def mC(tg:D->aa->DM aa)(fb:aa->DM Fl)(n:Nat):Nat->Nat->aa->DM Fl
 |0,_,_=>stuck
 | k + 1,i,δ=>rd (Itn.next (.dyn n) i) >>= λo=>match o with
   |none=>pure (.nx δ)
   |some d=>tg d δ>>=λδ1=>fb δ1>>=λr=>match r with
     |.nx δ2=>mC tg fb n k (i+1) δ2
     |.ct δ2=>mC tg fb n k (i+1) δ2
     |.bk δ2=>pure (.nx δ2)
     |.rt d=>pure (.rt d)
def Nz(N:Nat)(tg:D->aa->DM aa)(fb:aa->DM Fl):Itn->aa->DM Fl
 |.fix l=>forL tg fb l
 |.dyn n=>mC tg fb n N 0
def bC.rdb{mg:Str->Option Value}{E:XK}{D:Ends}{ρ:Rh}{H:Hp}{M:Mo}{γ:Type}{f:Mo->Option γ}{k:γ->DM Fl}(g:bC mg E D ρ H (L3.rd f>>=k) M):∃a,f M=some a/\bC mg E D ρ H (k a) M:=by
 obtain⟨r,e,p⟩:=g;have e:DM.bind _ _ M=some r:=e;unfold DM.bind L3.rd at e;cases h:f M with
 |none=>rw[h]at e;cases e
 |some a=>rw[h]at e;exact⟨a,rfl,r,e,p⟩
def yN{X:Cx}{E:XK}{fg:D->aa->DM aa}{fb:aa->DM Fl}{D:Ends}{σ:L2.St}{H H':Hp}{ρ:Rh}{δ:aa}{M:Mo}{x:V}{d:L3.D}{N:L2.St->Hp->Prop}{again:aa->DM Fl}
  (ev:Ev X.mg ρ H σ δ) (e1:Ext ρ H ρ H') (j1:J X.mg ρ M H') (c1:Cv X.mg ρ H' x d) (ht:bC X.mg E D ρ H (fg d δ>>=λδ1=>fb δ1>>=λr=>match r with
    |.nx δ2=>again δ2
    |.ct δ2=>again δ2
    |.bk δ2=>pure (.nx δ2)
    |.rt d=>pure (.rt d)) M) (hN:∀ρ2 δ2 M2 σ2 H2,Ext ρ H ρ2 H2->Ev X.mg ρ2 H2 σ2 δ2->J X.mg ρ2 M2 H2->bC X.mg E D ρ2 H2 (again δ2) M2->N σ2 H2) :
  tG X.mg E fg x σ H' λσ2 H2=>tS X.mg E fb { D with nx:=N,ct:=N,bk:=D.nx } σ2 H2:=by
 obtain⟨r,er,p⟩:=ht;have ht':bC X.mg E D ρ H' _ M:=⟨r,er,p.mono e1⟩;refine⟨ρ,δ,M,d,ev.mono e1,j1,c1,bC.bind ht' λρ2 H2 M2 σ2 δ2 e2 j2 ev2 g2=>⟨ρ2,δ2,M2,ev2,j2,g2.seq (λδ' ρ3 H3 M3 σ3 e3 j3 ev3 g3=>?_) (λδ' ρ3 H3 M3 σ3 e3 j3 ev3 g3=>?_) (λδ' ρ3 H3 M3 σ3 e3 j3 ev3 g3=>?_) (λd' ρ3 H3 M3 v e3 j3 c3 g3=>?_)⟩⟩
 ·exact hN ρ3 δ' M3 σ3 H3 ((e1.trans e2).trans e3) ev3 j3 g3
 ·exact bC.pure (a:=.nx δ') g3 ρ3 H3 σ3 .refl j3 ev3
 ·exact hN ρ3 δ' M3 σ3 H3 ((e1.trans e2).trans e3) ev3 j3 g3
 ·exact bC.pure (a:=.rt d') g3 ρ3 H3 v .refl j3 c3
def cQ{body:List Stmt}{fi:aa->DM Itn}{fg:D->aa->DM aa}{fb:aa->DM Fl}(N:Nat)(hp:PassesOwn (model X.prog X.w) X.A X.env X.xe)(hc:X.calm=true)(hi:DI X E tg iter fi)(hg:DG X E tg fg)(hb:DSs X E body fb)
  (hs:∀x,foldedSetIterable iter X.env x=pure x:=by intro _;rfl):DS X E (.For tg iter body [] pos) (λδ=>fi δ>>=λit=>Nz N fg fb it δ):=⟨PS.mono (ps_for hp hc hi.h hg.h hb.h hs) λD σ H h=>by
 obtain⟨ρ,δ,M,ev,j,g1⟩:=h;refine⟨ρ,δ,M,ev,j,g1.bind λρ1 H1 M1 Jt it e1 j1 iok g2=>?_⟩
 cases it with
 | fix l=>
   refine⟨λi m σ H=>∃ρ' δ' M',Ext ρ1 H1 ρ' H/\Ev X.mg ρ' H σ δ'/\J X.mg ρ' M' H/\m=(l.drop i).length/\bC X.mg E D ρ' H (forL fg fb (l.drop i) δ') M',⟨_,ρ1,δ,M1,.refl,ev.mono e1,j1,rfl,g2⟩,?_⟩
   rintro i m σ2 H2 ⟨ρ2,δ2,M2,e2,ev2,j2,rfl,g3⟩;cases hd:l[i]? with
   |none=>have hl:l.drop i=[]:=List.drop_eq_nil_of_le (Uc.mp hd);rw[hl]at g3;exact .inl ⟨iok.stop i ρ2 H2 M2 e2.kp j2 (congrArg some hd),bC.pure (a:=.nx δ2) g3 ρ2 H2 σ2 .refl j2 ev2⟩
   |some d=>
     obtain⟨hi',hd'⟩:=S7.mp hd;have hl:l.drop i=d::l.drop (i+1):=by rw[<-hd'];exact Yt hi'
     obtain⟨go,yl⟩:=iok.item i ρ2 H2 M2 d e2.kp j2 (congrArg some hd);rw[hl]at g3;refine .inr ⟨go,λσ' H'=>∃ρ' δ' M',Ext ρ1 H1 ρ' H'/\Ev X.mg ρ' H' σ' δ'/\J X.mg ρ' M' H'/\bC X.mg E D ρ' H' (forL fg fb (l.drop (i+1)) δ') M',λσ' H' ⟨ρ',δ',M',a1,a2,a3,a4⟩=>⟨_,by rw[Wk,Wk];lia,ρ',δ',M',a1,a2,a3,rfl,a4⟩,λx H' y=>?_⟩
     obtain⟨x1,x2,x3⟩:=yl x H' y;exact yN ev2 x1 x2 x3 g3 λρ3 δ3 M3 σ3 H3 f1 f2 f3 f4=>⟨ρ3,δ3,M3,e2.trans f1,f2,f3,f4⟩
 | dyn n=>
   refine⟨λi m σ H=>∃ρ' δ' M',Ext ρ1 H1 ρ' H/\Ev X.mg ρ' H σ δ'/\J X.mg ρ' M' H/\bC X.mg E D ρ' H (mC fg fb n m i δ') M',⟨N,ρ1,δ,M1,.refl,ev.mono e1,j1,g2⟩,?_⟩
   rintro i m σ2 H2 ⟨ρ2,δ2,M2,e2,ev2,j2,g3⟩;cases m with
   |zero=>obtain⟨r,e,_⟩:=g3;cases e
   | succ m=>
     obtain⟨o,eo,g4⟩:=bC.rdb g3;cases o with
     |none=>exact .inl ⟨iok.stop i ρ2 H2 M2 e2.kp j2 eo,bC.pure (a:=.nx δ2) g4 ρ2 H2 σ2 .refl j2 ev2⟩
     |some d=>
       obtain⟨go,yl⟩:=iok.item i ρ2 H2 M2 d e2.kp j2 eo;refine .inr ⟨go,λσ' H'=>∃ρ' δ' M',Ext ρ1 H1 ρ' H'/\Ev X.mg ρ' H' σ' δ'/\J X.mg ρ' M' H'/\bC X.mg E D ρ' H' (mC fg fb n m (i+1) δ') M',λσ' H' z=>⟨m,U7 _,z⟩,λx H' y=>?_⟩
       obtain⟨x1,x2,x3⟩:=yl x H' y;exact yN ev2 x1 x2 x3 g4 λρ3 δ3 M3 σ3 H3 f1 f2 f3 f4=>⟨ρ3,δ3,M3,e2.trans f1,f2,f3,f4⟩⟩
def fZ(c:aa->DM Bool)(fb:aa->DM Fl):Nat->aa->DM Fl
 |0,_=>stuck
 | k + 1,δ=>c δ >>= λb=>if b then (fb δ >>= λr=>match r with
     |.nx δ2=>fZ c fb k δ2
     |.ct δ2=>fZ c fb k δ2
     |.bk δ2=>pure (.nx δ2)
     |.rt d=>pure (.rt d)) else pure (.nx δ)
def tL(N:Nat)(hp:PassesOwn (model X.prog X.w) X.A X.env X.xe)(hc:DT X E c fc)(hb:DSs X E body fb):DS X E (.While c body [] pos) (fZ fc fb N):=⟨PS.mono (L2.ps_while hp hc.h hb.h) λD σ H h=>by
 obtain⟨ρ,δ,M,ev,j,g1⟩:=h;refine⟨λm σ H=>∃ρ' δ' M',Ev X.mg ρ' H σ δ'/\J X.mg ρ' M' H/\bC X.mg E D ρ' H (fZ fc fb m δ') M',⟨N,ρ,δ,M,ev,j,g1⟩,?_⟩
 rintro m σ2 H2 ⟨ρ2,δ2,M2,ev2,j2,g3⟩;cases m with
 |zero=>obtain⟨r,e,_⟩:=g3;cases e
 | succ m=>
   refine⟨ρ2,δ2,M2,ev2,j2,bC.bind g3 λρ3 H3 M3 b b' e3 j3 cb g4=>?_⟩
   have cb:b=b':=cb;subst cb;cases b with
   |true=>
     refine iteT ⟨λσ' H'=>∃ρ' δ' M',Ev X.mg ρ' H' σ' δ'/\J X.mg ρ' M' H'/\bC X.mg E D ρ' H' (fZ fc fb m δ') M',λσ' H' z=>⟨m,U7 _,z⟩,ρ3,δ2,M3,ev2.mono e3,j3,?_⟩
     refine bC.seq g4 (λδ' ρ4 H4 M4 σ4 e4 j4 ev4 g5=>⟨ρ4,δ',M4,ev4,j4,g5⟩) (λδ' ρ4 H4 M4 σ4 e4 j4 ev4 g5=>?_) (λδ' ρ4 H4 M4 σ4 e4 j4 ev4 g5=>⟨ρ4,δ',M4,ev4,j4,g5⟩) (λd' ρ4 H4 M4 v e4 j4 c4 g5=>?_)
     ·exact bC.pure (a:=.nx δ') g5 ρ4 H4 σ4 .refl j4 ev4
     ·exact bC.pure (a:=.rt d') g5 ρ4 H4 v .refl j4 c4
   |false=>exact iteF (bC.pure (a:=.nx δ2) g4 ρ3 H3 σ2 .refl j3 (ev2.mono e3))⟩
def Cr(mg:Str->Option Value)(F:List D->DM D):Sp:=λvs H Q E=>∃ρ M ds,Cvs mg ρ H vs ds/\J mg ρ M H/\Go mg E (Cv mg) Q ρ H (F ds) M
structure DefD(P:Program)(w:World)(K:PySem.W.Frag)(mg:Str->Option Value)(base:Heap)(k:Nat)(x:Str)(ps:List Str)(F:List D->DM D):Prop where
 h:DefC P w K mg base k x ps (Cr mg F)
def bK(n:Nat)(ds:List D):aa:=ds.map some++List.replicate (n-ds.length) none
def aL(p n:Nat)(fb:aa->DM Fl)(ds:List D):DM D:=if ds.length=p then fb (bK n ds)>>=λr=>match r with
 |.nx _=>pure .non
 |.rt d=>pure d
 |_=>stuck else stuck
def oR(c:Cvs mg ρ H vs ds):Ev mg ρ H (L2.start N vs) (bK N.length ds):=by
 unfold L2.start bK;refine⟨by simp[c.len],λi d q=>?_⟩
 by_cases hi:i<ds.length
 ·rw[Tq (by rw[S9];exact hi),Tp]at q
  obtain⟨d',h1,h2⟩:=S8.mp q;cases h2;obtain⟨v,hv,cv⟩:=c.get h1;exact⟨v,by rw[Tq (by rw[S9,c.len];exact hi),Tp,hv];rfl,cv⟩
 ·rw[Uo (by rw[S9];lia),VR]at q
  split at q<;>cases q
section
variable{P:Program}{w:World}{K:PySem.W.Frag}{mg:Str->Option Value}{base:Heap}{k:Nat}{x:Str}{N ps:List Str}{st:Stmt}
set_option tactic.hygienic true in
theorem bC.aL(g:Go mg E (Cv mg) Q ρ H (L3.aL p n fb ds) M):ds.length=p/\bC mg E { nx:=λz H'=>Q .non H',rt:=Q } ρ H (fb (bK n ds)) M:=by
 obtain⟨r,e,p⟩:=g;unfold L3.aL at e;split at e;rotate_left
 ·cases e
 rename_i hl;refine⟨hl,?_⟩;have e:DM.bind _ _ M=some r:=e;unfold DM.bind at e;split at e
 ·cases e
 ·rename_i c M' em;cases e;exact⟨_,em,p⟩
 ·rename_i a M' em;refine⟨_,em,?_⟩;cases a with
  |nx δ'=>cases e;exact λρ1 H1 b x j c=>p ρ1 H1 .non x j .non
  |rt d=>cases e;exact λρ1 H1 b x j c=>p ρ1 H1 b x j c
  |bk δ'=>cases e
  |ct δ'=>cases e
def DefAt.okD(D:DefAt K mg x st)(S:FnScope N ps (defScope st))(hb:∀ (kV doc pm:Value) (an:Option Addr) (cdv ct:Value) (us:List Value),us.length=ps.length->bindArgs (PySem.W.fnOf x x (defArgs st) (defBody st) (defScope st) .none kV doc pm an cdv ct) ⟨us,[]⟩=pure (ps.zip us))
  (hbody:∀(f:Addr) (cdv:Value) (A:Around) (outer:List Env) (s:Shared) (H:Hp) (E:XK),Room k (A.deeper (envOfC x (defScope st) s.heap.objs.size f cdv))->
    DSs (jE P w K mg base N x (defScope st) f cdv A outer s H E) E (defBody st) fb):DefD P w K mg base (k+1) x ps (aL ps.length N.length fb):=⟨by
 refine D.okE S hb (λvs H Q E h=>?_) λf cdv A outer s H vs Q E hr h=>?_
 ·obtain⟨ρ,M,ds,c,j,g⟩:=h;rw[c.len];exact (bC.aL g).1
 obtain⟨ρ,M,ds,c,j,g⟩:=h;exact⟨_,(hbody f cdv A outer s H E hr).h,ρ,_,M,oR c,j,(bC.aL g).2⟩⟩
def DefAt.okN{F:List D->DM D}{fb:Nat->aa->DM Fl}(D:DefAt K mg x st)(S:FnScope N ps (defScope st))(hb:∀ (kV doc pm:Value) (an:Option Addr) (cdv ct:Value) (us:List Value),us.length=ps.length->bindArgs (PySem.W.fnOf x x (defArgs st) (defBody st) (defScope st) .none kV doc pm an cdv ct) ⟨us,[]⟩=pure (ps.zip us))
  (hf:∀ds M r,F ds M=some r->∃n,aL ps.length N.length (fb n) ds M=some r)
  (hbody:∀(n:Nat) (f:Addr) (cdv:Value) (A:Around) (outer:List Env) (s:Shared) (H:Hp) (E:XK),Room k (A.deeper (envOfC x (defScope st) s.heap.objs.size f cdv))->
    DSs (jE P w K mg base N x (defScope st) f cdv A outer s H E) E (defBody st) (fb n)):DefD P w K mg base (k+1) x ps F:=⟨by
 refine D.okE S hb (λvs H Q E h=>?_) λf cdv A outer s H vs Q E hr h=>?_
 ·obtain⟨ρ,M,ds,c,j,r,e,p⟩:=h;obtain⟨n,e2⟩:=hf ds M r e;rw[c.len];exact (bC.aL ⟨r,e2,p⟩).1
 obtain⟨ρ,M,ds,c,j,r,e,p⟩:=h;obtain⟨n,e2⟩:=hf ds M r e;exact⟨_,(hbody n f cdv A outer s H E hr).h,ρ,_,M,oR c,j,(bC.aL ⟨r,e2,p⟩).2⟩⟩
end
mutual
inductive Fz(M:Mo)(k:Nat):D->D->Prop
 |non:Fz M k .non .non
 |bl (b:Bool):Fz M k (.bl b) (.bl b)
 |int (i:Int):Fz M k (.int i) (.int i)
 |str (x:Str):Fz M k (.str x) (.str x)
 |tup {l l':List D}:Fzs M k l l'->Fz M k (.tup l) (.tup l')
 |lst {l l':List D}:Fzs M k l l'->Fz M k (.lst l) (.lst l')
 |dic {ks:List Key}{l l':List D}:Fzs M k l l'->Fz M k (.dic ks l) (.dic ks l')
 |obj {c:Str}{ns:List Str}{l l':List D}:Fzs M k l l'->Fz M k (.obj c ns l) (.obj c ns l')
 |scr (ns:List Int):Fz M k (.scr ns) (.scr ns)
 |old {n:Nat}:n<k->Fz M k (.ref n) (.ref n)
 |new {n:Nat}{l l':List D}:k<=n->M[n]?=some (.lst l)->Fzs M k l l'->Fz M k (.ref n) (.lst l')
 |cls (c:Str):Fz M k (.cls c) (.cls c)
 |ty (c:String):Fz M k (.ty c) (.ty c)
 |exn (a:Addr):Fz M k (.exn a) (.exn a)
inductive Fzs(M:Mo)(k:Nat):List D->List D->Prop
 |nil:Fzs M k [] []
 |cons {d d':D}{l l':List D}:Fz M k d d'->Fzs M k l l'->Fzs M k (d::l) (d'::l')
end
def RG(M:Mo)(k:Nat):DO->DO->Prop
 |.lst l,.lst l'=>Fzs M k l l'
 |.dic ks l,.dic ks' l'=>ks=ks'/\Fzs M k l l'
 |.ins c ns l,.ins c' ns' l'=>c=c'/\ns=ns'/\Fzs M k l l'
 |_,_=>False
def QL(M':Mo)(k:Nat)(M1:Mo):Prop:=M1.length=k/\∀(n:Nat) o,M1[n]?=some o->∃o',M'[n]?=some o'/\RG M' k o' o
section
variable{mg:Str->Option Value}{ρ ρ':Rh}{H:Hp}{M:Mo}{k:Nat}
structure Sub(ρ ρ':Rh)(k:Nat):Prop where
 st:∃τ,ρ'.st=ρ.st++τ
 vo:ρ'.vo=ρ.vo
 len:ρ.st.length=k
def Sub.out(s:Sub ρ ρ' k)(h:a∉ρ'):a∉ρ:=λz=>by
 obtain⟨τ,e⟩:=s.st;rcases z with z | z
 ·exact h (.inl (by rw[e];exact Vr _ z))
 ·exact h (.inr (by rw[s.vo];exact z))
def Rz(mg:Str->Option Value)(ρ:Rh)(H:Hp)(v:V)(d:D):Prop:=D.casesOn (motive_1:=λz=>Prop) d (v=.non) (λb=>v=.bl b) (λi=>v=.int i) (λx=>v=.str x) (λds=>∃a xs,v=.ref a/\a∉ρ/\H a=some (.tup xs)/\Cvs mg ρ H xs ds) (λds=>∃a xs,v=.ref a/\a∉ρ/\H a=some (.lst xs)/\Cvs mg ρ H xs ds)
 (λks ds=>∃a xs,v=.ref a/\a∉ρ/\H a=some (.dK (ks.zip xs))/\ks.length=xs.length/\Cvs mg ρ H xs ds) (λc ns ds=>∃a C dx xs,v=.ref a/\a∉ρ/\mg c=some (.ref C)/\H a=some (.ins C dx (ns.zip xs))/\ns.length=xs.length/\Cvs mg ρ H xs ds)
 (λns=>∃a,v=.ref a/\a∉ρ/\Rd H a (.lst (ns.map V.int))) (λn=>∃a,v=.ref a/\ρ.st[n]?=some a) (λc=>∃C,v=.ref C/\mg c=some (.ref C)) (λt=>v=.ty t) (λa=>v=.ref a)
set_option tactic.hygienic true in
def Cv.inv{v:V}{d:D}(h:Cv mg ρ H v d):Rz mg ρ H v d:=by
 cases h
 case non=>exact rfl
 case bl=>exact rfl
 case int=>exact rfl
 case str=>exact rfl
 case tup n h c=>exact⟨_,_,rfl,n,h,c⟩
 case lst n h c=>exact⟨_,_,rfl,n,h,c⟩
 case dic n h l c=>exact⟨_,_,rfl,n,h,l,c⟩
 case obj n m h l c=>exact⟨_,_,_,_,rfl,n,m,h,l,c⟩
 case scr n h=>exact⟨_,rfl,n,h⟩
 case ref h=>exact⟨_,rfl,h⟩
 case cls h=>exact⟨_,rfl,h⟩
 case ty=>exact rfl
 case exn=>exact rfl
def Cvs.inv{v:V}{d:D}{vs:List V}{l:List D}(h:Cvs mg ρ H vs (d::l)):∃v vs',vs=v::vs'/\Cv mg ρ H v d/\Cvs mg ρ H vs' l:=by cases h with | cons a b=>exact⟨_,_,rfl,a,b⟩
def Cvs.inv0{vs:List V}(h:Cvs mg ρ H vs []):vs=[]:=by cases h;rfl
def Cvs.freeze(s:Sub ρ ρ' k)(j:J mg ρ' M H){d d':List D}{v:List V}(f:Fzs M k d d'):Cvs mg ρ' H v d->Cvs mg ρ H v d':=
 Fzs.rec (motive_1:=λd d' y=>∀ v,Cv mg ρ' H v d->Cv mg ρ H v d') (motive_2:=λd d' y=>∀ v,Cvs mg ρ' H v d->Cvs mg ρ H v d')
  (λy c=>Eq.symm (a:=_) (Cv.inv c) ▸ .non) (λb y c=>Eq.symm (a:=_) (Cv.inv c) ▸ .bl b) (λb y c=>Eq.symm (a:=_) (Cv.inv c) ▸ .int b) (λb y c=>Eq.symm (a:=_) (Cv.inv c) ▸ .str b)
  (λy f v c=>let ⟨_,_,e,n,h,c⟩:=Cv.inv c;e ▸ .tup (s.out n) h (f _ c))
  (λy f v c=>let ⟨_,_,e,n,h,c⟩:=Cv.inv c;e ▸ .lst (s.out n) h (f _ c))
  (λy f v c=>let ⟨_,_,e,n,h,l,c⟩:=Cv.inv c;e ▸ .dic (s.out n) h l (f _ c))
  (λy f v c=>let ⟨_,_,_,_,e,n,m,h,l,c⟩:=Cv.inv c;e ▸ .obj (s.out n) m h l (f _ c))
  (λy v c=>let ⟨_,e,n,h⟩:=Cv.inv c;e ▸ .scr (s.out n) h)
  (λhn v c=>by
    obtain⟨a,rfl,h⟩:=Cv.inv c;obtain⟨τ,e⟩:=s.st;rw[e,Tq (by rw[s.len];exact hn)]at h
    exact .ref h)
  (λhn hm y f v c=>by
    obtain⟨a,rfl,h⟩:=Cv.inv c;obtain⟨xs,hx,c⟩:=j.obj _ _ _ h hm;refine .lst (λz=>?_) hx (f _ c)
    rcases z with z | z
    ·obtain⟨m,hm'⟩:=WR.mp z;obtain⟨τ,e⟩:=s.st;have hl:=(S7.mp hm').1;have h2:ρ'.st[m]?=some a:=by rw[e,Tq hl];exact hm'
     exact VG.mpr hn (j.inj h h2 ▸ s.len ▸ hl)
    ·exact (j.vol a (by rw[s.vo];exact z)).1 (T3 h))
  (λy v c=>let ⟨_,e,h⟩:=Cv.inv c;e ▸ .cls h) (λb y c=>Eq.symm (a:=_) (Cv.inv c) ▸ .ty b) (λb y c=>Eq.symm (a:=_) (Cv.inv c) ▸ .exn b)
  (λv c=>Cvs.inv0 c ▸ .nil) (λy y f g v c=>let ⟨_,_,e,a,b⟩:=Cvs.inv (v:=.non) c;e ▸ .cons (f _ a) (g _ b)) f v
theorem J.freeze{M1:Mo}(s:Sub ρ ρ' k)(j:J mg ρ' M H)(hk:ρ.st.length=M1.length)(f:QL M k M1):J mg ρ M1 H:=by
 obtain⟨τ,e⟩:=s.st;refine⟨hk,?_,λn a o h1 h2=>?_,λa ha=>?_⟩
 ·have:=j.nd;rw[e]at this;exact (VN.mp this).1
 ·obtain ⟨o',h3,fo⟩:=f.2 n o h2;have hl:=(S7.mp h1).1;have c:=j.obj n a o' (by rw[e,Tq hl];exact h1) h3
  cases o' with
  |lst l=>cases o with
    |lst l'=>obtain⟨xs,hx,c⟩:=c;exact⟨xs,hx,Cvs.freeze s j fo c⟩
    |dic _ _=>exact (show False from fo).elim
    |ins _ _ _=>exact (show False from fo).elim
  |dic ks l=>cases o with
    |lst l'=>exact (show False from fo).elim
    |dic ks' l'=>obtain⟨xs,hx,q,c⟩:=c;obtain⟨rfl,fo⟩:=fo;exact⟨xs,hx,q,Cvs.freeze s j fo c⟩
    |ins _ _ _=>exact (show False from fo).elim
  |ins c' ns l=>cases o with
    |lst l'=>exact (show False from fo).elim
    |dic _ _=>exact (show False from fo).elim
    |ins c'' ns' l'=>obtain⟨C,dx,xs,m,hx,q,c⟩:=c;obtain⟨rfl,rfl,fo⟩:=fo;exact⟨C,dx,xs,m,hx,q,Cvs.freeze s j fo c⟩
 ·obtain⟨x,xs,h⟩:=j.vol a (by rw[s.vo];exact ha)
  exact⟨λz=>x (by rw[e];exact Vr _ z),xs,h⟩
end
section
variable{X:Cx}{E:XK}{j k:Nat}{ps:List Str}{F:List D->DM D}{x:Str}{p pos:Pos}{e:Expr}{es:List Expr}{fs:aa->DM (List D)}
def aD(D:DefD X.prog X.w X.K X.mg X.base j x ps F)(hr:Room k X.A)(hx:Passes (gD X.prog X.w) X E)(ha:DA X E (e::es) fs)(hjk:j<=k:=by decide)(hg:Gl X x:=by rfl)(hdb:(x==("__debug__":Str))=false:=by decide)
  (he:notStar e=true:=by rfl) (hpl:(backTo pos (starEach es X.env)).any (·.1)=false:=by rfl) :
  DE X E (.Call (.Name x p) (e::es) [] pos) (λδ=>fs δ>>=F):=⟨PE.mono (GR D.h hr hx ha.h hjk hg hdb he hpl) λσ H Q h=>by
 obtain⟨ρ,δ,M,ev,j,g1⟩:=h;refine⟨ρ,δ,M,ev,j,g1.bind λρ1 H1 M1 xs dxs e1 j1 c1 g2=>?_⟩
 rw[VL];exact⟨ρ1,M1,dxs,c1,j1,g2⟩⟩
def rC(mg:Str->Option Value)(E:XK)(g:List D->DM D):List V->Hp->VK->Prop:=λvs H Q=>∃ρ M ds,J mg ρ M H/\Cvs mg ρ H vs ds/\Go mg E (Cv mg) Q ρ H (g ds) M
def CallD(X:Cx)(E:XK)(f:Value)(g:List D->DM D):Prop:=CallR X f (rC X.mg E g)
def aY{id:String}{g:List D->DM D}(hc:CallD X E (.builtin id) g)(hm:X.mg x=none)(ha:DA X E (e::es) fs)(hg:Gl X x:=by rfl)(hv:bootBuiltins x=some (.builtin id):=by decide +kernel)(hn:x≠"__name__":=by decide)(hdb:(x==("__debug__":Str))=false:=by decide)
  (he:notStar e=true:=by rfl) (hpl:(backTo pos (starEach es X.env)).any (·.1)=false:=by rfl) :
  DE X E (.Call (.Name x p) (e::es) [] pos) (λδ=>fs δ>>=g):=⟨PE.mono (Dt hc hm ha.h hg hv hn hdb he hpl) λσ H Q h=>by
 obtain⟨ρ,δ,M,ev,j,g1⟩:=h;exact⟨ρ,δ,M,ev,j,g1.bind λρ1 H1 M1 xs dxs e1 j1 c1 g2=>⟨ρ1,M1,dxs,j1,c1,g2⟩⟩⟩
def iI{T:String}{g:List D->DM D}(hc:CallD X E (.type T) g)(hm:X.mg x=none)(ha:DA X E (e::es) fs)(hg:Gl X x:=by rfl)(hv:bootBuiltins x=some (.type T):=by decide +kernel)(hn:x≠"__name__":=by decide)(hdb:(x==("__debug__":Str))=false:=by decide)
  (he:notStar e=true:=by rfl) (hpl:(backTo pos (starEach es X.env)).any (·.1)=false:=by rfl) :
  DE X E (.Call (.Name x p) (e::es) [] pos) (λδ=>fs δ>>=g):=⟨PE.mono (Qg hc hm ha.h hg hv hn hdb he hpl) λσ H Q h=>by
 obtain⟨ρ,δ,M,ev,j,g1⟩:=h;exact⟨ρ,δ,M,ev,j,g1.bind λρ1 H1 M1 xs dxs e1 j1 c1 g2=>⟨ρ1,M1,dxs,j1,c1,g2⟩⟩⟩
def CallD.of{f:Value}{r:List V->Hp->VK->Prop}{g:List D->Mo->Option D}(hr:CallR X f r)
  (h:∀vs H Q ρ M ds d,J X.mg ρ M H->Cvs X.mg ρ H vs ds->g ds M=some d->(∀ρ' H' v,Ext ρ H ρ' H'->J X.mg ρ' M H'->Cv X.mg ρ' H' v d->Q v H')->r vs H Q):CallD X E f (λl=>rd (g l)):=by
 intro YB s σ H vs us Q I rs q;obtain⟨ρ,M,ds,j,c,go⟩:=q;obtain⟨d,e,p⟩:=go.rd;exact hr YB s σ H vs us Q I rs (h vs H Q ρ M ds d j c e p)
end
section
variable{X:Cx}{E:XK}{mg:Str->Option Value}{ρ:Rh}{H:Hp}{M:Mo}
def Cvs.one(c:Cvs mg ρ H vs [d]):∃v,vs=[v]/\Cv mg ρ H v d:=by
 cases c with
 |cons c c2=>cases c2;exact⟨_,rfl,c⟩
def Cvs.two(c:Cvs mg ρ H vs [d,e]):∃ v w,vs=[v,w]/\Cv mg ρ H v d/\Cv mg ρ H w e:=by
 cases c with
 |cons c c2=>obtain⟨w,rfl,k⟩:=c2.one;exact⟨_,_,rfl,c,k⟩
def gM:List D->Mo->Option D
 |[.tup l],_=>some (.int l.length)
 |[.scr l],_=>some (.int l.length)
 |[.str x],_=>if x.length<=sizeLine then some (.int x.length) else none
 |[d],M=>(bw d M).map λl=>.int l.length
 |_,_=>none
set_option tactic.hygienic true in
def call_lenD:CallD X E (.builtin "len") (λl=>rd (gM l)):=CallD.of (call_len_seq.or call_len_str) λvs H Q ρ M ds d j c e q=>by
 unfold gM at e;split at e
 ·cases e;obtain⟨v,rfl,k⟩:=c.one;replace c:=k;cases c with | tup n a c=>
  exact .inl ⟨_,_,rfl,.inr (SqT.of a),by rw[c.len];exact q ρ H _ .refl j (.int _)⟩
 ·cases e;obtain⟨v,rfl,k⟩:=c.one;replace c:=k;cases c with | scr n a=>
  exact .inl ⟨_,_,rfl,.inl (.inl a),by rw[S9];exact q ρ H _ .refl j (.int _)⟩
 ·split at e
  ·cases e;obtain⟨v,rfl,k⟩:=c.one;replace c:=k;cases c;exact .inr ⟨_,rfl,‹_›,q ρ H _ .refl j (.int _)⟩
  ·cases e
 ·obtain⟨l,h1,rfl⟩:=S8.mp e;obtain⟨v,rfl,k⟩:=c.one;replace c:=k;obtain⟨a,xs,rfl,ha,c⟩:=eE j c h1;exact .inl ⟨_,_,rfl,.inl (SqL.of ha),by rw[c.len];exact q ρ H _ .refl j (.int _)⟩
 ·cases e
def Q6:List D->Mo->Option D
 |[.int i],_=>some (.int (if i<0 then -i else i))
 |_,_=>none
def Dn:List D->Mo->Option D
 |[.int i,.int j],_=>some (.int (if j > i then j else i))
 |_,_=>none
def Qc:List D->Mo->Option D
 |[.int i,.int j],_=>some (.int (if j<i then j else i))
 |_,_=>none
def Dc(hc:X.calm=true):CallD X E (.builtin "max") (λl=>rd (Dn l)):=CallD.of (call_max2 hc) λvs H Q ρ M ds d j c e q=>by
 unfold Dn at e;split at e
 ·cases e;obtain⟨v,w,rfl,k,c2⟩:=c.two;replace c:=k;cases c;cases c2;exact⟨_,_,rfl,q ρ H _ .refl j (.int _)⟩
 ·cases e
def mj:D->Mo->Option (List D)
 |.tup l,_=>some l
 |d,M=>bw d M
def vf(j:J mg ρ M H)(c:Cv mg ρ H x d)(e:mj d M=some l):∃a xs,x=.ref a/\(H a=some (.lst xs)\/H a=some (.tup xs))/\Cvs mg ρ H xs l:=by
 unfold mj at e;split at e
 ·cases e;cases c with | tup n a c=>exact⟨_,_,rfl,.inr a,c⟩
 ·obtain⟨a,xs,rfl,ha,c⟩:=eE j c e;exact⟨a,xs,rfl,.inl ha,c⟩
def intsOf:List D->Option (List Int)
 |[]=>some []
 |.int i::l=>(intsOf l).map (i::·)
 |_=>none
theorem ints_of:∀ {xs:List V}{l:List D}{ns:List Int},Cvs mg ρ H xs l->intsOf l=some ns->xs=ns.map V.int
 |_,_,_,.nil,e=>by cases e;rfl
 | _,_,_,.cons (d:=d) c cs,e=>by
   cases d with
   |int i=>obtain⟨ms,h1,rfl⟩:=S8.mp e;cases c;rw[ints_of cs h1];rfl
   |_=>cases e
def Fg(hh:X.A.handled=none):CallR X (.builtin "sum") (λvs H Q=>∃ (l:Addr) (ns:List Int),vs=[.ref l]/\(H l=some (.lst (ns.map V.int))\/H l=some (.tup (ns.map V.int)))/\Q (.int ns.sum) H):=by
 intro YB s σ H vs us Q I r h;obtain⟨l,ns,rfl,hH,q⟩:=h;obtain⟨u,rfl,ru⟩:=vals1 r;cases ru;have fin:∀(its:List Value),IntsAre its ns->∃xs,its.toArray=intItems xs/\preSum (numAt xs) xs.size=ns.sum:=λits hi=>by
  obtain⟨xs,hx⟩:=hi.allInts.items;have hn:numsOf its.toArray.toList=ns:=by rw[show its.toArray.toList=its from rfl,hi.numsOf]
  rw[hx]at hn;rw[PySem.nums_intItems]at hn;exact⟨xs,hx,by rw[PySem.preSum_eq,U6 (by simp),hn]⟩
 rcases hH with hH | hH
 ·obtain ⟨its,rv,p,hz⟩:=I.list (SqL.of (K:=X.K) hH);obtain⟨xs,hx,hs⟩:=fin its (intsAre_of rv);have hl:=p.isList;rw[hx]at hl;obtain⟨o,ho,hc,n,hd⟩:=id hl;have hne:l≠s.heap.objs.size:=Tj (Te ho);have hsz:(intItems xs).size=xs.size:=by simp[intItems]
  have W:=(Walks.list (prog:=X.prog) (w:=X.w) (A:=X.A.in1) hh s.heap.objs.size l hne (intItems xs)).toS;rw[hsz]at W;refine call_sum_walkAnyS (VM hl ?_);refine⟨s.heap.objs.size,_,_,_,_,_,_,numAt xs,rfl,W,⟨⟨_,Tg _ rfl,rfl,rfl⟩,hl.at λo e=>S5 _ e⟩,λb hb=>?_,λi v hP=>intItems_at hP,λs' t' hm=>?_⟩
  ·rcases Tt.mp hb with rfl | hb
   ·exact Te (Tg _ rfl)
   ·obtain rfl:=TJ.mp hb;exact Te (S5 _ ho)
  ·obtain⟨h',g',d',tk',os'⟩:=s';have e1:g'=s.gens:=hm.gens;have e2:d'=s.drawn:=hm.drawn;have e3:os'=s.os:=hm.os;subst e1 e2 e3;refine⟨.int ns.sum,H,I.kept (h':=h') (t':=tk') λb o e=>hm.heap b o (λhb=>absurd (Te e) ((TJ.mp hb) ▸ Vj _)) (S5 _ e),⟨t',?_⟩,q⟩
   rw[<-hs]
 ·obtain⟨its,rv,p,hz⟩:=I.tuple (SqT.of (K:=X.K) hH);obtain⟨xs,hx,hs⟩:=fin its (intsAre_of rv);rw[hx]at p;exact PySem.W.ktm_sumG hh (show s.heap.IsTuple l _ from p) λh' tk t' hk=>⟨.int ns.sum,H,I.kept hk,⟨t',by rw[<-hs]⟩,q⟩
def Ei:List D->Mo->Option D
 |[d],M=>(mj d M).bind λl=>(intsOf l).map λns=>.int ns.sum
 |_,_=>none
def qe(hh:X.A.handled=none):CallD X E (.builtin "sum") (λl=>rd (Ei l)):=CallD.of (Fg hh) λvs H Q ρ M ds d j c e q=>by
 unfold Ei at e;split at e
 ·obtain⟨l,h1,e1⟩:=TQ.mp e;obtain⟨ns,h2,rfl⟩:=S8.mp e1;obtain⟨v,rfl,k⟩:=c.one;replace c:=k;obtain⟨a,xs,rfl,ha,c⟩:=vf j c h1;have:=ints_of c h2;subst this;exact⟨_,ns,rfl,ha,q ρ H _ .refl j (.int _)⟩
 ·cases e
def Jq:D->Option Bool
 |.bl b=>some b
 |.int i=>some (i != 0)
 |_=>none
def iw:List D->Option (List Bool)
 |[]=>some []
 |d::l=>match Jq d,iw l with
   |some b,some bs=>some (b::bs)
   |_,_=>none
set_option tactic.hygienic true in
theorem CG:∀ {xs:List V}{l:List D}{bs:List Bool},Cvs mg ρ H xs l->iw l=some bs->(∀ x∈xs,scS x=true)/\xs.map pD=bs
 |_,_,_,.nil,e=>by cases e;exact⟨(λx hx=>nomatch hx),rfl⟩
 | _,_,_,.cons (d:=d) (ds:=ds) (vs:=vs) c cs,e=>by
   unfold iw at e;split at e
   ·rename_i b bs h1 h2;cases e;obtain⟨a1,a2⟩:=CG cs h2;cases c with
    |bl b'=>cases h1;exact⟨λx hx=>by rcases Tt.mp hx with rfl | hx;rfl;exact a1 x hx,by rw[Ud,a2];rfl⟩
    |int b'=>cases h1;exact⟨λx hx=>by rcases Tt.mp hx with rfl | hx;rfl;exact a1 x hx,by rw[Ud,a2];rfl⟩
    |_=>cases h1
   ·cases e
def pZ:List D->Mo->Option D
 |[d],M=>(bw d M).bind λl=>(iw l).map λbs=>.bl (bs.all id)
 |_,_=>none
def Mw:List D->Mo->Option D
 |[.tup l],_=>(iw l).map λbs=>.bl (bs.any id)
 |_,_=>none
def dU(hh:X.A.handled=none):CallD X E (.builtin "all") (λl=>rd (pZ l)):=CallD.of (HQ hh) λvs H Q ρ M ds d j c e q=>by
 unfold pZ at e;split at e
 ·obtain⟨l,h1,e1⟩:=TQ.mp e;obtain⟨ns,h2,rfl⟩:=S8.mp e1;obtain⟨v,rfl,k⟩:=c.one;replace c:=k;obtain⟨a,xs,rfl,ha,c⟩:=eE j c h1;obtain⟨t1,t2⟩:=CG c h2;subst t2;exact⟨_,xs,rfl,ha,t1,by have z:=q ρ H _ .refl j (.bl _);rw[List.all_map]at z;exact z⟩
 ·cases e
def qO:List D->Mo->Option D
 |[d],M=>(mj d M).map .tup
 |_,_=>none
def cM:CallD X E (.type "tuple") (λl=>rd (qO l)):=CallD.of call_tuple_of λvs H Q ρ M ds d j c e q=>by
 unfold qO at e;split at e
 ·obtain⟨l,h1,rfl⟩:=S8.mp e;obtain⟨v,rfl,k⟩:=c.one;replace c:=k;unfold mj at h1;split at h1
  ·cases h1;cases c with | tup n a c=>
   exact⟨_,_,rfl,.inr ⟨SqT.of a,q ρ H _ .refl j (.tup n a c)⟩⟩
  ·obtain⟨a,xs,rfl,ha,c⟩:=eE j c h1;exact⟨_,_,rfl,.inl ⟨SqL.of ha,λp hp=>q ρ _ _ (.lay hp) (j.lay _ hp) (.tup (j.fresh hp) upd_same (c.mono (.lay hp)))⟩⟩
 ·cases e
def Dm:List D->Mo->Option (List D)
 |[d],M=>mj d M
 |_,_=>none
def CZ:CallD X E (.type "list") (λl=>rd (λM=>(Dm l M).map .lst)):=CallD.of call_list_of λvs H Q ρ M ds d j c e q=>by
 obtain⟨l,e1,rfl⟩:=S8.mp e;unfold Dm at e1;split at e1
 ·obtain⟨v,rfl,k⟩:=c.one;replace c:=k;obtain⟨a,xs,rfl,ha,c⟩:=vf j c e1;exact⟨_,_,rfl,ha.imp SqL.of SqT.of,λp hp=>q ρ _ _ (.lay hp) (j.lay _ hp) (.lst (j.fresh hp) upd_same (c.mono (.lay hp)))⟩
 ·cases e1
def tyOf:D->Mo->Option String
 |.non,_=>some "NoneType"
 |.bl _,_=>some "bool"
 |.int _,_=>some "int"
 |.str _,_=>some "str"
 |.tup _,_=>some "tuple"
 |.lst _,_=>some "list"
 |.scr _,_=>some "list"
 |.dic _ _,_=>some "dict"
 |.ref n,M=>match M[n]? with
   |some (.lst _)=>some "list"
   |some (.dic _ _)=>some "dict"
   |_=>none
 |_,_=>none
set_option tactic.hygienic true in
def QJ{K:PySem.W.Frag}(j:J mg ρ M H){x:V}{d:D}{t:String}(c:Cv mg ρ H x d)(e:tyOf d M=some t):TyOf K H x (.type t):=by
 cases c with
 |non=>cases e;exact .non
 |bl b=>cases e;exact .bl b
 |int b=>cases e;exact .int b
 |str b=>cases e;exact .str b
 |tup n h c=>cases e;exact .tup h
 |lst n h c=>cases e;exact .lst h
 |dic n h l c=>cases e;exact .dK h
 |scr n h=>
   cases e;rcases h with h | ⟨o,h⟩
   ·exact .lst h
   ·exact .frz h
 | ref q=>
   unfold tyOf at e;dsimp only at e;split at e
   ·rename_i l hl;cases e;obtain⟨xs,h,_⟩:=j.obj _ _ _ q hl;exact .lst h
   ·rename_i ks l hl;cases e;obtain⟨xs,h,_⟩:=j.obj _ _ _ q hl;exact .dK h
   ·cases e
 |_=>cases e
def Eh(t c:String):Bool:=t==c || (t=="bool"&&c=="int")
def tys:List String:=["NoneType", "bool", "int", "str", "tuple", "list", "dict"]
def gh:List D->Mo->Option D
 |[d,.ty c],M=>(tyOf d M).bind λt=>if tys.contains c then some (.bl (Eh t c)) else none
 |_,_=>none
def Ju(e:tyOf d M=some t):t∈tys:=by unfold tyOf at e;split at e<;>first | (cases e;decide) | (split at e<;>first | (cases e;decide) | cases e) | cases e
def Oc{K:PySem.W.Frag}:∀t∈tys,∀c∈tys,PySem.W.kitOne K (.type t) (.type c)=some (Eh t c):=by intro t ht c hc;simp only[tys,List.mem_cons,List.mem_nil_iff,or_false]at ht hc;rcases ht with rfl | rfl | rfl | rfl | rfl | rfl | rfl<;>rcases hc with rfl | rfl | rfl | rfl | rfl | rfl | rfl<;>rfl
set_option tactic.hygienic true in
def bV:CallD X E (.builtin "isinstance") (λl=>rd (gh l)):=CallD.of HR λvs H Q ρ M ds d j c e q=>by
 unfold gh at e;split at e
 ·obtain⟨t,h1,e1⟩:=TQ.mp e;split at e1
  ·rename_i hk;cases e1;obtain⟨v,w,rfl,k,c2⟩:=c.two;replace c:=k;cases c2;exact⟨_,_,_,_,rfl,QJ j c h1,Oc _ (Ju h1) _ (Vg.mp hk),q ρ H _ .refl j (.bl _)⟩
  ·cases e1
 ·cases e
def Mt(X:Cx)(E:XK)(id:String)(g:D->List D->DM D):Prop:=MtR X id (λx vs H Q=>∃ρ M d ds,J X.mg ρ M H/\Cv X.mg ρ H x d/\Cvs X.mg ρ H vs ds/\Go X.mg E (Cv X.mg) Q ρ H (g d ds) M)
def HJ:D->List D->DM D
 |.ref n,[v]=>λM=>match M[n]? with
   |some (.lst l)=>if l.length<sizeLine then some (.ok .non,M.set n (.lst (l++[v]))) else none
   |_=>none
 |_,_=>stuck
set_option tactic.hygienic true in
def vJ:Mt X E "list.append" HJ:=by
 intro YB s σ H x xs v us Q I rx rs q;obtain⟨ρ,M,d,ds,j,cx,cs,r,e,p⟩:=q;cases cx with
 | ref hn=>
   cases cs with
   |nil=>cases e
   | cons c cs=>cases cs with
     |cons _ _=>cases e
     | nil=>
       rename_i n a w dw;have e:(match M[n]? with
        |some (.lst l)=>if l.length<sizeLine then some (R.ok .non,M.set n (.lst (l++[dw]))) else none
        |_=>none)=some r:=e
       split at e
       ·rename_i l hl;split at e
        ·cases e;obtain⟨xs,hx,cl⟩:=j.obj _ _ _ hn hl;have x:Ext ρ H ρ (upd H a (.lst (xs++[w]))):=.upd (T3 hn);exact mt_append (X:=X) YB s σ H _ _ v us Q I rx rs ⟨_,_,_,rfl,rfl,hx,by rw[cl.len];assumption,p ρ _ .non x (j.upd hn ⟨_,upd_same,(cl.append (.cons c .nil)).mono x⟩) .non⟩
        ·cases e
       ·cases e
 |_=>cases e
def Jj:D->List D->DM D
 | .ref n,[.int i]=>λM=>match M[n]? with
   | some (.lst l)=>match ixN l.length i with
     |some k=>match l[k]? with
       |some d=>if decide (-(2^63)<=i/\i<2^63) then some (.ok d,M.set n (.lst (l.eraseIdx k))) else none
       |none=>none
     |none=>none
   |_=>none
 |_,_=>stuck
theorem Cvs.erase:∀{vs:List V}{ds:List D} (i:Nat),Cvs mg ρ H vs ds->Cvs mg ρ H (vs.eraseIdx i) (ds.eraseIdx i)
 |_,_,_,.nil=>.nil
 |_,_,0,.cons _ t=>t
 |_,_,i+1,.cons a t=>.cons a (Cvs.erase i t)
set_option tactic.hygienic true in
def KH:Mt X E "list.pop" Jj:=by
 intro YB s σ H x xs v us Q I rx rs q;obtain⟨ρ,M,d,ds,j,cx,cs,r,e,p⟩:=q;cases cx with
 | ref hn=>
   cases cs with
   |nil=>cases e
   | cons c cs=>cases cs with
     |cons _ _=>cases c<;>cases e
     | nil=>cases c with
       | int i=>
         rename_i n a;have e:(match M[n]? with
          | some (.lst l)=>match ixN l.length i with
            |some k=>match l[k]? with
              |some d=>if decide (-(2^63)<=i/\i<2^63) then some (R.ok d,M.set n (.lst (l.eraseIdx k))) else none
              |none=>none
            |none=>none
          |_=>none)=some r:=e
         split at e
         ·rename_i l hl;split at e
          ·rename_i k hk;split at e
           ·rename_i d hd;split at e
            ·rename_i hb;have hb:=Ui hb;cases e;obtain⟨xs,hx,cl⟩:=j.obj _ _ _ hn hl;obtain⟨w,hw,cw⟩:=cl.get hd;have x:Ext ρ H ρ (upd H a (.lst (xs.eraseIdx k))):=.upd (T3 hn);exact mt_popAt (X:=X) YB s σ H _ _ v us Q I rx rs ⟨_,_,_,k,w,rfl,rfl,hx,hb.1,hb.2,by rw[cl.len];exact (ixN_seq hk).1,hw,p ρ _ w x (j.upd hn ⟨_,upd_same,(cl.erase k).mono x⟩) (cw.mono x)⟩
            ·cases e
           ·cases e
          ·cases e
         ·cases e
       |_=>cases e
 |_=>cases e
def wW{name id:String}{g:D->List D->DM D}{o e:Expr}{es:List Expr}{fo:aa->DM D}{fs:aa->DM (List D)}{apos cpos:Pos}(pa:PlainAttrs "list")(slot:Slot "list" name id)(hty:typeOf (.builtin id)=pure (.type "method_descriptor"))(hm:Mt X E id g)(ho:DE X E o fo)(ha:DA X E (e::es) fs)
  (hbase:attributeBase o name X.env (eval o X.env)=eval o X.env:=by rfl)
  (hfew:((backTo cpos (starEach (e::es) X.env)).all (fun x=>!x.1)&&(backToKw cpos (keywordEach [] X.env)).all (fun x=>x.1.isSome)
   &&decide ((e::es).length+([]:List Keyword).length+(if ([]:List Keyword).isEmpty then 0 else 1)<30))=true:=by rfl)
  (hline:(apos.endLine==cpos.line)=true:=by rfl) (hs:notStar e=true:=by rfl) (hplain:(backTo cpos (starEach es X.env)).any (·.1)=false:=by rfl) :
  DE X E (.Call (.Attribute o name apos) (e::es) [] cpos) (λδ=>fo δ>>=λx=>rd (λM=>bw x M)>>=λz=>fs δ>>=λxs=>g x xs):=⟨PE.mono (O3 pa slot hty hm ho.h ha.h hbase hfew hline hs hplain) λσ H Q h=>by
 obtain⟨ρ,δ,M,ev,j,g1⟩:=h;refine⟨ρ,δ,M,ev,j,g1.bind λρ1 H1 M1 x dx e1 j1 c1 g2=>?_⟩
 obtain⟨l,hl,g3⟩:=Go.rdb g2;obtain⟨a,xs,rfl,hx,cl⟩:=eE j1 c1 hl;exact⟨.inl ⟨rfl,_,SqL.of hx⟩,ρ1,δ,M1,ev.mono e1,j1,g3.bind λρ2 H2 M2 ys dys e2 j2 c2 g4=>⟨ρ2,M2,dx,dys,j2,c1.mono e2,c2,g4⟩⟩⟩
end
structure ExtB(acc:Addr)(ρ:Rh)(H:Hp)(ρ':Rh)(H':Hp):Prop where
 pre:∃τ,ρ'.st=ρ.st++τ
 vo:ρ'.vo=ρ.vo
 new:∀a,a∈ρ'.st->a∉ρ.st->H a=none
 keep:∀a o,H a=some o->a∉ρ.st->a≠acc->H' a=some o
 na:acc∉ρ'.st
section
variable{acc:Addr}{ρ ρ1 ρ2:Rh}{H H1 H2:Hp}
theorem ExtB.trans(e:ExtB acc ρ H ρ1 H1)(f:ExtB acc ρ1 H1 ρ2 H2):ExtB acc ρ H ρ2 H2:=by
 have out:∀a o,H a=some o->a∉ρ.st->a∉ρ1.st:=λa o h n z=>by have:=e.new a z n;rw[h]at this;cases this
 refine⟨?_,f.vo.trans e.vo,λa h n=>?_,λa o h n na=>f.keep a o (e.keep a o h n na) (out a o h n) na,f.na⟩
 ·obtain⟨τ,h1⟩:=e.pre;obtain⟨υ,h2⟩:=f.pre;exact⟨τ++υ,by rw[h2,h1,Vv]⟩
 ·by_cases z:a∈ρ1.st
  ·exact e.new a z n
  ·cases q:H a with
   |none=>rfl
   |some o=>have:=f.new a h z;rw[e.keep a o q n (λy=>f.na (y ▸ h))]at this;cases this
def Ext.b(e:Ext ρ H ρ1 H1)(na:acc∉ρ1.st):ExtB acc ρ H ρ1 H1:=⟨e.pre,e.vo,e.new,λa o h n z=>e.keep a o h n,na⟩
def ExtB.kp(e:ExtB acc ρ H ρ1 H1)(h:acc∈ρ.vo):Kp ρ H ρ1 H1:=⟨e.pre,λa o q n y=>by
 have ne:a≠acc:=λz=>n (z ▸ .inr h)
 have ns:a∉ρ.st:=λz=>n (.inl z)
 refine⟨λz=>?_,e.keep a o q ns ne⟩
 rcases z with z | z
 ·have:=e.new a z ns;rw[q]at this;cases this
 ·rw[e.vo]at z;exact n (.inr z)⟩
theorem ExtB.refl(na:acc∉ρ.st):ExtB acc ρ H ρ H:=(Ext.refl).b na
def ExtB.grow(na:acc∉ρ.st):ExtB acc ρ H ρ (upd H acc (.lst ys)):=⟨⟨[],by simp⟩,rfl,λa h n=>absurd h n,λa o h z ne=>by rw[upd_ne ne];exact h,na⟩
end
structure Cst(X:Cx)(YB:List (Addr×Obj))(acc:Addr)(ρ0:Rh)(H0:Hp)(δ:aa)(l:List D)(M:Mo)(fp:List Addr)(s:Shared):Prop where
 ex:∃σ H ρ ys,Inv X YB σ H s/\ExtB acc ρ0 H0 ρ H/\J X.mg ρ M H/\Ev X.mg ρ H σ δ/\H acc=some (.lst ys)/\Cvs X.mg ρ H ys l/\∀b∈fp,H b=none
def bj(fg:D->aa->DM aa)(ft:aa->DM Bool)(fb:aa->List D->DM (aa×List D)):List D->aa->List D->DM (aa×List D)
 |[],δ,l=>pure (δ,l)
 |d::ds,δ,l=>fg d δ>>=λδ1=>ft δ1>>=λb=>(if b then fb δ1 l else pure (δ1,l))>>=λp=>bj fg ft fb ds p.1 p.2
def jL(fg:D->aa->DM aa)(ft:aa->DM Bool)(fb:aa->List D->DM (aa×List D))(n:Nat):Nat->Nat->aa->List D->DM (aa×List D)
 |0,_,_,_=>stuck
 |k+1,i,δ,l=>rd (Itn.next (.dyn n) i)>>=λo=>match o with
   |none=>pure (δ,l)
   |some d=>fg d δ>>=λδ1=>ft δ1>>=λb=>(if b then fb δ1 l else pure (δ1,l))>>=λp=>jL fg ft fb n k (i+1) p.1 p.2
def bL(fg:D->aa->DM aa)(ft:aa->DM Bool)(fb:aa->List D->DM (aa×List D)):Itn->aa->List D->DM (aa×List D)
 |.fix ds,δ,l=>bj fg ft fb ds δ l
 |.dyn n,δ,l=>rd (λM=>bw (.ref n) M)>>=λm=>jL fg ft fb n (m.length+1) 0 δ l
def bR(fe:aa->DM D)(δ:aa)(l:List D):DM (aa×List D):=fe δ>>=λd=>if l.length<sizeLine then pure (δ,l++[d]) else stuck
def RN(X:Cx)(ifs:List Expr)(t:TT):Prop:=∀(YB:List (Addr×Obj)) (s:Shared) (σ:L2.St) (H:Hp) (Q:Bool->Hp->Prop),Inv X YB σ H s->t σ H Q->wpAny (model X.prog X.w) X.A (rQ ifs X.env) (TP X YB σ Q) X.xe s
structure DTs(X:Cx)(E:XK)(ifs:List Expr)(f:aa->DM Bool):Prop where
 h:RN X ifs (tD X.mg E Bv f)
def fL:DTs X E [] (λz=>pure true):=⟨λYB s σ H Q I h=>by obtain⟨ρ,δ,M,ev,j,g⟩:=h;exact S6 ⟨H,I,g.pure ρ H true .refl j rfl⟩⟩
def cD(hc:DT X E c f):DTs X E [c] f:=⟨λYB s σ H Q I h=>wpAny_tests_one (hc.h YB s σ H Q I h)⟩
set_option tactic.hygienic true in
def DM.bind_ok{α β:Type}{m:DM α}{k:α->DM β}{M M':Mo}{b:β}(h:(m>>=k) M=some (.ok b,M')):∃a M1,m M=some (.ok a,M1)/\k a M1=some (.ok b,M'):=by
 have h:DM.bind m k M=some (.ok b,M'):=h;unfold DM.bind at h;split at h
 ·cases h
 ·cases h
 ·rename_i a M1 e;exact⟨a,M1,e,h⟩
def BodyOk(X:Cx)(acc:Addr)(W:(Shared->Prop)->Shared->Prop)(fb:aa->List D->DM (aa×List D)):Prop:=
 ∀YB ρ0 H0 δ l M s δ' l' M',acc∈ρ0.vo->Cst X YB acc ρ0 H0 δ l M [] s->fb δ l M=some (.ok (δ',l'),M')->W (λs'=>Cst X YB acc ρ0 H0 δ' l' M' [] s') s
def Cst.unpin(c:Cst X (YB++pl) acc ρ0 H0 δ l M [] s)(h:∀b∈fp,∃o,(b,o)∈pl):
  Cst X YB acc ρ0 H0 δ l M fp s/\∀p∈pl,s.heap.get? p.1=some p.2:=by
 obtain⟨σ,H,ρ,ys,I,x,j,ev,ha,cl,_⟩:=c.ex;refine⟨⟨σ,H,ρ,ys,I.unpinned,x,j,ev,ha,cl,λb hb=>?_⟩,λp hp=>(I.pin p (T7 _ (T7 _ hp))).1⟩
 obtain⟨o,ho⟩:=h b hb;exact (I.pin (b,o) (T7 _ (T7 _ ho))).2.1
def eU(fg:D->aa->DM aa)(ft:aa->DM Bool)(fb:aa->List D->DM (aa×List D))(δf:aa)(lf:List D)(Mf:Mo):Itn->Nat->Nat->aa->List D->Mo->Prop
 |.fix ds,n,i,δ,l,M=>n=ds.length-i/\bj fg ft fb (ds.drop i) δ l M=some (.ok (δf,lf),Mf)
 |.dyn a,n,i,δ,l,M=>jL fg ft fb a n i δ l M=some (.ok (δf,lf),Mf)
set_option tactic.hygienic true in
def eU.step{fg:D->aa->DM aa}{ft:aa->DM Bool}{fb:aa->List D->DM (aa×List D)}{δf δ:aa}{lf l:List D}{Mf M:Mo}{it:Itn}{n i:Nat}(h:eU fg ft fb δf lf Mf it n i δ l M):
  (it.next i M=some none/\δ=δf/\l=lf/\M=Mf)\/∃d δ1 M1 b M2 δ3 l3 M3 m,it.next i M=some (some d)/\fg d δ M=some (.ok δ1,M1)/\ft δ1 M1=some (.ok b,M2)/\(if b then fb δ1 l else pure (δ1,l)) M2=some (.ok (δ3,l3),M3)/\m<n/\eU fg ft fb δf lf Mf it m (i+1) δ3 l3 M3:=by
 cases it with
 | fix ds=>
   obtain⟨rfl,h⟩:=h;cases hd:ds[i]? with
   |none=>rw[List.drop_eq_nil_of_le (Uc.mp hd)]at h;cases h;exact .inl ⟨congrArg some hd,rfl,rfl,rfl⟩
   |some d=>
     obtain⟨hi',hd'⟩:=S7.mp hd;have hl:ds.drop i=d::ds.drop (i+1):=by rw[<-hd'];exact Yt hi'
     rw[hl]at h;obtain⟨δ1,M1,e1,h1⟩:=DM.bind_ok h;obtain⟨b,M2,e2,h2⟩:=DM.bind_ok h1;obtain⟨⟨δ3,l3⟩,M3,e3,h3⟩:=DM.bind_ok h2;exact .inr ⟨d,δ1,M1,b,M2,δ3,l3,M3,ds.length-(i+1),congrArg some hd,e1,e2,e3,by lia,rfl,h3⟩
 | dyn a=>
   cases n with
   |zero=>cases h
   | succ n=>
     obtain⟨o,M0,e0,h⟩:=DM.bind_ok h;obtain⟨o',q,z⟩:=S8.mp e0;cases z;cases o with
     |none=>cases h;exact .inl ⟨q,rfl,rfl,rfl⟩
     |some d=>obtain⟨δ1,M1,e1,h1⟩:=DM.bind_ok h;obtain⟨b,M2,e2,h2⟩:=DM.bind_ok h1;obtain⟨⟨δ3,l3⟩,M3,e3,h3⟩:=DM.bind_ok h2;exact .inr ⟨d,δ1,M1,b,M2,δ3,l3,M3,n,q,e1,e2,e3,U7 _,h3⟩
def eU.start{fg:D->aa->DM aa}{ft:aa->DM Bool}{fb:aa->List D->DM (aa×List D)}{δf δ:aa}{lf l:List D}{Mf M:Mo}{it:Itn}(h:bL fg ft fb it δ l M=some (.ok (δf,lf),Mf)):∃ n,eU fg ft fb δf lf Mf it n 0 δ l M:=by
 cases it with
 |fix ds=>exact⟨_,rfl,h⟩
 |dyn a=>obtain⟨m,M0,e0,h⟩:=DM.bind_ok h;obtain⟨m',q,z⟩:=S8.mp e0;cases z;exact⟨_,h⟩
def Gv(hc:X.calm=true)(hxe:X.xe=λy y=>False){gens:List Comprehension}{depth:Nat}{bodyK:Sem Fin->Sem Fin}{W:(Shared->Prop)->Shared->Prop}
  (hturn:compTurn (.ListComp elt gens scope pos) depth (.ref it) (.ref acc) X.env=turnOf g bodyK (.compLoop (.ListComp elt gens scope pos) depth (.ref it) (.ref acc) X.env) (.ref it) X.env) (hW:iY X.prog X.w X.A bodyK W) (hmono:∀P P' s,(∀s,P s->P' s)->W P s->W P' s)
  {fg:D->aa->DM aa}{ft:aa->DM Bool}{fb:aa->List D->DM (aa×List D)} (hg:DG X E0 g.target fg) (ht:DTs X E0 g.ifs ft) (hb:BodyOk X acc W fb) {fp:List Addr}{tn:Nat->Heap->Prop} (T:Turn X.prog X.w X.K g.target Jt fp it tn) (iok:ItOk X.mg ρi Hi Jt itn) (hacc:acc∈ρ0.vo) (kp0:Kp ρi Hi ρ0 H0) {YB:List (Addr×Obj)}
  (fok:∀H',(∀b∈fp,H' b=none)->∀b∈fp,FpOk X YB H' b) {l:List D} (st:Cst X YB acc ρ0 H0 δ l M fp s) (htn:tn 0 s.heap) {lf:List D} (hrun:bL fg ft fb itn δ l M=some (.ok (δf,lf),Mf))
  {R:Result->Shared->Prop} (hR:∀s',Cst X YB acc ρ0 H0 δf lf Mf fp s'->R (.ok .next) s') :
  codeAny (model X.prog X.w) X.A (.compLoop (.ListComp elt gens scope pos) depth (.ref it) (.ref acc) X.env) R s:=by
 obtain⟨n0,rem0⟩:=eU.start hrun;refine IV (λn s=>∃i δ l M,eU fg ft fb δf lf Mf itn n i δ l M/\Cst X YB acc ρ0 H0 δ l M fp s/\tn i s.heap) hturn hW ?_ hmono n0 ⟨0,δ,l,M,rem0,st,htn⟩
 rintro n s ⟨i,δ,l,M,rem,st,htn⟩;obtain⟨σ,H,ρ,ys,I,x,j,ev,ha,cl,fr⟩:=st.ex;have kp:Kp ρi Hi ρ H:=kp0.trans (x.kp hacc);rcases rem.step with ⟨hd,rfl,rfl,rfl⟩ | ⟨d,δ1,M1,b,M2,δ3,l3,M3,m,hd,e1,e2,e3,hm,rem3⟩
 ·refine Tz (T.done X rfl rfl rfl hc i YB s σ H _ I (fok H fr) htn (iok.stop i ρ H _ kp j hd)) (λr s1 h1=>?_) λy y z=>z
  obtain⟨rfl,I1⟩:=h1;exact hR s1 ⟨σ,H,ρ,ys,I1,x,j,ev,ha,cl,fr⟩
 ·obtain ⟨go,yl⟩:=iok.item i ρ H M d kp j hd;refine Tz (T.item X rfl rfl rfl hc i YB s σ H (λy y=>False) I (fok H fr) htn go) (λr s1 h1=>?_) λy y z=>z
  obtain⟨u,rfl,h1⟩:=h1;refine Tz h1 (λy s2 h2=>?_) λy y z=>z
  obtain⟨xv,H5,I5,r5,y5,tn5,fr5⟩:=h2;obtain⟨x5,j5,c5⟩:=yl xv H5 y5;have I5':=I5.pinned (fok H5 fr5) (T.obj _ _ tn5);refine Tz (hg.h _ s2 σ H5 xv u (λσ6 H6=>∃ρ6,Ext ρ H5 ρ6 H6/\J X.mg ρ6 M1 H6/\Ev X.mg ρ6 H6 σ6 δ1) I5' r5 ⟨ρ,δ,M,d,ev.mono x5,j5,c5,_,e1,λρ6 H6 σ6 a1 a2 a3=>⟨ρ6,a1,a2,a3⟩⟩) (λy s3 h3=>?_) λy y z=>by rw[hxe]at z;exact z
  obtain⟨σ6,H6,I6,ρ6,x6,j6,ev6⟩:=h3;refine Tz (ht.h _ s3 σ6 H6 (λb' H7=>b'=b/\∃ρ7,Ext ρ6 H6 ρ7 H7/\J X.mg ρ7 M2 H7) I6 ⟨ρ6,δ1,M1,ev6,j6,_,e2,λρ7 H7 b' a1 a2 a3=>⟨a3,ρ7,a1,a2⟩⟩) (λok s4 h4=>?_) λy y z=>by rw[hxe]at z;exact z
  obtain⟨H7,I7,rfl,ρ7,x7,j7⟩:=h4;have nacc:acc∉ρ.st:=x.na;have na6:acc∉ρ6.st:=λz=>by have h5:=x5.keep acc _ ha nacc;have:=x6.new acc z nacc;rw[h5]at this;cases this
  have ha5:=x5.keep acc _ ha nacc;have ha6:=x6.keep acc _ ha5 nacc;have na7:acc∉ρ7.st:=λz=>by have:=x7.new acc z na6;rw[ha6]at this;cases this
  have ha7:=x7.keep acc _ ha6 na6;have xb:ExtB acc ρ0 H0 ρ7 H7:=((x.trans (x5.b nacc)).trans (x6.b na6)).trans (x7.b na7);have ct:Cst X (YB++pinsAt fp s2.heap) acc ρ0 H0 δ1 l M2 [] s4:=⟨σ6,H7,ρ7,ys,I7,xb,j7,ev6.mono x7,ha7,((cl.mono x5).mono x6).mono x7,λb hb=>nomatch hb⟩
  have fin:∀s5,Cst X (YB++pinsAt fp s2.heap) acc ρ0 H0 δ3 l3 M3 [] s5->∃m,m<n/\∃i δ l M,eU fg ft fb δf lf Mf itn m i δ l M/\Cst X YB acc ρ0 H0 δ l M fp s5/\tn i s5.heap:=λs5 c5=>by
   obtain⟨c6,pp⟩:=c5.unpin (fp:=fp) λb hb=>by obtain⟨o,eo,_⟩:=T.obj _ _ tn5 b hb;exact⟨o,mem_pinsAt hb eo⟩
   exact⟨m,hm,i+1,δ3,l3,M3,rem3,c6,T.keep _ _ _ tn5 λb hb o eo=>pp (b,o) (mem_pinsAt hb eo)⟩
  cases ok with
  |true=>exact iteT (hmono _ _ _ fin (hb _ ρ0 H0 δ1 l M2 s4 δ3 l3 M3 hacc ct e3))
  |false=>cases e3;exact iteF (fin s4 ct)
set_option tactic.hygienic true in
def Bp{X:Cx}(hxe:X.xe=λy y=>False){elt:Expr}{fe:aa->DM D}{acc:Addr}(he:DE X E0 elt fe):
  BodyOk X acc (λP s=>wpAny (model X.prog X.w) X.A (eval elt X.env) (λx s1=>wpAny (model X.prog X.w) X.A (call (.builtin "list.append") [.ref acc,x]) (λy s2=>P s2) (λy y=>False) s1) (λy y=>False) s) (bR fe):=by
 intro YB ρ0 H0 δ l M s δ' l' M' hacc ct e;obtain⟨d,M1,e1,e2⟩:=DM.bind_ok e;obtain⟨σ,H,ρ,ys,I,x,j,ev,ha,cl,_⟩:=ct.ex;split at e2;rotate_left
 ·cases e2
 rename_i hz;cases e2;refine Tz (he.h YB s σ H (λv H1=>∃ρ1,Ext ρ H ρ1 H1/\J X.mg ρ1 M' H1/\Cv X.mg ρ1 H1 v d) I ⟨ρ,δ,M,ev,j,_,e1,λρ1 H1 v a1 a2 a3=>⟨ρ1,a1,a2,a3⟩⟩) (λu s1 h1=>?_) λy y z=>by rw[hxe]at z;exact z
 obtain⟨v,H1,I1,rv,ρ1,x1,j1,c1⟩:=h1;have nacc:acc∉ρ.st:=x.na;have ha1:=x1.keep acc _ ha nacc;have na1:acc∉ρ1.st:=λz=>by have:=x1.new acc z nacc;rw[ha]at this;cases this
 have hv1:acc∈ρ1.vo:=by rw[x1.vo,x.vo];exact hacc
 refine Tz (mt_append (X:=X) YB s1 σ H1 (.ref acc) [v] (.ref acc) [u] (λy H'=>H'=upd H1 acc (.lst (ys++[v]))) I1 rfl (.cons rv .nil) ⟨_,ys,v,rfl,rfl,ha1,by rw[cl.len];exact hz,rfl⟩) (λy s2 h2=>?_) λy y z=>by rw[hxe]at z;exact z
 obtain⟨_,H2,I2,_,rfl⟩:=h2;exact⟨σ,_,ρ1,ys++[v],I2,(x.trans (x1.b na1)).trans (.grow na1),j1.grow hv1,(ev.mono x1).kp ((ExtB.grow na1).kp hv1),upd_same,((cl.mono x1).append (.cons c1 .nil)).hold hv1,λb hb=>nomatch hb⟩
def dq{α:Type}(m:DM α):DM α:=λM=>match m M with
 |some (.ok a,M')=>some (.ok a,M')
 |_=>none
set_option tactic.hygienic true in
def jq(h:dq m M=some r):∃a M',m M=some (.ok a,M')/\r=(.ok a,M'):=by
 unfold dq at h;split at h
 ·rename_i a M' e;cases h;exact⟨a,M',e,rfl⟩
 ·cases h
def b8(js:List Nat)(δ:aa):aa:=js.map λj=>(δ[j]?).getD none
def aO(k:Nat)(js:List Nat)(δ:aa):aa:=List.replicate k none++b8 js δ
def rE(ev:Ev mg ρ H σ δ)(k:Nat)(js:List Nat):Ev mg ρ H (List.replicate k none++pick js σ) (aO k js δ):=by
 unfold aO pick b8;refine⟨by simp,λi d q=>?_⟩
 by_cases hi:i<k
 ·rw[Tq (by rw[Uv];exact hi),VR]at q
  split at q<;>cases q
 ·rw [Uo (by rw [Uv];lia),Uv,Tp]at q ⊢
  cases hj:js[i-k]? with
  |none=>rw[hj]at q;cases q
  | some j=>
    rw[hj]at q;have q:(δ[j]?).getD none=some d:=Tu q;have q':δ[j]?=some (some d):=by
     cases z:δ[j]? with
     |none=>rw[z]at q;cases q
     |some o=>rw[z]at q;exact congrArg some q
    obtain⟨v,h1,h2⟩:=ev.val j d q';exact⟨v,by show some ((σ[j]?).getD none)=_;rw[h1];rfl,h2⟩
def oV(hp:H p=none):Kp ρ H (ρ.hold p) (upd H p o):=⟨⟨[],by show ρ.st=_;simp⟩,λa u h n z=>⟨Rh.nhold n (ne_of_none h hp),by rw[upd_ne (ne_of_none h hp)];exact h⟩⟩
inductive Out where
 |val | sto
def Out.run:Out->List D->DM D
 |.val,l=>pure (.lst l)
 |.sto,l=>λM=>some (.ok (.ref M.length),M++[.lst l])
def Out.fin(o:Out)(hf:H2 acc=none)(hn:acc∉ρ1)(x:ExtB acc (ρ1.hold acc) (upd H2 acc (.lst [])) ρ4 H4)(j:J mg ρ4 M H4)(ha:H4 acc=some (.lst ys))(c:Cvs mg ρ4 H4 ys l)
  (g:Go mg E (Cv mg) Q ρ1 H2 (o.run l) M):Q (.ref acc) H4:=by
 have hv:ρ4.vo=acc::ρ1.vo:=x.vo;have na:acc∉ρ1.vo:=λz=>hn (.inr z)
 have nw:∀a,a∈ρ4.st->a∉ρ1.st->H2 a=none:=λa h n=>by
  have:=x.new a h n;by_cases z:a=acc
  ·rw[z,upd_same]at this;cases this
  ·rw[upd_ne z]at this;exact this
 have kp:∀a o,H2 a=some o->a∉ρ1.st->H4 a=some o:=λa o h n=>x.keep a o (by rw[upd_ne (ne_of_none h hf)];exact h) n (ne_of_none h hf)
 cases o with
 | val=>
   have e:Ext ρ1 H2 ⟨ρ4.st,ρ1.vo⟩ H4:=⟨x.pre,rfl,nw,kp⟩;have jd:J mg ⟨ρ4.st,ρ1.vo⟩ M H4:=J.done (ρ:=ρ1) j hv;have cd:Cvs mg ⟨ρ4.st,ρ1.vo⟩ H4 ys l:=Cvs.less (ρ:=ρ4) (ρ1:=⟨ρ4.st,ρ1.vo⟩) rfl (λa h=>by rw[hv];exact .tail _ h) c
   exact Go.pure (a:=D.lst l) g ⟨ρ4.st,ρ1.vo⟩ H4 (.ref acc) e jd (.lst (λz=>by
    rcases z with z | z
    ·exact x.na z
    ·exact na z) ha cd)
 | sto=>
   obtain⟨r,er,p⟩:=g;cases er;have k4:Kp ρ4 H4 ⟨ρ4.st++[acc],ρ1.vo⟩ H4:=⟨⟨[acc],rfl⟩,λa o h n v=>⟨λz=>by
    rcases z with z | z
    ·rcases TV.mp z with z | z
     ·exact n (.inl z)
     ·exact n (.inr (by rw[hv,TJ.mp z];exact .head _))
    ·exact n (.inr (by rw[hv];exact .tail _ z)),h⟩⟩
   have e:Ext ρ1 H2 ⟨ρ4.st++[acc],ρ1.vo⟩ H4:=by
    refine⟨?_,rfl,λa h n=>?_,kp⟩
    ·obtain⟨τ,h1⟩:=x.pre;exact⟨τ++[acc],by show ρ4.st++[acc]=_;rw[h1,Vv];rfl⟩
    ·rcases TV.mp h with z | z
     ·exact nw a z n
     ·rw[TJ.mp z];exact hf
   have jd:J mg ⟨ρ4.st++[acc],ρ1.vo⟩ (M++[.lst l]) H4:=by
    refine⟨by show (ρ4.st++[acc]).length=_;rw[T4,T4,j.len];rfl,?_,λn a w h1 h2=>?_,λa h=>?_⟩
    ·show (ρ4.st++[acc]).Nodup;rw[VN];exact⟨j.nd,by simp,λx' hx y hy e=>by rw[TJ.mp hy]at e;exact x.na (e ▸ hx)⟩
    ·have h1:(ρ4.st++[acc])[n]?=some a:=h1;by_cases hl:n<ρ4.st.length
     ·rw[Tq hl]at h1;rw[Tq (by rw[<-j.len];exact hl)]at h2
      exact (j.obj n a w h1 h2).map rfl λvs ds c=>c.kp k4
     ·have hl':n<(ρ4.st++[acc]).length:=(S7.mp h1).1;rw[T4]at hl';have e:n=ρ4.st.length:=by have:[acc].length=1:=rfl;lia
      subst e;rw[Uo (Td _)]at h1;rw[j.len,Uo (Td _)]at h2;simp at h1 h2;subst h1 h2;exact⟨ys,ha,c.kp k4⟩
    ·have h:a∈ρ1.vo:=h;obtain⟨y1,y2⟩:=j.vol a (by rw[hv];exact .tail _ h)
     refine⟨λz=>?_,y2⟩
     rcases TV.mp z with z | z
     ·exact y1 z
     ·exact na (TJ.mp z ▸ h)
   refine p _ H4 (.ref acc) e jd (.ref ?_);show (ρ4.st++[acc])[_]?=_;rw[<-j.len];simp
set_option tactic.hygienic true in
def HX{cl:List (Str×Addr)}{own:List Str}{js:List Nat}{fr:List Str}{f0:List Expr}{gs:List Comprehension}{fi:aa->DM Itn}{fg:D->aa->DM aa}{ft:aa->DM Bool}{fb:aa->List D->DM (aa×List D)}
  {bodyK:Cx->Addr->Sem Fin->Sem Fin}{W:Cx->Addr->(Shared->Prop)->Shared->Prop} (o:Out) (hc:X.calm=true) (T:CompG X scope cl own js fr) (hi:DI X E t0 i0 fi)
  (hturn:∀(Y:Cx) it acc,compTurn (.ListComp elt (⟨t0,i0,f0,0⟩::gs) scope pos) 0 (.ref it) (.ref acc) Y.env=turnOf ⟨t0,i0,f0,0⟩ (bodyK Y acc) (.compLoop (.ListComp elt (⟨t0,i0,f0,0⟩::gs) scope pos) 0 (.ref it) (.ref acc) Y.env) (.ref it) Y.env)
  (hW:∀Y acc,iY Y.prog Y.w Y.A (bodyK Y acc) (W Y acc)) (hmono:∀Y acc P P' s,(∀s,P s->P' s)->W Y acc P s->W Y acc P' s)
  (hg:∀YB m fp C s₂ H₂,DG (X.aK YB scope (cellsFrom m scope.names cl) (own++fr) fp C s₂ H₂) E0 t0 fg) (ht:∀YB m fp C s₂ H₂,DTs (X.aK YB scope (cellsFrom m scope.names cl) (own++fr) fp C s₂ H₂) E0 f0 ft)
  (hb:∀YB m fp C s₂ H₂ acc,BodyOk (X.aK YB scope (cellsFrom m scope.names cl) (own++fr) fp C s₂ H₂) acc (W (X.aK YB scope (cellsFrom m scope.names cl) (own++fr) fp C s₂ H₂) acc) fb)
  (hs:∀y,foldedSetIterable i0 X.env y=pure y:=by intro _;rfl) :
  DE X E (.ListComp elt (⟨t0,i0,f0,0⟩::gs) scope pos) (λδ=>fi δ>>=λit=>dq (bL fg ft fb it (aO own.length js δ) [])>>=λp=>o.run p.2):=⟨by
 intro YB s σ H Q I h;obtain⟨ρ,δ,M,ev,j,g1⟩:=h;rw[eval_ListComp];refine Wo (cl:=cl) (use:=none) rfl hs T.clos T.kind T.names ?_;refine thn (hi.h YB s σ H (λJt H1=>∃ρ1 M1 it,Ext ρ H ρ1 H1/\J X.mg ρ1 M1 H1/\ItOk X.mg ρ1 H1 Jt it/\Go X.mg E (Cv X.mg) Q ρ1 H1 (dq (bL fg ft fb it (aO own.length js δ) [])>>=λp=>o.run p.2) M1) I
  ⟨ρ,δ,M,ev,j,g1.bind λρ1 H1 M1 Jt it e1 j1 iok g2=>⟨ρ1,M1,it,e1,j1,iok,g2⟩⟩) λv s1 h1=>thn h1 λitv s2 h2=>?_
 obtain⟨it,fp,tn,Jt,H2,rfl,I2,Tn,st2,f2,ρ1,M1,itn,x1,j1,iok,g2⟩:=h2;have hrun:∃δf lf Mf,bL fg ft fb itn (aO own.length js δ) [] M1=some (.ok (δf,lf),Mf)/\Go X.mg E (Cv X.mg) Q ρ1 H2 (o.run lf) Mf:=by
  obtain⟨r,e,p⟩:=g2;have e:DM.bind _ _ M1=some r:=e;unfold DM.bind at e;split at e
  ·cases e
  ·rename_i c M' em;obtain⟨a,M'',_,z⟩:=jq em;cases z
  ·rename_i a M' em;obtain⟨a',M'',e1,z⟩:=jq em;cases z;exact⟨a.1,a.2,M',e1,r,e,p⟩
 obtain⟨δf,lf,Mf,hrun,g3⟩:=hrun;unfold newList;refine Uj (lV ?_);have hlt:∀b∈fp,b<s2.heap.objs.size:=λb hb=>by obtain⟨o,e,_⟩:=Tn.obj _ _ st2 b hb;exact Te e
 dsimp only;generalize hP:s2.heap.push { cls:=.type "list",dict:=none,data:=.seq ([]:List Value).toArray }=hp1;have hCs:hp1.objs.size=s2.heap.objs.size+1:=by rw[<-hP,T5]
 have hCe:hp1.objs.size+1=(hp1.push { cls:=.type "dict",data:=.dict #[] }).objs.size:=by rw[T5]
 have hC:s2.heap.objs.size<=hp1.objs.size:=by lia
 have hne:hp1.objs.size≠s2.heap.objs.size:=by lia
 have old1:∀b o,s2.heap.get? b=some o->hp1.get? b=some o:=λb o e=>by rw[<-hP];exact S5 _ e
 have old:∀b o,s2.heap.get? b=some o->(pushCells (hp1.push { cls:=.type "dict",data:=.dict #[] }) scope.names).get? b=some o:=λb o e=>Vd _ _ _ _ (S5 _ (old1 b o e))
 have new:∃n,(pushCells (hp1.push { cls:=.type "dict",data:=.dict #[] }) scope.names).get? s2.heap.objs.size=some { cls:=.type "list",data:=.seq #[] n }:=⟨_,Vd _ _ _ _ (S5 _ (by rw[<-hP];exact Tg _ rfl))⟩
 have ns:(pushCells (hp1.push { cls:=.type "dict",data:=.dict #[] }) scope.names).Ns hp1.objs.size λx=>none:=(Heap.Ns.new hp1 (.type "dict")).keeps (Vd _ _)
 have hfree:H2 s2.heap.objs.size=none:=I2.hok.fresh (Td _);have IC:=vW (t':=s2.toks) T I2 f2 hlt old (Td _) hC hne hCe (Ue hC (WM _)) (U7 _) (XD hC) rfl new ns;have OK:=IC.ok;have fok:∀H',(∀b∈fp,H' b=none)->∀b∈fp,FpOk (X.aK YB scope (cellsFrom (hp1.objs.size+1) scope.names cl) (own++fr) fp hp1.objs.size s2 H2) [] H' b:=λH' hn b hb=>by
  obtain⟨_,g2,g3,g4,g5,g6⟩:=f2 b hb;refine⟨hn b hb,Tj (Tr (hlt b hb) hC),λhm=>?_,.inl hb,(OK.exf b hb).2,λp hp=>g6 p (by simpa using hp)⟩
  rcases Tt.mp (I2.stkSub _ hm) with z | z
  ·exact g2 z
  ·exact g3 z
 have fp1:∀b∈fp,upd H2 s2.heap.objs.size (.lst []) b=none:=λb hb=>by rw[upd_ne (Tj (hlt b hb))];exact (f2 b hb).1
 have jb:=j1.begin hfree;have nf:=j1.fresh hfree;have st:Cst (X.aK YB scope (cellsFrom (hp1.objs.size+1) scope.names cl) (own++fr) fp hp1.objs.size s2 H2) [] s2.heap.objs.size (ρ1.hold s2.heap.objs.size) (upd H2 s2.heap.objs.size (.lst [])) (aO own.length js δ) [] M1 fp
   { s2 with heap:=pushCells (hp1.push { cls:=.type "dict",data:=.dict #[] }) scope.names,toks:=s2.toks }:=
  ⟨_,_,_,[],IC,.refl (λz=>nf (.inl z)),jb,(rE (ev.mono x1) _ _).kp (oV hfree),upd_same,.nil,fp1⟩
 have tn0:tn 0 (pushCells (hp1.push { cls:=.type "dict",data:=.dict #[] }) scope.names):=Tn.keep _ _ _ st2 (λb x o e=>old b o e)
 have loop:codeAny (model X.prog X.w) X.A (.compLoop (.ListComp elt (⟨t0,i0,f0,0⟩::gs) scope pos) 0 (.ref it) (.ref s2.heap.objs.size) (compEnvC scope (cellsFrom (hp1.objs.size+1) scope.names cl) hp1.objs.size X.env))
   (compPost (model X.prog X.w) X.A X.xe none (EP X YB σ Q) (.ref s2.heap.objs.size) hp1.objs.size) { s2 with heap:=pushCells (hp1.push { cls:=.type "dict",data:=.dict #[] }) scope.names,toks:=s2.toks }:=by
  refine Gv (X:=X.aK YB scope (cellsFrom (hp1.objs.size+1) scope.names cl) (own++fr) fp hp1.objs.size s2 H2) hc rfl (hturn _ _ _) (hW _ _) (hmono _ _) (hg ..) (ht ..) (hb YB (hp1.objs.size+1) fp hp1.objs.size s2 H2 s2.heap.objs.size) Tn iok (.head _) (oV hfree) fok st tn0 hrun λs' c'=>?_
  obtain⟨σ4,H4,ρ4,ys,I4,x4,j4,ev4,ha4,cl4,fr4⟩:=c'.ex;obtain⟨m4,hn4,_⟩:=I4.loc;refine⟨m4,hn4,λh' hsb'=>?_⟩
  have un:=vp I4.base hsb' hC;have ok4:=rF I4.hok hsb' I4.free;exact⟨.ref s2.heap.objs.size,H4,I2.call' (s':={ s' with heap:=h' }) (ch:=fp) (I4.os) un ok4 I4.bare (λb hb=>by obtain⟨_,g2,g3,g4,g5,g6⟩:=f2 b hb;exact⟨g4,g2,g5,g6⟩),rfl,o.fin hfree nf x4 j4 ha4 cl4 g3⟩
 show codeAny _ _ (.compStart _ 0 (.ref it) (.ref s2.heap.objs.size) (compEnvC scope (cellsFrom (hp1.objs.size+1) scope.names cl) hp1.objs.size X.env)) _ _;exact wJ rfl rfl loop (Tn.self X.A 0 _ _ _ tn0 loop)⟩
def bO{cl:List (Str×Addr)}{own:List Str}{js:List Nat}{fr:List Str}{f0:List Expr}{fi:aa->DM Itn}{fg:D->aa->DM aa}{ft:aa->DM Bool}{fe:aa->DM D}
  (o:Out) (hc:X.calm=true) (T:CompG X scope cl own js fr) (hi:DI X E t0 i0 fi)
  (hg:∀YB m fp C s₂ H₂,DG (X.aK YB scope (cellsFrom m scope.names cl) (own++fr) fp C s₂ H₂) E0 t0 fg) (ht:∀YB m fp C s₂ H₂,DTs (X.aK YB scope (cellsFrom m scope.names cl) (own++fr) fp C s₂ H₂) E0 f0 ft)
  (he:∀YB m fp C s₂ H₂,DE (X.aK YB scope (cellsFrom m scope.names cl) (own++fr) fp C s₂ H₂) E0 elt fe)
  (hs:∀y,foldedSetIterable i0 X.env y=pure y:=by intro _;rfl) :
  DE X E (.ListComp elt [⟨t0,i0,f0,0⟩] scope pos) (λδ=>fi δ>>=λit=>dq (bL fg ft (bR fe) it (aO own.length js δ) [])>>=λp=>o.run p.2):=
 HX (bodyK:=λY acc=>uE elt (.ref acc) Y.env) (W:=λY acc P s=>wpAny (model Y.prog Y.w) Y.A (eval elt Y.env) (λx s1=>wpAny (model Y.prog Y.w) Y.A (call (.builtin "list.append") [.ref acc,x]) (λv s2=>P s2) (λv v=>False) s1) (λv v=>False) s) o hc T hi
  (λY it acc=>JW ..) (λY acc=>FW) (λY acc P P' s hp h=>Tz h (λx s1 h1=>Tz h1 (λv s2 h2=>hp _ h2) λv v z=>z) λv v z=>z) hg ht (λYB m fp C s₂ H₂ acc=>Bp rfl (he ..)) hs
def j0(fi:aa->DM Itn)(fg:D->aa->DM aa)(ft:aa->DM Bool)(fb:aa->List D->DM (aa×List D))(δ:aa)(l:List D):DM (aa×List D):=fi δ>>=λit=>bL fg ft fb it δ l
def boot_zip:bootBuiltins "zip"=some (.type "zip"):=by decide +kernel
def frz:D->Option (Bool×List D)
 |.tup l=>some (true,l)
 |.lst l=>some (false,l)
 |_=>none
def pairs:List D->List D->List D
 |x::xs,y::ys=>.tup [x,y]::pairs xs ys
 |_,_=>[]
def Ah:List D->Option Itn
 |[x,y]=>match frz x,frz y with
   |some (_,l),some (_,m)=>some (.fix (pairs l m))
   |_,_=>none
 |_=>none
theorem pairs_at:∀ (l m:List D) (i:Nat),(pairs l m)[i]?=match l[i]?,m[i]? with
  |some x,some y=>some (.tup [x,y])
  |_,_=>none
 |[],m,i=>by simp[pairs]
 |x::xs,[],i=>by
   cases i with
   |zero=>simp[pairs]
   |succ i=>simp only[pairs,List.getElem?_nil,List.getElem?_cons_succ];cases xs[i]?<;>rfl
 |x::xs,y::ys,0=>by simp[pairs]
 |x::xs,y::ys,i+1=>by simp only[pairs,List.getElem?_cons_succ];exact pairs_at xs ys i
section
variable{mg:Str->Option Value}{ρ:Rh}{H:Hp}
def yO{K:PySem.W.Frag}{x:V}{d:D}{b:Bool}{l:List D}(c:Cv mg ρ H x d)(e:frz d=some (b,l)):∃a xs,x=.ref a/\a∉ρ/\H a=some (if b then .tup xs else .lst xs)/\Cvs mg ρ H xs l:=by
 cases c with
 |tup n h c=>cases e;exact⟨_,_,rfl,n,h,c⟩
 |lst n h c=>cases e;exact⟨_,_,rfl,n,h,c⟩
 |_=>cases e
def pU{K:PySem.W.Frag}{b:Bool}{a:Addr}{xs:List V}(h:H a=some (if b then .tup xs else .lst xs)):m6 b K H a xs:=by
 cases b with
 |true=>exact SqT.of h
 |false=>exact SqL.of h
def ne_if{b:Bool}{xs ys:List V}:∀φ,(if b=true then HO.tup xs else HO.lst ys)≠HO.ext φ:=by cases b<;>nofun
set_option tactic.hygienic true in
def Oa{K:PySem.W.Frag}{b1 b2:Bool}{l1 l2:Addr}{xs ys:List V}{ds es:List D}(n1:l1∉ρ)(n2:l2∉ρ)(h1:H l1=some (if b1 then .tup xs else .lst xs))(h2:H l2=some (if b2 then .tup ys else .lst ys))(c1:Cvs mg ρ H xs ds)(c2:Cvs mg ρ H ys es):ItOk mg ρ H (QQ K b1 b2 l1 l2) (.fix (pairs ds es)) where
 item:=λi ρ' H' M' d e j q=>by
  have hq:(pairs ds es)[i]?=some d:=Tu q;rw[pairs_at]at hq;split at hq
  ·rename_i dx dy e1 e2;cases hq;obtain⟨x,hx,cx⟩:=c1.get e1;obtain⟨y,hy,cy⟩:=c2.get e2;have k1:=(e.keep _ _ h1 n1 ne_if).2;have k2:=(e.keep _ _ h2 n2 ne_if).2;refine⟨⟨xs,ys,x,y,pU k1,pU k2,hx,hy⟩,λv H2 z=>?_⟩
   obtain⟨p,hp,rfl,z⟩:=z;obtain⟨x',y',hx',hy',rfl⟩:=z xs ys (pU k1) (pU k2);rw[hx]at hx';cases hx';rw[hy]at hy';cases hy';exact⟨.lay hp,j.lay _ hp,.tup (j.fresh hp) upd_same (.cons ((cx.kp e).mono (.lay hp)) (.cons ((cy.kp e).mono (.lay hp)) .nil))⟩
  ·cases hq
 stop:=λi ρ' H' M' e j q=>by
  have hq:(pairs ds es)[i]?=none:=Tu q;rw[pairs_at]at hq;refine⟨xs,ys,pU (e.keep _ _ h1 n1 ne_if).2,pU (e.keep _ _ h2 n2 ne_if).2,?_⟩;cases e1:ds[i]? with
  |none=>exact .inl (Uc.mpr (by rw[c1.len];exact Uc.mp e1))
  |some dx=>cases e2:es[i]? with
    |none=>exact .inr (Uc.mpr (by rw[c2.len];exact Uc.mp e2))
    |some dy=>rw[e1,e2]at hq;cases hq
end
set_option tactic.hygienic true in
def MT{X:Cx}{E:XK}{elts:List Expr}{kt:Nat}{tp:Pos}{a b:Expr}{fa:aa->DM (List D)}{p pos:Pos}(hg:Gl X "zip")(hm:X.mg "zip"=none)(ha:DA X E [a,b] fa)(hs:notStar a=true:=by rfl)(hs2:notStar b=true:=by rfl):
  DI X E (.Tuple elts kt tp) (.Call (.Name "zip" p) [a,b] [] pos) (λδ=>fa δ>>=λl=>opt (Ah l)):=⟨by
 intro YB s σ H R I h;obtain⟨ρ,δ,M,ev,j,g1⟩:=h;refine Call_ (ld_blt I hg hm boot_zip (UT (thn (ha.h.h pos YB s σ H (λvs H1=>∃ρ1 M1 ds,Ext ρ H ρ1 H1/\J X.mg ρ1 M1 H1/\Cvs X.mg ρ1 H1 vs ds/\Go X.mg E (ItOk X.mg) R ρ1 H1 (opt (Ah ds)) M1) I ⟨ρ,δ,M,ev,j,g1.bind λρ1 H1 M1 vs ds e1 j1 c1 g2=>⟨ρ1,M1,ds,e1,j1,c1,g2⟩⟩) λus s1 h1=>?_) (bH hs) (by rw[bH hs2];rfl)))
 obtain⟨vs,H1,I1,rv,ρ1,M1,ds,e1,j1,c1,g2⟩:=h1;obtain⟨itn,ei,q⟩:=g2.opt;unfold Ah at ei;split at ei;rotate_left
 ·cases ei
 rename_i dx dy;split at ei;rotate_left
 ·cases ei
 rename_i b1 l b2 m f1 f2;cases ei;obtain⟨v1,v2,rfl,k1,k2⟩:=c1.two;obtain⟨a1,xs,rfl,n1,h1,cx⟩:=yO (K:=X.K) k1 f1;obtain⟨a2,ys,rfl,n2,h2,cy⟩:=yO (K:=X.K) k2 f2;obtain⟨u1,u2,rfl,r1,r2⟩:=vals2 rv;cases r1;cases r2;obtain⟨its1,w1,p1,_⟩:=I1.seqS (pU (K:=X.K) h1);obtain⟨its2,w2,p2,_⟩:=I1.seqS (pU (K:=X.K) h2);refine Fj p1 p2 λh' a1' a2' a3 a4 a5 a6 a7=>wpAny_pyIter_zip a1' ?_
 have lt1:@LT.lt Nat _ a1 s1.heap.objs.size:=p1.lt;have lt2:@LT.lt Nat _ a2 s1.heap.objs.size:=p2.lt;have D:ZipApart (s1.heap.objs.size+4) (s1.heap.objs.size+2) (s1.heap.objs.size+3) s1.heap.objs.size (s1.heap.objs.size+1) a1 a2:=by constructor<;>exact λ(h:@Eq Nat _ _)=>by have:=lt1;have:=lt2;lia
 have I2:Inv X YB σ H1 { s1 with heap:=h' }:=I1.kept (t':=s1.toks) a7
 refine⟨_,_,_,_,H1,rfl,I2,Js D,⟨a1',a2',⟨_,_,a3⟩,a4.1,a5.1⟩,λb hb=>?_,q ρ1 H1 _ .refl j1 (Oa n1 n2 h1 h2 cx cy)⟩
 refine I1.fpOk ?_ (I1.hok.fresh ?_)<;>(simp only[List.mem_cons,List.mem_nil_iff,or_false]at hb;rcases hb with rfl | rfl | rfl | rfl | rfl<;>lia)⟩
def PL(m:DM α)(f:α->DM β)(g:β->DM γ):(m>>=f)>>=g=m>>=λa=>f a>>=g:=by
 funext M;show DM.bind (DM.bind m f) g M=DM.bind m (λa=>DM.bind (f a) g) M
 unfold DM.bind;cases m M with
 |none=>rfl
 |some r=>obtain⟨r,M'⟩:=r;cases r<;>rfl
set_option tactic.hygienic true in
theorem jt:∀ {names:List (Str×NameKind)}{m:Nat}{y:Str}{c:Addr},(y,c)∈cellsFrom m names []->(y,NameKind.cell)∈names
 |[],_,_,_,h=>nomatch h
 | (n,k)::r,m,y,c,h=>by
   unfold cellsFrom at h;split at h
   ·rename_i hk;rw[b7]at h;rcases TV.mp h with z | z
    ·exact .tail _ (jt z)
    ·cases TJ.mp z;have hk':k=.cell:=by cases k<;>first | rfl | cases hk
     rw[hk'];exact .head _
   ·exact .tail _ (jt h)
def isC:NameKind->Bool
 |.cell=>true
 |_=>false
def NZ(h:isC k=true):k=.cell:=by cases k<;>first | rfl | cases h
set_option tactic.hygienic true in
def KQ(h:(names.all λp=>!isC p.2 || (match names.lookup p.1 with | some k=>isC k | none=>false))=true):∀(m:Nat) y c,(cellsFrom m names []).lookup y=some c->names.lookup y=some .cell:=λm y c e=>by
 have hm:=jt (UW e);have q:=U3.mp h _ hm;simp only[isC,Bool.not_true,Bool.false_or]at q;split at q
 ·rename_i k hk;rw[hk,NZ q]
 ·cases q
def KY{cl:List (Str×Addr)}{names:List (Str×NameKind)}(h:xV (λp=>(match names.lookup p.1 with | some k=>isC k | none=>false)=false) cl):∀y c,cl.lookup y=some c->names.lookup y≠some .cell:=λy c e z=>by have:=oH h (y,c) (L2.mem_of_lookup e);simp only[z,isC]at this;cases this
end L3
namespace L3
open PySem PySem.Spec L2
@[simp] theorem aq(a:α)(f:α->DM β):((Pure.pure a:DM α)>>=f)=f a:=id rfl
@[simp] theorem aF(m:DM α)(f:α->DM β)(g:β->DM γ):(m>>=f)>>=g=m>>=λa=>f a>>=g:=PL m f g
@[simp] theorem fG(a:α):(opt (some a):DM α)=Pure.pure a:=id rfl
@[simp] theorem DR(a:α):dq (Pure.pure a:DM α)=Pure.pure a:=id rfl
@[simp] theorem Rx(c:Str)(f:α->DM β):((raise c:DM α)>>=f)=raise c:=id rfl
def bz{α:Type}{f:Mo->Option α}{a:α}(h:∀M,f M=some a):(rd f:DM α)=Pure.pure a:=by funext M;show (f M).map _=_;rw[h M];rfl
@[simp] theorem Qv(f g:aa->DM Fl)(δ:aa):Eb f g δ=f δ>>=λr=>match r with
 |.nx δ'=>g δ'
 |r=>Pure.pure r:=id rfl
@[simp] theorem aW(i:Nat)(δ:aa):cU i δ=opt ((δ[i]?).join):=id rfl
@[simp] theorem cV(b:Bool):gF (.bl b)=Pure.pure b:=id rfl
@[simp] theorem O6(p n:Nat)(fb:aa->DM Fl)(ds:List D):aL p n fb ds=if ds.length=p then fb (bK n ds)>>=λr=>match r with
 |.nx _=>Pure.pure .non
 |.rt d=>Pure.pure d
 |_=>stuck else stuck:=id rfl
@[simp] theorem Ry(n:Nat)(ds:List D):bK n ds=ds.map some++List.replicate (n-ds.length) none:=id rfl
@[simp] theorem fD(i:Nat)(d:D)(δ:aa):gN i d δ=Pure.pure (δ.set i (some d)):=id rfl
@[simp] theorem SN(n:Nat)(fs:List D->aa->DM aa)(l:List D)(δ:aa):gT n fs (.tup l) δ=if l.length=n then fs l δ else stuck:=id rfl
@[simp] theorem Su(f:D->aa->DM aa)(fs:List D->aa->DM aa)(d:D)(l:List D)(δ:aa):cR f fs (d::l) δ=f d δ>>=λδ'=>fs l δ':=id rfl
@[simp] theorem Sv(δ:aa):jf [] δ=Pure.pure δ:=id rfl
@[simp] theorem Sy(i j:Nat)(fa:aa->DM (List D))(δ:aa):Dr i j fa δ=fa δ>>=λl=>match l with
 |[v,w]=>Pure.pure (.nx ((δ.set i (some v)).set j (some w)))
 |_=>stuck:=id rfl
@[simp] theorem Qk(i j:Int):(rd (cZ (.int i) (.int j)):DM D)=Pure.pure (.int (i+j)):=id rfl
@[simp] theorem Qx(i j:Int):(rd (Ae (.int i) (.int j)):DM D)=Pure.pure (.int (i-j)):=id rfl
@[simp] theorem Rp(i j:Int):(rd (Gy (.int i) (.int j)):DM D)=Pure.pure (.bl (decide (i<j))):=id rfl
@[simp] theorem Ro(i j:Int):(rd (yV (.int i) (.int j)):DM D)=Pure.pure (.bl (decide (i<=j))):=id rfl
@[simp] theorem Rk(i j:Int):(rd (lO (.int i) (.int j)):DM D)=Pure.pure (.bl (decide (j<i))):=id rfl
@[simp] theorem Rj(i j:Int):(rd (Gb (.int i) (.int j)):DM D)=Pure.pure (.bl (decide (j<=i))):=id rfl
@[simp] theorem Sx(i:Int):(rd (Rc (.int i)):DM D)=Pure.pure (.int (-i)):=id rfl
@[simp] theorem Sg(i:Int):(rd (Q6 [.int i]):DM D)=Pure.pure (.int (if i<0 then -i else i)):=id rfl
@[simp] theorem R1(i j:Int):(rd (Dn [.int i,.int j]):DM D)=Pure.pure (.int (if j > i then j else i)):=id rfl
@[simp] theorem R3(i j:Int):(rd (Qc [.int i,.int j]):DM D)=Pure.pure (.int (if j<i then j else i)):=id rfl
def Qq{i j:Int}(h:0<j):(rd (mF (.int i) (.int j)):DM D)=Pure.pure (.int (i%j)):=bz λM=>by simp[dg,h]
def Qs{i j:Int}(h:jh i j=true):(rd (vK (.int i) (.int j)):DM D)=Pure.pure (.int (i*j)):=bz λM=>by simp[dg,h]
def O8{i j:Int}(h:rm i j=true):(rd (uG (.int i) (.int j)):DM D)=Pure.pure (.int (i / j)):=bz λM=>by simp[dg,h]
def Qu{i j:Int}(h:JN i j=true):(rd (Jk (.int i) (.int j)):DM D)=Pure.pure (.int (i^j.toNat)):=bz λM=>by simp[dg,h]
set_option tactic.hygienic true in
def bits_le(h:i.natAbs<2^n):Builtin.Int.intBits i<=n:=by
 unfold Builtin.Int.intBits;split
 ·exact Vb _
 ·rename_i h0;have:i.natAbs≠0:=by intro z;apply h0;simp;lia
  exact (Nat.log2_lt this).mpr h
def Rv(h:i.natAbs<2^64):jh i j=true:=by
 unfold jh;have:¬ (Builtin.Int.intBits i > shortFactorBits):=by have:=bits_le h;unfold shortFactorBits;lia
 simp[this]
def KJ(h:j.natAbs<2^64):jh i j=true:=by
 unfold jh;have:¬ (Builtin.Int.intBits j > shortFactorBits):=by have:=bits_le h;unfold shortFactorBits;lia
 simp[this]
def Kd(h0:0<j)(h:j.natAbs<2^1000):rm i j=true:=by
 unfold rm;have a:Builtin.divisionGoesByPylong i j=false:=by
  unfold Builtin.divisionGoesByPylong;have hj:j.natAbs≠0:=by lia
  have hl:j.natAbs.log2<1000:=(Nat.log2_lt hj).mpr h;have h0':(j==0)=false:=by simp;lia
  simp only[h0'];have:¬ (j.natAbs.log2 / 30+1 > 300):=by lia
  simp[this]
 simp[a,h0]
def Hb{a b:Nat}(h0:0<b):(rd (mF (.int (a:Int)) (.int (b:Int))):DM D)=Pure.pure (.int ((a%b:Nat):Int)):=by rw[Qq (by lia),Int.natCast_emod]
def nD(n:Nat):D:=.int (n:Int)
def nT(l:List Nat):D:=.tup (l.map nD)
def gJ{α:Type}{l:List α}{i:Nat}{a:α}(h:l[i]?=some a):atI l (i:Int)=some a:=by
 have hi:=(S7.mp h).1;unfold atI ixN;rw[Tf (by lia),Tf (by lia)]
 simpa using h
def DQ{l:List D}{i:Nat}{a:D}(h:l[i]?=some a):(rd (bW (.tup l) (.int (i:Int))):DM D)=Pure.pure a:=bz λM=>gJ h
def Qo{l:List D}{i:Nat}{a:D}(h:l[i]?=some a):(rd (bW (.lst l) (.int (i:Int))):DM D)=Pure.pure a:=bz λM=>gJ h
def Qp{l:List Nat}{i:Nat}{a:Nat}(h:l[i]?=some a):(rd (bW (nT l) (.int (i:Int))):DM D)=Pure.pure (nD a):=DQ (by simp[h])
@[simp] theorem R0(l:List D):(rd (gM [.tup l]):DM D)=Pure.pure (.int (l.length:Int)):=id rfl
@[simp] theorem RX(l:List D):(rd (gM [.lst l]):DM D)=Pure.pure (.int (l.length:Int)):=id rfl
@[simp] theorem RZ(l:List Int):(rd (gM [.scr l]):DM D)=Pure.pure (.int (l.length:Int)):=id rfl
@[simp] theorem R7(l:List D):(rd (qO [.lst l]):DM D)=Pure.pure (.tup l):=id rfl
@[simp] theorem R8(l:List D):(rd (qO [.tup l]):DM D)=Pure.pure (.tup l):=id rfl
theorem uM:∀l:List Int,intsOf (l.map D.int)=some l
 |[]=>rfl
 |i::l=>by simp[intsOf,uM l]
theorem dW:∀l:List Nat,intsOf (l.map nD)=some (l.map λn:Nat=>(n:Int))
 |[]=>rfl
 |i::l=>by simp[intsOf,nD];exact dW l
theorem uq:∀l:List Nat,(l.map λn:Nat=>(n:Int)).sum=((l.sum:Nat):Int)
 |[]=>rfl
 |i::l=>by simp[uq l]
@[simp] theorem R6(l:List Nat):(rd (Ei [nT l]):DM D)=Pure.pure (nD l.sum):=bz λM=>by show (intsOf (l.map nD)).map _=_;rw[dW];simp[nD,uq]
@[simp] theorem R5(l:List Nat):(rd (Ei [.lst (l.map nD)]):DM D)=Pure.pure (nD l.sum):=bz λM=>by show (intsOf (l.map nD)).map _=_;rw[dW];simp[nD,uq]
@[simp] theorem zN{n:Nat}(h:n<2^62):mL [.int (n:Int)]=some (.fix ((List.range n).map nD)):=by
 have:o6 (n:Int)=true:=by unfold o6;exact Tw ⟨by lia,by lia⟩
 simp[mL,this,o5,nD]
@[simp] theorem Sh(l:List D):jV (.tup l)=some (.fix l):=id rfl
def gZ(h:l.length<=1000000):wC l=Pure.pure (.tup l):=by
 have:dR l=true:=by unfold dR;exact Tw (by show l.length<=2^24;lia)
 simp[wC,this]
def eX(h:l.length<=1000000):fX l=Pure.pure (.lst l):=by
 have:dR l=true:=by unfold dR;exact Tw (by show l.length<=2^24;lia)
 simp[fX,this]
@[simp] theorem n8(fg:D->aa->DM aa)(ft:aa->DM Bool)(fb:aa->List D->DM (aa×List D))(ds:List D)(δ:aa)(l:List D):bL fg ft fb (.fix ds) δ l=bj fg ft fb ds δ l:=id rfl
theorem oX(S:aa->Prop)(en:D->aa)(p:D->Bool)(e:D->D):∀ (ds:List D) (δ:aa) (l:List D),S δ->l.length + ds.length<=1000000->
  (∀d∈ds,∀δ,S δ->fg d δ=Pure.pure (en d)/\S (en d))->(∀d∈ds,ft (en d)=Pure.pure (p d))->(∀d∈ds,p d=true->fe (en d)=Pure.pure (e d))->∃δ',bj fg ft (bR fe) ds δ l=Pure.pure (δ',l++(ds.filter p).map e)
 |[],δ,l,_,_,_,_,_=>⟨δ,by simp[bj]⟩
 | d::ds,δ,l,s,hl,h0,h1,h2=>by
   have a:=h0 d (TY ..) δ s;have b:=h1 d (TY ..);have hl':l.length+(ds.length+1)<=1000000:=by simpa using hl
   have lt:l.length<sizeLine:=by show l.length<2^24;lia
   have ih:=λl' hl'=>oX S en p e ds (en d) l' a.2 hl' (λx hx=>h0 x (Ua _ hx)) (λx hx=>h1 x (Ua _ hx)) (λx hx=>h2 x (Ua _ hx))
   by_cases hp:p d=true
   ·have c:=h2 d (TY ..) hp;obtain⟨δ',q⟩:=ih (l++[e d]) (by simp;lia)
    refine⟨δ',?_⟩;simp[bj,a.1,b,hp,bR,c,lt,q]
   ·obtain⟨δ',q⟩:=ih l (by lia)
    refine⟨δ',?_⟩;simp[bj,a.1,b,hp,q]
@[simp] theorem zM(l:List D):Out.run .val l=Pure.pure (.lst l):=id rfl
def PN{ft:aa->DM Bool}{fe:aa->DM D}{x:Option D}{rest:aa}{ds:List D}(p:D->Bool)(e:D->D)(hl:ds.length<=1000000)(h1:∀d∈ds,ft (some d::rest)=Pure.pure (p d))(h2:∀d∈ds,p d=true->fe (some d::rest)=Pure.pure (e d)){β:Type}{k:aa×List D->DM β}{k':List D->DM β}(hk:∀q,k q=k' q.2):
  (dq (bj (gN 0) ft (bR fe) ds (x::rest) [])>>=k)=k' ((ds.filter p).map e):=by
 obtain⟨δ',q⟩:=oX (fg:=gN 0) (ft:=ft) (fe:=fe) (λδ=>∃x,δ=x::rest) (λd=>some d::rest) p e ds (x::rest) [] ⟨x,rfl⟩ (by simpa using hl) (λd _ δ ⟨x,h⟩=>⟨by subst h;rfl,_,rfl⟩) h1 h2
 rw[q];simp[hk]
@[simp] theorem Rw(m:DM α):(m>>=λa=>(Pure.pure a:DM α))=m:=by
 funext M;show DM.bind m _ M=m M;unfold DM.bind;cases m M with
 |none=>rfl
 |some r=>obtain⟨r,M'⟩:=r;cases r<;>rfl
def oW:Option D->List D->Option D
 |x,[]=>x
 |_,d::ds=>oW (some d) ds
theorem fj:∀ (as bs:List Int),PyData.eqvAll (as.map .int) (bs.map .int)=decide (as=bs)
 |[],[]=>by simp[PyData.eqvAll]
 |[],b::bs=>by simp[PyData.eqvAll]
 |a::as,[]=>by simp[PyData.eqvAll]
 |a::as,b::bs=>by rw[Ud,Ud];simp only[PyData.eqvAll,PyData.eqv,fj as bs];by_cases h:a=b<;>by_cases h2:as=bs<;>simp[h,h2]
theorem fQ:∀l:List Int,gb (l.map D.int)=some (l.map PyData.int)
 |[]=>rfl
 |i::l=>by simp[gb,toPy,fQ l]
theorem lay_ints:∀l:List Int,PyData.canLayAll0 (l.map PyData.int)=true
 |[]=>rfl
 |i::l=>by simp[PyData.canLayAll0,PyData.canLay0,lay_ints l]
theorem dZ:∀ l:List Int,PyData.depthAll (l.map PyData.int)<=1
 |[]=>by simp[PyData.depthAll]
 |i::l=>by
   have:=dZ l;simp only[List.map_cons,PyData.depthAll,PyData.depth]
   lia
@[simp] theorem Ql(i j:Int):(rd (cX (.int i) (.int j)):DM D)=Pure.pure (.bl (decide (i=j))):=bz λM=>by simp[cX,eqB,eqP,toPy,PyData.canLay0,PyData.depth,PyData.eqv];rw[T6];simp
@[simp] theorem Qt(i j:Int):(rd (eF (.int i) (.int j)):DM D)=Pure.pure (.bl (!decide (i=j))):=bz λM=>by simp[eF,eqB,eqP,toPy,PyData.canLay0,PyData.depth,PyData.eqv];rw[T6];simp
@[simp] theorem Ss(i j:Str):(rd (cX (.str i) (.str j)):DM D)=Pure.pure (.bl (decide (i=j))):=id rfl
@[simp] theorem JS(i j:Str):(rd (eF (.str i) (.str j)):DM D)=Pure.pure (.bl (!decide (i=j))):=id rfl
def yH(a b:List Int):eqB (.tup (a.map D.int)) (.tup (b.map D.int))=some (decide (a=b)):=by
 have:=dZ a;have h:∀n,n<=1->1+n<=60:=λn h=>by lia
 simp only[eqB,eqP,toPy,fQ,Option.map_some,PyData.canLay0,lay_ints,PyData.depth,PyData.eqv,fj];simp
 lia
def nP(l:List Nat):nT l=.tup ((l.map λn:Nat=>(n:Int)).map D.int):=by simp[nT,nD,Function.comp_def]
def iG{a b:List Nat}:(a.map λn:Nat=>(n:Int))=(b.map λn:Nat=>(n:Int)) ↔ a=b:=Xl λx y (h:(x:Int)=(y:Int))=>by lia
@[simp] theorem Sq(a b:List Nat):(rd (cX (nT a) (nT b)):DM D)=Pure.pure (.bl (decide (a=b))):=bz λM=>by rw[nP,nP,cX,yH];simp[iG]
@[simp] theorem Sw(a b:List Nat):(rd (eF (nT a) (nT b)):DM D)=Pure.pure (.bl (!decide (a=b))):=bz λM=>by rw[nP,nP,eF,yH];simp[iG]
theorem Cz:∀l:List Bool,iw (l.map D.bl)=some l
 |[]=>rfl
 |b::l=>by simp[iw,Jq,Cz l]
@[simp] theorem uV(l:List Bool):(rd (pZ [.lst (l.map D.bl)]):DM D)=Pure.pure (.bl (l.all id)):=bz λM=>by simp[pZ,bw,Cz]
theorem Hu:∀ l:List Nat,iw (l.map nD)=some (l.map λn=>n != 0)
 |[]=>rfl
 |b::l=>by simp only[List.map_cons,iw,Hu l,nD,Jq];congr 2;rw[T6];simp
@[simp] theorem RW(l:List Nat):(rd (Mw [nT l]):DM D)=Pure.pure (.bl (l.any (·!= 0))):=bz λM=>by simp[Mw,nT,Hu,List.any_map]
def jM(h:∀M,tyOf d M=some t)(hc:tys.contains c=true):(rd (gh [d,.ty c]):DM D)=Pure.pure (.bl (Eh t c)):=bz λM=>by simp only[gh,h M,Option.bind_some,hc,if_true]
@[simp] theorem Ph(b:Bool):(rd (iW (.bl b)):DM Bool)=Pure.pure b:=id rfl
@[simp] theorem R9(l m:List D):Ah [.tup l,.tup m]=some (.fix (pairs l m)):=id rfl
def Rn{α:Type}(m:DM α)(M:Mo)(Q:α->Mo->Prop):Prop:=∃a M',m M=some (.ok a,M')/\Q a M'
theorem Rn.bind(h:Rn m M Q1)(k:∀a M',Q1 a M'->Rn (f a) M' Q):Rn (m>>=f) M Q:=by obtain⟨a,M',e,q⟩:=h;obtain⟨b,M2,e2,q2⟩:=k a M' q;refine⟨b,M2,?_,q2⟩;show DM.bind m f M=_;unfold DM.bind;rw[e];exact e2
theorem Rn.pure(q:Q a M):Rn (Pure.pure a) M Q:=⟨a,M,rfl,q⟩
def Rn.mono{α:Type}{m:DM α}{Q R:α->Mo->Prop}(h:Rn m M Q)(k:∀a M',Q a M'->R a M'):Rn m M R:=by obtain⟨a,M',e,q⟩:=h;exact⟨a,M',e,k a M' q⟩
theorem Rn.rd(h:f M=some a)(q:Q a M):Rn (L3.rd f) M Q:=⟨a,M,by unfold L3.rd;rw[h];rfl,q⟩
def Rn.bindRd(a:α)(h:f M=some a)(q:Rn (k a) M Q):Rn (L3.rd f>>=k) M Q:=Rn.bind (Rn.rd h (Q:=λb M'=>b=a/\M'=M) ⟨rfl,rfl⟩) (λb M' ⟨e1,e2⟩=>by rw[e1,e2];exact q)
def Rn.call(hp:ds.length=p)(h:Rn (fb (bK n ds)) M λr M'=>∃d,r=.rt d/\Q d M'):Rn (aL p n fb ds) M Q:=by
 unfold aL;rw[Tf hp];refine Rn.bind h λr M' ⟨d,e,q⟩=>?_
 subst e;exact Rn.pure q
structure Sb(p:Nat)(M M':Mo):Prop where
 le:M.length<=M'.length
 keep:∀q,q≠p->q<M.length->M'[q]?=M[q]?
def Sb.refl:Sb p M M:=⟨Td _,λz z z=>rfl⟩
theorem Sb.trans(h:Sb p M M1)(k:Sb p M1 M2):Sb p M M2:=⟨Ue h.le k.le,λq hq hl=>(k.keep q hq (Tr hl h.le)).trans (h.keep q hq hl)⟩
theorem Sb.set:Sb p M (M.set p o):=⟨by simp,λq hq hl=>U5 (λz=>hq z.symm)⟩
def Sb.push:Sb p M (M++[o]):=⟨by simp,λq hq hl=>Tq hl⟩
def Sb.at(h:Sb p M M')(hq:q≠p)(e:M[q]?=some o):M'[q]?=some o:=(h.keep q hq (S7.mp e).1).trans e
def Sb.new(h:M'.length=M.length\/M.length<=M'.length)(hq:M.length<=q)(k:Sb q M' M2)(h1:Sb p M M'):Sb p M M2:=⟨Ue h1.le k.le,λr hr hl=>(k.keep r (by lia) (Tr hl h1.le)).trans (h1.keep r hr hl)⟩
def KD(h:l.length<=1000000):gP l M=some (.ok (.ref M.length),M++[.lst l]):=by
 have:dR l=true:=by unfold dR;exact Tw (by show l.length<=2^24;lia)
 unfold gP;rw[Tf this]
theorem Rn.gP(h:l.length<=1000000)(q:Rn (k (.ref M.length)) (M++[.lst l]) Q):Rn (L3.gP l>>=k) M Q:=Rn.bind ⟨_,_,KD h,(⟨rfl,rfl⟩:D.ref M.length=.ref M.length/\M++[.lst l]=M++[.lst l])⟩ (Q1:=λa M'=>a=.ref M.length/\M'=M++[.lst l]) (λa M' ⟨e1,e2⟩=>by rw[e1,e2];exact q)
def uN{n:Nat}{l:List D}{i:Nat}(h:M[n]?=some (.lst l))(hi:l[i]?=some a):bW (.ref n) (.int (i:Int)) M=some a:=by show (bw (.ref n) M).bind _=_;simp only[bw,h,Option.bind_some];exact gJ hi
def Gn(h:i<n):ixN n (i:Int)=some i:=by unfold ixN;rw[Tf (by lia),Tf (by lia)];simp
def vQ{n:Nat}{l:List D}{i:Nat}(h:M[n]?=some (.lst l))(hi:i<l.length):Ec (.ref n) (.int (i:Int)) v M=some (.ok (),M.set n (.lst (l.set i v))):=by delta Ec;dsimp only;rw[h];dsimp only;rw[Gn hi]
def vz(h:M[n]?=some (.lst l))(hl:l.length<1000000):HJ (.ref n) [v] M=some (.ok .non,M.set n (.lst (l++[v]))):=by
 have:l.length<sizeLine:=by show l.length<2^24;lia
 delta HJ;dsimp only;rw[h];dsimp only;rw[Tf this]
def Rn.run(h:m M=some (.ok a,M'))(q:Rn (k a) M' Q):Rn (m>>=k) M Q:=Rn.bind (Q1:=λb M2=>b=a/\M2=M') ⟨a,M',h,rfl,rfl⟩ (λb M2 ⟨e1,e2⟩=>by rw[e1,e2];exact q)
theorem cu(I:Nat->aa->Mo->Prop):∀ (ds:List D) (i:Nat) (δ:aa) (M:Mo),I i δ M->(∀ j d δ M,ds[j]?=some d->I (i + j) δ M->Rn (tg d δ >>= fb) M λr M'=>∃ δ',r=.nx δ'/\I (i + j + 1) δ' M')->Rn (forL tg fb ds δ) M λr M'=>∃ δ',r=.nx δ'/\I (i + ds.length) δ' M'
 |[],i,δ,M,h,_=>Rn.pure ⟨δ,rfl,h⟩
 | d::ds,i,δ,M,h,st=>by
   have s:=st 0 d δ M rfl h;have e:forL tg fb (d::ds) δ=(tg d δ>>=fb)>>=λr=>match r with
    |.nx δ2=>forL tg fb ds δ2
    |.ct δ2=>forL tg fb ds δ2
    |.bk δ2=>Pure.pure (.nx δ2)
    |.rt d=>Pure.pure (.rt d):=by rw[aF];rfl
   rw[e];refine Rn.bind s λr M' ⟨δ',e,h'⟩=>?_
   subst e;have ih:=cu I ds (i+1) δ' M' h' (λj d δ M hj hI=>by
    have:=st (j+1) d δ M (by simpa using hj) (by rw[show i+(j+1)=i+1+j by lia];exact hI)
    rw[show i+1+j+1=i+(j+1)+1 by lia];exact this)
   rw[show i+(d::ds).length=i+1+ds.length by simp;lia]
   exact ih
section
variable{X:Cx}{E:XK}
def Gd:PGet X (λx y H Q=>∃p xs i v,x=.ref p/\y=.int i/\0<=i/\SqL X.K H p xs/\atI xs i=some v/\Q v H):=by
 intro YB s σ H x y ov iv Q I rx ry h;obtain⟨p,xs,i,z,rfl,rfl,h0,hq,he,q⟩:=h;cases rx;obtain⟨t,rfl⟩:=ry;obtain⟨its,r,pl,hz⟩:=I.list hq;obtain⟨j,h1,h2,h3,h4,h5⟩:=atI_get he;obtain⟨w,ew,rw'⟩:=r.get h2;have hl:=r.length;have hn:=line63;have fin:EP X YB σ Q w s:=⟨z,H,I,rw',q⟩;have hj:i.toNat=j:=by rw[seqIndex_of h0 h5]at h1;exact Tu h1
 exact wpAny_getItem_list pl.isList h0 (by lia) (by rw[hj];simpa using ew) fin
def Ob:D->D->Mo->Option D
 |x,.int i,M=>if 0<=i then (bw x M).bind λl=>atI l i else none
 |_,_,_=>none
set_option tactic.hygienic true in
def Qa:PGet X (rD X.mg E (λx y=>rd (Ob x y))):=by
 intro YB s σ H x y ov iv Q I rx ry h;obtain⟨ρ,M,dx,dy,j,cx,cy,go⟩:=h;obtain⟨d,e,p⟩:=go.rd;unfold Ob at e;split at e
 ·cases cy;split at e
  ·rename_i h0;obtain⟨l,h1,e1⟩:=TQ.mp e;obtain⟨a,xs,rfl,ha,c⟩:=eE j cx h1;obtain⟨w,e2,cw⟩:=c.at e1;exact Gd (X:=X) YB s σ H _ _ ov iv Q I rx ry ⟨_,_,_,_,rfl,rfl,h0,SqL.of ha,e2,p ρ H _ .refl j cw⟩
  ·cases e
 ·cases e
def Ke(ho:DE X E o fo)(hi:DE X E i fi)(hop:bU X E (inplaceOp op) gop)(he:DE X E e fe)
  (ha:∀ov iv new,augStore i ov iv new=(do holding [new,ov,iv] (setItem ov iv new);release [new,ov,iv] [];pure .next):=by intros;rfl) :
  DS X E (.AugAssign (.Subscript o i tpos) op e pos) (λδ=>fo δ>>=λa=>fi δ>>=λk=>rd (Ob a k)>>=λx=>fe δ>>=λy=>gop x y>>=λz=>Ec a k z>>=λw=>pure (.nx δ)):=
 ⟨PS.mono (ps_augS (tip:=rD X.mg E gop) ho.h hi.h (Qa (E:=E)) he.h hop (Ed (E:=E)) ha) fun D σ H h=>by
  obtain⟨ρ,δ,M,ev,j,g1⟩:=h;refine⟨ρ,δ,M,ev,j,g1.bind λρ1 H1 M1 a da e1 j1 c1 g2=>⟨ρ1,δ,M1,ev.mono e1,j1,g2.bind λρ2 H2 M2 k dk e2 j2 c2 g3=>⟨ρ2,M2,da,dk,j2,c1.mono e2,c2,g3.bind λρ3 H3 M3 x dx e3 j3 c3 g4=>?_⟩⟩⟩
  have ev3:=((ev.mono e1).mono e2).mono e3;refine⟨ρ3,δ,M3,ev3,j3,g4.bind λρ4 H4 M4 y dy e4 j4 c4 g5=>⟨ρ4,M4,dx,dy,j4,c3.mono e4,c4,g5.bind λρ5 H5 M5 z dz e5 j5 c5 g6=>?_⟩⟩
  refine⟨ρ5,M5,da,dk,dz,j5,(((c1.mono e2).mono e3).mono e4).mono e5,((c2.mono e3).mono e4).mono e5,c5,g6.bind λρ6 H6 M6 _ _ e6 j6 _ g7=>?_⟩
  exact g7.pure ρ6 H6 σ .refl j6 (((ev3.mono e4).mono e5).mono e6)⟩
end
end L3
namespace L3
open PySem PySem.Spec L2
open PyProof.Rows hiding St
def EY:bootBuiltins "enumerate"=some (.type "enumerate"):=by decide +kernel
def gk(i:Nat):List D->List D
 |[]=>[]
 |x::xs=>.tup [.int (i:Int),x]::gk (i+1) xs
def oO:List D->Option Itn
 |[x]=>(frz x).map λp=>.fix (gk 0 p.2)
 |_=>none
theorem vL:∀ (l:List D) (k i:Nat),(gk k l)[i]?=(l[i]?).map λx=>.tup [.int ((k + i:Nat):Int),x]
 |[],k,i=>by simp[gk]
 |x::xs,k,0=>by simp[gk]
 |x::xs,k,i+1=>by simp only[gk,List.getElem?_cons_succ,vL xs (k+1) i];rw[show k+1+i=k+(i+1) by lia]
def Kq{mg:Str->Option Value}{ρ:Rh}{H:Hp}{K:PySem.W.Frag}{b:Bool}{l:Addr}{xs:List V}{ds:List D}(n1:l∉ρ)(h1:H l=some (if b then .tup xs else .lst xs))(c1:Cvs mg ρ H xs ds):ItOk mg ρ H (QM K b l) (.fix (gk 0 ds)) where
 item:=λi ρ' H' M' d e j q=>by
  have hq:(gk 0 ds)[i]?=some d:=Tu q;rw[vL]at hq;obtain⟨dx,e1,rfl⟩:=S8.mp hq;obtain⟨x,hx,cx⟩:=c1.get e1;have k1:=(e.keep _ _ h1 n1 ne_if).2;refine⟨⟨xs,x,pU k1,hx⟩,λv H2 z=>?_⟩
  obtain⟨p,hp,rfl,z⟩:=z;obtain⟨x',hx',rfl⟩:=z xs (pU k1);rw[hx]at hx';cases hx';rw[Ub];exact⟨.lay hp,j.lay _ hp,.tup (j.fresh hp) upd_same (.cons (.int _) (.cons ((cx.kp e).mono (.lay hp)) .nil))⟩
 stop:=λi ρ' H' M' e j q=>by have hq:(gk 0 ds)[i]?=none:=Tu q;rw[vL,Option.map_eq_none_iff]at hq;exact⟨xs,pU (e.keep _ _ h1 n1 ne_if).2,Uc.mpr (by rw[c1.len];exact Uc.mp hq)⟩
def q9(hg:Gl X "enumerate")(hm:X.mg "enumerate"=none)(ha:DA X E [a] fa)(hs:notStar a=true:=by rfl):
  DI X E (.Tuple elts kt tp) (.Call (.Name "enumerate" p) [a] [] pos) (λδ=>fa δ>>=λl=>opt (oO l)):=⟨by
 intro YB s σ H R I h;obtain⟨ρ,δ,M,ev,j,g1⟩:=h;refine Call_ (ld_blt I hg hm EY (UT (thn (ha.h.h pos YB s σ H (λvs H1=>∃ρ1 M1 ds,Ext ρ H ρ1 H1/\J X.mg ρ1 M1 H1/\Cvs X.mg ρ1 H1 vs ds/\Go X.mg E (ItOk X.mg) R ρ1 H1 (opt (oO ds)) M1) I ⟨ρ,δ,M,ev,j,g1.bind λρ1 H1 M1 vs ds e1 j1 c1 g2=>⟨ρ1,M1,ds,e1,j1,c1,g2⟩⟩) λus s1 h1=>?_) (bH hs) (by rfl)))
 obtain⟨vs,H1,I1,rv,ρ1,M1,ds,e1,j1,c1,g2⟩:=h1;obtain⟨itn,ei,q⟩:=g2.opt;unfold oO at ei;split at ei;rotate_left
 ·cases ei
 obtain⟨⟨b,l⟩,f1,rfl⟩:=S8.mp ei;cases c1 with
 |cons k1 c1=>
 cases c1;obtain⟨a1,xs,rfl,n1,h1,cx⟩:=yO (K:=X.K) k1 f1;cases rv with
 |cons r1 rv=>
 cases rv;cases r1;obtain⟨its1,w1,p1,_⟩:=I1.seqS (pU (K:=X.K) h1);refine CW p1 λh' a1' a2' a3 a4=>wpAny_pyIter_enum a1' ?_
 have lt1:@LT.lt Nat _ a1 s1.heap.objs.size:=p1.lt;have I2:Inv X YB σ H1 { s1 with heap:=h' }:=I1.kept (t':=s1.toks) a4
 refine⟨_,_,_,_,H1,rfl,I2,Hw (b:=b) (e:=s1.heap.objs.size+1) (it:=s1.heap.objs.size) (l:=a1) (λ(h:@Eq Nat _ _)=>by lia) (λ(h:@Eq Nat _ _)=>by lia) (λ(h:@Eq Nat _ _)=>by lia),⟨⟨_,a1'⟩,a2'.1⟩,λb hb=>?_,q ρ1 H1 _ .refl j1 (Kq n1 h1 cx)⟩
 refine I1.fpOk ?_ (I1.hok.fresh ?_)<;>(simp only[List.mem_cons,List.mem_nil_iff,or_false]at hb;rcases hb with rfl | rfl<;>lia)⟩
set_option tactic.hygienic true in
def HY{i:Nat}{cl:List (Str×Addr)}{own:List Str}{js:List Nat}{fr:List Str}{f0:List Expr}{gs:List Comprehension}{fi:aa->DM Itn}{fg:D->aa->DM aa}{ft:aa->DM Bool}{fb:aa->List D->DM (aa×List D)}
  {bodyK:Cx->Addr->Sem Fin->Sem Fin}{W:Cx->Addr->(Shared->Prop)->Shared->Prop} (o:Out) (hN:X.N.Nodup) (hi0:X.N[i]?=some x) (hx:Loc X.env.scope x) (hc:X.calm=true) (T:CompG X scope cl own js fr) (hi:DI X E t0 i0 fi)
  (hturn:∀(Y:Cx) it acc,compTurn (.ListComp elt (⟨t0,i0,f0,0⟩::gs) scope pos) 0 (.ref it) (.ref acc) Y.env=turnOf ⟨t0,i0,f0,0⟩ (bodyK Y acc) (.compLoop (.ListComp elt (⟨t0,i0,f0,0⟩::gs) scope pos) 0 (.ref it) (.ref acc) Y.env) (.ref it) Y.env)
  (hW:∀Y acc,iY Y.prog Y.w Y.A (bodyK Y acc) (W Y acc)) (hmono:∀Y acc P P' s,(∀s,P s->P' s)->W Y acc P s->W Y acc P' s)
  (hg:∀YB m fp C s₂ H₂,DG (X.aK YB scope (cellsFrom m scope.names cl) (own++fr) fp C s₂ H₂) E0 t0 fg) (ht:∀YB m fp C s₂ H₂,DTs (X.aK YB scope (cellsFrom m scope.names cl) (own++fr) fp C s₂ H₂) E0 f0 ft)
  (hb:∀YB m fp C s₂ H₂ acc,BodyOk (X.aK YB scope (cellsFrom m scope.names cl) (own++fr) fp C s₂ H₂) acc (W (X.aK YB scope (cellsFrom m scope.names cl) (own++fr) fp C s₂ H₂) acc) fb)
  (hsw:swapsWith (.ListComp elt (⟨t0,i0,f0,0⟩::gs) scope pos) (some (.Name x px)) spos.line X.env=pure true:=by rfl)
  (hs:∀y,foldedSetIterable i0 X.env y=pure y:=by intro _;rfl) (hf:X.fn x=true\/X.env.scope.names.lookup x=some .local:=by first | exact .inl rfl | exact .inr rfl | assumption) :
  DS X E (.Assign [.Name x px] (.ListComp elt (⟨t0,i0,f0,0⟩::gs) scope pos) spos) (λδ=>(fi δ>>=λit=>dq (bL fg ft fb it (aO own.length js δ) [])>>=λp=>o.run p.2)>>=λd=>pure (.nx (δ.set i (some d)))):=⟨by
 intro YB s σ H D I h;obtain⟨ρ,δ,M,ev,j,g0⟩:=h;let Q:VK:=λv H'=>D.nx (σ.set i (some v)) H'
 have g1:Go X.mg E (Cv X.mg) Q ρ H (fi δ>>=λit=>dq (bL fg ft fb it (aO own.length js δ) [])>>=λp=>o.run p.2) M:=g0.bind λρ1 H1 M1 v d e1 j1 c1 g2=>g2.pure ρ1 H1 _ .refl j1 ((ev.mono e1).set c1)
 rw[exec_Assign_Name_used _ _ _ _ hsw];refine SX (VF (SX ?_));show wpAny _ _ (do let _ <-comprehension (.ListComp elt (⟨t0,i0,f0,0⟩::gs) scope pos) scope X.env _ (newList []) false (eval i0 X.env) (some (assign (.Name x px) X.env))) _ _ s
 refine SX (Tz (Wo (cl:=cl) (use:=some (assign (.Name x px) X.env)) (Q:=λu s'=>∃v H',Inv X YB (σ.set i (some v)) H' s'/\Q v H') rfl hs T.clos T.kind T.names ?_) (λ_ s' ⟨v,H',I',q'⟩=>S6 (S6 ⟨_,H',I',q'⟩)) λu u e=>e)
 refine thn (hi.h YB s σ H (λJt H1=>∃ρ1 M1 it,Ext ρ H ρ1 H1/\J X.mg ρ1 M1 H1/\ItOk X.mg ρ1 H1 Jt it/\Go X.mg E (Cv X.mg) Q ρ1 H1 (dq (bL fg ft fb it (aO own.length js δ) [])>>=λp=>o.run p.2) M1) I
  ⟨ρ,δ,M,ev,j,g1.bind λρ1 H1 M1 Jt it e1 j1 iok g2=>⟨ρ1,M1,it,e1,j1,iok,g2⟩⟩) λv s1 h1=>thn h1 λitv s2 h2=>?_
 obtain⟨it,fp,tn,Jt,H2,rfl,I2,Tn,st2,f2,ρ1,M1,itn,x1,j1,iok,g2⟩:=h2;have hrun:∃δf lf Mf,bL fg ft fb itn (aO own.length js δ) [] M1=some (.ok (δf,lf),Mf)/\Go X.mg E (Cv X.mg) Q ρ1 H2 (o.run lf) Mf:=by
  obtain⟨r,e,p⟩:=g2;have e:DM.bind _ _ M1=some r:=e;unfold DM.bind at e;split at e
  ·cases e
  ·rename_i c M' em;obtain⟨a,M'',_,z⟩:=jq em;cases z
  ·rename_i a M' em;obtain⟨a',M'',e1,z⟩:=jq em;cases z;exact⟨a.1,a.2,M',e1,r,e,p⟩
 obtain⟨δf,lf,Mf,hrun,g3⟩:=hrun;unfold newList;refine Uj (lV ?_);have hlt:∀b∈fp,b<s2.heap.objs.size:=λb hb=>by obtain⟨o,e,_⟩:=Tn.obj _ _ st2 b hb;exact Te e
 dsimp only;generalize hP:s2.heap.push { cls:=.type "list",dict:=none,data:=.seq ([]:List Value).toArray }=hp1;have hCs:hp1.objs.size=s2.heap.objs.size+1:=by rw[<-hP,T5]
 have hCe:hp1.objs.size+1=(hp1.push { cls:=.type "dict",data:=.dict #[] }).objs.size:=by rw[T5]
 have hC:s2.heap.objs.size<=hp1.objs.size:=by lia
 have hne:hp1.objs.size≠s2.heap.objs.size:=by lia
 have old1:∀b o,s2.heap.get? b=some o->hp1.get? b=some o:=λb o e=>by rw[<-hP];exact S5 _ e
 have old:∀b o,s2.heap.get? b=some o->(pushCells (hp1.push { cls:=.type "dict",data:=.dict #[] }) scope.names).get? b=some o:=λb o e=>Vd _ _ _ _ (S5 _ (old1 b o e))
 have new:∃n,(pushCells (hp1.push { cls:=.type "dict",data:=.dict #[] }) scope.names).get? s2.heap.objs.size=some { cls:=.type "list",data:=.seq #[] n }:=⟨_,Vd _ _ _ _ (S5 _ (by rw[<-hP];exact Tg _ rfl))⟩
 have ns:(pushCells (hp1.push { cls:=.type "dict",data:=.dict #[] }) scope.names).Ns hp1.objs.size λu=>none:=(Heap.Ns.new hp1 (.type "dict")).keeps (Vd _ _)
 have hfree:H2 s2.heap.objs.size=none:=I2.hok.fresh (Td _);have IC:=vW (t':=s2.toks) T I2 f2 hlt old (Td _) hC hne hCe (Ue hC (WM _)) (U7 _) (XD hC) rfl new ns;have OK:=IC.ok;have fok:∀H',(∀b∈fp,H' b=none)->∀b∈fp,FpOk (X.aK YB scope (cellsFrom (hp1.objs.size+1) scope.names cl) (own++fr) fp hp1.objs.size s2 H2) [] H' b:=λH' hn b hb=>by
  obtain⟨_,g2,g3,g4,g5,g6⟩:=f2 b hb;refine⟨hn b hb,Tj (Tr (hlt b hb) hC),λhm=>?_,.inl hb,(OK.exf b hb).2,λp hp=>g6 p (by simpa using hp)⟩
  rcases Tt.mp (I2.stkSub _ hm) with z | z
  ·exact g2 z
  ·exact g3 z
 have fp1:∀b∈fp,upd H2 s2.heap.objs.size (.lst []) b=none:=λb hb=>by rw[upd_ne (Tj (hlt b hb))];exact (f2 b hb).1
 have jb:=j1.begin hfree;have nf:=j1.fresh hfree;have st:Cst (X.aK YB scope (cellsFrom (hp1.objs.size+1) scope.names cl) (own++fr) fp hp1.objs.size s2 H2) [] s2.heap.objs.size (ρ1.hold s2.heap.objs.size) (upd H2 s2.heap.objs.size (.lst [])) (aO own.length js δ) [] M1 fp
   { s2 with heap:=pushCells (hp1.push { cls:=.type "dict",data:=.dict #[] }) scope.names,toks:=s2.toks }:=
  ⟨_,_,_,[],IC,.refl (λz=>nf (.inl z)),jb,(rE (ev.mono x1) _ _).kp (oV hfree),upd_same,.nil,fp1⟩
 have tn0:tn 0 (pushCells (hp1.push { cls:=.type "dict",data:=.dict #[] }) scope.names):=Tn.keep _ _ _ st2 (λb u o e=>old b o e)
 have loop:codeAny (model X.prog X.w) X.A (.compLoop (.ListComp elt (⟨t0,i0,f0,0⟩::gs) scope pos) 0 (.ref it) (.ref s2.heap.objs.size) (compEnvC scope (cellsFrom (hp1.objs.size+1) scope.names cl) hp1.objs.size X.env))
   (compPost (model X.prog X.w) X.A X.xe (some (assign (.Name x px) X.env)) (λu s'=>∃v H',Inv X YB (σ.set i (some v)) H' s'/\Q v H') (.ref s2.heap.objs.size) hp1.objs.size) { s2 with heap:=pushCells (hp1.push { cls:=.type "dict",data:=.dict #[] }) scope.names,toks:=s2.toks }:=by
  refine Gv (X:=X.aK YB scope (cellsFrom (hp1.objs.size+1) scope.names cl) (own++fr) fp hp1.objs.size s2 H2) hc rfl (hturn _ _ _) (hW _ _) (hmono _ _) (hg ..) (ht ..) (hb YB (hp1.objs.size+1) fp hp1.objs.size s2 H2 s2.heap.objs.size) Tn iok (.head _) (oV hfree) fok st tn0 hrun λs' c'=>?_
  obtain⟨σ4,H4,ρ4,ys,I4,x4,j4,ev4,ha4,cl4,fr4⟩:=c'.ex;obtain⟨m4,hn4,_⟩:=I4.loc;have hsb0:Heap.SameBut hp1.objs.size s'.heap s'.heap:=⟨rfl,λu u=>rfl⟩
  have un:=vp I4.base hsb0 hC;have ok4:=rF I4.hok hsb0 I4.free;have IO:Inv X YB σ H4 s':=I2.call' (s':=s') (ch:=fp) (I4.os) un ok4 I4.bare (λb hb=>by obtain⟨_,g2,g3,g4,g5,g6⟩:=f2 b hb;exact⟨g4,g2,g5,g6⟩)
  have fC:FpOk X YB H4 hp1.objs.size:=I2.fpOk hC I4.free;obtain⟨fC1,fC2,fC3,fC4,fC5,fC6⟩:=fC;show wpAny _ _ (assign (.Name x px) X.env (.ref s2.heap.objs.size)) _ _ s';refine wpAny_assign_Name (store_ok2 IO hN hi0 hx (v:=.ref s2.heap.objs.size) rfl (λs'' I'' hsb=>?_) hf)
  obtain⟨a,sb,ha⟩:=hsb;have nC:hp1.objs.size≠a:=by
   rcases ha with z | z
   ·rw[z];exact fC2
   ·exact λe=>fC5 x a z e.symm
  refine⟨m4,hn4.sameBut sb nC,λh' hsb'=>⟨.ref s2.heap.objs.size,H4,?_,o.fin hfree nf x4 j4 ha4 cl4 g3⟩⟩
  exact I''.turned (it:=hp1.objs.size) (t':=s''.toks) (λb o hb e=>hsb'.extBut b o hb e) fC1 fC2 fC4 (λy c e=>fC5 y c e) fC6
 show codeAny _ _ (.compStart _ 0 (.ref it) (.ref s2.heap.objs.size) (compEnvC scope (cellsFrom (hp1.objs.size+1) scope.names cl) hp1.objs.size X.env)) _ _;exact wJ rfl rfl loop (Tn.self X.A 0 _ _ _ tn0 loop)⟩
def oM{i:Nat}{cl:List (Str×Addr)}{own:List Str}{js:List Nat}{fr:List Str}{f0:List Expr}{fi:aa->DM Itn}{fg:D->aa->DM aa}{ft:aa->DM Bool}{fe:aa->DM D}
  (o:Out) (hN:X.N.Nodup) (hi0:X.N[i]?=some x) (hx:Loc X.env.scope x) (hc:X.calm=true) (T:CompG X scope cl own js fr) (hi:DI X E t0 i0 fi)
  (hg:∀YB m fp C s₂ H₂,DG (X.aK YB scope (cellsFrom m scope.names cl) (own++fr) fp C s₂ H₂) E0 t0 fg) (ht:∀YB m fp C s₂ H₂,DTs (X.aK YB scope (cellsFrom m scope.names cl) (own++fr) fp C s₂ H₂) E0 f0 ft)
  (he:∀YB m fp C s₂ H₂,DE (X.aK YB scope (cellsFrom m scope.names cl) (own++fr) fp C s₂ H₂) E0 elt fe)
  (hsw:swapsWith (.ListComp elt [⟨t0,i0,f0,0⟩] scope pos) (some (.Name x px)) spos.line X.env=pure true:=by rfl)
  (hs:∀y,foldedSetIterable i0 X.env y=pure y:=by intro _;rfl) (hf:X.fn x=true\/X.env.scope.names.lookup x=some .local:=by first | exact .inl rfl | exact .inr rfl | assumption) :
  DS X E (.Assign [.Name x px] (.ListComp elt [⟨t0,i0,f0,0⟩] scope pos) spos) (λδ=>(fi δ>>=λit=>dq (bL fg ft (bR fe) it (aO own.length js δ) [])>>=λp=>o.run p.2)>>=λd=>pure (.nx (δ.set i (some d)))):=
 HY (bodyK:=λY acc=>uE elt (.ref acc) Y.env) (W:=λY acc P s=>wpAny (model Y.prog Y.w) Y.A (eval elt Y.env) (λx s1=>wpAny (model Y.prog Y.w) Y.A (call (.builtin "list.append") [.ref acc,x]) (λv s2=>P s2) (λv v=>False) s1) (λv v=>False) s) o hN hi0 hx hc T hi
  (λY it acc=>JW ..) (λY acc=>FW) (λY acc P P' s hp h=>Tz h (λx s1 h1=>Tz h1 (λv s2 h2=>hp _ h2) λv v z=>z) λv v z=>z) hg ht (λYB m fp C s₂ H₂ acc=>Bp rfl (he ..)) hsw hs hf
end L3
namespace L3
open PySem PySem.Spec L2
structure OCls(K:PySem.W.Frag)(mg:Str->Option Value)(c:Str)(C:Addr)(fs:List Str):Prop where
 at_:mg c=some (.ref C)
 cls:L2.Cls K C
 no:∀f∈fs,NoAttr K C f
theorem tY:∀ {ns:List Str}{xs:List V}{ds:List D}{d:D},Cvs mg ρ H xs ds->(ns.zip ds).lookup f=some d->∃ v,(ns.zip xs).lookup f=some v/\Cv mg ρ H v d
 |[],_,_,_,_,e=>by simp at e
 |n::ns,_,_,_,.nil,e=>by simp at e
 |n::ns,_,_,d,.cons (v:=v) c cs,e=>by
   rw[Wa,V3]at e ⊢
   split at e
   ·cases e;exact⟨v,rfl,c⟩
   ·exact tY cs e
def Dl(c f:Str):D->Mo->Option D
 |.obj k ns vs,_=>if k=c then (ns.zip vs).lookup f else none
 |.ref n,M=>match M[n]? with
   |some (.ins k ns vs)=>if k=c then (ns.zip vs).lookup f else none
   |_=>none
 |_,_=>none
set_option tactic.hygienic true in
def yw(O:OCls K mg c C fs)(hf:f∈fs)(he:DE X E e fe)
  (hb:attributeBase e f X.env (eval e X.env)=eval e X.env:=by rfl) (hK:X.K=K:=by rfl) (hM:X.mg=mg:=by rfl):DE X E (.Attribute e f pos) (λδ=>fe δ>>=λx=>rd (Dl c f x)):=by
 subst hK hM;refine⟨PE.mono (pe_fld he.h hb) λσ H Q h=>?_⟩
 obtain⟨ρ,δ,M,ev,j,g1⟩:=h;refine⟨ρ,δ,M,ev,j,g1.bind λρ1 H1 M1 x dx e1 j1 c1 g2=>?_⟩
 obtain⟨d,ed,q⟩:=g2.rd;unfold Dl at ed;split at ed
 ·split at ed
  ·rename_i hk;subst hk;cases c1 with
   |obj n m h l cs=>obtain⟨v,hv,cv⟩:=tY cs ed;rw[O.at_]at m;cases m;exact⟨_,_,_,_,v,rfl,h,O.cls,O.no f hf,hv,q ρ1 H1 _ .refl j1 cv⟩
  ·cases ed
 ·split at ed
  ·split at ed
   ·rename_i hm hk;subst hk;cases c1 with
    |ref hn=>obtain⟨C',dx',xs,m,h,l,cs⟩:=j1.obj _ _ _ hn hm;obtain⟨v,hv,cv⟩:=tY cs ed;rw[O.at_]at m;cases m;exact⟨_,_,_,_,v,rfl,h,O.cls,O.no f hf,hv,q ρ1 H1 _ .refl j1 cv⟩
   ·cases ed
  ·cases ed
 ·cases ed
def wX:List D->Mo->Option (List D)
 |[.int j],_=>if -(2^62)<=j/\j<=2^20 then some ((List.range j.toNat).map nD) else none
 |_,_=>none
theorem Bf:∀l:List Nat,Cvs mg ρ H (l.map λi:Nat=>V.int (i:Int)) (l.map nD)
 |[]=>.nil
 |n::l=>.cons (.int _) (Bf l)
section
variable{X:Cx}{E:XK}{a:Expr}{fa:aa->DM (List D)}{p1 p2 pos1 pos2:Pos}
set_option tactic.hygienic true in
def vX(hc:X.calm=true)(hmL:X.mg "list"=none)(hm:X.mg "range"=none)(ha:DA X E [a] fa)(hgL:Gl X "list":=by rfl)(hg:Gl X "range":=by rfl)(hs:notStar a=true:=by rfl):
  DE X E (.Call (.Name "list" p1) [.Call (.Name "range" p2) [a] [] pos2] [] pos1) (λδ=>fa δ>>=λl=>rd (λM=>(wX l M).map D.lst)):=⟨PE.mono (GX hc hgL hmL hg hm ha.h.h hs) λσ H Q h=>by
 obtain⟨ρ,δ,M,ev,j,g1⟩:=h;refine⟨ρ,δ,M,ev,j,g1.bind λρ1 H1 M1 xs ds e1 j1 c1 g2=>?_⟩
 obtain⟨d,ed,q⟩:=g2.rd;obtain⟨l,el,rfl⟩:=S8.mp ed;unfold wX at el;split at el
 ·split at el
  ·rename_i hb;cases el;obtain⟨v,rfl,k⟩:=c1.one;cases k;exact⟨_,rfl,hb.2,hb.1,λp hp=>q ρ1 _ _ (.lay hp) (j1.lay _ hp) (.lst (j1.fresh hp) upd_same (Bf _))⟩
  ·cases el
 ·cases el⟩
end
section
variable{X:Cx}{E:XK}
def uL:List D->Mo->Option D
 |[.bl b],_=>some (.int (if b then 1 else 0))
 |_,_=>none
def Fd:CallR X (.type "int") (λxs H Q=>∃ b,xs=[.bl b]/\Q (.int (if b then 1 else 0)) H):=by
 intro YB s σ H xs us Q I rs h;obtain⟨b,rfl,q⟩:=h;cases rs with
 |cons r rr=>cases rr;cases r;exact call_int_bool ⟨.int (if b then 1 else 0),H,I.tok _,⟨_,rfl⟩,q⟩
def oJ:CallD X E (.type "int") (λl=>rd (uL l)):=CallD.of Fd λvs H Q ρ M ds d j c e q=>by
 unfold uL at e;split at e
 ·cases e;obtain⟨v,rfl,k⟩:=c.one;cases k;exact⟨_,rfl,q ρ H _ .refl j (.int _)⟩
 ·cases e
end
theorem lU(I:Nat->aa->List D->Mo->Prop):∀ (ds:List D) (i:Nat) (δ:aa) (l:List D) (M:Mo),I i δ l M->
  (∀j d δ l M,ds[j]?=some d->I (i+j) δ l M->Rn (fg d δ>>=λδ1=>ft δ1>>=λb=>if b then fb δ1 l else Pure.pure (δ1,l)) M λp M'=>I (i+j+1) p.1 p.2 M')->Rn (bj fg ft fb ds δ l) M λp M'=>I (i+ds.length) p.1 p.2 M'
 |[],i,δ,l,M,h,_=>Rn.pure h
 | d::ds,i,δ,l,M,h,st=>by
   have s:=st 0 d δ l M rfl h;have e:bj fg ft fb (d::ds) δ l=(fg d δ>>=λδ1=>ft δ1>>=λb=>if b then fb δ1 l else Pure.pure (δ1,l))>>=λp=>bj fg ft fb ds p.1 p.2:=by
    rw[aF];show (fg d δ>>=λδ1=>ft δ1>>=λb=>(if b then fb δ1 l else Pure.pure (δ1,l))>>=λp=>bj fg ft fb ds p.1 p.2)=_
    congr 1;funext δ1;rw[aF]
   rw[e];refine Rn.bind s λp M' h'=>?_
   have ih:=lU I ds (i+1) p.1 p.2 M' h' (λj d δ l M hj hI=>by
    have:=st (j+1) d δ l M (by simpa using hj) (by rw[show i+(j+1)=i+1+j by lia];exact hI)
    rw[show i+1+j+1=i+(j+1)+1 by lia];exact this)
   rw[show i+(d::ds).length=i+1+ds.length by simp;lia]
   exact ih
def jT(h:Rn m M Q):Rn (dq m) M Q:=by obtain⟨a,M',e,q⟩:=h;exact⟨a,M',by unfold dq;rw[e],q⟩
def I8(hn:n<=1000)(q:Rn (k (.ref M.length)) (M++[.lst ((List.replicate n 0).map nD)]) Q):Rn (Ot (.lst [.int 0]) (nD n)>>=k) M Q:=by
 have e:uc (.lst [.int 0]) (nD n) M=some ((List.replicate n 0).map nD):=by
  show DX [.int 0] (n:Int)=_;unfold DX;rw[Tf (Tw ⟨by lia,by lia,by show _<=2^24;simp;lia⟩)]
  congr 1;simp[List.flatten_replicate_singleton,nD]
 show Rn ((rd (uc (.lst [.int 0]) (nD n))>>=gP)>>=k) M Q;rw[aF];refine Rn.bindRd _ e ?_;exact Rn.gP (by simp;lia) q
end L3
namespace L3
open PySem PySem.Spec L2
open PyProof.Rows hiding St
def putN(f:Str):List Str->List Str
 |[]=>[f]
 |g::r=>if g=f then g::r else g::putN f r
def kI{α:Type}(f:Str)(v:α):List Str->List α->List α
 |[],_=>[v]
 |g::r,x::xs=>if g=f then v::xs else x::kI f v r xs
 |_::_,[]=>[]
theorem zz(f:Str)(v:V):∀ (ns:List Str) (xs:List V),ns.length=xs.length->putF f v (ns.zip xs)=(putN f ns).zip (kI f v ns xs)
 |[],[],_=>rfl
 |g::r,x::xs,h=>by
   show putF f v ((g,x)::r.zip xs)=_;unfold putF putN kI;by_cases e:g=f
   ·rw[Tf e,Tf e,Tf e];rfl
   ·rw[Ti e,Ti e,Ti e,zz f v r xs (by simpa using h)];rfl
theorem zA(f:Str)(v:α):∀ (ns:List Str) (xs:List α),ns.length=xs.length->(putN f ns).length=(kI f v ns xs).length
 |[],[],_=>rfl
 |g::r,x::xs,h=>by
   unfold putN kI;by_cases e:g=f
   ·rw[Tf e,Tf e];simpa using h
   ·rw[Ti e,Ti e,UG,UG,zA f v r xs (by simpa using h)]
theorem Cvs.put(c:Cv mg ρ H v d):∀ (ns:List Str) {xs:List V}{ds:List D},Cvs mg ρ H xs ds->Cvs mg ρ H (kI f v ns xs) (kI f d ns ds)
 |[],_,_,_=>.cons c .nil
 |g::r,_,_,.nil=>.nil
 |g::r,_,_,.cons h t=>by
   unfold kI;by_cases e:g=f
   ·rw[Tf e,Tf e];exact .cons c t
   ·rw[Ti e,Ti e];exact .cons h (Cvs.put c r t)
def wZ(c f:Str)(o d:D):DM Unit:=λM=>match o with
 |.ref n=>match M[n]? with
   |some (.ins k ns vs)=>if k=c/\ns.length=vs.length/\ns.length<1000 then some (.ok (),M.set n (.ins k (putN f ns) (kI f d ns vs))) else none
   |_=>none
 |_=>none
section
variable{X:Cx}{E:XK}
set_option tactic.hygienic true in
def FN{K:PySem.W.Frag}{mg:Str->Option Value}{c f:Str}{C:Addr}{fs:List Str}{o value:Expr}{fo fv:aa->DM D}{pos pos':Pos}(O:OCls K mg c C fs)(hf:f∈fs)(ho:DE X E o fo)(hv:DE X E value fv)
  (hs:swapsWith value (some (.Attribute o f pos')) pos.line X.env=pure false:=by rfl) (hK:X.K=K:=by rfl) (hM:X.mg=mg:=by rfl) :
  DS X E (.Assign [.Attribute o f pos'] value pos) (λδ=>fv δ>>=λd=>fo δ>>=λo=>wZ c f o d>>=λz=>pure (.nx δ)):=by
 subst hK hM;refine⟨PS.mono (ps_fld ho.h hv.h hs) λD σ H h=>?_⟩
 obtain⟨ρ,δ,M,ev,j,g1⟩:=h;refine⟨ρ,δ,M,ev,j,g1.bind λρ1 H1 M1 y dy e1 j1 c1 g2=>⟨ρ1,δ,M1,ev.mono e1,j1,g2.bind λρ2 H2 M2 x dx e2 j2 c2 g3=>?_⟩⟩
 obtain⟨r,e,p⟩:=g3;have e:DM.bind _ _ M2=some r:=e;unfold DM.bind wZ at e;cases dx with
 | ref n=>
   dsimp only at e;cases c2 with | ref hn=>
   rename_i a;cases hm:M2[n]? with
   |none=>rw[hm]at e;cases e
   | some u=>
     rw[hm]at e;cases u with
     |lst l=>cases e
     |dic ks l=>cases e
     | ins k ns vs=>
       dsimp only at e;split at e
       ·cases e
       ·rename_i he;split at he<;>cases he
       ·rename_i he;split at he
        ·rename_i hk;obtain⟨rfl,hl,hz⟩:=hk;cases he;cases e;obtain⟨C',dx',xs,m,hx,l,cs⟩:=j2.obj _ _ _ hn hm;rw[O.at_]at m;cases m;have c1':=c1.mono e2;have x:Ext ρ2 H2 ρ2 (upd H2 a (.ins C dx' (putF f y (ns.zip xs)))):=.upd (T3 hn);refine⟨a,C,dx',_,rfl,hx,O.cls,O.no f hf,?_,?_⟩
         ·rw[List.length_zip];lia
         refine p ρ2 _ σ x (j2.upd hn ?_) (((ev.mono e1).mono e2).mono x);refine⟨C,dx',kI f y ns xs,O.at_,by rw[upd_same,zz f y ns xs l],zA f y ns xs l,?_⟩
         exact (Cvs.put c1' ns cs).mono x
        ·cases he
 |_=>cases e
end
structure MethD(P:Program)(w:World)(K:PySem.W.Frag)(mg:Str->Option Value)(base:Heap)(k:Nat)(c x qual:Str)(st:Stmt)(ps:List Str)(F:List D->DM D):Prop where
 ex:∃C f fd,mg c=some (.ref C)/\FnOk P w K mg base (gD P w) k f fd ps (Cr mg F)/\Fun K x qual st f fd/\PySem.W.findIn K (.ref C) x=some (some (.ref f))/\PySem.W.isFn K (.ref f)=true/\L2.Cls K C
section
variable{P:Program}{w:World}{K:PySem.W.Frag}{mg:Str->Option Value}{base:Heap}{k:Nat}{C:Addr}{c x qual:Str}{N ps:List Str}{st:Stmt}{fb:aa->DM Fl}{f:Addr}{fd:FuncData}{is:List Int}
def Q9(F:Fun K x qual st f fd)(S:FnScope N ps (defScope st))
  (hbody:∀(f:Addr) (cdv:Value) (A:Around) (outer:List Env) (s:Shared) (H:Hp) (E:XK),Room k (A.deeper (envOfC qual (defScope st) s.heap.objs.size f cdv))->
    DSs (jE P w K mg base N qual (defScope st) f cdv A outer s H E) E (defBody st) fb):FnOk P w K mg base (gD P w) (k+1) f fd ps (Cr mg (aL ps.length N.length fb)):=by
 refine Ra F S (λvs H Q E h=>?_) λcdv A outer s H vs Q E hr h=>?_
 ·obtain⟨ρ,M,ds,c,j,g⟩:=h;rw[c.len];exact (bC.aL g).1
 obtain⟨ρ,M,ds,c,j,g⟩:=h;exact⟨_,(hbody f cdv A outer s H E hr).h,ρ,_,M,oR c,j,(bC.aL g).2⟩
def MethAt.okD(T:MethAt K C x qual st)(m:mg c=some (.ref C))(cl:L2.Cls K C)(S:FnScope N ps (defScope st))
  (hbody:∀(f:Addr) (cdv:Value) (A:Around) (outer:List Env) (s:Shared) (H:Hp) (E:XK),Room k (A.deeper (envOfC qual (defScope st) s.heap.objs.size f cdv))->
    DSs (jE P w K mg base N qual (defScope st) f cdv A outer s H E) E (defBody st) fb):MethD P w K mg base (k+1) c x qual st ps (aL ps.length N.length fb):=by
 obtain⟨f,fd,F,a,n⟩:=T.ex;exact⟨C,f,fd,m,Q9 F S hbody,F,a,n,cl⟩
end
structure ClsD(P:Program)(w:World)(K:PySem.W.Frag)(mg:Str->Option Value)(base:Heap)(k:Nat)(c:Str)(F:List D->DM D):Prop where
 ex:∃C ps sp,MethC P w K mg base k C "__init__" ps sp/\PySem.W.makesIn K C=true/\PySem.W.keepIn K (.ref C)=true/\mg c=some (.ref C) /\
  ∀ρ M H vs ds Q E,Cvs mg ρ H vs ds->J mg ρ M H->Go mg E (Cv mg) Q ρ H (F ds) M->∀x dx,H x=none->H dx=none->dx≠x->sp (.ref x::vs) (upd (upd H dx (.own x)) x (.ins C dx [])) (λv H2=>v=.non/\Q (.ref x) H2) E
def Bl(T:ClsD X.prog X.w X.K X.mg X.base j c F)(hr:Room k X.A)(hx:Passes (gD X.prog X.w) X E)(ha:DA X E (e::es) fs)(hjk:j+1<=k:=by decide)(hg:Gl X c:=by rfl)(hdb:(c==("__debug__":Str))=false:=by decide)
  (he:notStar e=true:=by rfl) (hpl:(backTo pos (starEach es X.env)).any (·.1)=false:=by rfl) :
  DE X E (.Call (.Name c p) (e::es) [] pos) (λδ=>fs δ>>=F):=by
 obtain⟨C,ps,sp,G,mk,kc,m,h⟩:=T.ex;refine⟨PE.mono (Jh G mk kc m hr hx ha.h hjk hg hdb he hpl) λσ H Q z=>?_⟩
 obtain⟨ρ,δ,M,ev,j,g1⟩:=z;refine⟨ρ,δ,M,ev,j,g1.bind λρ1 H1 M1 xs dxs e1 j1 c1 g2=>λx dx h1 h2 h3=>?_⟩
 rw[VL];exact h ρ1 M1 H1 xs dxs Q E c1 j1 g2 x dx h1 h2 h3
section
variable{mg:Str->Option Value}{ρ:Rh}{H:Hp}{k:Nat}{M':Mo}
def Cvs.fz(hk:ρ.st.length=k){vs:List V}{ds:List D}(h:Cvs mg ρ H vs ds):Fzs M' k ds ds:=
 Cvs.rec (motive_1:=λz d z=>Fz M' k d d) (motive_2:=λz ds z=>Fzs M' k ds ds) .non .bl .int .str (λz z z=>.tup) (λz z z=>.lst) (λz z z z=>.dic) (λz z z z z=>.obj) (λz z=>.scr _) (λh=>.old (hk ▸ (S7.mp h).1)) (λz=>.cls _) .ty .exn .nil (λz z=>.cons) h
theorem Cv.fz(hk:ρ.st.length=k){v:V}{d:D}(h:Cv mg ρ H v d):Fz M' k d d:=by cases Cvs.fz hk (.cons h .nil);assumption
def Cvs.fz_mem(hk:ρ.st.length=k){vs:List V}{ds:List D}(h:Cvs mg ρ H vs ds):∀d∈ds,Fz M' k d d:=h.ind (P:=λz ds=>∀d∈ds,Fz M' k d d) nofun λa z i d h=>(Tt.mp h).elim (λe=>e ▸ a.fz hk) (i d)
theorem Ga:∀{ds:List D},(∀d∈ds,Fz M' k d d)->Fzs M' k ds ds
 |[],_=>.nil
 |d::ds,h=>.cons (h d (by simp)) (Ga λe he=>h e (by simp[he]))
theorem J.fz(j:J mg ρ M H):QL (M++[o]) M.length M:=by
 refine⟨rfl,λn u h=>?_⟩
 have hn:=(S7.mp h).1;refine⟨u,by rw[Tq hn];exact h,?_⟩
 have hl:n<ρ.st.length:=by rw[j.len];exact hn
 have c:=j.obj n ρ.st[n] u (Tc hl) h;cases u with
 |lst l=>obtain⟨xs,_,c⟩:=c;exact c.fz j.len
 |dic ks l=>obtain⟨xs,_,_,c⟩:=c;exact⟨rfl,c.fz j.len⟩
 |ins cc ns l=>obtain⟨C,dx,xs,_,_,_,c⟩:=c;exact⟨rfl,rfl,c.fz j.len⟩
end
def Mu(c:Str)(Fi:List D->DM D)(ds:List D)(M:Mo)(r':R D×Mo):Prop:=
 (∃ns vs,Fi (.ref M.length::ds) (M++[.ins c [] []])=some (.ok .non,M++[.ins c ns vs])/\(∀d∈vs,d∈ds\/∃i,d=.int i)/\r'=(.ok (.obj c ns vs),M)) \/
 (∃e o,Fi (.ref M.length::ds) (M++[.ins c [] []])=some (.exc e,M++[o])/\r'=(.exc e,M))
def Q8{P:Program}{w:World}{K:PySem.W.Frag}{mg:Str->Option Value}{base:Heap}{k:Nat}{c qual:Str}{st:Stmt}{ps:List Str}{Fi F':List D->DM D}(T:MethD P w K mg base k c "__init__" qual st ps Fi)
  (hb:∀(kV doc pm:Value) (an:Option Addr) (cdv ct:Value) (us:List Value),us.length=ps.length->bindArgs (PySem.W.fnOf "__init__" qual (defArgs st) (defBody st) (defScope st) .none kV doc pm an cdv ct) ⟨us,[]⟩=pure (ps.zip us))
  (hm:∀C,mg c=some (.ref C)->PySem.W.makesIn K C=true/\PySem.W.keepIn K (.ref C)=true) (hf:∀ds M r',F' ds M=some r'->Mu c Fi ds M r'):ClsD P w K mg base k c F':=by
 obtain⟨C,f,fd,mc,G,B,a,n,cl⟩:=T.ex;refine⟨C,ps,_,⟨f,fd,G,B.binds hb,B.kp,a,n⟩,(hm C mc).1,(hm C mc).2,mc,λρ M H vs ds Q E cv j g x dx hx hdx hne=>?_⟩
 obtain⟨r',e,p⟩:=g;have hx':upd H dx (.own x) x=none:=by rw[upd_ne (λz=>hne z.symm)];exact hx
 have x1:Ext ρ H ρ (upd H dx (.own x)):=.lay hdx;have j1:=j.lay (.own x) hdx;have x2:Ext ρ (upd H dx (.own x)) (ρ.put x) (upd (upd H dx (.own x)) x (.ins C dx [])):=.put hx';have j2:J mg (ρ.put x) (M++[.ins c [] []]) (upd (upd H dx (.own x)) x (.ins C dx [])):=j1.put hx' ⟨C,dx,[],mc,upd_same,rfl,.nil⟩;have hput:(ρ.put x).st[M.length]?=some x:=by show (ρ.st++[x])[M.length]?=some x;rw[<-j.len,Uo (Td _)];simp
 refine⟨ρ.put x,M++[.ins c [] []],.ref M.length::ds,.cons (.ref hput) (cv.mono (x1.trans x2)),j2,?_⟩;have sb:∀{ρ2 H2},Ext (ρ.put x) (upd (upd H dx (.own x)) x (.ins C dx [])) ρ2 H2->Sub ρ ρ2 M.length:=λ{ρ2 H2} y=>by obtain⟨τ,ht⟩:=y.pre;exact⟨⟨[x]++τ,by rw[ht];show (ρ.st++[x])++τ=_;simp⟩,y.vo,j.len⟩
 have ex:∀{ρ2 H2},Ext (ρ.put x) (upd (upd H dx (.own x)) x (.ins C dx [])) ρ2 H2->Ext ρ H ρ H2:=λ{ρ2 H2} y=>⟨⟨[],by simp⟩,rfl,λa h n=>absurd h n,λb o hb hn=>y.keep b o (by
  have nx:b≠x:=ne_of_none hb hx;have ndx:b≠dx:=ne_of_none hb hdx;rw[upd_ne nx,upd_ne ndx];exact hb) (λz=>by
  rcases TV.mp z with z | z
  ·exact hn z
  ·exact ne_of_none hb hx (TJ.mp z))⟩
 rcases hf ds M r' e with ⟨ns,vs',e2,hv,rfl⟩ | ⟨er,o,e2,rfl⟩
 ·refine⟨_,e2,λρ2 H2 b y j3 cb=>?_⟩
  cases cb;refine⟨rfl,p ρ H2 (.ref x) (ex y) (j3.freeze (sb y) j.len j.fz) ?_⟩;have h3:ρ2.st[M.length]?=some x:=y.at hput;obtain⟨C',dx',xs,m',hx3,l,cs⟩:=j3.obj M.length x (.ins c ns vs') h3 (by simp)
  refine .obj (j.fresh hx) m' hx3 l (Cvs.freeze (sb y) j3 (Ga λd hd=>?_) cs)
  rcases hv d hd with h | ⟨i,rfl⟩
  ·exact cv.fz_mem j.len d h
  ·exact .int i
 ·refine⟨_,e2,λρ2 H2 C2 y j3 m2=>?_⟩
  exact p ρ H2 C2 (ex y) (j3.freeze (sb y) j.len j.fz) m2
end L3
namespace L3
open PySem PySem.Spec L2
theorem qy:∀ {l:List D}{ns:List Int},intsOf l=some ns->l=ns.map D.int
 |[],ns,e=>by cases e;rfl
 | d::l,ns,e=>by
   cases d with
   |int i=>simp only[intsOf,Option.map_eq_some_iff]at e;obtain⟨ms,h,rfl⟩:=e;rw[qy h];rfl
   |_=>simp[intsOf]at e
theorem jZ:∀ {ns:List Int}{xs:List V},Cvs mg ρ H xs (ns.map D.int)->xs=ns.map V.int
 |[],_,.nil=>rfl
 |n::ns,_,.cons a t=>by cases a;rw[jZ t];rfl
def vG(h:l.length=1):∃a,l=[a]:=match l,h with | [a],_=>⟨a,rfl⟩
def Og(h:l.length=2):∃a b,l=[a,b]:=match l,h with | [a,b],_=>⟨a,b,rfl⟩
def Oh(h:l.length=3):∃a b c,l=[a,b,c]:=match l,h with | [a,b,c],_=>⟨a,b,c,rfl⟩
def Oi(h:l.length=4):∃a b c d,l=[a,b,c,d]:=match l,h with | [a,b,c,d],_=>⟨a,b,c,d,rfl⟩
def Df:D->DM D
 |.int n=>if 0<=n/\n<2^63 then pure (.int n) else stuck
 |_=>stuck
def yW(c:Str)(F:List D->DM D):List D->DM D
 |[.obj k ns vs]=>if k=c then F [.obj k ns vs]>>=Df else stuck
 |l=>rd (gM l)
set_option tactic.hygienic true in
def lJ(T:MethD X.prog X.w X.K X.mg X.base j c "__len__" qual st ps F)(hr:Room k X.A)(hx:Passes (gD X.prog X.w) X E)
  (hb:∀(kV doc pm:Value) (an:Option Addr) (cdv ct:Value) (us:List Value),us.length=ps.length->bindArgs (PySem.W.fnOf "__len__" qual (defArgs st) (defBody st) (defScope st) .none kV doc pm an cdv ct) ⟨us,[]⟩=pure (ps.zip us))
  (hjk:j+1<=k:=by decide):CallD X E (.builtin "len") (yW c F):=by
 obtain⟨C,f,fd,mc,G,B,a,n,cl⟩:=T.ex;have MC:MethC X.prog X.w X.K X.mg X.base j C "__len__" ps (Cr X.mg F):=⟨f,fd,G,B.binds hb,B.kp,a,n⟩;intro YB s σ H vs us Q I rs q;obtain⟨ρ,M,ds,j,cv,go⟩:=q;unfold yW at go;split at go
 ·rename_i k' ns ws;split at go
  ·rename_i hk;subst hk;obtain⟨v,rfl,kv⟩:=cv.one;cases kv with
   | obj hn m hh hl cs=>
     rw[mc]at m;cases m;refine Fe MC (hr.mono hjk) hx YB s σ H _ us Q I rs ⟨_,_,_,rfl,hh,ρ,M,_,cv,j,go.bind λρ1 H1 M1 b d e1 j1 c1 g2=>?_⟩
     unfold Df at g2;split at g2
     ·split at g2
      ·rename_i hn2;cases c1;exact⟨_,rfl,hn2,g2.pure ρ1 H1 _ .refl j1 (.int _)⟩
      ·obtain⟨r,e,_⟩:=g2;cases e
     ·obtain⟨r,e,_⟩:=g2;cases e
  ·obtain⟨r,e,_⟩:=go;cases e
 ·exact call_lenD YB s σ H vs us Q I rs ⟨ρ,M,_,j,cv,go⟩
end L3
namespace L2
open PySem PySem.Spec PyProof.Rows
end L2
namespace L3
open PySem PySem.Spec L2
end L3
namespace L2
open PySem PySem.Spec PyProof.Rows
def QD(i j k:Nat)(ta:TA):TS:=λD σ H=>ta σ H λvs H1=>∃v w z,vs=[v,w,z]/\D.nx (((σ.set i (some v)).set j (some w)).set k (some z)) H1
def Le{kt k2 pt2}(hc:X.calm=true)(hN:X.N.Nodup)(hi:X.N[i]?=some x)(hj:X.N[j]?=some y)(hk:X.N[k]?=some z)(hij:i≠j)(hik:i≠k)(hjk:j≠k)
  (hx:X.env.scope.names.lookup x=some .local) (hy:X.env.scope.names.lookup y=some .local) (hz:X.env.scope.names.lookup z=some .local) (ha:PA X [a,b,c] ta)
  (hw:swappedStores [.Tuple [.Name x px,.Name y py,.Name z pz] kt pt] (.Tuple [a,b,c] k2 pt2) X.env=pure (some [x,y,z]))
  (hs:swapsWithSole [.Tuple [.Name x px,.Name y py,.Name z pz] kt pt] (.Tuple [a,b,c] k2 pt2) pos.line X.env=pure false:=by rfl) :
  PS X (.Assign [.Tuple [.Name x px,.Name y py,.Name z pz] kt pt] (.Tuple [a,b,c] k2 pt2) pos) (QD i j k ta):=by
 intro YB s σ H D I h;rw[exec_Assign_arm];refine SX (VF ?_);rw[hs];refine SX (S6 ?_);rw[Ti (by decide)]
 refine SX (Tuple_ (thn (ha _ YB s σ H _ I h) λus s1 ⟨vs,H1,I1,r1,q1⟩=>?_))
 obtain⟨v,w,w3,e1,q1⟩:=q1;subst e1;obtain ⟨u1,u2,u3,rfl,rv,rw',rz⟩:∃ u1 u2 u3,us=[u1,u2,u3]/\RelV v u1/\RelV w u2/\RelV w3 u3:=by
  cases r1 with
  | cons p q=>
    cases q with
    | cons p' q'=>
      cases q' with
      |cons p2 q2=>cases q2;exact⟨_,_,_,rfl,p,p',p2⟩
 refine Uj ?_ (by show 3<=sizeLine;decide)
 have I2:Inv X YB σ H1 { s1 with heap:=s1.heap.push { cls:=.type "tuple",data:=.seq [u1,u2,u3].toArray } }:=I1.kept (t':=s1.toks) λb o e=>S5 _ e
 rw[hw];refine SX (S6 ?_);show wpAny (model X.prog X.w) X.A (do rule "assign.swapped-stores";let items <-unpackItems (.ref s1.heap.objs.size) 3 none;assignInOrder [λv=>bindName X.env z v,λv=>bindName X.env y v,λv=>bindName X.env x v] items.reverse;pure Flow.next) _ _ _
 refine SX (Vp (SX (unpackItems_tuple (items:=#[u1,u2,u3]) (I.ok.hd hc) (Yw s1.heap _) λh' hx'=>?_)))
 have I3:=I2.kept (h':=h') (t':=s1.toks) λb o e=>hx' b o (Tj (Te e)) e
 show wpAny _ _ (assignInOrder [λv=>bindName X.env z v,λv=>bindName X.env y v,λv=>bindName X.env x v] [u3,u2,u1]>>=λu=>pure Flow.next) _ _ _
 refine SX (V9 (Xv (store_ok I3 hN hk (.inl hz) rz (λs2 I4=>?_) (.inr hz))))
 refine V9 (Xv (store_ok I4 hN hj (.inl hy) rw' (λs3 I5=>?_) (.inr hy)))
 refine V9 (Xv (store_ok I5 hN hi (.inl hx) rv (λs4 I6=>assignInOrder_nil (S6 ?_)) (.inr hx)))
 have e:((σ.set k (some w3)).set j (some w)).set i (some v)=((σ.set i (some v)).set j (some w)).set k (some w3):=by rw[List.set_comm _ _ (Ne.symm hjk),List.set_comm _ _ (Ne.symm hik),List.set_comm _ _ (Ne.symm hij)]
 rw[e]at I6;exact⟨_,H1,I6,q1⟩
end L2
namespace L3
open PySem PySem.Spec L2
def JM(i j k:Nat)(fa:aa->DM (List D)):aa->DM Fl:=λδ=>fa δ>>=λl=>match l with
 |[v,w,z]=>pure (.nx (((δ.set i (some v)).set j (some w)).set k (some z)))
 |_=>stuck
@[simp] theorem R4(i j k:Nat)(fa:aa->DM (List D))(δ:aa):JM i j k fa δ=fa δ>>=λl=>match l with
 |[v,w,z]=>Pure.pure (.nx (((δ.set i (some v)).set j (some w)).set k (some z)))
 |_=>stuck:=id rfl
def Kf{kt k2 pt2}(hc:X.calm=true)(hN:X.N.Nodup)(hi:X.N[i]?=some x)(hj:X.N[j]?=some y)(hk:X.N[k]?=some z)(hij:i≠j)(hik:i≠k)(hjk:j≠k)
  (hx:X.env.scope.names.lookup x=some .local) (hy:X.env.scope.names.lookup y=some .local) (hz:X.env.scope.names.lookup z=some .local) (ha:DA X E [a,b,c] fa)
  (hw:swappedStores [.Tuple [.Name x px,.Name y py,.Name z pz] kt pt] (.Tuple [a,b,c] k2 pt2) X.env=pure (some [x,y,z]))
  (hs:swapsWithSole [.Tuple [.Name x px,.Name y py,.Name z pz] kt pt] (.Tuple [a,b,c] k2 pt2) pos.line X.env=pure false:=by rfl) :
  DS X E (.Assign [.Tuple [.Name x px,.Name y py,.Name z pz] kt pt] (.Tuple [a,b,c] k2 pt2) pos) (JM i j k fa):=⟨PS.mono (Le hc hN hi hj hk hij hik hjk hx hy hz ha.h.h hw hs) λD σ H h=>by
 obtain⟨ρ,δ,M,ev,j,g1⟩:=h;refine⟨ρ,δ,M,ev,j,bC.bind g1 λρ1 H1 M1 v d e1 j1 c1 g2=>?_⟩
 cases c1 with
 |nil=>obtain⟨r,e,_⟩:=g2;cases e
 | cons c1 c2=>cases c2 with
   |nil=>obtain⟨r,e,_⟩:=g2;cases e
   | cons c2 c3=>cases c3 with
     |nil=>obtain⟨r,e,_⟩:=g2;cases e
     |cons c3 c4=>cases c4 with
       |nil=>exact⟨_,_,_,rfl,bC.pure (a:=.nx _) g2 ρ1 H1 _ .refl j1 ((((ev.mono e1).set c1).set c2).set c3)⟩
       |cons _ _=>obtain⟨r,e,_⟩:=g2;cases e⟩
end L3
namespace N10
def pl(a b:Nat):Nat×Nat:=(a / Nat.gcd a b,b / Nat.gcd a b)
def Rb(l:List Nat):Nat:=l.foldl Nat.gcd 0
def lst(l:List Nat):List Nat:=l.map (·/ Rb l)
def S:Nat->(Nat->Nat)->Nat
 |0,_=>0
 |n+1,f=>S n f+f n
def up(f:Nat->Nat)(x v:Nat):Nat->Nat:=λi=>if i=x then v else f i
structure G where
 A:Nat->Nat->Nat
 L:Nat->Nat
 W:Nat->Nat
end N10
namespace L3
open PySem PySem.Spec L2
def nM(R:List (List Nat)):D:=.tup (R.map nT)
def ga(l:List Nat)(i:Nat):Nat:=l.getD i 0
def gr(R:List (List Nat))(i:Nat):List Nat:=R.getD i []
def d8(h:i<l.length):ga l i∈l:=by unfold ga;rw[T8,Tc h];exact U8 _
def gr_mem{R:List (List Nat)}{i:Nat}(h:i<R.length):gr R i∈R:=by unfold gr;rw[T8,Tc h];exact U8 _
def lN(h:i<l.length):ga l i=l[i]:=by unfold ga;rw[T8,Tc h];rfl
def je{R:List (List Nat)}{i:Nat}(h:i<R.length):gr R i=R[i]:=by unfold gr;rw[T8,Tc h];rfl
def Ou(h:nD a=nD b):a=b:=by
 have:=D.int.inj h
 lia
def Ox(h:nT a=nT b):a=b:=(Xl λz z=>Ou).mp (D.tup.inj h)
def Ov(h:nM a=nM b):a=b:=(Xl λz z=>Ox).mp (D.tup.inj h)
theorem Gu{α:Type}{ft:aa->DM Bool}{fe:aa->DM D}{rest:aa}(enc:α->D)(p:α->Bool)(e:α->D):∀ (as:List α) (x:Option D) (l:List D),l.length + as.length<=1000000->(∀ a∈as,ft (some (enc a)::rest)=Pure.pure (p a))->(∀ a∈as,p a=true->fe (some (enc a)::rest)=Pure.pure (e a))->
  bj (gN 0) ft (bR fe) (as.map enc) (x::rest) l=Pure.pure (oW x (as.map enc)::rest,l++(as.filter p).map e)
 |[],x,l,_,_,_=>by simp[bj,oW]
 | d::ds,x,l,hl,h1,h2=>by
   have b:=h1 d (TY ..);have hl':l.length+(ds.length+1)<=1000000:=by simpa using hl
   have lt:l.length<sizeLine:=by show l.length<2^24;lia
   have ih:=λl' hl'=>Gu (rest:=rest) enc p e ds (some (enc d)) l' hl' (λx hx=>h1 x (Ua _ hx)) (λx hx=>h2 x (Ua _ hx))
   by_cases hp:p d=true
   ·have c:=h2 d (TY ..) hp;have q:=ih (l++[e d]) (by simp;lia)
    simp[bj,b,hp,bR,c,lt,q,oW]
   ·have q:=ih l (by lia)
    simp[bj,b,hp,q,oW]
def aK{α:Type}{ft:aa->DM Bool}{fe:aa->DM D}{x:Option D}{rest:aa}{as:List α}(enc:α->D)(p:α->Bool)(e:α->D)(hl:as.length<=1000000)(h1:∀a∈as,ft (some (enc a)::rest)=Pure.pure (p a))(h2:∀a∈as,p a=true->fe (some (enc a)::rest)=Pure.pure (e a)):
  dq (bj (gN 0) ft (bR fe) (as.map enc) (x::rest) [])=Pure.pure (oW x (as.map enc)::rest,(as.filter p).map e):=by
 rw[Gu enc p e as x [] (by simpa using hl) h1 h2];simp
def iZ{α:Type}{fe:aa->DM D}{x:Option D}{rest:aa}{as:List α}(enc:α->D)(e:α->D)(hl:as.length<=1000000)(h2:∀a∈as,fe (some (enc a)::rest)=Pure.pure (e a)):
  dq (bj (gN 0) (λz=>Pure.pure true) (bR fe) (as.map enc) (x::rest) [])=Pure.pure (oW x (as.map enc)::rest,as.map e):=by
 rw[aK enc (λz=>true) e hl (λz z=>rfl) λa ha z=>h2 a ha,Ws.mpr (λz z=>rfl)]
def zH(h0:0<b)(h:b<2^1000):(rd (uG (nD a) (nD b)):DM D)=Pure.pure (nD (a / b)):=by unfold nD;rw[O8 (Kd (by lia) (by simpa using h)),Int.natCast_ediv]
def zL(h:b<2^64):(rd (vK (nD a) (nD b)):DM D)=Pure.pure (nD (a*b)):=by unfold nD;rw[Qs (KJ (by simpa using h)),Int.natCast_mul]
def fY(a b:Nat):(rd (cZ (nD a) (nD b)):DM D)=Pure.pure (nD (a+b)):=by unfold nD;rw[Qk,Int.natCast_add]
def rN(a:Nat):(rd (cZ (nD a) (.int 1)):DM D)=Pure.pure (nD (a+1)):=fY a 1
def O5(a:Nat):(rd (cZ (.int 1) (nD a)):DM D)=Pure.pure (nD (a+1)):=by rw[Nat.add_comm];exact fY 1 a
def zO(h:b<=a):(rd (Ae (nD a) (nD b)):DM D)=Pure.pure (nD (a-b)):=by
 unfold nD;rw[Qx];have:(a:Int)-(b:Int)=((a-b:Nat):Int):=by lia
 rw[this]
def cT(a b:Nat):(rd (cX (nD a) (nD b)):DM D)=Pure.pure (.bl (decide (a=b))):=by
 unfold nD;rw[Ql];have:decide ((a:Int)=(b:Int))=decide (a=b):=by rw[T6,UJ,UJ];lia
 rw[this]
def qD(a b:Nat):(rd (eF (nD a) (nD b)):DM D)=Pure.pure (.bl (!decide (a=b))):=by
 unfold nD;rw[Qt];have:decide ((a:Int)=(b:Int))=decide (a=b):=by rw[T6,UJ,UJ];lia
 rw[this]
def uY(a b:Nat):(rd (Gy (nD a) (nD b)):DM D)=Pure.pure (.bl (decide (a<b))):=by
 unfold nD;rw[Rp];have:decide ((a:Int)<(b:Int))=decide (a<b):=by rw[T6];simp
 rw[this]
def uX(a b:Nat):(rd (yV (nD a) (nD b)):DM D)=Pure.pure (.bl (decide (a<=b))):=by
 unfold nD;rw[Ro];have:decide ((a:Int)<=(b:Int))=decide (a<=b):=by rw[T6];simp
 rw[this]
def nZ(a b:Nat):(rd (lO (nD a) (nD b)):DM D)=Pure.pure (.bl (decide (b<a))):=by
 unfold nD;rw[Rk];have:decide ((b:Int)<(a:Int))=decide (b<a):=by rw[T6];simp
 rw[this]
def G7(a b:Nat):(rd (Gb (nD a) (nD b)):DM D)=Pure.pure (.bl (decide (b<=a))):=by
 unfold nD;rw[Rj];have:decide ((b:Int)<=(a:Int))=decide (b<=a):=by rw[T6];simp
 rw[this]
def fM(h:0<b):(rd (mF (nD a) (nD b)):DM D)=Pure.pure (nD (a%b)):=Hb h
def Ha(l:List Nat):(rd (gM [nT l]):DM D)=Pure.pure (nD l.length):=by simp[nT,nD]
def eG(R:List (List Nat)):(rd (gM [nM R]):DM D)=Pure.pure (nD R.length):=by simp[nM,nD]
def JQ(l:List D):(rd (gh [.tup l,.ty "tuple"]):DM D)=Pure.pure (.bl true):=jM (t := "tuple") (λz=>rfl) (by decide)
def zJ(l:List Nat):(rd (gh [nT l,.ty "tuple"]):DM D)=Pure.pure (.bl true):=JQ _
def uW(R:List (List Nat)):(rd (gh [nM R,.ty "tuple"]):DM D)=Pure.pure (.bl true):=JQ _
def dN(h:n<2^62):mL [nD n]=some (.fix ((List.range n).map nD)):=zN h
def G5(R:List (List Nat)):jV (nM R)=some (.fix (R.map nT)):=rfl
def zG(l:List D):(rd (p6 (.lst l)):DM Itn)=Pure.pure (.fix l):=rfl
def gY(h:i<l.length):(rd (bW (nT l) (nD i)):DM D)=Pure.pure (nD (ga l i)):=Qp (by unfold ga;rw[T8,Tc h];rfl)
def JR{R:List (List Nat)}{i:Nat}(h:i<R.length):(rd (bW (nM R) (nD i)):DM D)=Pure.pure (nT (gr R i)):=DQ (by unfold gr;rw[Tp,T8,Tc h];rfl)
def G9{R:List (List Nat)}(h:0<R.length):(rd (bW (nM R) (.int 0)):DM D)=Pure.pure (nT (gr R 0)):=JR h
theorem Af:∀ R:List (List Nat),gb (R.map nT)=some (R.map λl=>PyData.tuple (l.map λn:Nat=>PyData.int (n:Int)))
 |[]=>rfl
 | l::R=>by
   have e:toPy (nT l)=some (PyData.tuple (l.map λn:Nat=>PyData.int (n:Int))):=by rw[nP];simp only[toPy,fQ,Option.map_some];rw[Ug];rfl
   simp only[List.map_cons,gb,e,Af R]
theorem yz:∀ R:List (List Nat),PyData.depthAll (R.map λl=>PyData.tuple (l.map λn:Nat=>PyData.int (n:Int)))<=2
 |[]=>by simp[PyData.depthAll]
 |l::R=>by
   have:=yz R;have h:=dZ (l.map λn:Nat=>(n:Int))
   rw[Ug]at h;have h':PyData.depthAll (l.map λn:Nat=>PyData.int (n:Int))<=1:=h
   simp only[List.map_cons,PyData.depthAll,PyData.depth]
   lia
def Nm(a b:List (List Nat))(ha:a.length<=1000000):(rd (eF (nM a) (nM b)):DM D)=Pure.pure (.bl (!decide (a=b))):=bz λM=>by
 have d:=yz a;have key:∀ a b:List (List Nat),PyData.eqvAll (a.map λl=>PyData.tuple (l.map λn:Nat=>PyData.int (n:Int))) (b.map λl=>PyData.tuple (l.map λn:Nat=>PyData.int (n:Int)))=decide (a=b):=by
  intro a;induction a with
  |nil=>intro b;cases b<;>simp[PyData.eqvAll]
  | cons x a ih=>
    intro b;cases b with
    |nil=>simp[PyData.eqvAll]
    | cons y b=>
      have e:=fj (x.map λn:Nat=>(n:Int)) (y.map λn:Nat=>(n:Int))
      rw[Ug,Ug]at e;have e':PyData.eqvAll (x.map λn:Nat=>PyData.int (n:Int)) (y.map λn:Nat=>PyData.int (n:Int))=decide (x=y):=by refine Eq.trans e ?_;rw[T6,UJ,UJ];exact iG
      simp only[List.map_cons,PyData.eqvAll,PyData.eqv,e',ih b];by_cases h:x=y<;>by_cases h2:a=b<;>simp[h,h2]
 have lay:∀ a:List (List Nat),PyData.canLayAll0 (a.map λl=>PyData.tuple (l.map λn:Nat=>PyData.int (n:Int)))=true:=by
  intro a;induction a with
  |nil=>rfl
  |cons x a ih=>
    have e:=lay_ints (x.map λn:Nat=>(n:Int))
    rw[Ug]at e;have e':PyData.canLayAll0 (x.map λn:Nat=>PyData.int (n:Int))=true:=e
    simp[PyData.canLayAll0,PyData.canLay0,e',ih]
 unfold nM;simp only[eF,L3.eqB,eqP,toPy,Af,Option.map_some,PyData.canLay0,lay,PyData.depth,PyData.eqv,key];simp
 lia
end L3
namespace LS
open PySem PySem.Spec PyProof.Rows PyProof
end LS
namespace L2
open PySem PySem.Spec PyProof.Rows
variable{X:Cx}{pos:Pos}
end L2
namespace L3
open PySem PySem.Spec PyProof.Rows L2
variable{X:Cx}{E:XK}{pos:Pos}
def gL(n:Nat)(fs:List D->aa->DM aa):D->aa->DM aa
 |.lst l,δ=>if l.length=n then fs l δ else stuck
 |_,_=>stuck
@[simp] theorem SM(n:Nat)(fs:List D->aa->DM aa)(l:List D)(δ:aa):gL n fs (.lst l) δ=if l.length=n then fs l δ else stuck:=id rfl
def yF{X:Cx}{E:XK}{st:Stmt}:DS X E st (λz=>stuck):=⟨by intro YB s σ H D I h;obtain⟨ρ,δ,M,ev,j,g1⟩:=h;obtain⟨r,e,_⟩:=g1;cases e⟩
end L3
namespace L3
open PySem PySem.Spec L2
abbrev Mg:=Str->Option Value
abbrev Fn:=List D->DM D
abbrev Nn(mg:Mg)(x:Str):Prop:=mg x=none
abbrev Gi(mg:Mg)(x:Str)(i:Int)(t:Tok):Prop:=mg x=some (.int i t)
abbrev Rm(k:Nat)(A:Around)(q:Str)(st:Stmt)(s:Shared)(f:Addr)(cdv:Value):Prop:=Room k (A.deeper (PyProof.Rows.envOfC q (defScope st) s.heap.objs.size f cdv))
abbrev Ds(P:Program)(w:World)(K:PySem.W.Frag)(mg:Mg)(base:Heap)(N:List Str)(q:Str)(st:Stmt)(f:Addr)(cdv:Value)(A:Around)(outer:List Env)(s:Shared)(H:Hp)(E:XK)(b:aa->DM Fl):Prop:=
 DSs (jE P w K mg base N q (defScope st) f cdv A outer s H E) E (defBody st) b
def Qy(a:sc.kind=.function)(b:sc.isCoroutine=false)(c:sc.isGenerator=false)(p:N.take P.length=P)(d:(decide N.Nodup&&(decide (∀x∈P,sc.names.lookup x=some .local\/sc.names.lookup x=some .cell)&&decide (∀y∈sc.names,y.2≠.free)))=true):FnScope N P sc:=by simp only[Bool.and_eq_true,decide_eq_true_eq]at d;exact⟨a,b,c,d.1,p,d.2.1,d.2.2⟩
def inD(x y:D)(M:Mo):Option D:=match x with
 |.int i=>((mj y M).bind intsOf).map λns=>.bl (ns.contains i)
 |_=>none
def Dq(x y:D)(M:Mo):Option D:=match x with
 |.int i=>((mj y M).bind intsOf).map λns=>.bl (!ns.contains i)
 |_=>none
theorem tU(i:Int):∀ ns:List Int,inV (.int i) (ns.map V.int)=ns.contains i
 |[]=>rfl
 |n::ns=>by
   have ih:=tU i ns;unfold inV at ih ⊢
   rw[Ud,W9,ih,List.contains_cons];congr 1;show eqV (.int n) (.int i)=_;unfold eqV;rw[T6];simp;exact⟨λh=>h.symm,λh=>h.symm⟩
def wg(ns:List Int):(ns.map V.int).all flatV=true:=by simp[flatV]
section
variable{X:Cx}{E:XK}
def GK:bU X E (compareOp .In) (λx y=>rd (inD x y)):=by
 refine bU.of op_in_seq λx y H Q ρ M dx dy d j cx cy e q=>?_
 unfold inD at e;split at e
 ·obtain⟨ns,h1,rfl⟩:=S8.mp e;obtain⟨l,h2,h3⟩:=TQ.mp h1;cases cx;obtain⟨a,xs,rfl,ha,c⟩:=vf j cy h2;have:=ints_of c h3;subst this;refine⟨a,_,rfl,ha.imp (λh=>SqL.of h) (λh=>SqT.of h),rfl,wg ns,?_⟩
  rw[Ti (by simp),tU]
  exact q ρ H _ .refl j (.bl _)
 ·cases e
def BX:bU X E (compareOp .NotIn) (λx y=>rd (Dq x y)):=by
 refine bU.of op_notIn_seq λx y H Q ρ M dx dy d j cx cy e q=>?_
 unfold Dq at e;split at e
 ·obtain⟨ns,h1,rfl⟩:=S8.mp e;obtain⟨l,h2,h3⟩:=TQ.mp h1;cases cx;obtain⟨a,xs,rfl,ha,c⟩:=vf j cy h2;have:=ints_of c h3;subst this;refine⟨a,_,rfl,ha.imp (λh=>SqL.of h) (λh=>SqT.of h),rfl,wg ns,?_⟩
  rw[Tf rfl,tU];exact q ρ H _ .refl j (.bl _)
 ·cases e
end
def oU(l:List Nat)(i:Nat):(l.map λn:Nat=>(n:Int)).contains (i:Int)=l.contains i:=by
 rw[T6];simp;constructor
 ·rintro⟨a,h,e⟩;have:a=i:=by lia
  exact this ▸ h
 ·exact λh=>⟨i,h,rfl⟩
def Qn(i:Nat)(l:List Nat):(rd (inD (nD i) (nT l)):DM D)=Pure.pure (.bl (l.contains i)):=bz λM=>by show ((intsOf (l.map nD))).map _=_;rw[dW,WL,oU]
def Pa(i:Nat)(l:List Nat):(rd (Dq (nD i) (nT l)):DM D)=Pure.pure (.bl (!l.contains i)):=bz λM=>by show ((intsOf (l.map nD))).map _=_;rw[dW,WL,oU]
def JT(lo hi:Option Int):D->Mo->Option D
 |.scr ns,_=>some (.lst (cutD (ns.map D.int) lo hi))
 |_,_=>none
theorem Bg:∀l:List Int,Cvs mg ρ H (l.map V.int) (l.map D.int)
 |[]=>.nil
 |n::l=>.cons (.int _) (Bg l)
section
variable{X:Cx}{E:XK}
def Ru:SlR X (λx lo hi H Q=>∃ρ M dx d,J X.mg ρ M H/\Cv X.mg ρ H x dx/\JT lo hi dx M=some d/\∀ρ' H' v,Ext ρ H ρ' H'->J X.mg ρ' M H'->Cv X.mg ρ' H' v d->Q v H'):=by
 intro YB s σ H x v vl vu lo hi sl Q I rx hs pl pu h;obtain⟨ρ,M,dx,d,j,c,e,q⟩:=h;unfold JT at e;split at e
 ·cases e;cases c with | scr n rd=>
  refine sl_list (X:=X) YB s σ H _ v vl vu lo hi sl Q I rx hs pl pu ⟨_,_,rfl,.inl rd,λp hp=>?_⟩
  exact q ρ _ _ (.lay hp) (j.lay _ hp) (.lst (j.fresh hp) upd_same (((Bg _).cut lo hi).mono (.lay hp)))
 ·cases e
def Fw(ha:DE X E a fa)(hl:DP X E lo fl)(hh:DP X E hi fh):
  DE X E (.Subscript a (.Slice lo hi none p2) pos) (λδ=>fa δ>>=λx=>fl δ>>=λl=>fh δ>>=λh=>rd (JT l h x)):=⟨PE.mono (pe_slice Ru ha.h hl.h hh.h) λσ H Q h=>by
 obtain⟨ρ,δ,M,ev,j,g1⟩:=h;refine⟨ρ,δ,M,ev,j,g1.bind λρ1 H1 M1 x dx e1 j1 c1 g2=>⟨ρ1,δ,M1,ev.mono e1,j1,g2.bind λρ2 H2 M2 l dl e2 j2 c2 g3=>⟨ρ2,δ,M2,(ev.mono e1).mono e2,j2,g3.bind λρ3 H3 M3 h dh e3 j3 c3 g4=>?_⟩⟩⟩
 have c2:l=dl:=c2;have c3:h=dh:=c3;subst c2 c3;obtain⟨d,e,q⟩:=g4.rd;exact⟨ρ3,M3,dx,d,j3,(c1.mono e2).mono e3,e,q⟩⟩
end
def Qw(ns:List Int)(lo hi:Option Int):(rd (JT lo hi (.scr ns)):DM D)=Pure.pure (.lst (cutD (ns.map D.int) lo hi)):=rfl
def u1(h:n+64<cLine):n+1<cLine:=by lia
def dG:D->Mo->Option (List Key×List D)
 |.dic ks ds,_=>some (ks,ds)
 |.ref n,M=>match M[n]? with
   |some (.dic ks ds)=>some (ks,ds)
   |_=>none
 |_,_=>none
def iM:D->Option Key
 |.int i=>some (.inl i)
 |.str x=>some (.inr x)
 |_=>none
def cL:List Key->List D->Key->Option D
 |k'::ks,d::ds,k=>if k'=k then some d else cL ks ds k
 |_,_,_=>none
section
variable{mg:Str->Option Value}{ρ:Rh}{M:Mo}{H:Hp}
set_option tactic.hygienic true in
def uD(j:J mg ρ M H)(c:Cv mg ρ H x d)(e:dG d M=some (ks,l)):∃ a xs,x=.ref a/\H a=some (.dK (ks.zip xs))/\ks.length=xs.length/\Cvs mg ρ H xs l:=by
 unfold dG at e;split at e
 ·cases e;cases c with | dic n h hl c=>exact⟨_,_,rfl,h,hl,c⟩
 ·split at e
  ·rename_i n _ ks' ds' h;cases e;cases c with | ref hn=>
   obtain⟨xs,h1,h2,h3⟩:=j.obj _ _ _ hn h;exact⟨_,xs,rfl,h1,h2,h3⟩
  ·cases e
 ·cases e
def jP(c:Cv mg ρ H y d)(e:iM d=some k):y=kV k:=by
 unfold iM at e;split at e
 ·cases e;cases c;rfl
 ·cases e;cases c;rfl
 ·cases e
theorem vq(k:Key):∀ {xs:List V}{ds:List D} (ks:List Key),Cvs mg ρ H xs ds->ks.length=xs.length->(cL ks ds k=none->valV (ks.zip xs) k=none)/\∀ d,cL ks ds k=some d->∃ v,valV (ks.zip xs) k=some v/\Cv mg ρ H v d
 |_,_,[],.nil,_=>⟨λy=>rfl,λd h=>by cases h⟩
 |_,_,[],.cons a t,h=>by cases h
 |_,_,_::_,.nil,h=>by cases h
 | _,_,k'::ks,.cons a t,h=>by
   obtain⟨h1,h2⟩:=vq k ks t (by simpa using h)
   rw[Wa];by_cases e:k'=k
   ·rw[valV_pos (p:=(k',_)) e];refine⟨λz=>?_,λd z=>?_⟩
    ·simp[cL,e]at z
    ·simp only[cL,e,if_true]at z;cases z;exact⟨_,rfl,a⟩
   ·rw[valV_neg (p:=(k',_)) e];simp only[cL,e,if_false];exact⟨h1,h2⟩
end
def yC(x y:D)(M:Mo):Option D:=(dG x M).bind λp=>(iM y).bind λk=>cL p.1 p.2 k
def Ii(x y:D)(M:Mo):Option D:=(dG y M).bind λp=>(iM x).map λk=>.bl (cL p.1 p.2 k).isSome
def Di(x y:D)(M:Mo):Option D:=(dG y M).bind λp=>(iM x).map λk=>.bl (!(cL p.1 p.2 k).isSome)
section
variable{X:Cx}{E:XK}
def some_of(k:Key)(c:Cvs mg ρ H xs ds)(h:ks.length=xs.length):(valV (ks.zip xs) k).isSome=(cL ks ds k).isSome:=by
 obtain⟨h1,h2⟩:=vq k ks c h;cases e:cL ks ds k with
 |none=>rw[h1 e];rfl
 |some d=>obtain⟨v,e2,_⟩:=h2 d e;rw[e2];rfl
def K3(hu:X.A.units+1<cLine):bU X E (compareOp .In) (λx y=>rd (Ii x y)):=by intro YB s σ H x y v u Q I rx ry q;obtain⟨ρ,M,dx,dy,j,cx,cy,go⟩:=q;obtain⟨d,e,p⟩:=go.rd;obtain⟨⟨ks,ds⟩,h1,h2⟩:=TQ.mp e;obtain⟨k,h3,rfl⟩:=S8.mp h2;obtain⟨a,xs,rfl,ha,hl,c⟩:=uD j cy h1;obtain rfl:=jP cx h3;obtain rfl:u=Value.ref a:=ry;have so:=some_of k c hl;exact d_in hu I (DGet.k (k:=k) ha) rx λs' I'=>⟨.bl _,H,I',rfl,p ρ H _ .refl j (by rw[so];exact .bl _)⟩
def Je(hu:X.A.units+1<cLine):bU X E (compareOp .NotIn) (λx y=>rd (Di x y)):=by intro YB s σ H x y v u Q I rx ry q;obtain⟨ρ,M,dx,dy,j,cx,cy,go⟩:=q;obtain⟨d,e,p⟩:=go.rd;obtain⟨⟨ks,ds⟩,h1,h2⟩:=TQ.mp e;obtain⟨k,h3,rfl⟩:=S8.mp h2;obtain⟨a,xs,rfl,ha,hl,c⟩:=uD j cy h1;obtain rfl:=jP cx h3;obtain rfl:u=Value.ref a:=ry;have so:=some_of k c hl;exact d_notIn hu I (DGet.k (k:=k) ha) rx λs' I'=>⟨.bl _,H,I',rfl,p ρ H _ .refl j (by rw[so];exact .bl _)⟩
def nq(hu:X.A.units+1<cLine)(ha:DE X E a fa)(hb:DE X E b fb)(hs:NoSl b:=by exact λz z=>rfl):DE X E (.Subscript a b pos) (λδ=>fa δ>>=λx=>fb δ>>=λy=>rd (yC x y)):=
 ⟨PE.mono (pe_dget hu ha.h hb.h hs) fun σ H Q h=>by
  obtain⟨ρ,δ,M,ev,j,g1⟩:=h;refine⟨ρ,δ,M,ev,j,g1.bind λρ1 H1 M1 x dx e1 j1 c1 g2=>⟨ρ1,δ,M1,ev.mono e1,j1,g2.bind λρ2 H2 M2 y dy e2 j2 c2 g3=>?_⟩⟩
  obtain⟨d,e,p⟩:=g3.rd;obtain⟨⟨ks,ds⟩,h1,h2⟩:=TQ.mp e;obtain⟨k,h3,h4⟩:=TQ.mp h2;obtain⟨a,xs,rfl,ha,hl,c⟩:=uD j2 (c1.mono e2) h1;obtain rfl:=jP c2 h3;obtain⟨v,e3,cv⟩:=(vq k ks c hl).2 d h4;exact⟨a,v,rfl,by rw[<-e3];exact DGet.k ha,p ρ2 H2 _ .refl j2 cv⟩⟩
def Dj:D->D->D->DM Unit
 |.ref n,y,v=>λM=>match M[n]?,iM y with
   |some (.dic ks ds),some k=>if cL ks ds k=none/\ks.length<2^20 then some (.ok (),M.set n (.dic (ks++[k]) (ds++[v]))) else none
   |_,_=>none
 |_,_,_=>stuck
theorem Ai:∀ {as:List α}{bs:List β} (a:α) (b:β),as.length=bs.length->(as++[a]).zip (bs++[b])=as.zip bs++[(a,b)]
 |[],[],_,_,_=>rfl
 |[],_::_,_,_,h=>by cases h
 |_::_,[],_,_,h=>by cases h
 |x::as,y::bs,a,b,h=>by rw[W5,W5,Wa,Wa,Ai a b (by simpa using h),W5]
set_option tactic.hygienic true in
def zY(hu:X.A.units + 1<cLine):PSet X (DN X.mg E Dj):=by
 intro YB s σ H o i v ov iv u Q I ro ri rv h;obtain⟨ρ,M,dO,di,dv,j,co,ci,cv,r,e,p⟩:=h;cases co with
 | ref hn=>
   rename_i n a;have e:(match M[n]?,iM di with
    |some (.dic ks ds),some k=>if cL ks ds k=none/\ks.length<2^20 then some (R.ok (),M.set n (.dic (ks++[k]) (ds++[dv]))) else none
    |_,_=>none)=some r:=e
   split at e
   ·rename_i ks ds k hm hk;split at e
    ·rename_i hc;cases e;obtain⟨xs,hx,hl,c⟩:=j.obj _ _ _ hn hm;obtain rfl:=jP ci hk;obtain rfl:ov=Value.ref a:=ro;have nn:=(vq k ks c hl).1 hc.1;have pn:=putK_new v nn;have lz:(ks.zip xs).length<sizeLine:=by rw[List.length_zip,<-hl,Nat.min_self];exact Wm hc.2 (by show 2^20<2^24;decide)
     have x:Ext ρ H ρ (upd H a (.dK ((ks++[k]).zip (xs++[v])))):=.upd (T3 hn);refine d_setItem hu I (DPut.k (k:=k) hx lz) ri rv λs' I'=>⟨_,I',?_⟩
     rw[pn,<-Ai k v hl];exact p ρ _ () x (j.upd hn ⟨_,upd_same,by simp[hl],(c.append (.cons cv .nil)).mono x⟩) trivial
    ·cases e
   ·cases e
 |_=>cases e
def lK(x v:D):DM D:=λM=>match iM x with
 |some k=>some (.ok (.ref M.length),M++[.dic [k] [v]])
 |none=>none
set_option tactic.hygienic true in
def J9(i:Nat)(hN:X.N[i]?=some x:=by rfl)(hv:Vis X.env.scope x:=by first | exact Or.inl rfl | exact Or.inr (Or.inl rfl) | exact Or.inr (Or.inr rfl))(hd:(x == ("__debug__":Str))=false:=by decide)
  (hcd:(x==("__classdict__":Str))=false:=by decide):DE X E (.Dict [some (.Name x p1)] [.Constant (.int c) cj p2] pos) (λδ=>cU i δ>>=λy=>lK y (.int c)):=
 ⟨PE.mono (pe_disp (pps_cons (pe_var (i:=i) hN hv hd hcd) pe_int pps_nil) rfl rfl (by simp) (by simp)) fun σ H Q h=>by
  obtain⟨ρ,δ,M,ev,j,g⟩:=h;have g:Go X.mg E (Cv X.mg) Q ρ H (opt δ[i]?.join>>=λy=>lK y (.int c)) M:=g
  cases z:δ[i]?.join with
  |none=>rw[z]at g;obtain⟨r,e,_⟩:=g;cases e
  | some d=>
    rw[z]at g;have g:Go X.mg E (Cv X.mg) Q ρ H (lK d (.int c)) M:=g;have e':δ[i]?=some (some d):=by
     cases y:δ[i]? with
     |none=>rw[y]at z;cases z
     |some o=>rw[y]at z;exact congrArg some z
    obtain⟨v,h1,h2⟩:=ev.val i d e';obtain⟨r,e,q⟩:=g;unfold lK at e;split at e
    ·rename_i k hk;cases e;obtain rfl:=jP h2 hk;intro p hp;refine⟨kV k,h1,upd_same,[(k,.int c)],rfl,by simp,?_⟩
     have em:mergeK [] [(k,V.int c)]=[k].zip [V.int c]:=rfl;rw[em,upd_upd];have x:Ext ρ H (ρ.put p) (upd H p (.dK ([k].zip [V.int c]))):=.put hp;refine q _ _ _ x (j.put hp ⟨[.int c],upd_same,rfl,.cons (.int c) .nil⟩) (.ref ?_);show (ρ.st++[p])[_]?=_;rw[<-j.len];simp
    ·cases e⟩
end
def rJ:List Key->Option (List Int)
 |[]=>some []
 |.inl i::ks=>(rJ ks).map (i::·)
 |.inr _::_=>none
theorem zm:∀ {ks:List Key}{ns:List Int},rJ ks=some ns->ks=ns.map Sum.inl
 |[],ns,e=>by cases e;rfl
 |.inl i::ks,ns,e=>by obtain⟨ms,h,rfl⟩:=S8.mp e;rw[zm h];rfl
 |.inr _::_,_,e=>by cases e
def xf:List D->Mo->Option D
 |[d],M=>(dG d M).bind λp=>(rJ p.1).bind λns=>if ns.length<=60 then some (.lst ((qN ns).map D.int)) else none
 |_,_=>none
section
variable{X:Cx}{E:XK}
set_option tactic.hygienic true in
def Dd(hh:X.A.handled=none):CallD X E (.builtin "sorted") (λl=>rd (xf l)):=CallD.of (yj hh) λvs H Q ρ M ds d j c e q=>by
 unfold xf at e;split at e
 ·obtain⟨⟨ks,l⟩,h1,e⟩:=TQ.mp e;obtain⟨ns,h2,e⟩:=TQ.mp e;split at e
  ·rename_i hn;cases e;obtain⟨v,rfl,k⟩:=c.one;obtain⟨a,xs,rfl,ha,hl,c'⟩:=uD j k h1;obtain rfl:=zm h2;refine⟨a,_,ns,rfl,ha,?_,hn,λp hp=>q ρ _ _ (.lay hp) (j.lay _ hp) (.lst (j.fresh hp) upd_same (Cvs.ints _))⟩
   rw[List.map_fst_zip (Nat.le_of_eq hl)]
  ·cases e
 ·cases e
end
end L3
namespace L3
open PySem L2
theorem qR{c:aa->DM Bool}{fb:aa->DM Fl}{oG:aa->Mo->Prop}(I:Nat->aa->Mo->Prop)
  (step:∀m δ M,I m δ M->∃b,c δ M=some (.ok b,M)/\(b=true->Rn (fb δ) M λr M'=>∃δ' m',r=.nx δ'/\m'<m/\I m' δ' M')/\(b=false->oG δ M)) :
  ∀(N m:Nat) (δ:aa) (M:Mo),m<N->I m δ M->Rn (fZ c fb N δ) M λr M'=>∃δ',r=.nx δ'/\oG δ' M'
 |0,m,δ,M,h,_=>by lia
 | N + 1,m,δ,M,h,i=>by
   obtain⟨b,e,h1,h2⟩:=step m δ M i;unfold fZ;refine Rn.bind (Q1:=λb' M'=>b'=b/\M'=M) ⟨b,M,e,rfl,rfl⟩ λb' M' ⟨eb,eM⟩=>?_
   subst eb eM;cases b' with
   |false=>exact Rn.pure ⟨δ,rfl,h2 rfl⟩
   |true=>
     refine Rn.bind (h1 rfl) λr M1 ⟨δ',m',er,hm,i'⟩=>?_
     subst er;exact qR I step N m' δ' M1 (by lia) i'
def kD(ks:List Nat):List Key:=ks.map λn:Nat=>Sum.inl (n:Int)
theorem mq(x:Nat):∀ (ks:List Nat) (ds:List D),ks.length=ds.length->(cL (kD ks) ds (.inl (x:Int))).isSome=ks.contains x
 |[],[],_=>rfl
 |[],_::_,h=>by cases h
 |_::_,[],h=>by cases h
 | k::ks,d::ds,h=>by
   have ih:=mq x ks ds (by simpa using h)
   show (cL (Sum.inl (k:Int)::kD ks) (d::ds) (.inl (x:Int))).isSome=_;rw[List.contains_cons];by_cases e:k=x
   ·subst e;simp[cL]
   ·have e1:¬ (Sum.inl (k:Int):Key)=.inl (x:Int):=λq=>e (by have:=Sum.inl.inj q;lia)
    have e2:(x==k)=false:=by simp;exact λq=>e q.symm
    simp only[cL,e1,if_false,ih,e2,Bool.false_or]
def Ij(h:M[n]?=some (.dic (kD ks) ds))(hl:ks.length=ds.length):Di (nD x) (.ref n) M=some (.bl (!ks.contains x)):=by
 have e:dG (.ref n) M=some (kD ks,ds):=by simp[dG,h]
 have:=mq x ks ds hl;unfold Di nD;rw[e];simp only[Option.bind_some,iM,Option.map_some,this]
def yE(h:M[n]?=some (.dic (kD ks) ds))(hl:ks.length=ds.length)(hx:x∉ks)(hk:ks.length<1000):
  Dj (.ref n) (nD x) v M=some (.ok (),M.set n (.dic (kD (ks++[x])) (ds++[v]))):=by
 have e:=mq x ks ds hl;have e0:ks.contains x=false:=by simpa using hx
 rw[e0,Option.isSome_eq_false_iff,Option.isNone_iff_eq_none]at e;have e1:kD (ks++[x])=kD ks++[Sum.inl (x:Int)]:=by simp[kD]
 delta Dj;dsimp only[nD];rw[h];dsimp only[iM];rw[Tf ⟨e,by unfold kD;rw[S9];exact Wm hk (by decide)⟩,e1]
theorem zq:∀ ks:List Nat,rJ (kD ks)=some (ks.map λn:Nat=>(n:Int))
 |[]=>rfl
 |k::ks=>by show (rJ (kD ks)).map ((k:Int)::·)=_;rw[zq ks];rfl
def Ho{n:Nat}{ks:List Nat}{p:Nat->Bool}(nd:ks.Nodup)(hp:∀x,x∈ks ↔ x<n/\p x=true):qN (ks.map λn:Nat=>(n:Int))=((List.range n).filter p).map λn:Nat=>(n:Int):=by
 have f:=bD (ks.map λn:Nat=>(n:Int))
 refine dD (f.1.trans ?_) f.2 ?_
 ·refine List.Perm.map _ ((We nd (List.nodup_range.filter _)).mpr λx=>?_)
  rw[hp,Tv,Th]
 ·refine WP _ (λa b (h:a<b)=>?_) (WT Xb Vk)
  lia
def Hn{n m:Nat}{ks:List Nat}{ds:List D}{p:Nat->Bool}(h:M[m]?=some (.dic (kD ks) ds))(hk:ks.length<=60)(nd:ks.Nodup)(hp:∀x,x∈ks ↔ x<n/\p x=true):
  xf [.ref m] M=some (.lst (((List.range n).filter p).map nD)):=by
 have e0:dG (.ref m) M=some (kD ks,ds):=by simp[dG,h]
 unfold xf;dsimp only;rw[e0];show (rJ (kD ks)).bind _=_;rw[zq,V5,Tf (by rw[S9];exact hk),Ho nd hp,Ug]
 rfl
end L3
namespace L3
open PySem PySem.Spec L2 LB
def tupI(t:List Int):D:=.tup (t.map D.int)
def dB:List D->Option (List (List Int))
 |[]=>some []
 |.tup l::r=>(intsOf l).bind λt=>if t=[] then none else (dB r).map (t::·)
 |_::_=>none
set_option tactic.hygienic true in
theorem qP:∀ {l:List D}{ts:List (List Int)},dB l=some ts->l=ts.map tupI/\∀ t∈ts,t≠[]
 |[],ts,e=>by cases e;exact⟨rfl,λt h=>by cases h⟩
 | d::l,ts,e=>by
   cases d with
   | tup l0=>
     obtain⟨t,h1,e⟩:=TQ.mp e;split at e
     ·cases e
     ·rename_i hne;obtain⟨ms,h,rfl⟩:=S8.mp e;obtain⟨h2,h3⟩:=qP h;refine⟨by rw[h2,qy h1];rfl,λx hx=>?_⟩
      rcases Tt.mp hx with rfl | hx
      ·exact hne
      ·exact h3 x hx
   |_=>simp[dB]at e
theorem pF:∀ {ts:List (List Int)},(∀ t∈ts,t≠[])->dB (ts.map tupI)=some ts
 |[],_=>rfl
 |t::ts,h=>by
   have ih:=pF (ts:=ts) λx hx=>h x (.tail _ hx)
   have h1:=h t (TY);show (intsOf (t.map D.int)).bind _=_;rw[uM];show (if t=[] then none else _)=_
   rw[Ti h1,ih];rfl
end L3
namespace L3
open PySem L2
end L3
namespace L3
open PySem PySem.Spec L2 LA LB
open PyProof.Rows hiding St
def iz(acc:List (List Int))(t:List Int):List (List Int):=if t∈acc then acc else acc++[t]
def qg(ts:List (List Int)):List (List Int):=ts.foldl iz []
def Ib(ts:List (List Int))(t:List Int):qg (ts++[t])=iz (qg ts) t:=by unfold qg;rw[XM];rfl
def Bk(acc:List (List Int))(t:List Int):(iz acc t).length<=acc.length+1:=by unfold iz;split<;>simp
def Bj(ts:List (List Int)):(qg ts).length<=ts.length:=by
 have key:∀ (ts acc:List (List Int)),(ts.foldl iz acc).length<=acc.length + ts.length:=by
  intro ts;induction ts with
  |nil=>intro acc;simp
  |cons t ts ih=>
    intro acc;have:=ih (iz acc t);have:=Bk acc t;rw[Wz,UG]
    lia
 have:=key ts [];simpa[qg] using this
def Bh(cs:List (Addr×List Int))(c:Addr×List Int):(uB cs c).map (·.2)=iz (cs.map (·.2)) c.2:=by unfold uB iz;split<;>simp
set_option tactic.hygienic true in
theorem vm:∀ {l:List D}{ts:List (List Int)}{d:D}{t:List Int},dB l=some ts->dB [d]=some [t]->dB (l++[d])=some (ts++[t])
 |[],ts,d,t,e,e2=>by cases e;exact e2
 | x::l,ts,d,t,e,e2=>by
   cases x with
   | tup l0=>
     obtain⟨u,h1,e⟩:=TQ.mp e;split at e
     ·cases e
     ·rename_i hne;obtain⟨ms,h,rfl⟩:=S8.mp e;have ih:=vm h e2;show (intsOf l0).bind _=_;rw[h1];show (if u=[] then none else (dB (l++[d])).map (u::·))=_
      rw[Ti hne,ih];rfl
   |_=>simp[dB]at e
def QH(h:(dB [d]).isSome=true):∃ t,d=tupI t/\t≠[]/\dB [d]=some [t]:=by
 obtain⟨ts,e⟩:=Wj.mp h;obtain⟨h1,h2⟩:=qP e;cases ts with
 |nil=>cases h1
 | cons t ts=>
   cases ts with
   |nil=>simp at h1;exact⟨t,h1,h2 t (by simp),e⟩
   |cons u ts=>simp at h1
section
variable{mg:Str->Option Value}{ρ:Rh}{H:Hp}{acc:Addr}{φ:Heap->Prop}{o:HO}
mutual
theorem Cv.x(hp:H acc=some (.ext φ)):∀ {v:V}{d:D},Cv mg ρ H v d->Cv mg ρ (L2.upd H acc o) v d
 |_,_,.non=>.non
 |_,_,.bl b=>.bl b
 |_,_,.int i=>.int i
 |_,_,.str x=>.str x
 |_,_,.tup n h c=>.tup n ((upd_ne λz=>by rw[z,hp]at h;cases h).trans h) (Cvs.x hp c)
 |_,_,.lst n h c=>.lst n ((upd_ne λz=>by rw[z,hp]at h;cases h).trans h) (Cvs.x hp c)
 |_,_,.dic n h l c=>.dic n ((upd_ne λz=>by rw[z,hp]at h;cases h).trans h) l (Cvs.x hp c)
 |_,_,.obj n m h l c=>.obj n m ((upd_ne λz=>by rw[z,hp]at h;cases h).trans h) l (Cvs.x hp c)
 |_,_,.scr n h=>.scr n (by
   rcases h with h | ⟨o',h⟩
   ·exact .inl ((upd_ne λz=>by rw[z,hp]at h;cases h).trans h)
   ·exact .inr ⟨o',(upd_ne λz=>by rw[z,hp]at h;cases h).trans h⟩)
 |_,_,.ref h=>.ref h
 |_,_,.cls h=>.cls h
 |_,_,.ty t=>.ty t
 |_,_,.exn a=>.exn a
theorem Cvs.x(hp:H acc=some (.ext φ)):∀{vs:List V}{ds:List D},Cvs mg ρ H vs ds->Cvs mg ρ (L2.upd H acc o) vs ds
 |_,_,.nil=>.nil
 |_,_,.cons h t=>.cons (Cv.x hp h) (Cvs.x hp t)
end
theorem Ev.x(hp:H acc=some (.ext φ))(h:Ev mg ρ H σ δ):Ev mg ρ (L2.upd H acc o) σ δ:=⟨h.len,λi d q=>let ⟨v,a,b⟩:=h.val i d q;⟨v,a,b.x hp⟩⟩
def jR.ne(hp:H acc=Option.some (HO.ext φ))(h:jR mg ρ H a u):a≠acc:=λz=>by
 subst z;cases u with
 |lst l=>obtain⟨xs,h,_⟩:=h;rw[hp]at h;cases h
 |dic ks l=>obtain⟨xs,h,_⟩:=h;rw[hp]at h;cases h
 |ins c ns l=>obtain⟨C,dx,xs,_,h,_⟩:=h;rw[hp]at h;cases h
theorem J.x(j:J mg ρ M H)(hp:H acc=Option.some (HO.ext φ)):J mg ρ M (L2.upd H acc o):=⟨j.len,j.nd,λn a u h1 h2=>(j.obj n a u h1 h2).map (upd_ne (jR.ne hp (j.obj n a u h1 h2))) λvs ds c=>c.x hp,λa h=>by obtain⟨x,xs,e⟩:=j.vol a h;exact⟨x,xs,by rw[upd_ne λz=>by rw[z,hp]at e;cases e];exact e⟩⟩
end
def xg(ρ:Rh)(H:Hp)(cs:List (Addr×List Int))(l:List D):Prop:=∃ts,dB l=some ts/\cs.map (·.2)=qg ts/\cs.length<=18/\∀c∈cs,c.2≠[]/\c.1∉ρ/\H c.1=some (.tup (c.2.map V.int))
def xg.mono(h:xg ρ H cs l)(e:Ext ρ H ρ' H'):xg ρ' H' cs l:=by obtain⟨ts,h1,h2,h0,h3⟩:=h;exact⟨ts,h1,h2,h0,λc hc=>by obtain⟨a,b,d⟩:=h3 c hc;exact⟨a,e.out d b,e.keeps d b⟩⟩
structure CstS(X:Cx)(YB:List (Addr×Obj))(acc:Addr)(ρ0:Rh)(H0:Hp)(δ:aa)(l:List D)(M:Mo)(fp:List Addr)(s:Shared):Prop where
 ex:∃σ H ρ cs,Inv X YB σ H s/\ExtB acc ρ0 H0 ρ H/\J X.mg ρ M H/\Ev X.mg ρ H σ δ/\H acc=some (lE X.prog X.w acc cs)/\xg ρ H cs l/\∀b∈fp,H b=none
def lL(fe:aa->DM D)(δ:aa)(l:List D):DM (aa×List D):=fe δ>>=λd=>if (dB [d]).isSome=true/\l.length<18 then pure (δ,l++[d]) else stuck
def Az(X:Cx)(acc:Addr)(W:(Shared->Prop)->Shared->Prop)(fb:aa->List D->DM (aa×List D)):Prop:=
 ∀YB ρ0 H0 δ l M s δ' l' M',CstS X YB acc ρ0 H0 δ l M [] s->fb δ l M=some (.ok (δ',l'),M')->W (λs'=>CstS X YB acc ρ0 H0 δ' l' M' [] s') s
def CstS.unpin(c:CstS X (YB++pl) acc ρ0 H0 δ l M [] s)(h:∀b∈fp,∃o,(b,o)∈pl):
  CstS X YB acc ρ0 H0 δ l M fp s/\∀p∈pl,s.heap.get? p.1=some p.2:=by
 obtain⟨σ,H,ρ,cs,I,x,j,ev,ha,cl,_⟩:=c.ex;refine⟨⟨σ,H,ρ,cs,I.unpinned,x,j,ev,ha,cl,λb hb=>?_⟩,λp hp=>(I.pin p (T7 _ (T7 _ hp))).1⟩
 obtain⟨o,ho⟩:=h b hb;exact (I.pin (b,o) (T7 _ (T7 _ ho))).2.1
def Kw(hc:X.calm=true)(hxe:X.xe=λy y=>False){gens:List Comprehension}{depth:Nat}{bodyK:Sem Fin->Sem Fin}{W:(Shared->Prop)->Shared->Prop}
  (hturn:compTurn (.SetComp elt gens scope pos) depth (.ref it) (.ref acc) X.env=turnOf g bodyK (.compLoop (.SetComp elt gens scope pos) depth (.ref it) (.ref acc) X.env) (.ref it) X.env) (hW:iY X.prog X.w X.A bodyK W) (hmono:∀P P' s,(∀s,P s->P' s)->W P s->W P' s)
  {fg:D->aa->DM aa}{ft:aa->DM Bool}{fb:aa->List D->DM (aa×List D)} (hg:DG X E0 g.target fg) (ht:DTs X E0 g.ifs ft) (hb:Az X acc W fb) {fp:List Addr}{tn:Nat->Heap->Prop} (T:Turn X.prog X.w X.K g.target Jt fp it tn) (iok:ItOk X.mg ρi Hi Jt itn) (kp0:∀ρ H,ExtB acc ρ0 H0 ρ H->Kp ρi Hi ρ H) {YB:List (Addr×Obj)}
  (fok:∀H',(∀b∈fp,H' b=none)->∀b∈fp,FpOk X YB H' b) {l:List D} (st:CstS X YB acc ρ0 H0 δ l M fp s) (htn:tn 0 s.heap) {lf:List D} (hrun:bL fg ft fb itn δ l M=some (.ok (δf,lf),Mf))
  {R:Result->Shared->Prop} (hR:∀s',CstS X YB acc ρ0 H0 δf lf Mf fp s'->R (.ok .next) s') :
  codeAny (model X.prog X.w) X.A (.compLoop (.SetComp elt gens scope pos) depth (.ref it) (.ref acc) X.env) R s:=by
 obtain⟨n0,rem0⟩:=eU.start hrun;refine wB (λn s=>∃i δ l M,eU fg ft fb δf lf Mf itn n i δ l M/\CstS X YB acc ρ0 H0 δ l M fp s/\tn i s.heap) hturn hW ?_ hmono n0 ⟨0,δ,l,M,rem0,st,htn⟩
 rintro n s ⟨i,δ,l,M,rem,st,htn⟩;obtain⟨σ,H,ρ,cs,I,x,j,ev,ha,cl,fr⟩:=st.ex;have kp:Kp ρi Hi ρ H:=kp0 _ _ x;rcases rem.step with ⟨hd,rfl,rfl,rfl⟩ | ⟨d,δ1,M1,b,M2,δ3,l3,M3,m,hd,e1,e2,e3,hm,rem3⟩
 ·refine Tz (T.done X rfl rfl rfl hc i YB s σ H _ I (fok H fr) htn (iok.stop i ρ H _ kp j hd)) (λr s1 h1=>?_) λy y z=>z
  obtain⟨rfl,I1⟩:=h1;exact hR s1 ⟨σ,H,ρ,cs,I1,x,j,ev,ha,cl,fr⟩
 ·obtain ⟨go,yl⟩:=iok.item i ρ H M d kp j hd;refine Tz (T.item X rfl rfl rfl hc i YB s σ H (λy y=>False) I (fok H fr) htn go) (λr s1 h1=>?_) λy y z=>z
  obtain⟨u,rfl,h1⟩:=h1;refine Tz h1 (λy s2 h2=>?_) λy y z=>z
  obtain⟨xv,H5,I5,r5,y5,tn5,fr5⟩:=h2;obtain⟨x5,j5,c5⟩:=yl xv H5 y5;have I5':=I5.pinned (fok H5 fr5) (T.obj _ _ tn5);refine Tz (hg.h _ s2 σ H5 xv u (λσ6 H6=>∃ρ6,Ext ρ H5 ρ6 H6/\J X.mg ρ6 M1 H6/\Ev X.mg ρ6 H6 σ6 δ1) I5' r5 ⟨ρ,δ,M,d,ev.mono x5,j5,c5,_,e1,λρ6 H6 σ6 a1 a2 a3=>⟨ρ6,a1,a2,a3⟩⟩) (λy s3 h3=>?_) λy y z=>by rw[hxe]at z;exact z
  obtain⟨σ6,H6,I6,ρ6,x6,j6,ev6⟩:=h3;refine Tz (ht.h _ s3 σ6 H6 (λb' H7=>b'=b/\∃ρ7,Ext ρ6 H6 ρ7 H7/\J X.mg ρ7 M2 H7) I6 ⟨ρ6,δ1,M1,ev6,j6,_,e2,λρ7 H7 b' a1 a2 a3=>⟨a3,ρ7,a1,a2⟩⟩) (λok s4 h4=>?_) λy y z=>by rw[hxe]at z;exact z
  obtain⟨H7,I7,rfl,ρ7,x7,j7⟩:=h4;have nacc:acc∉ρ.st:=x.na;have na6:acc∉ρ6.st:=λz=>by have h5:=x5.keep acc _ ha nacc;have:=x6.new acc z nacc;rw[h5]at this;cases this
  have ha5:=x5.keep acc _ ha nacc;have ha6:=x6.keep acc _ ha5 nacc;have na7:acc∉ρ7.st:=λz=>by have:=x7.new acc z na6;rw[ha6]at this;cases this
  have ha7:=x7.keep acc _ ha6 na6;have xb:ExtB acc ρ0 H0 ρ7 H7:=((x.trans (x5.b nacc)).trans (x6.b na6)).trans (x7.b na7);have ct:CstS X (YB++pinsAt fp s2.heap) acc ρ0 H0 δ1 l M2 [] s4:=⟨σ6,H7,ρ7,cs,I7,xb,j7,ev6.mono x7,ha7,((cl.mono x5).mono x6).mono x7,λb hb=>nomatch hb⟩
  have fin:∀s5,CstS X (YB++pinsAt fp s2.heap) acc ρ0 H0 δ3 l3 M3 [] s5->∃m,m<n/\∃i δ l M,eU fg ft fb δf lf Mf itn m i δ l M/\CstS X YB acc ρ0 H0 δ l M fp s5/\tn i s5.heap:=λs5 c5=>by
   obtain⟨c6,pp⟩:=c5.unpin (fp:=fp) λb hb=>by obtain⟨o,eo,_⟩:=T.obj _ _ tn5 b hb;exact⟨o,mem_pinsAt hb eo⟩
   exact⟨m,hm,i+1,δ3,l3,M3,rem3,c6,T.keep _ _ _ tn5 λb hb o eo=>pp (b,o) (mem_pinsAt hb eo)⟩
  cases ok with
  |true=>exact iteT (hmono _ _ _ fin (hb _ ρ0 H0 δ1 l M2 s4 δ3 l3 M3 ct e3))
  |false=>cases e3;exact iteF (fin s4 ct)
def ExtB.growO(na:acc∉ρ.st):ExtB acc ρ H ρ (upd H acc o):=⟨⟨[],by simp⟩,rfl,λa h n=>absurd h n,λa u h z ne=>by rw[upd_ne ne];exact h,na⟩
set_option tactic.hygienic true in
def Im(hxe:X.xe=λy y=>False)(hu:X.A.units + 1<cLine)(he:DE X E0 elt fe):
  Az X acc (λP s=>wpAny (model X.prog X.w) X.A (eval elt X.env) (λx s1=>wpAny (model X.prog X.w) X.A (call (.builtin "set.add") [.ref acc,x]) (λy s2=>P s2) (λy y=>False) s1) (λy y=>False) s) (lL fe):=by
 intro YB ρ0 H0 δ l M s δ' l' M' ct e;obtain⟨d,M1,e1,e2⟩:=DM.bind_ok e;obtain⟨σ,H,ρ,cs,I,x,j,ev,ha,cl,_⟩:=ct.ex;split at e2;rotate_left
 ·cases e2
 rename_i hz;cases e2;refine Tz (he.h YB s σ H (λv H1=>∃ρ1,Ext ρ H ρ1 H1/\J X.mg ρ1 M' H1/\Cv X.mg ρ1 H1 v d) I ⟨ρ,δ,M,ev,j,_,e1,λρ1 H1 v a1 a2 a3=>⟨ρ1,a1,a2,a3⟩⟩) (λu s1 h1=>?_) λy y z=>by rw[hxe]at z;exact z
 obtain⟨v,H1,I1,rv,ρ1,x1,j1,c1⟩:=h1;have nacc:acc∉ρ.st:=x.na;have ha1:=x1.keep acc _ ha nacc;have na1:acc∉ρ1.st:=λz=>by have:=x1.new acc z nacc;rw[ha]at this;cases this
 obtain⟨t,rfl,tne,et⟩:=QH hz.1;obtain⟨ts,h1,h2,h0,h3⟩:=cl.mono x1;have cl1:cs.length<=l.length:=by
  have a:=congrArg List.length h2;rw[S9]at a;have b:=Bj ts;have c:=congrArg List.length (qP h1).1;rw[S9]at c
  lia
 cases c1 with
 | tup nb hb cb=>
   rename_i b xs;rw[jZ cb]at hb;obtain rfl:u=Value.ref b:=rv;refine Ls hu I1 ha1 hb (λc hc=>(h3 c hc).2.2) (by have:=hz.2;lia) λs' I'=>?_
   refine⟨σ,_,ρ1,uB cs (b,t),I',(x.trans (x1.b na1)).trans (.growO na1),j1.x ha1,(ev.mono x1).x ha1,upd_same,⟨ts++[t],vm h1 et,?_,?_,λc hc=>?_⟩,λb hb=>nomatch hb⟩
   ·rw[Bh,Ib,h2]
   ·have a:=congrArg List.length (Bh cs (b,t));have c:=Bk (cs.map (·.2)) t;rw[S9]at a c;have:=hz.2;have a:(uB cs (b,t)).length=(iz (cs.map (·.2)) t).length:=a
    lia
   ·have nx:∀ {c:Addr×List Int}{ys:List V},H1 c.1=some (.tup ys)->upd H1 acc (lE X.prog X.w acc (uB cs (b,t))) c.1=H1 c.1:=λ{c ys} h=>upd_ne λz=>by rw [z,ha1]at h;cases h
    have hc':c∈cs\/c=(b,t):=by
     unfold uB at hc;split at hc
     ·exact .inl hc
     ·rcases TV.mp hc with h | h
      ·exact .inl h
      ·exact .inr (TJ.mp h)
    rcases hc' with h | rfl
    ·obtain⟨p1,p2,p3⟩:=h3 c h;exact⟨p1,p2,(nx p3).trans p3⟩
    ·exact⟨tne,nb,(nx hb).trans hb⟩
end L3
namespace L3
open PySem PySem.Spec L2 LA LB LS
open PyProof.Rows hiding St
def wD(h:Q (.ref s.heap.objs.size) { s with heap:=s.heap.push (bc #[] 0 (.fresh 0 0 (!bJ w))) }):wpAny (model prog w) A (newSet (.type "set")) Q E s:=by unfold newSet setsByText;refine SX (SX (Vq (S6 ?_)));exact Uj h
def HF(X:Cx)(ρ:Rh)(H:Hp)(x:V)(l:List D):Prop:=∃acc cs,x=.ref acc/\H acc=some (lE X.prog X.w acc cs)/\xg ρ H cs l
section
variable{acc:Addr}{ρ ρ1:Rh}{H H1:Hp}{o:HO}
def ExtB.ext(x:ExtB acc ρ (upd H acc o) ρ1 H1)(hf:H acc=none):Ext ρ H ρ1 H1:=⟨x.pre,x.vo,λa h n=>by
  have:=x.new a h n;by_cases z:a=acc
  ·rw[z];exact hf
  ·rw[upd_ne z]at this;exact this,λa u h n=>x.keep a u (by rw[upd_ne (ne_of_none h hf)];exact h) n (ne_of_none h hf)⟩
def ExtB.kpS(x:ExtB acc ρ (upd H acc o) ρ1 H1)(hf:H acc=none):Kp ρ H ρ1 H1:=⟨x.pre,λa u h n z=>⟨(x.ext hf).out h n,(x.ext hf).keeps h n⟩⟩
end
set_option tactic.hygienic true in
def Ji
  (hu:X.A.units+1<cLine) (hc:X.calm=true) (T:CompG X scope cl own js fr) (hi:DI X E t0 i0 fi)
  (hg:∀YB m fp C s₂ H₂,DG (X.aK YB scope (cellsFrom m scope.names cl) (own++fr) fp C s₂ H₂) E0 t0 fg) (ht:∀YB m fp C s₂ H₂,DTs (X.aK YB scope (cellsFrom m scope.names cl) (own++fr) fp C s₂ H₂) E0 f0 ft)
  (he:∀YB m fp C s₂ H₂,DE (X.aK YB scope (cellsFrom m scope.names cl) (own++fr) fp C s₂ H₂) E0 elt fe)
  (hs:∀y,foldedSetIterable i0 X.env y=pure y:=by intro _;rfl) :
  PE X (.SetComp elt [⟨t0,i0,f0,0⟩] scope pos) (tD X.mg E (HF X) (λδ=>fi δ>>=λit=>dq (bL fg ft (lL fe) it (aO own.length js δ) [])>>=λp=>pure p.2)):=by
 intro YB s σ H Q I h;obtain⟨ρ,δ,M,ev,j,g1⟩:=h;rw[PySem.arm_eval_SetComp];dsimp only;refine Wo (cl:=cl) (use:=none) rfl hs T.clos T.kind T.names ?_;refine thn (hi.h YB s σ H (λJt H1=>∃ρ1 M1 it,Ext ρ H ρ1 H1/\J X.mg ρ1 M1 H1/\ItOk X.mg ρ1 H1 Jt it/\Go X.mg E (HF X) Q ρ1 H1 (dq (bL fg ft (lL fe) it (aO own.length js δ) [])>>=λp=>pure p.2) M1) I
  ⟨ρ,δ,M,ev,j,g1.bind λρ1 H1 M1 Jt it e1 j1 iok g2=>⟨ρ1,M1,it,e1,j1,iok,g2⟩⟩) λv s1 h1=>thn h1 λitv s2 h2=>?_
 obtain⟨it,fp,tn,Jt,H2,rfl,I2,Tn,st2,f2,ρ1,M1,itn,x1,j1,iok,g2⟩:=h2;have hrun:∃δf lf Mf,bL fg ft (lL fe) itn (aO own.length js δ) [] M1=some (.ok (δf,lf),Mf)/\Go X.mg E (HF X) Q ρ1 H2 (pure lf) Mf:=by
  obtain⟨r,e,p⟩:=g2;have e:DM.bind _ _ M1=some r:=e;unfold DM.bind at e;split at e
  ·cases e
  ·rename_i c M' em;obtain⟨a,M'',_,z⟩:=jq em;cases z
  ·rename_i a M' em;obtain⟨a',M'',e1,z⟩:=jq em;cases z;exact⟨a.1,a.2,M',e1,r,e,p⟩
 obtain⟨δf,lf,Mf,hrun,g3⟩:=hrun;refine wD (lV ?_);have hlt:∀b∈fp,b<s2.heap.objs.size:=λb hb=>by obtain⟨o,e,_⟩:=Tn.obj _ _ st2 b hb;exact Te e
 dsimp only;generalize hP:s2.heap.push (bc #[] 0 (.fresh 0 0 (!bJ X.w)))=hp1;have hCs:hp1.objs.size=s2.heap.objs.size+1:=by rw[<-hP,T5]
 have hCe:hp1.objs.size+1=(hp1.push { cls:=.type "dict",data:=.dict #[] }).objs.size:=by rw[T5]
 have hC:s2.heap.objs.size<=hp1.objs.size:=by lia
 have hne:hp1.objs.size≠s2.heap.objs.size:=by lia
 have old1:∀b o,s2.heap.get? b=some o->hp1.get? b=some o:=λb o e=>by rw[<-hP];exact S5 _ e
 have old:∀b o,s2.heap.get? b=some o->(pushCells (hp1.push { cls:=.type "dict",data:=.dict #[] }) scope.names).get? b=some o:=λb o e=>Vd _ _ _ _ (S5 _ (old1 b o e))
 have new:SetT X.prog X.w (!bJ X.w) (pushCells (hp1.push { cls:=.type "dict",data:=.dict #[] }) scope.names) s2.heap.objs.size []:=⟨[],0,.fresh 0 0 (!bJ X.w),.refl _,Vd _ _ _ _ (S5 _ (by rw[<-hP];exact Tg _ rfl)),⟨.fresh _ _,.inl rfl,rfl,λs h=>(by cases h),Vb _,λz h=>(by cases h),rfl⟩,by show 0*5<7*3;decide⟩
 have ns:(pushCells (hp1.push { cls:=.type "dict",data:=.dict #[] }) scope.names).Ns hp1.objs.size λu=>none:=(Heap.Ns.new hp1 (.type "dict")).keeps (Vd _ _)
 have hfree:H2 s2.heap.objs.size=none:=I2.hok.fresh (Td _);have IC:=uz (t':=s2.toks) T I2 f2 hlt old (Td _) hC hne hCe (Ue hC (WM _)) (U7 _) (XD hC) rfl (Ck new) ns;have OK:=IC.ok;have fok:∀H',(∀b∈fp,H' b=none)->∀b∈fp,FpOk (X.aK YB scope (cellsFrom (hp1.objs.size+1) scope.names cl) (own++fr) fp hp1.objs.size s2 H2) [] H' b:=λH' hn b hb=>by
  obtain⟨_,g2,g3,g4,g5,g6⟩:=f2 b hb;refine⟨hn b hb,Tj (Tr (hlt b hb) hC),λhm=>?_,.inl hb,(OK.exf b hb).2,λp hp=>g6 p (by simpa using hp)⟩
  rcases Tt.mp (I2.stkSub _ hm) with z | z
  ·exact g2 z
  ·exact g3 z
 have fp1:∀b∈fp,upd H2 s2.heap.objs.size (lE X.prog X.w s2.heap.objs.size []) b=none:=λb hb=>by rw[upd_ne (Tj (hlt b hb))];exact (f2 b hb).1
 have jb:J X.mg ρ1 M1 (upd H2 s2.heap.objs.size (lE X.prog X.w s2.heap.objs.size [])):=j1.lay _ hfree;have nf:=j1.fresh hfree;have st:CstS (X.aK YB scope (cellsFrom (hp1.objs.size+1) scope.names cl) (own++fr) fp hp1.objs.size s2 H2) [] s2.heap.objs.size ρ1 (upd H2 s2.heap.objs.size (lE X.prog X.w s2.heap.objs.size [])) (aO own.length js δ) [] M1 fp
   { s2 with heap:=pushCells (hp1.push { cls:=.type "dict",data:=.dict #[] }) scope.names,toks:=s2.toks }:=
  ⟨_,_,_,[],IC,.refl (λz=>nf (.inl z)),jb,(rE (ev.mono x1) _ _).mono (.lay hfree),upd_same,⟨[],rfl,rfl,Vb _,λc h=>(by cases h)⟩,fp1⟩
 have tn0:tn 0 (pushCells (hp1.push { cls:=.type "dict",data:=.dict #[] }) scope.names):=Tn.keep _ _ _ st2 (λb u o e=>old b o e)
 have loop:codeAny (model X.prog X.w) X.A (.compLoop (.SetComp elt [⟨t0,i0,f0,0⟩] scope pos) 0 (.ref it) (.ref s2.heap.objs.size) (compEnvC scope (cellsFrom (hp1.objs.size+1) scope.names cl) hp1.objs.size X.env))
   (compPost (model X.prog X.w) X.A X.xe none (EP X YB σ Q) (.ref s2.heap.objs.size) hp1.objs.size) { s2 with heap:=pushCells (hp1.push { cls:=.type "dict",data:=.dict #[] }) scope.names,toks:=s2.toks }:=by
  refine Kw (X:=X.aK YB scope (cellsFrom (hp1.objs.size+1) scope.names cl) (own++fr) fp hp1.objs.size s2 H2) hc rfl (Py ..) Bo (λP P' s hp h=>Tz h (λx s1 h1=>Tz h1 (λu s2 h2=>hp _ h2) λu u z=>z) λu u z=>z) (hg ..) (ht ..) (Im (X:=X.aK YB scope (cellsFrom (hp1.objs.size+1) scope.names cl) (own++fr) fp hp1.objs.size s2 H2) rfl hu (he ..)) Tn iok (λρ H x=>x.kpS hfree) fok st tn0 hrun λs' c'=>?_
  obtain⟨σ4,H4,ρ4,cs,I4,x4,j4,ev4,ha4,cl4,fr4⟩:=c'.ex;obtain⟨m4,hn4,_⟩:=I4.loc;refine⟨m4,hn4,λh' hsb'=>?_⟩
  have un:=vp I4.base hsb' hC;have ok4:=rF I4.hok hsb' I4.free;exact⟨.ref s2.heap.objs.size,H4,I2.call' (s':={ s' with heap:=h' }) (ch:=fp) (I4.os) un ok4 I4.bare (λb hb=>by obtain⟨_,g2,g3,g4,g5,g6⟩:=f2 b hb;exact⟨g4,g2,g5,g6⟩),rfl,Go.pure (a:=lf) g3 ρ4 H4 (.ref s2.heap.objs.size) (x4.ext hfree) j4 ⟨_,cs,rfl,ha4,cl4⟩⟩
 show codeAny _ _ (.compStart _ 0 (.ref it) (.ref s2.heap.objs.size) (compEnvC scope (cellsFrom (hp1.objs.size+1) scope.names cl) hp1.objs.size X.env)) _ _;exact pB rfl rfl loop (Tn.self X.A 0 _ _ _ tn0 loop)
def Hr(l:List D):Option D:=(dB l).map λts=>.lst ((Aa (qg ts)).map tupI)
theorem yu:∀{cs:List (Addr×List Int)},(∀c∈cs,c.1∉ρ/\H c.1=some (.tup (c.2.map V.int)))->Cvs mg ρ H (cs.map λc=>V.ref c.1) ((cs.map (·.2)).map tupI)
 |[],_=>.nil
 |c::cs,h=>.cons (.tup (h c TY).1 (h c TY).2 (Cvs.ints _)) (yu λx hx=>h x (Ua _ hx))
def Fx
  (hh:X.A.handled=none) (hu:X.A.units+1<cLine) (hm:X.mg "sorted"=none) (hc:X.calm=true) (T:CompG X scope cl own js fr) (hi:DI X E t0 i0 fi)
  (hg:∀YB m fp C s₂ H₂,DG (X.aK YB scope (cellsFrom m scope.names cl) (own++fr) fp C s₂ H₂) E0 t0 fg) (ht:∀YB m fp C s₂ H₂,DTs (X.aK YB scope (cellsFrom m scope.names cl) (own++fr) fp C s₂ H₂) E0 f0 ft)
  (he:∀YB m fp C s₂ H₂,DE (X.aK YB scope (cellsFrom m scope.names cl) (own++fr) fp C s₂ H₂) E0 elt fe)
  (hs:∀y,foldedSetIterable i0 X.env y=pure y:=by intro _;rfl) (hgl:Gl X "sorted":=by rfl) :
  DE X E (.Call (.Name "sorted" p1) [.SetComp elt [⟨t0,i0,f0,0⟩] scope pos] [] pos1) (λδ=>(fi δ>>=λit=>dq (bL fg ft (lL fe) it (aO own.length js δ) [])>>=λp=>pure p.2)>>=λl=>rd (λz=>Hr l)):=
 ⟨PE.mono (Dt (yo hh) hm (Jl (Ji hu hc T hi hg ht he hs) zF) hgl) fun σ H Q h=>by
  obtain⟨ρ,δ,M,ev,j,g1⟩:=h;refine⟨ρ,δ,M,ev,j,g1.bind λρ1 H1 M1 x l e1 j1 c1 g2=>?_⟩
  obtain⟨acc,cs,rfl,ha,ts,h1,h2,h0,h3⟩:=c1;obtain⟨d,e,q⟩:=g2.rd;unfold Hr at e;rw[h1]at e;cases e;have le:cs.length<=60:=by lia
  refine⟨acc,cs,rfl,ha,λc hc=>⟨(h3 c hc).1,(h3 c hc).2.2⟩,le,λl cs' hl pm es=>q ρ1 _ _ (.lay hl) (j1.lay _ hl) (.lst (j1.fresh hl) upd_same ?_)⟩
  rw[<-h2,<-es];exact (yu λc hc=>(h3 c (pm.mem_iff.mp hc)).2).mono (.lay hl)⟩
end L3
namespace L2
open PySem PySem.Spec PyProof.Rows LS LA LB
end L2
namespace L3
open PySem PySem.Spec L2 LA LB
end L3
namespace L3
open PySem PySem.Spec L2
open PyProof.Rows hiding St
end L3
namespace L3
open PySem PySem.Spec PyProof.Rows L2
abbrev TB(K:PySem.W.Frag)(x:Str):Prop:=PySem.W.nsIn K mainGlobals x=some none
def TD(K:PySem.W.Frag)(x:Str)(st:Stmt):Prop:=∀{h:Heap}{mg:Mg},K.In h->h.Ns mainGlobals mg->DefAt K mg x st
section
variable{K:PySem.W.Frag}{x:Str}{st:Stmt}{f:Addr}{oc:Value}{od an:Option Addr}{osl:Array (Option Value)}{kV doc pm cdv ct:Value}
def QF(a:PySem.W.nsIn K mainGlobals x=some (some (.ref f)))(l:K.lookup f=some ⟨oc,od,.func (PySem.W.fnOf x x (defArgs st) (defBody st) (defScope st) .none kV doc pm an cdv ct),osl⟩)(c:PySem.W.codeIn K cdv x=true)(k:PySem.W.keepIn K (.ref f)=true):TD K x st:=
 λX G=>Ih X G a l c k
end
section
variable{P:Program}{w:World}{K:PySem.W.Frag}{mg:Mg}{base:Heap}{k:Nat}{C:Addr}{c x qual:Str}{N ps:List Str}{st:Stmt}{fb:aa->DM Fl}{is:List Int}
def okd(T:DefAt K mg x st)(S:FnScope N ps (defScope st))(hbody:∀{f cdv A outer s H E},Rm k A x st s f cdv->Ds P w K mg base N x st f cdv A outer s H E fb)
  (hb:∀(kV doc pm:Value) (an:Option Addr) (cdv ct:Value) (us:List Value),us.length=ps.length->bindArgs (PySem.W.fnOf x x (defArgs st) (defBody st) (defScope st) .none kV doc pm an cdv ct) ⟨us,[]⟩=pure (ps.zip us):=by intro _ _ _ _ _ _ us hl;first | (obtain⟨_,rfl⟩:=vG hl;rfl) | (obtain⟨_,_,rfl⟩:=Og hl;rfl) | (obtain⟨_,_,_,rfl⟩:=Oh hl;rfl) | (obtain⟨_,_,_,_,rfl⟩:=Oi hl;rfl)) :
  DefD P w K mg base (k+1) x ps (aL ps.length N.length fb):=L3.DefAt.okD T S hb λz z z z z z z=>hbody
def okn(fb:Nat->aa->DM Fl)(T:DefAt K mg x st)(S:FnScope N ps (defScope st))(hf:∀ds M r,F ds M=some r->∃n,aL ps.length N.length (fb n) ds M=some r)(hbody:∀n {f cdv A outer s H E},Rm k A x st s f cdv->Ds P w K mg base N x st f cdv A outer s H E (fb n))
  (hb:∀(kV doc pm:Value) (an:Option Addr) (cdv ct:Value) (us:List Value),us.length=ps.length->bindArgs (PySem.W.fnOf x x (defArgs st) (defBody st) (defScope st) .none kV doc pm an cdv ct) ⟨us,[]⟩=pure (ps.zip us):=by intro _ _ _ _ _ _ us hl;first | (obtain⟨_,rfl⟩:=vG hl;rfl) | (obtain⟨_,_,rfl⟩:=Og hl;rfl) | (obtain⟨_,_,_,rfl⟩:=Oh hl;rfl) | (obtain⟨_,_,_,_,rfl⟩:=Oi hl;rfl)) :
  DefD P w K mg base (k+1) x ps F:=L3.DefAt.okN T S hb hf λn z z z z z z z=>hbody n
def QX(T:MethAt K C x qual st)(m:mg c=some (.ref C))(cl:L2.Cls K C)(S:FnScope N ps (defScope st))(hbody:∀{f cdv A outer s H E},Rm k A qual st s f cdv->Ds P w K mg base N qual st f cdv A outer s H E fb):MethD P w K mg base (k+1) c x qual st ps (aL ps.length N.length fb):=L3.MethAt.okD T m cl S λz z z z z z z=>hbody
end
end L3
namespace LA
open PySem PySem.W PySem.Calls LS PyProof.Rows LB
end LA
namespace L2
open PySem PySem.Spec PyProof.Rows LS LA LB
end L2
namespace L3
open PySem PySem.Spec L2 LA LB LS
open PyProof.Rows hiding St
end L3
namespace L3
open PySem PySem.Spec L2
open PyProof.Rows hiding St
end L3
namespace L3
open PySem PySem.Spec L2 LB
end L3
namespace L3
open PySem PySem.Spec L2
open PyProof.Rows hiding St
section
variable{X:Cx}{E:XK}{a:Expr}{fa:aa->DM D}{fs:aa->DM (List D)}{pos p1 p2 p3 p4:Pos}
def JG:D->D->Mo->Option D
 |.tup l,.tup [],_=>some (.bl l.isEmpty)
 |_,_,_=>none
def K4(hu:X.A.units+64<cLine):OpR X (compareOp .Eq) (λx y H Q=>∃a b xs,x=.ref a/\y=.ref b/\H a=some (.tup xs)/\H b=some (.tup [])/\Q (.bl xs.isEmpty) H):=by
 intro YB s σ H x y v u Q I rx ry h;obtain⟨a,b,xs,rfl,rfl,ha,hb,q⟩:=h;cases rx;cases ry;obtain⟨i1,r1,h1,_⟩:=I.tuple (SqT.of (K:=X.K) ha);obtain⟨i2,r2,h2,_⟩:=I.tuple (SqT.of (K:=X.K) hb);cases r2;refine PySem.SeqAt.RcAt.tuples (e:=λz=>true) h1 h2 (by lia) (λj z j2=>absurd j2 (Nat.not_lt_zero _)) _ _ _ _ ?_
 refine⟨.bl xs.isEmpty,H,I,?_,q⟩;cases r1<;>rfl
def BW(hu:X.A.units + 64<cLine):bU X E (compareOp .Eq) (λx y=>rd (JG x y)):=bU.of (K4 hu) λx y H Q ρ M dx dy d j cx cy e q=>by
 unfold JG at e;split at e
 ·cases e;cases cx with
  | tup n1 h1 c1=>
    cases cy with
    |tup n2 h2 c2=>cases c2;refine⟨_,_,_,rfl,rfl,h1,h2,?_⟩;rw[c1.empty];exact q ρ H _ .refl j (.bl _)
 ·cases e
def nb(b:Bool):Int:=if b=true then 1 else 0
end
end L3
namespace L2
open PySem PySem.Spec PyProof.Rows LS
end L2
namespace L3
open PySem PySem.Spec L2
end L3
namespace L3
open PySem PySem.Spec L2 PyProof.Rows
end L3
namespace L3
open PySem PySem.Spec L2
open PyProof.Rows hiding St
abbrev AT:=L2.St->Rh->Hp->Prop
def tA(An:AT)(mg:Str->Option Value)(E:XK)(f:aa->DM D):TE:=λσ H Q=>∃ρ δ M,An σ ρ H/\Ev mg ρ H σ δ/\J mg ρ M H/\Go mg E (Cv mg) Q ρ H (f δ) M
open PySem PySem.Spec L2
open PyProof.Rows hiding St
def Rr(lo c:Int)(n:Nat):List D:=(List.range n).map λi=>.int (lo+(i:Nat)*c)
open Classical in
noncomputable def SQ:List D->Option Itn
 |[.int i,.int j,.int c]=>if Rq i j c then some (.fix (Rr i c (Builtin.Range.rangeSize i j c).toNat)) else none
 |_=>none
def SJ:D->D->Mo->Option D
 |.tup l,.int k,_=>if decide (1<=l.length/\l.length<=1000/\2<=k/\k<=100) then some (.tup (List.replicate k.toNat l).flatten) else none
 |_,_,_=>none
end L3
namespace L2
open PySem PySem.Spec PyProof.Rows LS
section
variable{X:Cx}
def Mh(ta:TA):TE:=λσ H Q=>ta σ H λvs H1=>∃(p:Addr) (ns:List Int),vs=[.ref p]/\H1 p=some (.tup (ns.map V.int))/\(ns.length<=2000/\(ns.foldl step_dedup []).length<=60)/\∀l,H1 l=none->Q (.ref l) (upd H1 l (.lst ((eN ns).map V.int)))
def GZ{a:Expr}{ta:TA}{p1 p2 pos1 pos2:Pos}(hc:X.calm=true)(hgL:Gl X "sorted")(hmL:X.mg "sorted"=none)(hg:Gl X "set")(hm:X.mg "set"=none)(ha:PA X [a] ta)(hs:notStar a=true:=by rfl):
  PE X (.Call (.Name "sorted" p1) [.Call (.Name "set" p2) [a] [] pos2] [] pos1) (Mh ta):=by
 intro YB s σ H Q I h;have hst:starEach [Expr.Call (.Name "set" p2) [a] [] pos2] X.env=(false,eval (.Call (.Name "set" p2) [a] [] pos2) X.env)::starEach [] X.env:=bH rfl;refine Call_ (ld_blt I hgL hmL xY (Yj ?_ hst rfl));rw[hst];show wpAny _ _ (spliced ((false,eval (.Call (.Name "set" p2) [a] [] pos2) X.env)::[])) _ _ s;refine Yr ?_;refine Call_ (ld_blt I hg hm Fb (UT (thn (ha pos2 YB s σ H _ I h) λus s1 ⟨vs,H1,I1,r1,q1⟩=>?_) (bH hs) rfl))
 obtain⟨p,ns,e,hp,hl,q⟩:=q1;subst e;cases r1 with
 | cons r rr=>
   cases rr;cases r;obtain⟨its,vl,ho,_⟩:=I1.tuple (SqT.of (K:=X.K) hp);have ia:=wA vl;have il:its.length=ns.length:=Xx ia;have hd:=I1.ok.hd hc;refine Ff (items:=its.toArray) (ns:=ns) hd ho (by simpa using ia) (by simp[scanBound];have:=hl.1;lia) λh1 tk1 g k1=>?_
   refine Ys ?_;rw[show its.toArray.size=ns.length from by rw[TF];exact il,yJ]at g
   have sl:=hl.2;refine vh (s:={ s1 with heap:=h1,toks:=tk1 }) hd g (by lia) λh2 tk2 d2 l m ws ms hge hol ims pm so k2=>?_
   have sz:s1.heap.objs.size<=l:=by obtain⟨es,ep,t,hs1,_⟩:=g.ex;exact Ue (Wn (Te hs1)) hge
   have em:ms=eN ns:=dD (pm.trans (bD _).1.symm) so (bD _).2;have kk:∀b o,s1.heap.get? b=some o->h2.get? b=some o:=λb o e=>k2 b o (k1 b o (Te e) e)
   have zl:((eN ns).map V.int).length<=sizeLine:=by
    rw[S9];have:=LC ns;have:=hl.1;show _<=2^24
    lia
   have I2:=I1.call (h':=h2) (t':=tk2) (d':=d2) (g':=s1.gens) (ch:=[]) (Un.laid kk sz (I1.hok.fresh sz)) (I1.hok.laid (o:=.lst ((eN ns).map V.int)) kk sz ⟨zl,ws,m,by rw[<-em];exact vals_ints ims,hol⟩) I1.bare (λy z=>nomatch z)
   exact⟨.ref l,upd H1 l (.lst ((eN ns).map V.int)),I2,rfl,q l (I1.hok.fresh sz)⟩
end
end L2
namespace L3
open PySem PySem.Spec L2
open PyProof.Rows hiding St
section
variable{X:Cx}{E:XK}{a:Expr}{fa:aa->DM (List D)}{p1 p2 pos1 pos2:Pos}
def Ad:List D->Option (List D)
 |[.tup l]=>(intsOf l).bind λns=>if ns.length<=2000/\(ns.foldl step_dedup []).length<=60 then some ((eN ns).map D.int) else none
 |_=>none
set_option tactic.hygienic true in
def Fy(hc:X.calm=true)(hmL:X.mg "sorted"=none)(hm:X.mg "set"=none)(ha:DA X E [a] fa)(hgL:Gl X "sorted":=by rfl)(hg:Gl X "set":=by rfl)(hs:notStar a=true:=by rfl):
  DE X E (.Call (.Name "sorted" p1) [.Call (.Name "set" p2) [a] [] pos2] [] pos1) (λδ=>fa δ>>=λl=>opt ((Ad l).map D.lst)):=⟨PE.mono (GZ hc hgL hmL hg hm ha.h.h hs) λσ H Q h=>by
 obtain⟨ρ,δ,M,ev,j,g1⟩:=h;refine⟨ρ,δ,M,ev,j,g1.bind λρ1 H1 M1 xs ds e1 j1 c1 g2=>?_⟩
 obtain⟨d,ed,q⟩:=g2.opt;obtain⟨l,el,rfl⟩:=S8.mp ed;unfold Ad at el;split at el
 ·obtain⟨ns,h1,el⟩:=TQ.mp el;split at el
  ·rename_i hn;cases el;have e0:=qy h1;subst e0;obtain⟨v,rfl,k⟩:=c1.one;cases k with
   |tup n h c=>exact⟨_,ns,rfl,by rw[h,jZ c],hn,λl hl=>q ρ1 _ _ (.lay hl) (j1.lay _ hl) (.lst (j1.fresh hl) upd_same (Cvs.ints _))⟩
  ·cases el
 ·cases el⟩
end
open PySem PySem.Spec L2
open PyProof.Rows hiding St
end L3
namespace L3
open PySem PySem.Spec PyProof.Rows L2
end L3
namespace L3
open PySem PySem.Spec L2 LA LB LS
open PyProof.Rows hiding St
def CN(ks:List Int)(l:List D):Prop:=∃ns:List Int,l=ns.map D.int/\ks=ns.foldl step_dedup []
def CN.len{ks:List Int}{l:List D}(h:CN ks l):ks.length<=l.length:=by obtain⟨ns,rfl,rfl⟩:=h;rw[S9];exact foldl_step_dedup_nil_length_le ns
structure CstI(X:Cx)(YB:List (Addr×Obj))(acc:Addr)(ρ0:Rh)(H0:Hp)(δ:aa)(l:List D)(M:Mo)(fp:List Addr)(s:Shared):Prop where
 ex:∃σ H ρ ks,Inv X YB σ H s/\ExtB acc ρ0 H0 ρ H/\J X.mg ρ M H/\Ev X.mg ρ H σ δ/\H acc=some (mY X.prog X.w acc ks)/\CN ks l/\∀b∈fp,H b=none
def jc(fe:aa->DM D)(δ:aa)(l:List D):DM (aa×List D):=fe δ>>=λd=>match d with
 |.int k=>if l.length<2000 then pure (δ,l++[.int k]) else stuck
 |_=>stuck
def vy(X:Cx)(acc:Addr)(W:(Shared->Prop)->Shared->Prop)(fb:aa->List D->DM (aa×List D)):Prop:=
 ∀YB ρ0 H0 δ l M s δ' l' M',CstI X YB acc ρ0 H0 δ l M [] s->fb δ l M=some (.ok (δ',l'),M')->W (λs'=>CstI X YB acc ρ0 H0 δ' l' M' [] s') s
def CstI.unpin{X:Cx}{YB pl:List (Addr×Obj)}{acc:Addr}{ρ0:Rh}{H0:Hp}{δ:aa}{l:List D}{M:Mo}{s:Shared}{fp:List Addr}(c:CstI X (YB++pl) acc ρ0 H0 δ l M [] s)(h:∀b∈fp,∃o,(b,o)∈pl):
  CstI X YB acc ρ0 H0 δ l M fp s/\∀p∈pl,s.heap.get? p.1=some p.2:=by
 obtain⟨σ,H,ρ,ks,I,x,j,ev,ha,cl,_⟩:=c.ex;refine⟨⟨σ,H,ρ,ks,I.unpinned,x,j,ev,ha,cl,λb hb=>?_⟩,λp hp=>(I.pin p (T7 _ (T7 _ hp))).1⟩
 obtain⟨o,ho⟩:=h b hb;exact (I.pin (b,o) (T7 _ (T7 _ ho))).2.1
def By{X:Cx}(hc:X.calm=true)(hxe:X.xe=λy y=>False){elt:Expr}{gens:List Comprehension}{scope:Scope}{pos:Pos}{depth:Nat}{g:Comprehension}{bodyK:Sem Fin->Sem Fin}{W:(Shared->Prop)->Shared->Prop}{it acc:Addr}
  (hturn:compTurn (.SetComp elt gens scope pos) depth (.ref it) (.ref acc) X.env=turnOf g bodyK (.compLoop (.SetComp elt gens scope pos) depth (.ref it) (.ref acc) X.env) (.ref it) X.env) (hW:iY X.prog X.w X.A bodyK W) (hmono:∀P P' s,(∀s,P s->P' s)->W P s->W P' s)
  {fg:D->aa->DM aa}{ft:aa->DM Bool}{fb:aa->List D->DM (aa×List D)} (hg:DG X E0 g.target fg) (ht:DTs X E0 g.ifs ft) (hb:vy X acc W fb)
  {Jt:It}{fp:List Addr}{tn:Nat->Heap->Prop} (T:Turn X.prog X.w X.K g.target Jt fp it tn) {itn:Itn}{ρi ρ0:Rh}{Hi H0:Hp} (iok:ItOk X.mg ρi Hi Jt itn) (kp0:∀ρ H,ExtB acc ρ0 H0 ρ H->Kp ρi Hi ρ H) {YB:List (Addr×Obj)}
  (fok:∀H',(∀b∈fp,H' b=none)->∀b∈fp,FpOk X YB H' b) {δ:aa}{l:List D}{M:Mo}{s:Shared} (st:CstI X YB acc ρ0 H0 δ l M fp s) (htn:tn 0 s.heap) {δf:aa}{lf:List D}{Mf:Mo} (hrun:bL fg ft fb itn δ l M=some (.ok (δf,lf),Mf))
  {R:Result->Shared->Prop} (hR:∀s',CstI X YB acc ρ0 H0 δf lf Mf fp s'->R (.ok .next) s') :
  codeAny (model X.prog X.w) X.A (.compLoop (.SetComp elt gens scope pos) depth (.ref it) (.ref acc) X.env) R s:=by
 obtain⟨n0,rem0⟩:=eU.start hrun;refine wB (λn s=>∃i δ l M,eU fg ft fb δf lf Mf itn n i δ l M/\CstI X YB acc ρ0 H0 δ l M fp s/\tn i s.heap) hturn hW ?_ hmono n0 ⟨0,δ,l,M,rem0,st,htn⟩
 rintro n s ⟨i,δ,l,M,rem,st,htn⟩;obtain⟨σ,H,ρ,ks,I,x,j,ev,ha,cl,fr⟩:=st.ex;have kp:Kp ρi Hi ρ H:=kp0 _ _ x;rcases rem.step with ⟨hd,rfl,rfl,rfl⟩ | ⟨d,δ1,M1,b,M2,δ3,l3,M3,m,hd,e1,e2,e3,hm,rem3⟩
 ·refine Tz (T.done X rfl rfl rfl hc i YB s σ H _ I (fok H fr) htn (iok.stop i ρ H _ kp j hd)) (λr s1 h1=>?_) λy y z=>z
  obtain⟨rfl,I1⟩:=h1;exact hR s1 ⟨σ,H,ρ,ks,I1,x,j,ev,ha,cl,fr⟩
 ·obtain ⟨go,yl⟩:=iok.item i ρ H M d kp j hd;refine Tz (T.item X rfl rfl rfl hc i YB s σ H (λy y=>False) I (fok H fr) htn go) (λr s1 h1=>?_) λy y z=>z
  obtain⟨u,rfl,h1⟩:=h1;refine Tz h1 (λy s2 h2=>?_) λy y z=>z
  obtain⟨xv,H5,I5,r5,y5,tn5,fr5⟩:=h2;obtain⟨x5,j5,c5⟩:=yl xv H5 y5;have I5':=I5.pinned (fok H5 fr5) (T.obj _ _ tn5);refine Tz (hg.h _ s2 σ H5 xv u (λσ6 H6=>∃ρ6,Ext ρ H5 ρ6 H6/\J X.mg ρ6 M1 H6/\Ev X.mg ρ6 H6 σ6 δ1) I5' r5 ⟨ρ,δ,M,d,ev.mono x5,j5,c5,_,e1,λρ6 H6 σ6 a1 a2 a3=>⟨ρ6,a1,a2,a3⟩⟩) (λy s3 h3=>?_) λy y z=>by rw[hxe]at z;exact z
  obtain⟨σ6,H6,I6,ρ6,x6,j6,ev6⟩:=h3;refine Tz (ht.h _ s3 σ6 H6 (λb' H7=>b'=b/\∃ρ7,Ext ρ6 H6 ρ7 H7/\J X.mg ρ7 M2 H7) I6 ⟨ρ6,δ1,M1,ev6,j6,_,e2,λρ7 H7 b' a1 a2 a3=>⟨a3,ρ7,a1,a2⟩⟩) (λok s4 h4=>?_) λy y z=>by rw[hxe]at z;exact z
  obtain⟨H7,I7,rfl,ρ7,x7,j7⟩:=h4;have nacc:acc∉ρ.st:=x.na;have na6:acc∉ρ6.st:=λz=>by have h5:=x5.keep acc _ ha nacc;have:=x6.new acc z nacc;rw[h5]at this;cases this
  have ha5:=x5.keep acc _ ha nacc;have ha6:=x6.keep acc _ ha5 nacc;have na7:acc∉ρ7.st:=λz=>by have:=x7.new acc z na6;rw[ha6]at this;cases this
  have ha7:=x7.keep acc _ ha6 na6;have xb:ExtB acc ρ0 H0 ρ7 H7:=((x.trans (x5.b nacc)).trans (x6.b na6)).trans (x7.b na7);have ct:CstI X (YB++pinsAt fp s2.heap) acc ρ0 H0 δ1 l M2 [] s4:=⟨σ6,H7,ρ7,ks,I7,xb,j7,ev6.mono x7,ha7,cl,λb hb=>nomatch hb⟩
  have fin:∀s5,CstI X (YB++pinsAt fp s2.heap) acc ρ0 H0 δ3 l3 M3 [] s5->∃m,m<n/\∃i δ l M,eU fg ft fb δf lf Mf itn m i δ l M/\CstI X YB acc ρ0 H0 δ l M fp s5/\tn i s5.heap:=λs5 c5=>by
   obtain⟨c6,pp⟩:=c5.unpin (fp:=fp) λb hb=>by obtain⟨o,eo,_⟩:=T.obj _ _ tn5 b hb;exact⟨o,mem_pinsAt hb eo⟩
   exact⟨m,hm,i+1,δ3,l3,M3,rem3,c6,T.keep _ _ _ tn5 λb hb o eo=>pp (b,o) (mem_pinsAt hb eo)⟩
  cases ok with
  |true=>exact iteT (hmono _ _ _ fin (hb _ ρ0 H0 δ1 l M2 s4 δ3 l3 M3 ct e3))
  |false=>cases e3;exact iteF (fin s4 ct)
def ExtB.kpX{acc:Addr}{ρ ρ1:Rh}{H H1:Hp}{φ:Heap->Prop}(x:ExtB acc ρ H ρ1 H1)(ha:H acc=some (.ext φ)):Kp ρ H ρ1 H1:=⟨x.pre,λa o h n ne=>by
 have nac:a≠acc:=λz=>by rw[z,ha]at h;exact ne _ (Tu h).symm
 have ns:a∉ρ.st:=λz=>n (.inl z)
 refine⟨λz=>?_,x.keep a o h ns nac⟩
 rcases z with z | z
 ·have:=x.new a z ns;rw[h]at this;cases this
 ·rw[x.vo]at z;exact n (.inr z)⟩
set_option tactic.hygienic true in
def Il{X:Cx}(hxe:X.xe=λy y=>False){elt:Expr}{fe:aa->DM D}{acc:Addr}(he:DE X E0 elt fe):
  vy X acc (λP s=>wpAny (model X.prog X.w) X.A (eval elt X.env) (λx s1=>wpAny (model X.prog X.w) X.A (call (.builtin "set.add") [.ref acc,x]) (λy s2=>P s2) (λy y=>False) s1) (λy y=>False) s) (jc fe):=by
 intro YB ρ0 H0 δ l M s δ' l' M' ct e;obtain⟨d,M1,e1,e2⟩:=DM.bind_ok e;obtain⟨σ,H,ρ,ks,I,x,j,ev,ha,cl,_⟩:=ct.ex;split at e2;rotate_left
 ·cases e2
 rename_i k;split at e2;rotate_left
 ·cases e2
 rename_i hz;cases e2;refine Tz (he.h YB s σ H (λv H1=>∃ρ1,Ext ρ H ρ1 H1/\J X.mg ρ1 M' H1/\Cv X.mg ρ1 H1 v (.int k)) I ⟨ρ,δ,M,ev,j,_,e1,λρ1 H1 v a1 a2 a3=>⟨ρ1,a1,a2,a3⟩⟩) (λu s1 h1=>?_) λy y z=>by rw[hxe]at z;exact z
 obtain⟨v,H1,I1,rv,ρ1,x1,j1,c1⟩:=h1;have nacc:acc∉ρ.st:=x.na;have ha1:=x1.keep acc _ ha nacc;have na1:acc∉ρ1.st:=λz=>by have:=x1.new acc z nacc;rw[ha]at this;cases this
 have c2:v=.int k:=Cv.inv c1;subst c2;obtain⟨t,rfl⟩:=rv;have kl:=cl.len;refine Jp I1 ha1 (by show _<scanBound;have:2001<scanBound:=(by decide);lia) λs' I'=>?_
 refine⟨σ,_,ρ1,step_dedup ks k,I',(x.trans (x1.b na1)).trans (.growO na1),j1.x ha1,(ev.mono x1).x ha1,upd_same,?_,λb hb=>nomatch hb⟩
 obtain⟨ns,rfl,rfl⟩:=cl;exact⟨ns++[k],by simp,by rw[XM];rfl⟩
def Ml(elt t0 i0 t1 i1:Expr)(f0 f1:List Expr)(scope:Scope)(pos:Pos)(it acc:Value)(env:Env):
  compTurn (.SetComp elt [⟨t0,i0,f0,0⟩,⟨t1,i1,f1,0⟩] scope pos) 1 it acc env=turnOf ⟨t1,i1,f1,0⟩ (uF elt acc env) (.compLoop (.SetComp elt [⟨t0,i0,f0,0⟩,⟨t1,i1,f1,0⟩] scope pos) 1 it acc env) it env:=rfl
def Mj(elt t0 i0 t1 i1:Expr)(f0 f1:List Expr)(scope:Scope)(pos:Pos)(it acc:Value)(env:Env):
  compTurn (.SetComp elt [⟨t0,i0,f0,0⟩,⟨t1,i1,f1,0⟩] scope pos) 0 it acc env=turnOf ⟨t0,i0,f0,0⟩ (yQ (.SetComp elt [⟨t0,i0,f0,0⟩,⟨t1,i1,f1,0⟩] scope pos) i1 acc env) (.compLoop (.SetComp elt [⟨t0,i0,f0,0⟩,⟨t1,i1,f1,0⟩] scope pos) 0 it acc env) it env:=rfl
def Gg{X:Cx}(hc:X.calm=true)(hxe:X.xe=λy y=>False){elt t0 i0 t1 i1:Expr}{f0 f1:List Expr}{scope:Scope}{pos:Pos}{fi:aa->DM Itn}{fg:D->aa->DM aa}{ft:aa->DM Bool}{fe:aa->DM D}{acc:Addr}
  (hi:DI X E0 t1 i1 fi) (hg:DG X E0 t1 fg) (ht:DTs X E0 f1 ft) (he:DE X E0 elt fe) :
  vy X acc (λP s=>wpAny (model X.prog X.w) X.A (eval i1 X.env) (λx s1=>wpAny (model X.prog X.w) X.A (pyIter x) (λit s2=>
   codeAny (model X.prog X.w) X.A (.compStart (.SetComp elt [⟨t0,i0,f0,0⟩,⟨t1,i1,f1,0⟩] scope pos) 1 it (.ref acc) X.env) (λr s3=>match r with
    |.ok _=>P s3
    |.error _=>False) s2) (λy y=>False) s1) (λy y=>False) s) (j0 fi fg ft (jc fe)):=by
 intro YB ρ0 H0 δ l M s δ' l' M' ct e;obtain⟨itn,M2,e1,e3⟩:=DM.bind_ok e;obtain⟨σ,H,ρ,ys,I,x,j,ev,ha,cl,_⟩:=ct.ex;refine Tz (hi.h YB s σ H (λJt H1=>∃ρ1,Ext ρ H ρ1 H1/\J X.mg ρ1 M2 H1/\ItOk X.mg ρ1 H1 Jt itn) I ⟨ρ,δ,M,ev,j,_,e1,λρ1 H1 Jt a1 a2 a3=>⟨ρ1,a1,a2,a3⟩⟩) (λv s1 h1=>?_) λy y z=>by rw[hxe]at z;exact z
 refine Tz h1 (λitv s2 h2=>?_) λy y z=>by rw[hxe]at z;exact z
 obtain⟨it,fp,tn,Jt,H2,rfl,I2,Tn,st2,f2,ρ1,x1,j1,iok⟩:=h2;have nacc:acc∉ρ.st:=x.na;have ha2:=x1.keep acc _ ha nacc;have na1:acc∉ρ1.st:=λz=>by have:=x1.new acc z nacc;rw[ha]at this;cases this
 have st:CstI X YB acc ρ1 H2 δ l M2 fp s2:=⟨σ,H2,ρ1,ys,I2,.refl na1,j1,ev.mono x1,ha2,cl,λb hb=>(f2 b hb).1⟩
 have fok:∀H',(∀b∈fp,H' b=none)->∀b∈fp,FpOk X YB H' b:=λH' hn b hb=>⟨hn b hb,(f2 b hb).2⟩
 have loop:=By hc hxe (Ml elt t0 i0 t1 i1 f0 f1 scope pos (.ref it) (.ref acc) X.env) Bo (λP P' s hp h=>Tz h (λx s1 h1=>Tz h1 (λy s2 h2=>hp _ h2) λy y z=>z) λy y z=>z) hg ht (Il hxe he) Tn iok (λρ H x=>x.kpX ha2) fok st st2 e3
  (R:=λr s3=>match r with
    |.ok _=>CstI X YB acc ρ0 H0 δ' l' M' [] s3
    |.error _=>False) λs' c'=>by
    obtain⟨σ4,H4,ρ4,ys,I4,x4,j4,ev4,ha4,cl4,fr4⟩:=c'.ex;exact⟨σ4,H4,ρ4,ys,I4,(x.trans (x1.b na1)).trans x4,j4,ev4,ha4,cl4,λb hb=>nomatch hb⟩
 exact pB rfl rfl loop (Tn.self X.A 0 _ _ _ st2 loop)
def HD(X:Cx)(ρ:Rh)(H:Hp)(x:V)(l:List D):Prop:=∃acc ks,x=.ref acc/\H acc=some (mY X.prog X.w acc ks)/\CN ks l
set_option tactic.hygienic true in
def Du{X:Cx}{E:XK}{scope:Scope}{cl:List (Str×Addr)}{own:List Str}{js:List Nat}{fr:List Str}{elt t0 i0 t1 i1:Expr}{f0 f1:List Expr}{pos:Pos}{fi fi1:aa->DM Itn}{fg fg1:D->aa->DM aa}{ft ft1:aa->DM Bool}{fe:aa->DM D}
  (hc:X.calm=true) (T:CompG X scope cl own js fr) (hi:DI X E t0 i0 fi)
  (hg:∀YB m fp C s₂ H₂,DG (X.aK YB scope (cellsFrom m scope.names cl) (own++fr) fp C s₂ H₂) E0 t0 fg) (ht:∀YB m fp C s₂ H₂,DTs (X.aK YB scope (cellsFrom m scope.names cl) (own++fr) fp C s₂ H₂) E0 f0 ft)
  (hi1:∀YB m fp C s₂ H₂,DI (X.aK YB scope (cellsFrom m scope.names cl) (own++fr) fp C s₂ H₂) E0 t1 i1 fi1) (hg1:∀YB m fp C s₂ H₂,DG (X.aK YB scope (cellsFrom m scope.names cl) (own++fr) fp C s₂ H₂) E0 t1 fg1)
  (ht1:∀YB m fp C s₂ H₂,DTs (X.aK YB scope (cellsFrom m scope.names cl) (own++fr) fp C s₂ H₂) E0 f1 ft1)
  (he:∀YB m fp C s₂ H₂,DE (X.aK YB scope (cellsFrom m scope.names cl) (own++fr) fp C s₂ H₂) E0 elt fe)
  (hs:∀y,foldedSetIterable i0 X.env y=pure y:=by intro _;rfl) (hs1:∀(env:Env) y,foldedSetIterable i1 env y=pure y:=by intro _ _;rfl) :
  PE X (.SetComp elt [⟨t0,i0,f0,0⟩,⟨t1,i1,f1,0⟩] scope pos) (tD X.mg E (HD X) (λδ=>fi δ>>=λit=>dq (bL fg ft (j0 fi1 fg1 ft1 (jc fe)) it (aO own.length js δ) [])>>=λp=>pure p.2)):=by
 intro YB s σ H Q I h;obtain⟨ρ,δ,M,ev,j,g1⟩:=h;rw[PySem.arm_eval_SetComp];dsimp only;refine Wo (cl:=cl) (use:=none) rfl hs T.clos T.kind T.names ?_;refine thn (hi.h YB s σ H (λJt H1=>∃ρ1 M1 it,Ext ρ H ρ1 H1/\J X.mg ρ1 M1 H1/\ItOk X.mg ρ1 H1 Jt it/\Go X.mg E (HD X) Q ρ1 H1 (dq (bL fg ft (j0 fi1 fg1 ft1 (jc fe)) it (aO own.length js δ) [])>>=λp=>pure p.2) M1) I
  ⟨ρ,δ,M,ev,j,g1.bind λρ1 H1 M1 Jt it e1 j1 iok g2=>⟨ρ1,M1,it,e1,j1,iok,g2⟩⟩) λv s1 h1=>thn h1 λitv s2 h2=>?_
 obtain⟨it,fp,tn,Jt,H2,rfl,I2,Tn,st2,f2,ρ1,M1,itn,x1,j1,iok,g2⟩:=h2;have hrun:∃δf lf Mf,bL fg ft (j0 fi1 fg1 ft1 (jc fe)) itn (aO own.length js δ) [] M1=some (.ok (δf,lf),Mf)/\Go X.mg E (HD X) Q ρ1 H2 (pure lf) Mf:=by
  obtain⟨r,e,p⟩:=g2;have e:DM.bind _ _ M1=some r:=e;unfold DM.bind at e;split at e
  ·cases e
  ·rename_i c M' em;obtain⟨a,M'',_,z⟩:=jq em;cases z
  ·rename_i a M' em;obtain⟨a',M'',e1,z⟩:=jq em;cases z;exact⟨a.1,a.2,M',e1,r,e,p⟩
 obtain⟨δf,lf,Mf,hrun,g3⟩:=hrun;refine wD (lV ?_);have hlt:∀b∈fp,b<s2.heap.objs.size:=λb hb=>by obtain⟨o,e,_⟩:=Tn.obj _ _ st2 b hb;exact Te e
 dsimp only;generalize hP:s2.heap.push (bc #[] 0 (.fresh 0 0 (!bJ X.w)))=hp1;have hCs:hp1.objs.size=s2.heap.objs.size+1:=by rw[<-hP,T5]
 have hCe:hp1.objs.size+1=(hp1.push { cls:=.type "dict",data:=.dict #[] }).objs.size:=by rw[T5]
 have hC:s2.heap.objs.size<=hp1.objs.size:=by lia
 have hne:hp1.objs.size≠s2.heap.objs.size:=by lia
 have old1:∀b o,s2.heap.get? b=some o->hp1.get? b=some o:=λb o e=>by rw[<-hP];exact S5 _ e
 have old:∀b o,s2.heap.get? b=some o->(pushCells (hp1.push { cls:=.type "dict",data:=.dict #[] }) scope.names).get? b=some o:=λb o e=>Vd _ _ _ _ (S5 _ (old1 b o e))
 have new:SetG X.prog X.w (!bJ X.w) (pushCells (hp1.push { cls:=.type "dict",data:=.dict #[] }) scope.names) s2.heap.objs.size []:=⟨#[],0,.fresh 0 0 (!bJ X.w),Vd _ _ _ _ (S5 _ (by rw[<-hP];exact Tg _ rfl)),(λe he=>by simp at he),.refl _,rfl,TI.fresh 0 0,by decide⟩
 have ns:(pushCells (hp1.push { cls:=.type "dict",data:=.dict #[] }) scope.names).Ns hp1.objs.size λu=>none:=(Heap.Ns.new hp1 (.type "dict")).keeps (Vd _ _)
 have hfree:H2 s2.heap.objs.size=none:=I2.hok.fresh (Td _);have IC:=uz (t':=s2.toks) T I2 f2 hlt old (Td _) hC hne hCe (Ue hC (WM _)) (U7 _) (XD hC) rfl (Cj new) ns;have OK:=IC.ok;have fok:∀H',(∀b∈fp,H' b=none)->∀b∈fp,FpOk (X.aK YB scope (cellsFrom (hp1.objs.size+1) scope.names cl) (own++fr) fp hp1.objs.size s2 H2) [] H' b:=λH' hn b hb=>by
  obtain⟨_,g2,g3,g4,g5,g6⟩:=f2 b hb;refine⟨hn b hb,Tj (Tr (hlt b hb) hC),λhm=>?_,.inl hb,(OK.exf b hb).2,λp hp=>g6 p (by simpa using hp)⟩
  rcases Tt.mp (I2.stkSub _ hm) with z | z
  ·exact g2 z
  ·exact g3 z
 have fp1:∀b∈fp,upd H2 s2.heap.objs.size (mY X.prog X.w s2.heap.objs.size []) b=none:=λb hb=>by rw[upd_ne (Tj (hlt b hb))];exact (f2 b hb).1
 have jb:J X.mg ρ1 M1 (upd H2 s2.heap.objs.size (mY X.prog X.w s2.heap.objs.size [])):=j1.lay _ hfree;have nf:=j1.fresh hfree;have st:CstI (X.aK YB scope (cellsFrom (hp1.objs.size+1) scope.names cl) (own++fr) fp hp1.objs.size s2 H2) [] s2.heap.objs.size ρ1 (upd H2 s2.heap.objs.size (mY X.prog X.w s2.heap.objs.size [])) (aO own.length js δ) [] M1 fp
   { s2 with heap:=pushCells (hp1.push { cls:=.type "dict",data:=.dict #[] }) scope.names,toks:=s2.toks }:=
  ⟨_,_,_,[],IC,.refl (λz=>nf (.inl z)),jb,(rE (ev.mono x1) _ _).mono (.lay hfree),upd_same,⟨[],rfl,rfl⟩,fp1⟩
 have tn0:tn 0 (pushCells (hp1.push { cls:=.type "dict",data:=.dict #[] }) scope.names):=Tn.keep _ _ _ st2 (λb u o e=>old b o e)
 have loop:codeAny (model X.prog X.w) X.A (.compLoop (.SetComp elt [⟨t0,i0,f0,0⟩,⟨t1,i1,f1,0⟩] scope pos) 0 (.ref it) (.ref s2.heap.objs.size) (compEnvC scope (cellsFrom (hp1.objs.size+1) scope.names cl) hp1.objs.size X.env))
   (compPost (model X.prog X.w) X.A X.xe none (EP X YB σ Q) (.ref s2.heap.objs.size) hp1.objs.size) { s2 with heap:=pushCells (hp1.push { cls:=.type "dict",data:=.dict #[] }) scope.names,toks:=s2.toks }:=by
  refine By (X:=X.aK YB scope (cellsFrom (hp1.objs.size+1) scope.names cl) (own++fr) fp hp1.objs.size s2 H2) hc rfl (Mj ..) (Ko (hs1 _)) (λP P' s hp h=>Tz h (λx s1 h1=>Tz h1 (λu s2 h2=>V8 h2 λr s3 h3=>by cases r with | ok f=>exact hp _ h3 | error x=>exact h3) λu u z=>z) λu u z=>z) (hg ..) (ht ..) (Gg (X:=X.aK YB scope (cellsFrom (hp1.objs.size+1) scope.names cl) (own++fr) fp hp1.objs.size s2 H2) hc rfl (hi1 ..) (hg1 ..) (ht1 ..) (he ..)) Tn iok (λρ H x=>x.kpS hfree) fok st tn0 hrun λs' c'=>?_
  obtain⟨σ4,H4,ρ4,cs,I4,x4,j4,ev4,ha4,cl4,fr4⟩:=c'.ex;obtain⟨m4,hn4,_⟩:=I4.loc;refine⟨m4,hn4,λh' hsb'=>?_⟩
  have un:=vp I4.base hsb' hC;have ok4:=rF I4.hok hsb' I4.free;exact⟨.ref s2.heap.objs.size,H4,I2.call' (s':={ s' with heap:=h' }) (ch:=fp) (I4.os) un ok4 I4.bare (λb hb=>by obtain⟨_,g2,g3,g4,g5,g6⟩:=f2 b hb;exact⟨g4,g2,g5,g6⟩),rfl,Go.pure (a:=lf) g3 ρ4 H4 (.ref s2.heap.objs.size) (x4.ext hfree) j4 ⟨_,cs,rfl,ha4,cl4⟩⟩
 show codeAny _ _ (.compStart _ 0 (.ref it) (.ref s2.heap.objs.size) (compEnvC scope (cellsFrom (hp1.objs.size+1) scope.names cl) hp1.objs.size X.env)) _ _;exact pB rfl rfl loop (Tn.self X.A 0 _ _ _ tn0 loop)
def jg:List D->Option (List Int)
 |[]=>some []
 |.int i::l=>(jg l).map (i::·)
 |_::_=>none
theorem jm:∀ns:List Int,jg (ns.map D.int)=some ns
 |[]=>rfl
 |n::ns=>by simp only[List.map_cons,jg,jm ns,Option.map_some]
def Hq(l:List D):Option D:=(jg l).bind λns=>if (ns.foldl step_dedup []).length<=60 then some (.lst ((eN ns).map D.int)) else none
set_option tactic.hygienic true in
def Al{X:Cx}{E:XK}{scope:Scope}{cl:List (Str×Addr)}{own:List Str}{js:List Nat}{fr:List Str}{elt t0 i0 t1 i1:Expr}{f0 f1:List Expr}{pos pos1 p1:Pos}{fi fi1:aa->DM Itn}{fg fg1:D->aa->DM aa}{ft ft1:aa->DM Bool}{fe:aa->DM D}
  (hh:X.A.handled=none) (hm:X.mg "sorted"=none) (hc:X.calm=true) (T:CompG X scope cl own js fr) (hi:DI X E t0 i0 fi)
  (hg:∀YB m fp C s₂ H₂,DG (X.aK YB scope (cellsFrom m scope.names cl) (own++fr) fp C s₂ H₂) E0 t0 fg) (ht:∀YB m fp C s₂ H₂,DTs (X.aK YB scope (cellsFrom m scope.names cl) (own++fr) fp C s₂ H₂) E0 f0 ft)
  (hi1:∀YB m fp C s₂ H₂,DI (X.aK YB scope (cellsFrom m scope.names cl) (own++fr) fp C s₂ H₂) E0 t1 i1 fi1) (hg1:∀YB m fp C s₂ H₂,DG (X.aK YB scope (cellsFrom m scope.names cl) (own++fr) fp C s₂ H₂) E0 t1 fg1)
  (ht1:∀YB m fp C s₂ H₂,DTs (X.aK YB scope (cellsFrom m scope.names cl) (own++fr) fp C s₂ H₂) E0 f1 ft1)
  (he:∀YB m fp C s₂ H₂,DE (X.aK YB scope (cellsFrom m scope.names cl) (own++fr) fp C s₂ H₂) E0 elt fe)
  (hs:∀y,foldedSetIterable i0 X.env y=pure y:=by intro _;rfl) (hs1:∀(env:Env) y,foldedSetIterable i1 env y=pure y:=by intro _ _;rfl) (hgl:Gl X "sorted":=by rfl) :
  DE X E (.Call (.Name "sorted" p1) [.SetComp elt [⟨t0,i0,f0,0⟩,⟨t1,i1,f1,0⟩] scope pos] [] pos1) (λδ=>(fi δ>>=λit=>dq (bL fg ft (j0 fi1 fg1 ft1 (jc fe)) it (aO own.length js δ) [])>>=λp=>pure p.2)>>=λl=>rd (λz=>Hq l)):=
 ⟨PE.mono (Dt (xZ hh) hm (Jl (Du hc T hi hg ht hi1 hg1 ht1 he hs hs1) zF) hgl) fun σ H Q h=>by
  obtain⟨ρ,δ,M,ev,j,g1⟩:=h;refine⟨ρ,δ,M,ev,j,g1.bind λρ1 H1 M1 x l e1 j1 c1 g2=>?_⟩
  obtain⟨acc,ks,rfl,ha,ns,rfl,rfl⟩:=c1;obtain⟨d,e,q⟩:=g2.rd;unfold Hq at e;rw[jm]at e;have e:(if (ns.foldl step_dedup []).length<=60 then some (D.lst ((eN ns).map D.int)) else none)=some d:=e
  split at e;rotate_left
  ·cases e
  rename_i hl;cases e;exact⟨acc,ns,rfl,ha,hl,λl hl=>q ρ1 _ _ (.lay hl) (j1.lay _ hl) (.lst (j1.fresh hl) upd_same (Cvs.ints _))⟩⟩
end L3
namespace L3
open PySem PySem.Spec L2
open PyProof.Rows hiding St
variable{X:Cx}{E:XK}
def Mp{H:Hp}{p q:Addr}{a b c:HO}:upd (upd (upd H p a) q b) p c=upd (upd H q b) p c:=by
 funext z;by_cases h:z=p
 ·subst h;rw[upd_same,upd_same]
 ·rw[upd_ne h,upd_ne h];by_cases k:z=q
  ·subst k;rw[upd_same,upd_same]
  ·rw[upd_ne k,upd_ne k,upd_ne h]
def Hx{δ:aa}{i:Nat}{d:D}(z:δ[i]?.join=some d):δ[i]?=some (some d):=by
 cases y:δ[i]? with
 |none=>rw[y]at z;cases z
 |some o=>rw[y]at z;exact congrArg some z
set_option tactic.hygienic true in
def Ka(i k:Nat){x y:Str}{x1}{p1 p2 p3 pos:Pos}(hN:X.N[i]?=some x:=by rfl)(hv:Vis X.env.scope x:=by first | exact Or.inl rfl | exact Or.inr (Or.inl rfl) | exact Or.inr (Or.inr rfl))(hd:(x == ("__debug__":Str))=false:=by decide)
  (hcd:(x==("__classdict__":Str))=false:=by decide) (hN2:X.N[k]?=some y:=by rfl) (hv2:Vis X.env.scope y:=by first | exact Or.inl rfl | exact Or.inr (Or.inl rfl) | exact Or.inr (Or.inr rfl)) (hd2:(y==("__debug__":Str))=false:=by decide)
  (hcd2:(y==("__classdict__":Str))=false:=by decide):DE X E (.Dict [some (.Name x p1)] [.Tuple [.Name y p2] x1 p3] pos) (λδ=>cU i δ>>=λa=>cU k δ>>=λb=>lK a (.tup [b])):=
 ⟨PE.mono (pe_disp (pps_cons (pe_var (i:=i) hN hv hd hcd) (pe_tup (O2 (pe_var (i:=k) hN2 hv2 hd2 hcd2) pa_nil)) pps_nil) rfl rfl (by simp) (by simp)) fun σ H Q h=>by
  obtain⟨ρ,δ,M,ev,j,g⟩:=h;have g:Go X.mg E (Cv X.mg) Q ρ H (opt δ[i]?.join>>=λa=>opt δ[k]?.join>>=λb=>lK a (.tup [b])) M:=g
  cases z:δ[i]?.join with
  |none=>rw[z]at g;obtain⟨r,e,_⟩:=g;cases e
  | some d=>
    cases z2:δ[k]?.join with
    |none=>rw[z,z2]at g;obtain⟨r,e,_⟩:=g;cases e
    | some d2=>
      rw[z,z2]at g;have g:Go X.mg E (Cv X.mg) Q ρ H (lK d (.tup [d2])) M:=g;obtain⟨v,h1,h2⟩:=ev.val i d (Hx z);obtain⟨v2,h3,h4⟩:=ev.val k d2 (Hx z2);obtain⟨r,e,q⟩:=g;unfold lK at e;split at e
      ·rename_i ky hk;cases e;obtain rfl:=jP h2 hk;intro p hp;refine⟨kV ky,h1,v2,h3,by show 1<=2^24;decide,λp2 hp2=>?_⟩
       have ne:p2≠p:=λz=>by rw[z,upd_same]at hp2;cases hp2
       rw[upd_ne ne]at hp2;refine⟨by rw[upd_ne (Ne.symm ne)];exact upd_same,[(ky,.ref p2)],rfl,by simp,?_⟩
       have em:mergeK [] [(ky,V.ref p2)]=[ky].zip [V.ref p2]:=rfl;rw[em,Mp];have j1:=j.lay (.tup [v2]) hp2;have hp1:upd H p2 (.tup [v2]) p=none:=by rw[upd_ne (Ne.symm ne)];exact hp
       have x1:Ext ρ H ρ (upd H p2 (.tup [v2])):=.lay hp2;have x2:Ext ρ (upd H p2 (.tup [v2])) (ρ.put p) (upd (upd H p2 (.tup [v2])) p (.dK ([ky].zip [V.ref p2]))):=.put hp1;have c0:Cv X.mg ρ (upd H p2 (.tup [v2])) (.ref p2) (.tup [d2]):=.tup (j.fresh hp2) upd_same (.cons (h4.mono x1) .nil);refine q _ _ _ (x1.trans x2) (j1.put hp1 ⟨[.ref p2],upd_same,rfl,.cons (c0.mono x2) .nil⟩) (.ref ?_);show (ρ.st++[p])[_]?=_;rw[<-j.len];simp
      ·cases e⟩
def JF:DM D:=λM=>some (.ok (.ref M.length),M++[.dic [] []])
def Ig{pos:Pos}:DE X E (.Dict [] [] pos) (λz=>JF):=⟨PE.mono pe_dnewK λσ H Q h=>by obtain⟨ρ,δ,M,ev,j,r,e,q⟩:=h;have e:some (R.ok (D.ref M.length),M++[DO.dic [] []])=some r:=e;cases e;intro p hp;have x:Ext ρ H (ρ.put p) (upd H p (.dK ([].zip []))):=.put hp;refine q _ _ _ x (j.put hp ⟨[],upd_same,rfl,.nil⟩) (.ref ?_);show (ρ.st++[p])[_]?=_;rw[<-j.len];simp⟩
theorem zP:∀ {cs:List (Addr×List Int)}{us:List Value},Vals (cs.map λc=>V.ref c.1) us->us=cs.map λc=>Value.ref c.1
 |[],_,h=>by cases h;rfl
 | c::cs,_,h=>by
   cases h with
   |cons r t=>cases r;rw[zP t];rfl
theorem zQ{K:PySem.W.Frag}{H:Hp}:∀ns:List Int,Reps K H (ns.map V.int) (ns.map PyData.int)
 |[]=>.nil
 |n::ns=>.cons (.int n) (zQ ns)
def K8{X:Cx}(hu:X.A.units + 64<cLine):OpR X (compareOp .NotIn) (λx y H Q=>∃ (a p:Addr) (k:List Int) (cs:List (Addr×List Int)),x=.ref a/\y=.ref p/\H a=some (.tup (k.map V.int))/\H p=some (.tup (cs.map λc=>V.ref c.1))/\(∀ c∈cs,H c.1=some (.tup (c.2.map V.int)))/\Q (.bl (!(cs.map (·.2)).contains k)) H):=by
 intro YB s σ H x y v u Q I rx ry h;obtain⟨a,p,k,cs,rfl,rfl,ha,hp,hc,q⟩:=h;cases rx;cases ry;obtain⟨its,r,pl,hz⟩:=I.tuple (SqT.of (K:=X.K) hp);have ei:=zP r;subst ei;let e:Value->Bool:=λy=>match y with
  |.ref b=>(cs.find? λc=>c.1==b).elim false λc=>decide (c.2=k)
  |_=>false
 have ee:∀ c∈cs,e (.ref c.1)=decide (c.2=k):=λc hcm=>by
  show (cs.find? λd=>d.1==c.1).elim false (λc=>decide (c.2=k))=_
  cases hf:cs.find? λd=>d.1==c.1 with
  |none=>exact absurd (List.find?_eq_none.mp hf c hcm) (by simp)
  |some d=>
    have h1:d.1=c.1:=by simpa using List.find?_some hf
    have h2:=hc d (List.mem_of_find?_eq_some hf);rw[h1,hc c hcm]at h2;have h3:c.2.map V.int=d.2.map V.int:=HO.tup.inj (Tu h2);have h4:c.2=d.2:=(Xl (f:=V.int) λa b h=>V.int.inj h).mp h3
    show decide (d.2=k)=_;rw[h4]
 refine SeqAt.notIn_tupleAt e pl (λw hw=>?_) ⟨.bl _,H,I,rfl,?_⟩
 ·obtain⟨c,hcm,rfl⟩:=Uh.mp (show w∈cs.map λc=>Value.ref c.1 by simpa using hw)
  obtain⟨as,ra⟩:=Rep.reads I (Rep.tup (SqT.of (K:=X.K) (hc c hcm)) (zQ c.2)) rfl;obtain⟨bs,rb⟩:=Rep.reads I (Rep.tup (SqT.of (K:=X.K) ha) (zQ k)) rfl;have d1:=dZ c.2;have:=SeqAt.eqAt_reads _ _ X.A.in1 s _ _ as bs ra rb (by simp only[PyData.canLay0,lay_ints]) (by simp only[PyData.canLay0,lay_ints]) (by simp only[PyData.depth];show X.A.units+1+_<_;lia)
  rw[ee c hcm];simpa only[PyData.eqv,fj] using this
 ·have:(cs.map λc=>Value.ref c.1).toArray.any e=(cs.map (·.2)).contains k:=by rw[T6];simp only[List.any_toArray,List.any_map,List.any_eq_true,List.contains_iff_mem,List.mem_map,Function.comp_def];exact⟨λ⟨c,hcm,h⟩=>⟨c,hcm,by rw[ee c hcm]at h;exact Ui h⟩,λ⟨c,hcm,h⟩=>⟨c,hcm,by rw[ee c hcm];exact Tw h⟩⟩
  rw[this];exact q
theorem tW:∀ {l:List D}{ns:List Int},jg l=some ns->l=ns.map D.int
 |[],_,h=>by cases h;rfl
 |.int i::l,_,h=>by simp only[jg]at h;obtain⟨ns,e,rfl⟩:=S8.mp h;rw[tW e];rfl
def tN:List D->Option (List (List Int))
 |[]=>some []
 |.tup a::l=>(jg a).bind λk=>(tN l).map (k::·)
 |_::_=>none
theorem JV{mg:Str->Option Value}{ρ:Rh}{H:Hp}:∀ {l:List D}{xs:List V}{ts:List (List Int)},tN l=some ts->Cvs mg ρ H xs l->∃ cs:List (Addr×List Int),xs=cs.map (λc=>V.ref c.1)/\cs.map (·.2)=ts/\∀ c∈cs,H c.1=some (.tup (c.2.map V.int))
 |[],_,_,h,c=>by cases h;rw[Cvs.inv0 c];exact⟨[],rfl,rfl,λz h=>by cases h⟩
 |.tup a::l,_,_,h,c=>by
   simp only[tN]at h;obtain⟨k,e1,h⟩:=TQ.mp h;obtain⟨ts,e2,rfl⟩:=S8.mp h;obtain⟨v,vs,rfl,c1,c2⟩:=Cvs.inv (v:=.non) c;obtain⟨cs,rfl,rfl,hc⟩:=JV e2 c2;obtain⟨b,ys,rfl,_,hb,cb⟩:=Cv.inv c1;rw[tW e1]at cb;rw[jZ cb]at hb;refine⟨(b,k)::cs,rfl,rfl,λc hcm=>?_⟩
   rcases Tt.mp hcm with rfl | hcm
   ·exact hb
   ·exact hc c hcm
def Jb(x y:D)(M:Mo):Option D:=match x,y with
 |.tup a,.tup l=>(jg a).bind λk=>(tN l).map λts=>.bl (!ts.contains k)
 |_,_=>none
def K9{X:Cx}{E:XK}(hu:X.A.units+64<cLine):bU X E (compareOp .NotIn) (λx y=>rd (Jb x y)):=by
 refine bU.of (K8 hu) λx y H Q ρ M dx dy d j cx cy e q=>?_
 unfold Jb at e;split at e
 ·obtain⟨k,e1,e⟩:=TQ.mp e;obtain⟨ts,e2,rfl⟩:=S8.mp e;obtain⟨a,xs,rfl,_,ha,ca⟩:=Cv.inv cx;obtain⟨p,ys,rfl,_,hp,cp⟩:=Cv.inv cy;rw[tW e1]at ca;rw[jZ ca]at ha;obtain⟨cs,rfl,rfl,hc⟩:=JV e2 cp;exact⟨a,p,k,cs,rfl,rfl,ha,hp,hc,q ρ H _ .refl j (.bl _)⟩
 ·cases e
end L3
namespace N10
end N10
namespace K
open PySem L2 L3
def dX(l:List Str)(h:l.Nodup:=by decide):l.Nodup:=h
local macro_rules | `(tactic| trivial)=>`(tactic| refine⟨rfl,by decide +kernel,rfl,Pq ?_,λm_=>NQ rfl,by decide,rfl,KQ rfl,KY ?_,NB ?_⟩<;>((repeat' apply And.intro)<;>first | exact True.intro | rfl | exact Or.inl rfl | exact Or.inr rfl | exact⟨_,rfl⟩))
def top(i:Nat):Stmt:=PySem.Challenge.pw_fadewalk_k34_forgets_or_not.main.body.getD i (.Pass ⟨0,0,0,0⟩)
abbrev Qd(k:Nat)(N:List Str)(x:Str)(st:Stmt)(Y:Program->World->PySem.W.Frag->Mg->Heap->Prop->Prop):={b:aa->DM Fl // ∀{P w K mg base f cdv A outer s H E},Y P w K mg base (Rm k A x st s f cdv->Ds P w K mg base N x st f cdv A outer s H E b)}
abbrev Qe(k:Nat)(N:List Str)(x:Str)(st:Stmt)(Y:(Nat->Str->List Str->Fn->Prop)->(Str->Prop)->Prop->Prop):=Qd k N x st λP w K m o=>Y (DefD P w K m o) (Nn m)
abbrev Sc(N ps:List Str)(st:Stmt):=FnScope N ps (defScope st)
def cO{N P:List Str}{sc:Scope}(a:sc.kind=.function:=by exact rfl)(b:sc.isCoroutine=false:=by exact rfl)(c:sc.isGenerator=false:=by exact rfl)(p:N.take P.length=P:=by exact rfl)(d:(decide N.Nodup&&(decide (∀x∈P,sc.names.lookup x=some .local\/sc.names.lookup x=some .cell)&&decide (∀y∈sc.names,y.2≠.free)))=true:=by decide +kernel):FnScope N P sc:=Qy a b c p d
def uA{X:Cx}{E:XK}{scope:Scope}{cl:List (Str×Addr)}{elt i0:Expr}{p0 pos:Pos}{fi:aa->DM Itn}{fe:aa->DM D}(x:Str)(js:List Nat)(fr:List Str)(hi:DI X E (.Name x p0) i0 fi)
  (he:∀{YB m fp C s₂ H₂},DE (X.aK YB scope (cellsFrom m scope.names cl) ([x]++fr) fp C s₂ H₂) E0 elt fe) (T:CompG X scope cl [x] js fr:=by trivial) (hc:X.calm=true:=by exact rfl)
  (nd:([x]++fr).Nodup:=by decide) (hl:∀m C Z,(compEnvC scope (cellsFrom m scope.names cl) C Z).scope.names.lookup x=some .local:=by intros;exact rfl)
  (hs:∀y,foldedSetIterable i0 X.env y=pure y:=by intro _;rfl) :
  DE X E (.ListComp elt [⟨.Name x p0,i0,[],0⟩] scope pos) (λδ=>fi δ>>=λit=>dq (bL (gN 0) (λz=>pure true) (bR fe) it (aO [x].length js δ) [])>>=λp=>Out.val.run p.2):=
 bO (own:=[x]) .val hc T hi (λz z z z z z=>aJ (i:=0) nd rfl (Or.inl (hl ..)) (Or.inr (hl ..))) (λz z z z z z=>fL) (λz z z z z z=>he) hs
section
variable(N:Nat)(v0 v1 v2 v3 v4 v5 v6 v7 v8 v9 v10 v11 v12 v13 v14 v15 v16 v17 v18 v19:Fn)
abbrev o9:Stmt:=top 6
def Aw:Sc ["thing"] ["thing"] o9:=cO
@[simp] noncomputable def uU:Qe 0 ["thing"] "is_whole" o9 λD n Z=>n "bool"->n "int"->n "isinstance"->Z:=
 ⟨_,λya yb yc hr=>(aA (aG (m9 (aY bV yc (ao (aj 0) (ao (dY (T := "int") yb) ak))) (nu (Fv (aY bV yc (ao (aj 0) (ao (dY (T := "bool") ya) ak))))))))⟩
noncomputable def ux:=(uU).1
abbrev fH:Stmt:=top 7
def iC:Sc ["one", "other"] ["one", "other"] fH:=cO
@[simp] noncomputable def fB:Qe 0 ["one", "other"] "greatest_divider" fH fun _ _ Z=>Z:=
 ⟨_,fun  hr=>have nd:=iC.nd;(az (tL N PassesOwn.leaving (aU (aj 1) (fun _=>rfl)) (aA (Nf (i:=0) (j:=1) rfl nd rfl rfl (by decide) rfl rfl (ao (aj 1) (ao (aZ dM (aj 0) (aj 1)) ak)) rfl)))
  (aA (aG (aj 0))))⟩
noncomputable def dC(N:Nat):=(fB N).1
abbrev jz:Stmt:=top 10
def vO:Sc ["thing", "many"] ["thing", "many"] jz:=cO
@[simp] noncomputable def pO:Qe 1 ["thing", "many"] "are_weights" jz fun D n Z=>D 1 "is_whole" ["thing"] v0->n "all"->n "isinstance"->n "len"->n "tuple"->Z:=
 ⟨_,fun ya yb yc yd ye hr=>(az (bu (DW.dt (cB (bx (aU (aY bV yc (ao (aj 0) (ao (dY (T := "tuple") ye) ak))) (fun _=>rfl))) (cG (aN (bM hr.units) (aY call_lenD yd (ao (aj 0) ak)) (aj 1)))))
  (aA (aG cA))
  aQ)
  (aA (aG (aY (dU hr.hd) yb (ao (uA "weight" [] [] (cC (aj 0)) (m9 (aD ya hr km (ao (aj 0) ak)) (nu (eZ zu (aj 0) au)))) ak)))))⟩
noncomputable def pJ:=(pO v0).1
abbrev o7:Stmt:=top 11
def Ar:Sc ["thing", "many"] ["thing", "many"] o7:=cO
@[simp] noncomputable def uR:Qe 2 ["thing", "many"] "are_rows" o7 fun D n Z=>D 2 "are_weights" ["thing", "many"] v0->n "all"->n "isinstance"->n "len"->n "tuple"->Z:=
 ⟨_,fun ya yb yc yd ye hr=>(az (bu (DW.dt (cB (bx (aU (aY bV yc (ao (aj 0) (ao (dY (T := "tuple") ye) ak))) (fun _=>rfl))) (cG (aN (bM hr.units) (aY call_lenD yd (ao (aj 0) ak)) (aj 1)))))
  (aA (aG cA))
  aQ)
  (aA (aG (aY (dU hr.hd) yb (ao (uA "row" [1] ["many"] (cC (aj 0)) (aD ya hr km (ao (aj 0) (ao (aj 1) ak)))) ak)))))⟩
noncomputable def uv:=(uR v0).1
abbrev o8:Stmt:=top 12
def Av:Sc ["thing", "many"] ["thing", "many"] o8:=cO
@[simp] noncomputable def uT:Qe 1 ["thing", "many"] "is_place" o8 λD n Z=>D 1 "is_whole" ["thing"] v0->Z:=
 ⟨_,λya hr=>(aA (aG (m9 (aD ya hr aP (ao (aj 0) ak)) (nu (Ie nR kj au (aj 0) (aj 1))))))⟩
noncomputable def uw:=(uT v0).1
abbrev mV:Stmt:=top 13
def zW:Sc ["things"] ["things"] mV:=cO
@[simp] noncomputable def sW:Qe 0 ["things"] "is_rising" mV λD n Z=>n "all"->n "len"->n "range"->Z:=
 ⟨_,λya yb yc hr=>(aA (aG (aY (dU hr.hd) ya (ao (uA "at" [0] ["things"] (FJ rfl yc (ao au (ao (aY call_lenD yb (ao (aj 0) ak)) ak))) (eZ kj (aM aV (aj 1) (aZ nU (aj 0) au)) (aM aV (aj 1) (aj 0)))) ak))))⟩
noncomputable def sG:=(sW).1
abbrev eQ:Stmt:=top 14
def pA:Sc ["thing", "many"] ["thing", "many"] eQ:=cO
@[simp] noncomputable def iB:Qe 2 ["thing", "many"] "are_rising_places" eQ fun D n Z=>D 2 "is_place" ["thing", "many"] v0->D 1 "is_rising" ["things"] v1->n "all"->n "isinstance"->n "tuple"->Z:=
 ⟨_,fun ya yb yc yd ye hr=>(az (bu (DW.dt (cB (bx (aU (aY bV yd (ao (aj 0) (ao (dY (T := "tuple") ye) ak))) (fun _=>rfl))) (cG (bx (aU (aY (dU hr.hd) yc (ao (uA "place" [1] ["many"] (cC (aj 0)) (aD ya hr km (ao (aj 0) (ao (aj 1) ak)))) ak)) (fun _=>rfl))))))
  (aA (aG cA))
  aQ)
  (aA (aG (aD yb hr aP (ao (aj 0) ak)))))⟩
noncomputable def iy:=(iB v0 v1).1
abbrev jB:Stmt:=top 16
def vP:Sc ["walk"] ["walk"] jB:=cO
@[simp] noncomputable def pP:Qd 0 ["walk"] "next_places" jB λP w K m o Z=>∀{C_Walk},OCls K m "Walk" C_Walk ["rows", "whole"]->Nn m "enumerate"->Nn m "tuple"->Z:=
 ⟨_,λya yb yc hr=>(aA (aG (bO (own:=["row"]) (js:=[]) (fr:=[]) .val rfl (by trivial) (cC (yw ya (by decide) (aj 0))) (λz z z z z z=>(aJ (i:=0) (dX ["row"]) rfl (Or.inl rfl))) (λz z z z z z=>fL) (λz z z z z z=>(iI (T := "tuple") cM yc (ao (bO (own:=["place", "weight"]) (js:=[]) (fr:=[]) .val rfl (by trivial) (q9 rfl yb (ao (aj 0) ak)) (λz z z z z z=>(nA (n:=2) rfl (cP (aJ (i:=0) (dX ["place", "weight"]) rfl (Or.inl rfl)) (cP (aJ (i:=1) (dX ["place", "weight"]) rfl (Or.inl rfl)) jO)))) (λz z z z z z=>(cD (aN nQ (aj 1) au))) (λz z z z z z=>(aj 0))) ak))))))⟩
noncomputable def pL:=(pP).1
abbrev iU:Stmt:=top 17
def lZ:Sc ["nexts", "start", "steps", "waiting", "place", "following"] ["nexts", "start"] iU:=cO
@[simp] noncomputable def iR:Qe 0 ["nexts", "start", "steps", "waiting", "place", "following"] "fewest_steps" iU fun _ _ Z=>Z:=
 ⟨_,fun  hr=>have nd:=lZ.nd;(az (aX (i:=2) nd rfl (Or.inl rfl) (J9 1))
  (az (aX (i:=3) nd rfl (Or.inl rfl) (qX (ao (aj 1) ak)))
  (az (tL N Um (aU (aj 3) (λz=>rfl)) (az (aX (i:=4) nd rfl (Or.inl rfl) (wW Wu PySem.F.slot_list_pop PySem.F.type_list_pop KH (aj 3) (ao au ak)))
  (aA (cQ 0 Um rfl (cC (aM aV (aj 0) (aj 4))) (aJ (i:=5) nd rfl (Or.inl rfl))
  (aA (bu (aN (Je (u1 hr.units)) (aj 5) (aj 2))
  (az (qj (aZ cz (nq (u1 hr.units) (aj 2) (aj 4)) au) (uC (aj 2) (aj 5) (zY (u1 hr.units))))
  (aA (rA (wW Wu Xm Xq vJ (aj 3) (ao (aj 5) ak)))))
  aQ))))))
  (aA (aG (aj 2))))))⟩
noncomputable def fK(N:Nat):=(iR N).1
abbrev cY:Stmt:=inClass (top 31) 1
def u5:Sc ["self"] ["self"] cY:=cO
@[simp] noncomputable def nW:Qd 0 ["self"] "Walk.__len__" cY λP w K m o Z=>∀{C_Walk},OCls K m "Walk" C_Walk ["rows", "whole"]->Nn m "len"->Z:=
 ⟨_,λya yb hr=>(aA (aG (aY call_lenD yb (ao (yw ya (by decide) (aj 0)) ak))))⟩
noncomputable def m8:=(nW).1
abbrev uh:Stmt:=top 18
def wG:Sc ["walk", "nexts"] ["walk"] uh:=cO
@[simp] noncomputable def uf:Qd 2 ["walk", "nexts"] "led_to" uh fun P w K m o Z=>DefD P w K m o 1 "next_places" ["walk"] v0->DefD P w K m o 1 "fewest_steps" ["nexts", "start"] v1->MethD P w K m o 1 "Walk" "__len__" "Walk.__len__" cY ["self"] v2->Nn m "len"->Nn m "range"->Nn m "sorted"->Nn m "tuple"->Z:=
 ⟨_,fun ya yb yc yd ye yf yg hr=>have nd:=wG.nd;(az (aX (i:=1) nd rfl (Or.inr rfl) (aD ya hr aP (ao (aj 0) ak)))
  (aA (aG (iI (T := "tuple") cM yg (ao (uA "start" [1] ["nexts"] (bN rfl ye (ao (aY (lJ yc hr aP (λz z z z z z us hl=>by obtain⟨_,rfl⟩:=vG hl;rfl)) yd (ao (aj 0) ak)) ak)) (iI (T := "tuple") cM yg (ao (aY (Dd hr.hd) yf (ao (aD yb hr km (ao (aj 1) (ao (aj 0) ak))) ak)) ak))) ak)))))⟩
noncomputable def tE:=(uf v0 v1 v2).1
abbrev mW:Stmt:=top 19
def qM:Sc ["walk", "led"] ["walk"] mW:=cO
@[simp] noncomputable def mK:Qe 3 ["walk", "led"] "shut_sets" mW fun D n Z=>D 3 "led_to" ["walk"] v0->n "all"->n "sorted"->n "tuple"->Z:=
 ⟨_,fun ya yb yc yd hr=>have nd:=qM.nd;(az (aX (i:=1) nd rfl (Or.inr rfl) (aD ya hr aP (ao (aj 0) ak)))
  (aA (aG (iI (T := "tuple") cM yd (ao (Fx (own:=["places"]) (js:=[1]) (fr:=["led"]) hr.hd (u1 hr.units) yc rfl (by trivial) (cC (aj 1)) (λz z z z z z=>(aJ (i:=0) (dX ["places", "led"]) rfl (Or.inr rfl))) (λz z z z z z=>(cD (aU (aY (dU hr.hd) yb (ao (uA "place" [1,0] ["led", "places"] (cC (aj 0)) (eZ (cI hr.units) (aM aV (aj 1) (aj 0)) (aj 2))) ak)) (λz=>rfl)))) (λz z z z z z=>(aj 0))) ak)))))⟩
noncomputable def sH:=(mK v0).1
abbrev gC:Stmt:=top 20
def rW:Sc ["walk", "thing"] ["walk", "thing"] gC:=cO
@[simp] noncomputable def gq:Qd 4 ["walk", "thing"] "refuse_no_shut" gC fun P w K m o Z=>DefD P w K m o 4 "shut_sets" ["walk"] v0->DefD P w K m o 3 "are_rising_places" ["thing", "many"] v1->MethD P w K m o 1 "Walk" "__len__" "Walk.__len__" cY ["self"] v2->Nn m "len"->Z:=
 ⟨_,fun ya yb yc yd hr=>(aA (bu (DW.dt (cB (bx (aU (aD yb hr aP (ao (aj 1) (ao (aY (lJ yc hr aP (fun _ _ _ _ _ _ us hl=>by obtain⟨_,rfl⟩:=vG hl;rfl)) yd (ao (aj 0) ak)) ak))) (fun _=>rfl))) (cG (aN (K9 hr.units) (aj 1) (aD ya hr aP (ao (aj 0) ak))))))
  (aA yF)
  aQ))⟩
noncomputable def jY:=(gq v0 v1 v2).1
abbrev qH:Stmt:=top 21
def vd:Sc ["walk", "shut", "nexts", "steps", "turn", "place", "following"] ["walk", "shut"] qH:=cO
@[simp] noncomputable def qC:Qe 5 ["walk", "shut", "nexts", "steps", "turn", "place", "following"] "turn_of" qH fun D n Z=>D 5 "refuse_no_shut" ["walk", "thing"] v0->D 1 "next_places" ["walk"] v1->D 1 "fewest_steps" ["nexts", "start"] v2->D 1 "greatest_divider" ["one", "other"] v3->Z:=
 ⟨_,fun ya yb yc yd hr=>have nd:=vd.nd;(az (rA (aD ya hr aP (ao (aj 0) (ao (aj 1) ak))))
  (az (aX (i:=2) nd rfl (Or.inl rfl) (aD yb hr aP (ao (aj 0) ak)))
  (az (aX (i:=3) nd rfl (Or.inl rfl) (aD yc hr aP (ao (aj 2) (ao (aM aV (aj 1) au) ak))))
  (az (aX (i:=4) nd rfl (Or.inl rfl) au)
  (az (cQ 0 Um rfl (cC (aj 1)) (aJ (i:=5) nd rfl (Or.inl rfl))
  (aA (cQ 0 Um rfl (cC (aM aV (aj 2) (aj 5))) (aJ (i:=6) nd rfl (Or.inl rfl))
  (aA (aX (i:=4) nd rfl (Or.inl rfl) (aD yd hr aP (ao (aj 4) (ao (aZ nU (aZ cz (nq (u1 hr.units) (aj 3) (aj 5)) au) (nq (u1 hr.units) (aj 3) (aj 6))) ak))))))))
  (aA (aG (aj 4))))))))⟩
noncomputable def vV:=(qC v0 v1 v2 v3).1
abbrev ph:Stmt:=top 22
def sX:Sc ["walk", "shut", "turn", "steps"] ["walk", "shut"] ph:=cO
@[simp] noncomputable def o4:Qe 6 ["walk", "shut", "turn", "steps"] "sides_of" ph fun D n Z=>D 6 "turn_of" ["walk", "shut"] v0->D 1 "next_places" ["walk"] v1->D 1 "fewest_steps" ["nexts", "start"] v2->n "range"->n "tuple"->Z:=
 ⟨_,fun ya yb yc yd ye hr=>have nd:=sX.nd;(az (aX (i:=2) nd rfl (Or.inr rfl) (aD ya hr aP (ao (aj 0) (ao (aj 1) ak))))
  (az (aX (i:=3) nd rfl (Or.inr rfl) (aD yc hr aP (ao (aD yb hr aP (ao (aj 0) ak)) (ao (aM aV (aj 1) au) ak))))
  (aA (aG (iI (T := "tuple") cM ye (ao (bO (own:=["side"]) (js:=[1,3,2]) (fr:=["shut", "steps", "turn"]) .val rfl (by trivial) (bN rfl yd (ao (aj 2) ak)) (λz z z z z z=>(aJ (i:=0) (dX ["side", "shut", "steps", "turn"]) rfl (Or.inr rfl))) (λz z z z z z=>fL) (λz z z z z z=>(iI (T := "tuple") cM ye (ao (bO (own:=["place"]) (js:=[2,3,0]) (fr:=["steps", "turn", "side"]) .val rfl (by trivial) (cC (aj 1)) (λz z z z z z=>(aJ (i:=0) (dX ["place", "steps", "turn", "side"]) rfl (Or.inl rfl))) (λz z z z z z=>(cD (aN (cI hr.units) (aZ dM (nq (u1 hr.units) (aj 1) (aj 0)) (aj 2)) (aj 3)))) (λz z z z z z=>(aj 0))) ak)))) ak))))))⟩
noncomputable def uy:=(o4 v0 v1 v2).1
abbrev gB:Stmt:=top 24
def rT:Sc ["nexts", "ends"] ["nexts", "ends"] gB:=cO
@[simp] noncomputable def kW:Qe 0 ["nexts", "ends"] "ends_of_longer" gB λD n Z=>n "sorted"->Z:=
 ⟨_,λya hr=>(aA (aG (bO (own:=["followings"]) (js:=[1]) (fr:=["ends"]) .val rfl (by trivial) (jk (aj 0)) (λz z z z z z=>(aJ (i:=0) (dX ["followings", "ends"]) rfl (Or.inl rfl))) (λz z z z z z=>fL) (λz z z z z z=>(Al (own:=["following", "end"]) (js:=[1]) (fr:=["ends"]) hr.hd ya rfl (by trivial) (cC (aj 0)) (λz z z z z z=>(aJ (i:=0) (dX ["following", "end", "ends"]) rfl (Or.inl rfl))) (λz z z z z z=>fL) (λz z z z z z=>(jk (aM aV (aj 2) (aj 0)))) (λz z z z z z=>(aJ (i:=1) (dX ["following", "end", "ends"]) rfl (Or.inl rfl))) (λz z z z z z=>fL) (λz z z z z z=>(aj 1)))))))⟩
noncomputable def jX:=(kW).1
abbrev mU:Stmt:=top 25
def zV:Sc ["ends"] ["ends"] mU:=cO
@[simp] noncomputable def sV:Qe 0 ["ends"] "in_common" mU λD n Z=>n "all"->Z:=
 ⟨_,λya hr=>(aA (aG (bO (own:=["place"]) (js:=[0]) (fr:=["ends"]) .val rfl (by trivial) (jk (aM aV (aj 0) au)) (λz z z z z z=>(aJ (i:=0) (dX ["place", "ends"]) rfl (Or.inr rfl))) (λz z z z z z=>(cD (aU (aY (dU hr.hd) ya (ao (uA "places" [0] ["place"] (jk (aj 1)) (eZ GK (aj 1) (aj 0))) ak)) (λz=>rfl)))) (λz z z z z z=>(aj 0)))))⟩
noncomputable def sE:=(sV).1
abbrev jA:Stmt:=top 26
def ou:Sc ["nexts", "ways", "longer", "start", "followings", "onward"] ["nexts", "ways"] jA:=cO
@[simp] noncomputable def jw:Qe 0 ["nexts", "ways", "longer", "start", "followings", "onward"] "longer_ways" jA fun D n Z=>n "enumerate"->Z:=
 ⟨_,fun ya hr=>have nd:=ou.nd;(az (aX (i:=2) nd rfl (Or.inl rfl) Ig)
  (az (cQ 0 Um rfl (q9 rfl ya (ao (aj 0) ak)) (nA (n:=2) rfl (cP (aJ (i:=3) nd rfl (Or.inl rfl)) (cP (aJ (i:=4) nd rfl (Or.inl rfl)) jO)))
  (az (oM (i:=5) (own:=["following"]) (js:=[1]) (fr:=["ways"]) .val nd rfl (Or.inl rfl) rfl (by trivial) (cC (aj 4)) (λz z z z z z=>(aJ (i:=0) (dX ["following", "ways"]) rfl (Or.inl rfl))) (λz z z z z z=>(cD (aN (K3 (u1 hr.units)) (aj 0) (aj 1)))) (λz z z z z z=>(aj 0)))
  (aA (bu (aU (aj 5) (λz=>rfl))
  (aA (qj (aZ cz (dJ (ao (aj 3) ak)) (nq (u1 hr.units) (aj 1) (aM aV (aj 5) au))) (uC (aj 2) (aj 3) (zY (u1 hr.units)))))
  aQ))))
  (aA (aG (aj 2)))))⟩
noncomputable def pK:=(jw).1
abbrev ir:Stmt:=top 27
def lC:Sc ["walk", "nexts", "ends", "steps", "place", "ways", "step"] ["walk"] ir:=cO
@[simp] noncomputable def gW:Qd 2 ["walk", "nexts", "ends", "steps", "place", "ways", "step"] "first_meeting" ir fun P w K m o Z=>DefD P w K m o 1 "next_places" ["walk"] v0->DefD P w K m o 1 "in_common" ["ends"] v1->DefD P w K m o 1 "ends_of_longer" ["nexts", "ends"] v2->DefD P w K m o 1 "longer_ways" ["nexts", "ways"] v3->MethD P w K m o 1 "Walk" "__len__" "Walk.__len__" cY ["self"] v4->Nn m "len"->Nn m "range"->Nn m "tuple"->Z:=
 ⟨_,fun ya yb yc yd ye yf yg yh hr=>have nd:=lC.nd;(az (aX (i:=1) nd rfl (Or.inl rfl) (aD ya hr aP (ao (aj 0) ak)))
  (az (oM (i:=2) (own:=["start"]) (js:=[]) (fr:=[]) .val nd rfl (Or.inl rfl) rfl (by trivial) (bN rfl yg (ao (aY (lJ ye hr aP (λz z z z z z us hl=>by obtain⟨_,rfl⟩:=vG hl;rfl)) yf (ao (aj 0) ak)) ak)) (λz z z z z z=>(aJ (i:=0) (dX ["start"]) rfl (Or.inl rfl))) (λz z z z z z=>fL) (λz z z z z z=>(cN (ao (aj 0) ak))))
  (az (aX (i:=3) nd rfl (Or.inl rfl) au)
  (az (tL N Um (bx (aU (aD yb hr aP (ao (aj 2) ak)) (λz=>rfl))) (az (aX (i:=2) nd rfl (Or.inl rfl) (aD yc hr aP (ao (aj 1) (ao (aj 2) ak))))
  (aA (Nb (i:=3) nd rfl (Or.inl rfl) zx au))))
  (az (aX (i:=4) nd rfl (Or.inl rfl) (aM aV (aD yb hr aP (ao (aj 2) ak)) au))
  (az (aX (i:=5) nd rfl (Or.inr rfl) (Ka 4 4))
  (az (cQ 0 Um rfl (bN rfl yg (ao (aj 3) ak)) (aJ (i:=6) nd rfl (Or.inl rfl))
  (aA (aX (i:=5) nd rfl (Or.inr rfl) (aD yd hr aP (ao (aj 1) (ao (aj 5) ak))))))
  (aA (aG (dJ (ao (aj 3) (ao (aj 4) (ao (iI (T := "tuple") cM yh (ao (uA "start" [5] ["ways"] (bN rfl yg (ao (aY (lJ ye hr aP (λz z z z z z us hl=>by obtain⟨_,rfl⟩:=vG hl;rfl)) yf (ao (aj 0) ak)) ak)) (nq (u1 hr.units) (aj 1) (aj 0))) ak)) ak)))))))))))))⟩
noncomputable def eV:=(gW N v0 v1 v2 v3 v4).1
abbrev qG:Stmt:=top 28
def u9:Sc ["walk", "shut", "sides"] ["walk"] qG:=cO
@[simp] noncomputable def lY:Qe 7 ["walk", "shut", "sides"] "forgets" qG fun D n Z=>D 4 "shut_sets" ["walk"] v0->D 7 "sides_of" ["walk", "shut"] v1->D 3 "first_meeting" ["walk"] v2->n "len"->Z:=
 ⟨_,fun ya yb yc yd hr=>have nd:=u9.nd;(az (aX (i:=1) nd rfl (Or.inl rfl) (aD ya hr aP (ao (aj 0) ak)))
  (az (bu (aN nQ (aY call_lenD yd (ao (aj 1) ak)) au)
  (aA (aG (dJ (ao qi (ao (dJ (ao (dJ (ao (aM aV (aj 1) au) ak)) (ao (dJ (ao (aM aV (aj 1) au) ak)) ak))) ak)))))
  aQ)
  (az (aX (i:=2) nd rfl (Or.inl rfl) (aD yb hr aP (ao (aj 0) (ao (aM aV (aj 1) au) ak))))
  (az (bu (aN nQ (aY call_lenD yd (ao (aj 2) ak)) au)
  (aA (aG (dJ (ao qi (ao (dJ (ao (aj 2) (ao (aZ cz (tK (aj 2) (nF au) vA) (tK (aj 2) vA (nF au))) ak))) ak)))))
  aQ)
  (aA (aG (dJ (ao qi (ao (aD yc hr aP (ao (aj 0) ak)) ak)))))))))⟩
noncomputable def qd:=(lY v0 v1 v2).1
abbrev ik:Stmt:=top 30
def lB:Sc ["thing", "whole"] ["thing"] ik:=cO
@[simp] noncomputable def lX:Qd 3 ["thing", "whole"] "can_be_walked" ik fun P w K m o Z=>∀{t_MOST_PLACES},DefD P w K m o 3 "are_rows" ["thing", "many"] v0->Gi m "MOST_PLACES" 25 t_MOST_PLACES->Nn m "all"->Nn m "isinstance"->Nn m "len"->Nn m "sum"->Nn m "tuple"->Z:=
 ⟨_,fun ya yb yc yd ye yf yg hr=>have nd:=lB.nd;(az (bu (DW.dt (cB (bx (aU (aY bV yd (ao (aj 0) (ao (dY (T := "tuple") yg) ak))) (fun _=>rfl))) (cB (bx (oN nR nR au (aY call_lenD ye (ao (aj 0) ak)) (PP yb))) (cG (bx (aU (aD ya hr aP (ao (aj 0) (ao (aY call_lenD ye (ao (aj 0) ak)) ak))) (fun _=>rfl)))))))
  (aA (aG cA))
  aQ)
  (az (aX (i:=1) nd rfl (Or.inr rfl) (aY (qe hr.hd) yf (ao (aM aV (aj 0) au) ak)))
  (aA (aG (m9 (eZ zu (aj 1) au) (nu (aY (dU hr.hd) yc (ao (uA "row" [1] ["whole"] (cC (aj 0)) (eZ (cI hr.units) (aY (qe hr.hd) yf (ao (aj 0) ak)) (aj 1))) ak))))))))⟩
noncomputable def lH:=(lX v0).1
abbrev ie:Stmt:=inClass (top 31) 0
def um:Sc ["self", "rows"] ["self", "rows"] ie:=cO
@[simp] noncomputable def lW:Qd 4 ["self", "rows"] "Walk.__init__" ie fun P w K m o Z=>∀{C_Walk},DefD P w K m o 4 "can_be_walked" ["thing"] v0->OCls K m "Walk" C_Walk ["rows", "whole"]->Nn m "sum"->Z:=
 ⟨_,fun ya yb yc hr=>(az (bu (bx (aU (aD ya hr aP (ao (aj 1) ak)) (fun _=>rfl)))
  (aA yF)
  aQ)
  (az (FN yb (by decide) (aj 0) (aj 1))
  (aA (FN yb (by decide) (aj 0) (aY (qe hr.hd) yc (ao (aM aV (aj 1) au) ak))))))⟩
noncomputable def lF:=(lW v0).1
abbrev iT:Stmt:=top 33
def u6:Sc ["_law_script", "_law_k"] ["_law_script", "_law_k"] iT:=cO
@[simp] noncomputable def nY:Qe 0 ["_law_script", "_law_k"] "_law_cell_at" iT fun D n Z=>n "len"->Z:=
 ⟨_,fun ya hr=>(az (bu (aN kj (aj 1) (aY call_lenD ya (ao (aj 0) ak)))
  (aA (aG (aM aV (aj 0) (aj 1))))
  aQ)
  (aA (aG au)))⟩
noncomputable def iD:=(nY).1
abbrev mQ:Stmt:=top 34
def qK:Sc ["_law_seed"] ["_law_seed"] mQ:=cO
@[simp] noncomputable def sS:Qe 0 ["_law_seed"] "_law_next" mQ fun _ _ Z=>Z:=
 ⟨_,fun  hr=>have nd:=qK.nd;(az (aX (i:=0) nd rfl (Or.inl rfl) (aZ dM (aZ cz (aj 0) au) au))
  (aA (aG (aZ dM (aZ cz (aZ cz (aZ vM (aj 0) (aj 0)) (aZ vM au (aj 0))) au) au))))⟩
noncomputable def rZ:=(sS).1
abbrev jy:Stmt:=top 35
def oh:Sc ["_law_cell", "_law_left"] ["_law_cell"] jy:=cO
@[simp] noncomputable def ju:Qe 0 ["_law_cell", "_law_left"] "_law_pen_of" jy fun D n Z=>n "int"->n "max"->Z:=
 ⟨_,fun ya yb hr=>have nd:=oh.nd;(az (aX (i:=1) nd rfl (Or.inl rfl) (aY (Dc rfl) yb (ao (aj 0) (ao (aZ nU au (aj 0)) ak))))
  (aA (aG (qX (ao (aj 1) (ao (iI (T := "int") oJ ya (ao (eZ zu (aj 1) (aZ La au au)) ak)) (ao (aZ dM (aj 1) au) ak)))))))⟩
noncomputable def pI:=(ju).1
abbrev mO:Stmt:=top 36
def qI:Sc ["_law_pen", "_law_many", "_law_found"] ["_law_pen", "_law_many"] mO:=cO
@[simp] noncomputable def mH:Qe 1 ["_law_pen", "_law_many", "_law_found"] "_law_draw" mO fun D n Z=>D 1 "_law_next" ["_law_seed"] v0->Z:=
 ⟨_,fun ya hr=>have nd:=qI.nd;(az (bu (DW.dt (FQ (aN (cI hr.units) (aM aV (aj 0) au) au) (Bm (aN nQ (aM aV (aj 0) au) au))))
  (az (aX (i:=2) nd rfl (Or.inl rfl) (aZ dM (aM aV (aj 0) au) (aj 1)))
  (az (qj (aZ oY (aM aV (aj 0) au) (aj 1)) (uC (aj 0) au Ed))
  (aA (aG (aj 2)))))
  aQ)
  (az (qj (aD ya hr aP (ao (aZ cz (aD ya hr aP (ao (aM aV (aj 0) au) ak)) au) ak)) (uC (aj 0) au Ed))
  (aA (aG (aZ dM (aZ oY (aM aV (aj 0) au) au) (aj 1))))))⟩
noncomputable def rY:=(mH v0).1
abbrev mR:Stmt:=top 37
def qL:Sc ["_law_pen", "_law_most", "_law_many", "_law_whole_here", "_law_way", "_law_rows_here", "_law_x", "_law_some", "_law_row", "_law_ball"] ["_law_pen", "_law_most"] mR:=cO
@[simp] noncomputable def mJ:Qe 2 ["_law_pen", "_law_most", "_law_many", "_law_whole_here", "_law_way", "_law_rows_here", "_law_x", "_law_some", "_law_row", "_law_ball"] "_law_rows" mR fun D n Z=>D 2 "_law_draw" ["_law_pen", "_law_many"] v0->n "int"->n "len"->n "list"->n "range"->n "tuple"->Z:=
 ⟨_,fun ya yb yc yd ye yf hr=>have nd:=qL.nd;(az (Kf (i:=2) (j:=3) (k:=4) rfl nd rfl rfl rfl (by decide) (by decide) (by decide) rfl rfl rfl (ao (aZ cz au (aD ya hr aP (ao (aj 0) (ao (aj 1) ak)))) (ao (aM aV (cN (ao au (ao au (ao au (ao au (ao au (ao au ak))))))) (aD ya hr aP (ao (aj 0) (ao au ak)))) (ao (aD ya hr aP (ao (aj 0) (ao au ak))) ak))) rfl)
  (az (aX (i:=5) nd rfl (Or.inl rfl) (qX ak))
  (az (cQ 0 Um rfl (bN rfl ye (ao (aj 2) ak)) (aJ (i:=6) nd rfl (Or.inr rfl))
  (az (aX (i:=7) nd rfl (Or.inl rfl) (vX rfl yd ye (ao (aj 2) ak)))
  (az (bu (aN (cI hr.units) (aj 4) au)
  (aA (aX (i:=7) nd rfl (Or.inl rfl) (cN (ao (aD ya hr aP (ao (aj 0) (ao (aj 2) ak))) (ao (aD ya hr aP (ao (aj 0) (ao (aj 2) ak))) ak)))))
  aQ)
  (az (bu (aN (cI hr.units) (aj 4) au)
  (aA (aX (i:=7) nd rfl (Or.inl rfl) (cN (ao (aZ dM (aZ cz (aj 6) au) (aj 2)) ak))))
  aQ)
  (az (bu (aN (cI hr.units) (aj 4) au)
  (aA (aX (i:=7) nd rfl (Or.inl rfl) (aZ cz (bO (own:=["_law_y"]) (js:=[6]) (fr:=["_law_x"]) .val rfl (by trivial) (bN rfl ye (ao (aj 2) ak)) (λz z z z z z=>(aJ (i:=0) (dX ["_law_y", "_law_x"]) rfl (Or.inl rfl))) (λz z z z z z=>(cD (aN (bM hr.units) (aZ dM (aj 0) au) (aZ dM (aj 1) au)))) (λz z z z z z=>(aj 0))) (aZ K6 (cN (ao (aj 6) ak)) (iI (T := "int") oJ yb (ao (eZ (cI hr.units) (aj 2) au) ak))))))
  aQ)
  (az (bu (aN (cI hr.units) (aj 4) au)
  (aA (oM (i:=7) (own:=["_law_y"]) (js:=[6]) (fr:=["_law_x"]) .val nd rfl (Or.inl rfl) rfl (by trivial) (bN rfl ye (ao (aj 2) ak)) (λz z z z z z=>(aJ (i:=0) (dX ["_law_y", "_law_x"]) rfl (Or.inl rfl))) (λz z z z z z=>(cD (aN (cI hr.units) (aZ oY (aj 0) au) (aZ oY (aj 1) au)))) (λz z z z z z=>(aj 0))))
  aQ)
  (az (bu (aN (cI hr.units) (aj 4) au)
  (aA (aX (i:=7) nd rfl (Or.inl rfl) (vX rfl yd ye (ao (aZ cz (aj 6) au) ak))))
  aQ)
  (az (aX (i:=8) nd rfl (Or.inl rfl) (aZ K7 (cN (ao au ak)) (aj 2)))
  (az (cQ 0 Um rfl (bN rfl ye (ao (aj 3) ak)) (aJ (i:=9) nd rfl (Or.inl rfl))
  (aA (Ke (aj 8) (aM aV (aj 7) (aD ya hr aP (ao (aj 0) (ao (aY call_lenD yc (ao (aj 7) ak)) ak)))) zx au)))
  (aA (rA (wW Wu Xm Xq vJ (aj 5) (ao (iI (T := "tuple") cM yf (ao (aj 8) ak)) ak)))))))))))))
  (aA (aG (iI (T := "tuple") cM yf (ao (aj 5) ak)))))))⟩
noncomputable def sy:=(mJ v0).1
abbrev lu:Stmt:=top 38
def wO:Sc ["_law_thing"] ["_law_thing"] lu:=cO
@[simp] noncomputable def qz:Qe 0 ["_law_thing"] "_law_whole" lu λD n Z=>n "bool"->n "int"->n "isinstance"->Z:=
 ⟨_,λya yb yc hr=>(aA (aG (m9 (aY bV yc (ao (aj 0) (ao (dY (T := "int") yb) ak))) (nu (Fv (aY bV yc (ao (aj 0) (ao (dY (T := "bool") ya) ak))))))))⟩
noncomputable def qb:=(qz).1
abbrev jx:Stmt:=top 39
def vN:Sc ["_law_rows_here", "_law_thing", "_law_steps", "_law_start", "_law_last"] ["_law_rows_here", "_law_thing", "_law_steps", "_law_start", "_law_last"] jx:=cO
@[simp] noncomputable def pN:Qe 1 ["_law_rows_here", "_law_thing", "_law_steps", "_law_start", "_law_last"] "_law_is_way" jx fun D n Z=>D 1 "_law_whole" ["_law_thing"] v0->n "isinstance"->n "len"->n "range"->n "tuple"->Z:=
 ⟨_,fun ya yb yc yd ye hr=>(az (bu (DW.dt (cB (bx (aU (aY bV yb (ao (aj 1) (ao (dY (T := "tuple") ye) ak))) (fun _=>rfl))) (cG (aN (bM hr.units) (aY call_lenD yc (ao (aj 1) ak)) (aZ cz (aj 2) au)))))
  (aA (aG cA))
  aQ)
  (az (bu (aN (bM hr.units) (bO (own:=["_law_one"]) (js:=[0]) (fr:=["_law_rows_here"]) .val rfl (by trivial) (cC (aj 1)) (λz z z z z z=>(aJ (i:=0) (dX ["_law_one", "_law_rows_here"]) rfl (Or.inl rfl))) (λz z z z z z=>(cD (DW.dt (cB (bx (aU (aD ya hr km (ao (aj 0) ak)) (λz=>rfl))) (cG (bx (oN nR kj au (aj 0) (aY call_lenD yc (ao (aj 1) ak))))))))) (λz z z z z z=>au)) (cN ak))
  (aA (aG cA))
  aQ)
  (az (bu (DW.dt (cB (aN (bM hr.units) (aM aV (aj 1) au) (aj 3)) (cG (aN (bM hr.units) (aM aV (aj 1) (aj 2)) (aj 4)))))
  (aA (aG cA))
  aQ)
  (aA (aG (eZ (cI hr.units) (bO (own:=["_law_at"]) (js:=[0,1]) (fr:=["_law_rows_here", "_law_thing"]) .val rfl (by trivial) (bN rfl yd (ao (aj 2) ak)) (λz z z z z z=>(aJ (i:=0) (dX ["_law_at", "_law_rows_here", "_law_thing"]) rfl (Or.inl rfl))) (λz z z z z z=>(cD (aN (cI hr.units) (aM aV (aM aV (aj 1) (aM aV (aj 2) (aj 0))) (aM aV (aj 2) (aZ cz (aj 0) au))) au))) (λz z z z z z=>(aj 0))) (cN ak)))))))⟩
noncomputable def pH:=(pN v0).1
abbrev fV:Stmt:=top 40
def qJ:Sc ["_law_rows_here", "_law_thing"] ["_law_rows_here", "_law_thing"] fV:=cO
@[simp] noncomputable def jF:Qe 2 ["_law_rows_here", "_law_thing"] "_law_is_meeting" fV fun D n Z=>D 1 "_law_whole" ["_law_thing"] v0->D 2 "_law_is_way" ["_law_rows_here", "_law_thing", "_law_steps", "_law_start", "_law_last"] v1->n "all"->n "enumerate"->n "isinstance"->n "len"->n "tuple"->Z:=
 ⟨_,fun ya yb yc yd ye yf yg hr=>(az (bu (DW.dt (cB (bx (aU (aY bV ye (ao (aj 1) (ao (dY (T := "tuple") yg) ak))) (fun _=>rfl))) (cB (aN (bM hr.units) (aY call_lenD yf (ao (aj 1) ak)) au) (cB (bx (aU (aD ya hr aP (ao (aM aV (aj 1) au) ak)) (fun _=>rfl))) (cG (aN kj (aM aV (aj 1) au) au))))))
  (aA (aG cA))
  aQ)
  (az (bu (DW.dt (cB (bx (aU (aD ya hr aP (ao (aM aV (aj 1) au) ak)) (λz=>rfl))) (cB (bx (oN nR kj au (aM aV (aj 1) au) (aY call_lenD yf (ao (aj 0) ak)))) (cG (bx (aU (aY bV ye (ao (aM aV (aj 1) au) (ao (dY (T := "tuple") yg) ak))) (λz=>rfl)))))))
  (aA (aG cA))
  aQ)
  (az (bu (aN (bM hr.units) (aY call_lenD yf (ao (aM aV (aj 1) au) ak)) (aY call_lenD yf (ao (aj 0) ak)))
  (aA (aG cA))
  aQ)
  (aA (aG (aY (dU hr.hd) yc (ao (bO (own:=["_law_start", "_law_way"]) (js:=[0,1]) (fr:=["_law_rows_here", "_law_thing"]) .val rfl (by trivial) (q9 rfl yd (ao (aM aV (aj 1) au) ak)) (λz z z z z z=>(nA (n:=2) rfl (cP (aJ (i:=0) (dX ["_law_start", "_law_way", "_law_rows_here", "_law_thing"]) rfl (Or.inl rfl)) (cP (aJ (i:=1) (dX ["_law_start", "_law_way", "_law_rows_here", "_law_thing"]) rfl (Or.inl rfl)) jO)))) (λz z z z z z=>fL) (λz z z z z z=>(aD yb hr km (ao (aj 2) (ao (aj 1) (ao (aM aV (aj 3) au) (ao (aj 0) (ao (aM aV (aj 3) au) ak)))))))) ak)))))))⟩
noncomputable def jD:=(jF v0 v1).1
abbrev ig:Stmt:=top 41
def lw:Sc ["_law_rows_here", "_law_thing", "_law_some"] ["_law_rows_here", "_law_thing"] ig:=cO
@[simp] noncomputable def gU:Qe 1 ["_law_rows_here", "_law_thing", "_law_some"] "_law_are_sets" ig fun D n Z=>D 1 "_law_whole" ["_law_thing"] v0->n "isinstance"->n "len"->n "list"->n "set"->n "sorted"->n "tuple"->Z:=
 ⟨_,fun ya yb yc yd ye yf yg hr=>have nd:=lw.nd;(az (bu (DW.dt (cB (bx (aU (aY bV yb (ao (aj 1) (ao (dY (T := "tuple") yg) ak))) (fun _=>rfl))) (cG (aN (BW hr.units) (aj 1) (dJ ak)))))
  (aA (aG cA))
  aQ)
  (az (cQ 0 Um rfl (cC (aj 1)) (aJ (i:=2) nd rfl (Or.inl rfl))
  (az (bu (DW.dt (cB (bx (aU (aY bV yb (ao (aj 2) (ao (dY (T := "tuple") yg) ak))) (λz=>rfl))) (cG (aN (BW hr.units) (aj 2) (dJ ak)))))
  (aA (aG cA))
  aQ)
  (az (bu (aN (bM hr.units) (bO (own:=["_law_one"]) (js:=[0]) (fr:=["_law_rows_here"]) .val rfl (by trivial) (cC (aj 2)) (λz z z z z z=>(aJ (i:=0) (dX ["_law_one", "_law_rows_here"]) rfl (Or.inl rfl))) (λz z z z z z=>(cD (DW.dt (cB (bx (aU (aD ya hr km (ao (aj 0) ak)) (λz=>rfl))) (cG (bx (oN nR kj au (aj 0) (aY call_lenD yc (ao (aj 1) ak))))))))) (λz z z z z z=>au)) (cN ak))
  (aA (aG cA))
  aQ)
  (aA (bu (aN (bM hr.units) (iI (T := "list") CZ yd (ao (aj 2) ak)) (Fy rfl yf ye (ao (aj 2) ak)))
  (aA (aG cA))
  aQ)))))
  (aA (aG cA))))⟩
noncomputable def lG:=(gU v0).1
abbrev gA:Stmt:=top 42
def jG:Sc ["_law_rows_here", "_law_thing", "_law_mine", "_law_yours", "_law_ring", "_law_at", "_law_some", "_law_later", "_law_x"] ["_law_rows_here", "_law_thing"] gA:=cO
@[simp] noncomputable def gm:Qe 2 ["_law_rows_here", "_law_thing", "_law_mine", "_law_yours", "_law_ring", "_law_at", "_law_some", "_law_later", "_law_x"] "_law_are_rings" gA fun D n Z=>D 2 "_law_are_sets" ["_law_rows_here", "_law_thing"] v0->n "enumerate"->n "isinstance"->n "len"->n "range"->n "tuple"->n "zip"->Z:=
 ⟨_,fun ya yb yc yd ye yf yg hr=>have nd:=jG.nd;(az (bu (DW.dt (cB (bx (aU (aY bV yc (ao (aj 1) (ao (dY (T := "tuple") yf) ak))) (fun _=>rfl))) (cG (aN (bM hr.units) (aY call_lenD yd (ao (aj 1) ak)) au))))
  (aA (aG cA))
  aQ)
  (az (bu (DW.dt (cB (bx (aU (aD ya hr aP (ao (aj 0) (ao (aM aV (aj 1) au) ak))) (λz=>rfl))) (cB (bx (aU (aD ya hr aP (ao (aj 0) (ao (aM aV (aj 1) au) ak))) (λz=>rfl))) (cG (aN (bM hr.units) (aY call_lenD yd (ao (aM aV (aj 1) au) ak)) (aY call_lenD yd (ao (aM aV (aj 1) au) ak)))))))
  (aA (aG cA))
  aQ)
  (az (cQ 0 Um rfl (MT rfl yg (ao (aM aV (aj 1) au) (ao (aM aV (aj 1) au) ak))) (nA (n:=2) rfl (cP (aJ (i:=2) nd rfl (Or.inl rfl)) (cP (aJ (i:=3) nd rfl (Or.inr rfl)) jO)))
  (aA (bu (aN (bM hr.units) (bO (own:=["_law_place"]) (js:=[3]) (fr:=["_law_yours"]) .val rfl (by trivial) (cC (aj 2)) (λz z z z z z=>(aJ (i:=0) (dX ["_law_place", "_law_yours"]) rfl (Or.inl rfl))) (λz z z z z z=>(cD (aN GK (aj 0) (aj 1)))) (λz z z z z z=>(aj 0))) (cN ak))
  (aA (aG cA))
  aQ)))
  (az (cQ 0 Um rfl (cC (aj 1)) (aJ (i:=4) nd rfl (Or.inl rfl))
  (aA (cQ 0 Um rfl (q9 rfl yb (ao (aj 4) ak)) (nA (n:=2) rfl (cP (aJ (i:=5) nd rfl (Or.inl rfl)) (cP (aJ (i:=6) nd rfl (Or.inl rfl)) jO)))
  (az (aX (i:=7) nd rfl (Or.inr rfl) (aM aV (aj 4) (aZ dM (aZ cz (aj 5) au) (aY call_lenD yd (ao (aj 4) ak)))))
  (aA (cQ 0 Um rfl (cC (aj 6)) (aJ (i:=8) nd rfl (Or.inr rfl))
  (aA (bu (aN (bM hr.units) (bO (own:=["_law_y"]) (js:=[0,8,7]) (fr:=["_law_rows_here", "_law_x", "_law_later"]) .val rfl (by trivial) (bN rfl ye (ao (aY call_lenD yd (ao (aj 0) ak)) ak)) (λz z z z z z=>(aJ (i:=0) (dX ["_law_y", "_law_rows_here", "_law_x", "_law_later"]) rfl (Or.inl rfl))) (λz z z z z z=>(cD (DW.dt (FQ (aN nQ (aM aV (aM aV (aj 1) (aj 2)) (aj 0)) au) (Bm (aN BX (aj 0) (aj 3))))))) (λz z z z z z=>(aj 0))) (cN ak))
  (aA (aG cA))
  aQ))))))))
  (aA (aG cA))))))⟩
noncomputable def jW:=(gm v0).1
abbrev lg:Stmt:=top 43
def pQ:Sc ["_law_rows_here", "_law_lands", "_law_many", "_law_steps", "_law_shared", "_law_later", "_law_some"] ["_law_rows_here"] lg:=cO
@[simp] noncomputable def kJ:Qe 0 ["_law_rows_here", "_law_lands", "_law_many", "_law_steps", "_law_shared", "_law_later", "_law_some"] "_law_first" lg fun D n Z=>n "len"->n "range"->Z:=
 ⟨_,fun ya yb hr=>have nd:=pQ.nd;(az (qj (dJ (ao (bO (own:=["_law_x"]) (js:=[]) (fr:=[]) .sto rfl (by trivial) (bN rfl yb (ao (aY call_lenD ya (ao (aj 0) ak)) ak)) (fun _ _ _ _ _ _=>(aJ (i:=0) (dX ["_law_x"]) rfl (Or.inl rfl))) (fun _ _ _ _ _ _=>fL) (fun _ _ _ _ _ _=>(cN (ao (aj 0) ak)))) (ao (aY call_lenD ya (ao (aj 0) ak)) ak))) (nA (n:=2) rfl (cP (aJ (i:=1) nd rfl (Or.inr rfl)) (cP (aJ (i:=2) nd rfl (Or.inl rfl)) jO))))
  (az (cQ 0 Um rfl (bN rfl yb (ao (aZ cz (aZ vM (aZ nU (aj 2) au) (aZ nU (aj 2) au)) au) ak)) (aJ (i:=3) nd rfl (Or.inl rfl))
  (az (oM (i:=4) (own:=["_law_y"]) (js:=[1]) (fr:=["_law_lands"]) .val nd rfl (Or.inl rfl) rfl (by trivial) (bN rfl yb (ao (aj 2) ak)) (λz z z z z z=>(aJ (i:=0) (dX ["_law_y", "_law_lands"]) rfl (Or.inr rfl))) (λz z z z z z=>(cD (aN (cI hr.units) (bO (own:=["_law_some"]) (js:=[0]) (fr:=["_law_y"]) .val rfl (by trivial) (jk (aj 1)) (λz z z z z z=>(aJ (i:=0) (dX ["_law_some", "_law_y"]) rfl (Or.inl rfl))) (λz z z z z z=>(cD (aN BX (aj 1) (aj 0)))) (λz z z z z z=>au)) (cN ak)))) (λz z z z z z=>(aj 0)))
  (az (bu (aN (bM hr.units) (aj 4) (cN ak))
  (aA (aG (dJ (ao (aj 3) (ao (aM aV (aj 4) au) ak)))))
  aQ)
  (az (aX (i:=5) nd rfl (Or.inl rfl) (qX ak))
  (az (cQ 20 Um rfl (jk (aj 1)) (aJ (i:=6) nd rfl (Or.inr rfl))
  (aA (rA (wW Wu Xm Xq vJ (aj 5) (ao (bO (own:=["_law_y"]) (js:=[6,0]) (fr:=["_law_some", "_law_rows_here"]) .val rfl (by trivial) (bN rfl yb (ao (aj 2) ak)) (λz z z z z z=>(aJ (i:=0) (dX ["_law_y", "_law_some", "_law_rows_here"]) rfl (Or.inr rfl))) (λz z z z z z=>(cD (aN (bM hr.units) (bO (own:=["_law_x"]) (js:=[2,0]) (fr:=["_law_rows_here", "_law_y"]) .val rfl (by trivial) (jk (aj 1)) (λz z z z z z=>(aJ (i:=0) (dX ["_law_x", "_law_rows_here", "_law_y"]) rfl (Or.inl rfl))) (λz z z z z z=>(cD (aN nQ (aM aV (aM aV (aj 1) (aj 0)) (aj 2)) au))) (λz z z z z z=>(aj 0))) (cN ak)))) (λz z z z z z=>(aj 0))) ak)))))
  (aA (aX (i:=1) nd rfl (Or.inr rfl) (aj 5))))))))
  (aA (aG yx))))⟩
noncomputable def p7:=(kJ).1
abbrev lq:Stmt:=top 44
def pR:Sc ["_law_rows_here", "_law_said", "_law_first_here"] ["_law_rows_here", "_law_said"] lq:=cO
@[simp] noncomputable def kO:Qe 3 ["_law_rows_here", "_law_said", "_law_first_here"] "_law_right" lq fun D n Z=>D 1 "_law_first" ["_law_rows_here"] v0->D 3 "_law_are_rings" ["_law_rows_here", "_law_thing"] v1->D 3 "_law_is_meeting" ["_law_rows_here", "_law_thing"] v2->n "int"->n "isinstance"->n "len"->n "tuple"->Z:=
 ⟨_,fun ya yb yc yd ye yf yg hr=>have nd:=pR.nd;(az (aX (i:=2) nd rfl (Or.inl rfl) (aD ya hr aP (ao (aj 0) ak)))
  (az (bu (DW.dt (cB (bx (aU (aY bV ye (ao (aj 1) (ao (dY (T := "tuple") yg) ak))) (λz=>rfl))) (cB (aN (bM hr.units) (aY call_lenD yf (ao (aj 1) ak)) au) (cG (aN (bM hr.units) (aM aV (aj 1) au) (aM aV (cN (ao qi (ao qi ak))) (iI (T := "int") oJ yd (ao (eZ GQ (aj 2) yx) ak))))))))
  (aA (aG cA))
  aQ)
  (az (bu (aN GQ (aj 2) yx)
  (aA (aG (aD yb hr aP (ao (aj 0) (ao (aM aV (aj 1) au) ak)))))
  aQ)
  (aA (aG (m9 (aD yc hr aP (ao (aj 0) (ao (aM aV (aj 1) au) ak))) (nu (eZ (cI hr.units) (tK (aM aV (aj 1) au) vA (nF au)) (aj 2)))))))))⟩
noncomputable def p8:=(kO v0 v1 v2).1
abbrev DY:Stmt:=top 45
def Hh:Sc ["_law_script", "_law_cell", "_law_pen", "_law_turn", "_law_rows_here", "_law_walk"] ["_law_script"] DY:=cO
@[simp] noncomputable def DK:Qd 8 ["_law_script", "_law_cell", "_law_pen", "_law_turn", "_law_rows_here", "_law_walk"] "law" DY fun P w K m o Z=>∀{C_Walk},DefD P w K m o 1 "_law_cell_at" ["_law_script", "_law_k"] v0->DefD P w K m o 1 "_law_pen_of" ["_law_cell"] v1->DefD P w K m o 3 "_law_rows" ["_law_pen", "_law_most"] v2->DefD P w K m o 8 "forgets" ["walk"] v3->DefD P w K m o 4 "_law_right" ["_law_rows_here", "_law_said"] v4->ClsD P w K m o 5 "Walk" v5->OCls K m "Walk" C_Walk ["rows", "whole"]->Nn m "range"->Z:=
 ⟨_,fun ya yb yc yd ye yf yg yh hr=>have nd:=Hh.nd;(az (cQ 0 PassesOwn.leaving rfl (jk (aZ cz (cN (ao (aD ya hr aP (ao (aj 0) (ao au ak))) ak)) (Fw (aj 0) (nF au) (nF au)))) (aJ (i:=1) nd rfl (Or.inl rfl))
  (az (aX (i:=2) nd rfl (Or.inl rfl) (aD yb hr aP (ao (aj 1) ak)))
  (aA (cQ 0 Um rfl (bN rfl yh (ao au ak)) (aJ (i:=3) nd rfl (Or.inl rfl))
  (az (aX (i:=4) nd rfl (Or.inl rfl) (aD yc hr aP (ao (aj 2) (ao au ak))))
  (az (aX (i:=5) nd rfl (Or.inl rfl) (Bl yf hr aP (ao (aj 4) ak)))
  (az (bu (DW.dt (cB (bx (aU (aD ye hr aP (ao (aj 4) (ao (aD yd hr aP (ao (aj 5) ak)) ak))) (λz=>rfl))) (cG (bx (aU (aD ye hr aP (ao (aj 4) (ao (aD yd hr aP (ao (Bl yf hr aP (ao (aj 4) ak)) ak)) ak))) (λz=>rfl))))))
  (aA (aG cA))
  aQ)
  (aA (bu (DW.dt (cB (aN (bM hr.units) (aM aV (aD yd hr aP (ao (aj 5) ak)) au) (aM aV (aD yd hr aP (ao (aj 5) ak)) au)) (cG (aN (bM hr.units) (yw yg (by decide) (aj 5)) (aj 4)))))
  (aA (aG cA))
  aQ)))))))))
  (aA (aG cA)))⟩
noncomputable def JB:=(DK v0 v1 v2 v3 v4 v5).1
end
end K
namespace K
open PySem L2 L3 N10
def bF:(∀(α:Type) (a:α) (l:List α),(a::l)[0]?=some a)/\(∀(α:Type) (a:α) (l:List α) (i:Nat),(a::l)[i+1]?=l[i]?)/\(∀(α:Type) (x:Option α),(some x).join=x)/\(∀(α:Type) (a:α),(opt (some a):DM α)=pure a)/\∀(α β:Type) (a:α) (f:α->DM β),((pure a:DM α)>>=f)=f a:=⟨λz z z=>rfl,λz z z z=>rfl,λz z=>rfl,λz z=>fG _,λz z z z=>aq _ _⟩
def cF:(∀(α:Type) (a b:α) (l:List α) (i:Nat),(a::l).set (i+1) b=a::l.set i b)/\∀(α:Type) (a b:α) (l:List α),(a::l).set 0 b=b::l:=⟨λz z z z z=>rfl,λz z z z=>rfl⟩
noncomputable def xF:=aL 1 1 ux
noncomputable def Bb:=aL 2 2 (pJ xF)
def Gm(n:Nat):xF [nD n]=pure (.bl true):=by
 have a:(rd (gh [nD n,.ty "int"]):DM D)=pure (.bl true):=jM (t := "int") (λz=>rfl) (by decide)
 have b:(rd (gh [nD n,.ty "bool"]):DM D)=pure (.bl false):=jM (t := "int") (λz=>rfl) (by decide)
 simp[xF,ux,a,b]
def MF{l:List Nat}(hl:l.length<=1000):Bb [nT l,.int (l.length:Int)]=pure (.bl true):=by
 have a:(rd (gh [nT l,.ty "tuple"]):DM D)=pure (.bl true):=jM (t := "tuple") (λz=>rfl) (by decide)
 have ln:(rd (gM [nT l]):DM D)=pure (.int (l.length:Int)):=by simp[nT]
 simp[Bb,pJ,a,ln,aO,b8];show (dq (bj _ _ _ (l.map nD) _ _)>>=_)=_;rw[PN (λz=>true) (λz=>.bl true) (by simpa using Ue hl (by decide)) (λz z=>rfl) (λd hd z=>?_) (k':=λl=>rd (pZ [.lst l])) (λz=>rfl)]
 ·have:((l.map nD).filter (λz=>true)).map (λz=>D.bl true)=(l.map λz=>true).map D.bl:=by rw[Ws.mpr (λz z=>rfl),Ug,Ug];rfl
  have q:(l.map λz=>true).all id=true:=by rw[U3];intro x hx;obtain⟨_,_,rfl⟩:=Uh.mp hx;rfl
  rw[this,uV,q]
 ·obtain⟨n,_,rfl⟩:=Uh.mp hd;have:=Gm n;unfold nD at this ⊢
  simp[this]
noncomputable def xq:=aL 2 2 iD
def MJ(cs:List Int)(k:Nat):∃ c:Int,xq [.scr cs,nD k]=pure (.int c):=by
 by_cases h:k<cs.length
 ·have e:decide ((k:Int)<(cs.length:Int))=true:=Tw (by lia)
  have ix:(rd (bW (.scr cs) (.int (k:Int))):DM D)=pure (.int cs[k]):=bz λM=>by show (atI cs (k:Int)).map _=_;rw[gJ (Tc h)];rfl
  refine⟨cs[k],?_⟩;simp[xq,iD,nD,e,ix,h]
 ·have e:decide ((k:Int)<(cs.length:Int))=false:=Uq (by lia)
  refine⟨0,?_⟩;simp[xq,iD,nD,e,h]
def aH{f g:aa->DM Fl}{δ:aa}{M:Mo}{Q:Fl->Mo->Prop}(h:∀K:Fl->DM Fl,(∀δ',K (.nx δ')=g δ')->Rn (f δ>>=K) M Q):Rn (Eb f g δ) M Q:=by
 have:=h (λr=>match r with | .nx δ'=>g δ' | r=>Pure.pure r) (λz=>rfl)
 exact this
structure WK(R:List (List Nat))(W:Nat):Prop where
 n1:1<=R.length
 n25:R.length<=25
 row:∀r∈R,r.length=R.length
 sum:∀r∈R,r.sum=W
 w1:1<=W
def WK.head{R:List (List Nat)}{W:Nat}(h:WK R W):gr R 0∈R:=gr_mem (by have:=h.n1;lia)
noncomputable def Ek:=aL 2 2 (uv Bb)
noncomputable def El:=aL 1 2 (lH Ek)
def J2{l:List Nat}{n:Nat}(h:l.length=n)(hl:n<=1000):Bb [nT l,nD n]=pure (.bl true):=by subst h;exact MF hl
def jU(n:Nat):(rd (pZ [.lst (List.replicate n (.bl true))]):DM D)=pure (.bl true):=by have:=uV (List.replicate n true);rw[List.map_replicate]at this;rw[this];simp
def jo{α:Type}(l:List α)(d:D):(l.map λz=>d)=List.replicate l.length d:=List.map_const' ..
def Mx{R:List (List Nat)}{W:Nat}(h:WK R W):Ek [nM R,nD R.length]=pure (.bl true):=by
 have:=h.n25;simp[Ek,uv,uW,eG,qD,G5,aO,b8];rw[iZ nT (λz=>.bl true) (by lia) (λr hr=>by simp[J2 (h.row r hr) (by lia)])]
 rw[aq,jo,jU]
def MP{R:List (List Nat)}{W:Nat}(h:WK R W):El [nM R]=pure (.bl true):=by
 have h1:=h.n1;have h2:=h.n25;have e1:(rd (yV (.int 1) (nD R.length)):DM D)=pure (.bl true):=by rw[show D.int 1=nD 1 from rfl,uX,Tw h1]
 have e2:(rd (yV (nD R.length) (.int 25)):DM D)=pure (.bl true):=by rw[show D.int 25=nD 25 from rfl,uX,Tw h2]
 have e3:(rd (Gb (nD W) (.int 1)):DM D)=pure (.bl true):=by rw[show D.int 1=nD 1 from rfl,G7,Tw h.w1]
 have e4:∀r∈R,(rd (cX (nD r.sum) (nD W)):DM D)=pure (.bl true):=λr hr=>by rw[cT,h.sum r hr];simp
 simp[El,lH,uW,eG,e1,e2,Mx h,G9 (R:=R) (by lia),h.sum _ h.head]
 simp[e3,G5,aO,b8];rw[iZ nT (λz=>.bl true) (by lia) (λr hr=>by simp[e4 r hr])]
 rw[aq,jo,jU]
noncomputable def bh(R:List (List Nat))(W:Nat):D:=.obj "Walk" ["rows", "whole"] [nM R,nD W]
noncomputable def Fin:=aL 2 2 (lF El)
def Cm{M:Mo}{ns:List Str}{vs:List D}{f:Str}{d:D}(hl:ns.length=vs.length)(hz:ns.length<1000):wZ "Walk" f (.ref M.length) d (M++[.ins "Walk" ns vs])=some (.ok (),M++[.ins "Walk" (putN f ns) (kI f d ns vs)]):=by
 unfold wZ;simp[hl]
 lia
def qp{R:List (List Nat)}{W:Nat}(h:WK R W)(M:Mo):Fin (.ref M.length::[nM R]) (M++[.ins "Walk" [] []])=some (.ok .non,M++[.ins "Walk" ["rows", "whole"] [nM R,nD W]]):=by
 have h1:=h.n1;have go:Rn (Fin (.ref M.length::[nM R])) (M++[.ins "Walk" [] []]) λd M'=>d=.non/\M'=M++[.ins "Walk" ["rows", "whole"] [nM R,nD W]]:=by
  simp[Fin,lF,MP h,G9 (R:=R) (by lia)]
  refine Rn.run (Cm rfl (by decide)) ?_
  rw[h.sum _ h.head];refine Rn.run (Cm rfl (by decide)) ?_
  exact Rn.pure ⟨rfl,rfl⟩
 obtain⟨d,M',e,rfl,rfl⟩:=go;exact e
open Classical in
noncomputable def xj(ds:List D):DM D:=if h:∃p:List (List Nat)×Nat,WK p.1 p.2/\ds=[nM p.1] then pure (bh (choose h).1 (choose h).2) else stuck
def Hy{R:List (List Nat)}{W:Nat}(h:WK R W):xj [nM R]=pure (bh R W):=by
 have q:∃p:List (List Nat)×Nat,WK p.1 p.2/\[nM R]=[nM p.1]:=⟨(R,W),h,rfl⟩;unfold xj;rw[dif_pos q];obtain⟨a,b⟩:=Classical.choose_spec q;generalize Classical.choose q=p at a b;have e:R=p.1:=Ov (by simpa using b)
 have w:W=p.2:=by have:=h.sum _ h.head;rw[<-this,e];exact a.sum _ a.head
 rw[<-e,<-w]
set_option tactic.hygienic true in
def Pz:∀ds M r',xj ds M=some r'->Mu "Walk" Fin ds M r':=by
 intro ds M r' e;unfold xj at e;split at e
 ·rename_i q;obtain⟨a,b⟩:=Classical.choose_spec q;generalize Classical.choose q=p at a b e;subst b;cases e;refine .inl ⟨["rows", "whole"],[nM p.1,nD p.2],qp a M,λd hd=>?_,rfl⟩
  rcases Tt.mp hd with rfl | hd
  ·exact .inl (by simp)
  ·exact .inr ⟨p.2,by simpa[nD] using hd⟩
 ·cases e
def tR(R:List (List Nat))(W:Nat):(rd (Dl "Walk" "rows" (bh R W)):DM D)=pure (nM R):=bz λM=>by simp[Dl,bh]
noncomputable def ji:=aL 1 1 m8
def Ol(R:List (List Nat))(W:Nat):ji [bh R W]=pure (nD R.length):=by simp[ji,m8,tR,eG]
def rG{R:List (List Nat)}{W:Nat}(h:R.length<=25):yW "Walk" ji [bh R W]=pure (nD R.length):=by
 have e:yW "Walk" ji [bh R W]=(if ("Walk":Str) = "Walk" then ji [bh R W]>>=Df else stuck):=rfl
 rw[e,Tf rfl,Ol,aq];have q:(0:Int)<=(R.length:Int)/\(R.length:Int)<2^63:=⟨by lia,by lia⟩
 unfold Df nD;dsimp only;rw[Tf q]
def Gh(b:Bool):(rd (uL [.bl b]):DM D)=pure (nD (if b then 1 else 0)):=by cases b<;>rfl
def Lw{l:List Nat}{i v:Nat}(h:i<l.length):(l.set i v).sum + ga l i=l.sum + v:=by
 induction l generalizing i with
 |nil=>simp at h
 | cons a l ih=>
   cases i with
   |zero=>simp[ga];lia
   |succ i=>
     have:=ih (i:=i) (by simpa using h)
     rw[List.set_cons_succ,Yz,Yz];have e:ga (a::l) (i+1)=ga l i:=rfl;rw[e];lia
def uZ{n j:Nat}{d:D}(h:((List.range n).map nD)[j]?=some d):j<n/\d=nD j:=by
 have hj:j<n:=by have:=(S7.mp h).1;simpa using this
 rw[Tp,U9 hj]at h;exact⟨hj,(Tu h).symm⟩
def zK{l:List Nat}{i:Nat}(h:i<l.length):(rd (bW (.lst (l.map nD)) (nD i)):DM D)=pure (nD (ga l i)):=Qo (i:=i) (by rw[Tp,Tc h,lN h];rfl)
def fF{k:Nat}{tg:D->aa->DM aa}{fb:aa->DM Fl}{l:List D}{δ:aa}:Nz k tg fb (.fix l) δ=forL tg fb l δ:=rfl
def lA{fg:D->aa->DM aa}{ft:aa->DM Bool}{fb:aa->List D->DM (aa×List D)}{ds:List D}{δ:aa}{l:List D}:bL fg ft fb (.fix ds) δ l=bj fg ft fb ds δ l:=rfl
def Ln{a b:Nat}(ha:a<2^62)(hb:b<2^62):zR [nD a,nD b]=some (.fix ((List.range (b-a)).map λk=>nD (a+k))):=by
 have e:∀x:Nat,x<2^62->o6 (x:Int)=true:=λx h=>by unfold o6;simp;lia
 have e2:((b:Int)-(a:Int)).toNat=b-a:=by lia
 simp[zR,nD,e a ha,e b hb,e2,o5]
def cH{f g:aa->DM Fl}{δ:aa}{M:Mo}{Q:Fl->Mo->Prop}(h:∀K:Fl->DM Fl,(∀δ',K (.nx δ')=g δ')->(∀d,K (.rt d)=Pure.pure (.rt d))->Rn (f δ>>=K) M Q):Rn (Eb f g δ) M Q:=by
 have:=h (λr=>match r with | .nx δ'=>g δ' | r=>Pure.pure r) (λz=>rfl) (λz=>rfl)
 exact this
noncomputable def Es:=aL 1 1 rZ
def GJ{s:Nat}(h:s<2^40):∃t:Nat,t<2147483629/\Es [nD s]=pure (nD t):=by
 refine⟨(((s+7919)%2147483647)*((s+7919)%2147483647)+48271*((s+7919)%2147483647)+12345)%2147483629,UV _ (by decide),?_⟩
 have a1:(rd (cZ (nD s) (.int 7919)):DM D)=pure (nD (s+7919)):=fY s 7919;have a2:(rd (mF (nD (s+7919)) (.int 2147483647)):DM D)=pure (nD ((s+7919)%2147483647)):=fM (b:=2147483647) (by decide)
 have lt:=UV (s+7919) (show 2147483647 > 0 by decide)
 generalize (s+7919)%2147483647=x at a2 lt;have a3:(rd (vK (nD x) (nD x)):DM D)=pure (nD (x*x)):=zL (by lia)
 have a4:(rd (vK (.int 48271) (nD x)):DM D)=pure (nD (48271*x)):=zL (a:=48271) (by lia)
 have a5:∀a b:Nat,(rd (cZ (nD a) (nD b)):DM D)=pure (nD (a+b)):=λa b=>fY a b
 have a6:(rd (cZ (nD (x*x+48271*x)) (.int 12345)):DM D)=pure (nD (x*x+48271*x+12345)):=fY _ 12345;have a7:(rd (mF (nD (x*x+48271*x+12345)) (.int 2147483629)):DM D)=pure (nD ((x*x+48271*x+12345)%2147483629)):=fM (b:=2147483629) (by decide)
 simp[Es,rZ,a1,a2,a3,a4,a5,a6,a7]
noncomputable def dI(p:Nat)(M:Mo):Prop:=∃a b c:Nat,c<2^40/\M[p]?=some (.lst [nD a,nD b,nD c])
def dI.lt{p:Nat}{M:Mo}(h:dI p M):p<M.length:=by obtain⟨a,b,c,_,e⟩:=h;exact (S7.mp e).1
def dI.sb{p q:Nat}{M M':Mo}(h:dI p M)(s:Sb q M M')(hq:p≠q):dI p M':=by obtain⟨a,b,c,hc,e⟩:=h;exact⟨a,b,c,hc,s.at hq e⟩
noncomputable def xN:=aL 1 2 pI
def Ld(c:Int)(M:Mo):Rn (xN [.int c]) M λd M'=>d=.ref M.length/\dI M.length M':=by
 unfold xN pI ju;dsimp only;refine Rn.call rfl ?_;refine aH λK hK=>?_
 have p18:(rd (Jk (.int 10) (.int 18)):DM D)=pure (.int 1000000000000000000):=by rw[Qu (by decide)];rfl
 have st:bK 2 [D.int c]=[some (.int c),none]:=rfl;rw[st];simp;have en:D.int (if c < -c then -c else c)=nD (if c < -c then -c else c).toNat:=by unfold nD;congr 1;split<;>lia
 rw[en];generalize (if c < -c then -c else c).toNat=n
 rw[hK];clear hK K;have ge:(rd (Gb (nD n) (.int 1000000000000000000)):DM D)=pure (.bl (decide (1000000000000000000<=n))):=G7 n 1000000000000000000;have md:(rd (mF (nD n) (.int 1000003)):DM D)=pure (nD (n%1000003)):=fM (b:=1000003) (by decide)
 simp[p18,ge,Gh,md];refine Rn.gP (by simp) ?_
 have lt:=UV n (show 1000003 > 0 by decide)
 exact Rn.pure ⟨_,rfl,rfl,n,(if 1000000000000000000<=n then 1 else 0),n%1000003,by lia,by simp⟩
noncomputable def Em:=aL 2 3 (rY Es)
def nG{p:Nat}{M:Mo}{m:Nat}(h:dI p M)(h0:0<m)(h1:m<2 ^ 60):Rn (Em [.ref p,nD m]) M λd M'=>∃ t:Nat,t<m/\d=nD t/\dI p M'/\Sb p M M':=by
 obtain⟨a,b,c,hc,e⟩:=h;have hp:=(S7.mp e).1;unfold Em rY mH;dsimp only;refine Rn.call rfl ?_;have st:bK 3 [D.ref p,nD m]=[some (.ref p),some (nD m),none]:=rfl;rw[st];have i0:bW (.ref p) (.int 0) M=some (nD a):=uN (i:=0) e rfl;have i1:bW (.ref p) (.int 1) M=some (nD b):=uN (i:=1) e rfl;have i2:bW (.ref p) (.int 2) M=some (nD c):=uN (i:=2) e rfl;have eb:(rd (cX (nD b) (.int 1)):DM D)=pure (.bl (decide (b=1))):=cT b 1;have ga:(rd (lO (nD a) (.int 0)):DM D)=pure (.bl (decide (0<a))):=nZ a 0;refine cH λK hK hR=>?_
 have rest:Rn (K (.nx [some (.ref p),some (nD m),none])) M λr M'=>∃d,r=.rt d/\∃t:Nat,t<m/\d=nD t/\dI p M'/\Sb p M M':=by
  rw[hK];clear hK hR K;refine aH λK hK=>?_
  simp;refine Rn.bindRd _ i2 ?_;obtain⟨t1,l1,e1⟩:=GJ hc;have a7:(rd (cZ (nD t1) (.int 7)):DM D)=pure (nD (t1+7)):=fY t1 7;obtain⟨t2,l2,e2⟩:=GJ (s:=t1+7) (by lia)
  simp only[e1,aq,a7,e2];refine Rn.run (vQ (i:=2) e (by simp)) ?_
  rw[hK];clear hK K;simp;have at2:(M.set p (.lst [nD a,nD b,nD t2]))[p]?=some (.lst [nD a,nD b,nD t2]):=Uy hp;refine Rn.bindRd (nD t2) (uN (i:=2) at2 rfl) ?_;have dv:(rd (uG (nD t2) (.int 64)):DM D)=pure (nD (t2 / 64)):=zH (b:=64) (by decide) (by decide)
  simp[dv,fM (a:=t2 / 64) (b:=m) h0];exact Rn.pure ⟨_,rfl,_,UV _ h0,rfl,⟨a,b,t2,by lia,at2⟩,Sb.set⟩
 simp;refine Rn.bindRd _ i1 ?_;simp only[eb,aq,cV];by_cases hb:b=1
 ·simp[hb];refine Rn.bindRd _ i0 ?_;simp only[ga,aq,cV];by_cases ha:0<a
  ·simp[ha];refine Rn.bindRd _ i0 ?_;simp[fM (a:=a) (b:=m) h0];refine Rn.bindRd _ i0 ?_;simp[zH (a:=a) (b:=m) h0 (Nat.lt_trans h1 (by decide))]
   refine Rn.run (vQ (i:=0) e (by simp)) ?_
   have at2:(M.set p (.lst [nD (a / m),nD b,nD c]))[p]?=some (.lst [nD (a / m),nD b,nD c]):=Uy hp;simp;rw[hR];exact Rn.pure ⟨_,rfl,_,UV _ h0,rfl,⟨_,b,c,hc,at2⟩,Sb.set⟩
  ·simp[ha];exact rest
 ·simp[hb];exact rest
inductive Rch(N:List (List Nat))(x:Nat):Nat->Prop
 |here:Rch N x x
 |step {y z:Nat}:Rch N x y->z∈gr N y->Rch N x z
noncomputable def pG:=aL 2 6 (fK 60)
def PX:∀ds M r,pG ds M=some r->∃n,aL 2 6 (fK n) ds M=some r:=λz z z h=>⟨60,h⟩
structure Bfs(N:List (List Nat))(s n:Nat)(ks q:List Nat):Prop where
 nd:ks.Nodup
 lt:∀x∈ks,x<n
 rch:∀x∈ks,Rch N s x
 st:s∈ks
 sub:∀x∈q,x∈ks
 done:∀x∈ks,x∉q->∀y∈gr N x,y∈ks
def Bfs.all{N:List (List Nat)}{s n:Nat}{ks:List Nat}(b:Bfs N s n ks [])(x:Nat):x∈ks ↔ Rch N s x:=by
 refine⟨b.rch x,λh=>?_⟩
 induction h with
 |here=>exact b.st
 |step h1 h2 ih=>exact b.done _ ih (by simp) _ h2
def gj{n:Nat}{ks:List Nat}(nd:ks.Nodup)(lt:∀x∈ks,x<n):ks.length<=n:=by
 have:=List.Nodup.length_le_of_subset nd (l₂:=List.range n) λx hx=>Th.mpr (lt x hx)
 rwa [T9]at this
def G8{N:List (List Nat)}{x:Nat}(h:x<N.length):(rd (bW (.lst (N.map nT)) (nD x)):DM D)=pure (nT (gr N x)):=bz λM=>by
 show (bw (.lst (N.map nT)) M).bind (λl=>atI l (x:Int))=_
 show atI (N.map nT) (x:Int)=_;unfold atI;have e:ixN (N.map nT).length (x:Int)=some x:=by rw[S9];exact Gn h
 rw[e];show (N.map nT)[x]?=_;rw[Tp,Tc h];unfold gr;rw[T8,Tc h];rfl
structure FsS(M0:Mo)(ks vs q:List Nat)(M:Mo):Prop where
 dic:M[M0.length]?=some (.dic (kD ks) (vs.map nD))
 que:M[M0.length+1]?=some (.lst (q.map nD))
 len:ks.length=vs.length
 old:∀(j:Nat) (o:DO),M0[j]?=some o->M[j]?=some o
def FsS.setQ{M0 M:Mo}{ks vs q:List Nat}(f:FsS M0 ks vs q M)(q':List Nat):FsS M0 ks vs q' (M.set (M0.length+1) (.lst (q'.map nD))):=
 ⟨by rw[List.getElem?_set_ne (by lia)];exact f.dic,by rw[List.getElem?_set_self (List.getElem?_eq_some_iff.mp f.que).1],f.len,fun j o e=>by have:=(S7.mp e).1;rw[U5 (by lia)];exact f.old j o e⟩
def FsS.setK{M0 M:Mo}{ks vs q:List Nat}(f:FsS M0 ks vs q M)(x v:Nat):FsS M0 (ks++[x]) (vs++[v]) q (M.set M0.length (.dic (kD (ks++[x])) ((vs++[v]).map nD))):=
 ⟨by rw[List.getElem?_set_self (List.getElem?_eq_some_iff.mp f.dic).1],by rw[List.getElem?_set_ne (by lia)];exact f.que,by simp[f.len],fun j o e=>by have:=(S7.mp e).1;rw[U5 (by lia)];exact f.old j o e⟩
structure Mid(N:List (List Nat))(s n x m i:Nat)(ks q:List Nat):Prop where
 nd:ks.Nodup
 lt:∀y∈ks,y<n
 rch:∀y∈ks,Rch N s y
 st:s∈ks
 me:x∈ks
 sub:∀y∈q,y∈ks
 done:∀y∈ks,y∉q->y≠x->∀z∈gr N y,z∈ks
 seen:∀z∈(gr N x).take i,z∈ks
 ms:q.length+(n-ks.length)+1=m
def Mid.fin{N:List (List Nat)}{s n x m i:Nat}{ks q:List Nat}(h:Mid N s n x m i ks q)(hi:(gr N x).length<=i):Bfs N s n ks q:=
 ⟨h.nd,h.lt,h.rch,h.st,h.sub,fun y hy hq z hz=>by
  by_cases e:y=x
  ·subst e;exact h.seen z (by rw[U6 hi];exact hz)
  ·exact h.done y hy hq e z hz⟩
def Mid.skip{N:List (List Nat)}{s n x m i y:Nat}{ks q:List Nat}(h:Mid N s n x m i ks q)(hy:(gr N x)[i]?=some y)(hk:y∈ks):Mid N s n x m (i+1) ks q:=
 ⟨h.nd,h.lt,h.rch,h.st,h.me,h.sub,h.done,fun z hz=>by
  rw[Xu,hy]at hz;rcases TV.mp hz with z1 | z1
  ·exact h.seen z z1
  ·simp at z1;exact z1 ▸ hk,h.ms⟩
def Mid.add{N:List (List Nat)}{s n x m i y:Nat}{ks q:List Nat}(h:Mid N s n x m i ks q)(hy:(gr N x)[i]?=some y)(hk:y∉ks)(hn:y<n):Mid N s n x m (i + 1) (ks++[y]) (q++[y]):=by
 have lk:=gj h.nd h.lt;have nd':(ks++[y]).Nodup:=VN.mpr ⟨h.nd,by simp,λa ha b hb e=>hk (by simp at hb;subst hb;exact e ▸ ha)⟩
 have lt':∀z∈ks++[y],z<n:=λz hz=>by
  rcases TV.mp hz with z1 | z1
  ·exact h.lt z z1
  ·simp at z1;lia
 have lk':=gj nd' lt';refine⟨nd',lt',λz hz=>?_,by simp[h.st],by simp[h.me],λz hz=>?_,λz hz hq hx w hw=>?_,λz hz=>?_,?_⟩
 ·rcases TV.mp hz with z1 | z1
  ·exact h.rch z z1
  ·simp at z1;subst z1;exact .step (h.rch x h.me) (T3 hy)
 ·rcases TV.mp hz with z1 | z1
  ·simp[h.sub z z1]
  ·simp at z1;simp[z1]
 ·have hzy:z≠y:=λe=>hq (by simp[e])
  have hzk:z∈ks:=by
   rcases TV.mp hz with z1 | z1
   ·exact z1
   ·simp at z1;exact absurd z1 hzy
  exact TV.mpr (.inl (h.done z hzk (λe=>hq (by simp[e])) hx w hw))
 ·rw[Xu,hy]at hz;rcases TV.mp hz with z1 | z1
  ·simp[h.seen z z1]
  ·simp at z1;simp[z1]
 ·have:=h.ms;simp at lk' ⊢
  lia
def Bfs.mid{N:List (List Nat)}{s n x:Nat}{ks q:List Nat}(h:Bfs N s n ks (x::q)):Mid N s n x ((x::q).length+(n-ks.length)) 0 ks q:=
 ⟨h.nd,h.lt,h.rch,h.st,h.sub x (by simp),λy hy=>h.sub y (by simp[hy]),λy hy hq hx=>h.done y hy (by simp[hx,hq]),λz hz=>by simp at hz,by simp;lia⟩
inductive Wy(N:List (List Nat))(s:Nat):Nat->Nat->Prop
 |here:Wy N s 0 s
 |step {k y z:Nat}:Wy N s k y->z∈gr N y->Wy N s (k+1) z
noncomputable def dv(ks vs:List Nat)(x:Nat):Nat:=vs.getD (ks.idxOf x) 0
def JK{ks:List Nat}{x y:Nat}(h:x∈ks):(ks++[y]).idxOf x=ks.idxOf x:=by rw[List.idxOf_append,Tf h]
def Gp{ks:List Nat}{y:Nat}(h:y∉ks):(ks++[y]).idxOf y=ks.length:=by rw[List.idxOf_append,Ti h];simp
def Nh{ks vs:List Nat}{x y v:Nat}(hl:ks.length=vs.length)(h:x∈ks):dv (ks++[y]) (vs++[v]) x=dv ks vs x:=by unfold dv;have i:=W3 h;rw[JK h,T8,T8,Tq (by lia)]
def Ng{ks vs:List Nat}{y v:Nat}(hl:ks.length=vs.length)(h:y∉ks):dv (ks++[y]) (vs++[v]) y=v:=by
 unfold dv;rw[Gp h,T8,Uo (by lia)]
 simp[hl]
structure Dst(N:List (List Nat))(s:Nat)(ks vs q:List Nat):Prop where
 way:∀x∈ks,Wy N s (dv ks vs x) x
 z0:dv ks vs s=0
 ix:∀x∈ks,dv ks vs x<=ks.idxOf x
 edge:∀x∈ks,x∉q->∀y∈gr N x,dv ks vs y<=dv ks vs x+1
 top:∀x∈q.head?,∀y∈ks,dv ks vs y<=dv ks vs x+1
 ris:q.Pairwise λx y=>dv ks vs x<=dv ks vs y
structure DMd(N:List (List Nat))(s x:Nat)(ks vs q:List Nat):Prop where
 way:∀x∈ks,Wy N s (dv ks vs x) x
 z0:dv ks vs s=0
 ix:∀x∈ks,dv ks vs x<=ks.idxOf x
 edge:∀y∈ks,y∉q->y≠x->∀z∈gr N y,dv ks vs z<=dv ks vs y+1
 top:∀y∈ks,dv ks vs y<=dv ks vs x+1
 lo:∀y∈q,dv ks vs x<=dv ks vs y
 ris:q.Pairwise λx y=>dv ks vs x<=dv ks vs y
def Dst.mid{N:List (List Nat)}{s x:Nat}{ks vs q:List Nat}(h:Dst N s ks vs (x::q)):DMd N s x ks vs q:=
 ⟨h.way,h.z0,h.ix,λy hy hq hx=>h.edge y hy (by simp[hx,hq]),h.top x (by simp),(Us.mp h.ris).1,(Us.mp h.ris).2⟩
def DMd.fin{N:List (List Nat)}{s x:Nat}{ks vs q:List Nat}(h:DMd N s x ks vs q)(hs:∀z∈gr N x,z∈ks):Dst N s ks vs q:=
 ⟨h.way,h.z0,h.ix,fun y hy hq z hz=>by
  by_cases e:y=x
  ·subst e;exact h.top z (hs z hz)
  ·exact h.edge y hy hq e z hz,λa ha y hy=>by
  have:=h.lo a (List.mem_of_mem_head? ha);have:=h.top y hy
  lia,h.ris⟩
def DMd.add{N:List (List Nat)}{s n x m i y:Nat}{ks vs q:List Nat}(h:DMd N s x ks vs q)(md:Mid N s n x m i ks q)(hl:ks.length=vs.length)(hy:y∈gr N x)(hk:y∉ks):DMd N s x (ks++[y]) (vs++[dv ks vs x + 1]) (q++[y]):=by
 have o:∀{z:Nat},z∈ks->dv (ks++[y]) (vs++[dv ks vs x+1]) z=dv ks vs z:=λhz=>Nh hl hz
 have nw:dv (ks++[y]) (vs++[dv ks vs x+1]) y=dv ks vs x+1:=Ng hl hk;have sp:∀{z:Nat},z∈ks++[y]->z∈ks\/z=y:=λhz=>(TV.mp hz).imp id TJ.mp
 refine⟨λz hz=>?_,by rw[o md.st];exact h.z0,λz hz=>?_,λz hz hq hx w hw=>?_,λz hz=>?_,λz hz=>?_,?_⟩
 ·rcases sp hz with z1 | rfl
  ·rw[o z1];exact h.way z z1
  ·rw[nw];exact .step (h.way x md.me) hy
 ·rcases sp hz with z1 | rfl
  ·rw[o z1,JK z1];exact h.ix z z1
  ·rw[nw,Gp hk];have:=h.ix x md.me;have:=W3 md.me
   lia
 ·have hzy:z≠y:=λe=>hq (by simp[e])
  have hzk:z∈ks:=(sp hz).resolve_right hzy;have hwk:=md.done z hzk (λe=>hq (by simp[e])) hx w hw
  rw[o hzk,o hwk];exact h.edge z hzk (λe=>hq (by simp[e])) hx w hw
 ·rw[o md.me];rcases sp hz with z1 | rfl
  ·rw[o z1];exact h.top z z1
  ·rw[nw];exact Td _
 ·rw[o md.me];rcases sp (TV.mpr ((TV.mp hz).imp (md.sub z) id)) with z1 | rfl
  ·rw[o z1];rcases TV.mp hz with z2 | z2
   ·exact h.lo z z2
   ·rw[TJ.mp z2]at z1;exact absurd z1 hk
  ·rw[nw];lia
 ·refine List.pairwise_append.mpr ⟨Xf (λ{a b} ha hb hab=>?_) h.ris,by simp,λa ha b hb=>?_⟩
  ·rw[o (md.sub a ha),o (md.sub b hb)];exact hab
  ·rw[TJ.mp hb,nw,o (md.sub a ha)];exact h.top a (md.sub a ha)
theorem CJ{x:Nat}:∀ {ks vs:List Nat},ks.length=vs.length->x∈ks->cL (kD ks) (vs.map nD) (.inl (x:Int))=some (nD (dv ks vs x))
 |[],_,_,h=>by cases h
 |_::_,[],h,_=>by cases h
 | k::ks,v::vs,h,hx=>by
   show cL (Sum.inl (k:Int)::kD ks) (nD v::vs.map nD) (.inl (x:Int))=_;by_cases e:k=x
   ·subst e;simp[cL,dv]
   ·have e1:¬ (Sum.inl (k:Int):Key)=.inl (x:Int):=λq=>e (by have:=Sum.inl.inj q;lia)
    have hx':x∈ks:=by
     rcases Tt.mp hx with q | q
     ·exact absurd q.symm e
     ·exact q
    have:=CJ (vs:=vs) (by simpa using h) hx'
    simp only[cL,e1,if_false,this];unfold dv;rw[List.idxOf_cons,show (k==x)=false from V0.mpr e]
    rfl
def oK{n x:Nat}{M:Mo}{ks vs:List Nat}(h:M[n]?=some (.dic (kD ks) (vs.map nD)))(hl:ks.length=vs.length)(hx:x∈ks):yC (.ref n) (nD x) M=some (nD (dv ks vs x)):=by
 have e0:dG (.ref n) M=some (kD ks,vs.map nD):=by simp[dG,h]
 unfold yC;rw[e0];show (iM (nD x)).bind (λk=>cL (kD ks) (vs.map nD) k)=_
 exact CJ hl hx
noncomputable def QK(M0:Mo)(N:List (List Nat))(s n:Nat)(m:Nat)(δ:aa)(M:Mo):Prop:=m<=25/\∃ks vs q,Bfs N s n ks q/\Dst N s ks vs q/\m=q.length+(n-ks.length)/\FsS M0 ks vs q M/\∃z4 z5,δ=[some (.lst (N.map nT)),some (nD s),some (.ref M0.length),some (.ref (M0.length+1)),z4,z5]
noncomputable def RM(M0:Mo)(N:List (List Nat))(s n x m:Nat)(i:Nat)(δ:aa)(M:Mo):Prop:=(∃ks vs q,Mid N s n x m i ks q/\DMd N s x ks vs q/\FsS M0 ks vs q M)/\∃z5,δ=[some (.lst (N.map nT)),some (nD s),some (.ref M0.length),some (.ref (M0.length+1)),some (nD x),z5]
def uI{N:List (List Nat)}{s n:Nat}(hN:N.length=n)(hn:n<=25)(hs:s<n)(hg:∀ x,∀ y∈gr N x,y<n)(M0:Mo):
  Rn (pG [.lst (N.map nT),nD s]) M0 λd M'=>d=.ref M0.length/\∃(ks vs:List Nat),M'[M0.length]?=some (.dic (kD ks) (vs.map nD))/\ks.length=vs.length/\Dst N s ks vs []/\ks.Nodup/\(∀x,x∈ks ↔ Rch N s x)/\(∀x∈ks,x<n)/\∀(j:Nat) (o:DO),M0[j]?=some o->M'[j]?=some o:=by
 unfold pG fK iR;dsimp only;refine Rn.call rfl ?_;have st:bK 6 [.lst (N.map nT),nD s]=[some (.lst (N.map nT)),some (nD s),none,none,none,none]:=rfl;rw[st];refine aH λK hK=>?_
 simp only[bF,aW,aF];refine Rn.bind (Q1:=λd M1=>d=.ref M0.length/\M1=M0++[.dic (kD [s]) [nD 0]]) ⟨_,_,rfl,rfl,rfl⟩ λd M1 ⟨e1,e2⟩=>?_
 subst e1 e2;simp only[cF,aq];rw[hK];clear hK K;refine aH λK hK=>?_
 simp only[bF,aW,aF];refine Rn.gP (by simp) ?_
 simp only[cF,aq,List.length_append,List.length_cons,List.length_nil,Nat.zero_add];rw[hK];clear hK K;have init:QK M0 N s n (1+(n-1)) [some (.lst (N.map nT)),some (nD s),some (.ref M0.length),some (.ref (M0.length+1)),none,none] ((M0++[.dic (kD [s]) [nD 0]])++[.lst [nD s]]):=by
  refine⟨by lia,[s],[0],[s],⟨by simp,by simp;exact hs,λx hx=>by simp at hx;rw[hx];exact .here,by simp,by simp,λx hx hq=>absurd hx hq⟩,⟨λx hx=>by simp at hx;subst hx;simp[dv];exact .here,by simp[dv],λx hx=>by simp at hx;subst hx;simp[dv],λx hx hq=>absurd hx hq,λx hx y hy=>by simp at hx hy;subst hx;subst hy;lia,by simp⟩,rfl,⟨by simp,by simp,rfl,λj o e=>?_⟩,none,none,rfl⟩
  have:=(S7.mp e).1;rw[Vv,Tq this];exact e
 refine aH λK hK=>?_
 refine Rn.bind (qR (oG:=λδ M=>∃(ks vs:List Nat) (z4 z5:Option D),Bfs N s n ks []/\Dst N s ks vs []/\FsS M0 ks vs [] M/\δ=[some (.lst (N.map nT)),some (nD s),some (.ref M0.length),some (.ref (M0.length+1)),z4,z5]) (QK M0 N s n) (λm δ M hI=>?_) 60 _ _ _ (by lia) init) λr M hI=>?_
 rotate_left
 ·obtain⟨δ',rfl,ks,vs,z4,z5,b,ds,f,rfl⟩:=hI;rw[hK];simp only[bF,aW];exact Rn.pure ⟨_,rfl,rfl,ks,vs,f.dic,f.len,ds,b.nd,b.all,b.lt,f.old⟩
 clear hK K init;obtain⟨hm25,ks,vs,q,b,ds,rfl,f,z4,z5,rfl⟩:=hI;have tr:iW (.ref (M0.length+1)) M=some (!(q.map nD).isEmpty):=by unfold iW;dsimp only;rw[f.que]
 refine⟨!(q.map nD).isEmpty,?_,λhb=>?_,λhb=>?_⟩
 ·show (rd (iW (.ref (M0.length+1))):DM Bool) M=_;unfold rd;rw[tr];rfl
 rotate_left
 ·have:q=[]:=by cases q with
   |nil=>rfl
   |cons a l=>simp at hb
  subst this;exact⟨ks,vs,z4,z5,b,ds,f,rfl⟩
 cases q with
 |nil=>simp at hb
 |cons x q=>
 clear hb tr;have mid0:=b.mid;have hx:=b.lt x mid0.me;refine aH λK hK=>?_
 simp only[bF,aW,aF];have lo:bw (.ref (M0.length+1)) M=some ((x::q).map nD):=by unfold bw;dsimp only;rw[f.que]
 refine Rn.bindRd _ lo ?_;have pp:Jj (.ref (M0.length+1)) [.int 0] M=some (.ok (nD x),M.set (M0.length+1) (.lst (q.map nD))):=by
  have ei:ixN ((x::q).map nD).length 0=some 0:=by simp[ixN]
  delta Jj;dsimp only;rw[f.que];dsimp only;rw[ei];rfl
 refine Rn.run pp ?_;have f1:=f.setQ q;generalize M.set (M0.length+1) (.lst (q.map nD))=M1 at f1;simp only[cF,aq];rw[hK];clear hK K;have at':(opt (jV (nT (gr N x))):DM Itn)=pure (.fix ((gr N x).map nD)):=rfl;simp only[bF,aW,aF,G8 (N:=N) (x:=x) (by lia),at',fF]
 refine (cu (RM M0 N s n x ((x::q).length+(n-ks.length))) _ 0 _ _ ⟨⟨ks,vs,q,mid0,ds.mid,f1⟩,_,rfl⟩ (λi d δ M2 hi hI=>?_)).mono (λr M2 hI=>?_)
 rotate_left
 ·obtain⟨δ',rfl,⟨ks',vs',q',md,dm,f'⟩,z5,rfl⟩:=hI;have bf:=md.fin (by simp)
  exact⟨_,q'.length+(n-ks'.length),rfl,by have:=md.ms;lia,by have:=md.ms;lia,ks',vs',q',bf,dm.fin (λz hz=>md.seen z (by rw[U6 (by simp)];exact hz)),rfl,f',_,_,rfl⟩
 rw[Tp]at hi;obtain⟨y,hy,rfl⟩:=S8.mp hi;obtain⟨⟨ks',vs',q',md,dm,f'⟩,z5,rfl⟩:=hI;rw[Ub]at md ⊢
 have hyn:=hg x y (T3 hy);have lk:=gj md.nd md.lt;rw[fD,aq];simp only[cF,bF,aW,aF];refine Rn.bindRd _ (Ij (x:=y) f'.dic (by rw[S9];exact f'.len)) ?_
 simp only[cV,aq];by_cases hk:y∈ks'
 ·have e:ks'.contains y=true:=by simpa using hk
  rw[e];simp only[Bool.not_true,Bool.false_eq_true,if_false];exact Rn.pure ⟨_,rfl,⟨ks',vs',q',md.skip hy hk,dm,f'⟩,_,rfl⟩
 ·have e:ks'.contains y=false:=by simpa using hk
  rw[e];simp only[Bool.not_false,if_true];refine aH λK hK=>?_
  have ev:=oK f'.dic f'.len md.me;have ad:=dm.add md f'.len (T3 hy) hk;revert ev ad;generalize dv ks' vs' x=v;intro ev ad;simp only[bF,aW,aF];refine Rn.bindRd _ ev ?_;have a1:(rd (cZ (nD v) (.int 1)):DM D)=pure (nD (v+1)):=fY v 1;simp only[a1,aq];refine Rn.run (yE (x:=y) (v:=nD (v+1)) f'.dic (by rw[S9];exact f'.len) hk (by lia)) ?_
  have f2:=f'.setK y (v+1);rw[Vx,Ud,Xj]at f2;generalize M2.set M0.length (.dic (kD (ks'++[y])) (vs'.map nD++[nD (v+1)]))=M3 at f2;rw[hK];clear hK K;have lo2:bw (.ref (M0.length+1)) M3=some (q'.map nD):=by unfold bw;dsimp only;rw[f2.que]
  simp only[bF,aW,aF];refine Rn.bindRd _ lo2 ?_;have ql:q'.length<1000000:=by have:=md.ms;lia
  refine Rn.run (vz (v:=nD y) f2.que (by rw[S9];exact ql)) ?_
  have f3:=f2.setQ (q'++[y]);rw[Vx,Ud,Xj]at f3;exact Rn.pure ⟨_,rfl,⟨_,_,_,md.add hy hk hyn,ad,f3⟩,_,rfl⟩
def NK{N:List (List Nat)}{s n:Nat}(hN:N.length=n)(hn:n<=25)(hs:s<n)(hg:∀x,∀y∈gr N x,y<n)(M0:Mo):
  Rn (pG [.lst (N.map nT),nD s]) M0 λd M'=>d=.ref M0.length/\∃(ks vs:List Nat),M'[M0.length]?=some (.dic (kD ks) (vs.map nD))/\ks.Nodup/\(∀x,x∈ks ↔ Rch N s x)/\(∀x∈ks,x<n)/\∀(j:Nat) (o:DO),M0[j]?=some o->M'[j]?=some o:=
 (uI hN hn hs hg M0).mono λd M' ⟨e,ks,vs,a,_,_,b,c,f,g⟩=>⟨e,ks,vs,a,b,c,f,g⟩
def Dg{ft:aa->DM Bool}{rest:aa}{n:Nat}{h:Nat->D}{x y:Option D}(p:Nat->Bool)(hn:n<=1000)(hf:∀ j,j<n->ft (some (nD j)::some (h j)::rest)=pure (p j)):
  ∃δ',dq (bj (gT 2 (cR (gN 0) (cR (gN 1) jf))) ft (bR (cU 0)) ((List.range n).map λj=>.tup [nD j,h j]) (x::y::rest) [])=pure (δ',((List.range n).filter p).map nD):=by
 let f1:D->D:=λd=>match d with | .tup [a,b]=>a | _=>.non
 let f2:D->D:=λd=>match d with | .tup [a,b]=>b | _=>.non
 let pd:D->Bool:=λd=>match d with | .tup [.int i,_]=>p i.toNat | _=>false
 obtain ⟨δ',q⟩:=oX (fg:=gT 2 (cR (gN 0) (cR (gN 1) jf))) (ft:=ft) (fe:=cU 0) (λδ=>∃ x y,δ=x::y::rest) (λd=>some (f1 d)::some (f2 d)::rest) pd f1 ((List.range n).map λj=>.tup [nD j,h j]) (x::y::rest) [] ⟨x,y,rfl⟩ (by simp;lia)
  (λd hd δ ⟨x,y,hδ⟩=>by
    obtain⟨j,_,rfl⟩:=Uh.mp hd;exact⟨by subst hδ;rfl,_,_,rfl⟩) (λd hd=>by
    obtain⟨j,hj,rfl⟩:=Uh.mp hd;have:=hf j (Th.mp hj);show ft (some (nD j)::some (h j)::rest)=pure (p (j:Int).toNat);rw[Va];exact this) (λd hd z=>by
    obtain⟨j,hj,rfl⟩:=Uh.mp hd;rfl)
 refine⟨δ',?_⟩;rw[q,DR,Yi,List.filter_map,Ug];congr 2
open Classical in
noncomputable def rc(N:List (List Nat))(x y:Nat):Bool:=decide (Rch N x y)
def qF{N:List (List Nat)}{x y:Nat}:rc N x y=true ↔ Rch N x y:=by classical exact⟨λh=>Ui h,λh=>Tw h⟩
noncomputable def gK(N:List (List Nat))(n:Nat):List (List Nat):=(List.range n).map λx=>(List.range n).filter (rc N x)
noncomputable def RK(M0:Mo)(N:List (List Nat))(n:Nat)(i:Nat)(δ:aa)(l:List D)(M:Mo):Prop:=(∃z,δ=[z,some (.lst (N.map nT))])/\l=((gK N n).take i).map nT/\∀(j:Nat) (o:DO),M0[j]?=some o->M[j]?=some o
def Ku{jC ji:Fn}{w:D}{N:List (List Nat)}{n:Nat}(h1:jC [w]=pure (.lst (N.map nT)))(h2:yW "Walk" ji [w]=pure (nD n))(hN:N.length=n)(hn:n<=25)(hg:∀ x,∀ y∈gr N x,y<n)(M0:Mo):
  Rn (aL 1 2 (tE jC pG ji) [w]) M0 λd M'=>d=nM (gK N n)/\∀(j:Nat) (o:DO),M0[j]?=some o->M'[j]?=some o:=by
 unfold tE uf;dsimp only;refine Rn.call rfl ?_;have st:bK 2 [w]=[some w,none]:=rfl;rw[st];refine aH λK hK=>?_
 simp only[cF,bF,aW,aF,h1];rw[hK];clear hK K;simp only[bF,aW,aF];have ce:aO [Str.ofString "start"].length [1] [some w,some (D.lst (N.map nT))]=[none,some (.lst (N.map nT))]:=rfl;have rg:mL [nD n]=some (.fix ((List.range n).map nD)):=zN (n:=n) (by lia)
 rw[h2,aq,rg,fG,aq,ce];simp only[n8];have tl:∀l:List D,(rd (qO [.lst l]):DM D)=pure (.tup l):=λl=>rfl
 refine Rn.bind (jT (lU (RK M0 N n) ((List.range n).map nD) 0 _ _ _ ⟨⟨none,rfl⟩,rfl,λv v e=>e⟩ (λi d δ l M hi hI=>?_))) λpr M hI=>?_
 ·obtain⟨⟨z,rfl⟩,rfl,old⟩:=hI;rw[Tp]at hi;obtain⟨x,hx,rfl⟩:=S8.mp hi;have hin:i<n:=by have:=(S7.mp hx).1;simpa using this
  obtain rfl:i=x:=by rw[U9 hin]at hx;cases hx;rfl
  rw[Ub];rw[fD,aq,aq,Tf rfl];unfold bR;simp only[bF,List.set_cons_zero,aF];refine Rn.bind (NK hN hn hin hg M) λd M1 ⟨e,ks,vs,hd,nd,hr,lt,old1⟩=>?_
  subst e;have hp:∀y,y∈ks ↔ y<n/\rc N i y=true:=λy=>by rw[qF,<-hr y];exact⟨λh=>⟨lt y h,h⟩,λh=>h.2⟩
  refine Rn.bindRd _ (Hn hd (by have:=gj nd lt;lia) nd hp) ?_
  rw[tl,aq];have ll:(gK N n).length=n:=by unfold gK;rw[S9,T9]
  have lt2:(((gK N n).take i).map nT).length<sizeLine:=by
   rw[S9,VH,ll];show _<2^24
   lia
  rw[Tf lt2];refine Rn.pure ⟨⟨_,rfl⟩,?_,λj o e=>old1 j o (old j o e)⟩
  have gi:(gK N n)[i]?=some ((List.range n).filter (rc N i)):=by unfold gK;rw[Tp,U9 hin];rfl
  rw[Xu,gi,Option.toList_some,Vx];rfl
 obtain⟨_,el,old⟩:=hI;have ll:(gK N n).length=n:=by unfold gK;rw[S9,T9]
 have tk:(gK N n).take (0+((List.range n).map nD).length)=gK N n:=by rw[Ub,S9,T9];exact U6 (by rw[ll];exact Td n)
 rw[tk]at el;rw[el];simp only[zM,aq,tl];exact Rn.pure ⟨_,rfl,rfl,old⟩
def Cu{ns:List Int}{x:Int}:x∈eN ns ↔ x∈ns:=by
 unfold eN;rw[(bD _).1.mem_iff];have:∀ (l acc:List Int),x∈l.foldl PyProof.Rows.step_dedup acc ↔ x∈acc\/x∈l:=by
  intro l;induction l with
  |nil=>intro acc;simp
  | cons a l ih=>
    intro acc;rw[Wz,ih,<-LS.pC];by_cases h:a∈acc
    ·rw [Tf h];constructor
     ·rintro (h1 | h1)
      ·exact .inl h1
      ·exact .inr (.tail _ h1)
     ·rintro (h1 | h1)
      ·exact .inl h1
      ·rcases Tt.mp h1 with rfl | h1
       ·exact .inl h
       ·exact .inr h1
    ·rw[Ti h,TV,TJ,Tt,or_assoc]
 rw[this];simp
def wI(ns:List Int):(eN ns).Nodup:=by
 unfold eN;rw[(bD _).1.nodup_iff];have:∀ (l acc:List Int),acc.Nodup->(l.foldl PyProof.Rows.step_dedup acc).Nodup:=by
  intro l;induction l with
  |nil=>intro acc h;exact h
  | cons a l ih=>
    intro acc h;rw[Wz,<-LS.pC];by_cases q:a∈acc
    ·rw[Tf q];exact ih acc h
    ·rw[Ti q];refine ih _ (VN.mpr ⟨h,by simp,λx hx y hy e=>?_⟩)
     rw[TJ.mp hy]at e;exact q (e ▸ hx)
 exact this ns [] (by simp)
def O7(a b:List Nat):(rd (cX (.lst (a.map nD)) (.lst (b.map nD))):DM D)=pure (.bl (decide (a=b))):=bz λM=>by
 have e:∀l:List Nat,l.map nD=(l.map λn:Nat=>(n:Int)).map D.int:=λl=>by rw[Ug];rfl
 have d:=dZ (a.map λn:Nat=>(n:Int))
 have q:=fj (a.map λn:Nat=>(n:Int)) (b.map λn:Nat=>(n:Int))
 have c:decide ((a.map λn:Nat=>(n:Int))=(b.map λn:Nat=>(n:Int)))=decide (a=b):=by rw[T6,UJ,UJ];exact iG
 rw[e a,e b];simp only[cX,L3.eqB,eqP,toPy,fQ,Option.map_some,PyData.canLay0,lay_ints,PyData.depth,PyData.eqv];rw[q,c,Tf (by rw[Bool.and_self,Bool.true_and];exact Tw (by lia))]
 rfl
def Lg{a b:List D}(h:a.length+b.length<=1000000):(rd (cZ (.lst a) (.lst b)):DM D)=pure (.lst (a++b)):=bz λM=>by
 have:dR (a++b)=true:=by unfold dR;exact Tw (by show (a++b).length<=2^24;rw[T4];lia)
 simp[cZ,bw,IW,this]
theorem gQ(h:Nat->D):∀ (n k:Nat),gk k ((List.range' k n).map h)=(List.range' k n).map λj=>.tup [nD j,h j]
 |0,k=>rfl
 |n+1,k=>by rw[List.range'_succ,Ud,Ud];show D.tup [.int (k:Int),h k]::gk (k+1) _=_;rw[gQ h n (k+1)];rfl
end K
set_option exponentiation.threshold 2000
namespace K
open PySem L2 L3 N10 LB
noncomputable def aB(R:List (List Nat)):List (List Nat):=R.map λr=>(List.range r.length).filter λy=>decide (0<ga r y)
noncomputable def jC:=aL 1 1 pL
def uP{R:List (List Nat)}{W:Nat}(h:WK R W):jC [bh R W]=pure (.lst ((aB R).map nT)):=by
 have n25:=h.n25;have as:jV (nM R)=some (.fix (R.map nT)):=rfl;have ce:aO 1 [] [some (bh R W)]=[none]:=rfl;simp[jC,pL,tR,as,lA,ce];rw[iZ nT (λr=>nT ((List.range r.length).filter λy=>decide (0<ga r y))) (by lia) λr hr=>?_]
 ·simp[aB];rfl
 ·have lr:=h.row r hr;have en:oO [nT r]=some (.fix ((List.range r.length).map λj=>.tup [nD j,nD (ga r j)])):=by
   have e:r.map nD=(List.range' 0 r.length).map λj=>nD (ga r j):=by
    apply V4
    ·simp
    ·intro i h1 h2;simp at h1;simp[lN h1]
   show some (Itn.fix (gk 0 (r.map nD)))=_;rw[e,gQ,W6]
  have ce2:aO 2 [] [some (nT r)]=[none,none]:=rfl;obtain⟨δ',q⟩:=Dg (rest:=[]) (n:=r.length) (h:=λj=>nD (ga r j)) (x:=none) (y:=none) (ft:=λδ=>opt δ[1]?.join>>=λa=>rd (lO a (D.int 0))>>=gF) (λy=>decide (0<ga r y)) (by lia) λj hj=>by have gt:(rd (lO (nD (ga r j)) (.int 0)):DM D)=pure (.bl (decide (0<ga r j))):=nZ (ga r j) 0;simp[gt]
  simp only[List.getElem?_cons_zero,Option.join_some,fG,aq,en,lA,ce2,q];rfl
def eO(R:List (List Nat)):(aB R).length=R.length:=by simp[aB]
def kh{R:List (List Nat)}{x:Nat}(hx:x<R.length):gr (aB R) x=(List.range (gr R x).length).filter λy=>decide (0<ga (gr R x) y):=by
 rw[je (by rw[eO];exact hx),je hx]
 simp[aB]
def gR{R:List (List Nat)}{W:Nat}(h:WK R W)(x:Nat):∀ y∈gr (aB R) x,y<R.length:=λy hy=>by
 by_cases hx:x<R.length
 ·rw[kh hx]at hy;have:=Th.mp (Tv.mp hy).1;rw[h.row _ (gr_mem hx)]at this;exact this
 ·have:gr (aB R) x=[]:=by unfold gr;rw[T8,Ur (by rw[eO];lia)];rfl
  rw[this]at hy;cases hy
noncomputable def Jw:=aL 1 2 (tE jC pG ji)
noncomputable def LD(R:List (List Nat)):List (List Nat):=gK (aB R) R.length
def mZ(R:List (List Nat)):(LD R).length=R.length:=by simp[LD,gK]
def Oe{R:List (List Nat)}{W:Nat}(h:WK R W)(M:Mo):Rn (Jw [bh R W]) M λd M'=>d=nM (LD R)/\∀(j:Nat) (o:DO),M[j]?=some o->M'[j]?=some o:=Ku (uP h) (rG h.n25) (eO R) h.n25 (gR h) M
def bB(l:List Nat):List Int:=l.map λn:Nat=>(n:Int)
def I9(l:List Nat):nT l=tupI (bB l):=by simp[nT,tupI,bB,nD,Function.comp_def]
theorem yr{α:Type}{ft:aa->DM Bool}{fe:aa->DM D}{rest:aa}(enc:α->D)(p:α->Bool)(e:α->List Int):∀ (as:List α) (x:Option D) (l:List D),l.length + as.length<=18->(∀ a∈as,ft (some (enc a)::rest)=pure (p a))->(∀ a∈as,p a=true->fe (some (enc a)::rest)=pure (tupI (e a))/\e a≠[])->
  ∃z,bj (gN 0) ft (lL fe) (as.map enc) (x::rest) l=pure (z::rest,l++(as.filter p).map λa=>tupI (e a))
 |[],x,l,_,_,_=>⟨x,by simp[bj]⟩
 | a::as,x,l,hl,h1,h2=>by
   have c:=h1 a (by simp)
   have hl':l.length+(as.length+1)<=18:=by simpa using hl
   cases hp:p a with
   |true=>
     obtain⟨c2,ne⟩:=h2 a (by simp) hp
     have ts:(dB [tupI (e a)]).isSome=true:=by rw[show [tupI (e a)]=[e a].map tupI from rfl,pF (λt ht=>by simp at ht;rw[ht];exact ne)];rfl
     obtain⟨z,q⟩:=yr (rest:=rest) enc p e as (some (enc a)) (l++[tupI (e a)]) (by simp;lia) (λb hb=>h1 b (by simp[hb])) (λb hb=>h2 b (by simp[hb]))
     have lt:l.length<18:=by lia
     exact⟨z,by simp[bj,c,hp,lL,c2,ts,lt,q]⟩
   |false=>
     obtain⟨z,q⟩:=yr (rest:=rest) enc p e as (some (enc a)) l (by lia) (λb hb=>h1 b (by simp[hb])) (λb hb=>h2 b (by simp[hb]))
     exact⟨z,by simp[bj,c,hp,q]⟩
def pX{R:List (List Nat)}{l:List Nat}(h:l∈LD R):l≠[]/\l.length<=R.length/\∀y∈l,y<R.length:=by
 obtain⟨x,hx,rfl⟩:=Uh.mp h;have hx:=Th.mp hx;refine⟨λz=>?_,?_,λy hy=>Th.mp (Tv.mp hy).1⟩
 ·have:x∈(List.range R.length).filter (rc (aB R) x):=Tv.mpr ⟨Th.mpr hx,qF.mpr .here⟩;rw[z]at this;cases this
 ·have:=Uu (rc (aB R) x) (List.range R.length)
  rwa [T9]at this
def n6{R:List (List Nat)}{i:Nat}(h:i<R.length):(rd (bW (nM R) (nD i)):DM D)=pure (nT (gr R i)):=DQ (i:=i) (by rw[Tp,Tc h,je h];rfl)
def G6(a b:List Nat):(rd (cX (nT a) (nT b)):DM D)=pure (.bl (decide (a=b))):=bz λM=>by
 have e:∀l:List Nat,l.map nD=(l.map λn:Nat=>(n:Int)).map D.int:=λl=>by rw[Ug];rfl
 have d:=dZ (a.map λn:Nat=>(n:Int))
 have q:=fj (a.map λn:Nat=>(n:Int)) (b.map λn:Nat=>(n:Int))
 have c:decide ((a.map λn:Nat=>(n:Int))=(b.map λn:Nat=>(n:Int)))=decide (a=b):=by rw[T6,UJ,UJ];exact iG
 unfold nT;rw[e a,e b];simp only[cX,L3.eqB,eqP,toPy,fQ,Option.map_some,PyData.canLay0,lay_ints,PyData.depth,PyData.eqv];rw[q,c,Tf (by rw[Bool.and_self,Bool.true_and];exact Tw (by lia))]
 rfl
noncomputable def fO(L:List (List Nat))(l:List Nat):Bool:=l.all λy=>decide (gr L y=l)
noncomputable def cW(L:List (List Nat)):List (List Int):=Aa (qg ((L.filter (fO L)).map bB))
noncomputable def w5(δ:aa):DM Bool:=do
 let a <-opt δ[0]?.join
 let a <-opt (jV a)
 let a <-dq (bL (gN 0) (λz=>Pure.pure true) (bR λδ=>do
  let a <-opt δ[1]?.join
  let a_1 <-opt δ[0]?.join
  let x <-rd (bW a a_1)
  let y <-opt δ[2]?.join
  rd (cX x y)) a (aO 1 [1,0] δ) [])
 let x <-rd (pZ [D.lst a.2])
 rd (iW x)
noncomputable def xR:=aL 1 2 (sH Jw)
def Ac{R:List (List Nat)}{W:Nat}(h:WK R W)(hn:R.length<=18)(M:Mo):Rn (xR [bh R W]) M λd M'=>d=.tup ((cW (LD R)).map tupI)/\∀ (j:Nat) (o:DO),M[j]?=some o->M'[j]?=some o:=by
 unfold xR sH mK;dsimp only;refine Rn.call rfl ?_;have st:bK 2 [bh R W]=[some (bh R W),none]:=rfl;rw[st];refine aH λK hK=>?_
 simp;refine Rn.bind (Oe h M) λd M1 ⟨e,k1⟩=>?_
 subst e;rw[hK];clear hK K;have as:jV (nM (LD R))=some (.fix ((LD R).map nT)):=rfl;have ce:aO 1 [1] [some (bh R W),some (nM (LD R))]=[none,some (nM (LD R))]:=rfl;simp[as,lA,ce];have T:∀l∈LD R,w5 (some (nT l)::[some (nM (LD R))])=(Pure.pure (fO (LD R) l):DM Bool):=λl hl=>by
  have hl':=pX hl;have at':jV (nT l)=some (.fix (l.map nD)):=rfl;have ce2:aO 1 [1,0] [some (nT l),some (nM (LD R))]=[none,some (nM (LD R)),some (nT l)]:=rfl;simp only[w5,List.getElem?_cons_zero,Option.join_some,fG,aq,at',lA,ce2];rw[iZ nD (λy=>.bl (decide (gr (LD R) y=l))) (by lia) λy hy=>by simp[n6 (R:=LD R) (i:=y) (by rw[mZ];exact hl'.2.2 y hy),G6]]
  have e:l.map (λy=>D.bl (decide (gr (LD R) y=l)))=(l.map λy=>decide (gr (LD R) y=l)).map D.bl:=by rw[Ug];rfl
  simp only[aq,e,uV,Ph];congr 1;unfold fO;rw[List.all_map];rfl
 obtain⟨z,q⟩:=yr (rest:=[some (nM (LD R))]) nT (fO (LD R)) bB (LD R) none [] (by rw[mZ];simpa using hn) (ft:=w5) (fe:=cU 0) T (λl hl x=>⟨by simp[I9],λz=>(pX hl).1 (by unfold bB at z;simpa using z)⟩)
 refine (show Rn (dq (bj (gN 0) w5 (lL (cU 0)) ((LD R).map nT) [none,some (nM (LD R))] [])>>=_) M1 _ from ?_)
 rw[q];have sl:∀M,(λ_:Mo=>Hr (([]:List D)++((LD R).filter (fO (LD R))).map λa=>tupI (bB a))) M=some (.lst ((cW (LD R)).map tupI)):=λM=>by
  have e:(((LD R).filter (fO (LD R))).map λa=>tupI (bB a))=((((LD R).filter (fO (LD R))).map bB)).map tupI:=by rw[Ug];rfl
  show Hr _=_;rw[Yi,e];unfold Hr;rw[pF λt ht=>by obtain⟨l,hl,rfl⟩:=Uh.mp ht;exact λz=>(pX (Tv.mp hl).1).1 (by unfold bB at z;simpa using z)]
  rfl
 simp only[DR,aq];refine Rn.bindRd _ (sl M1) ?_;refine Rn.bindRd (.tup ((cW (LD R)).map tupI)) rfl ?_;exact Rn.pure ⟨_,rfl,rfl,k1⟩
end K
namespace K
open PySem L2 L3 N10
noncomputable def xu:List D->DM D
 |[.int a,.int b]=>if 0<=a/\0<=b then pure (nD (Nat.gcd a.toNat b.toNat)) else stuck
 |_=>stuck
def NP(a b:Nat):xu [nD a,nD b]=pure (nD (Nat.gcd a b)):=by simp[xu,nD]
def Kl{c:aa->DM Bool}{f:aa->DM Fl}(h1:∀ a b:Nat,c [some (nD a),some (nD b)]=pure (b != 0))(h2:∀ a b:Nat,0<b->f [some (nD a),some (nD b)]=pure (.nx [some (nD b),some (nD (a % b))])):
  ∀b a:Nat,∃n,fZ c f n [some (nD a),some (nD b)]=pure (.nx [some (nD (Nat.gcd a b)),some (nD 0)]):=by
 intro b;induction b using Nat.strongRecOn with
 | ind b ih=>
   intro a;rcases Xp b with rfl | hb
   ·exact⟨1,by simp[fZ,h1]⟩
   ·obtain⟨n,hn⟩:=ih (a%b) (UV _ hb) b;refine⟨n+1,?_⟩;have hb':(b != 0)=true:=by simp;lia
    simp only[fZ,h1,aq,hb',if_true,h2 a b hb,hn];rw[Nat.gcd_comm a b,Nat.gcd_rec b a,Nat.gcd_comm]
set_option tactic.hygienic true in
def P0:∀ ds M r,xu ds M=some r->∃ n,aL 2 2 (dC n) ds M=some r:=by
 intro ds M r h;unfold xu at h;split at h
 ·rename_i a b;split at h
  ·rename_i hab;obtain⟨x,rfl⟩:∃x:Nat,a=x:=⟨a.toNat,by lia⟩
   obtain⟨y,rfl⟩:∃y:Nat,b=y:=⟨b.toNat,by lia⟩
   have h1:∀a b:Nat,(λδ=>(cU 1) δ>>=λx=>rd (iW x)) [some (nD a),some (nD b)]=(pure (b != 0):DM Bool):=λa b=>by
    simp;refine bz λM=>?_
    show some ((b:Int) != 0)=_;congr 1;rw[T6];simp
   have h2:∀a b:Nat,0<b->(Dr 0 1 (λδ=>(cU 1) δ>>=λx=>(λδ=>(λδ=>(cU 0) δ>>=λx=>(cU 1) δ>>=λy=>rd (mF x y)) δ>>=λx=>(λz=>pure []) δ>>=λxs=>pure (x::xs)) δ>>=λxs=>pure (x::xs))) [some (nD a),some (nD b)]=pure (.nx [some (nD b),some (nD (a%b))]):=λa b hb=>by
    have:=Hb (a:=a) hb;simp[nD]at this ⊢
    simp[this]
   obtain⟨n,hn⟩:=Kl (c:=(λδ=>(cU 1) δ>>=λx=>rd (iW x))) (f:=(Dr 0 1 (λδ=>(cU 1) δ>>=λx=>(λδ=>(λδ=>(cU 0) δ>>=λx=>(cU 1) δ>>=λy=>rd (mF x y)) δ>>=λx=>(λz=>pure []) δ>>=λxs=>pure (x::xs)) δ>>=λxs=>pure (x::xs)))) h1 h2 y x
   refine⟨n,?_⟩;rw[<-h];have:aL 2 2 (dC n) [.int x,.int y]=pure (nD (Nat.gcd x y)):=by unfold dC fB;have e:bK 2 [D.int x,D.int y]=[some (nD x),some (nD y)]:=rfl;simp only[O6,e,Qv,hn];simp
   rw[this];simp
  ·cases h
 ·cases h
noncomputable def Ep:=aL 2 2 (uw xF)
def NT(x n:Nat):Ep [nD x,nD n]=pure (.bl (decide (x<n))):=by
 have e1:(rd (yV (.int 0) (nD x)):DM D)=pure (.bl true):=by rw[show D.int 0=nD 0 from rfl,uX,Tw (Vb _)]
 simp[Ep,uw,Gm,e1,uY]
def Q7(l:List Nat):jV (nT l)=some (.fix (l.map nD)):=rfl
noncomputable def Fri:=aL 1 1 (sG)
def Hg{P:List Nat}(h:P.Pairwise (·< ·))(hl:P.length<=1000):Fri [nT P]=pure (.bl true):=by
 have e1:zR [.int 1,nD P.length]=some (.fix ((List.range (P.length-1)).map λk=>nD (1+k))):=Ln (a:=1) (by decide) (by lia)
 simp[Fri,sG,aO,b8,Ha,e1];rw[iZ (λk=>nD (1+k)) (λz=>D.bl true) (by simp;lia) (λk hk=>by
  have hk:k<P.length-1:=by simpa using hk
  have e2:(rd (Ae (nD (1+k)) (.int 1)):DM D)=pure (nD k):=by
   have:=zO (a:=1+k) (b:=1) (by lia)
   rw[show 1+k-1=k by lia]at this
   exact this
  have e3:ga P k<ga P (1+k):=by
   rw[lN (by lia),lN (by lia)]
   exact Vn.mp h _ _ _ _ (by lia)
  simp[e2,gY (l:=P) (i:=k) (by lia),gY (l:=P) (i:=1+k) (by lia),uY,e3])]
 rw[aq,jo,jU]
noncomputable def xO:=aL 2 2 (iy Ep Fri)
def Mz{n:Nat}{P:List Nat}(lt:∀x∈P,x<n)(up:P.Pairwise (·< ·))(hl:P.length<=25):xO [nT P,nD n]=pure (.bl true):=by
 simp[xO,iy,aO,b8,Q7,zJ,Hg up (by lia)]
 rw[iZ nD (λz=>.bl true) (by lia) (λx hx=>by simp[NT,lt x hx])]
 rw[aq,jo,jU];simp[Hg up (show P.length<=1000 by lia)]
theorem Hs:∀ ts:List (List Int),tN (ts.map tupI)=some ts
 |[]=>rfl
 |t::ts=>by show (jg (t.map D.int)).bind _=_;rw[jm,V5,Hs ts];rfl
noncomputable def xP:=aL 2 2 (jY xR xO ji)
def Lp{R:List (List Nat)}{W:Nat}{l:List Nat}(wk:WK R W)(hn:R.length<=18)(lt:∀x∈l,x<R.length)(up:l.Pairwise (·< ·))(hl:l.length<=25)(hm:bB l∈cW (LD R))(M:Mo):Rn (xP [bh R W,nT l]) M λd M'=>d=.non/\∀(j:Nat) (o:DO),M[j]?=some o->M'[j]?=some o:=by
 unfold xP jY gq;dsimp only;simp[rG wk.n25,Mz lt up hl];refine Rn.bind (Ac wk hn M) λd M1 ⟨e,k1⟩=>?_
 subst e;have nn:Jb (nT l) (.tup ((cW (LD R)).map tupI)) M1=some (.bl false):=by
  show (jg (l.map nD)).bind (λk=>(tN ((cW (LD R)).map tupI)).map λts=>D.bl (!ts.contains k))=_
  rw[show l.map nD=(bB l).map D.int by unfold bB;rw[Ug];rfl,jm,Hs,V5,WL]
  rw[show (cW (LD R)).contains (bB l)=true by simpa using hm];rfl
 refine Rn.bindRd _ nn ?_;simp;exact Rn.pure ⟨rfl,k1⟩
noncomputable def Be:=aL 2 7 (vV xP jC pG xu)
noncomputable def sI(N:List (List Nat))(ks vs:List Nat)(x:Nat):List Nat:=(gr N x).map λy=>dv ks vs x+1-dv ks vs y
noncomputable def RT(M0:Mo)(w:D)(N:List (List Nat))(l ks vs:List Nat)(q:Nat)(i:Nat)(δ:aa)(M:Mo):Prop:=(∃z5 z6,δ=[some w,some (nT l),some (.lst (N.map nT)),some (.ref q),some (nD (((l.take i).flatMap (sI N ks vs)).foldl Nat.gcd 0)),z5,z6])/\M[q]?=some (.dic (kD ks) (vs.map nD))/\∀(j:Nat) (o:DO),M0[j]?=some o->M[j]?=some o
noncomputable def RQ(M0:Mo)(w:D)(N:List (List Nat))(l ks vs:List Nat)(q x g:Nat)(i:Nat)(δ:aa)(M:Mo):Prop:=(∃z6,δ=[some w,some (nT l),some (.lst (N.map nT)),some (.ref q),some (nD (((sI N ks vs x).take i).foldl Nat.gcd g)),some (nD x),z6])/\M[q]?=some (.dic (kD ks) (vs.map nD))/\∀(j:Nat) (o:DO),M0[j]?=some o->M[j]?=some o
def Pu{R:List (List Nat)}{W:Nat}{l:List Nat}(wk:WK R W)(hn:R.length<=18)(ne:l≠[])(lt:∀ x∈l,x<R.length)(up:l.Pairwise (·< ·))(hl:l.length<=25)(hm:bB l∈cW (LD R))(cl:∀ x∈l,Rch (aB R) (ga l 0) x)(M0:Mo):
  Rn (Be [bh R W,nT l]) M0 λd M'=>(∃ks vs:List Nat,ks.length=vs.length/\Dst (aB R) (ga l 0) ks vs []/\(∀x,x∈ks ↔ Rch (aB R) (ga l 0) x)/\d=nD ((l.flatMap (sI (aB R) ks vs)).foldl Nat.gcd 0))/\∀(j:Nat) (o:DO),M0[j]?=some o->M'[j]?=some o:=by
 unfold Be vV qC;dsimp only;refine Rn.call rfl ?_;have st:bK 7 [bh R W,nT l]=[some (bh R W),some (nT l),none,none,none,none,none]:=rfl;rw[st];have l1:1<=l.length:=Vf.mpr ne;refine aH λK hK=>?_
 simp only[bF,aW,aF];refine Rn.bind (Lp wk hn lt up hl hm M0) λd M1 ⟨_,k1⟩=>?_
 try simp only[aq]
 rw[hK];clear hK K;refine aH λK hK=>?_
 simp only[cF,bF,aW,aF,uP wk];rw[hK];clear hK K;refine aH λK hK=>?_
 have i0:(rd (bW (nT l) (.int 0)):DM D)=pure (nD (ga l 0)):=gY (i:=0) (by lia)
 simp only[cF,bF,aW,aF,i0];refine Rn.bind (uI (N:=aB R) (s:=ga l 0) (n:=R.length) (eO R) wk.n25 (lt _ (d8 (by lia))) (gR wk) M1) λd M2 ⟨e,ks,vs,hd,hlen,ds,nd,hr,ltk,k2⟩=>?_
 subst e;have k02:∀(j:Nat) (o:DO),M0[j]?=some o->M2[j]?=some o:=λj o h=>k2 j o (k1 j o h)
 try simp only[cF,aq]
 rw[hK];clear hK K;revert hd;generalize M1.length=q;intro hd;clear k2 k1;refine aH λK hK=>?_
 simp only[cF,aq];rw[hK];clear hK K;refine aH λK hK=>?_
 have as:jV (nT l)=some (.fix (l.map nD)):=rfl;simp only[bF,aW,aF,as,fF];have mem:∀x∈l,x∈ks:=λx hx=>(hr x).mpr (cl x hx)
 refine Rn.bind (cu (RT M0 (bh R W) (aB R) l ks vs q) _ 0 _ _ ⟨⟨_,_,rfl⟩,hd,k02⟩ (λi d δ M3 hi hI=>?_)) (λr M3 hI=>?_)
 ·clear hK K;obtain⟨⟨z5,z6,rfl⟩,at3,k3⟩:=hI;rw[Tp]at hi;obtain⟨x,hx,rfl⟩:=S8.mp hi;have hxl:=T3 hx;have hxk:=mem x hxl;have hxn:=lt x hxl;rw[Ub];generalize hg:((l.take i).flatMap (sI (aB R) ks vs)).foldl Nat.gcd 0=g;have at':(opt (jV (nT (gr (aB R) x))):DM Itn)=pure (.fix ((gr (aB R) x).map nD)):=rfl;rw[fD,aq];simp only[List.set_cons_succ,List.set_cons_zero,aW,List.getElem?_cons_zero,List.getElem?_cons_succ,Option.join_some,fG,aq,aF,G8 (N:=aB R) (x:=x) (by rw[eO];exact hxn),at',fF]
  refine (cu (RQ M0 (bh R W) (aB R) l ks vs q x g) _ 0 _ _ ⟨⟨_,rfl⟩,at3,k3⟩ (λe d δ M4 he hI=>?_)).mono (λr M4 hI=>?_)
  ·obtain⟨⟨w6,rfl⟩,at4,k4⟩:=hI;rw[Tp]at he;obtain⟨y,hy,rfl⟩:=S8.mp he;have hyk:y∈ks:=(hr y).mpr (.step ((hr x).mp hxk) (T3 hy));have le:=ds.edge x hxk (by simp) y (T3 hy)
   rw[Ub];rw[fD,aq];simp only[cF,bF,aW,aF];refine Rn.bindRd _ (oK at4 hlen hxk) ?_;have a1:(rd (cZ (nD (dv ks vs x)) (.int 1)):DM D)=pure (nD (dv ks vs x+1)):=fY _ 1;simp only[a1,aq];refine Rn.bindRd _ (oK at4 hlen hyk) ?_;simp only[zO le,aq,NP];refine Rn.pure ⟨_,rfl,⟨some (nD y),?_⟩,at4,k4⟩;have ge:(sI (aB R) ks vs x)[e]?=some (dv ks vs x+1-dv ks vs y):=by unfold sI;rw[Tp,hy];rfl
   rw[Xu,ge,XM];rfl
  ·obtain⟨δ',rfl,⟨w6,rfl⟩,at4,k4⟩:=hI;refine⟨_,rfl,⟨some (nD x),w6,?_⟩,at4,k4⟩;rw[Ub,S9,Xu,hx,List.flatMap_append,XM,hg];have:(sI (aB R) ks vs x).take (gr (aB R) x).length=sI (aB R) ks vs x:=U6 (by unfold sI;rw[S9];exact Td _)
   rw[this];simp
 ·obtain⟨δ',rfl,⟨z5,z6,rfl⟩,at3,k3⟩:=hI;rw[hK];rw[Ub,S9,U6 (Td _)];simp only[bF,aW];exact Rn.pure ⟨_,rfl,⟨ks,vs,hlen,ds,hr,rfl⟩,k3⟩
def Wy.rch{N:List (List Nat)}{s k x:Nat}(h:Wy N s k x):Rch N s x:=by
 induction h with
 |here=>exact .here
 |step _ m ih=>exact .step ih m
def Dst.least{N:List (List Nat)}{s k x:Nat}{ks vs:List Nat}(d:Dst N s ks vs [])(hr:∀ x,x∈ks ↔ Rch N s x)(h:Wy N s k x):dv ks vs x<=k:=by
 induction h with
 |here=>rw[d.z0];exact Td _
 |step h m ih=>
   have:=d.edge _ ((hr _).mpr h.rch) (by simp) _ m
   lia
noncomputable def RP{α:Type}(M0:Mo)(rest:aa)(p:α->Bool)(e:α->D)(as:List α)(i:Nat)(δ:aa)(l:List D)(M:Mo):Prop:=(∃z,δ=z::rest)/\l=((as.take i).filter p).map e/\M=M0
def qW{α:Type}{ft:aa->DM Bool}{fe:aa->DM D}{rest:aa}{as:List α}(enc:α->D)(p:α->Bool)(e:α->D){M:Mo}{x:Option D}(hn:as.length<=1000)(h1:∀ a∈as,Rn (ft (some (enc a)::rest)) M λb M'=>b=p a/\M'=M)(h2:∀ a∈as,p a=true->Rn (fe (some (enc a)::rest)) M λd M'=>d=e a/\M'=M):
  Rn (bj (gN 0) ft (bR fe) (as.map enc) (x::rest) []) M λq M'=>M'=M/\q.2=(as.filter p).map e:=by
 refine (lU (RP M rest p e as) (as.map enc) 0 (x::rest) [] M ⟨⟨x,rfl⟩,by simp,rfl⟩ (λj d δ l M1 hj hI=>?_)).mono λq M' hI=>?_
 ·obtain ⟨⟨z,rfl⟩,rfl,rfl⟩:=hI;rw[Tp]at hj;obtain⟨y,hy,rfl⟩:=S8.mp hj;obtain⟨hj',rfl⟩:=S7.mp hy;have le:=Uu p (as.take (0+j));rw[VH]at le;have lt:(((as.take (0+j)).filter p).map e).length<sizeLine:=by
   show _<2^24;rw[S9]
   lia
  have tk:as.take (j+1)=as.take j++[as[j]]:=List.take_succ_eq_append_getElem hj';have hm:=U8 hj';rw[fD,aq];refine Rn.bind (h1 _ hm) λb M' ⟨e1,e2⟩=>?_
  subst e1 e2;rw[Ub]at lt ⊢
  cases hp:p as[j] with
  |true=>
    rw[Tf rfl];unfold bR;refine Rn.bind (h2 _ hm hp) λd M2 ⟨e3,e4⟩=>?_
    subst e3 e4;rw[Tf lt];refine Rn.pure ⟨⟨_,rfl⟩,?_,rfl⟩;rw[tk,WD,Vx];simp[hp]
  |false=>
    rw[Ti (by decide)]
    refine Rn.pure ⟨⟨_,rfl⟩,?_,rfl⟩;rw[tk,WD,Vx];simp[hp]
 ·obtain⟨_,e1,e2⟩:=hI;refine⟨e2,?_⟩;rw[e1,Ub,S9,U6 (Td _)]
noncomputable def dst(N:List (List Nat))(s x:Nat):Nat:=Classical.epsilon λk=>Wy N s k x/\∀j,Wy N s j x->k<=j
theorem Dst.dst{N:List (List Nat)}{s x:Nat}{ks vs:List Nat}(d:Dst N s ks vs [])(hr:∀x,x∈ks ↔ Rch N s x)(h:Rch N s x):dv ks vs x=K.dst N s x:=by
 have w:∃k,Wy N s k x/\∀j,Wy N s j x->k<=j:=⟨_,d.way x ((hr x).mpr h),λj hj=>d.least hr hj⟩
 have e:=Classical.epsilon_spec w;exact Nat.le_antisymm (d.least hr e.1) (e.2 _ (d.way x ((hr x).mpr h)))
noncomputable def Ni(N:List (List Nat))(s x:Nat):List Nat:=(gr N x).map λy=>dst N s x+1-dst N s y
noncomputable def bA(N:List (List Nat))(l:List Nat):Nat:=(l.flatMap (Ni N (ga l 0))).foldl Nat.gcd 0
def vB{α β:Type}{l:List α}{f g:α->List β}(h:∀x∈l,f x=g x):l.flatMap f=l.flatMap g:=by
 induction l with
 |nil=>rfl
 |cons a l ih=>rw[List.flatMap_cons,List.flatMap_cons,h a (by simp),ih λx hx=>h x (by simp[hx])]
structure Shu(R:List (List Nat))(l:List Nat):Prop where
 ne:l≠[]
 lt:∀x∈l,x<R.length
 up:l.Pairwise (·< ·)
 hl:l.length<=25
 hm:bB l∈cW (LD R)
 cl:∀x∈l,Rch (aB R) (ga l 0) x
def Pr{R:List (List Nat)}{W:Nat}{l:List Nat}(wk:WK R W)(hn:R.length<=18)(sh:Shu R l)(M0:Mo):
  Rn (Be [bh R W,nT l]) M0 λd M'=>d=nD (bA (aB R) l)/\∀(j:Nat) (o:DO),M0[j]?=some o->M'[j]?=some o:=by
 refine (Pu wk hn sh.ne sh.lt sh.up sh.hl sh.hm sh.cl M0).mono λd M' ⟨⟨ks,vs,hl,ds,hr,e⟩,k⟩=>⟨?_,k⟩
 rw[e];unfold bA;rw[vB (g:=Ni (aB R) (ga l 0))];intro x hx;unfold sI Ni;refine V1 λy hy=>?_
 have rx:=sh.cl x hx;rw[ds.dst hr rx,ds.dst hr (.step rx hy)]
noncomputable def Et:=aL 2 4 (uy Be jC pG)
noncomputable def iu(N:List (List Nat))(l:List Nat):List (List Nat):=(List.range (bA N l)).map λi=>l.filter λx=>decide (dst N (ga l 0) x%bA N l=i)
def kY(l:List Nat):(opt (jV (nT l)):DM Itn)=pure (.fix (l.map nD)):=rfl
def Pn{R:List (List Nat)}{W:Nat}{l:List Nat}(wk:WK R W)(hn:R.length<=18)(sh:Shu R l)(ht:bA (aB R) l<=1000)(M0:Mo):
  Rn (Et [bh R W,nT l]) M0 λd M'=>d=nM (iu (aB R) l)/\∀(j:Nat) (o:DO),M0[j]?=some o->M'[j]?=some o:=by
 unfold Et uy o4;dsimp only;refine Rn.call rfl ?_;have st:bK 4 [bh R W,nT l]=[some (bh R W),some (nT l),none,none]:=rfl;rw[st];have l1:1<=l.length:=Vf.mpr sh.ne;refine aH λK hK=>?_
 simp only[bF,aW,aF];refine Rn.bind (Pr wk hn sh M0) λd M1 ⟨e,k1⟩=>?_
 subst e;simp only[cF,aq];rw[hK];clear hK K;refine aH λK hK=>?_
 have i0:(rd (bW (nT l) (.int 0)):DM D)=pure (nD (ga l 0)):=gY (i:=0) (by lia)
 simp only[cF,bF,aW,aF,i0,uP wk];refine Rn.bind (uI (N:=aB R) (s:=ga l 0) (n:=R.length) (eO R) wk.n25 (sh.lt _ (d8 (by lia))) (gR wk) M1) λd M2 ⟨e,ks,vs,hd,hlen,ds,nd,hr,ltk,k2⟩=>?_
 subst e
 try simp only[cF,aq]
 rw[hK];clear hK K;have rg:mL [nD (bA (aB R) l)]=some (.fix ((List.range (bA (aB R) l)).map nD)):=dN (by lia)
 simp[aO,b8,rg];refine Rn.bind (jT (qW (as:=List.range (bA (aB R) l)) nD (λz=>true) (λi=>nT (l.filter λx=>decide (dst (aB R) (ga l 0) x%bA (aB R) l=i))) (by simpa using ht) (λa z=>Rn.pure ⟨rfl,rfl⟩) (λa ha z=>?_))) λq M3 ⟨e1,e2⟩=>?_
 ·have tp:0<bA (aB R) l:=by have:=Th.mp ha;lia
  simp[aO,b8,kY];refine Rn.bind (jT (qW (as:=l) nD (λx=>decide (dst (aB R) (ga l 0) x%bA (aB R) l=a)) nD (by have:=sh.hl;lia) (λx hx=>?_) (λx z z=>?_))) λq M3 ⟨e1,e2⟩=>?_
  ·simp;refine Rn.bindRd _ (oK hd hlen ((hr x).mpr (sh.cl x hx))) ?_;rw[ds.dst hr (sh.cl x hx)];rw[fM tp,aq,cT];exact Rn.pure ⟨rfl,rfl⟩
  ·exact Rn.pure ⟨rfl,rfl⟩
  ·subst e1;rw[e2];exact Rn.pure ⟨rfl,rfl⟩
 ·subst e1;rw[e2];refine Rn.pure ⟨_,rfl,?_,λj o h=>k2 j o (k1 j o h)⟩
  rw[Ws.mpr (λz z=>rfl)]
  unfold nM iu;rw[Ug];rfl
def Wy.cons{N:List (List Nat)}{x y z k:Nat}(h:y∈gr N x)(w:Wy N y k z):Wy N x (k+1) z:=by
 induction w with
 |here=>exact .step .here h
 |step _ m ih=>exact .step ih m
def Wy.app{N:List (List Nat)}{x y z j k:Nat}(w:Wy N x j y)(v:Wy N y k z):Wy N x (j+k) z:=by
 induction v with
 |here=>exact w
 |step _ m ih=>exact .step ih m
def Wy.uncons{N:List (List Nat)}{x z k:Nat}(w:Wy N x (k + 1) z):∃ y,y∈gr N x/\Wy N y k z:=by
 generalize e:k+1=m at w;induction w generalizing k with
 |here=>cases e
 | @step j y z v m ih=>
   obtain rfl:k=j:=by lia
   cases k with
   |zero=>cases v;exact⟨z,m,.here⟩
   |succ i=>obtain⟨a,h1,h2⟩:=ih rfl;exact⟨a,h1,.step h2 m⟩
def Wy.lt{N:List (List Nat)}{n x z k:Nat}(hg:∀x,∀y∈gr N x,y<n)(hx:x<n)(w:Wy N x k z):z<n:=by
 cases w with
 |here=>exact hx
 |step _ m=>exact hg _ _ m
open Classical in
noncomputable def wy(N:List (List Nat))(k x z:Nat):Bool:=decide (Wy N x k z)
def fJ{N:List (List Nat)}{k x z:Nat}:wy N k x z=true ↔ Wy N x k z:=by unfold wy;simp
noncomputable def En(N:List (List Nat))(n k x:Nat):List Nat:=(List.range n).filter (wy N k x)
noncomputable def pM(N:List (List Nat))(n k:Nat):D:=.lst ((List.range n).map λx=>.lst ((En N n k x).map nD))
def dH{N:List (List Nat)}{n k x z:Nat}:z∈En N n k x ↔ z<n/\Wy N x k z:=by unfold En;rw[Tv,Th,fJ]
def Ej{N:List (List Nat)}{n k x:Nat}:(En N n k x).length<=n:=by
 have:=Uu (wy N k x) (List.range n)
 rwa [T9]at this
theorem Gf{A:Option D}{fe:aa->DM D}{rest:aa}:∀ (bs:List Nat) (y:Option D) (l:List D),l.length + bs.length<=2000->(∀ b∈bs,fe (A::some (nD b)::rest)=pure (nD b))->
  ∃y',bj (gN 1) (λz=>pure true) (jc fe) (bs.map nD) (A::y::rest) l=pure (A::y'::rest,l++bs.map nD)
 |[],y,l,_,_=>⟨y,by simp[bj]⟩
 | b::bs,y,l,hl,h=>by
   have c:=h b (by simp)
   have hl':l.length+(bs.length+1)<=2000:=by simpa using hl
   have lt:l.length<2000:=by lia
   obtain⟨y',q⟩:=Gf (A:=A) (rest:=rest) bs (some (nD b)) (l++[nD b]) (by simp;lia) (λb hb=>h b (by simp[hb]))
   refine⟨y',?_⟩;have c':jc fe (A::some (nD b)::rest) l=pure (A::some (nD b)::rest,l++[nD b]):=by
    unfold jc;rw[c,aq];show (if l.length<2000 then _ else _)=_
    rw[Tf lt];rfl
   simp[bj,c',q]
theorem Fo{fi:aa->DM Itn}{fe:aa->DM D}{rest:aa}{f:Nat->List Nat}{m:Nat}:∀ (as:List Nat) (x y:Option D) (l:List D),l.length + as.length * m<=2000->(∀ a∈as,(f a).length<=m)->
  (∀a∈as,∀y,fi (some (nD a)::y::rest)=pure (.fix ((f a).map nD)))->(∀a∈as,∀b∈f a,fe (some (nD a)::some (nD b)::rest)=pure (nD b))->
  ∃δ',bj (gN 0) (λz=>pure true) (j0 fi (gN 1) (λz=>pure true) (jc fe)) (as.map nD) (x::y::rest) l=pure (δ',l++(as.flatMap f).map nD)
 |[],x,y,l,_,_,_,_=>⟨x::y::rest,by simp[bj]⟩
 |a::as,x,y,l,hl,hm,h1,h2=>by
   have hl':l.length+(as.length*m+m)<=2000:=by rw[<-Nat.succ_mul];simpa using hl
   have hma:=hm a (by simp)
   obtain⟨y',q⟩:=Gf (A:=some (nD a)) (rest:=rest) (f a) y l (by lia) (λb hb=>h2 a (by simp) b hb)
   obtain⟨δ',q'⟩:=Fo (rest:=rest) (f:=f) (m:=m) as (some (nD a)) y' (l++(f a).map nD) (by simp;lia) (λa ha=>hm a (by simp[ha])) (λa ha=>h1 a (by simp[ha])) (λa ha=>h2 a (by simp[ha]))
   exact⟨δ',by simp[bj,j0,h1 a (by simp),bL,q,q']⟩
def Ab{n:Nat}{L:List Nat}{p:Nat->Bool}(hp:∀ x,x∈L ↔ x<n/\p x=true):eN (bB L)=bB ((List.range n).filter p):=by
 have so:(eN (bB L)).Pairwise (·<= ·):=(bD _).2;refine dD ?_ so ?_
 ·refine (We (wI _) ?_).mpr λx=>?_
  ·unfold bB;exact WP _ (λa b (h:a≠b) e=>h (by lia)) (List.nodup_range.filter _)
  ·rw[Cu];unfold bB;simp only[List.mem_map,List.mem_filter,List.mem_range];exact⟨λ⟨a,h1,h2⟩=>⟨a,(hp a).mp h1,h2⟩,λ⟨a,h1,h2⟩=>⟨a,(hp a).mpr h1,h2⟩⟩
 ·unfold bB;refine WP _ (λa b (h:a<b)=>?_) (WT Xb Vk)
  lia
def LK{n:Nat}{L:List Nat}{p:Nat->Bool}(hn:n<=60)(hp:∀x,x∈L ↔ x<n/\p x=true):Hq (L.map nD)=some (.lst (((List.range n).filter p).map nD)):=by
 have e:L.map nD=(bB L).map D.int:=by unfold bB;rw[Ug];rfl
 unfold Hq;rw[e,jm,V5];have len:((bB L).foldl PyProof.Rows.step_dedup []).length<=60:=by
  have q:=(bD ((bB L).foldl PyProof.Rows.step_dedup [])).1.length_eq;have r:=congrArg List.length (Ab hp);unfold eN bB at r;unfold bB at q ⊢
  rw[q]at r;rw[r,S9];have:=Uu p (List.range n);rw[T9]at this
  lia
 rw[Tf len,Ab hp];unfold bB;rw[Ug];rfl
noncomputable def xr:=aL 2 2 jX
def Nj{N:List (List Nat)}{n k:Nat}(hN:N.length=n)(hn:n<=18)(hg:∀ x,∀ y∈gr N x,y<n)(hl:∀ x,(gr N x).length<=n):xr [.lst (N.map nT),pM N n k]=pure (pM N n (k + 1)):=by
 have ix:∀y,y<n->(rd (bW (pM N n k) (nD y)):DM D)=pure (.lst ((En N n k y).map nD)):=λy hy=>bz λM=>by
  show (atI ((List.range n).map λx=>D.lst ((En N n k x).map nD)) (y:Int))=_
  rw[gJ (a:=.lst ((En N n k y).map nD)) (by rw[Tp,U9 hy];rfl)]
 have as:(rd (p6 (.lst (N.map nT))):DM Itn)=pure (.fix (N.map nT)):=rfl;simp[xr,jX,aO,b8,as];rw[iZ (as:=N) nT (λg=>.lst (((List.range n).filter λz=>g.any λy=>wy N k y z).map nD)) (by lia) (λg hgN=>?_)]
 ·rw[aq];unfold pM;congr 2;refine V4 (by simp[hN]) λi h1 h2=>?_
  have hi:i<N.length:=by simpa using h1
  rw[XX,XX,List.getElem_range,show N[i]=gr N i from (je hi).symm]
  unfold En;congr 3;funext z;rw[T6,V2,fJ];exact⟨λ⟨y,h1,h2⟩=>.cons h1 (fJ.mp h2),λh=>by obtain⟨y,h1,h2⟩:=h.uncons;exact⟨y,h1,fJ.mpr h2⟩⟩
 ·obtain ⟨i,hi,rfl⟩:=List.getElem_of_mem hgN;have gi:N[i]=gr N i:=(je hi).symm;rw[gi];simp[kY];have lm:(gr N i).length*n<=2000:=Ue (WY (hl i) (Td n)) (Ue (WY hn hn) (by decide))
  obtain⟨δ',q⟩:=Fo (fi:=λδ=>do
    let a <-opt δ[2]?.join
    let a_1 <-opt δ[0]?.join
    let d <-rd (bW a a_1)
    rd (p6 d)) (fe:=cU 1) (rest:=[some (pM N n k)]) (f:=En N n k) (m:=n) (gr N i) none none [] (by simpa using lm) (λa w=>Ej) (λa ha y=>by simp[ix a (hg i a ha),zG]) (λa ha b hb=>by simp)
  rw[q];have ss:Hq (((gr N i).flatMap (En N n k)).map nD)=_:=LK (n:=n) (p:=λz=>(gr N i).any λy=>wy N k y z) (by lia) λx=>by rw[X4,V2];exact⟨λ⟨y,h1,h2⟩=>⟨(dH.mp h2).1,y,h1,fJ.mpr (dH.mp h2).2⟩,λ⟨h0,y,h1,h2⟩=>⟨y,h1,dH.mpr ⟨h0,fJ.mp h2⟩⟩⟩
  simp only[List.nil_append,DR,aq];refine bz λM=>?_
  exact ss
noncomputable def xx:=aL 1 1 sE
noncomputable def bZ(N:List (List Nat))(n k:Nat):List Nat:=(En N n k 0).filter λz=>(List.range n).all λx=>(En N n k x).contains z
def Qm(i:Nat)(l:List Nat):(rd (inD (nD i) (.lst (l.map nD))):DM D)=Pure.pure (.bl (l.contains i)):=bz λM=>by show ((intsOf (l.map nD))).map _=_;rw[dW,WL,oU]
def Ge{N:List (List Nat)}{n k:Nat}(h1:1<=n)(hn:n<=18):xx [pM N n k]=pure (.lst ((bZ N n k).map nD)):=by
 have ix:(rd (bW (pM N n k) (.int 0)):DM D)=pure (.lst ((En N n k 0).map nD)):=bz λM=>by
  show (atI ((List.range n).map λx=>D.lst ((En N n k x).map nD)) ((0:Nat):Int))=_
  rw[gJ (a:=.lst ((En N n k 0).map nD)) (by rw[Tp,U9 (by lia)];rfl)]
 have as:(rd (p6 (pM N n k)):DM Itn)=pure (.fix ((List.range n).map λx=>D.lst ((En N n k x).map nD))):=rfl
 have le:=Ej (N:=N) (n:=n) (k:=k) (x:=0);simp[xx,sE,aO,b8,ix,zG];rw[aK (as:=En N n k 0) nD (λz=>(List.range n).all λx=>(En N n k x).contains z) nD (by lia) (λz hz=>?_) (λz y y=>?_)]
 ·rfl
 ·simp[aO,b8,as];rw[iZ (as:=List.range n) (λx=>D.lst ((En N n k x).map nD)) (λx=>.bl ((En N n k x).contains z)) (by simp;lia) (λx y=>by simp[Qm])]
  have e:((List.range n).map λx=>D.bl ((En N n k x).contains z))=((List.range n).map λx=>(En N n k x).contains z).map D.bl:=by rw[Ug];rfl
  rw[aq];dsimp only;rw[e,uV,aq,List.all_map];refine bz λM=>?_
  show some _=some _;congr 2;funext x;simp
 ·simp
def Li{x y:List Nat}(h:x.length+y.length<=1000000):(rd (cZ (nT x) (nT y)):DM D)=pure (nT (x++y)):=bz λM=>by
 have:dR (x.map nD++y.map nD)=true:=by unfold dR;exact Tw (by show _<=2^24;rw[T4,S9,S9];lia)
 simp[cZ,nT,Jr,this]
theorem Ag{g:Nat->D}{x:Nat}:∀ {ks:List Nat},x∈ks->cL (kD ks) (ks.map g) (.inl (x:Int))=some (g x)
 |[],h=>by cases h
 | k::ks,hx=>by
   show cL (Sum.inl (k:Int)::kD ks) (g k::ks.map g) (.inl (x:Int))=_;by_cases e:k=x
   ·subst e;simp[cL]
   ·have e1:¬ (Sum.inl (k:Int):Key)=.inl (x:Int):=λq=>e (by have:=Sum.inl.inj q;lia)
    have hx':x∈ks:=by
     rcases Tt.mp hx with q | q
     ·exact absurd q.symm e
     ·exact q
    simp only[cL,e1,if_false,Ag hx']
def yD{n x:Nat}{M:Mo}{ks:List Nat}{g:Nat->D}(h:M[n]?=some (.dic (kD ks) (ks.map g)))(hx:x∈ks):yC (.ref n) (nD x) M=some (g x):=by
 have e0:dG (.ref n) M=some (kD ks,ks.map g):=by simp[dG,h]
 unfold yC;rw[e0];show (iM (nD x)).bind (λk=>cL (kD ks) (ks.map g) k)=_
 exact Ag hx
def Kc{n x:Nat}{M:Mo}{ks:List Nat}{ds:List D}(h:M[n]?=some (.dic (kD ks) ds))(hl:ks.length=ds.length):Ii (nD x) (.ref n) M=some (.bl (ks.contains x)):=by
 have e:dG (.ref n) M=some (kD ks,ds):=by simp[dG,h]
 have:=mq x ks ds hl;unfold Ii nD;rw[e];simp only[Option.bind_some,iM,Option.map_some,this]
noncomputable def xK:=aL 2 6 pK
noncomputable def fU(N:List (List Nat))(ks:List Nat)(x:Nat):List Nat:=(gr N x).filter λy=>ks.contains y
noncomputable def j9(N:List (List Nat))(ks:List Nat)(i:Nat):List Nat:=(List.range i).filter λx=>!(fU N ks x).isEmpty
noncomputable def QW(N:List (List Nat))(ks:List Nat)(f:Nat->List Nat)(x:Nat):List Nat:=x::f (ga (fU N ks x) 0)
noncomputable def RL(M0:Mo)(N:List (List Nat))(n q p:Nat)(ks:List Nat)(f:Nat->List Nat)(i:Nat)(δ:aa)(M:Mo):Prop:=(∃z3 z4 z5,δ=[some (.lst (N.map nT)),some (.ref q),some (.ref p),z3,z4,z5])/\M[p]?=some (.dic (kD (j9 N ks i)) ((j9 N ks i).map λx=>nT (QW N ks f x)))/\∀(j:Nat) (o:DO),M0[j]?=some o->M[j]?=some o
def Oq{N:List (List Nat)}{n q:Nat}{ks:List Nat}{f:Nat->List Nat}{M0:Mo}(hN:N.length=n)(hn:n<=18)(hl:∀ x,(gr N x).length<=n)(hf:∀ x∈ks,(f x).length<=10000)(h:M0[q]?=some (.dic (kD ks) (ks.map λx=>nT (f x)))):
  Rn (xK [.lst (N.map nT),.ref q]) M0 λd M'=>d=.ref M0.length/\M'[M0.length]?=some (.dic (kD (j9 N ks n)) ((j9 N ks n).map λx=>nT (QW N ks f x)))/\∀(j:Nat) (o:DO),M0[j]?=some o->M'[j]?=some o:=by
 unfold xK pK jw;dsimp only;refine Rn.call rfl ?_;have st:bK 6 [.lst (N.map nT),.ref q]=[some (.lst (N.map nT)),some (.ref q),none,none,none,none]:=rfl;rw[st];refine aH λK hK=>?_
 rw[aF];refine Rn.run (m:=JF) rfl ?_;simp only[cF,aq];rw[hK];clear hK K;refine aH λK hK=>?_
 have NN:N.map nT=(List.range' 0 n).map λj=>nT (gr N j):=by
  refine V4 (by simp[hN]) λi h1 h2=>?_
  have hi:i<N.length:=by simpa using h1
  rw[XX,XX,List.getElem_range',show N[i]=gr N i from (je hi).symm]
  simp
 have en:oO [.lst (N.map nT)]=some (.fix ((List.range' 0 n).map λj=>.tup [nD j,nT (gr N j)])):=by show some (Itn.fix (gk 0 (N.map nT)))=_;rw[NN,gQ]
 have ql:q<M0.length:=(S7.mp h).1;simp only[bF,aW,aF,en,fF];refine Rn.bind (cu (RL M0 N n q M0.length ks f) _ 0 _ _ ⟨⟨_,_,_,rfl⟩,by simp[j9,kD],λj o e=>?_⟩ (λi d δ M hi hI=>?_)) (λr M hI=>?_)
 ·rw[Tq (S7.mp e).1];exact e
 ·clear hK K;obtain⟨⟨z3,z4,z5,rfl⟩,at3,k3⟩:=hI;rw[Tp]at hi;obtain⟨x,hx,rfl⟩:=S8.mp hi;obtain⟨hx1,hx2⟩:=S7.mp hx;have hxn:i<n:=by simpa using hx1
  obtain rfl:i=x:=by rw[<-hx2];simp
  rw[Ub]at at3 ⊢
  simp;have atq:M[q]?=_:=k3 q _ h;have hli:=hl i;have ce:aO 1 [1] [some (D.lst (List.map nT N)),some (D.ref q),some (D.ref (List.length M0)),some (nD i),some (nT (gr N i)),z5]=[none,some (.ref q)]:=rfl;rw[kY,aq,ce,n8];refine Rn.bind (jT (qW (as:=gr N i) nD (λy=>ks.contains y) nD (by lia) (λy hy=>?_) (λy z z=>?_))) λa M1 ⟨e1,e2⟩=>?_
  ·simp only[bF];refine Rn.bindRd _ (Kc (x:=y) atq (by simp)) ?_
   exact Rn.pure ⟨rfl,rfl⟩
  ·exact Rn.pure ⟨rfl,rfl⟩
  subst e1;rw[e2];have eo:(gr N i).filter (λy=>ks.contains y)=fU N ks i:=rfl
  rw[eo];have tr:(rd (iW (.lst ((fU N ks i).map nD))):DM Bool)=pure (!(fU N ks i).isEmpty):=bz λM=>by show some (!((fU N ks i).map nD).isEmpty)=_;rw[List.isEmpty_map]
  rw[tr,aq];have rs:j9 N ks (i+1)=if (!(fU N ks i).isEmpty)=true then j9 N ks i++[i] else j9 N ks i:=by
   unfold j9;rw[List.range_succ,WD];by_cases c:(!(fU N ks i).isEmpty)=true
   ·rw[Tf c];simp[c]
   ·rw[Ti c];simp[c]
  by_cases c:(!(fU N ks i).isEmpty)=true
  ·rw[Tf c];rw[Tf c]at rs;have pos:0<(fU N ks i).length:=by rw[Vf];intro e;rw[e]at c;simp at c
   have mk:=d8 (l:=fU N ks i) (i:=0) pos;have mem:ga (fU N ks i) 0∈ks:=by unfold fU at mk;have:=(Tv.mp mk).2;unfold fU;simpa using this
   have mt:wC [nD i]=pure (nT [i]):=gZ (by simp)
   have ix:(rd (bW (.lst ((fU N ks i).map nD)) (.int 0)):DM D)=pure (nD (ga (fU N ks i) 0)):=bz λM=>by show atI ((fU N ks i).map nD) ((0:Nat):Int)=_;rw[gJ (a:=nD (ga (fU N ks i) 0)) (by rw[Tp,Tc pos,lN pos];rfl)]
   rw[mt,aq,ix,aq];refine Rn.bindRd _ (yD atq mem) ?_;rw[Li (by have:=hf _ mem;simp;lia),aq]
   have nin:i∉j9 N ks i:=by unfold j9;simp
   have len:(j9 N ks i).length<1000:=by
    unfold j9;have:=Uu (λx=>!(fU N ks x).isEmpty) (List.range i)
    rw[T9]at this
    lia
   refine Rn.run (yE at3 (by simp) nin len) ?_
   refine Rn.pure ⟨_,rfl,⟨_,_,_,rfl⟩,?_,λj o e=>?_⟩
   ·rw[Uy (S7.mp at3).1,rs,Vx];rfl
   ·have:=(S7.mp e).1;rw[U5 (by lia)]
    exact k3 j o e
  ·rw[Ti c];rw[Ti c]at rs;exact Rn.pure ⟨_,rfl,⟨_,_,_,rfl⟩,by rw[rs];exact at3,k3⟩
 ·obtain⟨δ',rfl,⟨z3,z4,z5,rfl⟩,at3,k3⟩:=hI;rw[hK];simp only[bF,aW];refine Rn.pure ⟨_,rfl,rfl,?_,k3⟩;rw[Ub,S9,List.length_range']at at3;exact at3
def FZ{n:Nat}{p:Nat->Bool}(h:∀y,y<n->p y=false):(List.range n).filter p=[]:=by rw[Vm];intro y hy;rw[h y (Th.mp hy)];decide
theorem yI{x:Nat}{p:Nat->Bool}:∀ {n:Nat},x<n->(∀ y,y<n->(p y=true ↔ y=x))->(List.range n).filter p=[x]
 |0,h,_=>by lia
 | n + 1,h,hp=>by
   rw[List.range_succ,WD];by_cases e:x=n
   ·subst e;rw[FZ λy hy=>by
     cases c:p y with
     |false=>rfl
     |true=>have:=(hp y (by lia)).mp c;lia]
    simp[(hp x (by lia)).mpr rfl]
   ·have:p n=false:=by
     cases c:p n with
     |false=>rfl
     |true=>exact absurd ((hp n (by lia)).mp c).symm e
    rw[yI (n:=n) (by lia) λy hy=>hp y (by lia)]
    simp[this]
def Ba{N:List (List Nat)}{n x:Nat}(hx:x<n):En N n 0 x=[x]:=yI hx λy z=>by rw[fJ];exact⟨λh=>by cases h;rfl,λh=>by rw[h];exact .here⟩
inductive Wl(N:List (List Nat))(z:Nat):Nat->Nat->List Nat->Prop
 |here:Wl N z 0 z [z]
 |step {k x y:Nat}{l:List Nat}:y∈gr N x->Wl N z k y l->Wl N z (k+1) x (x::l)
def Wl.len{N:List (List Nat)}{z k x:Nat}{l:List Nat}(h:Wl N z k x l):l.length=k+1:=by
 induction h with
 |here=>rfl
 |step _ _ ih=>rw[UG,ih]
structure WsI(N:List (List Nat))(n z k:Nat)(p:Nat)(M:Mo)(ks:List Nat)(f:Nat->List Nat):Prop where
 at_:M[p]?=some (.dic (kD ks) (ks.map λx=>nT (f x)))
 mem:∀x,x∈ks ↔ x<n/\Wy N x k z
 way:∀x∈ks,Wl N z k x (f x)
def Kz{N:List (List Nat)}{n z k x:Nat}{ks:List Nat}(hg:∀x,∀y∈gr N x,y<n)(hm:∀x,x∈ks ↔ x<n/\Wy N x k z):x∈j9 N ks n ↔ x<n/\Wy N x (k+1) z:=by unfold j9;rw[Tv,Th];refine and_congr Iff.rfl ?_;rw[Bool.not_eq_true',List.isEmpty_eq_false_iff_exists_mem];unfold fU;simp only[List.mem_filter,List.contains_iff_mem,hm];exact⟨λ⟨y,h1,_,h2⟩=>.cons h1 h2,λh=>by obtain⟨y,h1,h2⟩:=h.uncons;exact⟨y,h1,hg _ _ h1,h2⟩⟩
noncomputable def Bc:=aL 1 7 (eV 1000 jC xx xr xK ji)
def PQ:∀ds M r,Bc ds M=some r->∃n,aL 1 7 (eV n jC xx xr xK ji) ds M=some r:=λz z z h=>⟨1000,h⟩
noncomputable def RD(M0:Mo)(w:D)(N:List (List Nat))(n T:Nat)(m:Nat)(δ:aa)(M:Mo):Prop:=M=M0/\∃t,t+m=T/\δ=[some w,some (.lst (N.map nT)),some (pM N n t),some (nD t),none,none,none]
noncomputable def RC(M0:Mo)(w:D)(N:List (List Nat))(n T z:Nat)(i:Nat)(δ:aa)(M:Mo):Prop:=(∀(j:Nat) (o:DO),M0[j]?=some o->M[j]?=some o)/\∃p ks f z6,WsI N n z i p M ks f/\δ=[some w,some (.lst (N.map nT)),some (pM N n T),some (nD T),some (nD z),some (.ref p),z6]
def Nv{R:List (List Nat)}{W T:Nat}(wk:WK R W)(hn:R.length<=18)(hT:T<=900)(h0:∀ t,t<T->bZ (aB R) R.length t=[])(h1:bZ (aB R) R.length T≠[])(M0:Mo):
  Rn (Bc [bh R W]) M0 λd M'=>(∃f:Nat->List Nat,(∀x,x<R.length->Wl (aB R) (ga (bZ (aB R) R.length T) 0) T x (f x))/\d=.tup [nD T,nD (ga (bZ (aB R) R.length T) 0),nM ((List.range R.length).map f)])/\∀(j:Nat) (o:DO),M0[j]?=some o->M'[j]?=some o:=by
 have n1:=wk.n1;have hg:=gR wk;have hl:∀x,(gr (aB R) x).length<=R.length:=λx=>by
  by_cases h:x<R.length
  ·rw[kh h];have:=Uu (λy=>decide (0<ga (gr R x) y)) (List.range (gr R x).length)
   rw[T9,wk.row _ (gr_mem h)]at this;rw[wk.row _ (gr_mem h)];exact this
  ·have:gr (aB R) x=[]:=by unfold gr;rw[T8,Ur (by rw[eO];lia)];rfl
   rw[this];simp
 unfold Bc eV gW;dsimp only;refine Rn.call rfl ?_;have st:bK 7 [bh R W]=[some (bh R W),none,none,none,none,none,none]:=rfl;rw[st];refine aH λK hK=>?_
 simp only[cF,bF,aW,aF,uP wk];rw[hK];clear hK K;refine aH λK hK=>?_
 have rg:mL [nD R.length]=some (.fix ((List.range R.length).map nD)):=dN (by lia)
 simp[rG wk.n25,rg,aO,b8];rw[iZ (as:=List.range R.length) nD (λx=>.lst ((En (aB R) R.length 0 x).map nD)) (by simp;lia) (λx hx=>by
  have m1:fX [nD x]=pure (.lst [nD x]):=eX (by simp)
  simp[m1,Ba (List.mem_range.mp hx)])]
 simp;rw[hK];clear hK K;have ed:D.lst ((List.range R.length).map λx=>.lst ((En (aB R) R.length 0 x).map nD))=pM (aB R) R.length 0:=rfl
 rw[ed];refine aH λK hK=>?_
 simp only[cF,aq];rw[hK];clear hK K;refine aH λK hK=>?_
 refine Rn.bind (qR (oG:=λδ M=>M=M0/\δ=[some (bh R W),some (.lst ((aB R).map nT)),some (pM (aB R) R.length T),some (nD T),none,none,none]) (RD M0 (bh R W) (aB R) R.length T) (λm δ M hI=>?_) 1000 T _ _ (by lia) ⟨rfl,0,by lia,rfl⟩) λr M hI=>?_
 ·obtain ⟨rfl,t,et,rfl⟩:=hI;refine⟨(bZ (aB R) R.length t).isEmpty,?_,λhb=>?_,λhb=>?_⟩
  ·simp[Ge n1 hn];have tr:(rd (iW (.lst ((bZ (aB R) R.length t).map nD))):DM Bool)=pure (!(bZ (aB R) R.length t).isEmpty):=bz λM=>by show some (!((bZ (aB R) R.length t).map nD).isEmpty)=_;rw[List.isEmpty_map]
   rw[tr,aq,Bool.not_not];rfl
  ·simp [Nj (eO R) hn hg hl];clear hK K;have lt:t<T:=by
    rcases Nat.lt_or_ge t T with h | h
    ·exact h
    ·obtain rfl:t=T:=by lia
     exact absurd (Yv.mp hb) h1
   have a1:(rd (dg (λx x_1=>true) (λi j=>D.int (i+j)) (nD t) (D.int 1)):DM D)=pure (nD (t+1)):=bz λM=>rfl
   rw[a1,aq];exact Rn.pure ⟨_,rfl,m-1,by lia,rfl,t+1,by lia,rfl⟩
  ·have:t=T:=by
    rcases Nat.lt_or_ge t T with h | h
    ·rw[h0 t h]at hb;cases hb
    ·lia
   subst this;exact⟨rfl,rfl⟩
 obtain⟨δ',rfl,rfl,rfl⟩:=hI;rw[hK];clear hK K;refine aH λK hK=>?_
 simp[Ge n1 hn];have pos:0<(bZ (aB R) R.length T).length:=Vf.mpr h1;have hz:=d8 (l:=bZ (aB R) R.length T) (i:=0) pos;have ix:(rd (bW (.lst ((bZ (aB R) R.length T).map nD)) (.int 0)):DM D)=pure (nD (ga (bZ (aB R) R.length T) 0)):=bz λM=>by show atI ((bZ (aB R) R.length T).map nD) ((0:Nat):Int)=_;rw[gJ (a:=nD (ga (bZ (aB R) R.length T) 0)) (by rw[Tp,Tc pos,lN pos];rfl)]
 rw[ix,aq,hK];clear hK K;have all:∀x,x<R.length->Wy (aB R) x T (ga (bZ (aB R) R.length T) 0):=λx hx=>by revert hz;generalize ga (bZ (aB R) R.length T) 0=z;intro hz;unfold bZ at hz;have:=U3.mp (Tv.mp hz).2 x (Th.mpr hx);exact (dH.mp (Vg.mp this)).2
 have zlt:ga (bZ (aB R) R.length T) 0<R.length:=(all 0 (by lia)).lt hg (by lia)
 clear hz ix;revert all zlt;generalize ga (bZ (aB R) R.length T) 0=z;intro all zlt;refine aH λK hK=>?_
 simp only[bF,aW,aF];refine Rn.run (M':=M++[.dic [.inl (z:Int)] [.tup [nD z]]]) (a:=.ref M.length) rfl ?_;simp only[cF,aq];rw[hK];clear hK K;refine aH λK hK=>?_
 have rgT:mL [nD T]=some (.fix ((List.range T).map nD)):=dN (by lia)
 simp only[bF,aW,aF,rgT,fF];refine Rn.bind (cu (RC M (bh R W) (aB R) R.length T z) _ 0 _ _ ⟨λj o e=>?_,_,[z],λw=>[z],_,⟨?_,λx=>?_,λx hx=>?_⟩,rfl⟩ (λi d δ M1 hi hI=>?_)) (λr M1 hI=>?_)
 ·rw[Tq (S7.mp e).1];exact e
 ·simp[kD,nT]
 ·rw[TJ];exact⟨λe=>by rw[e];exact⟨zlt,.here⟩,λ⟨_,h⟩=>by cases h;rfl⟩
 ·rw[TJ.mp hx];exact .here
 ·clear hK K;obtain⟨k1,p,ks,f,z6,ws,rfl⟩:=hI;rw[Tp]at hi;obtain⟨x,hx,rfl⟩:=S8.mp hi;have hiT:i<T:=by have:=(S7.mp hx).1;simpa using this
  rw[Ub]at ws ⊢
  rw[fD,aq];simp only[cF,bF,aW,aF];refine Rn.bind (Oq (eO R) hn hl (λx hx=>by rw[(ws.way x hx).len];lia) ws.at_) λd M2 ⟨e,at2,k2⟩=>?_
  subst e
  try simp only[cF,aq]
  refine Rn.pure ⟨_,rfl,λj o h=>k2 j o (k1 j o h),_,_,_,_,⟨at2,λx=>Kz hg ws.mem,λx hx=>?_⟩,rfl⟩
  have hx':=(Tv.mp hx).2;have ps:0<(fU (aB R) ks x).length:=by rw[Vf];intro e;rw[e]at hx';simp at hx'
  have mk:=d8 (l:=fU (aB R) ks x) (i:=0) ps;have mk2:=Tv.mp mk;exact .step mk2.1 (ws.way _ (Vg.mp mk2.2))
 ·obtain⟨δ',rfl,k1,p,ks,f,z6,ws,rfl⟩:=hI;rw[Ub,S9,T9]at ws;rw[hK];have mem:∀x,x<R.length->x∈ks:=λx hx=>(ws.mem x).mpr ⟨hx,all x hx⟩
  simp[aO,b8,rG wk.n25,rg];refine Rn.bind (jT (qW (as:=List.range R.length) nD (λw=>true) (λx=>nT (f x)) (by simp;lia) (λa w=>Rn.pure ⟨rfl,rfl⟩) (λx hx w=>?_))) λq M3 ⟨e1,e2⟩=>?_
  ·simp;refine Rn.rd (yD ws.at_ (mem x (Th.mp hx))) ⟨rfl,rfl⟩
  ·subst e1;rw[e2,Ws.mpr (λw w=>rfl)]
   rw[gZ (by simp),aq]
   refine Rn.pure ⟨_,rfl,⟨f,λx hx=>ws.way x (mem x hx),?_⟩,k1⟩
   unfold nM;rw[Ug];rfl
noncomputable def vR:=aL 1 3 (qd xR Et Bc)
def Pb{S:List D}(h:1<=S.length):(rd (Cp (some 1) none (.tup S)):DM D)=pure (.tup (S.drop 1)):=bz λM=>by show some (D.tup (cutD S (some ((1:Nat):Int)) none))=_;unfold cutD;rw[HT.sIx_none,HT.sIx_nat,Nat.min_eq_left h,U6 (by simp)]
def Pg{S:List D}(h:1<=S.length):(rd (Cp none (some 1) (.tup S)):DM D)=pure (.tup (S.take 1)):=bz λM=>by show some (D.tup (cutD S none (some ((1:Nat):Int))))=_;unfold cutD;rw[HT.sIx_none,HT.sIx_nat,Nat.min_eq_left h];simp
def Lf{x y:List D}(h:x.length+y.length<=1000000):(rd (cZ (.tup x) (.tup y)):DM D)=pure (.tup (x++y)):=bz λM=>by
 have:dR (x++y)=true:=by unfold dR;exact Tw (by show _<=2^24;rw[T4];lia)
 simp[cZ,Jr,this]
noncomputable def Jx(R:List (List Nat))(l:List Nat)(T:Nat)(d:D):Prop:=
 if 1<bA (aB R) l then d=.tup [.str "no",.tup [nM (iu (aB R) l),nM ((iu (aB R) l).drop 1++(iu (aB R) l).take 1)]]
 else ∃f:Nat->List Nat,(∀x,x<R.length->Wl (aB R) (ga (bZ (aB R) R.length T) 0) T x (f x))/\d=.tup [.str "yes",.tup [nD T,nD (ga (bZ (aB R) R.length T) 0),nM ((List.range R.length).map f)]]
def Nx{R:List (List Nat)}{W T:Nat}{l:List Nat}(wk:WK R W)(hn:R.length<=18)(sh:Shu R l)(hs:cW (LD R)=[bB l])(ht:bA (aB R) l<=1000)
  (hT:bA (aB R) l<=1->T<=900/\(∀t,t<T->bZ (aB R) R.length t=[])/\bZ (aB R) R.length T≠[]) (M0:Mo) :
  Rn (vR [bh R W]) M0 λd M'=>Jx R l T d/\∀(j:Nat) (o:DO),M0[j]?=some o->M'[j]?=some o:=by
 unfold vR qd lY;dsimp only;refine Rn.call rfl ?_;have st:bK 3 [bh R W]=[some (bh R W),none,none]:=rfl;rw[st];refine aH λK hK=>?_
 simp only[bF,aW,aF];refine Rn.bind (Ac wk hn M0) λd M1 ⟨e,k1⟩=>?_
 subst e;rw[hs];have eS:D.tup ([bB l].map tupI)=.tup [nT l]:=by rw[I9];rfl
 rw[eS];simp only[cF,aq];rw[hK];clear hK K;refine cH λK hK hR=>?_
 have len:(rd (gM [.tup [nT l]]):DM D)=pure (nD 1):=rfl;have gt:(rd (lO (nD 1) (.int 1)):DM D)=pure (.bl false):=rfl;simp only[bF,aW,aF,len,gt,cV,Bool.false_eq_true,if_false];rw[hK];clear hK hR K;refine aH λK hK=>?_
 have i0:(rd (bW (.tup [nT l]) (.int 0)):DM D)=pure (nT l):=rfl;simp only[bF,aW,aF,i0];refine Rn.bind (Pn wk hn sh ht M1) λd M2 ⟨e,k2⟩=>?_
 subst e;simp only[cF,aq];rw[hK];clear hK K;refine cH λK hK hR=>?_
 have sl:(iu (aB R) l).length=bA (aB R) l:=by unfold iu;simp
 have gt2:(rd (lO (nD (bA (aB R) l)) (.int 1)):DM D)=pure (.bl (decide (1<bA (aB R) l))):=nZ _ 1;simp only[bF,aW,aF,eG,sl,gt2,cV];have k02:∀(j:Nat) (o:DO),M0[j]?=some o->M2[j]?=some o:=λj o h=>k2 j o (k1 j o h)
 by_cases c:1<bA (aB R) l
 ·rw[Tf (by simpa using c)]
  have l1:1<=((iu (aB R) l).map nT).length:=by rw[S9,sl];lia
  have d1:=Pb l1;have d2:=Pg l1;have d3:=Lf (x:=((iu (aB R) l).map nT).drop 1) (y:=((iu (aB R) l).map nT).take 1) (by simp[sl];lia)
  have eM:nM (iu (aB R) l)=.tup ((iu (aB R) l).map nT):=rfl;have a1:(Eu (D.int 1):DM (Option Int))=pure (some 1):=rfl;simp only[aq,eM,a1,d1,d2,d3];rw[gZ (by simp),aq,gZ (by simp),aq,aq,hR]
  refine Rn.pure ⟨_,rfl,?_,k02⟩;unfold Jx;rw[Tf c];simp[nM]
 ·rw[Ti (by simpa using c),aq,hK]
  obtain⟨a,b,e⟩:=hT (by lia)
  simp only[bF,aW,aF];refine Rn.bind (Nv wk hn a b e M2) λd M3 ⟨⟨f,h1,h2⟩,k3⟩=>?_
  subst h2
  try simp only[aq]
  rw[gZ (by simp),aq]
  refine Rn.pure ⟨_,rfl,?_,λj o h=>k3 j o (k02 j o h)⟩
  unfold Jx;rw[Ti c];exact⟨f,h1,rfl⟩
structure Smn(n:Nat)(l:List Nat):Prop where
 ne:l≠[]
 lt:∀i∈l,i<n
 len:l.length<=100
def Cg{n:Nat}(h:n<=1000):(rd (λM=>(wX [nD n] M).map D.lst):DM D)=pure (.lst ((List.range n).map nD)):=bz λM=>by
 have:wX [nD n] M=some ((List.range n).map nD):=by
  unfold nD;show (if -(2^62)<=(n:Int)/\(n:Int)<=2^20 then some ((List.range (n:Int).toNat).map nD) else none)=_
  rw[Tf ⟨by lia,by lia⟩,Va]
  rfl
 rw[this];rfl
def Lj(a b:Nat):(rd (dg (λz z=>true) (λi j=>.int (i+j)) (nD a) (nD b)):DM D)=pure (nD (a+b)):=bz λM=>by simp[dg,nD]
def Lh{a b:List Nat}(h:a.length+b.length<=1000000):(rd (cZ (.lst (a.map nD)) (.lst (b.map nD))):DM D)=pure (.lst ((a++b).map nD)):=bz λM=>by
 have:dR (a.map nD++b.map nD)=true:=by unfold dR;exact Tw (by show _<=2^24;rw[T4,S9,S9];lia)
 simp[cZ,bw,IW,this]
def Lk(x:Nat)(b:Bool):(rd (λM=>(uc (.lst [nD x]) (nD (if b then 1 else 0)) M).map D.lst):DM D)=pure (.lst ((if b then [x] else []).map nD)):=bz λM=>by cases b<;>rfl
noncomputable def xQ:=aL 2 10 (sy Em)
structure RwsS(M0:Mo)(p q n W:Nat)(i:Nat)(M:Mo):Prop where
 pen:dI p M
 sb:Sb p M0 M
 ex:∃R:List (List Nat),R.length=i/\M[q]?=some (.lst (R.map nT))/\∀r∈R,r.length=n/\r.sum=W
noncomputable def CP(M0:Mo)(p tp q n W kd:Nat)(i:Nat)(δ:aa)(M:Mo):Prop:=(∃z6 z7 z8 z9,δ=[some (.ref p),some (nD tp),some (nD n),some (nD W),some (nD kd),some (.ref q),z6,z7,z8,z9])/\RwsS M0 p q n W i M
structure BalS(M0:Mo)(p q t n:Nat)(L:List (List Nat))(i:Nat)(M:Mo):Prop where
 pen:dI p M
 sb:Sb p M0 M
 atq:M[q]?=some (.lst (L.map nT))
 ex:∃r:List Nat,M[t]?=some (.lst (r.map nD))/\r.length=n/\r.sum=i
noncomputable def Q0(M0:Mo)(p q t n:Nat)(L:List (List Nat))(pre:aa)(i:Nat)(δ:aa)(M:Mo):Prop:=(∃z9,δ=pre++[z9])/\BalS M0 p q t n L i M
def Lr{p tp:Nat}{M:Mo}(hp:dI p M)(h1:1<=tp)(h2:tp<=6):Rn (xQ [.ref p,nD tp]) M λd M'=>∃ (R:List (List Nat)) (W:Nat),d=nM R/\WK R W/\R.length<=tp/\W<=12/\dI p M'/\Sb p M M':=by
 have hpl:=hp.lt;unfold xQ sy mJ;dsimp only;refine Rn.call rfl ?_;have st:bK 10 [D.ref p,nD tp]=[some (.ref p),some (nD tp),none,none,none,none,none,none,none,none]:=rfl;rw[st];refine aH λK hK=>?_
 simp;refine Rn.bind (nG hp (by lia:0<tp) (by lia)) λd1 M1 ⟨t1,g1,e1,hp1,s1⟩=>?_
 subst e1;have ml:fX [.int 1,.int 2,.int 3,.int 4,.int 6,.int 12]=pure (.lst ([1,2,3,4,6,12].map nD)):=eX (by simp)
 simp only[O5,aq,ml];have d6:=nG (m:=6) hp1 (by decide) (by decide)
 refine Rn.bind d6 λd2 M2 ⟨t2,g2,e2,hp2,s2⟩=>?_
 subst e2;have ht2:t2<[1,2,3,4,6,12].length:=by simpa using g2
 rw[zK ht2];have hW:1<=ga [1,2,3,4,6,12] t2/\ga [1,2,3,4,6,12] t2<=12:=by
  have:=d8 ht2;generalize ga [1,2,3,4,6,12] t2=x at this;simp at this
  lia
 revert hW;generalize ga [1,2,3,4,6,12] t2=W;intro hW;have d7:=nG (m:=7) hp2 (by decide) (by decide)
 simp only[aq];refine Rn.bind d7 λd3 M3 ⟨kd,g3,e3,hp3,s3⟩=>?_
 subst e3;rw[hK];clear hK K d6 d7 ml ht2;have sb3:Sb p M M3:=s1.trans (s2.trans s3);have hn1:1<=t1+1:=by lia
 have hn2:t1+1<=tp:=by lia
 revert hn1 hn2;generalize t1+1=n;intro n1 n2
 -- the list of rows
 refine aH λK hK=>?_
 simp;refine Rn.gP (by simp) ?_
 have pq:p≠M3.length:=by have:=hp3.lt;lia
 have ql:M.length<=M3.length:=sb3.le;have st0:RwsS M p M3.length n W 0 (M3++[.lst []]):=⟨hp3.sb (q:=M3.length) Sb.push pq,Sb.new (p:=p) (.inr sb3.le) ql Sb.push sb3,[],rfl,by simp,by simp⟩
 rw[hK];clear hK K hp1 hp2 hp3 s1 s2 s3;revert st0 pq ql;generalize M3.length=q;generalize M3++[DO.lst []]=M4;intro pq ql st0;refine aH λK hK=>?_
 simp[dN (n:=n) (by lia),fF]
 refine Rn.bind (cu (CP M p tp q n W kd) _ 0 _ _ ⟨⟨_,_,_,_,rfl⟩,st0⟩ (λx d δ M5 hx hI=>?_)) (λr M5 hI=>?_)
 rotate_left
 ·obtain⟨δ',rfl,⟨z6,z7,z8,z9,rfl⟩,hp5,sb5,R,lR,at5,hR⟩:=hI;rw[hK];clear hK K;rw[S9,T9,Ub]at lR;simp;refine Rn.bindRd (nM R) (by show (bw (.ref q) M5).map _=_;simp only[bw,at5];rfl) ?_
  exact Rn.pure ⟨_,rfl,R,rfl,W,⟨by lia,by lia,λr hr=>by rw[(hR r hr).1,lR],λr hr=>(hR r hr).2,hW.1⟩,by lia,hW.2,hp5,sb5⟩
 clear hK K;obtain⟨⟨z6,z7,z8,z9,rfl⟩,hp5,sb5,R,lR,at5,hR⟩:=hI;obtain⟨hx',rfl⟩:=uZ hx;rw[Ub]at lR ⊢
 rw[fD,aq];have hQ:∀δ' M',CP M p tp q n W kd (x+1) δ' M'->(λ(r:Fl) (M':Mo)=>∃δ',r=.nx δ'/\CP M p tp q n W kd (x+1) δ' M') (.nx δ') M':=λδ' M' h=>⟨δ',rfl,h⟩
 revert hQ;generalize (λ(r:Fl) (M':Mo)=>∃δ',r=.nx δ'/\CP M p tp q n W kd (x+1) δ' M')=Q
 intro hQ
 -- all places
 refine aH λK hK=>?_
 simp[Cg (n:=n) (by lia)]
 rw[hK];clear hK K;have som0:Smn n (List.range n):=⟨by simp;lia,λi hi=>Th.mp hi,by simp;lia⟩
 -- 1
 refine aH λK hK=>?_
 suffices H:∀(l:List Nat) (M6:Mo),Smn n l->dI p M6->Sb p M5 M6->Rn (K (.nx [some (.ref p),some (nD tp),some (nD n),some (nD W),some (nD kd),some (.ref q),some (nD x),some (.lst (l.map nD)),z8,z9])) M6 Q by
  by_cases h:kd=1
  ·have e:(rd (cX (nD kd) (.int 1)):DM D)=pure (.bl true):=by rw[show D.int 1=nD 1 from rfl,cT,h];rfl
   simp[e];refine Rn.bind (nG hp5 (by lia:0<n) (by lia)) λd1 M7 ⟨u1,g1,e1,hp7,s7⟩=>?_
   refine Rn.bind (nG hp7 (by lia:0<n) (by lia)) λd2 M8 ⟨u2,g2,e2,hp8,s8⟩=>?_
   subst e1 e2;have ml:fX [nD u1,nD u2]=pure (.lst ([u1,u2].map nD)):=eX (by simp)
   simp only[ml,aq];exact H [u1,u2] M8 ⟨by simp,λi hi=>by simp at hi;lia,by simp⟩ hp8 (s7.trans s8)
  ·have e:(rd (cX (nD kd) (.int 1)):DM D)=pure (.bl false):=by rw[show D.int 1=nD 1 from rfl,cT,Uq h]
   simp[e];exact H _ _ som0 hp5 Sb.refl
 intro l1 M6_1 som1 hp6_1 sb6_1;rw[hK];clear hK K
 -- 2
 refine aH λK hK=>?_
 suffices H:∀(l:List Nat) (M6:Mo),Smn n l->dI p M6->Sb p M5 M6->Rn (K (.nx [some (.ref p),some (nD tp),some (nD n),some (nD W),some (nD kd),some (.ref q),some (nD x),some (.lst (l.map nD)),z8,z9])) M6 Q by
  by_cases h:kd=2
  ·have e:(rd (cX (nD kd) (.int 2)):DM D)=pure (.bl true):=by rw[show D.int 2=nD 2 from rfl,cT,h];rfl
   have ml:fX [nD ((x+1)%n)]=pure (.lst ([(x+1)%n].map nD)):=eX (by simp)
   have hm:=UV (x+1) (show n > 0 by lia)
   simp[e,rN,fM (a:=x+1) (b:=n) (by lia),ml]
   exact H [(x+1)%n] _ ⟨by simp,λi hi=>by simp at hi;lia,by simp⟩ hp6_1 sb6_1
  ·have e:(rd (cX (nD kd) (.int 2)):DM D)=pure (.bl false):=by rw[show D.int 2=nD 2 from rfl,cT,Uq h]
   simp[e];exact H _ _ som1 hp6_1 sb6_1
 intro l2 M6_2 som2 hp6_2 sb6_2;rw[hK];clear hK K
 -- 3
 refine aH λK hK=>?_
 suffices H:∀ (l:List Nat) (M6:Mo),Smn n l->dI p M6->Sb p M5 M6->Rn (K (.nx [some (.ref p),some (nD tp),some (nD n),some (nD W),some (nD kd),some (.ref q),some (nD x),some (.lst (l.map nD)),z8,z9])) M6 Q by
  by_cases h:kd=3
  ·have e:(rd (cX (nD kd) (.int 3)):DM D)=pure (.bl true):=by rw [show D.int 3=nD 3 from rfl,cT,h];rfl
   have md:∀y:Nat,(rd (mF (nD y) (.int 2)):DM D)=pure (nD (y%2)):=λy=>fM (b:=2) (by decide)
   have e1:(rd (cX (nD n) (.int 1)):DM D)=pure (.bl (decide (n=1))):=cT n 1;have ml:fX [nD x]=pure (.lst [nD x]):=eX (by simp)
   have fl:((List.range n).filter λy=>!decide (y%2=x%2)).length<=n:=by
    have:=Uu (λy=>!decide (y%2=x%2)) (List.range n)
    rwa [T9]at this
   have il:(if decide (n=1)=true then [x] else []).length<=1:=by split<;>simp
   have ad:=Lh (a:=(List.range n).filter λy=>!decide (y%2=x%2)) (b:=if decide (n=1)=true then [x] else []) (by lia)
   have mu:=Lk x (decide (n=1));have ge:=H (((List.range n).filter λy=>!decide (y%2=x%2))++if decide (n=1)=true then [x] else []) M6_2 ⟨λz=>?_,λi hi=>?_,?_⟩ hp6_2 sb6_2
   ·simp only[cF,bF,aW,aF,e,cV,if_true,dN (n:=n) (by lia),n8,aO,b8,List.length_cons,List.length_nil,List.map_cons,List.map_nil,List.replicate_succ,List.replicate_zero,List.cons_append,List.nil_append,Option.getD_some]
    rw[aK nD (λy=>!decide (y%2=x%2)) nD (by simp;lia) (λy hy=>by simp[md,qD]) (λy hy w=>by simp)]
    simp only[cF,aq,zM,ml,e1,Gh,mu,ad];exact ge
   ·rw [List.append_eq_nil_iff] at z
    by_cases h1:n=1
    ·rw[Tw h1,Tf rfl]at z;cases z.2
    ·have m:(if x % 2=0 then 1 else 0)∈(List.range n).filter λy=>!decide (y % 2=x % 2):=by
      rw[Tv,Th];constructor
      ·split<;>lia
      ·by_cases h2:x%2=0
       ·simp[h2]
       ·have:x%2=1:=by lia
        simp[this]
     rw[z.1]at m;cases m
   ·rcases TV.mp hi with h2 | h2
    ·exact Th.mp (Tv.mp h2).1
    ·split at h2
     ·simp at h2;lia
     ·cases h2
   ·rw[T4];lia
  ·have e:(rd (cX (nD kd) (.int 3)):DM D)=pure (.bl false):=by rw[show D.int 3=nD 3 from rfl,cT,Uq h]
   simp[e];exact H _ _ som2 hp6_2 sb6_2
 intro l3 M6_3 som3 hp6_3 sb6_3;rw[hK];clear hK K
 -- 4
 refine aH λK hK=>?_
 suffices H:∀ (l:List Nat) (M6:Mo),Smn n l->dI p M6->Sb p M5 M6->Rn (K (.nx [some (.ref p),some (nD tp),some (nD n),some (nD W),some (nD kd),some (.ref q),some (nD x),some (.lst (l.map nD)),z8,z9])) M6 Q by
  by_cases h:kd=4
  ·have e:(rd (cX (nD kd) (.int 4)):DM D)=pure (.bl true):=by rw[show D.int 4=nD 4 from rfl,cT,h];rfl
   have dv:∀y:Nat,(rd (uG (nD y) (.int 2)):DM D)=pure (nD (y / 2)):=λy=>zH (b:=2) (by decide) (by decide)
   have fl:((List.range n).filter λy=>decide (y / 2=x / 2)).length<=n:=by
    have:=Uu (λy=>decide (y / 2=x / 2)) (List.range n)
    rwa [T9]at this
   simp only[cF,bF,aW,aF,e,cV,if_true,dN (n:=n) (by lia),n8,aO,b8,List.length_cons,List.length_nil,List.map_cons,List.map_nil,List.replicate_succ,List.replicate_zero,List.cons_append,List.nil_append,Option.getD_some]
   rw[aK nD (λy=>decide (y / 2=x / 2)) nD (by simp;lia) (λy hy=>by simp[dv,cT]) (λy hy w=>by simp)]
   simp only[cF,aq,zM];refine H _ _ ⟨λz=>?_,λi hi=>Th.mp (Tv.mp hi).1,by lia⟩ hp6_3 sb6_3
   have m:x∈(List.range n).filter λy=>decide (y / 2=x / 2):=by rw[Tv,Th];exact⟨hx',by simp⟩
   rw[z]at m;cases m
  ·have e:(rd (cX (nD kd) (.int 4)):DM D)=pure (.bl false):=by rw[show D.int 4=nD 4 from rfl,cT,Uq h]
   simp[e];exact H _ _ som3 hp6_3 sb6_3
 intro l4 M6_4 som4 hp6_4 sb6_4;rw[hK];clear hK K
 -- 5
 refine aH λK hK=>?_
 suffices H:∀(l:List Nat) (M6:Mo),Smn n l->dI p M6->Sb p M5 M6->Rn (K (.nx [some (.ref p),some (nD tp),some (nD n),some (nD W),some (nD kd),some (.ref q),some (nD x),some (.lst (l.map nD)),z8,z9])) M6 Q by
  by_cases h:kd=5
  ·have e:(rd (cX (nD kd) (.int 5)):DM D)=pure (.bl true):=by rw[show D.int 5=nD 5 from rfl,cT,h];rfl
   simp[e,rN,Cg (n:=x+1) (by lia)]
   exact H (List.range (x+1)) _ ⟨by simp,λi hi=>by have:=Th.mp hi;lia,by simp;lia⟩ hp6_4 sb6_4
  ·have e:(rd (cX (nD kd) (.int 5)):DM D)=pure (.bl false):=by rw[show D.int 5=nD 5 from rfl,cT,Uq h]
   simp[e];exact H _ _ som4 hp6_4 sb6_4
 intro l5 M6_5 som5 hp6_5 sb6_5;rw[hK];clear hK K
 -- the row
 have q6:q<M6_5.length:=(S7.mp (sb6_5.at (λz=>pq z.symm) at5)).1
 have at6:=sb6_5.at (λz=>pq z.symm) at5
 have sb6:Sb p M M6_5:=sb5.trans sb6_5;have m0:fX [.int 0]=pure (.lst [.int 0]):=eX (by simp)
 refine aH λK hK=>?_
 simp[m0];refine I8 (by lia) ?_
 have pt:p≠M6_5.length:=by have:=hp6_5.lt;lia
 have qt:q≠M6_5.length:=by lia
 have tl:M.length<=M6_5.length:=sb6.le;have bs0:BalS M p q M6_5.length n R 0 (M6_5++[.lst ((List.replicate n 0).map nD)]):=⟨hp6_5.sb (q:=M6_5.length) Sb.push pt,Sb.new (p:=p) (.inr sb6.le) tl Sb.push sb6,by rw[Tq q6];exact at6,List.replicate n 0,by simp,by simp,by simp⟩
 rw[hK];clear hK K;revert bs0 pt qt tl;generalize M6_5.length=t;generalize M6_5++[DO.lst ((List.replicate n 0).map nD)]=M7;intro pt qt tl bs0
 -- ball by ball
 refine aH λK hK=>?_
 simp[dN (n:=W) (by lia),fF]
 refine Rn.bind (cu (Q0 M p q t n R [some (.ref p),some (nD tp),some (nD n),some (nD W),some (nD kd),some (.ref q),some (nD x),some (.lst (l5.map nD)),some (.ref t)]) _ 0 _ _ ⟨⟨z9,rfl⟩,bs0⟩ (λj d δ M8 hj hI=>?_)) (λr M8 hI=>?_)
 ·obtain⟨⟨z9,rfl⟩,hp8,sb8,atq8,r,at8,lr,sr⟩:=hI;obtain⟨hj',rfl⟩:=uZ hj;rw[Ub]at sr ⊢
  rw[fD,aq];have ln:(rd (gM [.lst (l5.map nD)]):DM D)=pure (nD l5.length):=by simp[nD]
  have l0:0<l5.length:=Vf.mpr som5.ne;simp[ln];refine Rn.bind (nG hp8 l0 (by have:=som5.len;lia)) λd9 M9 ⟨u,g9,e9,hp9,s9⟩=>?_
  subst e9;simp only[zK g9,aq];have ul:ga l5 u<r.length:=by rw[lr];exact som5.lt _ (d8 g9)
  have at9:=s9.at (λz=>pt z.symm) at8
  have atq9:=s9.at (λz=>pq z.symm) atq8
  have t9:=(S7.mp at9).1;generalize ga l5 u=v at ul;refine Rn.bindRd (nD (ga r v)) (by
   show (if 0<=(v:Int) then (bw (.ref t) M9).bind λl=>atI l (v:Int) else none)=_
   rw[Tf (by lia)]
   simp only[bw,at9,Option.bind_some];exact gJ (by rw[Tp,Tc ul,lN ul];rfl)) ?_
  have ia:(rd (dg (λw w=>true) (λi j=>.int (i+j)) (nD (ga r v)) (.int 1)):DM D)=pure (nD (ga r v+1)):=Lj (ga r v) 1
  simp[ia];refine Rn.run (vQ at9 (by rw[S9];exact ul)) ?_
  refine Rn.pure ⟨_,rfl,⟨_,rfl⟩,hp9.sb (q:=t) Sb.set pt,Sb.new (p:=p) (.inr (sb8.trans s9).le) tl Sb.set (sb8.trans s9),by rw[U5 (λz=>qt z.symm)];exact atq9,r.set v (ga r v+1),?_,by rw[Wx];exact lr,?_⟩
  ·rw[Uy t9,List.map_set]
  ·have:=Lw (l:=r) (i:=v) (v:=ga r v+1) ul
   lia
 obtain⟨δ',rfl,⟨z9,rfl⟩,hp8,sb8,atq8,r,at8,lr,sr⟩:=hI;rw[S9,T9,Ub]at sr;rw[hK];clear hK K;simp;refine Rn.bindRd _ (by simp only[bw,atq8];rfl) ?_
 refine Rn.bindRd (nT r) (by show (bw (.ref t) M8).map _=_;simp only[bw,at8];rfl) ?_
 have q8:=(S7.mp atq8).1;refine Rn.run (vz atq8 (by rw[S9];lia)) ?_
 refine Rn.pure (hQ _ _ ⟨⟨_,_,_,_,rfl⟩,hp8.sb (q:=q) Sb.set pq,Sb.new (p:=p) (.inr sb8.le) ql Sb.set sb8,R++[r],by simp[lR],by rw[Uy q8];simp,λr' hr'=>?_⟩)
 rcases TV.mp hr' with z | z
 ·exact hR r' z
 ·rw[TJ.mp z];exact⟨lr,sr⟩
end K
namespace K
open PySem L2 L3 N10 LB
def Rch.trans{N:List (List Nat)}{x y z:Nat}(h:Rch N x y)(k:Rch N y z):Rch N x z:=by
 induction k with
 |here=>exact h
 |step _ m ih=>exact .step ih m
theorem Nu{α:Type}{p q:α->Bool}:∀ {l:List α},(∀ a∈l,p a=true->q a=true)->(l.filter p).length<=(l.filter q).length
 |[],_=>Td _
 | a::l,h=>by
   have ih:=Nu (l:=l) λb hb=>h b (.tail _ hb)
   have ha:=h a (.head _);cases hp:p a with
   |true=>rw[Vt hp,Vt (ha hp)];simp;exact ih
   |false=>
     rw[Wt (by simp[hp])]
     cases hq:q a with
     |true=>rw[Vt hq];simp;lia
     |false=>rw[Wt (by simp[hq])];exact ih
theorem Nr{α:Type}{p q:α->Bool}:∀ {l:List α},(∀ a∈l,p a=true->q a=true)->(l.filter q).length<=(l.filter p).length->l.filter p=l.filter q
 |[],_,_=>rfl
 | a::l,h,hl=>by
   have h':∀b∈l,p b=true->q b=true:=λb hb=>h b (.tail _ hb)
   have ha:=h a (.head _);have le:=Nu (l:=l) h';cases hp:p a with
   |true=>
     rw[Vt hp,Vt (ha hp)]at hl ⊢
     simp at hl;rw[Nr h' hl]
   | false=>
     rw[Wt (p:=p) (by simp[hp])]at hl ⊢
     cases hq:q a with
     |true=>rw[Vt (p:=q) hq]at hl;simp at hl;lia
     |false=>
       rw[Wt (p:=q) (by simp[hq])]at hl ⊢
       exact Nr h' hl
def wU{R:List (List Nat)}{x:Nat}(hx:x<R.length):gr (LD R) x=(List.range R.length).filter (rc (aB R) x):=by
 rw[je (by rw[mZ];exact hx)]
 simp[LD,gK]
def xT{R:List (List Nat)}{x y:Nat}(hx:x<R.length):y∈gr (LD R) x ↔ y<R.length/\Rch (aB R) x y:=by rw[wU hx,Tv,Th,qF]
set_option tactic.hygienic true in
def J7{t:List Int}{ts:List (List Int)}(h:t∈ts):t∈qg ts:=by
 have key:∀ (ts acc:List (List Int)),t∈acc\/t∈ts->t∈ts.foldl iz acc:=by
  intro ts;induction ts with
  |nil=>intro acc h;exact h.elim id λz=>by cases z
  | cons u ts ih=>
    intro acc h;refine ih (iz acc u) ?_;unfold iz;rcases h with h | h
    ·split
     ·exact .inl h
     ·exact .inl (Vr _ h)
    ·rcases Tt.mp h with rfl | h
     ·split
      ·rename_i hm;exact .inl hm
      ·exact .inl (T7 _ (TJ.mpr rfl))
     ·exact .inr h
 exact key ts [] (.inr h)
theorem Ew{L:List (List Nat)}:∀ {l:List (List Int)},(∀ t∈l,t∈L.map bB)->∃ Y:List (List Nat),l=Y.map bB/\∀ y∈Y,y∈L
 |[],_=>⟨[],rfl,λy h=>by cases h⟩
 | t::l,h=>by
   obtain⟨Y,e,k⟩:=Ew (l:=l) λx hx=>h x (.tail _ hx)
   obtain⟨y,hy,rfl⟩:=Uh.mp (h t TY);exact⟨y::Y,by rw[e];rfl,λz hz=>by
    rcases Tt.mp hz with rfl | hz
    ·exact hy
    ·exact k z hz⟩
def J8{t:List Int}{ts:List (List Int)}(h:t∈qg ts):t∈ts:=by
 have key:∀ (ts acc:List (List Int)),t∈ts.foldl iz acc->t∈acc\/t∈ts:=by
  intro ts;induction ts with
  |nil=>intro acc h;exact .inl h
  | cons u ts ih=>
    intro acc h;rcases ih (iz acc u) h with z | z
    ·unfold iz at z;split at z
     ·exact .inl z
     ·rcases TV.mp z with z | z
      ·exact .inl z
      ·exact .inr (by rw[TJ.mp z];exact TY)
    ·exact .inr (.tail _ z)
 rcases key ts [] h with z | z
 ·cases z
 ·exact z
theorem tQ{d:Nat}:∀ {l:List Nat}{a:Nat},d ∣ l.foldl Nat.gcd a ↔ d ∣ a/\∀ x∈l,d ∣ x
 |[],a=>by simp
 |b::l,a=>by rw[Wz,tQ,Nat.dvd_gcd_iff];simp[and_assoc]
def tX{P:Nat->Prop}:∀ {k:Nat},P k->∃ j,P j/\∀ i,P i->j<=i:=by
 intro k;induction k using Nat.strongRecOn with
 | ind k ih=>
   intro h;by_cases c:∃j,j<k/\P j
   ·obtain⟨j,h1,h2⟩:=c;exact ih j h1 h2
   ·exact⟨k,h,λi hi=>XR λq=>c ⟨i,q,hi⟩⟩
def Rch.wy{N:List (List Nat)}{s x:Nat}(h:Rch N s x):∃ k,Wy N s k x:=by
 induction h with
 |here=>exact⟨0,.here⟩
 |step _ m ih=>obtain⟨k,w⟩:=ih;exact⟨_,.step w m⟩
def gf{N:List (List Nat)}{s x:Nat}(h:Rch N s x):Wy N s (dst N s x) x/\∀j,Wy N s j x->dst N s x<=j:=by obtain⟨k,w⟩:=h.wy;exact Classical.epsilon_spec (tX (P:=λk=>Wy N s k x) w)
def tO{N:List (List Nat)}{s:Nat}:dst N s s=0:=Nat.le_zero.mp ((gf .here).2 0 .here)
def tM{N:List (List Nat)}{s x y:Nat}(h:Rch N s x)(m:y∈gr N x):dst N s y<=dst N s x+1:=(gf (.step h m)).2 _ (.step (gf h).1 m)
def rP{a b g:Nat}(h:b<=a):g ∣ a-b ↔ a%g=b%g:=by
 rw[Nat.dvd_iff_mod_eq_zero];constructor
 ·intro e;obtain⟨c,hc⟩:=XN e;rw[show a=b+g*c by lia,Nat.add_mul_mod_self_left]
 ·exact Nat.sub_mod_eq_zero_of_mod_eq
theorem Wy.times{N:List (List Nat)}{x k:Nat}(w:Wy N x k x):∀i,Wy N x (k*i) x
 |0=>.here
 |i+1=>by rw[Nat.mul_succ];exact (w.times i).app w
structure Sht(R:List (List Nat))(l:List Nat):Prop where
 ne:l≠[]
 lt:∀x∈l,x<R.length
 up:l.Pairwise (·< ·)
 mem:l∈LD R
 eq:∀x∈l,gr (LD R) x=l
def Sht.of{R:List (List Nat)}{l:List Nat}(h1:l∈LD R)(h2:fO (LD R) l=true):Sht R l:=by
 obtain⟨a,b,c⟩:=pX h1;refine⟨a,c,?_,h1,λx hx=>Ui (U3.mp h2 x hx)⟩
 obtain⟨x,hx,rfl⟩:=List.getElem_of_mem h1;have hx':x<R.length:=by rwa [mZ]at hx
 rw[<-je hx,wU hx'];exact WT Xb Vk
def Sht.con{R:List (List Nat)}{l:List Nat}(s:Sht R l){x y:Nat}(hx:x∈l):y∈l ↔ y<R.length/\Rch (aB R) x y:=by rw[<-xT (s.lt x hx),s.eq x hx]
def Sht.cl{R:List (List Nat)}{W:Nat}{l:List Nat}(s:Sht R l)(wk:WK R W){x y:Nat}(hx:x∈l)(h:y∈gr (aB R) x):y∈l:=(s.con hx).mpr ⟨gR wk x y h,.step .here h⟩
def Sht.wyl{R:List (List Nat)}{W:Nat}{l:List Nat}(s:Sht R l)(wk:WK R W){x y k:Nat}(hx:x∈l)(w:Wy (aB R) x k y):y∈l:=by
 induction w with
 |here=>exact hx
 |step _ m ih=>exact s.cl wk ih m
def Sht.hd{R:List (List Nat)}{l:List Nat}(s:Sht R l):ga l 0∈l:=d8 (Vf.mpr s.ne)
def Sht.len{R:List (List Nat)}{l:List Nat}(s:Sht R l):l.length<=R.length:=(pX s.mem).2.1
def Sht.in_{R:List (List Nat)}{l:List Nat}(s:Sht R l):bB l∈cW (LD R):=(iV _).1.mem_iff.mpr (J7 (List.mem_map_of_mem (Tv.mpr ⟨s.mem,U3.mpr λx hx=>Tw (s.eq x hx)⟩)))
def Sht.shu{R:List (List Nat)}{W:Nat}{l:List Nat}(s:Sht R l)(wk:WK R W):Shu R l:=
 ⟨s.ne,s.lt,s.up,Ue s.len wk.n25,s.in_,λx hx=>((s.con s.hd).mp hx).2⟩
def Mi{a b:List Nat}(h:bB a=bB b):a=b:=by have:=congrArg (List.map Int.toNat) h;simpa[bB,Function.comp_def] using this
def wH{R:List (List Nat)}{x:Nat}(hx:x<R.length):∃l,Sht R l/\∃y∈l,Rch (aB R) x y:=by
 obtain⟨k,⟨y,hy,hr,rfl⟩,hm⟩:=tX (P:=λk=>∃y,y<R.length/\Rch (aB R) x y/\k=(gr (LD R) y).length) ⟨x,hx,.here,rfl⟩
 have yin:y∈gr (LD R) y:=(xT hy).mpr ⟨hy,.here⟩;refine⟨gr (LD R) y,Sht.of (gr_mem (by rw[mZ];exact hy)) ?_,y,yin,hr⟩
 unfold fO;rw[U3];intro z hz;obtain⟨hz1,hz2⟩:=(xT hy).mp hz;refine Tw ?_;have hl:(gr (LD R) y).length<=(gr (LD R) z).length:=hm _ ⟨z,hz1,hr.trans hz2,rfl⟩;rw[wU hy,wU hz1]at hl ⊢
 exact Nr (λa w ha=>qF.mpr (hz2.trans (qF.mp ha))) hl
def Sht.one{R:List (List Nat)}{l l':List Nat}(h:cW (LD R)=[bB l])(s:Sht R l'):l'=l:=by have:=s.in_;rw[h,TJ]at this;exact Mi this
def Ex{N:List (List Nat)}{n s x:Nat}(hN:N.length=n)(hn:n<=25)(hs:s<n)(hg:∀x,∀y∈gr N x,y<n)(h:Rch N s x):∃k,k<n/\Wy N s k x:=by obtain⟨d,M',_,_,ks,vs,_,hl,ds,nd,hr,lt,_⟩:=uI hN hn hs hg [];have hx:=(hr x).mpr h;have i1:=ds.ix x hx;have i2:=W3 hx;have i3:=gj nd lt;exact⟨_,by lia,ds.way x hx⟩
def WK.next{R:List (List Nat)}{W x:Nat}(wk:WK R W)(hx:x<R.length):∃ y,y∈gr (aB R) x:=by
 have sm:=wk.sum _ (gr_mem hx);have w1:=wk.w1;rw[kh hx];rcases Classical.em (∃y,y<(gr R x).length/\0<ga (gr R x) y) with ⟨y,h1,h2⟩ | h
 ·exact⟨y,Tv.mpr ⟨Th.mpr h1,Tw h2⟩⟩
 ·have:(gr R x).sum=0:=by
   have z:∀v∈gr R x,v=0:=λv hv=>by
    obtain⟨i,hi,rfl⟩:=List.getElem_of_mem hv;rcases Xp (gr R x)[i] with q | q
    ·exact q
    ·exact absurd ⟨i,hi,by rw[lN hi];exact q⟩ h
   have key:∀l:List Nat,(∀v∈l,v=0)->l.sum=0:=by
    intro l;induction l with
    |nil=>intro _;rfl
    |cons a l ih=>intro h;rw[Yz,h a (by simp),ih λv hv=>h v (by simp[hv])]
   exact key _ z
  lia
def Sht.round{R:List (List Nat)}{W:Nat}{l:List Nat}(s:Sht R l)(wk:WK R W){x:Nat}(hx:x∈l):∃k,1<=k/\k<=R.length/\Wy (aB R) x k x:=by obtain⟨y,hy⟩:=wk.next (s.lt x hx);have hyl:=s.cl wk hx hy;obtain⟨k,hk,w⟩:=Ex (eO R) wk.n25 (s.lt y hyl) (gR wk) ((s.con hyl).mp hx).2;exact⟨k+1,by lia,by lia,.cons hy w⟩
def Sht.edge{R:List (List Nat)}{W:Nat}{l:List Nat}(s:Sht R l)(wk:WK R W){x y:Nat}(hx:x∈l)(h:y∈gr (aB R) x):(dst (aB R) (ga l 0) x+1)%bA (aB R) l=dst (aB R) (ga l 0) y%bA (aB R) l:=by have rx:=((s.con s.hd).mp hx).2;rw[<-rP (tM rx h)];unfold bA;exact (tQ.mp (Nat.dvd_refl _)).2 _ (X4.mpr ⟨x,hx,Uh.mpr ⟨y,h,rfl⟩⟩)
def Sht.mod{R:List (List Nat)}{W:Nat}{l:List Nat}(s:Sht R l)(wk:WK R W){x y k:Nat}(hx:x∈l)(w:Wy (aB R) x k y):(dst (aB R) (ga l 0) x + k) % bA (aB R) l=dst (aB R) (ga l 0) y % bA (aB R) l:=by
 induction w with
 |here=>rfl
 | @step k y z w m ih=>rw[<-s.edge wk (s.wyl wk hx w) m,<-Nat.add_assoc,V6,ih,<-V6]
def Sht.tn{R:List (List Nat)}{W:Nat}{l:List Nat}(s:Sht R l)(wk:WK R W):1<=bA (aB R) l/\bA (aB R) l<=R.length:=by
 obtain⟨k,h1,h2,w⟩:=s.round wk s.hd;have:=s.mod wk s.hd w;rw[tO,Ub,Nat.zero_mod]at this;have d:=XN this;have p:=Nat.pos_of_dvd_of_pos d h1;have q:=Nat.le_of_dvd h1 d
 lia
def J4{R:List (List Nat)}{W:Nat}{l l':List Nat}(wk:WK R W)(s:Sht R l)(s':Sht R l')(h:l≠l')(t:Nat):bZ (aB R) R.length t=[]:=by
 refine List.eq_nil_iff_forall_not_mem.mpr λz hz=>h ?_
 have all:∀x,x<R.length->Wy (aB R) x t z:=λx hx=>(dH.mp (Vg.mp (U3.mp (Tv.mp hz).2 x (Th.mpr hx)))).2
 have z1:=s.wyl wk s.hd (all _ (s.lt _ s.hd));have z2:=s'.wyl wk s'.hd (all _ (s'.lt _ s'.hd));rw[<-s.eq z z1,s'.eq z z2]
def HW{R:List (List Nat)}{W:Nat}{l:List Nat}(wk:WK R W)(s:Sht R l)(h:1<bA (aB R) l)(t:Nat):bZ (aB R) R.length t=[]:=by
 refine List.eq_nil_iff_forall_not_mem.mpr λz hz=>?_
 have all:∀x,x<R.length->Wy (aB R) x t z:=λx hx=>(dH.mp (Vg.mp (U3.mp (Tv.mp hz).2 x (Th.mpr hx)))).2
 obtain⟨y,hy⟩:=wk.next (s.lt _ s.hd);have yl:=s.cl wk s.hd hy;have a1:=s.mod wk s.hd (all _ (s.lt _ s.hd));have a2:=s.mod wk yl (all _ (s.lt _ yl));have a3:=s.edge wk s.hd hy;rw[tO,Ub]at a1 a3;have a4:(1+t)%bA (aB R) l=t%bA (aB R) l:=by rw[a1,<-a2,V6,a3,<-V6]
 have a5:=(rP (a:=1+t) (b:=t) (g:=bA (aB R) l) (by lia)).mpr a4
 rw[show 1+t-t=1 by lia]at a5
 have:=Nat.le_of_dvd (by decide) a5
 lia
structure eU(g:Nat)(P:Nat->Prop):Prop where
 zero:P 0
 add:∀a b,P a->P b->P (a+b)
 mod:∀a b,a%g=b%g->P a->P b
theorem eU.mul{g:Nat}{P:Nat->Prop}(r:eU g P){a:Nat}(h:P a):∀c,P (c*a)
 |0=>by rw[Nat.zero_mul];exact r.zero
 |c+1=>by rw[Nat.succ_mul];exact r.add _ _ (r.mul h c) h
def eU.sub{g:Nat}{P:Nat->Prop}(r:eU g P)(hg:1<=g){a b:Nat}(ha:P (a+b))(hb:P b):P a:=by
 refine r.mod (a+b+(g-1)*b) a ?_ (r.add _ _ ha (r.mul hb _));have e:a+b+(g-1)*b=a+g*b:=by
  obtain⟨c,rfl⟩:∃c,g=c+1:=⟨g-1,by lia⟩
  rw[Nat.add_sub_cancel,Nat.succ_mul];lia
 rw[e,Nat.add_mul_mod_self_left]
theorem eU.gcd{g:Nat}{P:Nat->Prop}(r:eU g P)(hg:1<=g):∀ a b:Nat,P a->P b->P (Nat.gcd a b):=by
 intro a;induction a using Nat.strongRecOn with
 | ind a ih=>
   intro b ha hb;rcases Xp a with rfl | h
   ·rw[Nat.gcd_zero_left];exact hb
   ·rw[Nat.gcd_rec];refine ih (b%a) (UV _ h) a ?_ ha;refine r.sub hg (b:=b / a*a) ?_ (r.mul ha _);rw[Nat.mul_comm,Nat.mod_add_div];exact hb
theorem eU.fold{g:Nat}{P:Nat->Prop}(r:eU g P)(hg:1<=g):∀(l:List Nat) (a:Nat),P a->(∀x∈l,P x)->P (l.foldl Nat.gcd a)
 |[],a,h,_=>h
 |b::l,a,h,k=>r.fold hg l _ (r.gcd hg a b h (k b (by simp))) λx hx=>k x (by simp[hx])
def Sht.rem{R:List (List Nat)}{W g:Nat}{l:List Nat}(s:Sht R l)(wk:WK R W)(hg:1<=g)(ht:bA (aB R) l=1)(t:Nat):∃a,Wy (aB R) (ga l 0) a (ga l 0)/\a%g=t%g:=by
 have r:eU g λt=>∃a,Wy (aB R) (ga l 0) a (ga l 0)/\a%g=t%g:=⟨⟨0,.here,rfl⟩,λu v ⟨a,h1,h2⟩ ⟨b,h3,h4⟩=>⟨a+b,h1.app h3,by rw[V6,h2,h4,<-V6]⟩,λu v e ⟨a,h1,h2⟩=>⟨a,h1,by rw[h2,e]⟩⟩
 have one:∃a,Wy (aB R) (ga l 0) a (ga l 0)/\a%g=bA (aB R) l%g:=by
  refine r.fold hg _ 0 r.zero λv hv=>?_
  obtain⟨x,hx,hv⟩:=X4.mp hv;obtain⟨y,hy,rfl⟩:=Uh.mp hv;have rx:=((s.con s.hd).mp hx).2;have yl:=s.cl wk hx hy;have ry:=((s.con s.hd).mp yl).2;obtain⟨q,wq⟩:=((s.con yl).mp s.hd).2.wy;have le:=tM rx hy;refine r.sub hg (b:=dst (aB R) (ga l 0) y+q) ⟨dst (aB R) (ga l 0) x+1+q,(Wy.step (gf rx).1 hy).app wq,?_⟩ ⟨_,(gf ry).1.app wq,rfl⟩;congr 1
  lia
 rw[ht]at one;have:=r.mul one t
 rwa [Nat.mul_one]at this
def Wy.fn{N:List (List Nat)}{x y k:Nat}(w:Wy N x k y):∃ f:Nat->Nat,f 0=x/\f k=y/\∀ i,i<k->f (i + 1)∈gr N (f i):=by
 induction w with
 |here=>exact⟨λv=>x,rfl,rfl,λi h=>by lia⟩
 | @step k y z w m ih=>
   obtain⟨f,h0,h1,h2⟩:=ih;refine⟨λi=>if i<=k then f i else z,by simp[h0],Ti (by lia),λi hi=>?_⟩
   by_cases c:i<k
   ·simp only[show i+1<=k by lia,show i<=k by lia,if_true]
    exact h2 i c
   ·obtain rfl:i=k:=by lia
    simp only[show ¬ i+1<=i by lia,Nat.le_refl,if_true,if_false,h1]
    exact m
theorem lM{N:List (List Nat)}{k:Nat}{f:Nat->Nat}(h:∀i,i<k->f (i+1)∈gr N (f i))(i:Nat):∀j,i+j<=k->Wy N (f i) j (f (i+j))
 |0,_=>.here
 |j+1,hj=>.step (lM h i j (by lia)) (h (i+j) (by lia))
def onto{n:Nat}{f:Nat->Nat}(lt:∀ i,i<n->f i<n)(inj:∀ i j,i<j->j<n->f i≠f j){x:Nat}(hx:x<n):∃ i,i<n/\f i=x:=by
 rcases Classical.em (x∈(List.range n).map f) with h | h
 ·obtain⟨i,h1,h2⟩:=Uh.mp h;exact⟨i,Th.mp h1,h2⟩
 ·have nd:(x::(List.range n).map f).Nodup:=by refine Xd.mpr ⟨h,?_⟩;refine WQ.mpr ?_;refine Xf (λ{a b} ha hb (hab:a<b)=>inj a b hab (Th.mp hb)) Vk
  have:=gj (n:=n) nd λy hy=>by
   rcases Tt.mp hy with rfl | hy
   ·exact hx
   ·obtain⟨i,h1,rfl⟩:=Uh.mp hy;exact lt i (Th.mp h1)
  rw[UG,S9,T9]at this
  lia
def Sht.short{R:List (List Nat)}{W:Nat}{l:List Nat}(s:Sht R l)(wk:WK R W)(ht:bA (aB R) l=1)(h2:2<=R.length):∃ k z,1<=k/\k<R.length/\z∈l/\Wy (aB R) z k z:=by
 rcases Classical.em (∃k z,1<=k/\k<R.length/\z∈l/\Wy (aB R) z k z) with h | no
 ·exact h
 exfalso
 have no':∀k z,1<=k->z∈l->Wy (aB R) z k z->R.length<=k:=λk z h1 hz w=>XR λq=>no ⟨k,z,h1,q,hz,w⟩
 obtain⟨k,k1,kn,w⟩:=s.round wk s.hd;obtain rfl:k=R.length:=by have:=no' k _ k1 s.hd w;lia
 generalize hn:R.length=n at *;obtain⟨f,f0,fn,fe⟩:=w.fn;have fl:∀i,i<=n->f i∈l:=λi hi=>by
  have:=lM fe 0 i (by lia)
  rw[Ub,f0]at this;exact s.wyl wk s.hd this
 have lt:∀i,i<n->f i<n:=λi hi=>by have:=s.lt _ (fl i (by lia));lia
 have inj:∀i j,i<j->j<n->f i≠f j:=λi j h1 h3 e=>by
  have:=lM fe i (j-i) (by lia)
  rw[show i+(j-i)=j by lia,<-e]at this
  have:=no' _ _ (by lia) (fl i (by lia)) this
  lia
 have on:∀x,x<n->∃i,i<n/\f i=x:=λx hx=>onto lt inj hx
 have nx:∀ i,i<n->∀ y∈gr (aB R) (f i),y=f ((i + 1) % n):=λi hi y hy=>by
  have yl:=s.cl wk (fl i (by lia)) hy
  have yn:y<n:=by have:=s.lt y yl;lia
  obtain⟨j,hj,rfl⟩:=on y yn;by_cases c:j<=i
  ·have w1:=lM fe j (i-j) (by lia)
   rw[show j+(i-j)=i by lia]at w1
   have:=no' _ _ (by lia) yl (.step w1 hy)
   obtain rfl:j=0:=by lia
   rw[show i+1=n by lia,Nat.mod_self]
  ·by_cases c2:j=i+1
   ·subst c2;rw[X6 hj]
   ·have w1:=lM fe j (n-j) (by lia)
    rw[show j+(n-j)=n by lia,fn,<-f0]at w1
    have w2:=lM fe 0 i (by lia)
    rw[Ub]at w2;have:=no' _ _ (by lia) yl (.step (w1.app w2) hy)
    lia
 have go:∀ a,a<n->∀ k y,Wy (aB R) (f a) k y->y=f ((a + k) % n):=λa ha k y w=>by
  induction w with
  |here=>rw[Yp,X6 ha]
  |step w m ih=>
    subst ih;have:=nx _ (UV _ (by lia)) _ m
    rw[this,Yh,Nat.add_assoc]
 have inj2:∀i j,i<n->j<n->f i=f j->i=j:=λi j hi hj e=>by
  rcases Wh i j with h | h | h
  ·exact absurd e (inj i j h hj)
  ·exact h
  ·exact absurd e.symm (inj j i h hi)
 have all:n ∣ bA (aB R) l:=by
  unfold bA;refine tQ.mpr ⟨Nat.dvd_zero _,λv hv=>?_⟩
  obtain⟨x,hx,hv⟩:=X4.mp hv;obtain⟨y,hy,rfl⟩:=Uh.mp hv;have rx:=((s.con s.hd).mp hx).2;have ry:=((s.con s.hd).mp (s.cl wk hx hy)).2;rw[rP (tM rx hy)];have e1:=Wy.step (gf rx).1 hy;have e2:=(gf ry).1;rw[<-f0]at e1 e2;have q1:=go 0 (by lia) _ _ e1
  have q2:=go 0 (by lia) _ _ e2
  have:=inj2 _ _ (UV _ (by lia)) (UV _ (by lia)) (q1.symm.trans q2)
  rw[Ub,Ub]at this;rw[f0]at this;exact this
 rw[ht]at all;have:=Nat.le_of_dvd (by decide) all
 lia
noncomputable def pw(N:List (List Nat))(n g:Nat):List (List Nat):=(List.range n).map (En N n g)
def Dz{N:List (List Nat)}{n g x:Nat}(hx:x<n):gr (pw N n g) x=En N n g x:=by unfold gr pw;rw[T8,Tp,U9 hx];rfl
theorem JP{N:List (List Nat)}{n g:Nat}(hg:∀ x,∀ y∈gr N x,y<n){x:Nat}(hx:x<n):∀ {k z:Nat},Wy N x (g * k) z->Wy (pw N n g) x k z
 |0,z,w=>by cases w;exact .here
 |k+1,z,w=>by
   have e:g*(k+1)=g*k+g:=Nat.mul_succ ..
   rw[e]at w;obtain⟨f,f0,f1,fe⟩:=w.fn;have w1:=lM fe 0 (g*k) (by lia)
   have w2:=lM fe (g*k) g (by lia)
   rw[Ub,f0]at w1;rw[f1]at w2;have lt:=w1.lt hg hx;refine .step (JP hg hx w1) ?_;rw[Dz lt];exact dH.mpr ⟨w2.lt hg lt,w2⟩
def Qi{N:List (List Nat)}{n g:Nat}{x:Nat}(hx:x<n){k z:Nat}(w:Wy (pw N n g) x k z):z<n/\Wy N x (g * k) z:=by
 induction w with
 |here=>exact⟨hx,.here⟩
 |step _ m ih=>rw[Dz ih.1]at m;have:=dH.mp m;exact⟨this.1,by rw[Nat.mul_succ];exact ih.2.app this.2⟩
def J5{R:List (List Nat)}{W:Nat}{l:List Nat}(wk:WK R W)(s:Sht R l)(hs:cW (LD R)=[bB l])(ht:bA (aB R) l=1):∃ t,t<=(R.length - 1) * (R.length - 1)/\bZ (aB R) R.length t≠[]:=by
 have n1:=wk.n1;have hg:=gR wk;have fin:∀t z,(∀x,x<R.length->Wy (aB R) x t z)->bZ (aB R) R.length t≠[]:=λt z h=>by
  have lt:z<R.length:=(h 0 (by lia)).lt hg (by lia)
  refine List.ne_nil_of_mem (a:=z) (Tv.mpr ⟨dH.mpr ⟨lt,h 0 (by lia)⟩,?_⟩)
  exact U3.mpr λx hx=>Vg.mpr (dH.mpr ⟨lt,h x (Th.mp hx)⟩)
 by_cases c:R.length=1
 ·exact⟨0,Vb _,fin 0 0 λx hx=>by rw[show x=0 by lia];exact .here⟩
 obtain⟨g,z,g1,gn,zl,wz⟩:=s.short wk ht (by lia)
 have zn:=s.lt z zl;refine⟨g*(R.length-1),WY (by lia) (Td _),fin _ z λx hx=>?_⟩
 obtain⟨l',s',y,yl,ry⟩:=wH hx;obtain rfl:=s'.one hs;obtain⟨h,wh⟩:=(ry.trans ((s.con yl).mp s.hd).2).wy;obtain⟨w,ww⟩:=((s.con s.hd).mp zl).2.wy;obtain⟨a,wa,ea⟩:=s.rem wk g1 ht (g-(h+w)%g);have lm:=UV (h+w) g1;have dv:g ∣ h+a+w:=by
  refine XN ?_;rw[show h+a+w=a+(h+w) by lia,V6,ea,<-V6]
  have:=Nat.div_add_mod (h+w) g;rw[show g-(h+w)%g+(h+w)=g*((h+w) / g)+g by lia,Nat.add_mod_right,Nat.mul_mod_right]
 obtain⟨q,hq⟩:=dv;have wt:=(wh.app wa).app ww;rw[hq]at wt;have r:=(JP hg hx wt).rch;have hg':∀x,∀y∈gr (pw (aB R) R.length g) x,y<R.length:=λx y hy=>by
  by_cases c:x<R.length
  ·rw[Dz c]at hy;exact (dH.mp hy).1
  ·have:gr (pw (aB R) R.length g) x=[]:=by unfold gr pw;rw[T8,Ur (by simp;lia)];rfl
   rw[this]at hy;cases hy
 obtain⟨k,hk,wk2⟩:=Ex (n:=R.length) (by simp[pw]) wk.n25 hx hg' r
 have w3:=(Qi hx wk2).2.app (wz.times (R.length-1-k))
 rwa [<-Nat.mul_add,show k+(R.length-1-k)=R.length-1 by lia]at w3
end K
namespace K
open PySem L2 L3 N10
theorem yM{tg:D->aa->DM aa}{fb:aa->DM Fl}(I:Nat->aa->Mo->Prop)(P:D->Mo->Prop):∀ (ds:List D) (i:Nat) (δ:aa) (M:Mo),I i δ M->(∀ j d δ M,ds[j]?=some d->I (i + j) δ M->Rn (tg d δ >>= fb) M λr M'=>(∃ δ',r=.nx δ'/\I (i + j + 1) δ' M')\/∃ d,r=.rt d/\P d M')->Rn (forL tg fb ds δ) M λr M'=>(∃ δ',r=.nx δ'/\I (i + ds.length) δ' M')\/∃ d,r=.rt d/\P d M'
 |[],i,δ,M,h,_=>Rn.pure (.inl ⟨δ,rfl,h⟩)
 | d::ds,i,δ,M,h,st=>by
   have s:=st 0 d δ M rfl h;have e:forL tg fb (d::ds) δ=(tg d δ>>=fb)>>=λr=>match r with
    |.nx δ2=>forL tg fb ds δ2
    |.ct δ2=>forL tg fb ds δ2
    |.bk δ2=>Pure.pure (.nx δ2)
    |.rt d=>Pure.pure (.rt d):=by rw[aF];rfl
   rw[e];refine Rn.bind s λr M' h=>?_
   rcases h with ⟨δ',e,h'⟩ | ⟨d',e,h'⟩
   ·subst e;have ih:=yM I P ds (i+1) δ' M' h' (λj d δ M hj hI=>by
     have:=st (j+1) d δ M (by simpa using hj) (by rw[show i+(j+1)=i+1+j by lia];exact hI)
     rw[show i+1+j+1=i+(j+1)+1 by lia];exact this)
    rw[show i+(d::ds).length=i+1+ds.length by simp;lia]
    exact ih
   ·subst e;exact Rn.pure (.inr ⟨_,rfl,h'⟩)
theorem uO{α:Type}{ft:aa->DM Bool}{fe:aa->DM D}{rest:aa}{n:Nat}{M:Mo}{L:List α}(p:α->Bool)(enc e:α->D)(hM:M[n]?=some (.lst (L.map enc)))(hL:L.length<=1000000)(h1:∀ a∈L,ft (some (enc a)::rest) M=some (.ok (p a),M))(h:∀ a∈L,fe (some (enc a)::rest) M=some (.ok (e a),M)):
  ∀(k i:Nat) (x:Option D) (l:List D),i+k=L.length+1->1<=k->l=((L.take i).filter p).map e->∃z,jL (gN 0) ft (bR fe) n k i (x::rest) l M=some (.ok (z::rest,(L.filter p).map e),M)
 |0,i,x,l,_,h1,_=>by lia
 | k + 1,i,x,l,hk,_,hl=>by
   have rn:rd (Itn.next (.dyn n) i) M=some (.ok ((L.map enc)[i]?),M):=by
    have:Itn.next (.dyn n) i M=some ((L.map enc)[i]?):=by simp only[Itn.next,hM]
    unfold rd;rw[this];rfl
   by_cases c:i<L.length
   ·have e1:(L.map enc)[i]?=some (enc L[i]):=by rw [Tp,Tc c];rfl
    rw[e1]at rn;have hf:=h L[i] (U8 c);have ht:=h1 L[i] (U8 c);have le:l.length<=L.length:=by rw[hl,S9];exact Ue (Uu _ _) (by rw[VH];lia)
    have lt:l.length<sizeLine:=by show _<2^24;lia
    have tk:∀b,p L[i]=b->((L.take (i+1)).filter p).map e=l++(if b then [e L[i]] else []):=λb hb=>by rw[List.take_succ_eq_append_getElem c,WD,Vx,hl];cases b<;>simp[hb]
    have key:∀ z,jL (gN 0) ft (bR fe) n k (i + 1) (some (enc L[i])::rest) (((L.take (i + 1)).filter p).map e) M=some (.ok (z::rest,(L.filter p).map e),M)->jL (gN 0) ft (bR fe) n (k + 1) i (x::rest) l M=some (.ok (z::rest,(L.filter p).map e),M):=by
     intro z ih;show DM.bind (rd (Itn.next (.dyn n) i)) _ M=_;unfold DM.bind;rw[rn];show ((gN 0 (enc L[i]) (x::rest))>>=λδ1=>ft δ1>>=λb=>(if b then bR fe δ1 l else Pure.pure (δ1,l))>>=λp=>jL _ _ _ n k (i+1) p.1 p.2) M=_
     rw[fD,aq];show DM.bind (ft (some (enc L[i])::rest)) _ M=_;unfold DM.bind;rw[ht];dsimp only;cases hb:p L[i] with
     |true=>
       rw[tk true hb]at ih;rw[Tf rfl]at ih ⊢
       unfold bR;rw[aF];show DM.bind (fe (some (enc L[i])::rest)) _ M=_;unfold DM.bind;rw[hf];dsimp only;rw[Tf lt];exact ih
     |false=>
       rw[tk false hb]at ih;rw[Ti (by decide),VL]at ih
       rw[Ti (by decide)]
       exact ih
    obtain⟨z,ih⟩:=uO p enc e hM hL h1 h k (i+1) (some (enc L[i])) _ (by lia) (by lia) rfl
    exact⟨z,key z ih⟩
   ·have e1:(L.map enc)[i]?=none:=Ur (by rw[S9];lia)
    rw[e1]at rn;refine⟨x,?_⟩;show DM.bind (rd (Itn.next (.dyn n) i)) _ M=_;unfold DM.bind;rw[rn];have:L.take i=L:=U6 (by lia)
    rw[hl,this];rfl
def Ik{α:Type}{ft:aa->DM Bool}{fe:aa->DM D}{rest:aa}{n:Nat}{M:Mo}{L:List α}{x:Option D}(p:α->Bool)(enc e:α->D)(hM:M[n]?=some (.lst (L.map enc)))(hL:L.length<=1000000)(h1:∀a∈L,ft (some (enc a)::rest) M=some (.ok (p a),M))(h:∀a∈L,fe (some (enc a)::rest) M=some (.ok (e a),M)){β:Type}{k:aa×List D->DM β}{Q:β->Mo->Prop}(k':List D->DM β)(hk:∀q,k q=k' q.2)(q:Rn (k' ((L.filter p).map e)) M Q):
  Rn (rd (p6 (.ref n))>>=λit=>dq (bL (gN 0) ft (bR fe) it (x::rest) [])>>=k) M Q:=by
 refine Rn.bindRd (.dyn n) (by simp only[p6,hM]) ?_
 obtain⟨z,e2⟩:=uO (rest:=rest) p enc e hM hL h1 h (L.length+1) 0 x [] (by lia) (by lia) rfl
 have e1:bL (gN 0) ft (bR fe) (.dyn n) (x::rest) [] M=some (.ok (z::rest,(L.filter p).map e),M):=by
  show DM.bind (rd (λM=>bw (.ref n) M)) _ M=_
  unfold DM.bind rd;simp only[bw,hM,Option.map_some,List.length_map];exact e2
 refine Rn.bind (jT ⟨_,_,e1,rfl,rfl⟩:Rn (dq _) M λp M'=>p=(z::rest,_)/\M'=M) λp M' ⟨e1,e2⟩=>?_
 subst e1 e2;rw[hk];exact q
noncomputable def PJ(M0:Mo)(rest:aa)(p:Nat->Bool)(i:Nat)(δ:aa)(l:List D)(M:Mo):Prop:=(∃z,δ=z::rest)/\l=((List.range i).filter p).map nD/\M=M0
def Dh{ft:aa->DM Bool}{fe:aa->DM D}{rest:aa}{n:Nat}{p:Nat->Bool}{M:Mo}{x:Option D}(hn:n<=1000)(h:∀ j,j<n->Rn (ft (some (nD j)::rest)) M λb M'=>b=p j/\M'=M)(h2:∀ j,j<n->fe (some (nD j)::rest)=pure (nD j)):
  Rn (bj (gN 0) ft (bR fe) ((List.range n).map nD) (x::rest) []) M λq M'=>M'=M/\q.2=((List.range n).filter p).map nD:=by
 refine (lU (PJ M rest p) ((List.range n).map nD) 0 (x::rest) [] M ⟨⟨x,rfl⟩,rfl,rfl⟩ (λj d δ l M1 hj hI=>?_)).mono λq M' hI=>?_
 ·obtain ⟨⟨z,rfl⟩,rfl,rfl⟩:=hI;obtain⟨hj',rfl⟩:=uZ hj;have le:=Uu p (List.range j);rw[T9]at le;have lt:(((List.range (0+j)).filter p).map nD).length<sizeLine:=by
   show _<2^24;rw[S9,Ub]
   lia
  rw[fD,aq];refine Rn.bind (h j hj') λb M' ⟨e1,e2⟩=>?_
  subst e1 e2;rw[Ub]at lt ⊢
  cases hp:p j with
  |true=>rw[Tf rfl];unfold bR;show Rn (fe (some (nD j)::rest)>>=_) _ _;rw[h2 j hj',aq,Tf lt];exact Rn.pure ⟨⟨_,rfl⟩,by simp[List.range_succ,List.filter_append,hp],rfl⟩
  |false=>
    rw[Ti (by decide)]
    exact Rn.pure ⟨⟨_,rfl⟩,by simp[List.range_succ,List.filter_append,hp],rfl⟩
 ·obtain⟨_,e1,e2⟩:=hI;exact⟨e2,by rw[e1];simp⟩
theorem yL{tg:D->aa->DM aa}{fb:aa->DM Fl}{n:Nat}{L:List D}(I:Nat->aa->Mo->Prop)(hL:∀ j δ M,I j δ M->M[n]?=some (.lst L))(h:∀ j d δ M,L[j]?=some d->I j δ M->Rn (tg d δ >>= fb) M λr M'=>∃ δ',r=.nx δ'/\I (j + 1) δ' M'):
  ∀(k i:Nat) (δ:aa) (M:Mo),i<=L.length->L.length<i+k->I i δ M->Rn (mC tg fb n k i δ) M λr M'=>∃δ',r=.nx δ'/\I L.length δ' M'
 |0,i,δ,M,_,h2,_=>by lia
 | k + 1,i,δ,M,h1,h2,hI=>by
   have hM:=hL i δ M hI;have e:mC tg fb n (k + 1) i δ=rd (Itn.next (.dyn n) i) >>= λo=>match o with
    |none=>pure (.nx δ)
    |some d=>(tg d δ>>=fb)>>=λr=>match r with
      |.nx δ2=>mC tg fb n k (i+1) δ2
      |.ct δ2=>mC tg fb n k (i+1) δ2
      |.bk δ2=>pure (.nx δ2)
      |.rt d=>pure (.rt d):=by
    show (rd (Itn.next (.dyn n) i)>>=_)=_;congr 1;funext o;cases o with
    |none=>rfl
    |some d=>exact (aF _ _ _).symm
   rw[e];by_cases c:i<L.length
   ·refine Rn.bindRd (some L[i]) (by simp only[Itn.next,hM,List.getElem?_eq_getElem c]) ?_
    refine Rn.bind (h i L[i] δ M (Tc c) hI) λr M' ⟨δ',er,hI'⟩=>?_
    subst er;exact yL I hL h k (i+1) δ' M' (by lia) (by lia) hI'
   ·refine Rn.bindRd none (by simp only[Itn.next,hM,List.getElem?_eq_none (Nat.le_of_not_lt c)]) ?_
    have:i=L.length:=by lia
    subst this;exact Rn.pure ⟨δ,rfl,hI⟩
noncomputable def lD(l:List Nat):D:=.lst (l.map nD)
def O9(i:Nat)(l:List Nat):(rd (Dq (nD i) (lD l)):DM D)=pure (.bl (!l.contains i)):=bz λM=>by show ((intsOf (l.map nD))).map _=_;rw[dW,WL,oU]
def Kh{α:Type}(xs:List α):(rd (cX (.lst (xs.map λz=>.int 1)) (.lst [])):DM D)=pure (.bl xs.isEmpty):=by
 have:=O7 (List.replicate xs.length 1) [];rw[List.map_replicate]at this;rw[List.map_const',show (D.int 1)=nD 1 from rfl]
 refine this.trans ?_;congr 2;cases xs<;>simp
def Hc(a b:List Nat):(rd (eF (.lst (a.map nD)) (.lst (b.map nD))):DM D)=pure (.bl (!decide (a=b))):=bz λM=>by
 have e:∀l:List Nat,l.map nD=(l.map λn:Nat=>(n:Int)).map D.int:=λl=>by rw[Ug];rfl
 have d:=dZ (a.map λn:Nat=>(n:Int))
 have q:=fj (a.map λn:Nat=>(n:Int)) (b.map λn:Nat=>(n:Int))
 have c:decide ((a.map λn:Nat=>(n:Int))=(b.map λn:Nat=>(n:Int)))=decide (a=b):=by rw[T6,UJ,UJ];exact iG
 rw[e a,e b];simp only[eF,L3.eqB,eqP,toPy,fQ,Option.map_some,PyData.canLay0,lay_ints,PyData.depth,PyData.eqv];rw[q,c,Tf (by rw[Bool.and_self,Bool.true_and];exact Tw (by lia))]
 rfl
def BR(xs:List Nat):(rd (eF (lD xs) (.lst [])):DM D)=pure (.bl (!xs.isEmpty)):=by have:=Hc xs [];refine this.trans ?_;congr 2;cases xs<;>simp
noncomputable def can(R:List (List Nat))(l:List Nat)(y:Nat):Bool:=!(l.filter λx=>decide (0<ga (gr R x) y)).isEmpty
noncomputable def nxt(R:List (List Nat))(l:List Nat):List Nat:=(List.range R.length).filter (can R l)
noncomputable def jn(R:List (List Nat)):Nat->Nat->List Nat
 |0,x=>[x]
 |k+1,x=>nxt R (jn R k x)
def OD{R:List (List Nat)}{l:List Nat}{y:Nat}(h:y∈nxt R l):y<R.length:=Th.mp (Tv.mp h).1
def KR(R:List (List Nat))(l:List Nat):(nxt R l).length<=R.length:=Ue (Uu _ _) (by simp)
def Om{R:List (List Nat)}{x:Nat}(hx:x<R.length):∀{k y:Nat},y∈jn R k x->y<R.length
 |0,y,h=>by rw[TJ.mp h];exact hx
 |k+1,y,h=>OD h
def Kv{R:List (List Nat)}{x:Nat}(hx:1<=R.length):∀k:Nat,(jn R k x).length<=R.length
 |0=>hx
 |k+1=>KR R _
def Jd{R:List (List Nat)}{W:Nat}{l:List Nat}(wk:WK R W)(hl:∀x∈l,x<R.length)(hn:l.length<=1000){z:Option D}(y:Nat)(hy:y<R.length):(dq (bj (gN 0) (λδ=>opt δ[1]?.join>>=λa=>opt δ[0]?.join>>=λb=>rd (bW a b)>>=λa=>opt δ[2]?.join>>=λb=>rd (bW a b)>>=λa=>rd (lO a (.int 0))>>=gF) (bR (cU 0)) (l.map nD) [none,some (nM R),some (nD y)] [])>>=λp=>fX []>>=λb=>rd (eF (.lst p.2) b)>>=gF)=pure (can R l y):=by
 have c:=aK (x:=none) (rest:=[some (nM R),some (nD y)]) (as:=l) (ft:=λδ=>opt δ[1]?.join>>=λa=>opt δ[0]?.join>>=λb=>rd (bW a b)>>=λa=>opt δ[2]?.join>>=λb=>rd (bW a b)>>=λa=>rd (lO a (.int 0))>>=gF) (fe:=cU 0) nD (λx=>decide (0<ga (gr R x) y)) nD (by lia) (λx hx=>by
  have g:∀a:Nat,(rd (lO (nD a) (.int 0)):DM D)=pure (.bl (decide (0<a))):=λa=>nZ a 0
  simp only[bF];simp only[JR (hl x hx),aq,gY (l:=gr R x) (i:=y) (by rw[wk.row _ (gr_mem (hl x hx))];exact hy),g,cV]) (λw w w=>by simp)
 have m0:fX []=pure (.lst []):=eX (by simp)
 have:=BR (l.filter λx=>decide (0<ga (gr R x) y))
 unfold lD at this;rw[c,aq,m0,aq,this,aq,cV];rfl
noncomputable def shr(R:List (List Nat))(k y:Nat):Bool:=((List.range R.length).filter λx=>!(jn R k x).contains y).isEmpty
noncomputable def Eo:=aL 1 7 p7
noncomputable def lands(R:List (List Nat))(k:Nat):List D:=(List.range R.length).map λx=>lD (jn R k x)
noncomputable def shd(R:List (List Nat))(k:Nat):List Nat:=(List.range R.length).filter (shr R k)
noncomputable def RB(R:List (List Nat))(M0:Mo)(i:Nat)(δ:aa)(M:Mo):Prop:=(∀t,t<i->shd R t=[])/\∃q z3 z4 z5 z6,δ=[some (nM R),some (.ref q),some (nD R.length),z3,z4,z5,z6]/\M[q]?=some (.lst (lands R i))/\Sb M0.length M0 M/\M0.length<=q
noncomputable def RJ(R:List (List Nat))(M0:Mo)(k q q2:Nat)(pre:aa)(j:Nat)(δ:aa)(M:Mo):Prop:=(∃z6,δ=pre++[z6])/\M[q]?=some (.lst (lands R k))/\M[q2]?=some (.lst ((List.range j).map λx=>lD (jn R (k+1) x)))/\Sb M0.length M0 M
noncomputable def Mr(R:List (List Nat))(M0:Mo)(d:D)(M:Mo):Prop:=((d=.non/\∀t,t<(R.length-1)*(R.length-1)+2->shd R t=[])\/∃s:Nat,d=.tup [nD s,nD (ga (shd R s) 0)]/\(∀t,t<s->shd R t=[])/\shd R s≠[])/\Sb M0.length M0 M
def Nt{R:List (List Nat)}{W:Nat}(wk:WK R W)(h5:R.length<=6)(M:Mo):Rn (Eo [nM R]) M (Mr R M):=by
 have n1:=wk.n1;unfold Eo p7 kJ;dsimp only;refine Rn.call rfl ?_;have st:bK 7 [nM R]=[some (nM R),none,none,none,none,none,none]:=rfl;rw[st];refine aH λK hK=>?_
 have c0:=iZ (x:=none) (rest:=[]) (as:=List.range R.length) (fe:=λδ=>opt δ[0]?.join>>=λa=>fX [a]) nD (λx=>lD (jn R 0 x)) (by simp;lia) (λx hx=>by
  have:fX [nD x]=pure (.lst [nD x]):=eX (by simp)
  simp only[List.getElem?_cons_zero,Option.join_some,fG,aq,this];rfl)
 simp[eG,dN (n:=R.length) (by lia),aO,b8]
 rw[c0,aq];refine Rn.run (a:=.ref M.length) (M':=M++[.lst (lands R 0)]) rfl ?_;have mk2:wC [.ref M.length,nD R.length]=pure (.tup [.ref M.length,nD R.length]):=gZ (by simp)
 simp[mk2];rw[hK];clear hK K c0;have sb0:Sb M.length M (M++[.lst (lands R 0)]):=Sb.push;have at0:(M++[DO.lst (lands R 0)])[M.length]?=some (.lst (lands R 0)):=by simp
 generalize M++[DO.lst (lands R 0)]=M1 at sb0 at0;refine cH λK hK hR'=>?_
 have s1:(rd (Ae (nD R.length) (.int 1)):DM D)=pure (nD (R.length-1)):=zO (b:=1) n1;have m1:(rd (vK (nD (R.length-1)) (nD (R.length-1))):DM D)=pure (nD ((R.length-1)*(R.length-1))):=zL (by lia)
 have a2:(rd (cZ (nD ((R.length-1)*(R.length-1))) (.int 2)):DM D)=pure (nD ((R.length-1)*(R.length-1)+2)):=fY _ 2;have b20:(R.length-1)*(R.length-1)+2<=27:=by
  have:=WY (show R.length-1<=5 by lia) (show R.length-1<=5 by lia)
  lia
 have fin:∀d M',((d=.non/\∀t,t<(R.length-1)*(R.length-1)+2->shd R t=[])/\Sb M.length M M')->Mr R M d M':=λd M' h=>⟨.inl h.1,h.2⟩
 generalize (R.length-1)*(R.length-1)+2=top at a2 b20 fin;simp[s1,m1,a2,dN (n:=top) (by lia),fF]
 refine Rn.bind (yM (RB R M) (Mr R M) _ 0 _ _ ⟨λt h=>by lia,_,_,_,_,_,rfl,at0,sb0,Td _⟩ (λk d δ M5 hx hI=>?_)) (λr M5 hI=>?_)
 rotate_left
 ·rcases hI with ⟨δ',rfl,hno,q,z3,z4,z5,z6,rfl,_,sb,_⟩ | ⟨d,rfl,hP⟩
  ·rw[hK];clear hK hR' K;simp;rw[Ub,S9,T9]at hno;exact Rn.pure ⟨_,rfl,fin _ _ ⟨⟨rfl,hno⟩,sb⟩⟩
  ·obtain⟨hR,hP⟩:=hP;rw[hR'];exact Rn.pure ⟨_,rfl,hR,hP⟩
 clear hK hR' K;obtain⟨hno,q,z3,z4,z5,z6,rfl,atq,sb5,hq⟩:=hI;obtain⟨hk,rfl⟩:=uZ hx;rw[Ub]at atq hno ⊢
 rw[fD,aq];refine cH λK hK hR=>?_
 simp[dN (n:=R.length) (by lia),aO,b8]
 have m0:fX []=pure (.lst []):=eX (by simp)
 refine Rn.bind (jT (Dh (n:=R.length) (p:=shr R k) (M:=M5) (x:=none) (rest:=[some (.ref q)]) (by lia) (λy hy=>?_) (λy hy=>by simp))) λpr M6 ⟨e1,e2⟩=>?_
 ·simp only[bF,Option.getD_some];refine Ik (L:=List.range R.length) (λx=>!(jn R k x).contains y) (λx=>lD (jn R k x)) (λw=>.int 1) atq (by simp;lia) (λx hx=>?_) (λx hx=>rfl) (λl=>fX []>>=λa_1=>rd (cX (D.lst l) a_1)>>=gF) (λw=>rfl) ?_
  ·simp only[bF,O9,cV];rfl
  ·rw[m0,aq,Kh,aq,cV];exact Rn.pure ⟨rfl,rfl⟩
 subst e1;rw[e2,hK];clear hK hR K e2;refine cH λK hK hR=>?_
 have nes:=BR ((List.range R.length).filter (shr R k));unfold lD at nes;simp only[cF,bF,aF,m0,nes,cV,aW];by_cases hz:((List.range R.length).filter (shr R k)).isEmpty=false
 ·rw[hz];simp;have l0:0<((List.range R.length).filter (shr R k)).length:=by
   cases h:(List.range R.length).filter (shr R k) with
   |nil=>rw[h]at hz;cases hz
   |cons a l=>simp
  have hm:=d8 l0;rw[show rd (bW (.lst (((List.range R.length).filter (shr R k)).map nD)) (.int 0))=(pure (nD (ga ((List.range R.length).filter (shr R k)) 0)):DM D) from zK (i:=0) l0,aq]
  have mk:wC [nD k,nD (ga ((List.range R.length).filter (shr R k)) 0)]=pure (.tup [nD k,nD (ga (shd R k) 0)]):=gZ (by simp)
  rw[mk,aq,hR];exact Rn.pure (.inr ⟨_,rfl,.inr ⟨k,rfl,hno,λe=>by unfold shd at e;rw[e]at l0;simp at l0⟩,sb5⟩)
 ·rw [Bool.not_eq_false]at hz;rw[hz];simp;rw[hK];clear hK hR K;refine aH λK hK=>?_
  simp;refine Rn.gP (by simp) ?_
  rw[hK];clear hK K;have ql:q<M6.length:=(S7.mp atq).1;have atq2:(M6++[DO.lst []])[q]?=some (.lst (lands R k)):=by rw[Tq ql];exact atq
  have at2:(M6++[DO.lst []])[M6.length]?=some (.lst []):=by simp
  have sb6:Sb M.length M (M6++[DO.lst []]):=sb5.trans Sb.push;have q2:M.length<=M6.length:=sb5.le;have ne2:M6.length≠q:=by lia
  revert atq2 at2 sb6 q2 ne2;generalize M6.length=p2;generalize M6++[DO.lst []]=M7;intro atq2 at2 sb6 q2 ne2;refine aH λK hK=>?_
  simp;refine Rn.bindRd (.dyn q) (by simp only[p6,atq2]) ?_
  show Rn (mC _ _ q 20 0 _>>=K) M7 _;refine Rn.bind (yL (L:=lands R k) (RJ R M k q p2 [some (nM R),some (.ref q),some (nD R.length),some (nD k),some (.lst (((List.range R.length).filter (shr R k)).map nD)),some (.ref p2)]) (λj δ M h=>h.2.1) (λj d δ M8 hj hI=>?_) 20 0 _ _ (Vb _) (by unfold lands;simp;lia) ⟨⟨_,rfl⟩,atq2,at2,sb6⟩) λr M8 hI=>?_
  ·clear hK K;obtain⟨⟨z,rfl⟩,a1,a2,s8⟩:=hI;unfold lands at hj;rw[Tp]at hj;obtain⟨x,hx2,rfl⟩:=S8.mp hj;obtain⟨jl,rfl⟩:=S7.mp hx2;rw[List.getElem_range];have jl:j<R.length:=by simpa using jl
   rw[fD,aq];simp[dN (n:=R.length) (by lia),aO,b8]
   have lx:∀x∈jn R k j,x<R.length:=λx hx=>Om jl hx
   have ln:=Kv (R:=R) (x:=j) n1 k;have cg:=aK (x:=none) (rest:=[some (lD (jn R k j)),some (nM R)]) (as:=List.range R.length) (ft:=λδ=>opt δ[1]?.join>>=λa=>rd (p6 a)>>=λa=>dq (bL (gN 0) (λδ=>opt δ[1]?.join>>=λa=>opt δ[0]?.join>>=λa_1=>rd (bW a a_1)>>=λa=>opt δ[2]?.join>>=λa_2=>rd (bW a a_2)>>=λa=>rd (lO a (D.int 0))>>=gF) (bR (cU 0)) a [none,δ[2]?.getD none,δ[0]?.getD none] [])>>=λa=>fX []>>=λa_1=>rd (eF (D.lst a.snd) a_1)>>=gF) (fe:=cU 0) nD (can R (jn R k j)) nD (by simp;lia) (λy hy=>by have al:(rd (p6 (lD (jn R k j))):DM Itn)=pure (.fix ((jn R k j).map nD)):=rfl;simp only[bF,Option.getD_some,al,lA];exact Jd wk lx (by lia) (z:=none) y (Th.mp hy)) (λw w w=>by simp)
   refine Rn.bindRd ((List.range j).map λx=>lD (jn R (k+1) x)) (by simp only[bw,a2]) ?_
   rw[cg,aq];refine Rn.run (vz a2 (by simp;lia)) ?_
   refine Rn.pure ⟨_,rfl,⟨_,rfl⟩,?_,?_,Sb.new (p:=M.length) (.inr s8.le) q2 Sb.set s8⟩
   ·rw[U5 ne2];exact a1
   ·rw[Uy (S7.mp a2).1,List.range_succ,Vx];rfl
  ·obtain⟨δ',rfl,⟨z,rfl⟩,a1,a2,s8⟩:=hI;rw[hK];clear hK K;simp;have hno':∀t,t<k+1->shd R t=[]:=λt ht=>by
    by_cases c:t=k
    ·subst c;exact Yv.mp hz
    ·exact hno t (by lia)
   refine Rn.pure (.inl ⟨_,rfl,hno',p2,_,_,_,_,rfl,?_,s8,q2⟩);rw[a2];unfold lands;rw[S9,T9]
theorem yZ{R:List (List Nat)}{W:Nat}(wk:WK R W){x:Nat}(hx:x<R.length):∀ k,jn R k x=En (aB R) R.length k x
 |0=>by rw[Ba hx];rfl
 | k + 1=>by
   show (List.range R.length).filter (can R (jn R k x))=_;rw[yZ wk hx k];unfold En;refine List.filter_congr λy hy=>?_
   have hy:=Th.mp hy;rw[T6,fJ];unfold can;rw[Bool.not_eq_true',List.isEmpty_eq_false_iff_exists_mem];constructor
   ·rintro⟨z,hz⟩;obtain⟨h1,h2⟩:=Tv.mp hz;obtain⟨h3,h4⟩:=Tv.mp h1;have h3:=Th.mp h3;refine .step (fJ.mp h4) ?_;rw[kh h3,Tv,Th,wk.row _ (gr_mem h3)];exact⟨hy,h2⟩
   ·intro w;cases w with
    | @step _ z _ w m=>have hz:=w.lt (gR wk) hx;rw[kh hz]at m;exact⟨z,Tv.mpr ⟨Tv.mpr ⟨Th.mpr hz,fJ.mpr w⟩,(Tv.mp m).2⟩⟩
def oA{R:List (List Nat)}{W:Nat}(wk:WK R W)(k:Nat):shd R k=bZ (aB R) R.length k:=by
 unfold shd bZ;unfold En;rw[List.filter_filter];refine List.filter_congr λy hy=>?_
 have n1:=wk.n1;have hy:=Th.mp hy;rw[T6];unfold shr;rw[Yv,Vm,Vi,U3];constructor
 ·intro h;have key:∀x,x<R.length->y∈En (aB R) R.length k x:=λx hx=>by have:=h x (Th.mpr hx);rw[yZ wk hx]at this;simpa using this
  exact⟨λx hx=>Vg.mpr (key x (Th.mp hx)),fJ.mpr (dH.mp (key 0 (by lia))).2⟩
 ·rintro⟨h,_⟩ x hx;have:=h x hx;rw[yZ wk (Th.mp hx)];simp only[Bool.not_eq_true',Bool.not_eq_false];exact this
noncomputable def oF:=aL 1 1 qb
def vI(n:Nat):oF [nD n]=pure (.bl true):=by
 have a:(rd (gh [nD n,.ty "int"]):DM D)=pure (.bl true):=jM (t := "int") (λz=>rfl) (by decide)
 have b:(rd (gh [nD n,.ty "bool"]):DM D)=pure (.bl false):=jM (t := "int") (λz=>rfl) (by decide)
 simp[oF,qb,a,b]
structure Way(R:List (List Nat))(t x z:Nat)(w:List Nat):Prop where
 len:w.length=t+1
 hd:ga w 0=x
 ls:ga w t=z
 lt:∀y∈w,y<R.length
 st:∀i,i<t->0<ga (gr R (ga w i)) (ga w (i+1))
def Wl.way{R:List (List Nat)}{W z:Nat}(wk:WK R W)(hz:z<R.length){t x:Nat}{w:List Nat}(h:Wl (aB R) z t x w)(hx:x<R.length):Way R t x z w:=by
 induction h with
 |here=>exact⟨rfl,rfl,rfl,λy hy=>by rw[TJ.mp hy];exact hz,λi h=>by lia⟩
 | @step t x y l m h ih=>
   have hy:=gR wk x y m;have q:=ih hy;have gs:∀i,ga (x::l) (i+1)=ga l i:=λi=>by simp[ga]
   refine⟨by rw[UG,q.len],rfl,by rw[gs];exact q.ls,λv hv=>?_,λi hi=>?_⟩
   ·rcases Tt.mp hv with rfl | hv
    ·exact hx
    ·exact q.lt v hv
   ·rw [gs];cases i with
    |zero=>rw[q.hd];rw[kh hx]at m;exact Ui (Tv.mp m).2
    |succ j=>rw[gs];exact q.st j (by lia)
noncomputable def xM:=aL 5 5 (pH oF)
def yp{n x:Nat}(h:x<n):(rd (yV (.int 0) (nD x)):DM D)=pure (.bl true)/\(rd (Gy (nD x) (nD n)):DM D)=pure (.bl true):=⟨by rw[show D.int 0=nD 0 from rfl,uX,Tw (Vb _)],by rw[uY,Tw h]⟩
def rH:(rd (eF (.lst []) (.lst [])):DM D)=pure (.bl false):=bz λM=>rfl
def Kg:(rd (cX (.lst []) (.lst [])):DM D)=pure (.bl true):=bz λM=>rfl
def KC{R:List (List Nat)}{W t x z:Nat}{w:List Nat}(wk:WK R W)(hw:Way R t x z w)(ht:t<=100):xM [nM R,nT w,nD t,nD x,nD z]=pure (.bl true):=by
 have m0:fX []=pure (.lst []):=eX (by simp)
 have l1:(rd (cZ (nD t) (.int 1)):DM D)=pure (nD (t+1)):=fY _ 1;have n1:∀a:Nat,(rd (eF (nD a) (nD a)):DM D)=pure (.bl false):=λa=>by rw[qD,Tw rfl];rfl
 have hl:=hw.len;have i0:(rd (bW (nT w) (.int 0)):DM D)=pure (nD x):=by have:=gY (l:=w) (i:=0) (by lia);rw[hw.hd]at this;exact this
 have it:(rd (bW (nT w) (nD t)):DM D)=pure (nD z):=by have:=gY (l:=w) (i:=t) (by lia);rw[hw.ls]at this;exact this
 simp[xM,pH,zJ,Ha,hl,l1,n1,aO,b8,kY,i0,it];rw[aK (as:=w) nD (λv=>false) (λv=>.int 1) (by lia) (λy hy=>?_) (λy v h=>by cases h)]
 ·rw [aq,Vm.mpr (λv v=>by decide)]
  simp[m0,rH,i0,it,n1,dN (n:=t) (by lia),aO,b8]
  rw[aK (as:=List.range t) nD (λv=>false) nD (by simp;lia) (λy hy=>?_) (λy v h=>by cases h)]
  ·rw[aq,Vm.mpr (λv v=>by decide)]
   simp[m0,Kg]
  ·have hy:=Th.mp hy;have g1:=gY (l:=w) (i:=y) (by lia)
   have g2:=gY (l:=w) (i:=y+1) (by lia)
   have l1':=hw.lt _ (d8 (l:=w) (i:=y) (by lia))
   have l2':=hw.lt _ (d8 (l:=w) (i:=y+1) (by lia))
   have g3:=n6 (R:=R) l1';have g4:=gY (l:=gr R (ga w y)) (i:=ga w (y+1)) (by rw[wk.row _ (gr_mem l1')];exact l2')
   have z0:(rd (cX (nD (ga (gr R (ga w y)) (ga w (y+1)))) (.int 0)):DM D)=pure (.bl false):=by rw[show D.int 0=nD 0 from rfl,cT,Uq (by have:=hw.st y hy;lia)]
   simp[g1,rN,g2,g3,g4,z0]
 ·simp[vI,eG,yp (hw.lt y hy)]
def Fp{fe:aa->DM D}{rest:aa}{n:Nat}{h R:Nat->D}{x y:Option D}(hn:n<=1000)(hf:∀ j,j<n->fe (some (nD j)::some (h j)::rest)=pure (R j)){β:Type}{k:aa×List D->DM β}(k':List D->DM β)(hk:∀ q,k q=k' q.2):
  (dq (bj (gT 2 (cR (gN 0) (cR (gN 1) jf))) (λz=>pure true) (bR fe) ((List.range n).map λj=>.tup [nD j,h j]) (x::y::rest) [])>>=k)=k' ((List.range n).map R):=by
 let f1:D->D:=λd=>match d with | .tup [a,b]=>a | _=>.non
 let f2:D->D:=λd=>match d with | .tup [a,b]=>b | _=>.non
 let e:D->D:=λd=>match d with | .tup [.int i,_]=>R i.toNat | _=>.non
 obtain ⟨δ',q⟩:=oX (fg:=gT 2 (cR (gN 0) (cR (gN 1) jf))) (ft:=λz=>pure true) (fe:=fe) (λδ=>∃ x y,δ=x::y::rest) (λd=>some (f1 d)::some (f2 d)::rest) (λz=>true) e ((List.range n).map λj=>.tup [nD j,h j]) (x::y::rest) [] ⟨x,y,rfl⟩ (by simp;lia)
  (λd hd δ ⟨x,y,hδ⟩=>by
    obtain⟨j,_,rfl⟩:=Uh.mp hd;exact⟨by subst hδ;rfl,_,_,rfl⟩) (λd z=>rfl) (λd hd z=>by
    obtain⟨j,hj,rfl⟩:=Uh.mp hd;have:=hf j (Th.mp hj);show fe (some (nD j)::some (h j)::rest)=pure (R (j:Int).toNat);rw[Va];exact this)
 have m:(((List.range n).map λj=>D.tup [nD j,h j]).filter λz=>true).map e=(List.range n).map R:=by
  rw[Ws.mpr (λz z=>rfl),Ug]
  refine V1 λj z=>?_
  show R (j:Int).toNat=R j;rw[Va]
 rw[q,m];simp[hk]
noncomputable def Er:=aL 2 2 (jD oF xM)
def Oj{R:List (List Nat)}{W t z:Nat}{f:Nat->List Nat}(wk:WK R W)(hz:z<R.length)(ht:t<=100)(hf:∀x,x<R.length->Way R t x z (f x)):Er [nM R,.tup [nD t,nD z,nM ((List.range R.length).map f)]]=pure (.bl true):=by
 have n25:=wk.n25;have is3:(rd (gh [.tup [nD t,nD z,nM ((List.range R.length).map f)],.ty "tuple"]):DM D)=pure (.bl true):=jM (t := "tuple") (λy=>rfl) (by decide)
 have ln3:(rd (gM [.tup [nD t,nD z,nM ((List.range R.length).map f)]]):DM D)=pure (nD 3):=rfl;have i0:(rd (bW (.tup [nD t,nD z,nM ((List.range R.length).map f)]) (.int 0)):DM D)=pure (nD t):=rfl;have i1:(rd (bW (.tup [nD t,nD z,nM ((List.range R.length).map f)]) (.int 1)):DM D)=pure (nD z):=rfl;have i2:(rd (bW (.tup [nD t,nD z,nM ((List.range R.length).map f)]) (.int 2)):DM D)=pure (nM ((List.range R.length).map f)):=rfl;have n3:(rd (eF (nD 3) (.int 3)):DM D)=pure (.bl false):=rfl;have lt0:(rd (Gy (nD t) (.int 0)):DM D)=pure (.bl false):=by rw[show D.int 0=nD 0 from rfl,uY,Uq (by lia)]
 have nn:∀a:Nat,(rd (eF (nD a) (nD a)):DM D)=pure (.bl false):=λa=>by rw[qD,Tw rfl];rfl
 simp[Er,jD,is3,ln3,i0,i1,i2,n3,lt0,vI,eG,yp hz,uW,nn,aO,b8];have en:oO [nM ((List.range R.length).map f)]=some (.fix ((List.range' 0 R.length).map λj=>.tup [nD j,nT (f j)])):=by show some (Itn.fix (gk 0 (((List.range R.length).map f).map nT)))=_;rw[Ug,W6,gQ];rfl
 rw[en,fG,aq,n8,<-W6];rw[Fp (R:=λy=>.bl true) (by lia) (λj hj=>by simp[i0,i1,KC wk (hf j hj) ht]) (λl=>rd (pZ [.lst l])) (λy=>rfl)]
 rw[jo,jU]
structure St(n:Nat)(l:List Nat):Prop where
 ne:l≠[]
 lt:∀x∈l,x<n
 up:l.Pairwise (·< ·)
def St.len{n:Nat}{l:List Nat}(h:St n l):l.length<=n:=gj (h.up.imp λ{a b} h=>Tj h) h.lt
def St.srt{n:Nat}{l:List Nat}(h:St n l):eN (bB l)=bB l:=by
 refine dD ((We (wI _) ?_).mpr λx=>Cu) (bD _).2 ?_
 ·exact WP _ (λa b (q:a<b)=>by lia) h.up
 ·exact WP _ (λa b (q:a<b)=>by lia) h.up
noncomputable def xH:=aL 2 3 (lG oF)
noncomputable def Q4(R S:List (List Nat))(M0:Mo)(i:Nat)(δ:aa)(M:Mo):Prop:=(∃z,δ=[some (nM R),some (nM S),z])/\M=M0
def Bw{R S:List (List Nat)}{n:Nat}(hn:n<=25)(hR:R.length=n)(ne:S≠[])(hS:∀ l∈S,St n l)(hl:S.length<=100)(M:Mo):Rn (xH [nM R,nM S]) M λd M'=>d=.bl true/\M'=M:=by
 unfold xH lG gU;dsimp only;refine Rn.call rfl ?_;have st:bK 3 [nM R,nM S]=[some (nM R),some (nM S),none]:=rfl;rw[st];refine cH λK hK hR'=>?_
 simp[uW];have t0:wC []=pure (.tup []):=gZ (by simp)
 have e0:∀l:List D,l≠[]->(rd (JG (.tup l) (.tup [])):DM D)=pure (.bl false):=λl h=>bz λM=>by show some (D.bl l.isEmpty)=_;rw[show l.isEmpty=false by rw[List.isEmpty_eq_false_iff];exact h]
 have eS:nM S=.tup (S.map nT):=rfl;rw[t0,aq,eS,e0 _ (by simpa using ne),aq,cV,aq,Ti (by decide),aq,hK,<-eS];clear hK hR' K
 refine aH λK hK=>?_
 have as:jV (nM S)=some (.fix (S.map nT)):=rfl;simp only[bF,aW,aF,as,fF];refine Rn.bind (cu (Q4 R S M) _ 0 _ _ ⟨⟨_,rfl⟩,rfl⟩ (λi d δ M1 hi hI=>?_)) (λr M1 hI=>?_)
 ·clear hK K;obtain⟨⟨z,rfl⟩,rfl⟩:=hI;rw[Tp]at hi;obtain⟨l,hl',rfl⟩:=S8.mp hi;have sl:=hS l (T3 hl');have ll:=sl.len;rw[fD,aq];have m0:fX []=pure (.lst []):=eX (by simp)
  have el:nT l=.tup (l.map nD):=rfl;have e1:(rd (JG (nT l) (.tup [])):DM D)=pure (.bl false):=e0 _ (by simpa using sl.ne)
  have sU:Ad [nT l]=some (l.map nD):=by
   have e:l.map nD=(bB l).map D.int:=by unfold bB;rw[Ug];rfl
   have q:=(bD ((bB l).foldl PyProof.Rows.step_dedup [])).1.length_eq;have r:((bB l).foldl PyProof.Rows.step_dedup []).foldr j8 []=bB l:=sl.srt;rw[r]at q;have lt:(bB l).length=l.length:=by unfold bB;simp
   show (intsOf (l.map nD)).bind _=_;rw[dW,V5];show (if (bB l).length<=2000/\((bB l).foldl PyProof.Rows.step_dedup []).length<=60 then some ((eN (bB l)).map D.int) else none)=_
   rw[Tf ⟨by lia,by lia⟩,sl.srt,<-e]
  have nel:=Hc l l;rw[Tw rfl]at nel;simp[zJ,t0,e1,aO,b8,kY,sU];rw[aK (as:=l) nD (λx=>false) (λx=>.int 1) (by lia) (λy hy=>?_) (λy x h=>by cases h)]
  ·rw[aq,Vm.mpr (λx x=>by decide)]
   simp[m0,rH];have l1:(rd (λM=>Option.map D.lst (Dm [nT l] M)):DM D)=pure (.lst (l.map nD)):=bz λM=>rfl
   rw[l1,aq,sU,WL,fG,aq,nel,aq,Bool.not_true,cV,aq,Ti (by decide)]
   exact Rn.pure ⟨_,rfl,⟨_,rfl⟩,rfl⟩
  ·simp[vI,eG,hR,yp (sl.lt y hy)]
 ·obtain⟨δ',rfl,⟨z,rfl⟩,rfl⟩:=hI;rw[hK];exact Rn.pure ⟨_,rfl,rfl,rfl⟩
structure Rgo(R A:List (List Nat)):Prop where
 ne:A≠[]
 st:∀l∈A,St R.length l
 len:A.length<=100
 go:∀i,i<A.length->∀x∈gr A i,∀y∈gr (aB R) x,y∈gr A ((i+1)%A.length)
noncomputable def xG:=aL 2 9 (jW xH)
noncomputable def Z1(R A B:List (List Nat))(M0:Mo)(i:Nat)(δ:aa)(M:Mo):Prop:=(∃z2 z3 z4 z5 z6 z7 z8,δ=[some (nM R),some (.tup [nM A,nM B]),z2,z3,z4,z5,z6,z7,z8])/\M=M0
noncomputable def Z2(R A B C:List (List Nat))(M0:Mo)(i:Nat)(δ:aa)(M:Mo):Prop:=(∃z2 z3 z5 z6 z7 z8,δ=[some (nM R),some (.tup [nM A,nM B]),z2,z3,some (nM C),z5,z6,z7,z8])/\M=M0
noncomputable def Z3(R A B C:List (List Nat))(j:Nat)(M0:Mo)(i:Nat)(δ:aa)(M:Mo):Prop:=(∃z2 z3 z8,δ=[some (nM R),some (.tup [nM A,nM B]),z2,z3,some (nM C),some (nD j),some (nT (gr C j)),some (nT (gr C ((j+1)%C.length))),z8])/\M=M0
theorem pairs_at:∀{l m:List D}{i:Nat}{d:D},(pairs l m)[i]?=some d->∃a b,l[i]?=some a/\m[i]?=some b/\d=.tup [a,b]
 |[],m,i,d,h=>by simp[pairs]at h
 |a::l,[],i,d,h=>by simp[pairs]at h
 |a::l,b::m,0,d,h=>by simp[pairs]at h;exact⟨a,b,rfl,rfl,h.symm⟩
 |a::l,b::m,i+1,d,h=>by simp[pairs]at h;simpa using pairs_at h
def Jz{A:List (List Nat)}{i:Nat}{d:D}(h:(A.map nT)[i]?=some d):i<A.length/\d=nT (gr A i):=by
 have hi:i<A.length:=by have:=(S7.mp h).1;simpa using this
 rw[Tp,Tc hi,<-je hi]at h;exact⟨hi,(Tu h).symm⟩
def Kr{R A B:List (List Nat)}{W:Nat}(wk:WK R W)(a:Rgo R A)(b:Rgo R B)(hl:A.length=B.length)(dj:∀ i,i<A.length->∀ x∈gr A i,x∉gr B i)(M:Mo):Rn (xG [nM R,.tup [nM A,nM B]]) M λd M'=>d=.bl true/\M'=M:=by
 have n25:=wk.n25;unfold xG jW gm;dsimp only;refine Rn.call rfl ?_;have st:bK 9 [nM R,.tup [nM A,nM B]]=[some (nM R),some (.tup [nM A,nM B]),none,none,none,none,none,none,none]:=rfl;rw[st];have is2:(rd (gh [.tup [nM A,nM B],.ty "tuple"]):DM D)=pure (.bl true):=jM (t := "tuple") (λz=>rfl) (by decide)
 have ln2:(rd (gM [.tup [nM A,nM B]]):DM D)=pure (nD 2):=rfl;have n2:(rd (eF (nD 2) (.int 2)):DM D)=pure (.bl false):=rfl;have i0:(rd (bW (.tup [nM A,nM B]) (.int 0)):DM D)=pure (nM A):=rfl;have i1:(rd (bW (.tup [nM A,nM B]) (.int 1)):DM D)=pure (nM B):=rfl;have m0:fX []=pure (.lst []):=eX (by simp)
 have nn:∀a:Nat,(rd (eF (nD a) (nD a)):DM D)=pure (.bl false):=λa=>by rw[qD,Tw rfl];rfl
 refine cH λK hK hR'=>?_
 simp[is2,ln2,n2];rw[hK];clear hK hR' K;refine cH λK hK hR'=>?_
 simp[i0,i1];refine Rn.bind (Bw n25 rfl a.ne a.st a.len M) λd M1 ⟨e1,e2⟩=>?_
 subst e1 e2;simp;refine Rn.bind (Bw n25 rfl b.ne b.st b.len M1) λd M2 ⟨e1,e2⟩=>?_
 subst e1 e2;simp[eG,hl,nn];rw[hK];clear hK hR' K;refine aH λK hK=>?_
 simp[i0,i1];have zp:Ah [nM A,nM B]=some (.fix (pairs (A.map nT) (B.map nT))):=rfl;rw[zp,fG,aq];simp only[fF];refine Rn.bind (cu (Z1 R A B M2) _ 0 _ _ ⟨⟨_,_,_,_,_,_,_,rfl⟩,rfl⟩ (λi d δ M1 hi hI=>?_)) (λr M1 hI=>?_)
 ·clear hK K;obtain⟨⟨z2,z3,z4,z5,z6,z7,z8,rfl⟩,rfl⟩:=hI;obtain⟨x,y,hx,hy,rfl⟩:=pairs_at hi;obtain⟨hi1,rfl⟩:=Jz hx;obtain⟨hi2,rfl⟩:=Jz hy;have sa:=a.st _ (gr_mem hi1);have la:=sa.len;have tg:∀(u v:D) (δ:aa),gT 2 (cR (gN 2) (cR (gN 3) jf)) (.tup [u,v]) [some (nM R),some (.tup [nM A,nM B]),z2,z3,z4,z5,z6,z7,z8]=pure [some (nM R),some (.tup [nM A,nM B]),some u,some v,z4,z5,z6,z7,z8]:=λu v z=>by simp[gT,cR,jf]
  rw[tg _ _ [],aq];simp[aO,b8,kY];rw[aK (as:=gr A i) nD (λz=>false) nD (by lia) (λy hy=>?_) (λy z h=>by cases h)]
  ·rw[aq,Vm.mpr (λz z=>by decide)]
   simp[m0,rH];exact Rn.pure ⟨_,rfl,⟨_,_,_,_,_,_,_,rfl⟩,rfl⟩
  ·have ni:=dj i hi1 y hy;simp[Qn,ni]
 obtain⟨δ',rfl,⟨z2,z3,z4,z5,z6,z7,z8,rfl⟩,rfl⟩:=hI;rw[hK];clear hK K;refine aH λK hK=>?_
 have as:jV (.tup [nM A,nM B])=some (.fix [nM A,nM B]):=rfl;simp only[bF,aW,aF,as,fF];refine Rn.bind (cu (Z1 R A B M1) _ 0 _ _ ⟨⟨_,_,_,_,_,_,_,rfl⟩,rfl⟩ (λi d δ M3 hi hI=>?_)) (λr M3 hI=>?_)
 rotate_left
 ·obtain⟨δ',rfl,⟨z2,z3,z4,z5,z6,z7,z8,rfl⟩,rfl⟩:=hI;rw[hK];exact Rn.pure ⟨_,rfl,rfl,rfl⟩
 clear hK K;obtain⟨⟨z2,z3,z4,z5,z6,z7,z8,rfl⟩,rfl⟩:=hI;obtain⟨C,rfl,c⟩:∃C,d=nM C/\Rgo R C:=by
  match i,hi with
  |0,hi=>exact⟨A,(Tu hi).symm,a⟩
  |1,hi=>exact⟨B,(Tu hi).symm,b⟩
  |i+2,hi=>simp at hi
 rw[fD,aq];have c1:0<C.length:=Vf.mpr c.ne;have cl:=c.len;have en:oO [nM C]=some (.fix ((List.range' 0 C.length).map λj=>.tup [nD j,nT (gr C j)])):=by
  have e:C.map nT=(List.range' 0 C.length).map λj=>nT (gr C j):=by
   apply V4
   ·simp
   ·intro i h1 h2;simp at h1;simp[je h1]
  show some (Itn.fix (gk 0 (C.map nT)))=_;rw[e,gQ]
 simp only[cF,bF,aW,aF,en,fF];refine (cu (Z2 R A B C M3) _ 0 _ _ ⟨⟨_,_,_,_,_,_,rfl⟩,rfl⟩ (λj d δ M4 hj hI=>?_)).mono (λr M4 hI=>?_)
 rotate_left
 ·obtain⟨δ',rfl,⟨z2,z3,z5,z6,z7,z8,rfl⟩,rfl⟩:=hI;exact⟨_,rfl,⟨_,_,_,_,_,_,_,rfl⟩,rfl⟩
 obtain⟨⟨z2,z3,z5,z6,z7,z8,rfl⟩,rfl⟩:=hI;have hjc:j<C.length:=by have:=(S7.mp hj).1;simpa using this
 rw[Tp,List.getElem?_range' hjc]at hj;have:=(Tu hj).symm;subst this;have tg:∀(u v:D),gT 2 (cR (gN 5) (cR (gN 6) jf)) (.tup [u,v]) [some (nM R),some (.tup [nM A,nM B]),z2,z3,some (nM C),z5,z6,z7,z8]=pure [some (nM R),some (.tup [nM A,nM B]),z2,z3,some (nM C),some u,some v,z7,z8]:=λu v=>by simp[gT,cR,jf]
 rw[Ub,Nat.one_mul,tg,aq];have lm:=UV (j+1) c1;refine aH λK hK=>?_
 simp only[cF,bF,aW,aF,rN,eG,fM c1,n6 lm];rw[hK];clear hK K;have sj:=c.st _ (gr_mem hjc);have s2:=c.st _ (gr_mem lm);simp only[cF,bF,aW,aF,kY,fF];refine (cu (Z3 R A B C j M4) _ 0 _ _ ⟨⟨_,_,_,rfl⟩,rfl⟩ (λk d δ M5 hk hI=>?_)).mono (λr M5 hI=>?_)
 rotate_left
 ·obtain⟨δ',rfl,⟨z2,z3,z8,rfl⟩,rfl⟩:=hI;exact⟨_,rfl,⟨_,_,_,_,_,_,rfl⟩,rfl⟩
 obtain⟨⟨z2,z3,z8,rfl⟩,rfl⟩:=hI;rw[Tp]at hk;obtain⟨x,hx,rfl⟩:=S8.mp hk;have xm:=T3 hx;have xn:=sj.lt x xm;rw[fD,aq];simp[aO,b8,eG,dN (n:=R.length) (by lia)]
 rw[aK (as:=List.range R.length) nD (λz=>false) nD (by simp;lia) (λy hy=>?_) (λy z h=>by cases h)]
 ·rw[aq,Vm.mpr (λz z=>by decide)]
  simp[m0,rH];exact Rn.pure ⟨_,rfl,⟨_,_,_,rfl⟩,rfl⟩
 ·have hy:=Th.mp hy;have g3:=n6 (R:=R) xn;have g4:=gY (l:=gr R x) (i:=y) (by rw[wk.row _ (gr_mem xn)];exact hy)
  have gt:(rd (lO (nD (ga (gr R x) y)) (.int 0)):DM D)=pure (.bl (decide (0<ga (gr R x) y))):=nZ _ 0;simp[g3,g4,gt];intro hpos;have ym:y∈gr (aB R) x:=by rw[kh xn,Tv,Th,wk.row _ (gr_mem xn)];exact⟨hy,Tw hpos⟩
  have yc:=c.go j hjc x xm y ym;rw[Pa,Vg.mpr yc];rfl
def uJ{α:Type}{f:Nat->List Nat}{n i:Nat}(h:i<n):gr ((List.range n).map f) i=f i:=by unfold gr;rw[T8,Tp,U9 h];rfl
def Sht.rgo{R:List (List Nat)}{W:Nat}{l:List Nat}(wk:WK R W)(s:Sht R l):Rgo R [l]:=by
 refine⟨by simp,λl' h=>by rw[TJ.mp h];exact⟨s.ne,s.lt,s.up⟩,by simp,λi hi x hx y hy=>?_⟩
 obtain rfl:i=0:=by simpa using hi
 have e:(0+1) % [l].length=0:=by simp
 rw[e];exact s.cl wk hx hy
noncomputable def vg(R:List (List Nat))(l:List Nat)(i:Nat):List Nat:=l.filter λx=>decide (dst (aB R) (ga l 0) x%bA (aB R) l=i)
theorem Sht.vg{R:List (List Nat)}{W:Nat}{l:List Nat}(wk:WK R W)(s:Sht R l){i:Nat}(hi:i<bA (aB R) l):St R.length (vg R l i):=by
 refine⟨?_,λx hx=>s.lt x (Tv.mp hx).1,WT Xb s.up⟩
 have:∀ k,∃ x∈l,dst (aB R) (ga l 0) x % bA (aB R) l=k % bA (aB R) l:=by
  intro k;induction k with
  |zero=>exact⟨_,s.hd,by rw[tO]⟩
  |succ k ih=>obtain⟨x,hx,e⟩:=ih;obtain⟨y,hy⟩:=wk.next (s.lt x hx);refine⟨y,s.cl wk hx hy,?_⟩;rw[<-s.edge wk hx hy,V6,e,<-V6]
 obtain⟨x,hx,e⟩:=this i;rw[X6 hi]at e;exact List.ne_nil_of_mem (Tv.mpr ⟨hx,Tw e⟩)
def Sht.on{R:List (List Nat)}{W:Nat}{l:List Nat}(wk:WK R W)(s:Sht R l){i x y:Nat}(hx:x∈K.vg R l i)(hy:y∈gr (aB R) x):y∈K.vg R l ((i+1)%bA (aB R) l):=by obtain⟨h1,h2⟩:=Tv.mp hx;have h2:=Ui h2;refine Tv.mpr ⟨s.cl wk h1 hy,Tw ?_⟩;rw[<-s.edge wk h1 hy,<-h2,Yh]
def Sht.rg1{R:List (List Nat)}{W:Nat}{l:List Nat}(wk:WK R W)(s:Sht R l)(k:Nat):Rgo R ((List.range (bA (aB R) l)).map λi=>K.vg R l ((i+k)%bA (aB R) l)):=by
 obtain⟨t1,t2⟩:=s.tn wk;have n25:=wk.n25;refine⟨by simp;lia,λl' h=>?_,by simp;lia,λi hi x hx y hy=>?_⟩
 ·obtain⟨i,_,rfl⟩:=Uh.mp h;exact s.vg wk (UV _ t1)
 ·rw[S9,T9]at hi ⊢
  rw[uJ (α:=Nat) hi]at hx;rw[uJ (α:=Nat) (UV _ t1)];have:=s.on wk hx hy
  rwa [Yh,show i+k+1=i+1+k by lia,<-Yh]at this
def Hj{R:List (List Nat)}{l:List Nat}:iu (aB R) l=(List.range (bA (aB R) l)).map λi=>vg R l ((i+0)%bA (aB R) l):=by
 unfold iu;refine V1 λi hi=>?_
 rw[Yp,X6 (Th.mp hi)];rfl
def zX{R:List (List Nat)}{l:List Nat}(t1:1<=bA (aB R) l):(iu (aB R) l).drop 1++(iu (aB R) l).take 1=(List.range (bA (aB R) l)).map λi=>vg R l ((i+1)%bA (aB R) l):=by
 obtain⟨t,ht⟩:∃t,bA (aB R) l=t+1:=⟨bA (aB R) l-1,by lia⟩
 have e:iu (aB R) l=(List.range (bA (aB R) l)).map λi=>vg R l i:=rfl
 rw[e,ht];refine V4 (by simp) λi h1 h2=>?_
 have hi:i<t+1:=by simpa using h2
 by_cases c:i<t
 ·rw[Xn (by simp;lia)]
  simp[Nat.mod_eq_of_lt (show i+1<t+1 by lia),Nat.add_comm]
 ·obtain rfl:i=t:=by lia
  rw[List.getElem_append_right (by simp)]
  simp
end K
namespace K
open PySem L2 L3 N10 LB
set_option tactic.hygienic true in
def Ft(ts:List (List Int)):(qg ts).Nodup:=by
 have key:∀ (ts acc:List (List Int)),acc.Nodup->(ts.foldl iz acc).Nodup:=by
  intro ts;induction ts with
  |nil=>intro acc h;exact h
  | cons u ts ih=>
    intro acc h;refine ih (iz acc u) ?_;unfold iz;split
    ·exact h
    ·rename_i q;refine VN.mpr ⟨h,by simp,λx hx y hy e=>?_⟩
     rw[TJ.mp hy]at e;exact q (e ▸ hx)
 exact key ts [] (by simp)
def shuts{R:List (List Nat)}{W:Nat}(wk:WK R W):∃Y:List (List Nat),cW (LD R)=Y.map bB/\Y≠[]/\Y.Nodup/\∀l∈Y,Sht R l:=by
 have sub:∀t∈cW (LD R),t∈((LD R).filter (fO (LD R))).map bB:=λt ht=>J8 ((iV _).1.mem_iff.mp ht)
 obtain⟨Y,e,k⟩:=Ew sub;refine⟨Y,e,λz=>?_,?_,λl hl=>?_⟩
 ·obtain⟨l,s,_⟩:=wH (R:=R) (x:=0) wk.n1;have:=s.in_;rw[e,z]at this;cases this
 ·have nd:(cW (LD R)).Nodup:=(iV _).1.nodup_iff.mpr (Ft _);rw[e]at nd;exact (WQ.mp nd).imp λ{a b} h q=>h (by rw[q])
 ·obtain⟨h1,h2⟩:=Tv.mp (k l hl);exact Sht.of h1 h2
inductive Said(R:List (List Nat)):D->Prop
 |no {A B:List (List Nat)}:Rgo R A->Rgo R B->A.length=B.length->(∀i,i<A.length->∀x∈gr A i,x∉gr B i)->(∀t,bZ (aB R) R.length t=[])->Said R (.tup [.str "no",.tup [nM A,nM B]])
 |yes {T:Nat}{f:Nat->List Nat}:T<=(R.length-1)*(R.length-1)->(∀t,t<T->bZ (aB R) R.length t=[])->bZ (aB R) R.length T≠[]->(∀x,x<R.length->Wl (aB R) (ga (bZ (aB R) R.length T) 0) T x (f x))->Said R (.tup [.str "yes",.tup [nD T,nD (ga (bZ (aB R) R.length T) 0),nM ((List.range R.length).map f)]])
def Ny{R:List (List Nat)}{W:Nat}{l l':List Nat}{Y:List (List Nat)}(wk:WK R W)(hn:R.length<=18)(hs:cW (LD R)=(l::l'::Y).map bB)(hY:Y.length<=1000)(M0:Mo):
  Rn (vR [bh R W]) M0 λd M'=>d=.tup [.str "no",.tup [nM [l],nM [l']]]/\∀(j:Nat) (o:DO),M0[j]?=some o->M'[j]?=some o:=by
 unfold vR qd lY;dsimp only;refine Rn.call rfl ?_;have st:bK 3 [bh R W]=[some (bh R W),none,none]:=rfl;rw[st];refine aH λK hK=>?_
 simp only[bF,aW,aF];refine Rn.bind (Ac wk hn M0) λd M1 ⟨e,k1⟩=>?_
 subst e;rw[hs];have eS:D.tup (((l::l'::Y).map bB).map tupI)=nM (l::l'::Y):=by unfold nM;rw[Ug];congr 1;exact V1 λl z=>(I9 l).symm
 rw[eS];simp only[cF,aq];rw[hK];clear hK K;refine cH λK hK hR=>?_
 have gt:(rd (lO (nD (l::l'::Y).length) (.int 1)):DM D)=pure (.bl true):=(nZ _ 1).trans (by rw[Tw (by simp)])
 have i0:(rd (bW (nM (l::l'::Y)) (.int 0)):DM D)=pure (nT l):=n6 (R:=l::l'::Y) (i:=0) (by simp)
 have i1:(rd (bW (nM (l::l'::Y)) (.int 1)):DM D)=pure (nT l'):=n6 (R:=l::l'::Y) (i:=1) (by simp)
 have t1:∀l:List Nat,wC [nT l]=pure (nM [l]):=λl=>gZ (by simp)
 simp only[bF,aW,aF,eG,gt,cV,if_true,i0,i1,t1];rw[gZ (by simp),aq,gZ (by simp),aq,hR]
 exact Rn.pure ⟨_,rfl,rfl,k1⟩
def uH{R:List (List Nat)}{W:Nat}(wk:WK R W)(h6:R.length<=6)(M0:Mo):
  Rn (vR [bh R W]) M0 λd M'=>Said R d/\∀(j:Nat) (o:DO),M0[j]?=some o->M'[j]?=some o:=by
 obtain⟨Y,e,ne,nd,hY⟩:=shuts wk
 match Y,e,ne,nd,hY with
 |[],_,ne,_,_=>exact absurd rfl ne
 | [l],e,_,_,hY=>
   have s:=hY l (by simp)
   obtain⟨t1,t2⟩:=s.tn wk;obtain⟨T,hT⟩:∃T,bA (aB R) l<=1->T<=(R.length-1)*(R.length-1)/\(∀t,t<T->bZ (aB R) R.length t=[])/\bZ (aB R) R.length T≠[]:=by
    by_cases c:bA (aB R) l=1
    ·obtain⟨t,h1,h2⟩:=J5 wk s e c;obtain⟨T,h3,h4⟩:=tX (P:=λt=>bZ (aB R) R.length t≠[]) h2
     have:=h4 t h2;exact⟨T,λy=>⟨by lia,λu h=>Classical.byContradiction λq=>by have:=h4 u q;lia,h3⟩⟩
    ·exact⟨0,λh=>by lia⟩
   have b25:(R.length-1)*(R.length-1)<=5*5:=WY (by lia) (by lia)
   refine (Nx wk (by lia) (s.shu wk) e (by lia) (λh=>⟨by have:=(hT h).1;lia,(hT h).2⟩) M0).mono λd M' ⟨q,k⟩=>⟨?_,k⟩
   unfold Jx at q;by_cases c:1<bA (aB R) l
   ·rw[Tf c]at q;subst q;have r0:=s.rg1 wk 0;have r1:=s.rg1 wk 1;rw[<-Hj]at r0;rw[<-zX t1]at r1;refine .no r0 r1 (by rw[zX t1];simp[iu]) (λi hi x hx hx2=>?_) (HW wk s c)
    have hi:i<bA (aB R) l:=by simpa[iu] using hi
    rw[Hj,uJ (α:=Nat) hi]at hx;rw[zX t1,uJ (α:=Nat) hi]at hx2;have q1:=Ui (Tv.mp hx).2;have q2:=Ui (Tv.mp hx2).2;rw[q1,Yp]at q2;have:=(rP (a:=i+1) (b:=i) (g:=bA (aB R) l) (by lia)).mpr q2.symm
    rw[show i+1-i=1 by lia]at this
    have:=Nat.le_of_dvd (by decide) this
    lia
   ·rw[Ti c]at q;obtain⟨f,h1,rfl⟩:=q;obtain⟨a,b,e⟩:=hT (by lia)
    exact .yes a b e h1
 | l::l'::Y,e,_,nd,hY=>
   have s:=hY l (by simp)
   have s':=hY l' (by simp)
   have ne:l≠l':=λz=>by subst z;simp at nd
   have yl:Y.length<=1000:=by
    have l2:(cW (LD R)).length<=((LD R).filter (fO (LD R))).length:=by
     unfold cW;rw[(iV _).1.length_eq];have:=Bj (((LD R).filter (fO (LD R))).map bB)
     rwa [S9]at this
    have fl:=Uu (fO (LD R)) (LD R);rw[mZ]at fl;rw[e]at l2;simp at l2
    lia
   refine (Ny wk (by lia) e yl M0).mono λd M' ⟨q,k⟩=>⟨?_,k⟩
   subst q;refine .no (s.rgo wk) (s'.rgo wk) rfl (λi hi x hx hx2=>?_) (J4 wk s s' ne)
   obtain rfl:i=0:=by simpa using hi
   have h1:gr (LD R) x=l:=s.eq x hx;have h2:gr (LD R) x=l':=s'.eq x hx2;exact ne (h1.symm.trans h2)
noncomputable def xJ:=aL 2 3 (p8 Eo xG Er)
def BJ{R:List (List Nat)}{W:Nat}{d:D}(wk:WK R W)(h6:R.length<=6)(sd:Said R d)(M:Mo):Rn (xJ [nM R,d]) M λv M'=>v=.bl true/\Sb M.length M M':=by
 have n1:=wk.n1;unfold xJ p8 kO;dsimp only;refine Rn.call rfl ?_;have st:bK 3 [nM R,d]=[some (nM R),some d,none]:=rfl;rw[st];refine aH λK hK=>?_
 simp only[bF,aW,aF];refine Rn.bind (Nt wk h6 M) λv M1 ⟨hP,sb⟩=>?_
 simp only[cF,aq];rw[hK];clear hK K;have ml:fX [.str "yes",.str "no"]=pure (.lst [.str "yes",.str "no"]):=eX (by simp)
 have ns:∀sx:Str,(rd (eF (.str sx) (.str sx)):DM D)=pure (.bl false):=λsx=>by rw[JS,Tw rfl];rfl
 have isT:∀a b:D,(rd (gh [.tup [a,b],.ty "tuple"]):DM D)=pure (.bl true):=λa b=>jM (t := "tuple") (λy=>rfl) (by decide)
 have ln2:∀a b:D,(rd (gM [.tup [a,b]]):DM D)=pure (nD 2):=λa b=>rfl
 have n2:(rd (eF (nD 2) (.int 2)):DM D)=pure (.bl false):=rfl;have i0:∀a b:D,(rd (bW (.tup [a,b]) (.int 0)):DM D)=pure a:=λa b=>rfl
 have i1:∀a b:D,(rd (bW (.tup [a,b]) (.int 1)):DM D)=pure b:=λa b=>rfl
 cases sd with
 | @no A B ra rb hl dj no=>
   have ev:v=.non:=by
    rcases hP with ⟨e,_⟩ | ⟨s,_,_,ne⟩
    ·exact e
    ·rw[oA wk,no]at ne;exact absurd rfl ne
   subst ev;refine cH λK hK hR=>?_
   have isn:(rd (isD .non .non):DM D)=pure (.bl true):=bz λM=>rfl
   have ib:(rd (uL [.bl true]):DM D)=pure (nD 1):=bz λM=>rfl
   have ix:(rd (bW (.lst [.str "yes",.str "no"]) (nD 1)):DM D)=pure (.str "no"):=bz λM=>rfl
   simp[isT,ln2,n2,i0,ml];rw[isn,aq,ib,aq,ix,aq,ns,aq,cV,aq,Ti (by decide),aq,hK];clear hK hR K
   refine cH λK hK hR=>?_
   simp only[bF,aW,aF,isn,cV,if_true,i1];refine Rn.bind (Kr wk ra rb hl dj M1) λd M2 ⟨e1,e2⟩=>?_
   subst e1 e2
   try simp only[aq]
   rw[hR];exact Rn.pure ⟨_,rfl,rfl,sb⟩
 | @yes T f hT h0 h1 hw=>
   have b25:(R.length-1)*(R.length-1)<=5*5:=WY (by lia) (by lia)
   have ev:v=.tup [nD T,nD (ga (bZ (aB R) R.length T) 0)]:=by
    rcases hP with ⟨_,h⟩ | ⟨s,rfl,h2,h3⟩
    ·exact absurd ((oA wk T).symm.trans (h T (by lia))) h1
    ·have:s=T:=by
      rw[oA wk]at h3;rcases Wh s T with c | c | c
      ·exact absurd (h0 s c) h3
      ·exact c
      ·exact absurd ((oA wk T).symm.trans (h2 T c)) h1
     subst this;rw[oA wk]
   subst ev;have pos:0<(bZ (aB R) R.length T).length:=Vf.mpr h1;have zlt:ga (bZ (aB R) R.length T) 0<R.length:=by have hz:=d8 (l:=bZ (aB R) R.length T) (i:=0) pos;exact (dH.mp (Tv.mp hz).1).1
   revert hw;generalize ga (bZ (aB R) R.length T) 0=z at zlt;intro hw;have lm:=Oj wk zlt (show T<=100 by lia) λx hx=>(hw x hx).way wk zlt hx
   have isn:∀a b:D,(rd (isD (.tup [a,b]) .non):DM D)=pure (.bl false):=λa b=>bz λM=>rfl
   have ib:(rd (uL [.bl false]):DM D)=pure (nD 0):=bz λM=>rfl
   have ix:(rd (bW (.lst [.str "yes",.str "no"]) (nD 0)):DM D)=pure (.str "yes"):=bz λM=>rfl
   have sl:∀c:D,(rd (Cp none (some 2) (.tup [nD T,nD z,c])):DM D)=pure (.tup [nD T,nD z]):=λc=>bz λM=>rfl
   have eq:(rd (cX (.tup [nD T,nD z]) (.tup [nD T,nD z])):DM D)=pure (.bl true):=(G6 [T,z] [T,z]).trans (by rw[Tw rfl])
   have a2:(Eu (D.int 2):DM (Option Int))=pure (some 2):=rfl;refine cH λK hK hR=>?_
   simp[isT,ln2,n2,i0,ml];rw[isn,aq,ib,aq,ix,aq,ns,aq,cV,aq,Ti (by decide),aq,hK];clear hK hR K
   refine cH λK hK hR=>?_
   simp only[bF,aW,aF,isn,cV,Bool.false_eq_true,if_false];rw[hK];clear hK hR K;simp[i1,lm,a2,sl,eq];exact Rn.pure ⟨_,rfl,rfl,sb⟩
noncomputable def HB:=aL 1 6 (JB xq xN xQ vR xJ xj)
noncomputable def Q5(cs:List Int)(i:Nat)(δ:aa)(M:Mo):Prop:=∃z1 z2 z3 z4 z5,δ=[some (.scr cs),z1,z2,z3,z4,z5]
noncomputable def Q3(cs:List Int)(p:Nat)(i:Nat)(δ:aa)(M:Mo):Prop:=(∃z1 z3 z4 z5,δ=[some (.scr cs),z1,some (.ref p),z3,z4,z5])/\dI p M
def dI.kpt{p:Nat}{M M':Mo}(h:dI p M)(k:∀(j:Nat) (o:DO),M[j]?=some o->M'[j]?=some o):dI p M':=by obtain⟨a,b,c,hc,e⟩:=h;exact⟨a,b,c,hc,k _ _ e⟩
def dI.sbl{p:Nat}{M M':Mo}(h:dI p M)(s:Sb M.length M M'):dI p M':=h.sb s (Tj h.lt)
open Classical in
noncomputable def QZ(R:List (List Nat)):Str:=if ∀t,bZ (aB R) R.length t=[] then "no" else "yes"
def Said.word{R:List (List Nat)}{d:D}(s:Said R d):∃w,d=.tup [.str (QZ R),w]:=by
 unfold QZ;cases s with
 |no _ _ _ _ h=>rw[Tf h];exact⟨_,rfl⟩
 |yes _ _ h _=>rw[Ti (λq=>h (q _))];exact⟨_,rfl⟩
def Ks(cs:List Int)(hcs:cs.length<=100000):Rn (HB [.scr cs]) [] λd z=>d=.bl true:=by
 unfold HB JB DK;dsimp only;refine Rn.call rfl ?_;have st:bK 6 [D.scr cs]=[some (.scr cs),none,none,none,none,none]:=rfl;rw[st];obtain⟨c0,ec⟩:=MJ cs 0;have ec':xq [.scr cs,.int 0]=pure (.int c0):=ec;have l1:∀x:D,fX [x]=pure (.lst [x]):=λx=>eX (by simp)
 have cl:(cutD (cs.map D.int) (some 1) (some 5)).length<=100000:=by
  unfold cutD;rw[VH,Wk,S9]
  lia
 have ci:∀d∈[.int c0]++cutD (cs.map D.int) (some 1) (some 5),∃c:Int,d=.int c:=λd hd=>by
  rcases TV.mp hd with h | h
  ·exact⟨c0,TJ.mp h⟩
  ·unfold cutD at h;obtain⟨c,_,rfl⟩:=Uh.mp (Yl (Yd h));exact⟨c,rfl⟩
 have ad:=Lg (a:=[.int c0]) (b:=cutD (cs.map D.int) (some 1) (some 5)) (by simp;lia)
 have a1:(Eu (.int 1):DM (Option Int))=pure (some 1):=rfl;have a3:(Eu (.int 5):DM (Option Int))=pure (some 5):=rfl;have rg5:mL [.int 5]=some (.fix ((List.range 5).map nD)):=zN (n:=5) (by lia)
 refine aH λK hK=>?_
 simp[ec',l1,Qw];rw[a1,aq,a3,aq,ad];simp only[aq,zG,fF,fG,List.map_cons,List.map_nil];clear ad cl;generalize [.int c0]++cutD (cs.map D.int) (some 1) (some 5)=cl at ci;refine Rn.bind (cu (Q5 cs) cl 0 _ _ ⟨_,_,_,_,_,rfl⟩ (λj d δ M hj hI=>?_)) (λr M hI=>?_)
 rotate_left
 ·obtain⟨δ',rfl,_⟩:=hI;rw[hK];exact Rn.pure rfl
 clear hK K;obtain⟨c,rfl⟩:=ci d (T3 hj);obtain⟨x1,x2,x3,x4,x5,rfl⟩:=hI;generalize 0+j+1=nx;rw[fD,aq];refine aH λK hK=>?_
 simp only[cF,bF,aF];refine Rn.bind (Ld c M) λd M0 ⟨e,hp⟩=>?_
 subst e;revert hp;generalize M.length=p;intro hp
 try simp only[cF,aq]
 rw[hK];clear hK K;simp only[rg5,fG,aq,fF];refine (cu (Q3 cs p) _ 0 _ _ ⟨⟨_,_,_,_,rfl⟩,hp⟩ (λtn d δ M hj2 hI=>?_)).mono (λr M hI=>?_)
 rotate_left
 ·obtain⟨δ',rfl,⟨_,_,_,_,rfl⟩,_⟩:=hI;exact⟨_,rfl,_,_,_,_,_,rfl⟩
 obtain⟨⟨x1,x3,x4,x5,rfl⟩,hp⟩:=hI;generalize 0+tn+1=nx2;obtain⟨_,rfl⟩:=uZ hj2;rw[fD,aq];refine aH λK hK=>?_
 simp only[cF,bF,aF];refine Rn.bind (Lr (tp:=6) hp (by decide) (by decide)) λd M1 ⟨R,W,e,wk,hR,hW,hp1,_⟩=>?_
 subst e
 try simp only[cF,aq]
 rw[hK];clear hK K;have n1:=wk.n1;refine aH λK hK=>?_
 simp only[cF,bF,aF,aW,Hy wk];rw[hK];clear hK K;refine cH λK hK hR'=>?_
 simp only[cF,bF,aF,aW];refine Rn.bind (uH wk hR M1) λd M2 ⟨sd2,k2⟩=>?_
 refine Rn.bind (BJ wk hR sd2 M2) λv M3 ⟨e,s3⟩=>?_
 subst e;have hp3:dI p M3:=(hp1.kpt k2).sbl s3;simp[Hy wk];refine Rn.bind (uH wk hR M3) λd M4 ⟨sd4,k4⟩=>?_
 refine Rn.bind (BJ wk hR sd4 M4) λv M5 ⟨e,s5⟩=>?_
 subst e;have hp5:dI p M5:=(hp3.kpt k4).sbl s5;simp;rw[hK];clear hK hR' K;simp only[cF,bF,aF,aW];refine Rn.bind (uH wk hR M5) λd M6 ⟨sd6,k6⟩=>?_
 obtain⟨w6,rfl⟩:=sd6.word;have i0:∀a b:D,(rd (bW (.tup [a,b]) (.int 0)):DM D)=pure a:=λa b=>rfl
 simp only[i0,aq];refine Rn.bind (uH wk hR M6) λd M7 ⟨sd7,k7⟩=>?_
 obtain⟨w7,rfl⟩:=sd7.word;have ns:∀sx:Str,(rd (eF (.str sx) (.str sx)):DM D)=pure (.bl false):=λsx=>by rw[JS,Tw rfl];rfl
 have ne:=Nm R R (by lia)
 rw[Tw rfl]at ne;simp[i0,ns,tR,ne];exact Rn.pure ⟨_,rfl,⟨_,_,_,_,rfl⟩,(hp5.kpt k6).kpt k7⟩
end K
namespace K
open PySem L2 L3 N10
def GF(K:PySem.W.Frag):Bool:=K.all λp=>!(p.2.cls==.type "list")
def Oz{K:PySem.W.Frag}(h:GF K=true){a:Addr}{o:Obj}(e:K.lookup a=some o):o.cls≠.type "list":=by
 have:∀ (l:List (Addr×Obj)),(l.all λp=>!(p.2.cls == .type "list"))=true->l.lookup a=some o->o.cls≠.type "list":=by
  intro l;induction l with
  |nil=>intro _ e;cases e
  | cons p l ih=>
    intro h e;rw[Yy,Vi]at h;rw[V3]at e;split at e
    ·cases e;intro z;rw[z]at h;exact absurd h.1 (by decide)
    ·exact ih h.2 e
 exact this K h e
def rd_of{K:PySem.W.Frag}{H:Hp}{a:Addr}{xs:List V}(h:GF K=true)(s:SqL K H a xs):Rd H a (.lst xs):=by
 rcases s with s | ⟨o,its,n,e,c,_⟩
 ·exact s
 ·exact absurd c (Oz h e)
structure Cls(K:PySem.W.Frag)(mg:Str->Option Value)(CC_Walk:Addr)(tg_MOST_PLACES:Tok):Prop where
 m_MOST_PLACES:mg "MOST_PLACES"=some (.int 25 tg_MOST_PLACES)
 o_Walk:OCls K mg "Walk" CC_Walk ["rows", "whole"]
 k_Walk:PySem.W.makesIn K CC_Walk=true/\PySem.W.keepIn K (.ref CC_Walk)=true
 nl:GF K=true
def MN{K:PySem.W.Frag}{h:Heap}{mg:Str->Option Value}(X:K.In h)(G:h.Ns mainGlobals mg){CC_Walk:Addr}{tg_MOST_PLACES:Tok}
  (g_MOST_PLACES:PySem.W.nsIn K mainGlobals "MOST_PLACES"=some (some (.int 25 tg_MOST_PLACES)))
  (cm_Walk:PySem.W.nsIn K mainGlobals "Walk"=some (some (.ref CC_Walk)))
  (pg_Walk:PySem.W.plainGet K CC_Walk Str.empty=true)
  (hd_Walk:PySem.W.hasDictIn K CC_Walk=true)
  (po_Walk:PySem.W.plainOver K CC_Walk=true)
  (sa_Walk:PySem.W.findIn K (.ref CC_Walk) "__setattr__"=some (some (.builtin "object.__setattr__")))
  (mk_Walk:PySem.W.makesIn K CC_Walk=true)
  (kc_Walk:PySem.W.keepIn K (.ref CC_Walk)=true)
  (nf_Walk_rows:PySem.W.findIn K (.ref CC_Walk) "rows"=some none)
  (nf_Walk_whole:PySem.W.findIn K (.ref CC_Walk) "whole"=some none)
  (nl:GF K=true)
  : Cls K mg CC_Walk tg_MOST_PLACES:=by
 have nof_Walk:∀f∈(["rows", "whole"]:List Str),NoAttr K CC_Walk f:=by
  intro f hf;simp only[List.mem_cons,List.not_mem_nil,or_false]at hf;rcases hf with rfl | rfl
  ·exact nf_Walk_rows
  ·exact nf_Walk_whole
 refine⟨PySem.W.mg_of X G g_MOST_PLACES,⟨PySem.W.mg_of X G cm_Walk,⟨pg_Walk,hd_Walk,po_Walk,sa_Walk⟩,nof_Walk⟩,⟨mk_Walk,kc_Walk⟩,nl⟩
def spLaw(K:PySem.W.Frag):Sp:=λvs H Q z=>∃(a:Addr) (ns:List Int),vs=[.ref a]/\SqL K H a (ns.map V.int)/\ns.length<=63/\∀H',Q (.bl true) H'
def QB{K:PySem.W.Frag}{mg:Str->Option Value}(nl:GF K=true){vs:List V}{H:Hp}{Q:VK}{E:XK}(h:spLaw K vs H Q E):Cr mg HB vs H Q E:=by
 obtain⟨a,ns,rfl,hS,hl,q⟩:=h;have rd:=rd_of nl hS;obtain⟨d,M',e,ed⟩:=Ks ns (by omega)
 refine⟨⟨[],[]⟩,[],[.scr ns],.cons (.scr (λz=>by rcases z with z | z<;>cases z) rd) .nil,⟨rfl,List.nodup_nil,λn a o h=>by simp at h,λa h=>by cases h⟩,_,e,λρ' H' b x j c=>?_⟩
 subst ed;cases c;exact q H'
def RV{P:Program}{w:World}{K:PySem.W.Frag}{mg:Str->Option Value}{base:Heap}{k:Nat}{x:Str}{N ps:List Str}{st:Stmt}{fb:aa->DM Fl}{f:Addr}{fd:FuncData}(F:Fun K x x st f fd)(S:FnScope N ps (defScope st))
  (hbody:∀(cdv:Value) (A:Around) (outer:List Env) (s:Shared) (H:Hp) (E:XK),Room k (A.deeper (PyProof.Rows.envOfC x (defScope st) s.heap.objs.size f cdv))->
    DSs (jE P w K mg base N x (defScope st) f cdv A outer s H E) E (defBody st) fb):FnOk P w K mg base (gD P w) (k+1) f fd ps (Cr mg (aL ps.length N.length fb)):=by
 refine QS F S (λvs H Q E h=>?_) λcdv A outer s H vs Q E hr h=>?_
 ·obtain⟨ρ,M,ds,c,j,g⟩:=h;rw[c.len];exact (bC.aL g).1
 obtain⟨ρ,M,ds,c,j,g⟩:=h;exact⟨_,(hbody cdv A outer s H E hr).h,ρ,_,M,oR c,j,(bC.aL g).2⟩
def all_mk{P:Program}{w:World}{K:PySem.W.Frag}{mg:Mg}{fa:Addr}{CC_Walk:Addr}{tg_MOST_PLACES:Tok}(hfa:mg "law"=some (.ref fa)){h:Heap}(X:K.In h)(G:h.Ns mainGlobals mg)(t0:TD K "is_whole" o9)(t1:TD K "greatest_divider" fH)(t2:TD K "are_weights" jz)(t3:TD K "are_rows" o7)(t4:TD K "is_place" o8)(t5:TD K "is_rising" mV)(t6:TD K "are_rising_places" eQ)(t7:TD K "next_places" jB)(t8:TD K "fewest_steps" iU)(t9:MethAt K CC_Walk "__len__" "Walk.__len__" cY)(t10:TD K "led_to" uh)(t11:TD K "shut_sets" mW)(t12:TD K "refuse_no_shut" gC)(t13:TD K "turn_of" qH)(t14:TD K "sides_of" ph)(t15:TD K "ends_of_longer" gB)(t16:TD K "in_common" mU)(t17:TD K "longer_ways" jA)(t18:TD K "first_meeting" ir)(t19:TD K "forgets" qG)(t20:TD K "can_be_walked" ik)(t21:MethAt K CC_Walk "__init__" "Walk.__init__" ie)(t22:TD K "_law_cell_at" iT)(t23:TD K "_law_next" mQ)(t24:TD K "_law_pen_of" jy)(t25:TD K "_law_draw" mO)(t26:TD K "_law_rows" mR)(t27:TD K "_law_whole" lu)(t28:TD K "_law_is_way" jx)(t29:TD K "_law_is_meeting" fV)(t30:TD K "_law_are_sets" ig)(t31:TD K "_law_are_rings" gA)(t32:TD K "_law_first" lg)(t33:TD K "_law_right" lq)(t34:TD K "law" DY)(z0:TB K "all")(z1:TB K "bool")(z2:TB K "enumerate")(z3:TB K "int")(z4:TB K "isinstance")(z5:TB K "len")(z6:TB K "list")(z7:TB K "max")(z8:TB K "range")(z9:TB K "set")(z10:TB K "sorted")(z11:TB K "sum")(z12:TB K "tuple")(z13:TB K "zip")(Z:Cls K mg CC_Walk tg_MOST_PLACES):
  ∃fd:FuncData,(∀(s:Shared) (v:Value),BindsTo s fd ⟨[v],[]⟩ [("_law_script",v)])/\∀base:Heap,K.In base->base.Ns mainGlobals mg->FnOk P w K mg base (gD P w) 16 fa fd ["_law_script"] (spLaw K):=by
 obtain⟨f,fd,F,m⟩:=(t34 X G).ex;have e:=hfa.symm.trans m;cases e;refine⟨fd,?_,λbase z z=>?_⟩
 ·obtain⟨oc,od,kV,doc,pm,an,cdv,ct,osl,rfl,_⟩:=F.ex;exact λs v=>.of_eq rfl
 have yz0:=Ut X G z0;have yz1:=Ut X G z1;have yz2:=Ut X G z2;have yz3:=Ut X G z3;have yz4:=Ut X G z4;have yz5:=Ut X G z5;have yz6:=Ut X G z6;have yz7:=Ut X G z7;have yz8:=Ut X G z8;have yz9:=Ut X G z9;have yz10:=Ut X G z10;have yz11:=Ut X G z11;have yz12:=Ut X G z12;have yz13:=Ut X G z13;have D0:DefD P w K mg base _ _ _ xF:=okd (t0 X G) Aw ((uU).2 yz1 yz3 yz4);have D1:DefD P w K mg base _ _ _ xu:=okn (λN=>dC N) (t1 X G) iC P0 λN=>(fB N).2
 have D2:DefD P w K mg base _ _ _ Bb:=okd (t2 X G) vO ((pO xF).2 D0 yz0 yz4 yz5 yz12);have D3:DefD P w K mg base _ _ _ Ek:=okd (t3 X G) Ar ((uR Bb).2 D2 yz0 yz4 yz5 yz12);have D4:DefD P w K mg base _ _ _ Ep:=okd (t4 X G) Av ((uT xF).2 D0);have D5:DefD P w K mg base _ _ _ Fri:=okd (t5 X G) zW ((sW).2 yz0 yz5 yz8);have D6:DefD P w K mg base _ _ _ xO:=okd (t6 X G) pA ((iB Ep Fri).2 D4 D5 yz0 yz4 yz12);have D7:DefD P w K mg base _ _ _ jC:=okd (t7 X G) vP ((pP).2 Z.o_Walk yz2 yz12);have D8:DefD P w K mg base _ _ _ pG:=okn (λN=>fK N) (t8 X G) lZ PX λN=>(iR N).2
 have M9:MethD P w K mg base _ "Walk" _ _ _ _ ji:=QX t9 Z.o_Walk.at_ Z.o_Walk.cls u5 ((nW).2 Z.o_Walk yz5);have D10:DefD P w K mg base _ _ _ Jw:=okd (t10 X G) wG ((uf jC pG ji).2 D7 D8 M9 yz5 yz8 yz10 yz12);have D11:DefD P w K mg base _ _ _ xR:=okd (t11 X G) qM ((mK Jw).2 D10 yz0 yz10 yz12);have D12:DefD P w K mg base _ _ _ xP:=okd (t12 X G) rW ((gq xR xO ji).2 D11 D6 M9 yz5);have D13:DefD P w K mg base _ _ _ Be:=okd (t13 X G) vd ((qC xP jC pG xu).2 D12 D7 D8 D1);have D14:DefD P w K mg base _ _ _ Et:=okd (t14 X G) sX ((o4 Be jC pG).2 D13 D7 D8 yz8 yz12);have D15:DefD P w K mg base _ _ _ xr:=okd (t15 X G) rT ((kW).2 yz10);have D16:DefD P w K mg base _ _ _ xx:=okd (t16 X G) zV ((sV).2 yz0);have D17:DefD P w K mg base _ _ _ xK:=okd (t17 X G) ou ((jw).2 yz2);have D18:DefD P w K mg base _ _ _ Bc:=okn (λN=>eV N jC xx xr xK ji) (t18 X G) lC PQ λN=>(gW N jC xx xr xK ji).2 D7 D16 D15 D17 M9 yz5 yz8 yz12
 have D19:DefD P w K mg base _ _ _ vR:=okd (t19 X G) u9 ((lY xR Et Bc).2 D11 D14 D18 yz5);have D20:DefD P w K mg base _ _ _ El:=okd (t20 X G) lB ((lX Ek).2 D3 Z.m_MOST_PLACES yz0 yz4 yz5 yz11 yz12);have M21:MethD P w K mg base _ "Walk" _ _ _ _ Fin:=QX t21 Z.o_Walk.at_ Z.o_Walk.cls um ((lW El).2 D20 Z.o_Walk yz11);have W_Walk:ClsD P w K mg base _ "Walk" xj:=Q8 M21 (λz z z z z z us hl=>match us,hl with | [_,_],_=>rfl) (λC hC=>by have q:=hC.symm.trans Z.o_Walk.at_;cases q;exact Z.k_Walk) Pz
 have D22:DefD P w K mg base _ _ _ xq:=okd (t22 X G) u6 ((nY).2 yz5);have D23:DefD P w K mg base _ _ _ Es:=okd (t23 X G) qK ((sS).2 );have D24:DefD P w K mg base _ _ _ xN:=okd (t24 X G) oh ((ju).2 yz3 yz7);have D25:DefD P w K mg base _ _ _ Em:=okd (t25 X G) qI ((mH Es).2 D23);have D26:DefD P w K mg base _ _ _ xQ:=okd (t26 X G) qL ((mJ Em).2 D25 yz3 yz5 yz6 yz8 yz12);have D27:DefD P w K mg base _ _ _ oF:=okd (t27 X G) wO ((qz).2 yz1 yz3 yz4);have D28:DefD P w K mg base _ _ _ xM:=okd (t28 X G) vN ((pN oF).2 D27 yz4 yz5 yz8 yz12) (λz z z z z z us hl=>match us,hl with | [_,_,_,_,_],_=>rfl)
 have D29:DefD P w K mg base _ _ _ Er:=okd (t29 X G) qJ ((jF oF xM).2 D27 D28 yz0 yz2 yz4 yz5 yz12);have D30:DefD P w K mg base _ _ _ xH:=okd (t30 X G) lw ((gU oF).2 D27 yz4 yz5 yz6 yz9 yz10 yz12);have D31:DefD P w K mg base _ _ _ xG:=okd (t31 X G) jG ((gm xH).2 D30 yz2 yz4 yz5 yz8 yz12 yz13);have D32:DefD P w K mg base _ _ _ Eo:=okd (t32 X G) pQ ((kJ).2 yz5 yz8);have D33:DefD P w K mg base _ _ _ xJ:=okd (t33 X G) pR ((kO Eo xG Er).2 D32 D31 D29 yz3 yz4 yz5 yz12);exact ((RV (P:=P) (w:=w) (base:=base) F Hh λcdv A outer s H E hr=>(DK xq xN xQ vR xJ xj).2 D22 D24 D26 D19 D33 W_Walk Z.o_Walk yz8 hr).imp λvs H Q E h=>QB Z.nl h).mono (by decide)
def walk{l:PySem.W.OpenLaw}{q:Program}{loose:List Str}{XP:(Str->Option Value)->Heap->Prop}{YP:World->Heap->Prop}{d:DefRec}{K:Params->PySem.W.Frag}(hn:l.most=some 63)(hdf:d.params.defaults=[])
  (hY:∀(w:World) (h:Heap),YP w h->(K w.params).In h)
  (F:∀(w:World) (mg:Str->Option Value) (fa:Addr) (h:Heap),(K w.params).In h->h.Ns mainGlobals mg->mg d.name=some (.ref fa)->
    ∃fd:FuncData,(∀(s:Shared) (u:Value),BindsTo s fd ⟨[u],[]⟩ [("_law_script",u)])/\∀base:Heap,(K w.params).In base->base.Ns mainGlobals mg->FnOk l.prog w (K w.params) mg base (gD l.prog w) 16 fa fd ["_law_script"] (spLaw (K w.params))) :
  PySem.W.WalkO q loose XP YP l.row.toRowW d [] (λf vs=>PySem.call f vs):=
 L2.walk_of (n:=63) (k:=16) (x := "_law_script") (CX:=λw=>gD l.prog w) (sp:=λw=>spLaw (K w.params)) hn (by decide) hdf ⟨rfl,by decide,by decide,rfl⟩ hY F (λy y a ns hl y hS=>⟨a,ns,rfl,hS,hl,λy=>rfl⟩) λy y y y y z=>by obtain⟨_,_,_,_,_,_,_,_,_,_,_,_,_,q⟩:=z;exact q.elim
end K
open PySem PySem.W PyProof.Rows
set_option maxRecDepth 100000 in
set_option maxHeartbeats 0 in
theorem PySem.Challenge.cw_fadewalk_k34_forgets_or_not_holds : PySem.Challenge.rw_fadewalk_k34_forgets_or_not.Holds := by
 w_on;refine T.cut ?_
 k_fill
 refine K.walk (l:=PySem.Challenge.rw_fadewalk_k34_forgets_or_not) rfl rfl (λw h Y=>PySem.W.kIn_of Y) ?F
 case F=>
  intro w mg fa h KX G hmg
  refine' K.all_mk hmg KX G ?t0 ?t1 ?t2 ?t3 ?t4 ?t5 ?t6 ?t7 ?t8 ?t9 ?t10 ?t11 ?t12 ?t13 ?t14 ?t15 ?t16 ?t17 ?t18 ?t19 ?t20 ?t21 ?t22 ?t23 ?t24 ?t25 ?t26 ?t27 ?t28 ?t29 ?t30 ?t31 ?t32 ?t33 ?t34 ?z0 ?z1 ?z2 ?z3 ?z4 ?z5 ?z6 ?z7 ?z8 ?z9 ?z10 ?z11 ?z12 ?z13 (K.MN KX G ?g_MOST_PLACES ?cm_Walk ?pg_Walk ?hd_Walk ?po_Walk ?sa_Walk ?mk_Walk ?kc_Walk ?nf_Walk_rows ?nf_Walk_whole ?nl)
  case cm_Walk=>k_is
  case g_MOST_PLACES | pg_Walk | hd_Walk | po_Walk | sa_Walk | mk_Walk | kc_Walk | nf_Walk_rows | nf_Walk_whole | nl=>first | k_is | k_exc | kernel_rfl
  case t9 | t21=>apply L2.Gz<;>k_is
  case t0 | t1 | t2 | t3 | t4 | t5 | t6 | t7 | t8 | t10 | t11 | t12 | t13 | t14 | t15 | t16 | t17 | t18 | t19 | t20 | t22 | t23 | t24 | t25 | t26 | t27 | t28 | t29 | t30 | t31 | t32 | t33 | t34=>apply L3.QF<;>k_is
  case z0 | z1 | z2 | z3 | z4 | z5 | z6 | z7 | z8 | z9 | z10 | z11 | z12 | z13=>delta L3.TB;k_is
