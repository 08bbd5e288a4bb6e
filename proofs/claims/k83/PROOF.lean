import PyProof.Rows.All
import Wide.All
import OpenK.AllK
import Wide.FinOn
import Lean
import PyProof.EqAt
import PyProof.EqKinds
import PyProof.TupleCall
import PyProof.ReprRoads
import PyProof.P3Eq
import PyProof.NeData
import PyProof.ReprLen
import PyProof.Rows.RegStrFacts
import OpenK.KOwn
import PyProof.StationsW
import PyProof.Rows.Catch
import PyProof.Rows.Own
import PyProof.RulesAs
import PyProof.ExcBaseAll.ValueError
import PyProof.NsDelKeeps
import PyProof.ExcArgsOwn
import PyProof.ExcAttrAll.ValueError
import PyProof.CompFree
import PyProof.CompMap
import PyProof.ConsumeWalk
import PyProof.SumWalk
import PyProof.Rows.TupIter
import PyProof.Rows.SumGenD
import PyProof.FString
import PyProof.Rows.FStr
import PyProof.Rows.RuleIs
import PyProof.FactsAll.tuple_iterator_1
import PyProof.FactsAll.tuple_2
import PyProof.FactsAll.list_3
import PyProof.Cells
import PyProof.ZipIter
import PyProof.EnumMake
import PyProof.EnumFor
import PyProof.ListRange
import PyProof.TupleOfSeq
import PyProof.Rows.SetFrom
import PyProof.Rows.SortShell
import PyProof.CollectWalk
import PyProof.FactsAll.set_1
import PyProof.Rows.SortWalk
import PyProof.FactsAll.set_2
import KE.KDictSum
import KE.KRevIter
import PyProof.FactsAll.range_2
import KE.KSortTup
import PyProof.TupleKey
import PyProof.IsRules
import KE.KTupSum
import PyProof.WalkInts
import PyProof.SeqI3
import PyProof.Conv_int_bool
import PyProof.ListOps
import PySem.Challenge.RW_fadewalk_k83_walks_watched
section
open PySem PySem.Spec PySem.W PySem.Calls PyProof.Rows
def RD:=@wpAny_bind
def RG:=@Heap.get?_push_of_some
def RJ:=@wpAny_pure
def RK:=@List.getElem?_eq_some_iff
def RL:=@Option.map_eq_some_iff
def RM:=@Heap.get?_push_size
def RN:=@Heap.lt_size
def RP:=@Option.some.inj
def RQ:=@Nat.lt_of_lt_of_le
def RT:=@List.length_map
def RV:=@List.getElem?_eq_getElem
def RW:=@List.mem_range
def RX:=@Nat.le_refl
def RZ:=@List.getElem?_append_left
def R0:=@List.getElem?_map
def R1:=@if_pos
def R3:=@if_neg
def R4:=@Bool.false_ne_true
def R5:=@Nat.ne_of_lt
def R6:=@List.length_append
def R7:=@Nat.le_trans
def R8:=@List.mem_cons
def R9:=@List.size_toArray
def Sd:=@List.map_congr_left
def Sg:=@wpAny_mono
def Sh:=@List.getElem?_append_right
def Ss:=@List.getElem?_eq_none_iff
def Su:=@List.mem_append
def Sv:=@List.length_range
def Sw:=@Option.bind_eq_some_iff
def Sx:=@List.getD_eq_getElem?_getD
def Sy:=@Heap.size_push
def SJ:=@List.mem_singleton
def SM:=@PassesOwn.leaving
def SQ:=@wpAny_newObj_type
def SX:=@List.map_cons
def S5:=@decide_eq_true
def S6:=@List.mem_cons_of_mem
def S7:=@List.mem_of_getElem?
def S8:=@Bool.eq_iff_iff
def S9:=@List.mem_append_right
def Tc:=@wpAny_call_entry
def Td:=@List.getElem_mem
def Te:=@List.mem_map
def Tf:=@wpAny_callSpecial?_slot
def Tg:=@wpAny_field
def Th:=@PyProof.Rows.callWith_type1
def Ti:=@Nat.zero_add
def Tj:=@PySem.W.mg_none_of
def Tp:=@List.mem_cons_self
def Tq:=@List.map_map
def Tr:=@Nat.pow_le_pow_right
def Tt:=@List.ext_getElem
def Tu:=@Nat.lt_of_le_of_lt
def Tv:=@List.length_replicate
def Tw:=@List.getElem?_range
def Tz:=@wpAny_holding
def TF:=@List.length_cons
def TJ:=@decide_eq_false
def TQ:=@Int.toNat_natCast
def TV:=@List.mem_filter
def TX:=@of_decide_eq_true
def TY:=@List.getElem?_set_self
def T3:=@PySem.mem_of_lookup
def T4:=@wpAny_setState_of
def T5:=@List.map_append
def T6:=@Nat.eq_zero_or_pos
def T7:=@List.getElem?_set_ne
def T8:=@Int.zero_add
def T9:=@Nat.lt_succ_self
def Ua:=@Array.getElem?_eq_getElem
def Ub:=@wpAny_seqItems
def Uc:=@PySem.W.kia_one
def Ud:=@List.range_succ
def Ue:=@Int.natCast_mul
def Ug:=@PySem.F.plainAttrs_list
def Uh:=@List.range_eq_range'
def Ui:=@wpAny_setField
def Uj:=@List.getElem?_eq_none
def Uk:=@PySem.F.slot_list_append
def Ul:=@PySem.F.type_list_append
def Um:=@Bool.and_eq_true
def Uo:=@Around.under_plainId
def Up:=@Nat.not_lt
def Uq:=@List.append_assoc
def Ur:=@decide_eq_true_eq
def Ut:=@wpAny_truthy_bool
def Uu:=@pushCells_keeps
def Uv:=@wpAny_setEntries_of
def Uw:=@List.filter_eq_self
def Ux:=@beq_eq_false_iff_ne
def Uy:=@List.replicate_succ
def Uz:=@List.take_of_length_le
def UG:=@Heap.get?_update_other
def UJ:=@Nat.lt_irrefl
def UL:=@Nat.mod_lt
def UT:=@wpAny_askSetting
def UV:=@List.pairwise_cons
def UW:=@List.pairwise_iff_getElem
def U0:=@PyProof.Rows.slot_tuple_getitem
def U3:=@Option.isSome_iff_exists
def U4:=@List.length_set
def U5:=@wpAny_rule
def U6:=@List.filter_congr
def U7:=@List.flatten_cons
def U8:=@wpAny_pyIter_list
def U9:=@wpAny_attempt
def Va:=@wpAny_standAt
def Vb:=@List.getElem?_replicate
def Vc:=@Heap.SameBut.update
def Vd:=@List.length_take
def Ve:=@List.length_drop
def Vf:=@List.lookup_cons
def Vg:=@assignInOrder_cons
def Vh:=@wpAny_passesOwn
def Vi:=@List.append_nil
def Vj:=@codeAny_builtin
def Vk:=@F.plain_list_iadd
def Vl:=@Nat.lt_succ_of_lt
def Vm:=@List.mem_append_left
def Vn:=@Nat.zero_le
def Vo:=@sizeLine_eq
def Vp:=@Nat.le_of_lt
def Vq:=@Nat.ne_of_gt
def Vr:=@List.take_succ_eq_append_getElem
def Vs:=@List.getElem?_cons_succ
def Vt:=@List.filter_append
def Vu:=@Nat.mul_pos
def Vv:=@wpAny_fieldsOf
def Vw:=@wpAny_typeOf
def Vy:=@ReprK.of_reads
def Vz:=@Nat.mul_le_mul
def VB:=@Heap.get?_update_self
def VD:=@Nat.mul_zero
def VF:=@F.slot_enumerate_next
def VG:=@List.mem_iff_getElem?
def VH:=@List.cons_append
def VJ:=@F.args_object_init_3
def VL:=@List.all_eq_true
def VM:=@Array.getElem?_eq_none_iff
def VN:=@List.sum_cons
def VP:=@Nat.mul_assoc
def VR:=@List.any_cons
def V0:=@wpAny_of_eq
def V1:=@slot_tupleiter_next
def V2:=@List.filterMap_cons
def V3:=@Nat.mul_le_mul_left
def V4:=@Calls.call_function_entry
def V5:=@Nat.eq_of_mul_eq_mul_left
def V6:=@List.exists_mem_of_ne_nil
def V7:=@wpAny_comprehension_free
def V8:=@List.map_nil
def V9:=@codeAny_mono
def Wa:=@PySem.F.args_tuple_add_2
def Wb:=@Array.forIn_toList
def Wc:=@Nat.lt_trans
def Wd:=@List.map_inj_right
def We:=@Calls.spliced_cons
def Wf:=@wpAny_Call_Name_kw
def Wg:=@List.zip_cons_cons
def Wh:=@callType_new
def Wi:=@AutoSeq1.wpAny_loadPart'
def Wj:=@wpAny_bindName
def Wk:=@List.filter_cons_of_pos
def Wl:=@PySem.F.entry_tuple_add
def Wm:=@List.filter_cons_of_neg
def Wn:=@Calls.spliced_nil
def Wo:=@List.nodup_append
def Wq:=@List.filter_eq_nil_iff
def Wr:=@PySem.F.slot_tuple_add
def Ws:=@wpAny_pyIter_rangeiter
def Wu:=@plainId_quiet
def Wv:=@F.typeCall_zip_2
def Ww:=@wpAny_isInstance
def Wx:=@List.length_filter_le
def Wy:=@F.plain_proto_collect
def Wz:=@Array.getElem?_toList
def WD:=@List.getElem_set_self
def WF:=@F.entry_proto_collect
def WL:=@wpAny_execs_nil
def WM:=@wpAny_specialOf
def WN:=@F.entry_zip_new
def WP:=@List.nodup_cons
def WQ:=@call_meets
def WR:=@Int.natCast_add
def WT:=@List.sum_append
def WW:=@Nat.mul_comm
def WX:=@List.mem_iff_getElem
def WY:=@F.newCall_zip_2
def W0:=@iter_tuple
def W2:=@IsTup.new
def W3:=@Paired.length
def W4:=@listUpdate_at
def W5:=@wpAny_pyIter_slot
def W6:=@Nat.lt_trichotomy
def W7:=@wpAny_load
def W8:=@beq_iff_eq
def W9:=@List.drop_eq_getElem_cons
def Xa:=@Nat.mod_eq_of_lt
def Xb:=@List.eq_of_mem_replicate
def Xc:=@List.length_eq_zero_iff
def Xd:=@List.foldl_cons
def Xe:=@List.of_mem_zip
def Xf:=@List.nil_append
def Xg:=@get?_update_seq
def Xh:=@codeAny_of_tree
def Xi:=@wpAny_runValue
def Xj:=@List.mem_of_mem_take
def Xk:=@List.mem_of_mem_drop
def Xl:=@List.all_cons
def Xm:=@Heap.get?_update_ne
def Xn:=@List.length_pos_iff
def Xo:=@Array.length_toList
end
set_option Elab.async false
set_option maxRecDepth 100000
set_option maxHeartbeats 8000000
namespace T
open PySem PySem.W PyProof.Rows
/-- the top's run over a tree -/
noncomputable def runT(p:Program)(w:World)(m:Nat)(a:Option Value):Nat->SharedT->Thread->Option SharedT
 | 0,_,_=>none
 | n + 1,s,t=>match through t with
   | true=>some s
   | false=>match stepOk m a t with
     | false=>none
     | true=>match stepT (denote treeTable) p w s t with
       | some r=>runT p w m a n r.1 r.2
       | none=>none
theorem run_of{p:Program}{w:World}{m:Nat}{a:Option Value}:∀ {n:Nat}{s s':SharedT}{t:Thread},runT p w m a n s t=some s'->topRun treeTable p w m a n s.abs t=some s'.abs
 | 0,_,_,_,h=>by cases h
 | n + 1,s,s',t,h=>by
   unfold runT at h;unfold topRun;cases ht:through t with
   | true=>rw [ht]at h;cases h;rfl
   | false=>
     rw [ht]at h;cases hk:stepOk m a t with
     | false=>rw [hk]at h;cases h
     | true=>
       rw [hk]at h;cases hs:stepT (denote treeTable) p w s t with
       | none=>rw [hs]at h;cases h
       | some r=>obtain ⟨s2,t2⟩:=r;rw [hs]at h;rw [stepT_spec hs];exact run_of h
noncomputable def grow:List Obj->Nat->BT->BT
 | [],_,t=>t
 | o::l,n,t=>grow l (n + 1) (t.ins n o)
noncomputable def bootT(B:Heap)(os:OsState):SharedT:=⟨grow B.objs.toList 0 .nil,B.objs.size,B.life,#[],boot_drawn,boot_toks,os⟩
noncomputable def bootA(w:World)(os:OsState):Shared:=⟨boot_heap w.params,#[],boot_drawn,boot_toks,os⟩
theorem boot_abs(w:World)(os:OsState):(bootT (boot_heap w.params) os).abs=bootA w os:=by kernel_rfl
theorem boot_ns(w:World):((boot_heap w.params).isNs mainGlobals && (#[]:Array GenState).size == 0)=true:=by kernel_rfl
noncomputable def chk{α:Type}(p q:Program)(loose:List Str)(Xt:Shared->Bool)(Yf:Shared->α)(N:Nat)(B:Heap)(w:World)(os:OsState):=
 (runT p w B.objs.size (B.nsMap mainGlobals "__annotations__") N (bootT B os) (topStub p)).map λs=>
   (staticsOk (importedModules p.main.body) B s.abs.heap && namesBound p s.abs.heap && gensDone s.abs && laidKept B s.abs.heap,openSeen q loose (importedModules p.main.body) Xt true s.abs,Yf s.abs)
theorem left{α:Type}{p q:Program}{loose:List Str}{Xt:Shared->Bool}{Yf:Shared->α}{Ya:World->α}{N:Nat}(e:opening p=plainProg p.main.scope.names)(hN:Nat.ble 600 N=true)(f:∀ s,fenceModules? p s=some s)
  (h:∀ (w:World) (os:OsState),chk p q loose Xt Yf N (boot_heap w.params) w os=some (true,openGood q loose,Ya w)):LeftO p q loose Xt Yf Ya N:=λw=>by
 obtain ⟨⟨hh,gs,d,k,os⟩,e1,e2⟩:=RL.mp (boot_open (N:=N) e hN f w);obtain ⟨rfl,rfl,rfl,rfl⟩:hh=boot_heap w.params/\gs=#[]/\d=boot_drawn/\k=boot_toks:=by simpa using e2
 obtain ⟨s,r1,r2⟩:=RL.mp (h w os);have r:=run_of r1;rw [boot_abs]at r;obtain ⟨l1,l2,l3⟩:_/\_/\_:=by simpa only [Prod.mk.injEq] using r2
 unfold openEnds topFrom;rw [e1];show (match (boot_heap w.params).isNs mainGlobals && (#[]:Array GenState).size == 0 with | true=>_ | false=>_:Option Shared).map _=_
 rw [boot_ns];show ((topRun treeTable p w (boot_heap w.params).objs.size _ N (bootA w os) (topStub p)).bind _).map _=_;rw [r];show (match staticsOk (importedModules p.main.body) (boot_heap w.params) s.abs.heap && namesBound p s.abs.heap && gensDone s.abs && laidKept (boot_heap w.params) s.abs.heap with | true=>_ | false=>_:Option Shared).map _=_
 rw [l1];show some (openSeen q loose (importedModules p.main.body) Xt true s.abs,Yf s.abs)=some _;rw [l2,l3]
noncomputable def tp(i:Nat):Stmt:=PySem.Challenge.pw_fadewalk_k83_walks_watched.main.body.getD i (.Pass ⟨0,0,0,0⟩)
noncomputable def view:Program:={ PySem.Challenge.pw_fadewalk_k83_walks_watched with main:={ PySem.Challenge.pw_fadewalk_k83_walks_watched.main with body:=[tp 0,tp 2,tp 3,tp 4,tp 5,tp 7,tp 8,tp 10,tp 11,tp 12,tp 13,tp 14,tp 15,tp 16,tp 18,tp 19,tp 20,tp 22,tp 24,tp 25,tp 26,tp 27,tp 29,tp 31,tp 32,tp 34,tp 35,tp 36,tp 37,tp 38,tp 39,tp 40,tp 41,tp 42,tp 43,tp 44,tp 45,tp 46] } }
noncomputable def loos:List Str:=["Walk"]
noncomputable def lvs:List (Str×WData):=[]
noncomputable def lhs(B:Heap)(as:List Addr)(w:World)(os:OsState):=chk PySem.Challenge.pw_fadewalk_k83_walks_watched view loos (λs=>xlAt view lvs s && recOk (RowW.records (OpenRow.toRowW (OpenLaw.row PySem.Challenge.rw_fadewalk_k83_walks_watched))) s) (λs=>as.map s.heap.get?) 4640 B w os
noncomputable def rhs(K:Params->Frag)(w:World):=some (true,openGood view loos,(K w.params).map λp=>some p.2)
end T
noncomputable def PySem.W.Fast.tw15505922041023568581:PySem.Program:=PySem.Challenge.pw_fadewalk_k83_walks_watched
theorem PySem.W.Fast.te15505922041023568581:PySem.Challenge.pw_fadewalk_k83_walks_watched=PySem.W.Fast.tw15505922041023568581:=rfl
namespace T
open PySem PySem.W PyProof.Rows
lay_quick T.lhs T.rhs
theorem hook{K:Params->Frag}{as:List Addr}{e:∀ P,as=(K P).map (·.1)}(h:∀ (w:World) (os:OsState),PySem.W.Fast.tw12313586583820656202 (boot_heap w.params) as w os=PySem.W.Fast.tw7420988445182104193 K w):
  LeftO PySem.Challenge.pw_fadewalk_k83_walks_watched view loos (λs=>xlAt view lvs s && recOk (RowW.records (OpenRow.toRowW (OpenLaw.row PySem.Challenge.rw_fadewalk_k83_walks_watched))) s) (Hook.obs (kHook K as e)) (Hook.val (kHook K as e)) 4640:=
 left rfl (by decide) (λ_=>rfl) λw os=>by show lhs (boot_heap w.params) as w os=rhs K w;rw [PySem.W.Fast.te12313586583820656202,PySem.W.Fast.te7420988445182104193];exact h w os
local macro_rules
 | `(tactic| o_head $H)=>`(tactic| (
   refine PySem.W.holds_open (q:=T.view) (loose:=T.loos)
    (Xt:=λs=>PySem.W.xlAt T.view T.lvs s && PySem.W.recOk (PySem.W.RowW.records (PySem.W.OpenRow.toRowW (PySem.W.OpenLaw.row PySem.Challenge.rw_fadewalk_k83_walks_watched))) s)
    (XP:=PySem.W.XL T.view T.lvs) (Yf:=PySem.W.Hook.obs $H) (Ya:=PySem.W.Hook.val $H)
    (YP:=PySem.W.Hook.says $H) (N:=4640) ?hl (PySem.W.Hook.of $H) (PySem.W.Hook.keeps $H)
    (λs e=>PySem.W.xl_of s (Bool.and_eq_true_iff.mp e).1) PySem.W.XL.keeps rfl rfl rfl
    (λs e=>PySem.W.recFacts_of (Bool.and_eq_true_iff.mp e).2) rfl
    (by first | assumption | decide +kernel) (by decide +kernel)
    ⟨rfl,rfl,rfl,rfl,rfl,by decide +kernel⟩ ?hw ?hc;(case hl=>exact T.hook (λw os=>by kernel_rfl))))
open_top cut for PySem.Challenge.rw_fadewalk_k83_walks_watched
end T
set_option linter.all false
set_option tactic.hygienic false
set_option bootstrap.genMatcherCode false
namespace L2
open PySem PySem.Spec PyProof.Rows
abbrev Key:=Sum Int Str
def keyIs:Key->Value->Bool
 |.inl k,v=>Value.isInt k v
 |.inr x,v=>Value.isStrOf x v
def keyH(w:World):Key->Int
 |.inl k=>hashInt k
 |.inr x=>hashStr w x
theorem keyIs_shape:∀ {k:Key}{v:Value},keyIs k v=true->(∃ i t,k=Sum.inl i/\v=Value.int i t)\/(∃ x t,k=Sum.inr x/\v=Value.str x t)
 |.inl i,v,h=>by obtain⟨t,e⟩:=Value.isInt_shape (k:=i) (v:=v) h;exact .inl ⟨i,t,rfl,e⟩
 |.inr x,v,h=>by obtain⟨t,e⟩:=Value.isStrOf_shape (x:=x) (v:=v) h;exact .inr ⟨x,t,rfl,e⟩
theorem keyIs_int(i:Int)(t:Tok):keyIs (.inl i) (.int i t)=true:=by simp[keyIs,Value.isInt]
theorem keyIs_str(x:Str)(t:Tok):keyIs (.inr x) (.str x t)=true:=by simp[keyIs,Value.isStrOf]
theorem key_ll(a b:Int):decide ((Sum.inl a:Key)=Sum.inl b)=(a==b):=by
 by_cases e:a=b
 ·subst e;simp
 ·have h:¬ (Sum.inl a:Key)=Sum.inl b:=λq=>e (Sum.inl.inj q)
  rw[TJ h];exact (Ux.mpr e).symm
theorem key_rr(a b:Str):decide ((Sum.inr a:Key)=Sum.inr b)=decide (a=b):=by
 by_cases e:a=b
 ·subst e;simp
 ·have h:¬ (Sum.inr a:Key)=Sum.inr b:=λq=>e (Sum.inr.inj q)
  rw[TJ h,TJ e]
theorem key_lr(a:Int)(b:Str):decide ((Sum.inl a:Key)=Sum.inr b)=false:=TJ (λq=>nomatch q)
theorem key_rl(a:Str)(b:Int):decide ((Sum.inr a:Key)=Sum.inl b)=false:=TJ (λq=>nomatch q)
def mixKind(prog:Program)(w:World):PySem.KeyKind prog w Key where
 is:=keyIs
 hash:=keyH w
 inj:=λv a b ha hb=>by
  rcases keyIs_shape ha with ⟨i,t,rfl,rfl⟩ | ⟨x,t,rfl,rfl⟩
  ·rcases keyIs_shape hb with ⟨j,u,rfl,e⟩ | ⟨y,u,rfl,e⟩
   ·injection e with e1 _;rw[e1]
   ·exact nomatch e
  ·rcases keyIs_shape hb with ⟨j,u,rfl,e⟩ | ⟨y,u,rfl,e⟩
   ·exact nomatch e
   ·injection e with e1 _;rw[e1]
 byValue:=λk v h=>by rcases keyIs_shape h with ⟨i,t,rfl,rfl⟩ | ⟨x,t,rfl,rfl⟩<;>rfl
 pyHash:=λhv h=>by
  rcases keyIs_shape hv with ⟨i,t,rfl,rfl⟩ | ⟨x,t,rfl,rfl⟩
  ·exact wpAny_pyHash_int h
  ·exact wpAny_pyHash_str h
 eqBool:=λhu hv h=>by
  rcases keyIs_shape hu with ⟨i,t,rfl,rfl⟩ | ⟨x,t,rfl,rfl⟩
  ·rcases keyIs_shape hv with ⟨j,u,rfl,rfl⟩ | ⟨y,u,rfl,rfl⟩
   ·rw[key_ll]at h;exact wpAny_eqBool_int h
   ·rw[key_lr]at h;exact SeqAt.EqAt.int_str i t y u _ _ _ _ h
  ·rcases keyIs_shape hv with ⟨j,u,rfl,rfl⟩ | ⟨y,u,rfl,rfl⟩
   ·rw[key_rl]at h;exact SeqAt.EqAt.str_int x t j u _ _ _ _ h
   ·rw[key_rr]at h;exact wpAny_eqBool_str h
 «strs»:=λk x t v h=>by
  rcases keyIs_shape h with ⟨i,u,rfl,e⟩ | ⟨y,u,rfl,e⟩
  ·exact nomatch e
  ·injection e with e1 _
   subst e1;cases v<;>rfl
theorem mixKind_is(prog:Program)(w:World)(k:Key)(v:Value):(mixKind prog w).is k v=keyIs k v:=rfl
theorem mixKind_int(prog:Program)(w:World)(i:Int)(t:Tok):(mixKind prog w).is (.inl i) (.int i t)=true:=keyIs_int i t
theorem mixKind_str(prog:Program)(w:World)(x:Str)(t:Tok):(mixKind prog w).is (.inr x) (.str x t)=true:=keyIs_str x t
open PySem PySem.Spec PyProof.Rows
inductive V where
 |non | bl (b:Bool) | int (i:Int) | str (x:Str) | byt (b:Array UInt8) | flt (b:UInt64) | ref (a:Addr) | ty (n:String)
 deriving DecidableEq
def RelV:V->Value->Prop
 |.non,u=>u=Value.none
 |.bl b,u=>u=Value.bool b
 |.int i,u=>∃t,u=Value.int i t
 |.str x,u=>∃t,u=Value.str x t
 |.byt b,u=>∃t,u=Value.bytes b t
 |.flt b,u=>∃t,u=Value.float b t
 |.ref a,u=>u=Value.ref a
 |.ty n,u=>u=Value.type n
abbrev Vals:List V->List Value->Prop:=Paired RelV
theorem Vals.length(r:Vals xs us):xs.length=us.length:=W3 r
theorem Vals.get:∀ {xs:List V}{us:List Value}{i:Nat}{x:V},Vals xs us->xs[i]?=some x->∃ u,us[i]?=some u/\RelV x u
 |_,_,_,_,.nil,e=>by simp at e
 |_,_,0,_,.cons r _,e=>by simp at e;subst e;exact⟨_,rfl,r⟩
 |_,_,i+1,x,.cons _ t,e=>by
   obtain⟨u,h1,h2⟩:=Vals.get (i:=i) (x:=x) t (by simpa using e)
   exact⟨u,by simpa using h1,h2⟩
theorem Vals.set(r:RelV x u):∀{xs:List V}{us:List Value} (i:Nat),Vals xs us->Vals (xs.set i x) (us.set i u)
 |_,_,_,.nil=>.nil
 |_,_,0,.cons _ t=>.cons r t
 |_,_,i+1,.cons q t=>.cons q (Vals.set r i t)
theorem Vals.append:∀{xs ys:List V}{us ws:List Value},Vals xs us->Vals ys ws->Vals (xs++ys) (us++ws)
 |_,_,_,_,.nil,s=>s
 |_,_,_,_,.cons r t,s=>.cons r (Vals.append t s)
theorem Vals.take:∀{xs:List V}{us:List Value} (n:Nat),Vals xs us->Vals (xs.take n) (us.take n)
 |_,_,0,_=>.nil
 |_,_,_+1,.nil=>.nil
 |_,_,n+1,.cons r t=>.cons r (Vals.take n t)
theorem Vals.drop:∀{xs:List V}{us:List Value} (n:Nat),Vals xs us->Vals (xs.drop n) (us.drop n)
 |_,_,0,r=>r
 |_,_,_+1,.nil=>.nil
 |_,_,n+1,.cons _ t=>Vals.drop n t
theorem Vals.none_of:∀{xs:List V}{us:List Value}{i:Nat},Vals xs us->xs[i]?=none->us[i]?=none:=λ{xs us i} r e=>by have h1:=r.length;have h2:xs.length<=i:=Ss.mp e;exact Ss.mpr (by omega)
def RelO:Option V->Option Value->Prop
 |some v,some u=>RelV v u
 |none,none=>True
 |_,_=>False
def KV{κ:Type}:List (κ×V)->List (κ×Value)->Prop:=Paired λ(p:κ×V) (q:κ×Value)=>p.1=q.1/\RelV p.2 q.2
def kV:Key->V
 |.inl i=>.int i
 |.inr x=>.str x
inductive HO where
 /-- a list -/
 |lst (xs:List V)
 /-- a tuple (never changes) -/
 |tup (xs:List V)
 /-- a dict whose keys are ints and texts;one whose keys are tuples of ints and texts (the empty one is both) -/
 |dK (kvs:List (Key×V)) | dT (kvs:List (List Key×V))
 /-- a set of ints: its members,its size -/
 |set (S:Int->Bool) (n:Nat)
 /-- an instance of the class at C,its dict at dx,its attributes -/
 |ins (C dx:Addr) (fs:List (Str×V))
 /-- the dict of the instance at x -/
 |own (x:Addr)
 /-- the dict of an exception -/
 |xd (fs:List (Str×V))
 /-- a bound method,f of x -/
 |met (f x:Addr)
 /-- a range object lo,lo+1,.. below hi -/
 |rng (lo hi:Int)
 /-- a thing that is known to the object (the script;a dict while a loop walks it): read,never written while it is so -/
 |frz (o:Obj) (u:HO)
 /-- a code object's table -/
 |tbl (ps:Array Value)
 /-- any other thing,by what is true of its one object (a def of one's own: SetO a S n:=HO.ext λh=>..) -/
 |ext (φ:Heap->Prop)
abbrev Hp:=Addr->Option HO
def upd(H:Hp)(a:Addr)(o:HO):Hp:=λb=>if b=a then some o else H b
theorem upd_same{H:Hp}{a:Addr}{o:HO}:upd H a o a=some o:=by unfold upd;rw[R1 rfl]
theorem upd_ne{H:Hp}{a b:Addr}{o:HO}(h:b≠a):upd H a o b=H b:=by unfold upd;rw[R3 h]
theorem upd_upd:upd (upd H a o) a u=upd H a u:=by funext b;unfold upd;split<;>rfl
theorem ne_of{H:Hp}{a b:Addr}{o u:HO}(h:H a=some o)(h':H b=some u)(d:o≠u):a≠b:=by intro e;subst e;rw[h]at h';exact d (RP h')
theorem ne_of_none{H:Hp}{a b:Addr}{o:HO}(h:H a=some o)(h':H b=none):a≠b:=by intro e;subst e;rw[h]at h';cases h'
def RecAt(H:Hp)(v:Value):Prop:=∃c o fs q t,v=.ref c/\H c=some (.frz o (.own c))/\o.data=.fields fs/\fs[1]?=some (.str q t)
section
variable(P:Program)(w:World)
def ObjOk(H:Hp)(h:Heap)(a:Addr):HO->Prop
 |.lst xs=>xs.length<=sizeLine/\∃(its:List Value) (n:Nat),Vals xs its/\h.get? a=some { cls:=.type "list",data:=.seq its.toArray n }
 |.tup xs=>xs.length<=sizeLine/\∃its:List Value,Vals xs its/\IsTup h a its.toArray
 |.dK kvs=>kvs.length<=sizeLine/\(a==sysModules)=false/\∃vs,KV kvs vs/\h.DictOf (mixKind P w) a vs
 |.dT kvs=>kvs.length<=sizeLine/\(a==sysModules)=false/\∃xs:List (List Key×Addr×Value),
   Paired (λ(p:List Key×V) (q:List Key×Addr×Value)=>p.1=q.1/\H q.2.1=some (.tup (p.1.map kV))/\RelV p.2 q.2.2) kvs xs /\
   ∃o es ep,h.get? a=some o/\o.ExactDict/\o.data=.dict es ep/\es.toList=xs.map (entryOfKey (tupleKind (mixKind P w)))/\(xs.map (·.1)).Nodup
 |.set S n=>h.SetOf (intKind P w) a S n
 |.ins C dx fs=>H dx=some (.own a)/\fs.length<=1000/\dx≠a/\h.get? a=some (PySem.W.instObj C dx) /\
   ∃mA,h.Ns1 dx mA/\(∀f,RelO (fs.lookup f) (mA f))/\PySem.Within mA (fs.map (·.1))
 |.own _=>∃o,h.get? a=some o
 |.xd fs=>∃mA,h.Ns1 a mA/\∀f,RelO (fs.lookup f) (mA f)
 |.rng lo hi=>∃t u v,h.get? a=some { cls:=.type "range",data:=.fields #[.int lo t,.int hi u,.int 1 v] }
 |.frz o u=>h.get? a=some o/\ObjOk H h a u
 |.tbl _=>∃ps:Array Value,h.get? a=some { cls:=.none,data:=.fields ps }/\TriplesOk ps.toList/\∀pos cv,codeAmong pos ps.toList=some cv->RecAt H cv
 |.met f x=>h.get? a=some (PySem.W.methodObj (.ref f) (.ref x))
 |.ext φ=>φ h/\(∃o,h.get? a=some o)/\∀h1 h2:Heap,φ h1->(∀o,h1.get? a=some o->h2.get? a=some o)->φ h2
def HOk(H:Hp)(h:Heap):Prop:=∀a o,H a=some o->ObjOk P w H h a o
end
section
variable{P:Program}{w:World}{H H':Hp}{h h':Heap}{a:Addr}{o:HO}
theorem ObjOk.lt(x:ObjOk P w H h a o):a<h.objs.size:=by
 cases o with
 |lst xs=>obtain⟨_,_,_,_,e⟩:=x;exact RN e
 |tup xs=>obtain⟨_,_,_,p⟩:=x;exact p.lt
 |dK kvs=>obtain⟨_,_,_,_,o,_,_,e,_⟩:=x;exact RN e
 |dT kvs=>obtain⟨_,_,_,_,o,_,_,e,_⟩:=x;exact RN e
 |set S n=>obtain⟨o,_,_,_,e,_⟩:=x;exact RN e
 |ins C dx fs=>obtain⟨_,_,_,e,_⟩:=x;exact RN e
 |own y=>obtain⟨_,e⟩:=x;exact RN e
 |xd fs=>obtain⟨_,⟨_,_,_,e,_⟩,_⟩:=x;exact RN e
 |rng lo hi=>obtain⟨_,_,_,e⟩:=x;exact RN e
 |frz ob u=>obtain⟨e,_⟩:=x;exact RN e
 |tbl ps=>obtain⟨_,e,_⟩:=x;exact RN e
 |met f y=>exact RN (show h.get? a=some _ from x)
 |ext φ=>obtain⟨_,⟨_,e⟩,_⟩:=x;exact RN e
theorem Paired.mapP:∀{l₁:List α}{l₂:List β},Paired F l₁ l₂->(∀a b,F a b->G a b)->Paired G l₁ l₂
 |_,_,.nil,_=>.nil
 |_,_,.cons r t,f=>.cons (f _ _ r) (Paired.mapP t f)
theorem ObjOk.stay(x:ObjOk P w H h a o)(k:∀ b u,(b=a\/H b=some (.own a))->h.get? b=some u->h'.get? b=some u)
  (ho:∀b,H b=some (.own a)->H' b=some (.own a)) (ht:∀b xs,H b=some (.tup xs)->H' b=some (.tup xs)) (hf:∀b o,H b=some (.frz o (.own b))->H' b=some (.frz o (.own b)):=by exact λs s q=>q):ObjOk P w H' h' a o:=by
 induction o with
 |lst xs=>obtain⟨z,its,n,r,e⟩:=x;exact⟨z,its,n,r,k _ _ (.inl rfl) e⟩
 |tup xs=>obtain⟨z,its,r,ob,e,c⟩:=x;exact⟨z,its,r,ob,k _ _ (.inl rfl) e,c⟩
 |dK kvs=>obtain⟨z,y,vs,r,ob,es,ep,e,c⟩:=x;exact⟨z,y,vs,r,ob,es,ep,k _ _ (.inl rfl) e,c⟩
 |dT kvs=>obtain⟨z,y,xs,r,ob,es,ep,e,c⟩:=x;exact⟨z,y,xs,Paired.mapP r λp q z=>⟨z.1,ht _ _ z.2.1,z.2.2⟩,ob,es,ep,k _ _ (.inl rfl) e,c⟩
 |set S n=>obtain⟨ob,es,ep,t,e,c⟩:=x;exact⟨ob,es,ep,t,k _ _ (.inl rfl) e,c⟩
 |ins C dx fs=>obtain⟨d,z,ne,e,mA,⟨od,es,ep,e2,c⟩,r⟩:=x;exact⟨ho _ d,z,ne,k _ _ (.inl rfl) e,mA,⟨od,es,ep,k _ _ (.inr d) e2,c⟩,r⟩
 |own y=>obtain⟨ob,e⟩:=x;exact⟨ob,k _ _ (.inl rfl) e⟩
 |xd fs=>obtain⟨mA,⟨od,es,ep,e,c⟩,r⟩:=x;exact⟨mA,⟨od,es,ep,k _ _ (.inl rfl) e,c⟩,r⟩
 |rng lo hi=>obtain⟨t,u,v,e⟩:=x;exact⟨t,u,v,k _ _ (.inl rfl) e⟩
 |frz ob u ih=>obtain⟨e,q⟩:=x;exact⟨k _ _ (.inl rfl) e,ih q⟩
 |tbl ps=>obtain⟨ps',e,z,r⟩:=x;exact⟨ps',k a _ (.inl rfl) e,z,λpos cv q=>let ⟨c,o,fs,q',t,g1,g2,g3⟩:=r pos cv q;⟨c,o,fs,q',t,g1,hf c o g2,g3⟩⟩
 |met f y=>have e:h.get? a=some (PySem.W.methodObj (.ref f) (.ref y)):=x;show h'.get? a=some (PySem.W.methodObj (.ref f) (.ref y));exact k a _ (.inl rfl) e
 |ext φ=>obtain⟨p,⟨o,e⟩,st⟩:=x;exact⟨st _ _ p λo q=>k _ _ (.inl rfl) q,⟨o,k _ _ (.inl rfl) e⟩,st⟩
theorem HOk.lt(x:HOk P w H h)(e:H a=some o):a<h.objs.size:=(x a o e).lt
theorem HOk.fresh(x:HOk P w H h)(e:h.objs.size<=a):H a=none:=by
 cases q:H a with
 |none=>rfl
 |some u=>exact absurd (RQ (x.lt q) e) (UJ _)
theorem HOk.kept(x:HOk P w H h)(k:∀b u,h.get? b=some u->h'.get? b=some u):HOk P w H h':=λa o e=>
 (x a o e).stay (λb u z q=>k b u q) (λz q=>q) λz z q=>q
theorem HOk.laid(x:HOk P w H h)(k:∀b u,h.get? b=some u->h'.get? b=some u)(hp:h.objs.size<=a)(new:ObjOk P w (upd H a o) h' a o):HOk P w (upd H a o) h':=λb u e=>by
 have hn:=x.fresh hp;by_cases hb:b=a
 ·subst hb;rw[upd_same]at e;cases e;exact new
 ·rw[upd_ne hb]at e;exact (x b u e).stay (λc v z q=>k c v q) (λc q=>by rw[upd_ne (ne_of_none q hn)];exact q) (λc xs q=>by rw[upd_ne (ne_of_none q hn)];exact q) λc o q=>by rw[upd_ne (ne_of_none q hn)];exact q
end
def Rd(H:Hp)(a:Addr)(u:HO):Prop:=H a=some u\/∃o,H a=some (.frz o u)
theorem Rd.ok(r:Rd H a u)(x:HOk P w H h):ObjOk P w H h a u:=by
 rcases r with r | ⟨o,r⟩
 ·exact x a u r
 ·obtain⟨_,q⟩:=x a _ r;exact q
def Mut:Option HO->Prop
 |some (.lst _)=>True
 |some (.dK _)=>True
 |some (.dT _)=>True
 |some (.set _ _)=>True
 |some (.ins _ _ _)=>True
 |some (.ext _)=>True
 |_=>False
section
variable{P:Program}{w:World}{H:Hp}{h h':Heap}{x e:Addr}{o':HO}
theorem HOk.write(ok:HOk P w H h)(mu:Mut (H x))(he:e=x\/H e=some (.own x))(k:∀ b u,b≠e->h.get? b=some u->h'.get? b=some u)(heo:∃ u,h'.get? e=some u)
  (new:ObjOk P w (upd H x o') h' x o'):HOk P w (upd H x o') h':=λb u q=>by
 have nown:∀c y,H c=some (.own y)->c≠x:=λc y r z=>by subst z;rw[r]at mu;exact mu
 have ntup:∀c xs,H c=some (.tup xs)->c≠x:=λc xs r z=>by subst z;rw[r]at mu;exact mu
 have nfrz:∀c o u,H c=some (.frz o u)->c≠x:=λc o u r z=>by subst z;rw[r]at mu;exact mu
 by_cases hb:b=x
 ·subst hb;rw[upd_same]at q;cases q;exact new
 ·rw [upd_ne hb]at q;by_cases hbe:b=e
  ·have q':H b=some (.own x):=by
    rcases he with z | z
    ·exact absurd (hbe.trans z) hb
    ·rw[hbe];exact z
   rw[q]at q';cases q';obtain⟨v,hv⟩:=heo;exact⟨v,by rw[hbe];exact hv⟩
  ·refine (ok b u q).stay (λc v hc r=>k c v ?_ r) (λc r=>by rw[upd_ne (nown c b r)];exact r) (λc xs r=>by rw[upd_ne (ntup c xs r)];exact r) λc o r=>by rw[upd_ne (nfrz c o _ r)];exact r
   rcases hc with rfl | hc
   ·exact hbe
   ·rintro rfl;rcases he with z | z
    ·exact nown c b hc z
    ·rw[hc]at z;cases z;exact hb rfl
end
structure Un(fs ex:List Addr)(H H':Hp)(h h':Heap):Prop where
 keep:∀b o,h.get? b=some o->H b=none->b∉fs->b∉ex->h'.get? b=some o
 slot:∀b o,h.get? b=some o->H b=none->b∈fs->b∉ex->∃sl,h'.get? b=some { o with slots:=sl }
 free:∀b o,h.get? b=some o->H b=none->b∉ex->H' b=none
 there:∀b o,h.get? b=some o->b∉ex->∃o',h'.get? b=some o'
 tups:∀b xs,H b=some (.tup xs)->H' b=some (.tup xs)
 frzs:∀b o u,H b=some (.frz o u)->H' b=some (.frz o u)
 tbls:∀b ps,H b=some (.tbl ps)->∃more,H' b=some (.tbl (ps++more))
section
variable{fs fs' ex ex':List Addr}{H H1 H2:Hp}{h h1 h2 h':Heap}{a x e:Addr}{o:HO}
theorem Un.any(u:Un fs ex H H1 h h1)(q:h.get? b=some ob)(n:H b=none)(hx:b∉ex):∃sl,h1.get? b=some { ob with slots:=sl }:=by
 by_cases hb:b∈fs
 ·exact u.slot b ob q n hb hx
 ·exact⟨ob.slots,u.keep b ob q n hb hx⟩
theorem Un.kept(k:∀b u,h.get? b=some u->h'.get? b=some u):Un fs ex H H h h':=
 ⟨λb ob q z z z=>k b ob q,λb ob q z z z=>⟨ob.slots,k b ob q⟩,λz z z n z=>n,λb ob q z=>⟨ob,k b ob q⟩,λz z q=>q,λz z z q=>q,λz ps q=>⟨#[],by rw[q];simp⟩⟩
theorem Un.refl:Un fs ex H H h h:=Un.kept λz z q=>q
theorem Un.laid(k:∀b u,h.get? b=some u->h'.get? b=some u)(hp:h.objs.size<=a)(hn:H a=none):Un fs ex H (upd H a o) h h' where
 keep:=λb u q z z z=>k b u q
 slot:=λb u q z z z=>⟨u.slots,k b u q⟩
 free:=λb u q n z=>by rw[upd_ne (R5 (RQ (RN q) hp))];exact n
 there:=λb u q z=>⟨u,k b u q⟩
 tups:=λb xs q=>by rw[upd_ne (ne_of_none q hn)];exact q
 frzs:=λb u xs q=>by rw[upd_ne (ne_of_none q hn)];exact q
 tbls:=λb ps q=>⟨#[],by rw[upd_ne (ne_of_none q hn),q];simp⟩
theorem Un.write(mu:Mut (H x))(he:e=x\/H e=some (.own x))(k:∀b u,b≠e->h.get? b=some u->h'.get? b=some u)(heo:∃u,h'.get? e=some u):Un fs ex H (upd H x o) h h':=by
 have hx:∀b,H b=none->b≠x:=λb n z=>by subst z;rw[n]at mu;exact mu
 have hb:∀b,H b=none->b≠e:=λb n z=>by
  subst z;rcases he with r | r
  ·exact hx b n r
  ·rw[n]at r;cases r
 have hm:∀b u,H b=some u->¬ Mut (some u)->b≠x:=λb u q nm z=>by subst z;rw[q]at mu;exact nm mu
 refine⟨λb u q n y y=>k b u (hb b n) q,λb u q n y y=>⟨u.slots,k b u (hb b n) q⟩,λb u q n y=>by rw[upd_ne (hx b n)];exact n,λb u q y=>?_,
  λb xs q=>by rw[upd_ne (hm b _ q λz=>z)];exact q,λb u xs q=>by rw[upd_ne (hm b _ q λz=>z)];exact q,λb ps q=>⟨#[],by rw[upd_ne (hm b _ q λz=>z),q];simp⟩⟩
 by_cases hbe:b=e
 ·subst hbe;exact heo
 ·exact⟨u,k b u hbe q⟩
end
def trk(h:Heap)(H:Hp):List Addr:=(List.range h.objs.size).filter λa=>(H a).isSome
def hidT(h:Heap)(H:Hp):Heap:=PySem.W.hideAll h (trk h H)
theorem hidT_size(h:Heap)(H:Hp):(hidT h H).objs.size=h.objs.size:=PySem.W.hideAll_size _ _
theorem hidT_get(e:h.get? b=some o)(n:H b=none):(hidT h H).get? b=some o:=
 PySem.W.hideAll_get _ e λhm=>by have q:(H b).isSome=true:=(TV.mp hm).2;rw[n]at q;simp at q
theorem of_hidT(e:(hidT h H).get? b=some o):h.get? b=some o/\H b=none:=by
 have e':h.get? b=some o:=PySem.W.of_hideAll (trk h H) e;refine⟨e',?_⟩;cases q:H b with
 |none=>rfl
 |some x=>
   have hm:b∈trk h H:=TV.mpr ⟨RW.mpr (RN e'),by simp[q]⟩
   have z:(hidT h H).get? b=none:=PySem.W.hideAll_none (trk h H) hm;rw[z]at e;cases e
def allNews(g h:Heap)(L:Addr):List (Addr×Obj):=(List.range h.objs.size).filterMap λa=>if a=L\/(g.get? a).isSome=true then none else (h.get? a).map λo=>(a,o)
def rest(g h:Heap)(L d:Addr):List (Addr×Obj):=(allNews g h L).filter λp=>decide (p.1≠d)
open PySem PySem.Spec PyProof.Rows
structure Mod(K:PySem.W.Frag)(mg:Str->Option Value)(base:Heap):Prop where
 kin:K.In base
 glob:base.Ns mainGlobals mg
 blt:∃mb,base.Ns builtinsNs mb/\∀x:Str,x≠"__name__"->mb x=bootBuiltins x
 nolimit:base.NoLimit
structure Cx where
 prog:Program
 w:World
 K:PySem.W.Frag
 mg:Str->Option Value
 base:Heap
 A:Around
 N:List Str
 s₀:Shared
 H₀:Hp
 env:Env
 outer:List Env
 stack:List Env
 ex:List Addr
 fn:Str->Bool
 calm:Bool
 pn:List (Addr×Obj)
 xe:Value->Shared->Prop
def frs(l:List Env):List Addr:=l.filterMap (·.frame)
abbrev Cx.fs(X:Cx):List Addr:=frs X.outer
def Vis(sc:Scope)(x:Str):Prop:=sc.names.lookup x=some .local\/sc.names.lookup x=some .cell\/sc.names.lookup x=some .free
def Loc(sc:Scope)(x:Str):Prop:=sc.names.lookup x=some .local\/sc.names.lookup x=some .cell
def Look(env:Env)(h:Heap)(m:Str->Option Value)(x:Str)(u:Value):Prop:=
 (env.kindOf x=some .local/\m x=some u)\/((env.kindOf x=some .cell\/env.kindOf x=some .free)/\∃c,env.cells.lookup x=some c/\h.IsCell c (some u))
structure Cx.Ok(X:Cx):Prop where
 mod:Mod X.K X.mg X.base
 kind:X.env.scope.kind=.function
 glob:X.env.globals=mainGlobals
 blt:X.env.builtins=builtinsNs
 above:X.s₀.heap.objs.size<=X.env.locals
 inj:∀x y c,X.env.cells.lookup x=some c->X.env.cells.lookup y=some c->x=y
 has:∀x,(X.env.kindOf x=some .cell\/X.env.kindOf x=some .free)->∃c,X.env.cells.lookup x=some c
 cab:∀x c,X.fn x=true->X.env.cells.lookup x=some c->X.s₀.heap.objs.size<=c
 hd:X.calm=true->X.A.handled=none
 frames:X.A.frames=some X.stack
 stk:X.stack=X.outer\/(X.stack=X.env::X.outer/\X.env.frame=some X.env.locals)
 exf:∀b∈X.ex,b≠X.env.locals/\∀x c,X.env.cells.lookup x=some c->c≠b
 bs:∀b o,X.base.get? b=some o->X.s₀.heap.get? b=some o/\X.H₀ b=none
 bsz:X.base.objs.size<=X.s₀.heap.objs.size
 noex:∀b o,X.base.get? b=some o->b∉X.ex
 exfs:∀b∈X.ex,b∉X.fs
 funs:X.s₀.heap.FunFrames X.base X.outer
 frf:∀b∈X.fs,X.H₀ b=none
structure Inv(X:Cx)(Xp:List (Addr×Obj))(σ:List (Option V))(H:Hp)(s:Shared):Prop where
 ok:X.Ok
 os:s.os=X.s₀.os
 bare:AllBare s.gens
 base:Un X.fs X.ex X.H₀ H X.s₀.heap s.heap
 loc:∃m,s.heap.Ns X.env.locals m/\∀(i:Nat) (x:Str) (v:V),X.N[i]?=some x->σ[i]?=some (some v)->Vis X.env.scope x->∃u,RelV v u/\Look X.env s.heap m x u
 cell:∀x c,X.env.cells.lookup x=some c->∃v,s.heap.IsCell c v
 free:H X.env.locals=none
 freeC:∀x c,X.env.cells.lookup x=some c->H c=none
 pin:∀p∈X.pn++Xp,s.heap.get? p.1=some p.2/\H p.1=none/\p.1≠X.env.locals/\p.1∉X.fs/\∀v,p.2.data≠.cell v
 hok:HOk X.prog X.w H s.heap
 len:σ.length=X.N.length
section
variable{X:Cx}{Xp:List (Addr×Obj)}{σ:List (Option V)}{H H':Hp}{s:Shared}{h':Heap}
theorem Cx.Ok.nofr(ok:X.Ok)(e:X.base.get? b=some o):b∉X.fs:=λhb=>by have:=(ok.funs.mem hb).1;rw[e]at this;cases this
theorem Inv.bs(I:Inv X Xp σ H s):∀b o,X.base.get? b=some o->s.heap.get? b=some o/\H b=none:=λb o e=>
 ⟨I.base.keep b o (I.ok.bs b o e).1 (I.ok.bs b o e).2 (I.ok.nofr e) (I.ok.noex b o e),I.base.free b o (I.ok.bs b o e).1 (I.ok.bs b o e).2 (I.ok.noex b o e)⟩
theorem Inv.bk(I:Inv X Xp σ H s):∀b o,X.base.get? b=some o->s.heap.get? b=some o:=λb o e=>(I.bs b o e).1
theorem Inv.mod(I:Inv X Xp σ H s):Mod X.K X.mg X.base:=I.ok.mod
theorem Inv.kIn(I:Inv X Xp σ H s):X.K.In s.heap:=I.ok.mod.kin.keeps I.bk
theorem Inv.lt(I:Inv X Xp σ H s):X.env.locals<s.heap.objs.size:=let ⟨_,hn,_⟩:=I.loc;hn.lt
theorem Inv.sz(I:Inv X Xp σ H s):X.s₀.heap.objs.size<=s.heap.objs.size:=R7 I.ok.above (Vp I.lt)
theorem Inv.nofs(I:Inv X Xp σ H s)(h:s.heap.objs.size<=a):a∉X.fs:=λhb=>by obtain⟨_,o,ho,_⟩:=I.ok.funs.mem hb;exact absurd (RQ (RN ho) (R7 I.sz h)) (UJ _)
theorem Inv.cne(I:Inv X Xp σ H s):∀x c,X.env.cells.lookup x=some c->c≠X.env.locals:=λx c e z=>by obtain⟨v,o,ho,hd⟩:=I.cell x c e;obtain⟨m,⟨o',es,ep,ho',hd',_⟩,_⟩:=I.loc;rw[z,ho']at ho;cases ho;rw[hd']at hd;cases hd
theorem Inv.funs(I:Inv X Xp σ H s):s.heap.FunFrames X.base X.outer:=by
 have all:∀ (l:List Env),(∀ b∈frs l,b∈X.fs)->X.s₀.heap.FunFrames X.base l->s.heap.FunFrames X.base l:=by
  intro l;induction l with
  |nil=>intro _ _;trivial
  |cons env r ih=>
    intro hs hl;obtain⟨hk,⟨L,o,hf,hn,ho,hd⟩,hr⟩:=hl;have hL:L∈X.fs:=hs L (by unfold frs;rw[V2,hf];exact Tp)
    obtain⟨sl,e⟩:=I.base.slot L o ho (I.ok.frf L hL) hL λz=>I.ok.exfs L z hL
    exact⟨hk,⟨L,_,hf,hn,e,hd⟩,ih (λb hb=>hs b (by unfold frs;rw[V2,hf];exact S6 _ hb)) hr⟩
 exact all X.outer (λy hb=>hb) I.ok.funs
theorem Inv.stack(I:Inv X Xp σ H s):s.heap.FunFrames X.base X.stack:=by
 rcases I.ok.stk with e | ⟨e,hf⟩
 ·rw[e];exact I.funs
 ·rw[e];obtain⟨m,hn,_⟩:=I.loc;refine .cons (by rw[I.ok.kind];decide) hf hn ?_ I.funs
  exact Heap.get?_none_of_le (R7 I.ok.bsz I.ok.above)
theorem Inv.stkSub(I:Inv X Xp σ H s):∀b∈frs X.stack,b∈X.env.locals::X.fs:=λb hb=>by
 rcases I.ok.stk with e | ⟨e,hf⟩
 ·rw[e]at hb;exact S6 _ hb
 ·rw[e]at hb;unfold frs at hb;rw[V2,hf]at hb;exact hb
theorem Inv.stkFree(I:Inv X Xp σ H s):∀b∈frs X.stack,H b=none:=λb hb=>by
 rcases R8.mp (I.stkSub b hb) with e | hb
 ·rw[e];exact I.free
 ·obtain⟨_,o,ho,_⟩:=I.ok.funs.mem hb;exact I.base.free b o ho (I.ok.frf b hb) λz=>I.ok.exfs b z hb
theorem Inv.step{g':Array GenState}{t':Nat}{ch:List Addr}(I:Inv X Xp σ H s)
  (hch:∀b∈ch,(b∈X.ex\/X.s₀.heap.objs.size<=b)/\b≠X.env.locals/\(∀x c,X.env.cells.lookup x=some c->c≠b)/\∀p∈X.pn++Xp,p.1≠b)
  (keep:∀b o,b≠X.env.locals->b∉X.fs->b∉ch->s.heap.get? b=some o->H b=none->h'.get? b=some o)
  (slot:∀b o,b≠X.env.locals->b∈X.fs->b∉ch->s.heap.get? b=some o->H b=none->∃sl,h'.get? b=some { o with slots:=sl }) (free:∀b o,b∉ch->s.heap.get? b=some o->H b=none->H' b=none)
  (there:∀b o,b∉ch->s.heap.get? b=some o->∃o',h'.get? b=some o')
  (tups:∀b xs,H b=some (.tup xs)->H' b=some (.tup xs)) (frzs:∀b o u,H b=some (.frz o u)->H' b=some (.frz o u)) (tbls:∀b ps,H b=some (.tbl ps)->∃more,H' b=some (.tbl (ps++more)))
  (ns:∀m,s.heap.Ns X.env.locals m->h'.Ns X.env.locals m) (hok:HOk X.prog X.w H' h') (hg:AllBare g') :
  Inv X Xp σ H' { s with heap:=h',gens:=g',drawn:=d',toks:=t' }:=by
 have neL:∀b o,X.s₀.heap.get? b=some o->b≠X.env.locals:=λb o e=>R5 (RQ (RN e) I.ok.above)
 have neC:∀b o,X.s₀.heap.get? b=some o->b∉X.ex->b∉ch:=λb o e hx hb=>by
  rcases (hch b hb).1 with z | z
  ·exact hx z
  ·exact absurd (RQ (RN e) z) (UJ _)
 have cellK:∀x c,X.env.cells.lookup x=some c->∀v,s.heap.IsCell c v->h'.IsCell c v:=λx c e v ⟨o,ho,hd⟩=>by
  have nch:c∉ch:=λz=>(hch c z).2.2.1 x c e rfl
  by_cases hc:c∈X.fs
  ·obtain⟨sl,q⟩:=slot c o (I.cne x c e) hc nch ho (I.freeC x c e);exact⟨_,q,hd⟩
  ·exact⟨o,keep c o (I.cne x c e) hc nch ho (I.freeC x c e),hd⟩
 refine⟨I.ok,I.os,hg,⟨λb o e n hb hx=>?_,λb o e n hb hx=>?_,λb o e n hx=>?_,λb o e hx=>?_,λb xs e=>tups b xs (I.base.tups b xs e),λb o xs e=>frzs b o xs (I.base.frzs b o xs e),λb ps e=>?_⟩,?_,λx c e=>?_,?_,λx c e=>?_,λp hp=>?_,hok,I.len⟩
 ·exact keep b o (neL b o e) hb (neC b o e hx) (I.base.keep b o e n hb hx) (I.base.free b o e n hx)
 ·obtain⟨sl,e1⟩:=I.base.slot b o e n hb hx;obtain⟨sl',e2⟩:=slot b _ (neL b o e) hb (neC b o e hx) e1 (I.base.free b o e n hx);exact⟨sl',e2⟩
 ·obtain⟨o',e1⟩:=I.base.there b o e hx;exact free b o' (neC b o e hx) e1 (I.base.free b o e n hx)
 ·obtain⟨o',e1⟩:=I.base.there b o e hx;exact there b o' (neC b o e hx) e1
 ·obtain⟨m1,e1⟩:=I.base.tbls b ps e;obtain⟨m2,e2⟩:=tbls b _ e1;exact⟨m1++m2,by rw[e2,Array.append_assoc]⟩
 ·obtain⟨m,hn,hl⟩:=I.loc;refine⟨m,ns m hn,λi x v e1 e2 e3=>?_⟩
  obtain⟨u,r,l⟩:=hl i x v e1 e2 e3;refine⟨u,r,?_⟩;rcases l with l | ⟨k,c,e,z⟩
  ·exact .inl l
  ·exact .inr ⟨k,c,e,cellK x c e _ z⟩
 ·obtain⟨v,z⟩:=I.cell x c e;exact⟨v,cellK x c e v z⟩
 ·obtain⟨m,⟨o,_,_,ho,_⟩,_⟩:=I.loc;exact free _ o (λz=>(hch _ z).2.1 rfl) ho I.free
 ·obtain⟨v,o,ho,hd⟩:=I.cell x c e;exact free c o (λz=>(hch c z).2.2.1 x c e rfl) ho (I.freeC x c e)
 ·obtain⟨e,n,ne,nf,d⟩:=I.pin p hp;have nch:p.1∉ch:=λz=>(hch p.1 z).2.2.2 p hp rfl
  exact⟨keep p.1 p.2 ne nf nch e n,free p.1 p.2 nch e n,ne,nf,d⟩
theorem Inv.un{t':Nat}(I:Inv X Xp σ H s)(u:Un X.fs [] H H' s.heap h')(hok:HOk X.prog X.w H' h'):Inv X Xp σ H' { s with heap:=h',toks:=t' }:=by
 obtain⟨m,⟨o,es,ep,ho,r⟩,_⟩:=id I.loc;obtain⟨sl,hL⟩:=u.any ho I.free (by simp)
 exact I.step (g':=s.gens) (d':=s.drawn) (ch:=[]) (λy z=>nomatch z) (λb o y hb y e n=>u.keep b o e n hb (by simp)) (λb o y hb y e n=>u.slot b o e n hb (by simp)) (λb o y e n=>u.free b o e n (by simp)) (λb o y e=>u.there b o e (by simp)) u.tups u.frzs u.tbls (λm' hm=>by obtain⟨o',es',ep',ho',r'⟩:=hm;rw[ho]at ho';cases ho';exact⟨_,es',ep',hL,r'⟩) hok I.bare
theorem Inv.call{g':Array GenState}{t':Nat}{ch:List Addr}(I:Inv X Xp σ H s)(u:Un (frs X.stack) ch H H' s.heap h')(hok:HOk X.prog X.w H' h')(hg:AllBare g')
  (hch:∀b∈ch,(b∈X.ex\/X.s₀.heap.objs.size<=b)/\b≠X.env.locals/\(∀x c,X.env.cells.lookup x=some c->c≠b)/\∀p∈X.pn++Xp,p.1≠b) :
  Inv X Xp σ H' { s with heap:=h',gens:=g',drawn:=d',toks:=t' }:=by
 obtain⟨m,⟨o,es,ep,ho,r⟩,_⟩:=id I.loc;obtain⟨sl,hL⟩:=u.any ho I.free λz=>(hch _ z).2.1 rfl
 exact I.step (ch:=ch) hch (λb o hL hb hc e n=>u.keep b o e n (λz=>(R8.mp (I.stkSub b z)).elim hL hb) hc) (λb o y y hc e n=>u.any e n hc) (λb o hc e n=>u.free b o e n hc) (λb o hc e=>u.there b o e hc) u.tups u.frzs u.tbls (λm' hm=>by obtain⟨o',es',ep',ho',r'⟩:=hm;rw[ho]at ho';cases ho';exact⟨_,es',ep',hL,r'⟩) hok hg
theorem Inv.turned{t':Nat}(I:Inv X Xp σ H s)(k:∀b o,b≠it->s.heap.get? b=some o->h'.get? b=some o)(hn:H it=none)(hL:it≠X.env.locals)
  (h1:it∈X.ex\/X.s₀.heap.objs.size<=it) (h2:∀x c,X.env.cells.lookup x=some c->c≠it) (h3:∀p∈X.pn++Xp,p.1≠it):Inv X Xp σ H { s with heap:=h',toks:=t' }:=by
 have nit:∀b u,H b=some u->b≠it:=λb u e z=>by rw[z,hn]at e;cases e
 refine I.step (g':=s.gens) (d':=s.drawn) (ch:=[it]) (λb hb=>?_) (λb o y y hc e y=>k b o (λz=>hc (by simp[z])) e) (λb o y y hc e y=>⟨o.slots,k b o (λz=>hc (by simp[z])) e⟩) (λy y y y n=>n)
  (λb o hc e=>⟨o,k b o (λz=>hc (by simp[z])) e⟩) (λy y e=>e) (λy y y e=>e) (λb ps e=>⟨#[],by rw[e];simp⟩) (λm hm=>?_) (λb u e=>?_) I.bare
 ·have e:b=it:=by simpa using hb
  subst e;exact⟨h1,hL,h2,h3⟩
 ·obtain⟨o,es,ep,ho,r⟩:=hm;exact⟨o,es,ep,k _ o (Ne.symm hL) ho,r⟩
 ·refine (I.hok b u e).stay (λc v hc q=>k c v ?_ q) (λy q=>q) λy y q=>q
  rcases hc with z | z
  ·rw[z];exact nit b u e
  ·exact nit c _ z
theorem Inv.tok(I:Inv X Xp σ H s)(t:Nat):Inv X Xp σ H { s with toks:=t }:=I.un (h':=s.heap) (t':=t) Un.refl I.hok
theorem Inv.kept(I:Inv X Xp σ H s)(k:∀b u,s.heap.get? b=some u->h'.get? b=some u):Inv X Xp σ H { s with heap:=h',toks:=t' }:=I.un (Un.kept k) (I.hok.kept k)
theorem Inv.laid(I:Inv X Xp σ H s)(k:∀b u,s.heap.get? b=some u->h'.get? b=some u)(hp:s.heap.objs.size<=a)(new:ObjOk X.prog X.w (upd H a o) h' a o):
  Inv X Xp σ (upd H a o) { s with heap:=h',toks:=t' }:=I.un (Un.laid k hp (I.hok.fresh hp)) (I.hok.laid k hp new)
theorem Inv.write(I:Inv X Xp σ H s)(mu:Mut (H x))(he:e=x\/H e=some (.own x))(k:∀b u,b≠e->s.heap.get? b=some u->h'.get? b=some u)(heo:∃u,h'.get? e=some u)
  (new:ObjOk X.prog X.w (upd H x o) h' x o):Inv X Xp σ (upd H x o) { s with heap:=h',toks:=t' }:=I.un (Un.write mu he k heo) (I.hok.write mu he k heo new)
theorem Inv.pins_of(I:Inv X Xp σ H s)(h:∀p∈pins',s.heap.get? p.1=some p.2/\H p.1=none/\p.1≠X.env.locals/\p.1∉X.fs/\∀v,p.2.data≠.cell v):Inv X pins' σ H s:=
 ⟨I.ok,I.os,I.bare,I.base,I.loc,I.cell,I.free,I.freeC,λp hp=>(Su.mp hp).elim (λz=>I.pin p (Vm _ z)) (h p),I.hok,I.len⟩
theorem nodup_ix{N:List Str}(hN:N.Nodup){i j:Nat}(a:N[i]?=some x)(b:N[j]?=some x):i=j:=by obtain⟨h1,e1⟩:=RK.mp a;obtain⟨h2,e2⟩:=RK.mp b;exact (List.getElem_inj hN).mp (e1.trans e2.symm)
theorem store_ok2{E:Value->Shared->Prop}{i:Nat}{Q:Unit->Shared->Prop}(I:Inv X Xp σ H s)(hN:X.N.Nodup)(hi:X.N[i]?=some x)(hx:Loc X.env.scope x)(r:RelV v u)
  (h:∀s',Inv X Xp (σ.set i (some v)) H s'->(∃a,Heap.SameBut a s.heap s'.heap/\(a=X.env.locals\/X.env.cells.lookup x=some a))->Q () s') (hf:X.fn x=true\/X.env.scope.names.lookup x=some .local:=by first | exact .inl rfl | exact .inr rfl | assumption):wpAny M A (storeName X.env x u) Q E s:=by
 obtain⟨m,hn,hl⟩:=id I.loc;have hcls:(X.env.scope.kind==.class || (X.env.scope.kind==.module&&X.env.locals != X.env.globals))=false:=by rw[I.ok.kind];rfl
 have hiσ:i<σ.length:=by rw[I.len];exact (RK.mp hi).1
 have cne:=I.cne;have tracked:∀{a:Addr}{h':Heap},(∃o,s.heap.get? a=some o/\H a=none)->Heap.SameBut a s.heap h'->HOk X.prog X.w H h':=λ{a h'} ha hs b ob e=>by
  obtain⟨_,_,hfree⟩:=ha;refine (I.hok b ob e).stay (λc w' hc q=>(hs.2 c ?_).trans q) (λt q=>q) λt t q=>q
  rintro rfl;rcases hc with rfl | hc
  ·rw[hfree]at e;cases e
  ·rw[hfree]at hc;cases hc
 rcases hx with hk | hk
 ·refine wpAny_storeName_local hk hn (λh' hn' hs=>?_) hcls
  obtain⟨oL,_,_,hoL,_⟩:=id hn;refine h _ ⟨I.ok,I.os,I.bare,⟨λb o e n hb hx=>?_,λb o e n hb hx=>?_,I.base.free,λb o e hx=>?_,I.base.tups,I.base.frzs,I.base.tbls⟩,⟨_,hn',λj y v' e1 e2 e3=>?_⟩,λy c e=>?_,I.free,I.freeC,λp hp=>?_,tracked ⟨oL,hoL,I.free⟩ hs,by simpa using I.len⟩ ⟨_,hs,.inl rfl⟩
  ·exact (hs.2 b (R5 (RQ (RN e) I.ok.above))).trans (I.base.keep b o e n hb hx)
  ·obtain⟨sl,e1⟩:=I.base.slot b o e n hb hx;exact⟨sl,(hs.2 b (R5 (RQ (RN e) I.ok.above))).trans e1⟩
  ·obtain⟨o',e1⟩:=I.base.there b o e hx;exact⟨o',(hs.2 b (R5 (RQ (RN e) I.ok.above))).trans e1⟩
  ·by_cases hj:j=i
   ·subst hj;rw[hi]at e1;cases e1;rw[TY hiσ]at e2;cases e2;exact⟨u,r,.inl ⟨hk,by simp⟩⟩
   ·rw[T7 (Ne.symm hj)]at e2;obtain⟨u',r',q⟩:=hl j y v' e1 e2 e3;refine⟨u',r',?_⟩;rcases q with ⟨k,e⟩ | ⟨k,c,e,z⟩
    ·refine .inl ⟨k,?_⟩;have:y≠x:=λe=>hj (nodup_ix hN e1 (e ▸ hi))
     simp[this,e]
    ·exact .inr ⟨k,c,e,z.sameBut hs (cne y c e)⟩
  ·obtain⟨w',z⟩:=I.cell y c e;exact⟨w',z.sameBut hs (cne y c e)⟩
  ·obtain⟨e,n,ne,nf,d⟩:=I.pin p hp;exact⟨(hs.2 p.1 ne).trans e,n,ne,nf,d⟩
 ·have hfn:X.fn x=true:=by
   rcases hf with z | z
   ·exact z
   ·rw[z]at hk;cases hk
  obtain⟨c,hc⟩:=I.ok.has x (.inl hk);obtain⟨w',z⟩:=I.cell x c hc;refine wpAny_storeName_cell I.ok.kind hk hc z (λh' hc' hs=>?_)
  obtain⟨oc,hoc,hocd⟩:=id z;refine h { s with heap:=h' } ⟨I.ok,I.os,I.bare,⟨λb o e n hb hx=>?_,λb o e n hb hx=>?_,I.base.free,λb o e hx=>?_,I.base.tups,I.base.frzs,I.base.tbls⟩,⟨m,hn.sameBut hs (Ne.symm (cne x c hc)),λj y v' e1 e2 e3=>?_⟩,λy c' e=>?_,I.free,I.freeC,λp hp=>?_,tracked ⟨oc,hoc,I.freeC x c hc⟩ hs,by simpa using I.len⟩ ⟨c,hs,.inr hc⟩
  ·exact (hs.2 b (R5 (RQ (RN e) (I.ok.cab x c hfn hc)))).trans (I.base.keep b o e n hb hx)
  ·obtain⟨sl,e1⟩:=I.base.slot b o e n hb hx;exact⟨sl,(hs.2 b (R5 (RQ (RN e) (I.ok.cab x c hfn hc)))).trans e1⟩
  ·obtain⟨o',e1⟩:=I.base.there b o e hx;exact⟨o',(hs.2 b (R5 (RQ (RN e) (I.ok.cab x c hfn hc)))).trans e1⟩
  ·by_cases hj:j=i
   ·subst hj;rw[hi]at e1;cases e1;rw[TY hiσ]at e2;cases e2;exact⟨u,r,.inr ⟨.inl hk,c,hc,hc'⟩⟩
   ·rw[T7 (Ne.symm hj)]at e2;obtain⟨u',r',q⟩:=hl j y v' e1 e2 e3;refine⟨u',r',?_⟩;rcases q with q | ⟨k,c',e,z'⟩
    ·exact .inl q
    ·refine .inr ⟨k,c',e,z'.sameBut hs ?_⟩;rintro rfl;exact hj (nodup_ix hN e1 (I.ok.inj _ _ _ e hc ▸ hi))
  ·by_cases hcc:c'=c
   ·subst hcc;exact⟨_,hc'⟩
   ·obtain⟨w2,z2⟩:=I.cell y c' e;exact⟨w2,z2.sameBut hs hcc⟩
  ·obtain⟨e,n,ne,nf,d⟩:=I.pin p hp;refine⟨(hs.2 p.1 ?_).trans e,n,ne,nf,d⟩;intro q;rw[q,hoc]at e;have q':oc=p.2:=RP e;exact d w' (by rw[<-q'];exact hocd)
theorem store_ok(I:Inv X Xp σ H s)(hN:X.N.Nodup)(hi:X.N[i]?=some x)(hx:Loc X.env.scope x)(r:RelV v u)
  (h:∀s',Inv X Xp (σ.set i (some v)) H s'->Q () s') (hf:X.fn x=true\/X.env.scope.names.lookup x=some .local:=by first | exact .inl rfl | exact .inr rfl | assumption):wpAny M A (storeName X.env x u) Q E s:=
 store_ok2 I hN hi hx r (λs' I' z=>h s' I') hf
theorem Inv.call'(I:Inv X Xp σ H s)(ho:s'.os=s.os)(u:Un (frs X.stack) ch H H' s.heap s'.heap)(hok:HOk X.prog X.w H' s'.heap)(hg:AllBare s'.gens)
  (hch:∀b∈ch,(b∈X.ex\/X.s₀.heap.objs.size<=b)/\b≠X.env.locals/\(∀x c,X.env.cells.lookup x=some c->c≠b)/\∀p∈X.pn++Xp,p.1≠b):Inv X Xp σ H' s':=by
 obtain⟨h',g',d',t',o'⟩:=s';have e:o'=s.os:=ho;subst e;exact I.call (g':=g') (t':=t') (d':=d') u hok hg hch
end
abbrev XK:=Value->Option Addr->Hp->Prop
abbrev St:=List (Option V)
abbrev VK:=V->Hp->Prop
abbrev TE:=St->Hp->VK->Prop
abbrev TT:=St->Hp->(Bool->Hp->Prop)->Prop
abbrev TA:=St->Hp->(List V->Hp->Prop)->Prop
structure Ends where
 nx:St->Hp->Prop
 rt:VK
 bk:St->Hp->Prop:=λ_ _=>False
 ct:St->Hp->Prop:=λ_ _=>False
abbrev TS:=Ends->St->Hp->Prop
def EP(X:Cx)(Xp:List (Addr×Obj))(σ:St)(Q:VK)(u:Value)(s':Shared):Prop:=∃v H',Inv X Xp σ H' s'/\RelV v u/\Q v H'
def TP(X:Cx)(Xp:List (Addr×Obj))(σ:St)(Q:Bool->Hp->Prop)(b:Bool)(s':Shared):Prop:=∃H',Inv X Xp σ H' s'/\Q b H'
def AP(X:Cx)(Xp:List (Addr×Obj))(σ:St)(Q:List V->Hp->Prop)(us:List Value)(s':Shared):Prop:=∃vs H',Inv X Xp σ H' s'/\Vals vs us/\Q vs H'
def SP(X:Cx)(Xp:List (Addr×Obj))(D:Ends)(f:Flow)(s':Shared):Prop:=
 match f with
 |.next=>∃σ' H',Inv X Xp σ' H' s'/\D.nx σ' H'
 |.brk=>∃σ' H',Inv X Xp σ' H' s'/\D.bk σ' H'
 |.cont=>∃σ' H',Inv X Xp σ' H' s'/\D.ct σ' H'
 |.ret u=>∃v σ' H',Inv X Xp σ' H' s'/\RelV v u/\D.rt v H'
def PE(X:Cx)(e:Expr)(t:TE):Prop:=
 ∀(Xp:List (Addr×Obj)) (s:Shared) (σ:St) (H:Hp) (Q:VK),Inv X Xp σ H s->t σ H Q->wpAny (model X.prog X.w) X.A (eval e X.env) (EP X Xp σ Q) X.xe s
def PT(X:Cx)(e:Expr)(t:TT):Prop:=
 ∀(Xp:List (Addr×Obj)) (s:Shared) (σ:St) (H:Hp) (Q:Bool->Hp->Prop),Inv X Xp σ H s->t σ H Q->wpAny (model X.prog X.w) X.A (isTrue e X.env (eval e X.env)) (TP X Xp σ Q) X.xe s
def PW(X:Cx)(e:Expr)(t:TT):Prop:=
 ∀(whole:Sem Value) (Xp:List (Addr×Obj)) (s:Shared) (σ:St) (H:Hp) (Q:Bool->Hp->Prop),Inv X Xp σ H s->t σ H Q->wpAny (model X.prog X.w) X.A (isTrue e X.env whole) (TP X Xp σ Q) X.xe s
theorem PW.pt(h:PW X e t):PT X e t:=h _
def PA(X:Cx)(es:List Expr)(t:TA):Prop:=
 ∀(pos:Pos) (Xp:List (Addr×Obj)) (s:Shared) (σ:St) (H:Hp) (Q:List V->Hp->Prop),Inv X Xp σ H s->t σ H Q->wpAny (model X.prog X.w) X.A (spliced (backTo pos (starEach es X.env))) (AP X Xp σ Q) X.xe s
def PS(X:Cx)(st:Stmt)(t:TS):Prop:=
 ∀(Xp:List (Addr×Obj)) (s:Shared) (σ:St) (H:Hp) (D:Ends),Inv X Xp σ H s->t D σ H->wpAny (model X.prog X.w) X.A (exec st X.env) (SP X Xp D) X.xe s
def PSs(X:Cx)(st:List Stmt)(t:TS):Prop:=
 ∀(Xp:List (Addr×Obj)) (s:Shared) (σ:St) (H:Hp) (D:Ends),Inv X Xp σ H s->t D σ H->wpAny (model X.prog X.w) X.A (execs st X.env) (SP X Xp D) X.xe s
theorem thn(h:wpAny M A t Q E s)(hQ:∀a s,Q a s->Q' a s):wpAny M A t Q' E s:=Sg h hQ λz z x=>x
open PySem PySem.Spec PyProof.Rows
section
variable{X:Cx}
theorem bin(ha:PE X a ta)(hb:PE X b tb){Xp:List (Addr×Obj)}{R:V->V->Hp->Prop}(I:Inv X Xp σ H s)(h:ta σ H λx H1=>tb σ H1 λy H2=>R x y H2)
  {α:Type}{Q:α->Shared->Prop}{f:Value->Value->Sem α}
  (hf:∀v u s2 x y H2,Inv X Xp σ H2 s2->RelV x v->RelV y u->R x y H2->wpAny (model X.prog X.w) X.A (f v u) Q X.xe s2) :
  wpAny (model X.prog X.w) X.A (eval a X.env) (λv s₁=>wpAny (model X.prog X.w) X.A (eval b X.env) (λu s₂=>wpAny (model X.prog X.w) X.A (f v u) Q X.xe s₂) X.xe s₁) X.xe s:=by
 refine thn (ha Xp s σ H _ I h) λv s1 ⟨x,H1,I1,r1,q1⟩=>?_
 refine thn (hb Xp s1 σ H1 _ I1 q1) λu s2 ⟨y,H2,I2,r2,q2⟩=>?_
 exact hf v u s2 x y H2 I2 r1 r2 q2
def tVar(i:Nat):TE:=λσ H Q=>∃v,σ[i]?=some (some v)/\Q v H
def tC(v:V):TE:=λz H Q=>Q v H
theorem pe_var(hN:X.N[i]?=some x)(hv:Vis X.env.scope x)(hd:(x==("__debug__":Str))=false:=by decide)(hcd:(x==("__classdict__":Str))=false:=by decide):PE X (.Name x pos) (tVar i):=by
 intro Xp s σ H Q I h;obtain⟨v,e,h⟩:=h;obtain⟨m,hn,hl⟩:=I.loc;obtain⟨u,r,l⟩:=hl i x v hN e hv;have fin:EP X Xp σ Q u s:=⟨v,H,I,r,h⟩;rcases l with ⟨hk,hm⟩ | ⟨hk,c,hc,hcell⟩
 ·exact wpAny_Name (wpAny_loadName_local I.ok.kind hk hn hm fin) hd
 ·rcases hk with hk | hk
  ·exact wpAny_Name (wpAny_loadName_cell I.ok.kind hk hc hcell fin) hd
  ·exact wpAny_Name (wpAny_loadName_free I.ok.kind hk hc hcell fin hcd) hd
theorem pe_int{i j pos}:PE X (.Constant (.int i) j pos) (tC (.int i)):=λz z z H z I h=>wpAny_Constant_int ⟨.int i,H,I.tok _,⟨_,rfl⟩,h⟩
theorem pe_bl{b j pos}:PE X (.Constant (.bool b) j pos) (tC (.bl b)):=λz z z H z I h=>Constant_bool ⟨.bl b,H,I,rfl,h⟩
theorem pe_non{j pos}:PE X (.Constant .none j pos) (tC .non):=λz z z H z I h=>Constant_none ⟨.non,H,I,rfl,h⟩
def Gl(X:Cx)(x:Str):Prop:=X.env.kindOf x=some .globalImplicit
theorem ld_glob(I:Inv X Xp σ H s)(hg:Gl X x)(hm:X.mg x=some u)(h:Q u s)
  (hd:(x==("__debug__":Str))=false:=by decide):wpAny (model X.prog X.w) X.A (eval (.Name x pos) X.env) Q E s:=
 Calls.Name_function_global I.ok.kind hg (Calls.loadGlobal_global (by rw[I.ok.glob];exact I.mod.glob.keeps I.bk) hm h) hd
theorem ld_blt(I:Inv X Xp σ H s)(hg:Gl X x)(hm:X.mg x=none)(hv:bootBuiltins x=some u)(h:Q u s)
  (hn:x≠"__name__":=by decide) (hd:(x==("__debug__":Str))=false:=by decide):wpAny (model X.prog X.w) X.A (eval (.Name x pos) X.env) Q E s:=by
 obtain⟨mb,h1,h2⟩:=I.mod.blt;exact Calls.Name_function_global I.ok.kind hg (Calls.loadGlobal_builtin (by rw[I.ok.glob];exact I.mod.glob.keeps I.bk) hm (by rw[I.ok.blt];exact h1.keeps I.bk) ((h2 x hn).trans hv) h) hd
theorem pe_glob(hg:Gl X x)(hm:X.mg x=some u)(r:RelV v u)(hd:(x==("__debug__":Str))=false:=by decide):PE X (.Name x pos) (tC v):=
 λz z z H z I h=>ld_glob I hg hm ⟨v,H,I,r,h⟩ hd
theorem pe_bltn(hg:Gl X x)(hm:X.mg x=none)(hv:bootBuiltins x=some u)(r:RelV v u)(hn:x≠"__name__":=by decide)(hd:(x==("__debug__":Str))=false:=by decide):PE X (.Name x pos) (tC v):=
 λz z z H z I h=>ld_blt I hg hm hv ⟨v,H,I,r,h⟩ hn hd
variable{a b:Expr}{ta tb:TE}{pos:Pos}
variable{tA tB':TT}{rest:List Expr}
def tAnd(t u:TT):TT:=λσ H Q=>t σ H λc H1=>if c=true then u σ H1 Q else Q false H1
def tOr(t u:TT):TT:=λσ H Q=>t σ H λc H1=>if c=true then Q true H1 else u σ H1 Q
def tNot(t:TT):TT:=λσ H Q=>t σ H λc H1=>Q (!c) H1
theorem pw_and1(ha:PT X a tA):PW X (.BoolOp .And [a] pos) tA:=by
 intro wh Xp s σ H Q I h;refine isTrue_and (thn (ha Xp s σ H Q I h) λc s1 e=>?_)
 cases c with
 |true=>exact isTrue_and_nil e
 |false=>exact e
theorem pw_or1(ha:PT X a tA):PW X (.BoolOp .Or [a] pos) tA:=by
 intro wh Xp s σ H Q I h;refine isTrue_or (thn (ha Xp s σ H Q I h) λc s1 e=>?_)
 cases c with
 |false=>exact isTrue_or_nil e
 |true=>exact e
theorem pw_and(ha:PT X a tA)(hb:PW X (.BoolOp .And (b::rest) pos) tB'):PW X (.BoolOp .And (a::b::rest) pos) (tAnd tA tB'):=by
 intro wh Xp s σ H Q I h;refine isTrue_and (thn (ha Xp s σ H _ I h) λc s1 ⟨H1,I1,q1⟩=>?_)
 cases c with
 |true=>exact hb wh Xp s1 σ H1 Q I1 q1
 |false=>exact⟨H1,I1,q1⟩
theorem pw_or(ha:PT X a tA)(hb:PW X (.BoolOp .Or (b::rest) pos) tB'):PW X (.BoolOp .Or (a::b::rest) pos) (tOr tA tB'):=by
 intro wh Xp s σ H Q I h;refine isTrue_or (thn (ha Xp s σ H _ I h) λc s1 ⟨H1,I1,q1⟩=>?_)
 cases c with
 |true=>exact⟨H1,I1,q1⟩
 |false=>exact hb wh Xp s1 σ H1 Q I1 q1
theorem pt_not(ha:PT X a tA):PT X (.UnaryOp .Not a pos) (tNot tA):=by intro Xp s σ H Q I h;exact isTrue_not (ha Xp s σ H (λc H1=>Q (!c) H1) I h)
def tAndV(ta tb:TE):TE:=λσ H Q=>ta σ H λx H1=>∃c,x=.bl c/\if c=true then tb σ H1 Q else Q (.bl false) H1
def tNotV(ta:TE):TE:=λσ H Q=>ta σ H λx H1=>∃c,x=.bl c/\Q (.bl (!c)) H1
theorem pe_one{op}(h:PE X a t):PE X (.BoolOp op [a] pos) t:=λXp s σ H Q I hw=>BoolOp_one (h Xp s σ H Q I hw)
theorem pe_and(ha:PE X a ta)(hb:PE X (.BoolOp .And (b::rest) pos) tb):PE X (.BoolOp .And (a::b::rest) pos) (tAndV ta tb):=by
 intro Xp s σ H Q I h;refine BoolOp_and (thn (ha Xp s σ H _ I h) λv s1 ⟨x,H1,I1,r1,q1⟩=>?_)
 obtain⟨c,rfl,q1⟩:=q1;cases r1;refine Ut ?_;cases c with
 |true=>exact hb Xp s1 σ H1 Q I1 q1
 |false=>exact⟨.bl false,H1,I1,rfl,q1⟩
theorem pe_not(ha:PE X a ta):PE X (.UnaryOp .Not a pos) (tNotV ta):=by
 intro Xp s σ H Q I h;refine UnaryOp_ (thn (ha Xp s σ H _ I h) λv s1 ⟨x,H1,I1,r1,q1⟩=>?_)
 obtain⟨c,rfl,q1⟩:=q1;cases r1;exact not_of (Ut ⟨.bl (!c),H1,I1,rfl,q1⟩)
def tIf(t:TT)(ta tb:TE):TE:=λσ H Q=>t σ H λc H1=>if c=true then ta σ H1 Q else tb σ H1 Q
theorem pe_ifExp(hc:PT X c tA)(ha:PE X a ta)(hb:PE X b tb):PE X (.IfExp c a b pos) (tIf tA ta tb):=by
 intro Xp s σ H Q I h;refine wpAny_IfExp (thn (hc Xp s σ H _ I h) λd s1 ⟨H1,I1,q1⟩=>?_)
 cases d with
 |true=>exact ha Xp s1 σ H1 Q I1 q1
 |false=>exact hb Xp s1 σ H1 Q I1 q1
end
open PySem PySem.Spec PyProof.Rows
def SqL(K:PySem.W.Frag)(H:Hp)(a:Addr)(xs:List V):Prop:=
 Rd H a (.lst xs) \/
  ∃(o:Obj) (its:Array Value) (n:Nat),K.lookup a=some o/\o.cls=.type "list"/\o.dict=none/\o.data=.seq its n/\its.size<=sizeLine/\Vals xs its.toList
def SqT(K:PySem.W.Frag)(H:Hp)(a:Addr)(xs:List V):Prop:=
 Rd H a (.tup xs) \/
  ∃(o:Obj) (its:Array Value) (n:Nat),K.lookup a=some o/\o.cls=.type "tuple"/\o.data=.seq its n/\its.size<=sizeLine/\Vals xs its.toList
def absV:Value->Option V
 |.none=>some .non
 |.bool b=>some (.bl b)
 |.int i _=>some (.int i)
 |.str x _=>some (.str x)
 |.bytes b _=>some (.byt b)
 |.float b _=>some (.flt b)
 |.ref a=>some (.ref a)
 |.type n=>some (.ty n)
 |_=>none
theorem RelV.abs(r:RelV x u):absV u=some x:=by
 cases x with
 |non=>cases r;rfl
 |bl _=>cases r;rfl
 |int _=>obtain⟨t,rfl⟩:=r;rfl
 |str _=>obtain⟨t,rfl⟩:=r;rfl
 |byt _=>obtain⟨t,rfl⟩:=r;rfl
 |flt _=>obtain⟨t,rfl⟩:=r;rfl
 |ref _=>cases r;rfl
 |ty _=>cases r;rfl
theorem RelV.inj(r:RelV x u)(q:RelV y u):x=y:=RP (r.abs.symm.trans q.abs)
theorem Vals.inj:∀{xs ys:List V}{us:List Value},Vals xs us->Vals ys us->xs=ys
 |_,_,_,.nil,.nil=>rfl
 |_,_,_,.cons r t,.cons r' t'=>by rw[r.inj r',Vals.inj t t']
section
variable{X:Cx}{Xp:List (Addr×Obj)}{σ:St}{H:Hp}{s:Shared}{a:Addr}{xs ys:List V}
theorem SqL.of{K:PySem.W.Frag}(h:H a=some (.lst xs)):SqL K H a xs:=.inl (.inl h)
theorem SqT.of{K:PySem.W.Frag}(h:H a=some (.tup xs)):SqT K H a xs:=.inl (.inl h)
theorem Inv.list(I:Inv X Xp σ H s)(h:SqL X.K H a xs):∃its:List Value,Vals xs its/\PlainL s.heap a its.toArray/\xs.length<=sizeLine:=by
 rcases h with h | ⟨o,its,n,hk,hc,hd,hs,hz,r⟩
 ·obtain⟨z,its,n,r,e⟩:=h.ok I.hok;exact⟨its,r,⟨_,n,e,rfl,rfl,rfl⟩,z⟩
 ·refine⟨its.toList,r,⟨o,n,I.kIn a o hk,hc,hd,by simpa using hs⟩,?_⟩
  have e:=r.length;simp only[Array.length_toList]at e;omega
theorem Inv.tuple(I:Inv X Xp σ H s)(h:SqT X.K H a xs):∃its:List Value,Vals xs its/\IsTup s.heap a its.toArray/\xs.length<=sizeLine:=by
 rcases h with h | ⟨o,its,n,hk,hc,hs,hz,r⟩
 ·obtain⟨z,its,r,p⟩:=h.ok I.hok;exact⟨its,r,p,z⟩
 ·refine⟨its.toList,r,⟨o,I.kIn a o hk,hc,n,by simpa using hs⟩,?_⟩
  have e:=r.length;simp only[Array.length_toList]at e;omega
theorem Inv.list_inj(I:Inv X Xp σ H s)(h:SqL X.K H a xs)(h':SqL X.K H a ys):xs=ys:=by
 obtain⟨its,r,⟨o,n,e,_,_,d⟩,_⟩:=I.list h;obtain⟨its',r',⟨o',n',e',_,_,d'⟩,_⟩:=I.list h';rw[e]at e';cases e';rw[d]at d';injection d' with d1 _
 have:its=its':=by simpa using congrArg Array.toList d1
 subst this;exact r.inj r'
theorem Inv.tuple_inj(I:Inv X Xp σ H s)(h:SqT X.K H a xs)(h':SqT X.K H a ys):xs=ys:=by
 obtain⟨its,r,⟨o,e,_,n,d⟩,_⟩:=I.tuple h;obtain⟨its',r',⟨o',e',_,n',d'⟩,_⟩:=I.tuple h';rw[e]at e';cases e';rw[d]at d';injection d' with d1 _
 have:its=its':=by simpa using congrArg Array.toList d1
 subst this;exact r.inj r'
end
section
variable{X:Cx}{st:Stmt}{rest:List Stmt}{t u:TS}{e:Expr}{te:TE}{pos:Pos}
def tNext:TS:=λD σ H=>D.nx σ H
def tSeq(t u:TS):TS:=λD σ H=>t { D with nx:=u D } σ H
theorem pss_nil:PSs X [] tNext:=λ_ _ σ H _ I h=>WL ⟨σ,H,I,h⟩
theorem pss_cons(h1:PS X st t)(h2:PSs X rest u):PSs X (st::rest) (tSeq t u):=by
 intro Xp s σ H D I h;refine wpAny_execs_cons (thn (h1 Xp s σ H { D with nx:=u D } I h) λf s1 q=>?_)
 cases f with
 |next=>obtain⟨σ',H',I',q⟩:=q;exact h2 Xp s1 σ' H' D I' q
 |ret v=>exact q
 |brk=>exact q
 |cont=>exact q
theorem pss_one(h1:PS X st t):PSs X [st] t:=by
 intro Xp s σ H D I h;refine wpAny_execs_cons (thn (h1 Xp s σ H D I h) λf s1 q=>?_)
 cases f with
 |next=>exact WL q
 |ret v=>exact q
 |brk=>exact q
 |cont=>exact q
theorem Inv.quiet(I:Inv X Xp σ H s):interactive X.env=false:=by simp[interactive,I.ok.kind]
def tDrop(te:TE):TS:=λD σ H=>te σ H λz H1=>D.nx σ H1
theorem ps_expr(he:PE X e te)(hs:swapsWith e none pos.line X.env=pure false:=by rfl):PS X (.Expr e pos) (tDrop te):=by intro Xp s σ H D I h;exact wpAny_Expr_any (thn (he Xp s σ H _ I h) λv s1 ⟨x,H1,I1,r1,q1⟩=>⟨σ,H1,I1,q1⟩) I.quiet hs
def tRet(te:TE):TS:=λD σ H=>te σ H D.rt
theorem ps_ret(he:PE X e te):PS X (.Return (some e) pos) (tRet te):=by intro Xp s σ H D I h;exact wpAny_Return_some (thn (he Xp s σ H _ I h) λv s1 ⟨x,H1,I1,r1,q1⟩=>⟨x,σ,H1,I1,r1,q1⟩)
def tIfS(c:TT)(t u:TS):TS:=λD σ H=>c σ H λb H1=>if b=true then t D σ H1 else u D σ H1
theorem ps_if(hc:PT X c tc)(ha:PSs X a t)(hb:PSs X b u):PS X (.If c a b pos) (tIfS tc t u):=by
 intro Xp s σ H D I h;refine wpAny_If (thn (hc Xp s σ H _ I h) λd s1 ⟨H1,I1,q1⟩=>?_)
 cases d with
 |true=>exact ha Xp s1 σ H1 D I1 q1
 |false=>exact hb Xp s1 σ H1 D I1 q1
end
abbrev TG:=V->St->Hp->(St->Hp->Prop)->Prop
abbrev TGs:=List V->St->Hp->(St->Hp->Prop)->Prop
def PG(X:Cx)(target:Expr)(t:TG):Prop:=
 ∀(Xp:List (Addr×Obj)) (s:Shared) (σ:St) (H:Hp) (v:V) (u:Value) (Q:St->Hp->Prop),Inv X Xp σ H s->RelV v u->t v σ H Q->
   wpAny (model X.prog X.w) X.A (assign target X.env u) (λz s'=>∃σ' H',Inv X Xp σ' H' s'/\Q σ' H') X.xe s
def PGs(X:Cx)(ts:List Expr)(t:TGs):Prop:=
 ∀(Xp:List (Addr×Obj)) (s:Shared) (σ:St) (H:Hp) (vs:List V) (us:List Value) (Q:St->Hp->Prop),Inv X Xp σ H s->Vals vs us->t vs σ H Q->
   wpAny (model X.prog X.w) X.A (assignInOrder ((assignEach ts X.env).map (·.2)) us) (λz s'=>∃σ' H',Inv X Xp σ' H' s'/\Q σ' H') X.xe s
abbrev TSet:=V->V->V->Hp->(Hp->Prop)->Prop
def PSet(X:Cx)(t:TSet):Prop:=
 ∀(Xp:List (Addr×Obj)) (s:Shared) (σ:St) (H:Hp) (o i v:V) (ov iv u:Value) (Q:Hp->Prop),Inv X Xp σ H s->RelV o ov->RelV i iv->RelV v u->t o i v H Q->
   wpAny (model X.prog X.w) X.A (setItem ov iv u) (λz s'=>∃H',Inv X Xp σ H' s'/\Q H') X.xe s
abbrev TIp:=V->V->Hp->VK->Prop
def PIp(X:Cx)(op:Operator)(t:TIp):Prop:=
 ∀(Xp:List (Addr×Obj)) (s:Shared) (σ:St) (H:Hp) (x y:V) (v u:Value) (Q:VK),Inv X Xp σ H s->RelV x v->RelV y u->t x y H Q->
   wpAny (model X.prog X.w) X.A (inplaceOp op v u) (EP X Xp σ Q) X.xe s
section
variable{X:Cx}{pos:Pos}
def gName(i:Nat):TG:=λv σ H Q=>Q (σ.set i (some v)) H
theorem pg_name(hN:X.N.Nodup)(hi:X.N[i]?=some x)(hx:Loc X.env.scope x)(hf:X.fn x=true\/X.env.scope.names.lookup x=some .local:=by first | exact .inl rfl | exact .inr rfl | assumption):PG X (.Name x pos) (gName i):=by intro Xp s σ H v u Q I r h;exact wpAny_assign_Name (store_ok I hN hi hx r (λs' I'=>⟨_,H,I',h⟩) hf)
def gNil:TGs:=λvs σ H Q=>vs=[]/\Q σ H
def gCons(t:TG)(u:TGs):TGs:=λvs σ H Q=>∃v r,vs=v::r/\t v σ H λσ' H'=>u r σ' H' Q
theorem pgs_nil:PGs X [] gNil:=by intro Xp s σ H vs us Q I r h;obtain⟨e,h⟩:=h;subst e;cases r;exact assignInOrder_nil ⟨σ,H,I,h⟩
theorem pgs_cons(h1:PG X e t)(h2:PGs X es u)
  (hs:(assignEach (e::es) X.env).map (·.2)=assign e X.env::(assignEach es X.env).map (·.2):=by rfl):PGs X (e::es) (gCons t u):=by
 intro Xp s σ H vs us Q I r h;obtain⟨v,vr,e1,h⟩:=h;subst e1;cases r with
 |cons r rr=>
   rw[hs];refine Vg (thn (h1 Xp s σ H _ _ _ I r h) λ_ s1 ⟨σ1,H1,I1,q1⟩=>?_)
   exact h2 Xp s1 σ1 H1 _ _ Q I1 rr q1
def gTup(K:PySem.W.Frag)(n:Nat)(t:TGs):TG:=λv σ H Q=>∃a xs,v=.ref a/\SqT K H a xs/\xs.length=n/\t xs σ H Q
theorem pg_tup(hc:X.calm=true)(h:PGs X es t)
  (hn:(assignEach es X.env).length=n:=by rfl) (hst:(assignEach es X.env).findIdx? (·.1)=none:=by rfl):PG X (.Tuple es k pos) (gTup X.K n t):=by
 intro Xp s σ H v u Q I r hw;obtain⟨a,xs,e1,hq,hl,hw⟩:=hw;subst e1;cases r;obtain⟨its,rv,ht,hz⟩:=I.tuple hq;refine assign_Tuple_tuple (I.ok.hd hc) ht (by simp[hn,<-hl,rv.length]) hst λh' hx=>?_
 have I1:Inv X Xp σ H { s with heap:=h' }:=I.kept (t':=s.toks) λb o e=>hx b o (R5 (RN e)) e
 exact h Xp _ σ H xs _ Q I1 (by simpa using rv) hw
def gSub(to ti:TE)(t:TSet):TG:=λv σ H Q=>to σ H λo H1=>ti σ H1 λi H2=>t o i v H2 λH3=>Q σ H3
theorem pg_sub(ho:PE X o to)(hi:PE X i ti)(hs:PSet X t)
  (ha:∀v,assign (.Subscript o i pos) X.env v=(do
    let ov <-holding [v] (eval o X.env)
    let iv <-holding [v,ov] (eval i X.env)
    standAt pos
    holding [v,ov,iv] (setItem ov iv v)
    release [v,ov,iv] []):=by intro _;rfl):PG X (.Subscript o i pos) (gSub to ti t):=by
 intro Xp s σ H v u Q I r h;rw[ha];refine RD (Tz (thn (ho Xp s σ H _ I h) λov s1 ⟨x,H1,I1,r1,q1⟩=>?_))
 refine RD (Tz (thn (hi Xp s1 σ H1 _ I1 q1) λiv s2 ⟨y,H2,I2,r2,q2⟩=>?_))
 refine RD (Va (RD (Tz (thn (hs Xp s2 σ H2 x y v ov iv u _ I2 r1 r2 r q2) λ_ s3 ⟨H3,I3,q3⟩=>?_))))
 exact wpAny_release ⟨σ,H3,I3,q3⟩
def tAsg(te:TE)(g:TG):TS:=λD σ H=>te σ H λx H1=>g x σ H1 D.nx
theorem ps_asg(he:PE X e te)(hg:PG X tg g)(hs:swapsWithSole [tg] e pos.line X.env=pure false:=by rfl)(hw:swappedStores [tg] e X.env=pure none:=by rfl)
  (h1:(assignEach [tg] X.env).map (·.2)=[assign tg X.env]:=by rfl):PS X (.Assign [tg] e pos) (tAsg te g):=by
 intro Xp s σ H D I h;refine wpAny_Assign_stores (thn (he Xp s σ H _ I h) λv s1 ⟨x,H1,I1,r1,q1⟩=>?_) hs hw
 rw[h1];exact thn (hg Xp s1 σ H1 x v _ I1 r1 q1) λz s2 q=>q
theorem ps_set(hN:X.N.Nodup)(hi:X.N[i]?=some x)(hx:Loc X.env.scope x)(he:PE X e te)(hs:swapsWith e (some (.Name x pos')) pos.line X.env=pure false:=by rfl)(hf:X.fn x=true\/X.env.scope.names.lookup x=some .local:=by first | exact .inl rfl | exact .inr rfl | assumption):
  PS X (.Assign [.Name x pos'] e pos) (tAsg te (gName i)):=by
 intro Xp s σ H D I h;refine wpAny_Assign_Name (thn (he Xp s σ H _ I h) λv s1 ⟨y,H1,I1,r1,q1⟩=>?_) hs
 exact store_ok I1 hN hi hx r1 (λs2 I2=>⟨_,H1,I2,q1⟩) hf
def tPar(i j:Nat)(ta:TA):TS:=λD σ H=>ta σ H λvs H1=>∃v w,vs=[v,w]/\D.nx ((σ.set i (some v)).set j (some w)) H1
theorem ps_par{kt k2 pt2}(hc:X.calm=true)(hN:X.N.Nodup)(hi:X.N[i]?=some x)(hj:X.N[j]?=some y)(hij:i≠j)
  (hx:X.env.scope.names.lookup x=some .local) (hy:X.env.scope.names.lookup y=some .local) (ha:PA X [a,b] ta)
  (hw:swappedStores [.Tuple [.Name x px,.Name y py] kt pt] (.Tuple [a,b] k2 pt2) X.env=pure (some [x,y]))
  (hs:swapsWithSole [.Tuple [.Name x px,.Name y py] kt pt] (.Tuple [a,b] k2 pt2) pos.line X.env=pure false:=by rfl) :
  PS X (.Assign [.Tuple [.Name x px,.Name y py] kt pt] (.Tuple [a,b] k2 pt2) pos) (tPar i j ta):=by
 intro Xp s σ H D I h;rw[exec_Assign_arm];refine RD (Va ?_);rw[hs];refine RD (RJ ?_);rw[R3 (by decide)]
 refine RD (Tuple_ (thn (ha _ Xp s σ H _ I h) λus s1 ⟨vs,H1,I1,r1,q1⟩=>?_))
 obtain⟨v,w,e1,q1⟩:=q1;subst e1;obtain ⟨u1,u2,rfl,rv,rw'⟩:∃ u1 u2,us=[u1,u2]/\RelV v u1/\RelV w u2:=by
  cases r1 with
  | cons p q=>
    cases q with
    |cons p' q'=>cases q';exact⟨_,_,rfl,p,p'⟩
 refine SQ ?_ (by show 2<=sizeLine;decide)
 have I2:Inv X Xp σ H1 { s1 with heap:=s1.heap.push { cls:=.type "tuple",data:=.seq [u1,u2].toArray } }:=I1.kept (t':=s1.toks) λb o e=>RG _ e
 rw[hw];refine RD (RJ ?_);show wpAny (model X.prog X.w) X.A (do rule "assign.swapped-stores";let items <-unpackItems (.ref s1.heap.objs.size) 2 none;assignInOrder [λv=>bindName X.env y v,λv=>bindName X.env x v] items.reverse;pure Flow.next) _ _ _
 refine RD (U5 (RD (unpackItems_tuple (items:=#[u1,u2]) (I.ok.hd hc) (W2 s1.heap _) λh' hx'=>?_)))
 have I3:=I2.kept (h':=h') (t':=s1.toks) λb o e=>hx' b o (R5 (RN e)) e
 show wpAny _ _ (assignInOrder [λv=>bindName X.env y v,λv=>bindName X.env x v] [u2,u1]>>=λz=>pure Flow.next) _ _ _
 refine RD (Vg (Wj (store_ok I3 hN hj (.inl hy) rw' (λs2 I4=>?_) (.inr hy))))
 refine Vg (Wj (store_ok I4 hN hi (.inl hx) rv (λs3 I5=>assignInOrder_nil (RJ ?_)) (.inr hx)))
 rw[List.set_comm _ _ (Ne.symm hij)]at I5;exact⟨_,H1,I5,q1⟩
def tAugS(to ti te:TE)(tget:V->V->Hp->VK->Prop)(tip:TIp)(tset:TSet):TS:=λD σ H=>to σ H λo H1=>ti σ H1 λi H2=>tget o i H2 λx H3=>te σ H3 λy H4=>tip x y H4 λz H5=>tset o i z H5 λH6=>D.nx σ H6
def PGet(X:Cx)(t:V->V->Hp->VK->Prop):Prop:=
 ∀(Xp:List (Addr×Obj)) (s:Shared) (σ:St) (H:Hp) (o i:V) (ov iv:Value) (Q:VK),Inv X Xp σ H s->RelV o ov->RelV i iv->t o i H Q->
   wpAny (model X.prog X.w) X.A (getItem ov iv) (EP X Xp σ Q) X.xe s
theorem ps_augS(ho:PE X o to)(hi:PE X i ti)(hg:PGet X tget)(he:PE X e te)(hp:PIp X op tip)(hs:PSet X tset)
  (ha:∀ov iv new,augStore i ov iv new=(do holding [new,ov,iv] (setItem ov iv new);release [new,ov,iv] [];pure .next):=by intros;rfl):PS X (.AugAssign (.Subscript o i tpos) op e pos) (tAugS to ti te tget tip tset):=by
 intro Xp s σ H D I h;refine wpAny_AugAssign_SubscriptAny (thn (ho Xp s σ H _ I h) λov s1 ⟨x1,H1,I1,r1,q1⟩=>?_) ha
 refine thn (hi Xp s1 σ H1 _ I1 q1) λiv s2 ⟨x2,H2,I2,r2,q2⟩=>?_
 refine thn (hg Xp s2 σ H2 x1 x2 ov iv _ I2 r1 r2 q2) λold s3 ⟨x3,H3,I3,r3,q3⟩=>?_
 refine thn (he Xp s3 σ H3 _ I3 q3) λv s4 ⟨x4,H4,I4,r4,q4⟩=>?_
 refine thn (hp Xp s4 σ H4 x3 x4 old v _ I4 r3 r4 q4) λnew s5 ⟨x5,H5,I5,r5,q5⟩=>?_
 exact thn (hs Xp s5 σ H5 x1 x2 x5 ov iv new _ I5 r1 r2 r5 q5) λ_ s6 ⟨H6,I6,q6⟩=>⟨σ,H6,I6,q6⟩
end
section
variable{X:Cx}{pos:Pos}
def tWhile(c:TT)(tb:TS):TS:=λD σ H=>∃W:Nat->St->Hp->Prop,(∃m,W m σ H)/\∀m σ H,W m σ H->
 c σ H λb H1=>if b=true then ∃N:St->Hp->Prop,(∀σ' H',N σ' H'->∃m',m'<m/\W m' σ' H')/\tb { D with nx:=N,ct:=N,bk:=D.nx } σ H1 else D.nx σ H1
theorem ps_while(hp:PassesOwn (model X.prog X.w) X.A X.env X.xe)(hc:PT X c tc)(hb:PSs X body tb):PS X (.While c body [] pos) (tWhile tc tb):=by
 intro Xp s σ H D I h;obtain⟨W,⟨m0,w0⟩,turn⟩:=h;refine wpAny_While (codeAny_whileLoop (λn s'=>∃σ' H',Inv X Xp σ' H' s'/\W n σ' H') ?_ m0 ⟨σ,H,I,w0⟩)
 rintro n s1 ⟨σ1,H1,I1,w1⟩;refine Vh hp (thn (hc Xp s1 σ1 H1 _ I1 (turn n σ1 H1 w1)) λb s2 ⟨H2,I2,q2⟩=>?_)
 cases b with
 | true=>
   obtain⟨N,hN,q2⟩:=q2;rw[R1 rfl];refine Vh hp (thn (hb Xp s2 σ1 H2 _ I2 q2) λf s3 q3=>?_)
   cases f with
   |next=>obtain⟨σ3,H3,I3,n3⟩:=q3;obtain⟨m',hm,w3⟩:=hN σ3 H3 n3;exact⟨m',hm,σ3,H3,I3,w3⟩
   |cont=>obtain⟨σ3,H3,I3,n3⟩:=q3;obtain⟨m',hm,w3⟩:=hN σ3 H3 n3;exact⟨m',hm,σ3,H3,I3,w3⟩
   |brk=>exact q3
   |ret v=>exact q3
 |false=>rw[R3 R4];exact WL ⟨σ1,H2,I2,q2⟩
end
structure It where
 go:Nat->Hp->Prop
 yld:Nat->Hp->V->Hp->Prop
 stop:Nat->Hp->Prop
def FpOk(X:Cx)(Xp:List (Addr×Obj))(H:Hp)(b:Addr):Prop:=
 H b=none/\b≠X.env.locals/\b∉X.fs/\(b∈X.ex\/X.s₀.heap.objs.size<=b)/\(∀x c,X.env.cells.lookup x=some c->c≠b)/\∀p∈X.pn++Xp,p.1≠b
theorem Inv.fpOk(I:Inv X Xp σ H s)(hb:s.heap.objs.size<=b)(hn:H' b=none):FpOk X Xp H' b:=by
 refine⟨hn,Vq (RQ I.lt hb),I.nofs hb,.inr (R7 I.sz hb),λx c e z=>?_,λp hp z=>?_⟩
 ·obtain⟨v,q⟩:=I.cell x c e;exact absurd (RQ q.lt (by rw[z];exact hb)) (UJ _)
 ·exact absurd (RQ (RN (I.pin p hp).1) (by rw[z];exact hb)) (UJ _)
structure Turn(P:Program)(w:World)(K:PySem.W.Frag)(tg:Expr)(J:It)(fp:List Addr)(it:Addr)(tn:Nat->Heap->Prop):Prop where
 mem:it∈fp
 obj:∀i h,tn i h->∀b∈fp,∃o,h.get? b=some o/\∀v,o.data≠.cell v
 keep:∀i h h',tn i h->(∀b∈fp,∀o,h.get? b=some o->h'.get? b=some o)->tn i h'
 item:∀(X:Cx),X.prog=P->X.w=w->X.K=K->X.calm=true->∀(i:Nat) (Xp:List (Addr×Obj)) (s:Shared) (σ:St) (H:Hp) (E:Value->Shared->Prop),Inv X Xp σ H s->(∀b∈fp,FpOk X Xp H b)->tn i s.heap->J.go i H->
  wpAny (model P w) X.A (pyNext (.ref it)) (λr s1=>∃u,r=some u /\
   wpAny (model P w) X.A (letOwnedTupleGo tg (.ref it) u) (λ_ s2=>∃x H',Inv X Xp σ H' s2/\RelV x u/\J.yld i H x H'/\tn (i+1) s2.heap/\∀b∈fp,H' b=none) E s1) E s
 done:∀(X:Cx),X.prog=P->X.w=w->X.K=K->X.calm=true->∀(i:Nat) (Xp:List (Addr×Obj)) (s:Shared) (σ:St) (H:Hp) (E:Value->Shared->Prop),Inv X Xp σ H s->(∀b∈fp,FpOk X Xp H b)->tn i s.heap->J.stop i H->
  wpAny (model P w) X.A (pyNext (.ref it)) (λr s1=>r=none/\Inv X Xp σ H s1) E s
 self:∀(A:Around) (i:Nat) (s:Shared) (Q:Value->Shared->Prop) (E:Value->Shared->Prop),tn i s.heap->Q (.ref it) s->wpAny (model P w) A (pyIter (.ref it)) Q E s
abbrev TI:=St->Hp->(It->Hp->Prop)->Prop
def PIE(X:Cx)(Xp:List (Addr×Obj))(σ:St)(tg:Expr)(R:It->Hp->Prop)(itv:Value)(s2:Shared):Prop:=
 ∃(it:Addr) (fp:List Addr) (tn:Nat->Heap->Prop) (J:It) (H':Hp),itv=.ref it/\Inv X Xp σ H' s2/\Turn X.prog X.w X.K tg J fp it tn/\tn 0 s2.heap/\(∀b∈fp,FpOk X Xp H' b)/\R J H'
def PI(X:Cx)(tg iter:Expr)(wi:TI):Prop:=
 ∀(Xp:List (Addr×Obj)) (s:Shared) (σ:St) (H:Hp) (R:It->Hp->Prop),Inv X Xp σ H s->wi σ H R->
   wpAny (model X.prog X.w) X.A (eval iter X.env) (λv s1=>wpAny (model X.prog X.w) X.A (pyIter v) (PIE X Xp σ tg R) X.xe s1) X.xe s
theorem go_of(ho:s.heap.get? it=some o)(hc:o.cls=.type n)(hd:o.data=.fields vs)
  (hn:["enumerate", "zip", "dict_itemiterator", "dict_reverseitemiterator", "odict_iterator", "itertools.zip_longest", "itertools.pairwise"].contains n=false) (hQ:Q () s):wpAny M A (letOwnedTupleGo tg (.ref it) u) Q E s:=by
 unfold letOwnedTupleGo;cases tg<;>first
  |exact RJ hQ
  | (cases u<;>first
      |exact RJ hQ
      | (refine wpAny_bind (wpAny_load ho ?_)
         rw[hc,hd];show wpAny M A (if (["enumerate", "zip", "dict_itemiterator", "dict_reverseitemiterator", "odict_iterator", "itertools.zip_longest", "itertools.pairwise"].contains n&&vs[0]?==some (rawInt _))=true then _ else _) Q E s
         rw[R3 (by intro h;rw[hn,Bool.false_and]at h;cases h)]
         exact RJ hQ))
def Itl(K:PySem.W.Frag)(a:Addr):It:=
 ⟨λi H=>∃xs x,SqL K H a xs/\xs[i]?=some x,λi H x H'=>H'=H/\∀xs,SqL K H a xs->xs[i]?=some x,λi H=>∃xs,SqL K H a xs/\xs.length<=i⟩
def Itt(K:PySem.W.Frag)(a:Addr):It:=
 ⟨λi H=>∃xs x,SqT K H a xs/\xs[i]?=some x,λi H x H'=>H'=H/\∀xs,SqT K H a xs->xs[i]?=some x,λi H=>∃xs,SqT K H a xs/\xs.length<=i⟩
def Itr(lo:Int)(n:Nat):It:=⟨λi z=>i<n,λi H x H'=>H'=H/\x=.int (lo+i),λi z=>n<=i⟩
theorem turn_list{P:Program}{w:World}{K:PySem.W.Frag}{tg:Expr}(a it:Addr):Turn P w K tg (Itl K a) [it] it (λi h=>h.IsListIter it a i) where
 mem:=by simp
 obj:=λi h st b hb=>by
  have e:b=it:=by simpa using hb
  subst e;obtain⟨o,e,c,d⟩:=st;exact⟨o,e,λv z=>by rw[d]at z;cases z⟩
 keep:=λi h h' st k=>st.at λo e=>k it (by simp) o e
 item:=by
  intro X hP hw hK hc i Xp s σ H E I hf st hg;subst hP hw hK;obtain⟨xs,x,hq,hx⟩:=hg;obtain⟨its,rv,p,hz⟩:=I.list hq;obtain⟨u,hu,ru⟩:=rv.get hx;obtain⟨f0,f1,f2,f3,f4,f5⟩:=hf it (by simp)
  refine wpAny_pyNext_list_item st p.isList (x:=u) (by simpa using hu) λh' st' sb=>?_
  have I1:Inv X Xp σ H { s with heap:=h' }:=I.turned (t':=s.toks) (λb o hb e=>(sb.2 b hb).trans e) f0 f1 f3 f4 f5
  obtain⟨o,e,c,d⟩:=id st';exact⟨u,rfl,go_of (s:={ s with heap:=h' }) e c d (by decide) ⟨x,H,I1,ru,⟨rfl,λys hy=>by rw[I.list_inj hy hq];exact hx⟩,st',λb hb=>(hf b hb).1⟩⟩
 done:=by
  intro X hP hw hK hc i Xp s σ H E I hf st hg;subst hP hw hK;obtain⟨xs,hq,hx⟩:=hg;obtain⟨its,rv,p,hz⟩:=I.list hq;obtain⟨f0,f1,f2,f3,f4,f5⟩:=hf it (by simp)
  have hl:=rv.length;exact wpAny_pyNext_list_end (I.ok.hd hc) st p.isList (by simp;omega) λh' eb=>⟨rfl,I.turned (t':=s.toks) (λb o hb e=>eb b o hb e) f0 f1 f3 f4 f5⟩
 self:=λy y y y y st h=>wpAny_pyIter_listiter st h
theorem turn_tuple{P:Program}{w:World}{K:PySem.W.Frag}{tg:Expr}(a it:Addr):Turn P w K tg (Itt K a) [it] it (λi h=>h.IsTupleIter it a i) where
 mem:=by simp
 obj:=λi h st b hb=>by
  have e:b=it:=by simpa using hb
  subst e;obtain⟨o,e,c,d⟩:=st;exact⟨o,e,λv z=>by rw[d]at z;cases z⟩
 keep:=λi h h' st k=>st.at λo e=>k it (by simp) o e
 item:=by
  intro X hP hw hK hc i Xp s σ H E I hf st hg;subst hP hw hK;obtain⟨xs,x,hq,hx⟩:=hg;obtain⟨its,rv,p,hz⟩:=I.tuple hq;obtain⟨u,hu,ru⟩:=rv.get hx;obtain⟨f0,f1,f2,f3,f4,f5⟩:=hf it (by simp)
  refine wpAny_pyNext_tuple_item st (show s.heap.IsTuple a its.toArray from p) (x:=u) (by simpa using hu) λh' st' sb=>?_
  have I1:Inv X Xp σ H { s with heap:=h' }:=I.turned (t':=s.toks) (λb o hb e=>(sb.2 b hb).trans e) f0 f1 f3 f4 f5
  obtain⟨o,e,c,d⟩:=id st';exact⟨u,rfl,go_of (s:={ s with heap:=h' }) e c d (by decide) ⟨x,H,I1,ru,⟨rfl,λys hy=>by rw[I.tuple_inj hy hq];exact hx⟩,st',λb hb=>(hf b hb).1⟩⟩
 done:=by
  intro X hP hw hK hc i Xp s σ H E I hf st hg;subst hP hw hK;obtain⟨xs,hq,hx⟩:=hg;obtain⟨its,rv,p,hz⟩:=I.tuple hq;obtain⟨f0,f1,f2,f3,f4,f5⟩:=hf it (by simp)
  have hl:=rv.length;exact wpAny_pyNext_tuple_end (I.ok.hd hc) st (show s.heap.IsTuple a its.toArray from p) (by simp;omega) λh' eb=>⟨rfl,I.turned (t':=s.toks) (λb o hb e=>eb b o hb e) f0 f1 f3 f4 f5⟩
 self:=λy y y y y st h=>wpAny_pyIter_tupleiter st h
theorem turn_range{P:Program}{w:World}{K:PySem.W.Frag}{tg:Expr}(it:Addr)(lo:Int)(n:Nat):Turn P w K tg (Itr lo n) [it] it (λi h=>IsRangeIter h it (lo + (i:Nat) * 1) ((n:Int) - (i:Nat)) 1) where
 mem:=by simp
 obj:=λi h st b hb=>by
  have e:b=it:=by simpa using hb
  subst e;exact⟨_,st,λv z=>by have z':Data.fields _=Data.cell v:=z;cases z'⟩
 keep:=λi h h' st k=>k it (by simp) _ st
 item:=by
  intro X hP hw hK hc i Xp s σ H E I hf st hg;subst hP hw hK;obtain⟨f0,f1,f2,f3,f4,f5⟩:=hf it (by simp)
  have W:=Walks.range (prog:=X.prog) (w:=X.w) (I.ok.hd hc) it lo 1 n;refine W.item i s _ _ hg st λv h' tk hv st' kk=>?_
  obtain⟨t,rfl⟩:=hv;have I1:Inv X Xp σ H { s with heap:=h',toks:=tk }:=I.turned (λb o hb e=>kk b o (by simpa using hb) e) f0 f1 f3 f4 f5
  refine⟨_,rfl,go_of (s:={ s with heap:=h',toks:=tk }) (n := "range_iterator") st' rfl rfl (by decide) ⟨.int (lo+i),H,I1,⟨t,?_⟩,⟨rfl,rfl⟩,st',λb hb=>(hf b hb).1⟩⟩
  rw[Int.mul_one]
 done:=by
  intro X hP hw hK hc i Xp s σ H E I hf st hg;subst hP hw hK;obtain⟨f0,f1,f2,f3,f4,f5⟩:=hf it (by simp)
  exact wpAny_pyNext_range_end (I.ok.hd hc) st (by have:n<=i:=hg;omega) λh' eb=>⟨rfl,I.turned (t':=s.toks) (λb o hb e=>eb b o hb e) f0 f1 f3 f4 f5⟩
 self:=λy y y y y st h=>Ws st h
open PySem PySem.Spec PyProof.Rows
section
variable{X:Cx}{tg:Expr}
def iList(K:PySem.W.Frag)(tl:TE):TI:=λσ H R=>tl σ H λx H1=>∃a,x=.ref a/\(∃xs,SqL K H1 a xs)/\R (Itl K a) H1
def iTup(K:PySem.W.Frag)(tl:TE):TI:=λσ H R=>tl σ H λx H1=>∃a,x=.ref a/\(∃xs,SqT K H1 a xs)/\R (Itt K a) H1
theorem pi_list{l:Expr}{tl:TE}(hl:PE X l tl):PI X tg l (iList X.K tl):=by
 intro Xp s σ H R I h;refine thn (hl Xp s σ H _ I h) λv s1 ⟨x,H1,I1,r1,q1⟩=>?_
 obtain⟨a,e,⟨xs,hq⟩,q⟩:=q1;subst e;cases r1;obtain⟨its,rv,p,hz⟩:=I1.list hq;refine U8 p.isList ?_;refine⟨s1.heap.objs.size,[s1.heap.objs.size],_,_,H1,rfl,I1.kept (t':=s1.toks) λb o e=>RG _ e,turn_list a _,⟨_,RM _ rfl,rfl,rfl⟩,λb hb=>?_,q⟩
 have e:b=s1.heap.objs.size:=by simpa using hb
 subst e;exact I1.fpOk (RX _) (I1.hok.fresh (RX _))
theorem pi_tup{l:Expr}{tl:TE}(hl:PE X l tl):PI X tg l (iTup X.K tl):=by
 intro Xp s σ H R I h;refine thn (hl Xp s σ H _ I h) λv s1 ⟨x,H1,I1,r1,q1⟩=>?_
 obtain⟨a,e,⟨xs,hq⟩,q⟩:=q1;subst e;cases r1;obtain⟨its,rv,p,hz⟩:=I1.tuple hq;refine wpAny_pyIter_tuple (show s1.heap.IsTuple a its.toArray from p) ?_
 refine⟨s1.heap.objs.size,[s1.heap.objs.size],_,_,H1,rfl,I1.kept (t':=s1.toks) λb o e=>RG _ e,turn_tuple a _,⟨_,RM _ rfl,rfl,rfl⟩,λb hb=>?_,q⟩
 have e:b=s1.heap.objs.size:=by simpa using hb
 subst e;exact I1.fpOk (RX _) (I1.hok.fresh (RX _))
theorem range_it{Xp:List (Addr×Obj)}{R:It->Hp->Prop}{E:Value->Shared->Prop}{lo hi:Int}{tk:Nat}(I:Inv X Xp σ H s)(h1:-(2^62)<=lo)(h2:lo<2^62)(h3:-(2^62)<=hi)(h4:hi<2^62)
  (q:R (Itr lo (hi-lo).toNat) H):wpAny (model X.prog X.w) X.A (pyIter (.ref s.heap.objs.size)) (PIE X Xp σ tg R) E { s with heap:=s.heap.push { cls:=.type "range",data:=.fields #[.int lo t,.int hi u,.int 1 v] },toks:=tk }:=by
 refine wpAny_pyIter_range (IsRange.new ..) (small_one h1 h2 h3 h4) ?_;have I1:Inv X Xp σ H { s with heap:=s.heap.push { cls:=.type "range",data:=.fields #[.int lo t,.int hi u,.int 1 v] },toks:=tk }:=I.kept λb o e=>RG _ e
 refine⟨(s.heap.push { cls:=.type "range",data:=.fields #[.int lo t,.int hi u,.int 1 v] }).objs.size,[(s.heap.push { cls:=.type "range",data:=.fields #[.int lo t,.int hi u,.int 1 v] }).objs.size],_,_,H,rfl,
  I1.kept (t':=tk) λb o e=>RG _ e,turn_range _ lo (hi-lo).toNat,?_,λb hb=>?_,q⟩
 ·have e1:lo+((0:Nat):Int)*1=lo:=by simp
  have e2:(((hi-lo).toNat:Nat):Int)-((0:Nat):Int)=Builtin.Range.rangeSize lo hi 1:=by rw[rangeSize_one];split<;>omega
  show IsRangeIter _ _ (lo+((0:Nat):Int)*1) ((((hi-lo).toNat:Nat):Int)-((0:Nat):Int)) 1;rw[e1,e2];exact RM _ rfl
 ·have e:b=(s.heap.push { cls:=.type "range",data:=.fields #[.int lo t,.int hi u,.int 1 v] }).objs.size:=by simpa using hb
  subst e;exact I1.fpOk (RX _) (I1.hok.fresh (RX _))
def iRng1(ta:TA):TI:=λσ H R=>ta σ H λvs H1=>∃j:Int,vs=[.int j]/\-(2^62)<=j/\j<2^62/\R (Itr 0 j.toNat) H1
def iRng2(ta:TA):TI:=λσ H R=>ta σ H λvs H1=>∃i j:Int,vs=[.int i,.int j]/\(-(2^62)<=i/\i<2^62/\-(2^62)<=j/\j<2^62)/\R (Itr i (j-i).toNat) H1
theorem pi_range1(hg:Gl X "range")(hm:X.mg "range"=none)(ha:PA X [a] ta)(hs:starEach [a] X.env=[(false,eval a X.env)]:=by rfl):PI X tg (.Call (.Name "range" p) [a] [] pos) (iRng1 ta):=by
 intro Xp s σ H R I h;refine Call_ (ld_blt I hg hm boot_range (Th (thn (ha pos Xp s σ H _ I h) λus s1 ⟨vs,H1,I1,r1,q1⟩=>?_) hs rfl))
 obtain⟨j,e,q1,q2,q⟩:=q1;subst e;cases r1 with
 |cons r rr=>cases rr;obtain⟨t,rfl⟩:=r;exact call_range_1 (range_it I1 (by omega) (by omega) q1 q2 (by simpa using q))
theorem pi_range2(hg:Gl X "range")(hm:X.mg "range"=none)(ha:PA X [a,b] ta)(hs:starEach [a,b] X.env=[(false,eval a X.env),(false,eval b X.env)]:=by rfl)(hs2:starEach [b] X.env=[(false,eval b X.env)]:=by rfl):
  PI X tg (.Call (.Name "range" p) [a,b] [] pos) (iRng2 ta):=by
 intro Xp s σ H R I h;refine Call_ (ld_blt I hg hm boot_range (Th (thn (ha pos Xp s σ H _ I h) λus s1 ⟨vs,H1,I1,r1,q1⟩=>?_) (by rw[hs,hs2]) (by rw[hs2];rfl)))
 obtain⟨i,j,e,⟨q1,q2,q3,q4⟩,q⟩:=q1;subst e;cases r1 with
 | cons r rr=>
   cases rr with
   |cons r' rr=>cases rr;obtain⟨t,rfl⟩:=r;obtain⟨t',rfl⟩:=r';exact call_range_2 (range_it I1 q1 q2 q3 q4 q)
def tFor(wi:TI)(g:TG)(tb:TS):TS:=λD σ H=>wi σ H λJ H1=>∃W:Nat->Nat->St->Hp->Prop,(∃m,W 0 m σ H1)/\∀i m σ H,W i m σ H->
 (J.stop i H/\D.nx σ H)\/(J.go i H/\∃N:St->Hp->Prop,(∀σ' H',N σ' H'->∃m',m'<m/\W (i+1) m' σ' H')/\∀x H',J.yld i H x H'->g x σ H' λσ2 H2=>tb { D with nx:=N,ct:=N,bk:=D.nx } σ2 H2)
def pinsAt(fp:List Addr)(h:Heap):List (Addr×Obj):=fp.filterMap λb=>(h.get? b).map λo=>(b,o)
theorem mem_pinsAt(hb:b∈fp)(e:h.get? b=some o):(b,o)∈pinsAt fp h:=List.mem_filterMap.mpr ⟨b,hb,by rw[e];rfl⟩
theorem of_pinsAt(hp:p∈pinsAt fp h):p.1∈fp/\h.get? p.1=some p.2:=by
 obtain⟨b,hb,e⟩:=List.mem_filterMap.mp hp;cases q:h.get? b with
 |none=>rw[q]at e;cases e
 |some o=>rw[q]at e;have e':(b,o)=p:=RP e;subst e';exact⟨hb,q⟩
theorem Inv.pinned(I:Inv X Xp σ H s)(hf:∀b∈fp,FpOk X Xp H b)(ho:∀b∈fp,∃o,s.heap.get? b=some o/\∀v,o.data≠.cell v):Inv X (Xp++pinsAt fp s.heap) σ H s:=
 I.pins_of λp hp=>(Su.mp hp).elim (λz=>I.pin p (S9 _ z)) λz=>by obtain⟨hb,e⟩:=of_pinsAt z;obtain⟨f0,f1,f2,_⟩:=hf p.1 hb;obtain⟨o,e',d⟩:=ho p.1 hb;rw[e]at e';cases e';exact⟨e,f0,f1,f2,d⟩
theorem Inv.unpinned(I:Inv X (Xp++pl) σ H s):Inv X Xp σ H s:=I.pins_of λp hp=>I.pin p (S9 _ (Vm _ hp))
theorem ps_for(hp:PassesOwn (model X.prog X.w) X.A X.env X.xe)(hc:X.calm=true)(hi:PI X tg iter wi)(hg:PG X tg g)(hb:PSs X body tb)
  (hs:∀x,foldedSetIterable iter X.env x=pure x:=by intro _;rfl):PS X (.For tg iter body [] pos) (tFor wi g tb):=by
 intro Xp s σ H D I h;refine wpAny_For (thn (hi Xp s σ H _ I h) λv s1 h1=>thn h1 λitv s2 h2=>?_) hs
 obtain⟨it,fp,tn,J,H2,e,I2,T,st2,f2,W,⟨m0,w0⟩,turn⟩:=h2;subst e
 -- what stays true of the iterator's objects through the loop
 have stat:∀{H':Hp},(∀b∈fp,H' b=none)->∀b∈fp,FpOk X Xp H' b:=λhn b hb=>⟨hn b hb,(f2 b hb).2⟩
 refine codeAny_forLoop_any (λn s'=>∃i σ' H',Inv X Xp σ' H' s'/\tn i s'.heap/\(∀b∈fp,H' b=none)/\W i n σ' H') ?_ m0 ⟨0,σ,H2,I2,st2,λb hb=>(f2 b hb).1,w0⟩
 rintro n s3 ⟨i,σ3,H3,I3,st3,fr3,w3⟩;rcases turn i n σ3 H3 w3 with ⟨stop,qn⟩ | ⟨go,N,hN,step⟩
 ·refine Vh hp (thn (T.done X rfl rfl rfl hc i Xp s3 σ3 H3 X.xe I3 (stat fr3) st3 stop) λr s4 ⟨hr,I4⟩=>?_)
  subst hr;exact WL ⟨σ3,H3,I4,qn⟩
 ·refine Vh hp (thn (T.item X rfl rfl rfl hc i Xp s3 σ3 H3 X.xe I3 (stat fr3) st3 go) λr s4 ⟨u,hr,h4⟩=>?_)
  subst hr;refine Vh hp (thn h4 λ_ s5 ⟨x,H5,I5,r5,y5,st5,fr5⟩=>?_)
  have I5':=I5.pinned (stat fr5) (T.obj _ _ st5);refine Vh hp (thn (hg _ s5 σ3 H5 x u _ I5' r5 (step x H5 y5)) λ_ s6 ⟨σ6,H6,I6,q6⟩=>?_)
  refine Vh hp (thn (hb _ s6 σ6 H6 _ I6 q6) λf s7 q7=>?_)
  have again:∀{σ7:St}{H7:Hp},Inv X (Xp++pinsAt fp s5.heap) σ7 H7 s7->N σ7 H7->∃m,m<n/\∃i σ' H',Inv X Xp σ' H' s7/\tn i s7.heap/\(∀b∈fp,H' b=none)/\W i m σ' H':=λ{σ7 H7} I7 n7=>by
   obtain⟨m',hm,w7⟩:=hN σ7 H7 n7;refine⟨m',hm,i+1,σ7,H7,I7.unpinned,T.keep _ _ _ st5 λb hb o e=>(I7.pin (b,o) (S9 _ (S9 _ (mem_pinsAt hb e)))).1,λb hb=>?_,w7⟩
   obtain⟨o,e,d⟩:=T.obj _ _ st5 b hb;exact (I7.pin (b,o) (S9 _ (S9 _ (mem_pinsAt hb e)))).2.1
  cases f with
  |next=>obtain⟨σ7,H7,I7,n7⟩:=q7;exact again I7 n7
  |cont=>obtain⟨σ7,H7,I7,n7⟩:=q7;exact again I7 n7
  |brk=>obtain⟨σ7,H7,I7,q7⟩:=q7;exact⟨σ7,H7,I7.unpinned,q7⟩
  |ret v=>obtain⟨x7,σ7,H7,I7,r7,q7⟩:=q7;exact⟨x7,σ7,H7,I7.unpinned,r7,q7⟩
end
open PySem PySem.Spec PyProof.Rows
abbrev R2:=V->V->Hp->VK->Prop
def OpR(X:Cx)(f:Value->Value->Sem Value)(r:R2):Prop:=
 ∀(Xp:List (Addr×Obj)) (s:Shared) (σ:St) (H:Hp) (x y:V) (v u:Value) (Q:VK),Inv X Xp σ H s->RelV x v->RelV y u->r x y H Q->
   wpAny (model X.prog X.w) X.A (f v u) (EP X Xp σ Q) X.xe s
def CallR(X:Cx)(f:Value)(r:List V->Hp->VK->Prop):Prop:=
 ∀(Xp:List (Addr×Obj)) (s:Shared) (σ:St) (H:Hp) (xs:List V) (us:List Value) (Q:VK),Inv X Xp σ H s->Vals xs us->r xs H Q->
   wpAny (model X.prog X.w) X.A (call f us) (EP X Xp σ Q) X.xe s
def TruR(X:Cx)(r:V->Hp->(Bool->Hp->Prop)->Prop):Prop:=
 ∀(Xp:List (Addr×Obj)) (s:Shared) (σ:St) (H:Hp) (x:V) (v:Value) (Q:Bool->Hp->Prop),Inv X Xp σ H s->RelV x v->r x H Q->
   wpAny (model X.prog X.w) X.A (truthy v) (TP X Xp σ Q) X.xe s
def tOp(r:R2)(ta tb:TE):TE:=λσ H Q=>ta σ H λx H1=>tb σ H1 λy H2=>r x y H2 Q
def rI(C:Int->Int->Prop)(g:Int->Int->V):R2:=λx y H Q=>∃i j,x=.int i/\y=.int j/\C i j/\Q (g i j) H
def rI0(g:Int->Int->V):R2:=λx y H Q=>∃i j,x=.int i/\y=.int j/\Q (g i j) H
section
variable{X:Cx}{a b c:Expr}{ta tb tc:TE}{pos:Pos}
theorem binT(ha:PE X a ta)(hb:PE X b tb){Xp:List (Addr×Obj)}{R:V->V->Hp->Prop}(I:Inv X Xp σ H s)
  (h:ta σ H λx H1=>tb σ H1 λy H2=>R x y H2) {Q:Value->Shared->Prop}{f:Value->Value->Sem Value}
  (hf:∀v u s2 x y H2,Inv X Xp σ H2 s2->RelV x v->RelV y u->R x y H2->wpAny (model X.prog X.w) X.A (f v u) Q X.xe s2) :
  wpAny (model X.prog X.w) X.A (eval a X.env) (λv s₁=>wpAny (model X.prog X.w) X.A (eval b X.env) (λu s₂=>wpAny (model X.prog X.w) X.A (f v u) Q X.xe s₂) X.xe s₁) X.xe s:=by
 refine thn (ha Xp s σ H _ I h) λv s1 ⟨x,H1,I1,r1,q1⟩=>?_
 refine thn (hb Xp s1 σ H1 _ I1 q1) λu s2 ⟨y,H2,I2,r2,q2⟩=>?_
 exact hf v u s2 x y H2 I2 r1 r2 q2
theorem pe_op(ho:OpR X (binaryOp op) r)(ha:PE X a ta)(hb:PE X b tb):PE X (.BinOp a op b pos) (tOp r ta tb):=by intro Xp s σ H Q I h;exact wpAny_BinOp (binT ha hb I h λv u s2 x y H2 I2 rx ry q=>ho Xp s2 σ H2 x y v u Q I2 rx ry q)
theorem opI{f:Value->Value->Sem Value}{C:Int->Int->Prop}{g:Int->Int->Int}
  (rule:∀(i j:Int) (t u:Tok) (s:Shared) (Q:Value->Shared->Prop) (E:Value->Shared->Prop),C i j->Q (.int (g i j) s.toks) { s with toks:=s.toks+1 }->wpAny (model X.prog X.w) X.A (f (.int i t) (.int j u)) Q E s) :
  OpR X f (rI C λi j=>.int (g i j)):=by
 intro Xp s σ H x y v u Q I rx ry h;obtain⟨i,j,rfl,rfl,hc,q⟩:=h;obtain⟨t,rfl⟩:=rx;obtain⟨t',rfl⟩:=ry;exact rule i j t t' s _ _ hc ⟨.int (g i j),H,I.tok _,⟨_,rfl⟩,q⟩
theorem opI0{f:Value->Value->Sem Value}{g:Int->Int->Int}
  (rule:∀(i j:Int) (t u:Tok) (s:Shared) (Q:Value->Shared->Prop) (E:Value->Shared->Prop),Q (.int (g i j) s.toks) { s with toks:=s.toks+1 }->wpAny (model X.prog X.w) X.A (f (.int i t) (.int j u)) Q E s) :
  OpR X f (rI0 λi j=>.int (g i j)):=by
 intro Xp s σ H x y v u Q I rx ry h;obtain⟨i,j,rfl,rfl,q⟩:=h;obtain⟨t,rfl⟩:=rx;obtain⟨t',rfl⟩:=ry;exact rule i j t t' s _ _ ⟨.int (g i j),H,I.tok _,⟨_,rfl⟩,q⟩
theorem opB0{f:Value->Value->Sem Value}{g:Int->Int->Bool}
  (rule:∀(i j:Int) (t u:Tok) (s:Shared) (Q:Value->Shared->Prop) (E:Value->Shared->Prop),Q (.bool (g i j)) s->wpAny (model X.prog X.w) X.A (f (.int i t) (.int j u)) Q E s) :
  OpR X f (rI0 λi j=>.bl (g i j)):=by
 intro Xp s σ H x y v u Q I rx ry h;obtain⟨i,j,rfl,rfl,q⟩:=h;obtain⟨t,rfl⟩:=rx;obtain⟨t',rfl⟩:=ry;exact rule i j t t' s _ _ ⟨.bl (g i j),H,I,rfl,q⟩
def CPow(i j:Int):Prop:=0<=j/\j<=1000000/\i.natAbs<2^64
theorem op_add:OpR X (binaryOp .Add) (rI0 λi j=>.int (i+j)):=opI0 λz z z z z z z q=>add_int q
theorem op_sub:OpR X (binaryOp .Sub) (rI0 λi j=>.int (i-j)):=opI0 λz z z z z z z q=>sub_int q
theorem op_mod:OpR X (binaryOp .Mod) (rI (λz j=>0<j) λi j=>.int (i%j)):=opI λi j z z z z z hc q=>by have h1:(0:Int)<j:=hc;exact mod_int' (by omega) (by rw[Int.fmod_eq_emod_of_nonneg i (by omega)];exact q)
theorem op_pow:OpR X (binaryOp .Pow) (rI CPow λi j=>.int (i^j.toNat)):=opI λz z z z z z z hc q=>pow_int_small hc.1 hc.2.1 hc.2.2 q
theorem iop_add:OpR X (inplaceOp .Add) (rI0 λi j=>.int (i+j)):=opI0 λz z z z z z z q=>iadd_int q
end
def scal:V->V->Bool
 |.non,.non=>true | .non,.int _=>true | .int _,.non=>true | .non,.bl _=>true | .bl _,.non=>true | .non,.str _=>true | .str _,.non=>true
 |.int _,.int _=>true | .bl _,.bl _=>true | .str _,.str _=>true | .byt _,.byt _=>true
 |.int _,.str _=>true | .str _,.int _=>true | .bl _,.str _=>true | .str _,.bl _=>true
 |_,_=>false
def rEq:R2:=λx y H Q=>scal x y=true/\Q (.bl (decide (x=y))) H
def rNe:R2:=λx y H Q=>scal x y=true/\Q (.bl (!decide (x=y))) H
theorem dec_int:decide (V.int i=V.int j)=(i==j):=by rw[S8];simp
theorem dec_bl:decide (V.bl i=V.bl j)=(i==j):=by rw[S8];simp
theorem dec_str:decide (V.str i=V.str j)=(i==j):=by rw[S8];simp
theorem dec_byt:decide (V.byt i=V.byt j)=(i.toList==j.toList):=by rw[S8];cases i;cases j;simp
section
variable{X:Cx}{a b c:Expr}{ta tb tc:TE}{pos:Pos}
theorem fin_bl(I:Inv X Xp σ H s)(q:Q (.bl k) H)(e:k=k'):EP X Xp σ Q (.bool k') s:=by subst e;exact⟨.bl k,H,I,rfl,q⟩
theorem op_eq:OpR X (compareOp .Eq) rEq:=by
 intro Xp s σ H x y v u Q I rx ry h;obtain⟨hs,q⟩:=h;cases x with
 |non=>
   cases rx;cases y with
   |non=>cases ry;exact PySem.EqNone.eq_none_none (fin_bl I q (by simp))
   |bl j=>cases ry;exact PySem.EqNone.eq_none_bool (fin_bl I q (by simp))
   |int j=>obtain⟨t',rfl⟩:=ry;exact PySem.EqNone.eq_none_int (fin_bl I q (by simp))
   |str j=>obtain⟨t',rfl⟩:=ry;exact PySem.EqNone.eq_none_str (fin_bl I q (by simp))
   |_=>exact absurd (show false=true from hs) R4
 |bl i=>
   cases rx;cases y with
   |non=>cases ry;exact PySem.EqNone.eq_bool_none (fin_bl I q (by simp))
   |bl j=>cases ry;exact eq_bool (fin_bl I q dec_bl)
   |str j=>obtain⟨t',rfl⟩:=ry;exact PySem.EqMixed.eq_bool_str (fin_bl I q (by simp))
   |_=>exact absurd (show false=true from hs) R4
 |int i=>
   obtain⟨t,rfl⟩:=rx;cases y with
   |non=>cases ry;exact PySem.EqNone.eq_int_none (fin_bl I q (by simp))
   |int j=>obtain⟨t',rfl⟩:=ry;exact eq_int (fin_bl I q dec_int)
   |str j=>obtain⟨t',rfl⟩:=ry;exact PySem.EqMixed.eq_int_str (fin_bl I q (by simp))
   |_=>exact absurd (show false=true from hs) R4
 |str i=>
   obtain⟨t,rfl⟩:=rx;cases y with
   |non=>cases ry;exact PySem.EqNone.eq_str_none (fin_bl I q (by simp))
   |bl j=>cases ry;exact PySem.EqMixed.eq_str_bool (fin_bl I q (by simp))
   |int j=>obtain⟨t',rfl⟩:=ry;exact PySem.EqMixed.eq_str_int (fin_bl I q (by simp))
   |str j=>obtain⟨t',rfl⟩:=ry;exact eq_str (fin_bl I q dec_str)
   |_=>exact absurd (show false=true from hs) R4
 |byt i=>
   obtain⟨t,rfl⟩:=rx;cases y with
   |byt j=>obtain⟨t',rfl⟩:=ry;exact PySem.W.eq_bytes (fin_bl I q dec_byt)
   |_=>exact absurd (show false=true from hs) R4
 |_=>cases y<;>exact absurd (show false=true from hs) R4
theorem op_ne:OpR X (compareOp .NotEq) rNe:=by
 intro Xp s σ H x y v u Q I rx ry h;obtain⟨hs,q⟩:=h;cases x with
 |non=>
   cases rx;cases y with
   |non=>cases ry;exact PySem.EqNone.ne_none_none (fin_bl I q (by simp))
   |bl j=>cases ry;exact PySem.EqNone.ne_none_bool (fin_bl I q (by simp))
   |int j=>obtain⟨t',rfl⟩:=ry;exact PySem.EqNone.ne_none_int (fin_bl I q (by simp))
   |str j=>obtain⟨t',rfl⟩:=ry;exact PySem.EqNone.ne_none_str (fin_bl I q (by simp))
   |_=>exact absurd (show false=true from hs) R4
 |bl i=>
   cases rx;cases y with
   |non=>cases ry;exact PySem.EqNone.ne_bool_none (fin_bl I q (by simp))
   |bl j=>cases ry;exact ne_bool (fin_bl I q (congrArg not dec_bl))
   |str j=>obtain⟨t',rfl⟩:=ry;exact PySem.EqMixed.ne_bool_str (fin_bl I q (by simp))
   |_=>exact absurd (show false=true from hs) R4
 |int i=>
   obtain⟨t,rfl⟩:=rx;cases y with
   |non=>cases ry;exact PySem.EqNone.ne_int_none (fin_bl I q (by simp))
   |int j=>obtain⟨t',rfl⟩:=ry;exact ne_int (fin_bl I q (congrArg not dec_int))
   |str j=>obtain⟨t',rfl⟩:=ry;exact PySem.EqMixed.ne_int_str (fin_bl I q (by simp))
   |_=>exact absurd (show false=true from hs) R4
 |str i=>
   obtain⟨t,rfl⟩:=rx;cases y with
   |non=>cases ry;exact PySem.EqNone.ne_str_none (fin_bl I q (by simp))
   |bl j=>cases ry;exact PySem.EqMixed.ne_str_bool (fin_bl I q (by simp))
   |int j=>obtain⟨t',rfl⟩:=ry;exact PySem.EqMixed.ne_str_int (fin_bl I q (by simp))
   |str j=>obtain⟨t',rfl⟩:=ry;exact ne_str (fin_bl I q (congrArg not dec_str))
   |_=>exact absurd (show false=true from hs) R4
 |byt i=>
   obtain⟨t,rfl⟩:=rx;cases y with
   |byt j=>obtain⟨t',rfl⟩:=ry;exact PySem.W.ne_bytes (fin_bl I q (congrArg not dec_byt))
   |_=>exact absurd (show false=true from hs) R4
 |_=>cases y<;>exact absurd (show false=true from hs) R4
theorem op_lt:OpR X (compareOp .Lt) (rI0 λi j=>.bl (decide (i<j))):=opB0 λz z z z z z z q=>lt_int q
theorem op_le:OpR X (compareOp .LtE) (rI0 λi j=>.bl (decide (i<=j))):=opB0 λz z z z z z z q=>le_int q
theorem op_gt:OpR X (compareOp .Gt) (rI0 λi j=>.bl (decide (j<i))):=opB0 λz z z z z z z q=>gt_int q
theorem op_ge:OpR X (compareOp .GtE) (rI0 λi j=>.bl (decide (j<=i))):=opB0 λz z z z z z z q=>ge_int q
theorem op_notN:OpR X (compareOp .IsNot) (λx y H Q=>y=.non/\Q (.bl (!decide (x=.non))) H):=by
 intro Xp s σ H x y v u Q I rx ry h;obtain⟨rfl,q⟩:=h;cases ry;refine isnot_none_gen (fin_bl I q ?_);cases x<;>first
  |(cases rx;rfl)
  |(obtain⟨t,rfl⟩:=rx;rfl)
theorem OpR.or(h:OpR X f r)(h':OpR X f r'):OpR X f (λx y H Q=>r x y H Q\/r' x y H Q):=by
 intro Xp s σ H x y v u Q I rx ry q;rcases q with q | q
 ·exact h Xp s σ H x y v u Q I rx ry q
 ·exact h' Xp s σ H x y v u Q I rx ry q
theorem nomark(b:Expr)(h:op≠.In:=by decide)(h2:op≠.NotIn:=by decide):behindInMarks op b=false:=by
 have e1:(op==CmpOp.In)=false:=by cases op<;>first | rfl | exact absurd rfl h
 have e2:(op==CmpOp.NotIn)=false:=by cases op<;>first | rfl | exact absurd rfl h2
 cases b<;>simp[behindInMarks,e1,e2]
theorem pe_cmpR(ho:OpR X (compareOp op) r)(ha:PE X a ta)(hb:PE X b tb)(hm:behindInMarks op b=false):PE X (.Compare a [op] [b] pos) (tOp r ta tb):=by intro Xp s σ H Q I h;exact wpAny_Compare1 (binT ha hb I h λv u s2 x y H2 I2 rx ry q=>ho Xp s2 σ H2 x y v u Q I2 rx ry q) hm
def tTest(t:TE):TT:=λσ H Q=>t σ H λx H'=>∃k,x=.bl k/\Q k H'
theorem pt_cmpR(ho:OpR X (compareOp op) r)(ha:PE X a ta)(hb:PE X b tb)(hm:behindInMarks op b=false):PT X (.Compare a [op] [b] pos) (tTest (tOp r ta tb)):=by
 intro Xp s σ H Q I h;refine wpAny_isTrue_Compare1 (thn (ha Xp s σ H _ I h) λv s1 ⟨x,H1,I1,r1,q1⟩=>thn (hb Xp s1 σ H1 _ I1 q1) λu s2 ⟨y,H2,I2,r2,q2⟩=>
  thn (ho Xp s2 σ H2 x y v u _ I2 r1 r2 q2) λc s3 ⟨z,H3,I3,r3,k,e,q3⟩=>?_) hm
 subst e;cases r3;exact Ut ⟨H3,I3,q3⟩
def tChain(r r':R2)(ta tb tc:TE):TE:=λσ H Q=>ta σ H λx H1=>tb σ H1 λy H2=>r x y H2 λz H3=>∃k,z=.bl k /\
 (if k=true then tc σ H3 λw' H4=>r' y w' H4 Q else Q (.bl false) H3)
theorem pe_chain(ho:OpR X (compareOp op) r)(ho':OpR X (compareOp op') r')(ha:PE X a ta)(hb:PE X b tb)(hc:PE X c tc)
  (hm:lastMarks [op,op'] [b,c]=false:=by with_unfolding_all rfl):PE X (.Compare a [op,op'] [b,c] pos) (tChain r r' ta tb tc):=by
 intro Xp s σ H Q I h;refine Compare_chain (thn (ha Xp s σ H _ I h) λv s1 ⟨x,H1,I1,r1,q1⟩=>chain_link (thn (hb Xp s1 σ H1 _ I1 q1) λu s2 ⟨y,H2,I2,r2,q2⟩=>
  thn (ho Xp s2 σ H2 x y v u _ I2 r1 r2 q2) λd s3 ⟨z,H3,I3,r3,k,e,q3⟩=>?_)) hm
 subst e;cases r3;refine Ut ?_;cases k with
 |false=>exact ite_ff ⟨.bl false,H3,I3,rfl,q3⟩
 |true=>exact ite_tt (chain_last (thn (hc Xp s3 σ H3 _ I3 q3) λw' s4 ⟨z',H4,I4,r4,q4⟩=>ho' Xp s4 σ H4 y z' u w' Q I4 r2 r4 q4))
theorem pt_chain(ho:OpR X (compareOp op) r)(ho':OpR X (compareOp op') r')(ha:PE X a ta)(hb:PE X b tb)(hc:PE X c tc)
  (hm:lastMarks [op,op'] [b,c]=false:=by with_unfolding_all rfl):PT X (.Compare a [op,op'] [b,c] pos) (tTest (tChain r r' ta tb tc)):=by
 intro Xp s σ H Q I h;refine isTrue_chain (thn (ha Xp s σ H _ I h) λv s1 ⟨x,H1,I1,r1,q1⟩=>test_link (thn (hb Xp s1 σ H1 _ I1 q1) λu s2 ⟨y,H2,I2,r2,q2⟩=>
  thn (ho Xp s2 σ H2 x y v u _ I2 r1 r2 q2) λd s3 ⟨z,H3,I3,r3,k,e,q3⟩=>?_)) hm
 subst e;cases r3;refine Ut ?_;cases k with
 |false=>obtain⟨k',e',q'⟩:=q3;cases e';exact ite_ff ⟨H3,I3,q'⟩
 |true=>
   refine ite_tt (test_last (thn (hc Xp s3 σ H3 _ I3 q3) λw' s4 ⟨z',H4,I4,r4,q4⟩=>thn (ho' Xp s4 σ H4 y z' u w' _ I4 r2 r4 q4) λd' s5 ⟨z2,H5,I5,r5,k2,e2,q5⟩=>?_))
   subst e2;cases r5;exact Ut ⟨H5,I5,q5⟩
def TruV(K:PySem.W.Frag)(x:V)(H:Hp)(k:Bool):Prop:=
 match x with
 |.non=>k=false
 |.bl b=>k=b
 |.int i=>k=(i != 0)
 |.str y=>y.length<=sizeLine/\k=((y.length:Int) != 0)
 |.byt y=>y.size<=sizeLine/\k=((y.size:Int) != 0)
 |.ref p=>(∃xs,SqL K H p xs/\k=!xs.isEmpty)\/(∃xs,SqT K H p xs/\k=!xs.isEmpty)\/∃kvs,H p=some (.dK kvs)/\k=!kvs.isEmpty
 |_=>False
theorem isEmpty_kv(r:KV kvs vs):(!vs.isEmpty)=!kvs.isEmpty:=by cases r<;>rfl
theorem isEmpty_of(r:Vals xs its):(!its.toArray.isEmpty)=!xs.isEmpty:=by cases r<;>simp
theorem line63:(sizeLine:Nat)<2^63:=by rw[Vo];decide
theorem tru_ok:TruR X (λx H Q=>∃ k,TruV X.K x H k/\Q k H):=by
 intro Xp s σ H x v Q I rx h;obtain⟨k,e,q⟩:=h;have hl:=line63;have hs:sizeLine=16777216:=Vo;cases x with
 |non=>cases rx;have e':k=false:=e;subst e';exact truthy_none ⟨H,I,q⟩
 |bl b=>cases rx;have e':k=b:=e;subst e';exact Ut ⟨H,I,q⟩
 |int i=>obtain⟨t,rfl⟩:=rx;have e':k=(i != 0):=e;subst e';exact PySem.P.truthy_int ⟨H,I,q⟩
 |str y=>obtain⟨t,rfl⟩:=rx;obtain⟨hy,e'⟩:y.length<=sizeLine/\k=((y.length:Int) != 0):=e;subst e';exact PySem.P.truthy_str (by omega) ⟨H,I.tok _,q⟩
 |byt y=>obtain⟨t,rfl⟩:=rx;obtain⟨hy,e'⟩:y.size<=sizeLine/\k=((y.size:Int) != 0):=e;subst e';exact PySem.W.truthy_bytes (by omega) ⟨H,I.tok _,q⟩
 | ref p=>
   cases rx;have e':(∃xs,SqL X.K H p xs/\k=!xs.isEmpty)\/(∃xs,SqT X.K H p xs/\k=!xs.isEmpty)\/∃kvs,H p=some (.dK kvs)/\k=!kvs.isEmpty:=e;rcases e' with ⟨xs,hx,e'⟩ | ⟨xs,hx,e'⟩ | ⟨kvs,hx,e'⟩
   ·subst e';obtain⟨its,r,pl,hz⟩:=I.list hx;have hlen:=r.length;exact wpAny_truthy_list pl.isList (by simp only[List.size_toArray];omega) ⟨H,I.tok _,by rw[isEmpty_of r];exact q⟩
   ·subst e';obtain⟨its,r,pl,hz⟩:=I.tuple hx;have hlen:=r.length;exact truthy_tuple pl (by simp only[List.size_toArray];omega) ⟨H,I.tok _,by rw[isEmpty_of r];exact q⟩
   ·subst e';obtain⟨hz,hS,vs,r,m⟩:kvs.length<=sizeLine/\(p==sysModules)=false/\∃vs,KV kvs vs/\s.heap.DictOf (mixKind X.prog X.w) p vs:=I.hok p _ hx;have hlen:kvs.length=vs.length:=W3 r;exact wpAny_truthy_dict hS m (by omega) ⟨H,I.tok _,by rw[isEmpty_kv r];exact q⟩
 |_=>exact (show False from e).elim
theorem pt_truth(ha:PE X a ta)(he:∀whole,isTrue a X.env whole=(do let v <-whole;standAt a.pos;holding [v] (truthy v))):
  PT X a (λσ H Q=>ta σ H λx H'=>∃k,TruV X.K x H' k/\Q k H'):=by
 intro Xp s σ H Q I h;exact isTrue_plain (thn (ha Xp s σ H _ I h) λv s1 ⟨x,H1,I1,r1,q1⟩=>tru_ok Xp s1 σ H1 x v Q I1 r1 q1) (he _)
theorem op_add_str:OpR X (binaryOp .Add) (λx y H Q=>∃i j,x=.str i/\y=.str j/\i.length+j.length<=sizeLine/\Q (.str (i++j)) H):=by intro Xp s σ H x y v u Q I rx ry h;obtain⟨i,j,rfl,rfl,hz,q⟩:=h;obtain⟨t,rfl⟩:=rx;obtain⟨t',rfl⟩:=ry;exact add_str (λt' tk=>⟨.str (i++j),H,I.tok _,⟨_,rfl⟩,q⟩) hz
theorem vals1(r:Vals [x] us):∃u,us=[u]/\RelV x u:=by
 cases r with
 |cons r1 r2=>cases r2;exact⟨_,rfl,r1⟩
theorem vals2(r:Vals [x,y] us):∃ u w',us=[u,w']/\RelV x u/\RelV y w':=by
 cases r with
 |cons r1 r2=>
   cases r2 with
   |cons r3 r4=>cases r4;exact⟨_,_,rfl,r1,r3⟩
theorem call_max2(hc:X.calm=true):CallR X (.builtin "max") (λxs H Q=>∃i j,xs=[.int i,.int j]/\Q (.int (if j > i then j else i)) H):=by
 intro Xp s σ H xs us Q I r h;obtain⟨i,j,rfl,q⟩:=h;obtain⟨u,w',rfl,⟨t,rfl⟩,⟨t',rfl⟩⟩:=vals2 r;refine max_two_ints (I.ok.hd hc) λh' tk k=>⟨_,H,I.kept k,?_,q⟩
 by_cases hj:j > i
 ·rw[R1 hj,R1 hj];exact⟨_,rfl⟩
 ·rw[R3 hj,R3 hj];exact⟨_,rfl⟩
end
open PySem PySem.Spec PyProof.Rows
structure ObjM(h:Heap)(x dx C:Addr)(mA:Str->Option Value):Prop where
 obj:h.get? x=some (PySem.W.instObj C dx)
 ns:h.Ns1 dx mA
 ne:dx≠x
set_option tactic.hygienic true in
theorem lookIn_ns{h:Heap}{dx:Addr}{mA:Str->Option Value}(n:h.Ns1 dx mA):∃ od,h.get? dx=some od/\∀ name,PySem.W.lookIn name od=some (mA name):=by
 obtain⟨o,es,ep,ho,hd,hk,_,hm⟩:=n;refine⟨o,ho,λname=>?_⟩
 have e:=hm name;unfold nsFind findBy at e;rw[<-Array.find?_toList]at e;unfold PySem.W.lookIn;rw[hd];dsimp only;split
 ·rename_i y q;rw[q]at e;exact congrArg some e
 ·rename_i q;rw[q]at e;have a:es.toList.any (·.refKey)=false:=by rw[List.any_eq_false];intro y hy;obtain⟨z,t,hkey⟩:=hk y (Array.mem_toList_iff.mp hy);simp[DictEntry.refKey,hkey]
  have a':¬ es.toList.any (·.refKey)=true:=by rw[a];exact R4
  rw[R3 a'];exact congrArg some e
theorem ObjM.look(I:ObjM h x dx C mA):∃od,PySem.W.InstAt h x (PySem.W.instObj C dx) C (some od)/\∀name,PySem.W.lookIn name od=some (mA name):=
 let ⟨od,ho,hl⟩:=lookIn_ns I.ns
 ⟨od,⟨I.obj,rfl,rfl,ho⟩,hl⟩
section
variable{prog:Program}{w:World}{A:Around}{E:Value->Shared->Prop}{s:Shared}{K:PySem.W.Frag}{x dx C f:Addr}{mA:Str->Option Value}{name:Str}{v:Value}
theorem get_map(X:K.In s.heap)(I:ObjM s.heap x dx C mA)(hg:PySem.W.plainGet K C name=true)(hh:PySem.W.hasDictIn K C=true)
  (ha:PySem.W.findIn K (.ref C) name=some none) (hv:mA name=some v) (hv':PySem.W.handedIn v=true) (h:Q v { s with toks:=s.toks+1 }) :
  wpAny (model prog w) A (getAttr (.ref x) name expr) Q E s:=by
 obtain⟨od,J,hl⟩:=I.look;exact PySem.W.get_value X J (PySem.W.plainGet_of hg).1 (PySem.W.findObj_own hh ha rfl (by rw[hl,hv])) hv' h
theorem set_map(X:K.In s.heap)(I:ObjM s.heap x dx C mA)
  (hs:PySem.W.findIn K (.ref C) "__setattr__"=some (some (.builtin "object.__setattr__"))) (hp:PySem.W.plainOver K C=true) (ht:PySem.W.takerIn K C name=some none) (hh:PySem.W.hasDictIn K C=true)
  (hw:PySem.Within mA ns) (hsz:ns.length<=sizeLine)
  (h:∀h',ObjM h' x dx C (λy=>if y=name then some v else mA y)->Heap.SameBut dx s.heap h'->Q () { s with heap:=h',toks:=s.toks+2 }) :
  wpAny (model prog w) A (setAttr (.ref x) name v) Q E s:=by
 obtain⟨od,J,hl⟩:=I.look;refine PySem.W.set_plain X J hs (PySem.W.osa_open (s:={ s with toks:=s.toks+1 }) (r:=none) X J hp ht λb=>?_)
 obtain⟨cd,hc,hd'⟩:=PySem.W.any_some hh;have hx:s.heap.get? x=some ⟨.ref C,some dx,.plain,#[]⟩:=I.obj;refine RD (RJ (RD (RD (wpAny_loadPart hx (RD (PySem.W.Looks.here (s:={ s with toks:=s.toks+1 }) (PySem.W.looks_clsIn X hc) ?_))))))
 rw[hd'];refine RJ (a:=some dx) (RD (RJ (RD ?_)));refine wpAny_nsSet1 (s:={ s with toks:=s.toks+1 }) I.ns λh' hn2 hs2=>?_
 obtain⟨oD,esD,epD,hoD,hdD,hcD⟩:=hn2.count (PySem.Within.cons name v hw);refine RD (wpAny_lookBehind hoD (by rw[hdD];exact pastItsLine_dict (R7 hcD (by rw[TF];omega))) ?_)
 exact RJ (h _ ⟨(hs2.2 _ (Ne.symm I.ne)).trans I.obj,hn2,I.ne⟩ hs2)
theorem make_map(X:K.In s.heap)(hm:PySem.W.makesIn K C=true)
  (hi:PySem.W.findIn K (.ref C) "__init__"=some (some (.ref f))) (hf:PySem.W.typeIn K (.ref f)=some (.type "function"))
  (h:codeAny (model prog w) (A.under (.builtin "type.__call__" ⟨.ref C::vs,kw⟩)) (.call (.ref f) ⟨.ref (s.heap.objs.size+1)::vs,kw⟩) (PySem.W.InitBack (s.heap.objs.size+1) R)
    { s with heap:=(s.heap.push PySem.W.emptyDict).push (PySem.W.instObj C s.heap.objs.size) }) :
  codeAny (model prog w) A (.call (.ref C) ⟨vs,kw⟩) R s:=by
 obtain⟨hh,g,d,t,os⟩:=s;exact PySem.W.make_core (PySem.W.makes_of X hm) (PySem.W.looks_findIn X hi) (λself=>PySem.W.bind_fn X self hf) (.inl rfl) h
end
def putF(f:Str)(v:V):List (Str×V)->List (Str×V)
 |[]=>[(f,v)]
 |(g,x)::r=>if g=f then (g,v)::r else (g,x)::putF f v r
theorem lookup_putF(f g:Str)(v:V):∀ fs:List (Str×V),(putF f v fs).lookup g=if g=f then some v else fs.lookup g
 | []=>by
   show List.lookup g [(f,v)]=_;by_cases h:g=f
   ·have hb:(g==f)=true:=W8.mpr h;simp only[List.lookup,hb,if_pos h]
   ·have hb:(g==f)=false:=Ux.mpr h;simp only[List.lookup,hb,if_neg h]
 | (k,x)::r=>by
   have ih:=lookup_putF f g v r;rw[show putF f v ((k,x)::r)=(if k=f then (k,v)::r else (k,x)::putF f v r) from rfl]
   by_cases hk:k=f
   ·rw[R1 hk];by_cases h:g=k
    ·have hb:(g==k)=true:=W8.mpr h;simp only[List.lookup,hb,if_pos (h.trans hk)]
    ·have hb:(g==k)=false:=Ux.mpr h;simp only[List.lookup,hb,if_neg (λe:g=f=>h (e.trans hk.symm))]
   ·rw[R3 hk];by_cases h:g=k
    ·have hb:(g==k)=true:=W8.mpr h;simp only[List.lookup,hb,if_neg (λe:g=f=>hk (h.symm.trans e))]
    ·have hb:(g==k)=false:=Ux.mpr h;simp only[List.lookup,hb];exact ih
theorem keys_putF(f:Str)(v:V):∀ fs:List (Str×V),f∈(putF f v fs).map (·.1)/\∀ g,g∈fs.map (·.1)->g∈(putF f v fs).map (·.1)
 |[]=>⟨by simp[putF],λg h=>by simp at h⟩
 | (k,x)::r=>by
   obtain⟨i1,i2⟩:=keys_putF f v r;rw[show putF f v ((k,x)::r)=(if k=f then (k,v)::r else (k,x)::putF f v r) from rfl]
   by_cases hk:k=f
   ·rw[R1 hk];subst hk;exact⟨by simp,λg h=>by simpa using h⟩
   ·rw[R3 hk];refine⟨?_,λg h=>?_⟩
    ·rw[SX];exact S6 _ i1
    ·rw[SX]at h ⊢
     rcases R8.mp h with e | e
     ·exact R8.mpr (.inl e)
     ·exact S6 _ (i2 g e)
theorem length_putF(f:Str)(v:V):∀ fs:List (Str×V),(putF f v fs).length<=fs.length + 1
 |[]=>by simp[putF]
 |(k,x)::r=>by
   have ih:=length_putF f v r;rw[show putF f v ((k,x)::r)=(if k=f then (k,v)::r else (k,x)::putF f v r) from rfl]
   by_cases hk:k=f
   ·rw[R1 hk,TF,TF];omega
   ·rw[R3 hk,TF,TF];omega
theorem RelO.some_of(r:RelO (some v) o):∃u,o=some u/\RelV v u:=by
 cases o with
 |none=>exact (show False from r).elim
 |some u=>exact⟨u,rfl,r⟩
theorem handed_of(r:RelV v u):PySem.W.handedIn u=true:=by
 cases v with
 |non=>cases (show u=Value.none from r);rfl
 |bl b=>cases (show u=Value.bool b from r);rfl
 |int i=>obtain⟨t,e⟩:=(show ∃t,u=Value.int i t from r);cases e;rfl
 |str x=>obtain⟨t,e⟩:=(show ∃t,u=Value.str x t from r);cases e;rfl
 |byt b=>obtain⟨t,e⟩:=(show ∃t,u=Value.bytes b t from r);cases e;rfl
 |flt b=>obtain⟨t,e⟩:=(show ∃t,u=Value.float b t from r);cases e;rfl
 |ref a=>cases (show u=Value.ref a from r);rfl
 |ty n=>cases (show u=Value.type n from r);rfl
section
variable{P:Program}{w:World}{H H':Hp}{h h':Heap}{a C dx:Addr}{fs fs':List (Str×V)}
theorem ins_get(hok:HOk P w H h)(e:H a=some (.ins C dx fs)):∃mA,ObjM h a dx C mA/\(∀f,RelO (fs.lookup f) (mA f))/\PySem.Within mA (fs.map (·.1))/\fs.length<=1000/\H dx=some (.own a):=by
 obtain⟨d,z,ne,ob,mA,n,r,q⟩:=(show ObjOk P w H h a (.ins C dx fs) from hok a _ e)
 exact⟨mA,⟨ob,n,ne⟩,r,q,z,d⟩
end
structure Cls(K:PySem.W.Frag)(C:Addr):Prop where
 pg:PySem.W.plainGet K C Str.empty=true
 hd:PySem.W.hasDictIn K C=true
 po:PySem.W.plainOver K C=true
 sa:PySem.W.findIn K (.ref C) "__setattr__"=some (some (.builtin "object.__setattr__"))
theorem Cls.get{K:PySem.W.Frag}{C:Addr}(c:Cls K C)(f:Str):PySem.W.plainGet K C f=true:=c.pg
def NoAttr(K:PySem.W.Frag)(C:Addr)(f:Str):Prop:=PySem.W.findIn K (.ref C) f=some none
theorem NoAttr.taker{K:PySem.W.Frag}{C:Addr}{f:Str}(n:NoAttr K C f):PySem.W.takerIn K C f=some none:=by
 unfold PySem.W.takerIn;rw[show PySem.W.findIn K (.ref C) f=some none from n]
 rfl
section
variable{X:Cx}{Xp:List (Addr×Obj)}{σ:St}{H:Hp}{s:Shared}{a C dx:Addr}{fs:List (Str×V)}{f:Str}{v:V}{A:Around}{E:Value->Shared->Prop}
theorem getattr_ok(I:Inv X Xp σ H s)(e:H a=some (.ins C dx fs))(c:Cls X.K C)(n:NoAttr X.K C f)(l:fs.lookup f=some v)
  (h:∀u s',Inv X Xp σ H s'->RelV v u->Q u s'):wpAny (model X.prog X.w) A (getAttr (.ref a) f b) Q E s:=by
 obtain⟨mA,O,r,_,_,_⟩:=ins_get I.hok e;obtain⟨u,hu,ru⟩:=RelO.some_of (v:=v) (o:=mA f) (by rw[<-l];exact r f)
 exact get_map I.kIn O (c.get f) c.hd n hu (handed_of ru) (h u _ (I.tok _) ru)
theorem setattr_ok(I:Inv X Xp σ H s)(e:H a=some (.ins C dx fs))(c:Cls X.K C)(n:NoAttr X.K C f)(hl:fs.length<1000)(ry:RelV y u)
  (h:∀s',Inv X Xp σ (upd H a (.ins C dx (putF f y fs))) s'->Q () s'):wpAny (model X.prog X.w) A (setAttr (.ref a) f u) Q E s:=by
 obtain⟨mA,O,r,wi,_,ho⟩:=ins_get I.hok e;have hz:(fs.map (·.1)).length<=sizeLine:=by rw[RT,Vo];omega
 refine set_map I.kIn O c.sa c.po n.taker c.hd wi hz λh' O' sb=>h _ ?_
 have hd:∃o,h'.get? dx=some o:=let ⟨o,_,_,e',_⟩:=O'.ns;⟨o,e'⟩
 refine I.write (x:=a) (e:=dx) (by rw[e];exact True.intro) (.inr ho) (λb q hb z=>(sb.2 b hb).trans z) hd ?_
 refine⟨by rw[upd_ne O.ne];exact ho,?_,O.ne,O'.obj,_,O'.ns,λg=>?_,λg hg=>?_⟩
 ·have:=length_putF f y fs;omega
 ·show RelO ((putF f y fs).lookup g) (if g=f then some u else mA g)
  rw[lookup_putF];by_cases q:g=f
  ·rw[R1 q,R1 q];exact ry
  ·rw[R3 q,R3 q];exact r g
 ·by_cases q:g=f
  ·rw[q];exact (keys_putF f y fs).1
  ·refine (keys_putF f y fs).2 g (wi g λz=>hg ?_)
   show (if g=f then some u else mA g)=none
   rw[R3 q];exact z
theorem Inv.made(I:Inv X Xp σ H s):Inv X Xp σ (upd (upd H s.heap.objs.size (.own (s.heap.objs.size+1))) (s.heap.objs.size+1) (.ins C s.heap.objs.size []))
  { s with heap:=(s.heap.push PySem.W.emptyDict).push (PySem.W.instObj C s.heap.objs.size) }:=by
 have e1:(s.heap.push PySem.W.emptyDict).get? s.heap.objs.size=some PySem.W.emptyDict:=RM s.heap rfl;have e2:((s.heap.push PySem.W.emptyDict).push (PySem.W.instObj C s.heap.objs.size)).get? (s.heap.objs.size+1)=some (PySem.W.instObj C s.heap.objs.size):=by
  have:=RM (s.heap.push PySem.W.emptyDict) (o:=PySem.W.instObj C s.heap.objs.size) rfl
  rwa [Sy]at this
 have e3:(s.heap.push PySem.W.emptyDict).Ns s.heap.objs.size (λz=>none):=⟨PySem.W.emptyDict,#[],_,e1,rfl,(λe he=>absurd he (by simp)),λz=>rfl⟩
 have I1:=I.laid (a:=s.heap.objs.size) (o:=.own (s.heap.objs.size+1)) (h':=s.heap.push PySem.W.emptyDict) (t':=s.toks) (λb u q=>RG _ q) (RX _) ⟨_,e1⟩
 refine I1.laid (a:=s.heap.objs.size+1) (o:=.ins C s.heap.objs.size []) (t':=s.toks) (λb u q=>RG _ q) (Nat.le_of_eq (Sy _ _)) ?_
 have ne:s.heap.objs.size≠s.heap.objs.size+1:=R5 (T9 _);refine⟨by rw[upd_ne ne,upd_same],Vn _,ne,e2,λz=>none,(Heap.Ns1.of_empty e3).at λo q=>RG _ q,λz=>True.intro,λy hy=>absurd rfl hy⟩
theorem attr_of(hb:attributeBase e f env (eval e env)=eval e env)
  (h:wpAny (model prog w) A (eval e env) (λo s₁=>wpAny (model prog w) A (getAttr o f true) Q E s₁) E s):wpAny (model prog w) A (eval (.Attribute e f pos) env) Q E s:=
 Attribute_any_ h (by rw[arm_eval_Attribute,hb])
end
def tFld(K:PySem.W.Frag)(ta:TE)(f:Str):TE:=λσ H Q=>ta σ H λx H1=>∃a C dx fs v,x=.ref a/\H1 a=some (.ins C dx fs)/\Cls K C/\NoAttr K C f/\fs.lookup f=some v/\Q v H1
def sFld(K:PySem.W.Frag)(ta tv:TE)(f:Str):TS:=λD σ H=>tv σ H λy H1=>ta σ H1 λx H2=>∃a C dx fs,x=.ref a/\H2 a=some (.ins C dx fs)/\Cls K C/\NoAttr K C f/\fs.length<1000 /\
 D.nx σ (upd H2 a (.ins C dx (putF f y fs)))
section
variable{X:Cx}{o e value:Expr}{f:Str}{pos pos' tpos:Pos}{ta tv:TE}
theorem pe_fld(he:PE X e ta)(hb:attributeBase e f X.env (eval e X.env)=eval e X.env):PE X (.Attribute e f pos) (tFld X.K ta f):=by
 intro Xp s σ H Q I h;refine attr_of hb (thn (he Xp s σ H _ I h) λu s1 ⟨x,H1,I1,rx,a,C,dx,fs,v,ex,ea,c,n,l,q⟩=>?_)
 subst ex;obtain rfl:u=Value.ref a:=rx;exact getattr_ok I1 ea c n l λu' s2 I2 ru=>⟨v,H1,I2,ru,q⟩
theorem ps_fld(ha:PE X o ta)(hv:PE X value tv)(hs:swapsWith value (some (.Attribute o f pos')) pos.line X.env=pure false):PS X (.Assign [.Attribute o f pos'] value pos) (sFld X.K ta tv f):=by
 intro Xp s σ H D I h;refine plainObj_wpAny_Assign_Attribute (thn (hv Xp s σ H _ I h) λu s1 ⟨y,H1,I1,ry,q⟩=>thn (ha Xp s1 σ H1 _ I1 q) λov s2 ⟨x,H2,I2,rx,a,C,dx,fs,ex,ea,c,n,l,q2⟩=>?_) hs
 subst ex;obtain rfl:ov=Value.ref a:=rx;exact setattr_ok I2 ea c n l ry λs3 I3=>⟨σ,_,I3,q2⟩
end
section
variable{X:Cx}{Xp:List (Addr×Obj)}{σ:St}{H:Hp}{s:Shared}{A:Around}{E:Value->Shared->Prop}{Q:Value->Shared->Prop}{c:Value}{b:Bool}
inductive TyOf(K:PySem.W.Frag)(H:Hp):V->Value->Prop where
 |non:TyOf K H .non (.type "NoneType")
 |bl (x:Bool):TyOf K H (.bl x) (.type "bool")
 |int (i:Int):TyOf K H (.int i) (.type "int")
 |str (x:Str):TyOf K H (.str x) (.type "str")
 |flt (x:UInt64):TyOf K H (.flt x) (.type "float")
 |lst {a:Addr}{xs:List V} (e:H a=some (.lst xs)):TyOf K H (.ref a) (.type "list")
 |frz {a:Addr}{o:Obj}{xs:List V} (e:H a=some (.frz o (.lst xs))):TyOf K H (.ref a) (.type "list")
 |tup {a:Addr}{xs:List V} (e:H a=some (.tup xs)):TyOf K H (.ref a) (.type "tuple")
 |dK {a:Addr}{kvs:List (Key×V)} (e:H a=some (.dK kvs)):TyOf K H (.ref a) (.type "dict")
 |dT {a:Addr}{kvs:List (List Key×V)} (e:H a=some (.dT kvs)):TyOf K H (.ref a) (.type "dict")
 |ins {a C dx:Addr}{fs:List (Str×V)} (e:H a=some (.ins C dx fs)) (cl:Cls K C) (ha:PySem.W.findIn K (.ref C) "__class__"=some (some (.builtin "object.__class__")))
   (hn:PySem.W.specialIn K (.builtin "object.__class__") "__get__"=some (some (.builtin "getset_descriptor.__get__"))) (htk:PySem.W.takesIn K (.builtin "object.__class__")=some true)
   (hm:PySem.W.mroIn K C (.type "object")=some true):TyOf K H (.ref a) (.ref C)
theorem isinst_ok(I:Inv X Xp σ H s)(rx:RelV x u)(ty:TyOf X.K H x t)(e:PySem.W.kitOne X.K t c=some b)(h:∀ tk,Q (.bool b) { s with toks:=tk }):
  wpAny (model X.prog X.w) A (call (.builtin "isinstance") [u,c]) Q E s:=by
 cases ty with
 |non=>cases (show u=Value.none from rx);exact Uc PySem.W.kitx_none I.kIn True.intro e (λz=>nomatch z) h
 |bl y=>cases (show u=Value.bool y from rx);exact Uc PySem.W.kitx_bool I.kIn True.intro e (λz=>nomatch z) h
 |int i=>obtain⟨t,q⟩:=(show ∃t,u=Value.int i t from rx);cases q;exact Uc PySem.W.kitx_int I.kIn True.intro e (λz=>nomatch z) h
 |str y=>obtain⟨t,q⟩:=(show ∃t,u=Value.str y t from rx);cases q;exact Uc PySem.W.kitx_str I.kIn True.intro e (λz=>nomatch z) h
 |flt y=>obtain⟨t,q⟩:=(show ∃t,u=Value.float y t from rx);cases q;exact Uc PySem.W.kitx_float I.kIn True.intro e (λz=>nomatch z) h
 | @lst a xs ea=>
   cases (show u=Value.ref a from rx)
   obtain⟨_,_,n,_,h1⟩:=(show ObjOk X.prog X.w H s.heap a (.lst xs) from I.hok a _ ea)
   exact Uc PySem.W.kitx_list I.kIn ⟨_,h1,rfl⟩ e (λz=>nomatch z) h
 | @frz a ob xs ea=>
   cases (show u=Value.ref a from rx)
   obtain⟨_,_,_,n,_,h1⟩:=(show ObjOk X.prog X.w H s.heap a (.frz ob (.lst xs)) from I.hok a _ ea)
   exact Uc PySem.W.kitx_list I.kIn ⟨_,h1,rfl⟩ e (λz=>nomatch z) h
 | @tup a xs ea=>
   cases (show u=Value.ref a from rx)
   obtain⟨_,_,_,p⟩:=(show ObjOk X.prog X.w H s.heap a (.tup xs) from I.hok a _ ea)
   obtain⟨o,h1,h2,_⟩:=p;exact Uc PySem.W.kitx_tuple I.kIn ⟨o,h1,h2⟩ e (λz=>nomatch z) h
 | @dK a kvs ea=>
   cases (show u=Value.ref a from rx)
   obtain⟨_,_,vs,_,p⟩:=(show ObjOk X.prog X.w H s.heap a (.dK kvs) from I.hok a _ ea)
   obtain⟨o,es,ep,h1,h2,_⟩:=p;exact Uc PySem.W.kitx_dict I.kIn ⟨o,h1,h2.1⟩ e (λz=>nomatch z) h
 | @dT a kvs ea=>
   cases (show u=Value.ref a from rx)
   obtain⟨_,_,xs,_,o,es,ep,h1,h2,_⟩:=(show ObjOk X.prog X.w H s.heap a (.dT kvs) from I.hok a _ ea)
   exact Uc PySem.W.kitx_dict I.kIn ⟨o,h1,h2.1⟩ e (λz=>nomatch z) h
 | @ins a C dx fs ea cl ha hn htk hm=>
   cases (show u=Value.ref a from rx)
   obtain⟨mA,O,_⟩:=ins_get I.hok ea;obtain⟨od,J,_⟩:=O.look;exact Uc (PySem.W.kitx_own (cl.get _) cl.hd ha hn htk hm) I.kIn J e (λz=>nomatch z) h
end
open PySem PySem.Spec PyProof.Rows
structure Room(k:Nat)(A:Around):Prop where
 hd:A.handled=none
 dp:A.depth+3*k+5<recursionLimit
 un:A.units+16*k+200<cLine
 gd:A.guards=some []
theorem Room.mono(r:Room k A)(h:j<=k):Room j A:=⟨r.hd,by have:=r.dp;omega,by have:=r.un;omega,r.gd⟩
theorem Room.deeper(r:Room (k+1) A)(env:Env):Room k (A.deeper env):=
 ⟨r.hd,by have:=r.dp;show A.depth+1+3*k+5<_;omega,by have:=r.un;show A.units+3+16*k+200<_;omega,r.gd⟩
theorem Room.in1(r:Room (k+1) A):Room k A.in1:=
 ⟨r.hd,by have:=r.dp;show A.depth+3*k+5<_;omega,by have:=r.un;show A.units+1+16*k+200<_;omega,r.gd⟩
theorem make_depth{A:Around}{C:Addr}{us:List Value}{kw:List (Str×Value)}:(A.under (.builtin "type.__call__" ⟨.ref C::us,kw⟩)).depth=A.depth+1:=by
 first | rfl | simp[Around.under,Code.weight,Code.isCreation,Code.isGuard,Code.isCaller,Code.frames,Code.isFrame,guardIds]
theorem make_units{A:Around}{C:Addr}{us:List Value}{kw:List (Str×Value)}:(A.under (.builtin "type.__call__" ⟨.ref C::us,kw⟩)).units=A.units+1:=by
 first | rfl | simp[Around.under,Code.cUnits,Code.frames,Code.isFrame]
theorem yN{A:Around}{C:Addr}{us:List Value}{kw:List (Str×Value)}:(A.under (.builtin "type.__call__" ⟨.ref C::us,kw⟩)).guards=A.guards:=by simp[Around.under,Code.guards,Code.isGuard,guardIds,pushGuards]
theorem Room.make(r:Room (k+1) A)(C:Addr)(us:List Value)(kw:List (Str×Value)):Room k (A.under (.builtin "type.__call__" ⟨.ref C::us,kw⟩)):=
 ⟨r.hd,by have:=r.dp;rw[make_depth];omega,by have:=r.un;rw[make_units];omega,by first | (rw[yN];exact r.gd) | exact r.gd⟩
theorem Room.depth(r:Room k A):A.depth<recursionLimit:=by have:=r.dp;omega
theorem Room.units(r:Room k A):A.units+64<cLine:=by have:=r.un;omega
def tNil:TA:=λz H Q=>Q [] H
def tCons(ta:TE)(tr:TA):TA:=λσ H Q=>ta σ H λx H1=>tr σ H1 λxs H2=>Q (x::xs) H2
section
variable{X:Cx}{e:Expr}{es:List Expr}{te:TE}{t:TA}{pos:Pos}
theorem pa_nil:PA X [] tNil:=λz z z z H Q I h=>Wn ⟨[],H,I,.nil,h⟩
theorem pa_cons(ha:PE X e te)(hr:PA X es t)(hs:starEach (e::es) X.env=(false,eval e X.env)::starEach es X.env:=by rfl):PA X (e::es) (tCons te t):=by
 intro pos Xp s σ H Q I h;rw[hs];show wpAny _ _ (spliced ((false,eval e X.env)::backTo pos (starEach es X.env))) _ _ s;refine We (thn (ha Xp s σ H _ I h) λu s1 ⟨x,H1,I1,r1,q1⟩=>?_)
 exact thn (hr pos Xp s1 σ H1 _ I1 q1) λus s2 ⟨xs,H2,I2,r2,q2⟩=>⟨x::xs,H2,I2,.cons r1 r2,q2⟩
def tTup(t:TA):TE:=λσ H Q=>t σ H λxs H1=>xs.length<=sizeLine/\∀p,H1 p=none->Q (.ref p) (upd H1 p (.tup xs))
def tLst(t:TA):TE:=λσ H Q=>t σ H λxs H1=>xs.length<=sizeLine/\∀p,H1 p=none->Q (.ref p) (upd H1 p (.lst xs))
theorem pe_tup{x1}(h:PA X es t):PE X (.Tuple es x1 pos) (tTup t):=by
 intro Xp s σ H Q I hq;refine wpAny_Tuple_spliced (thn (h pos Xp s σ H _ I hq) λus s1 ⟨xs,H1,I1,r,z,q⟩=>⟨by rw[<-r.length];exact z,?_⟩)
 have hf:H1 s1.heap.objs.size=none:=I1.hok.fresh (RX _);refine⟨.ref s1.heap.objs.size,upd H1 s1.heap.objs.size (.tup xs),I1.laid (t':=s1.toks) (λb u e=>RG _ e) (RX _) ?_,rfl,q _ hf⟩
 exact⟨z,us,r,⟨_,RM _ rfl,rfl,_,rfl⟩⟩
theorem pe_lst(h:PA X es t):PE X (.List es pos) (tLst t):=by
 intro Xp s σ H Q I hq;refine wpAny_List_spliced (thn (h pos Xp s σ H _ I hq) λus s1 ⟨xs,H1,I1,r,z,q⟩=>⟨by rw[<-r.length];exact z,?_⟩)
 have hf:H1 s1.heap.objs.size=none:=I1.hok.fresh (RX _);refine⟨.ref s1.heap.objs.size,upd H1 s1.heap.objs.size (.lst xs),I1.laid (t':=s1.toks) (λb u e=>RG _ e) (RX _) ?_,rfl,q _ hf⟩
 exact⟨z,us,0,r,RM _ rfl⟩
end
abbrev Sp:=List V->Hp->VK->XK->Prop
abbrev CXT:=List Env->Hp->Shared->XK->Value->Shared->Prop
structure Env0(P:Program)(w:World)(K:PySem.W.Frag)(mg:Str->Option Value)(base:Heap)(A:Around)(outer:List Env)(s:Shared)(H:Hp):Prop where
 frames:A.frames=some outer
 mod:Mod K mg base
 bs:∀b o,base.get? b=some o->s.heap.get? b=some o/\H b=none
 bsz:base.objs.size<=s.heap.objs.size
 funs:s.heap.FunFrames base outer
 frf:∀b∈frs outer,H b=none
 hok:HOk P w H s.heap
 bare:AllBare s.gens
def CE(outer:List Env)(P:Program)(w:World)(H:Hp)(s:Shared)(Q:VK)(u:Value)(s':Shared):Prop:=
 ∃v H',s'.os=s.os/\AllBare s'.gens/\Un (frs outer) [] H H' s.heap s'.heap/\HOk P w H' s'.heap/\RelV v u/\Q v H'
def CR(CX:CXT)(outer:List Env)(P:Program)(w:World)(H:Hp)(s:Shared)(Q:VK)(E:XK)(r:Result)(s':Shared):Prop:=
 match r with
 |.ok (.ret u)=>CE outer P w H s Q u s'
 |.ok _=>False
 |.error e=>CX outer H s E e s'
structure FnOk(P:Program)(w:World)(K:PySem.W.Frag)(mg:Str->Option Value)(base:Heap)(CX:CXT)(k:Nat)(f:Addr)(fd:FuncData)(ps:List Str)(sp:Sp):Prop where
 len:∀vs H Q E,sp vs H Q E->vs.length=ps.length
 run:∀(A:Around) (outer:List Env) (s:Shared) (H:Hp) (args:Args) (us:List Value) (vs:List V) (Q:VK) (E:XK),Room k A->Env0 P w K mg base A outer s H->BindsTo s fd args (ps.zip us)->Vals vs us->sp vs H Q E->
  codeAny (model P w) A (.call (.ref f) args) (CR CX outer P w H s Q E) s
theorem FnOk.mono{P:Program}{w:World}{K:PySem.W.Frag}{mg:Str->Option Value}{base:Heap}{CX:CXT}{j k:Nat}{f:Addr}{fd:FuncData}{ps:List Str}{sp:Sp}(F:FnOk P w K mg base CX j f fd ps sp)(h:j<=k):
  FnOk P w K mg base CX k f fd ps sp:=⟨F.len,λA outer s H args us vs Q E hr=>F.run A outer s H args us vs Q E (hr.mono h)⟩
theorem FnOk.imp{P:Program}{w:World}{K:PySem.W.Frag}{mg:Str->Option Value}{base:Heap}{CX:CXT}{k:Nat}{f:Addr}{fd:FuncData}{ps:List Str}{sp sp':Sp}(F:FnOk P w K mg base CX k f fd ps sp)
  (h:∀vs H Q E,sp' vs H Q E->sp vs H Q E):FnOk P w K mg base CX k f fd ps sp':=
 ⟨λvs H Q E q=>F.len vs H Q E (h _ _ _ _ q),λA outer s H args us vs Q E hr he hb hv hs=>F.run A outer s H args us vs Q E hr he hb hv (h _ _ _ _ hs)⟩
theorem Env0.make{P:Program}{w:World}{K:PySem.W.Frag}{mg:Str->Option Value}{base:Heap}{A:Around}{outer:List Env}{s:Shared}{H:Hp}(e:Env0 P w K mg base A outer s H)(C:Addr)(us:List Value)(kw:List (Str×Value)):
  Env0 P w K mg base (A.under (.builtin "type.__call__" ⟨.ref C::us,kw⟩)) outer s H:=⟨by first | exact e.frames | (simpa[Around.under,Code.envs,Code.isFrame,pushEnvs] using e.frames),e.mod,e.bs,e.bsz,e.funs,e.frf,e.hok,e.bare⟩
section
variable{X:Cx}{Xp:List (Addr×Obj)}{σ:St}{H:Hp}{s s':Shared}
theorem Inv.env0(I:Inv X Xp σ H s):Env0 X.prog X.w X.K X.mg X.base X.A X.stack s H:=
 ⟨I.ok.frames,I.ok.mod,I.bs,R7 I.ok.bsz I.sz,I.stack,I.stkFree,I.hok,I.bare⟩
theorem Inv.after(I:Inv X Xp σ H s)(h:CE X.stack X.prog X.w H s Q u s'):EP X Xp σ Q u s':=by obtain⟨v,H',os,bare,un,hok,r,q⟩:=h;obtain⟨hh,g,d,t,os'⟩:=s';obtain rfl:os'=s.os:=os;exact⟨v,H',I.call (h':=hh) (g':=g) (d':=d) (t':=t) (ch:=[]) un hok bare (λb z=>absurd z (by simp)),r,q⟩
end
def tCall(sp:Sp)(dvs:List V)(E:XK)(t:TA):TE:=λσ H Q=>t σ H λvs H1=>sp (vs++dvs) H1 Q E
def tMake(C:Addr)(sp:Sp)(dvs:List V)(E:XK)(t:TA):TE:=λσ H Q=>t σ H λvs H1=>∀x dx,H1 x=none->H1 dx=none->dx≠x->
 sp (.ref x::(vs++dvs)) (upd (upd H1 dx (.own x)) x (.ins C dx [])) (λv H2=>v=.non/\Q (.ref x) H2) E
def Binds(K:PySem.W.Frag)(fd:FuncData)(ps:List Str)(ds:List Value):Prop:=
 ∀(s:Shared) (us:List Value),K.In s.heap->(us++ds).length=ps.length->BindsTo s fd ⟨us,[]⟩ (ps.zip (us++ds))
theorem Binds.all{K:PySem.W.Frag}{fd:FuncData}{ps:List Str}(h:∀us:List Value,us.length=ps.length->bindArgs fd ⟨us,[]⟩=pure (ps.zip us)):Binds K fd ps []:=λs us z hl=>by
 rw[Vi]at hl ⊢
 exact .of_eq (h us hl)
def Passes(CX:CXT)(X:Cx)(E:XK):Prop:=∀(Xp:List (Addr×Obj)) (σ:St) (H:Hp) (s:Shared) (e:Value) (s':Shared),Inv X Xp σ H s->CX X.stack H s E e s'->X.xe e s'
section
variable{X:Cx}{CX:CXT}{k:Nat}{f C:Addr}{fd:FuncData}{ps:List Str}{sp:Sp}{dvs:List V}{ds:List Value}{E:XK}{x m:Str}{p pos apos:Pos}{e o:Expr}{es:List Expr}{ta:TE}{t:TA}
theorem run_fn(F:FnOk X.prog X.w X.K X.mg X.base CX k f fd ps sp)(hr:Room k X.A)(hb:Binds X.K fd ps ds)(hd:Vals dvs ds)(hx:Passes CX X E)
  (I:Inv X Xp σ H s) (r:Vals vs us) (h:sp (vs++dvs) H Q E):wpAny (model X.prog X.w) X.A (call (.ref f) us) (EP X Xp σ Q) X.xe s:=by
 have r2:Vals (vs++dvs) (us++ds):=r.append hd;have hl:(us++ds).length=ps.length:=by rw[<-r2.length];exact F.len _ _ _ _ h
 refine wpAny_call (V9 (F.run X.A X.stack s H ⟨us,[]⟩ (us++ds) (vs++dvs) Q E hr I.env0 (hb s us I.kIn hl) r2 h) λr s' hq=>?_)
 cases r with
 |error e=>exact hx Xp σ H s e s' I hq
 |ok fl=>
   cases fl with
   |ret u=>exact I.after hq
   |next=>exact False.elim hq
   |brk=>exact False.elim hq
   |cont=>exact False.elim hq
theorem pe_call(F:FnOk X.prog X.w X.K X.mg X.base CX k f fd ps sp)(hr:Room k X.A)(hg:Gl X x)(hm:X.mg x=some (.ref f))(hk:PySem.W.keepIn X.K (.ref f)=true)(hb:Binds X.K fd ps ds)(hd:Vals dvs ds)(hx:Passes CX X E)
  (ha:PA X (e::es) t) (hdb:(x==("__debug__":Str))=false:=by decide) (he:starEach (e::es) X.env=(false,eval e X.env)::starEach es X.env:=by rfl) (hpl:(backTo pos (starEach es X.env)).any (·.1)=false:=by rfl) :
  PE X (.Call (.Name x p) (e::es) [] pos) (tCall sp dvs E t):=by
 intro Xp s σ H Q I h;refine Wf (ld_glob I hg hm ?_ hdb);refine PySem.W.callWith_K (h₀:=X.base) I.ok.mod.kin hk (thn (ha pos Xp s σ H _ I h) λus s1 ⟨vs,H1,I1,r,q⟩=>⟨I1.kIn,?_⟩) he hpl
 exact run_fn F hr hb hd hx I1 r q
structure Mk(K:PySem.W.Frag)(C f:Addr):Prop where
 makes:PySem.W.makesIn K C=true
 init:PySem.W.findIn K (.ref C) "__init__"=some (some (.ref f))
 fn:PySem.W.isFn K (.ref f)=true
 kp:PySem.W.keepIn K (.ref C)=true
theorem run_make(M:Mk X.K C f)(F:FnOk X.prog X.w X.K X.mg X.base CX k f fd ps sp)(hr:Room (k + 1) X.A)(hb:Binds X.K fd ps ds)(hd:Vals dvs ds)
  (hx:Passes CX X E) (I:Inv X Xp σ H s) (r:Vals vs us)
  (h:∀x dx,H x=none->H dx=none->dx≠x->sp (.ref x::(vs++dvs)) (upd (upd H dx (.own x)) x (.ins C dx [])) (λv H2=>v=.non/\Q (.ref x) H2) E) :
  wpAny (model X.prog X.w) X.A (call (.ref C) us) (EP X Xp σ Q) X.xe s:=by
 have hq:=h (s.heap.objs.size+1) s.heap.objs.size (I.hok.fresh (Nat.le_succ _)) (I.hok.fresh (RX _)) (R5 (T9 _));have I2:=Inv.made (C:=C) I;have r2:Vals (V.ref (s.heap.objs.size+1)::(vs++dvs)) (Value.ref (s.heap.objs.size+1)::(us++ds)):=.cons rfl (r.append hd);have hl:(Value.ref (s.heap.objs.size+1)::us++ds).length=ps.length:=by have e:=r2.length;rw[F.len _ _ _ _ hq]at e;exact e.symm
 refine wpAny_call (make_map (f:=f) I.kIn M.makes M.init (W8.mp M.fn) (V9 (F.run _ X.stack _ _ ⟨Value.ref (s.heap.objs.size+1)::us,[]⟩ (Value.ref (s.heap.objs.size+1)::(us++ds)) _ _ E (hr.make C us [])
  (I2.env0.make C us []) (hb _ (Value.ref (s.heap.objs.size+1)::us) I2.kIn hl) r2 hq) λr s' hq'=>?_))
 cases r with
 |error e=>exact hx Xp σ _ _ e s' I2 hq'
 | ok fl=>
   cases fl with
   |ret u=>obtain⟨v,H',I3,rv,ev,q3⟩:=I2.after hq';subst ev;exact⟨rv,⟨V.ref (s.heap.objs.size+1),H',I3,rfl,q3⟩⟩
   |next=>exact False.elim hq'
   |brk=>exact False.elim hq'
   |cont=>exact False.elim hq'
theorem pe_make(M:Mk X.K C f)(F:FnOk X.prog X.w X.K X.mg X.base CX k f fd ps sp)(hr:Room (k+1) X.A)(hg:Gl X x)(hm:X.mg x=some (.ref C))(hb:Binds X.K fd ps ds)(hd:Vals dvs ds)(hx:Passes CX X E)
  (ha:PA X (e::es) t) (hdb:(x==("__debug__":Str))=false:=by decide) (he:starEach (e::es) X.env=(false,eval e X.env)::starEach es X.env:=by rfl) (hpl:(backTo pos (starEach es X.env)).any (·.1)=false:=by rfl) :
  PE X (.Call (.Name x p) (e::es) [] pos) (tMake C sp dvs E t):=by
 intro Xp s σ H Q I h;refine Wf (ld_glob I hg hm ?_ hdb);refine PySem.W.callWith_K (h₀:=X.base) I.ok.mod.kin M.kp (thn (ha pos Xp s σ H _ I h) λus s1 ⟨vs,H1,I1,r,q⟩=>⟨I1.kIn,?_⟩) he hpl
 exact run_make M F hr hb hd hx I1 r q
end
structure FnScope(N P:List Str)(sc:Scope):Prop where
 kind:sc.kind=.function
 co:sc.isCoroutine=false
 gen:sc.isGenerator=false
 nd:N.Nodup
 pre:N.take P.length=P
 par:∀x∈P,sc.names.lookup x=some .local\/sc.names.lookup x=some .cell
 nofree:∀y∈sc.names,y.2≠.free
theorem bindL_out{kindOf:Str->Option NameKind}:∀ {binds:List (Str×Value)}{m:Str->Option Value},(∀ v,(x,v)∉binds)->bindL kindOf binds m x=m x
 |[],_,_=>rfl
 | (n,v)::r,m,h=>by
   unfold bindL;rw[bindL_out λw hw=>h w (S6 _ hw)]
   split
   ·have:x≠n:=by rintro rfl;exact h v Tp
    simp[this]
   ·rfl
theorem bindC_out{kindOf:Str->Option NameKind}:∀ {binds:List (Str×Value)}{m:Str->Option Value},(∀ v,(x,v)∉binds)->bindC kindOf binds m x=m x
 |[],_,_=>rfl
 | (n,v)::r,m,h=>by
   unfold bindC;rw[bindC_out λw hw=>h w (S6 _ hw)]
   split
   ·rfl
   ·have:x≠n:=by rintro rfl;exact h v Tp
    simp[this]
theorem bindL_get{kindOf:Str->Option NameKind}:∀ {P:List Str}{vs:List Value}{i:Nat}{m:Str->Option Value},P.Nodup->P[i]?=some x->vs[i]?=some v->kindOf x=some .local->
  bindL kindOf (P.zip vs) m x=some v
 |[],_,_,_,_,h,_,_=>by simp at h
 |_::_,[],_,_,_,_,h,_=>by simp at h
 |p::P,w::vs,0,m,nd,h1,h2,hk=>by
   simp at h1 h2;subst h1;subst h2;show bindL kindOf ((p,w)::P.zip vs) m p=_;unfold bindL;rw[bindL_out λv hv=>(WP.mp nd).1 (Xe hv).1,R1 hk]
   simp
 |p::P,w::vs,i+1,m,nd,h1,h2,hk=>by show bindL kindOf ((p,w)::P.zip vs) m x=_;unfold bindL;exact bindL_get (i:=i) (WP.mp nd).2 (by simpa using h1) (by simpa using h2) hk
theorem bindC_get{kindOf:Str->Option NameKind}:∀ {P:List Str}{vs:List Value}{i:Nat}{m:Str->Option Value},P.Nodup->P[i]?=some x->vs[i]?=some v->kindOf x≠some .local->
  bindC kindOf (P.zip vs) m x=some v
 |[],_,_,_,_,h,_,_=>by simp at h
 |_::_,[],_,_,_,_,h,_=>by simp at h
 |p::P,w::vs,0,m,nd,h1,h2,hk=>by
   simp at h1 h2;subst h1;subst h2;show bindC kindOf ((p,w)::P.zip vs) m p=_;unfold bindC;rw[bindC_out λv hv=>(WP.mp nd).1 (Xe hv).1,R3 hk]
   simp
 |p::P,w::vs,i+1,m,nd,h1,h2,hk=>by show bindC kindOf ((p,w)::P.zip vs) m x=_;unfold bindC;exact bindC_get (i:=i) (WP.mp nd).2 (by simpa using h1) (by simpa using h2) hk
def start(N:List Str)(vs:List V):St:=vs.map some++List.replicate (N.length-vs.length) none
def cxOf(CX:CXT)(P:Program)(w:World)(K:PySem.W.Frag)(mg:Str->Option Value)(base:Heap)(N:List Str)(qual:Str)(scope:Scope)(f:Addr)(cd:Value)(A:Around)(outer:List Env)(s:Shared)(H:Hp)(E:XK):Cx where
 prog:=P
 w:=w
 K:=K
 mg:=mg
 base:=base
 A:=A.deeper (envOfC qual scope s.heap.objs.size f cd)
 N:=N
 s₀:=s
 H₀:=H
 env:=envOfC qual scope s.heap.objs.size f cd
 outer:=outer
 stack:=envOfC qual scope s.heap.objs.size f cd::outer
 ex:=[]
 calm:=true
 fn:=λz=>true
 pn:=[]
 xe:=λe s'=>wpAny (model P w) (A.deeper (envOfC qual scope s.heap.objs.size f cd)) (leaving (envOfC qual scope s.heap.objs.size f cd) e) (λz s''=>CX outer H s E e s'') (λe' s''=>CX outer H s E e' s'') s'
theorem cell_has{sc:Scope}{n:Nat}{x:Str}(h:sc.names.lookup x=some .cell):∃c,(cellsFrom n sc.names []).lookup x=some c:=by have q:=PySem.W.cellsFrom_some sc.names n [] (.inl h);exact U3.mp q
theorem inv_start{CX:CXT}{P:Program}{w:World}{K:PySem.W.Frag}{mg:Str->Option Value}{base:Heap}{N ps:List Str}{qual:Str}{scope:Scope}{f:Addr}{cd:Value}{A:Around}{outer:List Env}{s s1:Shared}{H:Hp}{E:XK}{us:List Value}{vs:List V}
  (S:FnScope N ps scope) (hd:A.handled=none) (e0:Env0 P w K mg base A outer s H) (hl:vs.length=ps.length) (r:Vals vs us)
  (x:InCallC s s.heap.objs.size (bindL (envOfC qual scope s.heap.objs.size f cd).kindOf (ps.zip us) λt=>none) (cellsFrom (s.heap.objs.size+1) scope.names []) (bindC (envOfC qual scope s.heap.objs.size f cd).kindOf (ps.zip us) λt=>none) s1) :
  Inv (cxOf CX P w K mg base N qual scope f cd A outer s H E) [] (start N vs) H s1:=by
 have hpl:ps.length<=N.length:=by have:=congrArg List.length S.pre;rw[Vd]at this;omega
 obtain⟨h1,tk,rfl,hk⟩:=x.done;have noA:∀b:Addr,b∉(cxOf CX P w K mg base N qual scope f cd A outer s H E).ex:=λb z=>absurd (show b∈([]:List Addr) from z) (by simp)
 refine⟨⟨e0.mod,S.kind,rfl,rfl,RX _,λy z c h1 h2=>?_,λy hy=>?_,λy c t h=>?_,λt=>hd,Around.frames_deeper e0.frames,.inr ⟨rfl,rfl⟩,λb z=>absurd z (noA b),e0.bs,e0.bsz,λb t t=>noA b,λb z=>absurd z (noA b),e0.funs,e0.frf⟩,
  rfl,e0.bare,Un.kept hk,⟨_,x.toInCall.ns,λi y v h1 h2 h3=>?_⟩,λy c h=>⟨_,x.cell y c h⟩,e0.hok.fresh (RX _),λy c h=>?_,λp hp=>absurd (show p∈([]:List (Addr×Obj)) from hp) (by simp),e0.hok.kept hk,?_⟩
 ·exact name_of_addr x.apart (T3 h1) (T3 h2)
 ·have hy:scope.names.lookup y=some .cell\/scope.names.lookup y=some .free:=hy;rcases hy with hy | hy
  ·exact cell_has hy
  ·exact absurd rfl (S.nofree _ (T3 hy))
 ·exact Vp (x.above y c (T3 h))
 ·have hi:i<vs.length:=by
   unfold start at h2;by_cases hi:i<vs.length
   ·exact hi
   ·rw[Sh (by simpa using hi)]at h2
    rw[Vb]at h2;split at h2<;>cases h2
  have ha:vs[i]?=some v:=by
   unfold start at h2;rw[RZ (by simpa using hi),R0]at h2
   cases e:vs[i]? with
   |none=>rw[e]at h2;cases h2
   |some a=>rw[e]at h2;cases h2;rfl
  obtain⟨u,hu,rv⟩:=r.get ha;have hp:ps[i]?=some y:=by rw[<-S.pre,List.getElem?_take_of_lt (by omega)];exact h1
  have ndP:ps.Nodup:=by rw[<-S.pre];exact S.nd.sublist (List.take_sublist _ _)
  refine⟨u,rv,?_⟩;rcases S.par y (S7 hp) with k | k
  ·exact .inl ⟨k,bindL_get ndP hp hu k⟩
  ·obtain⟨c,e⟩:=cell_has (n:=s.heap.objs.size+1) k;refine .inr ⟨.inl k,c,e,?_⟩;have q:=x.cell y c e;rw[bindC_get ndP hp hu (by show scope.names.lookup y≠_;rw[k];decide)]at q
   exact q
 ·exact e0.hok.fresh (Vp (x.above y c (T3 h)))
 ·unfold start;show _=N.length;rw[R6,RT,Tv];omega
theorem fn_of{CX:CXT}{P:Program}{w:World}{K:PySem.W.Frag}{mg:Str->Option Value}{base:Heap}{k:Nat}{f:Addr}{name qual:Str}{params:Arguments}{body:List Stmt}{scope:Scope}{dV kV doc pm cdv ct oc:Value}{an od:Option Addr}
  {osl:Array (Option Value)}{N ps:List Str}{sp:Sp} (lk:K.lookup f=some ⟨oc,od,.func (PySem.W.fnOf name qual params body scope dV kV doc pm an cdv ct),osl⟩) (hcd:PySem.W.codeIn K cdv qual=true) (S:FnScope N ps scope)
  (len:∀vs H Q E,sp vs H Q E->vs.length=ps.length)
  (hbody:∀(A:Around) (outer:List Env) (s:Shared) (H:Hp) (vs:List V) (Q:VK) (E:XK),Room k (A.deeper (envOfC qual scope s.heap.objs.size f cdv))->sp vs H Q E->
    ∃t,PSs (cxOf CX P w K mg base N qual scope f cdv A outer s H E) body t/\t { nx:=λz H'=>Q .non H',rt:=Q } (start N vs) H) :
  FnOk P w K mg base CX (k+1) f (PySem.W.fnOf name qual params body scope dV kV doc pm an cdv ct) ps sp:=by
 refine⟨len,λA outer s H args us vs Q E hr e0 hb r hsp=>?_⟩
 have hl:=len _ _ _ _ hsp;have KX:K.In s.heap:=e0.mod.kin.keeps λb o e=>(e0.bs b o e).1
 have lim:s.heap.NoLimit:=e0.mod.nolimit.keeps λb o e=>(e0.bs b o e).1
 have hkind:∀y∈ps.zip us,scope.names.lookup y.1=some .local\/(scope.names.lookup y.1=some .cell/\((cellsFrom (s.heap.objs.size+1) scope.names []).lookup y.1).isSome=true):=λ⟨n,v⟩ hy=>by
  rcases S.par n (Xe hy).1 with q | q
  ·exact .inl q
  ·exact .inr ⟨q,PySem.W.cellsFrom_some _ _ _ (.inl q)⟩
 refine codeAny_call_function hr.depth (KX _ _ lk) rfl S.co S.gen rfl (PySem.W.codeRec_of KX hcd) (hb _ _ _ _ ?_);refine wpAny_newFunctionEnv_cells S.kind hkind λenv he s1 x=>?_
 subst he;refine⟨lim.keeps x.toInCall.keep,codeAny_func ?_⟩;obtain⟨t,ht,hq⟩:=hbody A outer s H vs Q E (hr.deeper _) hsp;have I:Inv (cxOf CX P w K mg base N qual scope f cdv A outer s H E) [] (start N vs) H s1:=inv_start S hr.hd e0 hl r x;refine Sg (ht [] s1 (start N vs) H _ I hq) (λfl s' hs=>?_) λe s' hs=>hs
 have fin:∀{σ':St}{H':Hp}{v:V}{u:Value},Inv (cxOf CX P w K mg base N qual scope f cdv A outer s H E) [] σ' H' s'->RelV v u->Q v H'->CE outer P w H s Q u s':=
  λ{σ' H' v u} J rv q=>⟨v,H',J.os,J.bare,J.base,J.hok,rv,q⟩
 cases fl with
 |ret u=>obtain⟨v,σ',H',J,rv,q⟩:=hs;exact fin J rv q
 |next=>obtain⟨σ',H',J,q⟩:=hs;exact fin (v:=V.non) (u:=Value.none) J rfl q
 |brk=>obtain⟨_,_,_,q⟩:=hs;exact False.elim q
 |cont=>obtain⟨_,_,_,q⟩:=hs;exact False.elim q
open PySem PySem.Spec PyProof.Rows
section
variable{X:Cx}{x:Str}{p pos:Pos}{e:Expr}{es:List Expr}{t:TA}{id T:String}{r:List V->Hp->VK->Prop}
def tCB(r:List V->Hp->VK->Prop)(t:TA):TE:=λσ H Q=>t σ H λvs H1=>r vs H1 Q
theorem pe_callB(hc:CallR X (.builtin id) r)(hg:Gl X x)(hm:X.mg x=none)(hv:bootBuiltins x=some (.builtin id))(ha:PA X (e::es) t)(hn:x≠"__name__":=by decide)(hdb:(x==("__debug__":Str))=false:=by decide)
  (he:starEach (e::es) X.env=(false,eval e X.env)::starEach es X.env:=by rfl) (hpl:(backTo pos (starEach es X.env)).any (·.1)=false:=by rfl):PE X (.Call (.Name x p) (e::es) [] pos) (tCB r t):=by
 intro Xp s σ H Q I h;refine Wf (ld_blt I hg hm hv ?_ hn hdb);exact PyProof.Rows.callWith_builtin1 (thn (ha pos Xp s σ H _ I h) λus s1 ⟨vs,H1,I1,r1,q1⟩=>hc Xp s1 σ H1 vs us Q I1 r1 q1) he hpl
theorem pe_callTy(hc:CallR X (.type T) r)(hg:Gl X x)(hm:X.mg x=none)(hv:bootBuiltins x=some (.type T))(ha:PA X (e::es) t)(hn:x≠"__name__":=by decide)(hdb:(x==("__debug__":Str))=false:=by decide)
  (he:starEach (e::es) X.env=(false,eval e X.env)::starEach es X.env:=by rfl) (hpl:(backTo pos (starEach es X.env)).any (·.1)=false:=by rfl):PE X (.Call (.Name x p) (e::es) [] pos) (tCB r t):=by
 intro Xp s σ H Q I h;refine Wf (ld_blt I hg hm hv ?_ hn hdb);exact Th (thn (ha pos Xp s σ H _ I h) λus s1 ⟨vs,H1,I1,r1,q1⟩=>hc Xp s1 σ H1 vs us Q I1 r1 q1) he hpl
end
end L2
namespace HT
open PySem PyProof.Rows
section
open PySem.SeqAt
open PySem.AutoSeq1 (wpAny_loadPart')
open PySem.MeetsSeq PySem.MeetsSeq2 PySem.MeetsSeq3
end
section
variable{prog:Program}{w:World}{A:Around}{E:Value->Shared->Prop}{s:Shared}
theorem cat_tup(ht:IsTup s.heap t vs.toArray)(hb:IsTup s.heap b ws.toArray)(hv:vs≠[])
  (h1:ws=[]->Q (.ref t) s) (h2:ws≠[]->Q (.ref s.heap.objs.size) { s with heap:=s.heap.push { cls:=.type "tuple",data:=.seq (vs++ws).toArray } })
  (hsz:vs.length+ws.length<=sizeLine):wpAny (model prog w) A (binaryOp .Add (.ref t) (.ref b)) Q E s:=by
 obtain⟨⟨cls,dd,data,sl⟩,ho,hc,n,hd⟩:=id ht;obtain⟨⟨cls2,dd2,data2,sl2⟩,ho2,hc2,n2,hd2⟩:=id hb;simp only at hc hd hc2 hd2;subst hc hd hc2 hd2;have e:vs.toArray++ws.toArray=(vs++ws).toArray:=by simp
 by_cases hw:ws=[]
 ·exact concat_meets ⟨_,ho,rfl⟩ ⟨_,ho2,rfl⟩ noFill_tuple_add seq_tuple_add Wr Wl (Wa _ _)
   (tuple_addW1 t b vs.toArray ws.toArray n n2 dd dd2 sl sl2 (by simpa using hv) (by simp[hw])) ⟨ho,ho2,h1 hw⟩
 ·refine concat_meets ⟨_,ho,rfl⟩ ⟨_,ho2,rfl⟩ noFill_tuple_add seq_tuple_add Wr Wl (Wa _ _)
   (tuple_addW2 t b vs.toArray ws.toArray n n2 dd dd2 sl sl2 (by simpa using hv) (by simpa using hw) (by rw[R9,R9];exact hsz)) ⟨ho,ho2,?_⟩
  rw[e];exact h2 hw
def sIx(n d:Nat):Option Int->Nat
 |none=>d
 |some v=>if v<0 then (v+(n:Int)).toNat else min v.toNat n
theorem sIx_none(n d:Nat):sIx n d none=d:=rfl
theorem sIx_nat(n d k:Nat):sIx n d (some (k:Int))=min k n:=by
 show (if (k:Int)<0 then ((k:Int)+(n:Int)).toNat else min (k:Int).toNat n)=min k n
 rw[R3 (by omega),TQ]
theorem sIx_le(n d:Nat)(hd:d<=n)(o:Option Int):sIx n d o<=n:=by
 cases o with
 |none=>exact hd
 |some v=>
   show (if v<0 then (v+(n:Int)).toNat else min v.toNat n)<=n
   by_cases hv:v<0
   ·rw[R1 hv];omega
   ·rw[R3 hv];exact Nat.min_le_right _ _
theorem clip_eq(v:Int)(n d:Nat):(if v<0 then max (v+(n:Int)) 0 else min v (n:Int))=((sIx n d (some v):Nat):Int):=by
 show (if v<0 then max (v+(n:Int)) 0 else min v (n:Int))=(((if v<0 then (v+(n:Int)).toNat else min v.toNat n):Nat):Int)
 by_cases hv:v<0
 ·simp only[if_pos hv];omega
 ·simp only[if_neg hv];omega
theorem adjust_gen(lo hi:Option Int)(n:Nat):Builtin.Slice.sliceAdjust lo hi 1 (n:Int)=(((sIx n 0 lo:Nat):Int),((sIx n n hi:Nat):Int)):=by
 have h1:¬ ((1:Int)<0):=by omega
 unfold Builtin.Slice.sliceAdjust;simp only[h1,if_false];refine Prod.ext ?_ ?_
 ·cases lo with
  |none=>rfl
  |some v=>exact clip_eq v n 0
 ·cases hi with
  |none=>rfl
  |some v=>exact clip_eq v n n
theorem places_gen(i j:Nat):Builtin.Slice.slicePlaces (i:Int) (j:Int) 1=j-i:=by
 unfold Builtin.Slice.slicePlaces;have h1:(1:Int) > 0:=by omega
 simp only[h1,if_true,Int.ediv_one];split<;>omega
theorem slicePart_(p:IsPart v o)(h:Q o s):wpAny (model prog w) A (Builtin.Slice.slicePartIndex v) Q E s:=by
 cases p with
 |none=>exact slicePart_none h
 |int i t=>exact slicePart_int h
theorem sliceApplied_gen{lo hi:Option Int}{n:Nat}{Q:Int×Int×Nat->Shared->Prop}(hs:s.heap.IsSliceOf sl vl vu .none)(pl:IsPart vl lo)(pu:IsPart vu hi)
  (h:Q (((sIx n 0 lo:Nat):Int),1,sIx n n hi-sIx n 0 lo) s):wpAny (model prog w) A (Builtin.Slice.sliceApplied (.ref sl) (pure (n:Int))) Q E s:=by
 obtain⟨os,hos,hcs,hds⟩:=id hs;unfold Builtin.Slice.sliceApplied Builtin.Slice.sliceFields;refine RD (RD (Tg hos hds (x:=vl) rfl (RD (Tg hos hds (x:=vu) rfl (RD (Tg hos hds (x:=.none) rfl (RJ ?_)))))));refine RD (slicePart_none ?_);show wpAny _ _ (if ((1:Int)==0)=true then _ else _) _ _ s
 rw[R3 (by decide)]
 refine RD (slicePart_ pl (RD (slicePart_ pu (RD (RJ ?_)))));show wpAny _ _ (match Builtin.Slice.sliceAdjust lo hi 1 (n:Int) with | (lo,hi)=>pure (lo,(1:Int),Builtin.Slice.slicePlaces lo hi 1)) _ _ s
 rw[adjust_gen lo hi n];show wpAny _ _ (pure (((sIx n 0 lo:Nat):Int),(1:Int),Builtin.Slice.slicePlaces ((sIx n 0 lo:Nat):Int) ((sIx n n hi:Nat):Int) 1)) _ _ s;rw[places_gen];exact RJ h
theorem pick_gen(xs:Array Value)(i k:Nat):((List.range k).filterMap λ(m:Nat)=>xs[((i:Int)+(m:Int)*1).toNat]?).toArray=((xs.toList.drop i).take k).toArray:=by
 have e:(λ(m:Nat)=>xs[((i:Int)+(m:Int)*1).toNat]?)=λm=>xs[i+m]?:=by
  funext m;have:((i:Int)+(m:Int)*1).toNat=i+m:=by omega
  rw[this]
 rw[e];have:=pick_run xs i k;rw[List.filterMap_map]at this;have e2:((λx=>xs[x]?) ∘ λx=>i+x)=λm=>xs[i+m]?:=rfl
 rw[e2]at this;rw[this]
theorem getItem_tuple_cut{items:Array Value}{lo hi:Option Int}{Q:Value->Shared->Prop}(ht:IsTup s.heap t items)(hs:s.heap.IsSliceOf sl vl vu .none)(pl:IsPart vl lo)(pu:IsPart vu hi)
  (hw:¬ (sIx items.size 0 lo=0/\sIx items.size items.size hi=items.size))
  (h:Q (.ref s.heap.objs.size) { s with heap:=s.heap.push { cls:=.type "tuple",data:=.seq ((items.toList.drop (sIx items.size 0 lo)).take (sIx items.size items.size hi-sIx items.size 0 lo)).toArray } })
  (hsz:items.size<=sizeLine):wpAny (model prog w) A (getItem (.ref t) (.ref sl)) Q E s:=by
 have htake:sizeOk (.seq ((items.toList.drop (sIx items.size 0 lo)).take (sIx items.size items.size hi-sIx items.size 0 lo)).toArray):=by show ((items.toList.drop (sIx items.size 0 lo)).take (sIx items.size items.size hi-sIx items.size 0 lo)).toArray.size<=sizeLine;rw[R9,Vd,Ve,Xo];omega
 have hj:sIx items.size items.size hi<=items.size:=sIx_le _ _ (RX _) hi;obtain⟨os,hos,hcs,hds⟩:=id hs;have hTs:s.TypeIs (.ref sl) "slice":=⟨os,hos,hcs⟩;unfold getItem
 try with_reducible refine Tz ?_
 first | refine RD (RJ ?_) | skip
 refine RD (wpAny_sequenceKey ht.typeIs (by decide) ?_)
 refine RD (Tf (name:=Str.ofString "__getitem__") ht.typeIs U0
  (Tc U0 ht.typeIs entry_tuple_getitem ?_ (args_tuple_getitem _ _)))
 show wpAny _ _ (Builtin.Tuple.tupleItemsOf (.ref t)>>=_) _ _ s;refine RD (tupleItemsOf_ ht ?_);refine RD (Vw hTs ?_);rw[R1 (by decide)]
 refine RD (sliceApplied_gen hs pl pu ?_);have hno:¬ ((((sIx items.size 0 lo:Nat):Int)==0&&(1:Int)==1&&(sIx items.size items.size hi-sIx items.size 0 lo)==items.size)=true):=by intro q;rw[Um,Um]at q;have q1:((sIx items.size 0 lo:Nat):Int)=0:=eq_of_beq q.1.1;have q2:sIx items.size items.size hi-sIx items.size 0 lo=items.size:=eq_of_beq q.2;exact hw ⟨by omega,by omega⟩
 show wpAny _ _ (if (((sIx items.size 0 lo:Nat):Int)==0&&(1:Int)==1&&(sIx items.size items.size hi-sIx items.size 0 lo)==items.size)=true then _ else _) _ _ s
 rw[R3 hno,pick_gen]
 first
  |exact RD (m:=Builtin.Tuple.tupleExact _) (SQ (RJ ⟨_,rfl,RJ h⟩) htake)
  |exact RD (m:=Builtin.Tuple.tupleExact _) (SQ (RD (RJ (RJ ⟨_,rfl,RJ h⟩))) htake)
  |exact RD (RD (m:=Builtin.Tuple.tupleExact _) (SQ (RJ (RJ ⟨_,rfl,RJ h⟩)) htake))
  |exact RD (RD (m:=Builtin.Tuple.tupleExact _) (SQ (RJ ⟨_,rfl,RJ h⟩) htake))
end
end HT
namespace L2
open PySem PySem.Spec PyProof.Rows
abbrev TO:=St->Hp->(Option Int->Hp->Prop)->Prop
def PO(X:Cx)(e:Option Expr)(t:TO):Prop:=
 ∀(Xp:List (Addr×Obj)) (s:Shared) (σ:St) (H:Hp) (Q:Option Int->Hp->Prop),Inv X Xp σ H s->t σ H Q->
   wpAny (model X.prog X.w) X.A (evalPart e X.env) (λu s'=>∃o H',Inv X Xp σ H' s'/\IsPart u o/\Q o H') X.xe s
def tNoPart:TO:=λz H Q=>Q none H
def tPart(t:TE):TO:=λσ H Q=>t σ H λx H1=>∃i,x=.int i/\Q (some i) H1
theorem intsAre_of:∀ {us:List Value},Vals (ns.map V.int) us->IntsAre us ns:=by
 induction ns with
 |nil=>intro us r;rw[V8]at r;cases r;exact .nil
 | cons n ns ih=>
   intro us r;rw[SX]at r;cases r with
   |cons r1 r2=>obtain⟨t,e⟩:=r1;subst e;exact .cons n t (ih r2)
section
variable{X:Cx}{e:Expr}{te:TE}{lo hi:Option Expr}{tl th:TO}{pos p2:Pos}
theorem po_none:PO X none tNoPart:=by intro Xp s σ H Q I h;rw[evalPart_none];exact RJ ⟨none,H,I,.none,h⟩
theorem po_some(h:PE X e te):PO X (some e) (tPart te):=by
 intro Xp s σ H Q I hw;rw[evalPart_some];refine thn (h Xp s σ H _ I hw) λu s1 ⟨x,H1,I1,r1,q1⟩=>?_
 obtain⟨i,rfl,q⟩:=q1;obtain⟨t,rfl⟩:=r1;exact⟨some i,H1,I1,.int i t,q⟩
def SlR(X:Cx)(r:V->Option Int->Option Int->Hp->VK->Prop):Prop:=
 ∀(Xp:List (Addr×Obj)) (s:Shared) (σ:St) (H:Hp) (x:V) (v vl vu:Value) (lo hi:Option Int) (sl:Addr) (Q:VK),Inv X Xp σ H s->RelV x v->s.heap.IsSliceOf sl vl vu .none->IsPart vl lo->IsPart vu hi->r x lo hi H Q->
   ∃T id,typeLookup (.type T) "__getitem__"=pure (some (.builtin id))/\s.TypeIs v T/\wpAny (model X.prog X.w) X.A (getItem v (.ref sl)) (EP X Xp σ Q) X.xe s
def tSl(r:V->Option Int->Option Int->Hp->VK->Prop)(te:TE)(tl th:TO):TE:=λσ H Q=>te σ H λx H1=>tl σ H1 λl H2=>th σ H2 λu H3=>r x l u H3 Q
theorem pe_slice(hr:SlR X r)(he:PE X e te)(hl:PO X lo tl)(hu:PO X hi th):PE X (.Subscript e (.Slice lo hi none p2) pos) (tSl r te tl th):=by
 intro Xp s σ H Q I h;refine Subscript_ (thn (he Xp s σ H _ I h) λv s1 ⟨x,H1,I1,r1,q1⟩=>?_)
 refine wpAny_Slice (thn (hl Xp s1 σ H1 _ I1 q1) λvl s2 ⟨l,H2,I2,pl,q2⟩=>thn (hu Xp s2 σ H2 _ I2 q2) λvu s3 ⟨u,H3,I3,pu,q3⟩=>?_)
 rw[evalPart_none];refine RJ ?_;have I4:Inv X Xp σ H3 { s3 with heap:=s3.heap.push { cls:=.type "slice",data:=.fields #[vl,vu,.none] } }:=I3.kept (t':=s3.toks) λb ob q=>RG _ q
 obtain⟨T,id,hT,ht,hg⟩:=hr Xp { s3 with heap:=s3.heap.push { cls:=.type "slice",data:=.fields #[vl,vu,.none] } } σ H3 x v vl vu l u s3.heap.objs.size Q I4 r1 (Heap.IsSliceOf.new ..) pl pu q3
 show wpAny (model X.prog X.w) X.A (subscriptTail e (.Slice lo hi none p2) v (.ref s3.heap.objs.size)) (EP X Xp σ Q) X.xe { s3 with heap:=s3.heap.push { cls:=.type "slice",data:=.fields #[vl,vu,.none] } }
 exact tail_any (ops:=[.ref s3.heap.objs.size,v]) ht hT hg (by with_unfolding_all rfl)
def cutV(xs:List V)(lo hi:Option Int):List V:=(xs.drop (HT.sIx xs.length 0 lo)).take (HT.sIx xs.length xs.length hi-HT.sIx xs.length 0 lo)
theorem cutV_length(xs:List V)(lo hi:Option Int):(cutV xs lo hi).length<=xs.length:=by unfold cutV;rw[Vd,Ve];omega
def rSlT(K:PySem.W.Frag):V->Option Int->Option Int->Hp->VK->Prop:=λx lo hi H Q=>∃a xs,x=.ref a/\SqT K H a xs /\
 ¬ (HT.sIx xs.length 0 lo=0/\HT.sIx xs.length xs.length hi=xs.length)/\∀p,H p=none->Q (.ref p) (upd H p (.tup (cutV xs lo hi)))
theorem sl_tup:SlR X (rSlT X.K):=by
 intro Xp s σ H x v vl vu lo hi sl Q I rx hs pl pu h;obtain⟨a,xs,rfl,hx,hw,q⟩:=h;cases rx;obtain⟨its,r,ht,hz⟩:=I.tuple hx;have hlen:its.toArray.size=xs.length:=by rw[R9];exact r.length.symm
 refine⟨"tuple",_,PyProof.Rows.slot_tuple_getitem.lookup,ht.typeIs,?_⟩;refine HT.getItem_tuple_cut ht hs pl pu (by rw[hlen];exact hw) ?_ (by rw[hlen];exact hz)
 rw[hlen];refine⟨.ref s.heap.objs.size,_,I.laid (t':=s.toks) (o:=.tup (cutV xs lo hi)) (λb ob q=>RG _ q) (RX _) ?_,rfl,q _ (I.hok.fresh (RX _))⟩
 exact⟨R7 (cutV_length xs lo hi) hz,_,(r.drop (HT.sIx xs.length 0 lo)).take (HT.sIx xs.length xs.length hi-HT.sIx xs.length 0 lo),W2 _ _⟩
def rCatT(K:PySem.W.Frag):R2:=λx y H Q=>∃a b xs ys,x=.ref a/\y=.ref b/\SqT K H a xs/\SqT K H b ys/\xs≠[]/\xs.length+ys.length<=sizeLine /\
 (ys=[]->Q (.ref a) H)/\(ys≠[]->∀p,H p=none->Q (.ref p) (upd H p (.tup (xs++ys))))
theorem Vals.nil_iff(r:Vals xs us):us=[] ↔ xs=[]:=by
 cases r with
 |nil=>simp
 |cons _ _=>simp
theorem op_catT:OpR X (binaryOp .Add) (rCatT X.K):=by
 intro Xp s σ H x y v u Q I rx ry h;obtain⟨a,b,xs,ys,rfl,rfl,ha,hb,hx,hz,q1,q2⟩:=h;cases rx;cases ry;obtain⟨its,r1,p1,_⟩:=I.tuple ha;obtain⟨its2,r2,p2,_⟩:=I.tuple hb;refine HT.cat_tup p1 p2 (λz=>hx (r1.nil_iff.mp z)) (λz=>⟨.ref a,H,I,rfl,q1 (r2.nil_iff.mp z)⟩) (λz=>?_) (by rw[<-r1.length,<-r2.length];exact hz)
 refine⟨.ref s.heap.objs.size,_,I.laid (t':=s.toks) (o:=.tup (xs++ys)) (λb ob q=>RG _ q) (RX _) ?_,rfl,q2 (λw=>z (r2.nil_iff.mpr w)) _ (I.hok.fresh (RX _))⟩
 exact⟨by rw[R6];exact hz,_,r1.append r2,W2 _ _⟩
end
open PySem PySem.Spec PyProof.Rows
def ixN(n:Nat)(i:Int):Option Nat:=if 0<=i then (if i<n then some i.toNat else none) else if -(n:Int)<=i then some (i+n).toNat else none
def atI{α:Type}(xs:List α)(i:Int):Option α:=(ixN xs.length i).bind λj=>xs[j]?
theorem ixN_seq(h:ixN n i=some j):seqIndex? i n=some j/\j<n/\-(n:Int)<=i/\i<n:=by
 unfold ixN at h;by_cases h0:0<=i
 ·rw[R1 h0]at h;by_cases h1:i<n
  ·rw[R1 h1]at h;have e:i.toNat=j:=RP h;exact⟨by rw[seqIndex_of h0 h1,e],by omega,by omega,h1⟩
  ·rw[R3 h1]at h;cases h
 ·rw[R3 h0]at h;by_cases h1:-(n:Int)<=i
  ·rw[R1 h1]at h;have e:(i+n).toNat=j:=RP h;exact⟨by rw[seqIndex_neg (by omega) h1,e],by omega,h1,by omega⟩
  ·rw[R3 h1]at h;cases h
theorem atI_get(h:atI xs i=some v):∃ j,seqIndex? i xs.length=some j/\xs[j]?=some v/\j<xs.length/\-(xs.length:Int)<=i/\i<xs.length:=by
 unfold atI at h;cases e:ixN xs.length i with
 |none=>rw[e]at h;cases h
 |some j=>rw[e]at h;obtain⟨h1,h2,h3,h4⟩:=ixN_seq e;exact⟨j,h1,h,h2,h3,h4⟩
def PlainIx(b:Expr):Prop:=∀o i,subscripted b false o i=operate [o,i] (getItem o i)
def IxR(X:Cx)(r:R2):Prop:=
 ∀(value slice:Expr) (Xp:List (Addr×Obj)) (s:Shared) (σ:St) (H:Hp) (x y:V) (v u:Value) (Q:VK),Inv X Xp σ H s->RelV x v->RelV y u->r x y H Q->
   subscripted slice false v u=operate [v,u] (getItem v u)->wpAny (model X.prog X.w) X.A (subscriptTail value slice v u) (EP X Xp σ Q) X.xe s
def MtR(X:Cx)(id:String)(r:V->List V->Hp->VK->Prop):Prop:=
 ∀(Xp:List (Addr×Obj)) (s:Shared) (σ:St) (H:Hp) (x:V) (xs:List V) (v:Value) (us:List Value) (Q:VK),Inv X Xp σ H s->RelV x v->Vals xs us->r x xs H Q->
   wpAny (model X.prog X.w) X.A (call (.builtin id) (v::us)) (EP X Xp σ Q) X.xe s
section
variable{X:Cx}{a b:Expr}{ta tb:TE}{pos:Pos}
theorem pe_ix(hr:IxR X r)(ha:PE X a ta)(hb:PE X b tb)(hs:PlainIx b):PE X (.Subscript a b pos) (tOp r ta tb):=by intro Xp s σ H Q I h;exact Subscript_ (binT ha hb I h λv u s2 x y H2 I2 rx ry q=>hr a b Xp s2 σ H2 x y v u Q I2 rx ry q (hs _ _))
def rIxL(K:PySem.W.Frag):R2:=λx y H Q=>∃p xs i v,x=.ref p/\y=.int i/\SqL K H p xs/\atI xs i=some v/\Q v H
def rIxT(K:PySem.W.Frag):R2:=λx y H Q=>∃p xs i v,x=.ref p/\y=.int i/\SqT K H p xs/\atI xs i=some v/\Q v H
theorem ix_list:IxR X (rIxL X.K):=by
 intro value slice Xp s σ H x y v u Q I rx ry h hs;obtain⟨p,xs,i,z,rfl,rfl,hq,he,q⟩:=h;cases rx;obtain⟨t,rfl⟩:=ry;obtain⟨its,r,pl,hz⟩:=I.list hq;obtain⟨j,h1,h2,h3,h4,h5⟩:=atI_get he;obtain⟨w,ew,rw'⟩:=r.get h2;have hl:=r.length;have hn:=line63;have fin:EP X Xp σ Q w s:=⟨z,H,I,rw',q⟩;by_cases h0:0<=i
 ·have hj:i.toNat=j:=by rw[seqIndex_of h0 h5]at h1;exact RP h1
  exact item_listR pl.isList h0 (by omega) (by rw[hj];simpa using ew) fin hs
 ·have hj:(i+(its.toArray.size:Int)).toNat=j:=by
   rw[seqIndex_neg (by omega) h4]at h1
   rw[R9,<-hl];exact RP h1
  exact subscriptTail_builtinR (x:=w) pl.isList.typeIs slot_list_getitem.lookup
   (wpAny_getItem_list_neg (Q:=λr s'=>r=w/\EP X Xp σ Q r s') pl.isList (by omega) (by rw[R9]<;>omega) (by omega) (by rw[hj];simpa using ew) ⟨rfl,fin⟩) hs
theorem ix_tup:IxR X (rIxT X.K):=by
 intro value slice Xp s σ H x y v u Q I rx ry h hs;obtain⟨p,xs,i,z,rfl,rfl,hq,he,q⟩:=h;cases rx;obtain⟨t,rfl⟩:=ry;obtain⟨its,r,pl,hz⟩:=I.tuple hq;obtain⟨j,h1,h2,h3,h4,h5⟩:=atI_get he;obtain⟨w,ew,rw'⟩:=r.get h2;have hl:=r.length;have hn:=line63;have fin:EP X Xp σ Q w s:=⟨z,H,I,rw',q⟩;exact subscriptTail_builtinR (x:=w) pl.typeIs slot_tuple_getitem.lookup
  (getItem_tuple (j:=j) (Q:=λr s'=>r=w/\EP X Xp σ Q r s') pl (by omega) (by omega) (by rw[R9,<-hl];exact h1) (by simpa using ew) ⟨rfl,fin⟩) hs
theorem mapSeq_set(its:List Value)(n j:Nat)(u:Value):Obj.mapSeq (·.setIfInBounds j u) { cls:=.type "list",data:=.seq its.toArray n }={ cls:=.type "list",data:=.seq (its.set j u).toArray n }:=by simp[Obj.mapSeq]
theorem Inv.lst(I:Inv X Xp σ H s)(h:H p=some (.lst xs)):
  ∃(its:List Value) (n:Nat),Vals xs its/\s.heap.get? p=some { cls:=.type "list",data:=.seq its.toArray n }/\xs.length<=sizeLine:=by
 obtain⟨z,its,n,r,e⟩:=I.hok p _ h;exact⟨its,n,r,e,z⟩
theorem Inv.lstUpd{Xp:List (Addr×Obj)}{xs ys:List V}{its its':List Value}{n n':Nat}{f:Obj->Obj}(I:Inv X Xp σ H s)(h:H p=some (.lst xs))
  (ho:s.heap.get? p=some { cls:=.type "list",data:=.seq its.toArray n }) (hf:f { cls:=.type "list",data:=.seq its.toArray n }={ cls:=.type "list",data:=.seq its'.toArray n' }) (r:Vals ys its') (hz:ys.length<=sizeLine) (t:Nat) :
  Inv X Xp σ (upd H p (.lst ys)) { s with heap:=s.heap.update p f,toks:=t }:=by
 have e:(s.heap.update p f).get? p=some { cls:=.type "list",data:=.seq its'.toArray n' }:=by rw[VB f ho (by rw[hf]<;>rfl),hf]
 refine I.write (x:=p) (e:=p) (by rw[h];trivial) (.inl rfl) (λb u hb q=>(UG _ _ (Ne.symm hb)).trans q) ⟨_,e⟩ ?_
 exact⟨hz,its',n',r,e⟩
def rSetL:V->V->V->Hp->(Hp->Prop)->Prop:=λo i v H Q=>∃p xs k j,o=.ref p/\i=.int k/\H p=some (.lst xs)/\ixN xs.length k=some j/\Q (upd H p (.lst (xs.set j v)))
theorem set_list:PSet X rSetL:=by
 intro Xp s σ H o i v ov iv u Q I ro ri rv h;obtain⟨p,xs,k,j,rfl,rfl,hp,hj,q⟩:=h;cases ro;obtain⟨t,rfl⟩:=ri;obtain⟨its,n,r,ho,hz⟩:=I.lst hp;obtain⟨h1,h2,h3,h4⟩:=ixN_seq hj;have hl:=r.length;have hn:=line63;have I':Inv X Xp σ (upd H p (.lst (xs.set j v))) { s with heap:=s.heap.update p (Obj.mapSeq (·.setIfInBounds j u)) }:=
  I.lstUpd hp ho (mapSeq_set its n j u) (r.set rv j) (by rw[U4];exact hz) s.toks
 by_cases h0:0<=k
 ·have hk:k.toNat=j:=by rw[seqIndex_of h0 h4]at h1;exact RP h1
  exact PySem.W.ki_setAt ho h0 (by omega) (by rw[R9,<-hl];exact h4) (by rw[hk];exact⟨_,I',q⟩)
 ·have hk:(k+(its.toArray.size:Int)).toNat=j:=by
   rw[seqIndex_neg (by omega) h3]at h1
   rw[R9,<-hl];exact RP h1
  exact PySem.W.ki_setBack ho (by omega) (by rw[R9,<-hl];exact h3) (by omega) (by rw[hk];exact⟨_,I',q⟩)
theorem slice_bounds(lo hi:Option Int)(n:Nat):(sliceBounds lo hi none n).1=((HT.sIx n 0 lo:Nat):Int)/\(sliceBounds lo hi none n).2.1=((HT.sIx n n hi:Nat):Int)/\(sliceBounds lo hi none n).2.2=1:=by
 refine⟨?_,?_,rfl⟩
 ·cases lo with
  |none=>simp[sliceBounds,HT.sIx]
  |some i=>
    simp only[sliceBounds,HT.sIx,Option.getD_none,show (1:Int) > 0 by decide,if_true]
    by_cases h:i<0
    ·simp only[h,if_true]<;>omega
    ·simp only[h,if_false]<;>omega
 ·cases hi with
  |none=>simp[sliceBounds,HT.sIx]
  |some i=>
    simp only[sliceBounds,HT.sIx,Option.getD_none,show (1:Int) > 0 by decide,if_true]
    by_cases h:i<0
    ·simp only[h,if_true]<;>omega
    ·simp only[h,if_false]<;>omega
theorem slicePick_cut(its:List Value)(lo hi:Option Int):slicePick its.toArray lo hi none=((its.drop (HT.sIx its.length 0 lo)).take (HT.sIx its.length its.length hi-HT.sIx its.length 0 lo)).toArray:=by obtain⟨h1,h2,h3⟩:=slice_bounds lo hi its.toArray.size;unfold slicePick;rw[h1,h2,h3];simp only[sliceRange_one,pick_run,List.size_toArray]<;>rfl
def rSlL(K:PySem.W.Frag):V->Option Int->Option Int->Hp->VK->Prop:=λx lo hi H Q=>∃a xs,x=.ref a/\SqL K H a xs/\∀p,H p=none->Q (.ref p) (upd H p (.lst (cutV xs lo hi)))
theorem sl_list:SlR X (rSlL X.K):=by
 intro Xp s σ H x v vl vu lo hi sl Q I rx hs pl pu h;obtain⟨a,xs,rfl,hx,q⟩:=h;cases rx;obtain⟨its,r,ht,hz⟩:=I.list hx;have hlen:=r.length;refine⟨"list",_,slot_list_getitem.lookup,ht.isList.typeIs,?_⟩;refine wpAny_getItem_list_slice ht.isList hs pl pu .none (by simp) ?_ (by rw[R9]<;>omega)
 rw[slicePick_cut,<-hlen];refine⟨.ref s.heap.objs.size,_,I.laid (t':=s.toks) (o:=.lst (cutV xs lo hi)) (λb ob q=>RG _ q) (RX _) ?_,rfl,q _ (I.hok.fresh (RX _))⟩
 exact⟨R7 (cutV_length xs lo hi) hz,_,0,(r.drop (HT.sIx xs.length 0 lo)).take (HT.sIx xs.length xs.length hi-HT.sIx xs.length 0 lo),RM _ rfl⟩
def flatV:V->Bool
 |.non=>true
 |.bl _=>true
 |.int _=>true
 |.str _=>true
 |_=>false
def eqV:V->V->Bool
 |.non,.non=>true
 |.bl a,.bl b=>a==b
 |.bl a,.int b=>(if a then 1 else 0)==b
 |.int a,.bl b=>a==(if b then 1 else 0)
 |.int a,.int b=>a==b
 |.str a,.str b=>a==b
 |_,_=>false
theorem eqAt_V(ry:RelV y u)(rx:RelV x v)(fy:flatV y=true)(fx:flatV x=true):SeqAt.EqAt A s u v (eqV y x):=by
 cases y with
 |non=>
   cases ry;cases x with
   |non=>cases rx;exact SeqAt.EqAt.same _
   |bl b=>cases rx;exact SeqAt.EqAt.none_bool b
   |int b=>obtain⟨t,rfl⟩:=rx;exact SeqAt.EqAt.none_int b t
   |str b=>obtain⟨t,rfl⟩:=rx;exact SeqAt.EqAt.none_str b t
   |_=>exact absurd (show false=true from fx) R4
 |bl a=>
   cases ry;cases x with
   |non=>cases rx;exact SeqAt.EqAt.bool_none a
   |bl b=>cases rx;exact SeqAt.EqAt.bool_bool a b
   |int b=>obtain⟨t,rfl⟩:=rx;exact SeqAt.EqAt.bool_int a b t
   |str b=>obtain⟨t,rfl⟩:=rx;exact SeqAt.EqAt.bool_str a b t
   |_=>exact absurd (show false=true from fx) R4
 |int a=>
   obtain⟨t',rfl⟩:=ry;cases x with
   |non=>cases rx;exact SeqAt.EqAt.int_none a t'
   |bl b=>cases rx;exact SeqAt.EqAt.int_bool a t' b
   |int b=>obtain⟨t,rfl⟩:=rx;exact SeqAt.EqAt.int_int a t' b t
   |str b=>obtain⟨t,rfl⟩:=rx;exact SeqAt.EqAt.int_str a t' b t
   |_=>exact absurd (show false=true from fx) R4
 |str a=>
   obtain⟨t',rfl⟩:=ry;cases x with
   |non=>cases rx;exact SeqAt.EqAt.str_none a t'
   |bl b=>cases rx;exact SeqAt.EqAt.str_bool a t' b
   |int b=>obtain⟨t,rfl⟩:=rx;exact SeqAt.EqAt.str_int a t' b t
   |str b=>obtain⟨t,rfl⟩:=rx;exact SeqAt.EqAt.str_str a t' b t
   |_=>exact absurd (show false=true from fx) R4
 |_=>exact absurd (show false=true from fy) R4
def eqU(x:V)(u:Value):Bool:=match u with
 |.none=>eqV .non x
 |.bool b=>eqV (.bl b) x
 |.int i _=>eqV (.int i) x
 |.str z _=>eqV (.str z) x
 |_=>false
theorem eqU_of(r:RelV y u)(f:flatV y=true):eqU x u=eqV y x:=by
 cases y with
 |non=>cases r;rfl
 |bl b=>cases r;rfl
 |int i=>obtain⟨t,rfl⟩:=r;rfl
 |str z=>obtain⟨t,rfl⟩:=r;rfl
 |_=>exact absurd (show false=true from f) R4
theorem any_eqU:∀ {xs:List V}{us:List Value},Vals xs us->xs.all flatV=true->us.any (eqU x)=xs.any λy=>eqV y x
 |_,_,.nil,_=>rfl
 |y::xs,u::us,.cons r t,f=>by rw[Xl,Um]at f;rw[VR,VR,eqU_of r f.1,any_eqU t f.2]
theorem mem_eqAt(rx:RelV x v)(fx:flatV x=true):∀ {xs:List V}{us:List Value},Vals xs us->xs.all flatV=true->∀ u∈us,SeqAt.EqAt A s u v (eqU x u)
 |_,_,.nil,_=>λu hu=>by cases hu
 |y::xs,u::us,.cons r t,f=>λu' hu=>by
   rw[Xl,Um]at f;rcases R8.mp hu with rfl | hu
   ·rw[eqU_of r f.1];exact eqAt_V r rx f.1 fx
   ·exact mem_eqAt rx fx t f.2 u' hu
def inV(x:V)(xs:List V):Bool:=xs.any λy=>eqV y x
def rIn(K:PySem.W.Frag)(neg:Bool):R2:=λx y H Q=>∃p xs,y=.ref p/\(SqL K H p xs\/SqT K H p xs)/\flatV x=true/\xs.all flatV=true/\Q (.bl (if neg then !inV x xs else inV x xs)) H
theorem op_notIn_seq:OpR X (compareOp .NotIn) (rIn X.K true):=by
 intro Xp s σ H x y v u Q I rx ry h;obtain⟨p,xs,rfl,hq,fx,fs,q⟩:=h;cases ry;rcases hq with hq | hq
 ·obtain⟨its,r,pl,hz⟩:=I.list hq;refine SeqAt.notIn_listAt (eqU x) pl.isList (λw hw=>mem_eqAt rx fx r fs w (by simpa using hw)) ⟨.bl _,H,I,rfl,?_⟩
  rw[show its.toArray.any (eqU x)=its.any (eqU x) by simp,any_eqU r fs]
  exact q
 ·obtain⟨its,r,pl,hz⟩:=I.tuple hq;refine SeqAt.notIn_tupleAt (eqU x) pl (λw hw=>mem_eqAt rx fx r fs w (by simpa using hw)) ⟨.bl _,H,I,rfl,?_⟩
  rw[show its.toArray.any (eqU x)=its.any (eqU x) by simp,any_eqU r fs]
  exact q
theorem call_len_seq:CallR X (.builtin "len") (λxs H Q=>∃p ys,xs=[.ref p]/\(SqL X.K H p ys\/SqT X.K H p ys)/\Q (.int ys.length) H):=by
 intro Xp s σ H xs us Q I r h;obtain⟨p,ys,rfl,hq,q⟩:=h;obtain⟨u,rfl,rx⟩:=vals1 r;cases rx;have hn:=line63;rcases hq with hq | hq
 ·obtain⟨its,r',pl,hz⟩:=I.list hq;have hlen:=r'.length;exact Calls.call_len_list pl.isList (by simp only[List.size_toArray]<;>omega) ⟨.int ys.length,H,I.tok _,⟨s.toks+1,by rw[R9,hlen]⟩,q⟩
 ·obtain⟨its,r',pl,hz⟩:=I.tuple hq;have hlen:=r'.length;exact len_tuple pl (by simp only[List.size_toArray]<;>omega) ⟨.int ys.length,H,I.tok _,⟨s.toks+1,by rw[R9,hlen]⟩,q⟩
theorem call_len_str:CallR X (.builtin "len") (λxs H Q=>∃z,xs=[.str z]/\z.length<=sizeLine/\Q (.int z.length) H):=by intro Xp s σ H xs us Q I r h;obtain⟨z,rfl,hz,q⟩:=h;obtain⟨u,rfl,t,rfl⟩:=vals1 r;have hn:=line63;exact len_str (by omega) ⟨.int z.length,H,I.tok _,⟨_,rfl⟩,q⟩
theorem CallR.or(h:CallR X f r)(h':CallR X f r'):CallR X f (λxs H Q=>r xs H Q\/r' xs H Q):=by
 intro Xp s σ H xs us Q I rs q;rcases q with q | q
 ·exact h Xp s σ H xs us Q I rs q
 ·exact h' Xp s σ H xs us Q I rs q
theorem call_tuple_of:CallR X (.type "tuple") (λxs H Q=>∃ p ys,xs=[.ref p]/\((SqL X.K H p ys/\∀ l,H l=none->Q (.ref l) (upd H l (.tup ys)))\/(SqT X.K H p ys/\Q (.ref p) H))):=by
 intro Xp s σ H xs us Q I r h;obtain⟨p,ys,rfl,h⟩:=h;obtain⟨u,rfl,rx⟩:=vals1 r;cases rx;rcases h with ⟨hq,q⟩ | ⟨hq,q⟩
 ·obtain⟨its,r',pl,hz⟩:=I.list hq;have hlen:=r'.length;refine call_tuple_list pl.isList (λh' kp=>?_) (by simp only[List.size_toArray]<;>omega)
  have I1:Inv X Xp σ H { s with heap:=h' }:=I.kept (t':=s.toks) kp
  have I2:Inv X Xp σ (upd H h'.objs.size (.tup ys)) { s with heap:=h'.push { cls:=.type "tuple",data:=.seq its.toArray } }:=
   I1.laid (t':=s.toks) (λb o e=>RG _ e) (RX _) (show ObjOk X.prog X.w _ _ _ (.tup ys) from⟨hz,its,r',W2 _ _⟩)
  exact⟨.ref h'.objs.size,_,I2,rfl,q _ (I1.hok.fresh (RX _))⟩
 ·obtain⟨its,r',pl,hz⟩:=I.tuple hq;exact call_tuple_same pl ⟨.ref p,H,I,rfl,q⟩
def tyV(K:PySem.W.Frag)(T:String)(x:V)(H:Hp):Prop:=match x with
 |.str _=>T = "str"
 |.int _=>T = "int"
 |.ref p=>(T = "list"/\∃xs,SqL K H p xs)\/(T = "tuple"/\∃o,K.lookup p=some o/\o.cls=.type "tuple"/\o.dict=none) \/
   (T = "dict"/\((∃kvs,H p=some (.dK kvs))\/∃kvs,H p=some (.dT kvs)))\/(T = "set"/\∃S n,H p=some (.set S n))
 |_=>False
theorem tyV_is(I:Inv X Xp σ H s)(r:RelV x v)(ty:tyV X.K T x H):
  s.TypeIs v T/\∀a,v=.ref a->∃ob,s.heap.get? a=some ob/\ob.dict=none:=by
 cases x with
 |str z=>
   obtain⟨t,rfl⟩:=r;cases (show T = "str" from ty)
   exact⟨typeIs_str s z t,λy e=>nomatch e⟩
 |int i=>
   obtain⟨t,rfl⟩:=r;cases (show T = "int" from ty)
   exact⟨typeIs_int s i t,λy e=>nomatch e⟩
 | ref p=>
   cases r;rcases ty with ⟨rfl,xs,hq⟩ | ⟨rfl,o,hk,hc,hd⟩ | ⟨rfl,hk⟩ | ⟨rfl,S,n,hk⟩
   ·obtain⟨its,_,pl,_⟩:=I.list hq;refine⟨pl.isList.typeIs,λa e=>?_⟩
    cases e;obtain⟨o,n,e,c,hd,_⟩:=pl;exact⟨o,e,hd⟩
   ·refine⟨⟨o,I.kIn p o hk,hc⟩,λa e=>?_⟩
    cases e;exact⟨o,I.kIn _ o hk,hd⟩
   ·have z:∃ o,s.heap.get? p=some o/\o.ExactDict:=by
     rcases hk with ⟨kvs,hk⟩ | ⟨kvs,hk⟩
     ·obtain⟨_,_,_,_,o,_,_,e,ex,_⟩:=I.hok p _ hk;exact⟨o,e,ex⟩
     ·obtain⟨_,_,_,_,o,_,_,e,ex,_⟩:=I.hok p _ hk;exact⟨o,e,ex⟩
    obtain⟨o,e,ex⟩:=z;refine⟨⟨o,e,ex.1⟩,λa e2=>?_⟩
    cases e2;exact⟨o,e,ex.2.1⟩
   ·obtain⟨o,_,_,_,e,ex,_⟩:=I.hok p _ hk;refine⟨⟨o,e,ex.1⟩,λa e2=>?_⟩
    cases e2;exact⟨o,e,ex.2.1⟩
 |_=>exact False.elim ty
def tBM(K:PySem.W.Frag)(T:String)(r:V->List V->Hp->VK->Prop)(to:TE)(t:TA):TE:=λσ H Q=>to σ H λx H1=>tyV K T x H1/\t σ H1 λxs H2=>r x xs H2 Q
variable{o e:Expr}{es:List Expr}{to:TE}{t:TA}{name:Str}{apos cpos:Pos}{T id:String}{r:V->List V->Hp->VK->Prop}
theorem pe_bm(pa:PlainAttrs T)(slot:Slot T name id)(hty:typeOf (.builtin id)=pure (.type "method_descriptor"))(hm:MtR X id r)(ho:PE X o to)(ha:PA X (e::es) t)
  (hbase:attributeBase o name X.env (eval o X.env)=eval o X.env:=by rfl)
  (hfew:((backTo cpos (starEach (e::es) X.env)).all (fun x=>!x.1)&&(backToKw cpos (keywordEach [] X.env)).all (fun x=>x.1.isSome)
   &&decide ((e::es).length+([]:List Keyword).length+(if ([]:List Keyword).isEmpty then 0 else 1)<30))=true:=by rfl)
  (hline:(apos.endLine==cpos.line)=true:=by rfl) (hs:starEach (e::es) X.env=(false,eval e X.env)::starEach es X.env:=by rfl) (hplain:(backTo cpos (starEach es X.env)).any (·.1)=false:=by rfl) :
  PE X (.Call (.Attribute o name apos) (e::es) [] cpos) (tBM X.K T r to t):=by
 intro Xp s σ H Q I h;refine wpAny_Call_method_late hbase hfew hline rfl (thn (ho Xp s σ H _ I h) λv s1 ⟨x,H1,I1,r1,ty,q1⟩=>?_)
 obtain⟨h1,h2⟩:=tyV_is I1 r1 ty;refine⟨T,id,pa,slot,hty,h1,h2,?_⟩;have hA:=ha cpos Xp s1 σ H1 _ I1 q1;rw[hs]at hA ⊢
 refine Calls.callWith_builtin (by show (false || (backTo cpos (starEach es X.env)).any (·.1))=false;rw[hplain]<;>rfl) (Calls.evalArgs_plain ?_)
 exact thn hA λus s2 ⟨vs,H2,I2,r2,q2⟩=>hm Xp s2 σ H2 x vs v us Q I2 r1 r2 q2
end
open PySem PySem.Spec PyProof.Rows
def MtM(X:Cx)(id:String)(r:V->List V->Hp->VK->Prop):Prop:=
 ∀(Xp:List (Addr×Obj)) (s:Shared) (σ:St) (H:Hp) (x:V) (xs:List V) (v:Value) (us:List Value) (Q:VK),Inv X Xp σ H s->RelV x v->Vals xs us->r x xs H Q->
   wpAny (model X.prog X.w) X.A (call (.builtin id) (v::us)) (EP X Xp σ Q) X.xe s
theorem Vals.one:∀{x:V}{us:List Value},Vals [x] us->∃u,us=[u]/\RelV x u
 |_,_,.cons r .nil=>⟨_,rfl,r⟩
theorem Vals.eraseIdx:∀{xs:List V}{us:List Value} (i:Nat),Vals xs us->Vals (xs.eraseIdx i) (us.eraseIdx i)
 |_,_,_,.nil=>.nil
 |_,_,0,.cons _ t=>t
 |_,_,i+1,.cons r t=>.cons r (Vals.eraseIdx i t)
theorem Vals.rep(h:Vals xs us):∀ k:Nat,Vals (List.replicate k xs).flatten (List.replicate k us).flatten
 |0=>.nil
 |k+1=>by rw[Uy,Uy,U7,U7];exact Vals.append h (Vals.rep h k)
theorem len_erase:∀(l:List α) (i:Nat),(l.eraseIdx i).length<=l.length
 |[],_=>RX _
 |_::_,0=>Nat.le_succ _
 |_::r,i+1=>Nat.succ_le_succ (len_erase r i)
theorem foldl_rep(its:List Value):∀ (k:Nat) (acc:List Value),
  List.foldl (λx1 x2=>x1++x2) acc.toArray (List.replicate k its.toArray)=(acc++(List.replicate k its).flatten).toArray
 |0,acc=>by simp
 | k + 1,acc=>by
   have e:acc.toArray++its.toArray=(acc++its).toArray:=by simp
   have e2:(acc++its)++(List.replicate k its).flatten=acc++(List.replicate (k+1) its).flatten:=by rw[Uy,U7,Uq]
   rw[<-e2,<-foldl_rep its k (acc++its),<-e,Uy,Xd]
section
variable{X:Cx}{Xp:List (Addr×Obj)}{σ:St}{H:Hp}{s:Shared}{l b:Addr}{xs ys zs:List V}
theorem Inv.lset{its its':List Value}{n:Nat}{f:Array Value->Array Value}{t':Nat}(I:Inv X Xp σ H s)(hH:H l=some (.lst xs))
  (e:s.heap.get? l=some { cls:=.type "list",data:=.seq its.toArray n }) (hf:f its.toArray=its'.toArray) (hv:Vals ys its') (hz:ys.length<=sizeLine) :
  Inv X Xp σ (upd H l (.lst ys)) { s with heap:=s.heap.update l (Obj.mapSeq f),toks:=t' }:=by
 have q:=PySem.IsL.update e f;rw[hf]at q;refine I.write (x:=l) (e:=l) (by rw[hH];exact trivial) (.inl rfl) (λb' u hb hu=>(UG s.heap (Obj.mapSeq f) (Ne.symm hb)).trans hu) ⟨_,q⟩ ?_
 exact⟨hz,its',_,hv,q⟩
theorem Inv.lnew(I:Inv X Xp σ H s)(hv:Vals ys its)(hz:ys.length<=sizeLine):
  Inv X Xp σ (upd H s.heap.objs.size (.lst ys)) { s with heap:=s.heap.push { cls:=.type "list",data:=.seq its.toArray },toks:=t' }:=
 I.laid (λz z q=>RG _ q) (RX _) ⟨hz,its,0,hv,RM _ rfl⟩
theorem Inv.fresh(I:Inv X Xp σ H s):H s.heap.objs.size=none:=I.hok.fresh (RX _)
theorem Inv.lstM(I:Inv X Xp σ H s)(hH:H l=some (.lst xs)):xs.length<=sizeLine/\∃(its:List Value) (n:Nat),Vals xs its/\xs.length=its.length/\s.heap.get? l=some { cls:=.type "list",data:=.seq its.toArray n }:=by obtain⟨z,its,n,r,e⟩:=I.hok l _ hH;exact⟨z,its,n,r,r.length,e⟩
theorem notLongL{n:Nat}(h:n<=sizeLine):Builtin.List.listTooLong n=false:=by unfold Builtin.List.listTooLong;exact TJ (by omega)
end
section
variable{X:Cx}
def rAppend:V->List V->Hp->VK->Prop:=λx vs H Q=>∃l xs y,x=.ref l/\vs=[y]/\H l=some (.lst xs)/\xs.length<sizeLine/\Q .non (upd H l (.lst (xs++[y])))
theorem mt_append:MtM X "list.append" rAppend:=by
 intro Xp s σ H x vs v us Q I rx rv h;obtain⟨l,xs,y,rfl,rfl,hH,hz,q⟩:=h;cases rx;obtain⟨u,rfl,ru⟩:=rv.one;obtain⟨z,its,n,r,hl,e⟩:=I.lstM hH;refine WQ F.slot_list_append ⟨_,e,rfl⟩ F.entry_list_append (F.args_list_append_2 _ _) (PySem.list_append l its.toArray n u (by rw[R9];omega)) ⟨e,?_⟩
 refine⟨.non,_,I.lset (its':=its++[u]) hH e (by simp) (r.append (.cons ru .nil)) ?_,rfl,q⟩
 rw[R6,List.length_singleton];omega
def rExtend:V->List V->Hp->VK->Prop:=λx vs H Q=>∃l b xs zs,x=.ref l/\vs=[.ref b]/\H l=some (.lst xs)/\H b=some (.lst zs)/\xs.length+zs.length<=sizeLine/\Q .non (upd H l (.lst (xs++zs)))
theorem mt_extend:MtM X "list.extend" rExtend:=by
 intro Xp s σ H x vs v us Q I rx rv h;obtain⟨l,b,xs,zs,rfl,rfl,hH,hB,hz,q⟩:=h;cases rx;obtain⟨u,rfl,ru⟩:=rv.one;cases ru;obtain⟨z,its,n,r,hl,e⟩:=I.lstM hH;obtain⟨z2,its2,n2,r2,hl2,e2⟩:=I.lstM hB;have hsz:its.toArray.size+its2.toArray.size<=sizeLine:=by rw[R9,R9];omega
 have hlong:¬ (!its.toArray.isEmpty&&Builtin.List.listTooLong (its.toArray.size+its2.toArray.size))=true:=by rw[notLongL hsz,Bool.and_false];exact R4
 refine WQ F.slot_list_extend ⟨_,e,rfl⟩ F.entry_list_extend (F.args_list_extend_2 _ _)
  (AutoSeq1.list_extend_list_list_0 l its.toArray n b its2.toArray n2 hlong (by rw[R9];omega) (by omega)) ⟨e,e2,?_⟩
 refine⟨.non,_,I.lset (its':=its++its2) hH e (by simp) (r.append r2) ?_,rfl,q⟩
 rw[R6];omega
def rPopAt:V->List V->Hp->VK->Prop:=λx vs H Q=>∃l xs i k y,x=.ref l/\vs=[.int i]/\H l=some (.lst xs)/\-(2^63)<=i/\i<2^63/\seqIndex? i xs.length=some k/\xs[k]?=some y/\Q y (upd H l (.lst (xs.eraseIdx k)))
theorem mt_popAt:MtM X "list.pop" rPopAt:=by
 intro Xp s σ H x vs v us Q I rx rv h;obtain⟨l,xs,i,k,y,rfl,rfl,hH,h1,h2,hk,hy,q⟩:=h;cases rx;obtain⟨u,rfl,ru⟩:=rv.one;obtain⟨t,rfl⟩:=ru;obtain⟨z,its,n,r,hl,e⟩:=I.lstM hH;obtain⟨w,hw,rw'⟩:=r.get hy;refine WQ F.slot_list_pop ⟨_,e,rfl⟩ F.entry_list_pop (F.args_list_pop_2 _ _)
  (MeetsSeq.list_pop_at l its.toArray n i t k w (fitsIndex_both h1 h2) (by rw[R9,<-hl];exact hk) (by rw[<-Wz];exact hw) (by rw[R9];omega)) ⟨e,?_⟩
 refine⟨y,_,I.lset (its':=its.eraseIdx k) hH e ?_ (r.eraseIdx k) ?_,rw',q⟩
 ·show its.toArray.eraseIdxIfInBounds k=(its.eraseIdx k).toArray;rw[List.eraseIdxIfInBounds_toArray]
 ·have:=len_erase xs k;omega
def rCat:R2:=λx y H Q=>∃l b xs zs,x=.ref l/\y=.ref b/\H l=some (.lst xs)/\H b=some (.lst zs)/\xs.length+zs.length<=sizeLine/\∀p,H p=none->Q (.ref p) (upd H p (.lst (xs++zs)))
theorem op_cat:OpR X (binaryOp .Add) rCat:=by
 intro Xp s σ H x y v u Q I rx ry h;obtain⟨l,b,xs,zs,rfl,rfl,hH,hB,hz,q⟩:=h;cases rx;cases ry;obtain⟨z,its,n,r,hl,e⟩:=I.lstM hH;obtain⟨z2,its2,n2,r2,hl2,e2⟩:=I.lstM hB;refine PySem.P.add_list e e2 ?_ (by rw[R9,R9];omega)
 have ea:its.toArray++its2.toArray=(its++its2).toArray:=by simp
 rw[ea];exact⟨.ref _,_,I.lnew (t':=s.toks) (r.append r2) (by rw[R6];omega),rfl,q _ I.fresh⟩
def rRep:R2:=λx y H Q=>∃l k xs,x=.ref l/\y=.int k/\H l=some (.lst xs)/\-(2^63)<=k/\k<2^63/\xs.length*k.toNat<=sizeLine /\
 ∀p,H p=none->Q (.ref p) (upd H p (.lst (List.replicate k.toNat xs).flatten))
theorem len_rep(xs:List α)(k:Nat):(List.replicate k xs).flatten.length=k*xs.length:=by
 induction k with
 |zero=>simp
 |succ k ih=>rw[Uy,U7,R6,ih,Nat.succ_mul,Nat.add_comm]
theorem op_rep:OpR X (binaryOp .Mult) rRep:=by
 intro Xp s σ H x y v u Q I rx ry h;obtain⟨l,k,xs,rfl,rfl,hH,h1,h2,hz,q⟩:=h;cases rx;obtain⟨t,rfl⟩:=ry;obtain⟨z,its,n,r,hl,e⟩:=I.lstM hH;have hlen:its.toArray.size*k.toNat<=sizeLine:=by rw[R9,<-hl];exact hz
 have hcap:¬ its.toArray.size*k.toNat > (2^63-1) / 8:=by
  have:(sizeLine:Nat)<=(2^63-1) / 8:=by decide
  omega
 have hfit:¬ (!Builtin.List.listFitsIndex k)=true:=by rw[fitsIndex_both h1 h2];exact R4
 have hlong:¬ Builtin.List.listTooLong (its.toArray.size*k.toNat)=true:=by rw[notLongL hlen];exact R4
 have hnew:List.foldl (λx1 x2=>x1++x2) #[] (List.replicate (if its.toArray.isEmpty=true then 0 else k.toNat) its.toArray)=(List.replicate k.toNat its).flatten.toArray:=by
  have f0:∀m:Nat,List.foldl (λx1 x2=>x1++x2) #[] (List.replicate m its.toArray)=(List.replicate m its).flatten.toArray:=λm=>by have:=foldl_rep its m [];rw[Xf]at this;exact this
  rw[f0];cases its with
  |nil=>simp
  |cons a r'=>rw[R3 (by simp)]
 refine wpAny_binaryOp_repeat_ref (T := "list") (U := "int") (by decide) ⟨_,e,rfl⟩ (λs'=>typeIs_int s' k t) noFill_list_mul F.fills_int_mul F.slot_int_rmul repeat_list F.slot_int_index.lookup
  (WQ F.slot_int_rmul (typeIs_int s k t) F.entry_int_rmul (F.args_int_rmul_2 _ _) (int___rmul___int_list k t l its.toArray n)
    ⟨e,rfl,⟨_,e,rfl⟩,WQ F.slot_list_mul ⟨_,e,rfl⟩ F.entry_list_mul (F.args_list_mul_2 _ _) (AutoListH.list___mul___list_int_3 l its.toArray n k t hfit hcap hlong) ⟨e,?_⟩⟩)
 rw[hnew];exact⟨.ref _,_,I.lnew (t':=s.toks) (r.rep k.toNat) (by rw[len_rep,WW];exact hz),rfl,q _ I.fresh⟩
end
end L2
namespace Att
open PySem PySem.W PySem.Calls PyProof.Rows
theorem ints_of_wellAll:∀ (ns:List Int) (vs:List Value),WellAll P h vs (ns.map WData.int)->IntsAre vs ns:=by
 intro ns;induction ns with
 |nil=>intro vs w;rw[V8]at w;cases w;exact .nil
 | cons n ns ih=>
   intro vs w;rw[SX]at w;cases w with
   |cons a b=>cases a;exact .cons _ _ (ih _ b)
theorem script_of{l:OpenLaw}{n:Nat}(hn:l.most=some n){P:Params}{h:Heap}{args:List WData}{vals:List Value}
  (hpre:l.row.toRowW.claim.pre args=true) (hwl:WellAll P h vals args) :
  ∃a vs ns,vals=[Value.ref a]/\args=[WData.list (ns.map WData.int)]/\h.get? a=some { cls:=.type "list",data:=.seq vs.toArray }/\IntsAre vs ns/\ns.length<=n:=by
 have hsh:WShape.hasAll [] args [.list .int]=true:=(pre_splitW hpre).1;have hc:l.pre.holds [] { args:=args }=true:=(pre_splitW hpre).2;obtain⟨d,r,rfl,h1,h2⟩:=hasAllW_cons hsh;obtain rfl:=hasAllW_nil h2;obtain⟨xs,rfl,h3⟩:=hasW_list h1;obtain⟨ns,rfl⟩:=items_int h3;have hlen:ns.length<=n:=by
  unfold OpenLaw.pre at hc;have h4:(WTm.not (.lt (.lit (.int (n:Int))) (.len (.arg 0)))).holds [] { args:=[.list (ns.map .int)] }=true:=by have h4:=(holds_andW hc).1;rw[hn]at h4;exact h4
  have h5:=condW_of h4 (w_not (w_lt w_lit (w_len_list (w_arg rfl))));rw[RT]at h5;refine Nat.le_of_not_lt λq=>?_
  have q':(n:Int)<((ns.length:Nat):Int):=by omega
  first
   |(rw[S5 q']at h5;exact absurd h5 (by decide))
   |(simp at h5;omega)
 cases hwl with
 |cons w1 w2=>
   cases w2;cases w1 with
   |list ho hall=>exact⟨_,_,ns,rfl,rfl,ho,ints_of_wellAll ns _ hall,hlen⟩
theorem post_true(l:OpenLaw)(args:List WData):l.row.toRowW.claim.post args (.bool true) args=true:=
 postW_of (r:=l.row.toRowW) (X:=(true==true))
  (show WShape.has [] (.bool true) .bool=true by first | rfl | decide | simp[WShape.has,WShape.arms,WShape.armsAll])
  (show (WTm.eq .res (.lit (.bool true))).value [] { args:=args,res:=some (.bool true),after:=args }=some (.bool (true==true)) from w_eq_bool (w_res rfl) w_lit) rfl
theorem attach_call{l:OpenLaw}{n:Nat}{q:Program}{loose:List Str}{XP:(Str->Option Value)->Heap->Prop}{YP:World->Heap->Prop}{d:DefRec}
  (hn:l.most=some n) (hdf:d.params.defaults=[])
  (call:∀(w:World) (s₀ s₁:Shared) (mg mb:Str->Option Value) (fa:Addr) (o:Obj) (pm cd doc:Value) (a:Addr) (vs:List Value) (ns:List Int),
    Ground q loose [] XP w s₀ mg mb s₁.heap->YP w s₁.heap->
    s₁.heap.get? fa=some o->o.data=.func (docDef d.name d.params d.body d.scope pm cd doc)->s₁.heap.CodeRec cd d.name->mg d.name=some (.ref fa)->
    s₁.heap.get? a=some { cls:=.type "list",data:=.seq vs.toArray }->IntsAre vs ns->ns.length<=n->s₁.gens=#[]->
    codeAny (model l.prog w) callerA (.call (.ref fa) ⟨[.ref a],[]⟩) (λr s'=>r=.ok (.ret (.bool true))/\OldK s₁.heap s'.heap/\s'.os=s₁.os/\AllBare s'.gens) s₁) :
  WalkO q loose XP YP l.row.toRowW d [] (λf vs=>PySem.call f vs):=by
 intro w s₀ s₁ mg mb G Y fa o pm cd doc dV kV ho hd hcd hD hmg hg args vals as hpre hlay hrd hwl hlo;obtain rfl:dV=.none:=Dflts.none hD hdf;obtain rfl:kV=.none:=Dflts.noKw hD;obtain⟨a,vs,ns,rfl,rfl,hobj,hints,hlen⟩:=script_of hn hpre hwl;refine enter_call (V9 (call w s₀ s₁ mg mb fa o pm cd doc a vs ns G Y ho (fd_plain hd) hcd hmg hobj hints hlen hg) λr s' hq=>?_)
 obtain⟨rfl,h2,h3,h4⟩:=hq;exact⟨.inl ⟨.bool true,.bool true,[],rfl,λz=>rfl,.bool true,post_true l _,λz=>⟨List.Pairwise.nil,λz hm=>(nomatch hm)⟩⟩,h2,h3,h4⟩
end Att
namespace L2
open PySem PySem.Spec PyProof.Rows
theorem vals_ints:∀{vs:List Value}{ns:List Int},IntsAre vs ns->Vals (ns.map V.int) vs
 |_,_,.nil=>.nil
 |_,_,.cons n t h=>.cons ⟨t,rfl⟩ (vals_ints h)
def Only(H:Hp):Prop:=∀b,H b=none\/∃o xs,H b=some (.frz o (.lst xs))
theorem law_call{P:Program}{w:World}{K:PySem.W.Frag}{mg mb:Str->Option Value}{CX:CXT}{k:Nat}{fa a:Addr}{fd:FuncData}{x:Str}{sp:Sp}{s₁:Shared}{vs:List Value}{ns:List Int}
  (KX:K.In s₁.heap) (hns:s₁.heap.Ns mainGlobals mg) (hb:s₁.heap.Ns builtinsNs mb) (hbb:∀x:Str,x≠"__name__"->mb x=bootBuiltins x) (hlim:s₁.heap.NoLimit) (hg:s₁.gens=#[])
  (ha:s₁.heap.get? a=some { cls:=.type "list",data:=.seq vs.toArray }) (hi:IntsAre vs ns) (hl:ns.length<=sizeLine) (hr:Room k callerA)
  (F:∀base:Heap,K.In base->base.Ns mainGlobals mg->FnOk P w K mg base CX k fa fd [x] sp) (hbind:∀(s:Shared) (u:Value),BindsTo s fd ⟨[u],[]⟩ [(x,u)])
  (hsp:∀H:Hp,Only H->SqL K H a (ns.map V.int)->sp [.ref a] H (λv y=>v=.bl true) λy y y=>False)
  (hCX:∀H e s',CX [] H s₁ (λy y y=>False) e s'->False) :
  codeAny (model P w) callerA (.call (.ref fa) ⟨[.ref a],[]⟩) (λr s'=>r=.ok (.ret (.bool true))/\OldK s₁.heap s'.heap/\s'.os=s₁.os/\AllBare s'.gens) s₁:=by
 have rv:=vals_ints hi;have lenV:=hi.length
 -- from an abstract heap in which nothing but the script may be tracked
 have core:∀ H:Hp,Only H->SqL K H a (ns.map V.int)->HOk P w H s₁.heap->(∀ b,H b≠none->b=a)->(H a≠none->K.lookup a=none)->
   codeAny (model P w) callerA (.call (.ref fa) ⟨[.ref a],[]⟩) (λr s'=>r=.ok (.ret (.bool true))/\OldK s₁.heap s'.heap/\s'.os=s₁.os/\AllBare s'.gens) s₁:=by
  intro H hO hS hok hA hK;have base_of:∀{b:Addr}{o:Obj},s₁.heap.get? b=some o->H b=none->(hidT s₁.heap H).get? b=some o:=λe n=>hidT_get e n
  have noA:∀ {b:Addr}{o:Obj}{es:Array DictEntry}{ep:Nat},s₁.heap.get? b=some o->o.data=.dict es ep->H b=none:=λ{b o es ep} e d=>by
   cases q:H b with
   |none=>rfl
   |some u=>
     have e':b=a:=hA b (by rw[q];simp)
     subst e';rw[ha]at e;cases e;have d':Data.seq vs.toArray _=Data.dict es ep:=d;cases d'
  have nsK:∀{b:Addr}{m:Str->Option Value},s₁.heap.Ns b m->(hidT s₁.heap H).Ns b m:=λ{b m} ⟨o,es,ep,e,d,r⟩=>⟨o,es,ep,base_of e (noA e d),d,r⟩
  have hKb:K.In (hidT s₁.heap H):=λb o e=>base_of (KX b o e) (by
   cases q:H b with
   |none=>rfl
   |some u=>
     have e':b=a:=hA b (by rw[q];simp)
     subst e';rw[hK (by rw[q];simp)]at e;cases e)
  have hM:Mod K mg (hidT s₁.heap H):=⟨hKb,nsK hns,⟨mb,nsK hb,hbb⟩,let ⟨mc,h1,h2⟩:=hlim;⟨mc,nsK h1,h2⟩⟩
  have e0:Env0 P w K mg (hidT s₁.heap H) callerA [] s₁ H:=⟨rfl,hM,λb o e=>of_hidT e,Nat.le_of_eq (hidT_size _ _),trivial,λb hb=>absurd (show b∈([]:List Addr) from hb) (by simp),hok,.of_eq hg⟩
  refine V9 ((F _ hKb (nsK hns)).run callerA [] s₁ H ⟨[.ref a],[]⟩ [.ref a] [.ref a] _ _ hr e0 (hbind s₁ (.ref a)) (.cons rfl .nil) (hsp H hO hS)) λr s' h=>?_
  cases r with
  |error e=>exact (hCX H e s' h).elim
  | ok fl=>
    cases fl with
    |next=>exact False.elim h
    |brk=>exact False.elim h
    |cont=>exact False.elim h
    | ret u=>
      obtain⟨v,H',os,bare,un,hok',r',q⟩:=h;have q':v=.bl true:=q;subst q';obtain rfl:u=Value.bool true:=r';refine⟨rfl,OldK.of_keep λb o e=>?_,os,bare⟩
      cases q:H b with
      |none=>exact un.keep b o e q (by intro z;exact absurd (show b∈([]:List Addr) from z) (by simp)) (by simp)
      | some u=>
        rcases hO b with z | ⟨ob,xs,z⟩
        ·rw[q]at z;cases z
        ·have z2:=un.frzs b ob _ z;obtain⟨e1,_⟩:=hok b _ z;obtain⟨e2,_⟩:=hok' b _ z2;rw[e]at e1;cases e1;exact e2
 cases hk:K.lookup a with
 |some o=>
   -- the script is one of the module's own objects
   have e:=KX a o hk;rw[ha]at e;cases e;refine core (λy=>none) (λy=>.inl rfl) (.inr ⟨_,vs.toArray,_,hk,rfl,rfl,rfl,by rw[R9,lenV];exact hl,by simpa using rv⟩) (λb u z=>by have z':(none:Option HO)=some u:=z;cases z') (λb z=>absurd rfl z) λz=>absurd rfl z
 | none=>
   refine core (λb=>if b=a then some (.frz { cls:=.type "list",data:=.seq vs.toArray } (.lst (ns.map V.int))) else none) (λb=>?_) (.inl (.inr ⟨{ cls:=.type "list",data:=.seq vs.toArray },R1 rfl⟩)) (λb u z=>?_) (λb z=>?_) λy=>hk
   ·by_cases hb:b=a
    ·exact .inr ⟨_,_,R1 hb⟩
    ·exact .inl (R3 hb)
   ·by_cases hb:b=a
    ·have z':=(R1 hb).symm.trans z;cases z';subst hb;exact⟨ha,by rw[RT];exact hl,vs,_,rv,ha⟩
    ·have z':=(R3 hb).symm.trans z;cases z'
   ·by_cases hb:b=a
    ·exact hb
    ·exact absurd (R3 hb) z
open PySem PySem.Spec PyProof.Rows
theorem walk_of{l:PySem.W.OpenLaw}{n k:Nat}{q:Program}{loose:List Str}{XP:(Str->Option Value)->Heap->Prop}{YP:World->Heap->Prop}{d:DefRec}{K:Params->PySem.W.Frag}{CX:World->CXT}{sp:World->Sp}{x:Str}
  (hn:l.most=some n) (hn2:n<=sizeLine) (hdf:d.params.defaults=[]) (hr:Room k callerA)
  (hY:∀(w:World) (h:Heap),YP w h->(K w.params).In h)
  (F:∀ (w:World) (mg:Str->Option Value) (fa:Addr) (h:Heap),(K w.params).In h->h.Ns mainGlobals mg->mg d.name=some (.ref fa)->
    ∃fd:FuncData,(∀(s:Shared) (u:Value),BindsTo s fd ⟨[u],[]⟩ [(x,u)]) /\
      ∀base:Heap,(K w.params).In base->base.Ns mainGlobals mg->FnOk l.prog w (K w.params) mg base (CX w) k fa fd [x] (sp w))
  (hsp:∀(w:World) (H:Hp) (a:Addr) (ns:List Int),ns.length<=n->Only H->SqL (K w.params) H a (ns.map V.int)->sp w [.ref a] H (λv z=>v=.bl true) λz z z=>False)
  (hCX:∀(w:World) (H:Hp) (s:Shared) (e:Value) (s':Shared),CX w [] H s (λz z z=>False) e s'->False) :
  PySem.W.WalkO q loose XP YP l.row.toRowW d [] (λf vs=>PySem.call f vs):=by
 refine Att.attach_call hn hdf λw s₀ s₁ mg mb fa o pm cd doc a vs ns G Y ho hd hcd hmg hobj hints hlen hg=>?_
 have KX:=hY w _ Y;obtain⟨fd,hb,hF⟩:=F w mg fa _ KX G.T.g hmg;exact law_call KX G.T.g G.T.b G.T.builtins G.T.nolimit hg hobj hints (R7 hlen hn2) hr hF hb (λH hO hS=>hsp w H a ns hlen hO hS) λH e s'=>hCX w H s₁ e s'
open PySem PySem.Spec PyProof.Rows
def inClass(s:Stmt)(j:Nat):Stmt:=match s with
 |.ClassDef _ _ _ body _ _ _ _ _ _ _=>body.getD j (.Pass ⟨0,0,0,0⟩)
 |_=>.Pass ⟨0,0,0,0⟩
def defArgs(s:Stmt):Arguments:=match s with
 |.FunctionDef _ a _ _ _ _ _ _ _ _=>a
 |_=>{ posonlyargs:=[],args:=[],vararg:=none,kwonlyargs:=[],kw_defaults:=[],kwarg:=none,defaults:=[] }
def defBody(s:Stmt):List Stmt:=match s with
 |.FunctionDef _ _ b _ _ _ _ _ _ _=>b
 |_=>[]
def defScope(s:Stmt):Scope:=match s with
 |.FunctionDef _ _ _ _ _ _ sc _ _ _=>sc
 |_=>{ kind:=.function,names:=[],isGenerator:=false,isCoroutine:=false }
abbrev E0:XK:=λ_ _ _=>False
structure Fun(K:PySem.W.Frag)(x qual:Str)(st:Stmt)(f:Addr)(fd:FuncData):Prop where
 ex:∃(oc:Value) (od:Option Addr) (kV doc pm:Value) (an:Option Addr) (cdv ct:Value) (osl:Array (Option Value)),
  fd=PySem.W.fnOf x qual (defArgs st) (defBody st) (defScope st) .none kV doc pm an cdv ct/\K.lookup f=some ⟨oc,od,.func fd,osl⟩/\PySem.W.codeIn K cdv qual=true
 kp:PySem.W.keepIn K (.ref f)=true
section
variable{P:Program}{w:World}{K:PySem.W.Frag}{mg:Str->Option Value}{base:Heap}
theorem Fun.binds{x qual:Str}{st:Stmt}{f:Addr}{fd:FuncData}{ps:List Str}(F:Fun K x qual st f fd)
  (h:∀(kV doc pm:Value) (an:Option Addr) (cdv ct:Value) (us:List Value),us.length=ps.length->bindArgs (PySem.W.fnOf x qual (defArgs st) (defBody st) (defScope st) .none kV doc pm an cdv ct) ⟨us,[]⟩=pure (ps.zip us)):Binds K fd ps []:=by
 obtain⟨oc,od,kV,doc,pm,an,cdv,ct,osl,rfl,lk,hcd⟩:=F.ex;exact .all (h kV doc pm an cdv ct)
theorem fun_mk{x qual:Str}{st:Stmt}{f:Addr}{oc:Value}{od an:Option Addr}{osl:Array (Option Value)}{kV doc pm cdv ct:Value}(l:K.lookup f=some ⟨oc,od,.func (PySem.W.fnOf x qual (defArgs st) (defBody st) (defScope st) .none kV doc pm an cdv ct),osl⟩)
  (c:PySem.W.codeIn K cdv qual=true) (k:PySem.W.keepIn K (.ref f)=true):Fun K x qual st f (PySem.W.fnOf x qual (defArgs st) (defBody st) (defScope st) .none kV doc pm an cdv ct):=⟨⟨oc,od,kV,doc,pm,an,cdv,ct,osl,rfl,l,c⟩,k⟩
end
theorem iteF{A B:Prop}(h:B):if false=true then A else B:=by rw[R3 R4];exact h
theorem iteT{A B:Prop}(h:A):if true=true then A else B:=by rw[R1 rfl];exact h
def Same(H H':Hp):Prop:=∀b o,H b=some o->H' b=some o
theorem Same.refl(H:Hp):Same H H:=λz z h=>h
mutual
inductive Rep(K:PySem.W.Frag)(H:Hp):V->PyData->Prop
 |non:Rep K H .non .none
 |bl (b:Bool):Rep K H (.bl b) (.bool b)
 |int (i:Int):Rep K H (.int i) (.int i)
 |str (x:Str):Rep K H (.str x) (.str x)
 |lst {a:Addr}{xs:List V}{ds:List PyData}:SqL K H a xs->Reps K H xs ds->Rep K H (.ref a) (.list ds)
 |tup {a:Addr}{xs:List V}{ds:List PyData}:SqT K H a xs->Reps K H xs ds->Rep K H (.ref a) (.tuple ds)
inductive Reps(K:PySem.W.Frag)(H:Hp):List V->List PyData->Prop
 |nil:Reps K H [] []
 |cons {v:V}{d:PyData}{vs:List V}{ds:List PyData}:Rep K H v d->Reps K H vs ds->Reps K H (v::vs) (d::ds)
end
section
variable{X:Cx}{Xp:List (Addr×Obj)}{σ:St}{H:Hp}{s:Shared}
theorem Rep.reads(I:Inv X Xp σ H s){v:V}{d:PyData}{u:Value}(h:Rep X.K H v d):RelV v u->∃ as,Reads s.heap u d as:=
 Rep.rec (motive_1:=λv d z=>∀ u,RelV v u->∃ as,Reads s.heap u d as) (motive_2:=λvs ds z=>∀ us,Vals vs us->∃ as,ReadsAll s.heap us ds as)
  (λu r=>by cases r;exact⟨_,.none⟩)
  (λb u r=>by cases r;exact⟨_,.bool b⟩)
  (λi u r=>by obtain⟨t,rfl⟩:=r;exact⟨_,.int i t⟩)
  (λi u r=>by obtain⟨t,rfl⟩:=r;exact⟨_,.str i t⟩)
  (λh hs ih u r=>by cases r;obtain⟨its,rv,⟨o,n,h1,h2,_,h3⟩,_⟩:=I.list h;obtain⟨as,ra⟩:=ih _ rv;exact⟨_,.list h1 h2 h3 ra⟩)
  (λh hs ih u r=>by cases r;obtain⟨its,rv,⟨o,h1,h2,n,h3⟩,_⟩:=I.tuple h;obtain⟨as,ra⟩:=ih _ rv;exact⟨_,.tuple h1 h2 h3 ra⟩)
  (λu r=>by cases r;exact⟨_,.nil⟩)
  (λh hs i1 i2 u r=>by
    cases r with
    |cons r1 r2=>obtain⟨a1,e1⟩:=i1 _ r1;obtain⟨a2,e2⟩:=i2 _ r2;exact⟨_,.cons e1 e2⟩)
  h u
end
theorem same_new{H:Hp}{p:Addr}(h:H p=none)(o:HO):Same H (upd H p o):=λb u q=>by rw[upd_ne (ne_of_none q h)];exact q
section
variable{X:Cx}
def Hk(K:PySem.W.Frag)(neg:Bool):R2:=λx y H Q=>∃da db,Rep K H x da/\Rep K H y db/\da.canLay0=true/\db.canLay0=true/\da.depth<=60/\Q (.bl (if neg then !PyData.eqv da db else PyData.eqv da db)) H
theorem LQ(hu:X.A.units+64<cLine):OpR X (compareOp .Eq) (Hk X.K false):=by intro Xp s σ H x y v u Q I rx ry h;obtain⟨da,db,ha,hb,la,lb,hd,q⟩:=h;obtain⟨as,ra⟩:=ha.reads I rx;obtain⟨bs,rb⟩:=hb.reads I ry;exact PySem.SeqAt.compareEq_reads ra rb la lb (by lia) ⟨.bl _,H,I,rfl,q⟩
theorem LR(hu:X.A.units+64<cLine):OpR X (compareOp .NotEq) (Hk X.K true):=by intro Xp s σ H x y v u Q I rx ry h;obtain⟨da,db,ha,hb,la,lb,hd,q⟩:=h;obtain⟨as,ra⟩:=ha.reads I rx;obtain⟨bs,rb⟩:=hb.reads I ry;exact PySem.SeqAt.compareNe_reads ra rb la lb (by lia) ⟨.bl _,H,I,rfl,q⟩
def Nx(i j:Int):Prop:=IntMulOk i j
theorem Ji:OpR X (binaryOp .Mult) (rI Nx λi j=>.int (i*j)):=opI λz z z z z z z hc q=>mul_int q hc
theorem Gk:CallR X (.builtin "isinstance") (λxs H Q=>∃x t c b,xs=[x,.ty c]/\TyOf X.K H x t/\PySem.W.kitOne X.K t (.type c)=some b/\Q (.bl b) H):=by intro Xp s σ H xs us Q I r h;obtain⟨x,t,c,b,rfl,ty,e,q⟩:=h;obtain⟨u,w',rfl,r1,r2⟩:=vals2 r;cases r2;exact isinst_ok I r1 ty e λtk=>⟨.bl b,H,I.tok _,rfl,q⟩
end
open PySem PySem.Spec PyProof.Rows
structure DefAt(K:PySem.W.Frag)(mg:Str->Option Value)(x:Str)(st:Stmt):Prop where
 ex:∃f fd,Fun K x x st f fd/\mg x=some (.ref f)
theorem Gu{K:PySem.W.Frag}{h:Heap}{mg:Str->Option Value}{x:Str}{st:Stmt}{f:Addr}{oc:Value}{od an:Option Addr}{osl:Array (Option Value)}{kV doc pm cdv ct:Value}(X:K.In h)(G:h.Ns mainGlobals mg)
  (a:PySem.W.nsIn K mainGlobals x=some (some (.ref f))) (l:K.lookup f=some ⟨oc,od,.func (PySem.W.fnOf x x (defArgs st) (defBody st) (defScope st) .none kV doc pm an cdv ct),osl⟩) (c:PySem.W.codeIn K cdv x=true) (k:PySem.W.keepIn K (.ref f)=true):DefAt K mg x st:=
 ⟨f,_,fun_mk l c k,PySem.W.mg_of X G a⟩
section
variable{X:Cx}{j k:Nat}{ps:List Str}{sp:Sp}{x:Str}{p pos:Pos}{e:Expr}{es:List Expr}{t:TA}
theorem Qw{id:String}{r:List V->Hp->VK->Prop}(hc:CallR X (.builtin id) r)(hm:X.mg x=none)(ha:PA X (e::es) t)(hg:Gl X x:=by rfl)(hv:bootBuiltins x=some (.builtin id):=by decide +kernel)(hn:x≠"__name__":=by decide)(hdb:(x==("__debug__":Str))=false:=by decide)
  (he:starEach (e::es) X.env=(false,eval e X.env)::starEach es X.env:=by rfl) (hpl:(backTo pos (starEach es X.env)).any (·.1)=false:=by rfl) :
  PE X (.Call (.Name x p) (e::es) [] pos) (tCB r t):=pe_callB hc hg hm hv ha hn hdb he hpl
theorem Od{T:String}(hm:X.mg x=none)(hg:Gl X x:=by rfl)(hv:bootBuiltins x=some (.type T):=by decide +kernel)(hn:x≠"__name__":=by decide)(hdb:(x==("__debug__":Str))=false:=by decide):PE X (.Name x pos) (tC (.ty T)):=
 pe_bltn hg hm hv rfl hn hdb
end
end L2
namespace L2
open PySem PySem.Spec PyProof.Rows
open PySem PySem.Spec PyProof.Rows
end L2
namespace L2
open PySem PySem.Spec PyProof.Rows
def fu(P:Program)(w:World):CXT:=λouter H s E e s'=>
 ∃(x:Addr) (C a0:Value) (H':Hp) (B:Heap),e=.ref x∧s'.os=s.os∧AllBare s'.gens∧Un (frs outer) [] H H' s.heap s'.heap∧HOk P w H' s'.heap∧Heap.FlyingW B outer x C a0 s'.heap ∧
   (∀b,H' b≠none->∃o,B.get? b=some o)/\(∀b o,s.heap.get? b=some o->b∉frs outer->∃o',B.get? b=some o')/\E C none H'
theorem GD{env:Env}{l:List Env}{L:Addr}(h:env.frame=some L):frs (env::l)=L::frs l:=by unfold frs;rw[V2,h]
theorem JN{fs:List Addr}{H H':Hp}{h0 h h' B:Heap}(u:Un fs [] H H' h0 h)(hB:B.StaysIn h)(hB':B.StaysIn h')(up:h.UpToSlots h')
  (fr:∀b∈fs,∃o,h.get? b=some o/\∀vs,o.data≠.fields vs) (cov:∀b o,h0.get? b=some o->b∉fs->∃o',B.get? b=some o'):Un fs [] H H' h0 h' where
 keep b o e n hb hx:=by have h1:=u.keep b o e n hb hx;obtain⟨o',e'⟩:=cov b o e hb;have h2:=hB b o' e';rw[h1]at h2;cases h2;exact hB' b o e'
 slot b o e n hb hx:=by obtain⟨sl,h1⟩:=u.slot b o e n hb hx;obtain⟨o1,h2,nf⟩:=fr b hb;rw[h1]at h2;cases h2;obtain⟨sl2,h3⟩:=up b _ h1 nf;exact⟨sl2,h3⟩
 free:=u.free
 there b o e hx:=by
  by_cases hb:b∈fs
  ·obtain⟨o1,h2,nf⟩:=fr b hb;obtain⟨sl2,h3⟩:=up b _ h2 nf;exact⟨_,h3⟩
  ·obtain⟨o',e'⟩:=cov b o e hb;exact⟨o',hB' b o' e'⟩
 tups:=u.tups
 frzs:=u.frzs
 tbls:=u.tbls
theorem GQ{P:Program}{w:World}{H':Hp}{h h' B:Heap}(ok:HOk P w H' h)(hB:B.StaysIn h)(hB':B.StaysIn h')(cov:∀ b,H' b≠none->∃ o,B.get? b=some o):HOk P w H' h':=λa o e=>
 (ok a o e).stay (λb u hb hu=>by
   have hn:H' b≠none:=by
    rcases hb with rfl | hb
    ·rw[e];simp
    ·rw[hb];simp
   obtain⟨o',e'⟩:=cov b hn;have:=hB b o' e';rw[hu]at this;cases this;exact hB' b u e') (λz h=>h) (λz z h=>h)
section
variable{P:Program}{w:World}{K:PySem.W.Frag}{mg:Str->Option Value}{base:Heap}{N:List Str}{qual:Str}{scope:Scope}{f:Addr}{cd:Value}{A:Around}{outer:List Env}{s:Shared}{H:Hp}{E:XK}
abbrev iV(P:Program)(w:World)(K:PySem.W.Frag)(mg:Str->Option Value)(base:Heap)(N:List Str)(qual:Str)(scope:Scope)(f:Addr)(cd:Value)(A:Around)(outer:List Env)(s:Shared)(H:Hp)(E:XK):Cx:=
 cxOf (fu P w) P w K mg base N qual scope f cd A outer s H E
theorem aP:Passes (fu P w) (iV P w K mg base N qual scope f cd A outer s H E) E:=by
 intro Xp σ H1 s1 e s' I hf;obtain⟨x,C,a0,H',B,rfl,os,bare,un,hok,fl,ci,cii,q⟩:=hf;have J:Inv (iV P w K mg base N qual scope f cd A outer s H E) Xp σ H' s':=I.call' (ch:=[]) os un hok bare (λb z=>absurd z (by simp))
 have hfr:(iV P w K mg base N qual scope f cd A outer s H E).A.frames=some ((iV P w K mg base N qual scope f cd A outer s H E).env::outer):=I.ok.frames;have hfs:∀b∈frs outer,∃o,s'.heap.get? b=some o/\∀vs,o.data≠.fields vs:=λb hb=>(fl.2.2.1.2.2.mem hb).2
 have hfrm:(iV P w K mg base N qual scope f cd A outer s H E).env.frame=some (iV P w K mg base N qual scope f cd A outer s H E).env.locals:=rfl;have cov:∀b o,s.heap.get? b=some o->b∉frs outer->∃o',B.get? b=some o':=λb o e hb=>by
  obtain⟨o1,h1⟩:=I.base.there b o e (show b∉([]:List Addr) by simp)
  refine cii b o1 h1 ?_;show b∉frs ((iV P w K mg base N qual scope f cd A outer s H E).env::outer);rw[GD hfrm];intro hm;rcases R8.mp hm with rfl | hm
  ·exact absurd (RN e) (Up.mpr I.ok.above)
  ·exact hb hm
 show wpAny _ _ (leaving _ (.ref x)) _ _ s';refine wpAny_leaves_onW hfr rfl fl λh' fl' up=>?_
 exact⟨x,C,a0,H',B,rfl,J.os,bare,JN J.base fl.1 fl'.1 up hfs cov,GQ hok fl.1 fl'.1 ci,fl',ci,cov,q⟩
end
theorem Mh(h:X.mg x=some (.ref C))(hg:Gl X x:=by rfl)(hd:(x==("__debug__":Str))=false:=by decide):PE X (.Name x pos) (tC (.ref C)):=pe_glob hg h rfl hd
def pick(js:List Nat)(σ:St):St:=js.map λj=>(σ[j]?).getD none
theorem yx(u:Un fs ex H H' h0 h)(hs:Heap.SameBut C h h')(hC:h0.objs.size<=C):Un fs ex H H' h0 h' where
 keep b o e n hb hx:=(hs.2 b (R5 (RQ (RN e) hC))).trans (u.keep b o e n hb hx)
 slot b o e n hb hx:=by obtain⟨sl,e1⟩:=u.slot b o e n hb hx;exact⟨sl,(hs.2 b (R5 (RQ (RN e) hC))).trans e1⟩
 free:=u.free
 there b o e hx:=by obtain⟨o',e1⟩:=u.there b o e hx;exact⟨o',(hs.2 b (R5 (RQ (RN e) hC))).trans e1⟩
 tups:=u.tups
 frzs:=u.frzs
 tbls:=u.tbls
theorem uq(ok:HOk P w H h)(hs:Heap.SameBut C h h')(hC:H C=none):HOk P w H h':=λb ob e=>
 (ok b ob e).stay (λc w' hc q=>(hs.2 c (by
   rintro rfl;rcases hc with hc | hc
   ·rw[<-hc,hC]at e;cases e
   ·rw[hC]at hc;cases hc)).trans q) (λz q=>q) λz z q=>q
structure DefC(P:Program)(w:World)(K:PySem.W.Frag)(mg:Str->Option Value)(base:Heap)(k:Nat)(x:Str)(ps:List Str)(sp:Sp):Prop where
 ex:∃f fd,FnOk P w K mg base (fu P w) k f fd ps sp/\Binds K fd ps []/\PySem.W.keepIn K (.ref f)=true/\mg x=some (.ref f)
theorem DefC.imp{P:Program}{w:World}{K:PySem.W.Frag}{mg:Str->Option Value}{base:Heap}{k:Nat}{x:Str}{ps:List Str}{sp sp':Sp}(D:DefC P w K mg base k x ps sp)(h:∀vs H Q E,sp' vs H Q E->sp vs H Q E):DefC P w K mg base k x ps sp':=by obtain⟨f,fd,F,b,kp,m⟩:=D.ex;exact⟨f,fd,F.imp h,b,kp,m⟩
section
variable{P:Program}{w:World}{K:PySem.W.Frag}{mg:Str->Option Value}{base:Heap}{k:Nat}{x:Str}{N ps:List Str}{sp:Sp}{st:Stmt}
theorem PB(F:Fun K x x st f fd)(S:FnScope N ps (defScope st))(len:∀ vs H Q E,sp vs H Q E->vs.length=ps.length)
  (hbody:∀(cdv:Value) (A:Around) (outer:List Env) (s:Shared) (H:Hp) (vs:List V) (Q:VK) (E:XK),Room k (A.deeper (envOfC x (defScope st) s.heap.objs.size f cdv))->sp vs H Q E->
    ∃t,PSs (iV P w K mg base N x (defScope st) f cdv A outer s H E) (defBody st) t/\t { nx:=λz H'=>Q .non H',rt:=Q } (start N vs) H):FnOk P w K mg base (fu P w) (k+1) f fd ps sp:=by
 obtain⟨oc,od,kV,doc,pm,an,cdv,ct,osl,rfl,l,c⟩:=F.ex;exact fn_of l c S len (hbody cdv)
theorem DefAt.okE(D:DefAt K mg x st)(S:FnScope N ps (defScope st))(hb:∀ (kV doc pm:Value) (an:Option Addr) (cdv ct:Value) (us:List Value),us.length=ps.length->bindArgs (PySem.W.fnOf x x (defArgs st) (defBody st) (defScope st) .none kV doc pm an cdv ct) ⟨us,[]⟩=pure (ps.zip us))
  (len:∀vs H Q E,sp vs H Q E->vs.length=ps.length)
  (hbody:∀(f:Addr) (cdv:Value) (A:Around) (outer:List Env) (s:Shared) (H:Hp) (vs:List V) (Q:VK) (E:XK),Room k (A.deeper (envOfC x (defScope st) s.heap.objs.size f cdv))->sp vs H Q E->
    ∃t,PSs (iV P w K mg base N x (defScope st) f cdv A outer s H E) (defBody st) t/\t { nx:=λz H'=>Q .non H',rt:=Q } (start N vs) H):DefC P w K mg base (k+1) x ps sp:=by
 obtain⟨f,fd,F,m⟩:=D.ex;exact⟨f,fd,PB F S len (hbody f),F.binds hb,F.kp,m⟩
end
theorem sW:Passes (fu P w) X E0:=λz z z z z z z h=>by obtain⟨_,_,_,_,_,_,_,_,_,_,_,_,_,q⟩:=h;exact q.elim
section
variable{X:Cx}{j k:Nat}{ps:List Str}{sp:Sp}{x:Str}{p pos:Pos}{e:Expr}{es:List Expr}{t:TA}{E:XK}
theorem Hc(D:DefC X.prog X.w X.K X.mg X.base j x ps sp)(hr:Room k X.A)(hx:Passes (fu X.prog X.w) X E)(ha:PA X (e::es) t)(hjk:j<=k:=by decide)(hg:Gl X x:=by rfl)(hdb:(x==("__debug__":Str))=false:=by decide)
  (he:starEach (e::es) X.env=(false,eval e X.env)::starEach es X.env:=by rfl) (hpl:(backTo pos (starEach es X.env)).any (·.1)=false:=by rfl) :
  PE X (.Call (.Name x p) (e::es) [] pos) (tCall sp [] E t):=by
 obtain⟨f,fd,F,b,kp,m⟩:=D.ex;exact pe_call F (hr.mono hjk) hg m kp b .nil hx ha hdb he hpl
end
section
variable{κ:Type}[DecidableEq κ]
def valV(kvs:List (κ×V))(k:κ):Option V:=(kvs.find? λkv=>decide (kv.1=k)).map (·.2)
def putK(kvs:List (κ×V))(k:κ)(v:V):List (κ×V):=
 if (kvs.any λkv=>decide (kv.1=k))=true then kvs.map (λkv=>if kv.1=k then (kv.1,v) else kv) else kvs++[(k,v)]
theorem valV_pos{r:List (κ×V)}(e:p.1=k):valV (p::r) k=some p.2:=by simp[valV,List.find?_cons,e]
theorem valV_neg{r:List (κ×V)}(e:¬ p.1=k):valV (p::r) k=valV r k:=by simp[valV,List.find?_cons,e]
theorem valV_any(k:κ):∀ kvs:List (κ×V),(kvs.any λkv=>decide (kv.1=k))=(valV kvs k).isSome
 |[]=>rfl
 |p::r=>by
   rw[VR];by_cases e:p.1=k
   ·simp only[valV_pos e,decide_eq_true e,Bool.true_or,Option.isSome_some]
   ·rw[valV_neg e,TJ e,Bool.false_or];exact valV_any k r
theorem length_putK(kvs:List (κ×V))(k:κ)(v:V):(putK kvs k v).length<=kvs.length+1:=by
 unfold putK;split
 ·rw[RT];lia
 ·rw[R6,TF,List.length_nil];lia
theorem putK_new{kvs:List (κ×V)}(v:V)(h:valV kvs k=none):putK kvs k v=kvs++[(k,v)]:=by unfold putK;rw[valV_any,h];exact R3 (by decide)
theorem RelO.isSome_eq(r:RelO o u):o.isSome=u.isSome:=by
 cases o with
 |none=>cases u with
   |none=>rfl
   |some _=>exact (show False from r).elim
 |some _=>cases u with
   |none=>exact (show False from r).elim
   |some _=>rfl
theorem KV.val{kvs:List (κ×V)}{vs:List (κ×Value)}(r:KV kvs vs)(k:κ):RelO (valV kvs k) (valueAt vs k):=by
 unfold KV at r;induction r with
 |nil=>exact True.intro
 | @cons p q ps qs h t ih=>
   obtain⟨h1,h2⟩:=h;by_cases e:p.1=k
   ·have e':q.1=k:=h1.symm.trans e;have b:valueAt (q::qs) k=some q.2:=by simp[valueAt,List.find?_cons,e']
    rw[valV_pos e,b];exact h2
   ·have e':¬ q.1=k:=λz=>e (h1.trans z)
    have b:valueAt (q::qs) k=valueAt qs k:=by simp[valueAt,List.find?_cons,e']
    rw[valV_neg e,b];exact ih
theorem KV.any(r:KV kvs vs)(k:κ):(kvs.any λkv=>decide (kv.1=k))=vs.any λkv=>decide (kv.1=k):=by
 unfold KV at r;induction r with
 |nil=>rfl
 |cons h t ih=>rw[VR,VR,ih,h.1]
theorem KV.repl(r:KV kvs vs)(k:κ)(ry:RelV y u):
  KV (kvs.map λkv=>if kv.1=k then (kv.1,y) else kv) (vs.map λkv=>if kv.1=k then (kv.1,u) else kv):=by
 unfold KV at r ⊢
 induction r with
 |nil=>exact .nil
 | @cons p q ps qs h t ih=>
   rw[SX,SX];refine .cons ?_ ih;obtain⟨h1,h2⟩:=h;by_cases e:p.1=k
   ·rw[R1 e,R1 (h1.symm.trans e)];exact⟨h1,ry⟩
   ·rw[R3 e,R3 (λz=>e (h1.trans z))];exact⟨h1,h2⟩
theorem KV.put(r:KV kvs vs)(k:κ)(ry:RelV y u):KV (putK kvs k y) (stored vs k u):=by
 unfold putK stored;rw[r.any k];by_cases e:(vs.any λkv=>decide (kv.1=k))=true
 ·rw[R1 e,R1 e];exact r.repl k ry
 ·rw[R3 e,R3 e];exact Paired.snoc r ⟨rfl,ry⟩
theorem KV.keys{kvs:List (κ×V)}{vs:List (κ×Value)}(r:KV kvs vs):kvs.map (·.1)=vs.map (·.1):=by
 unfold KV at r;induction r with
 |nil=>rfl
 |cons h t ih=>rw[SX,SX,ih,h.1]
theorem KV.length(r:KV kvs vs):kvs.length=vs.length:=W3 r
end
theorem kV_is(r:RelV (kV k) u):(mixKind P w).is k u=true:=by
 cases k with
 |inl i=>obtain⟨t,e⟩:=(show ∃t,u=Value.int i t from r);subst e;exact mixKind_int P w i t
 |inr x=>obtain⟨t,e⟩:=(show ∃t,u=Value.str x t from r);subst e;exact mixKind_str P w x t
theorem items_are:∀ {ks:List Key}{us:List Value},Vals (ks.map kV) us->ItemsAre (mixKind P w) ks us
 |[],_,r=>by rw[V8]at r;cases r;exact .nil
 |k::ks,_,r=>by
   rw[SX]at r;cases r with
   |cons h t=>exact .cons (kV_is h) (items_are t)
abbrev KT(H:Hp):List (List Key×V)->List (List Key×Addr×Value)->Prop:=Paired λp q=>p.1=q.1/\H q.2.1=some (.tup (p.1.map kV))/\RelV p.2 q.2.2
theorem KT.val{kvs:List (List Key×V)}{xs:List (List Key×Addr×Value)}(r:KT H kvs xs)(k:List Key):RelO (valV kvs k) ((atKey xs k).map (·.2)):=by
 induction r with
 |nil=>exact True.intro
 | @cons p q ps qs h t ih=>
   obtain⟨h1,_,h2⟩:=h;by_cases e:p.1=k
   ·have e':q.1=k:=h1.symm.trans e;have b:atKey (q::qs) k=some q.2:=by simp[atKey,List.find?_cons,e']
    rw[valV_pos e,b];exact h2
   ·have e':¬ q.1=k:=λz=>e (h1.trans z)
    have b:atKey (q::qs) k=atKey qs k:=by simp[atKey,List.find?_cons,e']
    rw[valV_neg e,b];exact ih
theorem KT.repl(r:KT H kvs xs)(k:List Key)(ry:RelV y u):
  KT H (kvs.map λkv=>if kv.1=k then (kv.1,y) else kv) (xs.map (putAt k u)):=by
 induction r with
 |nil=>exact .nil
 | @cons p q ps qs h t ih=>
   rw[SX,SX];refine .cons ?_ ih;obtain⟨h1,h2,h3⟩:=h;unfold putAt;by_cases e:p.1=k
   ·rw[R1 e,R1 (h1.symm.trans e)];exact⟨h1,h2,ry⟩
   ·rw[R3 e,R3 (λz=>e (h1.trans z))];exact⟨h1,h2,h3⟩
theorem KT.put(r:KT H kvs xs)(k:List Key)(hb:H b=some (.tup (k.map kV)))(ry:RelV y u):
  KT H (putK kvs k y) (storedH xs k b u):=by
 have e:(kvs.any λkv=>decide (kv.1=k))=(atKey xs k).isSome:=by rw[valV_any,(r.val k).isSome_eq,Option.isSome_map]
 unfold putK storedH;rw[e];by_cases q:(atKey xs k).isSome=true
 ·rw[R1 q,R1 q];exact r.repl k ry
 ·rw[R3 q,R3 q];exact Paired.snoc r ⟨rfl,hb,ry⟩
theorem KT.keeps(r:KT H kvs xs)(ht:∀b ys,H b=some (.tup ys)->H' b=some (.tup ys)):KT H' kvs xs:=
 Paired.mapP r λy y z=>⟨z.1,ht _ _ z.2.1,z.2.2⟩
section
variable{P:Program}{w:World}{H:Hp}{h:Heap}{a:Addr}
theorem rd_of(ok:HOk P w H h)(e:Rd H a u):ObjOk P w H h a u:=e.ok ok
theorem dk_rd(ok:HOk P w H h)(e:Rd H a (.dK kvs)):kvs.length<=sizeLine/\(a==sysModules)=false/\∃vs,KV kvs vs/\h.DictOf (mixKind P w) a vs:=
 show ObjOk P w H h a (.dK kvs) from rd_of ok e
theorem dk_of(ok:HOk P w H h)(e:H a=some (.dK kvs)):kvs.length<=sizeLine/\(a==sysModules)=false/\∃vs,KV kvs vs/\h.DictOf (mixKind P w) a vs:=dk_rd ok (.inl e)
theorem key_of(ok:HOk P w H h)(e:H a=some (.tup (ks.map kV))):(tupleKind (mixKind P w)).is h ks a:=by
 obtain⟨_,its,r,o,h1,h2,n,h3⟩:=(show ObjOk P w H h a (.tup (ks.map kV)) from ok a _ e)
 exact⟨o,its.toArray,n,h1,h2,h3,by simpa using items_are r⟩
theorem dt_rd(ok:HOk P w H h)(e:Rd H a (.dT kvs)):kvs.length<=sizeLine/\(a == sysModules)=false /\
  ∃xs,KT H kvs xs/\h.DictOfH (tupleKind (mixKind P w)) a xs:=by
 obtain⟨z,y,xs,r,o,es,ep,h1,h2,h3,h4,h5⟩:=(show ObjOk P w H h a (.dT kvs) from rd_of ok e)
 refine⟨z,y,xs,r,o,es,ep,h1,h2,h3,h4,λx hx=>?_,h5⟩
 have all:∀ {l:List (List Key×V)}{m:List (List Key×Addr×Value)},KT H l m->∀ x∈m,(tupleKind (mixKind P w)).is h x.1 x.2.1:=by
  intro l m q;induction q with
  |nil=>intro x hx;exact nomatch hx
  | @cons p q ps qs hq t ih=>
    intro x hx;rcases R8.mp hx with e | hx
    ·subst e;exact key_of ok (by rw[<-hq.1];exact hq.2.1)
    ·exact ih x hx
 exact all r x hx
theorem dt_of(ok:HOk P w H h)(e:H a=some (.dT kvs)):kvs.length<=sizeLine/\(a==sysModules)=false /\
  ∃xs,KT H kvs xs/\h.DictOfH (tupleKind (mixKind P w)) a xs:=dt_rd ok (.inl e)
end
def DGet(H:Hp)(a:Addr)(y:V)(r:Option V):Prop:=
 (∃kvs k,Rd H a (.dK kvs)/\y=kV k/\r=valV kvs k)\/∃kvs k b,Rd H a (.dT kvs)/\y=.ref b/\H b=some (.tup (k.map kV))/\r=valV kvs k
def DPut(H:Hp)(a:Addr)(y v:V)(H':Hp):Prop:=
 (∃kvs k,H a=some (.dK kvs)/\y=kV k/\kvs.length<sizeLine/\H'=upd H a (.dK (putK kvs k v))) \/
 ∃kvs k b,H a=some (.dT kvs)/\y=.ref b/\H b=some (.tup (k.map kV))/\kvs.length<sizeLine/\H'=upd H a (.dT (putK kvs k v))
theorem DGet.k{H:Hp}{a:Addr}{kvs:List (Key×V)}{k:Key}(e:H a=some (.dK kvs)):DGet H a (kV k) (valV kvs k):=.inl ⟨kvs,k,.inl e,rfl,rfl⟩
theorem DPut.k{H:Hp}{a:Addr}{kvs:List (Key×V)}{k:Key}{v:V}(e:H a=some (.dK kvs))(hl:kvs.length<sizeLine):DPut H a (kV k) v (upd H a (.dK (putK kvs k v))):=.inl ⟨kvs,k,e,rfl,hl,rfl⟩
section
variable{X:Cx}{Xp:List (Addr×Obj)}{σ:St}{H:Hp}{s:Shared}{a:Addr}{y v:V}{u r:Value}{o:Option V}{A:Around}{E:Value->Shared->Prop}
theorem Inv.big(I:Inv X Xp σ H s):sysModules<s.heap.objs.size:=by have h:mainGlobals<s.heap.objs.size:=(I.mod.glob.keeps I.bk).lt;exact Wc (by decide) h
theorem d_getItem(hu:A.units+1<cLine)(I:Inv X Xp σ H s)(g:DGet H a y (some v))(ry:RelV y u)(h:∀w' s',Inv X Xp σ H s'->RelV v w'->Q w' s'):
  wpAny (model X.prog X.w) A (getItem (.ref a) u) Q E s:=by
 rcases g with ⟨kvs,k,e,ey,l⟩ | ⟨kvs,k,b,e,ey,eb,l⟩
 ·subst ey;obtain⟨z,hd,vs,rel,dd⟩:=dk_rd I.hok e;obtain⟨w',hw,rw'⟩:=RelO.some_of (v:=v) (o:=valueAt vs k) (by rw[l];exact rel.val k)
  exact wpAny_getItem_of (kV_is ry) dd.mapOf hw (h w' _ (I.tok _) rw')
 ·subst ey;cases (show u=Value.ref b from ry)
  obtain⟨z,hd,xs,rel,dd⟩:=dt_rd I.hok e;obtain⟨w',hw,rw'⟩:=RelO.some_of (v:=v) (o:=(atKey xs k).map (·.2)) (by rw[l];exact rel.val k)
  obtain⟨p,hp,hp2⟩:=RL.mp hw;refine wpAny_getItem_heap (tupleKind_room_in1 hu) (key_of I.hok eb) dd hp ?_;rw[hp2];exact h w' _ (I.tok _) rw'
theorem d_notIn(hu:A.units+1<cLine)(I:Inv X Xp σ H s)(g:DGet H a y o)(ry:RelV y u)(h:∀s',Inv X Xp σ H s'->Q (.bool (!o.isSome)) s'):
  wpAny (model X.prog X.w) A (compareOp .NotIn u (.ref a)) Q E s:=by
 rcases g with ⟨kvs,k,e,ey,l⟩ | ⟨kvs,k,b,e,ey,eb,l⟩
 ·subst ey;obtain⟨z,hd,vs,rel,dd⟩:=dk_rd I.hok e;refine wpAny_notIn_of (kV_is ry) hd dd.mapOf ?_;rw[<-(rel.val k).isSome_eq,<-l];exact h _ (I.tok _)
 ·subst ey;cases (show u=Value.ref b from ry)
  obtain⟨z,hd,xs,rel,dd⟩:=dt_rd I.hok e;refine wpAny_notIn_heap (tupleKind_room_in1 hu) (key_of I.hok eb) hd dd ?_;have q:=(rel.val k).isSome_eq;rw[Option.isSome_map]at q;rw[<-q,<-l];exact h _ (I.tok _)
theorem d_write(I:Inv X Xp σ H s)(mu:Mut (H a))(hs:Heap.SameBut a s.heap h')(he:∃q,h'.get? a=some q)(new:ObjOk X.prog X.w (upd H a ob) h' a ob):
  Inv X Xp σ (upd H a ob) { s with heap:=h',toks:=t' }:=
 I.write (x:=a) (e:=a) mu (.inl rfl) (λb q hb z=>(hs.2 b hb).trans z) he new
theorem dk_new(z:kvs.length<=sizeLine)(hd:(a==sysModules)=false)(rel:KV kvs vs)(dd:h'.DictOf (mixKind P w) a vs):
  ObjOk P w H' h' a (.dK kvs):=⟨z,hd,vs,rel,dd⟩
theorem d_setItem(hu:A.units+1<cLine)(I:Inv X Xp σ H s)(g:DPut H a y v H')(ry:RelV y u)(rv:RelV v r)(h:∀s',Inv X Xp σ H' s'->Q () s'):
  wpAny (model X.prog X.w) A (setItem (.ref a) u r) Q E s:=by
 rcases g with ⟨kvs,k,e,ey,l,eH⟩ | ⟨kvs,k,b,e,ey,eb,l,eH⟩
 ·subst ey eH;obtain⟨z,hd,vs,rel,dd⟩:=dk_of I.hok e;have hz:vs.length<=sizeLine:=by rw[<-rel.length];exact z
  have hl:(putK kvs k v).length<=sizeLine:=by have:=length_putK kvs k v;lia
  refine wpAny_setItem_pairs (hsz:=hz) (kV_is ry) dd λh' dd' hs=>h _ ?_
  have he:∃q,h'.get? a=some q:=let ⟨q,_,_,hq,_⟩:=dd';⟨q,hq⟩
  exact d_write I (by rw[e];exact True.intro) hs he (dk_new hl hd (rel.put k rv) dd')
 ·subst ey eH;cases (show u=Value.ref b from ry)
  obtain⟨z,hd,xs,rel,dd⟩:=dt_of I.hok e;have hz:xs.length<=sizeLine:=by rw[<-W3 rel];exact z
  have hl:(putK kvs k v).length<=sizeLine:=by have:=length_putK kvs k v;lia
  refine wpAny_setItem_heap (hsz:=hz) (tupleKind_room_in1 hu) (key_of I.hok eb) dd λh' dd' hs=>h _ ?_
  obtain⟨q,es,ep,hq,h2,h3,h4,_,h5⟩:=dd';refine d_write I (by rw[e];exact True.intro) hs ⟨q,hq⟩ ⟨hl,hd,_,(rel.put k eb rv).keeps λc ys ec=>?_,q,es,ep,hq,h2,h3,h4,h5⟩
  rw[upd_ne (ne_of ec e (λz=>nomatch z))]
  exact ec
end
def NoSl(i:Expr):Prop:=∀ov iv,subscripted i false ov iv=operate [ov,iv] (getItem ov iv)
theorem subD_of{prog:Program}{w:World}{A:Around}{E:Value->Shared->Prop}{s:Shared}{env:Env}{value slice:Expr}{pos:Pos}{T id:String}{Q:Value->Shared->Prop}
  (hl:typeLookup (.type T) "__getitem__"=pure (some (.builtin id))) (hs:NoSl slice)
  (h:wpAny (model prog w) A (eval value env) (λo s₁=>wpAny (model prog w) A (eval slice env) (λi s₂=>s₂.TypeIs o T/\wpAny (model prog w) A (getItem o i) Q E s₂) E s₁) E s) :
  wpAny (model prog w) A (eval (.Subscript value slice pos) env) Q E s:=by
 refine Subscript_ (Sg h (λo s₁ h₁=>Sg h₁ (λi s₂ h₂=>?_) λz z x=>x) λz z x=>x)
 obtain⟨hT,h₂⟩:=h₂;unfold subscriptTail;refine RD ?_;rw[getitemInPython_of_ne hT.not_modules];refine RD (WM hT hl ?_);have fin:wpAny (model prog w) A (subscripted slice false o i) (λr s₃=>wpAny (model prog w) A (letTemporaryGo value o r>>=λz=>pure r) Q E s₃) E s₂:=by rw[hs o i];exact wpAny_operating (Sg h₂ (λr s₃ h₃=>RD (wpAny_letTemporaryGo (RJ h₃))) λz z x=>x)
 first
  |exact RJ (RD fin)
  |exact RD (RJ (RD fin))
  |exact RD fin
theorem dict_typeIs(I:Inv X Xp σ H s)(g:DGet H a y o):s.TypeIs (.ref a) "dict":=by
 rcases g with ⟨kvs,k,e,_,_⟩ | ⟨kvs,k,b,e,_,_,_⟩
 ·obtain⟨_,_,vs,_,dd⟩:=dk_rd I.hok e;exact dd.typeIs
 ·obtain⟨_,_,xs,_,dd⟩:=dt_rd I.hok e;exact dd.typeIs
def tDGet(td ty:TE):TE:=λσ H Q=>td σ H λx H1=>ty σ H1 λy H2=>∃a v,x=.ref a/\DGet H2 a y (some v)/\Q v H2
section
variable{X:Cx}{o i e value:Expr}{pos pos' tpos:Pos}{td ty tv:TE}
theorem pe_dget(hu:X.A.units+1<cLine)(ho:PE X o td)(hi:PE X i ty)(hs:NoSl i):PE X (.Subscript o i pos) (tDGet td ty):=by
 intro Xp s σ H Q I h;refine subD_of PySem.F.slot_dict_getitem.lookup hs (thn (ho Xp s σ H _ I h) λu s1 ⟨x,H1,I1,rx,q1⟩=>thn (hi Xp s1 σ H1 _ I1 q1) λiv s2 ⟨y,H2,I2,ry,a,v,ex,g,q2⟩=>?_)
 subst ex;obtain rfl:u=Value.ref a:=rx;exact⟨dict_typeIs I2 g,d_getItem hu I2 g ry λw' s3 I3 rw'=>⟨v,H2,I3,rw',q2⟩⟩
end
theorem dk_empty(h:Heap)(hb:sysModules<h.objs.size):ObjOk P w H (h.push { cls:=.type "dict",data:=.dict #[] }) h.objs.size (.dK []):=
 ⟨Vn _,Ux.mpr (Ne.symm (R5 hb)),[],.nil,Heap.DictOf.new h⟩
def tPairs:List (TE×TE)->St->Hp->(List (V×V)->Hp->Prop)->Prop
 |[],_,H,Q=>Q [] H
 |(tk,tv)::r,σ,H,Q=>tk σ H λx H1=>tv σ H1 λy H2=>tPairs r σ H2 λps H3=>Q ((x,y)::ps) H3
abbrev VV:List (V×V)->List (Value×Value)->Prop:=Paired λp q=>RelV p.1 q.1/\RelV p.2 q.2
def PPs(X:Cx)(pos:Pos)(keys:List (Option Expr))(values:List Expr)(trs:List (TE×TE)):Prop:=
 ∀(Xp:List (Addr×Obj)) (s:Shared) (σ:St) (H:Hp) (Q:List (V×V)->Hp->Prop),Inv X Xp σ H s->tPairs trs σ H Q->
   wpAny (model X.prog X.w) X.A (evalPairs (pairTrees keys values X.env pos)) (λvs s'=>∃ps H',Inv X Xp σ H' s'/\VV ps vs/\Q ps H') X.xe s
theorem pps_nil:PPs X pos [] [] []:=λXp s σ H Q I h=>pairTrees_nil_walk ⟨[],H,I,.nil,h⟩
theorem pps_cons(hk:PE X k tk)(hv:PE X v tv)(hr:PPs X pos ks vs trs):
  PPs X pos (some k::ks) (v::vs) ((tk,tv)::trs):=λXp s σ H Q I h=>
 pairTrees_cons_walk (thn (hk Xp s σ H _ I h) λu s1 ⟨x,H1,I1,rx,q1⟩=>thn (hv Xp s1 σ H1 _ I1 q1) λw2 s2 ⟨y,H2,I2,ry,q2⟩=>
  thn (hr Xp s2 σ H2 _ I2 q2) λws s3 ⟨ps,H3,I3,rel,q3⟩=>⟨(x,y)::ps,H3,I3,.cons ⟨rx,ry⟩ rel,q3⟩)
def mergeK(kvs more:List (Key×V)):List (Key×V):=more.foldl (λacc kv=>putK acc kv.1 kv.2) kvs
theorem KV.merge:∀ {more:List (Key×V)}{rs:List (Key×Value)}{kvs:List (Key×V)}{vs:List (Key×Value)},KV more rs->KV kvs vs->KV (mergeK kvs more) (merged vs rs):=by
 intro more rs kvs vs r;unfold KV at r;induction r generalizing kvs vs with
 |nil=>intro q;exact q
 | @cons p q ps qs h t ih=>
   intro r0;have e:KV (putK kvs p.1 p.2) (stored vs q.1 q.2):=by have:=r0.put p.1 h.2;rw[<-h.1];exact this
   exact ih e
theorem length_mergeK:∀ (more kvs:List (Key×V)),(mergeK kvs more).length<=kvs.length + more.length
 |[],kvs=>by show kvs.length<=kvs.length+0;lia
 |p::r,kvs=>by have h1:=length_mergeK r (putK kvs p.1 p.2);have h2:=length_putK kvs p.1 p.2;show (mergeK (putK kvs p.1 p.2) r).length<=_;rw[TF];lia
theorem carries_of:∀ {kvs:List (Key×V)}{ws:List (Value×Value)},VV (kvs.map λkv=>(kV kv.1,kv.2)) ws->∃ rs,Carries (mixKind P w) ws rs/\KV kvs rs
 |[],_,r=>by rw[V8]at r;cases r;exact⟨[],True.intro,.nil⟩
 | p::kvs,_,r=>by
   rw[SX]at r;cases r with
   | @cons a b as bs h t=>obtain⟨rs,c,q⟩:=carries_of (P:=P) (w:=w) t;obtain⟨b1,b2⟩:=b;exact⟨(p.1,b2)::rs,⟨kV_is h.1,rfl,c⟩,.cons ⟨rfl,h.2⟩ q⟩
def tDisp(trs:List (TE×TE)):TE:=λσ H Q=>∀p,H p=none->tPairs trs σ (upd H p (.dK [])) λps H2=>H2 p=some (.dK [])/\∃kvs:List (Key×V),ps=kvs.map (λkv=>(kV kv.1,kv.2))/\kvs.length<=15/\Q (.ref p) (upd H2 p (.dK (mergeK [] kvs)))
theorem pe_disp(h:PPs X pos keys values trs)(hall:keys.all (·.isSome)=true)(hl:keys.length=values.length)(h0:keys≠[])
  (h15:keys.length<=15):PE X (.Dict keys values pos) (tDisp trs):=by
 intro Xp s σ H Q I q;have hn:=I.hok.fresh (RX s.heap.objs.size);have I1:=I.laid (a:=s.heap.objs.size) (o:=.dK []) (h':=s.heap.push { cls:=.type "dict",data:=.dict #[] }) (t':=s.toks) (λy y q=>RG _ q) (RX _) (dk_empty s.heap I.big)
 refine wpAny_Dict_walk (knd:=mixKind X.prog X.w) hall hl h0 h15 (thn (h Xp _ σ _ _ I1 (q _ hn)) λws s2 ⟨ps,H2,I2,rel,e,kvs,ep,lk,q2⟩=>?_)
 subst ep;obtain⟨rs,c,rk⟩:=carries_of (P:=X.prog) (w:=X.w) rel;obtain⟨z,hd,vs0,r0,dd⟩:=dk_of I2.hok e;cases r0;refine⟨rs,c,dd,λh' dd' hs=>⟨.ref s.heap.objs.size,_,?_,rfl,q2⟩⟩
 have hz:(mergeK [] kvs).length<=sizeLine:=by have h1:=length_mergeK kvs [];rw[List.length_nil]at h1;rw[Vo];lia
 have he:∃q,h'.get? s.heap.objs.size=some q:=let ⟨q,_,_,hq,_⟩:=dd';⟨q,hq⟩
 exact d_write I2 (by rw[e];exact True.intro) hs he (dk_new hz hd (rk.merge .nil) dd')
end L2
namespace HT
open PySem PySem.Spec PyProof.Rows PySem.W
section
variable{prog:Program}{w:World}{A:Around}{E:Value->Shared->Prop}{s:Shared}
theorem Gn{vs ws:List Value}{Q:Value->Shared->Prop}(ht:IsTup s.heap t vs.toArray)(hb:IsTup s.heap b ws.toArray)(hv:vs=[])
  (h1:Q (.ref b) s):wpAny (model prog w) A (binaryOp .Add (.ref t) (.ref b)) Q E s:=by
 obtain⟨⟨cls,dd,data,sl⟩,ho,hc,n,hd⟩:=id ht;obtain⟨⟨cls2,dd2,data2,sl2⟩,ho2,hc2,n2,hd2⟩:=id hb;simp only at hc hd hc2 hd2;subst hc hd hc2 hd2;exact concat_meets ⟨_,ho,rfl⟩ ⟨_,ho2,rfl⟩ noFill_tuple_add seq_tuple_add Wr Wl (Wa _ _)
   (tuple_addW0 t b vs.toArray ws.toArray n n2 dd dd2 sl sl2 (by simp[hv])) ⟨ho,ho2,h1⟩
theorem qb{items:Array Value}{lo hi:Option Int}{Q:Value->Shared->Prop}(ht:IsTup s.heap t items)(hs:s.heap.IsSliceOf sl vl vu .none)(pl:IsPart vl lo)(pu:IsPart vu hi)
  (hw:sIx items.size 0 lo=0/\sIx items.size items.size hi=items.size) (h:Q (.ref t) s):wpAny (model prog w) A (getItem (.ref t) (.ref sl)) Q E s:=by
 obtain⟨os,hos,hcs,hds⟩:=id hs;obtain⟨ot,hot,hct,nt,hdt⟩:=id ht;have hTs:s.TypeIs (.ref sl) "slice":=⟨os,hos,hcs⟩;have hTt:s.TypeIs (.ref t) "tuple":=⟨ot,hot,hct⟩;unfold getItem
 try with_reducible refine Tz ?_
 first | refine RD (RJ ?_) | skip
 refine RD (wpAny_sequenceKey ht.typeIs (by decide) ?_)
 refine RD (Tf (name:=Str.ofString "__getitem__") ht.typeIs U0
  (Tc U0 ht.typeIs entry_tuple_getitem ?_ (args_tuple_getitem _ _)))
 show wpAny _ _ (Builtin.Tuple.tupleItemsOf (.ref t)>>=_) _ _ s;refine RD (tupleItemsOf_ ht ?_);refine RD (Vw hTs ?_);rw[R1 (by decide)]
 refine RD (sliceApplied_gen hs pl pu ?_);have hno:((((sIx items.size 0 lo:Nat):Int)==0&&(1:Int)==1&&(sIx items.size items.size hi-sIx items.size 0 lo)==items.size)=true):=by rw[hw.1,hw.2];simp
 show wpAny _ _ (if (((sIx items.size 0 lo:Nat):Int)==0&&(1:Int)==1&&(sIx items.size items.size hi-sIx items.size 0 lo)==items.size)=true then _ else _) _ _ s
 rw[R1 hno];unfold Builtin.Tuple.tupleIsExact;refine RD ?_;refine RD (Vw hTt (RJ ?_));rw[R1 (by decide)]
 exact RD (U5 (RJ ⟨_,rfl,RJ h⟩))
end
end HT
namespace L2
open PySem PySem.Spec PyProof.Rows
section
variable{X:Cx}
theorem Gr{xs:List V}{lo hi:Option Int}(h:HT.sIx xs.length 0 lo=0/\HT.sIx xs.length xs.length hi=xs.length):cutV xs lo hi=xs:=by unfold cutV;rw[h.1,h.2];simp
def Qy:V->Option Int->Option Int->Hp->VK->Prop:=λx lo hi H Q=>∃a xs,x=.ref a/\H a=some (.tup xs)/\∀p H',Same H H'->H' p=some (.tup (cutV xs lo hi))->Q (.ref p) H'
theorem JG:SlR X Qy:=by
 intro Xp s σ H x v vl vu lo hi sl Q I rx hs pl pu h;obtain⟨a,xs,rfl,hx,q⟩:=h;by_cases hw:HT.sIx xs.length 0 lo=0/\HT.sIx xs.length xs.length hi=xs.length
 ·cases rx;obtain⟨its,r,ht,hz⟩:=I.tuple (SqT.of hx);have hlen:its.toArray.size=xs.length:=by rw[R9];exact r.length.symm
  refine⟨"tuple",_,PyProof.Rows.slot_tuple_getitem.lookup,ht.typeIs,?_⟩;refine HT.qb ht hs pl pu (by rw[hlen];exact hw) ⟨.ref a,H,I,rfl,q a H (Same.refl _) (by rw[Gr hw];exact hx)⟩
 ·exact sl_tup (X:=X) Xp s σ H _ v vl vu lo hi sl Q I rx hs pl pu ⟨a,xs,rfl,SqT.of hx,hw,λp hp=>q p _ (same_new hp _) upd_same⟩
def Oe:R2:=λx y H Q=>∃a b xs ys,x=.ref a/\y=.ref b/\H a=some (.tup xs)/\H b=some (.tup ys)/\xs.length+ys.length<=sizeLine/\∀p H',Same H H'->H' p=some (.tup (xs++ys))->Q (.ref p) H'
theorem Jh:OpR X (binaryOp .Add) Oe:=by
 intro Xp s σ H x y v u Q I rx ry h;obtain⟨a,b,xs,ys,rfl,rfl,ha,hb,hz,q⟩:=h;by_cases hx:xs=[]
 ·cases rx;cases ry;obtain⟨its,r1,p1,_⟩:=I.tuple (SqT.of ha);obtain⟨its2,r2,p2,_⟩:=I.tuple (SqT.of hb);exact HT.Gn p1 p2 (r1.nil_iff.mpr hx) ⟨.ref b,H,I,rfl,q b H (Same.refl _) (by rw[hx,Xf];exact hb)⟩
 ·exact op_catT (X:=X) Xp s σ H _ _ v u Q I rx ry ⟨a,b,xs,ys,rfl,rfl,SqT.of ha,SqT.of hb,hx,hz,λe=>q a H (Same.refl _) (by rw[e,Vi];exact ha),λz p hp=>q p _ (same_new hp _) upd_same⟩
end
mutual
inductive RepF(H:Hp):Bool->V->PyData->Prop
 |non {f:Bool}:RepF H f .non .none
 |bl {f:Bool} (b:Bool):RepF H f (.bl b) (.bool b)
 |int {f:Bool} (i:Int):RepF H f (.int i) (.int i)
 |str {f:Bool} (x:Str):RepF H f (.str x) (.str x)
 |lst {f:Bool}{a:Addr}{xs:List V}{ds:List PyData}:H a=some (.lst xs)->RepsF H f xs ds->RepF H f (.ref a) (.list ds)
 |tup {f:Bool}{a:Addr}{xs:List V}{ds:List PyData}:H a=some (.tup xs)->RepsF H f xs ds->RepF H f (.ref a) (.tuple ds)
 |d0 {a:Addr}:H a=some (.dK [])->RepF H false (.ref a) (.dict [])
 |d1 {a:Addr}{i j:Int}:H a=some (.dK [(.inl i,.int j)])->RepF H false (.ref a) (.dict [(.int i,.int j)])
inductive RepsF(H:Hp):Bool->List V->List PyData->Prop
 |nil {f:Bool}:RepsF H f [] []
 |cons {f:Bool}{v:V}{d:PyData}{vs:List V}{ds:List PyData}:RepF H f v d->RepsF H f vs ds->RepsF H f (v::vs) (d::ds)
end
section
variable{X:Cx}{Xp:List (Addr×Obj)}{σ:St}{H:Hp}{s:Shared}
theorem Jb{P:Program}{w:World}{i:Int}{v:Value}(h:(mixKind P w).is (.inl i) v=true):∃ t,v=.int i t:=by
 cases v with
 | int a t=>
   have e:decide (i=a)=true\/decide (a=i)=true\/(a==i)=true\/(i==a)=true:=by
    first | exact .inl h | exact .inr (.inl h) | exact .inr (.inr (.inl h)) | exact .inr (.inr (.inr h))
   have:a=i:=by rcases e with e | e | e | e<;>simp at e<;>lia
   exact⟨t,by rw[this]⟩
 |_=>first | cases h | (simp[mixKind]at h)
theorem Bo(I:Inv X Xp σ H s){a:Addr}(h:H a=some (.dK [])):∃as,Reads s.heap (.ref a) (.dict []) as/\sysModules∉as:=by
 obtain⟨_,hd,vs,r0,⟨o,es,ep,h1,h2,h3,h4,h5,h6⟩⟩:([]:List (Key×V)).length<=sizeLine/\(a==sysModules)=false/\∃vs,KV [] vs/\s.heap.DictOf (mixKind X.prog X.w) a vs:=I.hok a _ h;cases r0;have he:es.toList=[]:=by cases hx:es.toList with
  |nil=>rfl
  |cons e es'=>rw[hx]at h5;cases h5
 refine⟨_,.dict (kvs:=[]) h1 h2.1 h3 (by rw[he];exact .nil) (by rw[he];exact .nil),?_⟩
 simp only[List.append_nil,List.mem_singleton];exact λz=>(Ux.mp hd) z.symm
set_option tactic.hygienic true in
theorem Bp(I:Inv X Xp σ H s){a:Addr}{i j:Int}(h:H a=some (.dK [(.inl i,.int j)])):∃ as,Reads s.heap (.ref a) (.dict [(.int i,.int j)]) as/\sysModules∉as:=by
 obtain⟨_,hd,vs,r0,⟨o,es,ep,h1,h2,h3,h4,h5,h6⟩⟩:([(Sum.inl i,V.int j)]:List (Key×V)).length<=sizeLine/\(a==sysModules)=false/\∃vs,KV [(Sum.inl i,V.int j)] vs/\s.heap.DictOf (mixKind X.prog X.w) a vs:=I.hok a _ h;cases r0 with
 | @cons p q ps qs hq t=>
   cases t;obtain⟨e1,tv,e2⟩:=hq;obtain⟨q1,q2⟩:=q;dsimp only at e1 e2;subst e1 e2;generalize hx:es.toList=el at h5;cases h5 with
   |cons g1 g2 g3=>
     cases g3;rename_i e;obtain⟨tk,ek⟩:=Jb g1;dsimp only at g2;refine⟨_,.dict (kvs:=[(.int i,.int j)]) h1 h2.1 h3 (as:=[]++[]) (bs:=[]++[]) (by rw[hx];exact .cons (by show Reads _ e.key _ _;rw[ek];exact .int i tk) .nil) (by rw[hx];exact .cons (by show Reads _ e.val _ _;rw[g2];exact .int j tv) .nil),?_⟩
     simp only[List.append_nil,List.mem_singleton];exact λz=>(Ux.mp hd) z.symm
theorem RepsF.reads(I:Inv X Xp σ H s){f:Bool}{vs:List V}{ds:List PyData}{us:List Value}(h:RepsF H f vs ds):Vals vs us->∃ as,ReadsAll s.heap us ds as:=
 RepsF.rec (motive_1:=λf v d z=>∀ u,RelV v u->∃ as,Reads s.heap u d as) (motive_2:=λf vs ds z=>∀ us,Vals vs us->∃ as,ReadsAll s.heap us ds as)
  (λu r=>by cases r;exact⟨_,.none⟩)
  (λb u r=>by cases r;exact⟨_,.bool b⟩)
  (λi u r=>by obtain⟨t,rfl⟩:=r;exact⟨_,.int i t⟩)
  (λi u r=>by obtain⟨t,rfl⟩:=r;exact⟨_,.str i t⟩)
  (λh hs ih u r=>by cases r;obtain⟨its,rv,⟨o,n,h1,h2,_,h3⟩,_⟩:=I.list (SqL.of h);obtain⟨as,ra⟩:=ih _ rv;exact⟨_,.list h1 h2 h3 ra⟩)
  (λh hs ih u r=>by cases r;obtain⟨its,rv,⟨o,h1,h2,n,h3⟩,_⟩:=I.tuple (SqT.of h);obtain⟨as,ra⟩:=ih _ rv;exact⟨_,.tuple h1 h2 h3 ra⟩)
  (λh u r=>by cases r;obtain⟨as,ra,_⟩:=Bo I h;exact⟨as,ra⟩)
  (λh u r=>by cases r;obtain⟨as,ra,_⟩:=Bp I h;exact⟨as,ra⟩)
  (λu r=>by cases r;exact⟨_,.nil⟩)
  (λh hs i1 i2 u r=>by
    cases r with
    |cons r1 r2=>obtain⟨a1,e1⟩:=i1 _ r1;obtain⟨a2,e2⟩:=i2 _ r2;exact⟨_,.cons e1 e2⟩)
  h us
theorem vD{a:Addr}{d:PyData}{as bs:List Addr}{n:Nat}(r:Reads s.heap (.ref a) d as)(hd:d.depth=n+1)(hb:ReadAtMost s.heap n bs):a∉bs/\ReadAtMost s.heap d.depth (a::bs):=
 ⟨not_mem_of_deeper r (by lia) hb,hd ▸ ReadAtMost.cons r (by lia) hb⟩
theorem RepsF.k(I:Inv X Xp σ H s){f:Bool}{vs:List V}{ds:List PyData}{us:List Value}(h:RepsF H f vs ds):Vals vs us->PyData.showableAll ds=true->(∀ t∈PyData.shownAll ds,t.length<=sizeLine)->∃ bs,ReadAtMost s.heap (PyData.depthAll ds) bs/\ReprAllK X.prog X.w bs s.heap (PyData.depthAll ds) us (PyData.shownAll ds):=
 RepsF.rec (motive_1:=λf v d q=>∀ u,RelV v u->d.showable=true->d.shown.length<=sizeLine->∃ bs,ReadAtMost s.heap d.depth bs/\ReprK X.prog X.w bs s.heap d.depth u d.shown) (motive_2:=λf vs ds q=>∀ us,Vals vs us->PyData.showableAll ds=true->(∀ t∈PyData.shownAll ds,t.length<=sizeLine)->∃ bs,ReadAtMost s.heap (PyData.depthAll ds) bs/\ReprAllK X.prog X.w bs s.heap (PyData.depthAll ds) us (PyData.shownAll ds))
  (λu r hs hz=>by cases r;exact Vy .none hs (λz=>by simp[PyData.hasDict]at z) hz)
  (λb u r hs hz=>by cases r;exact Vy (.bool b) hs (λz=>by simp[PyData.hasDict]at z) hz)
  (λi u r hs hz=>by obtain⟨t,rfl⟩:=r;exact Vy (.int i t) hs (λz=>by simp[PyData.hasDict]at z) hz)
  (λi u r hs hz=>by obtain⟨t,rfl⟩:=r;exact Vy (.str i t) hs (λz=>by simp[PyData.hasDict]at z) hz)
  (λ{_ _ _ xs} h hs ih u r hs' hz=>by
    cases r;obtain⟨its,rv,⟨o,n,h1,h2,_,h3⟩,_⟩:=I.list (SqL.of h);obtain⟨as,ra⟩:=RepsF.reads I hs rv;have hz':(listText (PyData.shownAll xs)).length<=sizeLine:=by simpa only[PyData.shown] using hz
    obtain⟨bs,hb,hk⟩:=ih _ rv (by simpa only[PyData.showable] using hs') λt ht=>R7 (listText_mem_le ht) hz'
    obtain⟨hn,hc⟩:=vD (.list h1 h2 h3 ra) (by simp only[PyData.depth]) hb
    refine⟨_,hc,?_⟩;simp only[PyData.depth,PyData.shown];cases its with
    |nil=>cases ra;simp only[PyData.shownAll,listText_nil];exact ReprK.listEmpty h1 h2 h3
    |cons x l=>exact ReprK.list h1 h2 h3 hn (by simpa using hk.length_eq) λi y e=>hk.item i y (by simpa using e))
  (λ{_ _ _ xs} h hs ih u r hs' hz=>by
    cases r;obtain⟨its,rv,⟨o,h1,h2,n,h3⟩,_⟩:=I.tuple (SqT.of h);obtain⟨as,ra⟩:=RepsF.reads I hs rv;have hz':(tupleText (PyData.shownAll xs)).length<=sizeLine:=by simpa only[PyData.shown] using hz
    obtain⟨bs,hb,hk⟩:=ih _ rv (by simpa only[PyData.showable] using hs') λt ht=>R7 (tupleText_mem_le ht) hz'
    obtain⟨hn,hc⟩:=vD (.tuple h1 h2 h3 ra) (by simp only[PyData.depth]) hb
    refine⟨_,hc,?_⟩;simp only[PyData.depth,PyData.shown];exact ReprK.tuple h1 h2 h3 hn hk)
  (λh u r hs hz=>by cases r;obtain⟨as,ra,n⟩:=Bo I h;exact Vy ra hs (λq=>n) hz)
  (λh u r hs hz=>by cases r;obtain⟨as,ra,n⟩:=Bp I h;exact Vy ra hs (λq=>n) hz)
  (λus r q q=>by cases r;exact⟨[],(λq h=>nomatch h),by simp only[PyData.shownAll];exact .nil⟩)
  (λ{_ _ d _ ds} h hs i1 i2 us r hs' hz=>by
    cases r with
    |cons r1 r2=>
      have hh:d.showable=true/\PyData.showableAll ds=true:=by simpa[PyData.showableAll] using hs'
      obtain⟨b1,q1,k1⟩:=i1 _ r1 hh.1 (hz _ (by simp only[PyData.shownAll];exact .head _))
      obtain⟨b2,q2,k2⟩:=i2 _ r2 hh.2 λt ht=>hz t (by simp only[PyData.shownAll];exact .tail _ ht)
      simp only[PyData.depthAll,PyData.shownAll];exact⟨b1++b2,(q1.mono (Nat.le_max_left _ _)).append (q2.mono (Nat.le_max_right _ _)),.cons ((k1.more λb hb=>Vm _ hb).level_le (Nat.le_max_left _ _)) (k2.more_le (λb hb=>S9 _ hb) (Nat.le_max_right _ _))⟩)
  h us
end
theorem RepF.toRep{K:PySem.W.Frag}{H:Hp}{v:V}{d:PyData}(h:RepF H true v d):Rep K H v d:=
 RepF.rec (motive_1:=λf v d z=>f=true->Rep K H v d) (motive_2:=λf vs ds z=>f=true->Reps K H vs ds) (λz=>.non) (λb z=>.bl b) (λb z=>.int b) (λb z=>.str b) (λh z i e=>.lst (SqL.of h) (i e)) (λh z i e=>.tup (SqT.of h) (i e)) (λz e=>nomatch e) (λz e=>nomatch e) (λz=>.nil) (λz z i j e=>.cons (i e) (j e)) h rfl
mutual
def dF:PyData->Nat
 |.none | .bool _=>5
 |.int _=>1921
 |.str x=>(reprText x).length
 |.list xs | .tuple xs=>fK xs+3
 |.dict _=>8000
def fK:List PyData->Nat
 |[]=>0
 |x::xs=>dF x+2+fK xs
end
theorem iT:∀xs:List PyData,(PyData.shownAll xs).length=xs.length
 |[]=>by simp only[PyData.shownAll,List.length_nil]
 |x::xs=>by simp only[PyData.shownAll,List.length_cons,iT xs]
theorem Bw{H:Hp}{f:Bool}{v:V}{d:PyData}(h:RepF H f v d):d.showable=true->d.shown.length<=dF d:=
 RepF.rec (motive_1:=λz z d z=>d.showable=true->d.shown.length<=dF d) (motive_2:=λz z xs z=>PyData.showableAll xs=true->((PyData.shownAll xs).map (·.length)).sum + 2 * xs.length<=fK xs)
  (λz=>by simp only[PyData.shown,dF];decide +kernel)
  (λb z=>by cases b<;>simp only[PyData.shown,dF]<;>decide +kernel)
  (λi h=>by
    have h':i.natAbs.log2<1920:=by simpa[PyData.showable] using h
    simp only[PyData.shown,dF];exact int_text_len_1921 h')
  (λx z=>by simp only[PyData.shown,dF];exact RX _)
  (λ{_ _ _ xs} _ hs ih h=>by
    have:=ih (by simpa only[PyData.showable] using h)
    have l:=listText_len_le (PyData.shownAll xs);rw[iT]at l;simp only[PyData.shown,dF]
    lia)
  (λ{_ _ _ xs} _ hs ih h=>by
    have:=ih (by simpa only[PyData.showable] using h)
    have l:=tupleText_len_le (PyData.shownAll xs);rw[iT]at l;simp only[PyData.shown,dF]
    lia)
  (λz z=>by simp only[PyData.shown,PyData.shownKv,dF];decide +kernel)
  (λ{_ i j} _ h=>by
    have h':i.natAbs.log2<1920/\j.natAbs.log2<1920:=by simpa[PyData.showable,PyData.showableKv] using h
    have l1:=int_text_len_1921 h'.1;have l2:=int_text_len_1921 h'.2;have l:=dictText_len_le (PyData.shownKv [(.int i,.int j)]);simp only[PyData.shown,dF];refine R7 l ?_;simp only[PyData.shownKv,PyData.shown,List.map_cons,List.map_nil,List.sum_cons,List.sum_nil,List.length_cons,List.length_nil,strLen_append];have l3:(Str.ofString ": ").length=2:=by decide +kernel
    have l3':(": ":Str).length=2:=by decide +kernel
    lia)
  (λz=>by simp only[PyData.shownAll,List.map_nil,List.sum_nil,List.length_nil,fK];lia)
  (λ{_ _ x _ xs} hx hs i1 i2 h=>by
    have h':x.showable=true/\PyData.showableAll xs=true:=by simpa[PyData.showableAll] using h
    have a:=i1 h'.1;have b:=i2 h'.2;simp only[PyData.shownAll,List.map_cons,List.sum_cons,List.length_cons,fK]
    lia)
  h
section
variable{X:Cx}
def Mu:List V->Hp->VK->Prop:=λxs H Q=>∃f v d,xs=[v]/\RepF H f v d/\d.showable=true/\d.depth<=60/\dF d<=sizeLine/\Q (.str d.shown) H
theorem Aj(hg:X.A.guards=some [])(hu:X.A.units + 64<cLine):CallR X (.builtin "repr") Mu:=by
 intro Xp s σ H xs us Q I r h;obtain⟨f,v,d,rfl,rd,ho,hd,hz,q⟩:=h;have hz':=R7 (Bw rd ho) hz;obtain⟨u,rfl,ru⟩:=vals1 r;cases rd with
 |non=>cases ru;exact P.repr_of_none ⟨.str _,H,I.tok _,⟨_,rfl⟩,(by simpa only[PyData.shown] using q)⟩
 |bl b=>cases ru;exact P.repr_of_bool ⟨.str _,H,I.tok _,⟨_,rfl⟩,(by simpa only[PyData.shown] using q)⟩
 |int i=>obtain⟨t,rfl⟩:=ru;exact P.repr_of_int (by simpa[PyData.showable] using ho) ⟨.str _,H,I.tok _,⟨_,rfl⟩,(by simpa only[PyData.shown] using q)⟩
 |str x=>obtain⟨t,rfl⟩:=ru;exact P.repr_of_str ⟨.str _,H,I.tok _,⟨_,rfl⟩,(by simpa only[PyData.shown] using q)⟩ (by simpa only[PyData.shown] using hz')
 | lst h hs=>
   cases ru;obtain⟨its,rv,⟨o,n,h1,h2,_,h3⟩,_⟩:=I.list (SqL.of h);obtain⟨as,ra⟩:=RepsF.reads I hs rv;simp only[PyData.shown]at hz' q;obtain⟨bs,hb,hk⟩:=RepsF.k I hs rv (by simpa only[PyData.showable] using ho) λt ht=>R7 (listText_mem_le ht) hz'
   simp only[PyData.depth]at hd;refine call_repr_slot (by lia) ⟨_,h1,h2⟩ F.slot_list_repr.toG ?_
   cases its with
   |nil=>cases ra;simp only[PyData.shownAll,listText_nil]at q;exact call_list_repr_empty ⟨o,h1,h2⟩ h1 h3 ⟨_,_,rfl,.str _,H,I.kept λz z e=>e,⟨_,rfl⟩,q⟩
   |cons x l=>exact call_list_reprK h1 h2 h3 (vD (.list h1 h2 h3 ra) (by simp only[PyData.depth]) hb).1 (by simpa using hk.length_eq) (λi y e=>hk.item i y (by simpa using e)) hg (λb z=>Clear.nil b) (by show X.A.units+1+_<_;lia) (λz z e=>e) (λh' u tk hk=>⟨_,_,rfl,.str _,H,I.kept hk,⟨_,rfl⟩,q⟩) hz'
 |tup h hs=>
   cases ru;obtain⟨its,rv,⟨o,h1,h2,n,h3⟩,_⟩:=I.tuple (SqT.of h);obtain⟨as,ra⟩:=RepsF.reads I hs rv;simp only[PyData.shown]at hz' q;obtain⟨bs,hb,hk⟩:=RepsF.k I hs rv (by simpa only[PyData.showable] using ho) λt ht=>R7 (tupleText_mem_le ht) hz'
   simp only[PyData.depth]at hd;refine call_repr_slot (by lia) ⟨_,h1,h2⟩ F.slot_tuple_repr ?_
   exact call_tuple_reprK h1 h2 h3 (vD (.tuple h1 h2 h3 ra) (by simp only[PyData.depth]) hb).1 hk hg (λb z=>Clear.nil b) (by show X.A.units+1+_<_;lia) (λz z e=>e) (λh' u tk hk=>⟨_,_,rfl,.str _,H,I.kept hk,⟨_,rfl⟩,q⟩) hz'
 |d0 h=>obtain⟨as,ra,nn⟩:=Bo I h;cases ru;exact repr_of_reads' ra ho (λz=>nn) hg (by lia) (λz z e=>e) (λh' u tk hk=>⟨.str _,H,I.kept hk,⟨_,rfl⟩,q⟩) hz'
 |d1 h=>obtain⟨as,ra,nn⟩:=Bp I h;cases ru;exact repr_of_reads' ra ho (λz=>nn) hg (by lia) (λz z e=>e) (λh' u tk hk=>⟨.str _,H,I.kept hk,⟨_,rfl⟩,q⟩) hz'
end
theorem Qx(hc:CallR X (.type T) r)(hm:X.mg x=none)(ha:PA X (e::es) t)(hg:Gl X x:=by rfl)(hv:bootBuiltins x=some (.type T):=by decide +kernel)(hn:x≠"__name__":=by decide)(hdb:(x==("__debug__":Str))=false:=by decide)
  (he:starEach (e::es) X.env=(false,eval e X.env)::starEach es X.env:=by rfl) (hpl:(backTo pos (starEach es X.env)).any (·.1)=false:=by rfl) :
  PE X (.Call (.Name x p) (e::es) [] pos) (tCB r t):=pe_callTy hc hg hm hv ha hn hdb he hpl
def notStar:Expr->Bool
 |.Starred _ _=>false
 |_=>true
theorem aW(h:notStar e=true):starEach (e::es) env=(false,eval e env)::starEach es env:=by cases e<;>first | rfl | cases h
theorem Qv(ha:PE X e te)(hr:PA X es t)(hs:notStar e=true:=by rfl):PA X (e::es) (tCons te t):=pa_cons ha hr (aW hs)
structure QI(X:Cx)(tg l:Expr)(wi:TI):Prop where
 h:PI X tg l wi
structure QA(X:Cx)(es:List Expr)(t:TA):Prop where
 h:PA X es t
theorem Ej:QA X [] tNil:=⟨pa_nil⟩
theorem Mp(ha:PE X e te)(hr:QA X es t)(hs:notStar e=true:=by rfl):QA X (e::es) (tCons te t):=⟨Qv ha hr.h hs⟩
section
variable{X:Cx}{j k:Nat}{ps:List Str}{sp:Sp}{x:Str}{p pos:Pos}{e:Expr}{es:List Expr}{t:TA}{E:XK}
theorem Jo{x1}(h:QA X es t):PE X (.Tuple es x1 pos) (tTup t):=pe_tup h.h
theorem zJ(h:QA X es t):PE X (.List es pos) (tLst t):=pe_lst h.h
theorem Ec(D:DefC X.prog X.w X.K X.mg X.base j x ps sp)(hr:Room k X.A)(hx:Passes (fu X.prog X.w) X E)(ha:QA X (e::es) t)(hjk:j<=k:=by decide)(hg:Gl X x:=by rfl)(hdb:(x==("__debug__":Str))=false:=by decide)
  (he:notStar e=true:=by rfl) (hpl:(backTo pos (starEach es X.env)).any (·.1)=false:=by rfl) :
  PE X (.Call (.Name x p) (e::es) [] pos) (tCall sp [] E t):=Hc D hr hx ha.h hjk hg hdb (aW he) hpl
theorem HB{id:String}{r:List V->Hp->VK->Prop}(hc:CallR X (.builtin id) r)(hm:X.mg x=none)(ha:QA X (e::es) t)(hg:Gl X x:=by rfl)(hv:bootBuiltins x=some (.builtin id):=by decide +kernel)(hn:x≠"__name__":=by decide)(hdb:(x==("__debug__":Str))=false:=by decide)
  (he:notStar e=true:=by rfl) (hpl:(backTo pos (starEach es X.env)).any (·.1)=false:=by rfl) :
  PE X (.Call (.Name x p) (e::es) [] pos) (tCB r t):=Qw hc hm ha.h hg hv hn hdb (aW he) hpl
theorem Oc(hc:CallR X (.type T) r)(hm:X.mg x=none)(ha:QA X (e::es) t)(hg:Gl X x:=by rfl)(hv:bootBuiltins x=some (.type T):=by decide +kernel)(hn:x≠"__name__":=by decide)(hdb:(x==("__debug__":Str))=false:=by decide)
  (he:notStar e=true:=by rfl) (hpl:(backTo pos (starEach es X.env)).any (·.1)=false:=by rfl) :
  PE X (.Call (.Name x p) (e::es) [] pos) (tCB r t):=Qx hc hm ha.h hg hv hn hdb (aW he) hpl
theorem Ma{T name id:String}{r:V->List V->Hp->VK->Prop}{o:Expr}{to:TE}{apos cpos:Pos}(pa:PlainAttrs T)(slot:Slot T name id)(hty:typeOf (.builtin id)=pure (.type "method_descriptor"))(hm:MtR X id r)(ho:PE X o to)(ha:QA X (e::es) t)
  (hbase:attributeBase o name X.env (eval o X.env)=eval o X.env:=by rfl)
  (hfew:((backTo cpos (starEach (e::es) X.env)).all (fun x=>!x.1)&&(backToKw cpos (keywordEach [] X.env)).all (fun x=>x.1.isSome)
   &&decide ((e::es).length+([]:List Keyword).length+(if ([]:List Keyword).isEmpty then 0 else 1)<30))=true:=by rfl)
  (hline:(apos.endLine==cpos.line)=true:=by rfl) (hs:notStar e=true:=by rfl) (hplain:(backTo cpos (starEach es X.env)).any (·.1)=false:=by rfl) :
  PE X (.Call (.Attribute o name apos) (e::es) [] cpos) (tBM X.K T r to t):=pe_bm pa slot hty hm ho ha.h hbase hfew hline (aW hs) hplain
theorem Bf(hg:Gl X "range")(hm:X.mg "range"=none)(ha:QA X [a] ta)(hs:notStar a=true:=by rfl):QI X tg (.Call (.Name "range" p) [a] [] pos) (iRng1 ta):=⟨pi_range1 hg hm ha.h (aW hs)⟩
theorem Bg(hg:Gl X "range")(hm:X.mg "range"=none)(ha:QA X [a,b] ta)(hs:notStar a=true:=by rfl)(hs2:notStar b=true:=by rfl):QI X tg (.Call (.Name "range" p) [a,b] [] pos) (iRng2 ta):=
 ⟨pi_range2 hg hm ha.h ((aW hs).trans (by rw[aW hs2];rfl)) (aW hs2)⟩
end
def vR{α:Type}(P:α->Prop):List α->Prop
 |[]=>True
 |a::l=>P a/\vR P l
theorem mJ:∀ {l:List α},vR P l->∀ a∈l,P a
 |[],_,_,h=>nomatch h
 |b::l,h,a,hm=>by
   rcases R8.mp hm with rfl | hm
   ·exact h.1
   ·exact mJ h.2 a hm
set_option tactic.hygienic true in
theorem mem_of_lookup:∀ {l:List (Str×β)},l.lookup y=some c->(y,c)∈l
 |[],h=>by cases h
 | (z,d)::l,h=>by
   rw[Vf]at h;split at h
   ·rename_i e;have e':y=z:=by simpa using e
    cases h;rw[e'];exact Tp ..
   ·exact S6 _ (mem_of_lookup h)
theorem Nk{cl cells:List (Str×Addr)}(h:vR (λp=>cells.lookup p.1=some p.2) cl):∀y c,cl.lookup y=some c->cells.lookup y=some c:=λy c e=>mJ h (y,c) (mem_of_lookup e)
def GR:NameKind->Bool
 |.cell | .free=>true
 |_=>false
theorem KJ{names:List (Str×NameKind)}{cl:List (Str×Addr)}(h:(names.all λp=>!GR p.2 || (cl.lookup p.1).isSome)=true):∀y,(names.lookup y=some .cell\/names.lookup y=some .free)->∃c,cl.lookup y=some c:=λy e=>by
 have hh:=VL.mp h;rcases e with e | e
 ·have:=hh _ (mem_of_lookup e);simp only[GR,Bool.not_true,Bool.false_or]at this;exact U3.mp this
 ·have:=hh _ (mem_of_lookup e);simp only[GR,Bool.not_true,Bool.false_or]at this;exact U3.mp this
theorem Kv{js:List Nat}{fr:List Str}{P:Nat->Str->Prop}(h:vR (λp:Nat×Str=>P p.1 p.2) (js.zip fr)):∀(k j:Nat) (y:Str),js[k]?=some j->fr[k]?=some y->P j y:=λk j y h1 h2=>by refine mJ h (j,y) (VG.mpr ⟨k,?_⟩);rw[List.getElem?_zip_eq_some];exact⟨h1,h2⟩
section
variable{X:Cx}
def nQ:V->Bool
 |.bl b=>b
 |.int i=>i != 0
 |_=>false
def scS:V->Bool
 |.bl _=>true
 |.int _=>true
 |_=>false
theorem FQ(h:scS v=true)(r:RelV v u)(q:Q (nQ v) s):wpAny (model prog w) A (truthy u) Q E s:=by
 cases v with
 |bl b=>cases r;exact Ut q
 |int i=>obtain⟨t,rfl⟩:=r;exact PyProof.Rows.truthy_int q
 |_=>cases h
theorem range_all{xs:List V}{tr:Nat->Bool}(h:∀(i:Nat) (x:V),xs[i]?=some x->tr i=nQ x):(List.range xs.length).all tr=xs.all nQ:=by
 rw[S8,VL,VL];constructor
 ·intro q x hx;obtain⟨i,hi,e⟩:=WX.mp hx;have:=q i (RW.mpr hi);rw[h i x (by rw[RV hi,e])]at this
  exact this
 ·intro q i hi;have hi':=RW.mp hi;rw[h i xs[i] (RV hi')];exact q _ (Td hi')
theorem Pq{xs:List V}{its:List Value}(rv:Vals xs its)(hs:∀x∈xs,scS x=true):TruthOf prog w A (λi v=>its.toArray[i]?=some v) (λi=>nQ (xs[i]?.getD .non)):=by
 intro i v s Q E hP hQ;have e:its[i]?=some v:=by simpa using hP
 have hl:=rv.length;have hi:i<xs.length:=by rw[hl];exact (RK.mp e).1
 obtain⟨u,e2,r⟩:=rv.get (RV hi);rw[e]at e2;cases e2;refine FQ (hs _ (Td hi)) r ?_;have hQ':Q (nQ (xs[i]?.getD V.non)) s:=hQ;rw[RV hi]at hQ';exact hQ'
theorem Gj(hh:X.A.handled=none):CallR X (.builtin "all") (λvs H Q=>∃l xs,vs=[.ref l]/\H l=some (.lst xs)/\(∀x∈xs,scS x=true)/\Q (.bl (xs.all nQ)) H):=by
 intro Xp s σ H vs us Q I r h;obtain⟨l,xs,rfl,hH,hs,q⟩:=h;obtain⟨u,rfl,ru⟩:=vals1 r;cases ru;obtain⟨its,rv,p,hz⟩:=I.list (SqL.of (K:=X.K) hH);have hl:l<s.heap.objs.size:=by obtain⟨o,n,e,_⟩:=p;exact RN e
 refine call_all_walk (U8 p.isList ?_);refine⟨s.heap.objs.size,[s.heap.objs.size,l],[s.heap.objs.size],its.toArray.size,λi v=>its.toArray[i]?=some v,λi h=>h.IsListIter s.heap.objs.size l i/\h.IsList l its.toArray,λi=>nQ (xs[i]?.getD .non),rfl,Walks.list (A:=X.A.in1) hh s.heap.objs.size l (R5 hl) its.toArray,⟨⟨_,RM _ rfl,rfl,rfl⟩,p.isList.at λo e=>RG _ e⟩,Pq rv hs,λh' tk hk=>?_⟩
 refine⟨.bl (xs.all nQ),H,I.kept λb o e=>hk b o (λz=>?_) (RG _ e),?_,q⟩
 ·have:b=s.heap.objs.size:=by simpa using z
  exact absurd (RN e) (by rw[this];exact UJ _)
 ·rw[show its.toArray.size=xs.length by rw[R9];exact rv.length.symm]
  show Value.bool _=Value.bool _;rw[range_all λi x e=>by rw[e];rfl]
theorem Jl:OpR X (compareOp .IsNot) (λx y H Q=>∃b c,x=.bl b/\y=.bl c/\Q (.bl (!(b==c))) H):=by intro Xp s σ H x y v u Q I rx ry h;obtain⟨b,c,rfl,rfl,q⟩:=h;cases rx;cases ry;exact isnot_bool ⟨.bl _,H,I,rfl,q⟩
theorem Ob(h:X.mg x=some (.int i t))(hg:Gl X x:=by rfl)(hd:(x==("__debug__":Str))=false:=by decide):PE X (.Name x pos) (tC (.int i)):=pe_glob hg h ⟨t,rfl⟩ hd
end
structure MethAt(K:PySem.W.Frag)(C:Addr)(x qual:Str)(st:Stmt):Prop where
 ex:∃f fd,Fun K x qual st f fd/\PySem.W.findIn K (.ref C) x=some (some (.ref f))/\PySem.W.isFn K (.ref f)=true
structure MethC(P:Program)(w:World)(K:PySem.W.Frag)(mg:Str->Option Value)(base:Heap)(k:Nat)(C:Addr)(x:Str)(ps:List Str)(sp:Sp):Prop where
 ex:∃f fd,FnOk P w K mg base (fu P w) k f fd ps sp/\Binds K fd ps []/\PySem.W.keepIn K (.ref f)=true/\PySem.W.findIn K (.ref C) x=some (some (.ref f))/\PySem.W.isFn K (.ref f)=true
theorem DN{K:PySem.W.Frag}{C:Addr}{x qual:Str}{st:Stmt}{f:Addr}{oc:Value}{od an:Option Addr}{osl:Array (Option Value)}{kV doc pm cdv ct:Value}
  (a:PySem.W.findIn K (.ref C) x=some (some (.ref f))) (n:PySem.W.isFn K (.ref f)=true) (l:K.lookup f=some ⟨oc,od,.func (PySem.W.fnOf x qual (defArgs st) (defBody st) (defScope st) .none kV doc pm an cdv ct),osl⟩) (c:PySem.W.codeIn K cdv qual=true) (k:PySem.W.keepIn K (.ref f)=true):MethAt K C x qual st:=
 ⟨f,_,fun_mk l c k,a,n⟩
section
variable{P:Program}{w:World}{K:PySem.W.Frag}{mg:Str->Option Value}{base:Heap}{k:Nat}{C:Addr}{x qual:Str}{N ps:List Str}{sp:Sp}{st:Stmt}
theorem Qs(F:Fun K x qual st f fd)(S:FnScope N ps (defScope st))(len:∀ vs H Q E,sp vs H Q E->vs.length=ps.length)
  (hbody:∀(cdv:Value) (A:Around) (outer:List Env) (s:Shared) (H:Hp) (vs:List V) (Q:VK) (E:XK),Room k (A.deeper (envOfC qual (defScope st) s.heap.objs.size f cdv))->sp vs H Q E->
    ∃t,PSs (iV P w K mg base N qual (defScope st) f cdv A outer s H E) (defBody st) t/\t { nx:=λz H'=>Q .non H',rt:=Q } (start N vs) H):FnOk P w K mg base (fu P w) (k+1) f fd ps sp:=by
 obtain⟨oc,od,kV,doc,pm,an,cdv,ct,osl,rfl,l,c⟩:=F.ex;exact fn_of l c S len (hbody cdv)
end
section
variable{X:Cx}{j k:Nat}{C:Addr}{ps:List Str}{sp:Sp}{x:Str}{p pos:Pos}{e:Expr}{es:List Expr}{t:TA}{E:XK}
theorem Hd(D:MethC X.prog X.w X.K X.mg X.base j C "__init__" ps sp)(mk:PySem.W.makesIn X.K C=true)(kc:PySem.W.keepIn X.K (.ref C)=true)(hm:X.mg x=some (.ref C))(hr:Room k X.A)(hx:Passes (fu X.prog X.w) X E)(ha:QA X (e::es) t)(hjk:j+1<=k:=by decide)(hg:Gl X x:=by rfl)(hdb:(x==("__debug__":Str))=false:=by decide)
  (he:notStar e=true:=by rfl) (hpl:(backTo pos (starEach es X.env)).any (·.1)=false:=by rfl) :
  PE X (.Call (.Name x p) (e::es) [] pos) (tMake C sp [] E t):=by
 obtain⟨f,fd,F,b,kp,a,n⟩:=D.ex;exact pe_make ⟨mk,a,n,kc⟩ F (hr.mono hjk) hg hm b .nil hx ha.h hdb (aW he) hpl
end
open PySem PySem.Spec PyProof.Rows
section
variable{X:Cx}{CX:CXT}{k:Nat}{f C:Addr}{fd:FuncData}{ps:List Str}{sp:Sp}{E:XK}
theorem Jz(F:FnOk X.prog X.w X.K X.mg X.base CX k f fd ps sp)(hr:Room k X.A.in1)(hb:Binds X.K fd ps [])(hx:Passes CX X E)
  (I:Inv X Xp σ H s) (r:Vals vs us) (h:sp vs H Q E):wpAny (model X.prog X.w) X.A.in1 (call (.ref f) us) (EP X Xp σ Q) X.xe s:=by
 have hl:(us++[]).length=ps.length:=by rw[Vi,<-r.length];exact F.len _ _ _ _ h
 have hl':us.length=ps.length:=by rw[Vi]at hl;exact hl
 have bb:=hb s us I.kIn hl;rw[Vi]at bb;refine wpAny_call (V9 (F.run X.A.in1 X.stack s H ⟨us,[]⟩ us vs Q E hr ⟨(show X.A.in1.frames=some X.stack from I.ok.frames),I.ok.mod,I.bs,R7 I.ok.bsz I.sz,I.stack,I.stkFree,I.hok,I.bare⟩ bb r h) λr s' hq=>?_)
 cases r with
 |error e=>exact hx Xp σ H s e s' I hq
 |ok fl=>
   cases fl with
   |ret u=>exact I.after hq
   |next=>exact False.elim hq
   |brk=>exact False.elim hq
   |cont=>exact False.elim hq
theorem CG(D:MethC X.prog X.w X.K X.mg X.base j C "__len__" ps sp)(hr:Room (j+1) X.A)(hx:Passes (fu X.prog X.w) X E):
  CallR X (.builtin "len") (λvs H Q=>∃x dx fs,vs=[.ref x]/\H x=some (.ins C dx fs)/\sp [.ref x] H (λv H2=>∃n:Int,v=.int n/\(0<=n/\n<2^63)/\Q (.int n) H2) E):=by
 intro Xp s σ H vs us Q I r h;obtain⟨x,dx,fs,rfl,hx',q⟩:=h;obtain⟨f,fd,F,b,kp,a,n⟩:=D.ex;obtain⟨u,rfl,ru⟩:=vals1 r;cases ru;obtain⟨mA,O,_⟩:=ins_get I.hok hx';obtain⟨od,IA,_⟩:=O.look;refine V4 PySem.kind_len PySem.plain_len PySem.entry_len (PySem.args_len1 _) ?_;unfold Builtin.«len»
 refine RD (m:=oneArg "len" _) (RJ ?_);refine RD (m:=callSpecial? (.ref x) (Str.ofString "__len__")) (PySem.W.special_fn I.kIn IA a (W8.mp n) (Sg (Jz (vs:=[.ref x]) F hr.in1 b hx I (.cons rfl .nil) q) (λw' s' hw=>?_) λz z y=>y))
 obtain⟨v,H2,I2,rv,m,rfl,⟨h0,h1⟩,qq⟩:=hw;obtain⟨t,rfl⟩:=rv;refine RD (Tz (RJ ?_));refine RD (wpAny_letGo ?_);show wpAny _ _ (if m<0 then _ else _) _ _ _
 rw[R3 (by lia)]
 show wpAny _ _ (if m ≥ 2^63 then _ else _) _ _ _
 rw[R3 (by lia)]
 exact RD (wpAny_mkInt (RJ ⟨_,rfl,.int m,H2,I2.tok _,⟨_,rfl⟩,qq⟩))
end
theorem bJ:∀ (names:List (Str×NameKind)) (n:Nat) (acc:List (Str×Addr)),cellsFrom n names acc=cellsFrom n names []++acc
 |[],_,_=>rfl
 |(name,kind)::r,n,acc=>by
   unfold cellsFrom;split
   ·rw[bJ r (n+1) ((name,n)::acc),bJ r (n+1) [(name,n)],Uq];rfl
   ·exact bJ r n acc
theorem o4
  (hQ:Q (newEnv scope s.heap.objs.size globals (cellsFrom (s.heap.objs.size+1) scope.names cl) qual none .none (some env) builtinsNs) { s with heap:=pushCells (s.heap.push { cls:=.type "dict",data:=.dict #[] }) scope.names }) :
  wpAny M A (newFunctionEnv scope globals cl [] qual none .none (some env)) Q E s:=by
 simp only[newFunctionEnv,Option.isSome_some,if_true];refine RD (wpAny_alloc ?_);refine RD (wpAny_layCells _ (λname kind cells=>by cases hkc:kind==NameKind.cell<;>simp[hkc]) _ _ _ _ ?_)
 rw[show ({ s with heap:=s.heap.push { cls:=.type "dict",data:=.dict #[] } }:Shared).heap.objs.size=s.heap.objs.size+1 from Sy ..]
 refine RD ?_;rw[List.forIn_nil];exact RJ (RJ hQ)
abbrev Cx.aU(X:Cx)(Xp:List (Addr×Obj))(scope:Scope)(cs:List (Str×Addr))(Nc:List Str)(fp:List Addr)(C:Addr)(s₂:Shared)(H₂:Hp):Cx where
 prog:=X.prog
 w:=X.w
 K:=X.K
 mg:=X.mg
 base:=X.base
 A:=X.A
 N:=Nc
 s₀:=s₂
 H₀:=H₂
 env:=compEnvC scope cs C X.env
 outer:=X.stack
 stack:=X.stack
 ex:=fp
 fn:=λy=>scope.names.lookup y==some .cell
 calm:=X.calm
 pn:=X.pn++Xp
 xe:=λ_ _=>False
structure CompG(X:Cx)(scope:Scope)(cl:List (Str×Addr))(own:List Str)(js:List Nat)(fr:List Str):Prop where
 kind:scope.kind=.function
 names:∀y∈scope.names,y.2=.local->scope.names.lookup y.1=some .local
 clos:closureFor scope X.env=pure cl
 sub:∀y c,cl.lookup y=some c->X.env.cells.lookup y=some c
 has:∀(m:Nat) y,((relabel scope X.env).names.lookup y=some .cell\/(relabel scope X.env).names.lookup y=some .free)->∃c,(cellsFrom m scope.names cl).lookup y=some c
 nd:(own++fr).Nodup
 len:js.length=fr.length
 newc:∀(m:Nat) y c,(cellsFrom m scope.names []).lookup y=some c->scope.names.lookup y=some .cell
 oldc:∀y c,cl.lookup y=some c->scope.names.lookup y≠some .cell
 fre:∀(k j:Nat) (y:Str),js[k]?=some j->fr[k]?=some y->X.N[j]?=some y/\(X.env.scope.names.lookup y=some .cell\/X.env.scope.names.lookup y=some .free)/\((relabel scope X.env).names.lookup y=some .cell\/(relabel scope X.env).names.lookup y=some .free)/\∃c,cl.lookup y=some c
theorem jg:∀ {l m:List (Str×α)},(l++m).lookup y=some c->l.lookup y=some c\/(l.lookup y=none/\m.lookup y=some c)
 |[],_,h=>.inr ⟨rfl,h⟩
 |(k,v)::r,m,h=>by
   rw[VH,Vf]at h;rw[Vf];split at h
   ·exact .inl h
   ·exact jg h
theorem fU:∀ {l m:List (Str×α)},l.lookup y=none->(l++m).lookup y=m.lookup y
 |[],_,_=>rfl
 |(k,v)::r,m,h=>by
   rw[Vf]at h;rw[VH,Vf];split at h
   ·cases h
   ·exact fU h
section
variable{X:Cx}{Xp:List (Addr×Obj)}{σ:St}{H:Hp}{s:Shared}{scope:Scope}{cl:List (Str×Addr)}{own:List Str}{js:List Nat}{fr:List Str}{fp:List Addr}{C m:Addr}
theorem vY{hh:Heap}(T:CompG X scope cl own js fr)(I:Inv X Xp σ H s)(f:∀ b∈fp,FpOk X Xp H b)(hlt:∀ b∈fp,b<s.heap.objs.size)(hC:s.heap.objs.size<=C)(hm:m=hh.objs.size)(hms:s.heap.objs.size<=m):
  (X.aU Xp scope (cellsFrom m scope.names cl) (own++fr) fp C s H).Ok:=by
 have ok:CellsOk (pushCells hh scope.names) m (cellsFrom m scope.names []):=by
  have:=cellsFrom_ok scope.names hh m [] ⟨λx x hm=>(nomatch hm),List.Pairwise.nil⟩ (by rw[hm];exact RX _)
  rw[<-hm]at this;exact this
 have hold:∀y c,cl.lookup y=some c->c<s.heap.objs.size:=λy c e=>by obtain⟨v,q⟩:=I.cell y c (T.sub _ _ e);exact q.lt
 have spl:∀y c,(cellsFrom m scope.names cl).lookup y=some c->(m<=c/\(cellsFrom m scope.names []).lookup y=some c)\/(cl.lookup y=some c/\c<s.heap.objs.size):=λy c e=>by
  rw[bJ]at e;rcases jg e with z | ⟨_,z⟩
  ·exact .inl ⟨(ok.empty _ _ (T3 z)).2,z⟩
  ·exact .inr ⟨z,hold _ _ z⟩
 refine⟨I.ok.mod,T.kind,I.ok.glob,I.ok.blt,hC,λy z c h1 h2=>?_,λy h=>T.has m y h,λy c h1 h2=>?_,I.ok.hd,I.ok.frames,.inl rfl,λb hb=>⟨R5 (RQ (hlt b hb) hC),λy c h=>?_⟩,λb o e=>I.bs b o e,R7 I.ok.bsz I.sz,λb o e hb=>?_,λb hb hm'=>?_,I.stack,I.stkFree⟩
 ·rcases spl _ _ h1 with ⟨a1,a2⟩ | ⟨a1,a2⟩
  ·rcases spl _ _ h2 with ⟨b1,b2⟩ | ⟨b1,b2⟩
   ·exact name_of_addr ok.apart (T3 a2) (T3 b2)
   ·exact absurd (RQ b2 hms) (Up.mpr a1)
  ·rcases spl _ _ h2 with ⟨b1,b2⟩ | ⟨b1,b2⟩
   ·exact absurd (RQ a2 hms) (Up.mpr b1)
   ·exact I.ok.inj y z c (T.sub _ _ a1) (T.sub _ _ b1)
 ·rcases spl _ _ h2 with ⟨a1,a2⟩ | ⟨a1,a2⟩
  ·exact R7 hms a1
  ·exact absurd (by simpa using h1) (T.oldc _ _ a1)
 ·rcases spl _ _ h with ⟨a1,a2⟩ | ⟨a1,a2⟩
  ·exact λz=>absurd (RQ (hlt b hb) hms) (Up.mpr (z ▸ a1))
  ·exact (f b hb).2.2.2.2.1 y c (T.sub _ _ a1)
 ·rcases (f b hb).2.2.2.1 with z | z
  ·exact I.ok.noex b o e z
  ·exact absurd (RQ (RN e) I.ok.bsz) (Up.mpr z)
 ·rcases R8.mp (I.stkSub b hm') with z | z
  ·exact (f b hb).2.1 z
  ·exact (f b hb).2.2.1 z
theorem uM(T:CompG X scope cl own js fr)(I:Inv X Xp σ H s)(f:∀ b∈fp,FpOk X Xp H b)(hlt:∀ b∈fp,b<s.heap.objs.size)
  (k:∀b o,s.heap.get? b=some o->h'.get? b=some o) (ha:s.heap.objs.size<=acc) (hC:s.heap.objs.size<=C) (hne:C≠acc) (hm:m=hh.objs.size) (hms:s.heap.objs.size<=m) (hCm:C<m) (ham:acc<m) (hh':h'=pushCells hh scope.names)
  (new:∃n,h'.get? acc=some { cls:=.type "list",data:=.seq #[] n }) (ns:h'.Ns C mm) :
  Inv (X.aU Xp scope (cellsFrom m scope.names cl) (own++fr) fp C s H) [] (List.replicate own.length none++pick js σ) (upd H acc (.lst [])) { s with heap:=h',toks:=t' }:=by
 have ok:CellsOk (pushCells hh scope.names) m (cellsFrom m scope.names []):=by
  have:=cellsFrom_ok scope.names hh m [] ⟨λx x hm=>(nomatch hm),List.Pairwise.nil⟩ (by rw[hm];exact RX _)
  rw[<-hm]at this;exact this
 have hold:∀y c,cl.lookup y=some c->c<s.heap.objs.size:=λy c e=>by obtain⟨v,q⟩:=I.cell y c (T.sub _ _ e);exact q.lt
 have spl:∀y c,(cellsFrom m scope.names cl).lookup y=some c->(m<=c/\h'.IsCell c none)\/(cl.lookup y=some c/\c<s.heap.objs.size):=λy c e=>by
  rw[bJ]at e;rcases jg e with z | ⟨_,z⟩
  ·have:=ok.empty _ _ (T3 z);exact .inl ⟨this.2,by rw[hh'];exact this.1⟩
  ·exact .inr ⟨z,hold _ _ z⟩
 have hn:H acc=none:=I.hok.fresh ha;have fC:H C=none:=I.hok.fresh hC;have ob:ObjOk X.prog X.w (upd H acc (.lst [])) h' acc (.lst []):=by obtain⟨n,e⟩:=new;exact⟨Vn _,[],n,.nil,e⟩
 refine⟨vY T I f hlt hC hm hms,rfl,I.bare,Un.laid k ha hn,⟨mm,ns,λi y v h1 h2 h3=>?_⟩,λy c e=>?_,by show upd H acc _ C=none;rw[upd_ne hne];exact fC,λy c e=>?_,λp hp=>?_,I.hok.laid k ha ob,?_⟩
 ·have h1:(own++fr)[i]?=some y:=h1;by_cases hi:i<own.length
  ·rw[RZ (by rw[Tv];exact hi),Vb]at h2
   split at h2<;>cases h2
  ·rw [List.getElem?_append_right (by lia)] at h1
   rw[Sh (by rw[Tv];lia),Tv]at h2
   unfold pick at h2;rw[R0]at h2;cases hj:js[i-own.length]? with
   |none=>rw[hj]at h2;cases h2
   | some j=>
     rw[hj]at h2;have h2s:(σ[j]?).getD none=some v:=RP h2;have h2'':σ[j]?=some (some v):=by
      cases z:σ[j]? with
      |none=>rw[z]at h2s;cases h2s
      |some w=>rw[z]at h2s;exact congrArg some h2s
     obtain⟨g1,g2,g3,c,gc⟩:=T.fre _ j y hj h1;obtain⟨mX,_,hl⟩:=I.loc;have vis:Vis X.env.scope y:=g2.elim (λz=>.inr (.inl z)) λz=>.inr (.inr z)
     obtain⟨u,r,q⟩:=hl j y v g1 h2'' vis;refine⟨u,r,.inr ⟨g3,c,?_,?_⟩⟩
     ·show (cellsFrom m scope.names cl).lookup y=some c;rw[bJ];cases z:(cellsFrom m scope.names []).lookup y with
      |none=>rw[fU z];exact gc
      |some c'=>exact absurd (T.newc m y c' z) (T.oldc y c gc)
     ·have hc':=T.sub _ _ gc;rcases q with ⟨q,_⟩ | ⟨_,c2,e2,z⟩
      ·have q:X.env.scope.names.lookup y=some .local:=q;rcases g2 with g2 | g2<;>(rw[g2]at q;cases q)
      ·rw[hc']at e2;cases e2;exact z.keeps k
 ·rcases spl y c e with ⟨_,z⟩ | ⟨z,_⟩
  ·exact⟨_,z⟩
  ·obtain⟨v,q⟩:=I.cell y c (T.sub _ _ z);exact⟨v,q.keeps k⟩
 ·rcases spl y c e with ⟨z,_⟩ | ⟨z,lt⟩
  ·show upd H acc _ c=none;rw[upd_ne (λ(q:c=acc)=>absurd ham (Up.mpr (q ▸ z)))]
   exact I.hok.fresh (R7 hms z)
  ·show upd H acc _ c=none;rw[upd_ne (λ(q:c=acc)=>absurd lt (Up.mpr (q ▸ ha)))]
   exact I.freeC y c (T.sub _ _ z)
 ·have hp':p∈X.pn++Xp:=by simpa using hp
  obtain⟨e,n,ne,nf,d⟩:=I.pin p hp';refine⟨k _ _ e,?_,R5 (RQ (RN e) hC),λhm=>?_,d⟩
  ·show upd H acc _ p.1=none;rw[upd_ne (λz=>absurd (RN e) (by rw[z];exact Up.mpr ha))]
   exact n
  ·rcases R8.mp (I.stkSub _ hm) with z | z
   ·exact ne z
   ·exact nf z
 ·show (List.replicate own.length none++pick js σ).length=(own++fr).length;unfold pick;rw[R6,Tv,RT,R6,T.len]
end
section
variable{prog:Program}{w:World}{A:Around}{R:Result->Shared->Prop}{s:Shared}
def p8(ifs:List Expr)(env:Env):Sem Bool:=forIn ifs true λc r=>if r=true then do let ok <-isTrue c env (eval c env);pure (ForInStep.yield ok) else pure (ForInStep.yield r)
def turnOf(g:Comprehension)(bodyK:Sem Fin->Sem Fin)(c:Code)(it:Value)(env:Env):Sem Fin:=do
 standAt g.iter.pos
 match <-pyNext it with
 |none=>pure (.done .next)
 |some v=>
   letOwnedTupleGo g.target it v
   assign g.target env v
   let ok <-p8 g.ifs env
   if ok then bodyK (again c) else again c
def sG(elt:Expr)(acc:Value)(env:Env)(k:Sem Fin):Sem Fin:=do
 (do let _ <-call (.builtin "list.append") [acc,<-eval elt env])
 k
theorem HW(elt target iter:Expr)(ifs:List Expr)(scope:Scope)(pos:Pos)(it acc:Value)(env:Env):
  compTurn (.ListComp elt [⟨target,iter,ifs,0⟩] scope pos) 0 it acc env=turnOf ⟨target,iter,ifs,0⟩ (sG elt acc env) (.compLoop (.ListComp elt [⟨target,iter,ifs,0⟩] scope pos) 0 it acc env) it env:=rfl
def jM(prog:Program)(w:World)(A:Around)(bodyK:Sem Fin->Sem Fin)(W:(Shared->Prop)->Shared->Prop):Prop:=
 ∀(k:Sem Fin) (Q:Fin->Shared->Prop) (E:Value->Shared->Prop) (s:Shared),W (λs'=>wpAny (model prog w) A k Q E s') s->wpAny (model prog w) A (bodyK k) Q E s
theorem Dg:jM prog w A (sG elt acc env) (λP s=>wpAny (model prog w) A (eval elt env) (λx s1=>wpAny (model prog w) A (call (.builtin "list.append") [acc,x]) (λy s2=>P s2) (λy y=>False) s1) (λy y=>False) s):=by intro k Q E s h;unfold sG;exact RD (RD (Sg h (λx s1 h1=>RD (Sg h1 (λy s2 h2=>RJ h2) λy y z=>z.elim)) λy y z=>z.elim))
theorem G4(I:Nat->Shared->Prop)
  (hturn:compTurn (.ListComp elt gens scope pos) depth it acc env=turnOf g bodyK (.compLoop (.ListComp elt gens scope pos) depth it acc env) it env) (hW:jM prog w A bodyK W)
  (turn:∀ n s,I n s->wpAny (model prog w) A (pyNext it) (λr s₁=>match r with
    |none=>R (.ok .next) s₁
    |some v=>wpAny (model prog w) A (letOwnedTupleGo g.target it v) (λz s₂=>wpAny (model prog w) A (assign g.target env v) (λz s₃=>
      wpAny (model prog w) A (p8 g.ifs env) (λok s₄=>if ok=true then W (λs₅=>∃m,m<n/\I m s₅) s₄ else ∃m,m<n/\I m s₄) (λz z=>False) s₃) (λz z=>False) s₂) (λz z=>False) s₁) (λz z=>False) s)
  (hmono:∀P P' s,(∀s,P s->P' s)->W P s->W P' s)
  (n:Nat) (h:I n s):codeAny (model prog w) A (.compLoop (.ListComp elt gens scope pos) depth it acc env) R s:=by
 refine codeAny_loop rfl I (λn s hI=>?_) n h
 show wpAny _ A ((compTurn (.ListComp elt gens scope pos) depth it acc env).onRaise (λx=>do noteFrame x env;theTreesLotGoes x)) _ _ s
 refine wpAny_noted ?_;rw[hturn];unfold turnOf;refine RD (Va (RD (Sg (turn n s hI) (λr s₁ h₁=>?_) λz z h'=>h'.elim)))
 cases r with
 |none=>exact RJ h₁
 | some v=>
   refine RD (Sg h₁ (λz s₂ h₂=>RD (Sg h₂ (λz s₃ h₃=>RD (Sg h₃ (λok s₄ h₄=>?_) λz z h'=>h'.elim)) λz z h'=>h'.elim)) λz z h'=>h'.elim)
   cases ok with
   |false=>have h₄:∃m,m<n/\I m s₄:=h₄;exact RJ ⟨rfl,h₄⟩
   |true=>
     have h₄:W (λs₅=>∃m,m<n/\I m s₅) s₄:=h₄
     exact hW _ _ _ _ (hmono _ _ _ (λs₅ h₅=>RJ ⟨rfl,h₅⟩) h₄)
theorem uY(hg:gens[depth]?=some g)(ha:g.is_async=0)
  (h0:codeAny (model prog w) A (.compLoop (.ListComp elt gens scope pos) depth it acc env) R s)
  (h:wpAny (model prog w) A (pyIter it) (λit' s'=>codeAny (model prog w) A (.compLoop (.ListComp elt gens scope pos) depth it' acc env) R s') (λz z=>False) s) :
  codeAny (model prog w) A (.compStart (.ListComp elt gens scope pos) depth it acc env) R s:=by
 refine Xh ?_;show wpAny _ _ ((compStart (.ListComp elt gens scope pos) depth it acc env).onRaise (λx=>do noteFrame x env;standAt theWindowsPlace)) _ _ s
 refine wpAny_notedAt ?_;unfold compStart;have e1:(((clausesOf (.ListComp elt gens scope pos))[depth]?).elim false (·.is_async != 0))=false:=by show ((gens[depth]?).elim false (·.is_async != 0))=false;rw[hg];show (g.is_async != 0)=false;rw[ha];rfl
 rw[e1];simp only[Bool.false_eq_true,if_false,pure_bind];refine RD (UT (wpAny_ite ?_));split
 ·first
   |exact RD (RJ (RJ (And.intro rfl h0)))
   |exact RJ (And.intro rfl h0)
 ·refine RD (U5 ?_);have e2:(clausesOf (.ListComp elt gens scope pos))[depth]?=some g:=hg;rw[e2];exact RD (Va (RD (Sg h (λit' s' h'=>RJ (And.intro rfl h')) λz z x=>x.elim)))
end
section
variable{prog:Program}{w:World}{A:Around}{E:Value->Shared->Prop}{s:Shared}
theorem Be(hi:IsTupIter s.heap ia t k)(ht:IsTup s.heap t its)(hy:its[k]?=some y)
  (hQ:∀h',IsTupIter h' ia t (k+1)->Heap.SameBut ia s.heap h'->Q y { s with heap:=h' }):wpAny (model prog w) A (Builtin.SmallTypes.nextOf (.ref ia)) Q E s:=by
 obtain⟨oi,hoi,hci,hdi⟩:=id hi;obtain⟨ot,hot,_,nt,hdt⟩:=ht;unfold Builtin.SmallTypes.nextOf;refine RD (Tf (name:=Str.ofString "__next__") hi.typeIs V1 (Tc V1 hi.typeIs entry_tupleiter_next ?_ (args_tupleiter_next _)));show wpAny _ _ (field (.ref ia) 0>>=_) _ _ s;refine RD (Tg hoi hdi (x:=.ref t) rfl ?_);show wpAny _ _ (if (Value.ref t==Value.none)=true then _ else _) _ _ s
 rw[R3 (λz:(Value.ref t==Value.none)=true=>R4 z)]
 show wpAny _ _ (field (.ref ia) 1>>=_) _ _ s;refine RD (Tg hoi hdi (x:=.int k 0) rfl ?_);show wpAny _ _ (seqItems? (.ref t)>>=_) _ _ s;refine RD (Ub hot hdt ?_);simp only[Int.toNat_natCast,hy];refine RD (Ui hoi hdi (by simp) (RJ ⟨y,rfl,RJ (hQ _ ⟨_,VB _ hoi (Obj.isFreed_of_fields (Obj.data_mapFields hdi _)),(Obj.cls_mapFields ..).trans hci,?_⟩ (Vc ..))⟩))
 rw[Obj.data_mapFields hdi];simp[rawInt]
theorem yO(hh:A.handled=none)(hi:IsTupIter s.heap ia t k)(ht:IsTup s.heap t its)(hy:its[k]?=none)
  (hE:∀h' e,Heap.ExtBut ia s.heap h'->(∃o,h'.get? e=some o/\o.cls=.type "StopIteration")->E (.ref e) { s with heap:=h' }):wpAny (model prog w) A (Builtin.SmallTypes.nextOf (.ref ia)) Q E s:=by
 obtain⟨oi,hoi,hci,hdi⟩:=id hi;obtain⟨ot,hot,_,nt,hdt⟩:=ht;unfold Builtin.SmallTypes.nextOf;refine RD (Tf (name:=Str.ofString "__next__") hi.typeIs V1 (Tc V1 hi.typeIs entry_tupleiter_next ?_ (args_tupleiter_next _)));show wpAny _ _ (field (.ref ia) 0>>=_) _ _ s;refine RD (Tg hoi hdi (x:=.ref t) rfl ?_);show wpAny _ _ (if (Value.ref t==Value.none)=true then _ else _) _ _ s
 rw[R3 (λz:(Value.ref t==Value.none)=true=>R4 z)]
 show wpAny _ _ (field (.ref ia) 1>>=_) _ _ s;refine RD (Tg hoi hdi (x:=.int k 0) rfl ?_);show wpAny _ _ (seqItems? (.ref t)>>=_) _ _ s;refine RD (Ub hot hdt ?_);simp only[Int.toNat_natCast,hy];refine RD (U5 (RD (Ui hoi hdi (by simp) ?_)))
 show wpAny _ _ (newExc (.type "StopIteration") ([]:List Value)>>=λy=>_) _ _ _
 refine RD ?_;simp only[newExc,newTuple];refine RD (SQ ?_ (by size_fits:_))
 refine RD (m:=firstArgMember _ _) (V0 (a:=Value.none) (by first | rfl | simp only[firstArgMember]) ?_)
 refine SQ ?_ (by size_fits:_)
 simp only[raiseNew];refine RD (wpAny_handled ?_)
 first | rw[hh] | rw[show A.in1.handled=none from hh]
 refine RD (RJ (wpAny_throw (hE _ _ (((Vc ..).extBut.push _).push _) ⟨_,RM _ rfl,rfl⟩)))
end
structure SubIt(P:Program)(w:World)(i l:Addr)(its:Array Value)(st:Nat->Heap->Prop):Prop where
 obj:∀k h,st k h->(∃o,h.get? i=some o/\∀v,o.data≠.cell v)/\∃o,h.get? l=some o
 keep:∀k h h',st k h->(∀o,h.get? i=some o->h'.get? i=some o)->(∀o,h.get? l=some o->h'.get? l=some o)->st k h'
 item:∀(A:Around) k (s:Shared) x (Q:Value->Shared->Prop) (E:Value->Shared->Prop),st k s.heap->its[k]?=some x->(∀h',st (k+1) h'->Heap.SameBut i s.heap h'->Q x { s with heap:=h' })->wpAny (model P w) A (Builtin.SmallTypes.nextOf (.ref i)) Q E s
 done:∀(A:Around) k (s:Shared) (Q:Value->Shared->Prop) (E:Value->Shared->Prop),A.handled=none->st k s.heap->its[k]?=none->(∀h' e,Heap.ExtBut i s.heap h'->(∃o,h'.get? e=some o/\o.cls=.type "StopIteration")->E (.ref e) { s with heap:=h' })->wpAny (model P w) A (Builtin.SmallTypes.nextOf (.ref i)) Q E s
theorem JM(hne:l≠i)(its:Array Value):SubIt P w i l its (λk h=>IsTupIter h i l k/\IsTup h l its) where
 obj:=λk h ⟨⟨o,e,_,d⟩,⟨o',e',_⟩⟩=>⟨⟨o,e,λv z=>by rw[d]at z;cases z⟩,o',e'⟩
 keep:=λk h h' ⟨⟨o,e,r⟩,⟨o',e',r'⟩⟩ k1 k2=>⟨⟨o,k1 _ e,r⟩,⟨o',k2 _ e',r'⟩⟩
 item:=λA k s x Q E st hx hQ=>Be st.1 st.2 hx λh' h1 h2=>hQ h' ⟨h1,st.2.extBut h2.extBut hne⟩ h2
 done:=λA k s Q E hh st hx hE=>yO hh st.1 st.2 hx hE
theorem JL(hne:l≠i)(its:Array Value):SubIt P w i l its (λk h=>h.IsListIter i l k/\h.IsList l its) where
 obj:=λk h ⟨⟨o,e,_,d⟩,⟨o',e',_⟩⟩=>⟨⟨o,e,λv z=>by rw[d]at z;cases z⟩,o',e'⟩
 keep:=λk h h' ⟨⟨o,e,r⟩,⟨o',e',r'⟩⟩ k1 k2=>⟨⟨o,k1 _ e,r⟩,⟨o',k2 _ e',r'⟩⟩
 item:=λA k s x Q E st hx hQ=>wpAny_nextOf_list_item st.1 st.2 hx λh' h1 h2=>hQ h' ⟨h1,st.2.extBut h2.extBut hne⟩ h2
 done:=λA k s Q E hh st hx hE=>wpAny_nextOf_list_end hh st.1 st.2 hx hE
abbrev pK(h:Heap)(T1:String)(l1:Addr):Heap:=h.push { cls:=.type T1,data:=.fields #[.ref l1,.int 0 0] }
abbrev HY(h:Heap)(T1 T2:String)(l1 l2:Addr):Heap:=(pK h T1 l1).push { cls:=.type T2,data:=.fields #[.ref l2,.int 0 0] }
abbrev H8(h:Heap)(T1 T2:String)(l1 l2:Addr):Heap:=(HY h T1 T2 l1 l2).push { cls:=.type "tuple",data:=.seq #[.ref h.objs.size,.ref (pK h T1 l1).objs.size] }
abbrev qI(h:Heap)(T1 T2:String)(l1 l2:Addr):Heap:=(H8 h T1 T2 l1 l2).push { cls:=.type "tuple",data:=.seq #[.none,.none] }
abbrev mH(h:Heap)(T1 T2:String)(l1 l2:Addr):Heap:=(qI h T1 T2 l1 l2).push { cls:=.type "zip",data:=.fields #[.none,.bool false,.bool false,.ref (HY h T1 T2 l1 l2).objs.size,.ref (H8 h T1 T2 l1 l2).objs.size] }
theorem wV(l1 l2:Addr)(xs ys:Array Value):
  Meets (Builtin.«zip.__new__» ⟨[.type "zip",.ref l1,.ref l2],[]⟩) (λz R s=>IsTup s.heap l1 xs/\IsTup s.heap l2 ys/\R (.ok (.ret (.ref (qI s.heap "tuple_iterator" "tuple_iterator" l1 l2).objs.size))) { s with heap:=mH s.heap "tuple_iterator" "tuple_iterator" l1 l2 }):=
 .of_wp λprog w A R s h=>by
  obtain⟨hp,gn,dr,tk,os⟩:=s;obtain⟨k1,k2,h⟩:=h;have hsub:=sub_zip;have K1:IsTup (Shared.heap ⟨hp,gn,dr,tk,os⟩) l1 xs:=k1;have K2:IsTup (Shared.heap ⟨hp.push { cls:=.type "tuple_iterator",data:=.fields #[.ref l1,.int 0 0] },gn,dr,tk,os⟩) l2 ys:=k2.push _
  wp_walk using W0 K1,W0 K2
  exact⟨_,rfl,h⟩
theorem wR(l1 l2:Addr)(xs ys:Array Value):
  Meets (Builtin.«zip.__new__» ⟨[.type "zip",.ref l1,.ref l2],[]⟩) (λz R s=>s.heap.IsList l1 xs/\IsTup s.heap l2 ys/\R (.ok (.ret (.ref (qI s.heap "list_iterator" "tuple_iterator" l1 l2).objs.size))) { s with heap:=mH s.heap "list_iterator" "tuple_iterator" l1 l2 }):=
 .of_wp λprog w A R s h=>by
  obtain⟨hp,gn,dr,tk,os⟩:=s;obtain⟨k1,k2,h⟩:=h;have hsub:=sub_zip;have K1:Heap.IsList (Shared.heap ⟨hp,gn,dr,tk,os⟩) l1 xs:=k1;have K2:IsTup (Shared.heap ⟨hp.push { cls:=.type "list_iterator",data:=.fields #[.ref l1,.int 0 0] },gn,dr,tk,os⟩) l2 ys:=k2.push _
  wp_walk using U8 K1,W0 K2
  exact⟨_,rfl,h⟩
theorem wU(l1 l2:Addr)(xs ys:Array Value):
  Meets (Builtin.«zip.__new__» ⟨[.type "zip",.ref l1,.ref l2],[]⟩) (λz R s=>IsTup s.heap l1 xs/\s.heap.IsList l2 ys/\R (.ok (.ret (.ref (qI s.heap "tuple_iterator" "list_iterator" l1 l2).objs.size))) { s with heap:=mH s.heap "tuple_iterator" "list_iterator" l1 l2 }):=
 .of_wp λprog w A R s h=>by
  obtain⟨hp,gn,dr,tk,os⟩:=s;obtain⟨k1,k2,h⟩:=h;have hsub:=sub_zip;have K1:IsTup (Shared.heap ⟨hp,gn,dr,tk,os⟩) l1 xs:=k1;have K2:Heap.IsList (Shared.heap ⟨hp.push { cls:=.type "tuple_iterator",data:=.fields #[.ref l1,.int 0 0] },gn,dr,tk,os⟩) l2 ys:=Heap.IsList.push k2 _
  wp_walk using W0 K1,U8 K2
  exact⟨_,rfl,h⟩
theorem wQ(l1 l2:Addr)(xs ys:Array Value):
  Meets (Builtin.«zip.__new__» ⟨[.type "zip",.ref l1,.ref l2],[]⟩) (λz R s=>s.heap.IsList l1 xs/\s.heap.IsList l2 ys/\R (.ok (.ret (.ref (qI s.heap "list_iterator" "list_iterator" l1 l2).objs.size))) { s with heap:=mH s.heap "list_iterator" "list_iterator" l1 l2 }):=
 .of_wp λprog w A R s h=>by
  obtain⟨hp,gn,dr,tk,os⟩:=s;obtain⟨k1,k2,h⟩:=h;have hsub:=sub_zip;have K1:Heap.IsList (Shared.heap ⟨hp,gn,dr,tk,os⟩) l1 xs:=k1;have K2:Heap.IsList (Shared.heap ⟨hp.push { cls:=.type "list_iterator",data:=.fields #[.ref l1,.int 0 0] },gn,dr,tk,os⟩) l2 ys:=Heap.IsList.push k2 _
  wp_walk using U8 K1,U8 K2
  exact⟨_,rfl,h⟩
def eQ(b:Bool)(h:Heap)(l:Addr)(xs:Array Value):Prop:=if b then IsTup h l xs else h.IsList l xs
def pL(b:Bool)(i l:Addr)(xs:Array Value)(k:Nat)(h:Heap):Prop:=(if b then IsTupIter h i l k else h.IsListIter i l k)/\eQ b h l xs
theorem jq(b:Bool)(hne:l≠i)(its:Array Value):SubIt P w i l its (pL b i l its):=by
 cases b with
 |true=>exact JM hne its
 |false=>exact JL hne its
theorem eQ.lt(q:eQ b h l xs):l<h.objs.size:=by
 cases b with
 |true=>obtain⟨o,e,_⟩:=(show IsTup h l xs from q);exact RN e
 |false=>obtain⟨o,e,_⟩:=(show h.IsList l xs from q);exact RN e
theorem eQ.keep(q:eQ b h l xs)(k:∀o,h.get? l=some o->h'.get? l=some o):eQ b h' l xs:=by
 cases b with
 |true=>obtain⟨o,e,r⟩:=(show IsTup h l xs from q);exact⟨o,k _ e,r⟩
 |false=>obtain⟨o,e,r⟩:=(show h.IsList l xs from q);exact⟨o,k _ e,r⟩
section
variable{P:Program}{w:World}{A:Around}{E:Value->Shared->Prop}{s:Shared}{l1 l2:Addr}{xs ys:Array Value}
theorem CN(k1:eQ b1 s.heap l1 xs)(k2:eQ b2 s.heap l2 ys)
  (h:∀h',IsZip h' (s.heap.objs.size+4) (s.heap.objs.size+2) (s.heap.objs.size+3) .none->IsPair h' (s.heap.objs.size+2) (.ref s.heap.objs.size) (.ref (s.heap.objs.size+1))->IsPair h' (s.heap.objs.size+3) .none .none->
    pL b1 s.heap.objs.size l1 xs 0 h'->pL b2 (s.heap.objs.size+1) l2 ys 0 h'->h'.objs.size=s.heap.objs.size+5->(∀c o,s.heap.get? c=some o->h'.get? c=some o)->Q (.ref (s.heap.objs.size+4)) { s with heap:=h' }) :
  wpAny (model P w) A (call (.type "zip") [.ref l1,.ref l2]) Q E s:=by
 have fin:∀T1 T2,(∀h' k,h'.get? s.heap.objs.size=some { cls:=.type T1,data:=.fields #[.ref l1,.int 0 0] }->eQ b1 h' l1 xs->k=0->pL b1 s.heap.objs.size l1 xs k h')->
   (∀h' k,h'.get? (s.heap.objs.size+1)=some { cls:=.type T2,data:=.fields #[.ref l2,.int 0 0] }->eQ b2 h' l2 ys->k=0->pL b2 (s.heap.objs.size+1) l2 ys k h')->
   s.TypeIs (.ref (qI s.heap T1 T2 l1 l2).objs.size) "zip"\/True->Q (.ref (qI s.heap T1 T2 l1 l2).objs.size) { s with heap:=mH s.heap T1 T2 l1 l2 }/\({ s with heap:=mH s.heap T1 T2 l1 l2 }:Shared).TypeIs (.ref (qI s.heap T1 T2 l1 l2).objs.size) "zip":=by
  intro T1 T2 f1 f2 _;have z1:(pK s.heap T1 l1).objs.size=s.heap.objs.size+1:=Sy ..
  have z2:(HY s.heap T1 T2 l1 l2).objs.size=s.heap.objs.size+2:=by rw[Sy,z1]
  have z3:(H8 s.heap T1 T2 l1 l2).objs.size=s.heap.objs.size+3:=by rw[Sy,z2]
  have z4:(qI s.heap T1 T2 l1 l2).objs.size=s.heap.objs.size+4:=by rw[Sy,z3]
  have z5:(mH s.heap T1 T2 l1 l2).objs.size=s.heap.objs.size+5:=by rw[Sy,z4]
  have up:∀c o,s.heap.get? c=some o->(mH s.heap T1 T2 l1 l2).get? c=some o:=λc o q=>RG _ (RG _ (RG _ (RG _ (RG _ q))))
  have q5:(mH s.heap T1 T2 l1 l2).get? (qI s.heap T1 T2 l1 l2).objs.size=some _:=RM _ rfl;have q4:(mH s.heap T1 T2 l1 l2).get? (H8 s.heap T1 T2 l1 l2).objs.size=some _:=RG _ (RM _ rfl);have q3:(mH s.heap T1 T2 l1 l2).get? (HY s.heap T1 T2 l1 l2).objs.size=some _:=RG _ (RG _ (RM _ rfl));have q2:(mH s.heap T1 T2 l1 l2).get? (pK s.heap T1 l1).objs.size=some _:=RG _ (RG _ (RG _ (RM _ rfl)));have q1:(mH s.heap T1 T2 l1 l2).get? s.heap.objs.size=some _:=RG _ (RG _ (RG _ (RG _ (RM _ rfl))));rw[z2,z3,z4]at q5;rw[z1,z2]at q3;rw[z3]at q4;rw[z1]at q2;rw[z4];exact⟨h _ q5 q3 q4 (f1 _ 0 q1 (k1.keep λo q=>up _ _ q) rfl) (f2 _ 0 q2 (k2.keep λo q=>up _ _ q) rfl) z5 up,_,q5,rfl⟩
 cases b1 with
 | true=>cases b2 with
   |true=>
     refine Wh F.called_zip (by decide) (Wv _ _) (WY _ _) (λobj=>VJ obj _ _) WN (wV l1 l2 xs ys) ⟨k1,k2,?_⟩
     obtain⟨a1,a2⟩:=fin "tuple_iterator" "tuple_iterator" (λh' k q q' e=>by subst e;exact⟨⟨_,q,rfl,rfl⟩,q'⟩) (λh' k q q' e=>by subst e;exact⟨⟨_,q,rfl,rfl⟩,q'⟩) (.inr trivial)
     exact⟨a2,a1⟩
   |false=>
     refine Wh F.called_zip (by decide) (Wv _ _) (WY _ _) (λobj=>VJ obj _ _) WN (wU l1 l2 xs ys) ⟨k1,k2,?_⟩
     obtain⟨a1,a2⟩:=fin "tuple_iterator" "list_iterator" (λh' k q q' e=>by subst e;exact⟨⟨_,q,rfl,rfl⟩,q'⟩) (λh' k q q' e=>by subst e;exact⟨⟨_,q,rfl,rfl⟩,q'⟩) (.inr trivial)
     exact⟨a2,a1⟩
 | false=>cases b2 with
   |true=>
     refine Wh F.called_zip (by decide) (Wv _ _) (WY _ _) (λobj=>VJ obj _ _) WN (wR l1 l2 xs ys) ⟨k1,k2,?_⟩
     obtain⟨a1,a2⟩:=fin "list_iterator" "tuple_iterator" (λh' k q q' e=>by subst e;exact⟨⟨_,q,rfl,rfl⟩,q'⟩) (λh' k q q' e=>by subst e;exact⟨⟨_,q,rfl,rfl⟩,q'⟩) (.inr trivial)
     exact⟨a2,a1⟩
   |false=>
     refine Wh F.called_zip (by decide) (Wv _ _) (WY _ _) (λobj=>VJ obj _ _) WN (wQ l1 l2 xs ys) ⟨k1,k2,?_⟩
     obtain⟨a1,a2⟩:=fin "list_iterator" "list_iterator" (λh' k q q' e=>by subst e;exact⟨⟨_,q,rfl,rfl⟩,q'⟩) (λh' k q q' e=>by subst e;exact⟨⟨_,q,rfl,rfl⟩,q'⟩) (.inr trivial)
     exact⟨a2,a1⟩
end
section
variable{X:Cx}{Xp:List (Addr×Obj)}{σ:St}{H:Hp}{s:Shared}{h':Heap}
theorem Inv.turnedL{t':Nat}{ch:List Addr}(I:Inv X Xp σ H s)(k:∀b o,b∉ch->s.heap.get? b=some o->h'.get? b=some o)(hf:∀b∈ch,FpOk X Xp H b)(hL:∀b∈ch,b≠X.env.locals):Inv X Xp σ H { s with heap:=h',toks:=t' }:=by
 have nit:∀b u,H b=some u->b∉ch:=λb u e z=>by have:=(hf b z).1;rw[e]at this;cases this
 refine I.step (g':=s.gens) (d':=s.drawn) (ch:=ch) (λb hb=>?_) (λb o y y hc e y=>k b o hc e) (λb o y y hc e y=>⟨o.slots,k b o hc e⟩) (λy y y y n=>n)
  (λb o hc e=>⟨o,k b o hc e⟩) (λy y e=>e) (λy y y e=>e) (λb ps e=>⟨#[],by rw[e];simp⟩) (λm hm=>?_) (λb u e=>?_) I.bare
 ·obtain⟨_,f1,_,f3,f4,f5⟩:=hf b hb;exact⟨f3,f1,f4,f5⟩
 ·obtain⟨o,es,ep,ho,r⟩:=hm;exact⟨o,es,ep,k _ o (λz=>(hL _ z) rfl) ho,r⟩
 ·refine (I.hok b u e).stay (λc v hc q=>k c v ?_ q) (λy q=>q) λy y q=>q
  rcases hc with z | z
  ·rw[z];exact nit b u e
  ·exact nit c _ z
theorem Inv.turnedLay{t':Nat}{ch:List Addr}{p:Addr}{o:HO}(I:Inv X Xp σ H s)(k:∀ b o,b∉ch->s.heap.get? b=some o->h'.get? b=some o)(hf:∀ b∈ch,FpOk X Xp H b)(hp:s.heap.objs.size<=p)(new:ObjOk X.prog X.w (upd H p o) h' p o):Inv X Xp σ (upd H p o) { s with heap:=h',toks:=t' }:=by
 have nit:∀b u,H b=some u->b∉ch:=λb u e z=>by have:=(hf b z).1;rw[e]at this;cases this
 have hn:H p=none:=I.hok.fresh hp;have tr:∀b u,H b=some u->upd H p o b=some u:=λb u e=>by rw[upd_ne (ne_of_none e hn)];exact e
 refine I.step (g':=s.gens) (d':=s.drawn) (ch:=ch) (λb hb=>?_) (λb o x x hc e x=>k b o hc e) (λb o x x hc e x=>⟨o.slots,k b o hc e⟩) (λb u x e n=>by rw[upd_ne (R5 (RQ (RN e) hp))];exact n)
  (λb o hc e=>⟨o,k b o hc e⟩) (λb xs e=>tr b _ e) (λb x x e=>tr b _ e) (λb ps e=>⟨#[],by rw[tr b _ e];simp⟩) (λm hm=>?_) (λb u e=>?_) I.bare
 ·obtain⟨_,f1,_,f3,f4,f5⟩:=hf b hb;exact⟨f3,f1,f4,f5⟩
 ·obtain⟨o,es,ep,ho,r⟩:=hm;exact⟨o,es,ep,k _ o (λz=>(hf _ z).2.1 rfl) ho,r⟩
 ·by_cases z:b=p
  ·subst z;rw[upd_same]at e;cases e;exact new
  ·rw[upd_ne z]at e;refine (I.hok b u e).stay (λc v hc q=>k c v ?_ q) (λc q=>tr c _ q) (λc xs q=>tr c _ q) λc o q=>tr c _ q
   rcases hc with y | y
   ·rw[y];exact nit b u e
   ·exact nit c _ y
end
def ju(b:Bool)(K:PySem.W.Frag)(H:Hp)(l:Addr)(xs:List V):Prop:=if b then SqT K H l xs else SqL K H l xs
theorem Inv.seqS{X:Cx}{Xp:List (Addr×Obj)}{σ:St}{H:Hp}{s:Shared}{b:Bool}{l:Addr}{xs:List V}(I:Inv X Xp σ H s)(h:ju b X.K H l xs):∃its:List Value,Vals xs its/\eQ b s.heap l its.toArray/\xs.length<=sizeLine:=by
 cases b with
 |true=>obtain⟨its,r,p,z⟩:=I.tuple (show SqT X.K H l xs from h);exact⟨its,r,p,z⟩
 |false=>obtain⟨its,r,p,z⟩:=I.list (show SqL X.K H l xs from h);exact⟨its,r,p.isList,z⟩
theorem Inv.seqS_inj{X:Cx}{Xp:List (Addr×Obj)}{σ:St}{H:Hp}{s:Shared}{b:Bool}{l:Addr}{xs ys:List V}(I:Inv X Xp σ H s)(h:ju b X.K H l xs)(q:ju b X.K H l ys):xs=ys:=by
 cases b with
 |true=>exact I.tuple_inj (show SqT X.K H l xs from h) q
 |false=>exact I.list_inj (show SqL X.K H l xs from h) q
def bu(b:Bool)(i l:Addr)(k:Nat)(h:Heap):Prop:=if b then IsTupIter h i l k else h.IsListIter i l k
theorem bu.keep{b:Bool}{i l:Addr}{k:Nat}{h h':Heap}(q:bu b i l k h)(kk:∀o,h.get? i=some o->h'.get? i=some o):bu b i l k h':=by
 cases b with
 |true=>obtain⟨o,e,r⟩:=(show IsTupIter h i l k from q);exact⟨o,kk _ e,r⟩
 |false=>obtain⟨o,e,r⟩:=(show h.IsListIter i l k from q);exact⟨o,kk _ e,r⟩
theorem bu.obj{b:Bool}{i l:Addr}{k:Nat}{h:Heap}(q:bu b i l k h):∃o,h.get? i=some o/\∀v,o.data≠.cell v:=by
 cases b with
 |true=>obtain⟨o,e,_,d⟩:=(show IsTupIter h i l k from q);exact⟨o,e,λv z=>by rw[d]at z;cases z⟩
 |false=>obtain⟨o,e,_,d⟩:=(show h.IsListIter i l k from q);exact⟨o,e,λv z=>by rw[d]at z;cases z⟩
def JR(K:PySem.W.Frag)(b1 b2:Bool)(l1 l2:Addr):It:=
 ⟨fun i H=>∃xs ys x y,ju b1 K H l1 xs∧ju b2 K H l2 ys∧xs[i]?=some x∧ys[i]?=some y,
  λi H v H'=>∃p,H p=none/\v=.ref p/\∀xs ys,ju b1 K H l1 xs->ju b2 K H l2 ys->∃x y,xs[i]?=some x/\ys[i]?=some y/\H'=upd H p (.tup [x,y]),
  λi H=>∃xs ys,ju b1 K H l1 xs/\ju b2 K H l2 ys/\(xs[i]?=none\/ys[i]?=none)⟩
abbrev bF(h:Heap)(z TI TO:Addr)(f0 f1:Value):Prop:=h.get? z=some { cls:=.type "zip",dict:=none,data:=.fields #[f0,f1,.bool false,.ref TI,.ref TO],slots:=#[] }
section
variable{P:Program}{w:World}{A:Around}{E:Value->Shared->Prop}{s:Shared}{z TI TO i1 i2 l1 l2:Addr}{xs ys:Array Value}{st1 st2:Nat->Heap->Prop}
theorem yI(h:Q (s.heap.get? a) s):wpAny M A (loadIfAlive a) Q E s:=λz z z=>h
theorem xq(hfr:f0=.none\/∃p:Addr,f0=rawInt p/\s.heap.get? p=none)(hz:bF s.heap z TI TO f0 f1)(h:Q true s):wpAny M A (Builtin.SmallTypes.ownedTupleIsFree (.ref z)) Q E s:=by
 unfold Builtin.SmallTypes.ownedTupleIsFree;rcases hfr with rfl | ⟨p,rfl,hp⟩
 ·exact RD (Tg hz rfl (x:=.none) rfl (RJ h))
 ·refine RD (Tg hz rfl (x:=rawInt p) rfl ?_);refine RD (yI ?_);rw[show ((p:Int).toNat:Nat)=p from TQ p,hp]
  exact RJ h
theorem xn(hp:s.heap.get? p=some o)(hz:bF s.heap z TI TO (rawInt p) (.bool b))(h:∀ h',bF h' z TI TO (rawInt p) (.bool true)->Heap.SameBut z s.heap h'->Q false { s with heap:=h' }):wpAny (model P w) A (Builtin.SmallTypes.ownedTupleIsFree (.ref z)) Q E s:=by
 unfold Builtin.SmallTypes.ownedTupleIsFree;refine RD (Tg hz rfl (x:=rawInt p) rfl ?_);refine RD (yI ?_);rw[show ((p:Int).toNat:Nat)=p from TQ p,hp]
 simp only[Option.isNone_some,Bool.false_eq_true,if_false];refine RD (Tg hz rfl (x:=.bool b) rfl ?_);cases b with
 |true=>
   rw[R3 (by decide)]
   exact RJ (h s.heap hz (Heap.SameBut.refl _ _))
 |false=>
   rw[R1 (by decide)]
   exact RD (wpAny_setField_rec (k:=1) (x:=.bool true) hz (by simp) λg1 hz1 e1=>RJ (h g1 hz1 e1))
theorem Gd{k:Nat}{Q:Value->Shared->Prop}(D:ZipApart z TI TO i1 i2 l1 l2)(S1:SubIt P w i1 l1 xs st1)(S2:SubIt P w i2 l2 ys st2)(hfr:f0=.none\/∃p:Addr,f0=rawInt p/\s.heap.get? p=none)(hz:bF s.heap z TI TO f0 f1)(hTI:IsPair s.heap TI (.ref i1) (.ref i2))(hTO:IsPair s.heap TO a b)(h1:st1 k s.heap)(h2:st2 k s.heap)(hx:xs[k]?=some x)(hy:ys[k]?=some y)
  (hQ:∀h',IsZip h' z TI TO (rawInt s.heap.objs.size)->IsPair h' TO x y->st1 (k+1) h'->st2 (k+1) h'->IsPair h' s.heap.objs.size x y->h'.objs.size=s.heap.objs.size+1->(∀c o,c≠z->c≠TO->c≠i1->c≠i2->s.heap.get? c=some o->h'.get? c=some o)->Q (.ref s.heap.objs.size) { s with heap:=h' }) :
  wpAny (model P w) A (Builtin.«zip.__next__» ⟨[.ref z],[]⟩) (λfin s'=>∃v,fin=.done (.ret v)/\Q v s') E s:=by
 show wpAny _ _ (field (.ref z) 2>>=λu=>_) _ _ _
 refine RD (Tg hz rfl (x:=.bool false) rfl (show _ from ?_))
 show wpAny _ _ (field (.ref z) 3>>=λu=>_) _ _ _
 refine RD (Tg hz rfl (x:=.ref TI) rfl (show _ from ?_))
 refine RD (Ub hTI rfl (show _ from ?_))
 show wpAny _ _ (Builtin.SmallTypes.ownedTupleIsFree (.ref z)>>=λu=>_) _ _ _
 refine RD (xq hfr hz ?_);simp only[if_true];refine RD (U5 (show _ from ?_))
 refine RD (Tg hz rfl (x:=.ref TO) rfl (show _ from ?_))
 refine RD (wpAny_setField_rec hz (by simp) λg1 hz1 e1=>?_)
 replace hz1:bF g1 z TI TO .ellipsis f1:=hz1;have n1:=(S1.obj _ _ h1).2;refine RD ?_;simp only[List.zipIdx_cons,List.zipIdx_nil,List.forIn_cons,List.forIn_nil];refine RD (RD (wpAny_onRaise (show _ from ?_)))
 show wpAny _ _ (Builtin.SmallTypes.nextOf (.ref i1)>>=λu=>_) _ _ _
 refine RD (S1.item _ k _ x _ _ (S1.keep _ _ _ h1 (λo q=>e1.extBut _ _ D.i1z q) λo q=>e1.extBut _ _ D.l1z q) hx λg2 h12 e2=>RJ ?_)
 have hTO2:IsPair g2 TO a b:=e2.extBut _ _ D.TOi1 (e1.extBut _ _ D.TOz hTO);refine RD (Ub hTO2 rfl (show _ from ?_))
 refine RD (wpAny_updateSeq_pair hTO2 λg3 hTO3 e3=>?_)
 replace hTO3:IsPair g3 TO x b:=hTO3;refine RD (wpAny_letGo (RJ (show _ from ?_)))
 refine RD (RD (wpAny_onRaise (show _ from ?_)))
 show wpAny _ _ (Builtin.SmallTypes.nextOf (.ref i2)>>=λu=>_) _ _ _
 refine RD (S2.item _ k _ y _ _ (S2.keep _ _ _ h2 (λo q=>e3.extBut _ _ D.TOi2.symm (e2.extBut _ _ D.i12.symm (e1.extBut _ _ D.i2z q))) λo q=>e3.extBut _ _ D.l2TO (e2.extBut _ _ D.l2i1 (e1.extBut _ _ D.l2z q))) hy λg4 h24 e4=>RJ ?_)
 have hTO4:IsPair g4 TO x b:=e4.extBut _ _ D.TOi2 hTO3;refine RD (Ub hTO4 rfl (show _ from ?_))
 refine RD (wpAny_updateSeq_pair hTO4 λg5 hTO5 e5=>?_)
 replace hTO5:IsPair g5 TO x y:=hTO5;refine RD (wpAny_letGo (RJ (RJ (show _ from ?_))))
 refine RD (Ub hTO5 rfl (show _ from ?_))
 refine RD (wpAny_newTuple (show _ from ?_))
 have hsz:g5.objs.size=s.heap.objs.size:=by rw[e5.1,e4.1,e3.1,e2.1,e1.1]
 have hz5:bF g5 z TI TO .ellipsis f1:=e5.extBut _ _ D.TOz.symm (e4.extBut _ _ D.i2z.symm (e3.extBut _ _ D.TOz.symm (e2.extBut _ _ D.i1z.symm hz1)));have hk5:∀c o,c≠z->c≠TO->c≠i1->c≠i2->s.heap.get? c=some o->g5.get? c=some o:=λc o c1 c2 c3 c4 q=>e5.extBut _ _ c2 (e4.extBut _ _ c4 (e3.extBut _ _ c2 (e2.extBut _ _ c3 (e1.extBut _ _ c1 q))))
 have h15:st1 (k+1) g5:=S1.keep _ _ _ h12 (λo q=>e5.extBut _ _ D.TOi1.symm (e4.extBut _ _ D.i12 (e3.extBut _ _ D.TOi1.symm q))) λo q=>e5.extBut _ _ D.l1TO (e4.extBut _ _ D.l1i2 (e3.extBut _ _ D.l1TO q))
 have h25:st2 (k+1) g5:=S2.keep _ _ _ h24 (λo q=>e5.extBut _ _ D.TOi2.symm q) λo q=>e5.extBut _ _ D.l2TO q
 have hzlt:z<g5.objs.size:=RN hz5;show wpAny _ _ (Builtin.SmallTypes.ownedTupleHandOut (.ref z) (.ref g5.objs.size)>>=λu=>_) _ _ _
 refine RD ?_;unfold Builtin.SmallTypes.ownedTupleHandOut;have hz6:bF (g5.push { cls:=.type "tuple",data:=.seq #[x,y] }) z TI TO .ellipsis f1:=RG _ hz5;refine RD (wpAny_setField_rec hz6 (by simp) λg7 hz7 e7=>?_)
 replace hz7:bF g7 z TI TO (rawInt g5.objs.size) f1:=hz7;refine wpAny_setField_rec hz7 (by simp) λg8 hz8 e8=>?_
 replace hz8:IsZip g8 z TI TO (rawInt g5.objs.size):=hz8;have up:∀c o,c≠z->g5.get? c=some o->g8.get? c=some o:=λc o c1 q=>e8.extBut _ _ c1 (e7.extBut _ _ c1 (RG _ q))
 have hT8:IsPair g8 g5.objs.size x y:=e8.extBut _ _ (Vq hzlt) (e7.extBut _ _ (Vq hzlt) (RM _ rfl));have sz8:g8.objs.size=g5.objs.size+1:=by rw[e8.1,e7.1,Sy]
 rw[hsz]at hz8 hT8 sz8;refine RJ ⟨_,rfl,?_⟩;show Q (.ref g5.objs.size) _;rw[hsz];exact hQ g8 hz8 (up _ _ D.TOz hTO5) (S1.keep _ _ _ h15 (λo q=>up _ o D.i1z q) λo q=>up _ o D.l1z q) (S2.keep _ _ _ h25 (λo q=>up _ o D.i2z q) λo q=>up _ o D.l2z q) hT8 sz8 λc o c1 c2 c3 c4 q=>up c o c1 (hk5 c o c1 c2 c3 c4 q)
theorem Hs(hh:A.handled=none)(D:ZipApart z TI TO i1 i2 l1 l2)(S1:SubIt P w i1 l1 xs st1)(S2:SubIt P w i2 l2 ys st2)(hfr:f0=.none\/∃ p:Addr,f0=rawInt p/\s.heap.get? p=none)(hz:bF s.heap z TI TO f0 f1)(hTI:IsPair s.heap TI (.ref i1) (.ref i2))(hTO:IsPair s.heap TO a b)(h1:st1 k s.heap)(h2:st2 k s.heap)(hend:xs[k]?=none\/ys[k]?=none)
  (hE:∀h' e,(∀c o,c≠z->c≠TO->c≠i1->c≠i2->s.heap.get? c=some o->h'.get? c=some o)->(∃o,h'.get? e=some o/\o.cls=.type "StopIteration")->E (.ref e) { s with heap:=h' }) :
  wpAny (model P w) A (Builtin.«zip.__next__» ⟨[.ref z],[]⟩) Q E s:=by
 show wpAny _ _ (field (.ref z) 2>>=λy=>_) _ _ _
 refine RD (Tg hz rfl (x:=.bool false) rfl (show _ from ?_))
 show wpAny _ _ (field (.ref z) 3>>=λy=>_) _ _ _
 refine RD (Tg hz rfl (x:=.ref TI) rfl (show _ from ?_))
 refine RD (Ub hTI rfl (show _ from ?_))
 show wpAny _ _ (Builtin.SmallTypes.ownedTupleIsFree (.ref z)>>=λy=>_) _ _ _
 refine RD (xq hfr hz ?_);simp only[if_true];refine RD (U5 (show _ from ?_))
 refine RD (Tg hz rfl (x:=.ref TO) rfl (show _ from ?_))
 refine RD (wpAny_setField_rec hz (by simp) λg1 hz1 e1=>?_)
 replace hz1:bF g1 z TI TO .ellipsis f1:=hz1;refine RD ?_;simp only[List.zipIdx_cons,List.zipIdx_nil,List.forIn_cons,List.forIn_nil];refine RD (RD (wpAny_onRaise (show _ from ?_)))
 show wpAny _ _ (Builtin.SmallTypes.nextOf (.ref i1)>>=λy=>_) _ _ _
 have h11:st1 k g1:=S1.keep _ _ _ h1 (λo q=>e1.extBut _ _ D.i1z q) λo q=>e1.extBut _ _ D.l1z q
 cases hx:xs[k]? with
 |none=>
   refine RD (S1.done _ k _ _ _ hh h11 hx λg2 e e2 he=>?_)
   obtain⟨oe,hoe,hce⟩:=he;have hz2:bF g2 z TI TO .ellipsis f1:=e2 _ _ D.i1z.symm hz1;have hez:e≠z:=λq=>by subst q;rw[hz2]at hoe;cases hoe;simp at hce
   refine wpAny_setField_rec hz2 (by simp) λg3 y e3=>hE g3 e (λc o c1 y c3 y q=>e3.extBut _ _ c1 (e2 _ _ c3 (e1.extBut _ _ c1 q))) ⟨oe,e3.extBut _ _ hez hoe,hce⟩
 |some x=>
   have hy:ys[k]?=none:=by rcases hend with q | q;rw[hx]at q;cases q;exact q
   refine RD (S1.item _ k _ x _ _ h11 hx λg2 h12 e2=>RJ ?_)
   have hTO2:IsPair g2 TO a b:=e2.extBut _ _ D.TOi1 (e1.extBut _ _ D.TOz hTO);refine RD (Ub hTO2 rfl (show _ from ?_))
   refine RD (wpAny_updateSeq_pair hTO2 λg3 hTO3 e3=>?_)
   refine RD (wpAny_letGo (RJ (show _ from ?_)))
   refine RD (RD (wpAny_onRaise (show _ from ?_)))
   show wpAny _ _ (Builtin.SmallTypes.nextOf (.ref i2)>>=λy=>_) _ _ _
   refine RD (S2.done _ k _ _ _ hh (S2.keep _ _ _ h2 (λo q=>e3.extBut _ _ D.TOi2.symm (e2.extBut _ _ D.i12.symm (e1.extBut _ _ D.i2z q))) λo q=>e3.extBut _ _ D.l2TO (e2.extBut _ _ D.l2i1 (e1.extBut _ _ D.l2z q))) hy λg4 e e4 he=>?_)
   obtain⟨oe,hoe,hce⟩:=he;have hz4:bF g4 z TI TO .ellipsis f1:=e4 _ _ D.i2z.symm (e3.extBut _ _ D.TOz.symm (e2.extBut _ _ D.i1z.symm hz1));have hez:e≠z:=λq=>by subst q;rw[hz4]at hoe;cases hoe;simp at hce
   refine wpAny_setField_rec hz4 (by simp) λg5 y e5=>hE g5 e (λc o c1 c2 c3 c4 q=>e5.extBut _ _ c1 (e4 _ _ c4 (e3.extBut _ _ c2 (e2.extBut _ _ c3 (e1.extBut _ _ c1 q))))) ⟨oe,e5.extBut _ _ hez hoe,hce⟩
theorem Ge{k:Nat}{b:Bool}{Q:Value->Shared->Prop}(D:ZipApart z TI TO i1 i2 l1 l2)(S1:SubIt P w i1 l1 xs st1)(S2:SubIt P w i2 l2 ys st2)(hp:s.heap.get? p=some o)
  (hz:bF s.heap z TI TO (rawInt p) (.bool b)) (hTI:IsPair s.heap TI (.ref i1) (.ref i2)) (h1:st1 k s.heap) (h2:st2 k s.heap) (hx:xs[k]?=some x) (hy:ys[k]?=some y)
  (hQ:∀h',bF h' z TI TO (rawInt p) (.bool true)->st1 (k+1) h'->st2 (k+1) h'->IsPair h' s.heap.objs.size x y->h'.objs.size=s.heap.objs.size+1->(∀c o,c≠z->c≠i1->c≠i2->s.heap.get? c=some o->h'.get? c=some o)->Q (.ref s.heap.objs.size) { s with heap:=h' }) :
  wpAny (model P w) A (Builtin.«zip.__next__» ⟨[.ref z],[]⟩) (λfin s'=>∃v,fin=.done (.ret v)/\Q v s') E s:=by
 show wpAny _ _ (field (.ref z) 2>>=λu=>_) _ _ _
 refine RD (Tg hz rfl (x:=.bool false) rfl (show _ from ?_))
 show wpAny _ _ (field (.ref z) 3>>=λu=>_) _ _ _
 refine RD (Tg hz rfl (x:=.ref TI) rfl (show _ from ?_))
 refine RD (Ub hTI rfl (show _ from ?_))
 show wpAny _ _ (Builtin.SmallTypes.ownedTupleIsFree (.ref z)>>=λu=>_) _ _ _
 refine RD (xn hp hz λg1 hz1 e1=>?_)
 simp only[Bool.false_eq_true,if_false];rw[<-Wb];simp only[List.forIn_cons,List.forIn_nil];refine RD (RD (RD (Tz (show _ from ?_))))
 show wpAny _ _ (Builtin.SmallTypes.nextOf (.ref i1)>>=λu=>_) _ _ _
 refine RD (S1.item _ k _ x _ _ (S1.keep _ _ _ h1 (λo q=>e1.extBut _ _ D.i1z q) λo q=>e1.extBut _ _ D.l1z q) hx λg2 h12 e2=>RJ ?_)
 refine RJ ?_;refine RD (RD (Tz (show _ from ?_)))
 show wpAny _ _ (Builtin.SmallTypes.nextOf (.ref i2)>>=λu=>_) _ _ _
 refine RD (S2.item _ k _ y _ _ (S2.keep _ _ _ h2 (λo q=>e2.extBut _ _ D.i12.symm (e1.extBut _ _ D.i2z q)) λo q=>e2.extBut _ _ D.l2i1 (e1.extBut _ _ D.l2z q)) hy λg3 h23 e3=>RJ ?_)
 refine RJ (RJ ?_);refine RD (wpAny_newTuple (hsz:=by show 2<=sizeLine;decide) (show _ from ?_))
 have hsz:g3.objs.size=s.heap.objs.size:=by rw[e3.1,e2.1,e1.1]
 have up:∀c o,c≠z->c≠i1->c≠i2->s.heap.get? c=some o->g3.get? c=some o:=λc o c1 c3 c4 q=>e3.extBut _ _ c4 (e2.extBut _ _ c3 (e1.extBut _ _ c1 q))
 have hz3:bF g3 z TI TO (rawInt p) (.bool true):=e3.extBut _ _ D.i2z.symm (e2.extBut _ _ D.i1z.symm hz1);refine RJ ⟨_,rfl,?_⟩;show Q (.ref g3.objs.size) _;have hT:IsPair (g3.push { cls:=.type "tuple",data:=.seq #[x,y] }) g3.objs.size x y:=RM _ rfl;have h13:st1 (k+1) g3:=S1.keep _ _ _ h12 (λo q=>e3.extBut _ _ D.i12 q) λo q=>e3.extBut _ _ D.l1i2 q
 rw[hsz]at hT ⊢
 exact hQ _ (RG _ hz3) (S1.keep _ _ _ h13 (λo q=>RG _ q) λo q=>RG _ q) (S2.keep _ _ _ h23 (λo q=>RG _ q) λo q=>RG _ q) hT (by rw[Sy,hsz]) λc o c1 c3 c4 q=>RG _ (up c o c1 c3 c4 q)
theorem Ht(hh:A.handled=none)(D:ZipApart z TI TO i1 i2 l1 l2)(S1:SubIt P w i1 l1 xs st1)(S2:SubIt P w i2 l2 ys st2)(hp:s.heap.get? p=some o)
  (hz:bF s.heap z TI TO (rawInt p) (.bool b)) (hTI:IsPair s.heap TI (.ref i1) (.ref i2)) (h1:st1 k s.heap) (h2:st2 k s.heap) (hend:xs[k]?=none\/ys[k]?=none)
  (hE:∀h' e,(∀c o,c≠z->c≠TO->c≠i1->c≠i2->s.heap.get? c=some o->h'.get? c=some o)->(∃o,h'.get? e=some o/\o.cls=.type "StopIteration")->E (.ref e) { s with heap:=h' }) :
  wpAny (model P w) A (Builtin.«zip.__next__» ⟨[.ref z],[]⟩) Q E s:=by
 show wpAny _ _ (field (.ref z) 2>>=λy=>_) _ _ _
 refine RD (Tg hz rfl (x:=.bool false) rfl (show _ from ?_))
 show wpAny _ _ (field (.ref z) 3>>=λy=>_) _ _ _
 refine RD (Tg hz rfl (x:=.ref TI) rfl (show _ from ?_))
 refine RD (Ub hTI rfl (show _ from ?_))
 show wpAny _ _ (Builtin.SmallTypes.ownedTupleIsFree (.ref z)>>=λy=>_) _ _ _
 refine RD (xn hp hz λg1 hz1 e1=>?_)
 simp only[Bool.false_eq_true,if_false];rw[<-Wb];simp only[List.forIn_cons,List.forIn_nil];refine RD (RD (RD (Tz (show _ from ?_))))
 show wpAny _ _ (Builtin.SmallTypes.nextOf (.ref i1)>>=λy=>_) _ _ _
 have h11:st1 k g1:=S1.keep _ _ _ h1 (λo q=>e1.extBut _ _ D.i1z q) λo q=>e1.extBut _ _ D.l1z q
 cases hx:xs[k]? with
 |none=>exact RD (S1.done _ k _ _ _ hh h11 hx λg2 e e2 he=>hE g2 e (λc o c1 y c3 y q=>e2 _ _ c3 (e1.extBut _ _ c1 q)) he)
 |some x=>
   have hy:ys[k]?=none:=by rcases hend with q | q;rw[hx]at q;cases q;exact q
   refine RD (S1.item _ k _ x _ _ h11 hx λg2 h12 e2=>RJ ?_)
   refine RJ ?_;refine RD (RD (Tz (show _ from ?_)))
   show wpAny _ _ (Builtin.SmallTypes.nextOf (.ref i2)>>=λy=>_) _ _ _
   exact RD (S2.done _ k _ _ _ hh (S2.keep _ _ _ h2 (λo q=>e2.extBut _ _ D.i12.symm (e1.extBut _ _ D.i2z q)) λo q=>e2.extBut _ _ D.l2i1 (e1.extBut _ _ D.l2z q)) hy λg3 e e3 he=>hE g3 e (λc o c1 y c3 c4 q=>e3 _ _ c4 (e2.extBut _ _ c3 (e1.extBut _ _ c1 q))) he)
end
theorem kW{P:Program}{w:World}{A:Around}{E:Value->Shared->Prop}{s:Shared}{z TI TO:Addr}{f0 f1:Value}{Q:Option Value->Shared->Prop}(hz:bF s.heap z TI TO f0 f1)
  (h:wpAny (model P w) A.in1 (Builtin.«zip.__next__» ⟨[.ref z],[]⟩) (λfin s'=>∃v,fin=.done (.ret v)/\Q (some v) s') (λe s'=>∃o ea,e=.ref ea/\s'.heap.get? ea=some o/\o.cls=.type "StopIteration"/\Q none s') s):wpAny (model P w) A (pyNext (.ref z)) Q E s:=by
 have hT:s.TypeIs (.ref z) "zip":=⟨_,hz,rfl⟩;unfold pyNext;refine RD (U9 (Tf (name:=Str.ofString "__next__") hT F.slot_zip_next (Tc F.slot_zip_next hT F.entry_zip_next (Sg h (λfin s' q=>?_) λe s' q=>?_) (F.args_zip_next_1 _))))
 ·obtain⟨v,rfl,q⟩:=q;exact⟨v,rfl,RJ q⟩
 ·obtain⟨o,ea,rfl,ho,hc,q⟩:=q;exact RD (Ww (T := "StopIteration") (b:=true) ⟨o,ho,hc⟩ isSubtype_stop (RJ q))
theorem Fq{P:Program}{w:World}{A:Around}{E:Value->Shared->Prop}{s:Shared}{z TI TO:Addr}{f0 f1:Value}{Q:Value->Shared->Prop}(hz:bF s.heap z TI TO f0 f1)(h:Q (.ref z) s):wpAny (model P w) A (pyIter (.ref z)) Q E s:=by
 have ty:s.TypeIs (.ref z) "zip":=Exists.intro _ (And.intro hz rfl);refine W5 ty F.slot_zip_iter ?_;refine Tc (A:=A) F.slot_zip_iter ty F.entry_zip_iter ?_ (F.args_zip_iter_1 (.ref z));have fine:wpAny (model P w) A.in1 (ret (Value.ref z)) (λfin s'=>∃v,fin=Fin.done (Flow.ret v)/\∃T' r,s'.TypeIs v T'/\typeLookup (Value.type T') (Str.ofString "__next__")=pure (some r)/\Q v s') E s:=
  RJ (Exists.intro (Value.ref z) (And.intro rfl (Exists.intro "zip" ⟨_,ty,F.slot_zip_next.lookup,h⟩)))
 exact fine
def jN(z TI TO:Addr)(h:Heap):Prop:=∃f0 b,bF h z TI TO f0 (.bool b)/\(f0=.none\/∃p:Addr,f0=rawInt p)
def JW(tg:Expr):Prop:=(∃nm tp,tg=.Name nm tp)\/∃es x1 tp,tg=.Tuple es x1 tp
theorem I9{P:Program}{w:World}{A:Around}{E:Value->Shared->Prop}{s:Shared}{tg:Expr}{z TI TO T:Addr}{f0 f1:Value}{Q:Unit->Shared->Prop}(ht:JW tg)(hz:bF s.heap z TI TO f0 f1)
  (hQ:∀h' f0',bF h' z TI TO f0' f1->(f0'=f0\/f0'=.none)->Heap.SameBut z s.heap h'->Q () { s with heap:=h' }):wpAny (model P w) A (letOwnedTupleGo tg (.ref z) (.ref T)) Q E s:=by
 have q0:Q () s:=hQ s.heap f0 hz (.inl rfl) (.refl _ _);rcases ht with ⟨nm,tp,rfl⟩ | ⟨es,x1,tp,rfl⟩
 ·exact RJ q0
 ·unfold letOwnedTupleGo;refine RD (W7 hz ?_);show wpAny _ _ (if (["enumerate", "zip", "dict_itemiterator", "dict_reverseitemiterator", "odict_iterator", "itertools.zip_longest", "itertools.pairwise"].contains "zip"&&(#[f0,f1,.bool false,.ref TI,.ref TO]:Array Value)[0]?==some (rawInt T))=true then _ else _) Q E s
  split
  ·refine RD (U5 ?_);show wpAny _ _ (setField (.ref z) 0 .none) Q E s;exact wpAny_setField_rec hz (by simp) λh' hz' hs'=>hQ h' .none hz' (.inr rfl) hs'
  ·exact RJ q0
theorem FZ{P:Program}{w:World}{K:PySem.W.Frag}{tg:Expr}(ht:JW tg){b1 b2:Bool}{z TI TO i1 i2 l1 l2:Addr}(D:ZipApart z TI TO i1 i2 l1 l2):
  Turn P w K tg (JR K b1 b2 l1 l2) [z,TI,TO,i1,i2] z (λi h=>jN z TI TO h/\IsPair h TI (.ref i1) (.ref i2)/\(∃a b,IsPair h TO a b)/\bu b1 i1 l1 i h/\bu b2 i2 l2 i h) where
 mem:=by simp
 obj:=λi h st b hb=>by
  obtain⟨⟨_,_,hz,_⟩,hTI,⟨a,c,hTO⟩,h1,h2⟩:=st;simp only[List.mem_cons,List.mem_nil_iff,or_false]at hb;rcases hb with rfl | rfl | rfl | rfl | rfl
  ·exact⟨_,hz,λv q=>by cases q⟩
  ·exact⟨_,hTI,λv q=>by cases q⟩
  ·exact⟨_,hTO,λv q=>by cases q⟩
  ·exact h1.obj
  ·exact h2.obj
 keep:=λi h h' st k=>by obtain⟨⟨f0,b,hz,hf⟩,hTI,⟨a,c,hTO⟩,h1,h2⟩:=st;exact⟨⟨f0,b,k z (by simp) _ hz,hf⟩,k TI (by simp) _ hTI,⟨a,c,k TO (by simp) _ hTO⟩,h1.keep λo q=>k i1 (by simp) o q,h2.keep λo q=>k i2 (by simp) o q⟩
 item:=by
  intro X hP hw hK hc i Xp s σ H E I hf st hg;subst hP hw hK;obtain⟨⟨f0,b,hz,hf0⟩,hTI,⟨a,c,hTO⟩,h1,h2⟩:=st;obtain⟨xs,ys,x,y,s1,s2,hx,hy⟩:=hg;obtain⟨its1,r1,q1,_⟩:=I.seqS s1;obtain⟨its2,r2,q2,_⟩:=I.seqS s2;obtain⟨u1,e1,ru1⟩:=r1.get hx;obtain⟨u2,e2,ru2⟩:=r2.get hy;obtain⟨oz,hoz⟩:∃oz,s.heap.get? z=some oz/\oz.cls=.type "zip":=⟨_,hz,rfl⟩;have fin:∀ h',jN z TI TO h'->(∃ a b,IsPair h' TO a b)->IsPair h' TI (.ref i1) (.ref i2)->bu b1 i1 l1 (i + 1) h'->bu b2 i2 l2 (i + 1) h'->IsPair h' s.heap.objs.size u1 u2->(∀ c o,c≠z->c≠TO->c≠i1->c≠i2->s.heap.get? c=some o->h'.get? c=some o)->
    ∃v,some (Value.ref s.heap.objs.size)=some v/\wpAny (model X.prog X.w) X.A (letOwnedTupleGo tg (.ref z) v) (λu s2=>∃xv H',Inv X Xp σ H' s2/\RelV xv v/\(JR X.K b1 b2 l1 l2).yld i H xv H'/\(jN z TI TO s2.heap/\IsPair s2.heap TI (.ref i1) (.ref i2)/\(∃a b,IsPair s2.heap TO a b)/\bu b1 i1 l1 (i+1) s2.heap/\bu b2 i2 l2 (i+1) s2.heap)/\∀b∈[z,TI,TO,i1,i2],H' b=none) E { s with heap:=h' }:=by
   intro h' zs tos tis k1 k2 pr kk0;have lt:z<s.heap.objs.size:=RN hz;obtain⟨g0,gb,gz,gh⟩:=zs;refine⟨_,rfl,I9 (s:={ s with heap:=h' }) ht gz λh2 g0' gz2 g0h sbt=>?_⟩
   have mv:∀c o,c≠z->h'.get? c=some o->h2.get? c=some o:=λc o hc q=>sbt.extBut _ _ hc q
   have kk0:∀c o,c≠z->c≠TO->c≠i1->c≠i2->s.heap.get? c=some o->h2.get? c=some o:=λc o n1 n2 n3 n4 q=>mv c o n1 (kk0 c o n1 n2 n3 n4 q)
   have zs:jN z TI TO h2:=⟨g0',gb,gz2,g0h.elim (λe=>by rw[e];exact gh) λe=>.inl e⟩
   have tos:∃a b,IsPair h2 TO a b:=by obtain⟨a,b,q⟩:=tos;exact⟨a,b,mv _ _ D.TOz q⟩
   have tis:IsPair h2 TI (.ref i1) (.ref i2):=mv _ _ D.TIz tis;have k1:bu b1 i1 l1 (i+1) h2:=k1.keep λo q=>mv _ _ D.i1z q
   have k2:bu b2 i2 l2 (i+1) h2:=k2.keep λo q=>mv _ _ D.i2z q
   have pr:IsPair h2 s.heap.objs.size u1 u2:=mv _ _ (Vq lt) pr;have kk:∀b o,b∉[z,TI,TO,i1,i2]->s.heap.get? b=some o->h2.get? b=some o:=λb o hb q=>kk0 b o (λe=>hb (by simp[e])) (λe=>hb (by simp[e])) (λe=>hb (by simp[e])) (λe=>hb (by simp[e])) q
   have fresh:H s.heap.objs.size=none:=I.hok.fresh (RX _);have I1:Inv X Xp σ H { s with heap:=h2,toks:=s.toks }:=I.turnedL kk hf (λb hb=>(hf b hb).2.1)
   have nw:ObjOk X.prog X.w (upd H s.heap.objs.size (.tup [x,y])) h2 s.heap.objs.size (.tup [x,y]):=⟨by show 2<=sizeLine;decide,[u1,u2],.cons ru1 (.cons ru2 .nil),⟨_,pr,rfl,_,rfl⟩⟩
   have nfp:∀b∈[z,TI,TO,i1,i2],b≠s.heap.objs.size:=λb hb e=>by
    obtain⟨o,ho,_⟩:∃o,s.heap.get? b=some o/\True:=by
     simp only[List.mem_cons,List.mem_nil_iff,or_false]at hb;rcases hb with rfl | rfl | rfl | rfl | rfl
     ·exact⟨_,hz,trivial⟩
     ·exact⟨_,hTI,trivial⟩
     ·exact⟨_,hTO,trivial⟩
     ·obtain⟨o,q,_⟩:=h1.obj;exact⟨o,q,trivial⟩
     ·obtain⟨o,q,_⟩:=h2.obj;exact⟨o,q,trivial⟩
    exact absurd (RN ho) (by rw[e];exact UJ _)
   exact⟨.ref s.heap.objs.size,upd H s.heap.objs.size (.tup [x,y]),I.turnedLay (t':=s.toks) kk hf (RX _) nw,rfl,⟨_,fresh,rfl,λxs' ys' q1' q2'=>⟨x,y,by rw[I.seqS_inj q1' s1];exact hx,by rw[I.seqS_inj q2' s2];exact hy,rfl⟩⟩,⟨zs,tis,tos,k1,k2⟩,λb hb=>by rw[upd_ne (nfp b hb)];exact (hf b hb).1⟩
  have g1:=jq (P:=X.prog) (w:=X.w) b1 D.l1i1 its1.toArray;have g2:=jq (P:=X.prog) (w:=X.w) b2 D.l2i2 its2.toArray;have free:(f0=.none\/∃p:Addr,f0=rawInt p/\s.heap.get? p=none)->wpAny (model X.prog X.w) X.A.in1 (Builtin.«zip.__next__» ⟨[.ref z],[]⟩) (λfin s'=>∃v,fin=.done (.ret v)/\v=.ref s.heap.objs.size/\∃h',s'={ s with heap:=h' }/\jN z TI TO h'/\(∃a b,IsPair h' TO a b)/\bu b1 i1 l1 (i+1) h'/\bu b2 i2 l2 (i+1) h'/\IsPair h' s.heap.objs.size u1 u2/\(∀c o,c≠z->c≠TO->c≠i1->c≠i2->s.heap.get? c=some o->h'.get? c=some o)) (λu u=>False) s:=λhfr=>
   Gd (Q:=λv s'=>v=.ref s.heap.objs.size/\∃h',s'={ s with heap:=h' }/\jN z TI TO h'/\(∃a b,IsPair h' TO a b)/\bu b1 i1 l1 (i+1) h'/\bu b2 i2 l2 (i+1) h'/\IsPair h' s.heap.objs.size u1 u2/\(∀c o,c≠z->c≠TO->c≠i1->c≠i2->s.heap.get? c=some o->h'.get? c=some o)) D g1 g2 hfr hz hTI hTO ⟨h1,q1⟩ ⟨h2,q2⟩ (by simpa using e1) (by simpa using e2)
    λh' a1 a2 a3 a4 a5 a6 a7=>⟨rfl,h',rfl,⟨_,_,a1,.inr ⟨_,rfl⟩⟩,⟨_,_,a2⟩,a3.1,a4.1,a5,a7⟩
  have all:wpAny (model X.prog X.w) X.A.in1 (Builtin.«zip.__next__» ⟨[.ref z],[]⟩) (λfin s'=>∃ v,fin=.done (.ret v)/\v=.ref s.heap.objs.size/\∃ h',s'={ s with heap:=h' }/\jN z TI TO h'/\(∃ a b,IsPair h' TO a b)/\bu b1 i1 l1 (i + 1) h'/\bu b2 i2 l2 (i + 1) h'/\IsPair h' s.heap.objs.size u1 u2/\(∀ c o,c≠z->c≠TO->c≠i1->c≠i2->s.heap.get? c=some o->h'.get? c=some o)) (λu u=>False) s:=by
   rcases hf0 with hn | ⟨p,rfl⟩
   ·exact free (.inl hn)
   ·cases hp:s.heap.get? p with
    |none=>exact free (.inr ⟨p,rfl,hp⟩)
    | some o=>
      exact Ge (Q:=λv s'=>v=.ref s.heap.objs.size/\∃h',s'={ s with heap:=h' }/\jN z TI TO h'/\(∃a b,IsPair h' TO a b)/\bu b1 i1 l1 (i+1) h'/\bu b2 i2 l2 (i+1) h'/\IsPair h' s.heap.objs.size u1 u2/\(∀c o,c≠z->c≠TO->c≠i1->c≠i2->s.heap.get? c=some o->h'.get? c=some o)) D g1 g2 hp hz hTI ⟨h1,q1⟩ ⟨h2,q2⟩ (by simpa using e1) (by simpa using e2)
       λh' a1 a3 a4 a5 a6 a7=>⟨rfl,h',rfl,⟨_,_,a1,.inr ⟨_,rfl⟩⟩,⟨_,_,a7 _ _ D.TOz D.TOi1 D.TOi2 hTO⟩,a3.1,a4.1,a5,λc o n1 u n3 n4 q=>a7 c o n1 n3 n4 q⟩
  refine kW hz (Sg all (λfin' s' q=>?_) λu u q=>q.elim)
  obtain⟨v,rfl,rfl,h',rfl,c1,c2,c3,c4,c5,c6⟩:=q;exact⟨_,rfl,fin h' c1 c2 (c6 _ _ D.TIz D.TITO D.TIi1 D.TIi2 hTI) c3 c4 c5 c6⟩
 done:=by
  intro X hP hw hK hc i Xp s σ H E I hf st hg;subst hP hw hK;obtain⟨⟨f0,b,hz,hf0⟩,hTI,⟨a,c,hTO⟩,h1,h2⟩:=st;obtain⟨xs,ys,s1,s2,hend⟩:=hg;obtain⟨its1,r1,q1,_⟩:=I.seqS s1;obtain⟨its2,r2,q2,_⟩:=I.seqS s2;have hend':its1.toArray[i]?=none\/its2.toArray[i]?=none:=hend.imp (λq=>by simpa using r1.none_of q) λq=>by simpa using r2.none_of q
  have g1:=jq (P:=X.prog) (w:=X.w) b1 D.l1i1 its1.toArray;have g2:=jq (P:=X.prog) (w:=X.w) b2 D.l2i2 its2.toArray;have hh:X.A.in1.handled=none:=I.ok.hd hc;have out:∀h' e,(∀c o,c≠z->c≠TO->c≠i1->c≠i2->s.heap.get? c=some o->h'.get? c=some o)->(∃o,h'.get? e=some o/\o.cls=.type "StopIteration")->∃o ea,Value.ref e=.ref ea/\({ s with heap:=h' }:Shared).heap.get? ea=some o/\o.cls=.type "StopIteration"/\(none:Option Value)=none/\Inv X Xp σ H { s with heap:=h' }:=λh' e kk he=>by obtain⟨o,ho,hco⟩:=he;exact⟨o,e,rfl,ho,hco,rfl,I.turnedL (t':=s.toks) (λb o hb q=>kk b o (λe=>hb (by simp[e])) (λe=>hb (by simp[e])) (λe=>hb (by simp[e])) (λe=>hb (by simp[e])) q) hf (λb hb=>(hf b hb).2.1)⟩
  have free:(f0=.none\/∃p:Addr,f0=rawInt p/\s.heap.get? p=none)->wpAny (model X.prog X.w) X.A (pyNext (.ref z)) (λr s1=>r=none/\Inv X Xp σ H s1) E s:=λhfr=>
   kW hz (Hs hh D g1 g2 hfr hz hTI hTO ⟨h1,q1⟩ ⟨h2,q2⟩ hend' out)
  rcases hf0 with hn | ⟨p,rfl⟩
  ·exact free (.inl hn)
  ·cases hp:s.heap.get? p with
   |none=>exact free (.inr ⟨p,rfl,hp⟩)
   |some o=>exact kW hz (Ht hh D g1 g2 hp hz hTI ⟨h1,q1⟩ ⟨h2,q2⟩ hend' out)
 self:=λu u u u u st h=>by obtain⟨⟨_,_,hz,_⟩,_⟩:=st;exact Fq hz h
set_option tactic.hygienic true in
theorem wO(l:Addr)(xs:Array Value):
  Meets (Builtin.«enumerate.__new__» ⟨[.type "enumerate",.ref l],[]⟩) (λz R s=>IsTup s.heap l xs /\
   R (.ok (.ret (.ref (pK s.heap "tuple_iterator" l).objs.size))) { s with heap:=(pK s.heap "tuple_iterator" l).push { cls:=.type "enumerate",data:=.fields #[.none,.bool false,.ref s.heap.objs.size,rawInt 0,.none,.none] } }):=
 .of_wp λprog w A R s h=>by
  obtain⟨hp,gn,dr,tk,os⟩:=s;obtain⟨k1,h⟩:=h;have hsub:=sub_enumerate;have K1:IsTup (Shared.heap ⟨hp,gn,dr,tk,os⟩) l xs:=k1;obtain⟨ot,hot,r⟩:=id K1
  wp_walk using Wi hot
  refine wpAny_stack_any λsk=>RJ ?_
  split
  ·rename_i c _ _ _ _ _;cases (c==Value.type "enumerate")<;>(wp_walk using Wi hot,W0 K1;exact⟨_,rfl,h⟩)
  ·wp_walk using Wi hot,W0 K1
   exact⟨_,rfl,h⟩
section
variable{P:Program}{w:World}{A:Around}{E:Value->Shared->Prop}{s:Shared}{e it l:Addr}{xs:Array Value}{st:Nat->Heap->Prop}
theorem Ah(k1:eQ b s.heap l xs)
  (h:∀h',IsEnum h' (s.heap.objs.size+1) s.heap.objs.size 0 .none->pL b s.heap.objs.size l xs 0 h'->h'.objs.size=s.heap.objs.size+2->(∀c o,s.heap.get? c=some o->h'.get? c=some o)->Q (.ref (s.heap.objs.size+1)) { s with heap:=h' }) :
  wpAny (model P w) A (call (.type "enumerate") [.ref l]) Q E s:=by
 cases b with
 |false=>exact call_enumerate_list (show s.heap.IsList l xs from k1) λh' a1 a2 a3 a4=>h h' a1 ⟨a2,k1.keep λo q=>a4 _ _ q⟩ a3 a4
 |true=>
   refine Wh F.called_enumerate (by decide) (F.typeCall_enumerate_1 _) (F.newCall_enumerate_1 _) (λobj=>F.args_object_init_2 obj _) F.entry_enumerate_new (wO l xs) ⟨k1,?_⟩
   have z1:(pK s.heap "tuple_iterator" l).objs.size=s.heap.objs.size+1:=Sy ..
   have up:∀c o,s.heap.get? c=some o->((pK s.heap "tuple_iterator" l).push { cls:=.type "enumerate",data:=.fields #[.none,.bool false,.ref s.heap.objs.size,rawInt 0,.none,.none] }).get? c=some o:=λc o q=>RG _ (RG _ q)
   have q2:((pK s.heap "tuple_iterator" l).push { cls:=.type "enumerate",data:=.fields #[.none,.bool false,.ref s.heap.objs.size,rawInt 0,.none,.none] }).get? (pK s.heap "tuple_iterator" l).objs.size=some _:=RM _ rfl;have q1:((pK s.heap "tuple_iterator" l).push { cls:=.type "enumerate",data:=.fields #[.none,.bool false,.ref s.heap.objs.size,rawInt 0,.none,.none] }).get? s.heap.objs.size=some _:=RG _ (RM _ rfl);show _/\_;rw[z1]at q2 ⊢
   exact⟨⟨_,q2,rfl⟩,h _ q2 ⟨⟨_,q1,rfl,rfl⟩,k1.keep λo q=>up _ _ q⟩ (by rw[Sy,z1]) up⟩
theorem Az{i:Nat}{Q:Value->Shared->Prop}(S:SubIt P w it l xs st)(ne:e≠it)(nl:l≠e)(he:IsEnum s.heap e it i old)(h0:st i s.heap)(hx:xs[i]?=some x)
  (hQ:∀h',IsEnumOut h' e it ((i:Int)+1) x s.heap.objs.size->st (i+1) h'->IsPair h' s.heap.objs.size (.int i s.toks) x->h'.objs.size=s.heap.objs.size+1->
    (∀c o,c≠e->c≠it->s.heap.get? c=some o->h'.get? c=some o)->Q (.ref s.heap.objs.size) { s with heap:=h',toks:=s.toks+1 }) :
  wpAny (model P w) A (Builtin.«enumerate.__next__» ⟨[.ref e],[]⟩) (λfin s'=>∃v,fin=.done (.ret v)/\Q v s') E s:=by
 obtain⟨hp,gn,dr,tk,os⟩:=s;show wpAny _ _ (field (.ref e) 2>>=λz=>_) _ _ _
 refine RD (Tg he rfl (x:=.ref it) rfl (show _ from ?_))
 refine RD (S.item _ i _ x _ _ h0 hx λg1 n1 e1=>(show _ from ?_))
 replace e1:Heap.SameBut it hp g1:=e1;have c1:IsEnum g1 e it i old:=e1.extBut _ _ ne he;show wpAny _ _ (field (.ref e) 3>>=λz=>_) _ _ ⟨g1,gn,dr,tk,os⟩
 refine RD (Tg c1 rfl (x:=rawInt i) rfl (show _ from ?_))
 show wpAny _ _ (field (.ref e) 4>>=λz=>_) _ _ ⟨g1,gn,dr,tk,os⟩
 refine RD (Tg c1 rfl (x:=.none) rfl (show _ from ?_))
 show wpAny _ _ (mkInt i>>=λz=>_) _ _ ⟨g1,gn,dr,tk,os⟩
 refine RD (wpAny_mkInt (show _ from ?_))
 show wpAny _ _ (setField (.ref e) 3 (rawInt ((i:Int)+1))>>=λz=>_) _ _ ⟨g1,gn,dr,tk+1,os⟩
 refine RD (wpAny_setField_rec c1 (by simp) λg2 c2 e2=>?_)
 replace e2:Heap.SameBut e g1 g2:=e2;replace c2:IsEnum g2 e it ((i:Int)+1) old:=c2;show wpAny _ _ (setField (.ref e) 4 .none>>=λz=>_) _ _ ⟨g2,gn,dr,tk+1,os⟩
 refine RD (wpAny_setField_rec c2 (by simp) λg3 c3 e3=>?_)
 replace e3:Heap.SameBut e g2 g3:=e3;replace c3:IsEnum g3 e it ((i:Int)+1) old:=c3;show wpAny _ _ (newTuple [.int i tk,x]>>=λz=>_) _ _ ⟨g3,gn,dr,tk+1,os⟩
 refine RD (wpAny_newTuple (show _ from ?_))
 have c4:IsEnum (g3.push { cls:=.type "tuple",data:=.seq #[.int i tk,x] }) e it ((i:Int)+1) old:=RG _ c3;have sz:g3.objs.size=hp.objs.size:=by rw[e3.1,e2.1,e1.1]
 have el:e<hp.objs.size:=RN he;have t4:IsPair (g3.push { cls:=.type "tuple",data:=.seq #[.int i tk,x] }) hp.objs.size (.int i tk) x:=by rw[<-sz];exact RM _ rfl
 have z4:(g3.push { cls:=.type "tuple",data:=.seq #[.int i tk,x] }).objs.size=hp.objs.size+1:=by rw[Sy,sz]
 have k4:∀c o,c≠e->c≠it->hp.get? c=some o->(g3.push { cls:=.type "tuple",data:=.seq #[.int i tk,x] }).get? c=some o:=λc o a1 a2 q=>RG _ (e3.extBut _ _ a1 (e2.extBut _ _ a1 (e1.extBut _ _ a2 q)))
 have n4:st (i+1) (g3.push { cls:=.type "tuple",data:=.seq #[.int i tk,x] }):=S.keep _ _ _ n1 (λo q=>RG _ (e3.extBut _ _ ne.symm (e2.extBut _ _ ne.symm q))) λo q=>RG _ (e3.extBut _ _ nl (e2.extBut _ _ nl q))
 revert c4 t4 z4 k4 n4;generalize g3.push { cls:=.type "tuple",data:=.seq #[.int i tk,x] }=g4;intro c4 t4 z4 k4 n4;show wpAny _ _ (Builtin.SmallTypes.ownedTupleIsFree (.ref e)>>=λz=>_) _ _ ⟨g4,gn,dr,tk+1,os⟩
 rw[sz];refine RD ?_;unfold Builtin.SmallTypes.ownedTupleIsFree;refine RD (Tg c4 rfl (x:=.none) rfl (RJ (show _ from ?_)))
 simp only[if_true];refine RD (U5 (show _ from ?_))
 refine RD (Tg c4 rfl (x:=old) rfl (show _ from ?_))
 refine RD (wpAny_setField_rec c4 (by simp) λg5 c5 e5=>?_)
 replace e5:Heap.SameBut e g4 g5:=e5;replace c5:IsEnum g5 e it ((i:Int)+1) x:=c5;show wpAny _ _ (Builtin.SmallTypes.ownedTupleHandOut (.ref e) (.ref hp.objs.size)>>=λz=>_) _ _ ⟨g5,gn,dr,tk+1,os⟩
 refine RD ?_;unfold Builtin.SmallTypes.ownedTupleHandOut;refine RD (wpAny_setField_rec c5 (by simp) λg6 c6 e6=>?_)
 replace e6:Heap.SameBut e g5 g6:=e6;replace c6:IsEnumOut g6 e it ((i:Int)+1) x hp.objs.size:=c6;refine wpAny_setField_rec c6 (by simp) λg7 c7 e7=>?_
 replace e7:Heap.SameBut e g6 g7:=e7;replace c7:IsEnumOut g7 e it ((i:Int)+1) x hp.objs.size:=c7;have up:∀c o,c≠e->g4.get? c=some o->g7.get? c=some o:=λc o a1 q=>e7.extBut _ _ a1 (e6.extBut _ _ a1 (e5.extBut _ _ a1 q))
 refine RD (wpAny_letGo (RJ ⟨_,rfl,hQ g7 c7 ?_ (up _ _ (Vq el) t4) (by rw[e7.1,e6.1,e5.1,z4]) λc o a1 a2 q=>up _ _ a1 (k4 _ _ a1 a2 q)⟩))
 exact S.keep _ _ _ n4 (λo q=>up _ _ ne.symm q) λo q=>up _ _ nl q
theorem xF{i:Nat}{Q:Option Value->Shared->Prop}(S:SubIt P w it l xs st)(ne:e≠it)(nl:l≠e)(he:IsEnum s.heap e it i old)(h0:st i s.heap)(hx:xs[i]?=some x)
  (hQ:∀h',IsEnumOut h' e it ((i:Int)+1) x s.heap.objs.size->st (i+1) h'->IsPair h' s.heap.objs.size (.int i s.toks) x->h'.objs.size=s.heap.objs.size+1->
    (∀c o,c≠e->c≠it->s.heap.get? c=some o->h'.get? c=some o)->Q (some (.ref s.heap.objs.size)) { s with heap:=h',toks:=s.toks+1 }):wpAny (model P w) A (pyNext (.ref e)) Q E s:=by
 have T:s.TypeIs (.ref e) "enumerate":=⟨_,he,rfl⟩;unfold pyNext;exact RD (U9 (Tf (name:=Str.ofString "__next__") T VF (Tc VF T F.entry_enumerate_next (Az S ne nl he h0 hx λh' a b c d k=>RJ (hQ h' a b c d k)) (F.args_enumerate_next_1 _))))
theorem xx{i:Nat}{Q:Option Value->Shared->Prop}(hh:A.handled=none)(S:SubIt P w it l xs st)(he:IsEnum s.heap e it i old)(h0:st i s.heap)(hx:xs[i]?=none)
  (hQ:∀h',Heap.ExtBut it s.heap h'->Q none { s with heap:=h' }):wpAny (model P w) A (pyNext (.ref e)) Q E s:=by
 have T:s.TypeIs (.ref e) "enumerate":=⟨_,he,rfl⟩;unfold pyNext;refine RD (U9 (Tf (name:=Str.ofString "__next__") T VF (Tc VF T F.entry_enumerate_next (show _ from ?_) (F.args_enumerate_next_1 _))))
 show wpAny _ _ (field (.ref e) 2>>=λz=>_) _ _ _
 refine RD (Tg he rfl (x:=.ref it) rfl (show _ from ?_))
 refine RD (S.done _ i _ _ _ (show A.in1.handled=none from hh) h0 hx λh' y e1 hy=>?_)
 obtain⟨o,ho,hc⟩:=hy;exact RD (Ww (T := "StopIteration") (b:=true) ⟨o,ho,hc⟩ isSubtype_stop (RJ (hQ _ e1)))
end
def Py(K:PySem.W.Frag)(b:Bool)(l:Addr):It:=
 ⟨fun i H=>∃xs x,ju b K H l xs∧xs[i]?=some x,
  λi H v H'=>∃p,H p=none/\v=.ref p/\∀xs,ju b K H l xs->∃x,xs[i]?=some x/\H'=upd H p (.tup [.int (i:Int),x]),
  λi H=>∃xs,ju b K H l xs/\xs[i]?=none⟩
theorem FW{P:Program}{w:World}{K:PySem.W.Frag}{elts:List Expr}{x1}{tp:Pos}{b:Bool}{e it l:Addr}(ne:e≠it)(nl:l≠e)(ni:l≠it):
  Turn P w K (.Tuple elts x1 tp) (Py K b l) [e,it] e (λi h=>(∃old,IsEnum h e it i old)/\bu b it l i h) where
 mem:=by simp
 obj:=λi h st c hc=>by
  obtain⟨⟨old,he⟩,h1⟩:=st;simp only[List.mem_cons,List.mem_nil_iff,or_false]at hc;rcases hc with rfl | rfl
  ·exact⟨_,he,λv q=>by cases q⟩
  ·exact h1.obj
 keep:=λi h h' st k=>by obtain⟨⟨old,he⟩,h1⟩:=st;exact⟨⟨old,k e (by simp) _ he⟩,h1.keep λo q=>k it (by simp) o q⟩
 item:=by
  intro X hP hw hK hc i Xp s σ H E I hf st hg;subst hP hw hK;obtain⟨⟨old,he⟩,h1⟩:=st;obtain⟨xs,x,s1,hx⟩:=hg;obtain⟨its1,r1,q1,_⟩:=I.seqS s1;obtain⟨u1,e1,ru1⟩:=r1.get hx;refine xF (jq b ni its1.toArray) ne nl he ⟨h1,q1⟩ (by simpa using e1) λh' a1 a2 a3 a4 a5=>⟨_,rfl,wpAny_letOwnedTupleGo_enum a1 λh2' he' hs'=>?_⟩
  have lt:e<s.heap.objs.size:=RN he;have kk:∀c o,c∉[e,it]->s.heap.get? c=some o->h2'.get? c=some o:=λc o hb q=>hs'.extBut _ _ (λz=>hb (by simp[z])) (a5 c o (λz=>hb (by simp[z])) (λz=>hb (by simp[z])) q)
  have fresh:H s.heap.objs.size=none:=I.hok.fresh (RX _);have pr:IsPair h2' s.heap.objs.size (.int i s.toks) u1:=hs'.extBut _ _ (Vq lt) a3;have nw:ObjOk X.prog X.w (upd H s.heap.objs.size (.tup [.int (i:Int),x])) h2' s.heap.objs.size (.tup [.int (i:Int),x]):=⟨by show 2<=sizeLine;decide,[.int i s.toks,u1],.cons ⟨_,rfl⟩ (.cons ru1 .nil),⟨_,pr,rfl,_,rfl⟩⟩
  have nfp:∀c∈[e,it],c≠s.heap.objs.size:=λc hc z=>by
   obtain⟨o,ho⟩:∃o,s.heap.get? c=some o:=by
    simp only[List.mem_cons,List.mem_nil_iff,or_false]at hc;rcases hc with rfl | rfl
    ·exact⟨_,he⟩
    ·obtain⟨o,q,_⟩:=h1.obj;exact⟨o,q⟩
   exact absurd (RN ho) (by rw[z];exact UJ _)
  refine⟨.ref s.heap.objs.size,upd H s.heap.objs.size (.tup [.int (i:Int),x]),?_,rfl,⟨_,fresh,rfl,λxs' q1'=>⟨x,by rw[I.seqS_inj q1' s1];exact hx,rfl⟩⟩,⟨⟨_,he'⟩,(show bu b it l (i+1) h' from a2.1).keep λo q=>hs'.extBut _ _ ne.symm q⟩,λc hc=>by rw[upd_ne (nfp c hc)];exact (hf c hc).1⟩
  exact I.turnedLay (t':=s.toks+1) kk hf (RX _) nw
 done:=by
  intro X hP hw hK hc i Xp s σ H E I hf st hg;subst hP hw hK;obtain⟨⟨old,he⟩,h1⟩:=st;obtain⟨xs,s1,hend⟩:=hg;obtain⟨its1,r1,q1,_⟩:=I.seqS s1;refine xx (I.ok.hd hc) (jq b ni its1.toArray) he ⟨h1,q1⟩ (by simpa using r1.none_of hend) λh' e1=>?_
  exact⟨rfl,I.turnedL (t':=s.toks) (λc o hb q=>e1 _ _ (λz=>hb (by simp[z])) q) hf (λc hc=>(hf c hc).2.1)⟩
 self:=λy y y y y st h=>by obtain⟨⟨old,he⟩,_⟩:=st;exact wpAny_pyIter_enum he h
theorem Ag:bootBuiltins "list"=some (.type "list"):=by decide +kernel
theorem pJ:∀ (vs:List Value) (k:Nat),(∀ (j:Nat) v,vs[j]?=some v->∃ t,v=.int ((k + j:Nat):Int) t)->Vals ((List.range' k vs.length).map λi:Nat=>V.int (i:Int)) vs
 |[],k,_=>.nil
 | v::vs,k,h=>by
   have h0:=h 0 v rfl;have ih:=pJ vs (k+1) λj u e=>by
    have:=h (j+1) u (by simpa using e)
    rw[show k+1+j=k+(j+1) by lia];exact this
   rw[TF,List.range'_succ,SX];exact .cons h0 ih
section
variable{X:Cx}
def Ph(ta:TA):TE:=λσ H Q=>ta σ H λvs H1=>∃j:Int,vs=[.int j]/\j<=2^20/\-(2^62)<=j/\∀l,H1 l=none->Q (.ref l) (upd H1 l (.lst ((List.range j.toNat).map λi:Nat=>V.int (i:Int))))
theorem Ed(hc:X.calm=true)(hgL:Gl X "list")(hmL:X.mg "list"=none)(hg:Gl X "range")(hm:X.mg "range"=none)(ha:PA X [a] ta)(hs:notStar a=true:=by rfl):
  PE X (.Call (.Name "list" p1) [.Call (.Name "range" p2) [a] [] pos2] [] pos1) (Ph ta):=by
 intro Xp s σ H Q I h;have hst:starEach [Expr.Call (.Name "range" p2) [a] [] pos2] X.env=(false,eval (.Call (.Name "range" p2) [a] [] pos2) X.env)::starEach [] X.env:=aW rfl;refine Call_ (ld_blt I hgL hmL Ag (Th ?_ hst rfl));rw[hst];show wpAny _ _ (spliced ((false,eval (.Call (.Name "range" p2) [a] [] pos2) X.env)::[])) _ _ s;refine We ?_;refine Call_ (ld_blt I hg hm boot_range (Th (thn (ha pos2 Xp s σ H _ I h) λus s1 ⟨vs,H1,I1,r1,q1⟩=>?_) (aW hs) rfl))
 obtain⟨j,e,q1,q2,q⟩:=q1;subst e;cases r1 with
 | cons r rr=>
   cases rr;obtain⟨t,rfl⟩:=r;refine call_range_1 ?_;refine Wn ?_;have rs:Builtin.Range.rangeSize 0 j 1=((j.toNat:Nat):Int):=by rw[rangeSize_one];split<;>lia
   refine call_list_range (n:=j.toNat) (I1.ok.hd hc) (IsRange.new ..) (small_one (by lia) (by lia) q2 (by lia)) rs (by lia) λh' tk acc c k1 k2 k3=>?_
   have vl:Vals ((List.range j.toNat).map λi:Nat=>V.int (i:Int)) acc.toList:=by
    have:=pJ acc.toList 0 λi v e=>by
     obtain⟨t,rfl⟩:=k3.2 i v (by simpa using e)
     exact⟨t,by congr 1;lia⟩
    rw[Uh];rw[show acc.toList.length=j.toNat by simpa using k3.1]at this
    exact this
   refine⟨.ref _,upd H1 _ (.lst ((List.range j.toNat).map λi:Nat=>V.int (i:Int))),?_,rfl,q _ (I1.hok.fresh ?_)⟩
   ·refine I1.turnedLay (ch:=[]) (t':=tk) (λb o z e=>k1 b o (RG _ e)) (λb hb=>nomatch hb) ?_ ⟨?_,acc.toList,c,vl,k2⟩
    ·rw[Sy];lia
    ·rw[RT,Sv];show _<=2^24;lia
   ·rw[Sy];lia
end
end L2
namespace L2
open PySem PySem.Spec PyProof.Rows
open PySem.AutoSeq1 (wpAny_loadPart')
section
variable{prog:Program}{w:World}{A:Around}{E:Value->Shared->Prop}{s:Shared}
theorem vf{Q:List Value->Shared->Prop}(r:Addr){a b c:Int}{n:Nat}(hh:A.handled=none)(hr:IsRange s.heap r a b c t u v)(sm:Builtin.Range.small a b c=true)(hn:Builtin.Range.rangeSize a b c=n)(hl:n<=2 ^ 24)
  (hQ:∀(h':Heap) (tk:Nat) (acc:Array Value),(∀b o',s.heap.get? b=some o'->h'.get? b=some o')->s.heap.objs.size<=h'.objs.size->ItemsOf (λi v=>∃t,v=.int (a+i*c) t) acc n->Q acc.toList { s with heap:=h',toks:=tk }) :
  wpAny (model prog w) A (collect (.ref r)) Q E s:=by
 unfold collect;refine RD (Xi (Vj WF ?_));rw[Uo Wy _];show wpAny _ A.in1 (newList []>>=λl=>again (.builtin "list.__iadd__" ⟨[l,.ref r],[]⟩)) _ _ s
 refine RD (SQ ?_);refine RJ ⟨Wu Vk _,Vj F.entry_list_iadd ?_⟩;rw[Uo Vk _];show wpAny _ A.in1 (Builtin.List.listExtendWith (.ref s.heap.objs.size) (.ref r) (.ref s.heap.objs.size)) _ _ _;have hS:(s.heap.push { cls:=.type "list",data:=.seq ([]:List Value).toArray }).get? s.heap.objs.size=some { cls:=.type "list",data:=.seq #[] 0 }:=RM _ rfl;have fin':∀ h' tk acc c',(∀ b o,b≠s.heap.objs.size->(s.heap.push { cls:=.type "list",data:=.seq ([]:List Value).toArray }).get? b=some o->h'.get? b=some o)->h'.get? s.heap.objs.size=some { cls:=.type "list",dict:=none,data:=.seq acc c',slots:=#[] }->ItemsOf (λi v=>∃ t,v=.int (a + i * c) t) acc n->
   wpAny (model prog w) A (match Value.ref s.heap.objs.size with
   | Value.ref a=>do
     match (<-load a).data with
      |Data.seq xs _=>pure xs.toList
      |_=>unsupported "internal:collect"
   |_=>unsupported "internal:collect") Q E { s with heap:=h',toks:=tk }:=λh' tk acc c' k1 k2 k3=>by
  show wpAny _ A (load s.heap.objs.size>>=_) _ _ _;refine RD (W7 k2 (RJ ?_));exact hQ h' tk acc (λb o e=>k1 b o (R5 (RN e)) (RG _ e)) (Vp (RN k2)) k3
 refine Sg (wpAny_extend_range (A:=A) (R:=λx s'=>x=.ok (.ret (.ref s.heap.objs.size))/\wpAny (model prog w) A (match Value.ref s.heap.objs.size with
   | Value.ref a=>do
     match (<-load a).data with
      |Data.seq xs _=>pure xs.toList
      |_=>unsupported "internal:collect"
   |_=>unsupported "internal:collect") Q E s')
  (s:={ s with heap:=s.heap.push { cls:=.type "list",data:=.seq ([]:List Value).toArray } }) hh (RG _ hr) sm hn hl s.heap.objs.size _ 0 hS (λh' tk acc c' k1 k2 k3=>⟨rfl,fin' h' tk acc c' k1 k2 k3⟩)) (λfin s' h=>?_) (λe s' h=>?_)
 ·cases fin with
  |done f=>obtain⟨e,q⟩:=h;cases e;exact q
  |again c'=>exact⟨h.1,V9 h.2 λx s'' hx=>by obtain⟨rfl,q⟩:=hx;exact q⟩
 ·exact absurd h.1 (by simp)
end
theorem qd(r:Addr)(a b c:Int)(t u v:Tok)(n:Nat)(sm:Builtin.Range.small a b c=true)(hn:Builtin.Range.rangeSize a b c=n)(hl:n<=2 ^ 24):
  Meets (Builtin.«tuple.__new__» ⟨[.type "tuple",.ref r],[]⟩)
   (λA R s=>A.handled=none/\IsRange s.heap r a b c t u v/\∀(h':Heap) (tk:Nat) (acc:Array Value),(∀b o',s.heap.get? b=some o'->h'.get? b=some o')->s.heap.objs.size<=h'.objs.size->ItemsOf (λi v=>∃t,v=.int (a+i*c) t) acc n->R (.ok (.ret (.ref h'.objs.size))) { s with heap:=h'.push { cls:=.type "tuple",data:=.seq acc },toks:=tk }):=
 .of_wp λprog w A R s h=>by
  obtain⟨hp,g,d,tk,os⟩:=s;obtain⟨hh,hr,h⟩:=h;have hsub:=sub_tuple_self;have hinit:=init_tuple_lookup;have hmh:=madeHere_tuple;have hT:Shared.TypeIs ⟨hp,g,d,tk,os⟩ (.ref r) "range":=⟨_,hr,rfl⟩;have hh':A.in1.handled=none:=hh
  wp_walk using wpAny_loadPart' hr,Vw hT,vf (A:=A.in1) (s:=⟨hp,g,d,tk,os⟩) r hh' hr sm hn hl
  intro h' tk' acc hk hz hi;show wpAny _ _ (Builtin.Tuple.tupleExact acc.toList.toArray>>=λv=>ret v) _ _ _
  unfold Builtin.Tuple.tupleExact;have e:acc.toList.toArray=acc:=by simp
  rw[e];refine RD (SQ ?_ (by show acc.size<=sizeLine;rw[hi.1];exact hl))
  exact RJ ⟨_,rfl,h h' tk' acc hk hz hi⟩
open PySem PySem.Spec PyProof.Rows
theorem qN{E:Value->Shared->Prop}{Q:Value->Shared->Prop}{a b c:Int}{n:Nat}(hh:A.handled=none)(hr:IsRange s.heap r a b c t u v)(sm:Builtin.Range.small a b c=true)(hn:Builtin.Range.rangeSize a b c=n)(hl:n<=2^24)
  (hQ:∀(h':Heap) (tk:Nat) (acc:Array Value),(∀b o',s.heap.get? b=some o'->h'.get? b=some o')->s.heap.objs.size<=h'.objs.size->ItemsOf (λi v=>∃t,v=.int (a+i*c) t) acc n->Q (.ref h'.objs.size) { s with heap:=h'.push { cls:=.type "tuple",data:=.seq acc },toks:=tk }) :
  wpAny (model prog w) A (call (.type "tuple") [.ref r]) Q E s:=
 Wh F.called_tuple (by decide) (F.typeCall_tuple_1 _) (F.newCall_tuple_1 _) (λobj=>F.args_object_init_2 obj _) F.entry_tuple_new (qd r a b c t u v n sm hn hl)
  ⟨hh,hr,λh' tk acc k z i=>⟨⟨_,RM _ rfl,rfl⟩,hQ h' tk acc k z i⟩⟩
theorem yL:bootBuiltins "tuple"=some (.type "tuple"):=by decide +kernel
section
variable{X:Cx}
def Pk(ta:TA):TE:=λσ H Q=>ta σ H λvs H1=>∃j:Int,vs=[.int j]/\j<=2^20/\-(2^62)<=j/\∀l,H1 l=none->Q (.ref l) (upd H1 l (.tup ((List.range j.toNat).map λi:Nat=>V.int (i:Int))))
theorem Eg(hc:X.calm=true)(hgL:Gl X "tuple")(hmL:X.mg "tuple"=none)(hg:Gl X "range")(hm:X.mg "range"=none)(ha:PA X [a] ta)(hs:notStar a=true:=by rfl):
  PE X (.Call (.Name "tuple" p1) [.Call (.Name "range" p2) [a] [] pos2] [] pos1) (Pk ta):=by
 intro Xp s σ H Q I h;have hst:starEach [Expr.Call (.Name "range" p2) [a] [] pos2] X.env=(false,eval (.Call (.Name "range" p2) [a] [] pos2) X.env)::starEach [] X.env:=aW rfl;refine Call_ (ld_blt I hgL hmL yL (Th ?_ hst rfl));rw[hst];show wpAny _ _ (spliced ((false,eval (.Call (.Name "range" p2) [a] [] pos2) X.env)::[])) _ _ s;refine We ?_;refine Call_ (ld_blt I hg hm boot_range (Th (thn (ha pos2 Xp s σ H _ I h) λus s1 ⟨vs,H1,I1,r1,q1⟩=>?_) (aW hs) rfl))
 obtain⟨j,e,q1,q2,q⟩:=q1;subst e;cases r1 with
 | cons r rr=>
   cases rr;obtain⟨t,rfl⟩:=r;refine call_range_1 ?_;refine Wn ?_;have rs:Builtin.Range.rangeSize 0 j 1=((j.toNat:Nat):Int):=by rw[rangeSize_one];split<;>lia
   refine qN (n:=j.toNat) (I1.ok.hd hc) (IsRange.new ..) (small_one (by lia) (by lia) q2 (by lia)) rs (by lia) λh' tk acc k1 k2 k3=>?_
   rw[Sy]at k2;have vl:Vals ((List.range j.toNat).map λi:Nat=>V.int (i:Int)) acc.toList:=by
    have:=pJ acc.toList 0 λi v e=>by
     obtain⟨t,rfl⟩:=k3.2 i v (by simpa using e)
     exact⟨t,by congr 1;lia⟩
    rw[Uh];rw[show acc.toList.length=j.toNat by simpa using k3.1]at this
    exact this
   refine⟨.ref _,upd H1 h'.objs.size (.tup ((List.range j.toNat).map λi:Nat=>V.int (i:Int))),?_,rfl,q _ (I1.hok.fresh (by lia))⟩
   refine I1.turnedLay (ch:=[]) (t':=tk) (λb o z e=>RG _ (k1 b o (RG _ e))) (λb hb=>nomatch hb) (by lia) ⟨?_,acc.toList,vl,?_⟩
   ·rw[RT,Sv];show _<=2^24;lia
   ·have:=W2 h' acc;simpa using this
end
end L2
namespace LS
open PySem
def vQ(xs:Array Nat):Prop:=xs.toList.Pairwise (·< ·)
theorem vQ.lt{xs:Array Nat}(h:vQ xs){a b:Nat}(hab:a<b)(hb:b<xs.size):xs[a]<xs[b]:=by
 have:=UW.mp h a b (by simpa using Wc hab hb) (by simpa using hb) hab
 simpa using this
structure Bel(xs:Array Nat)(j r:Nat):Prop where
 le:r<=xs.size
 lo:∀k (hk:k<xs.size),k<r->xs[k]<j
 hi:∀k (hk:k<xs.size),r<=k->j<=xs[k]
theorem qM{xs:Array Nat}{j:Nat}(h:vQ xs):∀ (fuel lo hi:Nat),hi - lo<=fuel->lo<=hi->hi<=xs.size->(∀ k (hk:k<xs.size),k<lo->xs[k]<j)->(∀ k (hk:k<xs.size),hi<=k->j<=xs[k])->Bel xs j (SetTable.below.go xs j fuel lo hi)
 |0,lo,hi,hf,hl,hs,h1,h2=>by
   unfold SetTable.below.go;have:lo=hi:=by lia
   subst this;exact⟨hs,h1,h2⟩
 | fuel + 1,lo,hi,hf,hl,hs,h1,h2=>by
   unfold SetTable.below.go;by_cases c:lo<hi
   ·rw[R1 c];dsimp only;have hm:(lo+hi) / 2<hi:=by lia
    have hm':lo<=(lo+hi) / 2:=by lia
    generalize (lo+hi) / 2=mid at hm hm';have hms:mid<xs.size:=by lia
    have e:xs.getD mid j=xs[mid]:=by rw[Array.getD_eq_getD_getElem?,Ua hms];rfl
    rw[e];by_cases c2:xs[mid]<j
    ·rw[R1 c2];refine qM h fuel (mid+1) hi (by lia) (by lia) hs (λk hk hkm=>?_) h2
     by_cases q:k=mid
     ·subst q;exact c2
     ·have:=h.lt (show k<mid by lia) hms;lia
    ·rw[R3 c2];refine qM h fuel lo mid (by lia) hm' (by lia) h1 (λk hk hkm=>?_)
     by_cases q:k=mid
     ·subst q;lia
     ·have:=h.lt (show mid<k by lia) hk;lia
   ·rw[R3 c];have:lo=hi:=by lia
    subst this;exact⟨hs,h1,h2⟩
theorem uL{xs:Array Nat}(h:vQ xs)(j:Nat):Bel xs j (SetTable.below xs j):=by unfold SetTable.below;exact qM h xs.size 0 xs.size (by lia) (by lia) (RX _) (λk hk z=>by lia) (λk hk z=>by lia)
theorem Af{xs:Array Nat}(h:vQ xs):SetTable.below xs 0=0:=by
 have b:=uL h 0;generalize SetTable.below xs 0=r at b;rcases T6 r with c | c
 ·exact c
 ·have:=b.le;have:=b.lo 0 (by lia) c
  lia
theorem Ae{xs:Array Nat}(h:vQ xs){i:Nat}(hi:i<xs.size):SetTable.below xs (xs[i]+1)=i+1:=by
 have b:=uL h (xs[i]+1);generalize SetTable.below xs (xs[i]+1)=r at b;have ble:=b.le;rcases W6 r (i+1) with c | c | c
 ·have:=b.hi i hi (by lia)
  lia
 ·exact c
 ·have l:=b.lo (i+1) (by lia) c
  have:=h.lt (show i<i+1 by lia) (show i+1<xs.size by lia)
  lia
structure TI(L:Bool)(t:SetTable):Prop where
 ris:vQ t.place
 dum:t.dummies=#[]
 led:t.led=L
end LS
namespace LS
open PySem PySem.Spec PyProof.Rows
abbrev cB(es:Array (Int×Value))(ep:Nat)(t:SetTable):Obj:={ cls:=.type "set",dict:=none,data:=.set es ep t }
theorem KZ(h:(intKind prog w).is k v=true):∃t,v=.int k t:=by have h':Value.isInt k v=true:=h;cases v<;>simp[Value.isInt]at h';subst h';exact⟨_,rfl⟩
section
variable{prog:Program}{w:World}{A:Around}{E:Value->Shared->Prop}{s:Shared}{L:Bool}
theorem JH{h:Heap}{a:Addr}{es es1:Array (Int×Value)}{ep:Nat}{t t1:SetTable}(ho:h.get? a=some (cB es ep t)):(h.update a (Obj.putSet es1 t1)).get? a=some (cB es1 (ep+1) t1):=by
 have q:=VB (Obj.putSet es1 t1) ho (by rw[putSet_of es1 t1 rfl];rfl)
 rw[putSet_of es1 t1 rfl]at q;exact q
end
theorem bU:Slot "set_iterator" "__next__" "set_iterator.__next__":=.of (owner := "set_iterator") (n := "__next__") (by rw[typeLookup_type,builtinLookup_eq_fast];kernel_rfl) (by decide +kernel) (by decide +kernel) (by decide +kernel) (by first | exact .inl (by decide +kernel) | exact .inr (by decide +kernel)) (by rw[isSubtype_type];kernel_rfl)
theorem zV:Slot "set_iterator" "__iter__" "set_iterator.__iter__":=.of (owner := "set_iterator") (n := "__iter__") (by rw[typeLookup_type,builtinLookup_eq_fast];kernel_rfl) (by decide +kernel) (by decide +kernel) (by decide +kernel) (by first | exact .inl (by decide +kernel) | exact .inr (by decide +kernel)) (by rw[isSubtype_type];kernel_rfl)
theorem gC:entryFor table "set_iterator.__next__"=some Builtin.«set_iterator.__next__»:=entryFor_of_fast (by kernel_rfl)
theorem Gz:entryFor table "set_iterator.__iter__"=some Builtin.«dict_keyiterator.__iter__»:=entryFor_alias (id' := "dict_keyiterator.__iter__") (by kernel_rfl) rfl (by decide +kernel) (by kernel_rfl)
theorem vg:entryFor table "set.__iter__"=some Builtin.«frozenset.__iter__»:=entryFor_alias (id' := "frozenset.__iter__") (by kernel_rfl) rfl (by decide +kernel) (by kernel_rfl)
theorem jj(a:Value):argsOk "set_iterator.__next__" ⟨[a],[]⟩:=by unfold argsOk;kernel_rfl
theorem Ib(a:Value):argsOk "set_iterator.__iter__" ⟨[a],[]⟩:=by unfold argsOk;kernel_rfl
set_option tactic.hygienic true in
theorem zK(next:Nat->Nat):∀ (fuel k:Nat) (left:List α) (out:Array α),left.length=fuel->(pickOrder.go next fuel k left out).toList.Perm (out.toList++left)
 |0,k,left,out,h=>by have:left=[]:=Xc.mp h;subst this;unfold pickOrder.go;simp
 | fuel + 1,k,left,out,h=>by
   unfold pickOrder.go;have hm:next k%left.length<left.length:=UL _ (by lia)
   generalize next k%left.length=m at hm
   rw[RV hm];dsimp only;refine (zK next fuel (k+1) (left.eraseIdx m) (out.push left[m]) (by rw[List.length_eraseIdx,R1 hm];lia)).trans ?_
   rw[Array.toList_push,Uq];refine List.Perm.append_left _ ?_;have:∀ (l:List α) (t:Nat) (ht:t<l.length),(l[t]::l.eraseIdx t).Perm l:=by
    intro l;induction l with
    |nil=>intro t ht;exact absurd ht (by simp)
    |cons a l ih=>
      intro t ht;cases t with
      |zero=>exact .refl _
      |succ t=>exact (List.Perm.swap a _ _).trans ((ih t (by simpa using ht)).cons a)
   exact this left m hm
set_option tactic.hygienic true in
theorem Eh(next:Nat->Nat)(xs:Array α):(pickOrder next xs).toList.Perm xs.toList:=by unfold pickOrder;exact (zK next xs.size 0 xs.toList #[] (by simp)).trans (by simp)
section
variable{prog:Program}{w:World}{A:Around}{E:Value->Shared->Prop}{s:Shared}
theorem vh(hn:n≠0)(h:∀i d',i<n->Q i { s with drawn:=d' }):wpAny (model prog w) A (choose src n) Q E s:=λΓ p hΓ=>⟨hn,h _ _ (UL _ (by lia))⟩
theorem uO:∀ (n:Nat) (xs:List Nat) {s:Shared}{Q:List Nat->Shared->Prop},xs.length=n->(∀ ys d',ys.Perm xs->Q ys { s with drawn:=d' })->wpAny (model prog w) A (drawOrder n xs) Q E s
 |0,xs,s,Q,h,q=>by have:xs=[]:=Xc.mp h;subst this;unfold drawOrder;exact RJ (q [] s.drawn (.refl _))
 |n+1,[],s,Q,h,q=>by cases h
 | n + 1,x::xs,s,Q,h,q=>by
   unfold drawOrder;refine RD (vh (by simp) λi d' hi=>?_)
   rw[RV hi];dsimp only;refine RD (uO n ((x::xs).eraseIdx i) (by rw[List.length_eraseIdx,R1 hi];simp at h ⊢;lia) λys d2 p=>RJ (q _ d2 ?_))
   refine (p.cons _).trans ?_;have:∀ (l:List Nat) (t:Nat) (ht:t<l.length),(l[t]::l.eraseIdx t).Perm l:=by
    intro l;induction l with
    |nil=>intro t ht;exact absurd ht (by simp)
    |cons a l ih=>
      intro t ht;cases t with
      |zero=>exact .refl _
      |succ t=>exact (List.Perm.swap a _ _).trans ((ih t (by simpa using ht)).cons a)
   exact this _ i hi
end
abbrev jY(vs:Array Value):Obj:={ cls:=.type "set_iterator",data:=.fields vs }
abbrev cT(w:World):Bool:=w.params.followText "set-order"
def oE(w:World)(h:Heap)(I a tp:Addr)(es:Array (Int×Value))(ep:Nat)(t:SetTable)(ord:List Value)(i:Nat):Prop:=
 (cT w=true/\h.get? I=some (jY #[.int 0 0,.int i 0,.ref a,.int es.size 0,.int ep 0])/\ord=(pickOrder (w.params.setOrder a ep) es).toList.map (·.2))
 \/ (cT w=false/\(!t.plain&&decide (es.size > 1))=false/\∃sl:Nat,h.get? I=some (jY #[.int sl 0,.int i 0,.ref a,.int es.size 0,.int ep 0])/\SetTable.below t.place sl=i/\ord=es.toList.map (·.2))
 \/ (cT w=false/\(!t.plain&&decide (es.size > 1))=true/\∃ps,tp≠I/\h.get? I=some (jY #[.ref tp,.int i 0,.ref a,.int es.size 0,.int ep 0])/\h.get? tp=some { cls:=.type "tuple",data:=.seq ((ps:List Nat).map λ(p:Nat)=>rawInt (p:Int)).toArray }/\ps.Perm (List.range es.size)/\ord=ps.map (λp=>(es.getD p (0,.none)).2))
section
variable{prog:Program}{w:World}{A:Around}{E:Value->Shared->Prop}{s:Shared}{I a tp:Addr}{es:Array (Int×Value)}{ep:Nat}{t:SetTable}{ord:List Value}{i:Nat}
theorem iu{h:Heap}{vs:Array Value}{k:Nat}{v:Value}(e:h.get? I=some (jY vs)):(h.update I (Obj.mapFields (·.setIfInBounds k v))).get? I=some (jY (vs.setIfInBounds k v)):=by have q:=VB (Obj.mapFields (·.setIfInBounds k v)) e (Obj.isFreed_of_fields (Obj.data_mapFields rfl _));rw[q];rfl
theorem DR(hb:cT w=true)(ho:s.heap.get? a=some (cB es ep t))(hf:t.fits es.size=true){sl:Nat}{Q:Option (Value×Nat)->Shared->Prop}(q:Q (((pickOrder (w.params.setOrder a ep) es)[i]?).map λe=>(e.2,sl)) s):
  wpAny (model prog w) A (setNext a sl i ep) Q E s:=by
 unfold setNext setsByText;refine RD (T4 ho rfl hf ?_);refine RD (RD (UT (RJ ?_)));have hb':(model prog w).w.params.followText "set-order"=true:=hb;rw[R1 hb'];simp only[bne_self_eq_false,Bool.false_eq_true,↓reduceIte];unfold setWalk setsByText;refine RD (RD (T4 ho rfl hf ?_));refine RD (RD (UT (RJ ?_)));rw[R1 hb'];exact RD (UT (RJ (RJ q)))
theorem DX(hb:cT w=false)(hd:(!t.plain && decide (es.size > 1))=false)(ti:TI (!cT w) t)(ho:s.heap.get? a=some (cB es ep t))(hf:t.fits es.size=true){sl:Nat}{Q:Option (Value×Nat)->Shared->Prop}
  (q:Q (match es[SetTable.below t.place sl]?,t.place[SetTable.below t.place sl]? with
    |some (_,x),some j=>some (x,j+1)
    |_,_=>none) s):wpAny (model prog w) A (setNext a sl i ep) Q E s:=by
 unfold setNext setsByText;refine RD (T4 ho rfl hf ?_);refine RD (RD (UT (RJ ?_)));have hb':¬ (model prog w).w.params.followText "set-order"=true:=by rw[show (model prog w).w.params.followText "set-order"=cT w from rfl,hb];decide
 rw[R3 hb'];have hl:t.led=true:=by rw[ti.led,hb];rfl
 show wpAny _ _ (if (!t.plain&&decide (es.size > 1))=true then _ else _) _ _ _
 rw[hd,R3 (by decide)]
 refine RD ?_;show wpAny _ _ (if (!t.led&&!es.isEmpty)=true then _ else _) _ _ _
 rw[hl];exact RJ (RJ q)
theorem next_item(ho:s.heap.get? a=some (cB es ep t))(hf:t.fits es.size=true)(ti:TI (!cT w) t)(hne:a≠I)(c:oE w s.heap I a tp es ep t ord i)(hi:i<ord.length){Q:Option Value->Shared->Prop}
  (q:∀h',Heap.SameBut I s.heap h'->oE w h' I a tp es ep t ord (i+1)->Q (some ord[i]) { s with heap:=h' }):wpAny (model prog w) A (pyNext (.ref I)) Q E s:=by
 have ho':∀(k:Nat) (v:Value),(s.heap.update I (Obj.mapFields (·.setIfInBounds k v))).get? a=some (cB es ep t):=λk v=>by rw[UG _ _ (λz=>hne z.symm)];exact ho
 have sz:(((es.size:Nat):Int) != ((es.size:Nat):Int))=false:=bne_self_eq_false _;have sb2:∀(v1 v2:Value) (k1 k2:Nat),Heap.SameBut I s.heap ((s.heap.update I (Obj.mapFields (·.setIfInBounds k1 v1))).update I (Obj.mapFields (·.setIfInBounds k2 v2))):=λv1 v2 k1 k2=>(Vc _ I _).trans (Vc _ I _)
 rcases c with ⟨hb,hI,e⟩ | ⟨hb,hd,sl,hI,hs,e⟩ | ⟨hb,hd,ps,htp,hI,hT,hp,e⟩
 ·have ty:s.TypeIs (.ref I) "set_iterator":=⟨_,hI,rfl⟩;unfold pyNext;refine RD (U9 (Tf (name:=Str.ofString "__next__") ty bU (Tc bU ty gC ?_ (jj _))));unfold Builtin.«set_iterator.__next__» slotArgs;refine RD (RJ ?_);refine RD (Vv hI rfl ?_);dsimp only;refine RD (Uv ho rfl hf ?_);rw[sz,R3 (by decide)]
  refine RD (DR hb ho hf ?_);have hi':i<(pickOrder (w.params.setOrder a ep) es).size:=by rw[e]at hi;simpa using hi
  have oi:ord[i]=((pickOrder (w.params.setOrder a ep) es)[i]).2:=by subst e;simp
  rw[show ((i:Int)).toNat=i from TQ i,Ua hi']
  dsimp only[Option.map_some];refine RD (Ui hI rfl (by simp) ?_)
  refine RD (Ui (iu hI) rfl (by simp) ?_)
  refine RJ ⟨_,rfl,RJ ?_⟩;rw[<-oi];refine q _ (sb2 _ _ _ _) (.inl ⟨hb,?_,e⟩);rw[iu (iu hI)];simp[rawInt]
 ·have ty:s.TypeIs (.ref I) "set_iterator":=⟨_,hI,rfl⟩;unfold pyNext;refine RD (U9 (Tf (name:=Str.ofString "__next__") ty bU (Tc bU ty gC ?_ (jj _))));unfold Builtin.«set_iterator.__next__» slotArgs;refine RD (RJ ?_);refine RD (Vv hI rfl ?_);dsimp only;refine RD (Uv ho rfl hf ?_);rw[sz,R3 (by decide)]
  refine RD (DX hb hd ti ho hf ?_);have hi':i<es.size:=by rw[e]at hi;simpa using hi
  have hps:t.place.size=es.size:=by simp only[SetTable.fits,Bool.and_eq_true,beq_iff_eq]at hf;exact hf.1
  have hi2:i<t.place.size:=by rw[hps];exact hi'
  have oi:ord[i]=(es[i]).2:=by subst e;simp
  rw[show ((sl:Int)).toNat=sl from TQ sl,hs,Ua hi',Ua hi2]
  dsimp only;refine RD (Ui hI rfl (by simp) ?_)
  refine RD (Ui (iu hI) rfl (by simp) ?_)
  refine RJ ⟨_,rfl,RJ ?_⟩;rw[<-oi];refine q _ (sb2 _ _ _ _) (.inr (.inl ⟨hb,hd,t.place[i]+1,?_,Ae ti.ris hi2,e⟩));rw[iu (iu hI)];simp[rawInt]
 ·have ty:s.TypeIs (.ref I) "set_iterator":=⟨_,hI,rfl⟩;have hpl:ps.length=es.size:=by rw[hp.length_eq,Sv]
  have hi':i<ps.length:=by rw[e]at hi;simpa using hi
  have hpi:ps[i]<es.size:=RW.mp (hp.mem_iff.mp (Td hi'));unfold pyNext;refine RD (U9 (Tf (name:=Str.ofString "__next__") ty bU (Tc bU ty gC ?_ (jj _))));unfold Builtin.«set_iterator.__next__» slotArgs;refine RD (RJ ?_);refine RD (Vv hI rfl ?_);dsimp only;refine RD (Uv ho rfl hf ?_);rw[sz,R3 (by decide)]
  refine RD (Ub hT rfl ?_);have g:((ps.map λ(p:Nat)=>rawInt (p:Int)).toArray)[i]?=some (rawInt (ps[i]:Int)):=by simp[hi']
  rw[show ((i:Int)).toNat=i from TQ i]
  dsimp only;rw[g];dsimp only[rawInt];unfold setNextDrawn;refine RD (RD (T4 ho rfl hf ?_));simp only[bne_self_eq_false,Bool.false_eq_true,↓reduceIte,Int.toNat_natCast];rw[Ua hpi];dsimp only;refine RJ ?_;refine RD (Ui hI rfl (by simp) ?_)
  refine RJ ⟨_,rfl,RJ ?_⟩;have oi:ord[i]=(es[ps[i]]).2:=by subst e;simp[hpi]
  rw[<-oi];refine q _ (Vc _ I _) (.inr (.inr ⟨hb,hd,ps,htp,?_,?_,hp,e⟩))
  ·rw[iu hI];simp
  ·rw[UG _ _ (λz=>htp z.symm)];exact hT
end
section
variable{prog:Program}{w:World}{A:Around}{E:Value->Shared->Prop}{s:Shared}{I a tp:Addr}{es:Array (Int×Value)}{ep:Nat}{t:SetTable}{ord:List Value}{i:Nat}
theorem rB(hh:A.handled=none){R:Fin->Shared->Prop}{Q:Option Value->Shared->Prop}(q:∀h',(∀b o,s.heap.get? b=some o->h'.get? b=some o)->Q none { s with heap:=h' }):
  wpAny (model prog w) A.in1 (do raiseNew (<-newExc (.type "StopIteration") [])) R (λe s'=>wpAny (model prog w) A (do if <-isInstance e (.type "StopIteration") then pure none else throw e) Q E s') s:=by
 refine RD ?_;simp only[newExc,newTuple];refine RD (SQ ?_ (by size_fits))
 refine RD (m:=firstArgMember _ _) (V0 (a:=.none) (by first | rfl | (simp only[firstArgMember];rfl)) (SQ ?_ (by size_fits)))
 simp only[raiseNew];refine RD (wpAny_handled ?_);have h1:A.in1.handled=none:=hh;rw[h1];refine RD (RJ (wpAny_throw ?_));refine RD (Ww (T := "StopIteration") (b:=true) ⟨_,RM _ rfl,rfl⟩ isSubtype_stop ?_);exact RJ (q _ λb o e=>RG _ (RG _ e))
theorem next_end(hh:A.handled=none)(ho:s.heap.get? a=some (cB es ep t))(hf:t.fits es.size=true)(ti:TI (!cT w) t)(c:oE w s.heap I a tp es ep t ord ord.length){Q:Option Value->Shared->Prop}
  (q:∀h',(∀b o,b≠I->s.heap.get? b=some o->h'.get? b=some o)->Q none { s with heap:=h' }):wpAny (model prog w) A (pyNext (.ref I)) Q E s:=by
 have sz:(((es.size:Nat):Int) != ((es.size:Nat):Int))=false:=bne_self_eq_false _;have k1:∀(v1:Value) (k1:Nat) b o,b≠I->s.heap.get? b=some o->(s.heap.update I (Obj.mapFields (·.setIfInBounds k1 v1))).get? b=some o:=λv1 k1 b o hb e=>by rw[UG _ _ (λz=>hb z.symm)];exact e
 rcases c with ⟨hb,hI,e⟩ | ⟨hb,hd,sl,hI,hs,e⟩ | ⟨hb,hd,ps,htp,hI,hT,hp,e⟩
 ·have ty:s.TypeIs (.ref I) "set_iterator":=⟨_,hI,rfl⟩;unfold pyNext;refine RD (U9 (Tf (name:=Str.ofString "__next__") ty bU (Tc bU ty gC ?_ (jj _))));unfold Builtin.«set_iterator.__next__» slotArgs;refine RD (RJ (RD (Vv hI rfl ?_)));dsimp only;refine RD (Uv ho rfl hf ?_);rw[sz,R3 (by decide)]
  refine RD (DR hb ho hf ?_);have hi':(pickOrder (w.params.setOrder a ep) es)[((ord.length:Int)).toNat]?=none:=by rw[TQ,VM,e];simp
  rw[hi'];dsimp only[Option.map_none];refine RD (Ui hI rfl (by simp) ?_)
  exact rB hh λh' k=>q h' λb o hb e=>k b o (k1 _ _ b o hb e)
 ·have ty:s.TypeIs (.ref I) "set_iterator":=⟨_,hI,rfl⟩;unfold pyNext;refine RD (U9 (Tf (name:=Str.ofString "__next__") ty bU (Tc bU ty gC ?_ (jj _))));unfold Builtin.«set_iterator.__next__» slotArgs;refine RD (RJ (RD (Vv hI rfl ?_)));dsimp only;refine RD (Uv ho rfl hf ?_);rw[sz,R3 (by decide)]
  refine RD (DX hb hd ti ho hf ?_);have hi':es[ord.length]?=none:=by rw[VM,e];simp
  rw[show ((sl:Int)).toNat=sl from TQ sl,hs,hi']
  dsimp only;refine RD (Ui hI rfl (by simp) ?_)
  exact rB hh λh' k=>q h' λb o hb e=>k b o (k1 _ _ b o hb e)
 ·have ty:s.TypeIs (.ref I) "set_iterator":=⟨_,hI,rfl⟩;unfold pyNext;refine RD (U9 (Tf (name:=Str.ofString "__next__") ty bU (Tc bU ty gC ?_ (jj _))));unfold Builtin.«set_iterator.__next__» slotArgs;refine RD (RJ (RD (Vv hI rfl ?_)));dsimp only;refine RD (Uv ho rfl hf ?_);rw[sz,R3 (by decide)]
  refine RD (Ub hT rfl ?_);have g:((ps.map λ(p:Nat)=>rawInt (p:Int)).toArray)[((ord.length:Int)).toNat]?=none:=by rw[TQ,VM,e];simp
  dsimp only;rw[g];dsimp only;refine RD (Ui hI rfl (by simp) ?_)
  refine RD (Ui (iu hI) rfl (by simp) ?_)
  refine rB hh λh' k=>q h' λb o hb e=>k b o ?_
  rw[UG _ _ (λz=>hb z.symm)]
  exact k1 _ _ b o hb e
theorem GX(ho:s.heap.get? a=some (cB es ep t))(hf:t.fits es.size=true)(ti:TI (!cT w) t)(hb:es.size<scanBound)
  (q:∀h' d' I tp ord,s.heap.objs.size<=I->(∀b o,s.heap.get? b=some o->h'.get? b=some o)->I<h'.objs.size->(tp=a\/(s.heap.objs.size<=tp/\tp<h'.objs.size))->oE w h' I a tp es ep t ord 0->ord.Perm (es.toList.map (·.2))->Q (.ref I) { s with heap:=h',drawn:=d' }):wpAny (model prog w) A (pyIter (.ref a)) Q E s:=by
 have ty:s.TypeIs (.ref a) "set":=⟨_,ho,rfl⟩;refine W5 ty F.slot_set_iter (Tc F.slot_set_iter ty vg ?_ (F.args_set_iter_1 _));unfold Builtin.«frozenset.__iter__» Builtin.Frozenset.slot0 slotArgs Builtin.Frozenset.addrOf Builtin.Frozenset.sizeOf setDrawn setsByText;simp only[List.isEmpty_nil,Bool.not_true,Bool.false_eq_true,↓reduceIte,bind_assoc,List.length_nil,bne_self_eq_false];refine RD (RJ (RD (RJ ?_)));refine RD (Uv ho rfl hf (RD (RJ ?_)));refine RD (T4 ho rfl hf ?_);refine RD (UT (RD (RJ (RD (RJ ?_)))));show wpAny _ _ (if (!cT w&&(!t.plain&&decide (es.size > 1)))=true then _ else _) _ _ _
 by_cases hc:(!cT w&&(!t.plain&&decide (es.size > 1)))=true
 ·rw[R1 hc];rw[Um]at hc;have hB:cT w=false:=by simpa using hc.1
  refine RD (uO es.size (List.range es.size) (by simp) λps d' hp=>?_)
  have pl:ps.length=es.size:=by rw[hp.length_eq,Sv]
  simp only[newTuple,newFields];refine RD (SQ ?_ (by show _<=sizeLine;have:=fits_of_scanBound hb;simp;lia))
  have ho1:=RG { cls:=.type "tuple",data:=.seq ((ps.map λ(i:Nat)=>rawInt (i:Int)).toArray) } ho
  refine RD (wpAny_setEpoch_of ho1 rfl hf ?_);refine RD (SQ (RJ ⟨_,rfl, "set_iterator",_,⟨_,RM _ rfl,rfl⟩,bU.lookup,?_⟩) (by show _<=_;simp[sizeLine_eq]))
  refine q _ d' _ s.heap.objs.size (ps.map (λp=>(es.getD p (0,.none)).2)) (by dsimp only;simp only[Heap.size_push];lia) (λb o e=>RG _ (RG _ e)) (by dsimp only;simp only[Heap.size_push];lia) (.inr ⟨RX _,by dsimp only;simp only[Heap.size_push];exact Vl (T9 _)⟩) (.inr (.inr ⟨hB,hc.2,ps,?_,RM _ rfl,RG _ (RM _ rfl),hp,rfl⟩)) ?_
  ·dsimp only;simp only[Heap.size_push];exact R5 (T9 _)
  ·refine (hp.map _).trans (List.Perm.of_eq ?_);apply List.ext_getElem?;intro k;by_cases hk:k<es.size
   ·simp[hk,Array.getD]
   ·rw[Uj (by simp;lia),Uj (by simp;lia)]
 ·rw [R3 hc];refine RD (RJ ?_);simp only[newFields];refine RD (wpAny_setEpoch_of ho rfl hf ?_);refine RD (SQ (RJ ⟨_,rfl, "set_iterator",_,⟨_,RM _ rfl,rfl⟩,bU.lookup,?_⟩) (by show _<=_;simp[sizeLine_eq]))
  have fin:∀ord,oE w (s.heap.push (jY #[.int 0 0,.int 0 0,.ref a,.int es.size 0,.int ep 0])) s.heap.objs.size a a es ep t ord 0->ord.Perm (es.toList.map (·.2))->Q (.ref s.heap.objs.size) { s with heap:=s.heap.push (jY #[.int 0 0,.int 0 0,.ref a,.int es.size 0,.int ep 0]) }:=λord c p=>
   q _ s.drawn s.heap.objs.size a ord (RX _) (λb o e=>RG _ e) (by rw[Sy];lia) (.inl rfl) c p
  cases hB:cT w with
  |true=>exact fin _ (.inl ⟨hB,RM _ rfl,rfl⟩) ((Eh _ es).map _)
  |false=>
    rw[hB]at hc;have hd:(!t.plain&&decide (es.size > 1))=false:=by simpa using hc
    exact fin _ (.inr (.inl ⟨hB,hd,0,RM _ rfl,Af ti.ris,rfl⟩)) (.refl _)
theorem oE.at(c:oE w h I a tp es ep t ord i)(k1:∀o,h.get? I=some o->h'.get? I=some o)(k2:∀o,h.get? tp=some o->h'.get? tp=some o):oE w h' I a tp es ep t ord i:=by
 rcases c with ⟨hb,hI,e⟩ | ⟨hb,hd,sl,hI,hs,e⟩ | ⟨hb,hd,ps,htp,hI,hT,hp,e⟩
 ·exact .inl ⟨hb,k1 _ hI,e⟩
 ·exact .inr (.inl ⟨hb,hd,sl,k1 _ hI,hs,e⟩)
 ·exact .inr (.inr ⟨hb,hd,ps,htp,k1 _ hI,k2 _ hT,hp,e⟩)
theorem oE.ty(c:oE w h I a tp es ep t ord i):∃vs,h.get? I=some (jY vs):=by rcases c with ⟨hb,hI,e⟩ | ⟨hb,hd,sl,hI,hs,e⟩ | ⟨hb,hd,ps,htp,hI,hT,hp,e⟩<;>exact⟨_,hI⟩
theorem Ga(hh:A.handled=none)(hf:t.fits es.size=true)(ti:TI (!cT w) t)(hne:a≠I):
  Walks prog w A I [I,a,tp] [I] ord.length (λi v=>ord[i]?=some v) (λi h=>h.get? a=some (cB es ep t)/\oE w h I a tp es ep t ord i) where
 sub:=λb hb=>by simp at hb;simp[hb]
 frame:=λz z z st hk=>⟨hk a (by simp) _ st.1,st.2.at (λo e=>hk I (by simp) o e) λo e=>hk tp (by simp) o e⟩
 item:=λi s Q E hi st hQ=>next_item st.1 hf ti hne st.2 hi λh' sb c=>hQ _ h' s.toks (by simp[hi]) ⟨sb.extBut a _ hne st.1,c⟩ λb o hb e=>sb.extBut b o (λh=>hb (by simp[h])) e
 done:=λs Q E st hQ=>next_end hh st.1 hf ti st.2 λh' k=>hQ h' s.toks λb o hb e=>k b o (λh=>hb (by simp[h])) e
 self:=λi s Q E st hQ=>by obtain⟨vs,hI⟩:=st.2.ty;have ty:s.TypeIs (.ref I) "set_iterator":=⟨_,hI,rfl⟩;exact W5 ty zV (Tc zV ty Gz (RJ ⟨_,rfl, "set_iterator",_,ty,bU.lookup,hQ⟩) (Ib _))
end
theorem Hy(h:b+1<=a):a≠b:=by lia
section
variable{prog:Program}{w:World}{A:Around}{E:Value->Shared->Prop}{s:Shared}
theorem GK(ho:s.heap.get? a=some (cB es ep t))(q:Q false s):wpAny (model prog w) A (Builtin.List.listLengthHint (.ref a)) Q E s:=by
 have ty:s.TypeIs (.ref a) "set":=⟨_,ho,rfl⟩;unfold Builtin.List.listLengthHint;refine RD (WM ty F.slot_set_len.lookup ?_);have sp:splitId "set.__len__"=some ("set", "__len__"):=by decide +kernel
 dsimp only;rw[sp];dsimp only;refine RD (Ww (b:=true) ty sub_set_self ?_);refine RD (Vw ty ?_);exact RJ q
end
end LS
namespace L2
open PySem PySem.Spec PyProof.Rows LS
def mV(x:Int):List Int->List Int
 |[]=>[x]
 |y::r=>if x<=y then x::y::r else y::mV x r
theorem oY(x:Int):∀ l:List Int,(mV x l).Perm (x::l)
 |[]=>.refl _
 |y::r=>by
   unfold mV;split
   ·exact .refl _
   ·exact ((oY x r).cons y).trans (.swap x y r)
set_option tactic.hygienic true in
theorem uQ(x:Int):∀ {l:List Int},l.Pairwise (·<= ·)->(mV x l).Pairwise (·<= ·)
 |[],_=>by simp[mV]
 | y::r,h=>by
   unfold mV;split
   ·rename_i c;refine UV.mpr ⟨λz hz=>?_,h⟩
    rcases R8.mp hz with rfl | hz
    ·exact c
    ·exact Int.le_trans c ((UV.mp h).1 z hz)
   ·rename_i c;have h':=UV.mp h;refine UV.mpr ⟨λz hz=>?_,uQ x h'.2⟩
    rcases R8.mp ((oY x r).mem_iff.mp hz) with rfl | hz
    ·lia
    ·exact h'.1 z hz
theorem ie:∀ l:List Int,(l.foldr mV []).Perm l/\(l.foldr mV []).Pairwise (·<= ·)
 |[]=>⟨.refl _,by simp⟩
 |x::l=>by obtain⟨a,b⟩:=ie l;exact⟨(oY x _).trans (a.cons x),uQ x b⟩
theorem lK:∀ {a b:List Int},a.Perm b->a.Pairwise (·<= ·)->b.Pairwise (·<= ·)->a=b
 |[],b,p,_,_=>p.nil_eq
 |x::a,[],p,_,_=>by have:=p.length_eq;simp at this
 | x::a,y::b,p,ha,hb=>by
   have h1:=UV.mp ha;have h2:=UV.mp hb;have xy:x=y:=by
    have m1:x∈y::b:=p.mem_iff.mp (Tp);have m2:y∈x::a:=p.mem_iff.mpr (Tp);rcases R8.mp m1 with e | m1
    ·exact e
    ·rcases R8.mp m2 with e | m2
     ·exact e.symm
     ·exact Int.le_antisymm (h1.1 y m2) (h2.1 x m1)
   subst xy;rw[lK (List.Perm.cons_inv p) h1.2 h2.2]
theorem zx:∀ {vs:List Value}{ns:List Int},vs.length=ns.length->(∀ (j:Nat) v,vs[j]?=some v->∃ n t,ns[j]?=some n/\v=.int n t)->IntsAre vs ns
 |[],[],_,_=>.nil
 |[],_::_,h,_=>by cases h
 |_::_,[],h,_=>by cases h
 |v::vs,n::ns,h,q=>by obtain⟨m,t,e,rfl⟩:=q 0 v rfl;cases e;exact .cons _ _ (zx (by simpa using h) λj v e=>q (j+1) v e)
section
variable{prog:Program}{w:World}{A:Around}{E:Value->Shared->Prop}{s:Shared}
theorem yM(K:PySem.W.KdlSrc prog w T r d n P OK)(hh:A.handled=none)(hok:OK s.heap)(hn:n<=sizeLine)
  (h:∀h' tk (acc:Array Value),s.heap.objs.size<=h'.objs.size->(∀b o,s.heap.get? b=some o->h'.get? b=some o)->ItemsOf P acc n->Q acc.toList { s with heap:=h',toks:=tk }):wpAny (model prog w) A (collect (.ref r)) Q E s:=by
 unfold collect;refine RD (Xi (Vj WF ?_));rw[Uo Wy _];refine RD (m:=newList []) (SQ (RJ ⟨Wu Vk _,Vj F.entry_list_iadd ?_⟩));rw[Uo Vk _];obtain⟨t1,t2⟩:=K.there _ hok;have lst0:(s.heap.push (seqObj "list" #[] 0)).get? s.heap.objs.size=some (seqObj "list" #[] 0):=RM _ rfl;have ok1:OK (s.heap.push (seqObj "list" #[] 0)):=K.keep _ _ hok λb z o e=>RG _ e
 show wpAny _ A.in1 (Builtin.List.listExtendWith (.ref s.heap.objs.size) (.ref r) (.ref s.heap.objs.size)) _ _ { s with heap:=s.heap.push (seqObj "list" #[] 0) }
 refine PySem.W.kdl_extend (A:=A) (R:=λq s'=>match q with
  | .ok (.ret v)=>wpAny (model prog w) A (match v with
    | .ref a=>do
      let o <-load a
      match o.data with
       |.seq xs _=>pure xs.toList
       |_=>unsupported "internal:collect"
    |_=>unsupported "internal:collect") Q E s'
  |.ok _=>False
  |.error e=>E e s') (s:={ s with heap:=s.heap.push (seqObj "list" #[] 0) }) K hh ok1 s.heap.objs.size (Vq t1) (Vq t2) (.ref s.heap.objs.size) 0 lst0 (λh1 tk1 acc c1 hk hS' hacc=>?_) hn
 refine RD (m:=load s.heap.objs.size) (W7 hS' ?_);exact RJ (h h1 tk1 acc (Vp (RN hS')) (λb o e=>hk b o (R5 (RN e)) (RG _ e)) hacc)
theorem yS(hh:A.handled=none)(dd:s.heap.DictOf (mixKind prog w) a kvs)(lo:(a == sysModules)=false)(hk:kvs.map (·.1)=ks.map Sum.inl)(h64:ks.length<64)
  (h:∀h' tk p n vs ns,s.heap.objs.size<=p->h'.get? p=some (seqObj "list" (vs:List Value).toArray n)->IntsAre vs ns->ns.Perm ks->ns.Pairwise (·<= ·)->(∀b o,s.heap.get? b=some o->h'.get? b=some o)->Q (.ref p) { s with heap:=h',toks:=tk }) :
  wpAny (model prog w) A (call (.builtin "sorted") [.ref a]) Q E s:=by
 refine V4 kind_sorted plain_sorted entry_sorted (args_sorted1 _) ?_;unfold Builtin.«sorted»
 refine RD (m:=checkCount "sorted" 1 1 _) (RJ ?_);obtain⟨ep,hat⟩:=dd.dictAt;have kl:kvs.length=ks.length:=by have:=congrArg List.length hk;simpa using this
 refine RD (yM (PySem.W.kdl_dict (knd:=mixKind prog w) (kvs:=kvs) (ep:=ep) lo) (by simp[hh]) hat (by rw[Vo];lia) λh1 tk1 acc sz k1 hacc=>?_)
 have hi:IntsAre acc.toList ks:=zx (by rw[Xo,hacc.1,kl]) λj v e=>by
  obtain⟨k,x,e1,e2⟩:=hacc.2 j v (by rw[<-Wz];exact e)
  have e3:(kvs.map (·.1))[j]?=some k:=by rw[R0,e1];rfl
  rw[hk,R0]at e3;obtain⟨n,e4,rfl⟩:=RL.mp e3;have e2:keyIs (Sum.inl n) v=true:=by rw[<-mixKind_is prog w];exact e2
  rcases keyIs_shape e2 with ⟨i,t,h1,h2⟩ | ⟨x,t,h1,h2⟩
  ·cases h1;exact⟨n,t,e4,h2⟩
  ·cases h1
 have vl:acc.toList.length=ks.length:=IntsAre.length hi;have zl:acc.toList.toArray.size<=sizeLine:=by rw[R9,Vo];lia
 refine RD (wpAny_newList ?_ zl);have oL:(h1.push (seqObj "list" acc.toList.toArray 0)).get? h1.objs.size=some (seqObj "list" acc.toList.toArray 0):=RM _ rfl;refine RD (Tz (Tc slot_list_sort ⟨_,oL,rfl⟩ entry_list_sort (list_sort_tree oL hi (by lia) λout ns' a1 a2 a3=>⟨_,rfl,?_⟩) (args_list_sort _)))
 obtain⟨e,he⟩:=sortedHeap_at (out:=out) oL;refine RJ ⟨_,rfl,h _ _ h1.objs.size e out.toList ns' sz (by simpa using he) a1 a2 a3 λb o eb=>?_⟩
 have lt:=RN (k1 b o eb);rw[sortedHeap_old (R5 lt) (by rw[size_push'];exact Vl lt)]
 exact RG _ (k1 b o eb)
end
def pG(ks:List Int):List Int:=ks.foldr mV []
theorem vW(hh:X.A.handled=none):CallR X (.builtin "sorted") (λxs H Q=>∃ (p:Addr) (kvs:List (Key×V)) (ks:List Int),xs=[.ref p]/\H p=some (.dK kvs)/\kvs.map (·.1)=ks.map Sum.inl/\ks.length<=60/\∀ l,H l=none->Q (.ref l) (upd H l (.lst ((pG ks).map V.int)))):=by
 intro Xp s σ H xs us Q I r1 h;obtain⟨p,kvs,ks,rfl,hp,hk,hl,q⟩:=h;cases r1 with
 | cons r rr=>
   cases rr;cases r;obtain⟨z,lo,vs,rel,dd⟩:=dk_of I.hok hp;have hkk:vs.map (·.1)=ks.map Sum.inl:=by rw[<-rel.keys,hk]
   refine yS hh dd lo hkk (by lia) λh2 tk2 l m ws ms hge hol ims pm so k2=>?_
   have em:ms=pG ks:=lK (pm.trans (ie _).1.symm) so (ie _).2;have zl:((pG ks).map V.int).length<=sizeLine:=by
    have e:(pG ks).length=ks.length:=(ie ks).1.length_eq;rw[RT,e];show _<=2^24
    lia
   have I2:=I.call (h':=h2) (t':=tk2) (d':=s.drawn) (g':=s.gens) (ch:=[]) (Un.laid k2 hge (I.hok.fresh hge)) (I.hok.laid (o:=.lst ((pG ks).map V.int)) k2 hge ⟨zl,ws,m,by rw[<-em];exact vals_ints ims,hol⟩) I.bare (λy z=>nomatch z)
   exact⟨.ref l,upd H l (.lst ((pG ks).map V.int)),I2,rfl,q l (I.hok.fresh hge)⟩
end L2
namespace LS
open PySem PySem.Spec PyProof.Rows
end LS
namespace L2
open PySem PySem.Spec PyProof.Rows LS
end L2
namespace L2
open PySem PySem.Spec PyProof.Rows
section
variable{X:Cx}{CX:CXT}{k:Nat}{f C:Addr}{fd:FuncData}{ps:List Str}{sp:Sp}{E:XK}
theorem Cy(hc:PySem.W.kitOne X.K (.ref C) (.ref C)=some true)(hn:PySem.W.findIn X.K (.ref C) "__class__"=some (some (.builtin "object.__class__")))(hs:PySem.W.specialIn X.K (.builtin "object.__class__") "__get__"=some (some (.builtin "getset_descriptor.__get__")))(htk:PySem.W.takesIn X.K (.builtin "object.__class__")=some true)
  (hm:PySem.W.mroIn X.K C (.type "object")=some true) (cl:Cls X.K C) :
  CallR X (.builtin "isinstance") (λxs H Q=>∃x,xs=[x,.ref C]/\((∃a dx fs,x=.ref a/\H a=some (.ins C dx fs)/\Q (.bl true) H)\/∃T,TyOf X.K H x (.type T)/\PySem.W.kitOne X.K (.type T) (.ref C)=some false/\Q (.bl false) H)):=by
 intro Xp s σ H xs us Q I r h;obtain⟨x,rfl,h⟩:=h;obtain⟨u,w',rfl,r1,r2⟩:=vals2 r;cases r2;rcases h with ⟨a,dx,fs,rfl,ha,q⟩ | ⟨T,ty,e,q⟩
 ·exact isinst_ok I r1 (.ins ha cl hn hs htk hm) hc λtk=>⟨.bl true,H,I.tok _,rfl,q⟩
 ·exact isinst_ok I r1 ty e λtk=>⟨.bl false,H,I.tok _,rfl,q⟩
end
end L2
namespace L2
open PySem PySem.Spec PyProof.Rows LS
end L2
namespace L2
open PySem PySem.Spec PyProof.Rows
end L2
namespace L2
open PySem PySem.Spec PyProof.Rows
open PySem PySem.Spec PyProof.Rows
end L2
namespace L2
open PySem PySem.Spec PyProof.Rows
def JS(lo c:Int)(n:Nat):It:=⟨λi z=>i<n,λi H x H'=>H'=H/\x=.int (lo+i*c),λi z=>n<=i⟩
theorem yU{P:Program}{w:World}{K:PySem.W.Frag}{tg:Expr}(it:Addr)(lo c:Int)(n:Nat):Turn P w K tg (JS lo c n) [it] it (λi h=>IsRangeIter h it (lo + (i:Nat) * c) ((n:Int) - (i:Nat)) c) where
 mem:=by simp
 obj:=λi h st b hb=>by
  have e:b=it:=by simpa using hb
  subst e;exact⟨_,st,λv z=>by have z':Data.fields _=Data.cell v:=z;cases z'⟩
 keep:=λi h h' st k=>k it (by simp) _ st
 item:=by
  intro X hP hw hK hc i Xp s σ H E I hf st hg;subst hP hw hK;obtain⟨f0,f1,f2,f3,f4,f5⟩:=hf it (by simp)
  have W:=Walks.range (prog:=X.prog) (w:=X.w) (I.ok.hd hc) it lo c n;refine W.item i s _ _ hg st λv h' tk hv st' kk=>?_
  obtain⟨t,rfl⟩:=hv;have I1:Inv X Xp σ H { s with heap:=h',toks:=tk }:=I.turned (λb o hb e=>kk b o (by simpa using hb) e) f0 f1 f3 f4 f5
  exact⟨_,rfl,go_of (s:={ s with heap:=h',toks:=tk }) (n := "range_iterator") st' rfl rfl (by decide) ⟨.int (lo+i*c),H,I1,⟨t,rfl⟩,⟨rfl,rfl⟩,st',λb hb=>(hf b hb).1⟩⟩
 done:=by
  intro X hP hw hK hc i Xp s σ H E I hf st hg;subst hP hw hK;obtain⟨f0,f1,f2,f3,f4,f5⟩:=hf it (by simp)
  exact wpAny_pyNext_range_end (I.ok.hd hc) st (by have:n<=i:=hg;lia) λh' eb=>⟨rfl,I.turned (t':=s.toks) (λb o hb e=>eb b o hb e) f0 f1 f3 f4 f5⟩
 self:=λy y y y y st h=>Ws st h
open PySem PySem.Spec PyProof.Rows
open PySem PySem.Spec PyProof.Rows
end L2
namespace L2
open PySem PySem.Spec PyProof.Rows LS
end L2
namespace L2
open PySem PySem.Spec PyProof.Rows
theorem Bd(r:Addr)(a b c:Int)(t u v:Tok)(hc0:¬(!(Builtin.Range.rangeFitsLong a&&Builtin.Range.rangeFitsLong b&&Builtin.Range.rangeFitsLong c&&Builtin.Range.rangeFitsLong (-c)&&Builtin.Range.rangeFitsLong (a-c)&&Builtin.Range.rangeFitsLong (Builtin.Range.rangeSize a b c)))=true):
  Meets (Builtin.«range.__reversed__» ⟨[.ref r],[]⟩) (λz R s=>s.heap.get? r=some { cls:=.type "range",dict:=none,data:=.fields #[.int a t,.int b u,.int c v],slots:=#[] }/\R (.ok (.ret (Value.ref s.heap.objs.size))) { s with heap:=s.heap.push { cls:=Value.type (if (Builtin.Range.rangeFitsLong a&&Builtin.Range.rangeFitsLong b&&Builtin.Range.rangeFitsLong c&&Builtin.Range.rangeFitsLong (-c)&&Builtin.Range.rangeFitsLong (a-c)&&Builtin.Range.rangeFitsLong (Builtin.Range.rangeSize a b c))=true then "range_iterator" else "longrange_iterator"),data:=Data.fields #[rawInt (a+(Builtin.Range.rangeSize a b c-1)*c),rawInt (Builtin.Range.rangeSize a b c),rawInt (-c)] },toks:=s.toks }):=
 .of_wp λprog w A R s h=>by obtain⟨hp,g,d,tk,os⟩:=s;obtain⟨hl,h⟩:=h;wp_walk;exact⟨_,rfl,h⟩
theorem boot_reversed:bootBuiltins "reversed"=some (.type "reversed"):=by decide +kernel
theorem Nm:isSubtype (.type "range_iterator") (.type "reversed")=pure false:=by rw[isSubtype_type];kernel_rfl
section
variable{prog:Program}{w:World}{A:Around}{E:Value->Shared->Prop}{s:Shared}
def tR(j:Nat):Obj:={ cls:=.type "range_iterator",data:=.fields #[rawInt ((j:Int)-1),rawInt (j:Int),rawInt (-1)] }
theorem CJ{r:Addr}{j:Nat}{t u v:Tok}{Q:Value->Shared->Prop}(hr:IsRange s.heap r 0 (j:Int) 1 t u v)(hj:j<=2^20)
  (h:Q (.ref s.heap.objs.size) { s with heap:=s.heap.push (tR j) }):wpAny (model prog w) A (call (.builtin "range.__reversed__") [.ref r]) Q E s:=by
 have hT:s.TypeIs (.ref r) "range":=⟨_,hr,rfl⟩;have e1:Builtin.Range.rangeSize 0 (j:Int) 1=(j:Int):=by rw[rangeSize_one];split<;>omega
 have e2:(Builtin.Range.rangeFitsLong 0&&Builtin.Range.rangeFitsLong (j:Int)&&Builtin.Range.rangeFitsLong 1&&Builtin.Range.rangeFitsLong (-1)&&Builtin.Range.rangeFitsLong (0-1)&&Builtin.Range.rangeFitsLong (Builtin.Range.rangeSize 0 (j:Int) 1))=true:=by rw[e1];simp only[Builtin.Range.rangeFitsLong,Bool.and_eq_true,decide_eq_true_eq];omega
 refine WQ F.slot_range_reversed hT F.entry_range_reversed (F.args_range_reversed_1 _) (Bd r 0 j 1 t u v (by rw[e2];decide)) ⟨hr,?_⟩
 rw[R1 e2,e1,show (0:Int)+((j:Int)-1)*1=(j:Int)-1 by omega]
 exact h
theorem CP{r:Addr}{j:Nat}{t u v:Tok}{Q₁:Value->Shared->Prop}(hr:IsRange s.heap r 0 (j:Int) 1 t u v)(hj:j<=2^20)
  (h:Q₁ (.ref s.heap.objs.size) { s with heap:=s.heap.push (tR j) }) :
  codeAny (model prog w) A (.call (.builtin "reversed.__new__") ⟨[.type "reversed",.ref r],[]⟩) (wants Q₁ E) s:=by
 have hT:s.TypeIs (.ref r) "range":=⟨_,hr,rfl⟩;refine Xh ?_;show wpAny _ A.in1 (do checkBuiltinCall "reversed.__new__" ⟨[.type "reversed",.ref r],[]⟩;again (.builtin "reversed.__new__" ⟨[.type "reversed",.ref r],[]⟩)) _ _ s
 refine RD (V0 (F.newCall_reversed_1 _) (RJ ⟨Wu F.plain_reversed_new _,Vj F.entry_reversed_new ?_⟩));rw[Uo F.plain_reversed_new _];unfold Builtin.«reversed.__new__»
 refine RD (V0 (newClass_reversed _) ?_);refine RD (V0 (a:=()) (by first | rfl | kernel_rfl) ?_)
 refine RD (V0 (a:=()) (by first | rfl | kernel_rfl) ?_)
 refine RD (WM hT F.slot_range_reversed.lookup ?_);refine RD (V0 (F.slot_range_reversed.bind _) ?_);show wpAny _ _ (if (Value.builtin "range.__reversed__"==Value.none)=true then _ else _) _ _ _
 rw[R3 (show ¬ ((Value.builtin "range.__reversed__"==Value.none)=true) from R4)]
 refine RD (U5 ?_);refine RD (m:=runValue (.call (.builtin "range.__reversed__") ⟨[.ref r],[]⟩)) (show wpAny _ _ (call (.builtin "range.__reversed__") [.ref r]) _ _ _ from CJ hr hj ?_)
 first
 |exact RJ h
 |exact RD (RJ (RJ h))
theorem Gm{r:Addr}{j:Nat}{t u v:Tok}{Q:Value->Shared->Prop}(hr:IsRange s.heap r 0 (j:Int) 1 t u v)(hj:j<=2^20)
  (h:Q (.ref s.heap.objs.size) { s with heap:=s.heap.push (tR j) }):wpAny (model prog w) A (call (.type "reversed") [.ref r]) Q E s:=by
 refine callType_other (U := "range_iterator") (Q₁:=λobj s₁=>obj=.ref s.heap.objs.size/\s₁={ s with heap:=s.heap.push (tR j) }) (by decide +kernel) F.create_reversed ⟨_,_,F.mro_reversed⟩ F.made_reversed Nm (F.typeCall_reversed_1 _) (CP hr hj ⟨rfl,rfl⟩) ?_
 rintro obj s₁ ⟨rfl,rfl⟩;exact⟨⟨_,RM _ rfl,rfl⟩,h⟩
end
section
variable{X:Cx}{tg:Expr}
def Qt(ta:TA):TI:=λσ H R=>ta σ H λvs H1=>∃j:Nat,vs=[.int (j:Int)]/\j<=2^20/\R (JS ((j:Int)-1) (-1) j) H1
theorem Mi{a:Expr}{ta:TA}{p p' pos pos':Pos}(hg:Gl X "reversed")(hm:X.mg "reversed"=none)(hg':Gl X "range")(hm':X.mg "range"=none)(ha:PA X [a] ta)(hs:notStar a=true:=by rfl):
  PI X tg (.Call (.Name "reversed" p) [.Call (.Name "range" p') [a] [] pos'] [] pos) (Qt ta):=by
 intro Xp s σ H R I h;have hst:starEach [Expr.Call (.Name "range" p') [a] [] pos'] X.env=(false,eval (.Call (.Name "range" p') [a] [] pos') X.env)::starEach [] X.env:=aW rfl;refine Call_ (ld_blt I hg hm boot_reversed (Th ?_ hst rfl));rw[hst];show wpAny _ _ (spliced ((false,eval (.Call (.Name "range" p') [a] [] pos') X.env)::[])) _ _ s;refine We ?_;refine Call_ (ld_blt I hg' hm' boot_range (Th (thn (ha pos' Xp s σ H _ I h) λus s1 ⟨vs,H1,I1,r1,q1⟩=>?_) (aW hs) rfl))
 obtain⟨j,e,q1,q⟩:=q1;subst e;cases r1 with
 | cons r rr=>
   cases rr;obtain⟨t,rfl⟩:=r;refine call_range_1 ?_;refine Wn ?_;refine Gm (IsRange.new ..) q1 ?_;let o:Obj:={ cls:=.type "range",data:=.fields #[.int 0 s1.toks,.int j t,.int 1 (s1.toks+1)] }
   have I2:Inv X Xp σ H1 { s1 with heap:=s1.heap.push o,toks:=s1.toks+1+1 }:=I1.kept λb o e=>RG _ e
   have hi:IsRangeIter ((s1.heap.push o).push (tR j)) (s1.heap.push o).objs.size ((j:Int)-1) j (-1):=RM _ rfl;refine Ws hi ?_;refine⟨(s1.heap.push o).objs.size,[(s1.heap.push o).objs.size],_,_,H1,rfl,I2.kept (t':=s1.toks+1+1) λb o e=>RG _ e,yU _ ((j:Int)-1) (-1) j,?_,λb hb=>?_,q⟩
   ·show IsRangeIter _ _ ((j:Int)-1+((0:Nat):Int)*(-1)) ((j:Int)-((0:Nat):Int)) (-1);rw[show (j:Int)-1+((0:Nat):Int)*(-1)=(j:Int)-1 by simp,show (j:Int)-((0:Nat):Int)=j by simp]
    exact hi
   ·have e:b=(s1.heap.push o).objs.size:=by simpa using hb
    subst e;exact I2.fpOk (RX _) (I2.hok.fresh (RX _))
end
end L2
namespace LB
open PySem PySem.W PyProof.Rows
end LB
namespace LB
open PySem PySem.W PySem.Calls PyProof.Rows
end LB
namespace L2
open PySem PySem.Spec PyProof.Rows LS LB
end L2
namespace LB
open PySem PySem.W PySem.Calls PyProof.Rows
end LB
namespace L2
open PySem PySem.Spec PyProof.Rows LS LB
end L2
namespace LA
open PySem LS
end LA
namespace LA
open PySem LS PyProof.Rows
abbrev iK(prog:Program)(w:World):=intKind prog w
def hT(prog:Program)(w:World)(k:List Int):Int:=tupleKeyHash (iK prog w) k
def ent(prog:Program)(w:World)(c:Addr×List Int):Int×Value:=(hT prog w c.2,.ref c.1)
abbrev JX(prog:Program)(w:World)(h:Heap)(cs:List (Addr×List Int)):Prop:=∀c∈cs,IsTupleKey (iK prog w) h c.2 c.1
section
variable{prog:Program}{w:World}{A:Around}{E:Value->Shared->Prop}{s:Shared}{L:Bool}{t:SetTable}{cs:List (Addr×List Int)}{a:Addr}{ep:Nat}
theorem qG(ho:s.heap.get? b=some o)(hd:o.data=.seq items n)(q:Q (some items) s):wpAny (model prog w) A (seqItems? (.ref b)) Q E s:=by unfold seqItems?;refine RD (W7 ho ?_);rw[hd];exact RJ q
theorem items_int(h:ItemsAre (iK prog w) ks vs):∀ v∈vs,∃ i u,v=.int i u:=by
 induction h with
 |nil=>intro v hv;cases hv
 | cons h1 _ ih=>
   intro v hv;rcases R8.mp hv with rfl | hv
   ·obtain⟨u,e⟩:=KZ h1;exact⟨_,u,e⟩
   ·exact ih v hv
theorem wY(hk:IsTupleKey (iK prog w) s.heap k b)(q:Q false s):wpAny (model prog w) A (ofAClassStatement 8 (.ref b)) Q E s:=by
 have hT:=hk.typeIs;obtain⟨o,items,n,ho,_,hd,hi⟩:=hk;have ii:=items_int hi;unfold ofAClassStatement;refine RD (Vw hT ?_);dsimp only;refine RD (RJ ?_);simp only[Bool.not_true,Bool.false_eq_true,if_false];refine RD (qG ho hd ?_);dsimp only;refine RD ?_;rw[<-Wb];refine wpAny_forIn_list _ (λrest r s'=>r=(none,())/\s'=s/\∀v∈rest,∃i u,v=.int i u) _ ?_ ?_ _ _ ⟨rfl,rfl,ii⟩
 ·rintro x rest r s' ⟨rfl,rfl,hall⟩;obtain⟨i,u,rfl⟩:=hall x Tp;refine RD (RJ ?_);exact RJ ⟨rfl,rfl,λv hv=>hall v (S6 _ hv)⟩
 ·rintro r s' ⟨rfl,rfl,_⟩;exact RJ q
theorem Bh(hk:IsTupleKey (iK prog w) s.heap k b)(q:Q true s):wpAny (model prog w) A (hashByValue 8 (.ref b)) Q E s:=by
 have hT:=hk.typeIs;obtain⟨o,items,n,ho,_,hd,hi⟩:=hk;have ii:=items_int hi;unfold hashByValue;refine RD (WM hT F.slot_tuple_hash.lookup ?_);dsimp only;refine RD (qG ho hd ?_);refine RD ?_;show wpAny _ _ (forIn items _ _) _ _ _;rw[<-Wb];refine wpAny_forIn_list _ (λrest r s'=>r=(none,())/\s'=s/\∀v∈rest,∃i u,v=.int i u) _ ?_ ?_ _ _ ⟨rfl,rfl,ii⟩
 ·rintro x rest r s' ⟨rfl,rfl,hall⟩;obtain⟨i,u,rfl⟩:=hall x Tp;refine RD (RJ ?_);exact RJ ⟨rfl,rfl,λv hv=>hall v (S6 _ hv)⟩
 ·rintro r s' ⟨rfl,rfl,_⟩;exact RJ q
theorem G7(hk:IsTupleKey (iK prog w) s.heap k b)(hl:∀ v∈l,∃ b' k',v=.ref b'/\IsTupleKey (iK prog w) s.heap k' b')(q:Q false s):wpAny (model prog w) A (searchCouldBeSeen (.ref b) l) Q E s:=by
 unfold searchCouldBeSeen;refine RD ?_;refine wpAny_forIn_list _ (λrest r s'=>r=(none,())/\s'=s/\∀v∈rest,∃b' k',v=.ref b'/\IsTupleKey (iK prog w) s.heap k' b') _ ?_ ?_ _ _ ⟨rfl,rfl,hl⟩
 ·rintro x rest r s' ⟨rfl,rfl,hall⟩;obtain⟨b',k',rfl,hk'⟩:=hall x Tp;have nx:∀v∈rest,∃b' k',v=.ref b'/\IsTupleKey (iK prog w) s'.heap k' b':=λv hv=>hall v (S6 _ hv)
  dsimp only;split
  ·exact RJ ⟨rfl,rfl,nx⟩
  ·refine RD (wpAny_eqIsQuiet_tuple hk ?_);simp only[Bool.not_true,Bool.false_eq_true,if_false];refine RD (wpAny_eqIsQuiet_tuple hk' ?_);simp only[Bool.not_true,Bool.false_eq_true,if_false];refine RD (wY hk ?_);simp only[Bool.false_eq_true,if_false];refine RD (wY hk' ?_);simp only[Bool.false_eq_true,if_false];exact RJ ⟨rfl,rfl,nx⟩
 ·rintro r s' ⟨rfl,rfl,_⟩;exact RJ q
end
end LA
namespace L2
open PySem PySem.Spec PyProof.Rows LS LA LB
section
variable{X:Cx}{Xp:List (Addr×Obj)}{σ:St}{H:Hp}{s:Shared}{scope:Scope}{cl:List (Str×Addr)}{own:List Str}{js:List Nat}{fr:List Str}{fp:List Addr}{C m:Addr}
theorem Ao(T:CompG X scope cl own js fr)(I:Inv X Xp σ H s)(f:∀ b∈fp,FpOk X Xp H b)(hlt:∀ b∈fp,b<s.heap.objs.size)
  (k:∀b o,s.heap.get? b=some o->h'.get? b=some o) (ha:s.heap.objs.size<=acc) (hC:s.heap.objs.size<=C) (hne:C≠acc) (hm:m=hh.objs.size) (hms:s.heap.objs.size<=m) (hCm:C<m) (ham:acc<m) (hh':h'=pushCells hh scope.names) (ob:ObjOk X.prog X.w (upd H acc ho) h' acc ho) (ns:h'.Ns C mm) :
  Inv (X.aU Xp scope (cellsFrom m scope.names cl) (own++fr) fp C s H) [] (List.replicate own.length none++pick js σ) (upd H acc ho) { s with heap:=h',toks:=t' }:=by
 have ok:CellsOk (pushCells hh scope.names) m (cellsFrom m scope.names []):=by
  have:=cellsFrom_ok scope.names hh m [] ⟨λx x hm=>(nomatch hm),List.Pairwise.nil⟩ (by rw[hm];exact RX _)
  rw[<-hm]at this;exact this
 have hold:∀y c,cl.lookup y=some c->c<s.heap.objs.size:=λy c e=>by obtain⟨v,q⟩:=I.cell y c (T.sub _ _ e);exact q.lt
 have spl:∀y c,(cellsFrom m scope.names cl).lookup y=some c->(m<=c/\h'.IsCell c none)\/(cl.lookup y=some c/\c<s.heap.objs.size):=λy c e=>by
  rw[bJ]at e;rcases jg e with z | ⟨_,z⟩
  ·have:=ok.empty _ _ (T3 z);exact .inl ⟨this.2,by rw[hh'];exact this.1⟩
  ·exact .inr ⟨z,hold _ _ z⟩
 have hn:H acc=none:=I.hok.fresh ha;have fC:H C=none:=I.hok.fresh hC;refine⟨vY T I f hlt hC hm hms,rfl,I.bare,Un.laid k ha hn,⟨mm,ns,λi y v h1 h2 h3=>?_⟩,λy c e=>?_,by show upd H acc _ C=none;rw[upd_ne hne];exact fC,λy c e=>?_,λp hp=>?_,I.hok.laid k ha ob,?_⟩
 ·have h1:(own++fr)[i]?=some y:=h1;by_cases hi:i<own.length
  ·rw[RZ (by rw[Tv];exact hi),Vb]at h2
   split at h2<;>cases h2
  ·rw [List.getElem?_append_right (by lia)] at h1
   rw[Sh (by rw[Tv];lia),Tv]at h2
   unfold pick at h2;rw[R0]at h2;cases hj:js[i-own.length]? with
   |none=>rw[hj]at h2;cases h2
   | some j=>
     rw[hj]at h2;have h2s:(σ[j]?).getD none=some v:=RP h2;have h2'':σ[j]?=some (some v):=by
      cases z:σ[j]? with
      |none=>rw[z]at h2s;cases h2s
      |some w=>rw[z]at h2s;exact congrArg some h2s
     obtain⟨g1,g2,g3,c,gc⟩:=T.fre _ j y hj h1;obtain⟨mX,_,hl⟩:=I.loc;have vis:Vis X.env.scope y:=g2.elim (λz=>.inr (.inl z)) λz=>.inr (.inr z)
     obtain⟨u,r,q⟩:=hl j y v g1 h2'' vis;refine⟨u,r,.inr ⟨g3,c,?_,?_⟩⟩
     ·show (cellsFrom m scope.names cl).lookup y=some c;rw[bJ];cases z:(cellsFrom m scope.names []).lookup y with
      |none=>rw[fU z];exact gc
      |some c'=>exact absurd (T.newc m y c' z) (T.oldc y c gc)
     ·have hc':=T.sub _ _ gc;rcases q with ⟨q,_⟩ | ⟨_,c2,e2,z⟩
      ·have q:X.env.scope.names.lookup y=some .local:=q;rcases g2 with g2 | g2<;>(rw[g2]at q;cases q)
      ·rw[hc']at e2;cases e2;exact z.keeps k
 ·rcases spl y c e with ⟨_,z⟩ | ⟨z,_⟩
  ·exact⟨_,z⟩
  ·obtain⟨v,q⟩:=I.cell y c (T.sub _ _ z);exact⟨v,q.keeps k⟩
 ·rcases spl y c e with ⟨z,_⟩ | ⟨z,lt⟩
  ·show upd H acc _ c=none;rw[upd_ne (λ(q:c=acc)=>absurd ham (Up.mpr (q ▸ z)))]
   exact I.hok.fresh (R7 hms z)
  ·show upd H acc _ c=none;rw[upd_ne (λ(q:c=acc)=>absurd lt (Up.mpr (q ▸ ha)))]
   exact I.freeC y c (T.sub _ _ z)
 ·have hp':p∈X.pn++Xp:=by simpa using hp
  obtain⟨e,n,ne,nf,d⟩:=I.pin p hp';refine⟨k _ _ e,?_,R5 (RQ (RN e) hC),λhm=>?_,d⟩
  ·show upd H acc _ p.1=none;rw[upd_ne (λz=>absurd (RN e) (by rw[z];exact Up.mpr ha))]
   exact n
  ·rcases R8.mp (I.stkSub _ hm) with z | z
   ·exact ne z
   ·exact nf z
 ·show (List.replicate own.length none++pick js σ).length=(own++fr).length;unfold pick;rw[R6,Tv,RT,R6,T.len]
end
section
variable{prog:Program}{w:World}{A:Around}{R:Result->Shared->Prop}{s:Shared}
def wA(elt:Expr)(acc:Value)(env:Env)(k:Sem Fin):Sem Fin:=(eval elt env>>=λv=>standAt elt.pos>>=λz=>call (.builtin "set.add") [acc,v]>>=λz=>pure ())>>=λz=>k
theorem Nu(elt target iter:Expr)(ifs:List Expr)(scope:Scope)(pos:Pos)(it acc:Value)(env:Env):
  compTurn (.SetComp elt [⟨target,iter,ifs,0⟩] scope pos) 0 it acc env=turnOf ⟨target,iter,ifs,0⟩ (wA elt acc env) (.compLoop (.SetComp elt [⟨target,iter,ifs,0⟩] scope pos) 0 it acc env) it env:=rfl
theorem Iw:jM prog w A (wA elt acc env) (λP s=>wpAny (model prog w) A (eval elt env) (λx s1=>wpAny (model prog w) A (call (.builtin "set.add") [acc,x]) (λy s2=>P s2) (λy y=>False) s1) (λy y=>False) s):=by intro k Q E s h;unfold wA;exact RD (RD (Sg h (λx s1 h1=>RD (Va (RD (Sg h1 (λy s2 h2=>RJ h2) λy y z=>z.elim)))) λy y z=>z.elim))
theorem DK(I:Nat->Shared->Prop)
  (hturn:compTurn (.SetComp elt gens scope pos) depth it acc env=turnOf g bodyK (.compLoop (.SetComp elt gens scope pos) depth it acc env) it env) (hW:jM prog w A bodyK W)
  (turn:∀ n s,I n s->wpAny (model prog w) A (pyNext it) (λr s₁=>match r with
    |none=>R (.ok .next) s₁
    |some v=>wpAny (model prog w) A (letOwnedTupleGo g.target it v) (λz s₂=>wpAny (model prog w) A (assign g.target env v) (λz s₃=>
      wpAny (model prog w) A (p8 g.ifs env) (λok s₄=>if ok=true then W (λs₅=>∃m,m<n/\I m s₅) s₄ else ∃m,m<n/\I m s₄) (λz z=>False) s₃) (λz z=>False) s₂) (λz z=>False) s₁) (λz z=>False) s)
  (hmono:∀P P' s,(∀s,P s->P' s)->W P s->W P' s)
  (n:Nat) (h:I n s):codeAny (model prog w) A (.compLoop (.SetComp elt gens scope pos) depth it acc env) R s:=by
 refine codeAny_loop rfl I (λn s hI=>?_) n h
 show wpAny _ A ((compTurn (.SetComp elt gens scope pos) depth it acc env).onRaise (λx=>do noteFrame x env;theTreesLotGoes x)) _ _ s
 refine wpAny_noted ?_;rw[hturn];unfold turnOf;refine RD (Va (RD (Sg (turn n s hI) (λr s₁ h₁=>?_) λz z h'=>h'.elim)))
 cases r with
 |none=>exact RJ h₁
 | some v=>
   refine RD (Sg h₁ (λz s₂ h₂=>RD (Sg h₂ (λz s₃ h₃=>RD (Sg h₃ (λok s₄ h₄=>?_) λz z h'=>h'.elim)) λz z h'=>h'.elim)) λz z h'=>h'.elim)
   cases ok with
   |false=>have h₄:∃m,m<n/\I m s₄:=h₄;exact RJ ⟨rfl,h₄⟩
   |true=>
     have h₄:W (λs₅=>∃m,m<n/\I m s₅) s₄:=h₄
     exact hW _ _ _ _ (hmono _ _ _ (λs₅ h₅=>RJ ⟨rfl,h₅⟩) h₄)
theorem Bx(hg:gens[depth]?=some g)(ha:g.is_async=0)
  (h0:codeAny (model prog w) A (.compLoop (.SetComp elt gens scope pos) depth it acc env) R s)
  (h:wpAny (model prog w) A (pyIter it) (λit' s'=>codeAny (model prog w) A (.compLoop (.SetComp elt gens scope pos) depth it' acc env) R s') (λz z=>False) s) :
  codeAny (model prog w) A (.compStart (.SetComp elt gens scope pos) depth it acc env) R s:=by
 refine Xh ?_;show wpAny _ _ ((compStart (.SetComp elt gens scope pos) depth it acc env).onRaise (λx=>do noteFrame x env;standAt theWindowsPlace)) _ _ s
 refine wpAny_notedAt ?_;unfold compStart;have e1:(((clausesOf (.SetComp elt gens scope pos))[depth]?).elim false (·.is_async != 0))=false:=by show ((gens[depth]?).elim false (·.is_async != 0))=false;rw[hg];show (g.is_async != 0)=false;rw[ha];rfl
 rw[e1];simp only[Bool.false_eq_true,if_false,pure_bind];refine RD (UT (wpAny_ite ?_));split
 ·first
   |exact RD (RJ (RJ (And.intro rfl h0)))
   |exact RJ (And.intro rfl h0)
 ·refine RD (U5 ?_);have e2:(clausesOf (.SetComp elt gens scope pos))[depth]?=some g:=hg;rw[e2];exact RD (Va (RD (Sg h (λit' s' h'=>RJ (And.intro rfl h')) λz z x=>x.elim)))
end
def zc(cs:List (Addr×List Int))(c:Addr×List Int):List (Addr×List Int):=if c.2∈cs.map (·.2) then cs else cs++[c]
theorem zy(ok:HOk P w H h)(hb:H b=some (.tup (k.map V.int))):IsTupleKey (iK P w) h k b:=by
 obtain⟨_,its,hv,o,ho,hc,n,hd⟩:=ok _ _ hb;refine⟨o,its.toArray,n,ho,hc,hd,?_⟩;have:∀ {ks:List Int}{us:List Value},Vals (ks.map V.int) us->ItemsAre (iK P w) ks us:=by
  intro ks;induction ks with
  |nil=>intro us h;cases h;exact .nil
  | cons k ks ih=>
    intro us h;cases h with
    |cons r t=>obtain⟨u,rfl⟩:=r;exact .cons (intKind_is _ _ _ _) (ih t)
 simpa using this hv
end L2
namespace LA
open PySem PySem.Spec PyProof.Rows LS LB
section
variable{prog:Program}{w:World}{A:Around}{E:Value->Shared->Prop}{s:Shared}
theorem vX(hh:A.handled=none)(ho:s.heap.get? a=some (cB es ep t))(hf:t.fits es.size=true)(ti:TI (!cT w) t)(hb:es.size<scanBound)(h:∀ h' tk d' vs,vs.Perm (es.toList.map (·.2))->s.heap.objs.size<=h'.objs.size->(∀ b o,s.heap.get? b=some o->h'.get? b=some o)->Q vs { s with heap:=h',toks:=tk,drawn:=d' }):wpAny (model prog w) A (collect (.ref a)) Q E s:=by
 unfold collect;refine RD (Xi (Vj WF ?_));rw[Uo Wy _];refine RD (m:=newList []) (SQ (RJ ⟨Wu Vk _,Vj F.entry_list_iadd ?_⟩));rw[Uo Vk _];have ha:a<s.heap.objs.size:=RN ho;have ne:s.heap.objs.size≠a:=λz=>by rw[z]at ha;exact UJ _ ha
 have sr:Builtin.List.listSameRef (.ref s.heap.objs.size) (.ref a)=false:=by simp[Builtin.List.listSameRef,ne]
 have lst0:(s.heap.push (seqObj "list" #[] 0)).get? s.heap.objs.size=some (seqObj "list" #[] 0):=RM _ rfl;have ho1:(s.heap.push (seqObj "list" #[] 0)).get? a=some (cB es ep t):=RG _ ho;show wpAny _ A.in1 (Builtin.List.listExtendWith (.ref s.heap.objs.size) (.ref a) (.ref s.heap.objs.size)) _ _ { s with heap:=s.heap.push (seqObj "list" #[] 0) }
 unfold Builtin.List.listExtendWith;refine RD (Vw (T := "set") ⟨_,ho1,rfl⟩ ?_);rw[R3 (by rw[sr];decide)]
 refine RD (GX (s:={ s with heap:=s.heap.push (seqObj "list" #[] 0) }) ho1 hf ti hb λh1 d1 I tp ord hI k1 hI1 htp c po=>?_)
 have ho2:=k1 a _ ho1;have lst1:=k1 _ _ lst0;have szI:s.heap.objs.size+1<=I:=by have:(s.heap.push (seqObj "list" #[] 0)).objs.size<=I:=hI;rw[Sy]at this;exact this
 refine RD (Tz (GK ho2 ?_));dsimp only;refine RD (m:=rule _) (U5 ?_);unfold Builtin.List.listTouch;refine RD (RD (W4 lst1 rfl ?_ (by simp) (by simp)))
 have lst2:=Xg lst1 (λx:Array Value=>x.push .none)
 refine W4 lst2 rfl ?_ (by simp[sizeLine_eq]) (by simp)
 have lst3:=Xg lst2 (λx:Array Value=>x.pop)
 have up:∀b o,b≠s.heap.objs.size->h1.get? b=some o->((h1.update s.heap.objs.size (Obj.mapSeq λx=>x.push .none)).update s.heap.objs.size (Obj.mapSeq λx=>x.pop)).get? b=some o:=λb o hb e=>by rw[Xm _ _ _ _ hb,Xm _ _ _ _ hb];exact e
 have neI:I≠s.heap.objs.size:=Hy szI;have netp:tp≠s.heap.objs.size:=by
  rcases htp with z | ⟨z,_⟩
  ·rw[z];exact λq=>ne q.symm
  ·have:s.heap.objs.size+1<=tp:=by have:(s.heap.push (seqObj "list" #[] 0)).objs.size<=tp:=z;rw[Sy]at this;exact this
   exact Hy this
 have hne:a≠I:=R5 (Wc ha szI);have hh1:A.in1.in1.handled=none:=by simp[hh]
 have W:=(Ga (prog:=prog) (w:=w) (A:=A.in1) (I:=I) (a:=a) (tp:=tp) (es:=es) (ep:=ep) (t:=t) (ord:=ord) (by simp[hh]) hf ti hne).toS
 have ol:ord.length=es.size:=by rw[po.length_eq];simp
 refine RJ ⟨Wu F.plain_extend_loop _,codeAny_extend_loopS W (by rw[ol];exact fits_of_scanBound hb) s.heap.objs.size (by simp;exact⟨λz=>neI z.symm,ne,λz=>netp z.symm⟩) _ ord.length 0 _ #[] _ rfl (Vn _) ⟨up a _ (λq=>ne q.symm) ho2,c.at (λo e=>up I o neI e) λo e=>up tp o netp e⟩ lst3 (ItemsOf.nil _) λs' acc c' hm hS' hacc=>?_⟩
 refine RD (m:=load s.heap.objs.size) (W7 hS' ?_);have ea:acc.toList=ord:=by
  apply List.ext_getElem?;intro k;by_cases hk:k<acc.size
  ·have:=hacc.2 k acc[k] (by rw[Ua hk])
   rw[this,Wz,Ua hk]
  ·rw[Uj (by simp;lia),Uj (by have:=hacc.1;lia)]
 obtain⟨h2,g2,d2,tk2,os2⟩:=s';have eg:g2=s.gens:=hm.gens;have ed:d2=d1:=hm.drawn;have eo:os2=s.os:=hm.os;subst eg ed eo;refine RJ (h h2 tk2 d2 acc.toList (by rw[ea];exact po) (Vp (RN hS')) λb o e=>?_)
 have lt:b<s.heap.objs.size:=RN e;refine hm.heap b o (by simp;exact⟨R5 lt,R5 (Wc lt szI)⟩) (up b o (R5 lt) (k1 b o (RG _ e)))
end
end LA
namespace L2
open PySem PySem.Spec PyProof.Rows LS LA LB
end L2
namespace LA
open PySem PySem.Spec PyProof.Rows LS
end LA
namespace L2
open PySem PySem.Spec PyProof.Rows LS
end L2
namespace L3
open PySem PySem.Spec L2
open PyProof.Rows hiding St
inductive D where
 |non | bl (b:Bool) | int (i:Int) | str (x:Str)
 |tup (l:List D) | lst (l:List D)
 |dic (ks:List Key) (vs:List D)
 |obj (c:Str) (ns:List Str) (vs:List D)
 |scr (ns:List Int)
 |ref (n:Nat)
 |cls (c:Str) | ty (t:String)
 |exn (a:Addr)
instance:Inhabited D:=⟨.non⟩
inductive DO where
 |lst (l:List D)
 |dic (ks:List Key) (vs:List D)
 |ins (c:Str) (ns:List Str) (vs:List D)
abbrev Mo:=List DO
inductive R(α:Type) where
 |ok (a:α) | exc (c:Str)
def DM(α:Type):=Mo->Option (R α×Mo)
@[reducible] def DM.pure{α:Type}(a:α):DM α:=λM=>some (.ok a,M)
def DM.bind{α β:Type}(m:DM α)(f:α->DM β):DM β:=λM=>match m M with
 |none=>none
 |some (.exc c,M')=>some (.exc c,M')
 |some (.ok a,M')=>f a M'
instance:Monad DM where
 pure:=DM.pure
 bind:=DM.bind
def rd{α:Type}(f:Mo->Option α):DM α:=λM=>(f M).map λa=>(.ok a,M)
def opt{α:Type}(o:Option α):DM α:=λM=>o.map λa=>(.ok a,M)
def stuck{α:Type}:DM α:=λz=>none
def raise{α:Type}(c:Str):DM α:=λM=>some (.exc c,M)
abbrev aa:=List (Option D)
structure Rh where
 st:List Addr
 vo:List Addr
instance:Membership Addr Rh:=⟨λρ a=>a∈ρ.st\/a∈ρ.vo⟩
def Rh.put(ρ:Rh)(p:Addr):Rh:=⟨ρ.st++[p],ρ.vo⟩
def Rh.hold(ρ:Rh)(p:Addr):Rh:=⟨ρ.st,p::ρ.vo⟩
mutual
inductive Cv(mg:Str->Option Value)(ρ:Rh)(H:Hp):V->D->Prop
 |non:Cv mg ρ H .non .non
 |bl (b:Bool):Cv mg ρ H (.bl b) (.bl b)
 |int (i:Int):Cv mg ρ H (.int i) (.int i)
 |str (x:Str):Cv mg ρ H (.str x) (.str x)
 |tup {a:Addr}{xs:List V}{ds:List D}:a∉ρ->H a=some (.tup xs)->Cvs mg ρ H xs ds->Cv mg ρ H (.ref a) (.tup ds)
 |lst {a:Addr}{xs:List V}{ds:List D}:a∉ρ->H a=some (.lst xs)->Cvs mg ρ H xs ds->Cv mg ρ H (.ref a) (.lst ds)
 |dic {a:Addr}{ks:List Key}{xs:List V}{ds:List D}:a∉ρ->H a=some (.dK (ks.zip xs))->ks.length=xs.length->Cvs mg ρ H xs ds->Cv mg ρ H (.ref a) (.dic ks ds)
 |obj {a C dx:Addr}{c:Str}{ns:List Str}{xs:List V}{ds:List D}:a∉ρ->mg c=some (.ref C)->H a=some (.ins C dx (ns.zip xs))->ns.length=xs.length->Cvs mg ρ H xs ds->Cv mg ρ H (.ref a) (.obj c ns ds)
 |scr {a:Addr}{ns:List Int}:a∉ρ->Rd H a (.lst (ns.map V.int))->Cv mg ρ H (.ref a) (.scr ns)
 |ref {n:Nat}{a:Addr}:ρ.st[n]?=some a->Cv mg ρ H (.ref a) (.ref n)
 |cls {c:Str}{C:Addr}:mg c=some (.ref C)->Cv mg ρ H (.ref C) (.cls c)
 |ty (t:String):Cv mg ρ H (.ty t) (.ty t)
 |exn (a:Addr):Cv mg ρ H (.ref a) (.exn a)
inductive Cvs(mg:Str->Option Value)(ρ:Rh)(H:Hp):List V->List D->Prop
 |nil:Cvs mg ρ H [] []
 |cons {v:V}{d:D}{vs:List V}{ds:List D}:Cv mg ρ H v d->Cvs mg ρ H vs ds->Cvs mg ρ H (v::vs) (d::ds)
end
structure Ext(ρ:Rh)(H:Hp)(ρ':Rh)(H':Hp):Prop where
 pre:∃τ,ρ'.st=ρ.st++τ
 vo:ρ'.vo=ρ.vo
 new:∀a,a∈ρ'.st->a∉ρ.st->H a=none
 keep:∀a o,H a=some o->a∉ρ.st->H' a=some o
theorem Ext.refl:Ext ρ H ρ H:=⟨⟨[],by simp⟩,rfl,λa h n=>absurd h n,λz z h z=>h⟩
theorem Ext.keeps(e:Ext ρ H ρ' H')(h:H a=some o)(n:a∉ρ):H' a=some o:=e.keep a o h λz=>n (.inl z)
theorem Ext.out1(e:Ext ρ H ρ' H')(h:H a=some o)(n:a∉ρ.st):a∉ρ'.st:=λz=>by have:=e.new a z n;rw[h]at this;cases this
theorem Ext.out(e:Ext ρ H ρ' H')(h:H a=some o)(n:a∉ρ):a∉ρ':=λz=>by
 rcases z with z | z
 ·exact e.out1 h (λy=>n (.inl y)) z
 ·rw[e.vo]at z;exact n (.inr z)
theorem Ext.trans(e:Ext ρ H ρ1 H1)(f:Ext ρ1 H1 ρ2 H2):Ext ρ H ρ2 H2:=by
 refine⟨?_,f.vo.trans e.vo,λa h n=>?_,λa o h n=>f.keep a o (e.keep a o h n) (e.out1 h n)⟩
 ·obtain⟨τ,h1⟩:=e.pre;obtain⟨υ,h2⟩:=f.pre;exact⟨τ++υ,by rw[h2,h1,Uq]⟩
 ·by_cases z:a∈ρ1.st
  ·exact e.new a z n
  ·cases q:H a with
   |none=>rfl
   |some o=>have:=f.new a h z;rw[e.keep a o q n]at this;cases this
theorem Ext.at(e:Ext ρ H ρ' H'){n:Nat}(h:ρ.st[n]?=some a):ρ'.st[n]?=some a:=by obtain⟨τ,h1⟩:=e.pre;rw[h1,RZ (RK.mp h).1];exact h
theorem Rh.nhold{ρ:Rh}{a p:Addr}(h:a∉ρ)(n:a≠p):a∉ρ.hold p:=λz=>by
 rcases z with z | z
 ·exact h (.inl z)
 ·rcases R8.mp z with z | z
  ·exact n z
  ·exact h (.inr z)
section
variable{mg:Str->Option Value}{ρ ρ':Rh}{H H':Hp}
theorem Cvs.ind{P:List V->List D->Prop}{vs:List V}{ds:List D}(h:Cvs mg ρ H vs ds)(n:P [] [])(c:∀{v d vs ds},Cv mg ρ H v d->Cvs mg ρ H vs ds->P vs ds->P (v::vs) (d::ds)):P vs ds:=
 Cvs.rec (motive_1:=λz z z=>True) (motive_2:=λvs ds z=>P vs ds) ⟨⟩ (λz=>⟨⟩) (λz=>⟨⟩) (λz=>⟨⟩) (λz z z z=>⟨⟩) (λz z z z=>⟨⟩) (λz z z z z=>⟨⟩) (λz z z z z z=>⟨⟩) (λz z=>⟨⟩) (λz=>⟨⟩) (λz=>⟨⟩) (λz=>⟨⟩) (λz=>⟨⟩) n (λa t z i=>c a t i) h
theorem Cvs.gen(at_:∀(n:Nat) a,ρ.st[n]?=some a->ρ'.st[n]?=some a)(kp:∀a o,H a=some o->a∉ρ->(∀φ,o≠.ext φ)->a∉ρ'/\H' a=some o){vs:List V}{ds:List D}(h:Cvs mg ρ H vs ds):Cvs mg ρ' H' vs ds:=
 Cvs.rec (motive_1:=λv d z=>Cv mg ρ' H' v d) (motive_2:=λvs ds z=>Cvs mg ρ' H' vs ds) .non .bl .int .str (λn h z c=>.tup (kp _ _ h n nofun).1 (kp _ _ h n nofun).2 c) (λn h z c=>.lst (kp _ _ h n nofun).1 (kp _ _ h n nofun).2 c) (λn h l z c=>.dic (kp _ _ h n nofun).1 (kp _ _ h n nofun).2 l c) (λn m h l z c=>.obj (kp _ _ h n nofun).1 m (kp _ _ h n nofun).2 l c)
  (λn h=>h.elim (λh=>.scr (kp _ _ h n nofun).1 (.inl (kp _ _ h n nofun).2)) λ⟨_,h⟩=>.scr (kp _ _ h n nofun).1 (.inr ⟨_,(kp _ _ h n nofun).2⟩)) (λh=>.ref (at_ _ _ h)) .cls .ty .exn .nil (λz z=>.cons) h
theorem Cvs.hd{v:V}{d:D}{vs:List V}{ds:List D}(h:Cvs mg ρ H (v::vs) (d::ds)):Cv mg ρ H v d:=by cases h;assumption
theorem Cv.gen(at_:∀(n:Nat) a,ρ.st[n]?=some a->ρ'.st[n]?=some a)(kp:∀a o,H a=some o->a∉ρ->(∀φ,o≠.ext φ)->a∉ρ'/\H' a=some o){v:V}{d:D}(h:Cv mg ρ H v d):Cv mg ρ' H' v d:=(Cvs.gen at_ kp (.cons h .nil)).hd
theorem Cv.mono(e:Ext ρ H ρ' H'){v:V}{d:D}(h:Cv mg ρ H v d):Cv mg ρ' H' v d:=h.gen (λz z=>e.at) λz z h n z=>⟨e.out h n,e.keeps h n⟩
theorem Cvs.mono(e:Ext ρ H ρ' H'){v:List V}{d:List D}(h:Cvs mg ρ H v d):Cvs mg ρ' H' v d:=h.gen (λz z=>e.at) λz z h n z=>⟨e.out h n,e.keeps h n⟩
theorem Cvs.len{vs:List V}{ds:List D}(h:Cvs mg ρ H vs ds):vs.length=ds.length:=h.ind (P:=λvs ds=>vs.length=ds.length) rfl λz z=>congrArg (·+ 1)
theorem Cvs.append{vs us:List V}{ds es:List D}(h:Cvs mg ρ H vs ds)(h2:Cvs mg ρ H us es):Cvs mg ρ H (vs++us) (ds++es):=h.ind (P:=λvs ds=>Cvs mg ρ H (vs++us) (ds++es)) h2 λa z=>.cons a
theorem Cvs.take{vs:List V}{ds:List D}(n:Nat)(h:Cvs mg ρ H vs ds):Cvs mg ρ H (vs.take n) (ds.take n):=h.ind (P:=λvs ds=>∀n,Cvs mg ρ H (vs.take n) (ds.take n)) (λn=>by rw[List.take_nil,List.take_nil];exact .nil) (λa z i n=>by cases n with | zero=>exact .nil | succ n=>exact .cons a (i n)) n
theorem Cvs.drop{vs:List V}{ds:List D}(n:Nat)(h:Cvs mg ρ H vs ds):Cvs mg ρ H (vs.drop n) (ds.drop n):=h.ind (P:=λvs ds=>∀n,Cvs mg ρ H (vs.drop n) (ds.drop n)) (λn=>by rw[List.drop_nil,List.drop_nil];exact .nil) (λa t i n=>by cases n with | zero=>exact .cons a t | succ n=>exact i n) n
theorem Cvs.get{vs:List V}{ds:List D}{i:Nat}{d:D}(h:Cvs mg ρ H vs ds):ds[i]?=some d->∃v,vs[i]?=some v/\Cv mg ρ H v d:=h.ind (P:=λvs ds=>∀i,ds[i]?=some d->∃v,vs[i]?=some v/\Cv mg ρ H v d) (λz e=>by cases e) (λ{v _ _ _} a _ r i=>by cases i with | zero=>exact λe=>⟨v,rfl,RP e ▸ a⟩ | succ n=>exact r n) i
theorem Cvs.set{v:V}{d:D}(h:Cv mg ρ H v d){vs:List V}{ds:List D}(i:Nat)(c:Cvs mg ρ H vs ds):Cvs mg ρ H (vs.set i v) (ds.set i d):=c.ind (P:=λvs ds=>∀i,Cvs mg ρ H (vs.set i v) (ds.set i d)) (λz=>.nil) (λa t r i=>by cases i with | zero=>exact .cons h t | succ n=>exact .cons a (r n)) i
theorem Cvs.ints:∀ns:List Int,Cvs mg ρ H (ns.map V.int) (ns.map D.int)
 |[]=>.nil
 |n::ns=>.cons (.int n) (Cvs.ints ns)
def jr(mg:Str->Option Value)(ρ:Rh)(H:Hp)(a:Addr):DO->Prop
 |.lst l=>∃xs,H a=some (.lst xs)/\Cvs mg ρ H xs l
 |.dic ks l=>∃xs,H a=some (.dK (ks.zip xs))/\ks.length=xs.length/\Cvs mg ρ H xs l
 |.ins c ns l=>∃C dx xs,mg c=some (.ref C)/\H a=some (.ins C dx (ns.zip xs))/\ns.length=xs.length/\Cvs mg ρ H xs l
theorem jr.some{a:Addr}{o:DO}(h:jr mg ρ H a o):∃u,H a=some u:=by
 cases o with
 |lst l=>obtain⟨xs,h,_⟩:=h;exact⟨_,h⟩
 |dic ks l=>obtain⟨xs,h,_⟩:=h;exact⟨_,h⟩
 |ins c ns l=>obtain⟨C,dx,xs,_,h,_⟩:=h;exact⟨_,h⟩
theorem jr.mono{a:Addr}{o:DO}(e:Ext ρ H ρ' H')(k:H' a=H a)(h:jr mg ρ H a o):jr mg ρ' H' a o:=by
 cases o with
 |lst l=>obtain⟨xs,h,c⟩:=h;exact⟨xs,k.trans h,c.mono e⟩
 |dic ks l=>obtain⟨xs,h,q,c⟩:=h;exact⟨xs,k.trans h,q,c.mono e⟩
 |ins c ns l=>obtain⟨C,dx,xs,m,h,q,c⟩:=h;exact⟨C,dx,xs,m,k.trans h,q,c.mono e⟩
structure J(mg:Str->Option Value)(ρ:Rh)(M:Mo)(H:Hp):Prop where
 len:ρ.st.length=M.length
 nd:ρ.st.Nodup
 obj:∀(n:Nat) a o,ρ.st[n]?=some a->M[n]?=some o->jr mg ρ H a o
 vol:∀a,a∈ρ.vo->a∉ρ.st/\∃xs,H a=some (.lst xs)
theorem J.some{M:Mo}(j:J mg ρ M H){a:Addr}(h:a∈ρ):∃u,H a=some u:=by
 rcases h with h | h
 ·obtain⟨n,hn⟩:=VG.mp h;have lt:n<M.length:=by rw[<-j.len];exact (RK.mp hn).1
  exact (j.obj n a M[n] hn (RV lt)).some
 ·obtain⟨_,xs,e⟩:=j.vol a h;exact⟨_,e⟩
theorem J.fresh{M:Mo}(j:J mg ρ M H){p:Addr}(h:H p=none):p∉ρ:=λz=>by obtain⟨u,e⟩:=j.some z;rw[h]at e;cases e
theorem J.inj{M:Mo}(j:J mg ρ M H){n m:Nat}{a:Addr}(h:ρ.st[n]?=Option.some a)(k:ρ.st[m]?=Option.some a):n=m:=by
 obtain⟨h1,e1⟩:=RK.mp h;obtain⟨h2,e2⟩:=RK.mp k;have q:∀i k (hi:i<ρ.st.length) (hk:k<ρ.st.length),i<k->ρ.st[i]≠ρ.st[k]:=λi k hi hk lt=>UW.mp j.nd i k hi hk lt
 rcases W6 n m with z | z | z
 ·exact absurd (e1.trans e2.symm) (q n m h1 h2 z)
 ·exact z
 ·exact absurd (e2.trans e1.symm) (q m n h2 h1 z)
theorem Ext.lay{p:Addr}{o:HO}(h:H p=none):Ext ρ H ρ (upd H p o):=⟨⟨[],by simp⟩,rfl,λa h n=>absurd h n,λa o e z=>by rw[upd_ne (ne_of_none e h)];exact e⟩
theorem Ext.same(S:Same H H'):Ext ρ H ρ H':=⟨⟨[],by simp⟩,rfl,λa h n=>absurd h n,λa o e z=>S _ _ e⟩
theorem J.same{M:Mo}(j:J mg ρ M H)(S:Same H H'):J mg ρ M H':=⟨j.len,j.nd,λn a o h k=>by have c:=j.obj n a o h k;obtain⟨u,e⟩:=c.some;exact c.mono (Ext.same S) (by rw[e,S _ _ e]),λa h=>let ⟨x,xs,e⟩:=j.vol a h;⟨x,xs,S _ _ e⟩⟩
theorem J.lay{M:Mo}(j:J mg ρ M H){p:Addr}(o:HO)(h:H p=none):J mg ρ M (upd H p o):=j.same (same_new h o)
theorem Ext.put{p:Addr}{o:HO}(h:H p=none):Ext ρ H (ρ.put p) (upd H p o):=⟨⟨[p],rfl⟩,rfl,λa ha n=>by
 rcases Su.mp ha with z | z
 ·exact absurd z n
 ·rw[SJ.mp z];exact h,λa o e y=>by rw[upd_ne (ne_of_none e h)];exact e⟩
theorem J.put{M:Mo}(j:J mg ρ M H){p:Addr}{o:HO}{u:DO}(h:H p=none)(c:jr mg (ρ.put p) (upd H p o) p u):J mg (ρ.put p) (M++[u]) (upd H p o):=by
 have np:p∉ρ.st:=λz=>j.fresh h (.inl z)
 refine⟨?_,?_,λn a w h1 h2=>?_,λa ha=>?_⟩
 ·show (ρ.st++[p]).length=_;rw[R6,R6,j.len];rfl
 ·show (ρ.st++[p]).Nodup;rw[Wo];exact⟨j.nd,by simp,λx hx y hy e=>by rw[SJ.mp hy]at e;exact np (e ▸ hx)⟩
 ·have h1:(ρ.st++[p])[n]?=Option.some a:=h1;by_cases hn:n<ρ.st.length
  ·rw[RZ hn]at h1;rw[RZ (by rw[<-j.len];exact hn)]at h2
   have c:=j.obj n a w h1 h2;exact c.mono (Ext.put h) (upd_ne λ(z:a=p)=>np (z ▸ S7 h1))
  ·have hl:n<(ρ.st++[p]).length:=(RK.mp h1).1;rw[R6]at hl;have e:n=ρ.st.length:=by have:[p].length=1:=rfl;lia
   subst e;rw[Sh (RX _)]at h1;rw[j.len,Sh (RX _)]at h2;simp at h1 h2;subst h1 h2;exact c
 ·obtain⟨x,xs,e⟩:=j.vol a ha;have ne:a≠p:=ne_of_none e h;refine⟨λz=>?_,xs,by rw[upd_ne ne];exact e⟩
  rcases Su.mp z with z | z
  ·exact x z
  ·exact ne (SJ.mp z)
theorem Ext.upd{p:Addr}{o:HO}(h:p∈ρ.st):Ext ρ H ρ (L2.upd H p o):=⟨⟨[],by simp⟩,rfl,λa h n=>absurd h n,λa u e n=>by rw[upd_ne (λ(z:a=p)=>n (z ▸ h))];exact e⟩
theorem J.upd{M:Mo}(j:J mg ρ M H){n:Nat}{p:Addr}{o:HO}{u:DO}(h:ρ.st[n]?=Option.some p)(c:jr mg ρ (L2.upd H p o) p u):J mg ρ (M.set n u) (L2.upd H p o):=by
 refine⟨by rw[U4];exact j.len,j.nd,λm a w h1 h2=>?_,λa ha=>?_⟩
 ·by_cases e:m=n
  ·subst e;rw[h]at h1;cases h1;have lt:m<M.length:=by rw[<-j.len];exact (RK.mp h).1
   rw[TY lt]at h2;cases h2;exact c
  ·rw[T7 (λz=>e z.symm)]at h2
   have ne:a≠p:=λz=>by subst z;exact e (j.inj h1 h)
   exact (j.obj m a w h1 h2).mono (Ext.upd (S7 h)) (by rw[upd_ne ne])
 ·obtain⟨x,xs,e⟩:=j.vol a ha;exact⟨x,xs,by rw[upd_ne (λ(z:a=p)=>x (z ▸ S7 h))];exact e⟩
theorem JP{p a:Addr}{o:HO}(hp:p∈ρ.vo)(n:a∉ρ):L2.upd H p o a=H a:=upd_ne λz=>n (by rw[z];exact .inr hp)
theorem Cvs.hold{p:Addr}{o:HO}(hp:p∈ρ.vo){v:List V}{d:List D}(h:Cvs mg ρ H v d):Cvs mg ρ (L2.upd H p o) v d:=h.gen (λz z h=>h) λz z h n z=>⟨n,(JP hp n).trans h⟩
theorem Cvs.less{ρ1:Rh}(hs:ρ1.st=ρ.st)(hv:∀a,a∈ρ1.vo->a∈ρ.vo){v:List V}{d:List D}(h:Cvs mg ρ H v d):Cvs mg ρ1 H v d:=h.gen (λx x h=>hs ▸ h) λx x h n x=>⟨λz=>n (z.elim (λy=>.inl (hs ▸ y)) λy=>.inr (hv _ y)),h⟩
theorem Cvs.more{p:Addr}(hp:H p=none){v:List V}{d:List D}(h:Cvs mg ρ H v d):Cvs mg (ρ.hold p) H v d:=h.gen (ρ:=ρ) (ρ':=ρ.hold p) (λz z h=>h) λz z h n z=>⟨Rh.nhold n (ne_of_none h hp),h⟩
theorem jr.map{ρ1:Rh}{H1:Hp}{a:Addr}{o:DO}(k:H1 a=H a)(f:∀vs ds,Cvs mg ρ H vs ds->Cvs mg ρ1 H1 vs ds)(h:jr mg ρ H a o):jr mg ρ1 H1 a o:=by
 cases o with
 |lst l=>obtain⟨xs,h,c⟩:=h;exact⟨xs,k.trans h,f _ _ c⟩
 |dic ks l=>obtain⟨xs,h,q,c⟩:=h;exact⟨xs,k.trans h,q,f _ _ c⟩
 |ins c ns l=>obtain⟨C,dx,xs,m,h,q,c⟩:=h;exact⟨C,dx,xs,m,k.trans h,q,f _ _ c⟩
theorem J.begin{M:Mo}(j:J mg ρ M H){p:Addr}(hp:H p=none):J mg (ρ.hold p) M (L2.upd H p (.lst [])):=by
 have np:p∉ρ.st:=λz=>j.fresh hp (.inl z)
 refine⟨j.len,j.nd,λn a o h1 h2=>?_,λa ha=>?_⟩
 ·exact (j.obj n a o h1 h2).map (upd_ne λ(z:a=p)=>np (z ▸ S7 h1)) λvs ds c=>(c.more hp).hold (.head _)
 ·rcases R8.mp ha with rfl | ha
  ·exact⟨np,[],upd_same⟩
  ·obtain⟨x,xs,e⟩:=j.vol a ha;exact⟨x,xs,by rw[upd_ne (ne_of_none e hp)];exact e⟩
theorem J.grow{M:Mo}(j:J mg ρ M H){p:Addr}{ys:List V}(hp:p∈ρ.vo):J mg ρ M (L2.upd H p (.lst ys)):=by
 refine⟨j.len,j.nd,λn a o h1 h2=>?_,λa ha=>?_⟩
 ·exact (j.obj n a o h1 h2).map (upd_ne λ(z:a=p)=>(j.vol p hp).1 (z ▸ S7 h1)) λvs ds c=>c.hold hp
 ·by_cases z:a=p
  ·subst z;exact⟨(j.vol a ha).1,ys,upd_same⟩
  ·obtain⟨x,xs,e⟩:=j.vol a ha;exact⟨x,xs,by rw[upd_ne z];exact e⟩
theorem J.done{M:Mo}{p:Addr}{ρ1:Rh}(j:J mg ρ1 M H)(hv:ρ1.vo=p::ρ.vo):J mg ⟨ρ1.st,ρ.vo⟩ M H:=by
 refine⟨j.len,j.nd,λn a o h1 h2=>?_,λa ha=>?_⟩
 ·exact jr.map (ρ:=ρ1) rfl (λvs ds c=>Cvs.less (ρ:=ρ1) (ρ1:=⟨ρ1.st,ρ.vo⟩) rfl (λa ha=>by rw[hv];exact .tail _ ha) c) (j.obj n a o h1 h2)
 ·obtain⟨x,y⟩:=j.vol a (by rw[hv];exact .tail _ ha)
  exact⟨x,y⟩
end
structure Kp(ρ:Rh)(H:Hp)(ρ':Rh)(H':Hp):Prop where
 pre:∃τ,ρ'.st=ρ.st++τ
 keep:∀a o,H a=some o->a∉ρ->(∀φ,o≠.ext φ)->a∉ρ'/\H' a=some o
theorem Ext.kp{ρ ρ':Rh}{H H':Hp}(e:Ext ρ H ρ' H'):Kp ρ H ρ' H':=⟨e.pre,λa o h n z=>⟨e.out h n,e.keeps h n⟩⟩
theorem Kp.trans{ρ ρ1 ρ2:Rh}{H H1 H2:Hp}(a:Kp ρ H ρ1 H1)(b:Kp ρ1 H1 ρ2 H2):Kp ρ H ρ2 H2:=by
 refine⟨?_,λc o h n ne=>let ⟨x,y⟩:=a.keep c o h n ne;b.keep c o y x ne⟩
 obtain⟨τ,h1⟩:=a.pre;obtain⟨υ,h2⟩:=b.pre;exact⟨τ++υ,by rw[h2,h1,Uq]⟩
theorem Kp.at{ρ ρ':Rh}{H H':Hp}(e:Kp ρ H ρ' H'){n:Nat}{a:Addr}(h:ρ.st[n]?=some a):ρ'.st[n]?=some a:=by obtain⟨τ,h1⟩:=e.pre;rw[h1,RZ (RK.mp h).1];exact h
section
variable{mg:Str->Option Value}{ρ ρ':Rh}{H H':Hp}
theorem Cv.kp(e:Kp ρ H ρ' H'){v:V}{d:D}(h:Cv mg ρ H v d):Cv mg ρ' H' v d:=h.gen (λz z=>e.at) e.keep
theorem Cvs.kp(e:Kp ρ H ρ' H'){v:List V}{d:List D}(h:Cvs mg ρ H v d):Cvs mg ρ' H' v d:=h.gen (λz z=>e.at) e.keep
end
def oH(mg:Str->Option Value)(ρ:Rh)(H:Hp){α β:Type}(rel:Rh->Hp->β->α->Prop)(Q:β->Hp->Prop)(E:XK):R α×Mo->Prop
 |(.ok a,M')=>∀ρ' H' b,Ext ρ H ρ' H'->J mg ρ' M' H'->rel ρ' H' b a->Q b H'
 |(.exc c,M')=>∀ρ' H' C,Ext ρ H ρ' H'->J mg ρ' M' H'->mg c=some (.ref C)->E (.ref C) none H'
def Go(mg:Str->Option Value)(E:XK){α β:Type}(rel:Rh->Hp->β->α->Prop)(Q:β->Hp->Prop)(ρ:Rh)(H:Hp)(m:DM α)(M:Mo):Prop:=∃r,m M=some r/\oH mg ρ H rel Q E r
section
variable{mg:Str->Option Value}{ρ ρ':Rh}{H H':Hp}{E:XK}{α β γ δ':Type}{rel:Rh->Hp->β->α->Prop}{rel':Rh->Hp->δ'->γ->Prop}{Q:δ'->Hp->Prop}{Q':β->Hp->Prop}
theorem oH.mono{r:R α×Mo}(e:Ext ρ H ρ' H')(h:oH mg ρ H rel Q' E r):oH mg ρ' H' rel Q' E r:=by
 obtain⟨r,M'⟩:=r;cases r with
 |ok a=>exact λρ2 H2 b e2 j c=>h ρ2 H2 b (e.trans e2) j c
 |exc c=>exact λρ2 H2 C e2 j m=>h ρ2 H2 C (e.trans e2) j m
set_option tactic.hygienic true in
theorem Go.bind{m:DM α}{k:α->DM γ}{M:Mo}(g:Go mg E rel' Q ρ H (m>>=k) M)
  (f:∀ρ1 H1 M1 b a,Ext ρ H ρ1 H1->J mg ρ1 M1 H1->rel ρ1 H1 b a->Go mg E rel' Q ρ1 H1 (k a) M1->Q' b H1):Go mg E rel Q' ρ H m M:=by
 obtain⟨r,e,p⟩:=g;have e:DM.bind m k M=some r:=e;unfold DM.bind at e;split at e
 ·cases e
 ·rename_i c M' em;cases e;exact⟨_,em,p⟩
 ·rename_i a M' em;exact⟨_,em,λρ1 H1 b x j c=>f ρ1 H1 M' b a x j c ⟨r,e,p.mono x⟩⟩
theorem Go.rd{f:Mo->Option α}{M:Mo}(g:Go mg E rel Q' ρ H (rd f) M):∃a,f M=some a/\∀ρ' H' b,Ext ρ H ρ' H'->J mg ρ' M H'->rel ρ' H' b a->Q' b H':=by obtain⟨r,e,p⟩:=g;obtain⟨a,e1,rfl⟩:=RL.mp e;exact⟨a,e1,p⟩
theorem Go.opt{o:Option α}{M:Mo}(g:Go mg E rel Q' ρ H (opt o) M):∃a,o=some a/\∀ρ' H' b,Ext ρ H ρ' H'->J mg ρ' M H'->rel ρ' H' b a->Q' b H':=by obtain⟨r,e,p⟩:=g;obtain⟨a,e1,rfl⟩:=RL.mp e;exact⟨a,e1,p⟩
theorem Go.pure{a:α}{M:Mo}(g:Go mg E rel Q' ρ H (pure a) M):∀ρ' H' b,Ext ρ H ρ' H'->J mg ρ' M H'->rel ρ' H' b a->Q' b H':=by obtain⟨r,e,p⟩:=g;have e:some (R.ok a,M)=some r:=e;cases e;exact p
end
structure Ev(mg:Str->Option Value)(ρ:Rh)(H:Hp)(σ:St)(δ:aa):Prop where
 len:σ.length=δ.length
 val:∀(i:Nat) d,δ[i]?=some (some d)->∃v,σ[i]?=some (some v)/\Cv mg ρ H v d
theorem Ev.mono{mg:Str->Option Value}{ρ ρ':Rh}{H H':Hp}{σ:St}{δ:aa}(e:Ext ρ H ρ' H')(h:Ev mg ρ H σ δ):Ev mg ρ' H' σ δ:=
 ⟨h.len,λi d q=>let ⟨v,a,b⟩:=h.val i d q;⟨v,a,b.mono e⟩⟩
theorem Ev.kp{mg:Str->Option Value}{ρ ρ':Rh}{H H':Hp}{σ:St}{δ:aa}(e:Kp ρ H ρ' H')(h:Ev mg ρ H σ δ):Ev mg ρ' H' σ δ:=
 ⟨h.len,λi d q=>let ⟨v,a,b⟩:=h.val i d q;⟨v,a,b.kp e⟩⟩
theorem Ev.set{mg:Str->Option Value}{ρ:Rh}{H:Hp}{σ:St}{δ:aa}{i:Nat}{v:V}{d:D}(h:Ev mg ρ H σ δ)(c:Cv mg ρ H v d):Ev mg ρ H (σ.set i (some v)) (δ.set i (some d)):=by
 refine⟨by rw[U4,U4,h.len],λj x q=>?_⟩
 by_cases e:j=i
 ·subst e;have hj:j<(δ.set j (some d)).length:=(RK.mp q).1;rw[U4]at hj;rw[TY hj]at q;cases q;exact⟨v,TY (by rw[h.len];exact hj),c⟩
 ·rw[T7 (λz=>e z.symm)]at q ⊢
  exact h.val j x q
def tD(mg:Str->Option Value)(E:XK){α β:Type}(rel:Rh->Hp->β->α->Prop)(f:aa->DM α):St->Hp->(β->Hp->Prop)->Prop:=λσ H Q=>
 ∃ρ δ M,Ev mg ρ H σ δ/\J mg ρ M H/\Go mg E rel Q ρ H (f δ) M
def Bv(_:Rh)(_:Hp)(b a:Bool):Prop:=b=a
structure DE(X:Cx)(E:XK)(e:Expr)(f:aa->DM D):Prop where
 h:PE X e (tD X.mg E (Cv X.mg) f)
structure DA(X:Cx)(E:XK)(es:List Expr)(f:aa->DM (List D)):Prop where
 h:QA X es (tD X.mg E (Cvs X.mg) f)
structure DT(X:Cx)(E:XK)(e:Expr)(f:aa->DM Bool):Prop where
 h:PT X e (tD X.mg E Bv f)
theorem PE.mono{X:Cx}{e:Expr}{t t':TE}(h:PE X e t)(f:∀σ H Q,t' σ H Q->t σ H Q):PE X e t':=λXp s σ H Q I q=>h Xp s σ H Q I (f σ H Q q)
theorem PT.mono{X:Cx}{e:Expr}{t t':TT}(h:PT X e t)(f:∀σ H Q,t' σ H Q->t σ H Q):PT X e t':=λXp s σ H Q I q=>h Xp s σ H Q I (f σ H Q q)
theorem PA.mono{X:Cx}{e:List Expr}{t t':TA}(h:PA X e t)(f:∀σ H Q,t' σ H Q->t σ H Q):PA X e t':=λp Xp s σ H Q I q=>h p Xp s σ H Q I (f σ H Q q)
mutual
def toPy:D->Option PyData
 |.non=>some .none
 |.bl b=>some (.bool b)
 |.int i=>some (.int i)
 |.str x=>some (.str x)
 |.tup l=>(cV l).map .tuple
 |.lst l=>(cV l).map .list
 |_=>none
def cV:List D->Option (List PyData)
 |[]=>some []
 |d::l=>match toPy d,cV l with
   |some p,some ps=>some (p::ps)
   |_,_=>none
end
mutual
def km:D->Option PyData
 |.non=>some .none
 |.bl b=>some (.bool b)
 |.int i=>some (.int i)
 |.str x=>some (.str x)
 |.tup l=>(iw l).map .tuple
 |.lst l=>(iw l).map .list
 |.dic [] []=>some (.dict [])
 |.dic [.inl i] [.int j]=>some (.dict [(.int i,.int j)])
 |_=>none
def iw:List D->Option (List PyData)
 |[]=>some []
 |d::l=>match km d,iw l with
   |some p,some ps=>some (p::ps)
   |_,_=>none
end
section
variable{mg:Str->Option Value}{ρ:Rh}{H:Hp}
theorem nO{α:Type}{p:α}{P:Prop}(e:none=some p):P:=nomatch e
theorem FJ{ks:List Key}{ds:List D}{p:PyData}(e:km (.dic ks ds)=some p):(ks=[]/\ds=[]/\.dict []=p)\/∃i j,ks=[.inl i]/\ds=[.int j]/\.dict [(.int i,.int j)]=p:=by
 match ks,ds,e with
 |[],[],e=>exact .inl ⟨rfl,rfl,RP e⟩
 |[.inl i],[.int j],e=>exact .inr ⟨i,j,rfl,rfl,RP e⟩
theorem Cvs.repF{vs:List V}{ds:List D}{ps:List PyData}(h:Cvs mg ρ H vs ds):cV ds=some ps->RepsF H true vs ps:=
 Cvs.rec (motive_1:=λv d z=>∀ p,toPy d=some p->RepF H true v p) (motive_2:=λvs ds z=>∀ ps,cV ds=some ps->RepsF H true vs ps)
  (λz e=>RP e ▸ .non) (λb z e=>RP e ▸ .bl b) (λb z e=>RP e ▸ .int b) (λb z e=>RP e ▸ .str b)
  (λz h z c z e=>by obtain⟨ps,e1,e2⟩:=RL.mp e;exact e2 ▸ .tup h (c _ e1)) (λz h z c z e=>by obtain⟨ps,e1,e2⟩:=RL.mp e;exact e2 ▸ .lst h (c _ e1))
  (λz z z z z z e=>nO e) (λz z z z z z z e=>nO e) (λz z z e=>nO e) (λz z e=>nO e) (λz z e=>nO e) (λz z e=>nO e) (λz z e=>nO e)
  (λz e=>RP e ▸ .nil) (λ{_ d _ l} _ _ i j _ e=>by
    revert e;show (match toPy d,cV l with | some p,some ps=>some (p::ps) | _,_=>none)=_->_
    cases h1:toPy d with
    |none=>exact λe=>nO e
    |some p=>cases h2:cV l with
      |none=>exact λe=>nO e
      |some q=>exact λe=>RP e ▸ .cons (i _ h1) (j _ h2)) h ps
theorem Cv.repF{v:V}{d:D}{p:PyData}(h:Cv mg ρ H v d)(e:toPy d=some p):RepF H true v p:=by
 have z:cV [d]=some [p]:=by
  show (match toPy d,some [] with | some p,some ps=>some (p::ps) | _,_=>none)=_
  rw[e]
 cases Cvs.repF (.cons h .nil) z;assumption
theorem Cvs.repD{vs:List V}{ds:List D}{ps:List PyData}(h:Cvs mg ρ H vs ds):iw ds=some ps->RepsF H false vs ps:=
 Cvs.rec (motive_1:=λv d y=>∀ p,km d=some p->RepF H false v p) (motive_2:=λvs ds y=>∀ ps,iw ds=some ps->RepsF H false vs ps)
  (λy e=>RP e ▸ .non) (λb y e=>RP e ▸ .bl b) (λb y e=>RP e ▸ .int b) (λb y e=>RP e ▸ .str b)
  (λy h y c y e=>by obtain⟨ps,e1,e2⟩:=RL.mp e;exact e2 ▸ .tup h (c _ e1)) (λy h y c y e=>by obtain⟨ps,e1,e2⟩:=RL.mp e;exact e2 ▸ .lst h (c _ e1))
  (λy h y c y y e=>by
    rcases FJ e with ⟨rfl,rfl,z⟩ | ⟨i,j,rfl,rfl,z⟩
    ·cases c;exact z ▸ .d0 h
    ·cases c with
     |cons c1 c2=>cases c2;cases c1;exact z ▸ .d1 h) (λy y y y y y y e=>nO e) (λy y y e=>nO e) (λy y e=>nO e) (λy y e=>nO e) (λy y e=>nO e) (λy y e=>nO e)
  (λy e=>RP e ▸ .nil) (λ{_ d _ l} _ _ i j _ e=>by
    revert e;show (match km d,iw l with | some p,some ps=>some (p::ps) | _,_=>none)=_->_
    cases h1:km d with
    |none=>exact λe=>nO e
    |some p=>cases h2:iw l with
      |none=>exact λe=>nO e
      |some q=>exact λe=>RP e ▸ .cons (i _ h1) (j _ h2)) h ps
theorem Cv.repD{v:V}{d:D}{p:PyData}(h:Cv mg ρ H v d)(e:km d=some p):RepF H false v p:=by
 have z:iw [d]=some [p]:=by
  show (match km d,some [] with | some p,some ps=>some (p::ps) | _,_=>none)=_
  rw[e]
 cases Cvs.repD (.cons h .nil) z;assumption
end
section
variable{X:Cx}{E:XK}{a b c:Expr}{fa fb fc:aa->DM D}{pos:Pos}
def bL(i:Nat)(δ:aa):DM D:=opt ((δ[i]?).join)
theorem ao(i:Nat){x:Str}(hN:X.N[i]?=some x:=by rfl)(hv:Vis X.env.scope x:=by first | exact Or.inl rfl | exact Or.inr (Or.inl rfl) | exact Or.inr (Or.inr rfl))(hd:(x==("__debug__":Str))=false:=by decide)
  (hcd:(x==("__classdict__":Str))=false:=by decide):DE X E (.Name x pos) (bL i):=⟨PE.mono (pe_var (i:=i) hN hv hd hcd) λσ H Q h=>by
 obtain⟨ρ,δ,M,ev,j,g⟩:=h;obtain⟨d,e,q⟩:=g.opt;have e':δ[i]?=some (some d):=by
  cases z:δ[i]? with
  |none=>rw[z]at e;cases e
  |some o=>rw[z]at e;exact congrArg some e
 obtain⟨v,h1,h2⟩:=ev.val i d e';exact⟨v,h1,q ρ H v .refl j h2⟩⟩
theorem gw{e:Expr}{v:V}{d:D}(h:PE X e (tC v))(hc:∀ρ H,Cv X.mg ρ H v d):DE X E e (λz=>pure d):=⟨PE.mono h λσ H Q h=>by obtain⟨ρ,δ,M,ev,j,g⟩:=h;exact g.pure ρ H v .refl j (hc _ _)⟩
theorem aB{i j}:DE X E (.Constant (.int i) j pos) (λz=>pure (.int i)):=gw pe_int λz z=>.int i
theorem pM{i j}:DE X E (.Constant (.bool i) j pos) (λz=>pure (.bl i)):=gw pe_bl λz z=>.bl i
theorem CV{j}:DE X E (.Constant .none j pos) (λz=>pure .non):=gw pe_non λz z=>.non
theorem NK{x:Str}{i:Int}{t:Tok}(h:X.mg x=some (.int i t))(hg:Gl X x:=by rfl)(hd:(x==("__debug__":Str))=false:=by decide):DE X E (.Name x pos) (λz=>pure (.int i)):=gw (Ob h hg hd) λz z=>.int i
theorem Ke{x:Str}{C:Addr}(h:X.mg x=some (.ref C))(hg:Gl X x:=by rfl)(hd:(x==("__debug__":Str))=false:=by decide):DE X E (.Name x pos) (λz=>pure (.cls x)):=gw (Mh h hg hd) λz z=>.cls h
theorem pN{x:Str}{T:String}(hm:X.mg x=none)(hg:Gl X x:=by rfl)(hv:bootBuiltins x=some (.type T):=by decide +kernel)(hn:x≠"__name__":=by decide)(hdb:(x==("__debug__":Str))=false:=by decide):DE X E (.Name x pos) (λz=>pure (.ty T)):=
 gw (Od hm hg hv hn hdb) λz z=>.ty T
def rD(mg:Str->Option Value)(E:XK)(g:D->D->DM D):R2:=λx y H Q=>∃ρ M dx dy,J mg ρ M H/\Cv mg ρ H x dx/\Cv mg ρ H y dy/\Go mg E (Cv mg) Q ρ H (g dx dy) M
def bM(X:Cx)(E:XK)(f:Value->Value->Sem Value)(g:D->D->DM D):Prop:=OpR X f (rD X.mg E g)
theorem Hw{g:D->D->DM D}{r:R2}(hr:∀x y H Q,rD X.mg E g x y H Q->r x y H Q){σ:L2.St}{H:Hp}{Q:VK}(h:tD X.mg E (Cv X.mg) (λδ=>fa δ>>=λx=>fb δ>>=λy=>g x y) σ H Q):
  tOp r (tD X.mg E (Cv X.mg) fa) (tD X.mg E (Cv X.mg) fb) σ H Q:=by
 obtain⟨ρ,δ,M,ev,j,g1⟩:=h;exact⟨ρ,δ,M,ev,j,g1.bind λρ1 H1 M1 x dx e1 j1 c1 g2=>⟨ρ1,δ,M1,ev.mono e1,j1,g2.bind λρ2 H2 M2 y dy e2 j2 c2 g3=>hr _ _ _ _ ⟨ρ2,M2,dx,dy,j2,c1.mono e2,c2,g3⟩⟩⟩
theorem aK{op:Operator}{g:D->D->DM D}(ho:bM X E (binaryOp op) g)(ha:DE X E a fa)(hb:DE X E b fb):DE X E (.BinOp a op b pos) (λδ=>fa δ>>=λx=>fb δ>>=λy=>g x y):=
 ⟨PE.mono (pe_op ho ha.h hb.h) λσ H Q h=>Hw (λw w w w z=>z) h⟩
theorem d8{op:CmpOp}{g:D->D->DM D}(ho:bM X E (compareOp op) g)(ha:DE X E a fa)(hb:DE X E b fb)(hm:behindInMarks op b=false:=by first | exact nomark _ | rfl):DE X E (.Compare a [op] [b] pos) (λδ=>fa δ>>=λx=>fb δ>>=λy=>g x y):=
 ⟨PE.mono (pe_cmpR ho ha.h hb.h hm) λσ H Q h=>Hw (λw w w w z=>z) h⟩
def gY:D->DM Bool
 |.bl b=>pure b
 |_=>stuck
theorem Go.gY{mg:Str->Option Value}{ρ:Rh}{H:Hp}{d:D}{M:Mo}{Q:Bool->Hp->Prop}(g:Go mg E Bv Q ρ H (gY d) M):∃k,d=.bl k/\∀ρ' H',Ext ρ H ρ' H'->J mg ρ' M H'->Q k H':=by
 cases d with
 |bl k=>exact⟨k,rfl,λρ' H' e j=>(show Go mg E Bv Q ρ H (Pure.pure k) M from g).pure ρ' H' k e j rfl⟩
 |_=>obtain⟨r,e,_⟩:=g;cases e
theorem dt_of{e:Expr}{f:aa->DM D}{t:TE}(h:PT X e (tTest t))(ht:∀σ H Q,tD X.mg E (Cv X.mg) f σ H Q->t σ H Q):DT X E e (λδ=>f δ>>=gY):=⟨PT.mono h λσ H Q h=>by
 obtain⟨ρ,δ,M,ev,j,g1⟩:=h;refine ht _ _ _ ⟨ρ,δ,M,ev,j,g1.bind λρ1 H1 M1 x dx e1 j1 c1 g2=>?_⟩
 obtain⟨k,rfl,q⟩:=Go.gY g2;cases c1;exact⟨k,rfl,q ρ1 H1 .refl j1⟩⟩
theorem bw{op:CmpOp}{g:D->D->DM D}(ho:bM X E (compareOp op) g)(ha:DE X E a fa)(hb:DE X E b fb)(hm:behindInMarks op b=false:=by first | exact nomark _ | rfl):DT X E (.Compare a [op] [b] pos) (λδ=>(fa δ>>=λx=>fb δ>>=λy=>g x y)>>=gY):=
 dt_of (pt_cmpR ho ha.h hb.h hm) λσ H Q h=>Hw (λw w w w z=>z) h
theorem PJ{g g':D->D->DM D}{σ:L2.St}{H:Hp}{Q:VK}(h:tD X.mg E (Cv X.mg) (λδ=>fa δ >>= λx=>fb δ >>= λy=>g x y >>= λz=>gY z >>= λk=>if k then fc δ >>= λw=>g' y w else pure (.bl false)) σ H Q):
  tChain (rD X.mg E g) (rD X.mg E g') (tD X.mg E (Cv X.mg) fa) (tD X.mg E (Cv X.mg) fb) (tD X.mg E (Cv X.mg) fc) σ H Q:=by
 obtain⟨ρ,δ,M,ev,j,g1⟩:=h;refine⟨ρ,δ,M,ev,j,g1.bind λρ1 H1 M1 x dx e1 j1 c1 g2=>⟨ρ1,δ,M1,ev.mono e1,j1,g2.bind λρ2 H2 M2 y dy e2 j2 c2 g3=>⟨ρ2,M2,dx,dy,j2,c1.mono e2,c2,g3.bind λρ3 H3 M3 z dz e3 j3 c3 g4=>?_⟩⟩⟩
 have g5:=g4.bind (rel:=Bv) (Q':=λk H4=>dz=.bl k/\∃ρ4 M4,Ext ρ3 H3 ρ4 H4/\J X.mg ρ4 M4 H4/\Go X.mg E (Cv X.mg) Q ρ4 H4 (if k then fc δ>>=λw=>g' dy w else pure (.bl false)) M4)
 have key:∃k,dz=.bl k/\Go X.mg E (Cv X.mg) Q ρ3 H3 (if k then fc δ>>=λw=>g' dy w else pure (.bl false)) M3:=by
  cases dz with
  |bl k=>exact⟨k,rfl,g4⟩
  |_=>obtain⟨r,e,_⟩:=g4;cases e
 obtain⟨k,rfl,g6⟩:=key;cases c3;refine⟨k,rfl,?_⟩;cases k with
 |false=>exact iteF (g6.pure ρ3 H3 _ .refl j3 (.bl false))
 |true=>
   have g6:Go X.mg E (Cv X.mg) Q ρ3 H3 (fc δ>>=λw=>g' dy w) M3:=g6
   exact iteT ⟨ρ3,δ,M3,((ev.mono e1).mono e2).mono e3,j3,g6.bind λρ4 H4 M4 w dw e4 j4 c4 g7=>⟨ρ4,M4,dy,dw,j4,(c2.mono e3).mono e4,c4,g7⟩⟩
theorem Gs{op op':CmpOp}{g g':D->D->DM D}(ho:bM X E (compareOp op) g)(ho':bM X E (compareOp op') g')(ha:DE X E a fa)(hb:DE X E b fb)(hc:DE X E c fc)(hm:lastMarks [op,op'] [b,c]=false:=by with_unfolding_all rfl):
  DE X E (.Compare a [op,op'] [b,c] pos) (λδ=>fa δ>>=λx=>fb δ>>=λy=>g x y>>=λz=>gY z>>=λk=>if k then fc δ>>=λw=>g' y w else pure (.bl false)):=
 ⟨PE.mono (pe_chain ho ho' ha.h hb.h hc.h hm) λσ H Q h=>PJ h⟩
theorem Gy{op op':CmpOp}{g g':D->D->DM D}(ho:bM X E (compareOp op) g)(ho':bM X E (compareOp op') g')(ha:DE X E a fa)(hb:DE X E b fb)(hc:DE X E c fc)(hm:lastMarks [op,op'] [b,c]=false:=by with_unfolding_all rfl):
  DT X E (.Compare a [op,op'] [b,c] pos) (λδ=>(fa δ>>=λx=>fb δ>>=λy=>g x y>>=λz=>gY z>>=λk=>if k then fc δ>>=λw=>g' y w else pure (.bl false))>>=gY):=
 dt_of (pt_chain ho ho' ha.h hb.h hc.h hm) λσ H Q h=>PJ h
def jL:D->Mo->Option Bool
 |.non,_=>some false
 |.bl b,_=>some b
 |.int i,_=>some (i != 0)
 |.str y,_=>if y.length<=sizeLine then some ((y.length:Int) != 0) else none
 |.tup l,_=>some (!l.isEmpty)
 |.lst l,_=>some (!l.isEmpty)
 |.scr l,_=>some (!l.isEmpty)
 |.dic ks _,_=>some (!ks.isEmpty)
 |.ref n,M=>match M[n]? with
   |some (.lst l)=>some (!l.isEmpty)
   |some (.dic ks _)=>some (!ks.isEmpty)
   |_=>none
 |_,_=>none
theorem u6{α β:Type}{ks:List α}{xs:List β}(h:ks.length=xs.length):(ks.zip xs).isEmpty=ks.isEmpty:=by
 cases ks with
 |nil=>simp
 |cons k ks=>cases xs with
   |nil=>simp at h
   |cons x xs=>rfl
theorem Cvs.empty{mg:Str->Option Value}{ρ:Rh}{H:Hp}{vs:List V}{ds:List D}(c:Cvs mg ρ H vs ds):vs.isEmpty=ds.isEmpty:=by cases c<;>rfl
set_option tactic.hygienic true in
theorem Nr{K:PySem.W.Frag}{mg:Str->Option Value}{ρ:Rh}{H:Hp}{M:Mo}{x:V}{d:D}{k:Bool}(j:J mg ρ M H)(h:Cv mg ρ H x d)(e:jL d M=some k):TruV K x H k:=by
 cases h with
 |non=>cases e;rfl
 |bl b=>cases e;rfl
 |int i=>cases e;rfl
 |str y=>
   unfold jL at e;dsimp only at e;split at e
   ·cases e;exact⟨‹_›,rfl⟩
   ·cases e
 |tup n h c=>cases e;exact .inr (.inl ⟨_,SqT.of h,by rw[c.empty]⟩)
 |lst n h c=>cases e;exact .inl ⟨_,SqL.of h,by rw[c.empty]⟩
 |scr n h=>cases e;exact .inl ⟨_,.inl h,by simp⟩
 |dic n h l c=>cases e;exact .inr (.inr ⟨_,h,by rw[u6 l]⟩)
 | ref q=>
   rename_i n a;unfold jL at e;dsimp only at e;split at e
   ·rename_i l hl;cases e;obtain⟨xs,h,c⟩:=j.obj n a _ q hl;exact .inl ⟨_,SqL.of h,by rw[c.empty]⟩
   ·rename_i ks l hl;cases e;obtain⟨xs,h,z,c⟩:=j.obj n a _ q hl;exact .inr (.inr ⟨_,h,by rw[u6 z]⟩)
   ·cases e
 |obj=>cases e
 |cls=>cases e
 |ty=>cases e
 |exn=>cases e
theorem b7(ha:DE X E a fa)(he:∀whole,isTrue a X.env whole=(do let v <-whole;standAt a.pos;holding [v] (truthy v))):DT X E a (λδ=>fa δ>>=λx=>rd (jL x)):=⟨PT.mono (pt_truth ha.h he) λσ H Q h=>by
 obtain⟨ρ,δ,M,ev,j,g1⟩:=h;refine⟨ρ,δ,M,ev,j,g1.bind λρ1 H1 M1 x dx e1 j1 c1 g2=>?_⟩
 obtain⟨k,e,q⟩:=g2.rd;exact⟨k,Nr j1 c1 e,q ρ1 H1 k .refl j1 rfl⟩⟩
variable{ta tb:aa->DM Bool}
theorem eF(ha:DT X E a ta):DT X E (.UnaryOp .Not a pos) (λδ=>ta δ>>=λk=>pure (!k)):=⟨PT.mono (pt_not ha.h) λσ H Q h=>by
 obtain⟨ρ,δ,M,ev,j,g1⟩:=h;refine⟨ρ,δ,M,ev,j,g1.bind λρ1 H1 M1 x dx e1 j1 c1 g2=>?_⟩
 have c1:x=dx:=c1;subst c1;exact g2.pure ρ1 H1 _ .refl j1 rfl⟩
structure DW(X:Cx)(E:XK)(e:Expr)(f:aa->DM Bool):Prop where
 h:PW X e (tD X.mg E Bv f)
theorem PW.mono{e:Expr}{t t':TT}(h:PW X e t)(f:∀σ H Q,t' σ H Q->t σ H Q):PW X e t':=λw Xp s σ H Q I q=>h w Xp s σ H Q I (f σ H Q q)
theorem DW.dt{e:Expr}(h:DW X E e ta):DT X E e ta:=⟨PW.pt h.h⟩
theorem Iv(ha:DT X E a ta):DW X E (.BoolOp .And [a] pos) ta:=⟨pw_and1 ha.h⟩
theorem oV(ha:DT X E a ta):DW X E (.BoolOp .Or [a] pos) ta:=⟨pw_or1 ha.h⟩
variable{rest:List Expr}
theorem Ko(ha:DT X E a ta)(hb:DW X E (.BoolOp .And (b::rest) pos) tb):DW X E (.BoolOp .And (a::b::rest) pos) (λδ=>ta δ>>=λk=>if k then tb δ else pure false):=⟨PW.mono (pw_and ha.h hb.h) λσ H Q h=>by
 obtain⟨ρ,δ,M,ev,j,g1⟩:=h;refine⟨ρ,δ,M,ev,j,g1.bind λρ1 H1 M1 x dx e1 j1 c1 g2=>?_⟩
 have c1:x=dx:=c1;subst c1;cases x with
 |true=>exact iteT ⟨ρ1,δ,M1,ev.mono e1,j1,g2⟩
 |false=>exact iteF (Go.pure (a:=false) g2 ρ1 H1 _ .refl j1 rfl)⟩
theorem pP(ha:DT X E a ta)(hb:DW X E (.BoolOp .Or (b::rest) pos) tb):DW X E (.BoolOp .Or (a::b::rest) pos) (λδ=>ta δ>>=λk=>if k then pure true else tb δ):=⟨PW.mono (pw_or ha.h hb.h) λσ H Q h=>by
 obtain⟨ρ,δ,M,ev,j,g1⟩:=h;refine⟨ρ,δ,M,ev,j,g1.bind λρ1 H1 M1 x dx e1 j1 c1 g2=>?_⟩
 have c1:x=dx:=c1;subst c1;cases x with
 |false=>exact iteF ⟨ρ1,δ,M1,ev.mono e1,j1,g2⟩
 |true=>exact iteT (Go.pure (a:=true) g2 ρ1 H1 _ .refl j1 rfl)⟩
theorem oO{op:BoolOp}(ha:DE X E a fa):DE X E (.BoolOp op [a] pos) fa:=⟨pe_one ha.h⟩
theorem Go.isB{mg:Str->Option Value}{ρ:Rh}{H:Hp}{α β:Type}{rel:Rh->Hp->β->α->Prop}{Q:β->Hp->Prop}{d:D}{M:Mo}{f:Bool->DM α}(g:Go mg E rel Q ρ H (L3.gY d>>=f) M):∃k,d=.bl k/\Go mg E rel Q ρ H (f k) M:=by
 cases d with
 |bl k=>exact⟨k,rfl,g⟩
 |_=>obtain⟨r,e,_⟩:=g;cases e
theorem oN(ha:DE X E a fa)(hb:DE X E (.BoolOp .And (b::rest) pos) fb):DE X E (.BoolOp .And (a::b::rest) pos) (λδ=>fa δ>>=λx=>gY x>>=λk=>if k then fb δ else pure (.bl false)):=⟨PE.mono (pe_and ha.h hb.h) λσ H Q h=>by
 obtain⟨ρ,δ,M,ev,j,g1⟩:=h;refine⟨ρ,δ,M,ev,j,g1.bind λρ1 H1 M1 x dx e1 j1 c1 g2=>?_⟩
 obtain⟨k,rfl,g3⟩:=Go.isB g2;cases c1;refine⟨k,rfl,?_⟩;cases k with
 |true=>exact iteT ⟨ρ1,δ,M1,ev.mono e1,j1,g3⟩
 |false=>exact iteF (Go.pure (a:=D.bl false) g3 ρ1 H1 _ .refl j1 (.bl false))⟩
theorem Kg(ha:DE X E a fa):DE X E (.UnaryOp .Not a pos) (λδ=>fa δ>>=λx=>gY x>>=λk=>pure (.bl (!k))):=⟨PE.mono (pe_not ha.h) λσ H Q h=>by
 obtain⟨ρ,δ,M,ev,j,g1⟩:=h;refine⟨ρ,δ,M,ev,j,g1.bind λρ1 H1 M1 x dx e1 j1 c1 g2=>?_⟩
 obtain⟨k,rfl,g3⟩:=Go.isB g2;cases c1;exact⟨k,rfl,g3.pure ρ1 H1 _ .refl j1 (.bl _)⟩⟩
theorem NP(hc:DT X E c ta)(ha:DE X E a fa)(hb:DE X E b fb):DE X E (.IfExp c a b pos) (λδ=>ta δ>>=λk=>if k then fa δ else fb δ):=⟨PE.mono (pe_ifExp hc.h ha.h hb.h) λσ H Q h=>by
 obtain⟨ρ,δ,M,ev,j,g1⟩:=h;refine⟨ρ,δ,M,ev,j,g1.bind λρ1 H1 M1 x dx e1 j1 c1 g2=>?_⟩
 have c1:x=dx:=c1;subst c1;cases x with
 |true=>exact iteT ⟨ρ1,δ,M1,ev.mono e1,j1,g2⟩
 |false=>exact iteF ⟨ρ1,δ,M1,ev.mono e1,j1,g2⟩⟩
theorem aq:DA X E [] (λz=>pure []):=⟨⟨PA.mono Ej.h λσ H Q h=>by obtain⟨ρ,δ,M,ev,j,g⟩:=h;exact g.pure ρ H [] .refl j .nil⟩⟩
theorem au{es:List Expr}{fs:aa->DM (List D)}(ha:DE X E a fa)(hr:DA X E es fs)(hs:notStar a=true:=by rfl):DA X E (a::es) (λδ=>fa δ>>=λx=>fs δ>>=λxs=>pure (x::xs)):=⟨⟨PA.mono (Mp ha.h hr.h hs).h λσ H Q h=>by obtain⟨ρ,δ,M,ev,j,g1⟩:=h;exact⟨ρ,δ,M,ev,j,g1.bind λρ1 H1 M1 x dx e1 j1 c1 g2=>⟨ρ1,δ,M1,ev.mono e1,j1,g2.bind λρ2 H2 M2 xs dxs e2 j2 c2 g3=>g3.pure ρ2 H2 _ .refl j2 (.cons (c1.mono e2) c2)⟩⟩⟩⟩
def cR{α:Type}(l:List α):Bool:=decide (l.length<=sizeLine)
def wW(l:List D):DM D:=opt (if cR l then some (.tup l) else none)
def lU(l:List D):DM D:=opt (if cR l then some (.lst l) else none)
def dW(l:List D):DM D:=λM=>if cR l then some (.ok (.ref M.length),M++[.lst l]) else none
set_option tactic.hygienic true in
theorem sV{l:List D}{d e:D}(h:(if cR l then some d else none)=some e):l.length<=sizeLine/\d=e:=by
 split at h
 ·cases h;exact⟨TX ‹_›,rfl⟩
 ·cases h
variable{es:List Expr}{fs:aa->DM (List D)}
theorem su{x1}(h:DA X E es fs):DE X E (.Tuple es x1 pos) (λδ=>fs δ>>=wW):=⟨PE.mono (Jo h.h) λσ H Q h=>by
 obtain⟨ρ,δ,M,ev,j,g1⟩:=h;refine⟨ρ,δ,M,ev,j,g1.bind λρ1 H1 M1 xs dxs e1 j1 c1 g2=>?_⟩
 obtain⟨d,e,q⟩:=Go.opt g2;obtain⟨hz,rfl⟩:=sV e;exact⟨by rw[c1.len];exact hz,λp hp=>q ρ1 _ _ (.lay hp) (j1.lay _ hp) (.tup (j1.fresh hp) upd_same (c1.mono (.lay hp)))⟩⟩
theorem eE(h:DA X E es fs):DE X E (.List es pos) (λδ=>fs δ>>=lU):=⟨PE.mono (zJ h.h) λσ H Q h=>by
 obtain⟨ρ,δ,M,ev,j,g1⟩:=h;refine⟨ρ,δ,M,ev,j,g1.bind λρ1 H1 M1 xs dxs e1 j1 c1 g2=>?_⟩
 obtain⟨d,e,q⟩:=Go.opt g2;obtain⟨hz,rfl⟩:=sV e;exact⟨by rw[c1.len];exact hz,λp hp=>q ρ1 _ _ (.lay hp) (j1.lay _ hp) (.lst (j1.fresh hp) upd_same (c1.mono (.lay hp)))⟩⟩
set_option tactic.hygienic true in
theorem Go.dW{mg:Str->Option Value}{ρ:Rh}{H:Hp}{M:Mo}{Q:VK}{l:List D}{xs:List V}{p:Addr}(g:Go mg E (Cv mg) Q ρ H (dW l) M)(j:J mg ρ M H)(c:Cvs mg ρ H xs l)(hp:H p=none):l.length<=sizeLine/\Q (.ref p) (upd H p (.lst xs)):=by
 obtain⟨r,e,q⟩:=g;unfold L3.dW at e;split at e
 ·cases e;refine⟨TX ‹_›,?_⟩;have x:Ext ρ H (ρ.put p) (upd H p (.lst xs)):=.put hp;refine q _ _ _ x (j.put hp ⟨xs,upd_same,c.mono x⟩) (.ref ?_);show (ρ.st++[p])[_]?=_;rw[<-j.len];simp
 ·cases e
set_option tactic.hygienic true in
theorem Go.mkR_len{mg:Str->Option Value}{ρ:Rh}{H:Hp}{M:Mo}{Q:VK}{l:List D}(g:Go mg E (Cv mg) Q ρ H (L3.dW l) M):l.length<=sizeLine:=by
 obtain⟨r,e,q⟩:=g;unfold L3.dW at e;split at e
 ·exact TX ‹_›
 ·cases e
theorem gA(h:DA X E es fs):DE X E (.List es pos) (λδ=>fs δ>>=dW):=⟨PE.mono (zJ h.h) λσ H Q h=>by
 obtain⟨ρ,δ,M,ev,j,g1⟩:=h;refine⟨ρ,δ,M,ev,j,g1.bind λρ1 H1 M1 xs dxs e1 j1 c1 g2=>?_⟩
 exact⟨by rw[c1.len];exact g2.mkR_len,λp hp=>(g2.dW j1 c1 hp).2⟩⟩
end
section
variable{X:Cx}{E:XK}{mg:Str->Option Value}{ρ:Rh}{H:Hp}{M:Mo}
theorem Go.rdb(g:Go mg E rel Q ρ H (L3.rd f>>=k) M):∃a,f M=some a/\Go mg E rel Q ρ H (k a) M:=by
 obtain⟨r,e,p⟩:=g;have e:DM.bind _ _ M=some r:=e;unfold DM.bind L3.rd at e;cases h:f M with
 |none=>rw[h]at e;cases e
 |some a=>rw[h]at e;exact⟨a,rfl,r,e,p⟩
theorem bM.of{f:Value->Value->Sem Value}{g:D->D->Mo->Option D}(hr:OpR X f r)
  (h:∀x y H Q ρ M dx dy d,J X.mg ρ M H->Cv X.mg ρ H x dx->Cv X.mg ρ H y dy->g dx dy M=some d->(∀ρ' H' v,Ext ρ H ρ' H'->J X.mg ρ' M H'->Cv X.mg ρ' H' v d->Q v H')->r x y H Q):bM X E f (λx y=>rd (g x y)):=by
 intro Xp s σ H x y v u Q I rx ry q;obtain⟨ρ,M,dx,dy,j,cx,cy,go⟩:=q;obtain⟨d,e,p⟩:=go.rd;exact hr Xp s σ H x y v u Q I rx ry (h x y H Q ρ M dx dy d j cx cy e p)
def aM:D->Mo->Option (List D)
 |.lst l,_=>some l
 |.ref n,M=>match M[n]? with
   |some (.lst l)=>some l
   |_=>none
 |_,_=>none
set_option tactic.hygienic true in
theorem cW(j:J mg ρ M H){l:List D}(c:Cv mg ρ H x d)(e:aM d M=some l):∃ a xs,x=.ref a/\H a=some (.lst xs)/\Cvs mg ρ H xs l:=by
 cases c with
 |lst n h c=>cases e;exact⟨_,_,rfl,h,c⟩
 | ref q=>
   unfold aM at e;dsimp only at e;split at e
   ·rename_i l' hl;cases e;obtain⟨xs,h,c⟩:=j.obj _ _ _ q hl;exact⟨_,_,rfl,h,c⟩
   ·cases e
 |_=>cases e
theorem J.notup(j:J mg ρ M H)(h:H p=Option.some (HO.tup xs)):p∉ρ:=λz=>by
 rcases z with z | z
 rotate_left
 ·obtain⟨_,ys,e⟩:=j.vol p z;rw[h]at e;cases e
 obtain⟨n,hn⟩:=VG.mp z;have lt:n<M.length:=by rw[<-j.len];exact (RK.mp hn).1
 have c:=j.obj n p M[n] hn (RV lt);cases hm:M[n] with
 |lst l=>rw[hm]at c;obtain⟨xs,e,_⟩:=c;rw[h]at e;cases e
 |dic ks l=>rw[hm]at c;obtain⟨xs,e,_⟩:=c;rw[h]at e;cases e
 |ins c' ns l=>rw[hm]at c;obtain⟨_,_,_,_,e,_⟩:=c;rw[h]at e;cases e
def Nt(l:List D):Option D:=if cR l then some (.tup l) else none
def wN(l:List D):Option D:=if cR l then some (.lst l) else none
def cJ:D->D->Mo->Option D
 |.int i,.int j,_=>some (.int (i+j))
 |.str a,.str b,_=>if a.length+b.length<=sizeLine then some (.str (a++b)) else none
 |.tup l,.tup m,_=>Nt (l++m)
 |x,y,M=>match aM x M,aM y M with
   |some l,some m=>wN (l++m)
   |_,_=>none
set_option tactic.hygienic true in
theorem Gg(h:cJ x y M=some d):(∃ i j,x=.int i/\y=.int j/\d=.int (i + j))\/(∃ a b,x=.str a/\y=.str b/\a.length + b.length<=sizeLine/\d=.str (a++b))\/(∃ l m,x=.tup l/\y=.tup m/\l.length + m.length<=sizeLine/\d=.tup (l++m)) \/
  ∃l m,aM x M=some l/\aM y M=some m/\l.length+m.length<=sizeLine/\d=.lst (l++m):=by
 unfold cJ at h;split at h
 ·cases h;exact .inl ⟨_,_,rfl,rfl,rfl⟩
 ·split at h
  ·cases h;exact .inr (.inl ⟨_,_,rfl,rfl,‹_›,rfl⟩)
  ·cases h
 ·obtain⟨hz,rfl⟩:=sV h;rw[R6]at hz;exact .inr (.inr (.inl ⟨_,_,rfl,rfl,hz,rfl⟩))
 ·split at h
  ·rename_i l m h1 h2;obtain⟨hz,rfl⟩:=sV h;rw[R6]at hz;exact .inr (.inr (.inr ⟨l,m,h1,h2,hz,rfl⟩))
  ·cases h
theorem bj:bM X E (binaryOp .Add) (λx y=>rd (cJ x y)):=by
 refine bM.of (op_add.or (op_add_str.or (Jh.or op_cat))) λx y H Q ρ M dx dy d j cx cy e q=>?_
 rcases Gg e with ⟨i,k,rfl,rfl,rfl⟩ | ⟨i,k,rfl,rfl,hz,rfl⟩ | ⟨l,m,rfl,rfl,hz,rfl⟩ | ⟨l,m,h1,h2,hz,rfl⟩
 ·cases cx;cases cy;exact .inl ⟨_,_,rfl,rfl,q ρ H _ .refl j (.int _)⟩
 ·cases cx;cases cy;exact .inr (.inl ⟨_,_,rfl,rfl,hz,q ρ H _ .refl j (.str _)⟩)
 ·cases cx with | tup n1 a1 c1=>cases cy with | tup n2 a2 c2=>
  refine .inr (.inr (.inl ⟨_,_,_,_,rfl,rfl,a1,a2,by rw[c1.len,c2.len];exact hz,λp H' S hp=>?_⟩))
  exact q ρ H' _ (.same S) (j.same S) (.tup ((j.same S).notup hp) hp ((c1.append c2).mono (.same S)))
 ·obtain⟨a1,x1,rfl,a2,c1⟩:=cW j cx h1;obtain⟨b1,y1,rfl,b2,c2⟩:=cW j cy h2;refine .inr (.inr (.inr ⟨_,_,_,_,rfl,rfl,a2,b2,by rw[c1.len,c2.len];exact hz,λp hp=>?_⟩))
  exact q ρ _ _ (.lay hp) (j.lay _ hp) (.lst (j.fresh hp) upd_same ((c1.append c2).mono (.lay hp)))
def cC(C:Int->Int->Bool)(g:Int->Int->D):D->D->Mo->Option D
 |.int i,.int j,_=>if C i j then some (g i j) else none
 |_,_,_=>none
set_option tactic.hygienic true in
theorem ur(h:cC C g x y M=some d):∃i j,x=.int i/\y=.int j/\C i j=true/\d=g i j:=by
 unfold cC at h;split at h
 ·split at h
  ·cases h;exact⟨_,_,rfl,rfl,‹_›,rfl⟩
  ·cases h
 ·cases h
theorem pX{f:Value->Value->Sem Value}{C:Int->Int->Bool}{g:Int->Int->Int}{P:Int->Int->Prop}(hr:OpR X f (rI P λi j=>.int (g i j)))(hc:∀i j,C i j=true->P i j):bM X E f (λx y=>rd (cC C (λi j=>.int (g i j)) x y)):=
 bM.of hr λx y H Q ρ M dx dy d j cx cy e q=>by obtain⟨i,k,rfl,rfl,hh,rfl⟩:=ur e;cases cx;cases cy;exact⟨_,_,rfl,rfl,hc _ _ hh,q ρ H _ .refl j (.int _)⟩
theorem xf{f:Value->Value->Sem Value}{g:Int->Int->Int}(hr:OpR X f (rI0 λi j=>.int (g i j))):bM X E f (λx y=>rd (cC (λz z=>true) (λi j=>.int (g i j)) x y)):=
 bM.of hr λx y H Q ρ M dx dy d j cx cy e q=>by obtain⟨i,k,rfl,rfl,hh,rfl⟩:=ur e;cases cx;cases cy;exact⟨_,_,rfl,rfl,q ρ H _ .refl j (.int _)⟩
theorem pW{f:Value->Value->Sem Value}{g:Int->Int->Bool}(hr:OpR X f (rI0 λi j=>.bl (g i j))):bM X E f (λx y=>rd (cC (λz z=>true) (λi j=>.bl (g i j)) x y)):=
 bM.of hr λx y H Q ρ M dx dy d j cx cy e q=>by obtain⟨i,k,rfl,rfl,hh,rfl⟩:=ur e;cases cx;cases cy;exact⟨_,_,rfl,rfl,q ρ H _ .refl j (.bl _)⟩
abbrev rE:D->D->Mo->Option D:=cC (λ_ _=>true) λi j=>.int (i-j)
theorem lY:bM X E (binaryOp .Sub) (λx y=>rd (rE x y)):=xf op_sub
def eY(i j:Int):Bool:=!(decide (Builtin.Int.intBits i > shortFactorBits)&&decide (Builtin.Int.intBits j > shortFactorBits)&&Builtin.Int.intTooBig (Builtin.Int.intBits i+Builtin.Int.intBits j))
theorem eY.ok(h:eY i j=true):IntMulOk i j:=λz=>by unfold eY at h;rw[z]at h;cases h
abbrev iC:D->D->Mo->Option D:=cC eY λi j=>.int (i*j)
theorem cX:bM X E (binaryOp .Mult) (λx y=>rd (iC x y)):=pX Ji λi j h=>eY.ok h
def jU(i j:Int):Bool:=decide (0<j)&&!Builtin.divisionGoesByPylong i j
theorem G9:OpR X (binaryOp .FloorDiv) (rI (λi j=>jU i j=true) λi j=>.int (i / j)):=opI λi j z z z z z hc q=>by
 unfold jU at hc;have h0:0<j:=by have:=(Um _ _).mp hc;exact TX this.1
 have h1:Builtin.divisionGoesByPylong i j=false:=by have:=(Um _ _).mp hc;simpa using this.2
 have e:i.fdiv j=i / j:=Int.fdiv_eq_ediv_of_nonneg i (Int.le_of_lt h0);exact floordiv_int (Int.ne_of_gt h0) (by rw[e];exact q) (.inl h1)
abbrev mU:D->D->Mo->Option D:=cC jU λi j=>.int (i / j)
theorem gG:bM X E (binaryOp .FloorDiv) (λx y=>rd (mU x y)):=pX G9 λi j h=>h
abbrev gF:D->D->Mo->Option D:=cC (λ_ j=>decide (0<j)) λi j=>.int (i%j)
theorem cD:bM X E (binaryOp .Mod) (λx y=>rd (gF x y)):=pX op_mod λi j h=>TX h
def HD(i j:Int):Bool:=decide (0<=j/\j<=1000000/\i.natAbs<2^64)
abbrev Hg:D->D->Mo->Option D:=cC HD λi j=>.int (i^j.toNat)
theorem Jm:bM X E (binaryOp .Pow) (λx y=>rd (Hg x y)):=pX op_pow λi j h=>TX (p:=0<=j/\j<=1000000/\i.natAbs<2^64) h
abbrev Lk:D->D->Mo->Option D:=cC (λ_ _=>true) λi j=>.bl (decide (i<j))
abbrev zz:D->D->Mo->Option D:=cC (λ_ _=>true) λi j=>.bl (decide (i<=j))
abbrev sH:D->D->Mo->Option D:=cC (λ_ _=>true) λi j=>.bl (decide (j<i))
abbrev Do:D->D->Mo->Option D:=cC (λ_ _=>true) λi j=>.bl (decide (j<=i))
theorem xm:bM X E (compareOp .Lt) (λx y=>rd (Lk x y)):=pW op_lt
theorem xj:bM X E (compareOp .LtE) (λx y=>rd (zz x y)):=pW op_le
theorem sU:bM X E (compareOp .Gt) (λx y=>rd (sH x y)):=pW op_gt
theorem xg:bM X E (compareOp .GtE) (λx y=>rd (Do x y)):=pW op_ge
def eqP(x y:D):Option Bool:=match toPy x,toPy y with
 |some p,some q=>if p.canLay0&&q.canLay0&&decide (p.depth<=60) then some (PyData.eqv p q) else none
 |_,_=>none
def eqB:D->D->Option Bool
 |.str a,.str b=>some (decide (a=b))
 |x,y=>eqP x y
def cP(x y:D)(_:Mo):Option D:=(eqB x y).map .bl
def lW(x y:D)(_:Mo):Option D:=(eqB x y).map λb=>.bl (!b)
set_option tactic.hygienic true in
theorem Ks(h:eqP x y=some b):∃ p q,toPy x=some p/\toPy y=some q/\p.canLay0=true/\q.canLay0=true/\p.depth<=60/\b=PyData.eqv p q:=by
 unfold eqP at h;split at h
 ·rename_i p q h1 h2;split at h
  ·rename_i hc;cases h;simp only[Bool.and_eq_true,decide_eq_true_eq]at hc;exact⟨p,q,h1,h2,hc.1.1,hc.1.2,hc.2,rfl⟩
  ·cases h
 ·cases h
theorem Kq(h:eqB x y=some b):(∃a c,x=.str a/\y=.str c/\b=decide (a=c))\/eqP x y=some b:=by
 unfold eqB at h;split at h
 ·cases h;exact .inl ⟨_,_,rfl,rfl,rfl⟩
 ·exact .inr h
theorem JK:decide (V.str a=V.str c)=decide (a=c):=by rw[S8];simp
theorem zF(h1:OpR X f (λx y H Q=>scal x y=true/\Q (.bl (n ^^ decide (x=y))) H))(h2:OpR X f (Hk X.K n)):bM X E f (λx y=>rd λz=>(eqB x y).map λb=>.bl (n ^^ b)):=by
 intro Xp s σ H x y v u Q I rx ry q;obtain⟨ρ,M,dx,dy,j,cx,cy,g⟩:=q;obtain⟨d,e,q⟩:=Go.rd g;obtain⟨b,hb,rfl⟩:=RL.mp e;rcases Kq hb with ⟨a,c,rfl,rfl,rfl⟩ | hb
 ·cases cx;cases cy;refine h1 Xp s σ H _ _ v u Q I rx ry ⟨rfl,?_⟩;rw[JK];exact q ρ H _ .refl j (.bl _)
 ·obtain⟨p,p',k1,k2,h3,h4,h5,rfl⟩:=Ks hb;refine h2 Xp s σ H x y v u Q I rx ry ⟨p,p',(cx.repF k1).toRep,(cy.repF k2).toRep,h3,h4,h5,?_⟩;have:=q ρ H _ .refl j (.bl _);cases n
  ·simpa using this
  ·simpa using this
theorem cA(hu:X.A.units+64<cLine):bM X E (compareOp .Eq) (λx y=>rd (cP x y)):=by
 have h:=zF (X:=X) (E:=E) (n:=false) (f:=compareOp .Eq) (λXp s σ H x y v u Q I rx ry q=>op_eq (X:=X) Xp s σ H x y v u Q I rx ry ⟨q.1,by simpa using q.2⟩) (LQ hu)
 have e:(λx y=>(rd (cP x y):DM D))=λx y=>rd λz=>(eqB x y).map λb=>.bl (false ^^ b):=by funext x y;show rd _=rd _;congr 1;funext M;simp only[cP,Bool.false_xor,Bool.true_xor]
 rw[e];exact h
theorem gH(hu:X.A.units+64<cLine):bM X E (compareOp .NotEq) (λx y=>rd (lW x y)):=by
 have h:=zF (X:=X) (E:=E) (n:=true) (f:=compareOp .NotEq) (λXp s σ H x y v u Q I rx ry q=>op_ne (X:=X) Xp s σ H x y v u Q I rx ry ⟨q.1,by simpa using q.2⟩) (LR hu)
 have e:(λx y=>(rd (lW x y):DM D))=λx y=>rd λz=>(eqB x y).map λb=>.bl (true ^^ b):=by funext x y;show rd _=rd _;congr 1;funext M;simp only[lW,Bool.false_xor,Bool.true_xor]
 rw[e];exact h
def PL:D->Bool
 |.non=>true
 |_=>false
theorem KY(c:Cv mg ρ H x d):decide (x=.non)=PL d:=by cases c<;>rfl
def sO(x y:D)(_:Mo):Option D:=match y with
 |.non=>some (.bl (!PL x))
 |.bl c=>match x with
   |.bl b=>some (.bl (!(b==c)))
   |_=>none
 |_=>none
theorem Hb:bM X E (compareOp .IsNot) (λx y=>rd (sO x y)):=bM.of (op_notN.or Jl) λx y H Q ρ M dx dy d j cx cy e q=>by
 unfold sO at e;split at e
 ·cases e;cases cy;exact .inl ⟨rfl,by rw[KY cx];exact q ρ H _ .refl j (.bl _)⟩
 ·split at e
  ·cases e;cases cx;cases cy;exact .inr ⟨_,_,rfl,rfl,q ρ H _ .refl j (.bl _)⟩
  ·cases e
 ·cases e
theorem Cvs.rep(c:Cv mg ρ H v d):∀n,Cvs mg ρ H (List.replicate n v) (List.replicate n d)
 |0=>.nil
 |n+1=>.cons c (Cvs.rep c n)
def Bq(l:List D)(k:Int):Option (List D):=if decide (-(2^63)<=k/\k<2^63/\l.length*k.toNat<=sizeLine) then some (List.replicate k.toNat l).flatten else none
theorem Cvs.reps{vs:List V}{ds:List D}(c:Cvs mg ρ H vs ds):∀n,Cvs mg ρ H (List.replicate n vs).flatten (List.replicate n ds).flatten
 |0=>.nil
 |n+1=>by rw[Uy,Uy,U7,U7];exact c.append (Cvs.reps c n)
def qX(x y:D)(M:Mo):Option (List D):=match aM x M,y with
 |some l,.int k=>Bq l k
 |_,_=>none
set_option tactic.hygienic true in
theorem zB{l:List D}(h:qX x y M=some l):∃ m k,aM x M=some m/\y=.int k/\(-(2 ^ 63)<=k/\k<2 ^ 63/\m.length * k.toNat<=sizeLine)/\l=(List.replicate k.toNat m).flatten:=by
 unfold qX at h;split at h
 ·rename_i m k h1;unfold Bq at h;split at h
  ·rename_i hk;cases h;exact⟨m,k,h1,rfl,TX hk,rfl⟩
  ·cases h
 ·cases h
theorem Jj:bM X E (binaryOp .Mult) (λx y=>rd (λM=>(qX x y M).map .lst)):=bM.of op_rep λx y H Q ρ M dx dy d j cx cy e q=>by
 obtain⟨l,e1,rfl⟩:=RL.mp e;obtain⟨m,k,h1,rfl,⟨h2,h3,h4⟩,rfl⟩:=zB e1;obtain⟨a,xs,rfl,ha,c⟩:=cW j cx h1;cases cy;refine⟨_,_,_,rfl,rfl,ha,h2,h3,by rw[c.len];exact h4,λp hp=>?_⟩
 exact q ρ _ _ (.lay hp) (j.lay _ hp) (.lst (j.fresh hp) upd_same ((Cvs.reps c _).mono (.lay hp)))
def Lq(x y:D):DM D:=rd (qX x y)>>=dW
theorem Jk:bM X E (binaryOp .Mult) Lq:=by intro Xp s σ H x y v u Q I rx ry q;obtain⟨ρ,M,dx,dy,j,cx,cy,go⟩:=q;obtain⟨l,e1,g⟩:=Go.rdb go;obtain⟨m,k,h1,rfl,⟨h2,h3,h4⟩,rfl⟩:=zB e1;obtain⟨a,xs,rfl,ha,c⟩:=cW j cx h1;cases cy;exact op_rep (X:=X) Xp s σ H _ _ v u Q I rx ry ⟨_,_,_,rfl,rfl,ha,h2,h3,by rw[c.len];exact h4,λp hp=>(g.dW j (Cvs.reps c _) hp).2⟩
def Qu:D->Mo->Option D
 |.int i,_=>some (.int (-i))
 |_,_=>none
theorem Cvs.at(c:Cvs mg ρ H vs ds)(h:atI ds i=some d):∃v,atI vs i=some v/\Cv mg ρ H v d:=by
 unfold atI at h ⊢
 rw[c.len];obtain⟨n,hn,e⟩:=Sw.mp h;obtain⟨v,e2,cv⟩:=c.get e;exact⟨v,by rw[hn];exact e2,cv⟩
def eG:D->D->Mo->Option D
 |.tup l,.int i,_=>atI l i
 |.scr l,.int i,_=>(atI l i).map .int
 |x,.int i,M=>(aM x M).bind λl=>atI l i
 |_,_,_=>none
def Pz(X:Cx)(E:XK)(g:D->D->DM D):Prop:=IxR X (rD X.mg E g)
set_option tactic.hygienic true in
theorem bD:Pz X E (λx y=>rd (eG x y)):=by
 intro value slice Xp s σ H x y v u Q I rx ry q hs;obtain⟨ρ,M,dx,dy,j,cx,cy,go⟩:=q;obtain⟨d,e,p⟩:=go.rd;unfold eG at e;split at e
 ·cases cy;cases cx with | tup n a c=>
  obtain⟨w,e2,cw⟩:=c.at e;exact ix_tup (X:=X) value slice Xp s σ H _ _ v u Q I rx ry ⟨_,_,_,_,rfl,rfl,SqT.of a,e2,p ρ H _ .refl j cw⟩ hs
 ·rename_i l i;cases cy;cases cx with | scr n a=>
  obtain⟨z,e1,rfl⟩:=RL.mp e;have e2:atI (l.map V.int) i=some (V.int z):=by
   unfold atI at e1 ⊢
   rw[RT];obtain⟨n,hn,e⟩:=Sw.mp e1;rw[hn];show (List.map V.int _)[n]?=_;rw[R0,e];rfl
  exact ix_list (X:=X) value slice Xp s σ H _ _ v u Q I rx ry ⟨_,_,_,_,rfl,rfl,.inl a,e2,p ρ H _ .refl j (.int z)⟩ hs
 ·cases cy;obtain⟨l,h1,e1⟩:=Sw.mp e;obtain⟨a,xs,rfl,ha,c⟩:=cW j cx h1;obtain⟨w,e2,cw⟩:=c.at e1;exact ix_list (X:=X) value slice Xp s σ H _ _ v u Q I rx ry ⟨_,_,_,_,rfl,rfl,SqL.of ha,e2,p ρ H _ .refl j cw⟩ hs
 ·cases e
theorem aY(hi:Pz X E g)(ha:DE X E a fa)(hb:DE X E b fb)(hs:PlainIx b:=by exact λw w=>rfl):DE X E (.Subscript a b pos) (λδ=>fa δ>>=λx=>fb δ>>=λy=>g x y):=
 ⟨PE.mono (pe_ix hi ha.h hb.h hs) λσ H Q h=>Hw (λw w w w z=>z) h⟩
def za:D->DM (Option Int)
 |.int i=>pure (some i)
 |_=>stuck
def cutD(xs:List D)(lo hi:Option Int):List D:=(xs.drop (HT.sIx xs.length 0 lo)).take (HT.sIx xs.length xs.length hi-HT.sIx xs.length 0 lo)
theorem Cvs.cut(c:Cvs mg ρ H vs ds)(lo hi:Option Int):Cvs mg ρ H (cutV vs lo hi) (cutD ds lo hi):=by unfold cutV cutD;rw[c.len];exact (c.drop _).take _
structure DP(X:Cx)(E:XK)(e:Option Expr)(f:aa->DM (Option Int)):Prop where
 h:PO X e (tD X.mg E (λ_ _ (b a:Option Int)=>b=a) f)
theorem PO.mono(h:PO X e t)(f:∀σ H Q,t' σ H Q->t σ H Q):PO X e t':=λXp s σ H Q I q=>h Xp s σ H Q I (f σ H Q q)
theorem pO:DP X E none (λz=>pure none):=⟨PO.mono po_none λσ H Q h=>by obtain⟨ρ,δ,M,ev,j,g⟩:=h;exact g.pure ρ H none .refl j rfl⟩
theorem jk(ha:DE X E a fa):DP X E (some a) (λδ=>fa δ>>=za):=⟨PO.mono (po_some ha.h) λσ H Q h=>by
 obtain⟨ρ,δ,M,ev,j,g1⟩:=h;refine⟨ρ,δ,M,ev,j,g1.bind λρ1 H1 M1 x dx e1 j1 c1 g2=>?_⟩
 cases dx with
 |int i=>cases c1;exact⟨i,rfl,Go.pure (a:=some i) g2 ρ1 H1 _ .refl j1 rfl⟩
 |_=>obtain⟨r,e,_⟩:=g2;cases e⟩
def uX(lo hi:Option Int):D->Mo->Option D
 |.tup l,_=>some (.tup (cutD l lo hi))
 |x,M=>(aM x M).map λl=>.lst (cutD l lo hi)
theorem QF:SlR X (λx lo hi H Q=>∃ρ M dx d,J X.mg ρ M H/\Cv X.mg ρ H x dx/\uX lo hi dx M=some d/\∀ρ' H' v,Ext ρ H ρ' H'->J X.mg ρ' M H'->Cv X.mg ρ' H' v d->Q v H'):=by
 intro Xp s σ H x v vl vu lo hi sl Q I rx hs pl pu h;obtain⟨ρ,M,dx,d,j,c,e,q⟩:=h;unfold uX at e;split at e
 ·cases e;cases c with | tup n a c=>
  refine JG (X:=X) Xp s σ H _ v vl vu lo hi sl Q I rx hs pl pu ⟨_,_,rfl,a,λp H' S hp=>?_⟩
  exact q ρ H' _ (.same S) (j.same S) (.tup ((j.same S).notup hp) hp ((c.cut lo hi).mono (.same S)))
 ·obtain⟨l,h1,rfl⟩:=RL.mp e;obtain⟨a,xs,rfl,ha,c⟩:=cW j c h1;refine sl_list (X:=X) Xp s σ H _ v vl vu lo hi sl Q I rx hs pl pu ⟨_,_,rfl,SqL.of ha,λp hp=>?_⟩
  exact q ρ _ _ (.lay hp) (j.lay _ hp) (.lst (j.fresh hp) upd_same ((c.cut lo hi).mono (.lay hp)))
theorem mO{fa:aa->DM D}{lo hi:Option Expr}{fl fh:aa->DM (Option Int)}(ha:DE X E a fa)(hl:DP X E lo fl)(hh:DP X E hi fh):
  DE X E (.Subscript a (.Slice lo hi none p2) pos) (λδ=>fa δ>>=λx=>fl δ>>=λl=>fh δ>>=λh=>rd (uX l h x)):=⟨PE.mono (pe_slice QF ha.h hl.h hh.h) λσ H Q h=>by
 obtain⟨ρ,δ,M,ev,j,g1⟩:=h;refine⟨ρ,δ,M,ev,j,g1.bind λρ1 H1 M1 x dx e1 j1 c1 g2=>⟨ρ1,δ,M1,ev.mono e1,j1,g2.bind λρ2 H2 M2 l dl e2 j2 c2 g3=>⟨ρ2,δ,M2,(ev.mono e1).mono e2,j2,g3.bind λρ3 H3 M3 h dh e3 j3 c3 g4=>?_⟩⟩⟩
 have c2:l=dl:=c2;have c3:h=dh:=c3;subst c2 c3;obtain⟨d,e,q⟩:=g4.rd;exact⟨ρ3,M3,dx,d,j3,(c1.mono e2).mono e3,e,q⟩⟩
end
inductive Fl where
 |nx (δ:aa) | rt (d:D) | bk (δ:aa) | ct (δ:aa)
def rN(mg:Str->Option Value)(ρ:Rh)(H:Hp)(D:Ends)(E:XK):R Fl×Mo->Prop
 |(.ok (.nx δ'),M')=>∀ρ' H' σ',Ext ρ H ρ' H'->J mg ρ' M' H'->Ev mg ρ' H' σ' δ'->D.nx σ' H'
 |(.ok (.bk δ'),M')=>∀ρ' H' σ',Ext ρ H ρ' H'->J mg ρ' M' H'->Ev mg ρ' H' σ' δ'->D.bk σ' H'
 |(.ok (.ct δ'),M')=>∀ρ' H' σ',Ext ρ H ρ' H'->J mg ρ' M' H'->Ev mg ρ' H' σ' δ'->D.ct σ' H'
 |(.ok (.rt d),M')=>∀ρ' H' v,Ext ρ H ρ' H'->J mg ρ' M' H'->Cv mg ρ' H' v d->D.rt v H'
 |(.exc c,M')=>∀ρ' H' C,Ext ρ H ρ' H'->J mg ρ' M' H'->mg c=some (.ref C)->E (.ref C) none H'
def aX(mg:Str->Option Value)(E:XK)(D:Ends)(ρ:Rh)(H:Hp)(m:DM Fl)(M:Mo):Prop:=∃r,m M=some r/\rN mg ρ H D E r
section
variable{mg:Str->Option Value}{ρ ρ':Rh}{H H':Hp}{E:XK}{α β:Type}{rel:Rh->Hp->β->α->Prop}{D D':Ends}{Q':β->Hp->Prop}{M:Mo}
theorem rN.mono(e:Ext ρ H ρ' H')(h:rN mg ρ H D E r):rN mg ρ' H' D E r:=by
 obtain⟨r,M'⟩:=r;cases r with
 |ok a=>cases a<;>exact λρ2 H2 b e2 j c=>h ρ2 H2 b (e.trans e2) j c
 |exc c=>exact λρ2 H2 C e2 j m=>h ρ2 H2 C (e.trans e2) j m
set_option tactic.hygienic true in
theorem aX.bind(g:aX mg E D ρ H (m>>=k) M)
  (f:∀ρ1 H1 M1 b a,Ext ρ H ρ1 H1->J mg ρ1 M1 H1->rel ρ1 H1 b a->aX mg E D ρ1 H1 (k a) M1->Q' b H1):Go mg E rel Q' ρ H m M:=by
 obtain⟨r,e,p⟩:=g;have e:DM.bind m k M=some r:=e;unfold DM.bind at e;split at e
 ·cases e
 ·rename_i c M' em;cases e;exact⟨_,em,p⟩
 ·rename_i a M' em;exact⟨_,em,λρ1 H1 b x j c=>f ρ1 H1 M' b a x j c ⟨r,e,p.mono x⟩⟩
theorem aX.pure(g:aX mg E D ρ H (pure a) M):rN mg ρ H D E (.ok a,M):=by obtain⟨r,e,p⟩:=g;have e:some (R.ok a,M)=some r:=e;cases e;exact p
def uH(f g:aa->DM Fl):aa->DM Fl:=λδ=>f δ>>=λr=>match r with
 |.nx δ'=>g δ'
 |r=>Pure.pure r
set_option tactic.hygienic true in
theorem aX.seq(g:aX mg E D ρ H (f>>=k) M)
  (hn:∀δ' ρ1 H1 M1 σ1,Ext ρ H ρ1 H1->J mg ρ1 M1 H1->Ev mg ρ1 H1 σ1 δ'->aX mg E D ρ1 H1 (k (.nx δ')) M1->D'.nx σ1 H1)
  (hb:∀δ' ρ1 H1 M1 σ1,Ext ρ H ρ1 H1->J mg ρ1 M1 H1->Ev mg ρ1 H1 σ1 δ'->aX mg E D ρ1 H1 (k (.bk δ')) M1->D'.bk σ1 H1)
  (hc:∀δ' ρ1 H1 M1 σ1,Ext ρ H ρ1 H1->J mg ρ1 M1 H1->Ev mg ρ1 H1 σ1 δ'->aX mg E D ρ1 H1 (k (.ct δ')) M1->D'.ct σ1 H1)
  (hr:∀d ρ1 H1 M1 v,Ext ρ H ρ1 H1->J mg ρ1 M1 H1->Cv mg ρ1 H1 v d->aX mg E D ρ1 H1 (k (.rt d)) M1->D'.rt v H1):aX mg E D' ρ H f M:=by
 obtain⟨r,e,p⟩:=g;have e:DM.bind f k M=some r:=e;unfold DM.bind at e;split at e
 ·cases e
 ·rename_i c M' em;cases e;exact⟨_,em,p⟩
 ·rename_i a M' em;refine⟨_,em,?_⟩;cases a with
  |nx δ'=>exact λρ1 H1 b x j c=>hn δ' ρ1 H1 M' b x j c ⟨r,e,p.mono x⟩
  |bk δ'=>exact λρ1 H1 b x j c=>hb δ' ρ1 H1 M' b x j c ⟨r,e,p.mono x⟩
  |ct δ'=>exact λρ1 H1 b x j c=>hc δ' ρ1 H1 M' b x j c ⟨r,e,p.mono x⟩
  |rt d=>exact λρ1 H1 b x j c=>hr d ρ1 H1 M' b x j c ⟨r,e,p.mono x⟩
end
def tS(mg:Str->Option Value)(E:XK)(f:aa->DM Fl):TS:=λD σ H=>∃ρ δ M,Ev mg ρ H σ δ/\J mg ρ M H/\aX mg E D ρ H (f δ) M
structure DS(X:Cx)(E:XK)(st:Stmt)(f:aa->DM Fl):Prop where
 h:PS X st (tS X.mg E f)
structure DSs(X:Cx)(E:XK)(st:List Stmt)(f:aa->DM Fl):Prop where
 h:PSs X st (tS X.mg E f)
theorem PS.mono(h:PS X e t)(f:∀D σ H,t' D σ H->t D σ H):PS X e t':=λXp s σ H D I q=>h Xp s σ H D I (f D σ H q)
theorem PSs.mono(h:PSs X e t)(f:∀D σ H,t' D σ H->t D σ H):PSs X e t':=λXp s σ H D I q=>h Xp s σ H D I (f D σ H q)
section
variable{X:Cx}{E:XK}{st:Stmt}{rest:List Stmt}{f g:aa->DM Fl}{e:Expr}{fe:aa->DM D}{pos:Pos}
theorem bz:DSs X E [] (λδ=>pure (.nx δ)):=⟨PSs.mono pss_nil λD σ H h=>by obtain⟨ρ,δ,M,ev,j,g⟩:=h;exact g.pure ρ H σ .refl j ev⟩
theorem aA(h:DS X E st f):DSs X E [st] f:=⟨pss_one h.h⟩
theorem az(h1:DS X E st f)(h2:DSs X E rest g):DSs X E (st::rest) (uH f g):=⟨PSs.mono (pss_cons h1.h h2.h) λD σ H h=>by
 obtain⟨ρ,δ,M,ev,j,g1⟩:=h;refine⟨ρ,δ,M,ev,j,g1.seq (λδ' ρ1 H1 M1 σ1 e1 j1 ev1 g2=>⟨ρ1,δ',M1,ev1,j1,g2⟩) (λδ' ρ1 H1 M1 σ1 e1 j1 ev1 g2=>?_) (λδ' ρ1 H1 M1 σ1 e1 j1 ev1 g2=>?_) (λd ρ1 H1 M1 v e1 j1 c1 g2=>?_)⟩
 ·exact aX.pure g2 ρ1 H1 σ1 .refl j1 ev1
 ·exact aX.pure g2 ρ1 H1 σ1 .refl j1 ev1
 ·exact aX.pure g2 ρ1 H1 v .refl j1 c1⟩
theorem aO(he:DE X E e fe):DS X E (.Return (some e) pos) (λδ=>fe δ>>=λd=>pure (.rt d)):=⟨PS.mono (L2.ps_ret he.h) λD σ H h=>by obtain⟨ρ,δ,M,ev,j,g1⟩:=h;exact⟨ρ,δ,M,ev,j,g1.bind λρ1 H1 M1 v d e1 j1 c1 g2=>g2.pure ρ1 H1 v .refl j1 c1⟩⟩
theorem fD(he:DE X E e fe)(hs:swapsWith e none pos.line X.env=pure false:=by rfl):DS X E (.Expr e pos) (λδ=>fe δ>>=λz=>pure (.nx δ)):=⟨PS.mono (ps_expr he.h hs) λD σ H h=>by obtain⟨ρ,δ,M,ev,j,g1⟩:=h;exact⟨ρ,δ,M,ev,j,g1.bind λρ1 H1 M1 v d e1 j1 c1 g2=>g2.pure ρ1 H1 σ .refl j1 (ev.mono e1)⟩⟩
theorem aL(hN:X.N.Nodup)(hi:X.N[i]?=some x)(hx:Loc X.env.scope x)(he:DE X E e fe)(hs:swapsWith e (some (.Name x pos')) pos.line X.env=pure false:=by rfl)(hf:X.fn x=true\/X.env.scope.names.lookup x=some .local:=by first | exact .inl rfl | exact .inr rfl | assumption):
  DS X E (.Assign [.Name x pos'] e pos) (λδ=>fe δ>>=λd=>pure (.nx (δ.set i (some d)))):=⟨PS.mono (ps_set hN hi hx he.h hs hf) λD σ H h=>by
 obtain⟨ρ,δ,M,ev,j,g1⟩:=h;exact⟨ρ,δ,M,ev,j,g1.bind λρ1 H1 M1 v d e1 j1 c1 g2=>g2.pure ρ1 H1 _ .refl j1 ((ev.mono e1).set c1)⟩⟩
theorem cg(hc:DT X E c tc)(ha:DSs X E a f)(hb:DSs X E b g):DS X E (.If c a b pos) (λδ=>tc δ>>=λk=>if k then f δ else g δ):=⟨PS.mono (L2.ps_if hc.h ha.h hb.h) λD σ H h=>by
 obtain⟨ρ,δ,M,ev,j,g1⟩:=h;refine⟨ρ,δ,M,ev,j,g1.bind λρ1 H1 M1 x dx e1 j1 c1 g2=>?_⟩
 have c1:x=dx:=c1;subst c1;cases x with
 |true=>exact iteT ⟨ρ1,δ,M1,ev.mono e1,j1,g2⟩
 |false=>exact iteF ⟨ρ1,δ,M1,ev.mono e1,j1,g2⟩⟩
def tG(mg:Str->Option Value)(E:XK)(fg:D->aa->DM aa):TG:=λv σ H Q=>∃ρ δ M d,Ev mg ρ H σ δ/\J mg ρ M H/\Cv mg ρ H v d/\Go mg E (Ev mg) Q ρ H (fg d δ) M
def Rk(mg:Str->Option Value)(E:XK)(fg:List D->aa->DM aa):TGs:=λvs σ H Q=>∃ρ δ M ds,Ev mg ρ H σ δ/\J mg ρ M H/\Cvs mg ρ H vs ds/\Go mg E (Ev mg) Q ρ H (fg ds δ) M
structure DG(X:Cx)(E:XK)(tg:Expr)(fg:D->aa->DM aa):Prop where
 h:PG X tg (tG X.mg E fg)
structure DGs(X:Cx)(E:XK)(tg:List Expr)(fg:List D->aa->DM aa):Prop where
 h:PGs X tg (Rk X.mg E fg)
theorem PG.mono(h:PG X tg t)(f:∀v σ H Q,t' v σ H Q->t v σ H Q):PG X tg t':=λXp s σ H v u Q I r q=>h Xp s σ H v u Q I r (f v σ H Q q)
theorem PGs.mono(h:PGs X tg t)(f:∀v σ H Q,t' v σ H Q->t v σ H Q):PGs X tg t':=λXp s σ H v u Q I r q=>h Xp s σ H v u Q I r (f v σ H Q q)
def gN(i:Nat):D->aa->DM aa:=λd δ=>pure (δ.set i (some d))
theorem aH(hN:X.N.Nodup)(hi:X.N[i]?=some x)(hx:Loc X.env.scope x)(hf:X.fn x=true\/X.env.scope.names.lookup x=some .local:=by first | exact .inl rfl | exact .inr rfl | assumption):DG X E (.Name x pos) (gN i):=
 ⟨PG.mono (pg_name hN hi hx hf) fun v σ H Q h=>by obtain⟨ρ,δ,M,d,ev,j,c,g1⟩:=h;exact Go.pure g1 ρ H _ .refl j (ev.set c)⟩
def eX:List D->aa->DM aa
 |[],δ=>pure δ
 |_,_=>stuck
def bY(f:D->aa->DM aa)(fs:List D->aa->DM aa):List D->aa->DM aa
 |d::l,δ=>f d δ>>=λδ'=>fs l δ'
 |_,_=>stuck
theorem gB:DGs X E [] eX:=⟨PGs.mono pgs_nil λvs σ H Q h=>by
 obtain⟨ρ,δ,M,ds,ev,j,c,g1⟩:=h;cases c with
 |nil=>exact⟨rfl,Go.pure (a:=δ) g1 ρ H σ .refl j ev⟩
 |cons _ _=>obtain⟨r,e,_⟩:=g1;cases e⟩
theorem bN(h1:DG X E e fg)(h2:DGs X E es fgs)(hs:(assignEach (e::es) X.env).map (·.2)=assign e X.env::(assignEach es X.env).map (·.2):=by rfl):DGs X E (e::es) (bY fg fgs):=
 ⟨PGs.mono (pgs_cons h1.h h2.h hs) fun vs σ H Q h=>by
  obtain⟨ρ,δ,M,ds,ev,j,c,g1⟩:=h;cases c with
  |nil=>obtain⟨r,e,_⟩:=g1;cases e
  |cons c1 c2=>
    have g1:Go X.mg E (Ev X.mg) Q ρ H (fg _ δ>>=λδ'=>fgs _ δ') M:=g1
    exact⟨_,_,rfl,ρ,δ,M,_,ev,j,c1,g1.bind λρ1 H1 M1 σ1 δ1 e1 j1 ev1 g2=>⟨ρ1,δ1,M1,_,ev1,j1,c2.mono e1,g2⟩⟩⟩
def gT(n:Nat)(fs:List D->aa->DM aa):D->aa->DM aa
 |.tup l,δ=>if l.length=n then fs l δ else stuck
 |_,_=>stuck
set_option tactic.hygienic true in
theorem jA(hc:X.calm=true)(h:DGs X E es fgs)(hn:(assignEach es X.env).length=n:=by rfl)(hst:(assignEach es X.env).findIdx? (·.1)=none:=by rfl):DG X E (.Tuple es k pos) (gT n fgs):=
 ⟨PG.mono (pg_tup hc h.h hn hst) fun v σ H Q h=>by
  obtain⟨ρ,δ,M,d,ev,j,c,g1⟩:=h;cases c with
  | tup nx a c=>
    have g1:Go X.mg E (Ev X.mg) Q ρ H (if _ then _ else _) M:=g1
    split at g1
    ·rename_i hl;exact⟨_,_,rfl,SqT.of a,by rw[c.len];exact hl,ρ,δ,M,_,ev,j,c,g1⟩
    ·obtain⟨r,e,_⟩:=g1;cases e
  |_=>obtain⟨r,e,_⟩:=g1;cases e⟩
def xW:D->D->D->DM Unit
 | .ref n,.int k,v=>λM=>match M[n]? with
   |some (.lst l)=>match ixN l.length k with
     |some j=>some (.ok (),M.set n (.lst (l.set j v)))
     |none=>none
   |_=>none
 |_,_,_=>stuck
def Bk(mg:Str->Option Value)(E:XK)(gs:D->D->D->DM Unit):TSet:=λo i v H Q=>∃ρ M dO di dv,J mg ρ M H/\Cv mg ρ H o dO/\Cv mg ρ H i di/\Cv mg ρ H v dv/\Go mg E (λ_ _ (_:Unit) (_:Unit)=>True) (λz H'=>Q H') ρ H (gs dO di dv) M
set_option tactic.hygienic true in
theorem vz:PSet X (Bk X.mg E xW):=by
 intro Xp s σ H o i v ov iv u Q I ro ri rv h;obtain⟨ρ,M,dO,di,dv,j,co,ci,cv,r,e,p⟩:=h;cases co with
 | ref hn=>
   cases ci with
   | int k=>
     rename_i n a;have e:(match M[n]? with
      |some (.lst l)=>match ixN l.length k with
        |some j=>some (R.ok (),M.set n (.lst (l.set j dv)))
        |none=>none
      |_=>none)=some r:=e
     split at e
     ·rename_i l hl;split at e
      ·rename_i q hq;cases e;obtain⟨xs,hx,c⟩:=j.obj _ _ _ hn hl;have x:Ext ρ H ρ (upd H a (.lst (xs.set q v))):=.upd (S7 hn);exact set_list (X:=X) Xp s σ H _ _ v ov iv u Q I ro ri rv ⟨_,_,_,q,rfl,rfl,hx,by rw[c.len];exact hq,p ρ _ () x (j.upd hn ⟨_,upd_same,(c.set cv q).mono x⟩) trivial⟩
      ·cases e
     ·cases e
   |_=>cases e
 |_=>cases e
theorem sy(ho:DE X E o fo)(hi:DE X E i fi)(hs:PSet X (Bk X.mg E gs))
  (ha:∀v,assign (.Subscript o i pos) X.env v=(do
    let ov <-holding [v] (eval o X.env)
    let iv <-holding [v,ov] (eval i X.env)
    standAt pos
    holding [v,ov,iv] (setItem ov iv v)
    release [v,ov,iv] []):=by intro _;rfl):DG X E (.Subscript o i pos) (λd δ=>fo δ>>=λo=>fi δ>>=λi=>gs o i d>>=λz=>pure δ):=
 ⟨PG.mono (pg_sub ho.h hi.h hs ha) fun v σ H Q h=>by obtain⟨ρ,δ,M,d,ev,j,c,g1⟩:=h;exact⟨ρ,δ,M,ev,j,g1.bind λρ1 H1 M1 x dx e1 j1 c1 g2=>⟨ρ1,δ,M1,ev.mono e1,j1,g2.bind λρ2 H2 M2 y dy e2 j2 c2 g3=>⟨ρ2,M2,dx,dy,d,j2,c1.mono e2,c2,(c.mono e1).mono e2,g3.bind λρ3 H3 M3 _ _ e3 j3 _ g4=>g4.pure ρ3 H3 σ .refl j3 (((ev.mono e1).mono e2).mono e3)⟩⟩⟩⟩
theorem oR(he:DE X E e fe)(hg:DG X E tg fg)(hs:swapsWithSole [tg] e pos.line X.env=pure false:=by rfl)(hw:swappedStores [tg] e X.env=pure none:=by rfl)
  (h1:(assignEach [tg] X.env).map (·.2)=[assign tg X.env]:=by rfl):DS X E (.Assign [tg] e pos) (λδ=>fe δ>>=λd=>fg d δ>>=λδ'=>pure (.nx δ')):=⟨PS.mono (ps_asg he.h hg.h hs hw h1) λD σ H h=>by
 obtain⟨ρ,δ,M,ev,j,g1⟩:=h;exact⟨ρ,δ,M,ev,j,g1.bind λρ1 H1 M1 v d e1 j1 c1 g2=>⟨ρ1,δ,M1,d,ev.mono e1,j1,c1,g2.bind λρ2 H2 M2 σ2 δ2 e2 j2 ev2 g3=>g3.pure ρ2 H2 σ2 .refl j2 ev2⟩⟩⟩
def ux(i j:Nat)(fa:aa->DM (List D)):aa->DM Fl:=λδ=>fa δ>>=λl=>match l with
 |[v,w]=>pure (.nx ((δ.set i (some v)).set j (some w)))
 |_=>stuck
theorem sE{kt k2 pt2}(hc:X.calm=true)(hN:X.N.Nodup)(hi:X.N[i]?=some x)(hj:X.N[j]?=some y)(hij:i≠j)
  (hx:X.env.scope.names.lookup x=some .local) (hy:X.env.scope.names.lookup y=some .local) (ha:DA X E [a,b] fa)
  (hw:swappedStores [.Tuple [.Name x px,.Name y py] kt pt] (.Tuple [a,b] k2 pt2) X.env=pure (some [x,y]))
  (hs:swapsWithSole [.Tuple [.Name x px,.Name y py] kt pt] (.Tuple [a,b] k2 pt2) pos.line X.env=pure false:=by rfl) :
  DS X E (.Assign [.Tuple [.Name x px,.Name y py] kt pt] (.Tuple [a,b] k2 pt2) pos) (ux i j fa):=⟨PS.mono (ps_par hc hN hi hj hij hx hy ha.h.h hw hs) λD σ H h=>by
 obtain⟨ρ,δ,M,ev,j,g1⟩:=h;refine⟨ρ,δ,M,ev,j,aX.bind g1 λρ1 H1 M1 v d e1 j1 c1 g2=>?_⟩
 cases c1 with
 |nil=>obtain⟨r,e,_⟩:=g2;cases e
 | cons c1 c2=>cases c2 with
   |nil=>obtain⟨r,e,_⟩:=g2;cases e
   |cons c2 c3=>cases c3 with
     |nil=>exact⟨_,_,rfl,aX.pure (a:=.nx _) g2 ρ1 H1 _ .refl j1 (((ev.mono e1).set c1).set c2)⟩
     |cons _ _=>obtain⟨r,e,_⟩:=g2;cases e⟩
theorem Ha:bM X E (inplaceOp .Add) (λx y=>rd (cC (λz z=>true) (λi j=>.int (i+j)) x y)):=xf iop_add
end
inductive Itn where
 |fix (l:List D) | dyn (n:Nat)
def Itn.next:Itn->Nat->Mo->Option (Option D)
 |.fix l,i,_=>some l[i]?
 |.dyn n,i,M=>match M[n]? with
   |some (.lst l)=>some l[i]?
   |_=>none
set_option tactic.hygienic true in
structure ItOk(mg:Str->Option Value)(ρ:Rh)(H:Hp)(Jt:It)(it:Itn):Prop where
 item:∀(i:Nat) ρ' H' M' d,Kp ρ H ρ' H'->J mg ρ' M' H'->it.next i M'=some (some d)->Jt.go i H'/\∀x H2,Jt.yld i H' x H2->Ext ρ' H' ρ' H2/\J mg ρ' M' H2/\Cv mg ρ' H2 x d
 stop:∀(i:Nat) ρ' H' M',Kp ρ H ρ' H'->J mg ρ' M' H'->it.next i M'=some none->Jt.stop i H'
def tI(mg:Str->Option Value)(E:XK)(fi:aa->DM Itn):TI:=λσ H R=>tD mg E (ItOk mg) fi σ H R
structure DI(X:Cx)(E:XK)(tg it:Expr)(fi:aa->DM Itn):Prop where
 h:PI X tg it (tI X.mg E fi)
theorem PI.mono(h:PI X tg e t)(f:∀σ H Q,t' σ H Q->t σ H Q):PI X tg e t':=λXp s σ H Q I q=>h Xp s σ H Q I (f σ H Q q)
theorem K5{K:PySem.W.Frag}{mg:Str->Option Value}{ρ:Rh}{H:Hp}{a:Addr}{xs:List V}{ds:List D}(n:a∉ρ)(h:H a=some (.lst xs))(c:Cvs mg ρ H xs ds):ItOk mg ρ H (Itl K a) (.fix ds) where
 item:=λi ρ' H' M' d e j q=>by
  have hq:ds[i]?=some d:=RP q;obtain⟨v,hv,cv⟩:=c.get hq;have h':=(e.keep _ _ h n nofun).2
  refine⟨⟨xs,v,SqL.of h',hv⟩,λx H2 y=>?_⟩
  obtain⟨rfl,y⟩:=y;have:=y xs (SqL.of h');rw[hv]at this;cases this;exact⟨.refl,j,cv.kp e⟩
 stop:=λi ρ' H' M' e j q=>by have hq:ds[i]?=none:=RP q;exact⟨xs,SqL.of (e.keep _ _ h n nofun).2,by rw[c.len];exact Ss.mp hq⟩
theorem K6{K:PySem.W.Frag}{mg:Str->Option Value}{ρ:Rh}{H:Hp}{a:Addr}{xs:List V}{ds:List D}(n:a∉ρ)(h:H a=some (.tup xs))(c:Cvs mg ρ H xs ds):ItOk mg ρ H (Itt K a) (.fix ds) where
 item:=λi ρ' H' M' d e j q=>by
  have hq:ds[i]?=some d:=RP q;obtain⟨v,hv,cv⟩:=c.get hq;have h':=(e.keep _ _ h n nofun).2
  refine⟨⟨xs,v,SqT.of h',hv⟩,λx H2 y=>?_⟩
  obtain⟨rfl,y⟩:=y;have:=y xs (SqT.of h');rw[hv]at this;cases this;exact⟨.refl,j,cv.kp e⟩
 stop:=λi ρ' H' M' e j q=>by have hq:ds[i]?=none:=RP q;exact⟨xs,SqT.of (e.keep _ _ h n nofun).2,by rw[c.len];exact Ss.mp hq⟩
set_option tactic.hygienic true in
theorem K4{K:PySem.W.Frag}{mg:Str->Option Value}{ρ:Rh}{H:Hp}{a:Addr}{n:Nat}(h:ρ.st[n]?=some a):ItOk mg ρ H (Itl K a) (.dyn n) where
 item:=λi ρ' H' M' d e j q=>by
  have h':=e.at h;unfold Itn.next at q;dsimp only at q;split at q
  ·rename_i l hl;obtain⟨xs,hx,c⟩:=j.obj n a _ h' hl;have hq:l[i]?=some d:=RP q;obtain⟨v,hv,cv⟩:=c.get hq;refine⟨⟨xs,v,SqL.of hx,hv⟩,λx H2 y=>?_⟩
   obtain⟨rfl,y⟩:=y;have:=y xs (SqL.of hx);rw[hv]at this;cases this;exact⟨.refl,j,cv⟩
  ·cases q
 stop:=λi ρ' H' M' e j q=>by
  have h':=e.at h;unfold Itn.next at q;dsimp only at q;split at q
  ·rename_i l hl;obtain⟨xs,hx,c⟩:=j.obj n a _ h' hl;have hq:l[i]?=none:=RP q;exact⟨xs,SqL.of hx,by rw[c.len];exact Ss.mp hq⟩
  ·cases q
def m9(lo:Int)(n:Nat):List D:=(List.range n).map λi=>.int (lo+(i:Nat))
theorem zQ{lo:Int}{n i:Nat}:(m9 lo n)[i]?=if i<n then some (.int (lo+(i:Nat))) else none:=by
 unfold m9;rw[R0];by_cases h:i<n
 ·rw[R1 h,Tw h];rfl
 ·rw[R3 h,Ss.mpr (by simp;lia)];rfl
set_option tactic.hygienic true in
theorem Dr{mg:Str->Option Value}{lo:Int}{n:Nat}:ItOk mg ρ H (Itr lo n) (.fix (m9 lo n)) where
 item:=λi ρ' H' M' d e j q=>by
  have hq:(m9 lo n)[i]?=some d:=RP q;rw[zQ]at hq;split at hq
  ·rename_i h;cases hq;refine⟨h,λx H2 y=>?_⟩
   obtain⟨rfl,rfl⟩:=y;exact⟨.refl,j,.int _⟩
  ·cases hq
 stop:=λi ρ' H' M' e j q=>by
  have hq:(m9 lo n)[i]?=none:=RP q;rw[zQ]at hq;split at hq
  ·cases hq
  ·rename_i h;exact Up.mp h
section
variable{X:Cx}{E:XK}{tg:Expr}
def nj(i:Int):Bool:=decide (-(2^62)<=i/\i<2^62)
def lB:List D->Option Itn
 |[.int j]=>if nj j then some (.fix (m9 0 j.toNat)) else none
 |_=>none
def xR:List D->Option Itn
 |[.int i,.int j]=>if nj i&&nj j then some (.fix (m9 i (j-i).toNat)) else none
 |_=>none
set_option tactic.hygienic true in
theorem cz(hg:Gl X "range")(hm:X.mg "range"=none)(ha:DA X E [a] fa)(hs:notStar a=true:=by rfl):DI X E tg (.Call (.Name "range" p) [a] [] pos) (λδ=>fa δ >>= λl=>opt (lB l)):=
 ⟨PI.mono (Bf hg hm ha.h hs).h fun σ H R h=>by
  obtain⟨ρ,δ,M,ev,j,g1⟩:=h;refine⟨ρ,δ,M,ev,j,g1.bind λρ1 H1 M1 x dx e1 j1 c1 g2=>?_⟩
  obtain⟨it,e,q⟩:=g2.opt;unfold lB at e;split at e
  ·split at e
   ·rename_i hk;cases e;cases c1 with | cons c1 c2=>
    cases c2;cases c1;have hk:=TX hk;exact⟨_,rfl,hk.1,hk.2,q ρ1 H1 _ .refl j1 Dr⟩
   ·cases e
  ·cases e⟩
set_option tactic.hygienic true in
theorem Dc(hg:Gl X "range")(hm:X.mg "range"=none)(ha:DA X E [a,b] fa)(hs:notStar a=true:=by rfl)(hs2:notStar b=true:=by rfl):DI X E tg (.Call (.Name "range" p) [a,b] [] pos) (λδ=>fa δ >>= λl=>opt (xR l)):=
 ⟨PI.mono (Bg hg hm ha.h hs hs2).h fun σ H R h=>by
  obtain⟨ρ,δ,M,ev,j,g1⟩:=h;refine⟨ρ,δ,M,ev,j,g1.bind λρ1 H1 M1 x dx e1 j1 c1 g2=>?_⟩
  obtain⟨it,e,q⟩:=g2.opt;unfold xR at e;split at e
  ·split at e
   ·rename_i hk;cases e;cases c1 with | cons c1 c2=>cases c2 with | cons c2 c3=>
    cases c3;cases c1;cases c2;have hk:=(Um _ _).mp hk;have h1:=TX hk.1;have h2:=TX hk.2;exact⟨_,_,rfl,⟨h1.1,h1.2,h2.1,h2.2⟩,q ρ1 H1 _ .refl j1 Dr⟩
   ·cases e
  ·cases e⟩
def nU:D->Option Itn
 |.tup l=>some (.fix l)
 |_=>none
def lL:D->Mo->Option Itn
 |.lst l,_=>some (.fix l)
 |.ref n,M=>match M[n]? with
   |some (.lst _)=>some (.dyn n)
   |_=>none
 |_,_=>none
theorem cG(hl:DE X E l fl):DI X E tg l (λδ=>fl δ>>=λd=>opt (nU d)):=⟨PI.mono (pi_tup hl.h) λσ H R h=>by
 obtain⟨ρ,δ,M,ev,j,g1⟩:=h;refine⟨ρ,δ,M,ev,j,g1.bind λρ1 H1 M1 x dx e1 j1 c1 g2=>?_⟩
 obtain⟨it,e,q⟩:=g2.opt;unfold nU at e;split at e
 ·cases e;cases c1 with | tup n a c=>
  exact⟨_,rfl,⟨_,SqT.of a⟩,q ρ1 H1 _ .refl j1 (K6 n a c)⟩
 ·cases e⟩
set_option tactic.hygienic true in
theorem cO(hl:DE X E l fl):DI X E tg l (λδ=>fl δ >>= λd=>rd (lL d)):=⟨PI.mono (pi_list hl.h) λσ H R h=>by
 obtain⟨ρ,δ,M,ev,j,g1⟩:=h;refine⟨ρ,δ,M,ev,j,g1.bind λρ1 H1 M1 x dx e1 j1 c1 g2=>?_⟩
 obtain⟨it,e,q⟩:=g2.rd;unfold lL at e;split at e
 ·cases e;cases c1 with | lst n a c=>
  exact⟨_,rfl,⟨_,SqL.of a⟩,q ρ1 H1 _ .refl j1 (K5 n a c)⟩
 ·split at e
  ·rename_i l' hl';cases e;cases c1 with | ref hn=>
   obtain⟨xs,hx,_⟩:=j1.obj _ _ _ hn hl';exact⟨_,rfl,⟨xs,SqL.of hx⟩,q ρ1 H1 _ .refl j1 (K4 hn)⟩
  ·cases e
 ·cases e⟩
end
def forL(tg:D->aa->DM aa)(fb:aa->DM Fl):List D->aa->DM Fl
 |[],δ=>pure (.nx δ)
 |d::l,δ=>tg d δ>>=λδ1=>fb δ1>>=λr=>match r with
   |.nx δ2=>forL tg fb l δ2
   |.ct δ2=>forL tg fb l δ2
   |.bk δ2=>pure (.nx δ2)
   |.rt d=>pure (.rt d)
def kI(tg:D->aa->DM aa)(fb:aa->DM Fl)(n:Nat):Nat->Nat->aa->DM Fl
 |0,_,_=>stuck
 | k + 1,i,δ=>rd (Itn.next (.dyn n) i) >>= λo=>match o with
   |none=>pure (.nx δ)
   |some d=>tg d δ>>=λδ1=>fb δ1>>=λr=>match r with
     |.nx δ2=>kI tg fb n k (i+1) δ2
     |.ct δ2=>kI tg fb n k (i+1) δ2
     |.bk δ2=>pure (.nx δ2)
     |.rt d=>pure (.rt d)
def GC(N:Nat)(tg:D->aa->DM aa)(fb:aa->DM Fl):Itn->aa->DM Fl
 |.fix l=>forL tg fb l
 |.dyn n=>kI tg fb n N 0
theorem aX.rdb{mg:Str->Option Value}{E:XK}{D:Ends}{ρ:Rh}{H:Hp}{M:Mo}{γ:Type}{f:Mo->Option γ}{k:γ->DM Fl}(g:aX mg E D ρ H (L3.rd f>>=k) M):∃a,f M=some a/\aX mg E D ρ H (k a) M:=by
 obtain⟨r,e,p⟩:=g;have e:DM.bind _ _ M=some r:=e;unfold DM.bind L3.rd at e;cases h:f M with
 |none=>rw[h]at e;cases e
 |some a=>rw[h]at e;exact⟨a,rfl,r,e,p⟩
theorem qT{X:Cx}{E:XK}{fg:D->aa->DM aa}{fb:aa->DM Fl}{D:Ends}{σ:L2.St}{H H':Hp}{ρ:Rh}{δ:aa}{M:Mo}{x:V}{d:L3.D}{N:L2.St->Hp->Prop}{again:aa->DM Fl}
  (ev:Ev X.mg ρ H σ δ) (e1:Ext ρ H ρ H') (j1:J X.mg ρ M H') (c1:Cv X.mg ρ H' x d) (ht:aX X.mg E D ρ H (fg d δ>>=λδ1=>fb δ1>>=λr=>match r with
    |.nx δ2=>again δ2
    |.ct δ2=>again δ2
    |.bk δ2=>pure (.nx δ2)
    |.rt d=>pure (.rt d)) M) (hN:∀ρ2 δ2 M2 σ2 H2,Ext ρ H ρ2 H2->Ev X.mg ρ2 H2 σ2 δ2->J X.mg ρ2 M2 H2->aX X.mg E D ρ2 H2 (again δ2) M2->N σ2 H2) :
  tG X.mg E fg x σ H' λσ2 H2=>tS X.mg E fb { D with nx:=N,ct:=N,bk:=D.nx } σ2 H2:=by
 obtain⟨r,er,p⟩:=ht;have ht':aX X.mg E D ρ H' _ M:=⟨r,er,p.mono e1⟩;refine⟨ρ,δ,M,d,ev.mono e1,j1,c1,aX.bind ht' λρ2 H2 M2 σ2 δ2 e2 j2 ev2 g2=>⟨ρ2,δ2,M2,ev2,j2,g2.seq (λδ' ρ3 H3 M3 σ3 e3 j3 ev3 g3=>?_) (λδ' ρ3 H3 M3 σ3 e3 j3 ev3 g3=>?_) (λδ' ρ3 H3 M3 σ3 e3 j3 ev3 g3=>?_) (λd' ρ3 H3 M3 v e3 j3 c3 g3=>?_)⟩⟩
 ·exact hN ρ3 δ' M3 σ3 H3 ((e1.trans e2).trans e3) ev3 j3 g3
 ·exact aX.pure (a:=.nx δ') g3 ρ3 H3 σ3 .refl j3 ev3
 ·exact hN ρ3 δ' M3 σ3 H3 ((e1.trans e2).trans e3) ev3 j3 g3
 ·exact aX.pure (a:=.rt d') g3 ρ3 H3 v .refl j3 c3
theorem bO{body:List Stmt}{fi:aa->DM Itn}{fg:D->aa->DM aa}{fb:aa->DM Fl}(N:Nat)(hp:PassesOwn (model X.prog X.w) X.A X.env X.xe)(hc:X.calm=true)(hi:DI X E tg iter fi)(hg:DG X E tg fg)(hb:DSs X E body fb)
  (hs:∀x,foldedSetIterable iter X.env x=pure x:=by intro _;rfl):DS X E (.For tg iter body [] pos) (λδ=>fi δ>>=λit=>GC N fg fb it δ):=⟨PS.mono (ps_for hp hc hi.h hg.h hb.h hs) λD σ H h=>by
 obtain⟨ρ,δ,M,ev,j,g1⟩:=h;refine⟨ρ,δ,M,ev,j,g1.bind λρ1 H1 M1 Jt it e1 j1 iok g2=>?_⟩
 cases it with
 | fix l=>
   refine⟨λi m σ H=>∃ρ' δ' M',Ext ρ1 H1 ρ' H/\Ev X.mg ρ' H σ δ'/\J X.mg ρ' M' H/\m=(l.drop i).length/\aX X.mg E D ρ' H (forL fg fb (l.drop i) δ') M',⟨_,ρ1,δ,M1,.refl,ev.mono e1,j1,rfl,g2⟩,?_⟩
   rintro i m σ2 H2 ⟨ρ2,δ2,M2,e2,ev2,j2,rfl,g3⟩;cases hd:l[i]? with
   |none=>have hl:l.drop i=[]:=List.drop_eq_nil_of_le (Ss.mp hd);rw[hl]at g3;exact .inl ⟨iok.stop i ρ2 H2 M2 e2.kp j2 (congrArg some hd),aX.pure (a:=.nx δ2) g3 ρ2 H2 σ2 .refl j2 ev2⟩
   |some d=>
     obtain⟨hi',hd'⟩:=RK.mp hd;have hl:l.drop i=d::l.drop (i+1):=by rw[<-hd'];exact W9 hi'
     obtain⟨go,yl⟩:=iok.item i ρ2 H2 M2 d e2.kp j2 (congrArg some hd);rw[hl]at g3;refine .inr ⟨go,λσ' H'=>∃ρ' δ' M',Ext ρ1 H1 ρ' H'/\Ev X.mg ρ' H' σ' δ'/\J X.mg ρ' M' H'/\aX X.mg E D ρ' H' (forL fg fb (l.drop (i+1)) δ') M',λσ' H' ⟨ρ',δ',M',a1,a2,a3,a4⟩=>⟨_,by rw[Ve,Ve];lia,ρ',δ',M',a1,a2,a3,rfl,a4⟩,λx H' y=>?_⟩
     obtain⟨x1,x2,x3⟩:=yl x H' y;exact qT ev2 x1 x2 x3 g3 λρ3 δ3 M3 σ3 H3 f1 f2 f3 f4=>⟨ρ3,δ3,M3,e2.trans f1,f2,f3,f4⟩
 | dyn n=>
   refine⟨λi m σ H=>∃ρ' δ' M',Ext ρ1 H1 ρ' H/\Ev X.mg ρ' H σ δ'/\J X.mg ρ' M' H/\aX X.mg E D ρ' H (kI fg fb n m i δ') M',⟨N,ρ1,δ,M1,.refl,ev.mono e1,j1,g2⟩,?_⟩
   rintro i m σ2 H2 ⟨ρ2,δ2,M2,e2,ev2,j2,g3⟩;cases m with
   |zero=>obtain⟨r,e,_⟩:=g3;cases e
   | succ m=>
     obtain⟨o,eo,g4⟩:=aX.rdb g3;cases o with
     |none=>exact .inl ⟨iok.stop i ρ2 H2 M2 e2.kp j2 eo,aX.pure (a:=.nx δ2) g4 ρ2 H2 σ2 .refl j2 ev2⟩
     |some d=>
       obtain⟨go,yl⟩:=iok.item i ρ2 H2 M2 d e2.kp j2 eo;refine .inr ⟨go,λσ' H'=>∃ρ' δ' M',Ext ρ1 H1 ρ' H'/\Ev X.mg ρ' H' σ' δ'/\J X.mg ρ' M' H'/\aX X.mg E D ρ' H' (kI fg fb n m (i+1) δ') M',λσ' H' z=>⟨m,T9 _,z⟩,λx H' y=>?_⟩
       obtain⟨x1,x2,x3⟩:=yl x H' y;exact qT ev2 x1 x2 x3 g4 λρ3 δ3 M3 σ3 H3 f1 f2 f3 f4=>⟨ρ3,δ3,M3,e2.trans f1,f2,f3,f4⟩⟩
def eO(c:aa->DM Bool)(fb:aa->DM Fl):Nat->aa->DM Fl
 |0,_=>stuck
 | k + 1,δ=>c δ >>= λb=>if b then (fb δ >>= λr=>match r with
     |.nx δ2=>eO c fb k δ2
     |.ct δ2=>eO c fb k δ2
     |.bk δ2=>pure (.nx δ2)
     |.rt d=>pure (.rt d)) else pure (.nx δ)
theorem qR(N:Nat)(hp:PassesOwn (model X.prog X.w) X.A X.env X.xe)(hc:DT X E c fc)(hb:DSs X E body fb):DS X E (.While c body [] pos) (eO fc fb N):=⟨PS.mono (L2.ps_while hp hc.h hb.h) λD σ H h=>by
 obtain⟨ρ,δ,M,ev,j,g1⟩:=h;refine⟨λm σ H=>∃ρ' δ' M',Ev X.mg ρ' H σ δ'/\J X.mg ρ' M' H/\aX X.mg E D ρ' H (eO fc fb m δ') M',⟨N,ρ,δ,M,ev,j,g1⟩,?_⟩
 rintro m σ2 H2 ⟨ρ2,δ2,M2,ev2,j2,g3⟩;cases m with
 |zero=>obtain⟨r,e,_⟩:=g3;cases e
 | succ m=>
   refine⟨ρ2,δ2,M2,ev2,j2,aX.bind g3 λρ3 H3 M3 b b' e3 j3 cb g4=>?_⟩
   have cb:b=b':=cb;subst cb;cases b with
   |true=>
     refine iteT ⟨λσ' H'=>∃ρ' δ' M',Ev X.mg ρ' H' σ' δ'/\J X.mg ρ' M' H'/\aX X.mg E D ρ' H' (eO fc fb m δ') M',λσ' H' z=>⟨m,T9 _,z⟩,ρ3,δ2,M3,ev2.mono e3,j3,?_⟩
     refine aX.seq g4 (λδ' ρ4 H4 M4 σ4 e4 j4 ev4 g5=>⟨ρ4,δ',M4,ev4,j4,g5⟩) (λδ' ρ4 H4 M4 σ4 e4 j4 ev4 g5=>?_) (λδ' ρ4 H4 M4 σ4 e4 j4 ev4 g5=>⟨ρ4,δ',M4,ev4,j4,g5⟩) (λd' ρ4 H4 M4 v e4 j4 c4 g5=>?_)
     ·exact aX.pure (a:=.nx δ') g5 ρ4 H4 σ4 .refl j4 ev4
     ·exact aX.pure (a:=.rt d') g5 ρ4 H4 v .refl j4 c4
   |false=>exact iteF (aX.pure (a:=.nx δ2) g4 ρ3 H3 σ2 .refl j3 (ev2.mono e3))⟩
def zW(mg:Str->Option Value)(F:List D->DM D):Sp:=λvs H Q E=>∃ρ M ds,Cvs mg ρ H vs ds/\J mg ρ M H/\Go mg E (Cv mg) Q ρ H (F ds) M
structure DefD(P:Program)(w:World)(K:PySem.W.Frag)(mg:Str->Option Value)(base:Heap)(k:Nat)(x:Str)(ps:List Str)(F:List D->DM D):Prop where
 h:DefC P w K mg base k x ps (zW mg F)
def bx(n:Nat)(ds:List D):aa:=ds.map some++List.replicate (n-ds.length) none
def aG(p n:Nat)(fb:aa->DM Fl)(ds:List D):DM D:=if ds.length=p then fb (bx n ds)>>=λr=>match r with
 |.nx _=>pure .non
 |.rt d=>pure d
 |_=>stuck else stuck
theorem mR(c:Cvs mg ρ H vs ds):Ev mg ρ H (L2.start N vs) (bx N.length ds):=by
 unfold L2.start bx;refine⟨by simp[c.len],λi d q=>?_⟩
 by_cases hi:i<ds.length
 ·rw[RZ (by rw[RT];exact hi),R0]at q
  obtain⟨d',h1,h2⟩:=RL.mp q;cases h2;obtain⟨v,hv,cv⟩:=c.get h1;exact⟨v,by rw[RZ (by rw[RT,c.len];exact hi),R0,hv];rfl,cv⟩
 ·rw[Sh (by rw[RT];lia),Vb]at q
  split at q<;>cases q
section
variable{P:Program}{w:World}{K:PySem.W.Frag}{mg:Str->Option Value}{base:Heap}{k:Nat}{x:Str}{N ps:List Str}{st:Stmt}
set_option tactic.hygienic true in
theorem aX.aG(g:Go mg E (Cv mg) Q ρ H (L3.aG p n fb ds) M):ds.length=p/\aX mg E { nx:=λz H'=>Q .non H',rt:=Q } ρ H (fb (bx n ds)) M:=by
 obtain⟨r,e,p⟩:=g;unfold L3.aG at e;split at e;rotate_left
 ·cases e
 rename_i hl;refine⟨hl,?_⟩;have e:DM.bind _ _ M=some r:=e;unfold DM.bind at e;split at e
 ·cases e
 ·rename_i c M' em;cases e;exact⟨_,em,p⟩
 ·rename_i a M' em;refine⟨_,em,?_⟩;cases a with
  |nx δ'=>cases e;exact λρ1 H1 b x j c=>p ρ1 H1 .non x j .non
  |rt d=>cases e;exact λρ1 H1 b x j c=>p ρ1 H1 b x j c
  |bk δ'=>cases e
  |ct δ'=>cases e
theorem DefAt.okD(D:DefAt K mg x st)(S:FnScope N ps (defScope st))(hb:∀ (kV doc pm:Value) (an:Option Addr) (cdv ct:Value) (us:List Value),us.length=ps.length->bindArgs (PySem.W.fnOf x x (defArgs st) (defBody st) (defScope st) .none kV doc pm an cdv ct) ⟨us,[]⟩=pure (ps.zip us))
  (hbody:∀(f:Addr) (cdv:Value) (A:Around) (outer:List Env) (s:Shared) (H:Hp) (E:XK),Room k (A.deeper (envOfC x (defScope st) s.heap.objs.size f cdv))->
    DSs (iV P w K mg base N x (defScope st) f cdv A outer s H E) E (defBody st) fb):DefD P w K mg base (k+1) x ps (aG ps.length N.length fb):=⟨by
 refine D.okE S hb (λvs H Q E h=>?_) λf cdv A outer s H vs Q E hr h=>?_
 ·obtain⟨ρ,M,ds,c,j,g⟩:=h;rw[c.len];exact (aX.aG g).1
 obtain⟨ρ,M,ds,c,j,g⟩:=h;exact⟨_,(hbody f cdv A outer s H E hr).h,ρ,_,M,mR c,j,(aX.aG g).2⟩⟩
theorem DefAt.okN{F:List D->DM D}{fb:Nat->aa->DM Fl}(D:DefAt K mg x st)(S:FnScope N ps (defScope st))(hb:∀ (kV doc pm:Value) (an:Option Addr) (cdv ct:Value) (us:List Value),us.length=ps.length->bindArgs (PySem.W.fnOf x x (defArgs st) (defBody st) (defScope st) .none kV doc pm an cdv ct) ⟨us,[]⟩=pure (ps.zip us))
  (hf:∀ds M r,F ds M=some r->∃n,aG ps.length N.length (fb n) ds M=some r)
  (hbody:∀(n:Nat) (f:Addr) (cdv:Value) (A:Around) (outer:List Env) (s:Shared) (H:Hp) (E:XK),Room k (A.deeper (envOfC x (defScope st) s.heap.objs.size f cdv))->
    DSs (iV P w K mg base N x (defScope st) f cdv A outer s H E) E (defBody st) (fb n)):DefD P w K mg base (k+1) x ps F:=⟨by
 refine D.okE S hb (λvs H Q E h=>?_) λf cdv A outer s H vs Q E hr h=>?_
 ·obtain⟨ρ,M,ds,c,j,r,e,p⟩:=h;obtain⟨n,e2⟩:=hf ds M r e;rw[c.len];exact (aX.aG ⟨r,e2,p⟩).1
 obtain⟨ρ,M,ds,c,j,r,e,p⟩:=h;obtain⟨n,e2⟩:=hf ds M r e;exact⟨_,(hbody n f cdv A outer s H E hr).h,ρ,_,M,mR c,j,(aX.aG ⟨r,e2,p⟩).2⟩⟩
end
mutual
inductive Fz(M:Mo)(k:Nat):D->D->Prop
 |non:Fz M k .non .non
 |bl (b:Bool):Fz M k (.bl b) (.bl b)
 |int (i:Int):Fz M k (.int i) (.int i)
 |str (x:Str):Fz M k (.str x) (.str x)
 |tup {l l':List D}:Fzs M k l l'->Fz M k (.tup l) (.tup l')
 |lst {l l':List D}:Fzs M k l l'->Fz M k (.lst l) (.lst l')
 |dic {ks:List Key}{l l':List D}:Fzs M k l l'->Fz M k (.dic ks l) (.dic ks l')
 |obj {c:Str}{ns:List Str}{l l':List D}:Fzs M k l l'->Fz M k (.obj c ns l) (.obj c ns l')
 |scr (ns:List Int):Fz M k (.scr ns) (.scr ns)
 |old {n:Nat}:n<k->Fz M k (.ref n) (.ref n)
 |new {n:Nat}{l l':List D}:k<=n->M[n]?=some (.lst l)->Fzs M k l l'->Fz M k (.ref n) (.lst l')
 |cls (c:Str):Fz M k (.cls c) (.cls c)
 |ty (c:String):Fz M k (.ty c) (.ty c)
 |exn (a:Addr):Fz M k (.exn a) (.exn a)
inductive Fzs(M:Mo)(k:Nat):List D->List D->Prop
 |nil:Fzs M k [] []
 |cons {d d':D}{l l':List D}:Fz M k d d'->Fzs M k l l'->Fzs M k (d::l) (d'::l')
end
def QT(M:Mo)(k:Nat):DO->DO->Prop
 |.lst l,.lst l'=>Fzs M k l l'
 |.dic ks l,.dic ks' l'=>ks=ks'/\Fzs M k l l'
 |.ins c ns l,.ins c' ns' l'=>c=c'/\ns=ns'/\Fzs M k l l'
 |_,_=>False
def vO(M':Mo)(k:Nat)(M1:Mo):Prop:=M1.length=k/\∀(n:Nat) o,M1[n]?=some o->∃o',M'[n]?=some o'/\QT M' k o' o
def Px(k:Nat):R D×Mo->R D×Mo->Prop
 |(.ok d,M'),(.ok d',M1)=>Fz M' k d d'/\vO M' k M1
 |(.exc c,M'),(.exc c',M1)=>c=c'/\vO M' k M1
 |_,_=>False
section
variable{mg:Str->Option Value}{ρ ρ':Rh}{H:Hp}{M:Mo}{k:Nat}
structure Sub(ρ ρ':Rh)(k:Nat):Prop where
 st:∃τ,ρ'.st=ρ.st++τ
 vo:ρ'.vo=ρ.vo
 len:ρ.st.length=k
theorem Sub.out(s:Sub ρ ρ' k)(h:a∉ρ'):a∉ρ:=λz=>by
 obtain⟨τ,e⟩:=s.st;rcases z with z | z
 ·exact h (.inl (by rw[e];exact Vm _ z))
 ·exact h (.inr (by rw[s.vo];exact z))
def QR(mg:Str->Option Value)(ρ:Rh)(H:Hp)(v:V)(d:D):Prop:=D.casesOn (motive_1:=λz=>Prop) d (v=.non) (λb=>v=.bl b) (λi=>v=.int i) (λx=>v=.str x) (λds=>∃a xs,v=.ref a/\a∉ρ/\H a=some (.tup xs)/\Cvs mg ρ H xs ds) (λds=>∃a xs,v=.ref a/\a∉ρ/\H a=some (.lst xs)/\Cvs mg ρ H xs ds)
 (λks ds=>∃a xs,v=.ref a/\a∉ρ/\H a=some (.dK (ks.zip xs))/\ks.length=xs.length/\Cvs mg ρ H xs ds) (λc ns ds=>∃a C dx xs,v=.ref a/\a∉ρ/\mg c=some (.ref C)/\H a=some (.ins C dx (ns.zip xs))/\ns.length=xs.length/\Cvs mg ρ H xs ds)
 (λns=>∃a,v=.ref a/\a∉ρ/\Rd H a (.lst (ns.map V.int))) (λn=>∃a,v=.ref a/\ρ.st[n]?=some a) (λc=>∃C,v=.ref C/\mg c=some (.ref C)) (λt=>v=.ty t) (λa=>v=.ref a)
set_option tactic.hygienic true in
theorem Cv.inv{v:V}{d:D}(h:Cv mg ρ H v d):QR mg ρ H v d:=by
 cases h
 case non=>exact rfl
 case bl=>exact rfl
 case int=>exact rfl
 case str=>exact rfl
 case tup n h c=>exact⟨_,_,rfl,n,h,c⟩
 case lst n h c=>exact⟨_,_,rfl,n,h,c⟩
 case dic n h l c=>exact⟨_,_,rfl,n,h,l,c⟩
 case obj n m h l c=>exact⟨_,_,_,_,rfl,n,m,h,l,c⟩
 case scr n h=>exact⟨_,rfl,n,h⟩
 case ref h=>exact⟨_,rfl,h⟩
 case cls h=>exact⟨_,rfl,h⟩
 case ty=>exact rfl
 case exn=>exact rfl
theorem Cvs.inv{v:V}{d:D}{vs:List V}{l:List D}(h:Cvs mg ρ H vs (d::l)):∃v vs',vs=v::vs'/\Cv mg ρ H v d/\Cvs mg ρ H vs' l:=by cases h with | cons a b=>exact⟨_,_,rfl,a,b⟩
theorem Cvs.inv0{vs:List V}(h:Cvs mg ρ H vs []):vs=[]:=by cases h;rfl
theorem Cvs.freeze(s:Sub ρ ρ' k)(j:J mg ρ' M H){d d':List D}{v:List V}(f:Fzs M k d d'):Cvs mg ρ' H v d->Cvs mg ρ H v d':=
 Fzs.rec (motive_1:=λd d' y=>∀ v,Cv mg ρ' H v d->Cv mg ρ H v d') (motive_2:=λd d' y=>∀ v,Cvs mg ρ' H v d->Cvs mg ρ H v d')
  (λy c=>Eq.symm (a:=_) (Cv.inv c) ▸ .non) (λb y c=>Eq.symm (a:=_) (Cv.inv c) ▸ .bl b) (λb y c=>Eq.symm (a:=_) (Cv.inv c) ▸ .int b) (λb y c=>Eq.symm (a:=_) (Cv.inv c) ▸ .str b)
  (λy f v c=>let ⟨_,_,e,n,h,c⟩:=Cv.inv c;e ▸ .tup (s.out n) h (f _ c))
  (λy f v c=>let ⟨_,_,e,n,h,c⟩:=Cv.inv c;e ▸ .lst (s.out n) h (f _ c))
  (λy f v c=>let ⟨_,_,e,n,h,l,c⟩:=Cv.inv c;e ▸ .dic (s.out n) h l (f _ c))
  (λy f v c=>let ⟨_,_,_,_,e,n,m,h,l,c⟩:=Cv.inv c;e ▸ .obj (s.out n) m h l (f _ c))
  (λy v c=>let ⟨_,e,n,h⟩:=Cv.inv c;e ▸ .scr (s.out n) h)
  (λhn v c=>by
    obtain⟨a,rfl,h⟩:=Cv.inv c;obtain⟨τ,e⟩:=s.st;rw[e,RZ (by rw[s.len];exact hn)]at h
    exact .ref h)
  (λhn hm y f v c=>by
    obtain⟨a,rfl,h⟩:=Cv.inv c;obtain⟨xs,hx,c⟩:=j.obj _ _ _ h hm;refine .lst (λz=>?_) hx (f _ c)
    rcases z with z | z
    ·obtain⟨m,hm'⟩:=VG.mp z;obtain⟨τ,e⟩:=s.st;have hl:=(RK.mp hm').1;have h2:ρ'.st[m]?=some a:=by rw[e,RZ hl];exact hm'
     exact Up.mpr hn (j.inj h h2 ▸ s.len ▸ hl)
    ·exact (j.vol a (by rw[s.vo];exact z)).1 (S7 h))
  (λy v c=>let ⟨_,e,h⟩:=Cv.inv c;e ▸ .cls h) (λb y c=>Eq.symm (a:=_) (Cv.inv c) ▸ .ty b) (λb y c=>Eq.symm (a:=_) (Cv.inv c) ▸ .exn b)
  (λv c=>Cvs.inv0 c ▸ .nil) (λy y f g v c=>let ⟨_,_,e,a,b⟩:=Cvs.inv (v:=.non) c;e ▸ .cons (f _ a) (g _ b)) f v
theorem Cv.freeze(s:Sub ρ ρ' k)(j:J mg ρ' M H){d d':D}{v:V}(f:Fz M k d d')(c:Cv mg ρ' H v d):Cv mg ρ H v d':=(Cvs.freeze s j (.cons f .nil) (.cons c .nil)).hd
theorem J.freeze{M1:Mo}(s:Sub ρ ρ' k)(j:J mg ρ' M H)(hk:ρ.st.length=M1.length)(f:vO M k M1):J mg ρ M1 H:=by
 obtain⟨τ,e⟩:=s.st;refine⟨hk,?_,λn a o h1 h2=>?_,λa ha=>?_⟩
 ·have:=j.nd;rw[e]at this;exact (Wo.mp this).1
 ·obtain ⟨o',h3,fo⟩:=f.2 n o h2;have hl:=(RK.mp h1).1;have c:=j.obj n a o' (by rw[e,RZ hl];exact h1) h3
  cases o' with
  |lst l=>cases o with
    |lst l'=>obtain⟨xs,hx,c⟩:=c;exact⟨xs,hx,Cvs.freeze s j fo c⟩
    |dic _ _=>exact (show False from fo).elim
    |ins _ _ _=>exact (show False from fo).elim
  |dic ks l=>cases o with
    |lst l'=>exact (show False from fo).elim
    |dic ks' l'=>obtain⟨xs,hx,q,c⟩:=c;obtain⟨rfl,fo⟩:=fo;exact⟨xs,hx,q,Cvs.freeze s j fo c⟩
    |ins _ _ _=>exact (show False from fo).elim
  |ins c' ns l=>cases o with
    |lst l'=>exact (show False from fo).elim
    |dic _ _=>exact (show False from fo).elim
    |ins c'' ns' l'=>obtain⟨C,dx,xs,m,hx,q,c⟩:=c;obtain⟨rfl,rfl,fo⟩:=fo;exact⟨C,dx,xs,m,hx,q,Cvs.freeze s j fo c⟩
 ·obtain⟨x,xs,h⟩:=j.vol a (by rw[s.vo];exact ha)
  exact⟨λz=>x (by rw[e];exact Vm _ z),xs,h⟩
end
section
variable{X:Cx}{E:XK}{j k:Nat}{ps:List Str}{F:List D->DM D}{x:Str}{p pos:Pos}{e:Expr}{es:List Expr}{fs:aa->DM (List D)}
theorem aJ(D:DefD X.prog X.w X.K X.mg X.base j x ps F)(hr:Room k X.A)(hx:Passes (fu X.prog X.w) X E)(ha:DA X E (e::es) fs)(hjk:j<=k:=by decide)(hg:Gl X x:=by rfl)(hdb:(x==("__debug__":Str))=false:=by decide)
  (he:notStar e=true:=by rfl) (hpl:(backTo pos (starEach es X.env)).any (·.1)=false:=by rfl) :
  DE X E (.Call (.Name x p) (e::es) [] pos) (λδ=>fs δ>>=F):=⟨PE.mono (Ec D.h hr hx ha.h hjk hg hdb he hpl) λσ H Q h=>by
 obtain⟨ρ,δ,M,ev,j,g1⟩:=h;refine⟨ρ,δ,M,ev,j,g1.bind λρ1 H1 M1 xs dxs e1 j1 c1 g2=>?_⟩
 rw[Vi];exact⟨ρ1,M1,dxs,c1,j1,g2⟩⟩
def rC(mg:Str->Option Value)(E:XK)(g:List D->DM D):List V->Hp->VK->Prop:=λvs H Q=>∃ρ M ds,J mg ρ M H/\Cvs mg ρ H vs ds/\Go mg E (Cv mg) Q ρ H (g ds) M
def CallD(X:Cx)(E:XK)(f:Value)(g:List D->DM D):Prop:=CallR X f (rC X.mg E g)
theorem bh{id:String}{g:List D->DM D}(hc:CallD X E (.builtin id) g)(hm:X.mg x=none)(ha:DA X E (e::es) fs)(hg:Gl X x:=by rfl)(hv:bootBuiltins x=some (.builtin id):=by decide +kernel)(hn:x≠"__name__":=by decide)(hdb:(x==("__debug__":Str))=false:=by decide)
  (he:notStar e=true:=by rfl) (hpl:(backTo pos (starEach es X.env)).any (·.1)=false:=by rfl) :
  DE X E (.Call (.Name x p) (e::es) [] pos) (λδ=>fs δ>>=g):=⟨PE.mono (HB hc hm ha.h hg hv hn hdb he hpl) λσ H Q h=>by
 obtain⟨ρ,δ,M,ev,j,g1⟩:=h;exact⟨ρ,δ,M,ev,j,g1.bind λρ1 H1 M1 xs dxs e1 j1 c1 g2=>⟨ρ1,M1,dxs,j1,c1,g2⟩⟩⟩
theorem cZ{T:String}{g:List D->DM D}(hc:CallD X E (.type T) g)(hm:X.mg x=none)(ha:DA X E (e::es) fs)(hg:Gl X x:=by rfl)(hv:bootBuiltins x=some (.type T):=by decide +kernel)(hn:x≠"__name__":=by decide)(hdb:(x==("__debug__":Str))=false:=by decide)
  (he:notStar e=true:=by rfl) (hpl:(backTo pos (starEach es X.env)).any (·.1)=false:=by rfl) :
  DE X E (.Call (.Name x p) (e::es) [] pos) (λδ=>fs δ>>=g):=⟨PE.mono (Oc hc hm ha.h hg hv hn hdb he hpl) λσ H Q h=>by
 obtain⟨ρ,δ,M,ev,j,g1⟩:=h;exact⟨ρ,δ,M,ev,j,g1.bind λρ1 H1 M1 xs dxs e1 j1 c1 g2=>⟨ρ1,M1,dxs,j1,c1,g2⟩⟩⟩
theorem CallD.of{f:Value}{r:List V->Hp->VK->Prop}{g:List D->Mo->Option D}(hr:CallR X f r)
  (h:∀vs H Q ρ M ds d,J X.mg ρ M H->Cvs X.mg ρ H vs ds->g ds M=some d->(∀ρ' H' v,Ext ρ H ρ' H'->J X.mg ρ' M H'->Cv X.mg ρ' H' v d->Q v H')->r vs H Q):CallD X E f (λl=>rd (g l)):=by
 intro Xp s σ H vs us Q I rs q;obtain⟨ρ,M,ds,j,c,go⟩:=q;obtain⟨d,e,p⟩:=go.rd;exact hr Xp s σ H vs us Q I rs (h vs H Q ρ M ds d j c e p)
end
section
variable{X:Cx}{E:XK}{mg:Str->Option Value}{ρ:Rh}{H:Hp}{M:Mo}
theorem Cvs.one(c:Cvs mg ρ H vs [d]):∃v,vs=[v]/\Cv mg ρ H v d:=by
 cases c with
 |cons c c2=>cases c2;exact⟨_,rfl,c⟩
theorem Cvs.two(c:Cvs mg ρ H vs [d,e]):∃ v w,vs=[v,w]/\Cv mg ρ H v d/\Cv mg ρ H w e:=by
 cases c with
 |cons c c2=>obtain⟨w,rfl,k⟩:=c2.one;exact⟨_,_,rfl,c,k⟩
def jC:List D->Mo->Option D
 |[.tup l],_=>some (.int l.length)
 |[.scr l],_=>some (.int l.length)
 |[.str x],_=>if x.length<=sizeLine then some (.int x.length) else none
 |[d],M=>(aM d M).map λl=>.int l.length
 |_,_=>none
set_option tactic.hygienic true in
theorem call_lenD:CallD X E (.builtin "len") (λl=>rd (jC l)):=CallD.of (call_len_seq.or call_len_str) λvs H Q ρ M ds d j c e q=>by
 unfold jC at e;split at e
 ·cases e;obtain⟨v,rfl,k⟩:=c.one;replace c:=k;cases c with | tup n a c=>
  exact .inl ⟨_,_,rfl,.inr (SqT.of a),by rw[c.len];exact q ρ H _ .refl j (.int _)⟩
 ·cases e;obtain⟨v,rfl,k⟩:=c.one;replace c:=k;cases c with | scr n a=>
  exact .inl ⟨_,_,rfl,.inl (.inl a),by rw[RT];exact q ρ H _ .refl j (.int _)⟩
 ·split at e
  ·cases e;obtain⟨v,rfl,k⟩:=c.one;replace c:=k;cases c;exact .inr ⟨_,rfl,‹_›,q ρ H _ .refl j (.int _)⟩
  ·cases e
 ·obtain⟨l,h1,rfl⟩:=RL.mp e;obtain⟨v,rfl,k⟩:=c.one;replace c:=k;obtain⟨a,xs,rfl,ha,c⟩:=cW j c h1;exact .inl ⟨_,_,rfl,.inl (SqL.of ha),by rw[c.len];exact q ρ H _ .refl j (.int _)⟩
 ·cases e
def Qf:List D->Mo->Option D
 |[.int i],_=>some (.int (if i<0 then -i else i))
 |_,_=>none
def Bc:List D->Mo->Option D
 |[.int i,.int j],_=>some (.int (if j > i then j else i))
 |_,_=>none
def Oa:List D->Mo->Option D
 |[.int i,.int j],_=>some (.int (if j<i then j else i))
 |_,_=>none
theorem Ai(hc:X.calm=true):CallD X E (.builtin "max") (λl=>rd (Bc l)):=CallD.of (call_max2 hc) λvs H Q ρ M ds d j c e q=>by
 unfold Bc at e;split at e
 ·cases e;obtain⟨v,w,rfl,k,c2⟩:=c.two;replace c:=k;cases c;cases c2;exact⟨_,_,rfl,q ρ H _ .refl j (.int _)⟩
 ·cases e
def nP:D->Mo->Option (List D)
 |.tup l,_=>some l
 |d,M=>aM d M
theorem Ft(j:J mg ρ M H)(c:Cv mg ρ H x d)(e:nP d M=some l):∃a xs,x=.ref a/\(H a=some (.lst xs)\/H a=some (.tup xs))/\Cvs mg ρ H xs l:=by
 unfold nP at e;split at e
 ·cases e;cases c with | tup n a c=>exact⟨_,_,rfl,.inr a,c⟩
 ·obtain⟨a,xs,rfl,ha,c⟩:=cW j c e;exact⟨a,xs,rfl,.inl ha,c⟩
def intsOf:List D->Option (List Int)
 |[]=>some []
 |.int i::l=>(intsOf l).map (i::·)
 |_=>none
theorem ints_of:∀ {xs:List V}{l:List D}{ns:List Int},Cvs mg ρ H xs l->intsOf l=some ns->xs=ns.map V.int
 |_,_,_,.nil,e=>by cases e;rfl
 | _,_,_,.cons (d:=d) c cs,e=>by
   cases d with
   |int i=>obtain⟨ms,h1,rfl⟩:=RL.mp e;cases c;rw[ints_of cs h1];rfl
   |_=>cases e
theorem CK(hh:X.A.handled=none):CallR X (.builtin "sum") (λvs H Q=>∃ (l:Addr) (ns:List Int),vs=[.ref l]/\(H l=some (.lst (ns.map V.int))\/H l=some (.tup (ns.map V.int)))/\Q (.int ns.sum) H):=by
 intro Xp s σ H vs us Q I r h;obtain⟨l,ns,rfl,hH,q⟩:=h;obtain⟨u,rfl,ru⟩:=vals1 r;cases ru;have fin:∀(its:List Value),IntsAre its ns->∃xs,its.toArray=intItems xs/\preSum (numAt xs) xs.size=ns.sum:=λits hi=>by
  obtain⟨xs,hx⟩:=hi.allInts.items;have hn:numsOf its.toArray.toList=ns:=by rw[show its.toArray.toList=its from rfl,hi.numsOf]
  rw[hx]at hn;rw[PySem.nums_intItems]at hn;exact⟨xs,hx,by rw[PySem.preSum_eq,Uz (by simp),hn]⟩
 rcases hH with hH | hH
 ·obtain ⟨its,rv,p,hz⟩:=I.list (SqL.of (K:=X.K) hH);obtain⟨xs,hx,hs⟩:=fin its (intsAre_of rv);have hl:=p.isList;rw[hx]at hl;obtain⟨o,ho,hc,n,hd⟩:=id hl;have hne:l≠s.heap.objs.size:=R5 (RN ho);have hsz:(intItems xs).size=xs.size:=by simp[intItems]
  have W:=(Walks.list (prog:=X.prog) (w:=X.w) (A:=X.A.in1) hh s.heap.objs.size l hne (intItems xs)).toS;rw[hsz]at W;refine call_sum_walkAnyS (U8 hl ?_);refine⟨s.heap.objs.size,_,_,_,_,_,_,numAt xs,rfl,W,⟨⟨_,RM _ rfl,rfl,rfl⟩,hl.at λo e=>RG _ e⟩,λb hb=>?_,λi v hP=>intItems_at hP,λs' t' hm=>?_⟩
  ·rcases R8.mp hb with rfl | hb
   ·exact RN (RM _ rfl)
   ·obtain rfl:=SJ.mp hb;exact RN (RG _ ho)
  ·obtain⟨h',g',d',tk',os'⟩:=s';have e1:g'=s.gens:=hm.gens;have e2:d'=s.drawn:=hm.drawn;have e3:os'=s.os:=hm.os;subst e1 e2 e3;refine⟨.int ns.sum,H,I.kept (h':=h') (t':=tk') λb o e=>hm.heap b o (λhb=>absurd (RN e) ((SJ.mp hb) ▸ UJ _)) (RG _ e),⟨t',?_⟩,q⟩
   rw[<-hs]
 ·obtain⟨its,rv,p,hz⟩:=I.tuple (SqT.of (K:=X.K) hH);obtain⟨xs,hx,hs⟩:=fin its (intsAre_of rv);rw[hx]at p;exact PySem.W.ktm_sumG hh (show s.heap.IsTuple l _ from p) λh' tk t' hk=>⟨.int ns.sum,H,I.kept hk,⟨t',by rw[<-hs]⟩,q⟩
def yq:List D->Mo->Option D
 |[d],M=>(nP d M).bind λl=>(intsOf l).map λns=>.int ns.sum
 |_,_=>none
theorem jR(hh:X.A.handled=none):CallD X E (.builtin "sum") (λl=>rd (yq l)):=CallD.of (CK hh) λvs H Q ρ M ds d j c e q=>by
 unfold yq at e;split at e
 ·obtain⟨l,h1,e1⟩:=Sw.mp e;obtain⟨ns,h2,rfl⟩:=RL.mp e1;obtain⟨v,rfl,k⟩:=c.one;replace c:=k;obtain⟨a,xs,rfl,ha,c⟩:=Ft j c h1;have:=ints_of c h2;subst this;exact⟨_,ns,rfl,ha,q ρ H _ .refl j (.int _)⟩
 ·cases e
def Hr:D->Option Bool
 |.bl b=>some b
 |.int i=>some (i != 0)
 |_=>none
def f9:List D->Option (List Bool)
 |[]=>some []
 |d::l=>match Hr d,f9 l with
   |some b,some bs=>some (b::bs)
   |_,_=>none
set_option tactic.hygienic true in
theorem Aa:∀ {xs:List V}{l:List D}{bs:List Bool},Cvs mg ρ H xs l->f9 l=some bs->(∀ x∈xs,scS x=true)/\xs.map nQ=bs
 |_,_,_,.nil,e=>by cases e;exact⟨(λx hx=>nomatch hx),rfl⟩
 | _,_,_,.cons (d:=d) (ds:=ds) (vs:=vs) c cs,e=>by
   unfold f9 at e;split at e
   ·rename_i b bs h1 h2;cases e;obtain⟨a1,a2⟩:=Aa cs h2;cases c with
    |bl b'=>cases h1;exact⟨λx hx=>by rcases R8.mp hx with rfl | hx;rfl;exact a1 x hx,by rw[SX,a2];rfl⟩
    |int b'=>cases h1;exact⟨λx hx=>by rcases R8.mp hx with rfl | hx;rfl;exact a1 x hx,by rw[SX,a2];rfl⟩
    |_=>cases h1
   ·cases e
def qK:List D->Mo->Option D
 |[d],M=>(aM d M).bind λl=>(f9 l).map λbs=>.bl (bs.all id)
 |_,_=>none
def J1:List D->Mo->Option D
 |[.tup l],_=>(f9 l).map λbs=>.bl (bs.any id)
 |_,_=>none
theorem fB(hh:X.A.handled=none):CallD X E (.builtin "all") (λl=>rd (qK l)):=CallD.of (Gj hh) λvs H Q ρ M ds d j c e q=>by
 unfold qK at e;split at e
 ·obtain⟨l,h1,e1⟩:=Sw.mp e;obtain⟨ns,h2,rfl⟩:=RL.mp e1;obtain⟨v,rfl,k⟩:=c.one;replace c:=k;obtain⟨a,xs,rfl,ha,c⟩:=cW j c h1;obtain⟨t1,t2⟩:=Aa c h2;subst t2;exact⟨_,xs,rfl,ha,t1,by have z:=q ρ H _ .refl j (.bl _);rw[List.all_map]at z;exact z⟩
 ·cases e
def pH:List D->Mo->Option D
 |[d],M=>(nP d M).map .tup
 |_,_=>none
theorem bc:CallD X E (.type "tuple") (λl=>rd (pH l)):=CallD.of call_tuple_of λvs H Q ρ M ds d j c e q=>by
 unfold pH at e;split at e
 ·obtain⟨l,h1,rfl⟩:=RL.mp e;obtain⟨v,rfl,k⟩:=c.one;replace c:=k;unfold nP at h1;split at h1
  ·cases h1;cases c with | tup n a c=>
   exact⟨_,_,rfl,.inr ⟨SqT.of a,q ρ H _ .refl j (.tup n a c)⟩⟩
  ·obtain⟨a,xs,rfl,ha,c⟩:=cW j c h1;exact⟨_,_,rfl,.inl ⟨SqL.of ha,λp hp=>q ρ _ _ (.lay hp) (j.lay _ hp) (.tup (j.fresh hp) upd_same (c.mono (.lay hp)))⟩⟩
 ·cases e
def Hj(d:D):Option PyData:=match toPy d with
 |some p=>some p
 |none=>km d
def tM:List D->Mo->Option D
 |[d],_=>(Hj d).bind λp=>if p.showable&&decide (p.depth<=60)&&decide (dF p<=sizeLine) then some (.str p.shown) else none
 |_,_=>none
set_option tactic.hygienic true in
theorem rZ(hg:X.A.guards=some [])(hu:X.A.units + 64<cLine):CallD X E (.builtin "repr") (λl=>rd (tM l)):=CallD.of (Aj hg hu) λvs H Q ρ M ds d j c e q=>by
 unfold tM at e;split at e
 ·obtain ⟨p,h1,e1⟩:=Sw.mp e;split at e1
  ·rename_i hk;cases e1;simp only[Bool.and_eq_true,decide_eq_true_eq]at hk;obtain⟨v,rfl,k⟩:=c.one;replace c:=k;have key:∃f,RepF H f v p:=by
    unfold Hj at h1;split at h1
    ·rename_i h2;cases h1;exact⟨true,c.repF h2⟩
    ·exact⟨false,c.repD h1⟩
   obtain⟨f,rp⟩:=key;exact⟨f,_,p,rfl,rp,hk.1.1,hk.1.2,hk.2,q ρ H _ .refl j (.str _)⟩
  ·cases e1
 ·cases e
def tyOf:D->Mo->Option String
 |.non,_=>some "NoneType"
 |.bl _,_=>some "bool"
 |.int _,_=>some "int"
 |.str _,_=>some "str"
 |.tup _,_=>some "tuple"
 |.lst _,_=>some "list"
 |.scr _,_=>some "list"
 |.dic _ _,_=>some "dict"
 |.ref n,M=>match M[n]? with
   |some (.lst _)=>some "list"
   |some (.dic _ _)=>some "dict"
   |_=>none
 |_,_=>none
set_option tactic.hygienic true in
theorem HX{K:PySem.W.Frag}(j:J mg ρ M H){x:V}{d:D}{t:String}(c:Cv mg ρ H x d)(e:tyOf d M=some t):TyOf K H x (.type t):=by
 cases c with
 |non=>cases e;exact .non
 |bl b=>cases e;exact .bl b
 |int b=>cases e;exact .int b
 |str b=>cases e;exact .str b
 |tup n h c=>cases e;exact .tup h
 |lst n h c=>cases e;exact .lst h
 |dic n h l c=>cases e;exact .dK h
 |scr n h=>
   cases e;rcases h with h | ⟨o,h⟩
   ·exact .lst h
   ·exact .frz h
 | ref q=>
   unfold tyOf at e;dsimp only at e;split at e
   ·rename_i l hl;cases e;obtain⟨xs,h,_⟩:=j.obj _ _ _ q hl;exact .lst h
   ·rename_i ks l hl;cases e;obtain⟨xs,h,_⟩:=j.obj _ _ _ q hl;exact .dK h
   ·cases e
 |_=>cases e
def By(t c:String):Bool:=t==c || (t=="bool"&&c=="int")
def tys:List String:=["NoneType", "bool", "int", "str", "tuple", "list", "dict"]
def iB:List D->Mo->Option D
 |[d,.ty c],M=>(tyOf d M).bind λt=>if tys.contains c then some (.bl (By t c)) else none
 |_,_=>none
theorem yw(e:tyOf d M=some t):t∈tys:=by unfold tyOf at e;split at e<;>first | (cases e;decide) | (split at e<;>first | (cases e;decide) | cases e) | cases e
theorem K8{K:PySem.W.Frag}:∀t∈tys,∀c∈tys,PySem.W.kitOne K (.type t) (.type c)=some (By t c):=by intro t ht c hc;simp only[tys,List.mem_cons,List.mem_nil_iff,or_false]at ht hc;rcases ht with rfl | rfl | rfl | rfl | rfl | rfl | rfl<;>rcases hc with rfl | rfl | rfl | rfl | rfl | rfl | rfl<;>rfl
set_option tactic.hygienic true in
theorem dG:CallD X E (.builtin "isinstance") (λl=>rd (iB l)):=CallD.of Gk λvs H Q ρ M ds d j c e q=>by
 unfold iB at e;split at e
 ·obtain⟨t,h1,e1⟩:=Sw.mp e;split at e1
  ·rename_i hk;cases e1;obtain⟨v,w,rfl,k,c2⟩:=c.two;replace c:=k;cases c2;exact⟨_,_,_,_,rfl,HX j c h1,K8 _ (yw h1) _ (List.contains_iff_mem.mp hk),q ρ H _ .refl j (.bl _)⟩
  ·cases e1
 ·cases e
def JV(X:Cx)(E:XK)(id:String)(g:D->List D->DM D):Prop:=MtR X id (λx vs H Q=>∃ρ M d ds,J X.mg ρ M H/\Cv X.mg ρ H x d/\Cvs X.mg ρ H vs ds/\Go X.mg E (Cv X.mg) Q ρ H (g d ds) M)
def Ad:D->List D->DM D
 |.ref n,[v]=>λM=>match M[n]? with
   |some (.lst l)=>if l.length<sizeLine then some (.ok .non,M.set n (.lst (l++[v]))) else none
   |_=>none
 |_,_=>stuck
set_option tactic.hygienic true in
theorem jm:JV X E "list.append" Ad:=by
 intro Xp s σ H x xs v us Q I rx rs q;obtain⟨ρ,M,d,ds,j,cx,cs,r,e,p⟩:=q;cases cx with
 | ref hn=>
   cases cs with
   |nil=>cases e
   | cons c cs=>cases cs with
     |cons _ _=>cases e
     | nil=>
       rename_i n a w dw;have e:(match M[n]? with
        |some (.lst l)=>if l.length<sizeLine then some (R.ok .non,M.set n (.lst (l++[dw]))) else none
        |_=>none)=some r:=e
       split at e
       ·rename_i l hl;split at e
        ·cases e;obtain⟨xs,hx,cl⟩:=j.obj _ _ _ hn hl;have x:Ext ρ H ρ (upd H a (.lst (xs++[w]))):=.upd (S7 hn);exact mt_append (X:=X) Xp s σ H _ _ v us Q I rx rs ⟨_,_,_,rfl,rfl,hx,by rw[cl.len];assumption,p ρ _ .non x (j.upd hn ⟨_,upd_same,(cl.append (.cons c .nil)).mono x⟩) .non⟩
        ·cases e
       ·cases e
 |_=>cases e
def Hf:D->List D->DM D
 | .ref n,[.int i]=>λM=>match M[n]? with
   | some (.lst l)=>match ixN l.length i with
     |some k=>match l[k]? with
       |some d=>if decide (-(2^63)<=i/\i<2^63) then some (.ok d,M.set n (.lst (l.eraseIdx k))) else none
       |none=>none
     |none=>none
   |_=>none
 |_,_=>stuck
theorem Cvs.erase:∀{vs:List V}{ds:List D} (i:Nat),Cvs mg ρ H vs ds->Cvs mg ρ H (vs.eraseIdx i) (ds.eraseIdx i)
 |_,_,_,.nil=>.nil
 |_,_,0,.cons _ t=>t
 |_,_,i+1,.cons a t=>.cons a (Cvs.erase i t)
set_option tactic.hygienic true in
theorem Jd:JV X E "list.pop" Hf:=by
 intro Xp s σ H x xs v us Q I rx rs q;obtain⟨ρ,M,d,ds,j,cx,cs,r,e,p⟩:=q;cases cx with
 | ref hn=>
   cases cs with
   |nil=>cases e
   | cons c cs=>cases cs with
     |cons _ _=>cases c<;>cases e
     | nil=>cases c with
       | int i=>
         rename_i n a;have e:(match M[n]? with
          | some (.lst l)=>match ixN l.length i with
            |some k=>match l[k]? with
              |some d=>if decide (-(2^63)<=i/\i<2^63) then some (R.ok d,M.set n (.lst (l.eraseIdx k))) else none
              |none=>none
            |none=>none
          |_=>none)=some r:=e
         split at e
         ·rename_i l hl;split at e
          ·rename_i k hk;split at e
           ·rename_i d hd;split at e
            ·rename_i hb;have hb:=TX hb;cases e;obtain⟨xs,hx,cl⟩:=j.obj _ _ _ hn hl;obtain⟨w,hw,cw⟩:=cl.get hd;have x:Ext ρ H ρ (upd H a (.lst (xs.eraseIdx k))):=.upd (S7 hn);exact mt_popAt (X:=X) Xp s σ H _ _ v us Q I rx rs ⟨_,_,_,k,w,rfl,rfl,hx,hb.1,hb.2,by rw[cl.len];exact (ixN_seq hk).1,hw,p ρ _ w x (j.upd hn ⟨_,upd_same,(cl.erase k).mono x⟩) (cw.mono x)⟩
            ·cases e
           ·cases e
          ·cases e
         ·cases e
       |_=>cases e
 |_=>cases e
theorem mL{name id:String}{g:D->List D->DM D}{o e:Expr}{es:List Expr}{fo:aa->DM D}{fs:aa->DM (List D)}{apos cpos:Pos}(pa:PlainAttrs "list")(slot:Slot "list" name id)(hty:typeOf (.builtin id)=pure (.type "method_descriptor"))(hm:JV X E id g)(ho:DE X E o fo)(ha:DA X E (e::es) fs)
  (hbase:attributeBase o name X.env (eval o X.env)=eval o X.env:=by rfl)
  (hfew:((backTo cpos (starEach (e::es) X.env)).all (fun x=>!x.1)&&(backToKw cpos (keywordEach [] X.env)).all (fun x=>x.1.isSome)
   &&decide ((e::es).length+([]:List Keyword).length+(if ([]:List Keyword).isEmpty then 0 else 1)<30))=true:=by rfl)
  (hline:(apos.endLine==cpos.line)=true:=by rfl) (hs:notStar e=true:=by rfl) (hplain:(backTo cpos (starEach es X.env)).any (·.1)=false:=by rfl) :
  DE X E (.Call (.Attribute o name apos) (e::es) [] cpos) (λδ=>fo δ>>=λx=>rd (λM=>aM x M)>>=λz=>fs δ>>=λxs=>g x xs):=⟨PE.mono (Ma pa slot hty hm ho.h ha.h hbase hfew hline hs hplain) λσ H Q h=>by
 obtain⟨ρ,δ,M,ev,j,g1⟩:=h;refine⟨ρ,δ,M,ev,j,g1.bind λρ1 H1 M1 x dx e1 j1 c1 g2=>?_⟩
 obtain⟨l,hl,g3⟩:=Go.rdb g2;obtain⟨a,xs,rfl,hx,cl⟩:=cW j1 c1 hl;exact⟨.inl ⟨rfl,_,SqL.of hx⟩,ρ1,δ,M1,ev.mono e1,j1,g3.bind λρ2 H2 M2 ys dys e2 j2 c2 g4=>⟨ρ2,M2,dx,dys,j2,c1.mono e2,c2,g4⟩⟩⟩
end
structure ExtB(acc:Addr)(ρ:Rh)(H:Hp)(ρ':Rh)(H':Hp):Prop where
 pre:∃τ,ρ'.st=ρ.st++τ
 vo:ρ'.vo=ρ.vo
 new:∀a,a∈ρ'.st->a∉ρ.st->H a=none
 keep:∀a o,H a=some o->a∉ρ.st->a≠acc->H' a=some o
 na:acc∉ρ'.st
section
variable{acc:Addr}{ρ ρ1 ρ2:Rh}{H H1 H2:Hp}
theorem ExtB.trans(e:ExtB acc ρ H ρ1 H1)(f:ExtB acc ρ1 H1 ρ2 H2):ExtB acc ρ H ρ2 H2:=by
 have out:∀a o,H a=some o->a∉ρ.st->a∉ρ1.st:=λa o h n z=>by have:=e.new a z n;rw[h]at this;cases this
 refine⟨?_,f.vo.trans e.vo,λa h n=>?_,λa o h n na=>f.keep a o (e.keep a o h n na) (out a o h n) na,f.na⟩
 ·obtain⟨τ,h1⟩:=e.pre;obtain⟨υ,h2⟩:=f.pre;exact⟨τ++υ,by rw[h2,h1,Uq]⟩
 ·by_cases z:a∈ρ1.st
  ·exact e.new a z n
  ·cases q:H a with
   |none=>rfl
   |some o=>have:=f.new a h z;rw[e.keep a o q n (λy=>f.na (y ▸ h))]at this;cases this
theorem Ext.b(e:Ext ρ H ρ1 H1)(na:acc∉ρ1.st):ExtB acc ρ H ρ1 H1:=⟨e.pre,e.vo,e.new,λa o h n z=>e.keep a o h n,na⟩
theorem ExtB.kp(e:ExtB acc ρ H ρ1 H1)(h:acc∈ρ.vo):Kp ρ H ρ1 H1:=⟨e.pre,λa o q n y=>by
 have ne:a≠acc:=λz=>n (z ▸ .inr h)
 have ns:a∉ρ.st:=λz=>n (.inl z)
 refine⟨λz=>?_,e.keep a o q ns ne⟩
 rcases z with z | z
 ·have:=e.new a z ns;rw[q]at this;cases this
 ·rw[e.vo]at z;exact n (.inr z)⟩
theorem ExtB.refl(na:acc∉ρ.st):ExtB acc ρ H ρ H:=(Ext.refl).b na
theorem ExtB.grow(na:acc∉ρ.st):ExtB acc ρ H ρ (upd H acc (.lst ys)):=⟨⟨[],by simp⟩,rfl,λa h n=>absurd h n,λa o h z ne=>by rw[upd_ne ne];exact h,na⟩
end
structure Cst(X:Cx)(Xp:List (Addr×Obj))(acc:Addr)(ρ0:Rh)(H0:Hp)(δ:aa)(l:List D)(M:Mo)(fp:List Addr)(s:Shared):Prop where
 ex:∃σ H ρ ys,Inv X Xp σ H s/\ExtB acc ρ0 H0 ρ H/\J X.mg ρ M H/\Ev X.mg ρ H σ δ/\H acc=some (.lst ys)/\Cvs X.mg ρ H ys l/\∀b∈fp,H b=none
def bA(fg:D->aa->DM aa)(ft:aa->DM Bool)(fb:aa->List D->DM (aa×List D)):List D->aa->List D->DM (aa×List D)
 |[],δ,l=>pure (δ,l)
 |d::ds,δ,l=>fg d δ>>=λδ1=>ft δ1>>=λb=>(if b then fb δ1 l else pure (δ1,l))>>=λp=>bA fg ft fb ds p.1 p.2
def pR(fg:D->aa->DM aa)(ft:aa->DM Bool)(fb:aa->List D->DM (aa×List D))(n:Nat):Nat->Nat->aa->List D->DM (aa×List D)
 |0,_,_,_=>stuck
 |k+1,i,δ,l=>rd (Itn.next (.dyn n) i)>>=λo=>match o with
   |none=>pure (δ,l)
   |some d=>fg d δ>>=λδ1=>ft δ1>>=λb=>(if b then fb δ1 l else pure (δ1,l))>>=λp=>pR fg ft fb n k (i+1) p.1 p.2
def bR(fg:D->aa->DM aa)(ft:aa->DM Bool)(fb:aa->List D->DM (aa×List D)):Itn->aa->List D->DM (aa×List D)
 |.fix ds,δ,l=>bA fg ft fb ds δ l
 |.dyn n,δ,l=>rd (λM=>aM (.ref n) M)>>=λm=>pR fg ft fb n (m.length+1) 0 δ l
def bW(fe:aa->DM D)(δ:aa)(l:List D):DM (aa×List D):=fe δ>>=λd=>if l.length<sizeLine then pure (δ,l++[d]) else stuck
def QX(X:Cx)(ifs:List Expr)(t:TT):Prop:=∀(Xp:List (Addr×Obj)) (s:Shared) (σ:L2.St) (H:Hp) (Q:Bool->Hp->Prop),Inv X Xp σ H s->t σ H Q->wpAny (model X.prog X.w) X.A (p8 ifs X.env) (TP X Xp σ Q) X.xe s
structure DTs(X:Cx)(E:XK)(ifs:List Expr)(f:aa->DM Bool):Prop where
 h:QX X ifs (tD X.mg E Bv f)
theorem fG:DTs X E [] (λz=>pure true):=⟨λXp s σ H Q I h=>by obtain⟨ρ,δ,M,ev,j,g⟩:=h;exact RJ ⟨H,I,g.pure ρ H true .refl j rfl⟩⟩
theorem jl(hc:DT X E c f):DTs X E [c] f:=⟨λXp s σ H Q I h=>wpAny_tests_one (hc.h Xp s σ H Q I h)⟩
set_option tactic.hygienic true in
theorem DM.bind_ok{α β:Type}{m:DM α}{k:α->DM β}{M M':Mo}{b:β}(h:(m>>=k) M=some (.ok b,M')):∃a M1,m M=some (.ok a,M1)/\k a M1=some (.ok b,M'):=by
 have h:DM.bind m k M=some (.ok b,M'):=h;unfold DM.bind at h;split at h
 ·cases h
 ·cases h
 ·rename_i a M1 e;exact⟨a,M1,e,h⟩
def BodyOk(X:Cx)(acc:Addr)(W:(Shared->Prop)->Shared->Prop)(fb:aa->List D->DM (aa×List D)):Prop:=
 ∀Xp ρ0 H0 δ l M s δ' l' M',acc∈ρ0.vo->Cst X Xp acc ρ0 H0 δ l M [] s->fb δ l M=some (.ok (δ',l'),M')->W (λs'=>Cst X Xp acc ρ0 H0 δ' l' M' [] s') s
theorem Cst.unpin(c:Cst X (Xp++pl) acc ρ0 H0 δ l M [] s)(h:∀b∈fp,∃o,(b,o)∈pl):
  Cst X Xp acc ρ0 H0 δ l M fp s/\∀p∈pl,s.heap.get? p.1=some p.2:=by
 obtain⟨σ,H,ρ,ys,I,x,j,ev,ha,cl,_⟩:=c.ex;refine⟨⟨σ,H,ρ,ys,I.unpinned,x,j,ev,ha,cl,λb hb=>?_⟩,λp hp=>(I.pin p (S9 _ (S9 _ hp))).1⟩
 obtain⟨o,ho⟩:=h b hb;exact (I.pin (b,o) (S9 _ (S9 _ ho))).2.1
def oJ(fg:D->aa->DM aa)(ft:aa->DM Bool)(fb:aa->List D->DM (aa×List D))(δf:aa)(lf:List D)(Mf:Mo):Itn->Nat->Nat->aa->List D->Mo->Prop
 |.fix ds,n,i,δ,l,M=>n=ds.length-i/\bA fg ft fb (ds.drop i) δ l M=some (.ok (δf,lf),Mf)
 |.dyn a,n,i,δ,l,M=>pR fg ft fb a n i δ l M=some (.ok (δf,lf),Mf)
set_option tactic.hygienic true in
theorem oJ.step{fg:D->aa->DM aa}{ft:aa->DM Bool}{fb:aa->List D->DM (aa×List D)}{δf δ:aa}{lf l:List D}{Mf M:Mo}{it:Itn}{n i:Nat}(h:oJ fg ft fb δf lf Mf it n i δ l M):
  (it.next i M=some none/\δ=δf/\l=lf/\M=Mf)\/∃d δ1 M1 b M2 δ3 l3 M3 m,it.next i M=some (some d)/\fg d δ M=some (.ok δ1,M1)/\ft δ1 M1=some (.ok b,M2)/\(if b then fb δ1 l else pure (δ1,l)) M2=some (.ok (δ3,l3),M3)/\m<n/\oJ fg ft fb δf lf Mf it m (i+1) δ3 l3 M3:=by
 cases it with
 | fix ds=>
   obtain⟨rfl,h⟩:=h;cases hd:ds[i]? with
   |none=>rw[List.drop_eq_nil_of_le (Ss.mp hd)]at h;cases h;exact .inl ⟨congrArg some hd,rfl,rfl,rfl⟩
   |some d=>
     obtain⟨hi',hd'⟩:=RK.mp hd;have hl:ds.drop i=d::ds.drop (i+1):=by rw[<-hd'];exact W9 hi'
     rw[hl]at h;obtain⟨δ1,M1,e1,h1⟩:=DM.bind_ok h;obtain⟨b,M2,e2,h2⟩:=DM.bind_ok h1;obtain⟨⟨δ3,l3⟩,M3,e3,h3⟩:=DM.bind_ok h2;exact .inr ⟨d,δ1,M1,b,M2,δ3,l3,M3,ds.length-(i+1),congrArg some hd,e1,e2,e3,by lia,rfl,h3⟩
 | dyn a=>
   cases n with
   |zero=>cases h
   | succ n=>
     obtain⟨o,M0,e0,h⟩:=DM.bind_ok h;obtain⟨o',q,z⟩:=RL.mp e0;cases z;cases o with
     |none=>cases h;exact .inl ⟨q,rfl,rfl,rfl⟩
     |some d=>obtain⟨δ1,M1,e1,h1⟩:=DM.bind_ok h;obtain⟨b,M2,e2,h2⟩:=DM.bind_ok h1;obtain⟨⟨δ3,l3⟩,M3,e3,h3⟩:=DM.bind_ok h2;exact .inr ⟨d,δ1,M1,b,M2,δ3,l3,M3,n,q,e1,e2,e3,T9 _,h3⟩
theorem oJ.start{fg:D->aa->DM aa}{ft:aa->DM Bool}{fb:aa->List D->DM (aa×List D)}{δf δ:aa}{lf l:List D}{Mf M:Mo}{it:Itn}(h:bR fg ft fb it δ l M=some (.ok (δf,lf),Mf)):∃ n,oJ fg ft fb δf lf Mf it n 0 δ l M:=by
 cases it with
 |fix ds=>exact⟨_,rfl,h⟩
 |dyn a=>obtain⟨m,M0,e0,h⟩:=DM.bind_ok h;obtain⟨m',q,z⟩:=RL.mp e0;cases z;exact⟨_,h⟩
theorem Dz(hc:X.calm=true)(hxe:X.xe=λy y=>False){gens:List Comprehension}{depth:Nat}{bodyK:Sem Fin->Sem Fin}{W:(Shared->Prop)->Shared->Prop}
  (hturn:compTurn (.ListComp elt gens scope pos) depth (.ref it) (.ref acc) X.env=turnOf g bodyK (.compLoop (.ListComp elt gens scope pos) depth (.ref it) (.ref acc) X.env) (.ref it) X.env) (hW:jM X.prog X.w X.A bodyK W) (hmono:∀P P' s,(∀s,P s->P' s)->W P s->W P' s)
  {fg:D->aa->DM aa}{ft:aa->DM Bool}{fb:aa->List D->DM (aa×List D)} (hg:DG X E0 g.target fg) (ht:DTs X E0 g.ifs ft) (hb:BodyOk X acc W fb) {fp:List Addr}{tn:Nat->Heap->Prop} (T:Turn X.prog X.w X.K g.target Jt fp it tn) (iok:ItOk X.mg ρi Hi Jt itn) (hacc:acc∈ρ0.vo) (kp0:Kp ρi Hi ρ0 H0) {Xp:List (Addr×Obj)}
  (fok:∀H',(∀b∈fp,H' b=none)->∀b∈fp,FpOk X Xp H' b) {l:List D} (st:Cst X Xp acc ρ0 H0 δ l M fp s) (htn:tn 0 s.heap) {lf:List D} (hrun:bR fg ft fb itn δ l M=some (.ok (δf,lf),Mf))
  {R:Result->Shared->Prop} (hR:∀s',Cst X Xp acc ρ0 H0 δf lf Mf fp s'->R (.ok .next) s') :
  codeAny (model X.prog X.w) X.A (.compLoop (.ListComp elt gens scope pos) depth (.ref it) (.ref acc) X.env) R s:=by
 obtain⟨n0,rem0⟩:=oJ.start hrun;refine G4 (λn s=>∃i δ l M,oJ fg ft fb δf lf Mf itn n i δ l M/\Cst X Xp acc ρ0 H0 δ l M fp s/\tn i s.heap) hturn hW ?_ hmono n0 ⟨0,δ,l,M,rem0,st,htn⟩
 rintro n s ⟨i,δ,l,M,rem,st,htn⟩;obtain⟨σ,H,ρ,ys,I,x,j,ev,ha,cl,fr⟩:=st.ex;have kp:Kp ρi Hi ρ H:=kp0.trans (x.kp hacc);rcases rem.step with ⟨hd,rfl,rfl,rfl⟩ | ⟨d,δ1,M1,b,M2,δ3,l3,M3,m,hd,e1,e2,e3,hm,rem3⟩
 ·refine Sg (T.done X rfl rfl rfl hc i Xp s σ H _ I (fok H fr) htn (iok.stop i ρ H _ kp j hd)) (λr s1 h1=>?_) λy y z=>z
  obtain⟨rfl,I1⟩:=h1;exact hR s1 ⟨σ,H,ρ,ys,I1,x,j,ev,ha,cl,fr⟩
 ·obtain ⟨go,yl⟩:=iok.item i ρ H M d kp j hd;refine Sg (T.item X rfl rfl rfl hc i Xp s σ H (λy y=>False) I (fok H fr) htn go) (λr s1 h1=>?_) λy y z=>z
  obtain⟨u,rfl,h1⟩:=h1;refine Sg h1 (λy s2 h2=>?_) λy y z=>z
  obtain⟨xv,H5,I5,r5,y5,tn5,fr5⟩:=h2;obtain⟨x5,j5,c5⟩:=yl xv H5 y5;have I5':=I5.pinned (fok H5 fr5) (T.obj _ _ tn5);refine Sg (hg.h _ s2 σ H5 xv u (λσ6 H6=>∃ρ6,Ext ρ H5 ρ6 H6/\J X.mg ρ6 M1 H6/\Ev X.mg ρ6 H6 σ6 δ1) I5' r5 ⟨ρ,δ,M,d,ev.mono x5,j5,c5,_,e1,λρ6 H6 σ6 a1 a2 a3=>⟨ρ6,a1,a2,a3⟩⟩) (λy s3 h3=>?_) λy y z=>by rw[hxe]at z;exact z
  obtain⟨σ6,H6,I6,ρ6,x6,j6,ev6⟩:=h3;refine Sg (ht.h _ s3 σ6 H6 (λb' H7=>b'=b/\∃ρ7,Ext ρ6 H6 ρ7 H7/\J X.mg ρ7 M2 H7) I6 ⟨ρ6,δ1,M1,ev6,j6,_,e2,λρ7 H7 b' a1 a2 a3=>⟨a3,ρ7,a1,a2⟩⟩) (λok s4 h4=>?_) λy y z=>by rw[hxe]at z;exact z
  obtain⟨H7,I7,rfl,ρ7,x7,j7⟩:=h4;have nacc:acc∉ρ.st:=x.na;have na6:acc∉ρ6.st:=λz=>by have h5:=x5.keep acc _ ha nacc;have:=x6.new acc z nacc;rw[h5]at this;cases this
  have ha5:=x5.keep acc _ ha nacc;have ha6:=x6.keep acc _ ha5 nacc;have na7:acc∉ρ7.st:=λz=>by have:=x7.new acc z na6;rw[ha6]at this;cases this
  have ha7:=x7.keep acc _ ha6 na6;have xb:ExtB acc ρ0 H0 ρ7 H7:=((x.trans (x5.b nacc)).trans (x6.b na6)).trans (x7.b na7);have ct:Cst X (Xp++pinsAt fp s2.heap) acc ρ0 H0 δ1 l M2 [] s4:=⟨σ6,H7,ρ7,ys,I7,xb,j7,ev6.mono x7,ha7,((cl.mono x5).mono x6).mono x7,λb hb=>nomatch hb⟩
  have fin:∀s5,Cst X (Xp++pinsAt fp s2.heap) acc ρ0 H0 δ3 l3 M3 [] s5->∃m,m<n/\∃i δ l M,oJ fg ft fb δf lf Mf itn m i δ l M/\Cst X Xp acc ρ0 H0 δ l M fp s5/\tn i s5.heap:=λs5 c5=>by
   obtain⟨c6,pp⟩:=c5.unpin (fp:=fp) λb hb=>by obtain⟨o,eo,_⟩:=T.obj _ _ tn5 b hb;exact⟨o,mem_pinsAt hb eo⟩
   exact⟨m,hm,i+1,δ3,l3,M3,rem3,c6,T.keep _ _ _ tn5 λb hb o eo=>pp (b,o) (mem_pinsAt hb eo)⟩
  cases ok with
  |true=>exact iteT (hmono _ _ _ fin (hb _ ρ0 H0 δ1 l M2 s4 δ3 l3 M3 hacc ct e3))
  |false=>cases e3;exact iteF (fin s4 ct)
set_option tactic.hygienic true in
theorem zg{X:Cx}(hxe:X.xe=λy y=>False){elt:Expr}{fe:aa->DM D}{acc:Addr}(he:DE X E0 elt fe):
  BodyOk X acc (λP s=>wpAny (model X.prog X.w) X.A (eval elt X.env) (λx s1=>wpAny (model X.prog X.w) X.A (call (.builtin "list.append") [.ref acc,x]) (λy s2=>P s2) (λy y=>False) s1) (λy y=>False) s) (bW fe):=by
 intro Xp ρ0 H0 δ l M s δ' l' M' hacc ct e;obtain⟨d,M1,e1,e2⟩:=DM.bind_ok e;obtain⟨σ,H,ρ,ys,I,x,j,ev,ha,cl,_⟩:=ct.ex;split at e2;rotate_left
 ·cases e2
 rename_i hz;cases e2;refine Sg (he.h Xp s σ H (λv H1=>∃ρ1,Ext ρ H ρ1 H1/\J X.mg ρ1 M' H1/\Cv X.mg ρ1 H1 v d) I ⟨ρ,δ,M,ev,j,_,e1,λρ1 H1 v a1 a2 a3=>⟨ρ1,a1,a2,a3⟩⟩) (λu s1 h1=>?_) λy y z=>by rw[hxe]at z;exact z
 obtain⟨v,H1,I1,rv,ρ1,x1,j1,c1⟩:=h1;have nacc:acc∉ρ.st:=x.na;have ha1:=x1.keep acc _ ha nacc;have na1:acc∉ρ1.st:=λz=>by have:=x1.new acc z nacc;rw[ha]at this;cases this
 have hv1:acc∈ρ1.vo:=by rw[x1.vo,x.vo];exact hacc
 refine Sg (mt_append (X:=X) Xp s1 σ H1 (.ref acc) [v] (.ref acc) [u] (λy H'=>H'=upd H1 acc (.lst (ys++[v]))) I1 rfl (.cons rv .nil) ⟨_,ys,v,rfl,rfl,ha1,by rw[cl.len];exact hz,rfl⟩) (λy s2 h2=>?_) λy y z=>by rw[hxe]at z;exact z
 obtain⟨_,H2,I2,_,rfl⟩:=h2;exact⟨σ,_,ρ1,ys++[v],I2,(x.trans (x1.b na1)).trans (.grow na1),j1.grow hv1,(ev.mono x1).kp ((ExtB.grow na1).kp hv1),upd_same,((cl.mono x1).append (.cons c1 .nil)).hold hv1,λb hb=>nomatch hb⟩
def cU{α:Type}(m:DM α):DM α:=λM=>match m M with
 |some (.ok a,M')=>some (.ok a,M')
 |_=>none
set_option tactic.hygienic true in
theorem lX(h:cU m M=some r):∃a M',m M=some (.ok a,M')/\r=(.ok a,M'):=by
 unfold cU at h;split at h
 ·rename_i a M' e;cases h;exact⟨a,M',e,rfl⟩
 ·cases h
def cu(js:List Nat)(δ:aa):aa:=js.map λj=>(δ[j]?).getD none
def aR(k:Nat)(js:List Nat)(δ:aa):aa:=List.replicate k none++cu js δ
theorem uf(ev:Ev mg ρ H σ δ)(k:Nat)(js:List Nat):Ev mg ρ H (List.replicate k none++pick js σ) (aR k js δ):=by
 unfold aR pick cu;refine⟨by simp,λi d q=>?_⟩
 by_cases hi:i<k
 ·rw[RZ (by rw[Tv];exact hi),Vb]at q
  split at q<;>cases q
 ·rw [Sh (by rw [Tv];lia),Tv,R0]at q ⊢
  cases hj:js[i-k]? with
  |none=>rw[hj]at q;cases q
  | some j=>
    rw[hj]at q;have q:(δ[j]?).getD none=some d:=RP q;have q':δ[j]?=some (some d):=by
     cases z:δ[j]? with
     |none=>rw[z]at q;cases q
     |some o=>rw[z]at q;exact congrArg some q
    obtain⟨v,h1,h2⟩:=ev.val j d q';exact⟨v,by show some ((σ[j]?).getD none)=_;rw[h1];rfl,h2⟩
theorem mW(hp:H p=none):Kp ρ H (ρ.hold p) (upd H p o):=⟨⟨[],by show ρ.st=_;simp⟩,λa u h n z=>⟨Rh.nhold n (ne_of_none h hp),by rw[upd_ne (ne_of_none h hp)];exact h⟩⟩
inductive Out where
 |val | sto
def Out.run:Out->List D->DM D
 |.val,l=>pure (.lst l)
 |.sto,l=>λM=>some (.ok (.ref M.length),M++[.lst l])
theorem Out.fin(o:Out)(hf:H2 acc=none)(hn:acc∉ρ1)(x:ExtB acc (ρ1.hold acc) (upd H2 acc (.lst [])) ρ4 H4)(j:J mg ρ4 M H4)(ha:H4 acc=some (.lst ys))(c:Cvs mg ρ4 H4 ys l)
  (g:Go mg E (Cv mg) Q ρ1 H2 (o.run l) M):Q (.ref acc) H4:=by
 have hv:ρ4.vo=acc::ρ1.vo:=x.vo;have na:acc∉ρ1.vo:=λz=>hn (.inr z)
 have nw:∀a,a∈ρ4.st->a∉ρ1.st->H2 a=none:=λa h n=>by
  have:=x.new a h n;by_cases z:a=acc
  ·rw[z,upd_same]at this;cases this
  ·rw[upd_ne z]at this;exact this
 have kp:∀a o,H2 a=some o->a∉ρ1.st->H4 a=some o:=λa o h n=>x.keep a o (by rw[upd_ne (ne_of_none h hf)];exact h) n (ne_of_none h hf)
 cases o with
 | val=>
   have e:Ext ρ1 H2 ⟨ρ4.st,ρ1.vo⟩ H4:=⟨x.pre,rfl,nw,kp⟩;have jd:J mg ⟨ρ4.st,ρ1.vo⟩ M H4:=J.done (ρ:=ρ1) j hv;have cd:Cvs mg ⟨ρ4.st,ρ1.vo⟩ H4 ys l:=Cvs.less (ρ:=ρ4) (ρ1:=⟨ρ4.st,ρ1.vo⟩) rfl (λa h=>by rw[hv];exact .tail _ h) c
   exact Go.pure (a:=D.lst l) g ⟨ρ4.st,ρ1.vo⟩ H4 (.ref acc) e jd (.lst (λz=>by
    rcases z with z | z
    ·exact x.na z
    ·exact na z) ha cd)
 | sto=>
   obtain⟨r,er,p⟩:=g;cases er;have k4:Kp ρ4 H4 ⟨ρ4.st++[acc],ρ1.vo⟩ H4:=⟨⟨[acc],rfl⟩,λa o h n v=>⟨λz=>by
    rcases z with z | z
    ·rcases Su.mp z with z | z
     ·exact n (.inl z)
     ·exact n (.inr (by rw[hv,SJ.mp z];exact .head _))
    ·exact n (.inr (by rw[hv];exact .tail _ z)),h⟩⟩
   have e:Ext ρ1 H2 ⟨ρ4.st++[acc],ρ1.vo⟩ H4:=by
    refine⟨?_,rfl,λa h n=>?_,kp⟩
    ·obtain⟨τ,h1⟩:=x.pre;exact⟨τ++[acc],by show ρ4.st++[acc]=_;rw[h1,Uq];rfl⟩
    ·rcases Su.mp h with z | z
     ·exact nw a z n
     ·rw[SJ.mp z];exact hf
   have jd:J mg ⟨ρ4.st++[acc],ρ1.vo⟩ (M++[.lst l]) H4:=by
    refine⟨by show (ρ4.st++[acc]).length=_;rw[R6,R6,j.len];rfl,?_,λn a w h1 h2=>?_,λa h=>?_⟩
    ·show (ρ4.st++[acc]).Nodup;rw[Wo];exact⟨j.nd,by simp,λx' hx y hy e=>by rw[SJ.mp hy]at e;exact x.na (e ▸ hx)⟩
    ·have h1:(ρ4.st++[acc])[n]?=some a:=h1;by_cases hl:n<ρ4.st.length
     ·rw[RZ hl]at h1;rw[RZ (by rw[<-j.len];exact hl)]at h2
      exact (j.obj n a w h1 h2).map rfl λvs ds c=>c.kp k4
     ·have hl':n<(ρ4.st++[acc]).length:=(RK.mp h1).1;rw[R6]at hl';have e:n=ρ4.st.length:=by have:[acc].length=1:=rfl;lia
      subst e;rw[Sh (RX _)]at h1;rw[j.len,Sh (RX _)]at h2;simp at h1 h2;subst h1 h2;exact⟨ys,ha,c.kp k4⟩
    ·have h:a∈ρ1.vo:=h;obtain⟨y1,y2⟩:=j.vol a (by rw[hv];exact .tail _ h)
     refine⟨λz=>?_,y2⟩
     rcases Su.mp z with z | z
     ·exact y1 z
     ·exact na (SJ.mp z ▸ h)
   refine p _ H4 (.ref acc) e jd (.ref ?_);show (ρ4.st++[acc])[_]?=_;rw[<-j.len];simp
set_option tactic.hygienic true in
theorem Gp{cl:List (Str×Addr)}{own:List Str}{js:List Nat}{fr:List Str}{f0:List Expr}{gs:List Comprehension}{fi:aa->DM Itn}{fg:D->aa->DM aa}{ft:aa->DM Bool}{fb:aa->List D->DM (aa×List D)}
  {bodyK:Cx->Addr->Sem Fin->Sem Fin}{W:Cx->Addr->(Shared->Prop)->Shared->Prop} (o:Out) (hc:X.calm=true) (T:CompG X scope cl own js fr) (hi:DI X E t0 i0 fi)
  (hturn:∀(Y:Cx) it acc,compTurn (.ListComp elt (⟨t0,i0,f0,0⟩::gs) scope pos) 0 (.ref it) (.ref acc) Y.env=turnOf ⟨t0,i0,f0,0⟩ (bodyK Y acc) (.compLoop (.ListComp elt (⟨t0,i0,f0,0⟩::gs) scope pos) 0 (.ref it) (.ref acc) Y.env) (.ref it) Y.env)
  (hW:∀Y acc,jM Y.prog Y.w Y.A (bodyK Y acc) (W Y acc)) (hmono:∀Y acc P P' s,(∀s,P s->P' s)->W Y acc P s->W Y acc P' s)
  (hg:∀Xp m fp C s₂ H₂,DG (X.aU Xp scope (cellsFrom m scope.names cl) (own++fr) fp C s₂ H₂) E0 t0 fg) (ht:∀Xp m fp C s₂ H₂,DTs (X.aU Xp scope (cellsFrom m scope.names cl) (own++fr) fp C s₂ H₂) E0 f0 ft)
  (hb:∀Xp m fp C s₂ H₂ acc,BodyOk (X.aU Xp scope (cellsFrom m scope.names cl) (own++fr) fp C s₂ H₂) acc (W (X.aU Xp scope (cellsFrom m scope.names cl) (own++fr) fp C s₂ H₂) acc) fb)
  (hs:∀y,foldedSetIterable i0 X.env y=pure y:=by intro _;rfl) :
  DE X E (.ListComp elt (⟨t0,i0,f0,0⟩::gs) scope pos) (λδ=>fi δ>>=λit=>cU (bR fg ft fb it (aR own.length js δ) [])>>=λp=>o.run p.2):=⟨by
 intro Xp s σ H Q I h;obtain⟨ρ,δ,M,ev,j,g1⟩:=h;rw[eval_ListComp];refine V7 (cl:=cl) (use:=none) rfl hs T.clos T.kind T.names ?_;refine thn (hi.h Xp s σ H (λJt H1=>∃ρ1 M1 it,Ext ρ H ρ1 H1/\J X.mg ρ1 M1 H1/\ItOk X.mg ρ1 H1 Jt it/\Go X.mg E (Cv X.mg) Q ρ1 H1 (cU (bR fg ft fb it (aR own.length js δ) [])>>=λp=>o.run p.2) M1) I
  ⟨ρ,δ,M,ev,j,g1.bind λρ1 H1 M1 Jt it e1 j1 iok g2=>⟨ρ1,M1,it,e1,j1,iok,g2⟩⟩) λv s1 h1=>thn h1 λitv s2 h2=>?_
 obtain⟨it,fp,tn,Jt,H2,rfl,I2,Tn,st2,f2,ρ1,M1,itn,x1,j1,iok,g2⟩:=h2;have hrun:∃δf lf Mf,bR fg ft fb itn (aR own.length js δ) [] M1=some (.ok (δf,lf),Mf)/\Go X.mg E (Cv X.mg) Q ρ1 H2 (o.run lf) Mf:=by
  obtain⟨r,e,p⟩:=g2;have e:DM.bind _ _ M1=some r:=e;unfold DM.bind at e;split at e
  ·cases e
  ·rename_i c M' em;obtain⟨a,M'',_,z⟩:=lX em;cases z
  ·rename_i a M' em;obtain⟨a',M'',e1,z⟩:=lX em;cases z;exact⟨a.1,a.2,M',e1,r,e,p⟩
 obtain⟨δf,lf,Mf,hrun,g3⟩:=hrun;unfold newList;refine SQ (o4 ?_);have hlt:∀b∈fp,b<s2.heap.objs.size:=λb hb=>by obtain⟨o,e,_⟩:=Tn.obj _ _ st2 b hb;exact RN e
 dsimp only;generalize hP:s2.heap.push { cls:=.type "list",dict:=none,data:=.seq ([]:List Value).toArray }=hp1;have hCs:hp1.objs.size=s2.heap.objs.size+1:=by rw[<-hP,Sy]
 have hCe:hp1.objs.size+1=(hp1.push { cls:=.type "dict",data:=.dict #[] }).objs.size:=by rw[Sy]
 have hC:s2.heap.objs.size<=hp1.objs.size:=by lia
 have hne:hp1.objs.size≠s2.heap.objs.size:=by lia
 have old1:∀b o,s2.heap.get? b=some o->hp1.get? b=some o:=λb o e=>by rw[<-hP];exact RG _ e
 have old:∀b o,s2.heap.get? b=some o->(pushCells (hp1.push { cls:=.type "dict",data:=.dict #[] }) scope.names).get? b=some o:=λb o e=>Uu _ _ _ _ (RG _ (old1 b o e))
 have new:∃n,(pushCells (hp1.push { cls:=.type "dict",data:=.dict #[] }) scope.names).get? s2.heap.objs.size=some { cls:=.type "list",data:=.seq #[] n }:=⟨_,Uu _ _ _ _ (RG _ (by rw[<-hP];exact RM _ rfl))⟩
 have ns:(pushCells (hp1.push { cls:=.type "dict",data:=.dict #[] }) scope.names).Ns hp1.objs.size λx=>none:=(Heap.Ns.new hp1 (.type "dict")).keeps (Uu _ _)
 have hfree:H2 s2.heap.objs.size=none:=I2.hok.fresh (RX _);have IC:=uM (t':=s2.toks) T I2 f2 hlt old (RX _) hC hne hCe (R7 hC (Nat.le_succ _)) (T9 _) (Nat.lt_succ_of_le hC) rfl new ns;have OK:=IC.ok;have fok:∀H',(∀b∈fp,H' b=none)->∀b∈fp,FpOk (X.aU Xp scope (cellsFrom (hp1.objs.size+1) scope.names cl) (own++fr) fp hp1.objs.size s2 H2) [] H' b:=λH' hn b hb=>by
  obtain⟨_,g2,g3,g4,g5,g6⟩:=f2 b hb;refine⟨hn b hb,R5 (RQ (hlt b hb) hC),λhm=>?_,.inl hb,(OK.exf b hb).2,λp hp=>g6 p (by simpa using hp)⟩
  rcases R8.mp (I2.stkSub _ hm) with z | z
  ·exact g2 z
  ·exact g3 z
 have fp1:∀b∈fp,upd H2 s2.heap.objs.size (.lst []) b=none:=λb hb=>by rw[upd_ne (R5 (hlt b hb))];exact (f2 b hb).1
 have jb:=j1.begin hfree;have nf:=j1.fresh hfree;have st:Cst (X.aU Xp scope (cellsFrom (hp1.objs.size+1) scope.names cl) (own++fr) fp hp1.objs.size s2 H2) [] s2.heap.objs.size (ρ1.hold s2.heap.objs.size) (upd H2 s2.heap.objs.size (.lst [])) (aR own.length js δ) [] M1 fp
   { s2 with heap:=pushCells (hp1.push { cls:=.type "dict",data:=.dict #[] }) scope.names,toks:=s2.toks }:=
  ⟨_,_,_,[],IC,.refl (λz=>nf (.inl z)),jb,(uf (ev.mono x1) _ _).kp (mW hfree),upd_same,.nil,fp1⟩
 have tn0:tn 0 (pushCells (hp1.push { cls:=.type "dict",data:=.dict #[] }) scope.names):=Tn.keep _ _ _ st2 (λb x o e=>old b o e)
 have loop:codeAny (model X.prog X.w) X.A (.compLoop (.ListComp elt (⟨t0,i0,f0,0⟩::gs) scope pos) 0 (.ref it) (.ref s2.heap.objs.size) (compEnvC scope (cellsFrom (hp1.objs.size+1) scope.names cl) hp1.objs.size X.env))
   (compPost (model X.prog X.w) X.A X.xe none (EP X Xp σ Q) (.ref s2.heap.objs.size) hp1.objs.size) { s2 with heap:=pushCells (hp1.push { cls:=.type "dict",data:=.dict #[] }) scope.names,toks:=s2.toks }:=by
  refine Dz (X:=X.aU Xp scope (cellsFrom (hp1.objs.size+1) scope.names cl) (own++fr) fp hp1.objs.size s2 H2) hc rfl (hturn _ _ _) (hW _ _) (hmono _ _) (hg ..) (ht ..) (hb Xp (hp1.objs.size+1) fp hp1.objs.size s2 H2 s2.heap.objs.size) Tn iok (.head _) (mW hfree) fok st tn0 hrun λs' c'=>?_
  obtain⟨σ4,H4,ρ4,ys,I4,x4,j4,ev4,ha4,cl4,fr4⟩:=c'.ex;obtain⟨m4,hn4,_⟩:=I4.loc;refine⟨m4,hn4,λh' hsb'=>?_⟩
  have un:=yx I4.base hsb' hC;have ok4:=uq I4.hok hsb' I4.free;exact⟨.ref s2.heap.objs.size,H4,I2.call' (s':={ s' with heap:=h' }) (ch:=fp) (I4.os) un ok4 I4.bare (λb hb=>by obtain⟨_,g2,g3,g4,g5,g6⟩:=f2 b hb;exact⟨g4,g2,g5,g6⟩),rfl,o.fin hfree nf x4 j4 ha4 cl4 g3⟩
 show codeAny _ _ (.compStart _ 0 (.ref it) (.ref s2.heap.objs.size) (compEnvC scope (cellsFrom (hp1.objs.size+1) scope.names cl) hp1.objs.size X.env)) _ _;exact uY rfl rfl loop (Tn.self X.A 0 _ _ _ tn0 loop)⟩
theorem cL{cl:List (Str×Addr)}{own:List Str}{js:List Nat}{fr:List Str}{f0:List Expr}{fi:aa->DM Itn}{fg:D->aa->DM aa}{ft:aa->DM Bool}{fe:aa->DM D}
  (o:Out) (hc:X.calm=true) (T:CompG X scope cl own js fr) (hi:DI X E t0 i0 fi)
  (hg:∀Xp m fp C s₂ H₂,DG (X.aU Xp scope (cellsFrom m scope.names cl) (own++fr) fp C s₂ H₂) E0 t0 fg) (ht:∀Xp m fp C s₂ H₂,DTs (X.aU Xp scope (cellsFrom m scope.names cl) (own++fr) fp C s₂ H₂) E0 f0 ft)
  (he:∀Xp m fp C s₂ H₂,DE (X.aU Xp scope (cellsFrom m scope.names cl) (own++fr) fp C s₂ H₂) E0 elt fe)
  (hs:∀y,foldedSetIterable i0 X.env y=pure y:=by intro _;rfl) :
  DE X E (.ListComp elt [⟨t0,i0,f0,0⟩] scope pos) (λδ=>fi δ>>=λit=>cU (bR fg ft (bW fe) it (aR own.length js δ) [])>>=λp=>o.run p.2):=
 Gp (bodyK:=λY acc=>sG elt (.ref acc) Y.env) (W:=λY acc P s=>wpAny (model Y.prog Y.w) Y.A (eval elt Y.env) (λx s1=>wpAny (model Y.prog Y.w) Y.A (call (.builtin "list.append") [.ref acc,x]) (λv s2=>P s2) (λv v=>False) s1) (λv v=>False) s) o hc T hi
  (λY it acc=>HW ..) (λY acc=>Dg) (λY acc P P' s hp h=>Sg h (λx s1 h1=>Sg h1 (λv s2 h2=>hp _ h2) λv v z=>z) λv v z=>z) hg ht (λXp m fp C s₂ H₂ acc=>zg rfl (he ..)) hs
theorem boot_zip:bootBuiltins "zip"=some (.type "zip"):=by decide +kernel
def frz:D->Option (Bool×List D)
 |.tup l=>some (true,l)
 |.lst l=>some (false,l)
 |_=>none
def pairs:List D->List D->List D
 |x::xs,y::ys=>.tup [x,y]::pairs xs ys
 |_,_=>[]
def QH:List D->Option Itn
 |[x,y]=>match frz x,frz y with
   |some (_,l),some (_,m)=>some (.fix (pairs l m))
   |_,_=>none
 |_=>none
theorem pairs_at:∀ (l m:List D) (i:Nat),(pairs l m)[i]?=match l[i]?,m[i]? with
  |some x,some y=>some (.tup [x,y])
  |_,_=>none
 |[],m,i=>by simp[pairs]
 |x::xs,[],i=>by
   cases i with
   |zero=>simp[pairs]
   |succ i=>simp only[pairs,List.getElem?_nil,List.getElem?_cons_succ];cases xs[i]?<;>rfl
 |x::xs,y::ys,0=>by simp[pairs]
 |x::xs,y::ys,i+1=>by simp only[pairs,List.getElem?_cons_succ];exact pairs_at xs ys i
section
variable{mg:Str->Option Value}{ρ:Rh}{H:Hp}
theorem Dk{K:PySem.W.Frag}{x:V}{d:D}{b:Bool}{l:List D}(c:Cv mg ρ H x d)(e:frz d=some (b,l)):∃a xs,x=.ref a/\a∉ρ/\H a=some (if b then .tup xs else .lst xs)/\Cvs mg ρ H xs l:=by
 cases c with
 |tup n h c=>cases e;exact⟨_,_,rfl,n,h,c⟩
 |lst n h c=>cases e;exact⟨_,_,rfl,n,h,c⟩
 |_=>cases e
theorem pF{K:PySem.W.Frag}{b:Bool}{a:Addr}{xs:List V}(h:H a=some (if b then .tup xs else .lst xs)):ju b K H a xs:=by
 cases b with
 |true=>exact SqT.of h
 |false=>exact SqL.of h
theorem ne_if{b:Bool}{xs ys:List V}:∀φ,(if b=true then HO.tup xs else HO.lst ys)≠HO.ext φ:=by cases b<;>nofun
end
theorem Ny(m:DM α)(f:α->DM β)(g:β->DM γ):(m>>=f)>>=g=m>>=λa=>f a>>=g:=by
 funext M;show DM.bind (DM.bind m f) g M=DM.bind m (λa=>DM.bind (f a) g) M
 unfold DM.bind;cases m M with
 |none=>rfl
 |some r=>obtain⟨r,M'⟩:=r;cases r<;>rfl
set_option tactic.hygienic true in
theorem iz:∀ {names:List (Str×NameKind)}{m:Nat}{y:Str}{c:Addr},(y,c)∈cellsFrom m names []->(y,NameKind.cell)∈names
 |[],_,_,_,h=>nomatch h
 | (n,k)::r,m,y,c,h=>by
   unfold cellsFrom at h;split at h
   ·rename_i hk;rw[bJ]at h;rcases Su.mp h with z | z
    ·exact .tail _ (iz z)
    ·cases SJ.mp z;have hk':k=.cell:=by cases k<;>first | rfl | cases hk
     rw[hk'];exact .head _
   ·exact .tail _ (iz h)
def isC:NameKind->Bool
 |.cell=>true
 |_=>false
theorem KR(h:isC k=true):k=.cell:=by cases k<;>first | rfl | cases h
set_option tactic.hygienic true in
theorem Jf(h:(names.all λp=>!isC p.2 || (match names.lookup p.1 with | some k=>isC k | none=>false))=true):∀(m:Nat) y c,(cellsFrom m names []).lookup y=some c->names.lookup y=some .cell:=λm y c e=>by
 have hm:=iz (T3 e);have q:=VL.mp h _ hm;simp only[isC,Bool.not_true,Bool.false_or]at q;split at q
 ·rename_i k hk;rw[hk,KR q]
 ·cases q
theorem Jg{cl:List (Str×Addr)}{names:List (Str×NameKind)}(h:vR (λp=>(match names.lookup p.1 with | some k=>isC k | none=>false)=false) cl):∀y c,cl.lookup y=some c->names.lookup y≠some .cell:=λy c e z=>by have:=mJ h (y,c) (L2.mem_of_lookup e);simp only[z,isC]at this;cases this
end L3
namespace L3
open PySem PySem.Spec L2
@[simp] theorem aD(a:α)(f:α->DM β):((Pure.pure a:DM α)>>=f)=f a:=id rfl
@[simp] theorem aZ(m:DM α)(f:α->DM β)(g:β->DM γ):(m>>=f)>>=g=m>>=λa=>f a>>=g:=Ny m f g
@[simp] theorem o7(a:α):(opt (some a):DM α)=Pure.pure a:=id rfl
@[simp] theorem HJ(a:α):cU (Pure.pure a:DM α)=Pure.pure a:=id rfl
@[simp] theorem QL(c:Str)(f:α->DM β):((raise c:DM α)>>=f)=raise c:=id rfl
theorem bH{α:Type}{f:Mo->Option α}{a:α}(h:∀M,f M=some a):(rd f:DM α)=Pure.pure a:=by funext M;show (f M).map _=_;rw[h M];rfl
@[simp] theorem HN(f g:aa->DM Fl)(δ:aa):uH f g δ=f δ>>=λr=>match r with
 |.nx δ'=>g δ'
 |r=>Pure.pure r:=id rfl
@[simp] theorem dC(i:Nat)(δ:aa):bL i δ=opt ((δ[i]?).join):=id rfl
@[simp] theorem pY(b:Bool):gY (.bl b)=Pure.pure b:=id rfl
@[simp] theorem El(p n:Nat)(fb:aa->DM Fl)(ds:List D):aG p n fb ds=if ds.length=p then fb (bx n ds)>>=λr=>match r with
 |.nx _=>Pure.pure .non
 |.rt d=>Pure.pure d
 |_=>stuck else stuck:=id rfl
@[simp] theorem QM(n:Nat)(ds:List D):bx n ds=ds.map some++List.replicate (n-ds.length) none:=id rfl
@[simp] theorem fV(i:Nat)(d:D)(δ:aa):gN i d δ=Pure.pure (δ.set i (some d)):=id rfl
@[simp] theorem RC(n:Nat)(fs:List D->aa->DM aa)(l:List D)(δ:aa):gT n fs (.tup l) δ=if l.length=n then fs l δ else stuck:=id rfl
@[simp] theorem Rt(f:D->aa->DM aa)(fs:List D->aa->DM aa)(d:D)(l:List D)(δ:aa):bY f fs (d::l) δ=f d δ>>=λδ'=>fs l δ':=id rfl
@[simp] theorem Ru(δ:aa):eX [] δ=Pure.pure δ:=id rfl
@[simp] theorem Ry(i j:Nat)(fa:aa->DM (List D))(δ:aa):ux i j fa δ=fa δ>>=λl=>match l with
 |[v,w]=>Pure.pure (.nx ((δ.set i (some v)).set j (some w)))
 |_=>stuck:=id rfl
@[simp] theorem Og(i j:Int):(rd (cJ (.int i) (.int j)):DM D)=Pure.pure (.int (i+j)):=id rfl
@[simp] theorem Ot(i j:Int):(rd (rE (.int i) (.int j)):DM D)=Pure.pure (.int (i-j)):=id rfl
@[simp] theorem QD(i j:Int):(rd (Lk (.int i) (.int j)):DM D)=Pure.pure (.bl (decide (i<j))):=id rfl
@[simp] theorem QC(i j:Int):(rd (zz (.int i) (.int j)):DM D)=Pure.pure (.bl (decide (i<=j))):=id rfl
@[simp] theorem QB(i j:Int):(rd (sH (.int i) (.int j)):DM D)=Pure.pure (.bl (decide (j<i))):=id rfl
@[simp] theorem Qz(i j:Int):(rd (Do (.int i) (.int j)):DM D)=Pure.pure (.bl (decide (j<=i))):=id rfl
@[simp] theorem Rx(i:Int):(rd (Qu (.int i)):DM D)=Pure.pure (.int (-i)):=id rfl
@[simp] theorem Ro(i:Int):(rd (Qf [.int i]):DM D)=Pure.pure (.int (if i<0 then -i else i)):=id rfl
@[simp] theorem Q9(i j:Int):(rd (Bc [.int i,.int j]):DM D)=Pure.pure (.int (if j > i then j else i)):=id rfl
@[simp] theorem Ra(i j:Int):(rd (Oa [.int i,.int j]):DM D)=Pure.pure (.int (if j<i then j else i)):=id rfl
theorem Ol{i j:Int}(h:0<j):(rd (gF (.int i) (.int j)):DM D)=Pure.pure (.int (i%j)):=bH λM=>by simp[cC,h]
theorem Bm{i j:Int}(h:eY i j=true):(rd (iC (.int i) (.int j)):DM D)=Pure.pure (.int (i*j)):=bH λM=>by simp[cC,h]
theorem Eo{i j:Int}(h:jU i j=true):(rd (mU (.int i) (.int j)):DM D)=Pure.pure (.int (i / j)):=bH λM=>by simp[cC,h]
theorem Oo{i j:Int}(h:HD i j=true):(rd (Hg (.int i) (.int j)):DM D)=Pure.pure (.int (i^j.toNat)):=bH λM=>by simp[cC,h]
set_option tactic.hygienic true in
theorem bits_le(h:i.natAbs<2^n):Builtin.Int.intBits i<=n:=by
 unfold Builtin.Int.intBits;split
 ·exact Vn _
 ·rename_i h0;have:i.natAbs≠0:=by intro z;apply h0;simp;lia
  exact (Nat.log2_lt this).mpr h
theorem QJ(h:i.natAbs<2^64):eY i j=true:=by
 unfold eY;have:¬ (Builtin.Int.intBits i > shortFactorBits):=by have:=bits_le h;unfold shortFactorBits;lia
 simp[this]
theorem Je(h:j.natAbs<2^64):eY i j=true:=by
 unfold eY;have:¬ (Builtin.Int.intBits j > shortFactorBits):=by have:=bits_le h;unfold shortFactorBits;lia
 simp[this]
theorem Il(h0:0<j)(h:j.natAbs<2^1000):jU i j=true:=by
 unfold jU;have a:Builtin.divisionGoesByPylong i j=false:=by
  unfold Builtin.divisionGoesByPylong;have hj:j.natAbs≠0:=by lia
  have hl:j.natAbs.log2<1000:=(Nat.log2_lt hj).mpr h;have h0':(j==0)=false:=by simp;lia
  simp only[h0'];have:¬ (j.natAbs.log2 / 30+1 > 300):=by lia
  simp[this]
 simp[a,h0]
theorem xK{a b:Nat}(h0:0<b):(rd (gF (.int (a:Int)) (.int (b:Int))):DM D)=Pure.pure (.int ((a%b:Nat):Int)):=by rw[Ol (by lia),Int.natCast_emod]
def nD(n:Nat):D:=.int (n:Int)
def nT(l:List Nat):D:=.tup (l.map nD)
theorem oK{α:Type}{l:List α}{i:Nat}{a:α}(h:l[i]?=some a):atI l (i:Int)=some a:=by
 have hi:=(RK.mp h).1;unfold atI ixN;rw[R1 (by lia),R1 (by lia)]
 simpa using h
theorem Bl{l:List D}{i:Nat}{a:D}(h:l[i]?=some a):(rd (eG (.tup l) (.int (i:Int))):DM D)=Pure.pure a:=bH λM=>oK h
theorem HH{l:List D}{i:Nat}{a:D}(h:l[i]?=some a):(rd (eG (.lst l) (.int (i:Int))):DM D)=Pure.pure a:=bH λM=>oK h
theorem Oj{l:List Nat}{i:Nat}{a:Nat}(h:l[i]?=some a):(rd (eG (nT l) (.int (i:Int))):DM D)=Pure.pure (nD a):=Bl (by simp[h])
@[simp] theorem Q8(l:List D):(rd (jC [.tup l]):DM D)=Pure.pure (.int (l.length:Int)):=id rfl
@[simp] theorem Q6(l:List D):(rd (jC [.lst l]):DM D)=Pure.pure (.int (l.length:Int)):=id rfl
@[simp] theorem Q7(l:List Int):(rd (jC [.scr l]):DM D)=Pure.pure (.int (l.length:Int)):=id rfl
@[simp] theorem Rg(l:List D):(rd (pH [.lst l]):DM D)=Pure.pure (.tup l):=id rfl
@[simp] theorem Ri(l:List D):(rd (pH [.tup l]):DM D)=Pure.pure (.tup l):=id rfl
theorem sJ:∀l:List Int,intsOf (l.map D.int)=some l
 |[]=>rfl
 |i::l=>by simp[intsOf,sJ l]
theorem jX:∀l:List Nat,intsOf (l.map nD)=some (l.map λn:Nat=>(n:Int))
 |[]=>rfl
 |i::l=>by simp[intsOf,nD];exact jX l
theorem rG:∀l:List Nat,(l.map λn:Nat=>(n:Int)).sum=((l.sum:Nat):Int)
 |[]=>rfl
 |i::l=>by simp[rG l]
@[simp] theorem MK(l:List Nat):(rd (yq [nT l]):DM D)=Pure.pure (nD l.sum):=bH λM=>by show (intsOf (l.map nD)).map _=_;rw[jX];simp[nD,rG]
@[simp] theorem Rc(l:List Nat):(rd (yq [.lst (l.map nD)]):DM D)=Pure.pure (nD l.sum):=bH λM=>by show (intsOf (l.map nD)).map _=_;rw[jX];simp[nD,rG]
@[simp] theorem Ey{n:Nat}(h:n<2^62):lB [.int (n:Int)]=some (.fix ((List.range n).map nD)):=by
 have:nj (n:Int)=true:=by unfold nj;exact S5 ⟨by lia,by lia⟩
 simp[lB,this,m9,nD]
@[simp] theorem Rp(l:List D):nU (.tup l)=some (.fix l):=id rfl
theorem vy(h:l.length<=1000000):wW l=Pure.pure (.tup l):=by
 have:cR l=true:=by unfold cR;exact S5 (by show l.length<=2^24;lia)
 simp[wW,this]
theorem gU(h:l.length<=1000000):lU l=Pure.pure (.lst l):=by
 have:cR l=true:=by unfold cR;exact S5 (by show l.length<=2^24;lia)
 simp[lU,this]
@[simp] theorem uA(fg:D->aa->DM aa)(ft:aa->DM Bool)(fb:aa->List D->DM (aa×List D))(ds:List D)(δ:aa)(l:List D):bR fg ft fb (.fix ds) δ l=bA fg ft fb ds δ l:=id rfl
theorem mZ(S:aa->Prop)(en:D->aa)(p:D->Bool)(e:D->D):∀ (ds:List D) (δ:aa) (l:List D),S δ->l.length + ds.length<=1000000->
  (∀d∈ds,∀δ,S δ->fg d δ=Pure.pure (en d)/\S (en d))->(∀d∈ds,ft (en d)=Pure.pure (p d))->(∀d∈ds,p d=true->fe (en d)=Pure.pure (e d))->∃δ',bA fg ft (bW fe) ds δ l=Pure.pure (δ',l++(ds.filter p).map e)
 |[],δ,l,_,_,_,_,_=>⟨δ,by simp[bA]⟩
 | d::ds,δ,l,s,hl,h0,h1,h2=>by
   have a:=h0 d (Tp ..) δ s;have b:=h1 d (Tp ..);have hl':l.length+(ds.length+1)<=1000000:=by simpa using hl
   have lt:l.length<sizeLine:=by show l.length<2^24;lia
   have ih:=λl' hl'=>mZ S en p e ds (en d) l' a.2 hl' (λx hx=>h0 x (S6 _ hx)) (λx hx=>h1 x (S6 _ hx)) (λx hx=>h2 x (S6 _ hx))
   by_cases hp:p d=true
   ·have c:=h2 d (Tp ..) hp;obtain⟨δ',q⟩:=ih (l++[e d]) (by simp;lia)
    refine⟨δ',?_⟩;simp[bA,a.1,b,hp,bW,c,lt,q]
   ·obtain⟨δ',q⟩:=ih l (by lia)
    refine⟨δ',?_⟩;simp[bA,a.1,b,hp,q]
@[simp] theorem xP(l:List D):Out.run .val l=Pure.pure (.lst l):=id rfl
theorem NB{ft:aa->DM Bool}{fe:aa->DM D}{x:Option D}{rest:aa}{ds:List D}(p:D->Bool)(e:D->D)(hl:ds.length<=1000000)(h1:∀d∈ds,ft (some d::rest)=Pure.pure (p d))(h2:∀d∈ds,p d=true->fe (some d::rest)=Pure.pure (e d)){β:Type}{k:aa×List D->DM β}{k':List D->DM β}(hk:∀q,k q=k' q.2):
  (cU (bA (gN 0) ft (bW fe) ds (x::rest) [])>>=k)=k' ((ds.filter p).map e):=by
 obtain⟨δ',q⟩:=mZ (fg:=gN 0) (ft:=ft) (fe:=fe) (λδ=>∃x,δ=x::rest) (λd=>some d::rest) p e ds (x::rest) [] ⟨x,rfl⟩ (by simpa using hl) (λd _ δ ⟨x,h⟩=>⟨by subst h;rfl,_,rfl⟩) h1 h2
 rw[q];simp[hk]
@[simp] theorem QK(m:DM α):(m>>=λa=>(Pure.pure a:DM α))=m:=by
 funext M;show DM.bind m _ M=m M;unfold DM.bind;cases m M with
 |none=>rfl
 |some r=>obtain⟨r,M'⟩:=r;cases r<;>rfl
def mY:Option D->List D->Option D
 |x,[]=>x
 |_,d::ds=>mY (some d) ds
theorem jW:∀ (as bs:List Int),PyData.eqvAll (as.map .int) (bs.map .int)=decide (as=bs)
 |[],[]=>by simp[PyData.eqvAll]
 |[],b::bs=>by simp[PyData.eqvAll]
 |a::as,[]=>by simp[PyData.eqvAll]
 |a::as,b::bs=>by rw[SX,SX];simp only[PyData.eqvAll,PyData.eqv,jW as bs];by_cases h:a=b<;>by_cases h2:as=bs<;>simp[h,h2]
theorem fZ:∀l:List Int,cV (l.map D.int)=some (l.map PyData.int)
 |[]=>rfl
 |i::l=>by simp[cV,toPy,fZ l]
theorem lay_ints:∀l:List Int,PyData.canLayAll0 (l.map PyData.int)=true
 |[]=>rfl
 |i::l=>by simp[PyData.canLayAll0,PyData.canLay0,lay_ints l]
theorem fL:∀ l:List Int,PyData.depthAll (l.map PyData.int)<=1
 |[]=>by simp[PyData.depthAll]
 |i::l=>by
   have:=fL l;simp only[List.map_cons,PyData.depthAll,PyData.depth]
   lia
@[simp] theorem Oh(i j:Int):(rd (cP (.int i) (.int j)):DM D)=Pure.pure (.bl (decide (i=j))):=bH λM=>by simp[cP,eqB,eqP,toPy,PyData.canLay0,PyData.depth,PyData.eqv];rw[S8];simp
@[simp] theorem Om(i j:Int):(rd (lW (.int i) (.int j)):DM D)=Pure.pure (.bl (!decide (i=j))):=bH λM=>by simp[lW,eqB,eqP,toPy,PyData.canLay0,PyData.depth,PyData.eqv];rw[S8];simp
@[simp] theorem Rr(i j:Str):(rd (cP (.str i) (.str j)):DM D)=Pure.pure (.bl (decide (i=j))):=id rfl
@[simp] theorem Rw(i j:Str):(rd (lW (.str i) (.str j)):DM D)=Pure.pure (.bl (!decide (i=j))):=id rfl
theorem wB(a b:List Int):eqB (.tup (a.map D.int)) (.tup (b.map D.int))=some (decide (a=b)):=by
 have:=fL a;have h:∀n,n<=1->1+n<=60:=λn h=>by lia
 simp only[eqB,eqP,toPy,fZ,Option.map_some,PyData.canLay0,lay_ints,PyData.depth,PyData.eqv,jW];simp
 lia
theorem lV(l:List Nat):nT l=.tup ((l.map λn:Nat=>(n:Int)).map D.int):=by simp[nT,nD,Function.comp_def]
theorem mK{a b:List Nat}:(a.map λn:Nat=>(n:Int))=(b.map λn:Nat=>(n:Int)) ↔ a=b:=Wd λx y (h:(x:Int)=(y:Int))=>by lia
@[simp] theorem Rq(a b:List Nat):(rd (cP (nT a) (nT b)):DM D)=Pure.pure (.bl (decide (a=b))):=bH λM=>by rw[lV,lV,cP,wB];simp[mK]
@[simp] theorem Rv(a b:List Nat):(rd (lW (nT a) (nT b)):DM D)=Pure.pure (.bl (!decide (a=b))):=bH λM=>by rw[lV,lV,lW,wB];simp[mK]
theorem zZ:∀l:List Bool,f9 (l.map D.bl)=some l
 |[]=>rfl
 |b::l=>by simp[f9,Hr,zZ l]
@[simp] theorem Ek(l:List Bool):(rd (qK [.lst (l.map D.bl)]):DM D)=Pure.pure (.bl (l.all id)):=bH λM=>by simp[qK,aM,zZ]
theorem FN:∀ l:List Nat,f9 (l.map nD)=some (l.map λn=>n != 0)
 |[]=>rfl
 |b::l=>by simp only[List.map_cons,f9,FN l,nD,Hr];congr 2;rw[S8];simp
@[simp] theorem Q5(l:List Nat):(rd (J1 [nT l]):DM D)=Pure.pure (.bl (l.any (·!= 0))):=bH λM=>by simp[J1,nT,FN,List.any_map]
theorem vq(h:∀M,tyOf d M=some t)(hc:tys.contains c=true):(rd (iB [d,.ty c]):DM D)=Pure.pure (.bl (By t c)):=bH λM=>by simp only[iB,h M,Option.bind_some,hc,if_true]
@[simp] theorem Rf(b:Bool):(rd (jL (.bl b)):DM Bool)=Pure.pure b:=id rfl
def Ho(d:D):Prop:=∃s,(rd (tM [d]):DM D)=Pure.pure (.str s)
theorem JD(h:toPy d=some p)(h1:p.showable=true)(h2:p.depth<=60)(h3:dF p<=sizeLine):Ho d:=⟨p.shown,bH λM=>by simp[tM,Hj,h,h1,h2,h3]⟩
theorem Fv{l:List Int}(h:∀ i∈l,i.natAbs<2 ^ 1000):PyData.showableAll (l.map PyData.int)=true:=by
 induction l with
 |nil=>rfl
 | cons i l ih=>
   have h0:=h i (by simp)
   have:i.natAbs.log2<1920:=by
    rcases T6 i.natAbs with z | z
    ·rw[z];decide
    ·exact RQ ((Nat.log2_lt (by lia)).mpr h0) (by decide)
   simp[PyData.showableAll,PyData.showable,this,ih λi hi=>h i (by simp[hi])]
theorem vV:∀l:List Int,fK (l.map PyData.int)=1923*l.length
 |[]=>rfl
 |i::l=>by simp only[List.map_cons,fK,dF,vV l,List.length_cons];lia
@[simp] theorem Rj(l m:List D):QH [.tup l,.tup m]=some (.fix (pairs l m)):=id rfl
def Rn{α:Type}(m:DM α)(M:Mo)(Q:α->Mo->Prop):Prop:=∃a M',m M=some (.ok a,M')/\Q a M'
theorem Rn.bind(h:Rn m M Q1)(k:∀a M',Q1 a M'->Rn (f a) M' Q):Rn (m>>=f) M Q:=by obtain⟨a,M',e,q⟩:=h;obtain⟨b,M2,e2,q2⟩:=k a M' q;refine⟨b,M2,?_,q2⟩;show DM.bind m f M=_;unfold DM.bind;rw[e];exact e2
theorem Rn.pure(q:Q a M):Rn (Pure.pure a) M Q:=⟨a,M,rfl,q⟩
theorem Rn.mono{α:Type}{m:DM α}{Q R:α->Mo->Prop}(h:Rn m M Q)(k:∀a M',Q a M'->R a M'):Rn m M R:=by obtain⟨a,M',e,q⟩:=h;exact⟨a,M',e,k a M' q⟩
theorem Rn.rd(h:f M=some a)(q:Q a M):Rn (L3.rd f) M Q:=⟨a,M,by unfold L3.rd;rw[h];rfl,q⟩
theorem Rn.bindRd(a:α)(h:f M=some a)(q:Rn (k a) M Q):Rn (L3.rd f>>=k) M Q:=Rn.bind (Rn.rd h (Q:=λb M'=>b=a/\M'=M) ⟨rfl,rfl⟩) (λb M' ⟨e1,e2⟩=>by rw[e1,e2];exact q)
theorem Rn.call(hp:ds.length=p)(h:Rn (fb (bx n ds)) M λr M'=>∃d,r=.rt d/\Q d M'):Rn (aG p n fb ds) M Q:=by
 unfold aG;rw[R1 hp];refine Rn.bind h λr M' ⟨d,e,q⟩=>?_
 subst e;exact Rn.pure q
structure Sb(p:Nat)(M M':Mo):Prop where
 le:M.length<=M'.length
 keep:∀q,q≠p->q<M.length->M'[q]?=M[q]?
theorem Sb.refl:Sb p M M:=⟨RX _,λz z z=>rfl⟩
theorem Sb.trans(h:Sb p M M1)(k:Sb p M1 M2):Sb p M M2:=⟨R7 h.le k.le,λq hq hl=>(k.keep q hq (RQ hl h.le)).trans (h.keep q hq hl)⟩
theorem Sb.set:Sb p M (M.set p o):=⟨by simp,λq hq hl=>T7 (λz=>hq z.symm)⟩
theorem Sb.push:Sb p M (M++[o]):=⟨by simp,λq hq hl=>RZ hl⟩
theorem Sb.at(h:Sb p M M')(hq:q≠p)(e:M[q]?=some o):M'[q]?=some o:=(h.keep q hq (RK.mp e).1).trans e
theorem Sb.new(h:M'.length=M.length\/M.length<=M'.length)(hq:M.length<=q)(k:Sb q M' M2)(h1:Sb p M M'):Sb p M M2:=⟨R7 h1.le k.le,λr hr hl=>(k.keep r (by lia) (RQ hl h1.le)).trans (h1.keep r hr hl)⟩
theorem Jc(h:l.length<=1000000):dW l M=some (.ok (.ref M.length),M++[.lst l]):=by
 have:cR l=true:=by unfold cR;exact S5 (by show l.length<=2^24;lia)
 unfold dW;rw[R1 this]
theorem Rn.dW(h:l.length<=1000000)(q:Rn (k (.ref M.length)) (M++[.lst l]) Q):Rn (L3.dW l>>=k) M Q:=Rn.bind ⟨_,_,Jc h,(⟨rfl,rfl⟩:D.ref M.length=.ref M.length/\M++[.lst l]=M++[.lst l])⟩ (Q1:=λa M'=>a=.ref M.length/\M'=M++[.lst l]) (λa M' ⟨e1,e2⟩=>by rw[e1,e2];exact q)
theorem sS{n:Nat}{l:List D}{i:Nat}(h:M[n]?=some (.lst l))(hi:l[i]?=some a):eG (.ref n) (.int (i:Int)) M=some a:=by show (aM (.ref n) M).bind _=_;simp only[aM,h,Option.bind_some];exact oK hi
theorem Du(h:i<n):ixN n (i:Int)=some i:=by unfold ixN;rw[R1 (by lia),R1 (by lia)];simp
theorem p6{n:Nat}{l:List D}{i:Nat}(h:M[n]?=some (.lst l))(hi:i<l.length):xW (.ref n) (.int (i:Int)) v M=some (.ok (),M.set n (.lst (l.set i v))):=by delta xW;dsimp only;rw[h];dsimp only;rw[Du hi]
theorem ji(h:M[n]?=some (.lst l))(hl:l.length<1000000):Ad (.ref n) [v] M=some (.ok .non,M.set n (.lst (l++[v]))):=by
 have:l.length<sizeLine:=by show l.length<2^24;lia
 delta Ad;dsimp only;rw[h];dsimp only;rw[R1 this]
theorem Rn.run(h:m M=some (.ok a,M'))(q:Rn (k a) M' Q):Rn (m>>=k) M Q:=Rn.bind (Q1:=λb M2=>b=a/\M2=M') ⟨a,M',h,rfl,rfl⟩ (λb M2 ⟨e1,e2⟩=>by rw[e1,e2];exact q)
theorem bC(I:Nat->aa->Mo->Prop):∀ (ds:List D) (i:Nat) (δ:aa) (M:Mo),I i δ M->(∀ j d δ M,ds[j]?=some d->I (i + j) δ M->Rn (tg d δ >>= fb) M λr M'=>∃ δ',r=.nx δ'/\I (i + j + 1) δ' M')->Rn (forL tg fb ds δ) M λr M'=>∃ δ',r=.nx δ'/\I (i + ds.length) δ' M'
 |[],i,δ,M,h,_=>Rn.pure ⟨δ,rfl,h⟩
 | d::ds,i,δ,M,h,st=>by
   have s:=st 0 d δ M rfl h;have e:forL tg fb (d::ds) δ=(tg d δ>>=fb)>>=λr=>match r with
    |.nx δ2=>forL tg fb ds δ2
    |.ct δ2=>forL tg fb ds δ2
    |.bk δ2=>Pure.pure (.nx δ2)
    |.rt d=>Pure.pure (.rt d):=by rw[aZ];rfl
   rw[e];refine Rn.bind s λr M' ⟨δ',e,h'⟩=>?_
   subst e;have ih:=bC I ds (i+1) δ' M' h' (λj d δ M hj hI=>by
    have:=st (j+1) d δ M (by simpa using hj) (by rw[show i+(j+1)=i+1+j by lia];exact hI)
    rw[show i+1+j+1=i+(j+1)+1 by lia];exact this)
   rw[show i+(d::ds).length=i+1+ds.length by simp;lia]
   exact ih
section
variable{X:Cx}{E:XK}
theorem Dq:PGet X (λx y H Q=>∃p xs i v,x=.ref p/\y=.int i/\0<=i/\SqL X.K H p xs/\atI xs i=some v/\Q v H):=by
 intro Xp s σ H x y ov iv Q I rx ry h;obtain⟨p,xs,i,z,rfl,rfl,h0,hq,he,q⟩:=h;cases rx;obtain⟨t,rfl⟩:=ry;obtain⟨its,r,pl,hz⟩:=I.list hq;obtain⟨j,h1,h2,h3,h4,h5⟩:=atI_get he;obtain⟨w,ew,rw'⟩:=r.get h2;have hl:=r.length;have hn:=line63;have fin:EP X Xp σ Q w s:=⟨z,H,I,rw',q⟩;have hj:i.toNat=j:=by rw[seqIndex_of h0 h5]at h1;exact RP h1
 exact wpAny_getItem_list pl.isList h0 (by lia) (by rw[hj];simpa using ew) fin
def K7:D->D->Mo->Option D
 |x,.int i,M=>if 0<=i then (aM x M).bind λl=>atI l i else none
 |_,_,_=>none
set_option tactic.hygienic true in
theorem N6:PGet X (rD X.mg E (λx y=>rd (K7 x y))):=by
 intro Xp s σ H x y ov iv Q I rx ry h;obtain⟨ρ,M,dx,dy,j,cx,cy,go⟩:=h;obtain⟨d,e,p⟩:=go.rd;unfold K7 at e;split at e
 ·cases cy;split at e
  ·rename_i h0;obtain⟨l,h1,e1⟩:=Sw.mp e;obtain⟨a,xs,rfl,ha,c⟩:=cW j cx h1;obtain⟨w,e2,cw⟩:=c.at e1;exact Dq (X:=X) Xp s σ H _ _ ov iv Q I rx ry ⟨_,_,_,_,rfl,rfl,h0,SqL.of ha,e2,p ρ H _ .refl j cw⟩
  ·cases e
 ·cases e
theorem Ip(ho:DE X E o fo)(hi:DE X E i fi)(hop:bM X E (inplaceOp op) gop)(he:DE X E e fe)
  (ha:∀ov iv new,augStore i ov iv new=(do holding [new,ov,iv] (setItem ov iv new);release [new,ov,iv] [];pure .next):=by intros;rfl) :
  DS X E (.AugAssign (.Subscript o i tpos) op e pos) (λδ=>fo δ>>=λa=>fi δ>>=λk=>rd (K7 a k)>>=λx=>fe δ>>=λy=>gop x y>>=λz=>xW a k z>>=λw=>pure (.nx δ)):=
 ⟨PS.mono (ps_augS (tip:=rD X.mg E gop) ho.h hi.h (N6 (E:=E)) he.h hop (vz (E:=E)) ha) fun D σ H h=>by
  obtain⟨ρ,δ,M,ev,j,g1⟩:=h;refine⟨ρ,δ,M,ev,j,g1.bind λρ1 H1 M1 a da e1 j1 c1 g2=>⟨ρ1,δ,M1,ev.mono e1,j1,g2.bind λρ2 H2 M2 k dk e2 j2 c2 g3=>⟨ρ2,M2,da,dk,j2,c1.mono e2,c2,g3.bind λρ3 H3 M3 x dx e3 j3 c3 g4=>?_⟩⟩⟩
  have ev3:=((ev.mono e1).mono e2).mono e3;refine⟨ρ3,δ,M3,ev3,j3,g4.bind λρ4 H4 M4 y dy e4 j4 c4 g5=>⟨ρ4,M4,dx,dy,j4,c3.mono e4,c4,g5.bind λρ5 H5 M5 z dz e5 j5 c5 g6=>?_⟩⟩
  refine⟨ρ5,M5,da,dk,dz,j5,(((c1.mono e2).mono e3).mono e4).mono e5,((c2.mono e3).mono e4).mono e5,c5,g6.bind λρ6 H6 M6 _ _ e6 j6 _ g7=>?_⟩
  exact g7.pure ρ6 H6 σ .refl j6 (((ev3.mono e4).mono e5).mono e6)⟩
end
end L3
namespace L3
open PySem PySem.Spec L2
open PyProof.Rows hiding St
theorem Cu:bootBuiltins "enumerate"=some (.type "enumerate"):=by decide +kernel
def dY(i:Nat):List D->List D
 |[]=>[]
 |x::xs=>.tup [.int (i:Int),x]::dY (i+1) xs
def jV:List D->Option Itn
 |[x]=>(frz x).map λp=>.fix (dY 0 p.2)
 |_=>none
theorem uv:∀ (l:List D) (k i:Nat),(dY k l)[i]?=(l[i]?).map λx=>.tup [.int ((k + i:Nat):Int),x]
 |[],k,i=>by simp[dY]
 |x::xs,k,0=>by simp[dY]
 |x::xs,k,i+1=>by simp only[dY,List.getElem?_cons_succ,uv xs (k+1) i];rw[show k+1+i=k+(i+1) by lia]
theorem Iz{mg:Str->Option Value}{ρ:Rh}{H:Hp}{K:PySem.W.Frag}{b:Bool}{l:Addr}{xs:List V}{ds:List D}(n1:l∉ρ)(h1:H l=some (if b then .tup xs else .lst xs))(c1:Cvs mg ρ H xs ds):ItOk mg ρ H (Py K b l) (.fix (dY 0 ds)) where
 item:=λi ρ' H' M' d e j q=>by
  have hq:(dY 0 ds)[i]?=some d:=RP q;rw[uv]at hq;obtain⟨dx,e1,rfl⟩:=RL.mp hq;obtain⟨x,hx,cx⟩:=c1.get e1;have k1:=(e.keep _ _ h1 n1 ne_if).2;refine⟨⟨xs,x,pF k1,hx⟩,λv H2 z=>?_⟩
  obtain⟨p,hp,rfl,z⟩:=z;obtain⟨x',hx',rfl⟩:=z xs (pF k1);rw[hx]at hx';cases hx';rw[Ti];exact⟨.lay hp,j.lay _ hp,.tup (j.fresh hp) upd_same (.cons (.int _) (.cons ((cx.kp e).mono (.lay hp)) .nil))⟩
 stop:=λi ρ' H' M' e j q=>by have hq:(dY 0 ds)[i]?=none:=RP q;rw[uv,Option.map_eq_none_iff]at hq;exact⟨xs,pF (e.keep _ _ h1 n1 ne_if).2,Ss.mpr (by rw[c1.len];exact Ss.mp hq)⟩
theorem lN(hg:Gl X "enumerate")(hm:X.mg "enumerate"=none)(ha:DA X E [a] fa)(hs:notStar a=true:=by rfl):
  DI X E (.Tuple elts kt tp) (.Call (.Name "enumerate" p) [a] [] pos) (λδ=>fa δ>>=λl=>opt (jV l)):=⟨by
 intro Xp s σ H R I h;obtain⟨ρ,δ,M,ev,j,g1⟩:=h;refine Call_ (ld_blt I hg hm Cu (Th (thn (ha.h.h pos Xp s σ H (λvs H1=>∃ρ1 M1 ds,Ext ρ H ρ1 H1/\J X.mg ρ1 M1 H1/\Cvs X.mg ρ1 H1 vs ds/\Go X.mg E (ItOk X.mg) R ρ1 H1 (opt (jV ds)) M1) I ⟨ρ,δ,M,ev,j,g1.bind λρ1 H1 M1 vs ds e1 j1 c1 g2=>⟨ρ1,M1,ds,e1,j1,c1,g2⟩⟩) λus s1 h1=>?_) (aW hs) (by rfl)))
 obtain⟨vs,H1,I1,rv,ρ1,M1,ds,e1,j1,c1,g2⟩:=h1;obtain⟨itn,ei,q⟩:=g2.opt;unfold jV at ei;split at ei;rotate_left
 ·cases ei
 obtain⟨⟨b,l⟩,f1,rfl⟩:=RL.mp ei;cases c1 with
 |cons k1 c1=>
 cases c1;obtain⟨a1,xs,rfl,n1,h1,cx⟩:=Dk (K:=X.K) k1 f1;cases rv with
 |cons r1 rv=>
 cases rv;cases r1;obtain⟨its1,w1,p1,_⟩:=I1.seqS (pF (K:=X.K) h1);refine Ah p1 λh' a1' a2' a3 a4=>wpAny_pyIter_enum a1' ?_
 have lt1:@LT.lt Nat _ a1 s1.heap.objs.size:=p1.lt;have I2:Inv X Xp σ H1 { s1 with heap:=h' }:=I1.kept (t':=s1.toks) a4
 refine⟨_,_,_,_,H1,rfl,I2,FW (b:=b) (e:=s1.heap.objs.size+1) (it:=s1.heap.objs.size) (l:=a1) (λ(h:@Eq Nat _ _)=>by lia) (λ(h:@Eq Nat _ _)=>by lia) (λ(h:@Eq Nat _ _)=>by lia),⟨⟨_,a1'⟩,a2'.1⟩,λb hb=>?_,q ρ1 H1 _ .refl j1 (Iz n1 h1 cx)⟩
 refine I1.fpOk ?_ (I1.hok.fresh ?_)<;>(simp only[List.mem_cons,List.mem_nil_iff,or_false]at hb;rcases hb with rfl | rfl<;>lia)⟩
set_option tactic.hygienic true in
theorem Gq{i:Nat}{cl:List (Str×Addr)}{own:List Str}{js:List Nat}{fr:List Str}{f0:List Expr}{gs:List Comprehension}{fi:aa->DM Itn}{fg:D->aa->DM aa}{ft:aa->DM Bool}{fb:aa->List D->DM (aa×List D)}
  {bodyK:Cx->Addr->Sem Fin->Sem Fin}{W:Cx->Addr->(Shared->Prop)->Shared->Prop} (o:Out) (hN:X.N.Nodup) (hi0:X.N[i]?=some x) (hx:Loc X.env.scope x) (hc:X.calm=true) (T:CompG X scope cl own js fr) (hi:DI X E t0 i0 fi)
  (hturn:∀(Y:Cx) it acc,compTurn (.ListComp elt (⟨t0,i0,f0,0⟩::gs) scope pos) 0 (.ref it) (.ref acc) Y.env=turnOf ⟨t0,i0,f0,0⟩ (bodyK Y acc) (.compLoop (.ListComp elt (⟨t0,i0,f0,0⟩::gs) scope pos) 0 (.ref it) (.ref acc) Y.env) (.ref it) Y.env)
  (hW:∀Y acc,jM Y.prog Y.w Y.A (bodyK Y acc) (W Y acc)) (hmono:∀Y acc P P' s,(∀s,P s->P' s)->W Y acc P s->W Y acc P' s)
  (hg:∀Xp m fp C s₂ H₂,DG (X.aU Xp scope (cellsFrom m scope.names cl) (own++fr) fp C s₂ H₂) E0 t0 fg) (ht:∀Xp m fp C s₂ H₂,DTs (X.aU Xp scope (cellsFrom m scope.names cl) (own++fr) fp C s₂ H₂) E0 f0 ft)
  (hb:∀Xp m fp C s₂ H₂ acc,BodyOk (X.aU Xp scope (cellsFrom m scope.names cl) (own++fr) fp C s₂ H₂) acc (W (X.aU Xp scope (cellsFrom m scope.names cl) (own++fr) fp C s₂ H₂) acc) fb)
  (hsw:swapsWith (.ListComp elt (⟨t0,i0,f0,0⟩::gs) scope pos) (some (.Name x px)) spos.line X.env=pure true:=by rfl)
  (hs:∀y,foldedSetIterable i0 X.env y=pure y:=by intro _;rfl) (hf:X.fn x=true\/X.env.scope.names.lookup x=some .local:=by first | exact .inl rfl | exact .inr rfl | assumption) :
  DS X E (.Assign [.Name x px] (.ListComp elt (⟨t0,i0,f0,0⟩::gs) scope pos) spos) (λδ=>(fi δ>>=λit=>cU (bR fg ft fb it (aR own.length js δ) [])>>=λp=>o.run p.2)>>=λd=>pure (.nx (δ.set i (some d)))):=⟨by
 intro Xp s σ H D I h;obtain⟨ρ,δ,M,ev,j,g0⟩:=h;let Q:VK:=λv H'=>D.nx (σ.set i (some v)) H'
 have g1:Go X.mg E (Cv X.mg) Q ρ H (fi δ>>=λit=>cU (bR fg ft fb it (aR own.length js δ) [])>>=λp=>o.run p.2) M:=g0.bind λρ1 H1 M1 v d e1 j1 c1 g2=>g2.pure ρ1 H1 _ .refl j1 ((ev.mono e1).set c1)
 rw[exec_Assign_Name_used _ _ _ _ hsw];refine RD (Va (RD ?_));show wpAny _ _ (do let _ <-comprehension (.ListComp elt (⟨t0,i0,f0,0⟩::gs) scope pos) scope X.env _ (newList []) false (eval i0 X.env) (some (assign (.Name x px) X.env))) _ _ s
 refine RD (Sg (V7 (cl:=cl) (use:=some (assign (.Name x px) X.env)) (Q:=λu s'=>∃v H',Inv X Xp (σ.set i (some v)) H' s'/\Q v H') rfl hs T.clos T.kind T.names ?_) (λ_ s' ⟨v,H',I',q'⟩=>RJ (RJ ⟨_,H',I',q'⟩)) λu u e=>e)
 refine thn (hi.h Xp s σ H (λJt H1=>∃ρ1 M1 it,Ext ρ H ρ1 H1/\J X.mg ρ1 M1 H1/\ItOk X.mg ρ1 H1 Jt it/\Go X.mg E (Cv X.mg) Q ρ1 H1 (cU (bR fg ft fb it (aR own.length js δ) [])>>=λp=>o.run p.2) M1) I
  ⟨ρ,δ,M,ev,j,g1.bind λρ1 H1 M1 Jt it e1 j1 iok g2=>⟨ρ1,M1,it,e1,j1,iok,g2⟩⟩) λv s1 h1=>thn h1 λitv s2 h2=>?_
 obtain⟨it,fp,tn,Jt,H2,rfl,I2,Tn,st2,f2,ρ1,M1,itn,x1,j1,iok,g2⟩:=h2;have hrun:∃δf lf Mf,bR fg ft fb itn (aR own.length js δ) [] M1=some (.ok (δf,lf),Mf)/\Go X.mg E (Cv X.mg) Q ρ1 H2 (o.run lf) Mf:=by
  obtain⟨r,e,p⟩:=g2;have e:DM.bind _ _ M1=some r:=e;unfold DM.bind at e;split at e
  ·cases e
  ·rename_i c M' em;obtain⟨a,M'',_,z⟩:=lX em;cases z
  ·rename_i a M' em;obtain⟨a',M'',e1,z⟩:=lX em;cases z;exact⟨a.1,a.2,M',e1,r,e,p⟩
 obtain⟨δf,lf,Mf,hrun,g3⟩:=hrun;unfold newList;refine SQ (o4 ?_);have hlt:∀b∈fp,b<s2.heap.objs.size:=λb hb=>by obtain⟨o,e,_⟩:=Tn.obj _ _ st2 b hb;exact RN e
 dsimp only;generalize hP:s2.heap.push { cls:=.type "list",dict:=none,data:=.seq ([]:List Value).toArray }=hp1;have hCs:hp1.objs.size=s2.heap.objs.size+1:=by rw[<-hP,Sy]
 have hCe:hp1.objs.size+1=(hp1.push { cls:=.type "dict",data:=.dict #[] }).objs.size:=by rw[Sy]
 have hC:s2.heap.objs.size<=hp1.objs.size:=by lia
 have hne:hp1.objs.size≠s2.heap.objs.size:=by lia
 have old1:∀b o,s2.heap.get? b=some o->hp1.get? b=some o:=λb o e=>by rw[<-hP];exact RG _ e
 have old:∀b o,s2.heap.get? b=some o->(pushCells (hp1.push { cls:=.type "dict",data:=.dict #[] }) scope.names).get? b=some o:=λb o e=>Uu _ _ _ _ (RG _ (old1 b o e))
 have new:∃n,(pushCells (hp1.push { cls:=.type "dict",data:=.dict #[] }) scope.names).get? s2.heap.objs.size=some { cls:=.type "list",data:=.seq #[] n }:=⟨_,Uu _ _ _ _ (RG _ (by rw[<-hP];exact RM _ rfl))⟩
 have ns:(pushCells (hp1.push { cls:=.type "dict",data:=.dict #[] }) scope.names).Ns hp1.objs.size λu=>none:=(Heap.Ns.new hp1 (.type "dict")).keeps (Uu _ _)
 have hfree:H2 s2.heap.objs.size=none:=I2.hok.fresh (RX _);have IC:=uM (t':=s2.toks) T I2 f2 hlt old (RX _) hC hne hCe (R7 hC (Nat.le_succ _)) (T9 _) (Nat.lt_succ_of_le hC) rfl new ns;have OK:=IC.ok;have fok:∀H',(∀b∈fp,H' b=none)->∀b∈fp,FpOk (X.aU Xp scope (cellsFrom (hp1.objs.size+1) scope.names cl) (own++fr) fp hp1.objs.size s2 H2) [] H' b:=λH' hn b hb=>by
  obtain⟨_,g2,g3,g4,g5,g6⟩:=f2 b hb;refine⟨hn b hb,R5 (RQ (hlt b hb) hC),λhm=>?_,.inl hb,(OK.exf b hb).2,λp hp=>g6 p (by simpa using hp)⟩
  rcases R8.mp (I2.stkSub _ hm) with z | z
  ·exact g2 z
  ·exact g3 z
 have fp1:∀b∈fp,upd H2 s2.heap.objs.size (.lst []) b=none:=λb hb=>by rw[upd_ne (R5 (hlt b hb))];exact (f2 b hb).1
 have jb:=j1.begin hfree;have nf:=j1.fresh hfree;have st:Cst (X.aU Xp scope (cellsFrom (hp1.objs.size+1) scope.names cl) (own++fr) fp hp1.objs.size s2 H2) [] s2.heap.objs.size (ρ1.hold s2.heap.objs.size) (upd H2 s2.heap.objs.size (.lst [])) (aR own.length js δ) [] M1 fp
   { s2 with heap:=pushCells (hp1.push { cls:=.type "dict",data:=.dict #[] }) scope.names,toks:=s2.toks }:=
  ⟨_,_,_,[],IC,.refl (λz=>nf (.inl z)),jb,(uf (ev.mono x1) _ _).kp (mW hfree),upd_same,.nil,fp1⟩
 have tn0:tn 0 (pushCells (hp1.push { cls:=.type "dict",data:=.dict #[] }) scope.names):=Tn.keep _ _ _ st2 (λb u o e=>old b o e)
 have loop:codeAny (model X.prog X.w) X.A (.compLoop (.ListComp elt (⟨t0,i0,f0,0⟩::gs) scope pos) 0 (.ref it) (.ref s2.heap.objs.size) (compEnvC scope (cellsFrom (hp1.objs.size+1) scope.names cl) hp1.objs.size X.env))
   (compPost (model X.prog X.w) X.A X.xe (some (assign (.Name x px) X.env)) (λu s'=>∃v H',Inv X Xp (σ.set i (some v)) H' s'/\Q v H') (.ref s2.heap.objs.size) hp1.objs.size) { s2 with heap:=pushCells (hp1.push { cls:=.type "dict",data:=.dict #[] }) scope.names,toks:=s2.toks }:=by
  refine Dz (X:=X.aU Xp scope (cellsFrom (hp1.objs.size+1) scope.names cl) (own++fr) fp hp1.objs.size s2 H2) hc rfl (hturn _ _ _) (hW _ _) (hmono _ _) (hg ..) (ht ..) (hb Xp (hp1.objs.size+1) fp hp1.objs.size s2 H2 s2.heap.objs.size) Tn iok (.head _) (mW hfree) fok st tn0 hrun λs' c'=>?_
  obtain⟨σ4,H4,ρ4,ys,I4,x4,j4,ev4,ha4,cl4,fr4⟩:=c'.ex;obtain⟨m4,hn4,_⟩:=I4.loc;have hsb0:Heap.SameBut hp1.objs.size s'.heap s'.heap:=⟨rfl,λu u=>rfl⟩
  have un:=yx I4.base hsb0 hC;have ok4:=uq I4.hok hsb0 I4.free;have IO:Inv X Xp σ H4 s':=I2.call' (s':=s') (ch:=fp) (I4.os) un ok4 I4.bare (λb hb=>by obtain⟨_,g2,g3,g4,g5,g6⟩:=f2 b hb;exact⟨g4,g2,g5,g6⟩)
  have fC:FpOk X Xp H4 hp1.objs.size:=I2.fpOk hC I4.free;obtain⟨fC1,fC2,fC3,fC4,fC5,fC6⟩:=fC;show wpAny _ _ (assign (.Name x px) X.env (.ref s2.heap.objs.size)) _ _ s';refine wpAny_assign_Name (store_ok2 IO hN hi0 hx (v:=.ref s2.heap.objs.size) rfl (λs'' I'' hsb=>?_) hf)
  obtain⟨a,sb,ha⟩:=hsb;have nC:hp1.objs.size≠a:=by
   rcases ha with z | z
   ·rw[z];exact fC2
   ·exact λe=>fC5 x a z e.symm
  refine⟨m4,hn4.sameBut sb nC,λh' hsb'=>⟨.ref s2.heap.objs.size,H4,?_,o.fin hfree nf x4 j4 ha4 cl4 g3⟩⟩
  exact I''.turned (it:=hp1.objs.size) (t':=s''.toks) (λb o hb e=>hsb'.extBut b o hb e) fC1 fC2 fC4 (λy c e=>fC5 y c e) fC6
 show codeAny _ _ (.compStart _ 0 (.ref it) (.ref s2.heap.objs.size) (compEnvC scope (cellsFrom (hp1.objs.size+1) scope.names cl) hp1.objs.size X.env)) _ _;exact uY rfl rfl loop (Tn.self X.A 0 _ _ _ tn0 loop)⟩
theorem qP{i:Nat}{cl:List (Str×Addr)}{own:List Str}{js:List Nat}{fr:List Str}{f0:List Expr}{fi:aa->DM Itn}{fg:D->aa->DM aa}{ft:aa->DM Bool}{fe:aa->DM D}
  (o:Out) (hN:X.N.Nodup) (hi0:X.N[i]?=some x) (hx:Loc X.env.scope x) (hc:X.calm=true) (T:CompG X scope cl own js fr) (hi:DI X E t0 i0 fi)
  (hg:∀Xp m fp C s₂ H₂,DG (X.aU Xp scope (cellsFrom m scope.names cl) (own++fr) fp C s₂ H₂) E0 t0 fg) (ht:∀Xp m fp C s₂ H₂,DTs (X.aU Xp scope (cellsFrom m scope.names cl) (own++fr) fp C s₂ H₂) E0 f0 ft)
  (he:∀Xp m fp C s₂ H₂,DE (X.aU Xp scope (cellsFrom m scope.names cl) (own++fr) fp C s₂ H₂) E0 elt fe)
  (hsw:swapsWith (.ListComp elt [⟨t0,i0,f0,0⟩] scope pos) (some (.Name x px)) spos.line X.env=pure true:=by rfl)
  (hs:∀y,foldedSetIterable i0 X.env y=pure y:=by intro _;rfl) (hf:X.fn x=true\/X.env.scope.names.lookup x=some .local:=by first | exact .inl rfl | exact .inr rfl | assumption) :
  DS X E (.Assign [.Name x px] (.ListComp elt [⟨t0,i0,f0,0⟩] scope pos) spos) (λδ=>(fi δ>>=λit=>cU (bR fg ft (bW fe) it (aR own.length js δ) [])>>=λp=>o.run p.2)>>=λd=>pure (.nx (δ.set i (some d)))):=
 Gq (bodyK:=λY acc=>sG elt (.ref acc) Y.env) (W:=λY acc P s=>wpAny (model Y.prog Y.w) Y.A (eval elt Y.env) (λx s1=>wpAny (model Y.prog Y.w) Y.A (call (.builtin "list.append") [.ref acc,x]) (λv s2=>P s2) (λv v=>False) s1) (λv v=>False) s) o hN hi0 hx hc T hi
  (λY it acc=>HW ..) (λY acc=>Dg) (λY acc P P' s hp h=>Sg h (λx s1 h1=>Sg h1 (λv s2 h2=>hp _ h2) λv v z=>z) λv v z=>z) hg ht (λXp m fp C s₂ H₂ acc=>zg rfl (he ..)) hsw hs hf
end L3
namespace L3
open PySem PySem.Spec L2
structure OCls(K:PySem.W.Frag)(mg:Str->Option Value)(c:Str)(C:Addr)(fs:List Str):Prop where
 at_:mg c=some (.ref C)
 cls:L2.Cls K C
 no:∀f∈fs,NoAttr K C f
theorem qW:∀ {ns:List Str}{xs:List V}{ds:List D}{d:D},Cvs mg ρ H xs ds->(ns.zip ds).lookup f=some d->∃ v,(ns.zip xs).lookup f=some v/\Cv mg ρ H v d
 |[],_,_,_,_,e=>by simp at e
 |n::ns,_,_,_,.nil,e=>by simp at e
 |n::ns,_,_,d,.cons (v:=v) c cs,e=>by
   rw[Wg,Vf]at e ⊢
   split at e
   ·cases e;exact⟨v,rfl,c⟩
   ·exact qW cs e
def uh(c f:Str):D->Mo->Option D
 |.obj k ns vs,_=>if k=c then (ns.zip vs).lookup f else none
 |.ref n,M=>match M[n]? with
   |some (.ins k ns vs)=>if k=c then (ns.zip vs).lookup f else none
   |_=>none
 |_,_=>none
set_option tactic.hygienic true in
theorem jz(O:OCls K mg c C fs)(hf:f∈fs)(he:DE X E e fe)
  (hb:attributeBase e f X.env (eval e X.env)=eval e X.env:=by rfl) (hK:X.K=K:=by rfl) (hM:X.mg=mg:=by rfl):DE X E (.Attribute e f pos) (λδ=>fe δ>>=λx=>rd (uh c f x)):=by
 subst hK hM;refine⟨PE.mono (pe_fld he.h hb) λσ H Q h=>?_⟩
 obtain⟨ρ,δ,M,ev,j,g1⟩:=h;refine⟨ρ,δ,M,ev,j,g1.bind λρ1 H1 M1 x dx e1 j1 c1 g2=>?_⟩
 obtain⟨d,ed,q⟩:=g2.rd;unfold uh at ed;split at ed
 ·split at ed
  ·rename_i hk;subst hk;cases c1 with
   |obj n m h l cs=>obtain⟨v,hv,cv⟩:=qW cs ed;rw[O.at_]at m;cases m;exact⟨_,_,_,_,v,rfl,h,O.cls,O.no f hf,hv,q ρ1 H1 _ .refl j1 cv⟩
  ·cases ed
 ·split at ed
  ·split at ed
   ·rename_i hm hk;subst hk;cases c1 with
    |ref hn=>obtain⟨C',dx',xs,m,h,l,cs⟩:=j1.obj _ _ _ hn hm;obtain⟨v,hv,cv⟩:=qW cs ed;rw[O.at_]at m;cases m;exact⟨_,_,_,_,v,rfl,h,O.cls,O.no f hf,hv,q ρ1 H1 _ .refl j1 cv⟩
   ·cases ed
  ·cases ed
 ·cases ed
def jZ:List D->Mo->Option (List D)
 |[.int j],_=>if -(2^62)<=j/\j<=2^20 then some ((List.range j.toNat).map nD) else none
 |_,_=>none
theorem ud:∀l:List Nat,Cvs mg ρ H (l.map λi:Nat=>V.int (i:Int)) (l.map nD)
 |[]=>.nil
 |n::l=>.cons (.int _) (ud l)
section
variable{X:Cx}{E:XK}{a:Expr}{fa:aa->DM (List D)}{p1 p2 pos1 pos2:Pos}
set_option tactic.hygienic true in
theorem uN(hc:X.calm=true)(hmL:X.mg "list"=none)(hm:X.mg "range"=none)(ha:DA X E [a] fa)(hgL:Gl X "list":=by rfl)(hg:Gl X "range":=by rfl)(hs:notStar a=true:=by rfl):
  DE X E (.Call (.Name "list" p1) [.Call (.Name "range" p2) [a] [] pos2] [] pos1) (λδ=>fa δ>>=λl=>rd (λM=>(jZ l M).map D.lst)):=⟨PE.mono (Ed hc hgL hmL hg hm ha.h.h hs) λσ H Q h=>by
 obtain⟨ρ,δ,M,ev,j,g1⟩:=h;refine⟨ρ,δ,M,ev,j,g1.bind λρ1 H1 M1 xs ds e1 j1 c1 g2=>?_⟩
 obtain⟨d,ed,q⟩:=g2.rd;obtain⟨l,el,rfl⟩:=RL.mp ed;unfold jZ at el;split at el
 ·split at el
  ·rename_i hb;cases el;obtain⟨v,rfl,k⟩:=c1.one;cases k;exact⟨_,rfl,hb.2,hb.1,λp hp=>q ρ1 _ _ (.lay hp) (j1.lay _ hp) (.lst (j1.fresh hp) upd_same (ud _))⟩
  ·cases el
 ·cases el⟩
end
section
variable{X:Cx}{E:XK}
def Ba:List D->Mo->Option D
 |[.bl b],_=>some (.int (if b then 1 else 0))
 |_,_=>none
theorem Cw:CallR X (.type "int") (λxs H Q=>∃ b,xs=[.bl b]/\Q (.int (if b then 1 else 0)) H):=by
 intro Xp s σ H xs us Q I rs h;obtain⟨b,rfl,q⟩:=h;cases rs with
 |cons r rr=>cases rr;cases r;exact call_int_bool ⟨.int (if b then 1 else 0),H,I.tok _,⟨_,rfl⟩,q⟩
theorem je:CallD X E (.type "int") (λl=>rd (Ba l)):=CallD.of Cw λvs H Q ρ M ds d j c e q=>by
 unfold Ba at e;split at e
 ·cases e;obtain⟨v,rfl,k⟩:=c.one;cases k;exact⟨_,rfl,q ρ H _ .refl j (.int _)⟩
 ·cases e
end
theorem uU(I:Nat->aa->List D->Mo->Prop):∀ (ds:List D) (i:Nat) (δ:aa) (l:List D) (M:Mo),I i δ l M->
  (∀j d δ l M,ds[j]?=some d->I (i+j) δ l M->Rn (fg d δ>>=λδ1=>ft δ1>>=λb=>if b then fb δ1 l else Pure.pure (δ1,l)) M λp M'=>I (i+j+1) p.1 p.2 M')->Rn (bA fg ft fb ds δ l) M λp M'=>I (i+ds.length) p.1 p.2 M'
 |[],i,δ,l,M,h,_=>Rn.pure h
 | d::ds,i,δ,l,M,h,st=>by
   have s:=st 0 d δ l M rfl h;have e:bA fg ft fb (d::ds) δ l=(fg d δ>>=λδ1=>ft δ1>>=λb=>if b then fb δ1 l else Pure.pure (δ1,l))>>=λp=>bA fg ft fb ds p.1 p.2:=by
    rw[aZ];show (fg d δ>>=λδ1=>ft δ1>>=λb=>(if b then fb δ1 l else Pure.pure (δ1,l))>>=λp=>bA fg ft fb ds p.1 p.2)=_
    congr 1;funext δ1;rw[aZ]
   rw[e];refine Rn.bind s λp M' h'=>?_
   have ih:=uU I ds (i+1) p.1 p.2 M' h' (λj d δ l M hj hI=>by
    have:=st (j+1) d δ l M (by simpa using hj) (by rw[show i+(j+1)=i+1+j by lia];exact hI)
    rw[show i+1+j+1=i+(j+1)+1 by lia];exact this)
   rw[show i+(d::ds).length=i+1+ds.length by simp;lia]
   exact ih
theorem Cm(h:Rn m M Q):Rn (cU m) M Q:=by obtain⟨a,M',e,q⟩:=h;exact⟨a,M',by unfold cU;rw[e],q⟩
theorem G5(hn:n<=1000)(q:Rn (k (.ref M.length)) (M++[.lst ((List.replicate n 0).map nD)]) Q):Rn (Lq (.lst [.int 0]) (nD n)>>=k) M Q:=by
 have e:qX (.lst [.int 0]) (nD n) M=some ((List.replicate n 0).map nD):=by
  show Bq [.int 0] (n:Int)=_;unfold Bq;rw[R1 (S5 ⟨by lia,by lia,by show _<=2^24;simp;lia⟩)]
  congr 1;simp[List.flatten_replicate_singleton,nD]
 show Rn ((rd (qX (.lst [.int 0]) (nD n))>>=dW)>>=k) M Q;rw[aZ];refine Rn.bindRd _ e ?_;exact Rn.dW (by simp;lia) q
end L3
namespace L3
open PySem PySem.Spec L2
open PyProof.Rows hiding St
def putN(f:Str):List Str->List Str
 |[]=>[f]
 |g::r=>if g=f then g::r else g::putN f r
def jF{α:Type}(f:Str)(v:α):List Str->List α->List α
 |[],_=>[v]
 |g::r,x::xs=>if g=f then v::xs else x::jF f v r xs
 |_::_,[]=>[]
theorem xr(f:Str)(v:V):∀ (ns:List Str) (xs:List V),ns.length=xs.length->putF f v (ns.zip xs)=(putN f ns).zip (jF f v ns xs)
 |[],[],_=>rfl
 |g::r,x::xs,h=>by
   show putF f v ((g,x)::r.zip xs)=_;unfold putF putN jF;by_cases e:g=f
   ·rw[R1 e,R1 e,R1 e];rfl
   ·rw[R3 e,R3 e,R3 e,xr f v r xs (by simpa using h)];rfl
theorem xu(f:Str)(v:α):∀ (ns:List Str) (xs:List α),ns.length=xs.length->(putN f ns).length=(jF f v ns xs).length
 |[],[],_=>rfl
 |g::r,x::xs,h=>by
   unfold putN jF;by_cases e:g=f
   ·rw[R1 e,R1 e];simpa using h
   ·rw[R3 e,R3 e,TF,TF,xu f v r xs (by simpa using h)]
theorem Cvs.put(c:Cv mg ρ H v d):∀ (ns:List Str) {xs:List V}{ds:List D},Cvs mg ρ H xs ds->Cvs mg ρ H (jF f v ns xs) (jF f d ns ds)
 |[],_,_,_=>.cons c .nil
 |g::r,_,_,.nil=>.nil
 |g::r,_,_,.cons h t=>by
   unfold jF;by_cases e:g=f
   ·rw[R1 e,R1 e];exact .cons c t
   ·rw[R3 e,R3 e];exact .cons h (Cvs.put c r t)
def vA(c f:Str)(o d:D):DM Unit:=λM=>match o with
 |.ref n=>match M[n]? with
   |some (.ins k ns vs)=>if k=c/\ns.length=vs.length/\ns.length<1000 then some (.ok (),M.set n (.ins k (putN f ns) (jF f d ns vs))) else none
   |_=>none
 |_=>none
section
variable{X:Cx}{E:XK}
set_option tactic.hygienic true in
theorem De{K:PySem.W.Frag}{mg:Str->Option Value}{c f:Str}{C:Addr}{fs:List Str}{o value:Expr}{fo fv:aa->DM D}{pos pos':Pos}(O:OCls K mg c C fs)(hf:f∈fs)(ho:DE X E o fo)(hv:DE X E value fv)
  (hs:swapsWith value (some (.Attribute o f pos')) pos.line X.env=pure false:=by rfl) (hK:X.K=K:=by rfl) (hM:X.mg=mg:=by rfl) :
  DS X E (.Assign [.Attribute o f pos'] value pos) (λδ=>fv δ>>=λd=>fo δ>>=λo=>vA c f o d>>=λz=>pure (.nx δ)):=by
 subst hK hM;refine⟨PS.mono (ps_fld ho.h hv.h hs) λD σ H h=>?_⟩
 obtain⟨ρ,δ,M,ev,j,g1⟩:=h;refine⟨ρ,δ,M,ev,j,g1.bind λρ1 H1 M1 y dy e1 j1 c1 g2=>⟨ρ1,δ,M1,ev.mono e1,j1,g2.bind λρ2 H2 M2 x dx e2 j2 c2 g3=>?_⟩⟩
 obtain⟨r,e,p⟩:=g3;have e:DM.bind _ _ M2=some r:=e;unfold DM.bind vA at e;cases dx with
 | ref n=>
   dsimp only at e;cases c2 with | ref hn=>
   rename_i a;cases hm:M2[n]? with
   |none=>rw[hm]at e;cases e
   | some u=>
     rw[hm]at e;cases u with
     |lst l=>cases e
     |dic ks l=>cases e
     | ins k ns vs=>
       dsimp only at e;split at e
       ·cases e
       ·rename_i he;split at he<;>cases he
       ·rename_i he;split at he
        ·rename_i hk;obtain⟨rfl,hl,hz⟩:=hk;cases he;cases e;obtain⟨C',dx',xs,m,hx,l,cs⟩:=j2.obj _ _ _ hn hm;rw[O.at_]at m;cases m;have c1':=c1.mono e2;have x:Ext ρ2 H2 ρ2 (upd H2 a (.ins C dx' (putF f y (ns.zip xs)))):=.upd (S7 hn);refine⟨a,C,dx',_,rfl,hx,O.cls,O.no f hf,?_,?_⟩
         ·rw[List.length_zip];lia
         refine p ρ2 _ σ x (j2.upd hn ?_) (((ev.mono e1).mono e2).mono x);refine⟨C,dx',jF f y ns xs,O.at_,by rw[upd_same,xr f y ns xs l],xu f y ns xs l,?_⟩
         exact (Cvs.put c1' ns cs).mono x
        ·cases he
 |_=>cases e
end
structure MethD(P:Program)(w:World)(K:PySem.W.Frag)(mg:Str->Option Value)(base:Heap)(k:Nat)(c x qual:Str)(st:Stmt)(ps:List Str)(F:List D->DM D):Prop where
 ex:∃C f fd,mg c=some (.ref C)/\FnOk P w K mg base (fu P w) k f fd ps (zW mg F)/\Fun K x qual st f fd/\PySem.W.findIn K (.ref C) x=some (some (.ref f))/\PySem.W.isFn K (.ref f)=true/\L2.Cls K C
section
variable{P:Program}{w:World}{K:PySem.W.Frag}{mg:Str->Option Value}{base:Heap}{k:Nat}{C:Addr}{c x qual:Str}{N ps:List Str}{st:Stmt}{fb:aa->DM Fl}{f:Addr}{fd:FuncData}{is:List Int}
theorem Qq(F:Fun K x qual st f fd)(S:FnScope N ps (defScope st))
  (hbody:∀(f:Addr) (cdv:Value) (A:Around) (outer:List Env) (s:Shared) (H:Hp) (E:XK),Room k (A.deeper (envOfC qual (defScope st) s.heap.objs.size f cdv))->
    DSs (iV P w K mg base N qual (defScope st) f cdv A outer s H E) E (defBody st) fb):FnOk P w K mg base (fu P w) (k+1) f fd ps (zW mg (aG ps.length N.length fb)):=by
 refine Qs F S (λvs H Q E h=>?_) λcdv A outer s H vs Q E hr h=>?_
 ·obtain⟨ρ,M,ds,c,j,g⟩:=h;rw[c.len];exact (aX.aG g).1
 obtain⟨ρ,M,ds,c,j,g⟩:=h;exact⟨_,(hbody f cdv A outer s H E hr).h,ρ,_,M,mR c,j,(aX.aG g).2⟩
theorem MethAt.okD(T:MethAt K C x qual st)(m:mg c=some (.ref C))(cl:L2.Cls K C)(S:FnScope N ps (defScope st))
  (hbody:∀(f:Addr) (cdv:Value) (A:Around) (outer:List Env) (s:Shared) (H:Hp) (E:XK),Room k (A.deeper (envOfC qual (defScope st) s.heap.objs.size f cdv))->
    DSs (iV P w K mg base N qual (defScope st) f cdv A outer s H E) E (defBody st) fb):MethD P w K mg base (k+1) c x qual st ps (aG ps.length N.length fb):=by
 obtain⟨f,fd,F,a,n⟩:=T.ex;exact⟨C,f,fd,m,Qq F S hbody,F,a,n,cl⟩
end
structure ClsD(P:Program)(w:World)(K:PySem.W.Frag)(mg:Str->Option Value)(base:Heap)(k:Nat)(c:Str)(F:List D->DM D):Prop where
 ex:∃C ps sp,MethC P w K mg base k C "__init__" ps sp/\PySem.W.makesIn K C=true/\PySem.W.keepIn K (.ref C)=true/\mg c=some (.ref C) /\
  ∀ρ M H vs ds Q E,Cvs mg ρ H vs ds->J mg ρ M H->Go mg E (Cv mg) Q ρ H (F ds) M->∀x dx,H x=none->H dx=none->dx≠x->sp (.ref x::vs) (upd (upd H dx (.own x)) x (.ins C dx [])) (λv H2=>v=.non/\Q (.ref x) H2) E
theorem ue(T:ClsD X.prog X.w X.K X.mg X.base j c F)(hr:Room k X.A)(hx:Passes (fu X.prog X.w) X E)(ha:DA X E (e::es) fs)(hjk:j+1<=k:=by decide)(hg:Gl X c:=by rfl)(hdb:(c==("__debug__":Str))=false:=by decide)
  (he:notStar e=true:=by rfl) (hpl:(backTo pos (starEach es X.env)).any (·.1)=false:=by rfl) :
  DE X E (.Call (.Name c p) (e::es) [] pos) (λδ=>fs δ>>=F):=by
 obtain⟨C,ps,sp,G,mk,kc,m,h⟩:=T.ex;refine⟨PE.mono (Hd G mk kc m hr hx ha.h hjk hg hdb he hpl) λσ H Q z=>?_⟩
 obtain⟨ρ,δ,M,ev,j,g1⟩:=z;refine⟨ρ,δ,M,ev,j,g1.bind λρ1 H1 M1 xs dxs e1 j1 c1 g2=>λx dx h1 h2 h3=>?_⟩
 rw[Vi];exact h ρ1 M1 H1 xs dxs Q E c1 j1 g2 x dx h1 h2 h3
section
variable{mg:Str->Option Value}{ρ:Rh}{H:Hp}{k:Nat}{M':Mo}
theorem Cvs.fz(hk:ρ.st.length=k){vs:List V}{ds:List D}(h:Cvs mg ρ H vs ds):Fzs M' k ds ds:=
 Cvs.rec (motive_1:=λz d z=>Fz M' k d d) (motive_2:=λz ds z=>Fzs M' k ds ds) .non .bl .int .str (λz z z=>.tup) (λz z z=>.lst) (λz z z z=>.dic) (λz z z z z=>.obj) (λz z=>.scr _) (λh=>.old (hk ▸ (RK.mp h).1)) (λz=>.cls _) .ty .exn .nil (λz z=>.cons) h
theorem Cv.fz(hk:ρ.st.length=k){v:V}{d:D}(h:Cv mg ρ H v d):Fz M' k d d:=by cases Cvs.fz hk (.cons h .nil);assumption
theorem Cvs.fz_mem(hk:ρ.st.length=k){vs:List V}{ds:List D}(h:Cvs mg ρ H vs ds):∀d∈ds,Fz M' k d d:=h.ind (P:=λz ds=>∀d∈ds,Fz M' k d d) nofun λa z i d h=>(R8.mp h).elim (λe=>e ▸ a.fz hk) (i d)
theorem Dl:∀{ds:List D},(∀d∈ds,Fz M' k d d)->Fzs M' k ds ds
 |[],_=>.nil
 |d::ds,h=>.cons (h d (by simp)) (Dl λe he=>h e (by simp[he]))
theorem J.fz(j:J mg ρ M H):vO (M++[o]) M.length M:=by
 refine⟨rfl,λn u h=>?_⟩
 have hn:=(RK.mp h).1;refine⟨u,by rw[RZ hn];exact h,?_⟩
 have hl:n<ρ.st.length:=by rw[j.len];exact hn
 have c:=j.obj n ρ.st[n] u (RV hl) h;cases u with
 |lst l=>obtain⟨xs,_,c⟩:=c;exact c.fz j.len
 |dic ks l=>obtain⟨xs,_,_,c⟩:=c;exact⟨rfl,c.fz j.len⟩
 |ins cc ns l=>obtain⟨C,dx,xs,_,_,_,c⟩:=c;exact⟨rfl,rfl,c.fz j.len⟩
end
def JZ(c:Str)(Fi:List D->DM D)(ds:List D)(M:Mo)(r':R D×Mo):Prop:=
 (∃ns vs,Fi (.ref M.length::ds) (M++[.ins c [] []])=some (.ok .non,M++[.ins c ns vs])/\(∀d∈vs,d∈ds\/∃i,d=.int i)/\r'=(.ok (.obj c ns vs),M)) \/
 (∃e o,Fi (.ref M.length::ds) (M++[.ins c [] []])=some (.exc e,M++[o])/\r'=(.exc e,M))
theorem Qm{P:Program}{w:World}{K:PySem.W.Frag}{mg:Str->Option Value}{base:Heap}{k:Nat}{c qual:Str}{st:Stmt}{ps:List Str}{Fi F':List D->DM D}(T:MethD P w K mg base k c "__init__" qual st ps Fi)
  (hb:∀(kV doc pm:Value) (an:Option Addr) (cdv ct:Value) (us:List Value),us.length=ps.length->bindArgs (PySem.W.fnOf "__init__" qual (defArgs st) (defBody st) (defScope st) .none kV doc pm an cdv ct) ⟨us,[]⟩=pure (ps.zip us))
  (hm:∀C,mg c=some (.ref C)->PySem.W.makesIn K C=true/\PySem.W.keepIn K (.ref C)=true) (hf:∀ds M r',F' ds M=some r'->JZ c Fi ds M r'):ClsD P w K mg base k c F':=by
 obtain⟨C,f,fd,mc,G,B,a,n,cl⟩:=T.ex;refine⟨C,ps,_,⟨f,fd,G,B.binds hb,B.kp,a,n⟩,(hm C mc).1,(hm C mc).2,mc,λρ M H vs ds Q E cv j g x dx hx hdx hne=>?_⟩
 obtain⟨r',e,p⟩:=g;have hx':upd H dx (.own x) x=none:=by rw[upd_ne (λz=>hne z.symm)];exact hx
 have x1:Ext ρ H ρ (upd H dx (.own x)):=.lay hdx;have j1:=j.lay (.own x) hdx;have x2:Ext ρ (upd H dx (.own x)) (ρ.put x) (upd (upd H dx (.own x)) x (.ins C dx [])):=.put hx';have j2:J mg (ρ.put x) (M++[.ins c [] []]) (upd (upd H dx (.own x)) x (.ins C dx [])):=j1.put hx' ⟨C,dx,[],mc,upd_same,rfl,.nil⟩;have hput:(ρ.put x).st[M.length]?=some x:=by show (ρ.st++[x])[M.length]?=some x;rw[<-j.len,Sh (RX _)];simp
 refine⟨ρ.put x,M++[.ins c [] []],.ref M.length::ds,.cons (.ref hput) (cv.mono (x1.trans x2)),j2,?_⟩;have sb:∀{ρ2 H2},Ext (ρ.put x) (upd (upd H dx (.own x)) x (.ins C dx [])) ρ2 H2->Sub ρ ρ2 M.length:=λ{ρ2 H2} y=>by obtain⟨τ,ht⟩:=y.pre;exact⟨⟨[x]++τ,by rw[ht];show (ρ.st++[x])++τ=_;simp⟩,y.vo,j.len⟩
 have ex:∀{ρ2 H2},Ext (ρ.put x) (upd (upd H dx (.own x)) x (.ins C dx [])) ρ2 H2->Ext ρ H ρ H2:=λ{ρ2 H2} y=>⟨⟨[],by simp⟩,rfl,λa h n=>absurd h n,λb o hb hn=>y.keep b o (by
  have nx:b≠x:=ne_of_none hb hx;have ndx:b≠dx:=ne_of_none hb hdx;rw[upd_ne nx,upd_ne ndx];exact hb) (λz=>by
  rcases Su.mp z with z | z
  ·exact hn z
  ·exact ne_of_none hb hx (SJ.mp z))⟩
 rcases hf ds M r' e with ⟨ns,vs',e2,hv,rfl⟩ | ⟨er,o,e2,rfl⟩
 ·refine⟨_,e2,λρ2 H2 b y j3 cb=>?_⟩
  cases cb;refine⟨rfl,p ρ H2 (.ref x) (ex y) (j3.freeze (sb y) j.len j.fz) ?_⟩;have h3:ρ2.st[M.length]?=some x:=y.at hput;obtain⟨C',dx',xs,m',hx3,l,cs⟩:=j3.obj M.length x (.ins c ns vs') h3 (by simp)
  refine .obj (j.fresh hx) m' hx3 l (Cvs.freeze (sb y) j3 (Dl λd hd=>?_) cs)
  rcases hv d hd with h | ⟨i,rfl⟩
  ·exact cv.fz_mem j.len d h
  ·exact .int i
 ·refine⟨_,e2,λρ2 H2 C2 y j3 m2=>?_⟩
  exact p ρ H2 C2 (ex y) (j3.freeze (sb y) j.len j.fz) m2
end L3
namespace L3
open PySem PySem.Spec L2
theorem uR:∀ {l:List D}{ns:List Int},intsOf l=some ns->l=ns.map D.int
 |[],ns,e=>by cases e;rfl
 | d::l,ns,e=>by
   cases d with
   |int i=>simp only[intsOf,Option.map_eq_some_iff]at e;obtain⟨ms,h,rfl⟩:=e;rw[uR h];rfl
   |_=>simp[intsOf]at e
theorem wg:∀ {ns:List Int}{xs:List V},Cvs mg ρ H xs (ns.map D.int)->xs=ns.map V.int
 |[],_,.nil=>rfl
 |n::ns,_,.cons a t=>by cases a;rw[wg t];rfl
theorem qU(h:l.length=1):∃a,l=[a]:=match l,h with | [a],_=>⟨a,rfl⟩
theorem La(h:l.length=2):∃a b,l=[a,b]:=match l,h with | [a,b],_=>⟨a,b,rfl⟩
theorem Lb(h:l.length=3):∃a b c,l=[a,b,c]:=match l,h with | [a,b,c],_=>⟨a,b,c,rfl⟩
theorem Ld(h:l.length=4):∃a b c d,l=[a,b,c,d]:=match l,h with | [a,b,c,d],_=>⟨a,b,c,d,rfl⟩
def Al:D->DM D
 |.int n=>if 0<=n/\n<2^63 then pure (.int n) else stuck
 |_=>stuck
def wM(c:Str)(F:List D->DM D):List D->DM D
 |[.obj k ns vs]=>if k=c then F [.obj k ns vs]>>=Al else stuck
 |l=>rd (jC l)
set_option tactic.hygienic true in
theorem gZ(T:MethD X.prog X.w X.K X.mg X.base j c "__len__" qual st ps F)(hr:Room k X.A)(hx:Passes (fu X.prog X.w) X E)
  (hb:∀(kV doc pm:Value) (an:Option Addr) (cdv ct:Value) (us:List Value),us.length=ps.length->bindArgs (PySem.W.fnOf "__len__" qual (defArgs st) (defBody st) (defScope st) .none kV doc pm an cdv ct) ⟨us,[]⟩=pure (ps.zip us))
  (hjk:j+1<=k:=by decide):CallD X E (.builtin "len") (wM c F):=by
 obtain⟨C,f,fd,mc,G,B,a,n,cl⟩:=T.ex;have MC:MethC X.prog X.w X.K X.mg X.base j C "__len__" ps (zW X.mg F):=⟨f,fd,G,B.binds hb,B.kp,a,n⟩;intro Xp s σ H vs us Q I rs q;obtain⟨ρ,M,ds,j,cv,go⟩:=q;unfold wM at go;split at go
 ·rename_i k' ns ws;split at go
  ·rename_i hk;subst hk;obtain⟨v,rfl,kv⟩:=cv.one;cases kv with
   | obj hn m hh hl cs=>
     rw[mc]at m;cases m;refine CG MC (hr.mono hjk) hx Xp s σ H _ us Q I rs ⟨_,_,_,rfl,hh,ρ,M,_,cv,j,go.bind λρ1 H1 M1 b d e1 j1 c1 g2=>?_⟩
     unfold Al at g2;split at g2
     ·split at g2
      ·rename_i hn2;cases c1;exact⟨_,rfl,hn2,g2.pure ρ1 H1 _ .refl j1 (.int _)⟩
      ·obtain⟨r,e,_⟩:=g2;cases e
     ·obtain⟨r,e,_⟩:=g2;cases e
  ·obtain⟨r,e,_⟩:=go;cases e
 ·exact call_lenD Xp s σ H vs us Q I rs ⟨ρ,M,_,j,cv,go⟩
end L3
namespace L2
open PySem PySem.Spec PyProof.Rows
end L2
namespace L3
open PySem PySem.Spec L2
end L3
namespace L2
open PySem PySem.Spec PyProof.Rows
def Pj(i j k:Nat)(ta:TA):TS:=λD σ H=>ta σ H λvs H1=>∃v w z,vs=[v,w,z]/\D.nx (((σ.set i (some v)).set j (some w)).set k (some z)) H1
theorem Jq{kt k2 pt2}(hc:X.calm=true)(hN:X.N.Nodup)(hi:X.N[i]?=some x)(hj:X.N[j]?=some y)(hk:X.N[k]?=some z)(hij:i≠j)(hik:i≠k)(hjk:j≠k)
  (hx:X.env.scope.names.lookup x=some .local) (hy:X.env.scope.names.lookup y=some .local) (hz:X.env.scope.names.lookup z=some .local) (ha:PA X [a,b,c] ta)
  (hw:swappedStores [.Tuple [.Name x px,.Name y py,.Name z pz] kt pt] (.Tuple [a,b,c] k2 pt2) X.env=pure (some [x,y,z]))
  (hs:swapsWithSole [.Tuple [.Name x px,.Name y py,.Name z pz] kt pt] (.Tuple [a,b,c] k2 pt2) pos.line X.env=pure false:=by rfl) :
  PS X (.Assign [.Tuple [.Name x px,.Name y py,.Name z pz] kt pt] (.Tuple [a,b,c] k2 pt2) pos) (Pj i j k ta):=by
 intro Xp s σ H D I h;rw[exec_Assign_arm];refine RD (Va ?_);rw[hs];refine RD (RJ ?_);rw[R3 (by decide)]
 refine RD (Tuple_ (thn (ha _ Xp s σ H _ I h) λus s1 ⟨vs,H1,I1,r1,q1⟩=>?_))
 obtain⟨v,w,w3,e1,q1⟩:=q1;subst e1;obtain ⟨u1,u2,u3,rfl,rv,rw',rz⟩:∃ u1 u2 u3,us=[u1,u2,u3]/\RelV v u1/\RelV w u2/\RelV w3 u3:=by
  cases r1 with
  | cons p q=>
    cases q with
    | cons p' q'=>
      cases q' with
      |cons p2 q2=>cases q2;exact⟨_,_,_,rfl,p,p',p2⟩
 refine SQ ?_ (by show 3<=sizeLine;decide)
 have I2:Inv X Xp σ H1 { s1 with heap:=s1.heap.push { cls:=.type "tuple",data:=.seq [u1,u2,u3].toArray } }:=I1.kept (t':=s1.toks) λb o e=>RG _ e
 rw[hw];refine RD (RJ ?_);show wpAny (model X.prog X.w) X.A (do rule "assign.swapped-stores";let items <-unpackItems (.ref s1.heap.objs.size) 3 none;assignInOrder [λv=>bindName X.env z v,λv=>bindName X.env y v,λv=>bindName X.env x v] items.reverse;pure Flow.next) _ _ _
 refine RD (U5 (RD (unpackItems_tuple (items:=#[u1,u2,u3]) (I.ok.hd hc) (W2 s1.heap _) λh' hx'=>?_)))
 have I3:=I2.kept (h':=h') (t':=s1.toks) λb o e=>hx' b o (R5 (RN e)) e
 show wpAny _ _ (assignInOrder [λv=>bindName X.env z v,λv=>bindName X.env y v,λv=>bindName X.env x v] [u3,u2,u1]>>=λu=>pure Flow.next) _ _ _
 refine RD (Vg (Wj (store_ok I3 hN hk (.inl hz) rz (λs2 I4=>?_) (.inr hz))))
 refine Vg (Wj (store_ok I4 hN hj (.inl hy) rw' (λs3 I5=>?_) (.inr hy)))
 refine Vg (Wj (store_ok I5 hN hi (.inl hx) rv (λs4 I6=>assignInOrder_nil (RJ ?_)) (.inr hx)))
 have e:((σ.set k (some w3)).set j (some w)).set i (some v)=((σ.set i (some v)).set j (some w)).set k (some w3):=by rw[List.set_comm _ _ (Ne.symm hjk),List.set_comm _ _ (Ne.symm hik),List.set_comm _ _ (Ne.symm hij)]
 rw[e]at I6;exact⟨_,H1,I6,q1⟩
end L2
namespace L3
open PySem PySem.Spec L2
def Hz(i j k:Nat)(fa:aa->DM (List D)):aa->DM Fl:=λδ=>fa δ>>=λl=>match l with
 |[v,w,z]=>pure (.nx (((δ.set i (some v)).set j (some w)).set k (some z)))
 |_=>stuck
@[simp] theorem Rb(i j k:Nat)(fa:aa->DM (List D))(δ:aa):Hz i j k fa δ=fa δ>>=λl=>match l with
 |[v,w,z]=>Pure.pure (.nx (((δ.set i (some v)).set j (some w)).set k (some z)))
 |_=>stuck:=id rfl
theorem Iu{kt k2 pt2}(hc:X.calm=true)(hN:X.N.Nodup)(hi:X.N[i]?=some x)(hj:X.N[j]?=some y)(hk:X.N[k]?=some z)(hij:i≠j)(hik:i≠k)(hjk:j≠k)
  (hx:X.env.scope.names.lookup x=some .local) (hy:X.env.scope.names.lookup y=some .local) (hz:X.env.scope.names.lookup z=some .local) (ha:DA X E [a,b,c] fa)
  (hw:swappedStores [.Tuple [.Name x px,.Name y py,.Name z pz] kt pt] (.Tuple [a,b,c] k2 pt2) X.env=pure (some [x,y,z]))
  (hs:swapsWithSole [.Tuple [.Name x px,.Name y py,.Name z pz] kt pt] (.Tuple [a,b,c] k2 pt2) pos.line X.env=pure false:=by rfl) :
  DS X E (.Assign [.Tuple [.Name x px,.Name y py,.Name z pz] kt pt] (.Tuple [a,b,c] k2 pt2) pos) (Hz i j k fa):=⟨PS.mono (Jq hc hN hi hj hk hij hik hjk hx hy hz ha.h.h hw hs) λD σ H h=>by
 obtain⟨ρ,δ,M,ev,j,g1⟩:=h;refine⟨ρ,δ,M,ev,j,aX.bind g1 λρ1 H1 M1 v d e1 j1 c1 g2=>?_⟩
 cases c1 with
 |nil=>obtain⟨r,e,_⟩:=g2;cases e
 | cons c1 c2=>cases c2 with
   |nil=>obtain⟨r,e,_⟩:=g2;cases e
   | cons c2 c3=>cases c3 with
     |nil=>obtain⟨r,e,_⟩:=g2;cases e
     |cons c3 c4=>cases c4 with
       |nil=>exact⟨_,_,_,rfl,aX.pure (a:=.nx _) g2 ρ1 H1 _ .refl j1 ((((ev.mono e1).set c1).set c2).set c3)⟩
       |cons _ _=>obtain⟨r,e,_⟩:=g2;cases e⟩
end L3
namespace N10
theorem zY(c:Nat):∀(f:List Nat),(f.map (c * ·)).sum=c*f.sum
 |[]=>rfl
 |a::f=>by simp only[List.map_cons,List.sum_cons,zY c f,Nat.mul_add]
def pl(a b:Nat):Nat×Nat:=(a / Nat.gcd a b,b / Nat.gcd a b)
def oX(l:List Nat):Nat:=l.foldl Nat.gcd 0
theorem uP:∀ (ms:List Nat) (g:Nat),ms.foldl Nat.gcd g ∣ g/\∀ m∈ms,ms.foldl Nat.gcd g ∣ m
 |[],g=>⟨Nat.dvd_refl _,by simp⟩
 |m::ms,g=>by
   have:=uP ms (Nat.gcd g m);rw[Xd];refine⟨Nat.dvd_trans this.1 (Nat.gcd_dvd_left _ _),λx hx=>?_⟩
   rcases R8.mp hx with rfl | hx
   ·exact Nat.dvd_trans this.1 (Nat.gcd_dvd_right _ _)
   ·exact this.2 x hx
def lst(l:List Nat):List Nat:=l.map (·/ oX l)
def S:Nat->(Nat->Nat)->Nat
 |0,_=>0
 |n+1,f=>S n f+f n
def up(f:Nat->Nat)(x v:Nat):Nat->Nat:=λi=>if i=x then v else f i
structure G where
 A:Nat->Nat->Nat
 L:Nat->Nat
 W:Nat->Nat
end N10
namespace L3
open PySem PySem.Spec L2
def nM(R:List (List Nat)):D:=.tup (R.map nT)
def ga(l:List Nat)(i:Nat):Nat:=l.getD i 0
def gr(R:List (List Nat))(i:Nat):List Nat:=R.getD i []
theorem wH(h:i<l.length):ga l i∈l:=by unfold ga;rw[Sx,RV h];exact Td _
theorem gr_mem{R:List (List Nat)}{i:Nat}(h:i<R.length):gr R i∈R:=by unfold gr;rw[Sx,RV h];exact Td _
theorem wI(h:l.length<=i):ga l i=0:=by unfold ga;rw[Sx,Uj h];rfl
theorem aQ(h:i<l.length):ga l i=l[i]:=by unfold ga;rw[Sx,RV h];rfl
theorem gQ{R:List (List Nat)}{i:Nat}(h:i<R.length):gr R i=R[i]:=by unfold gr;rw[Sx,RV h];rfl
theorem Lr(h:nD a=nD b):a=b:=by
 have:=D.int.inj h
 lia
theorem Lx(h:nT a=nT b):a=b:=(Wd λz z=>Lr).mp (D.tup.inj h)
theorem Ls(h:nM a=nM b):a=b:=(Wd λz z=>Lx).mp (D.tup.inj h)
theorem Dy{α:Type}{ft:aa->DM Bool}{fe:aa->DM D}{rest:aa}(enc:α->D)(p:α->Bool)(e:α->D):∀ (as:List α) (x:Option D) (l:List D),l.length + as.length<=1000000->(∀ a∈as,ft (some (enc a)::rest)=Pure.pure (p a))->(∀ a∈as,p a=true->fe (some (enc a)::rest)=Pure.pure (e a))->
  bA (gN 0) ft (bW fe) (as.map enc) (x::rest) l=Pure.pure (mY x (as.map enc)::rest,l++(as.filter p).map e)
 |[],x,l,_,_,_=>by simp[bA,mY]
 | d::ds,x,l,hl,h1,h2=>by
   have b:=h1 d (Tp ..);have hl':l.length+(ds.length+1)<=1000000:=by simpa using hl
   have lt:l.length<sizeLine:=by show l.length<2^24;lia
   have ih:=λl' hl'=>Dy (rest:=rest) enc p e ds (some (enc d)) l' hl' (λx hx=>h1 x (S6 _ hx)) (λx hx=>h2 x (S6 _ hx))
   by_cases hp:p d=true
   ·have c:=h2 d (Tp ..) hp;have q:=ih (l++[e d]) (by simp;lia)
    simp[bA,b,hp,bW,c,lt,q,mY]
   ·have q:=ih l (by lia)
    simp[bA,b,hp,q,mY]
theorem aU{α:Type}{ft:aa->DM Bool}{fe:aa->DM D}{x:Option D}{rest:aa}{as:List α}(enc:α->D)(p:α->Bool)(e:α->D)(hl:as.length<=1000000)(h1:∀a∈as,ft (some (enc a)::rest)=Pure.pure (p a))(h2:∀a∈as,p a=true->fe (some (enc a)::rest)=Pure.pure (e a)):
  cU (bA (gN 0) ft (bW fe) (as.map enc) (x::rest) [])=Pure.pure (mY x (as.map enc)::rest,(as.filter p).map e):=by
 rw[Dy enc p e as x [] (by simpa using hl) h1 h2];simp
theorem dq{α:Type}{fe:aa->DM D}{x:Option D}{rest:aa}{as:List α}(enc:α->D)(e:α->D)(hl:as.length<=1000000)(h2:∀a∈as,fe (some (enc a)::rest)=Pure.pure (e a)):
  cU (bA (gN 0) (λz=>Pure.pure true) (bW fe) (as.map enc) (x::rest) [])=Pure.pure (mY x (as.map enc)::rest,as.map e):=by
 rw[aU enc (λz=>true) e hl (λz z=>rfl) λa ha z=>h2 a ha,Uw.mpr (λz z=>rfl)]
theorem xH(h0:0<b)(h:b<2^1000):(rd (mU (nD a) (nD b)):DM D)=Pure.pure (nD (a / b)):=by unfold nD;rw[Eo (Il (by lia) (by simpa using h)),Int.natCast_ediv]
theorem Ex(h:b<2^64):(rd (iC (nD a) (nD b)):DM D)=Pure.pure (nD (a*b)):=by unfold nD;rw[Bm (Je (by simpa using h)),Ue]
theorem eN(a b:Nat):(rd (cJ (nD a) (nD b)):DM D)=Pure.pure (nD (a+b)):=by unfold nD;rw[Og,WR]
theorem mq(a:Nat):(rd (cJ (nD a) (.int 1)):DM D)=Pure.pure (nD (a+1)):=eN a 1
theorem Mv(a:Nat):(rd (cJ (.int 1) (nD a)):DM D)=Pure.pure (nD (a+1)):=by rw[Nat.add_comm];exact eN 1 a
theorem Ez(h:b<=a):(rd (rE (nD a) (nD b)):DM D)=Pure.pure (nD (a-b)):=by
 unfold nD;rw[Ot];have:(a:Int)-(b:Int)=((a-b:Nat):Int):=by lia
 rw[this]
theorem bZ(a b:Nat):(rd (cP (nD a) (nD b)):DM D)=Pure.pure (.bl (decide (a=b))):=by
 unfold nD;rw[Oh];have:decide ((a:Int)=(b:Int))=decide (a=b):=by rw[S8,Ur,Ur];lia
 rw[this]
theorem xN(a b:Nat):(rd (lW (nD a) (nD b)):DM D)=Pure.pure (.bl (!decide (a=b))):=by
 unfold nD;rw[Om];have:decide ((a:Int)=(b:Int))=decide (a=b):=by rw[S8,Ur,Ur];lia
 rw[this]
theorem Ew(a b:Nat):(rd (Lk (nD a) (nD b)):DM D)=Pure.pure (.bl (decide (a<b))):=by
 unfold nD;rw[QD];have:decide ((a:Int)<(b:Int))=decide (a<b):=by rw[S8];simp
 rw[this]
theorem xJ(a b:Nat):(rd (zz (nD a) (nD b)):DM D)=Pure.pure (.bl (decide (a<=b))):=by
 unfold nD;rw[QC];have:decide ((a:Int)<=(b:Int))=decide (a<=b):=by rw[S8];simp
 rw[this]
theorem tL(a b:Nat):(rd (sH (nD a) (nD b)):DM D)=Pure.pure (.bl (decide (b<a))):=by
 unfold nD;rw[QB];have:decide ((b:Int)<(a:Int))=decide (b<a):=by rw[S8];simp
 rw[this]
theorem Ep(a b:Nat):(rd (Do (nD a) (nD b)):DM D)=Pure.pure (.bl (decide (b<=a))):=by
 unfold nD;rw[Qz];have:decide ((b:Int)<=(a:Int))=decide (b<=a):=by rw[S8];simp
 rw[this]
theorem dR(h:0<b):(rd (gF (nD a) (nD b)):DM D)=Pure.pure (nD (a%b)):=xK h
theorem Eu(l:List Nat):(rd (jC [nT l]):DM D)=Pure.pure (nD l.length):=by simp[nT,nD]
theorem my(R:List (List Nat)):(rd (jC [nM R]):DM D)=Pure.pure (nD R.length):=by simp[nM,nD]
theorem HF(l:List D):(rd (iB [.tup l,.ty "tuple"]):DM D)=Pure.pure (.bl true):=vq (t := "tuple") (λz=>rfl) (by decide)
theorem MF(l:List Nat):(rd (iB [nT l,.ty "tuple"]):DM D)=Pure.pure (.bl true):=HF _
theorem Er(R:List (List Nat)):(rd (iB [nM R,.ty "tuple"]):DM D)=Pure.pure (.bl true):=HF _
theorem ik(h:n<2^62):lB [nD n]=some (.fix ((List.range n).map nD)):=Ey h
theorem tK(l:List Nat):nU (nT l)=some (.fix (l.map nD)):=rfl
theorem tH(R:List (List Nat)):nU (nM R)=some (.fix (R.map nT)):=rfl
theorem Mw(l:List D):(rd (lL (.lst l)):DM Itn)=Pure.pure (.fix l):=rfl
theorem m7(h:i<l.length):(rd (eG (nT l) (nD i)):DM D)=Pure.pure (nD (ga l i)):=Oj (by unfold ga;rw[Sx,RV h];rfl)
theorem Oi{R:List (List Nat)}{i:Nat}(h:i<R.length):(rd (eG (nM R) (nD i)):DM D)=Pure.pure (nT (gr R i)):=Bl (by unfold gr;rw[R0,Sx,RV h];rfl)
theorem Et{R:List (List Nat)}(h:0<R.length):(rd (eG (nM R) (.int 0)):DM D)=Pure.pure (nT (gr R 0)):=Oi h
theorem rH:∀ R:List (List Nat),cV (R.map nT)=some (R.map λl=>PyData.tuple (l.map λn:Nat=>PyData.int (n:Int)))
 |[]=>rfl
 | l::R=>by
   have e:toPy (nT l)=some (PyData.tuple (l.map λn:Nat=>PyData.int (n:Int))):=by rw[lV];simp only[toPy,fZ,Option.map_some];rw[Tq];rfl
   simp only[List.map_cons,cV,e,rH R]
theorem qO:∀ R:List (List Nat),PyData.depthAll (R.map λl=>PyData.tuple (l.map λn:Nat=>PyData.int (n:Int)))<=2
 |[]=>by simp[PyData.depthAll]
 |l::R=>by
   have:=qO R;have h:=fL (l.map λn:Nat=>(n:Int))
   rw[Tq]at h;have h':PyData.depthAll (l.map λn:Nat=>PyData.int (n:Int))<=1:=h
   simp only[List.map_cons,PyData.depthAll,PyData.depth]
   lia
theorem JF{R:List (List Nat)}(h:∀ l∈R,∀ n∈l,n<2 ^ 1000):PyData.showableAll (R.map λl=>PyData.tuple (l.map λn:Nat=>PyData.int (n:Int)))=true:=by
 induction R with
 |nil=>rfl
 | cons l R ih=>
   have hl:=Fv (l:=l.map λn:Nat=>(n:Int)) (λi hi=>by
    obtain⟨n,hn,rfl⟩:=Te.mp hi;have:=h l (by simp) n hn
    rw[Int.natAbs_natCast];exact this)
   rw[Tq]at hl;have hl':PyData.showableAll (l.map λn:Nat=>PyData.int (n:Int))=true:=hl
   simp[PyData.showableAll,PyData.showable,hl',ih λm hm=>h m (by simp[hm])]
theorem Cq:∀ {R:List (List Nat)},(∀ l∈R,l.length<=c)->fK (R.map λl=>PyData.tuple (l.map λn:Nat=>PyData.int (n:Int)))<=(1923 * c + 100) * R.length
 |[],_=>by simp[fK]
 |l::R,h=>by
   have ih:=Cq (R:=R) λm hm=>h m (by simp[hm])
   have b:=vV (l.map λn:Nat=>(n:Int))
   rw[Tq,RT]at b;have b':fK (l.map λn:Nat=>PyData.int (n:Int))=1923*l.length:=b
   have hl:=h l (by simp)
   have m:1923*l.length<=1923*c:=V3 _ hl;simp only[List.map_cons,fK,dF,b',List.length_cons];rw[Nat.mul_add]
   lia
theorem JC{R:List (List Nat)}(h:∀l∈R,∀n∈l,n<2^1000)(hl:∀l∈R,l.length<=30)(hR:R.length<=30):Ho (nM R):=by
 have d:=qO R;have b:=Cq hl;have:(1923*30+100)*R.length<=(1923*30+100)*30:=V3 _ hR;refine JD (p:=.tuple (R.map λl=>PyData.tuple (l.map λn:Nat=>PyData.int (n:Int)))) (by unfold nM;simp[toPy,rH]) (by simp only[PyData.showable];exact JF h) (by simp only[PyData.depth];lia) ?_
 simp only[dF];show _<=2^24
 lia
theorem Kr(a b:List (List Nat))(ha:a.length<=1000000):(rd (lW (nM a) (nM b)):DM D)=Pure.pure (.bl (!decide (a=b))):=bH λM=>by
 have d:=qO a;have key:∀ a b:List (List Nat),PyData.eqvAll (a.map λl=>PyData.tuple (l.map λn:Nat=>PyData.int (n:Int))) (b.map λl=>PyData.tuple (l.map λn:Nat=>PyData.int (n:Int)))=decide (a=b):=by
  intro a;induction a with
  |nil=>intro b;cases b<;>simp[PyData.eqvAll]
  | cons x a ih=>
    intro b;cases b with
    |nil=>simp[PyData.eqvAll]
    | cons y b=>
      have e:=jW (x.map λn:Nat=>(n:Int)) (y.map λn:Nat=>(n:Int))
      rw[Tq,Tq]at e;have e':PyData.eqvAll (x.map λn:Nat=>PyData.int (n:Int)) (y.map λn:Nat=>PyData.int (n:Int))=decide (x=y):=by refine Eq.trans e ?_;rw[S8,Ur,Ur];exact mK
      simp only[List.map_cons,PyData.eqvAll,PyData.eqv,e',ih b];by_cases h:x=y<;>by_cases h2:a=b<;>simp[h,h2]
 have lay:∀ a:List (List Nat),PyData.canLayAll0 (a.map λl=>PyData.tuple (l.map λn:Nat=>PyData.int (n:Int)))=true:=by
  intro a;induction a with
  |nil=>rfl
  |cons x a ih=>
    have e:=lay_ints (x.map λn:Nat=>(n:Int))
    rw[Tq]at e;have e':PyData.canLayAll0 (x.map λn:Nat=>PyData.int (n:Int))=true:=e
    simp[PyData.canLayAll0,PyData.canLay0,e',ih]
 unfold nM;simp only[lW,L3.eqB,eqP,toPy,rH,Option.map_some,PyData.canLay0,lay,PyData.depth,PyData.eqv,key];simp
 lia
end L3
namespace LS
open PySem PySem.Spec PyProof.Rows PyProof
end LS
namespace L2
open PySem PySem.Spec PyProof.Rows
variable{X:Cx}{pos:Pos}
end L2
namespace L3
open PySem PySem.Spec PyProof.Rows L2
variable{X:Cx}{E:XK}{pos:Pos}
def gL(n:Nat)(fs:List D->aa->DM aa):D->aa->DM aa
 |.lst l,δ=>if l.length=n then fs l δ else stuck
 |_,_=>stuck
@[simp] theorem RB(n:Nat)(fs:List D->aa->DM aa)(l:List D)(δ:aa):gL n fs (.lst l) δ=if l.length=n then fs l δ else stuck:=id rfl
theorem qQ{X:Cx}{E:XK}{st:Stmt}:DS X E st (λz=>stuck):=⟨by intro Xp s σ H D I h;obtain⟨ρ,δ,M,ev,j,g1⟩:=h;obtain⟨r,e,_⟩:=g1;cases e⟩
end L3
namespace L3
open PySem PySem.Spec L2
abbrev Mg:=Str->Option Value
abbrev Fn:=List D->DM D
abbrev Nn(mg:Mg)(x:Str):Prop:=mg x=none
abbrev Gi(mg:Mg)(x:Str)(i:Int)(t:Tok):Prop:=mg x=some (.int i t)
abbrev Gc(mg:Mg)(x:Str)(C:Addr):Prop:=mg x=some (.ref C)
abbrev Rm(k:Nat)(A:Around)(q:Str)(st:Stmt)(s:Shared)(f:Addr)(cdv:Value):Prop:=Room k (A.deeper (PyProof.Rows.envOfC q (defScope st) s.heap.objs.size f cdv))
abbrev Ds(P:Program)(w:World)(K:PySem.W.Frag)(mg:Mg)(base:Heap)(N:List Str)(q:Str)(st:Stmt)(f:Addr)(cdv:Value)(A:Around)(outer:List Env)(s:Shared)(H:Hp)(E:XK)(b:aa->DM Fl):Prop:=
 DSs (iV P w K mg base N q (defScope st) f cdv A outer s H E) E (defBody st) b
theorem Ov(a:sc.kind=.function)(b:sc.isCoroutine=false)(c:sc.isGenerator=false)(p:N.take P.length=P)(d:(decide N.Nodup&&(decide (∀x∈P,sc.names.lookup x=some .local\/sc.names.lookup x=some .cell)&&decide (∀y∈sc.names,y.2≠.free)))=true):FnScope N P sc:=by simp only[Bool.and_eq_true,decide_eq_true_eq]at d;exact⟨a,b,c,d.1,p,d.2.1,d.2.2⟩
section
variable{X:Cx}{E:XK}{a:Expr}{fa:aa->DM (List D)}{p1 p2 pos1 pos2:Pos}
set_option tactic.hygienic true in
theorem CZ(hc:X.calm=true)(hmL:X.mg "tuple"=none)(hm:X.mg "range"=none)(ha:DA X E [a] fa)(hgL:Gl X "tuple":=by rfl)(hg:Gl X "range":=by rfl)(hs:notStar a=true:=by rfl):
  DE X E (.Call (.Name "tuple" p1) [.Call (.Name "range" p2) [a] [] pos2] [] pos1) (λδ=>fa δ>>=λl=>rd (λM=>(jZ l M).map D.tup)):=⟨PE.mono (Eg hc hgL hmL hg hm ha.h.h hs) λσ H Q h=>by
 obtain⟨ρ,δ,M,ev,j,g1⟩:=h;refine⟨ρ,δ,M,ev,j,g1.bind λρ1 H1 M1 xs ds e1 j1 c1 g2=>?_⟩
 obtain⟨d,ed,q⟩:=g2.rd;obtain⟨l,el,rfl⟩:=RL.mp ed;unfold jZ at el;split at el
 ·split at el
  ·rename_i hb;cases el;obtain⟨v,rfl,k⟩:=c1.one;cases k;exact⟨_,rfl,hb.2,hb.1,λp hp=>q ρ1 _ _ (.lay hp) (j1.lay _ hp) (.tup (j1.fresh hp) upd_same (ud _))⟩
  ·cases el
 ·cases el⟩
end
def inD(x y:D)(M:Mo):Option D:=match x with
 |.int i=>((nP y M).bind intsOf).map λns=>.bl (ns.contains i)
 |_=>none
def G6(x y:D)(M:Mo):Option D:=match x with
 |.int i=>((nP y M).bind intsOf).map λns=>.bl (!ns.contains i)
 |_=>none
theorem wJ(i:Int):∀ ns:List Int,inV (.int i) (ns.map V.int)=ns.contains i
 |[]=>rfl
 |n::ns=>by
   have ih:=wJ i ns;unfold inV at ih ⊢
   rw[SX,VR,ih,List.contains_cons];congr 1;show eqV (.int n) (.int i)=_;unfold eqV;rw[S8];simp;exact⟨λh=>h.symm,λh=>h.symm⟩
theorem Di(ns:List Int):(ns.map V.int).all flatV=true:=by simp[flatV]
section
variable{X:Cx}{E:XK}
theorem zG:bM X E (compareOp .NotIn) (λx y=>rd (G6 x y)):=by
 refine bM.of op_notIn_seq λx y H Q ρ M dx dy d j cx cy e q=>?_
 unfold G6 at e;split at e
 ·obtain⟨ns,h1,rfl⟩:=RL.mp e;obtain⟨l,h2,h3⟩:=Sw.mp h1;cases cx;obtain⟨a,xs,rfl,ha,c⟩:=Ft j cy h2;have:=ints_of c h3;subst this;refine⟨a,_,rfl,ha.imp (λh=>SqL.of h) (λh=>SqT.of h),rfl,Di ns,?_⟩
  rw[R1 rfl,wJ];exact q ρ H _ .refl j (.bl _)
 ·cases e
end
theorem GJ(l:List Nat)(i:Nat):(l.map λn:Nat=>(n:Int)).contains (i:Int)=l.contains i:=by
 rw[S8];simp;constructor
 ·rintro⟨a,h,e⟩;have:a=i:=by lia
  exact this ▸ h
 ·exact λh=>⟨i,h,rfl⟩
theorem xO(i:Nat)(l:List Nat):(rd (G6 (nD i) (nT l)):DM D)=Pure.pure (.bl (!l.contains i)):=bH λM=>by show ((intsOf (l.map nD))).map _=_;rw[jX,Option.map_some,GJ]
def HS(lo hi:Option Int):D->Mo->Option D
 |.scr ns,_=>some (.lst (cutD (ns.map D.int) lo hi))
 |_,_=>none
theorem zb:∀l:List Int,Cvs mg ρ H (l.map V.int) (l.map D.int)
 |[]=>.nil
 |n::l=>.cons (.int _) (zb l)
section
variable{X:Cx}{E:XK}
theorem QG:SlR X (λx lo hi H Q=>∃ρ M dx d,J X.mg ρ M H/\Cv X.mg ρ H x dx/\HS lo hi dx M=some d/\∀ρ' H' v,Ext ρ H ρ' H'->J X.mg ρ' M H'->Cv X.mg ρ' H' v d->Q v H'):=by
 intro Xp s σ H x v vl vu lo hi sl Q I rx hs pl pu h;obtain⟨ρ,M,dx,d,j,c,e,q⟩:=h;unfold HS at e;split at e
 ·cases e;cases c with | scr n rd=>
  refine sl_list (X:=X) Xp s σ H _ v vl vu lo hi sl Q I rx hs pl pu ⟨_,_,rfl,.inl rd,λp hp=>?_⟩
  exact q ρ _ _ (.lay hp) (j.lay _ hp) (.lst (j.fresh hp) upd_same (((zb _).cut lo hi).mono (.lay hp)))
 ·cases e
theorem CW(ha:DE X E a fa)(hl:DP X E lo fl)(hh:DP X E hi fh):
  DE X E (.Subscript a (.Slice lo hi none p2) pos) (λδ=>fa δ>>=λx=>fl δ>>=λl=>fh δ>>=λh=>rd (HS l h x)):=⟨PE.mono (pe_slice QG ha.h hl.h hh.h) λσ H Q h=>by
 obtain⟨ρ,δ,M,ev,j,g1⟩:=h;refine⟨ρ,δ,M,ev,j,g1.bind λρ1 H1 M1 x dx e1 j1 c1 g2=>⟨ρ1,δ,M1,ev.mono e1,j1,g2.bind λρ2 H2 M2 l dl e2 j2 c2 g3=>⟨ρ2,δ,M2,(ev.mono e1).mono e2,j2,g3.bind λρ3 H3 M3 h dh e3 j3 c3 g4=>?_⟩⟩⟩
 have c2:l=dl:=c2;have c3:h=dh:=c3;subst c2 c3;obtain⟨d,e,q⟩:=g4.rd;exact⟨ρ3,M3,dx,d,j3,(c1.mono e2).mono e3,e,q⟩⟩
end
theorem Oq(ns:List Int)(lo hi:Option Int):(rd (HS lo hi (.scr ns)):DM D)=Pure.pure (.lst (cutD (ns.map D.int) lo hi)):=rfl
theorem u1(h:n+64<cLine):n+1<cLine:=by lia
def fM:D->Mo->Option (List Key×List D)
 |.dic ks ds,_=>some (ks,ds)
 |.ref n,M=>match M[n]? with
   |some (.dic ks ds)=>some (ks,ds)
   |_=>none
 |_,_=>none
def kO:D->Option Key
 |.int i=>some (.inl i)
 |.str x=>some (.inr x)
 |_=>none
def cM:List Key->List D->Key->Option D
 |k'::ks,d::ds,k=>if k'=k then some d else cM ks ds k
 |_,_,_=>none
section
variable{mg:Str->Option Value}{ρ:Rh}{M:Mo}{H:Hp}
set_option tactic.hygienic true in
theorem wu(j:J mg ρ M H)(c:Cv mg ρ H x d)(e:fM d M=some (ks,l)):∃ a xs,x=.ref a/\H a=some (.dK (ks.zip xs))/\ks.length=xs.length/\Cvs mg ρ H xs l:=by
 unfold fM at e;split at e
 ·cases e;cases c with | dic n h hl c=>exact⟨_,_,rfl,h,hl,c⟩
 ·split at e
  ·rename_i n _ ks' ds' h;cases e;cases c with | ref hn=>
   obtain⟨xs,h1,h2,h3⟩:=j.obj _ _ _ hn h;exact⟨_,xs,rfl,h1,h2,h3⟩
  ·cases e
 ·cases e
theorem pQ(c:Cv mg ρ H y d)(e:kO d=some k):y=kV k:=by
 unfold kO at e;split at e
 ·cases e;cases c;rfl
 ·cases e;cases c;rfl
 ·cases e
theorem tZ(k:Key):∀ {xs:List V}{ds:List D} (ks:List Key),Cvs mg ρ H xs ds->ks.length=xs.length->(cM ks ds k=none->valV (ks.zip xs) k=none)/\∀ d,cM ks ds k=some d->∃ v,valV (ks.zip xs) k=some v/\Cv mg ρ H v d
 |_,_,[],.nil,_=>⟨λy=>rfl,λd h=>by cases h⟩
 |_,_,[],.cons a t,h=>by cases h
 |_,_,_::_,.nil,h=>by cases h
 | _,_,k'::ks,.cons a t,h=>by
   obtain⟨h1,h2⟩:=tZ k ks t (by simpa using h)
   rw[Wg];by_cases e:k'=k
   ·rw[valV_pos (p:=(k',_)) e];refine⟨λz=>?_,λd z=>?_⟩
    ·simp[cM,e]at z
    ·simp only[cM,e,if_true]at z;cases z;exact⟨_,rfl,a⟩
   ·rw[valV_neg (p:=(k',_)) e];simp only[cM,e,if_false];exact⟨h1,h2⟩
end
def Gv(x y:D)(M:Mo):Option D:=(fM x M).bind λp=>(kO y).bind λk=>cM p.1 p.2 k
def Ax(x y:D)(M:Mo):Option D:=(fM y M).bind λp=>(kO x).map λk=>.bl (!(cM p.1 p.2 k).isSome)
section
variable{X:Cx}{E:XK}
theorem some_of(k:Key)(c:Cvs mg ρ H xs ds)(h:ks.length=xs.length):(valV (ks.zip xs) k).isSome=(cM ks ds k).isSome:=by
 obtain⟨h1,h2⟩:=tZ k ks c h;cases e:cM ks ds k with
 |none=>rw[h1 e];rfl
 |some d=>obtain⟨v,e2,_⟩:=h2 d e;rw[e2];rfl
theorem G8(hu:X.A.units+1<cLine):bM X E (compareOp .NotIn) (λx y=>rd (Ax x y)):=by intro Xp s σ H x y v u Q I rx ry q;obtain⟨ρ,M,dx,dy,j,cx,cy,go⟩:=q;obtain⟨d,e,p⟩:=go.rd;obtain⟨⟨ks,ds⟩,h1,h2⟩:=Sw.mp e;obtain⟨k,h3,rfl⟩:=RL.mp h2;obtain⟨a,xs,rfl,ha,hl,c⟩:=wu j cy h1;obtain rfl:=pQ cx h3;obtain rfl:u=Value.ref a:=ry;have so:=some_of k c hl;exact d_notIn hu I (DGet.k (k:=k) ha) rx λs' I'=>⟨.bl _,H,I',rfl,p ρ H _ .refl j (by rw[so];exact .bl _)⟩
theorem Kf(hu:X.A.units+1<cLine)(ha:DE X E a fa)(hb:DE X E b fb)(hs:NoSl b:=by exact λz z=>rfl):DE X E (.Subscript a b pos) (λδ=>fa δ>>=λx=>fb δ>>=λy=>rd (Gv x y)):=
 ⟨PE.mono (pe_dget hu ha.h hb.h hs) fun σ H Q h=>by
  obtain⟨ρ,δ,M,ev,j,g1⟩:=h;refine⟨ρ,δ,M,ev,j,g1.bind λρ1 H1 M1 x dx e1 j1 c1 g2=>⟨ρ1,δ,M1,ev.mono e1,j1,g2.bind λρ2 H2 M2 y dy e2 j2 c2 g3=>?_⟩⟩
  obtain⟨d,e,p⟩:=g3.rd;obtain⟨⟨ks,ds⟩,h1,h2⟩:=Sw.mp e;obtain⟨k,h3,h4⟩:=Sw.mp h2;obtain⟨a,xs,rfl,ha,hl,c⟩:=wu j2 (c1.mono e2) h1;obtain rfl:=pQ c2 h3;obtain⟨v,e3,cv⟩:=(tZ k ks c hl).2 d h4;exact⟨a,v,rfl,by rw[<-e3];exact DGet.k ha,p ρ2 H2 _ .refl j2 cv⟩⟩
def Ay:D->D->D->DM Unit
 |.ref n,y,v=>λM=>match M[n]?,kO y with
   |some (.dic ks ds),some k=>if cM ks ds k=none/\ks.length<2^20 then some (.ok (),M.set n (.dic (ks++[k]) (ds++[v]))) else none
   |_,_=>none
 |_,_,_=>stuck
theorem yJ:∀ {as:List α}{bs:List β} (a:α) (b:β),as.length=bs.length->(as++[a]).zip (bs++[b])=as.zip bs++[(a,b)]
 |[],[],_,_,_=>rfl
 |[],_::_,_,_,h=>by cases h
 |_::_,[],_,_,h=>by cases h
 |x::as,y::bs,a,b,h=>by rw[VH,VH,Wg,Wg,yJ a b (by simpa using h),VH]
set_option tactic.hygienic true in
theorem Hn(hu:X.A.units + 1<cLine):PSet X (Bk X.mg E Ay):=by
 intro Xp s σ H o i v ov iv u Q I ro ri rv h;obtain⟨ρ,M,dO,di,dv,j,co,ci,cv,r,e,p⟩:=h;cases co with
 | ref hn=>
   rename_i n a;have e:(match M[n]?,kO di with
    |some (.dic ks ds),some k=>if cM ks ds k=none/\ks.length<2^20 then some (R.ok (),M.set n (.dic (ks++[k]) (ds++[dv]))) else none
    |_,_=>none)=some r:=e
   split at e
   ·rename_i ks ds k hm hk;split at e
    ·rename_i hc;cases e;obtain⟨xs,hx,hl,c⟩:=j.obj _ _ _ hn hm;obtain rfl:=pQ ci hk;obtain rfl:ov=Value.ref a:=ro;have nn:=(tZ k ks c hl).1 hc.1;have pn:=putK_new v nn;have lz:(ks.zip xs).length<sizeLine:=by rw[List.length_zip,<-hl,Nat.min_self];exact Wc hc.2 (by show 2^20<2^24;decide)
     have x:Ext ρ H ρ (upd H a (.dK ((ks++[k]).zip (xs++[v])))):=.upd (S7 hn);refine d_setItem hu I (DPut.k (k:=k) hx lz) ri rv λs' I'=>⟨_,I',?_⟩
     rw[pn,<-yJ k v hl];exact p ρ _ () x (j.upd hn ⟨_,upd_same,by simp[hl],(c.append (.cons cv .nil)).mono x⟩) trivial
    ·cases e
   ·cases e
 |_=>cases e
def vp(x v:D):DM D:=λM=>match kO x with
 |some k=>some (.ok (.ref M.length),M++[.dic [k] [v]])
 |none=>none
set_option tactic.hygienic true in
theorem Ih(i:Nat)(hN:X.N[i]?=some x:=by rfl)(hv:Vis X.env.scope x:=by first | exact Or.inl rfl | exact Or.inr (Or.inl rfl) | exact Or.inr (Or.inr rfl))(hd:(x == ("__debug__":Str))=false:=by decide)
  (hcd:(x==("__classdict__":Str))=false:=by decide):DE X E (.Dict [some (.Name x p1)] [.Constant (.int c) cj p2] pos) (λδ=>bL i δ>>=λy=>vp y (.int c)):=
 ⟨PE.mono (pe_disp (pps_cons (pe_var (i:=i) hN hv hd hcd) pe_int pps_nil) rfl rfl (by simp) (by simp)) fun σ H Q h=>by
  obtain⟨ρ,δ,M,ev,j,g⟩:=h;have g:Go X.mg E (Cv X.mg) Q ρ H (opt δ[i]?.join>>=λy=>vp y (.int c)) M:=g
  cases z:δ[i]?.join with
  |none=>rw[z]at g;obtain⟨r,e,_⟩:=g;cases e
  | some d=>
    rw[z]at g;have g:Go X.mg E (Cv X.mg) Q ρ H (vp d (.int c)) M:=g;have e':δ[i]?=some (some d):=by
     cases y:δ[i]? with
     |none=>rw[y]at z;cases z
     |some o=>rw[y]at z;exact congrArg some z
    obtain⟨v,h1,h2⟩:=ev.val i d e';obtain⟨r,e,q⟩:=g;unfold vp at e;split at e
    ·rename_i k hk;cases e;obtain rfl:=pQ h2 hk;intro p hp;refine⟨kV k,h1,upd_same,[(k,.int c)],rfl,by simp,?_⟩
     have em:mergeK [] [(k,V.int c)]=[k].zip [V.int c]:=rfl;rw[em,upd_upd];have x:Ext ρ H (ρ.put p) (upd H p (.dK ([k].zip [V.int c]))):=.put hp;refine q _ _ _ x (j.put hp ⟨[.int c],upd_same,rfl,.cons (.int c) .nil⟩) (.ref ?_);show (ρ.st++[p])[_]?=_;rw[<-j.len];simp
    ·cases e⟩
end
def pU:List Key->Option (List Int)
 |[]=>some []
 |.inl i::ks=>(pU ks).map (i::·)
 |.inr _::_=>none
theorem wZ:∀ {ks:List Key}{ns:List Int},pU ks=some ns->ks=ns.map Sum.inl
 |[],ns,e=>by cases e;rfl
 |.inl i::ks,ns,e=>by obtain⟨ms,h,rfl⟩:=RL.mp e;rw[wZ h];rfl
 |.inr _::_,_,e=>by cases e
def vC:List D->Mo->Option D
 |[d],M=>(fM d M).bind λp=>(pU p.1).bind λns=>if ns.length<=60 then some (.lst ((pG ns).map D.int)) else none
 |_,_=>none
section
variable{X:Cx}{E:XK}
set_option tactic.hygienic true in
theorem Ak(hh:X.A.handled=none):CallD X E (.builtin "sorted") (λl=>rd (vC l)):=CallD.of (vW hh) λvs H Q ρ M ds d j c e q=>by
 unfold vC at e;split at e
 ·obtain⟨⟨ks,l⟩,h1,e⟩:=Sw.mp e;obtain⟨ns,h2,e⟩:=Sw.mp e;split at e
  ·rename_i hn;cases e;obtain⟨v,rfl,k⟩:=c.one;obtain⟨a,xs,rfl,ha,hl,c'⟩:=wu j k h1;obtain rfl:=wZ h2;refine⟨a,_,ns,rfl,ha,?_,hn,λp hp=>q ρ _ _ (.lay hp) (j.lay _ hp) (.lst (j.fresh hp) upd_same (Cvs.ints _))⟩
   rw[List.map_fst_zip (Nat.le_of_eq hl)]
  ·cases e
 ·cases e
end
end L3
namespace L3
open PySem L2
theorem u5{c:aa->DM Bool}{fb:aa->DM Fl}{oH:aa->Mo->Prop}(I:Nat->aa->Mo->Prop)
  (step:∀m δ M,I m δ M->∃b,c δ M=some (.ok b,M)/\(b=true->Rn (fb δ) M λr M'=>∃δ' m',r=.nx δ'/\m'<m/\I m' δ' M')/\(b=false->oH δ M)) :
  ∀(N m:Nat) (δ:aa) (M:Mo),m<N->I m δ M->Rn (eO c fb N δ) M λr M'=>∃δ',r=.nx δ'/\oH δ' M'
 |0,m,δ,M,h,_=>by lia
 | N + 1,m,δ,M,h,i=>by
   obtain⟨b,e,h1,h2⟩:=step m δ M i;unfold eO;refine Rn.bind (Q1:=λb' M'=>b'=b/\M'=M) ⟨b,M,e,rfl,rfl⟩ λb' M' ⟨eb,eM⟩=>?_
   subst eb eM;cases b' with
   |false=>exact Rn.pure ⟨δ,rfl,h2 rfl⟩
   |true=>
     refine Rn.bind (h1 rfl) λr M1 ⟨δ',m',er,hm,i'⟩=>?_
     subst er;exact u5 I step N m' δ' M1 (by lia) i'
def kD(ks:List Nat):List Key:=ks.map λn:Nat=>Sum.inl (n:Int)
theorem pI(x:Nat):∀ (ks:List Nat) (ds:List D),ks.length=ds.length->(cM (kD ks) ds (.inl (x:Int))).isSome=ks.contains x
 |[],[],_=>rfl
 |[],_::_,h=>by cases h
 |_::_,[],h=>by cases h
 | k::ks,d::ds,h=>by
   have ih:=pI x ks ds (by simpa using h)
   show (cM (Sum.inl (k:Int)::kD ks) (d::ds) (.inl (x:Int))).isSome=_;rw[List.contains_cons];by_cases e:k=x
   ·subst e;simp[cM]
   ·have e1:¬ (Sum.inl (k:Int):Key)=.inl (x:Int):=λq=>e (by have:=Sum.inl.inj q;lia)
    have e2:(x==k)=false:=by simp;exact λq=>e q.symm
    simp only[cM,e1,if_false,ih,e2,Bool.false_or]
theorem Gw(h:M[n]?=some (.dic (kD ks) ds))(hl:ks.length=ds.length):Ax (nD x) (.ref n) M=some (.bl (!ks.contains x)):=by
 have e:fM (.ref n) M=some (kD ks,ds):=by simp[fM,h]
 have:=pI x ks ds hl;unfold Ax nD;rw[e];simp only[Option.bind_some,kO,Option.map_some,this]
theorem Gx(h:M[n]?=some (.dic (kD ks) ds))(hl:ks.length=ds.length)(hx:x∉ks)(hk:ks.length<1000):
  Ay (.ref n) (nD x) v M=some (.ok (),M.set n (.dic (kD (ks++[x])) (ds++[v]))):=by
 have e:=pI x ks ds hl;have e0:ks.contains x=false:=by simpa using hx
 rw[e0,Option.isSome_eq_false_iff,Option.isNone_iff_eq_none]at e;have e1:kD (ks++[x])=kD ks++[Sum.inl (x:Int)]:=by simp[kD]
 delta Ay;dsimp only[nD];rw[h];dsimp only[kO];rw[R1 ⟨e,by unfold kD;rw[RT];exact Wc hk (by decide)⟩,e1]
theorem yz:∀ {ks vs:List Nat},ks.length=vs.length->x∈ks->∃ v∈vs,cM (kD ks) (vs.map nD) (.inl (x:Int))=some (nD v)
 |[],_,_,h=>by cases h
 |_::_,[],h,_=>by cases h
 | k::ks,v::vs,h,hx=>by
   show ∃u∈v::vs,cM (Sum.inl (k:Int)::kD ks) (nD v::vs.map nD) (.inl (x:Int))=some (nD u);by_cases e:k=x
   ·subst e;exact⟨v,by simp,by simp[cM]⟩
   ·have e1:¬ (Sum.inl (k:Int):Key)=.inl (x:Int):=λq=>e (by have:=Sum.inl.inj q;lia)
    have hx':x∈ks:=by
     rcases R8.mp hx with q | q
     ·exact absurd q.symm e
     ·exact q
    obtain⟨u,hu,eu⟩:=yz (by simpa using h) hx'
    exact⟨u,by simp[hu],by simp only[cM,e1,if_false,eu]⟩
theorem Im{n x:Nat}{ks vs:List Nat}(h:M[n]?=some (.dic (kD ks) (vs.map nD)))(hl:ks.length=vs.length)(hx:x∈ks):∃v∈vs,Gv (.ref n) (nD x) M=some (nD v):=by
 obtain⟨v,hv,e⟩:=yz hl hx;refine⟨v,hv,?_⟩;have e0:fM (.ref n) M=some (kD ks,vs.map nD):=by simp[fM,h]
 unfold Gv;rw[e0];show (kO (nD x)).bind (λk=>cM (kD ks) (vs.map nD) k)=_
 exact e
theorem w5:∀ ks:List Nat,pU (kD ks)=some (ks.map λn:Nat=>(n:Int))
 |[]=>rfl
 |k::ks=>by show (pU (kD ks)).map ((k:Int)::·)=_;rw[w5 ks];rfl
theorem Fx{n:Nat}{ks:List Nat}{p:Nat->Bool}(nd:ks.Nodup)(hp:∀x,x∈ks ↔ x<n/\p x=true):pG (ks.map λn:Nat=>(n:Int))=((List.range n).filter p).map λn:Nat=>(n:Int):=by
 have f:=ie (ks.map λn:Nat=>(n:Int))
 refine lK (f.1.trans ?_) f.2 ?_
 ·refine List.Perm.map _ ((List.perm_ext_iff_of_nodup nd (List.nodup_range.filter _)).mpr λx=>?_)
  rw[hp,TV,RW]
 ·refine List.Pairwise.map _ (λa b (h:a<b)=>?_) (List.Pairwise.sublist List.filter_sublist List.pairwise_lt_range)
  lia
theorem Fw{n m:Nat}{ks:List Nat}{ds:List D}{p:Nat->Bool}(h:M[m]?=some (.dic (kD ks) ds))(hk:ks.length<=60)(nd:ks.Nodup)(hp:∀x,x∈ks ↔ x<n/\p x=true):
  vC [.ref m] M=some (.lst (((List.range n).filter p).map nD)):=by
 have e0:fM (.ref m) M=some (kD ks,ds):=by simp[fM,h]
 unfold vC;dsimp only;rw[e0];show (pU (kD ks)).bind _=_;rw[w5,Option.bind_some,R1 (by rw[RT];exact hk),Fx nd hp,Tq]
 rfl
end L3
namespace L3
open PySem PySem.Spec L2 LB
def tupI(t:List Int):D:=.tup (t.map D.int)
def iy:List D->Option (List (List Int))
 |[]=>some []
 |.tup l::r=>(intsOf l).bind λt=>if t=[] then none else (iy r).map (t::·)
 |_::_=>none
set_option tactic.hygienic true in
theorem uZ:∀ {l:List D}{ts:List (List Int)},iy l=some ts->l=ts.map tupI/\∀ t∈ts,t≠[]
 |[],ts,e=>by cases e;exact⟨rfl,λt h=>by cases h⟩
 | d::l,ts,e=>by
   cases d with
   | tup l0=>
     obtain⟨t,h1,e⟩:=Sw.mp e;split at e
     ·cases e
     ·rename_i hne;obtain⟨ms,h,rfl⟩:=RL.mp e;obtain⟨h2,h3⟩:=uZ h;refine⟨by rw[h2,uR h1];rfl,λx hx=>?_⟩
      rcases R8.mp hx with rfl | hx
      ·exact hne
      ·exact h3 x hx
   |_=>simp[iy]at e
theorem tY:∀ {ts:List (List Int)},(∀ t∈ts,t≠[])->iy (ts.map tupI)=some ts
 |[],_=>rfl
 |t::ts,h=>by
   have ih:=tY (ts:=ts) λx hx=>h x (.tail _ hx)
   have h1:=h t (Tp);show (intsOf (t.map D.int)).bind _=_;rw[sJ];show (if t=[] then none else _)=_
   rw[R3 h1,ih];rfl
end L3
namespace L3
open PySem L2
theorem uV{α:Type}{fe:aa->DM D}{rest:aa}{n:Nat}{M:Mo}{L:List α}(enc e:α->D)(hM:M[n]?=some (.lst (L.map enc)))(hL:L.length<=1000000)(h:∀ a∈L,fe (some (enc a)::rest) M=some (.ok (e a),M)):
  ∀(k i:Nat) (x:Option D) (l:List D),i+k=L.length+1->1<=k->l=(L.take i).map e->∃z,pR (gN 0) (λy=>Pure.pure true) (bW fe) n k i (x::rest) l M=some (.ok (z::rest,L.map e),M)
 |0,i,x,l,_,h1,_=>by lia
 | k + 1,i,x,l,hk,_,hl=>by
   have rn:rd (Itn.next (.dyn n) i) M=some (.ok ((L.map enc)[i]?),M):=by
    have:Itn.next (.dyn n) i M=some ((L.map enc)[i]?):=by simp only[Itn.next,hM]
    unfold rd;rw[this];rfl
   by_cases c:i<L.length
   ·have e1:(L.map enc)[i]?=some (enc L[i]):=by rw[R0,RV c];rfl
    rw[e1]at rn;have ih:=uV enc e hM hL h k (i+1) (some (enc L[i])) (l++[e L[i]]) (by lia) (by lia) (by rw[hl,Vr c,T5];rfl)
    obtain⟨z,ih⟩:=ih;refine⟨z,?_⟩;have hf:=h L[i] (Td c);have lt:l.length<sizeLine:=by show _<2^24;rw[hl];simp;lia
    show DM.bind (rd (Itn.next (.dyn n) i)) _ M=_;unfold DM.bind;rw[rn];show ((gN 0 (enc L[i]) (x::rest))>>=λδ1=>(Pure.pure true:DM Bool)>>=λb=>(if b then bW fe δ1 l else Pure.pure (δ1,l))>>=λp=>pR _ _ _ n k (i+1) p.1 p.2) M=_
    rw[fV,aD,aD];show ((bW fe (some (enc L[i])::rest) l)>>=λp=>pR _ _ _ n k (i+1) p.1 p.2) M=_
    unfold bW;rw[aZ];show DM.bind (fe _) _ M=_;unfold DM.bind;rw[hf];dsimp only;rw[R1 lt];exact ih
   ·have e1:(L.map enc)[i]?=none:=Uj (by rw[RT];lia)
    rw[e1]at rn;refine⟨x,?_⟩;show DM.bind (rd (Itn.next (.dyn n) i)) _ M=_;unfold DM.bind;rw[rn];have:L.take i=L:=Uz (by lia)
    rw[hl,this];rfl
theorem zf{α:Type}{fe:aa->DM D}{rest:aa}{n:Nat}{M:Mo}{L:List α}{x:Option D}(enc e:α->D)(hM:M[n]?=some (.lst (L.map enc)))(hL:L.length<=1000000)(h:∀a∈L,fe (some (enc a)::rest) M=some (.ok (e a),M)){β:Type}{k:aa×List D->DM β}{Q:β->Mo->Prop}(k':List D->DM β)(hk:∀q,k q=k' q.2)(q:Rn (k' (L.map e)) M Q):
  Rn (rd (lL (.ref n))>>=λit=>cU (bR (gN 0) (λy=>Pure.pure true) (bW fe) it (x::rest) [])>>=k) M Q:=by
 refine Rn.bindRd (.dyn n) (by simp only[lL,hM]) ?_
 obtain⟨z,e2⟩:=uV (rest:=rest) enc e hM hL h (L.length+1) 0 x [] (by lia) (by lia) rfl
 have e1:bR (gN 0) (λy=>Pure.pure true) (bW fe) (.dyn n) (x::rest) [] M=some (.ok (z::rest,L.map e),M):=by
  show DM.bind (rd (λM=>aM (.ref n) M)) _ M=_
  unfold DM.bind rd;simp only[aM,hM,Option.map_some,List.length_map];exact e2
 refine Rn.bind (Cm ⟨_,_,e1,rfl,rfl⟩:Rn (cU _) M λp M'=>p=(z::rest,L.map e)/\M'=M) λp M' ⟨e1,e2⟩=>?_
 subst e1 e2;rw[hk];exact q
end L3
namespace L3
open PySem PySem.Spec L2 LA LB
open PyProof.Rows hiding St
theorem Pr(h:(iy [d]).isSome=true):∃ t,d=tupI t/\t≠[]/\iy [d]=some [t]:=by
 obtain⟨ts,e⟩:=U3.mp h;obtain⟨h1,h2⟩:=uZ e;cases ts with
 |nil=>cases h1
 | cons t ts=>
   cases ts with
   |nil=>simp at h1;exact⟨t,h1,h2 t (by simp),e⟩
   |cons u ts=>simp at h1
section
variable{mg:Str->Option Value}{ρ:Rh}{H:Hp}{acc:Addr}{φ:Heap->Prop}{o:HO}
mutual
theorem Cv.x(hp:H acc=some (.ext φ)):∀ {v:V}{d:D},Cv mg ρ H v d->Cv mg ρ (L2.upd H acc o) v d
 |_,_,.non=>.non
 |_,_,.bl b=>.bl b
 |_,_,.int i=>.int i
 |_,_,.str x=>.str x
 |_,_,.tup n h c=>.tup n ((upd_ne λz=>by rw[z,hp]at h;cases h).trans h) (Cvs.x hp c)
 |_,_,.lst n h c=>.lst n ((upd_ne λz=>by rw[z,hp]at h;cases h).trans h) (Cvs.x hp c)
 |_,_,.dic n h l c=>.dic n ((upd_ne λz=>by rw[z,hp]at h;cases h).trans h) l (Cvs.x hp c)
 |_,_,.obj n m h l c=>.obj n m ((upd_ne λz=>by rw[z,hp]at h;cases h).trans h) l (Cvs.x hp c)
 |_,_,.scr n h=>.scr n (by
   rcases h with h | ⟨o',h⟩
   ·exact .inl ((upd_ne λz=>by rw[z,hp]at h;cases h).trans h)
   ·exact .inr ⟨o',(upd_ne λz=>by rw[z,hp]at h;cases h).trans h⟩)
 |_,_,.ref h=>.ref h
 |_,_,.cls h=>.cls h
 |_,_,.ty t=>.ty t
 |_,_,.exn a=>.exn a
theorem Cvs.x(hp:H acc=some (.ext φ)):∀{vs:List V}{ds:List D},Cvs mg ρ H vs ds->Cvs mg ρ (L2.upd H acc o) vs ds
 |_,_,.nil=>.nil
 |_,_,.cons h t=>.cons (Cv.x hp h) (Cvs.x hp t)
end
theorem Ev.x(hp:H acc=some (.ext φ))(h:Ev mg ρ H σ δ):Ev mg ρ (L2.upd H acc o) σ δ:=⟨h.len,λi d q=>let ⟨v,a,b⟩:=h.val i d q;⟨v,a,b.x hp⟩⟩
theorem jr.ne(hp:H acc=Option.some (HO.ext φ))(h:jr mg ρ H a u):a≠acc:=λz=>by
 subst z;cases u with
 |lst l=>obtain⟨xs,h,_⟩:=h;rw[hp]at h;cases h
 |dic ks l=>obtain⟨xs,h,_⟩:=h;rw[hp]at h;cases h
 |ins c ns l=>obtain⟨C,dx,xs,_,h,_⟩:=h;rw[hp]at h;cases h
theorem J.x(j:J mg ρ M H)(hp:H acc=Option.some (HO.ext φ)):J mg ρ M (L2.upd H acc o):=⟨j.len,j.nd,λn a u h1 h2=>(j.obj n a u h1 h2).map (upd_ne (jr.ne hp (j.obj n a u h1 h2))) λvs ds c=>c.x hp,λa h=>by obtain⟨x,xs,e⟩:=j.vol a h;exact⟨x,xs,by rw[upd_ne λz=>by rw[z,hp]at e;cases e];exact e⟩⟩
end
theorem ExtB.growO(na:acc∉ρ.st):ExtB acc ρ H ρ (upd H acc o):=⟨⟨[],by simp⟩,rfl,λa h n=>absurd h n,λa u h z ne=>by rw[upd_ne ne];exact h,na⟩
end L3
namespace L3
open PySem PySem.Spec L2 LA LB LS
open PyProof.Rows hiding St
theorem DQ(h:Q (.ref s.heap.objs.size) { s with heap:=s.heap.push (cB #[] 0 (.fresh 0 0 (!cT w))) }):wpAny (model prog w) A (newSet (.type "set")) Q E s:=by unfold newSet setsByText;refine RD (RD (UT (RJ ?_)));exact SQ h
section
variable{acc:Addr}{ρ ρ1:Rh}{H H1:Hp}{o:HO}
theorem ExtB.ext(x:ExtB acc ρ (upd H acc o) ρ1 H1)(hf:H acc=none):Ext ρ H ρ1 H1:=⟨x.pre,x.vo,λa h n=>by
  have:=x.new a h n;by_cases z:a=acc
  ·rw[z];exact hf
  ·rw[upd_ne z]at this;exact this,λa u h n=>x.keep a u (by rw[upd_ne (ne_of_none h hf)];exact h) n (ne_of_none h hf)⟩
theorem ExtB.kpS(x:ExtB acc ρ (upd H acc o) ρ1 H1)(hf:H acc=none):Kp ρ H ρ1 H1:=⟨x.pre,λa u h n z=>⟨(x.ext hf).out h n,(x.ext hf).keeps h n⟩⟩
end
end L3
namespace L2
open PySem PySem.Spec PyProof.Rows LS LA LB
end L2
namespace L3
open PySem PySem.Spec L2 LA LB
end L3
namespace L3
open PySem PySem.Spec L2
open PyProof.Rows hiding St
end L3
namespace L3
open PySem PySem.Spec PyProof.Rows L2
abbrev TB(K:PySem.W.Frag)(x:Str):Prop:=PySem.W.nsIn K mainGlobals x=some none
def TD(K:PySem.W.Frag)(x:Str)(st:Stmt):Prop:=∀{h:Heap}{mg:Mg},K.In h->h.Ns mainGlobals mg->DefAt K mg x st
section
variable{K:PySem.W.Frag}{x:Str}{st:Stmt}{f:Addr}{oc:Value}{od an:Option Addr}{osl:Array (Option Value)}{kV doc pm cdv ct:Value}
theorem Pn(a:PySem.W.nsIn K mainGlobals x=some (some (.ref f)))(l:K.lookup f=some ⟨oc,od,.func (PySem.W.fnOf x x (defArgs st) (defBody st) (defScope st) .none kV doc pm an cdv ct),osl⟩)(c:PySem.W.codeIn K cdv x=true)(k:PySem.W.keepIn K (.ref f)=true):TD K x st:=
 λX G=>Gu X G a l c k
end
section
variable{P:Program}{w:World}{K:PySem.W.Frag}{mg:Mg}{base:Heap}{k:Nat}{C:Addr}{c x qual:Str}{N ps:List Str}{st:Stmt}{fb:aa->DM Fl}{is:List Int}
theorem okd(T:DefAt K mg x st)(S:FnScope N ps (defScope st))(hbody:∀{f cdv A outer s H E},Rm k A x st s f cdv->Ds P w K mg base N x st f cdv A outer s H E fb)
  (hb:∀(kV doc pm:Value) (an:Option Addr) (cdv ct:Value) (us:List Value),us.length=ps.length->bindArgs (PySem.W.fnOf x x (defArgs st) (defBody st) (defScope st) .none kV doc pm an cdv ct) ⟨us,[]⟩=pure (ps.zip us):=by intro _ _ _ _ _ _ us hl;first | (obtain⟨_,rfl⟩:=qU hl;rfl) | (obtain⟨_,_,rfl⟩:=La hl;rfl) | (obtain⟨_,_,_,rfl⟩:=Lb hl;rfl) | (obtain⟨_,_,_,_,rfl⟩:=Ld hl;rfl)) :
  DefD P w K mg base (k+1) x ps (aG ps.length N.length fb):=L3.DefAt.okD T S hb λz z z z z z z=>hbody
theorem okn(fb:Nat->aa->DM Fl)(T:DefAt K mg x st)(S:FnScope N ps (defScope st))(hf:∀ds M r,F ds M=some r->∃n,aG ps.length N.length (fb n) ds M=some r)(hbody:∀n {f cdv A outer s H E},Rm k A x st s f cdv->Ds P w K mg base N x st f cdv A outer s H E (fb n))
  (hb:∀(kV doc pm:Value) (an:Option Addr) (cdv ct:Value) (us:List Value),us.length=ps.length->bindArgs (PySem.W.fnOf x x (defArgs st) (defBody st) (defScope st) .none kV doc pm an cdv ct) ⟨us,[]⟩=pure (ps.zip us):=by intro _ _ _ _ _ _ us hl;first | (obtain⟨_,rfl⟩:=qU hl;rfl) | (obtain⟨_,_,rfl⟩:=La hl;rfl) | (obtain⟨_,_,_,rfl⟩:=Lb hl;rfl) | (obtain⟨_,_,_,_,rfl⟩:=Ld hl;rfl)) :
  DefD P w K mg base (k+1) x ps F:=L3.DefAt.okN T S hb hf λn z z z z z z z=>hbody n
theorem PN(T:MethAt K C x qual st)(m:mg c=some (.ref C))(cl:L2.Cls K C)(S:FnScope N ps (defScope st))(hbody:∀{f cdv A outer s H E},Rm k A qual st s f cdv->Ds P w K mg base N qual st f cdv A outer s H E fb):MethD P w K mg base (k+1) c x qual st ps (aG ps.length N.length fb):=L3.MethAt.okD T m cl S λz z z z z z z=>hbody
end
end L3
namespace LA
open PySem PySem.W PySem.Calls LS PyProof.Rows LB
def tab(L:Bool)(j:Nat):SetTable:={ SetTable.fresh 0 0 L with place:=#[j] }
def jT(prog:Program)(w:World)(k:List Int):Nat:=SetTable.bits (hT prog w k)%8
def gP(prog:Program)(w:World)(L:Bool)(h:Heap)(a:Addr)(cs:List (Addr×List Int)):Prop:=∃ep t,h.get? a=some (cB (cs.map (ent prog w)).toArray ep t)/\((cs=[]/\t=.fresh 0 0 L)\/∃c,cs=[c]/\t=tab L (jT prog w c.2))
theorem J4(j:Nat):SetTable.below #[j] j=0:=by show SetTable.below.go #[j] j 1 0 1=0;simp[SetTable.below.go]
theorem Hq(L:Bool)(j:Nat):(tab L j).slot j=.live 0:=by
 show (if (#[j][SetTable.below #[j] j]?==some j)=true then SetTable.Slot.live (SetTable.below #[j] j) else _)=_
 rw[J4];simp
theorem Mm(L:Bool)(j:Nat):(SetTable.fresh 0 0 L).put j=(tab L j,0):=rfl
theorem Nq(L:Bool)(j:Nat):TI L (tab L j):=⟨List.pairwise_singleton _ _,rfl,rfl⟩
theorem Hh(L:Bool)(f:Nat->Int)(h:Int):(SetTable.fresh 0 0 L).probe f h ((SetTable.fresh 0 0 L).probeStart h)=some (.empty (SetTable.bits h%8) none):=rfl
theorem Ei(e:f 0=h):(tab L (SetTable.bits h % 8)).probe f h ((tab L (SetTable.bits h % 8)).probeStart h)=some (.candidate (SetTable.bits h % 8) 0 ((tab L (SetTable.bits h % 8)).advance ((tab L (SetTable.bits h % 8)).probeStart h))):=by
 show (match (tab L (SetTable.bits h%8)).slot (SetTable.bits h%8) with
   |.empty=>some (SetTable.Met.empty (SetTable.bits h%8) none)
   |.dummy=>_
   |.live i=>if f i==h then some (.candidate (SetTable.bits h%8) i ((tab L (SetTable.bits h%8)).advance ((tab L (SetTable.bits h%8)).probeStart h))) else _)=_
 rw[Hq];dsimp only;rw[e,R1 (by simp)]
section
variable{prog:Program}{w:World}{A:Around}{E:Value->Shared->Prop}{s:Shared}{L:Bool}{cs:List (Addr×List Int)}{a b:Addr}{k:List Int}
theorem ug(L:Bool):(SetTable.fresh 0 0 L).fits 0=true:=rfl
theorem jB(L:Bool)(j:Nat):(tab L j).fits 1=true:=rfl
theorem Gh(hu:A.units<cLine)(hS:gP prog w L s.heap a cs)(H:JX prog w s.heap cs)(hk:IsTupleKey (iK prog w) s.heap k b)(room:cs=[]\/k∈cs.map (·.2))
  (h:∀h' r,Heap.SameBut a s.heap h'->gP prog w L h' a (if k∈cs.map (·.2) then cs else cs++[(b,k)])->Q r { s with heap:=h' }):wpAny (model prog w) A (setAddHashed a (.ref b) (hT prog w k)) Q E s:=by
 obtain⟨ep,t,ho,⟨rfl,rfl⟩ | ⟨c,rfl,rfl⟩⟩:=hS
 ·unfold setAddHashed;refine Tz ?_;unfold setAddHashedIn;refine RD (T4 ho rfl (ug L) ?_);dsimp only;have bs:byScan (.ref b) (([]:List (Addr×List Int)).map (ent prog w)).toArray=false:=rfl;rw[bs];simp only[Bool.false_eq_true,if_false];refine RD ?_;unfold setSearch;show wpAny _ _ (setSearchFrom a (.ref b) (hT prog w k) true (99999+1) none) _ _ _;unfold setSearchFrom;refine RD (T4 ho rfl (ug L) ?_);dsimp only;rw[show (SetTable.fresh 0 0 L).gaveWay=false by unfold SetTable.gaveWay;show (7%2==0)=false;decide]
  simp only[Bool.false_eq_true,if_false];generalize hpg:SetTable.probe _ _ (hT prog w k) _=Y;obtain rfl:Y=some (.empty (SetTable.bits (hT prog w k)%8) none):=hpg.symm.trans (Hh L _ _);refine RJ ?_;dsimp only;refine RD (T4 ho rfl (ug L) ?_);dsimp only;rw[Mm];dsimp only;rw[R1 (show (tab L (SetTable.bits (hT prog w k)%8)).plain=true from rfl)]
  refine RD (Bh hk ?_);simp only[if_true];have es:SetTable.insertAt (([]:List (Addr×List Int)).map (ent prog w)).toArray 0 (hT prog w k,Value.ref b)=([(b,k)].map (ent prog w)).toArray:=rfl;rw[es];refine RD (wpAny_storeSet_of ho rfl ?_ (by rw[Vo];simp))
  have o1:=JH (es1:=([(b,k)].map (ent prog w)).toArray) (t1:=tab L (jT prog w k)) ho;have b1:=Vc s.heap a (Obj.putSet ([(b,k)].map (ent prog w)).toArray (tab L (jT prog w k)));have nf:(!false&&(tab L (SetTable.bits (hT prog w k)%8)).tooFull)=false:=rfl;rw[R3 (by rw[nf];decide)]
  refine RD (RJ ?_);refine RJ (h _ true b1 ?_);exact⟨_,_,o1,.inr ⟨(b,k),rfl,rfl⟩⟩
 ·have m:k∈([c]:List (Addr×List Int)).map (·.2):=room.resolve_left (by simp)
  have ek:c.2=k:=(SJ.mp m).symm;subst ek;unfold setAddHashed;refine Tz ?_;unfold setAddHashedIn;refine RD (T4 ho rfl (jB L _) ?_);dsimp only;have bs:byScan (.ref b) (([c]:List (Addr×List Int)).map (ent prog w)).toArray=false:=rfl;rw[bs];simp only[Bool.false_eq_true,if_false];refine RD ?_;unfold setSearch;show wpAny _ _ (setSearchFrom a (.ref b) (hT prog w c.2) true (99999+1) none) _ _ _;unfold setSearchFrom;refine RD (T4 ho rfl (jB L _) ?_);dsimp only;rw[show (tab L (jT prog w c.2)).gaveWay=false by unfold SetTable.gaveWay;show (7%2==0)=false;decide]
  simp only[Bool.false_eq_true,if_false];generalize hpg:SetTable.probe _ _ (hT prog w c.2) _=Y;obtain rfl:Y=some (.candidate (SetTable.bits (hT prog w c.2)%8) 0 ((tab L (SetTable.bits (hT prog w c.2)%8)).advance ((tab L (SetTable.bits (hT prog w c.2)%8)).probeStart (hT prog w c.2)))):=hpg.symm.trans (Ei rfl);dsimp only;have hc:IsTupleKey (iK prog w) s.heap c.2 c.1:=H c (by simp)
  have hl:∀v∈(((([c]:List (Addr×List Int)).map (ent prog w)).toArray).filter (λx=>x.1==hT prog w c.2)).toList.map (·.2),∃b' k',v=.ref b'/\IsTupleKey (iK prog w) s.heap k' b':=λv hv=>by
   obtain⟨e,he,rfl⟩:=Te.mp hv;have he:=(Array.mem_filter.mp (Array.mem_toList_iff.mp he)).1;have he:e=ent prog w c:=by simpa using he
   subst he;exact⟨c.1,c.2,rfl,hc⟩
  have fin:wpAny (model prog w) A (pure (SetFound.there none)) (λr s'=>Q false { s with heap:=s.heap }) E s:=RJ (h s.heap false (Heap.SameBut.refl a s.heap) (by rw[R1 m];exact⟨ep,_,ho,.inr ⟨c,rfl,rfl⟩⟩))
  have q:Q false s:=h s.heap false (Heap.SameBut.refl a s.heap) (by rw[R1 m];exact⟨ep,_,ho,.inr ⟨c,rfl,rfl⟩⟩)
  have e0:(([c]:List (Addr×List Int)).map (ent prog w)).toArray[0]?=some (ent prog w c):=rfl;split
  ·refine RD (G7 hk hl ?_);simp only[Bool.false_eq_true,if_false];rw[e0];dsimp only[ent];refine RD (Tz (wpAny_eqBool_tuple hu hc hk ?_));refine RD (T4 ho rfl (jB L _) ?_);dsimp only;rw[S5 rfl];exact RJ (RJ q)
  ·rw[e0];dsimp only[ent];refine RD (Tz (wpAny_eqBool_tuple hu hc hk ?_));refine RD (T4 ho rfl (jB L _) ?_);dsimp only;rw[S5 rfl];exact RJ (RJ q)
theorem Bb(ho:s.heap.get? a=some (seqObj "list" #[v] n))(h:P (.done (.ret .none)) { s with heap:=sortedHeap s.heap a [v] #[v] }):
  wpAny (model prog w) A (Builtin.«list.sort» ⟨[.ref a],[]⟩) P E s:=by
 rw[list_sort_plain];have ha:a<s.heap.objs.size:=RN ho;refine RD (listItems_at ho rfl ?_);refine RD (W4 ho rfl ?_);obtain⟨e1,ho1⟩:∃e1,(s.heap.update a (Obj.mapSeq λz=>#[])).get? a=some (seqObj "list" #[] e1):=⟨_,Xg ho (λz=>#[])⟩
 refine RD (seqEpoch_at ho1 rfl ?_);refine RD (wpAny_newTuple ?_);refine RD (wpAny_newList ?_);refine Tz ?_;have ho6:(((s.heap.update a (Obj.mapSeq λz=>#[])).push (seqObj "tuple" #[v] 0)).push (seqObj "list" #[] 0)).get? a=some (seqObj "list" #[] e1):=by
  rw[Heap.get?_push_ne _ _ _ (by rw[size_push',Heap.size_update];exact R5 (Vl ha)),Heap.get?_push_ne _ _ _ (by rw[Heap.size_update];exact R5 ha)]
  exact ho1
 show wpAny (model prog w) A _ P E { s with heap:=((s.heap.update a (Obj.mapSeq λz=>#[])).push (seqObj "tuple" #[v] 0)).push (seqObj "list" #[] 0) }
 dsimp only;have h2:(#[v]:Array Value).size<2:=by simp
 rw[R1 h2,R1 h2];refine RD (RJ ?_);rw[StateT.run_pure];refine RD (RJ ?_);dsimp only;refine RD (seqEpoch_at ho6 rfl ?_);refine RD (W4 ho6 rfl ?_ (hsz2:=by rw[Array.size_map];show (pairsOf [v]).size<=_;rw[pairsOf_size,Vo];simp))
 simp only[bne_self_eq_false,Bool.false_eq_true,if_false];have e:(arrOf (SortSt.mk' general' ((#[v]:Array Value).zip #[v]) #[] 7 none)).map (·.2)=#[v]:=by show ((#[v]:Array Value).zip #[v]).map (·.2)=_;simp
 rw[e];exact RJ h
theorem xZ(hh:A.handled=none)(g:gP prog w (!cT w) s.heap a [c])
  (h:∀h' tk d' p n,s.heap.objs.size<=p->h'.get? p=some (seqObj "list" #[Value.ref c.1] n)->(∀b o,s.heap.get? b=some o->h'.get? b=some o)->Q (.ref p) { s with heap:=h',toks:=tk,drawn:=d' }) :
  wpAny (model prog w) A (call (.builtin "sorted") [.ref a]) Q E s:=by
 obtain⟨ep,t,ho,z⟩:=g;obtain rfl:t=tab (!cT w) (jT prog w c.2):=by
  rcases z with ⟨z,_⟩ | ⟨c',z,r⟩
  ·cases z
  ·cases z;exact r
 refine V4 kind_sorted plain_sorted entry_sorted (args_sorted1 _) ?_;unfold Builtin.«sorted»
 refine RD (m:=checkCount "sorted" 1 1 _) (RJ ?_);refine RD (vX (by simp[hh]) ho (jB _ _) (Nq _ _) (by simp[scanBound]) λh1 tk1 d1 vs hp sz k1=>?_)
 obtain rfl:vs=[Value.ref c.1]:=by have:vs.Perm [Value.ref c.1]:=hp;exact List.perm_singleton.mp this
 refine RD (wpAny_newList ?_ (by rw[Vo];simp))
 have oL:(h1.push (seqObj "list" #[Value.ref c.1] 0)).get? h1.objs.size=some (seqObj "list" #[Value.ref c.1] 0):=RM _ rfl;refine RD (Tz (Tc slot_list_sort ⟨_,oL,rfl⟩ entry_list_sort (Bb oL ⟨_,rfl,?_⟩) (args_list_sort _)));obtain⟨e,he⟩:=sortedHeap_at (vs:=[Value.ref c.1]) (out:=#[Value.ref c.1]) oL;refine RJ ⟨_,rfl,h _ _ _ h1.objs.size e sz he λb o eb=>?_⟩
 have lt:=RN (k1 b o eb);rw[sortedHeap_old (R5 lt) (by rw[size_push'];exact Vl lt)]
 exact RG _ (k1 b o eb)
end
end LA
namespace L2
open PySem PySem.Spec PyProof.Rows LS LA LB
def gW(P:Program)(w:World)(a:Addr)(cs:List (Addr×List Int)):HO:=.ext λh=>gP P w (!cT w) h a cs
theorem Bt(h:gP P w L h1 a cs)(k:∀o,h1.get? a=some o->h2.get? a=some o):gP P w L h2 a cs:=by obtain⟨ep,t,e,r⟩:=h;exact⟨ep,t,k _ e,r⟩
theorem xX(k:gP P w (!cT w) h a cs):ObjOk P w H h a (gW P w a cs):=⟨k,by obtain⟨_,_,e,_⟩:=k;exact⟨_,e⟩,λz z k1 s=>Bt k1 s⟩
section
variable{X:Cx}
theorem xY(hu:X.A.units+1<cLine)(I:Inv X Xp σ H s)(ha:H a=some (gW X.prog X.w a cs))(hb:H b=some (.tup (k.map V.int)))
  (hcs:∀c∈cs,H c.1=some (.tup (c.2.map V.int))) (room:cs=[]\/k∈cs.map (·.2)) (q:∀s',Inv X Xp σ (upd H a (gW X.prog X.w a (zc cs (b,k)))) s'->Q .none s') :
  wpAny (model X.prog X.w) X.A (call (.builtin "set.add") [.ref a,.ref b]) Q E s:=by
 have hS:gP X.prog X.w (!cT X.w) s.heap a cs:=(I.hok _ _ ha).1;have tI:s.TypeIs (.ref a) "set":=by obtain⟨_,_,e,_⟩:=hS;exact⟨_,e,rfl⟩
 have hk:=zy I.hok hb;have hH:JX X.prog X.w s.heap cs:=λc hc=>zy I.hok (hcs c hc)
 refine Tc F.slot_set_add tI F.entry_set_add ?_ (F.args_set_add_2 _ _);unfold Builtin.«set.add» Builtin.Frozenset.oneOther;simp only[List.isEmpty_nil,bind_assoc];unfold Builtin.Frozenset.addrOf setAdd;refine RD (RJ ?_)
 try dsimp only
 refine RD (RJ ?_)
 try dsimp only
 refine RD ?_;refine Tz ?_;refine RD (wpAny_pyHash_tuple (knd:=iK X.prog X.w) (by simpa using hu) hk ?_)
 refine Gh (s:={ s with toks:=s.toks+(k.length+1) }) (by simpa using hu) hS hH hk room λh' r sb g=>?_
 show wpAny _ _ (ret Value.none) _ _ _;refine RJ ⟨_,rfl,q _ ?_⟩;refine I.write (x:=a) (e:=a) (o:=gW X.prog X.w a (zc cs (b,k))) (by rw[ha];trivial) (.inl rfl) (λb u ne e=>(sb.2 b ne).trans e) (by obtain⟨_,_,e,_⟩:=g;exact⟨_,e⟩) ?_
 exact xX (by unfold zc;exact g)
theorem vd(hh:X.A.handled=none):CallR X (.builtin "sorted") (λxs H Q=>∃ (p:Addr) (c:Addr×List Int),xs=[.ref p]/\H p=some (gW X.prog X.w p [c])/\∀ (l:Addr),H l=none->Q (.ref l) (upd H l (.lst [V.ref c.1]))):=by
 intro Xp s σ H xs us Q I r1 h;obtain⟨p,c,rfl,hp,q⟩:=h;cases r1 with
 |cons r rr=>
   cases rr;cases r;have hS:gP X.prog X.w (!cT X.w) s.heap p [c]:=(I.hok _ _ hp).1;refine xZ hh hS λh2 tk2 d2 l m hge hol k2=>?_
   have I2:=I.call (h':=h2) (t':=tk2) (d':=d2) (g':=s.gens) (ch:=[]) (Un.laid k2 hge (I.hok.fresh hge)) (I.hok.laid (o:=.lst [V.ref c.1]) k2 hge ⟨by show 1<=2^24;decide,_,m,.cons rfl .nil,hol⟩) I.bare (λy z=>nomatch z)
   exact⟨.ref l,upd H l (.lst [V.ref c.1]),I2,rfl,q l (I.hok.fresh hge)⟩
end
end L2
namespace L3
open PySem PySem.Spec L2 LA LB LS
open PyProof.Rows hiding St
def rJ(ρ:Rh)(H:Hp)(cs:List (Addr×List Int))(l:List D):Prop:=(l=[]/\cs=[])\/∃c,cs=[c]/\l≠[]/\(∀d∈l,d=tupI c.2)/\c.1∉ρ/\H c.1=some (.tup (c.2.map V.int))
theorem rJ.mono(h:rJ ρ H cs l)(e:Ext ρ H ρ' H'):rJ ρ' H' cs l:=by
 rcases h with h | ⟨c,h1,h2,h3,b,d⟩
 ·exact .inl h
 ·exact .inr ⟨c,h1,h2,h3,e.out d b,e.keeps d b⟩
structure CstS1(X:Cx)(Xp:List (Addr×Obj))(acc:Addr)(ρ0:Rh)(H0:Hp)(δ:aa)(l:List D)(M:Mo)(fp:List Addr)(s:Shared):Prop where
 ex:∃σ H ρ cs,Inv X Xp σ H s/\ExtB acc ρ0 H0 ρ H/\J X.mg ρ M H/\Ev X.mg ρ H σ δ/\H acc=some (gW X.prog X.w acc cs)/\rJ ρ H cs l/\∀b∈fp,H b=none
open Classical in
noncomputable def fO(fe:aa->DM D)(δ:aa)(l:List D):DM (aa×List D):=fe δ>>=λd=>if (iy [d]).isSome=true/\∀e∈l,e=d then pure (δ,l++[d]) else stuck
def vG(X:Cx)(acc:Addr)(W:(Shared->Prop)->Shared->Prop)(fb:aa->List D->DM (aa×List D)):Prop:=
 ∀Xp ρ0 H0 δ l M s δ' l' M',CstS1 X Xp acc ρ0 H0 δ l M [] s->fb δ l M=some (.ok (δ',l'),M')->W (λs'=>CstS1 X Xp acc ρ0 H0 δ' l' M' [] s') s
theorem CstS1.unpin(c:CstS1 X (Xp++pl) acc ρ0 H0 δ l M [] s)(h:∀b∈fp,∃o,(b,o)∈pl):
  CstS1 X Xp acc ρ0 H0 δ l M fp s/\∀p∈pl,s.heap.get? p.1=some p.2:=by
 obtain⟨σ,H,ρ,cs,I,x,j,ev,ha,cl,_⟩:=c.ex;refine⟨⟨σ,H,ρ,cs,I.unpinned,x,j,ev,ha,cl,λb hb=>?_⟩,λp hp=>(I.pin p (S9 _ (S9 _ hp))).1⟩
 obtain⟨o,ho⟩:=h b hb;exact (I.pin (b,o) (S9 _ (S9 _ ho))).2.1
theorem G3(hc:X.calm=true)(hxe:X.xe=λy y=>False){gens:List Comprehension}{depth:Nat}{bodyK:Sem Fin->Sem Fin}{W:(Shared->Prop)->Shared->Prop}
  (hturn:compTurn (.SetComp elt gens scope pos) depth (.ref it) (.ref acc) X.env=turnOf g bodyK (.compLoop (.SetComp elt gens scope pos) depth (.ref it) (.ref acc) X.env) (.ref it) X.env) (hW:jM X.prog X.w X.A bodyK W) (hmono:∀P P' s,(∀s,P s->P' s)->W P s->W P' s)
  {fg:D->aa->DM aa}{ft:aa->DM Bool}{fb:aa->List D->DM (aa×List D)} (hg:DG X E0 g.target fg) (ht:DTs X E0 g.ifs ft) (hb:vG X acc W fb) {fp:List Addr}{tn:Nat->Heap->Prop} (T:Turn X.prog X.w X.K g.target Jt fp it tn) (iok:ItOk X.mg ρi Hi Jt itn) (kp0:∀ρ H,ExtB acc ρ0 H0 ρ H->Kp ρi Hi ρ H) {Xp:List (Addr×Obj)}
  (fok:∀H',(∀b∈fp,H' b=none)->∀b∈fp,FpOk X Xp H' b) {l:List D} (st:CstS1 X Xp acc ρ0 H0 δ l M fp s) (htn:tn 0 s.heap) {lf:List D} (hrun:bR fg ft fb itn δ l M=some (.ok (δf,lf),Mf))
  {R:Result->Shared->Prop} (hR:∀s',CstS1 X Xp acc ρ0 H0 δf lf Mf fp s'->R (.ok .next) s') :
  codeAny (model X.prog X.w) X.A (.compLoop (.SetComp elt gens scope pos) depth (.ref it) (.ref acc) X.env) R s:=by
 obtain⟨n0,rem0⟩:=oJ.start hrun;refine DK (λn s=>∃i δ l M,oJ fg ft fb δf lf Mf itn n i δ l M/\CstS1 X Xp acc ρ0 H0 δ l M fp s/\tn i s.heap) hturn hW ?_ hmono n0 ⟨0,δ,l,M,rem0,st,htn⟩
 rintro n s ⟨i,δ,l,M,rem,st,htn⟩;obtain⟨σ,H,ρ,cs,I,x,j,ev,ha,cl,fr⟩:=st.ex;have kp:Kp ρi Hi ρ H:=kp0 _ _ x;rcases rem.step with ⟨hd,rfl,rfl,rfl⟩ | ⟨d,δ1,M1,b,M2,δ3,l3,M3,m,hd,e1,e2,e3,hm,rem3⟩
 ·refine Sg (T.done X rfl rfl rfl hc i Xp s σ H _ I (fok H fr) htn (iok.stop i ρ H _ kp j hd)) (λr s1 h1=>?_) λy y z=>z
  obtain⟨rfl,I1⟩:=h1;exact hR s1 ⟨σ,H,ρ,cs,I1,x,j,ev,ha,cl,fr⟩
 ·obtain ⟨go,yl⟩:=iok.item i ρ H M d kp j hd;refine Sg (T.item X rfl rfl rfl hc i Xp s σ H (λy y=>False) I (fok H fr) htn go) (λr s1 h1=>?_) λy y z=>z
  obtain⟨u,rfl,h1⟩:=h1;refine Sg h1 (λy s2 h2=>?_) λy y z=>z
  obtain⟨xv,H5,I5,r5,y5,tn5,fr5⟩:=h2;obtain⟨x5,j5,c5⟩:=yl xv H5 y5;have I5':=I5.pinned (fok H5 fr5) (T.obj _ _ tn5);refine Sg (hg.h _ s2 σ H5 xv u (λσ6 H6=>∃ρ6,Ext ρ H5 ρ6 H6/\J X.mg ρ6 M1 H6/\Ev X.mg ρ6 H6 σ6 δ1) I5' r5 ⟨ρ,δ,M,d,ev.mono x5,j5,c5,_,e1,λρ6 H6 σ6 a1 a2 a3=>⟨ρ6,a1,a2,a3⟩⟩) (λy s3 h3=>?_) λy y z=>by rw[hxe]at z;exact z
  obtain⟨σ6,H6,I6,ρ6,x6,j6,ev6⟩:=h3;refine Sg (ht.h _ s3 σ6 H6 (λb' H7=>b'=b/\∃ρ7,Ext ρ6 H6 ρ7 H7/\J X.mg ρ7 M2 H7) I6 ⟨ρ6,δ1,M1,ev6,j6,_,e2,λρ7 H7 b' a1 a2 a3=>⟨a3,ρ7,a1,a2⟩⟩) (λok s4 h4=>?_) λy y z=>by rw[hxe]at z;exact z
  obtain⟨H7,I7,rfl,ρ7,x7,j7⟩:=h4;have nacc:acc∉ρ.st:=x.na;have na6:acc∉ρ6.st:=λz=>by have h5:=x5.keep acc _ ha nacc;have:=x6.new acc z nacc;rw[h5]at this;cases this
  have ha5:=x5.keep acc _ ha nacc;have ha6:=x6.keep acc _ ha5 nacc;have na7:acc∉ρ7.st:=λz=>by have:=x7.new acc z na6;rw[ha6]at this;cases this
  have ha7:=x7.keep acc _ ha6 na6;have xb:ExtB acc ρ0 H0 ρ7 H7:=((x.trans (x5.b nacc)).trans (x6.b na6)).trans (x7.b na7);have ct:CstS1 X (Xp++pinsAt fp s2.heap) acc ρ0 H0 δ1 l M2 [] s4:=⟨σ6,H7,ρ7,cs,I7,xb,j7,ev6.mono x7,ha7,((cl.mono x5).mono x6).mono x7,λb hb=>nomatch hb⟩
  have fin:∀s5,CstS1 X (Xp++pinsAt fp s2.heap) acc ρ0 H0 δ3 l3 M3 [] s5->∃m,m<n/\∃i δ l M,oJ fg ft fb δf lf Mf itn m i δ l M/\CstS1 X Xp acc ρ0 H0 δ l M fp s5/\tn i s5.heap:=λs5 c5=>by
   obtain⟨c6,pp⟩:=c5.unpin (fp:=fp) λb hb=>by obtain⟨o,eo,_⟩:=T.obj _ _ tn5 b hb;exact⟨o,mem_pinsAt hb eo⟩
   exact⟨m,hm,i+1,δ3,l3,M3,rem3,c6,T.keep _ _ _ tn5 λb hb o eo=>pp (b,o) (mem_pinsAt hb eo)⟩
  cases ok with
  |true=>exact iteT (hmono _ _ _ fin (hb _ ρ0 H0 δ1 l M2 s4 δ3 l3 M3 ct e3))
  |false=>cases e3;exact iteF (fin s4 ct)
set_option tactic.hygienic true in
theorem Dh(hxe:X.xe=λr r=>False)(hu:X.A.units + 1<cLine)(he:DE X E0 elt fe):
  vG X acc (λP s=>wpAny (model X.prog X.w) X.A (eval elt X.env) (λx s1=>wpAny (model X.prog X.w) X.A (call (.builtin "set.add") [.ref acc,x]) (λr s2=>P s2) (λr r=>False) s1) (λr r=>False) s) (fO fe):=by
 intro Xp ρ0 H0 δ l M s δ' l' M' ct e;obtain⟨d,M1,e1,e2⟩:=DM.bind_ok e;obtain⟨σ,H,ρ,cs,I,x,j,ev,ha,cl,_⟩:=ct.ex;split at e2;rotate_left
 ·cases e2
 rename_i hz;cases e2;refine Sg (he.h Xp s σ H (λv H1=>∃ρ1,Ext ρ H ρ1 H1/\J X.mg ρ1 M' H1/\Cv X.mg ρ1 H1 v d) I ⟨ρ,δ,M,ev,j,_,e1,λρ1 H1 v a1 a2 a3=>⟨ρ1,a1,a2,a3⟩⟩) (λu s1 h1=>?_) λr r z=>by rw[hxe]at z;exact z
 obtain⟨v,H1,I1,rv,ρ1,x1,j1,c1⟩:=h1;have nacc:acc∉ρ.st:=x.na;have ha1:=x1.keep acc _ ha nacc;have na1:acc∉ρ1.st:=λz=>by have:=x1.new acc z nacc;rw[ha]at this;cases this
 obtain⟨t,rfl,tne,et⟩:=Pr hz.1;have cl1:=cl.mono x1;cases c1 with
 | tup nb hb cb=>
   rename_i b xs;rw[wg cb]at hb;obtain rfl:u=Value.ref b:=rv;have inj:∀{k k':List Int},tupI k=tupI k'->k=k':=λ{k k'} e=>(Wd λx y z=>D.int.inj z).mp (D.tup.inj e)
   have nx:∀{o:HO}{a:Addr}{ys:List V},H1 a=some (.tup ys)->upd H1 acc o a=H1 a:=λ{o a ys} h=>upd_ne λz=>by rw[z,ha1]at h;cases h
   rcases cl1 with ⟨rfl,rfl⟩ | ⟨c,rfl,ln,la,nc,hc⟩
   ·refine xY hu I1 ha1 hb (λc hc=>nomatch hc) (.inl rfl) λs' I'=>?_
    exact⟨σ,_,ρ1,zc [] (b,t),I',(x.trans (x1.b na1)).trans (.growO na1),j1.x ha1,(ev.mono x1).x ha1,upd_same,.inr ⟨(b,t),rfl,by simp,λd hd=>by simpa using hd,nb,(nx hb).trans hb⟩,λb hb=>nomatch hb⟩
   ·obtain⟨d0,hd0⟩:=V6 l ln;have et:c.2=t:=inj ((la d0 hd0).symm.trans (hz.2 d0 hd0));have m:t∈([c]:List (Addr×List Int)).map (·.2):=by rw[<-et];simp
    refine xY hu I1 ha1 hb (λc' hc'=>by rw[SJ.mp hc'];exact hc) (.inr m) λs' I'=>?_
    have e1:zc [c] (b,t)=[c]:=R1 m;exact⟨σ,_,ρ1,zc [c] (b,t),I',(x.trans (x1.b na1)).trans (.growO na1),j1.x ha1,(ev.mono x1).x ha1,upd_same,.inr ⟨c,e1,by simp,λd hd=>by
     rcases Su.mp hd with h | h
     ·exact la d h
     ·rw[SJ.mp h,et],nc,(nx hc).trans hc⟩,λb hb=>nomatch hb⟩
def Ab(X:Cx)(ρ:Rh)(H:Hp)(x:V)(l:List D):Prop:=∃acc cs,x=.ref acc/\H acc=some (gW X.prog X.w acc cs)/\rJ ρ H cs l
set_option tactic.hygienic true in
theorem Ef
  (hu:X.A.units+1<cLine) (hc:X.calm=true) (T:CompG X scope cl own js fr) (hi:DI X E t0 i0 fi)
  (hg:∀Xp m fp C s₂ H₂,DG (X.aU Xp scope (cellsFrom m scope.names cl) (own++fr) fp C s₂ H₂) E0 t0 fg) (ht:∀Xp m fp C s₂ H₂,DTs (X.aU Xp scope (cellsFrom m scope.names cl) (own++fr) fp C s₂ H₂) E0 f0 ft)
  (he:∀Xp m fp C s₂ H₂,DE (X.aU Xp scope (cellsFrom m scope.names cl) (own++fr) fp C s₂ H₂) E0 elt fe)
  (hs:∀y,foldedSetIterable i0 X.env y=pure y:=by intro _;rfl) :
  PE X (.SetComp elt [⟨t0,i0,f0,0⟩] scope pos) (tD X.mg E (Ab X) (λδ=>fi δ>>=λit=>cU (bR fg ft (fO fe) it (aR own.length js δ) [])>>=λp=>pure p.2)):=by
 intro Xp s σ H Q I h;obtain⟨ρ,δ,M,ev,j,g1⟩:=h;rw[PySem.arm_eval_SetComp];dsimp only;refine V7 (cl:=cl) (use:=none) rfl hs T.clos T.kind T.names ?_;refine thn (hi.h Xp s σ H (λJt H1=>∃ρ1 M1 it,Ext ρ H ρ1 H1/\J X.mg ρ1 M1 H1/\ItOk X.mg ρ1 H1 Jt it/\Go X.mg E (Ab X) Q ρ1 H1 (cU (bR fg ft (fO fe) it (aR own.length js δ) [])>>=λp=>pure p.2) M1) I
  ⟨ρ,δ,M,ev,j,g1.bind λρ1 H1 M1 Jt it e1 j1 iok g2=>⟨ρ1,M1,it,e1,j1,iok,g2⟩⟩) λv s1 h1=>thn h1 λitv s2 h2=>?_
 obtain⟨it,fp,tn,Jt,H2,rfl,I2,Tn,st2,f2,ρ1,M1,itn,x1,j1,iok,g2⟩:=h2;have hrun:∃δf lf Mf,bR fg ft (fO fe) itn (aR own.length js δ) [] M1=some (.ok (δf,lf),Mf)/\Go X.mg E (Ab X) Q ρ1 H2 (pure lf) Mf:=by
  obtain⟨r,e,p⟩:=g2;have e:DM.bind _ _ M1=some r:=e;unfold DM.bind at e;split at e
  ·cases e
  ·rename_i c M' em;obtain⟨a,M'',_,z⟩:=lX em;cases z
  ·rename_i a M' em;obtain⟨a',M'',e1,z⟩:=lX em;cases z;exact⟨a.1,a.2,M',e1,r,e,p⟩
 obtain⟨δf,lf,Mf,hrun,g3⟩:=hrun;refine DQ (o4 ?_);have hlt:∀b∈fp,b<s2.heap.objs.size:=λb hb=>by obtain⟨o,e,_⟩:=Tn.obj _ _ st2 b hb;exact RN e
 dsimp only;generalize hP:s2.heap.push (cB #[] 0 (.fresh 0 0 (!cT X.w)))=hp1;have hCs:hp1.objs.size=s2.heap.objs.size+1:=by rw[<-hP,Sy]
 have hCe:hp1.objs.size+1=(hp1.push { cls:=.type "dict",data:=.dict #[] }).objs.size:=by rw[Sy]
 have hC:s2.heap.objs.size<=hp1.objs.size:=by lia
 have hne:hp1.objs.size≠s2.heap.objs.size:=by lia
 have old1:∀b o,s2.heap.get? b=some o->hp1.get? b=some o:=λb o e=>by rw[<-hP];exact RG _ e
 have old:∀b o,s2.heap.get? b=some o->(pushCells (hp1.push { cls:=.type "dict",data:=.dict #[] }) scope.names).get? b=some o:=λb o e=>Uu _ _ _ _ (RG _ (old1 b o e))
 have new:gP X.prog X.w (!cT X.w) (pushCells (hp1.push { cls:=.type "dict",data:=.dict #[] }) scope.names) s2.heap.objs.size []:=⟨0,.fresh 0 0 (!cT X.w),Uu _ _ _ _ (RG _ (by rw[<-hP];exact RM _ rfl)),.inl ⟨rfl,rfl⟩⟩
 have ns:(pushCells (hp1.push { cls:=.type "dict",data:=.dict #[] }) scope.names).Ns hp1.objs.size λu=>none:=(Heap.Ns.new hp1 (.type "dict")).keeps (Uu _ _)
 have hfree:H2 s2.heap.objs.size=none:=I2.hok.fresh (RX _);have IC:=Ao (t':=s2.toks) T I2 f2 hlt old (RX _) hC hne hCe (R7 hC (Nat.le_succ _)) (T9 _) (Nat.lt_succ_of_le hC) rfl (xX new) ns;have OK:=IC.ok;have fok:∀H',(∀b∈fp,H' b=none)->∀b∈fp,FpOk (X.aU Xp scope (cellsFrom (hp1.objs.size+1) scope.names cl) (own++fr) fp hp1.objs.size s2 H2) [] H' b:=λH' hn b hb=>by
  obtain⟨_,g2,g3,g4,g5,g6⟩:=f2 b hb;refine⟨hn b hb,R5 (RQ (hlt b hb) hC),λhm=>?_,.inl hb,(OK.exf b hb).2,λp hp=>g6 p (by simpa using hp)⟩
  rcases R8.mp (I2.stkSub _ hm) with z | z
  ·exact g2 z
  ·exact g3 z
 have fp1:∀b∈fp,upd H2 s2.heap.objs.size (gW X.prog X.w s2.heap.objs.size []) b=none:=λb hb=>by rw[upd_ne (R5 (hlt b hb))];exact (f2 b hb).1
 have jb:J X.mg ρ1 M1 (upd H2 s2.heap.objs.size (gW X.prog X.w s2.heap.objs.size [])):=j1.lay _ hfree;have nf:=j1.fresh hfree;have st:CstS1 (X.aU Xp scope (cellsFrom (hp1.objs.size+1) scope.names cl) (own++fr) fp hp1.objs.size s2 H2) [] s2.heap.objs.size ρ1 (upd H2 s2.heap.objs.size (gW X.prog X.w s2.heap.objs.size [])) (aR own.length js δ) [] M1 fp
   { s2 with heap:=pushCells (hp1.push { cls:=.type "dict",data:=.dict #[] }) scope.names,toks:=s2.toks }:=
  ⟨_,_,_,[],IC,.refl (λz=>nf (.inl z)),jb,(uf (ev.mono x1) _ _).mono (.lay hfree),upd_same,.inl ⟨rfl,rfl⟩,fp1⟩
 have tn0:tn 0 (pushCells (hp1.push { cls:=.type "dict",data:=.dict #[] }) scope.names):=Tn.keep _ _ _ st2 (λb u o e=>old b o e)
 have loop:codeAny (model X.prog X.w) X.A (.compLoop (.SetComp elt [⟨t0,i0,f0,0⟩] scope pos) 0 (.ref it) (.ref s2.heap.objs.size) (compEnvC scope (cellsFrom (hp1.objs.size+1) scope.names cl) hp1.objs.size X.env))
   (compPost (model X.prog X.w) X.A X.xe none (EP X Xp σ Q) (.ref s2.heap.objs.size) hp1.objs.size) { s2 with heap:=pushCells (hp1.push { cls:=.type "dict",data:=.dict #[] }) scope.names,toks:=s2.toks }:=by
  refine G3 (X:=X.aU Xp scope (cellsFrom (hp1.objs.size+1) scope.names cl) (own++fr) fp hp1.objs.size s2 H2) hc rfl (Nu ..) Iw (λP P' s hp h=>Sg h (λx s1 h1=>Sg h1 (λu s2 h2=>hp _ h2) λu u z=>z) λu u z=>z) (hg ..) (ht ..) (Dh (X:=X.aU Xp scope (cellsFrom (hp1.objs.size+1) scope.names cl) (own++fr) fp hp1.objs.size s2 H2) rfl hu (he ..)) Tn iok (λρ H x=>x.kpS hfree) fok st tn0 hrun λs' c'=>?_
  obtain⟨σ4,H4,ρ4,cs,I4,x4,j4,ev4,ha4,cl4,fr4⟩:=c'.ex;obtain⟨m4,hn4,_⟩:=I4.loc;refine⟨m4,hn4,λh' hsb'=>?_⟩
  have un:=yx I4.base hsb' hC;have ok4:=uq I4.hok hsb' I4.free;exact⟨.ref s2.heap.objs.size,H4,I2.call' (s':={ s' with heap:=h' }) (ch:=fp) (I4.os) un ok4 I4.bare (λb hb=>by obtain⟨_,g2,g3,g4,g5,g6⟩:=f2 b hb;exact⟨g4,g2,g5,g6⟩),rfl,Go.pure (a:=lf) g3 ρ4 H4 (.ref s2.heap.objs.size) (x4.ext hfree) j4 ⟨_,cs,rfl,ha4,cl4⟩⟩
 show codeAny _ _ (.compStart _ 0 (.ref it) (.ref s2.heap.objs.size) (compEnvC scope (cellsFrom (hp1.objs.size+1) scope.names cl) hp1.objs.size X.env)) _ _;exact Bx rfl rfl loop (Tn.self X.A 0 _ _ _ tn0 loop)
def Ni:List D->Option D
 |[]=>none
 |d::_=>some (.lst [d])
theorem Av
  (hh:X.A.handled=none) (hu:X.A.units+1<cLine) (hm:X.mg "sorted"=none) (hc:X.calm=true) (T:CompG X scope cl own js fr) (hi:DI X E t0 i0 fi)
  (hg:∀Xp m fp C s₂ H₂,DG (X.aU Xp scope (cellsFrom m scope.names cl) (own++fr) fp C s₂ H₂) E0 t0 fg) (ht:∀Xp m fp C s₂ H₂,DTs (X.aU Xp scope (cellsFrom m scope.names cl) (own++fr) fp C s₂ H₂) E0 f0 ft)
  (he:∀Xp m fp C s₂ H₂,DE (X.aU Xp scope (cellsFrom m scope.names cl) (own++fr) fp C s₂ H₂) E0 elt fe)
  (hs:∀y,foldedSetIterable i0 X.env y=pure y:=by intro _;rfl) (hgl:Gl X "sorted":=by rfl) :
  DE X E (.Call (.Name "sorted" p1) [.SetComp elt [⟨t0,i0,f0,0⟩] scope pos] [] pos1) (λδ=>(fi δ>>=λit=>cU (bR fg ft (fO fe) it (aR own.length js δ) [])>>=λp=>pure p.2)>>=λl=>rd (λz=>Ni l)):=
 ⟨PE.mono (HB (vd hh) hm (Mp (Ef hu hc T hi hg ht he hs) Ej) hgl) fun σ H Q h=>by
  obtain⟨ρ,δ,M,ev,j,g1⟩:=h;refine⟨ρ,δ,M,ev,j,g1.bind λρ1 H1 M1 x l e1 j1 c1 g2=>?_⟩
  obtain⟨acc,cs,rfl,ha,h1⟩:=c1;obtain⟨d,e,q⟩:=g2.rd;rcases h1 with ⟨rfl,rfl⟩ | ⟨c,rfl,ln,la,nc,hc⟩
  ·cases e
  ·cases l with
   |nil=>exact absurd rfl ln
   |cons d0 l=>
     cases e;refine⟨acc,c,rfl,ha,λp hp=>q ρ1 _ _ (.lay hp) (j1.lay _ hp) (.lst (j1.fresh hp) upd_same ?_)⟩
     rw[la d0 (by simp)]
     exact (Cvs.cons (.tup nc hc (Cvs.ints _)) .nil:Cvs X.mg ρ1 H1 [V.ref c.1] [tupI c.2]).mono (.lay hp)⟩
end L3
namespace L3
open PySem PySem.Spec L2
open PyProof.Rows hiding St
end L3
namespace L3
open PySem PySem.Spec L2 LB
end L3
namespace L3
open PySem PySem.Spec L2
open PyProof.Rows hiding St
section
variable{X:Cx}{E:XK}{a:Expr}{fa:aa->DM D}{fs:aa->DM (List D)}{pos p1 p2 p3 p4:Pos}
def nb(b:Bool):Int:=if b=true then 1 else 0
theorem Df{st:List Stmt}:DSs X E st (λz=>stuck):=⟨by intro Xp s σ H D I h;obtain⟨ρ,δ,M,ev,j,g1⟩:=h;obtain⟨r,e,_⟩:=g1;cases e⟩
end
end L3
namespace L2
open PySem PySem.Spec PyProof.Rows LS
end L2
namespace L3
open PySem PySem.Spec L2
structure OwnK(K:PySem.W.Frag)(C:Addr):Prop where
 ne:PySem.W.findIn K (.ref C) "__ne__"=some (some (.builtin "object.__ne__"))
 mro:PySem.W.mroIn K C (.type "object")=some true
 cc:PySem.W.findIn K (.ref C) "__class__"=some (some (.builtin "object.__class__"))
 gs:PySem.W.specialIn K (.builtin "object.__class__") "__get__"=some (some (.builtin "getset_descriptor.__get__"))
 tk:PySem.W.takesIn K (.builtin "object.__class__")=some true
 ci:((PySem.W.clsIn K C).isSome&&PySem.W.typeIn K (.ref C)==some (.type "type"))=true
 cls:L2.Cls K C
structure OwnC(K:PySem.W.Frag)(mg:Str->Option Value)(c:Str):Prop where
 ex:∃C,mg c=some (.ref C)/\OwnK K C
theorem Np{K:PySem.W.Frag}{C:Addr}:∀t∈tys,PySem.W.subIn K (.type t) (.ref C)=some false:=by intro t ht;simp only[tys,List.mem_cons,List.mem_nil_iff,or_false]at ht;rcases ht with rfl | rfl | rfl | rfl | rfl | rfl | rfl<;>rfl
theorem OwnK.kit{K:PySem.W.Frag}{C:Addr}(h:OwnK K C):∀t∈tys,PySem.W.kitOne K (.type t) (.ref C)=some false:=by
 intro t ht;unfold PySem.W.kitOne;rw[R3 (by simp)]
 unfold PySem.W.kitCls;dsimp only;rw[R1 h.ci];exact Np t ht
def Hl(c:Str):D->Mo->Bool
 |.obj k _ _,_=>k==c
 |d,M=>(tyOf d M).isSome
def Ql:D->DM D
 |.str x=>pure (.str x)
 |_=>stuck
section
variable{X:Cx}{E:XK}{j k:Nat}{c qual:Str}{st:Stmt}{ps:List Str}{F:List D->DM D}
def Rz(c:Str)(F:List D->DM D):List D->DM D
 |[.obj k ns vs]=>if k=c then F [.obj k ns vs]>>=Ql else stuck
 |l=>rd (tM l)
def ut(c:Str):List D->Mo->Option D
 |[d,.cls c'],M=>if c'=c then (if Hl c d M=true then some (.bl (match d with | .obj _ _ _=>true | _=>false)) else none) else none
 |l,M=>iB l M
set_option tactic.hygienic true in
theorem Cz(O:OwnC X.K X.mg c):CallD X E (.builtin "isinstance") (λl=>rd (ut c l)):=by
 obtain⟨C,mc,ok⟩:=O.ex;intro Xp s σ H vs us Q I rs q;obtain⟨ρ,M,ds,j,cv,go⟩:=q;by_cases hd:∃d c',ds=[d,.cls c']
 ·obtain ⟨d,c',rfl⟩:=hd;obtain⟨r,e,p⟩:=go.rd;simp only[ut]at e;split at e
  ·rename_i hc;subst hc;split at e
   ·rename_i hg;cases e;obtain⟨v,w,rfl,k1,k2⟩:=cv.two;cases k2 with
    | cls h=>
      rw[mc]at h;cases h;refine Cy (by unfold PySem.W.kitOne;rw[R1 (by simp)]) ok.cc ok.gs ok.tk ok.mro ok.cls Xp s σ H _ us Q I rs ⟨_,rfl,?_⟩
      cases d with
      | obj k' ns ws=>
        have hk:k'=c':=by simpa[Hl] using hg
        subst hk;cases k1 with
        |obj hn m hh hl cs=>rw[mc]at m;cases m;exact .inl ⟨_,_,_,rfl,hh,p ρ H _ .refl j (.bl _)⟩
      |_=>simp only[Hl]at hg;obtain⟨t,ht⟩:=U3.mp hg;exact .inr ⟨t,HX j k1 ht,ok.kit t (yw ht),p ρ H _ .refl j (.bl _)⟩
   ·cases e
  ·cases e
 ·have e:(rd (ut c ds):DM D)=rd (iB ds):=by
   congr 1;funext M;unfold ut;split
   ·exact absurd ⟨_,_,rfl⟩ hd
   ·rfl
  have go':Go X.mg E _ _ ρ H (rd (ut c ds)) M:=go;rw[e]at go';exact dG Xp s σ H vs us Q I rs ⟨ρ,M,_,j,cv,go'⟩
end
end L3
namespace L3
open PySem PySem.Spec L2 PyProof.Rows
end L3
namespace L3
open PySem PySem.Spec L2
open PyProof.Rows hiding St
abbrev AT:=L2.St->Rh->Hp->Prop
def tA(An:AT)(mg:Str->Option Value)(E:XK)(f:aa->DM D):TE:=λσ H Q=>∃ρ δ M,An σ ρ H/\Ev mg ρ H σ δ/\J mg ρ M H/\Go mg E (Cv mg) Q ρ H (f δ) M
open PySem PySem.Spec L2
open PyProof.Rows hiding St
def m8(lo c:Int)(n:Nat):List D:=(List.range n).map λi=>.int (lo+(i:Nat)*c)
theorem uB{lo c:Int}{n i:Nat}:(m8 lo c n)[i]?=if i<n then some (.int (lo+(i:Nat)*c)) else none:=by
 unfold m8;rw[R0];by_cases h:i<n
 ·rw[R1 h,Tw h];rfl
 ·rw[R3 h,Ss.mpr (by simp;lia)];rfl
set_option tactic.hygienic true in
theorem IK{mg:Str->Option Value}{ρ:Rh}{H:Hp}{lo c:Int}{n:Nat}:ItOk mg ρ H (JS lo c n) (.fix (m8 lo c n)) where
 item:=λi ρ' H' M' d e j q=>by
  have hq:(m8 lo c n)[i]?=some d:=RP q;rw[uB]at hq;split at hq
  ·rename_i h;cases hq;refine⟨h,λx H2 y=>?_⟩
   obtain⟨rfl,rfl⟩:=y;exact⟨.refl,j,.int _⟩
  ·cases hq
 stop:=λi ρ' H' M' e j q=>by
  have hq:(m8 lo c n)[i]?=none:=RP q;rw[uB]at hq;split at hq
  ·cases hq
  ·rename_i h;exact Up.mp h
end L3
namespace L2
open PySem PySem.Spec PyProof.Rows LS
end L2
namespace L3
open PySem PySem.Spec L2
open PyProof.Rows hiding St
open PySem PySem.Spec L2
open PyProof.Rows hiding St
end L3
namespace L3
open PySem PySem.Spec L2
open PyProof.Rows hiding St
end L3
namespace L3
open PySem PySem.Spec PyProof.Rows L2
end L3
namespace L3
open PySem PySem.Spec L2 LA LB LS
open PyProof.Rows hiding St
end L3
namespace L3
open PySem PySem.Spec L2
open PyProof.Rows hiding St
variable{X:Cx}{E:XK}
end L3
namespace L3
open PySem PySem.Spec PyProof.Rows L2
end L3
namespace L3
open PySem PySem.Spec L2
open PyProof.Rows hiding St
end L3
namespace L3
open PySem PySem.Spec L2
end L3
namespace L2
open PySem PySem.Spec PyProof.Rows
end L2
namespace L3
open PySem PySem.Spec L2
end L3
namespace L3
open PySem PySem.Spec L2
open PyProof.Rows hiding St
def HQ:List D->Option Itn
 |[.int j]=>if decide (0<=j/\j<=2^20) then some (.fix (m8 ((j.toNat:Int)-1) (-1) j.toNat)) else none
 |_=>none
set_option tactic.hygienic true in
theorem Kh{X:Cx}{E:XK}{tg a:Expr}{fa:aa->DM (List D)}{p p' pos pos':Pos}(hg:Gl X "reversed")(hm:X.mg "reversed"=none)(hg':Gl X "range")(hm':X.mg "range"=none)(ha:DA X E [a] fa)(hs:notStar a=true:=by rfl):
  DI X E tg (.Call (.Name "reversed" p) [.Call (.Name "range" p') [a] [] pos'] [] pos) (λδ=>fa δ>>=λl=>opt (HQ l)):=
 ⟨PI.mono (Mi hg hm hg' hm' ha.h.h hs) fun σ H R h=>by
  obtain⟨ρ,δ,M,ev,j,g1⟩:=h;refine⟨ρ,δ,M,ev,j,g1.bind λρ1 H1 M1 x dx e1 j1 c1 g2=>?_⟩
  obtain⟨it,e,q⟩:=g2.opt;unfold HQ at e;split at e
  ·split at e
   ·rename_i n hk;have hk:=TX hk;cases e;cases c1 with | cons c1 c2=>
    cases c2;cases c1;refine⟨n.toNat,by rw[Int.toNat_of_nonneg hk.1],by omega,q ρ1 H1 _ .refl j1 IK⟩
   ·cases e
  ·cases e⟩
def yK:List D->Mo->Option (Nat×List D)
 |[.ref n,y],M=>match M[n]?,frz y with
   |some (.lst _),some (_,m)=>some (n,m)
   |_,_=>none
 |_,_=>none
def gf(n:Nat×List D)(i:Nat)(M:Mo):Option (Option D):=match M[n.1]? with
 |some (.lst l)=>some ((pairs l n.2)[i]?)
 |_=>none
structure ItZp(mg:Str->Option Value)(ρ:Rh)(H:Hp)(Jt:It)(n:Nat×List D):Prop where
 item:∀(i:Nat) ρ' H' M' d,Kp ρ H ρ' H'->J mg ρ' M' H'->gf n i M'=some (some d)->Jt.go i H'/\∀x H2,Jt.yld i H' x H2->Ext ρ' H' ρ' H2/\J mg ρ' M' H2/\Cv mg ρ' H2 x d
 stop:∀(i:Nat) ρ' H' M',Kp ρ H ρ' H'->J mg ρ' M' H'->gf n i M'=some none->Jt.stop i H'
set_option tactic.hygienic true in
theorem N7{mg:Str->Option Value}{ρ:Rh}{H:Hp}{K:PySem.W.Frag}{b2:Bool}{l1 l2:Addr}{n:Nat}{ys:List V}{es:List D}(h:ρ.st[n]?=some l1)(n2:l2∉ρ)(h2:H l2=some (if b2 then .tup ys else .lst ys))(c2:Cvs mg ρ H ys es):ItZp mg ρ H (JR K false b2 l1 l2) (n,es) where
 item:=λi ρ' H' M' d e j q=>by
  unfold gf at q;split at q
  ·rename_i l hl;obtain⟨xs,h1,c1⟩:=j.obj n l1 _ (e.at h) hl;have hq:=RP q;rw[pairs_at]at hq;split at hq
   ·rename_i dx dy e1 e2;cases hq;obtain⟨x,hx,cx⟩:=c1.get e1;obtain⟨y,hy,cy⟩:=c2.get e2;have k1:ju false K H' l1 xs:=pF (b:=false) h1;have k2:=(e.keep _ _ h2 n2 ne_if).2;refine⟨⟨xs,ys,x,y,k1,pF k2,hx,hy⟩,λv H2 z=>?_⟩
    obtain⟨p,hp,rfl,z⟩:=z;obtain⟨x',y',hx',hy',rfl⟩:=z xs ys k1 (pF k2);rw[hx]at hx';cases hx';rw[hy]at hy';cases hy';exact⟨.lay hp,j.lay _ hp,.tup (j.fresh hp) upd_same (.cons (cx.mono (.lay hp)) (.cons ((cy.kp e).mono (.lay hp)) .nil))⟩
   ·cases hq
  ·cases q
 stop:=λi ρ' H' M' e j q=>by
  unfold gf at q;split at q
  ·rename_i l hl;obtain⟨xs,h1,c1⟩:=j.obj n l1 _ (e.at h) hl;have hq:=RP q;rw[pairs_at]at hq;refine⟨xs,ys,pF (b:=false) h1,pF (e.keep _ _ h2 n2 ne_if).2,?_⟩;cases e1:l[i]? with
   |none=>exact .inl (Ss.mpr (by rw[c1.len];exact Ss.mp e1))
   |some dx=>cases e2:es[i]? with
     |none=>exact .inr (Ss.mpr (by rw[c2.len];exact Ss.mp e2))
     |some dy=>rw[e1,e2]at hq;cases hq
  ·cases q
set_option tactic.hygienic true in
theorem Mj{X:Cx}{E:XK}{elts:List Expr}{kt:Nat}{tp:Pos}{a b:Expr}{fa:aa->DM (List D)}{p pos:Pos}(hg:Gl X "zip")(hm:X.mg "zip"=none)(ha:DA X E [a,b] fa)(hs:notStar a=true:=by rfl)(hs2:notStar b=true:=by rfl):
  PI X (.Tuple elts kt tp) (.Call (.Name "zip" p) [a,b] [] pos) (tD X.mg E (ItZp X.mg) (λδ=>fa δ>>=λl=>rd (yK l))):=by
 intro Xp s σ H R I h;obtain⟨ρ,δ,M,ev,j,g1⟩:=h;refine Call_ (ld_blt I hg hm boot_zip (Th (thn (ha.h.h pos Xp s σ H (λvs H1=>∃ρ1 M1 ds,Ext ρ H ρ1 H1/\J X.mg ρ1 M1 H1/\Cvs X.mg ρ1 H1 vs ds/\Go X.mg E (ItZp X.mg) R ρ1 H1 (rd (yK ds)) M1) I ⟨ρ,δ,M,ev,j,g1.bind λρ1 H1 M1 vs ds e1 j1 c1 g2=>⟨ρ1,M1,ds,e1,j1,c1,g2⟩⟩) λus s1 h1=>?_) (aW hs) (by rw[aW hs2];rfl)))
 obtain⟨vs,H1,I1,rv,ρ1,M1,ds,e1,j1,c1,g2⟩:=h1;obtain⟨n,ei,q⟩:=g2.rd;unfold yK at ei;split at ei;rotate_left
 ·cases ei
 split at ei;rotate_left
 ·cases ei
 rename_i n' dy _ _ l b2 m hl f2;cases ei;obtain⟨v1,v2,rfl,k1,k2⟩:=c1.two;cases k1 with
 |ref hn=>
 rename_i a1;obtain⟨xs,hx,cx⟩:=j1.obj _ _ _ hn hl;have h1:ju false X.K H1 a1 xs:=pF (b:=false) hx;obtain⟨a2,ys,rfl,n2,h2,cy⟩:=Dk (K:=X.K) k2 f2;obtain⟨u1,u2,rfl,r1,r2⟩:=vals2 rv;cases r1;cases r2;obtain⟨its1,w1,p1,_⟩:=I1.seqS h1;obtain⟨its2,w2,p2,_⟩:=I1.seqS (pF (K:=X.K) h2);refine CN p1 p2 λh' a1' a2' a3 a4 a5 a6 a7=>wpAny_pyIter_zip a1' ?_
 have lt1:@LT.lt Nat _ a1 s1.heap.objs.size:=p1.lt;have lt2:@LT.lt Nat _ a2 s1.heap.objs.size:=p2.lt;have D:ZipApart (s1.heap.objs.size+4) (s1.heap.objs.size+2) (s1.heap.objs.size+3) s1.heap.objs.size (s1.heap.objs.size+1) a1 a2:=by constructor<;>exact λ(h:@Eq Nat _ _)=>by have:=lt1;have:=lt2;omega
 have I2:Inv X Xp σ H1 { s1 with heap:=h' }:=I1.kept (t':=s1.toks) a7
 refine⟨_,_,_,_,H1,rfl,I2,FZ (.inr ⟨_,_,_,rfl⟩) D,⟨⟨_,_,a1',.inl rfl⟩,a2',⟨_,_,a3⟩,a4.1,a5.1⟩,λb hb=>?_,q ρ1 H1 _ .refl j1 (N7 hn n2 h2 cy)⟩
 refine I1.fpOk ?_ (I1.hok.fresh ?_)<;>(simp only[List.mem_cons,List.mem_nil_iff,or_false]at hb;rcases hb with rfl | rfl | rfl | rfl | rfl<;>omega)
def kJ(tg:D->aa->DM aa)(fb:aa->DM Fl)(n:Nat×List D):Nat->Nat->aa->DM Fl
 |0,_,_=>stuck
 | k + 1,i,δ=>rd (gf n i) >>= λo=>match o with
   |none=>pure (.nx δ)
   |some d=>tg d δ>>=λδ1=>fb δ1>>=λr=>match r with
     |.nx δ2=>kJ tg fb n k (i+1) δ2
     |.ct δ2=>kJ tg fb n k (i+1) δ2
     |.bk δ2=>pure (.nx δ2)
     |.rt d=>pure (.rt d)
theorem Ir{X:Cx}{E:XK}{elts:List Expr}{kt:Nat}{tp:Pos}{a b:Expr}{body:List Stmt}{fa:aa->DM (List D)}{fg:D->aa->DM aa}{fb:aa->DM Fl}{p pos fpos:Pos}(N:Nat)(hp:PassesOwn (model X.prog X.w) X.A X.env X.xe)(hc:X.calm=true)(hgl:Gl X "zip")(hm:X.mg "zip"=none)(ha:DA X E [a,b] fa)(hg:DG X E (.Tuple elts kt tp) fg)(hb:DSs X E body fb)(hs:notStar a=true:=by rfl)(hs2:notStar b=true:=by rfl)
  (hfs:∀x,foldedSetIterable (.Call (.Name "zip" p) [a,b] [] pos) X.env x=pure x:=by intro _;rfl):DS X E (.For (.Tuple elts kt tp) (.Call (.Name "zip" p) [a,b] [] pos) body [] fpos) (λδ=>fa δ>>=λl=>rd (yK l)>>=λn=>kJ fg fb n N 0 δ):=⟨PS.mono (ps_for hp hc (Mj hgl hm ha hs hs2) hg.h hb.h hfs) λD σ H h=>by
 obtain⟨ρ,δ,M,ev,j,g1⟩:=h;refine⟨ρ,δ,M,ev,j,?_⟩;have g1:aX X.mg E D ρ H ((fa δ>>=λl=>rd (yK l))>>=λn=>kJ fg fb n N 0 δ) M:=by rw[aZ];exact g1
 refine g1.bind λρ1 H1 M1 Jt n e1 j1 iok g2=>?_
 refine⟨λi m σ H=>∃ρ' δ' M',Ext ρ1 H1 ρ' H/\Ev X.mg ρ' H σ δ'/\J X.mg ρ' M' H/\aX X.mg E D ρ' H (kJ fg fb n m i δ') M',⟨N,ρ1,δ,M1,.refl,ev.mono e1,j1,g2⟩,?_⟩
 rintro i m σ2 H2 ⟨ρ2,δ2,M2,e2,ev2,j2,g3⟩;cases m with
 |zero=>obtain⟨r,e,_⟩:=g3;cases e
 | succ m=>
   obtain⟨o,eo,g4⟩:=aX.rdb g3;cases o with
   |none=>exact .inl ⟨iok.stop i ρ2 H2 M2 e2.kp j2 eo,aX.pure (a:=.nx δ2) g4 ρ2 H2 σ2 .refl j2 ev2⟩
   |some d=>
     obtain⟨go,yl⟩:=iok.item i ρ2 H2 M2 d e2.kp j2 eo;refine .inr ⟨go,λσ' H'=>∃ρ' δ' M',Ext ρ1 H1 ρ' H'/\Ev X.mg ρ' H' σ' δ'/\J X.mg ρ' M' H'/\aX X.mg E D ρ' H' (kJ fg fb n m (i+1) δ') M',λσ' H' z=>⟨m,T9 _,z⟩,λx H' y=>?_⟩
     obtain⟨x1,x2,x3⟩:=yl x H' y;exact qT ev2 x1 x2 x3 g4 λρ3 δ3 M3 σ3 H3 f1 f2 f3 f4=>⟨ρ3,δ3,M3,e2.trans f1,f2,f3,f4⟩⟩
theorem Ky{mg:Str->Option Value}{ρ:Rh}{H:Hp}{M M':Mo}(j:J mg ρ M H)(e:∀(j:Nat) (o:DO),M[j]?=some o->M'[j]?=some o):vO M' M.length M:=by
 refine⟨rfl,λn u h=>?_⟩
 have hn:=(RK.mp h).1;refine⟨u,e n u h,?_⟩;have hl:n<ρ.st.length:=by rw[j.len];exact hn
 have c:=j.obj n ρ.st[n] u (RV hl) h;cases u with
 |lst l=>obtain⟨xs,_,c⟩:=c;exact c.fz j.len
 |dic ks l=>obtain⟨xs,_,_,c⟩:=c;exact⟨rfl,c.fz j.len⟩
 |ins cc ns l=>obtain⟨C,dx,xs,_,_,_,c⟩:=c;exact⟨rfl,rfl,c.fz j.len⟩
theorem DefD.freezeJ{P:Program}{w:World}{K:PySem.W.Frag}{mg:Str->Option Value}{base:Heap}{k:Nat}{x:Str}{ps:List Str}{F F':List D->DM D}(h:DefD P w K mg base k x ps F)(hf:∀ ds M r',(∀ M':Mo,(∀ (j:Nat) (o:DO),M[j]?=some o->M'[j]?=some o)->vO M' M.length M)->F' ds M=some r'->∃ r,F ds M=some r/\Px M.length r r'):DefD P w K mg base k x ps F':=⟨h.h.imp λvs H Q E z=>by
 obtain⟨ρ,M,ds,c,j,r',e,p⟩:=z;obtain⟨r,e2,f⟩:=hf ds M r' (λM' q=>Ky j q) e
 refine⟨ρ,M,ds,c,j,r,e2,?_⟩;have sb:∀{ρ2 H2},Ext ρ H ρ2 H2->Sub ρ ρ2 M.length:=λx=>⟨x.pre,x.vo,j.len⟩
 have ex:∀{ρ2 H2},Ext ρ H ρ2 H2->Ext ρ H ρ H2:=λx=>⟨⟨[],by simp⟩,rfl,λa h n=>absurd h n,x.keep⟩
 obtain⟨r,M2⟩:=r;obtain⟨r',M1⟩:=r';cases r with
 | ok d=>cases r' with
   |ok d'=>obtain⟨f1,f2⟩:=f;exact λρ2 H2 v x2 j2 c2=>p ρ H2 v (ex x2) (j2.freeze (sb x2) (by rw[j.len,f2.1]) f2) (c2.freeze (sb x2) j2 f1)
   |exc c'=>exact (show False from f).elim
 | exc c0=>cases r' with
   |ok d'=>exact (show False from f).elim
   |exc c'=>obtain⟨rfl,f2⟩:=f;exact λρ2 H2 C x2 j2 m=>p ρ H2 C (ex x2) (j2.freeze (sb x2) (by rw[j.len,f2.1]) f2) m⟩
end L3
namespace N10
end N10
namespace N60
def D2(A:Nat->Nat->Int)(i j:Nat):Int:=A i j*A 0 0-A i 0*A 0 j
def D3(A:Nat->Nat->Int)(i j:Nat):Int:=A 0 0*(A 1 1*A i j-A 1 j*A i 1)-A 0 1*(A 1 0*A i j-A 1 j*A i 0)+A 0 j*(A 1 0*A i 1-A 1 1*A i 0)
def d3(a b c d e f g h i:Int):Int:=a*(e*i-f*h)-b*(d*i-f*g)+c*(d*h-e*g)
def D4(A:Nat->Nat->Int)(i j:Nat):Int:=
 A 0 0*d3 (A 1 1) (A 1 2) (A 1 j) (A 2 1) (A 2 2) (A 2 j) (A i 1) (A i 2) (A i j)-A 0 1*d3 (A 1 0) (A 1 2) (A 1 j) (A 2 0) (A 2 2) (A 2 j) (A i 0) (A i 2) (A i j)
 + A 0 2*d3 (A 1 0) (A 1 1) (A 1 j) (A 2 0) (A 2 1) (A 2 j) (A i 0) (A i 1) (A i j)-A 0 j*d3 (A 1 0) (A 1 1) (A 1 2) (A 2 0) (A 2 1) (A 2 2) (A i 0) (A i 1) (A i 2)
theorem e3(A:Nat->Nat->Int)(i j:Nat):A 0 0*D3 A i j=D2 A i j*D2 A 1 1-D2 A i 1*D2 A 1 j:=by unfold D3 D2;grind
theorem e4(A:Nat->Nat->Int)(i j:Nat):D2 A 1 1*D4 A i j=D3 A i j*D3 A 2 2-D3 A i 2*D3 A 2 j:=by unfold D4 D3 D2 d3;grind
def oF(A:Nat->Nat->Int):Nat->Int
 |0=>1
 |1=>A 0 0
 |2=>D2 A 1 1
 |3=>D3 A 2 2
 |_=>D4 A 3 3
def d4(a b c d e f g h i j k l m n o p:Int):Int:=a*d3 f g h j k l n o p-b*d3 e g h i k l m o p+c*d3 e f h i j l m n p-d*d3 e f g i j k m n o
theorem Mq(l00 l01 l02 l03 l10 l11 l12 l13 l20 l21 l22 l23 l30 l31 l32 l33 l40 l41 l42 l43:Int):d4 (l10) (l11) (l12) (l13) (l20) (l21) (l22) (l23) (l30) (l31) (l32) (l33) (l40) (l41) (l42) (l43)*l00-d4 (l00) (l01) (l02) (l03) (l20) (l21) (l22) (l23) (l30) (l31) (l32) (l33) (l40) (l41) (l42) (l43)*l10+d4 (l00) (l01) (l02) (l03) (l10) (l11) (l12) (l13) (l30) (l31) (l32) (l33) (l40) (l41) (l42) (l43)*l20-d4 (l00) (l01) (l02) (l03) (l10) (l11) (l12) (l13) (l20) (l21) (l22) (l23) (l40) (l41) (l42) (l43)*l30+d4 (l00) (l01) (l02) (l03) (l10) (l11) (l12) (l13) (l20) (l21) (l22) (l23) (l30) (l31) (l32) (l33)*l40=0:=by unfold d4 d3;grind
theorem Mr(l00 l01 l02 l03 l10 l11 l12 l13 l20 l21 l22 l23 l30 l31 l32 l33 l40 l41 l42 l43:Int):d4 (l10) (l11) (l12) (l13) (l20) (l21) (l22) (l23) (l30) (l31) (l32) (l33) (l40) (l41) (l42) (l43)*l01-d4 (l00) (l01) (l02) (l03) (l20) (l21) (l22) (l23) (l30) (l31) (l32) (l33) (l40) (l41) (l42) (l43)*l11+d4 (l00) (l01) (l02) (l03) (l10) (l11) (l12) (l13) (l30) (l31) (l32) (l33) (l40) (l41) (l42) (l43)*l21-d4 (l00) (l01) (l02) (l03) (l10) (l11) (l12) (l13) (l20) (l21) (l22) (l23) (l40) (l41) (l42) (l43)*l31+d4 (l00) (l01) (l02) (l03) (l10) (l11) (l12) (l13) (l20) (l21) (l22) (l23) (l30) (l31) (l32) (l33)*l41=0:=by unfold d4 d3;grind
theorem Ms(l00 l01 l02 l03 l10 l11 l12 l13 l20 l21 l22 l23 l30 l31 l32 l33 l40 l41 l42 l43:Int):d4 (l10) (l11) (l12) (l13) (l20) (l21) (l22) (l23) (l30) (l31) (l32) (l33) (l40) (l41) (l42) (l43)*l02-d4 (l00) (l01) (l02) (l03) (l20) (l21) (l22) (l23) (l30) (l31) (l32) (l33) (l40) (l41) (l42) (l43)*l12+d4 (l00) (l01) (l02) (l03) (l10) (l11) (l12) (l13) (l30) (l31) (l32) (l33) (l40) (l41) (l42) (l43)*l22-d4 (l00) (l01) (l02) (l03) (l10) (l11) (l12) (l13) (l20) (l21) (l22) (l23) (l40) (l41) (l42) (l43)*l32+d4 (l00) (l01) (l02) (l03) (l10) (l11) (l12) (l13) (l20) (l21) (l22) (l23) (l30) (l31) (l32) (l33)*l42=0:=by unfold d4 d3;grind
theorem Mt(l00 l01 l02 l03 l10 l11 l12 l13 l20 l21 l22 l23 l30 l31 l32 l33 l40 l41 l42 l43:Int):d4 (l10) (l11) (l12) (l13) (l20) (l21) (l22) (l23) (l30) (l31) (l32) (l33) (l40) (l41) (l42) (l43)*l03-d4 (l00) (l01) (l02) (l03) (l20) (l21) (l22) (l23) (l30) (l31) (l32) (l33) (l40) (l41) (l42) (l43)*l13+d4 (l00) (l01) (l02) (l03) (l10) (l11) (l12) (l13) (l30) (l31) (l32) (l33) (l40) (l41) (l42) (l43)*l23-d4 (l00) (l01) (l02) (l03) (l10) (l11) (l12) (l13) (l20) (l21) (l22) (l23) (l40) (l41) (l42) (l43)*l33+d4 (l00) (l01) (l02) (l03) (l10) (l11) (l12) (l13) (l20) (l21) (l22) (l23) (l30) (l31) (l32) (l33)*l43=0:=by unfold d4 d3;grind
theorem Qh(h0:l00+l01+l02+l03+l04=0)(h1:l10+l11+l12+l13+l14=0)(h2:l20+l21+l22+l23+l24=0)(h3:l30+l31+l32+l33+l34=0):d4 (l01) (l02) (l03) (l04) (l11) (l12) (l13) (l14) (l21) (l22) (l23) (l24) (l31) (l32) (l33) (l34)=d4 (l00) (l01) (l02) (l03) (l10) (l11) (l12) (l13) (l20) (l21) (l22) (l23) (l30) (l31) (l32) (l33):=by
 obtain rfl:l04=-(l00+l01+l02+l03):=by lia
 obtain rfl:l14=-(l10+l11+l12+l13):=by lia
 obtain rfl:l24=-(l20+l21+l22+l23):=by lia
 obtain rfl:l34=-(l30+l31+l32+l33):=by lia
 unfold d4 d3;grind
theorem Qi(h0:l00+l01+l02+l03+l04=0)(h1:l10+l11+l12+l13+l14=0)(h2:l20+l21+l22+l23+l24=0)(h3:l30+l31+l32+l33+l34=0):d4 (l00) (l02) (l03) (l04) (l10) (l12) (l13) (l14) (l20) (l22) (l23) (l24) (l30) (l32) (l33) (l34)=-d4 (l00) (l01) (l02) (l03) (l10) (l11) (l12) (l13) (l20) (l21) (l22) (l23) (l30) (l31) (l32) (l33):=by
 obtain rfl:l04=-(l00+l01+l02+l03):=by lia
 obtain rfl:l14=-(l10+l11+l12+l13):=by lia
 obtain rfl:l24=-(l20+l21+l22+l23):=by lia
 obtain rfl:l34=-(l30+l31+l32+l33):=by lia
 unfold d4 d3;grind
theorem Qj(h0:l00+l01+l02+l03+l04=0)(h1:l10+l11+l12+l13+l14=0)(h2:l20+l21+l22+l23+l24=0)(h3:l30+l31+l32+l33+l34=0):d4 (l00) (l01) (l03) (l04) (l10) (l11) (l13) (l14) (l20) (l21) (l23) (l24) (l30) (l31) (l33) (l34)=d4 (l00) (l01) (l02) (l03) (l10) (l11) (l12) (l13) (l20) (l21) (l22) (l23) (l30) (l31) (l32) (l33):=by
 obtain rfl:l04=-(l00+l01+l02+l03):=by lia
 obtain rfl:l14=-(l10+l11+l12+l13):=by lia
 obtain rfl:l24=-(l20+l21+l22+l23):=by lia
 obtain rfl:l34=-(l30+l31+l32+l33):=by lia
 unfold d4 d3;grind
theorem Qk(h0:l00+l01+l02+l03+l04=0)(h1:l10+l11+l12+l13+l14=0)(h2:l20+l21+l22+l23+l24=0)(h3:l30+l31+l32+l33+l34=0):d4 (l00) (l01) (l02) (l04) (l10) (l11) (l12) (l14) (l20) (l21) (l22) (l24) (l30) (l31) (l32) (l34)=-d4 (l00) (l01) (l02) (l03) (l10) (l11) (l12) (l13) (l20) (l21) (l22) (l23) (l30) (l31) (l32) (l33):=by
 obtain rfl:l04=-(l00+l01+l02+l03):=by lia
 obtain rfl:l14=-(l10+l11+l12+l13):=by lia
 obtain rfl:l24=-(l20+l21+l22+l23):=by lia
 obtain rfl:l34=-(l30+l31+l32+l33):=by lia
 unfold d4 d3;grind
def sk(x i:Nat):Nat:=if i<x then i else i+1
def wt(L:Nat->Nat->Int)(n x:Nat):Int:=oF (λi j=>L (sk x i) (sk x j)) (n-1)
theorem Oz(h0:L 0 0=0):wt L 1 0*L 0 0=0:=by
 simp only[wt,oF,D4,D3,D2,d3,sk,Nat.reduceLT,Nat.reduceAdd,Nat.reduceSub,if_true,if_false,Nat.lt_irrefl,Nat.not_lt_zero]
 grind
theorem OD(h0:L 0 0+L 0 1=0)(h1:L 1 0+L 1 1=0):wt L 2 0*L 0 0+wt L 2 1*L 1 0=0:=by
 simp only[wt,oF,D4,D3,D2,d3,sk,Nat.reduceLT,Nat.reduceAdd,Nat.reduceSub,if_true,if_false,Nat.lt_irrefl,Nat.not_lt_zero]
 grind
theorem OJ(h0:L 0 0+L 0 1=0)(h1:L 1 0+L 1 1=0):wt L 2 0*L 0 1+wt L 2 1*L 1 1=0:=by
 simp only[wt,oF,D4,D3,D2,d3,sk,Nat.reduceLT,Nat.reduceAdd,Nat.reduceSub,if_true,if_false,Nat.lt_irrefl,Nat.not_lt_zero]
 grind
theorem O1(h0:L 0 0+L 0 1+L 0 2=0)(h1:L 1 0+L 1 1+L 1 2=0)(h2:L 2 0+L 2 1+L 2 2=0):wt L 3 0*L 0 0+wt L 3 1*L 1 0+wt L 3 2*L 2 0=0:=by
 simp only[wt,oF,D4,D3,D2,d3,sk,Nat.reduceLT,Nat.reduceAdd,Nat.reduceSub,if_true,if_false,Nat.lt_irrefl,Nat.not_lt_zero]
 grind
theorem O2(h0:L 0 0+L 0 1+L 0 2=0)(h1:L 1 0+L 1 1+L 1 2=0)(h2:L 2 0+L 2 1+L 2 2=0):wt L 3 0*L 0 1+wt L 3 1*L 1 1+wt L 3 2*L 2 1=0:=by
 simp only[wt,oF,D4,D3,D2,d3,sk,Nat.reduceLT,Nat.reduceAdd,Nat.reduceSub,if_true,if_false,Nat.lt_irrefl,Nat.not_lt_zero]
 grind
theorem O3(h0:L 0 0+L 0 1+L 0 2=0)(h1:L 1 0+L 1 1+L 1 2=0)(h2:L 2 0+L 2 1+L 2 2=0):wt L 3 0*L 0 2+wt L 3 1*L 1 2+wt L 3 2*L 2 2=0:=by
 simp only[wt,oF,D4,D3,D2,d3,sk,Nat.reduceLT,Nat.reduceAdd,Nat.reduceSub,if_true,if_false,Nat.lt_irrefl,Nat.not_lt_zero]
 grind
theorem O4(h0:L 0 0+L 0 1+L 0 2+L 0 3=0)(h1:L 1 0+L 1 1+L 1 2+L 1 3=0)(h2:L 2 0+L 2 1+L 2 2+L 2 3=0)(h3:L 3 0+L 3 1+L 3 2+L 3 3=0):wt L 4 0*L 0 0+wt L 4 1*L 1 0+wt L 4 2*L 2 0+wt L 4 3*L 3 0=0:=by
 simp only[wt,oF,D4,D3,D2,d3,sk,Nat.reduceLT,Nat.reduceAdd,Nat.reduceSub,if_true,if_false,Nat.lt_irrefl,Nat.not_lt_zero]
 grind
theorem O5(h0:L 0 0+L 0 1+L 0 2+L 0 3=0)(h1:L 1 0+L 1 1+L 1 2+L 1 3=0)(h2:L 2 0+L 2 1+L 2 2+L 2 3=0)(h3:L 3 0+L 3 1+L 3 2+L 3 3=0):wt L 4 0*L 0 1+wt L 4 1*L 1 1+wt L 4 2*L 2 1+wt L 4 3*L 3 1=0:=by
 simp only[wt,oF,D4,D3,D2,d3,sk,Nat.reduceLT,Nat.reduceAdd,Nat.reduceSub,if_true,if_false,Nat.lt_irrefl,Nat.not_lt_zero]
 grind
theorem O6(h0:L 0 0+L 0 1+L 0 2+L 0 3=0)(h1:L 1 0+L 1 1+L 1 2+L 1 3=0)(h2:L 2 0+L 2 1+L 2 2+L 2 3=0)(h3:L 3 0+L 3 1+L 3 2+L 3 3=0):wt L 4 0*L 0 2+wt L 4 1*L 1 2+wt L 4 2*L 2 2+wt L 4 3*L 3 2=0:=by
 simp only[wt,oF,D4,D3,D2,d3,sk,Nat.reduceLT,Nat.reduceAdd,Nat.reduceSub,if_true,if_false,Nat.lt_irrefl,Nat.not_lt_zero]
 grind
theorem O7(h0:L 0 0+L 0 1+L 0 2+L 0 3=0)(h1:L 1 0+L 1 1+L 1 2+L 1 3=0)(h2:L 2 0+L 2 1+L 2 2+L 2 3=0)(h3:L 3 0+L 3 1+L 3 2+L 3 3=0):wt L 4 0*L 0 3+wt L 4 1*L 1 3+wt L 4 2*L 2 3+wt L 4 3*L 3 3=0:=by
 simp only[wt,oF,D4,D3,D2,d3,sk,Nat.reduceLT,Nat.reduceAdd,Nat.reduceSub,if_true,if_false,Nat.lt_irrefl,Nat.not_lt_zero]
 grind
theorem yC(h0:L 0 0+L 0 1+L 0 2+L 0 3+L 0 4=0)(h1:L 1 0+L 1 1+L 1 2+L 1 3+L 1 4=0)(h2:L 2 0+L 2 1+L 2 2+L 2 3+L 2 4=0)(h3:L 3 0+L 3 1+L 3 2+L 3 3+L 3 4=0)(h4:L 4 0+L 4 1+L 4 2+L 4 3+L 4 4=0):wt L 5 0=d4 (L 1 0) (L 1 1) (L 1 2) (L 1 3) (L 2 0) (L 2 1) (L 2 2) (L 2 3) (L 3 0) (L 3 1) (L 3 2) (L 3 3) (L 4 0) (L 4 1) (L 4 2) (L 4 3):=Qh h1 h2 h3 h4
theorem yD(h0:L 0 0+L 0 1+L 0 2+L 0 3+L 0 4=0)(h1:L 1 0+L 1 1+L 1 2+L 1 3+L 1 4=0)(h2:L 2 0+L 2 1+L 2 2+L 2 3+L 2 4=0)(h3:L 3 0+L 3 1+L 3 2+L 3 3+L 3 4=0)(h4:L 4 0+L 4 1+L 4 2+L 4 3+L 4 4=0):wt L 5 1=-d4 (L 0 0) (L 0 1) (L 0 2) (L 0 3) (L 2 0) (L 2 1) (L 2 2) (L 2 3) (L 3 0) (L 3 1) (L 3 2) (L 3 3) (L 4 0) (L 4 1) (L 4 2) (L 4 3):=Qi h0 h2 h3 h4
theorem yE(h0:L 0 0+L 0 1+L 0 2+L 0 3+L 0 4=0)(h1:L 1 0+L 1 1+L 1 2+L 1 3+L 1 4=0)(h2:L 2 0+L 2 1+L 2 2+L 2 3+L 2 4=0)(h3:L 3 0+L 3 1+L 3 2+L 3 3+L 3 4=0)(h4:L 4 0+L 4 1+L 4 2+L 4 3+L 4 4=0):wt L 5 2=d4 (L 0 0) (L 0 1) (L 0 2) (L 0 3) (L 1 0) (L 1 1) (L 1 2) (L 1 3) (L 3 0) (L 3 1) (L 3 2) (L 3 3) (L 4 0) (L 4 1) (L 4 2) (L 4 3):=Qj h0 h1 h3 h4
theorem yF(h0:L 0 0+L 0 1+L 0 2+L 0 3+L 0 4=0)(h1:L 1 0+L 1 1+L 1 2+L 1 3+L 1 4=0)(h2:L 2 0+L 2 1+L 2 2+L 2 3+L 2 4=0)(h3:L 3 0+L 3 1+L 3 2+L 3 3+L 3 4=0)(h4:L 4 0+L 4 1+L 4 2+L 4 3+L 4 4=0):wt L 5 3=-d4 (L 0 0) (L 0 1) (L 0 2) (L 0 3) (L 1 0) (L 1 1) (L 1 2) (L 1 3) (L 2 0) (L 2 1) (L 2 2) (L 2 3) (L 4 0) (L 4 1) (L 4 2) (L 4 3):=Qk h0 h1 h2 h4
theorem yG(h0:L 0 0+L 0 1+L 0 2+L 0 3+L 0 4=0)(h1:L 1 0+L 1 1+L 1 2+L 1 3+L 1 4=0)(h2:L 2 0+L 2 1+L 2 2+L 2 3+L 2 4=0)(h3:L 3 0+L 3 1+L 3 2+L 3 3+L 3 4=0)(h4:L 4 0+L 4 1+L 4 2+L 4 3+L 4 4=0):wt L 5 4=d4 (L 0 0) (L 0 1) (L 0 2) (L 0 3) (L 1 0) (L 1 1) (L 1 2) (L 1 3) (L 2 0) (L 2 1) (L 2 2) (L 2 3) (L 3 0) (L 3 1) (L 3 2) (L 3 3):=rfl
theorem O8(h0:L 0 0+L 0 1+L 0 2+L 0 3+L 0 4=0)(h1:L 1 0+L 1 1+L 1 2+L 1 3+L 1 4=0)(h2:L 2 0+L 2 1+L 2 2+L 2 3+L 2 4=0)(h3:L 3 0+L 3 1+L 3 2+L 3 3+L 3 4=0)(h4:L 4 0+L 4 1+L 4 2+L 4 3+L 4 4=0):wt L 5 0*L 0 0+wt L 5 1*L 1 0+wt L 5 2*L 2 0+wt L 5 3*L 3 0+wt L 5 4*L 4 0=0:=by
 rw[yC h0 h1 h2 h3 h4,yD h0 h1 h2 h3 h4,yE h0 h1 h2 h3 h4,yF h0 h1 h2 h3 h4,yG h0 h1 h2 h3 h4];have:=Mq (L 0 0) (L 0 1) (L 0 2) (L 0 3) (L 1 0) (L 1 1) (L 1 2) (L 1 3) (L 2 0) (L 2 1) (L 2 2) (L 2 3) (L 3 0) (L 3 1) (L 3 2) (L 3 3) (L 4 0) (L 4 1) (L 4 2) (L 4 3);generalize d4 (L 1 0) (L 1 1) (L 1 2) (L 1 3) (L 2 0) (L 2 1) (L 2 2) (L 2 3) (L 3 0) (L 3 1) (L 3 2) (L 3 3) (L 4 0) (L 4 1) (L 4 2) (L 4 3)=v0 at *;generalize d4 (L 0 0) (L 0 1) (L 0 2) (L 0 3) (L 2 0) (L 2 1) (L 2 2) (L 2 3) (L 3 0) (L 3 1) (L 3 2) (L 3 3) (L 4 0) (L 4 1) (L 4 2) (L 4 3)=v1 at *;generalize d4 (L 0 0) (L 0 1) (L 0 2) (L 0 3) (L 1 0) (L 1 1) (L 1 2) (L 1 3) (L 3 0) (L 3 1) (L 3 2) (L 3 3) (L 4 0) (L 4 1) (L 4 2) (L 4 3)=v2 at *;generalize d4 (L 0 0) (L 0 1) (L 0 2) (L 0 3) (L 1 0) (L 1 1) (L 1 2) (L 1 3) (L 2 0) (L 2 1) (L 2 2) (L 2 3) (L 4 0) (L 4 1) (L 4 2) (L 4 3)=v3 at *;generalize d4 (L 0 0) (L 0 1) (L 0 2) (L 0 3) (L 1 0) (L 1 1) (L 1 2) (L 1 3) (L 2 0) (L 2 1) (L 2 2) (L 2 3) (L 3 0) (L 3 1) (L 3 2) (L 3 3)=v4 at *
 grind
theorem O9(h0:L 0 0+L 0 1+L 0 2+L 0 3+L 0 4=0)(h1:L 1 0+L 1 1+L 1 2+L 1 3+L 1 4=0)(h2:L 2 0+L 2 1+L 2 2+L 2 3+L 2 4=0)(h3:L 3 0+L 3 1+L 3 2+L 3 3+L 3 4=0)(h4:L 4 0+L 4 1+L 4 2+L 4 3+L 4 4=0):wt L 5 0*L 0 1+wt L 5 1*L 1 1+wt L 5 2*L 2 1+wt L 5 3*L 3 1+wt L 5 4*L 4 1=0:=by
 rw[yC h0 h1 h2 h3 h4,yD h0 h1 h2 h3 h4,yE h0 h1 h2 h3 h4,yF h0 h1 h2 h3 h4,yG h0 h1 h2 h3 h4];have:=Mr (L 0 0) (L 0 1) (L 0 2) (L 0 3) (L 1 0) (L 1 1) (L 1 2) (L 1 3) (L 2 0) (L 2 1) (L 2 2) (L 2 3) (L 3 0) (L 3 1) (L 3 2) (L 3 3) (L 4 0) (L 4 1) (L 4 2) (L 4 3);generalize d4 (L 1 0) (L 1 1) (L 1 2) (L 1 3) (L 2 0) (L 2 1) (L 2 2) (L 2 3) (L 3 0) (L 3 1) (L 3 2) (L 3 3) (L 4 0) (L 4 1) (L 4 2) (L 4 3)=v0 at *;generalize d4 (L 0 0) (L 0 1) (L 0 2) (L 0 3) (L 2 0) (L 2 1) (L 2 2) (L 2 3) (L 3 0) (L 3 1) (L 3 2) (L 3 3) (L 4 0) (L 4 1) (L 4 2) (L 4 3)=v1 at *;generalize d4 (L 0 0) (L 0 1) (L 0 2) (L 0 3) (L 1 0) (L 1 1) (L 1 2) (L 1 3) (L 3 0) (L 3 1) (L 3 2) (L 3 3) (L 4 0) (L 4 1) (L 4 2) (L 4 3)=v2 at *;generalize d4 (L 0 0) (L 0 1) (L 0 2) (L 0 3) (L 1 0) (L 1 1) (L 1 2) (L 1 3) (L 2 0) (L 2 1) (L 2 2) (L 2 3) (L 4 0) (L 4 1) (L 4 2) (L 4 3)=v3 at *;generalize d4 (L 0 0) (L 0 1) (L 0 2) (L 0 3) (L 1 0) (L 1 1) (L 1 2) (L 1 3) (L 2 0) (L 2 1) (L 2 2) (L 2 3) (L 3 0) (L 3 1) (L 3 2) (L 3 3)=v4 at *
 grind
theorem Pa(h0:L 0 0+L 0 1+L 0 2+L 0 3+L 0 4=0)(h1:L 1 0+L 1 1+L 1 2+L 1 3+L 1 4=0)(h2:L 2 0+L 2 1+L 2 2+L 2 3+L 2 4=0)(h3:L 3 0+L 3 1+L 3 2+L 3 3+L 3 4=0)(h4:L 4 0+L 4 1+L 4 2+L 4 3+L 4 4=0):wt L 5 0*L 0 2+wt L 5 1*L 1 2+wt L 5 2*L 2 2+wt L 5 3*L 3 2+wt L 5 4*L 4 2=0:=by
 rw[yC h0 h1 h2 h3 h4,yD h0 h1 h2 h3 h4,yE h0 h1 h2 h3 h4,yF h0 h1 h2 h3 h4,yG h0 h1 h2 h3 h4];have:=Ms (L 0 0) (L 0 1) (L 0 2) (L 0 3) (L 1 0) (L 1 1) (L 1 2) (L 1 3) (L 2 0) (L 2 1) (L 2 2) (L 2 3) (L 3 0) (L 3 1) (L 3 2) (L 3 3) (L 4 0) (L 4 1) (L 4 2) (L 4 3);generalize d4 (L 1 0) (L 1 1) (L 1 2) (L 1 3) (L 2 0) (L 2 1) (L 2 2) (L 2 3) (L 3 0) (L 3 1) (L 3 2) (L 3 3) (L 4 0) (L 4 1) (L 4 2) (L 4 3)=v0 at *;generalize d4 (L 0 0) (L 0 1) (L 0 2) (L 0 3) (L 2 0) (L 2 1) (L 2 2) (L 2 3) (L 3 0) (L 3 1) (L 3 2) (L 3 3) (L 4 0) (L 4 1) (L 4 2) (L 4 3)=v1 at *;generalize d4 (L 0 0) (L 0 1) (L 0 2) (L 0 3) (L 1 0) (L 1 1) (L 1 2) (L 1 3) (L 3 0) (L 3 1) (L 3 2) (L 3 3) (L 4 0) (L 4 1) (L 4 2) (L 4 3)=v2 at *;generalize d4 (L 0 0) (L 0 1) (L 0 2) (L 0 3) (L 1 0) (L 1 1) (L 1 2) (L 1 3) (L 2 0) (L 2 1) (L 2 2) (L 2 3) (L 4 0) (L 4 1) (L 4 2) (L 4 3)=v3 at *;generalize d4 (L 0 0) (L 0 1) (L 0 2) (L 0 3) (L 1 0) (L 1 1) (L 1 2) (L 1 3) (L 2 0) (L 2 1) (L 2 2) (L 2 3) (L 3 0) (L 3 1) (L 3 2) (L 3 3)=v4 at *
 grind
theorem Pb(h0:L 0 0+L 0 1+L 0 2+L 0 3+L 0 4=0)(h1:L 1 0+L 1 1+L 1 2+L 1 3+L 1 4=0)(h2:L 2 0+L 2 1+L 2 2+L 2 3+L 2 4=0)(h3:L 3 0+L 3 1+L 3 2+L 3 3+L 3 4=0)(h4:L 4 0+L 4 1+L 4 2+L 4 3+L 4 4=0):wt L 5 0*L 0 3+wt L 5 1*L 1 3+wt L 5 2*L 2 3+wt L 5 3*L 3 3+wt L 5 4*L 4 3=0:=by
 rw[yC h0 h1 h2 h3 h4,yD h0 h1 h2 h3 h4,yE h0 h1 h2 h3 h4,yF h0 h1 h2 h3 h4,yG h0 h1 h2 h3 h4];have:=Mt (L 0 0) (L 0 1) (L 0 2) (L 0 3) (L 1 0) (L 1 1) (L 1 2) (L 1 3) (L 2 0) (L 2 1) (L 2 2) (L 2 3) (L 3 0) (L 3 1) (L 3 2) (L 3 3) (L 4 0) (L 4 1) (L 4 2) (L 4 3);generalize d4 (L 1 0) (L 1 1) (L 1 2) (L 1 3) (L 2 0) (L 2 1) (L 2 2) (L 2 3) (L 3 0) (L 3 1) (L 3 2) (L 3 3) (L 4 0) (L 4 1) (L 4 2) (L 4 3)=v0 at *;generalize d4 (L 0 0) (L 0 1) (L 0 2) (L 0 3) (L 2 0) (L 2 1) (L 2 2) (L 2 3) (L 3 0) (L 3 1) (L 3 2) (L 3 3) (L 4 0) (L 4 1) (L 4 2) (L 4 3)=v1 at *;generalize d4 (L 0 0) (L 0 1) (L 0 2) (L 0 3) (L 1 0) (L 1 1) (L 1 2) (L 1 3) (L 3 0) (L 3 1) (L 3 2) (L 3 3) (L 4 0) (L 4 1) (L 4 2) (L 4 3)=v2 at *;generalize d4 (L 0 0) (L 0 1) (L 0 2) (L 0 3) (L 1 0) (L 1 1) (L 1 2) (L 1 3) (L 2 0) (L 2 1) (L 2 2) (L 2 3) (L 4 0) (L 4 1) (L 4 2) (L 4 3)=v3 at *;generalize d4 (L 0 0) (L 0 1) (L 0 2) (L 0 3) (L 1 0) (L 1 1) (L 1 2) (L 1 3) (L 2 0) (L 2 1) (L 2 2) (L 2 3) (L 3 0) (L 3 1) (L 3 2) (L 3 3)=v4 at *
 grind
theorem Pg(h0:L 0 0+L 0 1+L 0 2+L 0 3+L 0 4=0)(h1:L 1 0+L 1 1+L 1 2+L 1 3+L 1 4=0)(h2:L 2 0+L 2 1+L 2 2+L 2 3+L 2 4=0)(h3:L 3 0+L 3 1+L 3 2+L 3 3+L 3 4=0)(h4:L 4 0+L 4 1+L 4 2+L 4 3+L 4 4=0):wt L 5 0*L 0 4+wt L 5 1*L 1 4+wt L 5 2*L 2 4+wt L 5 3*L 3 4+wt L 5 4*L 4 4=0:=by
 rw[yC h0 h1 h2 h3 h4,yD h0 h1 h2 h3 h4,yE h0 h1 h2 h3 h4,yF h0 h1 h2 h3 h4,yG h0 h1 h2 h3 h4];have q0:=Mq (L 0 0) (L 0 1) (L 0 2) (L 0 3) (L 1 0) (L 1 1) (L 1 2) (L 1 3) (L 2 0) (L 2 1) (L 2 2) (L 2 3) (L 3 0) (L 3 1) (L 3 2) (L 3 3) (L 4 0) (L 4 1) (L 4 2) (L 4 3);have q1:=Mr (L 0 0) (L 0 1) (L 0 2) (L 0 3) (L 1 0) (L 1 1) (L 1 2) (L 1 3) (L 2 0) (L 2 1) (L 2 2) (L 2 3) (L 3 0) (L 3 1) (L 3 2) (L 3 3) (L 4 0) (L 4 1) (L 4 2) (L 4 3);have q2:=Ms (L 0 0) (L 0 1) (L 0 2) (L 0 3) (L 1 0) (L 1 1) (L 1 2) (L 1 3) (L 2 0) (L 2 1) (L 2 2) (L 2 3) (L 3 0) (L 3 1) (L 3 2) (L 3 3) (L 4 0) (L 4 1) (L 4 2) (L 4 3);have q3:=Mt (L 0 0) (L 0 1) (L 0 2) (L 0 3) (L 1 0) (L 1 1) (L 1 2) (L 1 3) (L 2 0) (L 2 1) (L 2 2) (L 2 3) (L 3 0) (L 3 1) (L 3 2) (L 3 3) (L 4 0) (L 4 1) (L 4 2) (L 4 3);have e0:L 0 4=-(L 0 0+L 0 1+L 0 2+L 0 3):=by lia
 have e1:L 1 4=-(L 1 0+L 1 1+L 1 2+L 1 3):=by lia
 have e2:L 2 4=-(L 2 0+L 2 1+L 2 2+L 2 3):=by lia
 have e3:L 3 4=-(L 3 0+L 3 1+L 3 2+L 3 3):=by lia
 have e4:L 4 4=-(L 4 0+L 4 1+L 4 2+L 4 3):=by lia
 rw[e0,e1,e2,e3,e4];generalize d4 (L 1 0) (L 1 1) (L 1 2) (L 1 3) (L 2 0) (L 2 1) (L 2 2) (L 2 3) (L 3 0) (L 3 1) (L 3 2) (L 3 3) (L 4 0) (L 4 1) (L 4 2) (L 4 3)=v0 at *;generalize d4 (L 0 0) (L 0 1) (L 0 2) (L 0 3) (L 2 0) (L 2 1) (L 2 2) (L 2 3) (L 3 0) (L 3 1) (L 3 2) (L 3 3) (L 4 0) (L 4 1) (L 4 2) (L 4 3)=v1 at *;generalize d4 (L 0 0) (L 0 1) (L 0 2) (L 0 3) (L 1 0) (L 1 1) (L 1 2) (L 1 3) (L 3 0) (L 3 1) (L 3 2) (L 3 3) (L 4 0) (L 4 1) (L 4 2) (L 4 3)=v2 at *;generalize d4 (L 0 0) (L 0 1) (L 0 2) (L 0 3) (L 1 0) (L 1 1) (L 1 2) (L 1 3) (L 2 0) (L 2 1) (L 2 2) (L 2 3) (L 4 0) (L 4 1) (L 4 2) (L 4 3)=v3 at *;generalize d4 (L 0 0) (L 0 1) (L 0 2) (L 0 3) (L 1 0) (L 1 1) (L 1 2) (L 1 3) (L 2 0) (L 2 1) (L 2 2) (L 2 3) (L 3 0) (L 3 1) (L 3 2) (L 3 3)=v4 at *
 grind
def SN(f:Nat->Int):Nat->Int
 |0=>0
 |n+1=>SN f n+f n
theorem stat:∀{n:Nat},n<=5->(∀x,x<n->SN (L x) n=0)->∀y,y<n->SN (λx=>wt L n x*L x y) n=0:=by
 intro n hn h y hy
 match n,hn,h,y,hy with
 |1,_,h,0,_=>exact (show 0+wt L 1 0*L 0 0=0 by rw[T8];exact Oz (by have:=h 0 (by decide);simp only[SN]at this;lia))
 |2,_,h,0,_=>exact (show 0+wt L 2 0*L 0 0+wt L 2 1*L 1 0=0 by rw[T8];exact OD (by have:=h 0 (by decide);simp only[SN]at this;lia) (by have:=h 1 (by decide);simp only[SN]at this;lia))
 |2,_,h,1,_=>exact (show 0+wt L 2 0*L 0 1+wt L 2 1*L 1 1=0 by rw[T8];exact OJ (by have:=h 0 (by decide);simp only[SN]at this;lia) (by have:=h 1 (by decide);simp only[SN]at this;lia))
 |3,_,h,0,_=>exact (show 0+wt L 3 0*L 0 0+wt L 3 1*L 1 0+wt L 3 2*L 2 0=0 by rw[T8];exact O1 (by have:=h 0 (by decide);simp only[SN]at this;lia) (by have:=h 1 (by decide);simp only[SN]at this;lia) (by have:=h 2 (by decide);simp only[SN]at this;lia))
 |3,_,h,1,_=>exact (show 0+wt L 3 0*L 0 1+wt L 3 1*L 1 1+wt L 3 2*L 2 1=0 by rw[T8];exact O2 (by have:=h 0 (by decide);simp only[SN]at this;lia) (by have:=h 1 (by decide);simp only[SN]at this;lia) (by have:=h 2 (by decide);simp only[SN]at this;lia))
 |3,_,h,2,_=>exact (show 0+wt L 3 0*L 0 2+wt L 3 1*L 1 2+wt L 3 2*L 2 2=0 by rw[T8];exact O3 (by have:=h 0 (by decide);simp only[SN]at this;lia) (by have:=h 1 (by decide);simp only[SN]at this;lia) (by have:=h 2 (by decide);simp only[SN]at this;lia))
 |4,_,h,0,_=>exact (show 0+wt L 4 0*L 0 0+wt L 4 1*L 1 0+wt L 4 2*L 2 0+wt L 4 3*L 3 0=0 by rw[T8];exact O4 (by have:=h 0 (by decide);simp only[SN]at this;lia) (by have:=h 1 (by decide);simp only[SN]at this;lia) (by have:=h 2 (by decide);simp only[SN]at this;lia) (by have:=h 3 (by decide);simp only[SN]at this;lia))
 |4,_,h,1,_=>exact (show 0+wt L 4 0*L 0 1+wt L 4 1*L 1 1+wt L 4 2*L 2 1+wt L 4 3*L 3 1=0 by rw[T8];exact O5 (by have:=h 0 (by decide);simp only[SN]at this;lia) (by have:=h 1 (by decide);simp only[SN]at this;lia) (by have:=h 2 (by decide);simp only[SN]at this;lia) (by have:=h 3 (by decide);simp only[SN]at this;lia))
 |4,_,h,2,_=>exact (show 0+wt L 4 0*L 0 2+wt L 4 1*L 1 2+wt L 4 2*L 2 2+wt L 4 3*L 3 2=0 by rw[T8];exact O6 (by have:=h 0 (by decide);simp only[SN]at this;lia) (by have:=h 1 (by decide);simp only[SN]at this;lia) (by have:=h 2 (by decide);simp only[SN]at this;lia) (by have:=h 3 (by decide);simp only[SN]at this;lia))
 |4,_,h,3,_=>exact (show 0+wt L 4 0*L 0 3+wt L 4 1*L 1 3+wt L 4 2*L 2 3+wt L 4 3*L 3 3=0 by rw[T8];exact O7 (by have:=h 0 (by decide);simp only[SN]at this;lia) (by have:=h 1 (by decide);simp only[SN]at this;lia) (by have:=h 2 (by decide);simp only[SN]at this;lia) (by have:=h 3 (by decide);simp only[SN]at this;lia))
 |5,_,h,0,_=>exact (show 0+wt L 5 0*L 0 0+wt L 5 1*L 1 0+wt L 5 2*L 2 0+wt L 5 3*L 3 0+wt L 5 4*L 4 0=0 by rw[T8];exact O8 (by have:=h 0 (by decide);simp only[SN]at this;lia) (by have:=h 1 (by decide);simp only[SN]at this;lia) (by have:=h 2 (by decide);simp only[SN]at this;lia) (by have:=h 3 (by decide);simp only[SN]at this;lia) (by have:=h 4 (by decide);simp only[SN]at this;lia))
 |5,_,h,1,_=>exact (show 0+wt L 5 0*L 0 1+wt L 5 1*L 1 1+wt L 5 2*L 2 1+wt L 5 3*L 3 1+wt L 5 4*L 4 1=0 by rw[T8];exact O9 (by have:=h 0 (by decide);simp only[SN]at this;lia) (by have:=h 1 (by decide);simp only[SN]at this;lia) (by have:=h 2 (by decide);simp only[SN]at this;lia) (by have:=h 3 (by decide);simp only[SN]at this;lia) (by have:=h 4 (by decide);simp only[SN]at this;lia))
 |5,_,h,2,_=>exact (show 0+wt L 5 0*L 0 2+wt L 5 1*L 1 2+wt L 5 2*L 2 2+wt L 5 3*L 3 2+wt L 5 4*L 4 2=0 by rw[T8];exact Pa (by have:=h 0 (by decide);simp only[SN]at this;lia) (by have:=h 1 (by decide);simp only[SN]at this;lia) (by have:=h 2 (by decide);simp only[SN]at this;lia) (by have:=h 3 (by decide);simp only[SN]at this;lia) (by have:=h 4 (by decide);simp only[SN]at this;lia))
 |5,_,h,3,_=>exact (show 0+wt L 5 0*L 0 3+wt L 5 1*L 1 3+wt L 5 2*L 2 3+wt L 5 3*L 3 3+wt L 5 4*L 4 3=0 by rw[T8];exact Pb (by have:=h 0 (by decide);simp only[SN]at this;lia) (by have:=h 1 (by decide);simp only[SN]at this;lia) (by have:=h 2 (by decide);simp only[SN]at this;lia) (by have:=h 3 (by decide);simp only[SN]at this;lia) (by have:=h 4 (by decide);simp only[SN]at this;lia))
 |5,_,h,4,_=>exact (show 0+wt L 5 0*L 0 4+wt L 5 1*L 1 4+wt L 5 2*L 2 4+wt L 5 3*L 3 4+wt L 5 4*L 4 4=0 by rw[T8];exact Pg (by have:=h 0 (by decide);simp only[SN]at this;lia) (by have:=h 1 (by decide);simp only[SN]at this;lia) (by have:=h 2 (by decide);simp only[SN]at this;lia) (by have:=h 3 (by decide);simp only[SN]at this;lia) (by have:=h 4 (by decide);simp only[SN]at this;lia))
 |0,_,_,y,hy=>lia
 |1,_,_,y+1,hy=>lia
 |2,_,_,y+2,hy=>lia
 |3,_,_,y+3,hy=>lia
 |4,_,_,y+4,hy=>lia
 |5,_,_,y+5,hy=>lia
 |n+6,hn,_,_,_=>lia
end N60
namespace K
open PySem L2 L3
theorem jE(l:List Str)(h:l.Nodup:=by decide):l.Nodup:=h
local macro_rules | `(tactic| trivial)=>`(tactic| refine⟨rfl,by decide +kernel,rfl,Nk ?_,λm_=>KJ rfl,by decide,rfl,Jf rfl,Jg ?_,Kv ?_⟩<;>((repeat' apply And.intro)<;>first | exact True.intro | rfl | exact Or.inl rfl | exact Or.inr rfl | exact⟨_,rfl⟩))
def top(i:Nat):Stmt:=PySem.Challenge.pw_fadewalk_k83_walks_watched.main.body.getD i (.Pass ⟨0,0,0,0⟩)
abbrev Qd(k:Nat)(N:List Str)(x:Str)(st:Stmt)(Y:Program->World->PySem.W.Frag->Mg->Heap->Prop->Prop):={b:aa->DM Fl // ∀{P w K mg base f cdv A outer s H E},Y P w K mg base (Rm k A x st s f cdv->Ds P w K mg base N x st f cdv A outer s H E b)}
abbrev Qe(k:Nat)(N:List Str)(x:Str)(st:Stmt)(Y:(Nat->Str->List Str->Fn->Prop)->(Str->Prop)->Prop->Prop):=Qd k N x st λP w K m o=>Y (DefD P w K m o) (Nn m)
abbrev Sc(N ps:List Str)(st:Stmt):=FnScope N ps (defScope st)
theorem b8{N P:List Str}{sc:Scope}(a:sc.kind=.function:=by exact rfl)(b:sc.isCoroutine=false:=by exact rfl)(c:sc.isGenerator=false:=by exact rfl)(p:N.take P.length=P:=by exact rfl)(d:(decide N.Nodup&&(decide (∀x∈P,sc.names.lookup x=some .local\/sc.names.lookup x=some .cell)&&decide (∀y∈sc.names,y.2≠.free)))=true:=by decide +kernel):FnScope N P sc:=Ov a b c p d
theorem n6{X:Cx}{E:XK}{scope:Scope}{cl:List (Str×Addr)}{elt i0:Expr}{p0 pos:Pos}{fi:aa->DM Itn}{fe:aa->DM D}(x:Str)(js:List Nat)(fr:List Str)(hi:DI X E (.Name x p0) i0 fi)
  (he:∀{Xp m fp C s₂ H₂},DE (X.aU Xp scope (cellsFrom m scope.names cl) ([x]++fr) fp C s₂ H₂) E0 elt fe) (T:CompG X scope cl [x] js fr:=by trivial) (hc:X.calm=true:=by exact rfl)
  (nd:([x]++fr).Nodup:=by decide) (hl:∀m C Z,(compEnvC scope (cellsFrom m scope.names cl) C Z).scope.names.lookup x=some .local:=by intros;exact rfl)
  (hs:∀y,foldedSetIterable i0 X.env y=pure y:=by intro _;rfl) :
  DE X E (.ListComp elt [⟨.Name x p0,i0,[],0⟩] scope pos) (λδ=>fi δ>>=λit=>cU (bR (gN 0) (λz=>pure true) (bW fe) it (aR [x].length js δ) [])>>=λp=>Out.val.run p.2):=
 cL (own:=[x]) .val hc T hi (λz z z z z z=>aH (i:=0) nd rfl (Or.inl (hl ..)) (Or.inr (hl ..))) (λz z z z z z=>fG) (λz z z z z z=>he) hs
section
variable(N:Nat)(v0 v1 v2 v3 v4 v5 v6 v7 v8 v9 v10 v11 v12 v13 v14 v15 v16 v17 v18 v19:Fn)
abbrev nF:Stmt:=top 7
theorem yR:Sc ["thing"] ["thing"] nF:=b8
@[simp] noncomputable def sZ:Qe 0 ["thing"] "is_whole" nF λD n Z=>n "bool"->n "int"->n "isinstance"->Z:=
 ⟨_,λya yb yc hr=>(aA (aO (oN (bh dG yc (au (ao 0) (au (pN (T := "int") yb) aq))) (oO (Kg (bh dG yc (au (ao 0) (au (pN (T := "bool") ya) aq))))))))⟩
noncomputable def rT:=(sZ).1
abbrev dJ:Stmt:=top 8
theorem gm:Sc ["one", "other"] ["one", "other"] dJ:=b8
@[simp] noncomputable def dH:Qe 0 ["one", "other"] "greatest_divider" dJ fun _ _ Z=>Z:=
 ⟨_,fun  hr=>have nd:=gm.nd;(az (qR N PassesOwn.leaving (b7 (ao 1) (fun _=>rfl)) (aA (sE (i:=0) (j:=1) rfl nd rfl rfl (by decide) rfl rfl (au (ao 1) (au (aK cD (ao 0) (ao 1)) aq)) rfl)))
  (aA (aO (ao 0))))⟩
noncomputable def cF:=(dH N).1
abbrev iQ:Stmt:=top 11
theorem uF:Sc ["thing", "many"] ["thing", "many"] iQ:=b8
@[simp] noncomputable def oh:Qe 1 ["thing", "many"] "are_weights" iQ fun D n Z=>D 1 "is_whole" ["thing"] v0->n "all"->n "isinstance"->n "len"->n "tuple"->Z:=
 ⟨_,fun ya yb yc yd ye hr=>(az (cg (DW.dt (pP (eF (b7 (bh dG yc (au (ao 0) (au (pN (T := "tuple") ye) aq))) (fun _=>rfl))) (oV (bw (gH hr.units) (bh call_lenD yd (au (ao 0) aq)) (ao 1)))))
  (aA (aO pM))
  bz)
  (aA (aO (bh (fB hr.hd) yb (au (n6 "weight" [] [] (cG (ao 0)) (oN (aJ ya hr sW (au (ao 0) aq)) (oO (d8 xg (ao 0) aB)))) aq)))))⟩
noncomputable def nY:=(oh v0).1
abbrev nu:Stmt:=top 12
theorem yP:Sc ["thing", "many"] ["thing", "many"] nu:=b8
@[simp] noncomputable def sX:Qe 2 ["thing", "many"] "are_rows" nu fun D n Z=>D 2 "are_weights" ["thing", "many"] v0->n "all"->n "isinstance"->n "len"->n "tuple"->Z:=
 ⟨_,fun ya yb yc yd ye hr=>(az (cg (DW.dt (pP (eF (b7 (bh dG yc (au (ao 0) (au (pN (T := "tuple") ye) aq))) (fun _=>rfl))) (oV (bw (gH hr.units) (bh call_lenD yd (au (ao 0) aq)) (ao 1)))))
  (aA (aO pM))
  bz)
  (aA (aO (bh (fB hr.hd) yb (au (n6 "row" [1] ["many"] (cG (ao 0)) (aJ ya hr sW (au (ao 0) (au (ao 1) aq)))) aq)))))⟩
noncomputable def rQ:=(sX v0).1
abbrev nA:Stmt:=top 13
theorem yQ:Sc ["thing", "many"] ["thing", "many"] nA:=b8
@[simp] noncomputable def sY:Qe 1 ["thing", "many"] "is_place" nA λD n Z=>D 1 "is_whole" ["thing"] v0->Z:=
 ⟨_,λya hr=>(aA (aO (oN (aJ ya hr aP (au (ao 0) aq)) (oO (Gs xj xm aB (ao 0) (ao 1))))))⟩
noncomputable def rR:=(sY v0).1
abbrev lH:Stmt:=top 14
theorem xV:Sc ["things"] ["things"] lH:=b8
@[simp] noncomputable def qz:Qe 0 ["things"] "is_rising" lH λD n Z=>n "all"->n "len"->n "range"->Z:=
 ⟨_,λya yb yc hr=>(aA (aO (bh (fB hr.hd) ya (au (n6 "at" [0] ["things"] (Dc rfl yc (au aB (au (bh call_lenD yb (au (ao 0) aq)) aq))) (d8 xm (aY bD (ao 1) (aK lY (ao 0) aB)) (aY bD (ao 1) (ao 0)))) aq))))⟩
noncomputable def qw:=(qz).1
abbrev dg:Stmt:=top 15
theorem nJ:Sc ["thing", "many"] ["thing", "many"] dg:=b8
@[simp] noncomputable def gk:Qe 2 ["thing", "many"] "are_rising_places" dg fun D n Z=>D 2 "is_place" ["thing", "many"] v0->D 1 "is_rising" ["things"] v1->n "all"->n "isinstance"->n "tuple"->Z:=
 ⟨_,fun ya yb yc yd ye hr=>(az (cg (DW.dt (pP (eF (b7 (bh dG yd (au (ao 0) (au (pN (T := "tuple") ye) aq))) (fun _=>rfl))) (oV (eF (b7 (bh (fB hr.hd) yc (au (n6 "place" [1] ["many"] (cG (ao 0)) (aJ ya hr sW (au (ao 0) (au (ao 1) aq)))) aq)) (fun _=>rfl))))))
  (aA (aO pM))
  bz)
  (aA (aO (aJ yb hr aP (au (ao 0) aq)))))⟩
noncomputable def gj:=(gk v0 v1).1
abbrev qZ:Stmt:=top 16
theorem Fo:Sc ["thing", "many"] ["thing", "many"] qZ:=b8
@[simp] noncomputable def xG:Qe 3 ["thing", "many"] "is_set" qZ λD n Z=>D 3 "are_rising_places" ["thing", "many"] v0->n "len"->Z:=
 ⟨_,λya yb hr=>(aA (aO (oN (aJ ya hr aP (au (ao 0) (au (ao 1) aq))) (oO (d8 sU (bh call_lenD yb (au (ao 0) aq)) aB)))))⟩
noncomputable def vU:=(xG v0).1
abbrev fX:Stmt:=top 18
theorem jK:Sc ["thing", "whole"] ["thing"] fX:=b8
@[simp] noncomputable def j9:Qd 3 ["thing", "whole"] "can_be_walked" fX fun P w K m o Z=>∀{t_MOST_PLACES},DefD P w K m o 3 "are_rows" ["thing", "many"] v0->Gi m "MOST_PLACES" 25 t_MOST_PLACES->Nn m "all"->Nn m "isinstance"->Nn m "len"->Nn m "sum"->Nn m "tuple"->Z:=
 ⟨_,fun ya yb yc yd ye yf yg hr=>have nd:=jK.nd;(az (cg (DW.dt (pP (eF (b7 (bh dG yd (au (ao 0) (au (pN (T := "tuple") yg) aq))) (fun _=>rfl))) (pP (eF (Gy xj xj aB (bh call_lenD ye (au (ao 0) aq)) (NK yb))) (oV (eF (b7 (aJ ya hr aP (au (ao 0) (au (bh call_lenD ye (au (ao 0) aq)) aq))) (fun _=>rfl)))))))
  (aA (aO pM))
  bz)
  (az (aL (i:=1) nd rfl (Or.inr rfl) (bh (jR hr.hd) yf (au (aY bD (ao 0) aB) aq)))
  (aA (aO (oN (d8 xg (ao 1) aB) (oO (bh (fB hr.hd) yc (au (n6 "row" [1] ["whole"] (cG (ao 0)) (d8 (cA hr.units) (bh (jR hr.hd) yf (au (ao 0) aq)) (ao 1))) aq))))))))⟩
noncomputable def jP:=(j9 v0).1
abbrev bK:Stmt:=inClass (top 20) 1
theorem tV:Sc ["self"] ["self"] bK:=b8
@[simp] noncomputable def lZ:Qd 0 ["self"] "Walk.__len__" bK λP w K m o Z=>∀{C_Walk},OCls K m "Walk" C_Walk ["rows", "whole"]->Nn m "len"->Z:=
 ⟨_,λya yb hr=>(aA (aO (bh call_lenD yb (au (jz ya (by decide) (ao 0)) aq))))⟩
noncomputable def lM:=(lZ).1
abbrev fY:Stmt:=top 19
theorem rA:Sc ["walk", "thing"] ["walk", "thing"] fY:=b8
@[simp] noncomputable def kh:Qd 4 ["walk", "thing"] "refuse_no_set" fY fun P w K m o Z=>DefD P w K m o 4 "is_set" ["thing", "many"] v0->MethD P w K m o 1 "Walk" "__len__" "Walk.__len__" bK ["self"] v1->Nn m "len"->Z:=
 ⟨_,fun ya yb yc hr=>(aA (cg (eF (b7 (aJ ya hr aP (au (ao 1) (au (bh (gZ yb hr aP (fun _ _ _ _ _ _ us hl=>by obtain⟨_,rfl⟩:=qU hl;rfl)) yc (au (ao 0) aq)) aq))) (fun _=>rfl)))
  (aA qQ)
  bz))⟩
noncomputable def jQ:=(kh v0 v1).1
abbrev fW:Stmt:=inClass (top 20) 0
theorem rm:Sc ["self", "rows"] ["self", "rows"] fW:=b8
@[simp] noncomputable def j8:Qd 4 ["self", "rows"] "Walk.__init__" fW fun P w K m o Z=>∀{C_Walk},DefD P w K m o 4 "can_be_walked" ["thing"] v0->OCls K m "Walk" C_Walk ["rows", "whole"]->Nn m "sum"->Z:=
 ⟨_,fun ya yb yc hr=>(az (cg (eF (b7 (aJ ya hr aP (au (ao 1) aq)) (fun _=>rfl)))
  (aA qQ)
  bz)
  (az (De yb (by decide) (ao 0) (ao 1))
  (aA (De yb (by decide) (ao 0) (bh (jR hr.hd) yc (au (aY bD (ao 1) aB) aq))))))⟩
noncomputable def jO:=(j8 v0).1
abbrev nH:Stmt:=top 22
theorem qF:Sc ["walk", "divider", "row", "weight"] ["walk"] nH:=b8
@[simp] noncomputable def tE:Qd 6 ["walk", "divider", "row", "weight"] "plainest" nH fun P w K m o Z=>∀{C_Walk},DefD P w K m o 1 "greatest_divider" ["one", "other"] v0->ClsD P w K m o 5 "Walk" v1->OCls K m "Walk" C_Walk ["rows", "whole"]->Nn m "tuple"->Z:=
 ⟨_,fun ya yb yc yd hr=>have nd:=qF.nd;(az (aL (i:=1) nd rfl (Or.inr rfl) aB)
  (az (bO 0 SM rfl (cG (jz yc (by decide) (ao 0))) (aH (i:=2) nd rfl (Or.inl rfl))
  (aA (bO 0 SM rfl (cG (ao 2)) (aH (i:=3) nd rfl (Or.inl rfl))
  (aA (aL (i:=1) nd rfl (Or.inr rfl) (aJ ya hr aP (au (ao 1) (au (ao 3) aq))))))))
  (aA (aO (ue yb hr aP (au (cZ (T := "tuple") bc yd (au (cL (own:=["row"]) (js:=[1]) (fr:=["divider"]) .val rfl (by trivial) (cG (jz yc (by decide) (ao 0))) (λz z z z z z=>(aH (i:=0) (jE ["row", "divider"]) rfl (Or.inl rfl))) (λz z z z z z=>fG) (λz z z z z z=>(cZ (T := "tuple") bc yd (au (n6 "weight" [1] ["divider"] (cG (ao 0)) (aK gG (ao 0) (ao 1))) aq)))) aq)) aq))))))⟩
noncomputable def rY:=(tE v0 v1).1
abbrev iR:Stmt:=top 24
theorem uG:Sc ["walk"] ["walk"] iR:=b8
@[simp] noncomputable def ou:Qd 0 ["walk"] "next_places" iR λP w K m o Z=>∀{C_Walk},OCls K m "Walk" C_Walk ["rows", "whole"]->Nn m "enumerate"->Nn m "tuple"->Z:=
 ⟨_,λya yb yc hr=>(aA (aO (cL (own:=["row"]) (js:=[]) (fr:=[]) .val rfl (by trivial) (cG (jz ya (by decide) (ao 0))) (λz z z z z z=>(aH (i:=0) (jE ["row"]) rfl (Or.inl rfl))) (λz z z z z z=>fG) (λz z z z z z=>(cZ (T := "tuple") bc yc (au (cL (own:=["place", "weight"]) (js:=[]) (fr:=[]) .val rfl (by trivial) (lN rfl yb (au (ao 0) aq)) (λz z z z z z=>(jA (n:=2) rfl (bN (aH (i:=0) (jE ["place", "weight"]) rfl (Or.inl rfl)) (bN (aH (i:=1) (jE ["place", "weight"]) rfl (Or.inl rfl)) gB)))) (λz z z z z z=>(jl (bw sU (ao 1) aB))) (λz z z z z z=>(ao 0))) aq))))))⟩
noncomputable def nZ:=(ou).1
abbrev gO:Stmt:=top 25
theorem kj:Sc ["nexts", "start", "steps", "waiting", "place", "following"] ["nexts", "start"] gO:=b8
@[simp] noncomputable def gJ:Qe 0 ["nexts", "start", "steps", "waiting", "place", "following"] "fewest_steps" gO fun _ _ Z=>Z:=
 ⟨_,fun  hr=>have nd:=kj.nd;(az (aL (i:=2) nd rfl (Or.inl rfl) (Ih 1))
  (az (aL (i:=3) nd rfl (Or.inl rfl) (gA (au (ao 1) aq)))
  (az (qR N SM (b7 (ao 3) (λz=>rfl)) (az (aL (i:=4) nd rfl (Or.inl rfl) (mL Ug PySem.F.slot_list_pop PySem.F.type_list_pop Jd (ao 3) (au aB aq)))
  (aA (bO 0 SM rfl (cG (aY bD (ao 0) (ao 4))) (aH (i:=5) nd rfl (Or.inl rfl))
  (aA (cg (bw (G8 (u1 hr.units)) (ao 5) (ao 2))
  (az (oR (aK bj (Kf (u1 hr.units) (ao 2) (ao 4)) aB) (sy (ao 2) (ao 5) (Hn (u1 hr.units))))
  (aA (fD (mL Ug Uk Ul jm (ao 3) (au (ao 5) aq)))))
  bz))))))
  (aA (aO (ao 2))))))⟩
noncomputable def dM:=(gJ N).1
abbrev q9:Stmt:=top 26
theorem uW:Sc ["walk", "nexts"] ["walk"] q9:=b8
@[simp] noncomputable def qY:Qd 2 ["walk", "nexts"] "led_to" q9 fun P w K m o Z=>DefD P w K m o 1 "next_places" ["walk"] v0->DefD P w K m o 1 "fewest_steps" ["nexts", "start"] v1->MethD P w K m o 1 "Walk" "__len__" "Walk.__len__" bK ["self"] v2->Nn m "len"->Nn m "range"->Nn m "sorted"->Nn m "tuple"->Z:=
 ⟨_,fun ya yb yc yd ye yf yg hr=>have nd:=uW.nd;(az (aL (i:=1) nd rfl (Or.inr rfl) (aJ ya hr aP (au (ao 0) aq)))
  (aA (aO (cZ (T := "tuple") bc yg (au (n6 "start" [1] ["nexts"] (cz rfl ye (au (bh (gZ yc hr aP (λz z z z z z us hl=>by obtain⟨_,rfl⟩:=qU hl;rfl)) yd (au (ao 0) aq)) aq)) (cZ (T := "tuple") bc yg (au (bh (Ak hr.hd) yf (au (aJ yb hr sW (au (ao 1) (au (ao 0) aq))) aq)) aq))) aq)))))⟩
noncomputable def qL:=(qY v0 v1 v2).1
abbrev lJ:Stmt:=top 27
theorem pD:Sc ["walk", "led"] ["walk"] lJ:=b8
@[simp] noncomputable def lu:Qe 3 ["walk", "led"] "shut_sets" lJ fun D n Z=>D 3 "led_to" ["walk"] v0->n "all"->n "sorted"->n "tuple"->Z:=
 ⟨_,fun ya yb yc yd hr=>have nd:=pD.nd;(az (aL (i:=1) nd rfl (Or.inr rfl) (aJ ya hr aP (au (ao 0) aq)))
  (aA (aO (cZ (T := "tuple") bc yd (au (Av (own:=["places"]) (js:=[1]) (fr:=["led"]) hr.hd (u1 hr.units) yc rfl (by trivial) (cG (ao 1)) (λz z z z z z=>(aH (i:=0) (jE ["places", "led"]) rfl (Or.inr rfl))) (λz z z z z z=>(jl (b7 (bh (fB hr.hd) yb (au (n6 "place" [1,0] ["led", "places"] (cG (ao 0)) (d8 (cA hr.units) (aY bD (ao 1) (ao 0)) (ao 2))) aq)) (λz=>rfl)))) (λz z z z z z=>(ao 0))) aq)))))⟩
noncomputable def qx:=(lu v0).1
abbrev fj:Stmt:=top 29
theorem qe:Sc ["walk"] ["walk"] fj:=b8
@[simp] noncomputable def eZ:Qd 4 ["walk"] "refuse_no_rest" fj fun P w K m o Z=>DefD P w K m o 4 "shut_sets" ["walk"] v0->MethD P w K m o 1 "Walk" "__len__" "Walk.__len__" bK ["self"] v1->Nn m "len"->Nn m "range"->Nn m "tuple"->Z:=
 ⟨_,fun ya yb yc yd ye hr=>(aA (cg (bw (gH hr.units) (aJ ya hr aP (au (ao 0) aq)) (su (au (CZ rfl ye yd (au (bh (gZ yb hr aP (fun _ _ _ _ _ _ us hl=>by obtain⟨_,rfl⟩:=qU hl;rfl)) yc (au (ao 0) aq)) aq)) aq)))
  (aA qQ)
  bz))⟩
noncomputable def jy:=(eZ v0 v1).1
abbrev nG:Stmt:=top 31
theorem qD:Sc ["walk", "place", "rows", "others", "leaving"] ["walk", "place"] nG:=b8
@[simp] noncomputable def tu:Qd 7 ["walk", "place", "rows", "others", "leaving"] "left_out" nG fun P w K m o Z=>∀{C_Walk},DefD P w K m o 7 "plainest" ["walk"] v0->ClsD P w K m o 5 "Walk" v1->MethD P w K m o 1 "Walk" "__len__" "Walk.__len__" bK ["self"] v2->OCls K m "Walk" C_Walk ["rows", "whole"]->Nn m "len"->Nn m "range"->Nn m "tuple"->Z:=
 ⟨_,fun ya yb yc yd ye yf yg hr=>have nd:=qD.nd;(az (aL (i:=2) nd rfl (Or.inr rfl) (jz yd (by decide) (ao 0)))
  (az (aL (i:=3) nd rfl (Or.inr rfl) (cL (own:=["other"]) (js:=[1]) (fr:=["place"]) .val rfl (by trivial) (cz rfl yf (au (bh (gZ yc hr aP (λz z z z z z us hl=>by obtain⟨_,rfl⟩:=qU hl;rfl)) ye (au (ao 0) aq)) aq)) (λz z z z z z=>(aH (i:=0) (jE ["other", "place"]) rfl (Or.inl rfl))) (λz z z z z z=>(jl (bw (gH hr.units) (ao 0) (ao 1)))) (λz z z z z z=>(ao 0))))
  (az (aL (i:=4) nd rfl (Or.inr rfl) (aK lY (jz yd (by decide) (ao 0)) (aY bD (aY bD (ao 2) (ao 1)) (ao 1))))
  (aA (aO (aJ ya hr aP (au (ue yb hr aP (au (cZ (T := "tuple") bc yg (au (cL (own:=["x"]) (js:=[3,2,4,1]) (fr:=["others", "rows", "leaving", "place"]) .val rfl (by trivial) (cO (ao 3)) (λz z z z z z=>(aH (i:=0) (jE ["x", "others", "rows", "leaving", "place"]) rfl (Or.inr rfl))) (λz z z z z z=>fG) (λz z z z z z=>(cZ (T := "tuple") bc yg (au (n6 "y" [2,0,3,4] ["rows", "x", "leaving", "place"] (cO (ao 1)) (aK bj (aK cX (aY bD (aY bD (ao 1) (ao 2)) (ao 0)) (ao 3)) (aK cX (aY bD (aY bD (ao 1) (ao 2)) (ao 4)) (aY bD (aY bD (ao 1) (ao 4)) (ao 0))))) aq)))) aq)) aq)) aq)))))))⟩
noncomputable def rW:=(tu v0 v1 v2).1
abbrev o8:Stmt:=top 32
theorem tX:Sc ["walk", "places", "seen", "place"] ["walk", "places"] o8:=b8
@[simp] noncomputable def o6:Qd 8 ["walk", "places", "seen", "place"] "watched" o8 fun P w K m o Z=>DefD P w K m o 5 "refuse_no_rest" ["walk"] v0->DefD P w K m o 5 "refuse_no_set" ["walk", "thing"] v1->DefD P w K m o 7 "plainest" ["walk"] v2->DefD P w K m o 8 "left_out" ["walk", "place"] v3->MethD P w K m o 1 "Walk" "__len__" "Walk.__len__" bK ["self"] v4->Nn m "len"->Nn m "range"->Nn m "reversed"->Z:=
 ⟨_,fun ya yb yc yd ye yf yg yh hr=>have nd:=tX.nd;(az (fD (aJ ya hr aP (au (ao 0) aq)))
  (az (fD (aJ yb hr aP (au (ao 0) (au (ao 1) aq))))
  (az (aL (i:=2) nd rfl (Or.inl rfl) (aJ yc hr aP (au (ao 0) aq)))
  (az (bO 0 SM rfl (Kh rfl yh rfl yg (au (bh (gZ ye hr aP (λz z z z z z us hl=>by obtain⟨_,rfl⟩:=qU hl;rfl)) yf (au (ao 0) aq)) aq)) (aH (i:=3) nd rfl (Or.inl rfl))
  (aA (cg (bw zG (ao 3) (ao 1))
  (aA (aL (i:=2) nd rfl (Or.inl rfl) (aJ yd hr aP (au (ao 2) (au (ao 3) aq)))))
  bz)))
  (aA (aO (ao 2)))))))⟩
noncomputable def uK:=(o6 v0 v1 v2 v3 v4).1
abbrev gM:Stmt:=top 34
theorem tW:Sc ["_law_script", "_law_k"] ["_law_script", "_law_k"] gM:=b8
@[simp] noncomputable def mj:Qe 0 ["_law_script", "_law_k"] "_law_cell_at" gM fun D n Z=>n "len"->Z:=
 ⟨_,fun ya hr=>(az (cg (bw xm (ao 1) (bh call_lenD ya (au (ao 0) aq)))
  (aA (aO (aY bD (ao 0) (ao 1))))
  bz)
  (aA (aO aB)))⟩
noncomputable def gq:=(mj).1
abbrev lE:Stmt:=top 35
theorem pA:Sc ["_law_seed"] ["_law_seed"] lE:=b8
@[simp] noncomputable def qy:Qe 0 ["_law_seed"] "_law_next" lE fun _ _ Z=>Z:=
 ⟨_,fun  hr=>have nd:=pA.nd;(az (aL (i:=0) nd rfl (Or.inl rfl) (aK cD (aK bj (ao 0) aB) aB))
  (aA (aO (aK cD (aK bj (aK bj (aK cX (ao 0) (ao 0)) (aK cX aB (ao 0))) aB) aB))))⟩
noncomputable def qm:=(qy).1
abbrev iJ:Stmt:=top 36
theorem mF:Sc ["_law_cell", "_law_left_here"] ["_law_cell"] iJ:=b8
@[simp] noncomputable def iG:Qe 0 ["_law_cell", "_law_left_here"] "_law_pen_of" iJ fun D n Z=>n "int"->n "max"->Z:=
 ⟨_,fun ya yb hr=>have nd:=mF.nd;(az (aL (i:=1) nd rfl (Or.inl rfl) (bh (Ai rfl) yb (au (ao 0) (au (aK lY aB (ao 0)) aq))))
  (aA (aO (gA (au (ao 1) (au (cZ (T := "int") je ya (au (d8 xg (ao 1) (aK Jm aB aB)) aq)) (au (aK cD (ao 1) aB) aq)))))))⟩
noncomputable def nW:=(iG).1
abbrev lC:Stmt:=top 37
theorem o9:Sc ["_law_pen", "_law_many", "_law_found"] ["_law_pen", "_law_many"] lC:=b8
@[simp] noncomputable def kY:Qe 1 ["_law_pen", "_law_many", "_law_found"] "_law_draw" lC fun D n Z=>D 1 "_law_next" ["_law_seed"] v0->Z:=
 ⟨_,fun ya hr=>have nd:=o9.nd;(az (cg (DW.dt (Ko (bw (cA hr.units) (aY bD (ao 0) aB) aB) (Iv (bw sU (aY bD (ao 0) aB) aB))))
  (az (aL (i:=2) nd rfl (Or.inl rfl) (aK cD (aY bD (ao 0) aB) (ao 1)))
  (az (oR (aK gG (aY bD (ao 0) aB) (ao 1)) (sy (ao 0) aB vz))
  (aA (aO (ao 2)))))
  bz)
  (az (oR (aJ ya hr aP (au (aK bj (aJ ya hr aP (au (aY bD (ao 0) aB) aq)) aB) aq)) (sy (ao 0) aB vz))
  (aA (aO (aK cD (aK gG (aY bD (ao 0) aB) aB) (ao 1))))))⟩
noncomputable def qi:=(kY v0).1
abbrev lF:Stmt:=top 38
theorem pB:Sc ["_law_pen", "_law_most", "_law_many", "_law_whole", "_law_way", "_law_rows_here", "_law_x", "_law_some", "_law_row", "_law_ball"] ["_law_pen", "_law_most"] lF:=b8
@[simp] noncomputable def lg:Qe 2 ["_law_pen", "_law_most", "_law_many", "_law_whole", "_law_way", "_law_rows_here", "_law_x", "_law_some", "_law_row", "_law_ball"] "_law_rows" lF fun D n Z=>D 2 "_law_draw" ["_law_pen", "_law_many"] v0->n "int"->n "len"->n "list"->n "range"->n "tuple"->Z:=
 ⟨_,fun ya yb yc yd ye yf hr=>have nd:=pB.nd;(az (Iu (i:=2) (j:=3) (k:=4) rfl nd rfl rfl rfl (by decide) (by decide) (by decide) rfl rfl rfl (au (aK bj aB (aJ ya hr aP (au (ao 0) (au (ao 1) aq)))) (au (aY bD (eE (au aB (au aB (au aB (au aB (au aB (au aB aq))))))) (aJ ya hr aP (au (ao 0) (au aB aq)))) (au (aJ ya hr aP (au (ao 0) (au aB aq))) aq))) rfl)
  (az (aL (i:=5) nd rfl (Or.inl rfl) (gA aq))
  (az (bO 0 SM rfl (cz rfl ye (au (ao 2) aq)) (aH (i:=6) nd rfl (Or.inr rfl))
  (az (aL (i:=7) nd rfl (Or.inl rfl) (uN rfl yd ye (au (ao 2) aq)))
  (az (cg (bw (cA hr.units) (ao 4) aB)
  (aA (aL (i:=7) nd rfl (Or.inl rfl) (eE (au (aJ ya hr aP (au (ao 0) (au (ao 2) aq))) (au (aJ ya hr aP (au (ao 0) (au (ao 2) aq))) aq)))))
  bz)
  (az (cg (bw (cA hr.units) (ao 4) aB)
  (aA (aL (i:=7) nd rfl (Or.inl rfl) (eE (au (aK cD (aK bj (ao 6) aB) (ao 2)) aq))))
  bz)
  (az (cg (bw (cA hr.units) (ao 4) aB)
  (aA (aL (i:=7) nd rfl (Or.inl rfl) (aK bj (cL (own:=["_law_y"]) (js:=[6]) (fr:=["_law_x"]) .val rfl (by trivial) (cz rfl ye (au (ao 2) aq)) (λz z z z z z=>(aH (i:=0) (jE ["_law_y", "_law_x"]) rfl (Or.inl rfl))) (λz z z z z z=>(jl (bw (gH hr.units) (aK cD (ao 0) aB) (aK cD (ao 1) aB)))) (λz z z z z z=>(ao 0))) (aK Jj (eE (au (ao 6) aq)) (cZ (T := "int") je yb (au (d8 (cA hr.units) (ao 2) aB) aq))))))
  bz)
  (az (cg (bw (cA hr.units) (ao 4) aB)
  (aA (qP (i:=7) (own:=["_law_y"]) (js:=[6]) (fr:=["_law_x"]) .val nd rfl (Or.inl rfl) rfl (by trivial) (cz rfl ye (au (ao 2) aq)) (λz z z z z z=>(aH (i:=0) (jE ["_law_y", "_law_x"]) rfl (Or.inl rfl))) (λz z z z z z=>(jl (bw (cA hr.units) (aK gG (ao 0) aB) (aK gG (ao 1) aB)))) (λz z z z z z=>(ao 0))))
  bz)
  (az (cg (bw (cA hr.units) (ao 4) aB)
  (aA (aL (i:=7) nd rfl (Or.inl rfl) (uN rfl yd ye (au (aK bj (ao 6) aB) aq))))
  bz)
  (az (aL (i:=8) nd rfl (Or.inl rfl) (aK Jk (eE (au aB aq)) (ao 2)))
  (az (bO 0 SM rfl (cz rfl ye (au (ao 3) aq)) (aH (i:=9) nd rfl (Or.inl rfl))
  (aA (Ip (ao 8) (aY bD (ao 7) (aJ ya hr aP (au (ao 0) (au (bh call_lenD yc (au (ao 7) aq)) aq)))) Ha aB)))
  (aA (fD (mL Ug Uk Ul jm (ao 5) (au (cZ (T := "tuple") bc yf (au (ao 8) aq)) aq)))))))))))))
  (aA (aO (cZ (T := "tuple") bc yf (au (ao 5) aq)))))))⟩
noncomputable def qp:=(lg v0).1
abbrev iI:Stmt:=top 39
theorem mD:Sc ["_law_one", "_law_other"] ["_law_one", "_law_other"] iI:=b8
@[simp] noncomputable def iD:Qe 0 ["_law_one", "_law_other"] "_law_common" iI fun _ _ Z=>Z:=
 ⟨_,fun  hr=>have nd:=mD.nd;(az (qR N PassesOwn.leaving (bw sU (ao 1) aB) (aA (sE (i:=0) (j:=1) rfl nd rfl rfl (by decide) rfl rfl (au (ao 1) (au (aK cD (ao 0) (ao 1)) aq)) rfl)))
  (aA (aO (ao 0))))⟩
noncomputable def eV:=(iD N).1
abbrev dZ:Stmt:=top 40
theorem ir:Sc ["_law_numbers", "_law_found", "_law_number"] ["_law_numbers"] dZ:=b8
@[simp] noncomputable def iZ:Qe 1 ["_law_numbers", "_law_found", "_law_number"] "_law_all_common" dZ fun D n Z=>D 1 "_law_common" ["_law_one", "_law_other"] v0->Z:=
 ⟨_,fun ya hr=>have nd:=ir.nd;(az (aL (i:=1) nd rfl (Or.inl rfl) aB)
  (az (bO 0 SM rfl (cO (ao 0)) (aH (i:=2) nd rfl (Or.inl rfl))
  (aA (aL (i:=1) nd rfl (Or.inl rfl) (aJ ya hr aP (au (ao 1) (au (ao 2) aq))))))
  (aA (aO (ao 1)))))⟩
noncomputable def iU:=(iZ v0).1
abbrev cI:Stmt:=top 41
theorem dj:Sc ["_law_table", "_law_found", "_law_column", "_law_weight", "_law_rest"] ["_law_table"] cI:=b8
@[simp] noncomputable def cH(v0:Fn):{b // ∀{P w K mg base f cdv A outer s H E k_} (hk_:0≤k_) (ya:DefD P w K mg base k_ "_law_determinant" ["_law_table"] v0) (yb:Nn mg "enumerate") (hq_:Rm k_ A "_law_determinant" cI s f cdv),Ds P w K mg base ["_law_table", "_law_found", "_law_column", "_law_weight", "_law_rest"] "_law_determinant" cI f cdv A outer s H E b}:=
 ⟨_,fun hk_ ya yb hq_=>have hr:=hq_.mono hk_;have nd:=dj.nd;(az (cg (bw (cA hr.units) (ao 0) (eE aq))
  (aA (aO aB))
  bz)
  (az (aL (i:=1) nd rfl (Or.inl rfl) aB)
  (az (bO 0 SM rfl (lN rfl yb (au (aY bD (ao 0) aB) aq)) (jA (n:=2) rfl (bN (aH (i:=2) nd rfl (Or.inr rfl)) (bN (aH (i:=3) nd rfl (Or.inl rfl)) gB)))
  (az (qP (i:=4) (own:=["_law_row"]) (js:=[2]) (fr:=["_law_column"]) .val nd rfl (Or.inl rfl) rfl (by trivial) (cO (mO (ao 0) (jk aB) pO)) (λz z z z z z=>(aH (i:=0) (jE ["_law_row", "_law_column"]) rfl (Or.inl rfl))) (λz z z z z z=>fG) (λz z z z z z=>(aK bj (mO (ao 0) pO (jk (ao 1))) (mO (ao 0) (jk (aK bj (ao 1) aB)) pO))))
  (aA (aL (i:=1) nd rfl (Or.inl rfl) (aK bj (ao 1) (aK cX (aK cX (aK lY aB (aK cX aB (aK cD (ao 2) aB))) (ao 3)) (NP (bw (gH hr.units) (ao 3) aB) (aJ ya hq_ aP (au (ao 4) aq) (RX _)) aB)))))))
  (aA (aO (ao 1))))))⟩
noncomputable def dD:=(cH v0).1
abbrev lD:Stmt:=top 42
theorem ph:Sc ["_law_rows_here", "_law_out", "_law_column", "_law_weights", "_law_table", "_law_x", "_law_row", "_law_weight"] ["_law_rows_here", "_law_out", "_law_column", "_law_weights"] lD:=b8
@[simp] noncomputable def kZ:Qe 0 ["_law_rows_here", "_law_out", "_law_column", "_law_weights", "_law_table", "_law_x", "_law_row", "_law_weight"] "_law_left" lD fun D n Z=>n "int"->n "sum"->n "zip"->Z:=
 ⟨_,fun ya yb yc hr=>have nd:=ph.nd;(az (aL (i:=4) nd rfl (Or.inl rfl) (gA aq))
  (az (bO 0 SM rfl (cO (ao 1)) (aH (i:=5) nd rfl (Or.inr rfl))
  (aA (fD (mL Ug Uk Ul jm (ao 4) (au (cL (own:=["_law_y"]) (js:=[0,5]) (fr:=["_law_rows_here", "_law_x"]) .sto rfl (by trivial) (cO (ao 1)) (λz z z z z z=>(aH (i:=0) (jE ["_law_y", "_law_rows_here", "_law_x"]) rfl (Or.inl rfl))) (λz z z z z z=>fG) (λz z z z z z=>(aK lY (aK cX (bh (jR hr.hd) yb (au (aY bD (ao 1) aB) aq)) (cZ (T := "int") je ya (au (d8 (cA hr.units) (ao 2) (ao 0)) aq))) (aY bD (aY bD (ao 1) (ao 2)) (ao 0))))) aq)))))
  (az (cg (bw Hb (ao 2) CV)
  (aA (Ir 20 SM rfl rfl yc (au (ao 4) (au (ao 3) aq)) (jA (n:=2) rfl (bN (aH (i:=6) nd rfl (Or.inl rfl)) (bN (aH (i:=7) nd rfl (Or.inl rfl)) gB)))
  (aA (oR (ao 7) (sy (ao 6) (ao 2) vz)))))
  bz)
  (aA (aO (ao 4))))))⟩
noncomputable def qj:=(kZ).1
abbrev nq:Stmt:=top 43
theorem qC:Sc ["_law_rows_here", "_law_places", "_law_out", "_law_base", "_law_found", "_law_x", "_law_row", "_law_y", "_law_into", "_law_weight", "_law_at", "_law_z", "_law_part", "_law_weights", "_law_by"] ["_law_rows_here", "_law_places"] nq:=b8
@[simp] noncomputable def m6:Qe 6 ["_law_rows_here", "_law_places", "_law_out", "_law_base", "_law_found", "_law_x", "_law_row", "_law_y", "_law_into", "_law_weight", "_law_at", "_law_z", "_law_part", "_law_weights", "_law_by"] "_law_due" nq fun D n Z=>D 1 "_law_left" ["_law_rows_here", "_law_out", "_law_column", "_law_weights"] v0->D 6 "_law_determinant" ["_law_table"] v1->D 2 "_law_all_common" ["_law_numbers"] v2->n "enumerate"->n "len"->n "range"->n "tuple"->Z:=
 ⟨_,fun ya yb yc yd ye yf yg hr=>have nd:=qC.nd;(az (qP (i:=2) (own:=["_law_x"]) (js:=[1]) (fr:=["_law_places"]) .val nd rfl (Or.inl rfl) rfl (by trivial) (cz rfl yf (au (bh call_lenD ye (au (ao 0) aq)) aq)) (fun _ _ _ _ _ _=>(aH (i:=0) (jE ["_law_x", "_law_places"]) rfl (Or.inl rfl))) (fun _ _ _ _ _ _=>(jl (bw zG (ao 0) (ao 1)))) (fun _ _ _ _ _ _=>(ao 0)))
  (az (sE (i:=3) (j:=4) rfl nd rfl rfl (by decide) rfl rfl (au (aJ yb hr aP (au (aJ ya hr aP (au (ao 0) (au (ao 2) (au CV (au (eE aq) aq))))) aq)) (au (gA aq) aq)) rfl)
  (az (bO 0 SM rfl (cG (ao 1)) (aH (i:=5) nd rfl (Or.inl rfl))
  (az (aL (i:=6) nd rfl (Or.inl rfl) (gA aq))
  (az (bO 0 SM rfl (cG (ao 1)) (aH (i:=7) nd rfl (Or.inr rfl))
  (az (sE (i:=8) (j:=9) rfl nd rfl rfl (by decide) rfl rfl (au (n6 "_law_z" [0,7] ["_law_rows_here", "_law_y"] (cO (ao 2)) (aY bD (aY bD (ao 1) (ao 0)) (ao 2))) (au (aK cX (aY bD (aY bD (ao 0) (ao 5)) (ao 7)) (ao 3)) aq)) rfl)
  (az (bO 0 SM rfl (lN rfl yd (au (ao 2) aq)) (jA (n:=2) rfl (bN (aH (i:=10) nd rfl (Or.inl rfl)) (bN (aH (i:=11) nd rfl (Or.inl rfl)) gB)))
  (az (aL (i:=12) nd rfl (Or.inl rfl) (aJ yb hr aP (au (aJ ya hr aP (au (ao 0) (au (ao 2) (au (ao 10) (au (ao 8) aq))))) aq)))
  (aA (aL (i:=9) nd rfl (Or.inl rfl) (aK bj (ao 9) (aK cX (aY bD (aY bD (ao 0) (ao 5)) (ao 11)) (ao 12)))))))
  (aA (fD (mL Ug Uk Ul jm (ao 6) (au (ao 9) aq)))))))
  (aA (fD (mL Ug Uk Ul jm (ao 4) (au (ao 6) aq)))))))
  (az (aL (i:=13) nd rfl (Or.inl rfl) (eE aq))
  (az (bO 20 SM rfl (cO (ao 4)) (aH (i:=6) nd rfl (Or.inl rfl))
  (aA (aL (i:=13) nd rfl (Or.inl rfl) (aK bj (ao 13) (ao 6)))))
  (az (aL (i:=14) nd rfl (Or.inr rfl) (aJ yc hr aP (au (ao 13) aq)))
  (aA (aO (cZ (T := "tuple") bc yg (au (cL (own:=["_law_row"]) (js:=[14]) (fr:=["_law_by"]) .val rfl (by trivial) (cO (ao 4)) (λz z z z z z=>(aH (i:=0) (jE ["_law_row", "_law_by"]) rfl (Or.inl rfl))) (λz z z z z z=>fG) (λz z z z z z=>(cZ (T := "tuple") bc yg (au (n6 "_law_weight" [1] ["_law_by"] (cO (ao 0)) (aK gG (ao 0) (ao 1))) aq)))) aq))))))))))⟩
noncomputable def rP:=(m6 v0 v1 v2).1
abbrev jJ:Stmt:=top 44
theorem oA:Sc ["_law_rows_here", "_law_found", "_law_many", "_law_x", "_law_row"] ["_law_rows_here"] jJ:=b8
@[simp] noncomputable def jG:Qe 0 ["_law_rows_here", "_law_found", "_law_many", "_law_x", "_law_row"] "_law_bound" jJ fun D n Z=>n "enumerate"->n "int"->n "len"->n "tuple"->Z:=
 ⟨_,fun ya yb yc yd hr=>have nd:=oA.nd;(az (oR (su (au (gA aq) (au (bh call_lenD yc (au (ao 0) aq)) aq))) (jA (n:=2) rfl (bN (aH (i:=1) nd rfl (Or.inl rfl)) (bN (aH (i:=2) nd rfl (Or.inr rfl)) gB))))
  (az (bO 0 SM rfl (lN rfl ya (au (ao 0) aq)) (jA (n:=2) rfl (bN (aH (i:=3) nd rfl (Or.inr rfl)) (bN (aH (i:=4) nd rfl (Or.inl rfl)) gB)))
  (aA (fD (mL Ug Uk Ul jm (ao 1) (au (cZ (T := "tuple") bc yd (au (cL (own:=["_law_y", "_law_weight"]) (js:=[3,2]) (fr:=["_law_x", "_law_many"]) .val rfl (by trivial) (lN rfl ya (au (ao 4) aq)) (λz z z z z z=>(jA (n:=2) rfl (bN (aH (i:=0) (jE ["_law_y", "_law_weight", "_law_x", "_law_many"]) rfl (Or.inl rfl)) (bN (aH (i:=1) (jE ["_law_y", "_law_weight", "_law_x", "_law_many"]) rfl (Or.inl rfl)) gB)))) (λz z z z z z=>fG) (λz z z z z z=>(aK bj (ao 1) (cZ (T := "int") je yb (au (d8 (cA hr.units) (ao 0) (aK cD (aK bj (ao 2) aB) (ao 3))) aq))))) aq)) aq)))))
  (aA (aO (cZ (T := "tuple") bc yd (au (ao 1) aq))))))⟩
noncomputable def oM:=(jG).1
abbrev lG:Stmt:=top 45
theorem pC:Sc ["_law_many", "_law_found", "_law_place"] ["_law_many"] lG:=b8
@[simp] noncomputable def lq:Qe 0 ["_law_many", "_law_found", "_law_place"] "_law_sets" lG fun D n Z=>n "range"->Z:=
 ⟨_,fun ya hr=>have nd:=pC.nd;(az (aL (i:=1) nd rfl (Or.inl rfl) (eE (au (su aq) aq)))
  (az (bO 0 SM rfl (cz rfl ya (au (ao 0) aq)) (aH (i:=2) nd rfl (Or.inr rfl))
  (aA (aL (i:=1) nd rfl (Or.inl rfl) (aK bj (ao 1) (n6 "_law_places" [2] ["_law_place"] (cO (ao 1)) (aK bj (ao 0) (su (au (ao 1) aq))))))))
  (aA (aO (mO (ao 1) (jk aB) pO)))))⟩
noncomputable def qu:=(lq).1
abbrev Bs:Stmt:=top 46
theorem Fp:Sc ["_law_script", "_law_cell", "_law_pen", "_law_turn", "_law_rows_here", "_law_walk", "_law_places", "_law_due_here", "_law_lap", "_law_found"] ["_law_script"] Bs:=b8
@[simp] noncomputable def Bj:Qd 9 ["_law_script", "_law_cell", "_law_pen", "_law_turn", "_law_rows_here", "_law_walk", "_law_places", "_law_due_here", "_law_lap", "_law_found"] "law" Bs fun P w K m o Z=>∀{C_Walk},DefD P w K m o 1 "_law_cell_at" ["_law_script", "_law_k"] v0->DefD P w K m o 1 "_law_pen_of" ["_law_cell"] v1->DefD P w K m o 3 "_law_rows" ["_law_pen", "_law_most"] v2->DefD P w K m o 1 "_law_bound" ["_law_rows_here"] v3->DefD P w K m o 1 "_law_sets" ["_law_many"] v4->DefD P w K m o 7 "_law_due" ["_law_rows_here", "_law_places"] v5->DefD P w K m o 9 "watched" ["walk", "places"] v6->ClsD P w K m o 5 "Walk" v7->Gc m "Walk" C_Walk->OCls K m "Walk" C_Walk ["rows", "whole"]->OwnC K m "Walk"->Nn m "isinstance"->Nn m "len"->Nn m "range"->Nn m "repr"->Z:=
 ⟨_,fun ya yb yc yd ye yf yg yh yi yj yk yl ym yn yo hr=>have nd:=Fp.nd;(az (bO 0 PassesOwn.leaving rfl (cO (aK bj (eE (au (aJ ya hr aP (au (ao 0) (au aB aq))) aq)) (CW (ao 0) (jk aB) (jk aB)))) (aH (i:=1) nd rfl (Or.inl rfl))
  (az (aL (i:=2) nd rfl (Or.inl rfl) (aJ yb hr aP (au (ao 1) aq)))
  (aA (bO 0 SM rfl (cz rfl yn (au aB aq)) (aH (i:=3) nd rfl (Or.inl rfl))
  (az (aL (i:=4) nd rfl (Or.inl rfl) (aJ yd hr aP (au (aJ yc hr aP (au (ao 2) (au aB aq))) aq)))
  (az (aL (i:=5) nd rfl (Or.inl rfl) (ue yh hr aP (au (ao 4) aq)))
  (aA (bO 0 SM rfl (cO (aJ ye hr aP (au (bh call_lenD ym (au (ao 4) aq)) aq))) (aH (i:=6) nd rfl (Or.inl rfl))
  (az (aL (i:=7) nd rfl (Or.inl rfl) (aJ yf hr aP (au (ao 4) (au (ao 6) aq))))
  (aA (bO 0 SM rfl (cz rfl yn (au aB aq)) (aH (i:=8) nd rfl (Or.inl rfl))
  (az (aL (i:=9) nd rfl (Or.inl rfl) (aJ yg hr aP (au (ao 5) (au (ao 6) aq))))
  (aA (cg (DW.dt (pP (eF (b7 (bh (Cz yk) yl (au (ao 9) (au (Ke yi) aq))) (λz=>rfl))) (oV (bw (gH hr.units) (bh (rZ hr.gd hr.units) yo (au (jz yj (by decide) (ao 9)) aq)) (bh (rZ hr.gd hr.units) yo (au (ao 7) aq))))))
  (aA (aO pM))
  bz))))))))))))))
  (aA (aO pM)))⟩
noncomputable def Hv:=(Bj v0 v1 v2 v3 v4 v5 v6 v7).1
end
end K
set_option exponentiation.threshold 20000
namespace K
open PySem L2 L3 N10
theorem iY:(∀(α:Type) (a:α) (l:List α),(a::l)[0]?=some a)/\(∀(α:Type) (a:α) (l:List α) (i:Nat),(a::l)[i+1]?=l[i]?)/\(∀(α:Type) (x:Option α),(some x).join=x)/\(∀(α:Type) (a:α),(opt (some a):DM α)=pure a)/\∀(α β:Type) (a:α) (f:α->DM β),((pure a:DM α)>>=f)=f a:=⟨λz z z=>rfl,λz z z z=>rfl,λz z=>rfl,λz z=>o7 _,λz z z z=>aD _ _⟩
theorem o5:(∀(α:Type) (a b:α) (l:List α) (i:Nat),(a::l).set (i+1) b=a::l.set i b)/\∀(α:Type) (a b:α) (l:List α),(a::l).set 0 b=b::l:=⟨λz z z z z=>rfl,λz z z z=>rfl⟩
noncomputable def vJ:=aG 1 1 rT
noncomputable def yV:=aG 2 2 (nY vJ)
theorem Dt(n:Nat):vJ [nD n]=pure (.bl true):=by
 have a:(rd (iB [nD n,.ty "int"]):DM D)=pure (.bl true):=vq (t := "int") (λz=>rfl) (by decide)
 have b:(rd (iB [nD n,.ty "bool"]):DM D)=pure (.bl false):=vq (t := "int") (λz=>rfl) (by decide)
 simp[vJ,rT,a,b]
theorem J3{l:List Nat}(hl:l.length<=1000):yV [nT l,.int (l.length:Int)]=pure (.bl true):=by
 have a:(rd (iB [nT l,.ty "tuple"]):DM D)=pure (.bl true):=vq (t := "tuple") (λz=>rfl) (by decide)
 have ln:(rd (jC [nT l]):DM D)=pure (.int (l.length:Int)):=by simp[nT]
 simp[yV,nY,a,ln,aR,cu];show (cU (bA _ _ _ (l.map nD) _ _)>>=_)=_;rw[NB (λz=>true) (λz=>.bl true) (by simpa using R7 hl (by decide)) (λz z=>rfl) (λd hd z=>?_) (k':=λl=>rd (qK [.lst l])) (λz=>rfl)]
 ·have:((l.map nD).filter (λz=>true)).map (λz=>D.bl true)=(l.map λz=>true).map D.bl:=by rw[Uw.mpr (λz z=>rfl),Tq,Tq];rfl
  have q:(l.map λz=>true).all id=true:=by rw[VL];intro x hx;obtain⟨_,_,rfl⟩:=Te.mp hx;rfl
  rw[this,Ek,q]
 ·obtain⟨n,_,rfl⟩:=Te.mp hd;have:=Dt n;unfold nD at this ⊢
  simp[this]
theorem zX:∀ {l:List Nat}{n:Nat},n∈l->n<=l.sum
 |a::l,n,h=>by
   rw[VN];rcases R8.mp h with rfl | h
   ·omega
   ·have:=zX h;omega
noncomputable def vH:=aG 2 2 gq
theorem J6(cs:List Int)(k:Nat):∃ c:Int,vH [.scr cs,nD k]=pure (.int c):=by
 by_cases h:k<cs.length
 ·have e:decide ((k:Int)<(cs.length:Int))=true:=S5 (by omega)
  have ix:(rd (eG (.scr cs) (.int (k:Int))):DM D)=pure (.int cs[k]):=bH λM=>by show (atI cs (k:Int)).map _=_;rw[oK (RV h)];rfl
  refine⟨cs[k],?_⟩;simp[vH,gq,nD,e,ix,h]
 ·have e:decide ((k:Int)<(cs.length:Int))=false:=TJ (by omega)
  refine⟨0,?_⟩;simp[vH,gq,nD,e,h]
theorem aF{f g:aa->DM Fl}{δ:aa}{M:Mo}{Q:Fl->Mo->Prop}(h:∀K:Fl->DM Fl,(∀δ',K (.nx δ')=g δ')->Rn (f δ>>=K) M Q):Rn (uH f g δ) M Q:=by
 have:=h (λr=>match r with | .nx δ'=>g δ' | r=>Pure.pure r) (λz=>rfl)
 exact this
structure WK(R:List (List Nat))(W:Nat):Prop where
 n1:1<=R.length
 n25:R.length<=25
 row:∀r∈R,r.length=R.length
 sum:∀r∈R,r.sum=W
 w1:1<=W
theorem WK.head{R:List (List Nat)}{W:Nat}(h:WK R W):gr R 0∈R:=gr_mem (by have:=h.n1;omega)
noncomputable def BK:=aG 2 2 (rQ yV)
noncomputable def BP:=aG 1 2 (jP BK)
theorem Ig{l:List Nat}{n:Nat}(h:l.length=n)(hl:n<=1000):yV [nT l,nD n]=pure (.bl true):=by subst h;exact J3 hl
theorem jx(n:Nat):(rd (qK [.lst (List.replicate n (.bl true))]):DM D)=pure (.bl true):=by have:=Ek (List.replicate n true);rw[List.map_replicate]at this;rw[this];simp
theorem ig{α:Type}(l:List α)(d:D):(l.map λz=>d)=List.replicate l.length d:=List.map_const' ..
theorem J2{R:List (List Nat)}{W:Nat}(h:WK R W):BK [nM R,nD R.length]=pure (.bl true):=by
 have:=h.n25;simp[BK,rQ,Er,my,xN,tH,aR,cu];rw[dq nT (λz=>.bl true) (by omega) (λr hr=>by simp[Ig (h.row r hr) (by omega)])]
 rw[aD,ig,jx]
theorem J9{R:List (List Nat)}{W:Nat}(h:WK R W):BP [nM R]=pure (.bl true):=by
 have h1:=h.n1;have h2:=h.n25;have e1:(rd (zz (.int 1) (nD R.length)):DM D)=pure (.bl true):=by rw[show D.int 1=nD 1 from rfl,xJ,S5 h1]
 have e2:(rd (zz (nD R.length) (.int 25)):DM D)=pure (.bl true):=by rw[show D.int 25=nD 25 from rfl,xJ,S5 h2]
 have e3:(rd (Do (nD W) (.int 1)):DM D)=pure (.bl true):=by rw[show D.int 1=nD 1 from rfl,Ep,S5 h.w1]
 have e4:∀r∈R,(rd (cP (nD r.sum) (nD W)):DM D)=pure (.bl true):=λr hr=>by rw[bZ,h.sum r hr];simp
 simp[BP,jP,Er,my,e1,e2,J2 h,Et (R:=R) (by omega),h.sum _ h.head]
 simp[e3,tH,aR,cu];rw[dq nT (λz=>.bl true) (by omega) (λr hr=>by simp[e4 r hr])]
 rw[aD,ig,jx]
noncomputable def aV(R:List (List Nat))(W:Nat):D:=.obj "Walk" ["rows", "whole"] [nM R,nD W]
noncomputable def Fin:=aG 2 2 (jO BP)
theorem zT{M:Mo}{ns:List Str}{vs:List D}{f:Str}{d:D}(hl:ns.length=vs.length)(hz:ns.length<1000):vA "Walk" f (.ref M.length) d (M++[.ins "Walk" ns vs])=some (.ok (),M++[.ins "Walk" (putN f ns) (jF f d ns vs)]):=by unfold vA;simp[hl];omega
theorem KN{R:List (List Nat)}{W:Nat}(h:WK R W)(M:Mo):Fin (.ref M.length::[nM R]) (M++[.ins "Walk" [] []])=some (.ok .non,M++[.ins "Walk" ["rows", "whole"] [nM R,nD W]]):=by
 have h1:=h.n1;have go:Rn (Fin (.ref M.length::[nM R])) (M++[.ins "Walk" [] []]) λd M'=>d=.non/\M'=M++[.ins "Walk" ["rows", "whole"] [nM R,nD W]]:=by
  simp[Fin,jO,J9 h,Et (R:=R) (by omega)]
  refine Rn.run (zT rfl (by decide)) ?_
  rw[h.sum _ h.head];refine Rn.run (zT rfl (by decide)) ?_
  exact Rn.pure ⟨rfl,rfl⟩
 obtain⟨d,M',e,rfl,rfl⟩:=go;exact e
open Classical in
noncomputable def oG(ds:List D):DM D:=if h:∃p:List (List Nat)×Nat,WK p.1 p.2/\ds=[nM p.1] then pure (aV (choose h).1 (choose h).2) else stuck
theorem yH{R:List (List Nat)}{W:Nat}(h:WK R W):oG [nM R]=pure (aV R W):=by
 have q:∃p:List (List Nat)×Nat,WK p.1 p.2/\[nM R]=[nM p.1]:=⟨(R,W),h,rfl⟩;unfold oG;rw[dif_pos q];obtain⟨a,b⟩:=Classical.choose_spec q;generalize Classical.choose q=p at a b;have e:R=p.1:=Ls (by simpa using b)
 have w:W=p.2:=by have:=h.sum _ h.head;rw[<-this,e];exact a.sum _ a.head
 rw[<-e,<-w]
set_option tactic.hygienic true in
theorem Nv:∀ds M r',oG ds M=some r'->JZ "Walk" Fin ds M r':=by
 intro ds M r' e;unfold oG at e;split at e
 ·rename_i q;obtain⟨a,b⟩:=Classical.choose_spec q;generalize Classical.choose q=p at a b e;subst b;cases e;refine .inl ⟨["rows", "whole"],[nM p.1,nD p.2],KN a M,λd hd=>?_,rfl⟩
  rcases R8.mp hd with rfl | hd
  ·exact .inl (by simp)
  ·exact .inr ⟨p.2,by simpa[nD] using hd⟩
 ·cases e
theorem gD(R:List (List Nat))(W:Nat):(rd (uh "Walk" "rows" (aV R W)):DM D)=pure (nM R):=bH λM=>by simp[uh,aV]
theorem Dj(R:List (List Nat))(W:Nat):(rd (uh "Walk" "whole" (aV R W)):DM D)=pure (nD W):=bH λM=>by
 have:((Str.ofString "whole")==(Str.ofString "rows"))=false:=by decide
 simp[uh,aV,List.lookup,this]
noncomputable def fJ:=aG 1 1 lM
theorem Lh(R:List (List Nat))(W:Nat):fJ [aV R W]=pure (nD R.length):=by simp[fJ,lM,gD,my]
theorem lQ{R:List (List Nat)}{W:Nat}(h:R.length<=25):wM "Walk" fJ [aV R W]=pure (nD R.length):=by
 have e:wM "Walk" fJ [aV R W]=(if ("Walk":Str) = "Walk" then fJ [aV R W]>>=Al else stuck):=rfl
 rw[e,R1 rfl,Lh,aD];have q:(0:Int)<=(R.length:Int)/\(R.length:Int)<2^63:=⟨by omega,by omega⟩
 unfold Al nD;dsimp only;rw[R1 q]
theorem WK.le{R:List (List Nat)}{W:Nat}(h:WK R W){r:List Nat}(hr:r∈R){n:Nat}(hn:n∈r):n<=W:=by rw[<-h.sum r hr];exact zX hn
theorem WK.at_le{R:List (List Nat)}{W:Nat}(h:WK R W){r:List Nat}(hr:r∈R)(y:Nat):ga r y<=W:=by
 by_cases hy:y<r.length
 ·exact h.le hr (wH hy)
 ·rw[wI (by omega)];exact Vn _
theorem uy{m:DM D}{v:D}(h:∀M,Rn m M λd M'=>d=v/\M'=M):m=pure v:=by funext M;obtain⟨d,M',e,rfl,rfl⟩:=h M;exact e
theorem oZ(b:Bool):(rd (Ba [.bl b]):DM D)=pure (nD (if b then 1 else 0)):=by cases b<;>rfl
theorem zU{l:List Nat}{i v:Nat}(h:i<l.length):(l.set i v).sum + ga l i=l.sum + v:=by
 induction l generalizing i with
 |nil=>simp at h
 | cons a l ih=>
   cases i with
   |zero=>simp[ga];omega
   |succ i=>
     have:=ih (i:=i) (by simpa using h)
     rw[List.set_cons_succ,VN,VN];have e:ga (a::l) (i+1)=ga l i:=rfl;rw[e];omega
theorem Nh{l:List Nat}{i j v:Nat}(h:i≠j):ga (l.set i v) j=ga l j:=by unfold ga;rw[Sx,Sx,T7 h]
theorem Ku{a b:List Nat}(hl:a.length=b.length)(h:∀i,i<a.length->ga a i=ga b i):a=b:=by
 apply Tt hl;intro i h1 h2;have:=h i h1
 rwa [aQ h1,aQ h2]at this
theorem Br{n j:Nat}{d:D}(h:((List.range n).map nD)[j]?=some d):j<n/\d=nD j:=by
 have hj:j<n:=by have:=(RK.mp h).1;simpa using this
 rw[R0,Tw hj]at h;exact⟨hj,(RP h).symm⟩
theorem Es{l:List Nat}{i:Nat}(h:i<l.length):(rd (eG (.lst (l.map nD)) (nD i)):DM D)=pure (nD (ga l i)):=HH (i:=i) (by rw[R0,RV h,aQ h];rfl)
theorem fF{k:Nat}{tg:D->aa->DM aa}{fb:aa->DM Fl}{l:List D}{δ:aa}:GC k tg fb (.fix l) δ=forL tg fb l δ:=rfl
theorem lA{fg:D->aa->DM aa}{ft:aa->DM Bool}{fb:aa->List D->DM (aa×List D)}{ds:List D}{δ:aa}{l:List D}:bR fg ft fb (.fix ds) δ l=bA fg ft fb ds δ l:=rfl
set_option tactic.hygienic true in
theorem Cr{i:Int}(h:i.natAbs<2^8000):Builtin.Int.intBits i<=8000:=by
 unfold Builtin.Int.intBits;split
 ·exact Vn _
 ·rename_i h0;have:i.natAbs≠0:=by intro z;apply h0;simp;omega
  exact (Nat.log2_lt this).mpr h
theorem zE{i j:Int}(h:i.natAbs<2^8000)(h':j.natAbs<2^8000):eY i j=true:=by
 unfold eY;have h1:=Cr h;have h2:=Cr h';have:Builtin.Int.intTooBig ((Builtin.Int.intBits i:Int)+(Builtin.Int.intBits j:Int))=false:=by
  unfold Builtin.Int.intTooBig;refine TJ λq=>?_
  have hb:16000<=bitsLine:=by decide
  omega
 simp[this]
theorem xM{a b:Nat}(h:a<2^8000)(h':b<2^8000):(rd (iC (nD a) (nD b)):DM D)=pure (nD (a*b)):=by unfold nD;rw[Bm (zE (by simpa using h) (by simpa using h')),Ue]
theorem Ik{i j:Int}(h0:0<j)(h:j.natAbs<2^8000):jU i j=true:=by
 unfold jU;have a:Builtin.divisionGoesByPylong i j=false:=by
  unfold Builtin.divisionGoesByPylong;have hj:j.natAbs≠0:=by omega
  have hl:j.natAbs.log2<8000:=(Nat.log2_lt hj).mpr h;have h0':(j==0)=false:=by simp;omega
  simp only[h0'];have:¬ (j.natAbs.log2 / 30+1 > 300):=by omega
  simp[this]
 simp[a,h0]
theorem Em{a b:Nat}(h0:0<b)(h:b<2^8000):(rd (mU (nD a) (nD b)):DM D)=pure (nD (a / b)):=by unfold nD;rw[Eo (Ik (by omega) (by simpa using h)),Int.natCast_ediv]
theorem Jx{a b:Nat}(ha:a<2^62)(hb:b<2^62):xR [nD a,nD b]=some (.fix ((List.range (b-a)).map λk=>nD (a+k))):=by
 have e:∀x:Nat,x<2^62->nj (x:Int)=true:=λx h=>by unfold nj;simp;omega
 have e2:((b:Int)-(a:Int)).toNat=b-a:=by omega
 simp[xR,nD,e a ha,e b hb,e2,m9]
theorem uc{f g:aa->DM Fl}{δ:aa}{M:Mo}{Q:Fl->Mo->Prop}(h:∀K:Fl->DM Fl,(∀δ',K (.nx δ')=g δ')->(∀d,K (.rt d)=Pure.pure (.rt d))->Rn (f δ>>=K) M Q):Rn (uH f g δ) M Q:=by
 have:=h (λr=>match r with | .nx δ'=>g δ' | r=>Pure.pure r) (λz=>rfl) (λz=>rfl)
 exact this
noncomputable def Ca:=aG 1 1 qm
theorem Ea{s:Nat}(h:s<2^40):∃t:Nat,t<2147483629/\Ca [nD s]=pure (nD t):=by
 refine⟨(((s+7919)%2147483647)*((s+7919)%2147483647)+48271*((s+7919)%2147483647)+12345)%2147483629,UL _ (by decide),?_⟩
 have a1:(rd (cJ (nD s) (.int 7919)):DM D)=pure (nD (s+7919)):=eN s 7919;have a2:(rd (gF (nD (s+7919)) (.int 2147483647)):DM D)=pure (nD ((s+7919)%2147483647)):=dR (b:=2147483647) (by decide)
 have lt:=UL (s+7919) (show 2147483647 > 0 by decide)
 generalize (s+7919)%2147483647=x at a2 lt;have a3:(rd (iC (nD x) (nD x)):DM D)=pure (nD (x*x)):=Ex (by omega)
 have a4:(rd (iC (.int 48271) (nD x)):DM D)=pure (nD (48271*x)):=Ex (a:=48271) (by omega)
 have a5:∀a b:Nat,(rd (cJ (nD a) (nD b)):DM D)=pure (nD (a+b)):=λa b=>eN a b
 have a6:(rd (cJ (nD (x*x+48271*x)) (.int 12345)):DM D)=pure (nD (x*x+48271*x+12345)):=eN _ 12345;have a7:(rd (gF (nD (x*x+48271*x+12345)) (.int 2147483629)):DM D)=pure (nD ((x*x+48271*x+12345)%2147483629)):=dR (b:=2147483629) (by decide)
 simp[Ca,qm,a1,a2,a3,a4,a5,a6,a7]
noncomputable def dm(p:Nat)(M:Mo):Prop:=∃a b c:Nat,c<2^40/\M[p]?=some (.lst [nD a,nD b,nD c])
theorem dm.lt{p:Nat}{M:Mo}(h:dm p M):p<M.length:=by obtain⟨a,b,c,_,e⟩:=h;exact (RK.mp e).1
theorem dm.sb{p q:Nat}{M M':Mo}(h:dm p M)(s:Sb q M M')(hq:p≠q):dm p M':=by obtain⟨a,b,c,hc,e⟩:=h;exact⟨a,b,c,hc,s.at hq e⟩
noncomputable def vK:=aG 1 2 nW
theorem Jp(c:Int)(M:Mo):Rn (vK [.int c]) M λd M'=>d=.ref M.length/\dm M.length M':=by
 unfold vK nW iG;dsimp only;refine Rn.call rfl ?_;refine aF λK hK=>?_
 have p18:(rd (Hg (.int 10) (.int 18)):DM D)=pure (.int 1000000000000000000):=by rw[Oo (by decide)];rfl
 have st:bx 2 [D.int c]=[some (.int c),none]:=rfl;rw[st];simp;have en:D.int (if c < -c then -c else c)=nD (if c < -c then -c else c).toNat:=by unfold nD;congr 1;split<;>omega
 rw[en];generalize (if c < -c then -c else c).toNat=n
 rw[hK];clear hK K;have ge:(rd (Do (nD n) (.int 1000000000000000000)):DM D)=pure (.bl (decide (1000000000000000000<=n))):=Ep n 1000000000000000000;have md:(rd (gF (nD n) (.int 1000003)):DM D)=pure (nD (n%1000003)):=dR (b:=1000003) (by decide)
 simp[p18,ge,oZ,md];refine Rn.dW (by simp) ?_
 have lt:=UL n (show 1000003 > 0 by decide)
 exact Rn.pure ⟨_,rfl,rfl,n,(if 1000000000000000000<=n then 1 else 0),n%1000003,by omega,by simp⟩
noncomputable def BR:=aG 2 3 (qi Ca)
theorem lO{p:Nat}{M:Mo}{m:Nat}(h:dm p M)(h0:0<m)(h1:m<2 ^ 60):Rn (BR [.ref p,nD m]) M λd M'=>∃ t:Nat,t<m/\d=nD t/\dm p M'/\Sb p M M':=by
 obtain⟨a,b,c,hc,e⟩:=h;have hp:=(RK.mp e).1;unfold BR qi kY;dsimp only;refine Rn.call rfl ?_;have st:bx 3 [D.ref p,nD m]=[some (.ref p),some (nD m),none]:=rfl;rw[st];have i0:eG (.ref p) (.int 0) M=some (nD a):=sS (i:=0) e rfl;have i1:eG (.ref p) (.int 1) M=some (nD b):=sS (i:=1) e rfl;have i2:eG (.ref p) (.int 2) M=some (nD c):=sS (i:=2) e rfl;have eb:(rd (cP (nD b) (.int 1)):DM D)=pure (.bl (decide (b=1))):=bZ b 1;have ga:(rd (sH (nD a) (.int 0)):DM D)=pure (.bl (decide (0<a))):=tL a 0;refine uc λK hK hR=>?_
 have rest:Rn (K (.nx [some (.ref p),some (nD m),none])) M λr M'=>∃d,r=.rt d/\∃t:Nat,t<m/\d=nD t/\dm p M'/\Sb p M M':=by
  rw[hK];clear hK hR K;refine aF λK hK=>?_
  simp;refine Rn.bindRd _ i2 ?_;obtain⟨t1,l1,e1⟩:=Ea hc;have a7:(rd (cJ (nD t1) (.int 7)):DM D)=pure (nD (t1+7)):=eN t1 7;obtain⟨t2,l2,e2⟩:=Ea (s:=t1+7) (by omega)
  simp only[e1,aD,a7,e2];refine Rn.run (p6 (i:=2) e (by simp)) ?_
  rw[hK];clear hK K;simp;have at2:(M.set p (.lst [nD a,nD b,nD t2]))[p]?=some (.lst [nD a,nD b,nD t2]):=TY hp;refine Rn.bindRd (nD t2) (sS (i:=2) at2 rfl) ?_;have dv:(rd (mU (nD t2) (.int 64)):DM D)=pure (nD (t2 / 64)):=xH (b:=64) (by decide) (by decide)
  simp[dv,dR (a:=t2 / 64) (b:=m) h0];exact Rn.pure ⟨_,rfl,_,UL _ h0,rfl,⟨a,b,t2,by omega,at2⟩,Sb.set⟩
 simp;refine Rn.bindRd _ i1 ?_;simp only[eb,aD,pY];by_cases hb:b=1
 ·simp[hb];refine Rn.bindRd _ i0 ?_;simp only[ga,aD,pY];by_cases ha:0<a
  ·simp[ha];refine Rn.bindRd _ i0 ?_;simp[dR (a:=a) (b:=m) h0];refine Rn.bindRd _ i0 ?_;simp[xH (a:=a) (b:=m) h0 (Nat.lt_trans h1 (by decide))]
   refine Rn.run (p6 (i:=0) e (by simp)) ?_
   have at2:(M.set p (.lst [nD (a / m),nD b,nD c]))[p]?=some (.lst [nD (a / m),nD b,nD c]):=TY hp;simp;rw[hR];exact Rn.pure ⟨_,rfl,_,UL _ h0,rfl,⟨_,b,c,hc,at2⟩,Sb.set⟩
  ·simp[ha];exact rest
 ·simp[hb];exact rest
inductive Rch(N:List (List Nat))(x:Nat):Nat->Prop
 |here:Rch N x x
 |step {y z:Nat}:Rch N x y->z∈gr N y->Rch N x z
noncomputable def vI:=aG 2 6 (dM 60)
theorem NZ:∀ds M r,vI ds M=some r->∃n,aG 2 6 (dM n) ds M=some r:=λz z z h=>⟨60,h⟩
structure Bfs(N:List (List Nat))(s n:Nat)(ks q:List Nat):Prop where
 nd:ks.Nodup
 lt:∀x∈ks,x<n
 rch:∀x∈ks,Rch N s x
 st:s∈ks
 sub:∀x∈q,x∈ks
 done:∀x∈ks,x∉q->∀y∈gr N x,y∈ks
theorem Bfs.all{N:List (List Nat)}{s n:Nat}{ks:List Nat}(b:Bfs N s n ks [])(x:Nat):x∈ks ↔ Rch N s x:=by
 refine⟨b.rch x,λh=>?_⟩
 induction h with
 |here=>exact b.st
 |step h1 h2 ih=>exact b.done _ ih (by simp) _ h2
theorem m5{n:Nat}{ks:List Nat}(nd:ks.Nodup)(lt:∀x∈ks,x<n):ks.length<=n:=by
 have:=List.Nodup.length_le_of_subset nd (l₂:=List.range n) λx hx=>RW.mpr (lt x hx)
 rwa [Sv]at this
theorem MJ{N:List (List Nat)}{x:Nat}(h:x<N.length):(rd (eG (.lst (N.map nT)) (nD x)):DM D)=pure (nT (gr N x)):=bH λM=>by
 show (aM (.lst (N.map nT)) M).bind (λl=>atI l (x:Int))=_
 show atI (N.map nT) (x:Int)=_;unfold atI;have e:ixN (N.map nT).length (x:Int)=some x:=by rw[RT];exact Du h
 rw[e];show (N.map nT)[x]?=_;rw[R0,RV h];unfold gr;rw[Sx,RV h];rfl
structure FsS(M0:Mo)(ks vs q:List Nat)(M:Mo):Prop where
 dic:M[M0.length]?=some (.dic (kD ks) (vs.map nD))
 que:M[M0.length+1]?=some (.lst (q.map nD))
 len:ks.length=vs.length
 old:∀(j:Nat) (o:DO),M0[j]?=some o->M[j]?=some o
theorem FsS.setQ{M0 M:Mo}{ks vs q:List Nat}(f:FsS M0 ks vs q M)(q':List Nat):FsS M0 ks vs q' (M.set (M0.length+1) (.lst (q'.map nD))):=
 ⟨by rw[List.getElem?_set_ne (by omega)];exact f.dic,by rw[List.getElem?_set_self (List.getElem?_eq_some_iff.mp f.que).1],f.len,fun j o e=>by have:=(RK.mp e).1;rw[T7 (by omega)];exact f.old j o e⟩
theorem FsS.setK{M0 M:Mo}{ks vs q:List Nat}(f:FsS M0 ks vs q M)(x v:Nat):FsS M0 (ks++[x]) (vs++[v]) q (M.set M0.length (.dic (kD (ks++[x])) ((vs++[v]).map nD))):=
 ⟨by rw[List.getElem?_set_self (List.getElem?_eq_some_iff.mp f.dic).1],by rw[List.getElem?_set_ne (by omega)];exact f.que,by simp[f.len],fun j o e=>by have:=(RK.mp e).1;rw[T7 (by omega)];exact f.old j o e⟩
noncomputable def Pu(M0:Mo)(N:List (List Nat))(s n:Nat)(m:Nat)(δ:aa)(M:Mo):Prop:=m<=25/\∃ks vs q,Bfs N s n ks q/\m=q.length+(n-ks.length)/\FsS M0 ks vs q M/\∃z4 z5,δ=[some (.lst (N.map nT)),some (nD s),some (.ref M0.length),some (.ref (M0.length+1)),z4,z5]
structure Mid(N:List (List Nat))(s n x m i:Nat)(ks q:List Nat):Prop where
 nd:ks.Nodup
 lt:∀y∈ks,y<n
 rch:∀y∈ks,Rch N s y
 st:s∈ks
 me:x∈ks
 sub:∀y∈q,y∈ks
 done:∀y∈ks,y∉q->y≠x->∀z∈gr N y,z∈ks
 seen:∀z∈(gr N x).take i,z∈ks
 ms:q.length+(n-ks.length)+1=m
theorem Mid.fin{N:List (List Nat)}{s n x m i:Nat}{ks q:List Nat}(h:Mid N s n x m i ks q)(hi:(gr N x).length<=i):Bfs N s n ks q:=
 ⟨h.nd,h.lt,h.rch,h.st,h.sub,fun y hy hq z hz=>by
  by_cases e:y=x
  ·subst e;exact h.seen z (by rw[Uz hi];exact hz)
  ·exact h.done y hy hq e z hz⟩
theorem Mid.skip{N:List (List Nat)}{s n x m i y:Nat}{ks q:List Nat}(h:Mid N s n x m i ks q)(hy:(gr N x)[i]?=some y)(hk:y∈ks):Mid N s n x m (i+1) ks q:=
 ⟨h.nd,h.lt,h.rch,h.st,h.me,h.sub,h.done,fun z hz=>by
  rw[List.take_succ,hy]at hz;rcases Su.mp hz with z1 | z1
  ·exact h.seen z z1
  ·simp at z1;exact z1 ▸ hk,h.ms⟩
theorem Mid.add{N:List (List Nat)}{s n x m i y:Nat}{ks q:List Nat}(h:Mid N s n x m i ks q)(hy:(gr N x)[i]?=some y)(hk:y∉ks)(hn:y<n):Mid N s n x m (i + 1) (ks++[y]) (q++[y]):=by
 have lk:=m5 h.nd h.lt;have nd':(ks++[y]).Nodup:=Wo.mpr ⟨h.nd,by simp,λa ha b hb e=>hk (by simp at hb;subst hb;exact e ▸ ha)⟩
 have lt':∀z∈ks++[y],z<n:=λz hz=>by
  rcases Su.mp hz with z1 | z1
  ·exact h.lt z z1
  ·simp at z1;omega
 have lk':=m5 nd' lt';refine⟨nd',lt',λz hz=>?_,by simp[h.st],by simp[h.me],λz hz=>?_,λz hz hq hx w hw=>?_,λz hz=>?_,?_⟩
 ·rcases Su.mp hz with z1 | z1
  ·exact h.rch z z1
  ·simp at z1;subst z1;exact .step (h.rch x h.me) (S7 hy)
 ·rcases Su.mp hz with z1 | z1
  ·simp[h.sub z z1]
  ·simp at z1;simp[z1]
 ·have hzy:z≠y:=λe=>hq (by simp[e])
  have hzk:z∈ks:=by
   rcases Su.mp hz with z1 | z1
   ·exact z1
   ·simp at z1;exact absurd z1 hzy
  exact Su.mpr (.inl (h.done z hzk (λe=>hq (by simp[e])) hx w hw))
 ·rw[List.take_succ,hy]at hz;rcases Su.mp hz with z1 | z1
  ·simp[h.seen z z1]
  ·simp at z1;simp[z1]
 ·have:=h.ms;simp at lk' ⊢
  omega
theorem Bfs.mid{N:List (List Nat)}{s n x:Nat}{ks q:List Nat}(h:Bfs N s n ks (x::q)):Mid N s n x ((x::q).length+(n-ks.length)) 0 ks q:=
 ⟨h.nd,h.lt,h.rch,h.st,h.sub x (by simp),λy hy=>h.sub y (by simp[hy]),λy hy hq hx=>h.done y hy (by simp[hx,hq]),λz hz=>by simp at hz,by simp;omega⟩
noncomputable def P0(M0:Mo)(N:List (List Nat))(s n x m:Nat)(i:Nat)(δ:aa)(M:Mo):Prop:=(∃ks vs q,Mid N s n x m i ks q/\FsS M0 ks vs q M)/\∃z5,δ=[some (.lst (N.map nT)),some (nD s),some (.ref M0.length),some (.ref (M0.length+1)),some (nD x),z5]
theorem Kw{N:List (List Nat)}{s n:Nat}(hN:N.length=n)(hn:n<=25)(hs:s<n)(hg:∀ x,∀ y∈gr N x,y<n)(M0:Mo):
  Rn (vI [.lst (N.map nT),nD s]) M0 λd M'=>d=.ref M0.length/\∃(ks vs:List Nat),M'[M0.length]?=some (.dic (kD ks) (vs.map nD))/\ks.Nodup/\(∀x,x∈ks ↔ Rch N s x)/\(∀x∈ks,x<n)/\∀(j:Nat) (o:DO),M0[j]?=some o->M'[j]?=some o:=by
 unfold vI dM gJ;dsimp only;refine Rn.call rfl ?_;have st:bx 6 [.lst (N.map nT),nD s]=[some (.lst (N.map nT)),some (nD s),none,none,none,none]:=rfl;rw[st];refine aF λK hK=>?_
 simp only[iY,dC,aZ];refine Rn.bind (Q1:=λd M1=>d=.ref M0.length/\M1=M0++[.dic (kD [s]) [nD 0]]) ⟨_,_,rfl,rfl,rfl⟩ λd M1 ⟨e1,e2⟩=>?_
 subst e1 e2;simp only[o5,aD];rw[hK];clear hK K;refine aF λK hK=>?_
 simp only[iY,dC,aZ];refine Rn.dW (by simp) ?_
 simp only[o5,aD,List.length_append,List.length_cons,List.length_nil,Nat.zero_add];rw[hK];clear hK K;have init:Pu M0 N s n (1+(n-1)) [some (.lst (N.map nT)),some (nD s),some (.ref M0.length),some (.ref (M0.length+1)),none,none] ((M0++[.dic (kD [s]) [nD 0]])++[.lst [nD s]]):=by
  refine⟨by omega,[s],[0],[s],⟨by simp,by simp;exact hs,λx hx=>by simp at hx;rw[hx];exact .here,by simp,by simp,λx hx hq=>absurd hx hq⟩,rfl,⟨by simp,by simp,rfl,λj o e=>?_⟩,none,none,rfl⟩
  have:=(RK.mp e).1;rw[Uq,RZ this];exact e
 refine aF λK hK=>?_
 refine Rn.bind (u5 (oH:=λδ M=>∃(ks vs:List Nat) (z4 z5:Option D),Bfs N s n ks []/\FsS M0 ks vs [] M/\δ=[some (.lst (N.map nT)),some (nD s),some (.ref M0.length),some (.ref (M0.length+1)),z4,z5]) (Pu M0 N s n) (λm δ M hI=>?_) 60 _ _ _ (by omega) init) λr M hI=>?_
 rotate_left
 ·obtain⟨δ',rfl,ks,vs,z4,z5,b,f,rfl⟩:=hI;rw[hK];simp only[iY,dC];exact Rn.pure ⟨_,rfl,rfl,ks,vs,f.dic,b.nd,b.all,b.lt,f.old⟩
 clear hK K init;obtain⟨hm25,ks,vs,q,b,rfl,f,z4,z5,rfl⟩:=hI;have tr:jL (.ref (M0.length+1)) M=some (!(q.map nD).isEmpty):=by unfold jL;dsimp only;rw[f.que]
 refine⟨!(q.map nD).isEmpty,?_,λhb=>?_,λhb=>?_⟩
 ·show (rd (jL (.ref (M0.length+1))):DM Bool) M=_;unfold rd;rw[tr];rfl
 rotate_left
 ·have:q=[]:=by cases q with
   |nil=>rfl
   |cons a l=>simp at hb
  subst this;exact⟨ks,vs,z4,z5,b,f,rfl⟩
 cases q with
 |nil=>simp at hb
 |cons x q=>
 clear hb tr;have mid0:=b.mid;have hx:=b.lt x mid0.me;refine aF λK hK=>?_
 simp only[iY,dC,aZ];have lo:aM (.ref (M0.length+1)) M=some ((x::q).map nD):=by unfold aM;dsimp only;rw[f.que]
 refine Rn.bindRd _ lo ?_;have pp:Hf (.ref (M0.length+1)) [.int 0] M=some (.ok (nD x),M.set (M0.length+1) (.lst (q.map nD))):=by
  have ei:ixN ((x::q).map nD).length 0=some 0:=by simp[ixN]
  delta Hf;dsimp only;rw[f.que];dsimp only;rw[ei];rfl
 refine Rn.run pp ?_;have f1:=f.setQ q;generalize M.set (M0.length+1) (.lst (q.map nD))=M1 at f1;simp only[o5,aD];rw[hK];clear hK K;have at':(opt (nU (nT (gr N x))):DM Itn)=pure (.fix ((gr N x).map nD)):=rfl;simp only[iY,dC,aZ,MJ (N:=N) (x:=x) (by omega),at',fF]
 refine (bC (P0 M0 N s n x ((x::q).length+(n-ks.length))) _ 0 _ _ ⟨⟨ks,vs,q,mid0,f1⟩,_,rfl⟩ (λi d δ M2 hi hI=>?_)).mono (λr M2 hI=>?_)
 rotate_left
 ·obtain⟨δ',rfl,⟨ks',vs',q',md,f'⟩,z5,rfl⟩:=hI;have bf:=md.fin (by simp)
  exact⟨_,q'.length+(n-ks'.length),rfl,by have:=md.ms;omega,by have:=md.ms;omega,ks',vs',q',bf,rfl,f',_,_,rfl⟩
 rw[R0]at hi;obtain⟨y,hy,rfl⟩:=RL.mp hi;obtain⟨⟨ks',vs',q',md,f'⟩,z5,rfl⟩:=hI;rw[Ti]at md ⊢
 have hyn:=hg x y (S7 hy);have lk:=m5 md.nd md.lt;rw[fV,aD];simp only[o5,iY,dC,aZ];refine Rn.bindRd _ (Gw (x:=y) f'.dic (by rw[RT];exact f'.len)) ?_
 simp only[pY,aD];by_cases hk:y∈ks'
 ·have e:ks'.contains y=true:=by simpa using hk
  rw[e];simp only[Bool.not_true,Bool.false_eq_true,if_false];exact Rn.pure ⟨_,rfl,⟨ks',vs',q',md.skip hy hk,f'⟩,_,rfl⟩
 ·have e:ks'.contains y=false:=by simpa using hk
  rw[e];simp only[Bool.not_false,if_true];refine aF λK hK=>?_
  obtain⟨v,_,ev⟩:=Im f'.dic f'.len md.me;simp only[iY,dC,aZ];refine Rn.bindRd _ ev ?_;have a1:(rd (cJ (nD v) (.int 1)):DM D)=pure (nD (v+1)):=eN v 1;simp only[a1,aD];refine Rn.run (Gx (x:=y) (v:=nD (v+1)) f'.dic (by rw[RT];exact f'.len) hk (by omega)) ?_
  have f2:=f'.setK y (v+1);rw[T5,SX,V8]at f2;generalize M2.set M0.length (.dic (kD (ks'++[y])) (vs'.map nD++[nD (v+1)]))=M3 at f2;rw[hK];clear hK K;have lo2:aM (.ref (M0.length+1)) M3=some (q'.map nD):=by unfold aM;dsimp only;rw[f2.que]
  simp only[iY,dC,aZ];refine Rn.bindRd _ lo2 ?_;have ql:q'.length<1000000:=by have:=md.ms;omega
  refine Rn.run (ji (v:=nD y) f2.que (by rw[RT];exact ql)) ?_
  have f3:=f2.setQ (q'++[y]);rw[T5,SX,V8]at f3;exact Rn.pure ⟨_,rfl,⟨_,_,_,md.add hy hk hyn,f3⟩,_,rfl⟩
theorem Aq{ft:aa->DM Bool}{rest:aa}{n:Nat}{h:Nat->D}{x y:Option D}(p:Nat->Bool)(hn:n<=1000)(hf:∀ j,j<n->ft (some (nD j)::some (h j)::rest)=pure (p j)):
  ∃δ',cU (bA (gT 2 (bY (gN 0) (bY (gN 1) eX))) ft (bW (bL 0)) ((List.range n).map λj=>.tup [nD j,h j]) (x::y::rest) [])=pure (δ',((List.range n).filter p).map nD):=by
 let f1:D->D:=λd=>match d with | .tup [a,b]=>a | _=>.non
 let f2:D->D:=λd=>match d with | .tup [a,b]=>b | _=>.non
 let pd:D->Bool:=λd=>match d with | .tup [.int i,_]=>p i.toNat | _=>false
 obtain ⟨δ',q⟩:=mZ (fg:=gT 2 (bY (gN 0) (bY (gN 1) eX))) (ft:=ft) (fe:=bL 0) (λδ=>∃ x y,δ=x::y::rest) (λd=>some (f1 d)::some (f2 d)::rest) pd f1 ((List.range n).map λj=>.tup [nD j,h j]) (x::y::rest) [] ⟨x,y,rfl⟩ (by simp;omega)
  (λd hd δ ⟨x,y,hδ⟩=>by
    obtain⟨j,_,rfl⟩:=Te.mp hd;exact⟨by subst hδ;rfl,_,_,rfl⟩) (λd hd=>by
    obtain⟨j,hj,rfl⟩:=Te.mp hd;have:=hf j (RW.mp hj);show ft (some (nD j)::some (h j)::rest)=pure (p (j:Int).toNat);rw[TQ];exact this) (λd hd z=>by
    obtain⟨j,hj,rfl⟩:=Te.mp hd;rfl)
 refine⟨δ',?_⟩;rw[q,HJ,Xf,List.filter_map,Tq];congr 2
open Classical in
noncomputable def rc(N:List (List Nat))(x y:Nat):Bool:=decide (Rch N x y)
theorem xQ{N:List (List Nat)}{x y:Nat}:rc N x y=true ↔ Rch N x y:=by classical exact⟨λh=>TX h,λh=>S5 h⟩
noncomputable def fQ(N:List (List Nat))(n:Nat):List (List Nat):=(List.range n).map λx=>(List.range n).filter (rc N x)
noncomputable def QV(M0:Mo)(N:List (List Nat))(n:Nat)(i:Nat)(δ:aa)(l:List D)(M:Mo):Prop:=(∃z,δ=[z,some (.lst (N.map nT))])/\l=((fQ N n).take i).map nT/\∀(j:Nat) (o:DO),M0[j]?=some o->M[j]?=some o
theorem I8{uJ fJ:Fn}{w:D}{N:List (List Nat)}{n:Nat}(h1:uJ [w]=pure (.lst (N.map nT)))(h2:wM "Walk" fJ [w]=pure (nD n))(hN:N.length=n)(hn:n<=25)(hg:∀ x,∀ y∈gr N x,y<n)(M0:Mo):
  Rn (aG 1 2 (qL uJ vI fJ) [w]) M0 λd M'=>d=nM (fQ N n)/\∀(j:Nat) (o:DO),M0[j]?=some o->M'[j]?=some o:=by
 unfold qL qY;dsimp only;refine Rn.call rfl ?_;have st:bx 2 [w]=[some w,none]:=rfl;rw[st];refine aF λK hK=>?_
 simp only[o5,iY,dC,aZ,h1];rw[hK];clear hK K;simp only[iY,dC,aZ];have ce:aR [Str.ofString "start"].length [1] [some w,some (D.lst (N.map nT))]=[none,some (.lst (N.map nT))]:=rfl;have rg:lB [nD n]=some (.fix ((List.range n).map nD)):=Ey (n:=n) (by omega)
 rw[h2,aD,rg,o7,aD,ce];simp only[uA];have tl:∀l:List D,(rd (pH [.lst l]):DM D)=pure (.tup l):=λl=>rfl
 refine Rn.bind (Cm (uU (QV M0 N n) ((List.range n).map nD) 0 _ _ _ ⟨⟨none,rfl⟩,rfl,λv v e=>e⟩ (λi d δ l M hi hI=>?_))) λpr M hI=>?_
 ·obtain⟨⟨z,rfl⟩,rfl,old⟩:=hI;rw[R0]at hi;obtain⟨x,hx,rfl⟩:=RL.mp hi;have hin:i<n:=by have:=(RK.mp hx).1;simpa using this
  obtain rfl:i=x:=by rw[Tw hin]at hx;cases hx;rfl
  rw[Ti];rw[fV,aD,aD,R1 rfl];unfold bW;simp only[iY,List.set_cons_zero,aZ];refine Rn.bind (Kw hN hn hin hg M) λd M1 ⟨e,ks,vs,hd,nd,hr,lt,old1⟩=>?_
  subst e;have hp:∀y,y∈ks ↔ y<n/\rc N i y=true:=λy=>by rw[xQ,<-hr y];exact⟨λh=>⟨lt y h,h⟩,λh=>h.2⟩
  refine Rn.bindRd _ (Fw hd (by have:=m5 nd lt;omega) nd hp) ?_
  rw[tl,aD];have ll:(fQ N n).length=n:=by unfold fQ;rw[RT,Sv]
  have lt2:(((fQ N n).take i).map nT).length<sizeLine:=by rw[RT,Vd,ll];show _<2^24;omega
  rw[R1 lt2];refine Rn.pure ⟨⟨_,rfl⟩,?_,λj o e=>old1 j o (old j o e)⟩
  have gi:(fQ N n)[i]?=some ((List.range n).filter (rc N i)):=by unfold fQ;rw[R0,Tw hin];rfl
  rw[List.take_succ,gi,Option.toList_some,T5];rfl
 obtain⟨_,el,old⟩:=hI;have ll:(fQ N n).length=n:=by unfold fQ;rw[RT,Sv]
 have tk:(fQ N n).take (0+((List.range n).map nD).length)=fQ N n:=by rw[Ti,RT,Sv];exact Uz (by rw[ll];exact RX n)
 rw[tk]at el;rw[el];simp only[xP,aD,tl];exact Rn.pure ⟨_,rfl,rfl,old⟩
theorem uz{a b:List D}(h:a.length+b.length<=1000000):(rd (cJ (.lst a) (.lst b)):DM D)=pure (.lst (a++b)):=bH λM=>by
 have:cR (a++b)=true:=by unfold cR;exact S5 (by show (a++b).length<=2^24;rw[R6];omega)
 simp[cJ,aM,wN,this]
theorem dN(h:Nat->D):∀ (n k:Nat),dY k ((List.range' k n).map h)=(List.range' k n).map λj=>.tup [nD j,h j]
 |0,k=>rfl
 |n+1,k=>by rw[List.range'_succ,SX,SX];show D.tup [.int (k:Int),h k]::dY (k+1) _=_;rw[dN h n (k+1)];rfl
end K
set_option exponentiation.threshold 2000
namespace K
open PySem L2 L3 N10 LB
noncomputable def n8(R:List (List Nat)):List (List Nat):=R.map λr=>(List.range r.length).filter λy=>decide (0<ga r y)
noncomputable def uJ:=aG 1 1 nZ
theorem Lz{R:List (List Nat)}{W:Nat}(h:WK R W):uJ [aV R W]=pure (.lst ((n8 R).map nT)):=by
 have n25:=h.n25;have as:nU (nM R)=some (.fix (R.map nT)):=rfl;have ce:aR 1 [] [some (aV R W)]=[none]:=rfl;simp[uJ,nZ,gD,as,lA,ce];rw[dq nT (λr=>nT ((List.range r.length).filter λy=>decide (0<ga r y))) (by omega) λr hr=>?_]
 ·simp[n8];rfl
 ·have lr:=h.row r hr;have en:jV [nT r]=some (.fix ((List.range r.length).map λj=>.tup [nD j,nD (ga r j)])):=by
   have e:r.map nD=(List.range' 0 r.length).map λj=>nD (ga r j):=by
    apply Tt
    ·simp
    ·intro i h1 h2;simp at h1;simp[aQ h1]
   show some (Itn.fix (dY 0 (r.map nD)))=_;rw[e,dN,Uh]
  have ce2:aR 2 [] [some (nT r)]=[none,none]:=rfl;obtain⟨δ',q⟩:=Aq (rest:=[]) (n:=r.length) (h:=λj=>nD (ga r j)) (x:=none) (y:=none) (ft:=λδ=>opt δ[1]?.join>>=λa=>rd (sH a (D.int 0))>>=gY) (λy=>decide (0<ga r y)) (by omega) λj hj=>by have gt:(rd (sH (nD (ga r j)) (.int 0)):DM D)=pure (.bl (decide (0<ga r j))):=tL (ga r j) 0;simp[gt]
  simp only[List.getElem?_cons_zero,Option.join_some,o7,aD,en,lA,ce2,q];rfl
theorem uw(R:List (List Nat)):(n8 R).length=R.length:=by simp[n8]
theorem Eb{R:List (List Nat)}{x:Nat}(hx:x<R.length):gr (n8 R) x=(List.range (gr R x).length).filter λy=>decide (0<ga (gr R x) y):=by
 rw[gQ (by rw[uw];exact hx),gQ hx]
 simp[n8]
theorem LK{R:List (List Nat)}{W:Nat}(h:WK R W)(x:Nat):∀ y∈gr (n8 R) x,y<R.length:=λy hy=>by
 by_cases hx:x<R.length
 ·rw[Eb hx]at hy;have:=RW.mp (TV.mp hy).1;rw[h.row _ (gr_mem hx)]at this;exact this
 ·have:gr (n8 R) x=[]:=by unfold gr;rw[Sx,Uj (by rw[uw];omega)];rfl
  rw[this]at hy;cases hy
noncomputable def Hu:=aG 1 2 (qL uJ vI fJ)
noncomputable def LD(R:List (List Nat)):List (List Nat):=fQ (n8 R) R.length
theorem Cj(R:List (List Nat)):(LD R).length=R.length:=by simp[LD,fQ]
theorem K9{R:List (List Nat)}{W:Nat}(h:WK R W)(M:Mo):Rn (Hu [aV R W]) M λd M'=>d=nM (LD R)/\∀(j:Nat) (o:DO),M[j]?=some o->M'[j]?=some o:=I8 (Lz h) (lQ h.n25) (uw R) h.n25 (LK h) M
def yt(l:List Nat):List Int:=l.map λn:Nat=>(n:Int)
theorem Lw(l:List Nat):nT l=tupI (yt l):=by simp[nT,tupI,yt,nD,Function.comp_def]
theorem JT{R:List (List Nat)}{l:List Nat}(h:l∈LD R):l≠[]/\l.length<=R.length/\∀y∈l,y<R.length:=by
 obtain⟨x,hx,rfl⟩:=Te.mp h;have hx:=RW.mp hx;refine⟨λz=>?_,?_,λy hy=>RW.mp (TV.mp hy).1⟩
 ·have:x∈(List.range R.length).filter (rc (n8 R) x):=TV.mpr ⟨RW.mpr hx,xQ.mpr .here⟩;rw[z]at this;cases this
 ·have:=Wx (rc (n8 R) x) (List.range R.length)
  rwa [Sv]at this
theorem jH{R:List (List Nat)}{i:Nat}(h:i<R.length):(rd (eG (nM R) (nD i)):DM D)=pure (nT (gr R i)):=Bl (i:=i) (by rw[R0,RV h,gQ h];rfl)
theorem Mz(a b:List Nat):(rd (cP (nT a) (nT b)):DM D)=pure (.bl (decide (a=b))):=bH λM=>by
 have e:∀l:List Nat,l.map nD=(l.map λn:Nat=>(n:Int)).map D.int:=λl=>by rw[Tq];rfl
 have d:=fL (a.map λn:Nat=>(n:Int))
 have q:=jW (a.map λn:Nat=>(n:Int)) (b.map λn:Nat=>(n:Int))
 have c:decide ((a.map λn:Nat=>(n:Int))=(b.map λn:Nat=>(n:Int)))=decide (a=b):=by rw[S8,Ur,Ur];exact mK
 unfold nT;rw[e a,e b];simp only[cP,L3.eqB,eqP,toPy,fZ,Option.map_some,PyData.canLay0,lay_ints,PyData.depth,PyData.eqv];rw[q,c,R1 (by rw[Bool.and_self,Bool.true_and];exact S5 (by omega))]
 rfl
noncomputable def vB(δ:aa):DM Bool:=do
 let a <-opt δ[0]?.join
 let a <-opt (nU a)
 let a <-cU (bR (gN 0) (λz=>Pure.pure true) (bW λδ=>do
  let a <-opt δ[1]?.join
  let a_1 <-opt δ[0]?.join
  let x <-rd (eG a a_1)
  let y <-opt δ[2]?.join
  rd (cP x y)) a (aR 1 [1,0] δ) [])
 let x <-rd (qK [D.lst a.2])
 rd (jL x)
noncomputable def Ce:=aG 1 2 (qx Hu)
end K
set_option exponentiation.threshold 20000
namespace K
open PySem L2 L3 N10 N60 LB
noncomputable def rK:List D->DM D
 |[.int a,.int b]=>if 0<=a/\0<=b then pure (nD (Nat.gcd a.toNat b.toNat)) else stuck
 |_=>stuck
theorem Kz(a b:Nat):rK [nD a,nD b]=pure (nD (Nat.gcd a b)):=by simp[rK,nD]
theorem zq{c:aa->DM Bool}{f:aa->DM Fl}(h1:∀ a b:Nat,c [some (nD a),some (nD b)]=pure (b != 0))(h2:∀ a b:Nat,0<b->f [some (nD a),some (nD b)]=pure (.nx [some (nD b),some (nD (a % b))])):
  ∀b a:Nat,∃n,eO c f n [some (nD a),some (nD b)]=pure (.nx [some (nD (Nat.gcd a b)),some (nD 0)]):=by
 intro b;induction b using Nat.strongRecOn with
 | ind b ih=>
   intro a;rcases T6 b with rfl | hb
   ·exact⟨1,by simp[eO,h1]⟩
   ·obtain⟨n,hn⟩:=ih (a%b) (UL _ hb) b;refine⟨n+1,?_⟩;have hb':(b != 0)=true:=by simp;omega
    simp only[eO,h1,aD,hb',if_true,h2 a b hb,hn];rw[Nat.gcd_comm a b,Nat.gcd_rec b a,Nat.gcd_comm]
set_option tactic.hygienic true in
theorem N5:∀ ds M r,rK ds M=some r->∃ n,aG 2 2 (cF n) ds M=some r:=by
 intro ds M r h;unfold rK at h;split at h
 ·rename_i a b;split at h
  ·rename_i hab;obtain⟨x,rfl⟩:∃x:Nat,a=x:=⟨a.toNat,by omega⟩
   obtain⟨y,rfl⟩:∃y:Nat,b=y:=⟨b.toNat,by omega⟩
   have h1:∀a b:Nat,(λδ=>(bL 1) δ>>=λx=>rd (jL x)) [some (nD a),some (nD b)]=(pure (b != 0):DM Bool):=λa b=>by
    simp;refine bH λM=>?_
    show some ((b:Int) != 0)=_;congr 1;rw[S8];simp
   have h2:∀a b:Nat,0<b->(ux 0 1 (λδ=>(bL 1) δ>>=λx=>(λδ=>(λδ=>(bL 0) δ>>=λx=>(bL 1) δ>>=λy=>rd (gF x y)) δ>>=λx=>(λz=>pure []) δ>>=λxs=>pure (x::xs)) δ>>=λxs=>pure (x::xs))) [some (nD a),some (nD b)]=pure (.nx [some (nD b),some (nD (a%b))]):=λa b hb=>by
    have:=xK (a:=a) hb;simp[nD]at this ⊢
    simp[this]
   obtain⟨n,hn⟩:=zq (c:=(λδ=>(bL 1) δ>>=λx=>rd (jL x))) (f:=(ux 0 1 (λδ=>(bL 1) δ>>=λx=>(λδ=>(λδ=>(bL 0) δ>>=λx=>(bL 1) δ>>=λy=>rd (gF x y)) δ>>=λx=>(λz=>pure []) δ>>=λxs=>pure (x::xs)) δ>>=λxs=>pure (x::xs)))) h1 h2 y x
   refine⟨n,?_⟩;rw[<-h];have:aG 2 2 (cF n) [.int x,.int y]=pure (nD (Nat.gcd x y)):=by unfold cF dH;have e:bx 2 [D.int x,D.int y]=[some (nD x),some (nD y)]:=rfl;simp only[El,e,HN,hn];simp
   rw[this];simp
  ·cases h
 ·cases h
end K
set_option exponentiation.threshold 2000
namespace K
open PySem L2 L3 N10
structure Smn(n:Nat)(l:List Nat):Prop where
 ne:l≠[]
 lt:∀i∈l,i<n
 len:l.length<=100
theorem zM{n:Nat}(h:n<=1000):(rd (λM=>(jZ [nD n] M).map D.lst):DM D)=pure (.lst ((List.range n).map nD)):=bH λM=>by
 have:jZ [nD n] M=some ((List.range n).map nD):=by
  unfold nD;show (if -(2^62)<=(n:Int)/\(n:Int)<=2^20 then some ((List.range (n:Int).toNat).map nD) else none)=_
  rw[R1 ⟨by omega,by omega⟩,TQ]
  rfl
 rw[this];rfl
theorem Jv{n:Nat}(h:n<=1000):(rd (λM=>(jZ [nD n] M).map D.tup):DM D)=pure (nT (List.range n)):=bH λM=>by
 have:jZ [nD n] M=some ((List.range n).map nD):=by
  unfold nD;show (if -(2^62)<=(n:Int)/\(n:Int)<=2^20 then some ((List.range (n:Int).toNat).map nD) else none)=_
  rw[R1 ⟨by omega,by omega⟩,TQ]
  rfl
 rw[this];rfl
theorem Ju(a b:Nat):(rd (cC (λz z=>true) (λi j=>.int (i+j)) (nD a) (nD b)):DM D)=pure (nD (a+b)):=bH λM=>by simp[cC,nD]
theorem Jr{a b:List Nat}(h:a.length+b.length<=1000000):(rd (cJ (.lst (a.map nD)) (.lst (b.map nD))):DM D)=pure (.lst ((a++b).map nD)):=bH λM=>by
 have:cR (a.map nD++b.map nD)=true:=by unfold cR;exact S5 (by show _<=2^24;rw[R6,RT,RT];omega)
 simp[cJ,aM,wN,this]
theorem Jw(x:Nat)(b:Bool):(rd (λM=>(qX (.lst [nD x]) (nD (if b then 1 else 0)) M).map D.lst):DM D)=pure (.lst ((if b then [x] else []).map nD)):=bH λM=>by cases b<;>rfl
noncomputable def vN:=aG 2 10 (qp BR)
structure RwsS(M0:Mo)(p q n W:Nat)(i:Nat)(M:Mo):Prop where
 pen:dm p M
 sb:Sb p M0 M
 ex:∃R:List (List Nat),R.length=i/\M[q]?=some (.lst (R.map nT))/\∀r∈R,r.length=n/\r.sum=W
noncomputable def Ac(M0:Mo)(p tp q n W kd:Nat)(i:Nat)(δ:aa)(M:Mo):Prop:=(∃z6 z7 z8 z9,δ=[some (.ref p),some (nD tp),some (nD n),some (nD W),some (nD kd),some (.ref q),z6,z7,z8,z9])/\RwsS M0 p q n W i M
structure BalS(M0:Mo)(p q t n:Nat)(L:List (List Nat))(i:Nat)(M:Mo):Prop where
 pen:dm p M
 sb:Sb p M0 M
 atq:M[q]?=some (.lst (L.map nT))
 ex:∃r:List Nat,M[t]?=some (.lst (r.map nD))/\r.length=n/\r.sum=i
noncomputable def PP(M0:Mo)(p q t n:Nat)(L:List (List Nat))(pre:aa)(i:Nat)(δ:aa)(M:Mo):Prop:=(∃z9,δ=pre++[z9])/\BalS M0 p q t n L i M
theorem JB{p tp:Nat}{M:Mo}(hp:dm p M)(h1:1<=tp)(h2:tp<=6):Rn (vN [.ref p,nD tp]) M λd M'=>∃ (R:List (List Nat)) (W:Nat),d=nM R/\WK R W/\R.length<=tp/\W<=12/\dm p M'/\Sb p M M':=by
 have hpl:=hp.lt;unfold vN qp lg;dsimp only;refine Rn.call rfl ?_;have st:bx 10 [D.ref p,nD tp]=[some (.ref p),some (nD tp),none,none,none,none,none,none,none,none]:=rfl;rw[st];refine aF λK hK=>?_
 simp;refine Rn.bind (lO hp (by omega:0<tp) (by omega)) λd1 M1 ⟨t1,g1,e1,hp1,s1⟩=>?_
 subst e1;have ml:lU [.int 1,.int 2,.int 3,.int 4,.int 6,.int 12]=pure (.lst ([1,2,3,4,6,12].map nD)):=gU (by simp)
 simp only[Mv,aD,ml];have d6:=lO (m:=6) hp1 (by decide) (by decide)
 refine Rn.bind d6 λd2 M2 ⟨t2,g2,e2,hp2,s2⟩=>?_
 subst e2;have ht2:t2<[1,2,3,4,6,12].length:=by simpa using g2
 rw[Es ht2];have hW:1<=ga [1,2,3,4,6,12] t2/\ga [1,2,3,4,6,12] t2<=12:=by have:=wH ht2;generalize ga [1,2,3,4,6,12] t2=x at this;simp at this;omega
 revert hW;generalize ga [1,2,3,4,6,12] t2=W;intro hW;have d7:=lO (m:=7) hp2 (by decide) (by decide)
 simp only[aD];refine Rn.bind d7 λd3 M3 ⟨kd,g3,e3,hp3,s3⟩=>?_
 subst e3;rw[hK];clear hK K d6 d7 ml ht2;have sb3:Sb p M M3:=s1.trans (s2.trans s3);have hn1:1<=t1+1:=by omega
 have hn2:t1+1<=tp:=by omega
 revert hn1 hn2;generalize t1+1=n;intro n1 n2
 -- the list of rows
 refine aF λK hK=>?_
 simp;refine Rn.dW (by simp) ?_
 have pq:p≠M3.length:=by have:=hp3.lt;omega
 have ql:M.length<=M3.length:=sb3.le;have st0:RwsS M p M3.length n W 0 (M3++[.lst []]):=⟨hp3.sb (q:=M3.length) Sb.push pq,Sb.new (p:=p) (.inr sb3.le) ql Sb.push sb3,[],rfl,by simp,by simp⟩
 rw[hK];clear hK K hp1 hp2 hp3 s1 s2 s3;revert st0 pq ql;generalize M3.length=q;generalize M3++[DO.lst []]=M4;intro pq ql st0;refine aF λK hK=>?_
 simp[ik (n:=n) (by omega),fF]
 refine Rn.bind (bC (Ac M p tp q n W kd) _ 0 _ _ ⟨⟨_,_,_,_,rfl⟩,st0⟩ (λx d δ M5 hx hI=>?_)) (λr M5 hI=>?_)
 rotate_left
 ·obtain⟨δ',rfl,⟨z6,z7,z8,z9,rfl⟩,hp5,sb5,R,lR,at5,hR⟩:=hI;rw[hK];clear hK K;rw[RT,Sv,Ti]at lR;simp;refine Rn.bindRd (nM R) (by show (aM (.ref q) M5).map _=_;simp only[aM,at5];rfl) ?_
  exact Rn.pure ⟨_,rfl,R,rfl,W,⟨by omega,by omega,λr hr=>by rw[(hR r hr).1,lR],λr hr=>(hR r hr).2,hW.1⟩,by omega,hW.2,hp5,sb5⟩
 clear hK K;obtain⟨⟨z6,z7,z8,z9,rfl⟩,hp5,sb5,R,lR,at5,hR⟩:=hI;obtain⟨hx',rfl⟩:=Br hx;rw[Ti]at lR ⊢
 rw[fV,aD];have hQ:∀δ' M',Ac M p tp q n W kd (x+1) δ' M'->(λ(r:Fl) (M':Mo)=>∃δ',r=.nx δ'/\Ac M p tp q n W kd (x+1) δ' M') (.nx δ') M':=λδ' M' h=>⟨δ',rfl,h⟩
 revert hQ;generalize (λ(r:Fl) (M':Mo)=>∃δ',r=.nx δ'/\Ac M p tp q n W kd (x+1) δ' M')=Q
 intro hQ
 -- all places
 refine aF λK hK=>?_
 simp[zM (n:=n) (by omega)]
 rw[hK];clear hK K;have som0:Smn n (List.range n):=⟨by simp;omega,λi hi=>RW.mp hi,by simp;omega⟩
 -- 1
 refine aF λK hK=>?_
 suffices H:∀(l:List Nat) (M6:Mo),Smn n l->dm p M6->Sb p M5 M6->Rn (K (.nx [some (.ref p),some (nD tp),some (nD n),some (nD W),some (nD kd),some (.ref q),some (nD x),some (.lst (l.map nD)),z8,z9])) M6 Q by
  by_cases h:kd=1
  ·have e:(rd (cP (nD kd) (.int 1)):DM D)=pure (.bl true):=by rw[show D.int 1=nD 1 from rfl,bZ,h];rfl
   simp[e];refine Rn.bind (lO hp5 (by omega:0<n) (by omega)) λd1 M7 ⟨u1,g1,e1,hp7,s7⟩=>?_
   refine Rn.bind (lO hp7 (by omega:0<n) (by omega)) λd2 M8 ⟨u2,g2,e2,hp8,s8⟩=>?_
   subst e1 e2;have ml:lU [nD u1,nD u2]=pure (.lst ([u1,u2].map nD)):=gU (by simp)
   simp only[ml,aD];exact H [u1,u2] M8 ⟨by simp,λi hi=>by simp at hi;omega,by simp⟩ hp8 (s7.trans s8)
  ·have e:(rd (cP (nD kd) (.int 1)):DM D)=pure (.bl false):=by rw[show D.int 1=nD 1 from rfl,bZ,TJ h]
   simp[e];exact H _ _ som0 hp5 Sb.refl
 intro l1 M6_1 som1 hp6_1 sb6_1;rw[hK];clear hK K
 -- 2
 refine aF λK hK=>?_
 suffices H:∀(l:List Nat) (M6:Mo),Smn n l->dm p M6->Sb p M5 M6->Rn (K (.nx [some (.ref p),some (nD tp),some (nD n),some (nD W),some (nD kd),some (.ref q),some (nD x),some (.lst (l.map nD)),z8,z9])) M6 Q by
  by_cases h:kd=2
  ·have e:(rd (cP (nD kd) (.int 2)):DM D)=pure (.bl true):=by rw[show D.int 2=nD 2 from rfl,bZ,h];rfl
   have ml:lU [nD ((x+1)%n)]=pure (.lst ([(x+1)%n].map nD)):=gU (by simp)
   have hm:=UL (x+1) (show n > 0 by omega)
   simp[e,mq,dR (a:=x+1) (b:=n) (by omega),ml]
   exact H [(x+1)%n] _ ⟨by simp,λi hi=>by simp at hi;omega,by simp⟩ hp6_1 sb6_1
  ·have e:(rd (cP (nD kd) (.int 2)):DM D)=pure (.bl false):=by rw[show D.int 2=nD 2 from rfl,bZ,TJ h]
   simp[e];exact H _ _ som1 hp6_1 sb6_1
 intro l2 M6_2 som2 hp6_2 sb6_2;rw[hK];clear hK K
 -- 3
 refine aF λK hK=>?_
 suffices H:∀ (l:List Nat) (M6:Mo),Smn n l->dm p M6->Sb p M5 M6->Rn (K (.nx [some (.ref p),some (nD tp),some (nD n),some (nD W),some (nD kd),some (.ref q),some (nD x),some (.lst (l.map nD)),z8,z9])) M6 Q by
  by_cases h:kd=3
  ·have e:(rd (cP (nD kd) (.int 3)):DM D)=pure (.bl true):=by rw [show D.int 3=nD 3 from rfl,bZ,h];rfl
   have md:∀y:Nat,(rd (gF (nD y) (.int 2)):DM D)=pure (nD (y%2)):=λy=>dR (b:=2) (by decide)
   have e1:(rd (cP (nD n) (.int 1)):DM D)=pure (.bl (decide (n=1))):=bZ n 1;have ml:lU [nD x]=pure (.lst [nD x]):=gU (by simp)
   have fl:((List.range n).filter λy=>!decide (y%2=x%2)).length<=n:=by
    have:=Wx (λy=>!decide (y%2=x%2)) (List.range n)
    rwa [Sv]at this
   have il:(if decide (n=1)=true then [x] else []).length<=1:=by split<;>simp
   have ad:=Jr (a:=(List.range n).filter λy=>!decide (y%2=x%2)) (b:=if decide (n=1)=true then [x] else []) (by omega)
   have mu:=Jw x (decide (n=1));have ge:=H (((List.range n).filter λy=>!decide (y%2=x%2))++if decide (n=1)=true then [x] else []) M6_2 ⟨λz=>?_,λi hi=>?_,?_⟩ hp6_2 sb6_2
   ·simp only[o5,iY,dC,aZ,e,pY,if_true,ik (n:=n) (by omega),uA,aR,cu,List.length_cons,List.length_nil,List.map_cons,List.map_nil,List.replicate_succ,List.replicate_zero,List.cons_append,List.nil_append,Option.getD_some]
    rw[aU nD (λy=>!decide (y%2=x%2)) nD (by simp;omega) (λy hy=>by simp[md,xN]) (λy hy w=>by simp)]
    simp only[o5,aD,xP,ml,e1,oZ,mu,ad];exact ge
   ·rw [List.append_eq_nil_iff] at z
    by_cases h1:n=1
    ·rw[S5 h1,R1 rfl]at z;cases z.2
    ·have m:(if x % 2=0 then 1 else 0)∈(List.range n).filter λy=>!decide (y % 2=x % 2):=by
      rw[TV,RW];constructor
      ·split<;>omega
      ·by_cases h2:x%2=0
       ·simp[h2]
       ·have:x%2=1:=by omega
        simp[this]
     rw[z.1]at m;cases m
   ·rcases Su.mp hi with h2 | h2
    ·exact RW.mp (TV.mp h2).1
    ·split at h2
     ·simp at h2;omega
     ·cases h2
   ·rw[R6];omega
  ·have e:(rd (cP (nD kd) (.int 3)):DM D)=pure (.bl false):=by rw[show D.int 3=nD 3 from rfl,bZ,TJ h]
   simp[e];exact H _ _ som2 hp6_2 sb6_2
 intro l3 M6_3 som3 hp6_3 sb6_3;rw[hK];clear hK K
 -- 4
 refine aF λK hK=>?_
 suffices H:∀ (l:List Nat) (M6:Mo),Smn n l->dm p M6->Sb p M5 M6->Rn (K (.nx [some (.ref p),some (nD tp),some (nD n),some (nD W),some (nD kd),some (.ref q),some (nD x),some (.lst (l.map nD)),z8,z9])) M6 Q by
  by_cases h:kd=4
  ·have e:(rd (cP (nD kd) (.int 4)):DM D)=pure (.bl true):=by rw[show D.int 4=nD 4 from rfl,bZ,h];rfl
   have dv:∀y:Nat,(rd (mU (nD y) (.int 2)):DM D)=pure (nD (y / 2)):=λy=>xH (b:=2) (by decide) (by decide)
   have fl:((List.range n).filter λy=>decide (y / 2=x / 2)).length<=n:=by
    have:=Wx (λy=>decide (y / 2=x / 2)) (List.range n)
    rwa [Sv]at this
   simp only[o5,iY,dC,aZ,e,pY,if_true,ik (n:=n) (by omega),uA,aR,cu,List.length_cons,List.length_nil,List.map_cons,List.map_nil,List.replicate_succ,List.replicate_zero,List.cons_append,List.nil_append,Option.getD_some]
   rw[aU nD (λy=>decide (y / 2=x / 2)) nD (by simp;omega) (λy hy=>by simp[dv,bZ]) (λy hy w=>by simp)]
   simp only[o5,aD,xP];refine H _ _ ⟨λz=>?_,λi hi=>RW.mp (TV.mp hi).1,by omega⟩ hp6_3 sb6_3
   have m:x∈(List.range n).filter λy=>decide (y / 2=x / 2):=by rw[TV,RW];exact⟨hx',by simp⟩
   rw[z]at m;cases m
  ·have e:(rd (cP (nD kd) (.int 4)):DM D)=pure (.bl false):=by rw[show D.int 4=nD 4 from rfl,bZ,TJ h]
   simp[e];exact H _ _ som3 hp6_3 sb6_3
 intro l4 M6_4 som4 hp6_4 sb6_4;rw[hK];clear hK K
 -- 5
 refine aF λK hK=>?_
 suffices H:∀(l:List Nat) (M6:Mo),Smn n l->dm p M6->Sb p M5 M6->Rn (K (.nx [some (.ref p),some (nD tp),some (nD n),some (nD W),some (nD kd),some (.ref q),some (nD x),some (.lst (l.map nD)),z8,z9])) M6 Q by
  by_cases h:kd=5
  ·have e:(rd (cP (nD kd) (.int 5)):DM D)=pure (.bl true):=by rw[show D.int 5=nD 5 from rfl,bZ,h];rfl
   simp[e,mq,zM (n:=x+1) (by omega)]
   exact H (List.range (x+1)) _ ⟨by simp,λi hi=>by have:=RW.mp hi;omega,by simp;omega⟩ hp6_4 sb6_4
  ·have e:(rd (cP (nD kd) (.int 5)):DM D)=pure (.bl false):=by rw[show D.int 5=nD 5 from rfl,bZ,TJ h]
   simp[e];exact H _ _ som4 hp6_4 sb6_4
 intro l5 M6_5 som5 hp6_5 sb6_5;rw[hK];clear hK K
 -- the row
 have q6:q<M6_5.length:=(RK.mp (sb6_5.at (λz=>pq z.symm) at5)).1
 have at6:=sb6_5.at (λz=>pq z.symm) at5
 have sb6:Sb p M M6_5:=sb5.trans sb6_5;have m0:lU [.int 0]=pure (.lst [.int 0]):=gU (by simp)
 refine aF λK hK=>?_
 simp[m0];refine G5 (by omega) ?_
 have pt:p≠M6_5.length:=by have:=hp6_5.lt;omega
 have qt:q≠M6_5.length:=by omega
 have tl:M.length<=M6_5.length:=sb6.le;have bs0:BalS M p q M6_5.length n R 0 (M6_5++[.lst ((List.replicate n 0).map nD)]):=⟨hp6_5.sb (q:=M6_5.length) Sb.push pt,Sb.new (p:=p) (.inr sb6.le) tl Sb.push sb6,by rw[RZ q6];exact at6,List.replicate n 0,by simp,by simp,by simp⟩
 rw[hK];clear hK K;revert bs0 pt qt tl;generalize M6_5.length=t;generalize M6_5++[DO.lst ((List.replicate n 0).map nD)]=M7;intro pt qt tl bs0
 -- ball by ball
 refine aF λK hK=>?_
 simp[ik (n:=W) (by omega),fF]
 refine Rn.bind (bC (PP M p q t n R [some (.ref p),some (nD tp),some (nD n),some (nD W),some (nD kd),some (.ref q),some (nD x),some (.lst (l5.map nD)),some (.ref t)]) _ 0 _ _ ⟨⟨z9,rfl⟩,bs0⟩ (λj d δ M8 hj hI=>?_)) (λr M8 hI=>?_)
 ·obtain⟨⟨z9,rfl⟩,hp8,sb8,atq8,r,at8,lr,sr⟩:=hI;obtain⟨hj',rfl⟩:=Br hj;rw[Ti]at sr ⊢
  rw[fV,aD];have ln:(rd (jC [.lst (l5.map nD)]):DM D)=pure (nD l5.length):=by simp[nD]
  have l0:0<l5.length:=Xn.mpr som5.ne;simp[ln];refine Rn.bind (lO hp8 l0 (by have:=som5.len;omega)) λd9 M9 ⟨u,g9,e9,hp9,s9⟩=>?_
  subst e9;simp only[Es g9,aD];have ul:ga l5 u<r.length:=by rw[lr];exact som5.lt _ (wH g9)
  have at9:=s9.at (λz=>pt z.symm) at8
  have atq9:=s9.at (λz=>pq z.symm) atq8
  have t9:=(RK.mp at9).1;generalize ga l5 u=v at ul;refine Rn.bindRd (nD (ga r v)) (by
   show (if 0<=(v:Int) then (aM (.ref t) M9).bind λl=>atI l (v:Int) else none)=_
   rw[R1 (by omega)]
   simp only[aM,at9,Option.bind_some];exact oK (by rw[R0,RV ul,aQ ul];rfl)) ?_
  have ia:(rd (cC (λw w=>true) (λi j=>.int (i+j)) (nD (ga r v)) (.int 1)):DM D)=pure (nD (ga r v+1)):=Ju (ga r v) 1
  simp[ia];refine Rn.run (p6 at9 (by rw[RT];exact ul)) ?_
  refine Rn.pure ⟨_,rfl,⟨_,rfl⟩,hp9.sb (q:=t) Sb.set pt,Sb.new (p:=p) (.inr (sb8.trans s9).le) tl Sb.set (sb8.trans s9),by rw[T7 (λz=>qt z.symm)];exact atq9,r.set v (ga r v+1),?_,by rw[U4];exact lr,?_⟩
  ·rw[TY t9,List.map_set]
  ·have:=zU (l:=r) (i:=v) (v:=ga r v+1) ul;omega
 obtain⟨δ',rfl,⟨z9,rfl⟩,hp8,sb8,atq8,r,at8,lr,sr⟩:=hI;rw[RT,Sv,Ti]at sr;rw[hK];clear hK K;simp;refine Rn.bindRd _ (by simp only[aM,atq8];rfl) ?_
 refine Rn.bindRd (nT r) (by show (aM (.ref t) M8).map _=_;simp only[aM,at8];rfl) ?_
 have q8:=(RK.mp atq8).1;refine Rn.run (ji atq8 (by rw[RT];omega)) ?_
 refine Rn.pure (hQ _ _ ⟨⟨_,_,_,_,rfl⟩,hp8.sb (q:=q) Sb.set pq,Sb.new (p:=p) (.inr sb8.le) ql Sb.set sb8,R++[r],by simp[lR],by rw[TY q8];simp,λr' hr'=>?_⟩)
 rcases Su.mp hr' with z | z
 ·exact hR r' z
 ·rw[SJ.mp z];exact⟨lr,sr⟩
end K
set_option exponentiation.threshold 20000
namespace K
open PySem L2 L3 N10 N60 LB
inductive To(R:List (List Nat))(x:Nat):Nat->Prop
 |here:To R x x
 |step {i j:Nat}:j<R.length->0<ga (gr R i) j->To R x j->To R x i
def AL(R:List (List Nat)):Prop:=∀x,x<R.length->∀a,a<R.length->To R x a
theorem Rch.trans{N:List (List Nat)}{x y z:Nat}(h:Rch N x y)(k:Rch N y z):Rch N x z:=by
 induction k with
 |here=>exact h
 |step _ m ih=>exact .step ih m
set_option tactic.hygienic true in
theorem MN{R:List (List Nat)}{W x a:Nat}(wk:WK R W)(h:To R x a):a<R.length->Rch (n8 R) a x:=by
 induction h with
 |here=>exact λz=>.here
 |step hj hp tt ih=>rename_i a b;intro ha;refine Rch.trans (.step .here ?_) (ih hj);rw[Eb ha];exact TV.mpr ⟨RW.mpr (by rw[wk.row _ (gr_mem ha)];exact hj),S5 hp⟩
theorem Ci{R:List (List Nat)}{W:Nat}(wk:WK R W)(al:AL R):LD R=List.replicate R.length (List.range R.length):=by
 unfold LD fQ;rw[Sd (g:=λz=>List.range R.length) (λx hx=>?_),List.map_const',Sv]
 have hx':=RW.mp hx;exact Uw.mpr λy hy=>xQ.mpr (MN wk (al y (RW.mp hy) x hx') hx')
theorem KD{n:Nat}{l:List Nat}{y:Nat}(h:y<n):gr (List.replicate n l) y=l:=by rw[gQ (by simpa using h)];simp
theorem CQ{α:Type}{ft:aa->DM Bool}{fe:aa->DM D}{rest:aa}{e:List Int}(ne:e≠[])(enc:α->D):∀ (as:List α) (x:Option D) (l:List D),(∀ d∈l,d=tupI e)->(∀ a∈as,ft (some (enc a)::rest)=pure true)->(∀ a∈as,fe (some (enc a)::rest)=pure (tupI e))->
  ∃z,bA (gN 0) ft (fO fe) (as.map enc) (x::rest) l=pure (z::rest,l++List.replicate as.length (tupI e))
 |[],x,l,_,_,_=>⟨x,by simp[bA]⟩
 | a::as,x,l,hl,h1,h2=>by
   have c:=h1 a (by simp)
   have c2:=h2 a (by simp)
   have ts:(iy [tupI e]).isSome=true:=by rw[show [tupI e]=[e].map tupI from rfl,tY (λt ht=>by simp at ht;rw[ht];exact ne)];rfl
   obtain⟨z,q⟩:=CQ (rest:=rest) ne enc as (some (enc a)) (l++[tupI e]) (λd hd=>by
    rcases Su.mp hd with h | h
    ·exact hl d h
    ·exact SJ.mp h) (λb hb=>h1 b (by simp[hb])) (λb hb=>h2 b (by simp[hb]))
   have em:fO fe (some (enc a)::rest) l=pure (some (enc a)::rest,l++[tupI e]):=by unfold fO;rw[c2,aD,R1 ⟨ts,hl⟩]
   refine⟨z,?_⟩;rw[SX];simp only[bA,fV,List.set_cons_zero,aD,c,em,if_true,q];simp[List.replicate_succ]
theorem Nj{R:List (List Nat)}{W:Nat}(h:WK R W)(al:AL R)(M:Mo):Rn (Ce [aV R W]) M λd M'=>d=nM [List.range R.length]/\∀ (j:Nat) (o:DO),M[j]?=some o->M'[j]?=some o:=by
 have n1:=h.n1;unfold Ce qx lu;dsimp only;refine Rn.call rfl ?_;have st:bx 2 [aV R W]=[some (aV R W),none]:=rfl;rw[st];refine aF λK hK=>?_
 simp;refine Rn.bind (K9 h M) λd M1 ⟨e,k1⟩=>?_
 subst e;rw[hK];clear hK K;have as:nU (nM (LD R))=some (.fix ((LD R).map nT)):=rfl;have ce:aR 1 [1] [some (aV R W),some (nM (LD R))]=[none,some (nM (LD R))]:=rfl;simp[as,lA,ce];have T:∀ l∈LD R,vB (some (nT l)::[some (nM (LD R))])=(Pure.pure true:DM Bool):=λl hl=>by
  have hl':=JT hl;have at':nU (nT l)=some (.fix (l.map nD)):=rfl;have ce2:aR 1 [1,0] [some (nT l),some (nM (LD R))]=[none,some (nM (LD R)),some (nT l)]:=rfl;have n25:=h.n25;simp only[vB,List.getElem?_cons_zero,Option.join_some,o7,aD,at',lA,ce2];rw[dq nD (λy=>.bl true) (by omega) λy hy=>by
   have e:gr (LD R) y=l:=by
    rw[Ci h al]at hl ⊢
    rw[Xb hl];exact KD (hl'.2.2 y hy)
   simp[jH (R:=LD R) (i:=y) (by rw[Cj];exact hl'.2.2 y hy),Mz,e]]
  rw[aD,ig,jx];simp
 have ne:yt (List.range R.length)≠[]:=λz=>by have:=congrArg List.length z;unfold yt at this;rw[RT,Sv,List.length_nil]at this;omega
 obtain⟨z,q⟩:=CQ (rest:=[some (nM (LD R))]) ne nT (LD R) none [] (by simp) (ft:=vB) (fe:=bL 0) T (λl hl=>by rw[Ci h al]at hl;rw[Xb hl];simp[Lw])
 refine (show Rn (cU (bA (gN 0) vB (fO (bL 0)) ((LD R).map nT) [none,some (nM (LD R))] [])>>=_) M1 _ from ?_)
 rw[q];obtain⟨m,hm⟩:∃m,(LD R).length=m+1:=⟨R.length-1,by rw[Cj];omega⟩
 have sl:∀M,(λ_:Mo=>Ni (([]:List D)++List.replicate (LD R).length (tupI (yt (List.range R.length))))) M=some (.lst [tupI (yt (List.range R.length))]):=λM=>by rw[hm];rfl
 simp only[HJ,aD];refine Rn.bindRd _ (sl M1) ?_;refine Rn.bindRd (.tup [tupI (yt (List.range R.length))]) rfl ?_;exact Rn.pure ⟨_,rfl,by simp[nM,Lw],k1⟩
noncomputable def BZ:=aG 1 1 (jy Ce fJ)
theorem LC{R:List (List Nat)}{W:Nat}(wk:WK R W)(h5:R.length<=5)(al:AL R)(M:Mo):Rn (BZ [aV R W]) M λd M'=>d=.non/\∀(j:Nat) (o:DO),M[j]?=some o->M'[j]?=some o:=by
 unfold BZ jy eZ;dsimp only;simp;refine Rn.bind (Nj wk al M) λd M1 ⟨e,k1⟩=>?_
 subst e;have t1:∀x:D,wW [x]=pure (.tup [x]):=λx=>vy (by simp)
 have e2:D.tup [nT (List.range R.length)]=nM [List.range R.length]:=rfl;simp only[lQ wk.n25,aD,Jv (n:=R.length) (by omega),t1,e2,Kr [List.range R.length] [List.range R.length] (by simp),decide_true,Bool.not_true,pY,Bool.false_eq_true,if_false]
 exact Rn.pure ⟨rfl,k1⟩
theorem Ln{c:Nat}{l:List Nat}{i:Nat}:ga (l.map (c * ·)) i=c*ga l i:=by
 by_cases h:i<l.length
 ·rw[aQ (by simpa using h),aQ h];simp
 ·rw[wI (by simpa using h),wI (by omega),VD]
noncomputable def gR(R:List (List Nat)):Nat:=R.foldl (λg r=>r.foldl Nat.gcd g) 0
noncomputable def cN(R:List (List Nat)):List (List Nat):=R.map λr=>r.map (·/ gR R)
theorem Dm{R:List (List Nat)}:∀ r∈R,∀ n∈r,gR R ∣ n:=by
 have key:∀ (R:List (List Nat)) (g:Nat),R.foldl (λg r=>r.foldl Nat.gcd g) g ∣ g/\∀ r∈R,∀ n∈r,R.foldl (λg r=>r.foldl Nat.gcd g) g ∣ n:=by
  intro R;induction R with
  |nil=>exact λg=>⟨Nat.dvd_refl _,λr h=>absurd h (by simp)⟩
  |cons r R ih=>
    intro g;obtain⟨h1,h2⟩:=ih (r.foldl Nat.gcd g);obtain⟨k1,k2⟩:=uP r g;refine⟨Nat.dvd_trans h1 k1,λr' hr n hn=>?_⟩
    rcases R8.mp hr with rfl | q
    ·exact Nat.dvd_trans h1 (k2 n hn)
    ·exact h2 r' q n hn
 exact (key R 0).2
theorem yr:∀{l:List Nat},(∀n∈l,n=0)->l.sum=0
 |[],_=>rfl
 |a::l,h=>by rw[VN,h a (by simp),yr λn hn=>h n (by simp[hn])]
theorem oW{R:List (List Nat)}{W:Nat}(wk:WK R W):0<gR R:=by
 rcases T6 (gR R) with z | z
 ·have h:=wk.head;have e:=wk.sum _ h;have:(gr R 0).sum=0:=yr λn hn=>by have:=Dm _ h n hn;rw[z]at this;exact Nat.eq_zero_of_zero_dvd this
  have:=wk.w1;omega
 ·exact z
theorem uD{R:List (List Nat)}{r:List Nat}(hr:r∈R):r=(r.map (·/ gR R)).map (gR R * ·):=by
 rw[Tq]
 conv=>lhs;rw[<-List.map_id r]
 exact Sd λn hn=>(Nat.mul_div_cancel' (Dm r hr n hn)).symm
theorem WK.plain{R:List (List Nat)}{W:Nat}(wk:WK R W):WK (cN R) (W / gR R):=by
 have g0:=oW wk;have sm:∀r∈R,(r.map (·/ gR R)).sum*gR R=W:=λr hr=>by rw[WW,<-N10.zY,<-uD hr,wk.sum r hr]
 refine⟨by simp[cN];exact wk.n1,by simp[cN];exact wk.n25,λl hl=>?_,λl hl=>?_,?_⟩
 ·obtain⟨r,hr,rfl⟩:=Te.mp hl;simp[cN,wk.row r hr]
 ·obtain⟨r,hr,rfl⟩:=Te.mp hl;exact (Nat.div_eq_of_eq_mul_left g0 (sm r hr).symm).symm
 ·have:=sm _ wk.head;rw[<-this,Nat.mul_div_cancel _ g0];rcases T6 ((gr R 0).map (·/ gR R)).sum with z | z
  ·rw[z]at this;have:=wk.w1;omega
  ·exact z
theorem Ml{R:List (List Nat)}{x y:Nat}(hx:x<R.length):ga (gr R x) y=gR R*ga (gr (cN R) x) y:=by
 have e:gr (cN R) x=(gr R x).map (·/ gR R):=by rw[gQ (by simp[cN];exact hx),gQ hx];simp[cN]
 rw[e,<-Ln,<-uD (gr_mem hx)]
noncomputable def qJ:=aG 1 4 (rY rK oG)
theorem Dn{f:aa->DM Fl}{x y:Option D}(h:∀ (g n:Nat),f [x,some (nD g),y,some (nD n)]=pure (.nx [x,some (nD (Nat.gcd g n)),y,some (nD n)])):∀ (l:List Nat) (g:Nat) z,∃ u,forL (gN 3) f (l.map nD) [x,some (nD g),y,z]=pure (.nx [x,some (nD (l.foldl Nat.gcd g)),y,u])
 |[],g,z=>⟨z,rfl⟩
 |n::l,g,z=>by obtain⟨u,hu⟩:=Dn h l (Nat.gcd g n) (some (nD n));refine⟨u,?_⟩;simp[forL,h,hu]
theorem zp{f:aa->DM Fl}{x:Option D}(h:∀ (g:Nat) (r:List Nat) z,∃ u,f [x,some (nD g),some (nT r),z]=pure (.nx [x,some (nD (r.foldl Nat.gcd g)),some (nT r),u])):∀ (R:List (List Nat)) (g:Nat) y z,∃ u v,forL (gN 2) f (R.map nT) [x,some (nD g),y,z]=pure (.nx [x,some (nD (R.foldl (λg r=>r.foldl Nat.gcd g) g)),u,v])
 |[],g,y,z=>⟨y,z,rfl⟩
 |r::R,g,y,z=>by obtain⟨u1,h1⟩:=h g r z;obtain⟨u,v,hu⟩:=zp h R (r.foldl Nat.gcd g) (some (nT r)) u1;refine⟨u,v,?_⟩;simp[forL,h1,hu]
theorem zL{R:List (List Nat)}{W:Nat}(wk:WK R W)(hW:W<2 ^ 8000):qJ [aV R W]=pure (aV (cN R) (W / gR R)):=by
 have n2:=wk.n25;have g0:=oW wk;have gb:gR R<2^8000:=by
  have h:=wk.plain.w1;have:gR R<=W:=by
   rcases Nat.lt_or_ge W (gR R) with z | z
   ·rw[Nat.div_eq_of_lt z]at h;omega
   ·exact z
  exact Tu this (RQ hW (Tr (by decide) (by decide)))
 obtain⟨u,v,hu⟩:=zp (x:=some (aV R W)) (f:=λδ=>opt δ[2]?.join>>=λd=>opt (nU d)>>=λit=>GC 0 (gN 3) (λδ=>opt δ[1]?.join>>=λa=>opt δ[3]?.join>>=λb=>rK [a,b]>>=λd=>pure (Fl.nx (δ.set 1 (some d)))) it δ) (λg r z=>by
  obtain⟨u,hu⟩:=Dn (x:=some (aV R W)) (y:=some (nT r)) (f:=λδ=>opt δ[1]?.join>>=λa=>opt δ[3]?.join>>=λb=>rK [a,b]>>=λd=>pure (Fl.nx (δ.set 1 (some d)))) (λg n=>by simp[Kz]) r g z
  exact⟨u,by simp[tK,fF,hu]⟩) R 0 none none
 simp[qJ,rY,gD,tH,fF];rw[show (D.int 0)=nD 0 from rfl,hu]
 simp[gD,tH,aR,cu];rw[dq nT (λr=>nT (r.map (·/ gR R))) (by omega) (λr hr=>by
  simp[tK,aR,cu];rw[dq nD (λn=>nD (n / gR R)) (by have:=wk.row r hr;omega) (λn hn=>by show (rd (mU (nD n) (nD (gR R))):DM D)=_;exact Em g0 gb)]
  simp[nT,Function.comp_def])]
 have e:D.tup (R.map λr=>nT (r.map (·/ gR R)))=nM (cN R):=by simp[nM,cN,Function.comp_def]
 simp[e,yH wk.plain]
structure Spl(n:Nat)(P:List Nat):Prop where
 ne:P≠[]
 lt:∀x∈P,x<n
 up:P.Pairwise (·< ·)
 sm:P.length<=n
theorem Qg(l:List Nat):nU (nT l)=some (.fix (l.map nD)):=rfl
noncomputable def BW:=aG 2 2 (rR vJ)
theorem KQ(x n:Nat):BW [nD x,nD n]=pure (.bl (decide (x<n))):=by
 have e1:(rd (zz (.int 0) (nD x)):DM D)=pure (.bl true):=by rw[show D.int 0=nD 0 from rfl,xJ,S5 (Vn _)]
 simp[BW,rR,Dt,e1,Ew]
noncomputable def Fri:=aG 1 1 (qw)
theorem Fe{P:List Nat}(h:P.Pairwise (·< ·))(hl:P.length<=1000):Fri [nT P]=pure (.bl true):=by
 have e1:xR [.int 1,nD P.length]=some (.fix ((List.range (P.length-1)).map λk=>nD (1+k))):=Jx (a:=1) (by decide) (by omega)
 simp[Fri,qw,aR,cu,Eu,e1];rw[dq (λk=>nD (1+k)) (λz=>D.bl true) (by simp;omega) (λk hk=>by
  have hk:k<P.length-1:=by simpa using hk
  have e2:(rd (rE (nD (1+k)) (.int 1)):DM D)=pure (nD k):=by
   have:=Ez (a:=1+k) (b:=1) (by omega)
   rw[show 1+k-1=k by omega]at this
   exact this
  have e3:ga P k<ga P (1+k):=by
   rw[aQ (by omega),aQ (by omega)]
   exact UW.mp h _ _ _ _ (by omega)
  simp[e2,m7 (l:=P) (i:=k) (by omega),m7 (l:=P) (i:=1+k) (by omega),Ew,e3])]
 rw[aD,ig,jx]
noncomputable def vM:=aG 2 2 (gj BW Fri)
theorem Ie{n:Nat}{P:List Nat}(h:Spl n P)(hn:n<=25):vM [nT P,nD n]=pure (.bl true):=by
 have hl:=h.sm;simp[vM,gj,aR,cu,Qg,MF,Fe h.up (by omega)]
 rw[dq nD (λz=>.bl true) (by omega) (λx hx=>by simp[KQ,h.lt x hx])]
 rw[aD,ig,jx];simp[Fe h.up (show P.length<=1000 by omega)]
noncomputable def BX:=aG 2 2 (vU vM)
theorem K3{n:Nat}{P:List Nat}(h:Spl n P)(hn:n<=25):BX [nT P,nD n]=pure (.bl true):=by have e:0<P.length:=Xn.mpr h.ne;simp[BX,vU,Ie h hn,Eu];rw[show D.int 0=nD 0 from rfl,tL,S5 e]
noncomputable def vL:=aG 2 2 (jQ BX fJ)
theorem Jy{R:List (List Nat)}{W:Nat}{P:List Nat}(h:Spl R.length P)(hn:R.length<=25):vL [aV R W,nT P]=pure .non:=by simp[vL,jQ,lQ hn,K3 h hn]
noncomputable def uI:List D->DM D
 |[.int a,.int b]=>if 0<=a/\0<=b then pure (nD (Nat.gcd a.toNat b.toNat)) else stuck
 |_=>stuck
theorem J8(a b:Nat):uI [nD a,nD b]=pure (nD (Nat.gcd a b)):=by simp[uI,nD]
set_option tactic.hygienic true in
theorem Nz:∀ ds M r,uI ds M=some r->∃ n,aG 2 2 (eV n) ds M=some r:=by
 intro ds M r h;unfold uI at h;split at h
 ·rename_i a b;split at h
  ·rename_i hab;obtain⟨x,rfl⟩:∃x:Nat,a=x:=⟨a.toNat,by omega⟩
   obtain⟨y,rfl⟩:∃y:Nat,b=y:=⟨b.toNat,by omega⟩
   have h1:∀a b:Nat,(λδ=>(λδ=>(bL 1) δ>>=λx=>(λz=>pure (D.int 0)) δ>>=λy=>rd (sH x y)) δ>>=gY) [some (nD a),some (nD b)]=(pure (b != 0):DM Bool):=λa b=>by have g:(rd (sH (nD b) (.int 0)):DM D)=pure (.bl (decide (0<b))):=tL b 0;simp[g];congr 1;rw[S8];simp;omega
   have h2:∀a b:Nat,0<b->(ux 0 1 (λδ=>(bL 1) δ>>=λx=>(λδ=>(λδ=>(bL 0) δ>>=λx=>(bL 1) δ>>=λy=>rd (gF x y)) δ>>=λx=>(λz=>pure []) δ>>=λxs=>pure (x::xs)) δ>>=λxs=>pure (x::xs))) [some (nD a),some (nD b)]=pure (.nx [some (nD b),some (nD (a%b))]):=λa b hb=>by
    have:=xK (a:=a) hb;simp[nD]at this ⊢
    simp[this]
   obtain⟨n,hn⟩:=zq (c:=(λδ=>(λδ=>(bL 1) δ>>=λx=>(λz=>pure (D.int 0)) δ>>=λy=>rd (sH x y)) δ>>=gY)) (f:=(ux 0 1 (λδ=>(bL 1) δ>>=λx=>(λδ=>(λδ=>(bL 0) δ>>=λx=>(bL 1) δ>>=λy=>rd (gF x y)) δ>>=λx=>(λz=>pure []) δ>>=λxs=>pure (x::xs)) δ>>=λxs=>pure (x::xs)))) h1 h2 y x
   refine⟨n,?_⟩;rw[<-h];have:aG 2 2 (eV n) [.int x,.int y]=pure (nD (Nat.gcd x y)):=by unfold eV iD;have e:bx 2 [D.int x,D.int y]=[some (nD x),some (nD y)]:=rfl;simp only[El,e,HN,hn];simp
   rw[this];simp
  ·cases h
 ·cases h
noncomputable def BJ:=aG 1 3 (iU uI)
theorem yZ{f:aa->DM Fl}{x:Option D}(h:∀ (g n:Nat),f [x,some (nD g),some (nD n)]=pure (.nx [x,some (nD (Nat.gcd g n)),some (nD n)])):∀ (l:List Nat) (g:Nat) z,∃ u,forL (gN 2) f (l.map nD) [x,some (nD g),z]=pure (.nx [x,some (nD (l.foldl Nat.gcd g)),u])
 |[],g,z=>⟨z,rfl⟩
 |n::l,g,z=>by obtain⟨u,hu⟩:=yZ h l (Nat.gcd g n) (some (nD n));refine⟨u,?_⟩;simp[forL,h,hu]
theorem J0(l:List Nat):BJ [.lst (l.map nD)]=pure (nD (oX l)):=by
 have an:(rd (lL (.lst (l.map nD))):DM Itn)=pure (.fix (l.map nD)):=rfl;obtain⟨u,hu⟩:=yZ (x:=some (.lst (l.map nD))) (f:=λδ=>opt δ[1]?.join>>=λa=>opt δ[2]?.join>>=λb=>uI [a,b]>>=λd=>pure (Fl.nx (δ.set 1 (some d)))) (λg n=>by simp[J8]) l 0 none
 simp[BJ,iU,an,fF];rw[show (D.int 0)=nD 0 from rfl,hu]
 simp[oX]
theorem Js{x y:List Nat}(h:x.length+y.length<=1000000):(rd (cJ (nT x) (nT y)):DM D)=pure (nT (x++y)):=bH λM=>by
 have:cR (x.map nD++y.map nD)=true:=by unfold cR;exact S5 (by show _<=2^24;rw[R6,RT,RT];omega)
 simp[cJ,nT,Nt,this]
noncomputable def rr(r:List Nat)(x:Nat):List Nat:=r.set ((x+1)%r.length) (ga r ((x+1)%r.length)+1)
theorem MP(r:List Nat)(x:Nat):(rr r x).length=r.length:=by simp[rr]
noncomputable def jc(R:List (List Nat))(i:Nat):List (List Nat):=(List.range i).map λx=>rr (gr R x) x
theorem dU(R:List (List Nat))(i:Nat):(jc R i).length=i:=by simp[jc]
theorem Ff{R:List (List Nat)}{x i:Nat}(h:x<i):gr (jc R i) x=rr (gr R x) x:=by rw[gQ (by rw[dU];exact h)];simp[jc]
theorem Nf{R:List (List Nat)}{W:Nat}(wk:WK R W):WK (jc R R.length) (W+1):=by
 have n1:=wk.n1;refine⟨by rw[dU];exact n1,by rw[dU];exact wk.n25,λr hr=>?_,λr hr=>?_,by omega⟩
 ·obtain⟨x,hx,rfl⟩:=Te.mp hr;rw[MP,dU,wk.row _ (gr_mem (RW.mp hx))]
 ·obtain⟨x,hx,rfl⟩:=Te.mp hr;have l:=wk.row _ (gr_mem (RW.mp hx));have s:=wk.sum _ (gr_mem (RW.mp hx));have hi:(x+1)%(gr R x).length<(gr R x).length:=UL _ (by omega)
  have:=zU (v:=ga (gr R x) ((x+1)%(gr R x).length)+1) hi;unfold rr;omega
theorem Nb{R:List (List Nat)}{W:Nat}(wk:WK R W):AL (jc R R.length):=by
 have n1:=wk.n1;intro x hx a ha;rw[dU]at hx ha;have key:∀ d a,a<R.length->(a + d) % R.length=x->To (jc R R.length) x a:=by
  intro d;induction d with
  |zero=>intro a ha e;rw[Nat.add_zero,Xa ha]at e;subst e;exact .here
  | succ d ih=>
    intro a ha e;have hl:=wk.row _ (gr_mem ha);have hi:(a+1)%R.length<R.length:=UL _ (by omega)
    refine .step (j:=(a+1)%R.length) (by rw[dU];exact hi) ?_ (ih _ hi ?_)
    ·rw[Ff ha];unfold rr;rw[hl,aQ (by rw[U4,hl];exact hi),WD]
     omega
    ·rw[Nat.mod_add_mod,<-e];congr 1;omega
 refine key (x+R.length-a) a ha ?_;rw[show a+(x+R.length-a)=x+R.length by omega,Nat.add_mod_right,Xa hx]
theorem CT{fe:aa->DM D}{rest:aa}{n:Nat}{h R:Nat->D}{x y:Option D}(hn:n<=1000)(hf:∀ j,j<n->fe (some (nD j)::some (h j)::rest)=pure (R j)){β:Type}{k:aa×List D->DM β}(k':List D->DM β)(hk:∀ q,k q=k' q.2):
  (cU (bA (gT 2 (bY (gN 0) (bY (gN 1) eX))) (λz=>pure true) (bW fe) ((List.range n).map λj=>.tup [nD j,h j]) (x::y::rest) [])>>=k)=k' ((List.range n).map R):=by
 let f1:D->D:=λd=>match d with | .tup [a,b]=>a | _=>.non
 let f2:D->D:=λd=>match d with | .tup [a,b]=>b | _=>.non
 let e:D->D:=λd=>match d with | .tup [.int i,_]=>R i.toNat | _=>.non
 obtain ⟨δ',q⟩:=mZ (fg:=gT 2 (bY (gN 0) (bY (gN 1) eX))) (ft:=λz=>pure true) (fe:=fe) (λδ=>∃ x y,δ=x::y::rest) (λd=>some (f1 d)::some (f2 d)::rest) (λz=>true) e ((List.range n).map λj=>.tup [nD j,h j]) (x::y::rest) [] ⟨x,y,rfl⟩ (by simp;omega)
  (λd hd δ ⟨x,y,hδ⟩=>by
    obtain⟨j,_,rfl⟩:=Te.mp hd;exact⟨by subst hδ;rfl,_,_,rfl⟩) (λd z=>rfl) (λd hd z=>by
    obtain⟨j,hj,rfl⟩:=Te.mp hd;have:=hf j (RW.mp hj);show fe (some (nD j)::some (h j)::rest)=pure (R (j:Int).toNat);rw[TQ];exact this)
 have m:(((List.range n).map λj=>D.tup [nD j,h j]).filter λz=>true).map e=(List.range n).map R:=by
  rw[Uw.mpr (λz z=>rfl),Tq]
  refine Sd λj z=>?_
  show R (j:Int).toNat=R j;rw[TQ]
 rw[q,m];simp[hk]
noncomputable def BL:=aG 1 5 (oM)
theorem Qo(R:List (List Nat)):jV [nM R]=some (.fix ((List.range R.length).map λj=>.tup [nD j,nT (gr R j)])):=by
 have e:R.map nT=(List.range' 0 R.length).map λj=>nT (gr R j):=by
  apply Tt
  ·simp
  ·intro i h1 h2;simp at h1;simp[gQ h1]
 show some (Itn.fix (dY 0 (R.map nT)))=_;rw[e,dN,Uh]
theorem Qp(l:List Nat):jV [nT l]=some (.fix ((List.range l.length).map λj=>.tup [nD j,nD (ga l j)])):=by
 have e:l.map nD=(List.range' 0 l.length).map λj=>nD (ga l j):=by
  apply Tt
  ·simp
  ·intro i h1 h2;simp at h1;simp[aQ h1]
 show some (Itn.fix (dY 0 (l.map nD)))=_;rw[e,dN,Uh]
theorem MT{r:List Nat}{x:Nat}(h:0<r.length):(List.range r.length).map (λy=>ga r y+if y=(x+1)%r.length then 1 else 0)=rr r x:=by
 refine Ku (by simp[rr]) λy hy=>?_
 have hy:y<r.length:=by simpa using hy
 rw[aQ (by simpa using hy)]
 simp only[List.getElem_map,List.getElem_range];unfold rr;by_cases q:y=(x+1)%r.length
 ·subst q;rw[R1 rfl,aQ (l:=r.set _ _) (by simpa using hy),WD]
 ·rw[R3 q,Nh (λe=>q e.symm)];rfl
noncomputable def QQ(M0:Mo)(q:Nat)(R:List (List Nat))(i:Nat)(δ:aa)(M:Mo):Prop:=(∃z3 z4,δ=[some (nM R),some (.ref q),some (nD R.length),z3,z4])/\M[q]?=some (.lst ((jc R i).map nT))/\Sb q M0 M
theorem J5{R:List (List Nat)}{W:Nat}(wk:WK R W)(M:Mo):Rn (BL [nM R]) M λd M'=>d=nM (jc R R.length)/\∀ (j:Nat) (o:DO),M[j]?=some o->M'[j]?=some o:=by
 have n1:=wk.n1;have n2:=wk.n25;unfold BL oM jG;dsimp only;refine Rn.call rfl ?_;have st:bx 5 [nM R]=[some (nM R),none,none,none,none]:=rfl;rw[st];refine aF λK hK=>?_
 simp;refine Rn.dW (by simp) ?_
 have at1:(M++[DO.lst []])[M.length]?=some (.lst []):=by simp
 have sb1:Sb M.length M (M++[DO.lst []]):=Sb.push;have t2:∀x y:D,wW [x,y]=pure (.tup [x,y]):=λx y=>vy (by simp)
 have lm:(rd (jC [nM R]):DM D)=pure (nD R.length):=my R;simp[lm,t2,gT,bY,eX];rw[hK];clear hK K;revert at1 sb1;generalize hq:M.length=q;generalize M++[DO.lst []]=M1;intro at1 sb1;refine aF λK hK=>?_
 simp[Qo,fF];refine Rn.bind (bC (QQ M q R) _ 0 _ _ ⟨⟨_,_,rfl⟩,at1,sb1⟩ (λx d δ M5 hx hI=>?_)) (λr M5 hI=>?_)
 ·clear hK K;obtain⟨⟨z3,z4,rfl⟩,at5,sb5⟩:=hI;have hx':x<R.length:=by have:=(RK.mp hx).1;simpa using this
  rw[R0,Tw hx']at hx;have:=RP hx;subst this;rw[Ti]at at5 ⊢
  have hl:=wk.row _ (gr_mem hx');have l0:0<(gr R x).length:=by omega
  have md:=dR (a:=x+1) (show 0<R.length by omega)
  simp[gT,bY,eX];refine Rn.bindRd _ (by simp only[aM,at5];rfl) ?_
  simp[Qp,aR,cu];rw[CT (R:=λj=>nD (ga (gr R x) j+if j=(x+1)%(gr R x).length then 1 else 0)) (by omega) (λj hj=>by
   rw[hl];by_cases c:j=(x+1)%R.length
   ·simp[mq,md,bZ,c,oZ,eN]
   ·simp[mq,md,bZ,c,oZ,eN]) (λl=>Ad (D.ref q) [D.tup l]>>=λz=>pure (Fl.nx [some (nM R),some (D.ref q),some (nD R.length),some (nD x),some (nT (gr R x))])) (λz=>rfl)]
  have e3:D.tup ((List.range (gr R x).length).map λj=>nD (ga (gr R x) j+if j=(x+1)%(gr R x).length then 1 else 0))=nT (rr (gr R x) x):=by rw[<-MT l0];simp[nT]
  rw[e3];refine Rn.run (ji at5 (by rw[RT,dU];omega)) ?_
  refine Rn.pure ⟨_,rfl,⟨_,_,rfl⟩,?_,sb5.trans Sb.set⟩;rw[TY (RK.mp at5).1];congr 2;unfold jc;rw[Ud,T5,T5];rfl
 ·obtain⟨δ',rfl,⟨z3,z4,rfl⟩,at5,sb5⟩:=hI;rw[hK];clear hK K;rw[RT,Sv,Ti]at at5;simp;refine Rn.bindRd (nM (jc R R.length)) (by show (aM (.ref q) M5).map _=_;simp only[aM,at5];rfl) ?_
  exact Rn.pure ⟨_,rfl,rfl,λj o e=>sb5.at (by have:=(RK.mp e).1;omega) e⟩
noncomputable def subs:Nat->List (List Nat)
 |0=>[[]]
 |k+1=>subs k++(subs k).map λP=>P++[k]
theorem yp:∀k,(subs k).length=2^k
 |0=>rfl
 |k+1=>by simp[subs,yp k,Nat.pow_succ];omega
theorem p7:∀ (k:Nat) (P:List Nat),P∈subs k->(∀ x∈P,x<k)/\P.Pairwise (·< ·)/\P.length<=k
 |0,P,h=>by
   obtain rfl:P=[]:=by simpa[subs] using h
   simp
 | k + 1,P,h=>by
   rcases Su.mp (show P∈subs k++(subs k).map λP=>P++[k] from h) with h | h
   ·obtain⟨a,b,c⟩:=p7 k P h;exact⟨λx hx=>Vl (a x hx),b,by omega⟩
   ·obtain⟨Q,hQ,rfl⟩:=Te.mp h;obtain⟨a,b,c⟩:=p7 k Q hQ;refine⟨λx hx=>?_,?_,by simp;omega⟩
    ·rcases Su.mp hx with z | z
     ·exact Vl (a x z)
     ·have:=SJ.mp z;omega
    ·rw[List.pairwise_append];exact⟨b,by simp,λx hx y hy=>by have:=SJ.mp hy;have:=a x hx;omega⟩
theorem rF:∀ k,∃ t,subs k=[]::t/\∀ P∈t,P≠[]
 |0=>⟨[],rfl,by simp⟩
 | k + 1=>by
   obtain⟨t,e,h⟩:=rF k;refine⟨t++(subs k).map (λP=>P++[k]),?_,λP hP=>?_⟩
   ·show subs k++_=_
    conv=>lhs;arg 1;rw[e]
    rfl
   ·rcases Su.mp hP with q | q
    ·exact h P q
    ·obtain⟨Q,_,rfl⟩:=Te.mp q;simp
noncomputable def Cd:=aG 1 3 (qu)
noncomputable def QZ(M0:Mo)(n i:Nat)(δ:aa)(M:Mo):Prop:=(∃z,δ=[some (nD n),some (.lst ((subs i).map nT)),z])/\M=M0
theorem Ng{n:Nat}(hn:n<=5):Cd [nD n]=pure (.lst ((subs n).tail.map nT)):=uy λM=>by
 unfold Cd qu lq;dsimp only;refine Rn.call rfl ?_;have st:bx 3 [nD n]=[some (nD n),none,none]:=rfl;rw[st];have l1:∀x:D,lU [x]=pure (.lst [x]):=λx=>gU (by simp)
 have e1:lB [nD n]=some (.fix ((List.range n).map nD)):=ik (by omega)
 have t0:wW []=pure (nT []):=vy (by simp)
 refine aF λK hK=>?_
 simp[l1,t0];rw[hK];clear hK K;refine aF λK hK=>?_
 simp[e1,fF];refine Rn.bind (bC (QZ M n) _ 0 _ _ ⟨⟨none,rfl⟩,rfl⟩ (λj d δ M1 hj hI=>?_)) (λr' M1 hI=>?_)
 ·obtain⟨⟨z,rfl⟩,rfl⟩:=hI;obtain⟨hj',rfl⟩:=Br hj;rw[Ti];rw[fV,aD];have sb:(subs j).length<=32:=by rw[yp];exact R7 (Tr (by decide) (show j<=5 by omega)) (by decide)
  have aj:(rd (lL (.lst ((subs j).map nT))):DM Itn)=pure (.fix ((subs j).map nT)):=rfl;have tj:wW [nD j]=pure (nT [j]):=vy (by simp)
  simp[aR,cu,aj];rw[dq nT (λP=>nT (P++[j])) (by omega) (λP hP=>by have:=(p7 j P hP).2.2;simp[tj,Js (x:=P) (y:=[j]) (by simp;omega)])]
  have e2:((subs j).map λP=>nT (P++[j]))=((subs j).map λP=>P++[j]).map nT:=by simp
  simp only[aD,e2];rw[uz (by simp;omega),aD,<-T5]
  exact Rn.pure ⟨_,rfl,⟨_,rfl⟩,rfl⟩
 ·obtain⟨δ',rfl,⟨z,rfl⟩,rfl⟩:=hI;rw[hK];clear hK K;rw[RT,Sv,Ti];obtain⟨t,e,_⟩:=rF n;have a1:(za (D.int 1):DM (Option Int))=pure (some ((1:Nat):Int)):=rfl;have sl:(rd (uX (some ((1:Nat):Int)) none (.lst ((subs n).map nT))):DM D)=pure (.lst ((subs n).tail.map nT)):=bH λM=>by
   show some (D.lst (cutD ((subs n).map nT) (some ((1:Nat):Int)) none))=_;unfold cutD;rw[HT.sIx_none,HT.sIx_nat,Uz (by simp),e]
   simp
  simp only[iY,aZ,dC,a1,sl];exact Rn.pure ⟨_,rfl,by simp,rfl⟩
def iL(l:List Int):D:=.lst (l.map D.int)
def iM(T:List (List Int)):D:=.lst (T.map iL)
def del(c:Nat)(q:List Int):List Int:=q.take c++q.drop (c+1)
def sg(c:Nat):Int:=1-2*((c%2:Nat):Int)
def dn:Nat->List (List Int)->Int
 |_,[]=>1
 |0,_::_=>0
 |n+1,r::t=>((List.range r.length).map λc=>sg c*r.getD c 0*dn n (t.map (del c))).sum
noncomputable def nR:Nat->List D->DM D
 |0=>aG 1 5 λz=>stuck
 |n+1=>aG 1 5 (dD (nR n))
theorem Ou{l:List D}{i:Nat}:(rd (uX none (some (i:Int)) (.lst l)):DM D)=pure (.lst (l.take i)):=bH λM=>by show some (D.lst (cutD l none (some (i:Int))))=_;unfold cutD;rw[HT.sIx_none,HT.sIx_nat];simp
theorem zR{l:List D}{i:Nat}:(rd (uX (some (i:Int)) none (.lst l)):DM D)=pure (.lst (l.drop i)):=bH λM=>by
 show some (D.lst (cutD l (some (i:Int)) none))=_;unfold cutD;rw[HT.sIx_none,HT.sIx_nat,Uz (by simp)]
 rcases Nat.lt_or_ge l.length i with h | h
 ·rw[Nat.min_eq_right (by omega),List.drop_of_length_le (by omega),List.drop_of_length_le (by omega)]
 ·rw[Nat.min_eq_left h]
theorem Qn(l:List Int):jV [iL l]=some (.fix ((List.range l.length).map λj=>.tup [nD j,.int (l.getD j 0)])):=by
 have e:l.map D.int=(List.range' 0 l.length).map λj=>D.int (l.getD j 0):=by
  apply Tt
  ·simp
  ·intro i h1 h2;simp at h1;simp[h1]
 show some (Itn.fix (dY 0 (l.map D.int)))=_;rw[e,dN,Uh]
theorem Fy{b:Nat}:∀ (l:List Int),(∀ x∈l,x.natAbs<=b)->l.sum.natAbs<=l.length * b
 |[],_=>by simp
 |x::l,h=>by
   have:=Fy l λy hy=>h y (by simp[hy])
   have:=h x (by simp)
   simp[Nat.succ_mul];omega
theorem Bu(c:Nat):(sg c).natAbs=1:=by unfold sg;rcases Nat.mod_two_eq_zero_or_one c with h | h<;>rw[h]<;>rfl
theorem Ij{c:Nat}{q:List Int}{x:Int}(h:x∈del c q):x∈q:=by
 rcases Su.mp h with h | h
 ·exact Xj h
 ·exact Xk h
theorem Ii{c:Nat}{q:List Int}(h:c<q.length):(del c q).length=q.length-1:=by unfold del;rw[R6,Vd,Ve];omega
def Sq(b m:Nat)(T:List (List Int)):Prop:=T.length=m/\∀r∈T,r.length=m/\∀x∈r,x.natAbs<=b
theorem Sq.sub{b m:Nat}{r:List Int}{t:List (List Int)}(h:Sq b (m+1) (r::t)){c:Nat}(hc:c<m+1):Sq b m (t.map (del c)):=by
 obtain⟨h1,h2⟩:=h;refine⟨by simpa using h1,λq hq=>?_⟩
 obtain⟨q',hq',rfl⟩:=Te.mp hq;obtain⟨a,a'⟩:=h2 q' (by simp[hq'])
 exact⟨by rw[Ii (by omega)];omega,λx hx=>a' x (Ij hx)⟩
theorem Aw{b:Nat}:∀ (m:Nat) (T:List (List Int)),Sq b m T->(dn m T).natAbs<=(m * b) ^ m
 |0,T,h=>by have:T=[]:=List.eq_nil_of_length_eq_zero h.1;subst this;simp[dn]
 |m+1,[],h=>by cases h.1
 | m + 1,r::t,h=>by
   obtain⟨hl,ha⟩:=h.2 r (by simp)
   unfold dn;refine R7 (Fy (b:=b*((m+1)*b)^m) _ λx hx=>?_) ?_
   ·obtain⟨c,hc,rfl⟩:=Te.mp hx;have hc:=RW.mp hc;have i1:=Aw m _ (h.sub (c:=c) (by omega))
    have i2:(r.getD c 0).natAbs<=b:=by rw[Sx,RV hc];exact ha _ (Td hc)
    rw[Int.natAbs_mul,Int.natAbs_mul,Bu,Nat.one_mul];exact Vz i2 (R7 i1 (Nat.pow_le_pow_left (Nat.mul_le_mul_right _ (by omega)) _))
   ·rw[RT,Sv,hl,<-VP,Nat.pow_succ,WW];exact RX _
theorem En(T:List (List Int)):(rd (cP (iM T) (.lst [])):DM D)=pure (.bl T.isEmpty):=bH λM=>by
 have e1:∀T:List (List Int),cV (T.map iL)=some (T.map λl=>PyData.list (l.map PyData.int)):=by
  intro T;induction T with
  |nil=>rfl
  |cons l T ih=>simp[cV,toPy,iL,fZ l,ih]
 have e2:∀T:List (List Int),PyData.canLayAll0 (T.map λl=>PyData.list (l.map PyData.int))=true:=by
  intro T;induction T with
  |nil=>rfl
  |cons l T ih=>simp[PyData.canLayAll0,PyData.canLay0,lay_ints,ih]
 have e3:∀ T:List (List Int),PyData.depthAll (T.map λl=>PyData.list (l.map PyData.int))<=2:=by
  intro T;induction T with
  |nil=>simp[PyData.depthAll]
  |cons l T ih=>have h:=fL l;simp only[List.map_cons,PyData.depthAll,PyData.depth];omega
 have d:=e3 T;unfold iM;simp only[cP,L3.eqB,eqP,toPy,cV,e1,Option.map_some,PyData.canLay0,PyData.canLayAll0,e2,PyData.depth,PyData.eqv];rw[R1 (by rw[Bool.and_self,Bool.true_and];exact S5 (by omega))]
 cases T<;>rfl
theorem wX{i j:Int}(h:i.natAbs<2^3050)(h':j.natAbs<2^3050):(rd (iC (.int i) (.int j)):DM D)=pure (.int (i*j)):=
 Bm (zE (RQ h (Tr (by decide) (by decide))) (RQ h' (Tr (by decide) (by decide))))
def Dd(n:Nat)(r:List Int)(t:List (List Int))(i:Nat):Int:=((List.range i).map λc=>sg c*r.getD c 0*dn n (t.map (del c))).sum
noncomputable def QS(M0:Mo)(n:Nat)(r:List Int)(t:List (List Int))(i:Nat)(δ:aa)(M:Mo):Prop:=(∃z2 z3 z4,δ=[some (iM (r::t)),some (.int (Dd n r t i)),z2,z3,z4])/\M=M0
theorem wy{b:Nat}(hb:b<=1000):∀ (m k:Nat) (T:List (List Int)),m<=5->m<k->Sq b m T->nR k [iM T]=pure (.int (dn m T))
 |_,0,_,_,h,_=>absurd h (by omega)
 |0,k+1,T,_,_,h=>by
   have:T=[]:=List.eq_nil_of_length_eq_zero h.1;subst this;unfold nR dD cH;dsimp only;refine uy λM=>?_
   refine Rn.call rfl ?_;have st:bx 5 [iM []]=[some (iM []),none,none,none,none]:=rfl;rw[st];have l0:lU []=pure (.lst []):=gU (by simp)
   refine uc λK hK hR=>?_
   simp[l0,En];rw[hR];exact Rn.pure ⟨_,rfl,by simp[dn],rfl⟩
 |m+1,k+1,[],_,_,h=>by cases h.1
 | m + 1,k + 1,r::t,hm,hk,h=>by
   have ih:∀c,c<m+1->nR k [iM (t.map (del c))]=pure (.int (dn m (t.map (del c)))):=λc hc=>wy hb m k _ (by omega) (by omega) (h.sub hc)
   have l0:lU []=pure (.lst []):=gU (by simp)
   obtain⟨hl,ha⟩:=h.2 r (by simp)
   unfold nR dD cH;dsimp only;refine uy λM=>?_
   refine Rn.call rfl ?_;have st:bx 5 [iM (r::t)]=[some (iM (r::t)),none,none,none,none]:=rfl;rw[st];refine uc λK hK hR=>?_
   simp[l0,En];rw[hK];clear hK hR K;refine aF λK hK=>?_
   simp;rw[hK];clear hK K;refine aF λK hK=>?_
   have ix:(rd (eG (iM (r::t)) (.int 0)):DM D)=pure (iL r):=HH (i:=0) rfl;simp[ix,Qn,fF];refine Rn.bind (bC (QS M m r t) _ 0 _ _ ⟨⟨_,_,_,rfl⟩,rfl⟩ (λc d δ M1 hc hI=>?_)) (λr' M1 hI=>?_)
   ·obtain ⟨⟨z2,z3,z4,rfl⟩,rfl⟩:=hI;have hc':c<r.length:=by have:=(RK.mp hc).1;simpa using this
    rw[R0,Tw hc']at hc;have:=RP hc;subst this;rw[Ti];have a1:(za (D.int 1):DM (Option Int))=pure (some 1):=rfl;have sf:(rd (uX (some 1) none (iM (r::t))):DM D)=pure (iM t):=by have:=zR (l:=(r::t).map iL) (i:=1);exact this
    have al:(rd (lL (iM t)):DM Itn)=pure (.fix (t.map iL)):=rfl;have aN:∀n:Nat,(za (nD n):DM (Option Int))=pure (some (n:Int)):=λn=>rfl
    have hd:=Aw m _ (h.sub (c:=c) (by omega))
    have hx:(r[c]?.getD 0).natAbs<=b:=by rw[RV hc'];exact ha _ (Td hc')
    have tl:t.length=m:=by simpa using h.1
    simp[gT,bY,eX,a1,sf,al,aR,cu,lA];rw[dq iL (λq=>iL (del c q)) (by omega) (λq hq=>by
     have hq:=(h.2 q (by simp[hq])).1
     have z:(rd (cJ (.lst ((q.map D.int).take c)) (.lst ((q.map D.int).drop (c+1)))):DM D)=pure (iL (del c q)):=by
      rw[uz (by rw[Vd,Ve,RT];omega)]
      simp[iL,del]
     have z2:(rd (uX (some ((c:Int)+1)) none (.lst (q.map D.int))):DM D)=pure (.lst ((q.map D.int).drop (c+1))):=zR (i:=c+1);simp[iL,aN,Ou,mq,z2]at z ⊢
     exact z)]
    have eT:D.lst (t.map λq=>iL (del c q))=iM (t.map (del c)):=by simp[iM,Function.comp_def]
    have md:(rd (gF (nD c) (D.int 2)):DM D)=pure (nD (c%2)):=dR (a:=c) (b:=2) (by decide)
    have m1:(rd (iC (.int 2) (nD (c%2))):DM D)=pure (.int (2*((c%2:Nat):Int))):=wX (by decide +kernel) (by
     have:c%2<2:=UL _ (by decide)
     exact RQ (show ((c%2:Nat):Int).natAbs<2 from this) (by decide +kernel))
    have s1:(rd (rE (.int 1) (.int (2*((c%2:Nat):Int)))):DM D)=pure (.int (sg c)):=bH λM=>rfl
    have bb:b<2^3050:=Tu hb (by decide +kernel)
    have m2:(rd (iC (.int (sg c)) (.int (r[c]?.getD 0))):DM D)=pure (.int (sg c*r[c]?.getD 0)):=wX (by rw[Bu];decide +kernel) (by omega)
    have hd':(dn m (t.map (del c))).natAbs<2^3050:=by refine Tu (R7 hd (R7 (Nat.pow_le_pow_left (Vz (show m<=5 by omega) hb) m) (Tr (by decide) (show m<=5 by omega)))) (by decide +kernel)
    have sab:(sg c*r[c]?.getD 0).natAbs<2^3050:=by rw[Int.natAbs_mul,Bu,Nat.one_mul];omega
    have m3:∀v:Int,v=dn m (t.map (del c))\/(v=0/\r[c]?.getD 0=0)->(rd (iC (.int (sg c*r[c]?.getD 0)) (.int v)):DM D)=pure (.int (sg c*r[c]?.getD 0*dn m (t.map (del c)))):=λv hv=>by
     rcases hv with rfl | ⟨rfl,hz⟩
     ·exact wX sab hd'
     ·rw[wX sab (by decide +kernel),hz];simp
    have e2:(rd (cJ (.int (Dd m r t c)) (.int (sg c*r[c]?.getD 0*dn m (t.map (del c))))):DM D)=pure (.int (Dd m r t (c+1))):=bH λM=>by show some (D.int _)=some (D.int _);congr 2;unfold Dd;rw[Ud,T5,WT];simp
    simp only[aD,eT,md,m1,s1,m2,ih c (by omega)]
    by_cases hz:r[c]?.getD 0=0
    ·rw[R1 hz,aD,m3 0 (.inr ⟨rfl,hz⟩),aD,e2,aD];exact Rn.pure ⟨_,rfl,⟨_,_,_,rfl⟩,rfl⟩
    ·rw[R3 hz,aD,m3 _ (.inl rfl),aD,e2,aD];exact Rn.pure ⟨_,rfl,⟨_,_,_,rfl⟩,rfl⟩
   ·obtain⟨δ',rfl,⟨z2,z3,z4,rfl⟩,rfl⟩:=hI;rw[hK];clear hK K;simp;exact Rn.pure ⟨_,rfl,by rw[hl];simp[Dd,dn,hl],rfl⟩
noncomputable def yX:=aG 4 8 (qj)
def cQ(R:List (List Nat))(W:Nat)(o:List Nat)(x:Nat):List Int:=o.map λy=>(W:Int)*(if x=y then 1 else 0)-(ga (gr R x) y:Int)
def tQ(R:List (List Nat))(W:Nat)(o:List Nat)(i:Nat):List DO:=(o.take i).map λx=>DO.lst ((cQ R W o x).map D.int)
def bQ(q i:Nat):List D:=(List.range i).map λj=>D.ref (q+1+j)
noncomputable def jt(M:Mo)(R:List (List Nat))(W:Nat)(o:List Nat)(i:Nat):Mo:=M++DO.lst (bQ M.length i)::tQ R W o i
noncomputable def QW(M:Mo)(R:List (List Nat))(W:Nat)(o:List Nat)(c w:D)(i:Nat)(δ:aa)(M':Mo):Prop:=(∃z,δ=[some (nM R),some (.lst (o.map nD)),some c,some w,some (.ref M.length),z,none,none])/\M'=jt M R W o i
noncomputable def Ck:aa->DM Fl:=uH
 (λδ=>((bL 2 δ>>=λx=>pure D.non>>=λy=>rd (sO x y))>>=gY)>>=λk=>if k=true then (bL 4 δ>>=λx=>(bL 3 δ>>=λx=>pure []>>=λxs=>pure (x::xs))>>=λxs=>pure (x::xs))>>=λl=>rd (yK l)>>=λn=>
   kJ (gT 2 (bY (gN 6) (bY (gN 7) eX))) (λδ=>bL 7 δ>>=λd=>(bL 6 δ>>=λo=>bL 2 δ>>=λi=>xW o i d>>=λz=>pure δ)>>=λδ'=>pure (Fl.nx δ')) n 20 0 δ
   else pure (Fl.nx δ))
 (λδ=>bL 4 δ>>=λd=>pure (Fl.rt d))
theorem zA{R:List (List Nat)}{W:Nat}{o:List Nat}{c w:D}(wk:WK R W)(ho:∀ x∈o,x<R.length)(hW:W<=100)(ol:o.length<=5)(M:Mo){Q:D->Mo->Prop}
  (hQ:∀z,Rn (Ck [some (nM R),some (.lst (o.map nD)),some c,some w,some (.ref M.length),z,none,none]) (jt M R W o o.length) λr M'=>∃d,r=.rt d/\Q d M'):Rn (yX [nM R,.lst (o.map nD),c,w]) M Q:=by
 have n1:=wk.n1;have n2:=wk.n25;unfold yX qj kZ;dsimp only;refine Rn.call rfl ?_;have st:bx 8 [nM R,.lst (o.map nD),c,w]=[some (nM R),some (.lst (o.map nD)),some c,some w,none,none,none,none]:=rfl;rw[st];refine aF λK hK=>?_
 simp;refine Rn.dW (by simp) ?_
 rw[hK];clear hK K;refine aF λK hK=>?_
 have al:(rd (lL (.lst (o.map nD))):DM Itn)=pure (.fix (o.map nD)):=rfl;simp[al,fF];refine Rn.bind (bC (QW M R W o c w) _ 0 _ _ ⟨⟨_,rfl⟩,by simp[jt,bQ,tQ]⟩ (λi d δ M1 hi hI=>?_)) (λr M1 hI=>?_)
 ·obtain ⟨⟨z,rfl⟩,rfl⟩:=hI;rw[Ti];have hi':i<o.length:=by have:=(RK.mp hi).1;simpa using this
  have hd:d=nD o[i]:=by rw[R0,RV hi']at hi;exact (RP hi).symm
  subst hd;have hx:=ho _ (Td hi');have sm:(rd (yq [nT (gr R 0)]):DM D)=pure (nD W):=by rw[MK,wk.sum _ wk.head]
  have x0:(rd (eG (nM R) (.int 0)):DM D)=pure (nT (gr R 0)):=jH (i:=0) (by omega)
  have at1:(jt M R W o i)[M.length]?=some (.lst (bQ M.length i)):=by simp[jt]
  simp[al];refine Rn.bindRd _ (by simp only[aM,at1];rfl) ?_
  simp[al,aR,cu,lA];rw[dq nD (λy=>D.int ((W:Int)*(if o[i]=y then 1 else 0)-(ga (gr R o[i]) y:Int))) (by omega) (λy hy=>by
   have hy':=ho y hy;have e1:(rd (iC (nD W) (nD (if o[i]=y then 1 else 0))):DM D)=pure (nD (W*(if o[i]=y then 1 else 0))):=xM (Tu hW (by decide +kernel)) (by split<;>decide +kernel)
   have e2:(rd (rE (nD (W*(if o[i]=y then 1 else 0))) (nD (ga (gr R o[i]) y))):DM D)=pure (D.int ((W:Int)*(if o[i]=y then 1 else 0)-(ga (gr R o[i]) y:Int))):=bH λM=>by show some (D.int _)=some (D.int _);congr 2;split<;>simp
   simp[x0,sm,bZ,oZ,e1,jH hx,m7 (l:=gr R o[i]) (i:=y) (by rw[wk.row _ (gr_mem hx)];exact hy'),e2])]
  rw[aD];have er:(o.map λy=>D.int ((W:Int)*(if o[i]=y then 1 else 0)-(ga (gr R o[i]) y:Int)))=(cQ R W o o[i]).map D.int:=by simp[cQ]
  simp only[er];refine Rn.run (a:=D.ref (jt M R W o i).length) (M':=jt M R W o i++[DO.lst ((cQ R W o o[i]).map D.int)]) rfl ?_;have len:(jt M R W o i).length=M.length+1+i:=by simp[jt,tQ];omega
  refine Rn.run (ji (l:=bQ M.length i) (by rw[RZ (by omega)];exact at1) (by simp[bQ];omega)) ?_
  refine Rn.pure ⟨_,rfl,⟨_,rfl⟩,?_⟩;rw[len];unfold jt tQ bQ;rw[Ud];simp;rw[Vr (by simpa using hi')]
  simp
 ·obtain⟨δ',rfl,⟨z,rfl⟩,rfl⟩:=hI;rw[hK];clear hK K;rw[RT,Ti];exact hQ z
theorem wF{tg:D->aa->DM aa}{fb:aa->DM Fl}{n:Nat×List D}{m:Nat}(I:Nat->aa->Mo->Prop)
  (h1:∀i δ M,i<m->I i δ M->∃d,gf n i M=some (some d)/\Rn (tg d δ>>=fb) M λr M'=>∃δ',r=.nx δ'/\I (i+1) δ' M') (h2:∀δ M,I m δ M->gf n m M=some none) :
  ∀k i δ M f,i+k=m->k<f->I i δ M->Rn (kJ tg fb n f i δ) M λr M'=>∃δ',r=.nx δ'/\I m δ' M'
 |0,i,δ,M,0,_,h,_=>absurd h (by omega)
 |k+1,i,δ,M,0,_,h,_=>absurd h (by omega)
 |0,i,δ,M,f+1,e,_,hI=>by
   obtain rfl:i=m:=by omega
   unfold kJ;exact Rn.bindRd none (h2 δ M hI) (Rn.pure ⟨_,rfl,hI⟩)
 |k+1,i,δ,M,f+1,e,hf,hI=>by
   obtain⟨d,e1,hr⟩:=h1 i δ M (by omega) hI
   unfold kJ;refine Rn.bindRd (some d) e1 ?_;have hr':=hr;show Rn (tg d δ>>=λδ1=>fb δ1>>=λr=>_) M _
   rw[<-aZ];refine Rn.bind hr λr M' ⟨δ',er,hI'⟩=>?_
   subst er;exact wF I h1 h2 k (i+1) δ' M' f (by omega) (by omega) hI'
theorem Lg{R:List (List Nat)}{W:Nat}{o:List Nat}{w:D}{z:Option D}{M:Mo}:Rn (Ck [some (nM R),some (.lst (o.map nD)),some .non,some w,some (.ref M.length),z,none,none]) (jt M R W o o.length) λr M'=>∃d,r=.rt d/\d=.ref M.length/\M'=jt M R W o o.length:=by
 unfold Ck;refine aF λK hK=>?_
 have e:(rd (sO .non .non):DM D)=pure (.bl false):=bH λM=>rfl
 simp[e];rw[hK];simp;exact Rn.pure ⟨_,rfl,rfl,rfl⟩
def row2(R:List (List Nat))(W:Nat)(o:List Nat)(c:Nat)(ws:List Nat)(i j:Nat):List Int:=if j<i then (cQ R W o (ga o j)).set c (ga ws j:Int) else cQ R W o (ga o j)
def tO(R:List (List Nat))(W:Nat)(o:List Nat)(c:Nat)(ws:List Nat)(i:Nat):List DO:=(List.range o.length).map λj=>DO.lst ((row2 R W o c ws i j).map D.int)
noncomputable def qg(M:Mo)(R:List (List Nat))(W:Nat)(o:List Nat)(c:Nat)(ws:List Nat)(i:Nat):Mo:=M++DO.lst (bQ M.length o.length)::tO R W o c ws i
theorem vP{M:Mo}{R:List (List Nat)}{W:Nat}{o:List Nat}{c:Nat}{ws:List Nat}:jt M R W o o.length=qg M R W o c ws 0:=by
 unfold jt qg tQ tO;congr 2;rw[List.take_length];apply Tt
 ·simp
 ·intro i h1 h2;simp at h1;simp[row2,aQ h1]
theorem Le{R:List (List Nat)}{W:Nat}{o ws:List Nat}{c:Nat}{z:Option D}{M:Mo}(hc:c<o.length)(hw:ws.length=o.length)(ol:o.length<=5):Rn (Ck [some (nM R),some (.lst (o.map nD)),some (nD c),some (.lst (ws.map nD)),some (.ref M.length),z,none,none]) (jt M R W o o.length) λr M'=>∃ d,r=.rt d/\d=.ref M.length/\M'=qg M R W o c ws o.length:=by
 unfold Ck;refine aF λK hK=>?_
 have e:(rd (sO (nD c) .non):DM D)=pure (.bl true):=bH λM=>rfl
 have at0:∀i,(qg M R W o c ws i)[M.length]?=some (.lst (bQ M.length o.length)):=λi=>by simp[qg]
 simp[e];rw[vP (c:=c) (ws:=ws)];refine Rn.bindRd (M.length,ws.map nD) (by simp only[yK,at0,frz]) ?_
 refine Rn.bind (wF (m:=o.length) (λi δ M'=>(∃y6 y7,δ=[some (nM R),some (.lst (o.map nD)),some (nD c),some (.lst (ws.map nD)),some (.ref M.length),z,y6,y7])/\M'=qg M R W o c ws i) ?_ ?_ o.length 0 _ _ 20 (by omega) (by omega) ⟨⟨_,_,rfl⟩,rfl⟩) λr M' hI=>?_
 ·rintro i δ M' hi ⟨⟨y6,y7,rfl⟩,rfl⟩;refine⟨.tup [.ref (M.length+1+i),nD (ga ws i)],?_,?_⟩
  ·simp only[gf,at0];rw[pairs_at];have e1:(bQ M.length o.length)[i]?=some (.ref (M.length+1+i)):=by unfold bQ;rw[R0,Tw hi];rfl
   have e2:(ws.map nD)[i]?=some (nD (ga ws i)):=by rw[R0,RV (by omega),aQ (by omega)];rfl
   rw[e1,e2]
  ·simp [gT,bY,eX];have at2:(qg M R W o c ws i)[M.length+1+i]?=some (.lst ((row2 R W o c ws i i).map D.int)):=by
    unfold qg;rw[Sh (by omega),show M.length+1+i-M.length=i+1 by omega,Vs]
    unfold tO;rw[R0,Tw hi];rfl
   refine Rn.run (p6 (i:=c) at2 (by simp[row2,cQ];exact hc)) ?_
   refine Rn.pure ⟨_,rfl,⟨_,_,rfl⟩,?_⟩;unfold qg;rw[List.set_append_right _ _ (by omega),show M.length+1+i-M.length=i+1 by omega,List.set_cons_succ]
   congr 2;unfold tO;apply Tt
   ·simp
   ·intro j h1 h2;simp at h1;by_cases q:i=j
    ·subst q;simp[row2,List.map_set,nD]
    ·simp[List.getElem_set_ne q,row2];by_cases p:j<i
     ·rw[R1 p,R1 (by omega)]
     ·rw[R3 p,R3 (by omega)]
 ·rintro δ M' ⟨_,rfl⟩;simp only[gf,at0];rw[pairs_at];have e1:(bQ M.length o.length)[o.length]?=none:=by unfold bQ;rw[Ss];simp
  rw[e1]
 ·obtain⟨δ',rfl,⟨y6,y7,rfl⟩,rfl⟩:=hI;rw[hK];simp;exact Rn.pure ⟨_,rfl,rfl,rfl⟩
def EY:List D->Option (List Int)
 |[]=>some []
 |.int i::l=>(EY l).map (i::·)
 |_=>none
def zO(M:Mo)(k:Nat):List D->Option (List (List Int))
 |[]=>some []
 |.ref n::l=>if k<=n then match M[n]? with
   |some (.lst r)=>(EY r).bind λa=>(zO M k l).map (a::·)
   |_=>none
   else none
 |_=>none
theorem Fb{M:Mo}{k:Nat}:∀ {l:List D}{a:List Int},EY l=some a->Fzs M k l (a.map D.int)
 |[],a,h=>by cases h;exact .nil
 | d::l,a,h=>by
   cases d with
   |int i=>obtain⟨b,hb,rfl⟩:=RL.mp h;exact .cons (.int i) (Fb hb)
   |_=>cases h
set_option tactic.hygienic true in
theorem Fd{M:Mo}{k:Nat}:∀ {l:List D}{T:List (List Int)},zO M k l=some T->Fzs M k l (T.map iL)
 |[],a,h=>by cases h;exact .nil
 | d::l,a,h=>by
   cases d with
   | ref n=>
     unfold zO at h;split at h
     ·rename_i hk;split at h
      ·rename_i r hr;obtain⟨b,hb,h⟩:=Sw.mp h;obtain⟨T,hT,rfl⟩:=RL.mp h;exact .cons (.new hk hr (Fb hb)) (Fd hT)
      ·cases h
     ·cases h
   |_=>cases h
theorem zN:∀l:List Int,EY (l.map D.int)=some l
 |[]=>rfl
 |i::l=>by simp[EY,zN l]
theorem zP{M:Mo}{k:Nat}{f:Nat->Nat}{g:Nat->List Int}:∀ js:List Nat,(∀ j∈js,k<=f j/\M[f j]?=some (.lst ((g j).map D.int)))->zO M k (js.map λj=>D.ref (f j))=some (js.map g)
 |[],_=>rfl
 |j::js,h=>by
   obtain⟨h1,h2⟩:=h j (by simp)
   have:=zP js λi hi=>h i (by simp[hi])
   simp[zO,h1,h2,zN,this]
open Classical in
noncomputable def rM(ds:List D):DM D:=λM=>match yX ds M with
 |some (.ok (.ref q),M')=>if M.length<=q/\∀(j:Nat) (o:DO),M[j]?=some o->M'[j]?=some o then match M'[q]? with
   |some (.lst l)=>(zO M' M.length l).map λT=>(.ok (iM T),M)
   |_=>none
   else none
 |_=>none
set_option tactic.hygienic true in
theorem N8:∀ ds M r',(∀ M':Mo,(∀ (j:Nat) (o:DO),M[j]?=some o->M'[j]?=some o)->vO M' M.length M)->rM ds M=some r'->∃ r,yX ds M=some r/\Px M.length r r':=by
 intro ds M r' hz h;unfold rM at h;split at h
 ·rename_i q M' e;split at h
  ·rename_i hc;split at h
   ·rename_i l hl;obtain⟨T,hT,rfl⟩:=RL.mp h;exact⟨_,e,.new hc.1 hl (Fd hT),hz M' hc.2⟩
   ·cases h
  ·cases h
 ·cases h
theorem Hx{ds:List D}{T:List (List Int)}(h:∀M,Rn (yX ds) M λd M'=>∃m g,d=.ref M.length/\M'=M++DO.lst (bQ M.length m)::(List.range m).map (λj=>DO.lst ((g j).map D.int))/\T=(List.range m).map g):rM ds=pure (iM T):=by
 funext M;obtain⟨d,M',e,m,g,rfl,rfl,rfl⟩:=h M;unfold rM;rw[e];dsimp only;rw[R1 ⟨RX _,λj o ho=>by rw[RZ (RK.mp ho).1];exact ho⟩]
 have a1:(M++DO.lst (bQ M.length m)::(List.range m).map (λj=>DO.lst ((g j).map D.int)))[M.length]?=some (.lst (bQ M.length m)):=by simp
 rw[a1];dsimp only;unfold bQ;rw[zP (f:=λj=>M.length+1+j) (g:=g) (List.range m) λj hj=>⟨by omega,?_⟩]
 ·rfl
 ·rw[Sh (by omega),show M.length+1+j-M.length=j+1 by omega,Vs,R0,Tw (RW.mp hj)];rfl
theorem Ja{R:List (List Nat)}{W:Nat}{o:List Nat}{w:D}(wk:WK R W)(ho:∀ x∈o,x<R.length)(hW:W<=100)(ol:o.length<=5):rM [nM R,.lst (o.map nD),.non,w]=pure (iM (o.map (cQ R W o))):=by
 refine Hx λM=>zA wk ho hW ol M λz=>?_
 refine Rn.mono Lg λr M' h=>?_
 obtain⟨d,rfl,rfl,rfl⟩:=h;refine⟨_,rfl,o.length,λj=>cQ R W o (ga o j),rfl,?_,?_⟩
 ·rw[vP (c:=0) (ws:=[])];unfold qg tO row2;simp
 ·apply Tt
  ·simp
  ·intro i h1 h2;simp at h1;simp[aQ h1]
theorem Lf{R:List (List Nat)}{W:Nat}{o ws:List Nat}{c:Nat}(wk:WK R W)(ho:∀x∈o,x<R.length)(hW:W<=100)(ol:o.length<=5)(hc:c<o.length)(hw:ws.length=o.length):rM [nM R,.lst (o.map nD),nD c,.lst (ws.map nD)]=pure (iM ((List.range o.length).map λj=>(cQ R W o (ga o j)).set c (ga ws j:Int))):=by
 refine Hx λM=>zA wk ho hW ol M λz=>?_
 refine Rn.mono (Le hc hw ol) λr M' h=>?_
 obtain⟨d,rfl,rfl,rfl⟩:=h;refine⟨_,rfl,o.length,λj=>row2 R W o c ws o.length j,rfl,rfl,?_⟩
 refine Sd λj hj=>?_
 unfold row2;rw[R1 (RW.mp hj)]
def outs(n:Nat)(P:List Nat):List Nat:=(List.range n).filter λx=>!decide (x∈P)
theorem zH{n:Nat}{P:List Nat}(h:Spl n P):(outs n P).length<n:=by
 obtain⟨x,hx⟩:=V6 _ h.ne;have:=(List.length_filter_lt_length_iff_exists (p:=λx=>!decide (x∈P)) (l:=List.range n)).mpr ⟨x,RW.mpr (h.lt x hx),by simpa using hx⟩
 rw[Sv]at this;exact this
def dB(R:List (List Nat))(W:Nat)(o:List Nat):Int:=dn o.length (o.map (cQ R W o))
def col(R:List (List Nat))(o:List Nat)(y:Nat):List Nat:=o.map λz=>ga (gr R z) y
def dP(R:List (List Nat))(W:Nat)(o:List Nat)(y c:Nat):Int:=dn o.length ((List.range o.length).map λj=>(cQ R W o (ga o j)).set c (ga (col R o y) j:Int))
def oU(R:List (List Nat))(W:Nat)(o:List Nat)(x y i:Nat):Int:=(ga (gr R x) y:Int)*dB R W o+((List.range i).map λc=>(ga (gr R x) (ga o c):Int)*dP R W o y c).sum
def du(R:List (List Nat))(W:Nat)(o:List Nat)(x y:Nat):Int:=oU R W o x y o.length
theorem wz{R:List (List Nat)}{W:Nat}{o:List Nat}{x y c:Nat}:oU R W o x y (c+1)=oU R W o x y c+(ga (gr R x) (ga o c):Int)*dP R W o y c:=by unfold oU;rw[Ud,T5,WT];simp[Int.add_assoc]
theorem uC{R:List (List Nat)}{W:Nat}{o:List Nat}(wk:WK R W)(ho:∀x∈o,x<R.length)(hW:W<=100):Sq 100 o.length (o.map (cQ R W o)):=by
 refine⟨by simp,λr hr=>?_⟩
 obtain⟨x,hx,rfl⟩:=Te.mp hr;refine⟨by simp[cQ],λv hv=>?_⟩
 obtain⟨y,hy,rfl⟩:=Te.mp hv;have:=wk.at_le (gr_mem (ho x hx)) y;split<;>simp<;>omega
theorem Ka{R:List (List Nat)}{W:Nat}{o:List Nat}{k:Nat}(wk:WK R W)(ho:∀x∈o,x<R.length)(hW:W<=100)(ol:o.length<=4)(hk:o.length<k):nR k [iM (o.map (cQ R W o))]=pure (.int (dB R W o)):=
 wy (b:=100) (by omega) _ k _ (by omega) hk (uC wk ho hW)
theorem Ar{R:List (List Nat)}{W:Nat}{o:List Nat}{y c:Nat}(wk:WK R W)(ho:∀ x∈o,x<R.length)(hW:W<=100):Sq 100 o.length ((List.range o.length).map λj=>(cQ R W o (ga o j)).set c (ga (col R o y) j:Int)):=by
 refine⟨by simp,λr hr=>?_⟩
 obtain⟨j,hj,rfl⟩:=Te.mp hr;have hj:=RW.mp hj;have ox:ga o j<R.length:=by rw[aQ hj];exact ho _ (Td hj)
 refine⟨by simp[cQ],λv hv=>?_⟩
 rcases List.mem_or_eq_of_mem_set hv with hv | rfl
 ·obtain⟨y,hy,rfl⟩:=Te.mp hv;have:=wk.at_le (gr_mem ox) y;split<;>simp<;>omega
 ·have e:ga (col R o y) j=ga (gr R (ga o j)) y:=by rw[aQ (by simpa[col] using hj),aQ hj];simp[col]
  have:=wk.at_le (gr_mem ox) y;rw[e];omega
theorem Kd{R:List (List Nat)}{W:Nat}{o:List Nat}{k y c:Nat}(wk:WK R W)(ho:∀x∈o,x<R.length)(hW:W<=100)(ol:o.length<=4)(hk:o.length<k):nR k [iM ((List.range o.length).map λj=>(cQ R W o (ga o j)).set c (ga (col R o y) j:Int))]=pure (.int (dP R W o y c)):=
 wy (b:=100) (by omega) _ k _ (by omega) hk (Ar wk ho hW)
noncomputable def BV:=aG 2 15 (rP rM (nR 5) BJ)
theorem Lp{a:Nat}{j:Int}(h:a<=100)(h':j.natAbs<2^3050):(rd (iC (nD a) (.int j)):DM D)=pure (.int ((a:Int)*j)):=wX (Tu (show (a:Int).natAbs<=100 from h) (by decide +kernel)) h'
theorem vm{b m:Nat}{T:List (List Int)}(h:Sq b m T)(hb:b<=1000)(hm:m<=5):(dn m T).natAbs<2^3050:=
 Tu (R7 (Aw m _ h) (R7 (Nat.pow_le_pow_left (Vz hm hb) m) (Tr (by decide) hm))) (by decide +kernel)
def St(M:Mo)(m:Nat)(g:Nat->List Int):Mo:=M++DO.lst (bQ M.length m)::(List.range m).map λj=>DO.lst ((g j).map D.int)
theorem jw{M:Mo}{m:Nat}{g:Nat->List Int}:(St M m g).length=M.length+1+m:=by simp[St];omega
theorem rO{M:Mo}{m:Nat}{g:Nat->List Int}:(St M m g)[M.length]?=some (.lst (bQ M.length m)):=by simp[St]
theorem Cp{M:Mo}{m:Nat}{g:Nat->List Int}{j:Nat}(h:j<m):(St M m g)[M.length+1+j]?=some (.lst ((g j).map D.int)):=by unfold St;rw[Sh (by omega),show M.length+1+j-M.length=j+1 by omega,Vs,R0,Tw h];rfl
theorem H9{M:Mo}{m:Nat}{g:Nat->List Int}{j:Nat}{o:DO}(h:M[j]?=some o):(St M m g)[j]?=some o:=by unfold St;rw[RZ (RK.mp h).1];exact h
theorem Ia{M:Mo}{m:Nat}{g:Nat->List Int}{l:List Int}(h:l=g m):(St M m g++[DO.lst (l.map D.int)]).set M.length (.lst (bQ M.length m++[D.ref (M.length+1+m)]))=St M (m+1) g:=by subst h;unfold St bQ;rw[Ud];simp
theorem NT(l:List Nat):jV [.lst (l.map nD)]=some (.fix ((List.range l.length).map λj=>.tup [nD j,nD (ga l j)])):=by
 have e:l.map nD=(List.range' 0 l.length).map λj=>nD (ga l j):=by
  apply Tt
  ·simp
  ·intro i h1 h2;simp at h1;simp[aQ h1]
 show some (Itn.fix (dY 0 (l.map nD)))=_;rw[e,dN,Uh]
def iH(R:List (List Nat))(W:Nat)(o P:List Nat)(j:Nat):List Int:=P.map λy=>du R W o (ga P j) y
theorem wD{tg:D->aa->DM aa}{fb:aa->DM Fl}{n:Nat}{L:List D}(I:Nat->aa->Mo->Prop)(hL:∀ j δ M,I j δ M->M[n]?=some (.lst L))(h:∀ j d δ M,L[j]?=some d->I j δ M->Rn (tg d δ >>= fb) M λr M'=>∃ δ',r=.nx δ'/\I (j + 1) δ' M'):
  ∀(k i:Nat) (δ:aa) (M:Mo),i<=L.length->L.length<i+k->I i δ M->Rn (kI tg fb n k i δ) M λr M'=>∃δ',r=.nx δ'/\I L.length δ' M'
 |0,i,δ,M,_,h2,_=>by omega
 | k + 1,i,δ,M,h1,h2,hI=>by
   have hM:=hL i δ M hI;have e:kI tg fb n (k + 1) i δ=rd (Itn.next (.dyn n) i) >>= λo=>match o with
    |none=>pure (.nx δ)
    |some d=>(tg d δ>>=fb)>>=λr=>match r with
      |.nx δ2=>kI tg fb n k (i+1) δ2
      |.ct δ2=>kI tg fb n k (i+1) δ2
      |.bk δ2=>pure (.nx δ2)
      |.rt d=>pure (.rt d):=by
    show (rd (Itn.next (.dyn n) i)>>=_)=_;congr 1;funext o;cases o with
    |none=>rfl
    |some d=>exact (aZ _ _ _).symm
   rw[e];by_cases c:i<L.length
   ·refine Rn.bindRd (some L[i]) (by simp only[Itn.next,hM,List.getElem?_eq_getElem c]) ?_
    refine Rn.bind (h i L[i] δ M (RV c) hI) λr M' ⟨δ',er,hI'⟩=>?_
    subst er;exact wD I hL h k (i+1) δ' M' (by omega) (by omega) hI'
   ·refine Rn.bindRd none (by simp only[Itn.next,hM,List.getElem?_eq_none (Nat.le_of_not_lt c)]) ?_
    have:i=L.length:=by omega
    subst this;exact Rn.pure ⟨δ,rfl,hI⟩
theorem Km{R:List (List Nat)}{W:Nat}{P:List Nat}(wk:WK R W)(hW:W<=100)(h5:R.length<=5)(hP:Spl R.length P){U:Nat->Nat->Nat}(hU:∀ x∈P,∀ y∈P,du R W (outs R.length P) x y=(U x y:Int)){g:Nat}(hg:oX ((List.range P.length).flatMap λj=>P.map (U (ga P j)))=g)(g0:0<g)(gb:g<2 ^ 8000)(M:Mo):
  Rn (BV [nM R,nT P]) M λd M'=>d=nM (P.map λx=>P.map λy=>U x y / g)/\∀(j:Nat) (o:DO),M[j]?=some o->M'[j]?=some o:=by
 have n1:=wk.n1;have n2:=wk.n25;have pl:=hP.sm;have ho:∀x∈outs R.length P,x<R.length:=λx hx=>RW.mp (TV.mp hx).1
 have ol:(outs R.length P).length<=4:=by have:=zH hP;omega
 unfold BV rP m6;dsimp only;refine Rn.call rfl ?_;have st:bx 15 [nM R,nT P]=[some (nM R),some (nT P),none,none,none,none,none,none,none,none,none,none,none,none,none]:=rfl;rw[st];have e1:lB [nD R.length]=some (.fix ((List.range R.length).map nD)):=ik (by omega)
 have l0:lU []=pure (.lst []):=gU (by simp)
 refine aF λK hK=>?_
 simp[my,e1,aR,cu,lA];rw[aU nD (λy=>!decide (y∈P)) nD (by simp;omega) (λy hy=>by simp[xO]) (λy hy w=>by simp)]
 simp only[Out.run,aD];rw[hK];clear hK K;show Rn (uH _ _ [some (nM R),some (nT P),some (.lst ((outs R.length P).map nD)),none,none,none,none,none,none,none,none,none,none,none,none]) _ _;generalize outs R.length P=o at *;refine aF λK hK=>?_
 simp[l0,Ja wk ho hW (by omega:o.length<=5),Ka wk ho hW ol (k:=5) (by omega)]
 refine Rn.dW (by simp) ?_
 rw[hK];clear hK K;have sq:=uC wk ho hW;have bB:(dB R W o).natAbs<2^3050:=vm sq (by omega) (by omega)
 refine aF λK hK=>?_
 simp[tK,fF];refine Rn.bind (bC (λi δ M'=>(∃z5 z6 z7 z8 z9 z10 z11 z12,δ=[some (nM R),some (nT P),some (.lst (o.map nD)),some (.int (dB R W o)),some (.ref M.length),z5,z6,z7,z8,z9,z10,z11,z12,none,none])/\M'=St M i (iH R W o P)) _ 0 _ _ ⟨⟨_,_,_,_,_,_,_,_,rfl⟩,by simp[St,bQ]⟩ (λi d δ M1 hi hI=>?_)) (λr M1 hI=>?_)
 ·clear hK K;obtain⟨⟨z5,z6,z7,z8,z9,z10,z11,z12,rfl⟩,rfl⟩:=hI;rw[Ti];have hi':i<P.length:=by have:=(RK.mp hi).1;simpa using this
  have hd:d=nD (ga P i):=by rw[R0,RV hi']at hi;rw[aQ hi'];exact (RP hi).symm
  subst hd;have hx:ga P i<R.length:=by rw[aQ hi'];exact hP.lt _ (Td hi')
  rw[fV,aD];refine aF λK hK=>?_
  simp;refine Rn.dW (by simp) ?_
  rw[hK];clear hK K;refine aF λK hK=>?_
  simp[tK,fF];refine Rn.bind (bC (λk δ M'=>(∃z7 z8 z9 z10 z11 z12,δ=[some (nM R),some (nT P),some (.lst (o.map nD)),some (.int (dB R W o)),some (.ref M.length),some (nD (ga P i)),some (.ref (M.length+1+i)),z7,z8,z9,z10,z11,z12,none,none])/\M'=St M i (iH R W o P)++[DO.lst (((P.take k).map λy=>du R W o (ga P i) y).map D.int)]) _ 0 _ _ ⟨⟨_,_,_,_,_,_,by rw[jw]⟩,by simp⟩ (λk d δ M1 hk hI=>?_)) (λr M1 hI=>?_)
  ·clear hK K;obtain⟨⟨z7,z8,z9,z10,z11,z12,rfl⟩,rfl⟩:=hI;rw[Ti];have hk':k<P.length:=by have:=(RK.mp hk).1;simpa using this
   have hd:d=nD (ga P k):=by rw[R0,RV hk']at hk;rw[aQ hk'];exact (RP hk).symm
   subst hd;have hy:ga P k<R.length:=by rw[aQ hk'];exact hP.lt _ (Td hk')
   have rl:=wk.row _ (gr_mem hx);rw[fV,aD];refine aF λK hK=>?_
   have al:(rd (lL (.lst (o.map nD))):DM Itn)=pure (.fix (o.map nD)):=rfl;simp[al,aR,cu,lA];rw[dq nD (λz=>nD (ga (gr R z) (ga P k))) (by omega) (λz hz=>by simp[jH (ho z hz),m7 (l:=gr R z) (i:=ga P k) (by rw[wk.row _ (gr_mem (ho z hz))];exact hy)])]
   have ec:D.lst (o.map λz=>nD (ga (gr R z) (ga P k)))=.lst ((col R o (ga P k)).map nD):=by simp[col]
   simp only[aD,ec,jH hx,m7 (l:=gr R (ga P i)) (i:=ga P k) (by rw[rl];exact hy),Lp (Nat.le_trans (wk.at_le (gr_mem hx) _) hW) bB]
   rw[hK];clear hK K;refine aF λK hK=>?_
   simp[NT,fF];refine Rn.bind (bC (λc δ M'=>(∃z10 z11 z12,δ=[some (nM R),some (nT P),some (.lst (o.map nD)),some (.int (dB R W o)),some (.ref M.length),some (nD (ga P i)),some (.ref (M.length+1+i)),some (nD (ga P k)),some (.lst ((col R o (ga P k)).map nD)),some (.int (oU R W o (ga P i) (ga P k) c)),z10,z11,z12,none,none])/\M'=St M i (iH R W o P)++[DO.lst (((P.take k).map λy=>du R W o (ga P i) y).map D.int)]) _ 0 _ _ ⟨⟨z10,z11,z12,by simp[oU]⟩,by simp⟩ (λc d δ M1 hc hI=>?_)) (λr M1 hI=>?_)
   ·clear hK K;obtain⟨⟨z10,z11,z12,rfl⟩,rfl⟩:=hI;rw[Ti];have hc':c<o.length:=by have:=(RK.mp hc).1;simpa using this
    rw[R0,Tw hc']at hc;have:=RP hc;subst this;have hz:ga o c<R.length:=by rw[aQ hc'];exact ho _ (Td hc')
    have bP:(dP R W o (ga P k) c).natAbs<2^3050:=vm (Ar wk ho hW) (by omega) (by omega)
    have lf:=Lf (c:=c) (ws:=col R o (ga P k)) wk ho hW (by omega) hc' (by simp[col])
    have ad:(rd (cJ (.int (oU R W o (ga P i) (ga P k) c)) (.int ((ga (gr R (ga P i)) (ga o c):Int)*dP R W o (ga P k) c))):DM D)=pure (.int (oU R W o (ga P i) (ga P k) (c+1))):=bH λM=>by rw[wz];rfl
    simp[gT,bY,eX,lf,Kd wk ho hW ol (k:=5) (by omega),jH hx,m7 (l:=gr R (ga P i)) (i:=ga o c) (by rw[rl];exact hz),Lp (Nat.le_trans (wk.at_le (gr_mem hx) _) hW) bP,ad]
    exact Rn.pure ⟨_,rfl,⟨_,_,_,rfl⟩,rfl⟩
   ·obtain⟨δ',rfl,⟨z10,z11,z12,rfl⟩,rfl⟩:=hI;rw[hK];clear hK K;rw[RT,Sv,Ti];have at5:(St M i (iH R W o P)++[DO.lst (((P.take k).map λy=>du R W o (ga P i) y).map D.int)])[M.length+1+i]?=some (.lst (((P.take k).map λy=>du R W o (ga P i) y).map D.int)):=by rw[Sh (by rw[jw];exact RX _),jw];simp
    simp;refine Rn.bindRd _ (by simp only[aM];rw[show (St M i (iH R W o P)++[DO.lst _])[M.length+1+i]?=_ from by simpa using at5]) ?_
    refine Rn.run (ji (by simpa using at5) (by simp;omega)) ?_
    refine Rn.pure ⟨_,rfl,⟨_,_,_,_,_,_,rfl⟩,?_⟩;rw[List.set_append_right _ _ (by rw[jw];exact RX _),jw,Nat.sub_self,List.set_cons_zero,Vr (by simpa using hk')]
    simp[du,aQ hk']
  ·obtain⟨δ',rfl,⟨z7,z8,z9,z10,z11,z12,rfl⟩,rfl⟩:=hI;rw[hK];clear hK K;rw[RT,Ti,List.take_length];simp;refine Rn.bindRd _ (by simp only[aM];rw[RZ (by rw[jw];omega),rO]) ?_
   refine Rn.run (ji (l:=bQ M.length i) (by rw[RZ (by rw[jw];omega)];exact rO) (by simp[bQ];omega)) ?_
   refine Rn.pure ⟨_,rfl,⟨_,_,_,_,_,_,_,_,rfl⟩,?_⟩;rw[<-Tq];exact Ia rfl
 ·obtain ⟨δ',rfl,⟨z5,z6,z7,z8,z9,z10,z11,z12,rfl⟩,rfl⟩:=hI;rw[hK];clear hK K;rw[RT,Ti];refine aF λK hK=>?_
  simp[l0];rw[hK];clear hK K;refine aF λK hK=>?_
  have eU:∀j,j<P.length->(iH R W o P j).map D.int=(P.map (U (ga P j))).map nD:=λj hj=>by
   have hx:ga P j∈P:=by rw[aQ hj];exact Td hj
   unfold iH;rw[Tq,Tq];refine Sd λy hy=>?_
   simp[hU _ hx y hy,nD]
  simp;refine Rn.bindRd (.dyn M.length) (by simp only[lL,rO]) ?_
  refine Rn.bind (show Rn (kI _ _ M.length 20 0 _) _ _ from wD (L:=bQ M.length P.length) (λj δ M'=>(∃z,δ=[some (nM R),some (nT P),some (.lst (o.map nD)),some (.int (dB R W o)),some (.ref M.length),z5,z,z7,z8,z9,z10,z11,z12,some (.lst (((List.range j).flatMap λj=>P.map (U (ga P j))).map nD)),none])/\M'=St M P.length (iH R W o P)) (λj δ M' h=>by rw[h.2];exact rO) (λj d δ M' hj hI=>?_) 20 0 _ _ (by omega) (by simp[bQ];omega) ⟨⟨_,rfl⟩,rfl⟩) λr M1 hI=>?_
  ·clear hK K;obtain⟨⟨z,rfl⟩,rfl⟩:=hI;have hj':j<P.length:=by have:=(RK.mp hj).1;simpa[bQ] using this
   have hd:d=.ref (M.length+1+j):=by unfold bQ at hj;rw[R0,Tw hj']at hj;exact (RP hj).symm
   subst hd;have fl:∀i,((List.range i).flatMap λj=>P.map (U (ga P j))).length=i*P.length:=λi=>by
    induction i with
    |zero=>simp
    |succ i ih=>rw[Ud,List.flatMap_append,R6,ih];simp[Nat.succ_mul]
   have szo:cR ((((List.range j).flatMap λj=>P.map (U (ga P j))).map nD)++(P.map (U (ga P j))).map nD)=true:=by
    unfold cR;refine S5 ?_;rw[R6,RT,RT,RT,fl];have:j*P.length<=5*5:=Vz (by omega) (by omega)
    show _<=2^24;omega
   simp;refine Rn.bindRd (.lst (((List.range (j+1)).flatMap λj=>P.map (U (ga P j))).map nD)) ?_ ?_
   ·have e2:aM (.ref (M.length+1+j)) (St M P.length (iH R W o P))=some ((P.map (U (ga P j))).map nD):=by simp only[aM,Cp hj',eU j hj']
    show (match aM (.lst _) _,aM (.ref (M.length+1+j)) (St M P.length (iH R W o P)) with
     |some l,some m=>wN (l++m)
     |_,_=>none)=_
    rw[e2];simp only[aM];rw[Ud,List.flatMap_append,T5];simp only[List.flatMap_singleton];unfold wN;rw[R1 szo]
   ·exact Rn.pure ⟨_,rfl,⟨_,rfl⟩,rfl⟩
  ·obtain ⟨δ',rfl,⟨z,rfl⟩,rfl⟩:=hI;rw[hK];clear hK K;have rf:(bQ M.length P.length).length=P.length:=by simp[bQ]
   rw[rf];refine aF λK hK=>?_
   simp[J0,hg];rw[hK];clear hK K;simp[aR,cu];refine zf (L:=List.range P.length) (λj=>D.ref (M.length+1+j)) (λj=>nT (P.map λy=>U (ga P j) y / g)) rO (by simp;omega) (λj hj=>?_) (λl=>pure (Fl.rt (D.tup l))) (λq=>by rfl) ?_
   ·have hj':=RW.mp hj
    suffices z:Rn _ (St M P.length (iH R W o P)) (λd M'=>d=nT (P.map λy=>U (ga P j) y / g)/\M'=St M P.length (iH R W o P)) by obtain⟨a,M',h,rfl,rfl⟩:=z;exact h
    simp;refine zf (L:=P.map (U (ga P j))) nD (λu=>nD (u / g)) (by rw[Cp hj',eU j hj']) (by simp;omega) (λu hu=>?_) (λl=>pure (D.tup l)) (λq=>by rfl) ?_
    ·have:=Em (a:=u) g0 gb;simp[this];rfl
    ·refine Rn.pure ⟨?_,rfl⟩;simp[nT]
   ·refine Rn.pure ⟨_,rfl,?_,λj o h=>H9 h⟩
    refine congrArg D.tup (Tt (by simp) λi h1 h2=>?_)
    simp at h1;simp[aQ h1]
def mat(m:Nat)(A:Nat->Nat->Int):List (List Int):=(List.range m).map λi=>(List.range m).map (A i)
def sI(f:Nat->Int)(m:Nat):Int:=((List.range m).map f).sum
theorem ww{A:Nat->Nat->Int}{b:Nat->Int}{d:Int}:∀(m c:Nat),m<=4->c<m->dn m (mat m λi j=>if j=c then d*b i else A i j)=d*dn m (mat m λi j=>if j=c then b i else A i j)
 |0,c,_,h=>absurd h (by omega)
 |1,0,_,_=>by simp[mat,dn,sg,del,List.range_succ]
 |2,0,_,_=>by simp[mat,dn,sg,del,List.range_succ];grind
 |2,1,_,_=>by simp[mat,dn,sg,del,List.range_succ];grind
 |3,0,_,_=>by simp[mat,dn,sg,del,List.range_succ];grind
 |3,1,_,_=>by simp[mat,dn,sg,del,List.range_succ];grind
 |3,2,_,_=>by simp[mat,dn,sg,del,List.range_succ];grind
 |4,0,_,_=>by simp[mat,dn,sg,del,List.range_succ];grind
 |4,1,_,_=>by simp[mat,dn,sg,del,List.range_succ];grind
 |4,2,_,_=>by simp[mat,dn,sg,del,List.range_succ];grind
 |4,3,_,_=>by simp[mat,dn,sg,del,List.range_succ];grind
 |1,c+1,_,h=>absurd h (by omega)
 |2,c+2,_,h=>absurd h (by omega)
 |3,c+3,_,h=>absurd h (by omega)
 |4,c+4,_,h=>absurd h (by omega)
 |m+5,c,h,_=>absurd h (by omega)
theorem Io{A:Nat->Nat->Int}{x:Nat->Int}:∀(m c:Nat),m<=4->c<m->dn m (mat m λi j=>if j=c then sI (λk=>A i k*x k) m else A i j)=x c*dn m (mat m A)
 |0,c,_,h=>absurd h (by omega)
 |1,0,_,_=>by simp[mat,sI,dn,sg,del,List.range_succ];grind
 |2,0,_,_=>by simp[mat,sI,dn,sg,del,List.range_succ];grind
 |2,1,_,_=>by simp[mat,sI,dn,sg,del,List.range_succ];grind
 |3,0,_,_=>by simp[mat,sI,dn,sg,del,List.range_succ];grind
 |3,1,_,_=>by simp[mat,sI,dn,sg,del,List.range_succ];grind
 |3,2,_,_=>by simp[mat,sI,dn,sg,del,List.range_succ];grind
 |4,0,_,_=>by simp[mat,sI,dn,sg,del,List.range_succ];grind
 |4,1,_,_=>by simp[mat,sI,dn,sg,del,List.range_succ];grind
 |4,2,_,_=>by simp[mat,sI,dn,sg,del,List.range_succ];grind
 |4,3,_,_=>by simp[mat,sI,dn,sg,del,List.range_succ];grind
 |1,c+1,_,h=>absurd h (by omega)
 |2,c+2,_,h=>absurd h (by omega)
 |3,c+3,_,h=>absurd h (by omega)
 |4,c+4,_,h=>absurd h (by omega)
 |m+5,c,h,_=>absurd h (by omega)
def dX(b:Int)(v u:Nat->Int)(A:Nat->Nat->Int):Nat->Nat->Int
 |0,0=>b
 |0,j+1=>v j
 |i+1,0=>u i
 |i+1,j+1=>A i j
theorem Kl{A:Nat->Nat->Int}{b:Int}{v x:Nat->Int}:∀m:Nat,m<=3->dn (m+1) (mat (m+1) (dX b (λj=>- v j) (λi=>- sI (λk=>A i k*x k) m) A))=(b-sI (λj=>v j*x j) m)*dn m (mat m A)
 |0,_=>by simp[mat,sI,dX,dn,sg,del,List.range_succ]
 |1,_=>by simp[mat,sI,dX,dn,sg,del,List.range_succ];grind
 |2,_=>by simp[mat,sI,dX,dn,sg,del,List.range_succ];grind
 |3,_=>by simp[mat,sI,dX,dn,sg,del,List.range_succ];grind
 |m+4,h=>absurd h (by omega)
theorem j0{m:Nat}{A B:Nat->Nat->Int}(h:∀i j,i<m->j<m->A i j=B i j):mat m A=mat m B:=by unfold mat;refine Sd λi hi=>Sd λj hj=>h i j (RW.mp hi) (RW.mp hj)
theorem vZ{m c:Nat}{A:Nat->Nat->Int}{x b:Nat->Int}{d:Int}(hm:m<=4)(hc:c<m)(h:∀i,i<m->d*b i=sI (λk=>A i k*x k) m):d*dn m (mat m λi j=>if j=c then b i else A i j)=x c*dn m (mat m A):=by
 rw[<-ww m c hm hc,<-Io m c hm hc];congr 1;refine j0 λi j hi hj=>?_
 split
 ·exact h i hi
 ·rfl
set_option tactic.hygienic true in
theorem Ow{m:Nat}{A:Nat->Nat->Int}{al:Int}{v u x:Nat->Int}{d:Int}(hm:m<=3)(h:∀ i,i<m->d * u i=sI (λk=>A i k * x k) m):d * dn (m + 1) (mat (m + 1) (dX al (λj=>- v j) (λi=>- u i) A))=(d * al - sI (λj=>v j * x j) m) * dn m (mat m A):=by
 rw[<-Kl m hm];have:=ww (A:=dX al (λj=>- v j) (λi=>- u i) A) (b:=λi=>dX al (λj=>- v j) (λi=>- u i) A i 0) (d:=d) (m+1) 0 (by omega) (by omega)
 rw[show (mat (m+1) λi j=>if j=0 then dX al (λj=>- v j) (λi=>- u i) A i 0 else dX al (λj=>- v j) (λi=>- u i) A i j)=mat (m+1) (dX al (λj=>- v j) (λi=>- u i) A) from j0 λi j z z=>by
  split
  ·rename_i e;rw[e]
  ·rfl]at this
 rw[<-this];congr 1;refine j0 λi j hi hj=>?_
 cases j with
 | zero=>cases i with
   |zero=>rfl
   |succ i=>
     show d*(- u i)=- sI (λk=>A i k*x k) m
     rw[<-h i (by omega),Int.mul_neg]
 |succ j=>cases i<;>rfl
def sk(p i:Nat):Nat:=if i<p then i else i+1
def sN(f:Nat->Nat)(n:Nat):Nat:=((List.range n).map f).sum
theorem cY{f:Nat->Nat}{n:Nat}:sN f (n+1)=sN f n+f n:=by unfold sN;rw[Ud,T5,WT];simp
theorem pZ{f:Nat->Nat}{p:Nat}:∀ {n:Nat},p<n + 1->sN f (n + 1)=f p + sN (λi=>f (sk p i)) n
 |0,h=>by
   obtain rfl:p=0:=by omega
   simp[sN]
 | n + 1,h=>by
   rw[cY];by_cases q:p=n+1
   ·subst q;rw[Nat.add_comm];congr 1;unfold sN;congr 1;refine Sd λi hi=>?_
    have:=RW.mp hi;unfold sk;rw[R1 (by omega)]
   ·rw[pZ (p:=p) (n:=n) (by omega),cY,show sk p n=n+1 by unfold sk;rw[R3 (by omega)],Nat.add_assoc]
theorem HR{f:Nat->Nat}{j:Nat}:∀ {n:Nat},j<n->f j<=sN f n
 |0,h=>absurd h (by omega)
 | n + 1,h=>by
   rw[cY];by_cases q:j=n
   ·subst q;omega
   ·have:=HR (f:=f) (j:=j) (n:=n) (by omega)
    omega
theorem tU{f g:Nat->Nat}:∀n,sN (λi=>f i+g i) n=sN f n+sN g n
 |0=>rfl
 |n+1=>by rw[cY,cY,cY,tU n];omega
theorem dI{f:Nat->Nat}{c:Nat}:∀n,sN (λi=>c*f i) n=c*sN f n
 |0=>rfl
 |n+1=>by rw[cY,cY,dI n,Nat.mul_add]
theorem gK{f g:Nat->Nat}{n:Nat}(h:∀i,i<n->f i=g i):sN f n=sN g n:=by unfold sN;rw[Sd λi hi=>h i (RW.mp hi)]
theorem KH(l:List Nat)(f u v:Nat->Nat)(L s:Nat):(l.map λz=>f z * (L * u z + v z * s)).sum=L * (l.map λz=>f z * u z).sum + s * (l.map λz=>f z * v z).sum:=by
 induction l with
 |nil=>simp
 |cons z l ih=>
   simp only[List.map_cons,List.sum_cons,ih]
   grind
def nx(n i:Nat):Nat:=if i+1<n then i+1 else 0
structure Wt(R:List (List Nat))(W:Nat)(s:Nat->Nat->Nat)(V n:Nat)(ks:Nat->Nat)(gone:List Nat)(c d:Nat)(a:Nat->Nat->Nat):Prop where
 c0:0<c
 d0:0<d
 v0:0<V
 row:∀i,i<n->sN (s i) n=V
 i:∀z∈gone,∀j,j<n->W*a z j=d*ga (gr R z) (ks j)+(gone.map λz'=>ga (gr R z) z' * a z' j).sum
 ii:∀i j,i<n->j<n->c*s i j=d*ga (gr R (ks i)) (ks j)+(gone.map λz=>ga (gr R (ks i)) z*a z j).sum
 iii:∀z∈gone,sN (a z) n=d
 wd:W*d=c*V
 ring:2<=n->∀i,i<n->0<s i (nx n i)
def lo(s:Nat->Nat->Nat)(L p i j:Nat):Nat:=s (sk p i) (sk p j)*L+s (sk p i) p*s p (sk p j)
def aN(s a:Nat->Nat->Nat)(L d k p z j:Nat):Nat:=if z=k then d*s p (sk p j) else L*a z (sk p j)+a z p*s p (sk p j)
theorem jh{p i n:Nat}(h:i<n):sk p i<n+1:=by unfold sk;split<;>omega
theorem Wt.L0{R:List (List Nat)}{W:Nat}{s:Nat->Nat->Nat}{V n:Nat}{ks:Nat->Nat}{gone:List Nat}{c d:Nat}{a:Nat->Nat->Nat}{p:Nat}(h:Wt R W s V (n+1) ks gone c d a)(hn:1<=n)(hp:p<n+1):sN (λj=>s p (sk p j)) n+s p p=V/\0<sN (λj=>s p (sk p j)) n:=by
 have e:=h.row p hp;rw[pZ hp]at e;refine⟨by omega,?_⟩
 have r:=h.ring (by omega) p hp
 obtain⟨j,hj,ej⟩:∃j,j<n/\sk p j=nx (n+1) p:=by
  unfold nx sk;by_cases q:p+1<n+1
  ·rw[R1 q];exact⟨p,by omega,by rw[R3 (by omega)]⟩
  ·rw[R3 q];exact⟨0,by omega,by rw[R1 (by omega)]⟩
 rw[<-ej]at r;have:s p (sk p j)<=sN (λj=>s p (sk p j)) n:=HR (f:=λj=>s p (sk p j)) hj
 omega
theorem Wt.step{R:List (List Nat)}{W:Nat}{s s':Nat->Nat->Nat}{V V' n:Nat}{ks:Nat->Nat}{gone:List Nat}{c d g:Nat}{a:Nat->Nat->Nat}{p L:Nat}(h:Wt R W s V (n + 1) ks gone c d a)(hn:1<=n)(hp:p<n + 1)(hL:sN (λj=>s p (sk p j)) n=L)(hk:ks p∉gone)(g0:0<g)
  (hs:∀i j,i<n->j<n->g*s' i j=lo s L p i j) (hV:g*V'=L*V):Wt R W s' V' n (λj=>ks (sk p j)) (ks p::gone) (c*g) (d*L) (aN s a L d (ks p) p):=by
 obtain⟨eL,L0⟩:=h.L0 hn hp;rw[hL]at eL L0;have an:∀z∈gone,∀j,aN s a L d (ks p) p z j=L*a z (sk p j)+a z p*s p (sk p j):=λz hz j=>by unfold aN;rw[R3 λe:z=ks p=>hk (by rw[<-e];exact hz)]
 have ak:∀j,aN s a L d (ks p) p (ks p) j=d*s p (sk p j):=λj=>by unfold aN;rw[R1 rfl]
 have sm:∀(f:Nat->Nat) j,(gone.map λz'=>f z' * aN s a L d (ks p) p z' j).sum=L*(gone.map λz'=>f z' * a z' (sk p j)).sum+s p (sk p j)*(gone.map λz'=>f z' * a z' p).sum:=λf j=>by
  rw[<-KH];congr 1;refine Sd λz hz=>?_
  rw[an z hz]
 have gc:∀x y:Nat,g*x=g*y->x=y:=λx y e=>V5 g0 e
 refine⟨Vu h.c0 g0,Vu h.d0 L0,?_,λi hi=>?_,λz hz j hj=>?_,λi j hi hj=>?_,λz hz=>?_,?_,λh2 i hi=>?_⟩
 ·rcases T6 V' with q | q
  ·rw[q,VD]at hV;have:=Vu L0 h.v0;omega
  ·exact q
 ·refine gc _ _ ?_;rw[<-dI,hV,gK (g:=λj=>L*s (sk p i) (sk p j)+s (sk p i) p*s p (sk p j)) λj hj=>by rw[hs i j hi hj,lo,WW L],tU,dI,dI,hL]
  have e:=h.row (sk p i) (jh hi);rw[pZ hp]at e;rw[<-e]
  grind
 ·have hj':=jh (p:=p) hj;rw[SX,VN,ak,sm];rcases R8.mp hz with rfl | hz
  ·have e1:=h.ii p (sk p j) hp hj';have e2:=h.ii p p hp hp;have e3:=h.wd;rw[ak];have:W*(d*s p (sk p j))=c*(L+s p p)*s p (sk p j):=by rw[eL,<-e3,VP]
   rw[this];have:c*(L+s p p)*s p (sk p j)=L*(c*s p (sk p j))+s p (sk p j)*(c*s p p):=by grind
   rw[this,e1,e2]
   grind
  ·have e1:=h.i z hz (sk p j) hj';have e2:=h.i z hz p hp;rw[an z hz];have:W*(L*a z (sk p j)+a z p*s p (sk p j))=L*(W*a z (sk p j))+s p (sk p j)*(W*a z p):=by grind
   rw[this,e1,e2]
   grind
 ·have hi':=jh (p:=p) hi;have hj':=jh (p:=p) hj;rw[SX,VN,ak,sm,VP,hs i j hi hj,lo];have e1:=h.ii (sk p i) (sk p j) hi' hj';have e2:=h.ii (sk p i) p hi' hp;have:c*(s (sk p i) (sk p j)*L+s (sk p i) p*s p (sk p j))=L*(c*s (sk p i) (sk p j))+s p (sk p j)*(c*s (sk p i) p):=by grind
  rw[this,e1,e2]
  grind
 ·rcases R8.mp hz with rfl | hz
  ·rw[gK λj w=>ak j,dI,hL]
  ·rw[gK λj w=>an z hz j,tU,dI,dI,hL]
   have e:=h.iii z hz;rw[pZ hp]at e;rw[<-e]
   grind
 ·have e3:=h.wd;rw[VP,hV,<-VP,e3]
  grind
 ·have r:=h.ring (by omega)
  have:0<g*s' i (nx n i):=by
   have hx:nx n i<n:=by unfold nx;split<;>omega
   rw[hs i _ hi hx,lo];have key:sk p (nx n i)=nx (n+1) (sk p i)\/(nx (n+1) (sk p i)=p/\sk p (nx n i)=nx (n+1) p):=by
    unfold nx sk
    repeat' split
    all_goals omega
   rcases key with q | ⟨q,q'⟩
   ·rw[q];have:=Vu (r (sk p i) (jh hi)) L0;omega
   ·rw[q'];have h1:=r (sk p i) (jh hi);rw[q]at h1;have:=Vu h1 (r p hp);omega
  rcases T6 (s' i (nx n i)) with q | q
  ·rw[q,VD]at this;omega
  ·exact q
def Am(R:List (List Nat))(W:Nat)(g:Nat->Nat)(i j:Nat):Int:=(W:Int)*(if g i=g j then 1 else 0)-(ga (gr R (g i)) (g j):Int)
theorem jD{α:Type}(o:List Nat)(f:Nat->α):o.map f=(List.range o.length).map λj=>f (ga o j):=by
 apply Tt
 ·simp
 ·intro i h1 h2;simp at h1;simp[aQ h1]
theorem wj(R:List (List Nat))(W:Nat)(o:List Nat):dB R W o=dn o.length (mat o.length (Am R W (ga o))):=by
 unfold dB mat;congr 1;rw[jD];refine Sd λi hi=>?_
 unfold cQ;rw[jD];rfl
theorem Kc(R:List (List Nat))(W:Nat)(o:List Nat)(y c:Nat):dP R W o y c=dn o.length (mat o.length λi j=>if j=c then (ga (gr R (ga o i)) y:Int) else Am R W (ga o) i j):=by
 unfold dP mat;congr 1;refine Sd λi hi=>?_
 have hi:=RW.mp hi;have e:ga (col R o y) i=ga (gr R (ga o i)) y:=by rw[aQ (by simpa[col] using hi),aQ hi];simp[col]
 rw[e];unfold cQ;rw[jD];apply Tt
 ·simp
 ·intro j h1 h2;simp at h2;by_cases q:c=j
  ·subst q;simp
  ·rw[List.getElem_set_ne q];simp only[List.getElem_map,List.getElem_range];rw[R3 λh:j=c=>q h.symm]
   rfl
theorem jo{f:Nat->Int}{n:Nat}:sI f (n+1)=sI f n+f n:=by unfold sI;rw[Ud,T5,WT];simp
theorem Fg{i:Nat}{v:Int}:∀ n,sI (λk=>if k=i then v else 0) n=if i<n then v else 0
 |0=>by simp[sI]
 | n + 1=>by
   rw[jo,Fg n];by_cases h:i<n
   ·simp[h,show i<n+1 by omega,show ¬ n=i by omega]
   ·by_cases q:n=i
    ·simp[q]
    ·simp[h,q,show ¬ i<n+1 by omega]
theorem Fj{f g:Nat->Int}:∀n,sI (λi=>f i-g i) n=sI f n-sI g n
 |0=>rfl
 |n+1=>by rw[jo,jo,jo,Fj n];omega
theorem xT{f g:Nat->Int}{n:Nat}(h:∀i,i<n->f i=g i):sI f n=sI g n:=by unfold sI;rw[Sd λi hi=>h i (RW.mp hi)]
theorem xU{f:Nat->Nat}:∀n,sI (λi=>(f i:Int)) n=(sN f n:Int)
 |0=>rfl
 |n+1=>by rw[jo,cY,xU n];simp
theorem uE(o:List Nat)(f:Nat->Nat):(o.map f).sum=sN (λk=>f (ga o k)) o.length:=by unfold sN;rw[jD]
theorem JQ{R:List (List Nat)}{W:Nat}{o:List Nat}{x:Nat->Nat}{i:Nat}(nd:o.Nodup)(hi:i<o.length):sI (λk=>Am R W (ga o) i k * (x (ga o k):Int)) o.length=(W:Int) * x (ga o i) - ((o.map λz=>ga (gr R (ga o i)) z * x z).sum:Nat):=by
 have e:∀ k,k<o.length->Am R W (ga o) i k * (x (ga o k):Int)=(if k=i then (W:Int) * x (ga o i) else 0) - ((ga (gr R (ga o i)) (ga o k) * x (ga o k):Nat):Int):=λk hk=>by
  unfold Am;by_cases q:k=i
  ·subst q;simp[Int.sub_mul]
  ·have:¬ ga o i=ga o k:=by
    rw[aQ hi,aQ hk];intro z;rcases Nat.lt_or_gt_of_ne q with l | l
    ·exact UW.mp nd _ _ _ _ l z.symm
    ·exact UW.mp nd _ _ _ _ l z
   rw[R3 this,R3 q];simp[Int.sub_mul,Int.neg_mul]
 rw[xT e,Fj,Fg,R1 hi,xU,uE]
section
variable{R:List (List Nat)}{W:Nat}{s:Nat->Nat->Nat}{V n:Nat}{ks:Nat->Nat}{gone:List Nat}{c d:Nat}{a:Nat->Nat->Nat}
theorem Wt.rhs(h:Wt R W s V n ks gone c d a)(nd:gone.Nodup){i j:Nat}(hi:i<gone.length)(hj:j<n):(d:Int)*(ga (gr R (ga gone i)) (ks j):Int)=sI (λk=>Am R W (ga gone) i k*(a (ga gone k) j:Int)) gone.length:=by
 rw[JQ (x:=λz=>a z j) nd hi]
 have:=h.i (ga gone i) (by rw[aQ hi];exact Td hi) j hj
 have e:((W*a (ga gone i) j:Nat):Int)=_:=congrArg Nat.cast this;rw[WR,Ue,Ue]at e;omega
theorem Wt.vZ(h:Wt R W s V n ks gone c d a)(nd:gone.Nodup)(hm:gone.length<=4){k j:Nat}(hk:k<gone.length)(hj:j<n):(d:Int)*dP R W gone (ks j) k=(a (ga gone k) j:Int)*dB R W gone:=by rw[Kc,wj];exact K.vZ (x:=λk=>(a (ga gone k) j:Int)) hm hk λi hi=>h.rhs nd hi hj
theorem Wt.du(h:Wt R W s V n ks gone c d a)(nd:gone.Nodup)(hm:gone.length<=4){i j:Nat}(hi:i<n)(hj:j<n):(d:Int) * du R W gone (ks i) (ks j)=((c * s i j:Nat):Int) * dB R W gone:=by
 unfold K.du oU;have e1:(d:Int) * sI (λk=>(ga (gr R (ks i)) (ga gone k):Int) * dP R W gone (ks j) k) gone.length=((gone.map λz=>ga (gr R (ks i)) z * a z j).sum:Nat) * dB R W gone:=by
  have key:∀ m,m<=gone.length->(d:Int) * sI (λk=>(ga (gr R (ks i)) (ga gone k):Int) * dP R W gone (ks j) k) m=(sN (λk=>ga (gr R (ks i)) (ga gone k) * a (ga gone k) j) m:Nat) * dB R W gone:=by
   intro m;induction m with
   |zero=>intro _;simp[sI,sN]
   |succ m ih=>
     intro hm;have q:=h.vZ nd (by omega) (k:=m) (by omega) hj
     rw[jo,cY,Int.mul_add,ih (by omega),WR,Int.add_mul,Ue,Int.mul_left_comm,q,Int.mul_assoc]
  rw[uE];exact key _ (RX _)
 show (d:Int)*(_+sI (λk=>(ga (gr R (ks i)) (ga gone k):Int)*dP R W gone (ks j) k) gone.length)=_
 rw[Int.mul_add,e1,h.ii i j hi hj,WR,Int.add_mul,Ue,Int.mul_assoc]
theorem Wt.det{p:Nat}(h:Wt R W s V (n + 1) ks gone c d a)(nd:gone.Nodup)(hm:gone.length<=3)(hn:1<=n)(hp:p<n + 1)(hk:ks p∉gone)(h0:0<dB R W gone):0<dB R W (ks p::gone):=by
 obtain⟨eL,L0⟩:=h.L0 hn hp;have e:dB R W (ks p::gone)=dn (gone.length + 1) (mat (gone.length + 1) (dX ((W:Int) - ga (gr R (ks p)) (ks p)) (λj=>- (ga (gr R (ks p)) (ga gone j):Int)) (λi=>- (ga (gr R (ga gone i)) (ks p):Int)) (Am R W (ga gone)))):=by
  rw[wj];show dn (gone.length+1) _=_;congr 1;refine j0 λi j hi hj=>?_
  have ne:∀i,i<gone.length->ks p≠ga gone i:=λi hi q=>hk (by rw[q,aQ hi];exact Td hi)
  cases i with
  | zero=>cases j with
    |zero=>simp[Am,dX,ga]
    |succ j=>
      have:=ne j (by simp at hj;omega)
      simp[Am,dX,ga]at this ⊢
      rw[R3 this];simp
  | succ i=>cases j with
    |zero=>
      have:=ne i (by simp at hi;omega)
      simp[Am,dX,ga]at this ⊢
      rw[R3 λq=>this q.symm];simp
    |succ j=>simp[Am,dX,ga]
 have q:=Ow (A:=Am R W (ga gone)) (al:=(W:Int)-ga (gr R (ks p)) (ks p)) (v:=λj=>(ga (gr R (ks p)) (ga gone j):Int)) (u:=λi=>(ga (gr R (ga gone i)) (ks p):Int)) (x:=λk=>(a (ga gone k) p:Int)) (d:=(d:Int)) hm λi hi=>h.rhs nd hi hp
 rw[<-e,<-wj]at q;have f:(d:Int)*((W:Int)-ga (gr R (ks p)) (ks p))-sI (λj=>(ga (gr R (ks p)) (ga gone j):Int)*(a (ga gone j) p:Int)) gone.length=((c*sN (λj=>s p (sk p j)) n:Nat):Int):=by
  have e1:=h.ii p p hp hp;have e2:=h.wd;rw[uE]at e1;have e3:sI (λj=>(ga (gr R (ks p)) (ga gone j):Int)*(a (ga gone j) p:Int)) gone.length=(sN (λk=>ga (gr R (ks p)) (ga gone k)*a (ga gone k) p) gone.length:Nat):=by rw[<-xU];exact xT λi y=>(Ue _ _).symm
  rw[e3];have e4:c*V=c*sN (λj=>s p (sk p j)) n+c*s p p:=by rw[<-eL,Nat.mul_add]
  have e5:(d:Int)*((W:Int)-ga (gr R (ks p)) (ks p))=((W*d:Nat):Int)-((d*ga (gr R (ks p)) (ks p):Nat):Int):=by rw[Int.mul_sub,Ue,Ue,Int.mul_comm]
  rw[e5];omega
 rw[f]at q;have:0<(d:Int)*dB R W (ks p::gone):=by rw[q];exact Int.mul_pos (Int.natCast_pos.mpr (Vu h.c0 L0)) h0
 rcases Int.lt_or_le 0 (dB R W (ks p::gone)) with z | z
 ·exact z
 ·have:=Int.mul_le_mul_of_nonneg_left z (Int.natCast_nonneg d);rw[Int.mul_zero]at this;omega
end
theorem zj{p:Nat}:∀ {n:Nat},p<n + 1->((List.range (n + 1)).filter λx=>!decide (x=p))=(List.range n).map (sk p)
 |0,h=>by
   obtain rfl:p=0:=by omega
   simp[List.range_succ]
 | n + 1,h=>by
   rw[Ud,Vt];by_cases q:p=n+1
   ·rw[Uw.mpr λx hx=>by have:=RW.mp hx;simp;omega]
    subst q;simp
    conv=>lhs;rw[<-List.map_id (List.range (n+1))]
    refine Sd λi hi=>?_
    have:=RW.mp hi;unfold sk;rw[R1 (by omega)];rfl
   ·rw[zj (p:=p) (n:=n) (by omega)]
    conv=>rhs;rw[Ud,T5]
    have:sk p n=n+1:=by unfold sk;rw[R3 (by omega)]
    simp[this];omega
def en(S:List (List Nat))(i j:Nat):Nat:=ga (gr S i) j
def fH(S:List (List Nat))(L p n:Nat):List (List Nat):=(List.range n).map λi=>(List.range n).map λj=>lo (en S) L p i j
theorem Li{S:List (List Nat)}{L p n i j:Nat}(hi:i<n)(hj:j<n):en (fH S L p n) i j=lo (en S) L p i j:=by
 show ga (gr (fH S L p n) i) j=_;have e:gr (fH S L p n) i=(List.range n).map λj=>lo (en S) L p i j:=by rw[gQ (by simp[fH];exact hi)];simp[fH]
 rw[e,aQ (by simpa using hj)]
 simp
theorem mC{S:List (List Nat)}{V:Nat}(wk:WK S V){i:Nat}(hi:i<S.length):sN (en S i) S.length=V:=by
 have h:=wk.sum _ (gr_mem hi);have l:=wk.row _ (gr_mem hi);rw[<-h,<-l];unfold sN en;congr 1;apply Tt
 ·simp
 ·intro j h1 h2;simp at h1;simp[aQ h1]
theorem Dw{S:List (List Nat)}{V L p n:Nat}(wk:WK S V)(hn:S.length=n+1)(n1:1<=n)(hp:p<n+1)(hL:sN (λj=>en S p (sk p j)) n=L)(L0:0<L):WK (fH S L p n) (L*V):=by
 have n25:=wk.n25;have v0:=wk.w1;have key:∀i,i<n->sN (λj=>lo (en S) L p i j) n=L*V:=λi hi=>by
  rw[gK (g:=λj=>L*en S (sk p i) (sk p j)+en S (sk p i) p*en S p (sk p j)) λj hj=>by rw[lo,WW L],tU,dI,dI,hL]
  have e:=mC wk (i:=sk p i) (by rw[hn];exact jh hi)
  rw[hn,pZ hp]at e;rw[<-e]
  grind
 refine⟨by simp[fH];exact n1,by simp[fH];omega,λr hr=>?_,λr hr=>?_,Vu L0 v0⟩
 ·obtain⟨i,hi,rfl⟩:=Te.mp hr;simp[fH]
 ·obtain⟨i,hi,rfl⟩:=Te.mp hr;exact key i (RW.mp hi)
noncomputable def yW:=aG 2 5 (rW qJ oG fJ)
theorem Lj{S:List (List Nat)}{V L p n:Nat}(wk:WK S V)(hn:S.length=n + 1)(n1:1<=n)(hp:p<n + 1)(hL:sN (λj=>en S p (sk p j)) n=L)(L0:0<L)(hV:V<2 ^ 1000):yW [aV S V,nD p]=pure (aV (cN (fH S L p n)) (L * V / gR (fH S L p n))):=by
 have n25:=wk.n25;have rl:∀i,i<n+1->(gr S i).length=n+1:=λi hi=>by rw[<-hn];exact wk.row _ (gr_mem (by omega))
 have le:∀i j,i<n+1->en S i j<=V:=λi j hi=>wk.at_le (gr_mem (by omega)) j
 have eL:L+en S p p=V:=by
  have e:=mC wk (i:=p) (by omega)
  rw[hn,pZ hp,hL]at e;omega
 have lw:=Dw wk hn n1 hp hL L0;have e1:lB [nD S.length]=some (.fix ((List.range S.length).map nD)):=ik (by omega)
 simp[yW,rW,gD,Dj,lQ n25,e1,aR,cu,lA];rw[aU nD (λy=>!decide (y=p)) nD (by simp;omega) (λy hy=>by simp[xN]) (λy hy z=>by simp)]
 rw[hn,zj hp];have al:(rd (lL (.lst ((List.range n).map (nD ∘ sk p)))):DM Itn)=pure (.fix ((List.range n).map (nD ∘ sk p))):=rfl;have lb:∀{x:Nat},x<=V->x<2^8000:=λh=>Tu h (RQ hV (Tr (by decide) (by decide)))
 have ix:∀i j,i<n+1->j<n+1->(rd (eG (nT (gr S i)) (nD j)):DM D)=pure (nD (en S i j)):=λi j hi hj=>m7 (by rw[rl i hi];exact hj)
 have ixr:∀i,i<n+1->(rd (eG (nM S) (nD i)):DM D)=pure (nT (gr S i)):=λi hi=>jH (by omega)
 have sb:(rd (rE (nD V) (nD (en S p p))):DM D)=pure (nD L):=by rw[Ez (by omega),show V-en S p p=L by omega]
 simp[Out.run,al,ixr p hp,ix p p hp hp,sb,lA];rw[dq (nD ∘ sk p) (λi=>nT ((List.range n).map λj=>lo (en S) L p i j)) (by simp;omega) (λi hi=>by
  have hi:=RW.mp hi;have hi':=jh (p:=p) hi;simp[al,lA];rw[dq (nD ∘ sk p) (λj=>nD (lo (en S) L p i j)) (by simp;omega) (λj hj=>by have hj:=RW.mp hj;have hj':=jh (p:=p) hj;simp[ixr _ hi',ixr p hp,ix _ _ hi' hj',ix _ _ hi' hp,ix _ _ hp hj',xM (lb (le _ _ hi')) (lb (show L<=V by omega)),xM (lb (le (sk p i) p hi')) (lb (le p (sk p j) hp)),eN,lo])]
  simp[nT,Function.comp_def])]
 have e:D.tup ((List.range n).map λi=>nT ((List.range n).map λj=>lo (en S) L p i j))=nM (fH S L p n):=by simp[nM,fH]
 have b2:L*V<2^8000:=by
  have:L*V<2^1000*2^1000:=Nat.mul_lt_mul'' (by omega) hV
  exact RQ this (by decide +kernel)
 simp[e,yH lw,zL lw b2]
def kept(n q:Nat)(P:List Nat):List Nat:=(List.range n).filter λx=>decide (x<q) || decide (x∈P)
def iW(n q:Nat)(P:List Nat):List Nat:=(List.range n).filter λx=>!decide (x<q)&&!decide (x∈P)
theorem wK(n:Nat)(P:List Nat):kept n n P=List.range n:=Uw.mpr λx hx=>by simp[List.mem_range.mp hx]
theorem uo(n:Nat)(P:List Nat):iW n n P=[]:=Wq.mpr λx hx=>by simp[List.mem_range.mp hx]
theorem GF(n:Nat)(P:List Nat):iW n 0 P=outs n P:=by unfold iW outs;congr 1
theorem IV{n q:Nat}{P:List Nat}(h:q∈P):kept n (q + 1) P=kept n q P/\iW n (q + 1) P=iW n q P:=by
 refine⟨U6 λx z=>?_,U6 λx z=>?_⟩
 all_goals
  by_cases e:x=q
  ·subst e;simp[h]
  ·have:(x<q+1)=(x<q):=by apply propext;omega
   simp[this]
theorem wL{n q:Nat}{P:List Nat}(hq:q<n)(h:q∉P):kept n (q + 1) P=List.range q++q::(((List.range n).drop (q + 1)).filter λx=>decide (x∈P))/\kept n q P=List.range q++(((List.range n).drop (q + 1)).filter λx=>decide (x∈P))/\iW n q P=q::iW n (q + 1) P:=by
 have sp:List.range n=List.range q++q::(List.range n).drop (q + 1):=by
  apply Tt
  ·simp;omega
  ·intro i h1 h2;simp at h1;rcases W6 i q with c | c | c
   ·rw[List.getElem_append_left (by simpa using c)];simp
   ·subst c;simp
   ·rw[List.getElem_append_right (by simp;omega)]
    simp only[List.length_range];rw[List.getElem_cons];rw[dif_neg (by omega)]
    simp;omega
 have dr:∀x∈(List.range n).drop (q+1),q+1<=x:=λx hx=>by obtain⟨i,hi,rfl⟩:=WX.mp hx;simp
 have f1:∀p:Nat->Bool,(∀x,x<q->p x=true)->(List.range q).filter p=List.range q:=λp hp=>Uw.mpr λx hx=>hp x (RW.mp hx)
 have f0:∀p:Nat->Bool,(∀x,x<q->p x=false)->(List.range q).filter p=[]:=λp hp=>Wq.mpr λx hx=>by simp[hp x (List.mem_range.mp hx)]
 refine⟨?_,?_,?_⟩
 ·unfold kept;rw[sp,Vt,f1 _ (λx hx=>by simp;omega),Wk (by simp),<-sp]
  congr 2;exact U6 λx hx=>by have:=dr x hx;simp;omega
 ·unfold kept;rw[sp,Vt,f1 _ (λx hx=>by simp;omega),Wm (by simp[h]),<-sp]
  congr 1;exact U6 λx hx=>by have:=dr x hx;simp;omega
 ·unfold iW;rw[sp,Vt,f0 _ (λx hx=>by simp;omega),Wk (by simp[h]),Vt,f0 _ (λx hx=>by simp;omega),Wm (by simp)]
  simp;exact U6 λx hx=>by have:=dr x hx;rw[TJ (p:=x<q) (by omega),TJ (p:=x<q+1) (by omega)]
theorem wC:∀ (n a:Nat) (P:List Nat),P.Pairwise (·< ·)->(∀ x∈P,a<=x/\x<a + n)->((List.range' a n).filter λx=>decide (x∈P))=P
 |0,a,P,_,h=>by
   cases P with
   |nil=>rfl
   |cons x P=>have:=h x (by simp);omega
 | n + 1,a,P,hp,h=>by
   rw[List.range'_succ];cases P with
   |nil=>exact Wq.mpr λx z=>by simp
   | cons x Q=>
     obtain⟨h1,h2⟩:=UV.mp hp;by_cases q:x=a
     ·subst q;rw[Wk (by simp)]
      congr 1;refine Eq.trans (U6 λy hy=>?_) (wC n (x+1) Q h2 λy hy=>?_)
      ·have:x+1<=y:=(List.mem_range'_1.mp hy).1;simp;intro e;omega
      ·have a1:=h1 y hy;have a2:=h y (by simp[hy])
       omega
     ·have hx:=h x (by simp)
      rw[Wm (by
       simp only[decide_eq_true_eq];intro m;rcases R8.mp m with e | m
       ·exact q e.symm
       ·have:=h1 a m;omega)]
      refine wC n (a+1) (x::Q) hp λy hy=>?_
      have a2:=h y hy;rcases R8.mp hy with e | m
      ·omega
      ·have:=h1 y m;omega
theorem uT{n:Nat}{P:List Nat}(h:Spl n P):kept n 0 P=P:=by
 have e:=wC n 0 P h.up λx hx=>⟨by omega,by have:=h.lt x hx;omega⟩
 rw[<-Uh]at e;refine Eq.trans (U6 λx z=>?_) e
 simp
set_option tactic.hygienic true in
theorem Dv{n q:Nat}{P:List Nat}(hq:q<n)(h:q∉P):(kept n (q+1) P).length=(kept n q P).length+1/\q<(kept n (q+1) P).length/\ga (kept n (q+1) P) q=q/\∀j,ga (kept n q P) j=ga (kept n (q+1) P) (sk q j):=by
 obtain⟨e1,e2,_⟩:=wL hq h;rw[e1,e2];refine⟨by simp;omega,by simp,by simp[ga],λj=>?_⟩
 unfold ga sk;rw[Sx,Sx];congr 1;split
 ·rename_i c;rw[RZ (by simpa using c),RZ (by simpa using c)]
 ·rename_i c;rw[Sh (by simp;omega),Sh (by simp;omega)]
  rw[show j+1-(List.range q).length=(j-(List.range q).length)+1 by simp;omega,Vs]
theorem GZ{n q:Nat}{P:List Nat}(hP:Spl n P)(hq:q<n)(h:q∉P):1<=(kept n q P).length:=by obtain⟨x,hx⟩:=V6 _ hP.ne;exact List.length_pos_of_mem (a:=x) (TV.mpr ⟨RW.mpr (hP.lt x hx),by simp[hx]⟩)
theorem KC(n q:Nat)(P:List Nat):(iW n q P).Nodup:=List.Pairwise.filter _ List.nodup_range
theorem zu{n q:Nat}{P:List Nat}:q∉iW n (q+1) P:=λh=>by have:=(TV.mp h).2;simp at this
theorem yu{f g:Nat->Bool}(h:∀ x,(f x && g x)=false):∀ l:List Nat,(l.filter f).length + (l.filter g).length<=l.length
 |[]=>by simp
 | x::l=>by
   have ih:=yu h l;have:=h x;rw[List.filter_cons,List.filter_cons,TF];by_cases hf:f x=true
   ·have hg:¬ g x=true:=λhg=>by rw[hf,hg]at this;cases this
    rw[R1 hf,R3 hg,TF];omega
   ·rw[R3 hf];split
    ·rw[TF];omega
    ·omega
theorem zr{n q:Nat}{P:List Nat}:(kept n q P).length+(iW n q P).length<=n:=by
 have:=yu (f:=λx=>decide (x<q) || decide (x∈P)) (g:=λx=>!decide (x<q)&&!decide (x∈P)) (λx=>by cases decide (x<q)<;>cases decide (x∈P)<;>rfl) (List.range n)
 rw[Sv]at this;exact this
theorem jf(k:Nat):∀ (l:List Nat) (g:Nat),(l.map (k * ·)).foldl Nat.gcd (k * g)=k * l.foldl Nat.gcd g
 |[],g=>rfl
 |n::l,g=>by simp only[List.map_cons,List.foldl_cons];rw[Nat.gcd_mul_left];exact jf k l _
theorem um(R:List (List Nat)):gR R=R.flatten.foldl Nat.gcd 0:=by
 have key:∀(R:List (List Nat)) (g:Nat),R.foldl (λg r=>r.foldl Nat.gcd g) g=R.flatten.foldl Nat.gcd g:=by
  intro R;induction R with
  |nil=>intro g;rfl
  |cons r R ih=>intro g;rw[Xd,ih,U7,List.foldl_append]
 exact key R 0
theorem wG{R:List (List Nat)}{W:Nat}(wk:WK R W):gR (cN R)=1:=by
 have g0:=oW wk;have e:R.flatten=(cN R).flatten.map (gR R * ·):=by
  rw[List.map_flatten];congr 1;unfold cN;rw[Tq]
  conv=>lhs;rw[<-List.map_id R]
  exact Sd λr hr=>uD hr
 have:gR R=gR R*gR (cN R):=by
  conv=>lhs;rw[um,e]
  rw[um (cN R)];have:=jf (gR R) (cN R).flatten 0;rw[VD]at this;exact this
 have h1:gR R*gR (cN R)=gR R*1:=by rw[<-this,Nat.mul_one]
 exact V5 g0 h1
theorem mQ{R:List (List Nat)}{W:Nat}(wk:WK R W){i j:Nat}(hi:i<R.length):gR R*en (cN R) i j=en R i j:=(Ml hi).symm
theorem jn(R:List (List Nat)):(cN R).length=R.length:=by simp[cN]
theorem qH{R:List (List Nat)}{W:Nat}(wk:WK R W):gR R*(W / gR R)=W:=by
 have h0:0<R.length:=wk.n1;have e:=mC wk (i:=0) h0;have e':=mC wk.plain (i:=0) (by rw[jn];exact h0)
 rw[jn]at e';rw[<-e',<-dI,<-e];exact gK λj z=>mQ wk h0
structure Seen(R:List (List Nat))(W q:Nat)(P:List Nat)(S:List (List Nat))(V c d:Nat)(a:Nat->Nat->Nat):Prop where
 wk:WK S V
 len:S.length=(kept R.length q P).length
 wt:Wt R W (en S) V S.length (ga (kept R.length q P)) (iW R.length q P) c d a
 det:0<dB R W (iW R.length q P)
 bd:V<2^(4*2^(iW R.length q P).length)
 one:gR S=1
theorem Seen.start{R:List (List Nat)}{W:Nat}{P:List Nat}(wk:WK R W)(hW:W<16)(ring:∀ i,i<R.length->0<ga (gr R i) ((i + 1) % R.length)):Seen R W R.length P (cN R) (W / gR R) (gR R) 1 (λy y=>0):=by
 have g0:=oW wk;have pk:=wk.plain;refine⟨pk,by rw[wK,jn,Sv],?_,?_,?_,wG wk⟩
 ·rw [wK,uo,jn];refine⟨g0,by omega,pk.w1,λi hi=>?_,λz hz=>absurd hz (by simp),λi j hi hj=>?_,λz hz=>absurd hz (by simp),?_,λy i hi=>?_⟩
  ·have:=mC pk (i:=i) (by rw[jn];exact hi)
   rw[jn]at this;exact this
  ·rw[mQ wk hi];have r1:∀k,k<R.length->ga (List.range R.length) k=k:=λk hk=>by rw[aQ (by simpa using hk)];simp
   rw[r1 i hi,r1 j hj];simp[en]
  ·rw[qH wk,Nat.mul_one]
  ·have r:=ring i hi;have hx:(i+1)%R.length=nx R.length i:=by
    unfold nx;split
    ·exact Xa (by omega)
    ·rw[show i+1=R.length by omega,Nat.mod_self]
   rw[hx]at r;have e:=mQ wk (j:=nx R.length i) hi;rcases T6 (en (cN R) i (nx R.length i)) with z | z
   ·rw[z,VD]at e;unfold en at e;omega
   ·exact z
 ·rw[uo];simp[dB,dn]
 ·rw[uo];exact Tu (Nat.div_le_self _ _) hW
theorem Seen.stay{R:List (List Nat)}{W q:Nat}{P:List Nat}{S:List (List Nat)}{V c d:Nat}{a:Nat->Nat->Nat}(h:Seen R W (q+1) P S V c d a)(hq:q∈P):Seen R W q P S V c d a:=by obtain⟨e1,e2⟩:=IV (n:=R.length) hq;obtain⟨h1,h2,h3,h4,h5,h6⟩:=h;rw[e1]at h2 h3;rw[e2]at h3 h4 h5;exact⟨h1,h2,h3,h4,h5,h6⟩
theorem Seen.out{R:List (List Nat)}{W q:Nat}{P:List Nat}{S:List (List Nat)}{V c d:Nat}{a:Nat->Nat->Nat}(h:Seen R W (q + 1) P S V c d a)(h5:R.length<=5)(hP:Spl R.length P)(hn:q<R.length)(hq:q∉P):∃ S' V' c' d' a',yW [aV S V,nD q]=pure (aV S' V')/\Seen R W q P S' V' c' d' a':=by
 obtain⟨k1,k2,k3,k4⟩:=Dv hn hq;obtain⟨_,_,g1⟩:=wL hn hq;have m1:=GZ hP hn hq;have gl:=zr (n:=R.length) (q:=q) (P:=P);rw[g1,TF]at gl;obtain⟨wk,len,wt,dt,bd,one⟩:=h;have len':S.length=(kept R.length q P).length+1:=by rw[len,k1]
 rw[len']at wt;obtain⟨eL,L0⟩:=wt.L0 m1 (p:=q) (by omega)
 have bV:V<2^1000:=RQ bd (Tr (by decide) (R7 (V3 4 (Tr (by decide) (show (iW R.length (q+1) P).length<=4 by omega))) (by decide)))
 have lw:=Dw wk len' m1 (p:=q) (by omega) rfl L0
 have g0:=oW lw;refine⟨_,_,c*gR (fH S (sN (λj=>en S q (sk q j)) (kept R.length q P).length) q (kept R.length q P).length),d*sN (λj=>en S q (sk q j)) (kept R.length q P).length,aN (en S) a (sN (λj=>en S q (sk q j)) (kept R.length q P).length) d q q,Lj wk len' m1 (p:=q) (by omega) rfl L0 bV,lw.plain,by simp[cN,fH],?_,?_,?_,wG lw⟩
 ·have st:=wt.step (p:=q) (s':=en (cN (fH S (sN (λj=>en S q (sk q j)) (kept R.length q P).length) q (kept R.length q P).length))) (V':=sN (λj=>en S q (sk q j)) (kept R.length q P).length*V / gR (fH S (sN (λj=>en S q (sk q j)) (kept R.length q P).length) q (kept R.length q P).length)) m1 (by omega) rfl (by rw[k3];exact zu) g0 (λi j hi hj=>by rw[mQ lw (by simp[fH];exact hi),Li hi hj]) (qH lw)
  have e:(λj=>ga (kept R.length (q+1) P) (sk q j))=ga (kept R.length q P):=funext λj=>(k4 j).symm
  rw[e,k3,<-g1]at st;have el:(cN (fH S (sN (λj=>en S q (sk q j)) (kept R.length q P).length) q (kept R.length q P).length)).length=(kept R.length q P).length:=by simp[cN,fH]
  rw[el];exact st
 ·have:=wt.det (p:=q) (KC _ _ _) (by omega) m1 (by omega) (by rw[k3];exact zu) dt
  rw[k3,<-g1]at this;exact this
 ·rw[g1,TF];refine Tu (Nat.div_le_self _ _) ?_;have le:sN (λj=>en S q (sk q j)) (kept R.length q P).length<=V:=by omega
  refine RQ (Nat.mul_lt_mul'' (Tu le bd) bd) ?_;rw[<-Nat.pow_add,Nat.pow_succ];exact Tr (by decide) (by omega)
noncomputable def Cg:=aG 2 4 (uK BZ vL qJ yW fJ)
def Q3(R:List (List Nat))(W:Nat)(P:List Nat)(M:Mo)(v:D)(M':Mo):Prop:=∃S V c d a,v=aV S V/\Seen R W 0 P S V c d a/\∀(j:Nat) (o:DO),M[j]?=some o->M'[j]?=some o
def Q0(R:List (List Nat))(W:Nat)(P:List Nat)(M1:Mo)(i:Nat)(δ:aa)(M':Mo):Prop:=i<=R.length/\(∃S V c d a z,δ=[some (aV R W),some (nT P),some (aV S V),z]/\Seen R W (R.length-i) P S V c d a)/\M'=M1
set_option tactic.hygienic true in
theorem Gb{R:List (List Nat)}{W:Nat}{P:List Nat}(wk:WK R W)(al:AL R)(h5:R.length<=5)(hW:W<16)(ring:∀ i,i<R.length->0<ga (gr R i) ((i + 1) % R.length))(hP:Spl R.length P)(M:Mo):
  Rn (Cg [aV R W,nT P]) M (Q3 R W P M):=by
 have n1:=wk.n1;unfold Cg uK o6;dsimp only;refine Rn.call rfl ?_;have st:bx 4 [aV R W,nT P]=[some (aV R W),some (nT P),none,none]:=rfl;rw[st];refine aF λK hK=>?_
 simp;refine Rn.bind (LC wk h5 al M) λd M1 ⟨e,k1⟩=>?_
 subst e;rw[hK];clear hK K;refine aF λK hK=>?_
 simp[Jy hP wk.n25];rw[hK];clear hK K;refine aF λK hK=>?_
 simp[zL wk (Nat.lt_of_lt_of_le hW (by decide +kernel))]
 rw[hK];clear hK K;have rv:HQ [nD R.length]=some (.fix (m8 ((R.length:Int)-1) (-1) R.length)):=by unfold HQ nD;simp;omega
 refine aF λK hK=>?_
 simp[lQ wk.n25,rv,fF];refine Rn.bind (bC (Q0 R W P M1) _ 0 _ _ ⟨by omega,⟨_,_,_,_,_,_,rfl,Seen.start wk hW ring⟩,rfl⟩ (λi d δ M2 hi hI=>?_)) (λr M2 hI=>?_)
 ·clear hK K;obtain⟨_,⟨S,V,c,dd,a,z,rfl,hS⟩,rfl⟩:=hI;rw[uB]at hi;split at hi;rotate_left
  ·cases hi
  rename_i hi';have hd:d=nD (R.length-(i+1)):=by cases hi;unfold nD;congr 1;omega
  subst hd;rw[Ti]at hS ⊢
  rw[show R.length-i=(R.length-(i+1))+1 by omega]at hS
  rw[fV,aD];by_cases hq:R.length-(i+1)∈P
  ·simp[xO,hq];exact Rn.pure ⟨_,rfl,by omega,⟨_,_,_,_,_,_,rfl,hS.stay hq⟩,rfl⟩
  ·obtain⟨S',V',c',d',a',ef,hS'⟩:=hS.out h5 hP (by omega) hq
   simp[xO,hq,ef];exact Rn.pure ⟨_,rfl,by omega,⟨_,_,_,_,_,_,rfl,hS'⟩,rfl⟩
 ·obtain⟨δ',rfl,_,⟨S,V,c,dd,a,z,rfl,hS⟩,rfl⟩:=hI;rw[hK];clear hK K;simp;have:(m8 ((R.length:Int)-1) (-1) R.length).length=R.length:=by simp[m8]
  rw[this,Ti,Nat.sub_self]at hS;exact Rn.pure ⟨_,rfl,S,V,c,dd,a,rfl,hS,k1⟩
theorem NQ{R:List (List Nat)}{W:Nat}{o:List Nat}{x y:Nat}(wk:WK R W)(ho:∀ x∈o,x<R.length)(hW:W<=100)(ol:o.length<=4)(hx:x<R.length):(du R W o x y).natAbs<2 ^ 3100:=by
 have bB:(dB R W o).natAbs<2^3050:=vm (uC wk ho hW) (by omega) (by omega)
 have bP:∀c,(dP R W o y c).natAbs<2^3050:=λc=>vm (Ar wk ho hW) (by omega) (by omega)
 have le:∀z,ga (gr R x) z<=100:=λz=>R7 (wk.at_le (gr_mem hx) z) hW
 have key:∀ i,(oU R W o x y i).natAbs<=(i + 1) * (100 * 2 ^ 3050):=by
  intro i;induction i with
  |zero=>simp[oU,Int.natAbs_mul];exact Vz (le _) (Vp bB)
  |succ i ih=>rw[wz];refine R7 (Int.natAbs_add_le _ _) ?_;rw[Int.natAbs_mul,Nat.succ_mul (i+1)];exact Nat.add_le_add ih (Vz (by simpa using le _) (Vp (bP i)))
 refine Tu (R7 (key _) (Nat.mul_le_mul_right _ (show o.length+1<=5 by omega))) (by decide +kernel)
theorem zm{S:List (List Nat)}{V:Nat}(wk:WK S V):S=(List.range S.length).map λi=>(List.range S.length).map (en S i):=by
 apply Tt
 ·simp
 ·intro i h1 h2;have l:=wk.row _ (Td h1);apply Tt
  ·simp[l]
  ·intro j h3 h4;simp[en,gQ h1,aQ h3]
theorem Seen.due{R:List (List Nat)}{W:Nat}{P:List Nat}{S:List (List Nat)}{V c d:Nat}{a:Nat->Nat->Nat}(h:Seen R W 0 P S V c d a)(wk:WK R W)(hW:W<=100)(h5:R.length<=5)(hP:Spl R.length P):
  ∃(U:Nat->Nat->Nat) (g:Nat),(∀x∈P,∀y∈P,du R W (outs R.length P) x y=(U x y:Int))/\oX ((List.range P.length).flatMap λj=>P.map (U (ga P j)))=g/\0<g/\g<2^8000/\(P.map λx=>P.map λy=>U x y / g)=S:=by
 obtain⟨sk,len,wt,dt,_,one⟩:=h;rw[uT hP]at len wt;rw[GF]at wt dt;have ol:=zH hP;have nd:(outs R.length P).Nodup:=List.Pairwise.filter _ List.nodup_range;have ho:∀x∈outs R.length P,x<R.length:=λx hx=>RW.mp (TV.mp hx).1
 obtain⟨D,hD⟩:∃D:Nat,dB R W (outs R.length P)=(D:Int):=⟨(dB R W (outs R.length P)).toNat,by omega⟩
 have D0:0<D:=by rw[hD]at dt;omega
 have eq:∀i j,i<S.length->j<S.length->(d:Int)*du R W (outs R.length P) (ga P i) (ga P j)=((c*D*en S i j:Nat):Int):=λi j hi hj=>by
  rw[wt.du nd (by omega) hi hj,hD,<-Ue]
  congr 1
  grind
 have d0:=wt.d0;have c0:=wt.c0;have nn:∀i j,i<S.length->j<S.length->0<=du R W (outs R.length P) (ga P i) (ga P j):=λi j hi hj=>by
  rcases Int.lt_or_le (du R W (outs R.length P) (ga P i) (ga P j)) 0 with z | z
  ·have:=Int.mul_lt_mul_of_pos_left z (show (0:Int)<d by omega)
   rw[eq i j hi hj,Int.mul_zero]at this;omega
  ·exact z
 have ix:∀x∈P,∃i,i<S.length/\x=ga P i:=λx hx=>by obtain⟨i,hi,e⟩:=WX.mp hx;exact⟨i,by omega,by rw[aQ hi];exact e.symm⟩
 let U:Nat->Nat->Nat:=λx y=>(du R W (outs R.length P) x y).toNat
 have hU:∀i j,i<S.length->j<S.length->d*U (ga P i) (ga P j)=c*D*en S i j:=λi j hi hj=>by
  have q:=eq i j hi hj;have:=nn i j hi hj;have e:du R W (outs R.length P) (ga P i) (ga P j)=(U (ga P i) (ga P j):Int):=by show _=((du R W (outs R.length P) (ga P i) (ga P j)).toNat:Int);omega
  rw[e,<-Ue]at q;exact Int.ofNat.inj q
 have fl:((List.range P.length).flatMap λj=>P.map (U (ga P j))).map (d * ·)=S.flatten.map (c*D * ·):=by
  conv=>rhs;rw[zm sk]
  rw[<-len,List.flatMap_def,List.map_flatten,List.map_flatten];congr 1;rw[Tq,Tq];refine Sd λi hi=>?_
  have hi:=RW.mp hi;show (P.map (U (ga P i))).map (d * ·)=((List.range S.length).map (en S i)).map (c*D * ·);rw[jD P,<-len,Tq,Tq];refine Sd λj hj=>?_
  exact hU i j hi (RW.mp hj)
 have gd:d*oX ((List.range P.length).flatMap λj=>P.map (U (ga P j)))=c*D:=by
  have s1:=jf d ((List.range P.length).flatMap λj=>P.map (U (ga P j))) 0
  have s2:=jf (c*D) S.flatten 0;rw[VD]at s1 s2;rw[fl,s2,<-um,one,Nat.mul_one]at s1;exact s1.symm
 generalize hg:oX ((List.range P.length).flatMap λj=>P.map (U (ga P j)))=g at gd
 have g0:0<g:=by
  rcases T6 g with z | z
  ·rw[z,VD]at gd;have:=Vu c0 D0;omega
  ·exact z
 have Us:∀i j,i<S.length->j<S.length->U (ga P i) (ga P j)=g*en S i j:=λi j hi hj=>by refine V5 d0 ?_;rw[hU i j hi hj,<-gd,VP]
 refine⟨U,g,λx hx y hy=>?_,hg,g0,?_,?_⟩
 ·obtain⟨i,hi,rfl⟩:=ix x hx;obtain⟨j,hj,rfl⟩:=ix y hy;have:=nn i j hi hj;show _=((du R W (outs R.length P) (ga P i) (ga P j)).toNat:Int);omega
 ·have s0:0<S.length:=sk.n1;have hx:ga P 0<R.length:=by rw[aQ (by omega)];exact hP.lt _ (Td _)
  obtain ⟨j,hj,hpos⟩:∃ j,j<S.length/\0<en S 0 j:=by
   rcases Classical.em (∃j,j<S.length/\0<en S 0 j) with z | z
   ·exact z
   ·have e:=mC sk (i:=0) s0;rw[gK (g:=λw=>0*0) λj hj=>by
     rcases T6 (en S 0 j) with q | q
     ·exact q
     ·exact absurd ⟨j,hj,q⟩ z,dI,Nat.zero_mul]at e
    have:=sk.w1;omega
  have b:=NQ (y:=ga P j) wk ho hW (by omega) hx
  have e1:=Us 0 j s0 hj;have e2:U (ga P 0) (ga P j)<2^3100:=by show (du R W (outs R.length P) (ga P 0) (ga P j)).toNat<_;exact Tu (by omega) b
  rw[e1]at e2;exact Tu (Nat.le_mul_of_pos_right g hpos) (RQ e2 (Tr (by decide) (by decide)))
 ·rw[zm sk,jD P,<-len];refine Sd λi hi=>?_
  rw[jD P,<-len];refine Sd λj hj=>?_
  rw[Us i j (RW.mp hi) (RW.mp hj),Nat.mul_div_cancel_left _ g0]
theorem Hm{R:List (List Nat)}{W:Nat}(wk:WK R W):∀i,i<(jc R R.length).length->0<ga (gr (jc R R.length) i) ((i+1)%(jc R R.length).length):=by
 intro i hi;rw[dU]at hi ⊢
 have hl:=wk.row _ (gr_mem hi);have hx:(i+1)%R.length<R.length:=UL _ (by omega)
 rw[Ff hi];unfold rr;rw[hl,aQ (by rw[U4,hl];exact hx),WD]
 omega
theorem dm.kp{p:Nat}{M M':Mo}(h:dm p M)(k:∀(j:Nat) (o:DO),M[j]?=some o->M'[j]?=some o):dm p M':=by obtain⟨a,b,c,hc,e⟩:=h;exact⟨a,b,c,hc,k _ _ e⟩
theorem Seen.sh{R:List (List Nat)}{W:Nat}{P:List Nat}{S:List (List Nat)}{V c d:Nat}{a:Nat->Nat->Nat}(h:Seen R W 0 P S V c d a)(h5:R.length<=5)(hP:Spl R.length P):Ho (nM S):=by
 have sm:=hP.sm;have len:=h.len;rw[uT hP]at len;have gl:=zr (n:=R.length) (q:=0) (P:=P);have bV:V<2^1000:=RQ h.bd (Tr (by decide) (R7 (V3 4 (Tr (by decide) (show (iW R.length 0 P).length<=5 by omega))) (by decide)))
 exact JC (λl hl n hn=>Tu (h.wk.le hl hn) bV) (λl hl=>by rw[h.wk.row l hl];omega) (by omega)
noncomputable def Gf:=aG 1 10 (Hv vH vK vN BL Cd BV Cg oG)
def PX(cs:List Int)(i:Nat)(δ:aa)(M:Mo):Prop:=∃x1 x2 x3 x4 x5 x6 x7 x8 x9,δ=[some (.scr cs),x1,x2,x3,x4,x5,x6,x7,x8,x9]
def Qc(cs:List Int)(x1:Option D)(p:Nat)(i:Nat)(δ:aa)(M:Mo):Prop:=(∃x3 x4 x5 x6 x7 x8 x9,δ=[some (.scr cs),x1,some (.ref p),x3,x4,x5,x6,x7,x8,x9])/\dm p M
def Qa(cs:List Int)(x1 x3:Option D)(p:Nat)(T:List (List Nat))(W:Nat)(i:Nat)(δ:aa)(M:Mo):Prop:=(∃x6 x7 x8 x9,δ=[some (.scr cs),x1,some (.ref p),x3,some (nM T),some (aV T W),x6,x7,x8,x9])/\dm p M
def PQ(cs:List Int)(x1 x3:Option D)(p:Nat)(T:List (List Nat))(W:Nat)(Q:List Nat)(d:D)(i:Nat)(δ:aa)(M:Mo):Prop:=(∃x8 x9,δ=[some (.scr cs),x1,some (.ref p),x3,some (nM T),some (aV T W),some (nT Q),some d,x8,x9])/\dm p M
theorem IW(cs:List Int)(hcs:cs.length<=100000):Rn (Gf [.scr cs]) [] λd z=>d=.bl true:=by
 unfold Gf Hv Bj;dsimp only;refine Rn.call rfl ?_;have st:bx 10 [D.scr cs]=[some (.scr cs),none,none,none,none,none,none,none,none,none]:=rfl;rw[st];obtain⟨c0,ec⟩:=J6 cs 0;have ec':vH [.scr cs,.int 0]=pure (.int c0):=ec;have l1:∀x:D,lU [x]=pure (.lst [x]):=λx=>gU (by simp)
 have cl:(cutD (cs.map D.int) (some 1) (some 3)).length<=100000:=by unfold cutD;rw[Vd,Ve,RT];omega
 have ci:∀d∈[.int c0]++cutD (cs.map D.int) (some 1) (some 3),∃c:Int,d=.int c:=λd hd=>by
  rcases Su.mp hd with h | h
  ·exact⟨c0,SJ.mp h⟩
  ·unfold cutD at h;obtain⟨c,_,rfl⟩:=Te.mp (Xk (Xj h));exact⟨c,rfl⟩
 have ad:=uz (a:=[.int c0]) (b:=cutD (cs.map D.int) (some 1) (some 3)) (by simp;omega)
 have a1:(za (.int 1):DM (Option Int))=pure (some 1):=rfl;have a3:(za (.int 3):DM (Option Int))=pure (some 3):=rfl;have e2:lB [.int 2]=some (.fix ((List.range 2).map nD)):=ik (n:=2) (by omega)
 refine aF λK hK=>?_
 simp[ec',l1,Oq];rw[a1,aD,a3,aD,ad];simp only[aD,Mw,fF,o7,List.map_cons,List.map_nil];clear ad cl;generalize [.int c0]++cutD (cs.map D.int) (some 1) (some 3)=cl at ci;refine Rn.bind (bC (PX cs) cl 0 _ _ ⟨_,_,_,_,_,_,_,_,_,rfl⟩ (λj d δ M hj hI=>?_)) (λr M hI=>?_)
 rotate_left
 ·obtain⟨δ',rfl,_⟩:=hI;rw[hK];exact Rn.pure rfl
 clear hK K;obtain⟨c,rfl⟩:=ci d (S7 hj);obtain⟨x1,x2,x3,x4,x5,x6,x7,x8,x9,rfl⟩:=hI;generalize 0+j+1=nx;rw[fV,aD];refine aF λK hK=>?_
 simp only[o5,iY,aZ];refine Rn.bind (Jp c M) λd M0 ⟨e,hp⟩=>?_
 subst e;revert hp;generalize M.length=p;intro hp
 try simp only[o5,aD]
 rw[hK];clear hK K;simp[e2,fF];refine Rn.mono (bC (Qc cs (some (.int c)) p) _ 0 _ _ ⟨⟨_,_,_,_,_,_,_,rfl⟩,hp⟩ (λt d δ M1 ht hI=>?_)) (λr M1 hI=>?_)
 rotate_left
 ·obtain⟨δ',rfl,⟨x3,x4,x5,x6,x7,x8,x9,rfl⟩,_⟩:=hI;exact⟨_,rfl,_,_,_,_,_,_,_,_,_,rfl⟩
 obtain⟨⟨y3,y4,y5,y6,y7,y8,y9,rfl⟩,hp1⟩:=hI;generalize 0+t+1=nt;rw[fV,aD];have s1:∀x:Option D,([some (.scr cs),some (.int c),some (.ref p),y3,y4,y5,y6,y7,y8,y9]:aa).set 3 x=[some (.scr cs),some (.int c),some (.ref p),x,y4,y5,y6,y7,y8,y9]:=λx=>rfl
 rw[s1];generalize some d=z3;refine aF λK hK=>?_
 simp;refine Rn.bind (JB (tp:=5) hp1 (by decide) (by decide)) λd M2 ⟨R,W,e,wk,h5,hW,hp2,_⟩=>?_
 subst e;refine Rn.bind (J5 wk M2) λd M3 ⟨e,k3⟩=>?_
 subst e;rw[hK];clear hK K;have hp3:=hp2.kp k3;have wk':=Nf wk;have al':=Nb wk;have ring:=Hm wk;have h5':(jc R R.length).length<=5:=by rw[dU];exact h5
 generalize jc R R.length=T at *;have hW':W+1<16:=by omega
 generalize W+1=V at *;refine aF λK hK=>?_
 simp[yH wk'];rw[hK];clear hK K;have al:(rd (lL (.lst ((subs T.length).tail.map nT))):DM Itn)=pure (.fix ((subs T.length).tail.map nT)):=rfl;simp only[iY,aZ,dC,my,Ng h5',al,fF];refine Rn.mono (bC (Qa cs (some (.int c)) z3 p T V) _ 0 _ _ ⟨⟨_,_,_,_,rfl⟩,hp3⟩ (λi d δ M4 hi hI=>?_)) (λr M4 hI=>?_)
 rotate_left
 ·obtain⟨δ',rfl,⟨x6,x7,x8,x9,rfl⟩,hp4⟩:=hI;exact⟨_,rfl,⟨_,_,_,_,_,_,_,rfl⟩,hp4⟩
 obtain⟨⟨w6,w7,w8,w9,rfl⟩,hp4⟩:=hI;generalize 0+i+1=ni;rw[R0]at hi;obtain⟨Q,hQ,rfl⟩:=RL.mp hi;have sq:Spl T.length Q:=by
  obtain⟨t,et,ht⟩:=rF T.length;have m:=S7 hQ;rw[et]at m;have m':Q∈t:=m;obtain⟨q1,q2,q3⟩:=p7 T.length Q (by rw[et];exact S6 _ m')
  exact⟨ht Q m',q1,q2,q3⟩
 rw[fV,aD];have key:∃(U:Nat->Nat->Nat) (g:Nat) (S:List (List Nat)),(∀x∈Q,∀y∈Q,du T V (outs T.length Q) x y=(U x y:Int))/\oX ((List.range Q.length).flatMap λj=>Q.map (U (ga Q j)))=g/\0<g/\g<2^8000/\(Q.map λx=>Q.map λy=>U x y / g)=S:=by
  obtain⟨v,Mx,ev,S,Vx,cx,dx,ax,rfl,hS,_⟩:=Gb wk' al' h5' hW' ring sq M4;obtain⟨U,g,h1,h2,h3,h4,h6⟩:=hS.due wk' (by omega) h5' sq
  exact⟨U,g,S,h1,h2,h3,h4,h6⟩
 obtain⟨U,g,S,hU,hg,g0,gb,hS⟩:=key;refine aF λK hK=>?_
 simp;refine Rn.bind (Km wk' (by omega) h5' sq hU hg g0 gb M4) λd M5 ⟨e,k5⟩=>?_
 subst e;have hp5:=hp4.kp k5;rw[hK];clear hK K;rw[hS];refine Rn.mono (bC (PQ cs (some (.int c)) z3 p T V Q (nM S)) _ 0 _ _ ⟨⟨_,_,rfl⟩,hp5⟩ (λl d δ M6 hl hI=>?_)) (λr M6 hI=>?_)
 rotate_left
 ·obtain⟨δ',rfl,⟨x8,x9,rfl⟩,hp6⟩:=hI;exact⟨_,rfl,⟨_,_,_,_,rfl⟩,hp6⟩
 obtain⟨⟨u8,u9,rfl⟩,hp6⟩:=hI;generalize 0+l+1=nl;rw[fV,aD];have s2:∀x:Option D,([some (.scr cs),some (.int c),some (.ref p),z3,some (nM T),some (aV T V),some (nT Q),some (nM S),u8,u9]:aa).set 8 x=[some (.scr cs),some (.int c),some (.ref p),z3,some (nM T),some (aV T V),some (nT Q),some (nM S),x,u9]:=λx=>rfl
 rw[s2];generalize some d=z8;refine aF λK hK=>?_
 simp;refine Rn.bind (Gb wk' al' h5' hW' ring sq M6) λv M7 hv=>?_
 obtain⟨S',Vx,cx,dx,ax,rfl,hS',k7⟩:=hv;have hp7:=hp6.kp k7;have es:S'=S:=by
  obtain⟨U',g',h1,h2,h3,h4,h6⟩:=hS'.due wk' (by omega) h5' sq
  rw[<-hS,<-h6];have eU:∀x∈Q,∀y∈Q,U' x y=U x y:=λx hx y hy=>by have a:=h1 x hx y hy;have b:=hU x hx y hy;omega
  have eg:g'=g:=by
   rw[<-h2,<-hg];congr 1;rw[List.flatMap_def,List.flatMap_def];congr 1;refine Sd λj hj=>Sd λy hy=>?_
   have hj:=RW.mp hj;exact eU _ (by rw[aQ hj];exact Td hj) y hy
  rw[eg];exact Sd λx hx=>Sd λy hy=>by rw[eU x hx y hy]
 obtain⟨str,hs⟩:=hS'.sh h5' sq;subst es;rw[hK];clear hK K;have i:(rd (ut "Walk" [aV S' Vx,.cls "Walk"]):DM D)=pure (.bl true):=bH λM=>rfl
 have ne:(rd (lW (.str str) (.str str)):DM D)=pure (.bl false):=bH λM=>by simp[lW,L3.eqB]
 simp[i,gD,hs,ne];exact Rn.pure ⟨_,rfl,⟨_,_,rfl⟩,hp7⟩
end K
namespace K
open PySem L2 L3 N10
def DY(K:PySem.W.Frag):Bool:=K.all λp=>!(p.2.cls==.type "list")
theorem Ly{K:PySem.W.Frag}(h:DY K=true){a:Addr}{o:Obj}(e:K.lookup a=some o):o.cls≠.type "list":=by
 have:∀ (l:List (Addr×Obj)),(l.all λp=>!(p.2.cls == .type "list"))=true->l.lookup a=some o->o.cls≠.type "list":=by
  intro l;induction l with
  |nil=>intro _ e;cases e
  | cons p l ih=>
    intro h e;rw[Xl,Um]at h;rw[Vf]at e;split at e
    ·cases e;intro z;rw[z]at h;exact absurd h.1 (by decide)
    ·exact ih h.2 e
 exact this K h e
theorem rd_of{K:PySem.W.Frag}{H:Hp}{a:Addr}{xs:List V}(h:DY K=true)(s:SqL K H a xs):Rd H a (.lst xs):=by
 rcases s with s | ⟨o,its,n,e,c,_⟩
 ·exact s
 ·exact absurd c (Ly h e)
structure Cls(K:PySem.W.Frag)(mg:Str->Option Value)(CC_Walk:Addr)(tg_MOST_PLACES:Tok):Prop where
 m_MOST_PLACES:mg "MOST_PLACES"=some (.int 25 tg_MOST_PLACES)
 o_Walk:OCls K mg "Walk" CC_Walk ["rows", "whole"]
 k_Walk:PySem.W.makesIn K CC_Walk=true/\PySem.W.keepIn K (.ref CC_Walk)=true
 q_Walk:OwnC K mg "Walk"
 nl:DY K=true
theorem J7{K:PySem.W.Frag}{h:Heap}{mg:Str->Option Value}(X:K.In h)(G:h.Ns mainGlobals mg){CC_Walk:Addr}{tg_MOST_PLACES:Tok}
  (g_MOST_PLACES:PySem.W.nsIn K mainGlobals "MOST_PLACES"=some (some (.int 25 tg_MOST_PLACES)))
  (cm_Walk:PySem.W.nsIn K mainGlobals "Walk"=some (some (.ref CC_Walk)))
  (pg_Walk:PySem.W.plainGet K CC_Walk Str.empty=true)
  (hd_Walk:PySem.W.hasDictIn K CC_Walk=true)
  (po_Walk:PySem.W.plainOver K CC_Walk=true)
  (sa_Walk:PySem.W.findIn K (.ref CC_Walk) "__setattr__"=some (some (.builtin "object.__setattr__")))
  (mk_Walk:PySem.W.makesIn K CC_Walk=true)
  (kc_Walk:PySem.W.keepIn K (.ref CC_Walk)=true)
  (qn_Walk:PySem.W.findIn K (.ref CC_Walk) "__ne__"=some (some (.builtin "object.__ne__")))
  (qm_Walk:PySem.W.mroIn K CC_Walk (.type "object")=some true)
  (qc_Walk:PySem.W.findIn K (.ref CC_Walk) "__class__"=some (some (.builtin "object.__class__")))
  (qg_Walk:PySem.W.specialIn K (.builtin "object.__class__") "__get__"=some (some (.builtin "getset_descriptor.__get__")))
  (qt_Walk:PySem.W.takesIn K (.builtin "object.__class__")=some true)
  (qi_Walk:((PySem.W.clsIn K CC_Walk).isSome&&PySem.W.typeIn K (.ref CC_Walk)==some (.type "type"))=true)
  (nf_Walk_rows:PySem.W.findIn K (.ref CC_Walk) "rows"=some none)
  (nf_Walk_whole:PySem.W.findIn K (.ref CC_Walk) "whole"=some none)
  (nl:DY K=true)
  : Cls K mg CC_Walk tg_MOST_PLACES:=by
 have nof_Walk:∀f∈(["rows", "whole"]:List Str),NoAttr K CC_Walk f:=by
  intro f hf;simp only[List.mem_cons,List.not_mem_nil,or_false]at hf;rcases hf with rfl | rfl
  ·exact nf_Walk_rows
  ·exact nf_Walk_whole
 refine⟨PySem.W.mg_of X G g_MOST_PLACES,⟨PySem.W.mg_of X G cm_Walk,⟨pg_Walk,hd_Walk,po_Walk,sa_Walk⟩,nof_Walk⟩,⟨mk_Walk,kc_Walk⟩,⟨CC_Walk,PySem.W.mg_of X G cm_Walk,qn_Walk,qm_Walk,qc_Walk,qg_Walk,qt_Walk,qi_Walk,⟨pg_Walk,hd_Walk,po_Walk,sa_Walk⟩⟩,nl⟩
def spLaw(K:PySem.W.Frag):Sp:=λvs H Q z=>∃(a:Addr) (ns:List Int),vs=[.ref a]/\SqL K H a (ns.map V.int)/\ns.length<=63/\∀H',Q (.bl true) H'
theorem Ox{K:PySem.W.Frag}{mg:Str->Option Value}(nl:DY K=true){vs:List V}{H:Hp}{Q:VK}{E:XK}(h:spLaw K vs H Q E):zW mg Gf vs H Q E:=by
 obtain⟨a,ns,rfl,hS,hl,q⟩:=h;have rd:=rd_of nl hS;obtain⟨d,M',e,ed⟩:=IW ns (by omega)
 refine⟨⟨[],[]⟩,[],[.scr ns],.cons (.scr (λz=>by rcases z with z | z<;>cases z) rd) .nil,⟨rfl,List.nodup_nil,λn a o h=>by simp at h,λa h=>by cases h⟩,_,e,λρ' H' b x j c=>?_⟩
 subst ed;cases c;exact q H'
theorem Q4{P:Program}{w:World}{K:PySem.W.Frag}{mg:Str->Option Value}{base:Heap}{k:Nat}{x:Str}{N ps:List Str}{st:Stmt}{fb:aa->DM Fl}{f:Addr}{fd:FuncData}(F:Fun K x x st f fd)(S:FnScope N ps (defScope st))
  (hbody:∀(cdv:Value) (A:Around) (outer:List Env) (s:Shared) (H:Hp) (E:XK),Room k (A.deeper (PyProof.Rows.envOfC x (defScope st) s.heap.objs.size f cdv))->
    DSs (iV P w K mg base N x (defScope st) f cdv A outer s H E) E (defBody st) fb):FnOk P w K mg base (fu P w) (k+1) f fd ps (zW mg (aG ps.length N.length fb)):=by
 refine PB F S (λvs H Q E h=>?_) λcdv A outer s H vs Q E hr h=>?_
 ·obtain⟨ρ,M,ds,c,j,g⟩:=h;rw[c.len];exact (aX.aG g).1
 obtain⟨ρ,M,ds,c,j,g⟩:=h;exact⟨_,(hbody cdv A outer s H E hr).h,ρ,_,M,mR c,j,(aX.aG g).2⟩
theorem all_mk{P:Program}{w:World}{K:PySem.W.Frag}{mg:Mg}{fa:Addr}{CC_Walk:Addr}{tg_MOST_PLACES:Tok}(hfa:mg "law"=some (.ref fa)){h:Heap}(X:K.In h)(G:h.Ns mainGlobals mg)(t0:TD K "is_whole" nF)(t1:TD K "greatest_divider" dJ)(t2:TD K "are_weights" iQ)(t3:TD K "are_rows" nu)(t4:TD K "is_place" nA)(t5:TD K "is_rising" lH)(t6:TD K "are_rising_places" dg)(t7:TD K "is_set" qZ)(t8:TD K "can_be_walked" fX)(t9:MethAt K CC_Walk "__len__" "Walk.__len__" bK)(t10:TD K "refuse_no_set" fY)(t11:MethAt K CC_Walk "__init__" "Walk.__init__" fW)(t12:TD K "plainest" nH)(t13:TD K "next_places" iR)(t14:TD K "fewest_steps" gO)(t15:TD K "led_to" q9)(t16:TD K "shut_sets" lJ)(t17:TD K "refuse_no_rest" fj)(t18:TD K "left_out" nG)(t19:TD K "watched" o8)(t20:TD K "_law_cell_at" gM)(t21:TD K "_law_next" lE)(t22:TD K "_law_pen_of" iJ)(t23:TD K "_law_draw" lC)(t24:TD K "_law_rows" lF)(t25:TD K "_law_common" iI)(t26:TD K "_law_all_common" dZ)(t27:TD K "_law_determinant" cI)(t28:TD K "_law_left" lD)(t29:TD K "_law_due" nq)(t30:TD K "_law_bound" jJ)(t31:TD K "_law_sets" lG)(t32:TD K "law" Bs)(z0:TB K "all")(z1:TB K "bool")(z2:TB K "enumerate")(z3:TB K "int")(z4:TB K "isinstance")(z5:TB K "len")(z6:TB K "list")(z7:TB K "max")(z8:TB K "range")(z9:TB K "repr")(z10:TB K "reversed")(z11:TB K "sorted")(z12:TB K "sum")(z13:TB K "tuple")(z14:TB K "zip")(Z:Cls K mg CC_Walk tg_MOST_PLACES):
  ∃fd:FuncData,(∀(s:Shared) (v:Value),BindsTo s fd ⟨[v],[]⟩ [("_law_script",v)])/\∀base:Heap,K.In base->base.Ns mainGlobals mg->FnOk P w K mg base (fu P w) 16 fa fd ["_law_script"] (spLaw K):=by
 obtain⟨f,fd,F,m⟩:=(t32 X G).ex;have e:=hfa.symm.trans m;cases e;refine⟨fd,?_,λbase z z=>?_⟩
 ·obtain⟨oc,od,kV,doc,pm,an,cdv,ct,osl,rfl,_⟩:=F.ex;exact λs v=>.of_eq rfl
 have yz0:=Tj X G z0;have yz1:=Tj X G z1;have yz2:=Tj X G z2;have yz3:=Tj X G z3;have yz4:=Tj X G z4;have yz5:=Tj X G z5;have yz6:=Tj X G z6;have yz7:=Tj X G z7;have yz8:=Tj X G z8;have yz9:=Tj X G z9;have yz10:=Tj X G z10;have yz11:=Tj X G z11;have yz12:=Tj X G z12;have yz13:=Tj X G z13;have yz14:=Tj X G z14;have D0:DefD P w K mg base _ _ _ vJ:=okd (t0 X G) yR ((sZ).2 yz1 yz3 yz4);have D1:DefD P w K mg base _ _ _ rK:=okn (λN=>cF N) (t1 X G) gm N5 λN=>(dH N).2
 have D2:DefD P w K mg base _ _ _ yV:=okd (t2 X G) uF ((oh vJ).2 D0 yz0 yz4 yz5 yz13);have D3:DefD P w K mg base _ _ _ BK:=okd (t3 X G) yP ((sX yV).2 D2 yz0 yz4 yz5 yz13);have D4:DefD P w K mg base _ _ _ BW:=okd (t4 X G) yQ ((sY vJ).2 D0);have D5:DefD P w K mg base _ _ _ Fri:=okd (t5 X G) xV ((qz).2 yz0 yz5 yz8);have D6:DefD P w K mg base _ _ _ vM:=okd (t6 X G) nJ ((gk BW Fri).2 D4 D5 yz0 yz4 yz13);have D7:DefD P w K mg base _ _ _ BX:=okd (t7 X G) Fo ((xG vM).2 D6 yz5);have D8:DefD P w K mg base _ _ _ BP:=okd (t8 X G) jK ((j9 BK).2 D3 Z.m_MOST_PLACES yz0 yz4 yz5 yz12 yz13);have M9:MethD P w K mg base _ "Walk" _ _ _ _ fJ:=PN t9 Z.o_Walk.at_ Z.o_Walk.cls tV ((lZ).2 Z.o_Walk yz5);have D10:DefD P w K mg base _ _ _ vL:=okd (t10 X G) rA ((kh BX fJ).2 D7 M9 yz5);have M11:MethD P w K mg base _ "Walk" _ _ _ _ Fin:=PN t11 Z.o_Walk.at_ Z.o_Walk.cls rm ((j8 BP).2 D8 Z.o_Walk yz12);have W_Walk:ClsD P w K mg base _ "Walk" oG:=Qm M11 (λz z z z z z us hl=>match us,hl with | [_,_],_=>rfl) (λC hC=>by have q:=hC.symm.trans Z.o_Walk.at_;cases q;exact Z.k_Walk) Nv
 have D12:DefD P w K mg base _ _ _ qJ:=okd (t12 X G) qF ((tE rK oG).2 D1 W_Walk Z.o_Walk yz13);have D13:DefD P w K mg base _ _ _ uJ:=okd (t13 X G) uG ((ou).2 Z.o_Walk yz2 yz13);have D14:DefD P w K mg base _ _ _ vI:=okn (λN=>dM N) (t14 X G) kj NZ λN=>(gJ N).2
 have D15:DefD P w K mg base _ _ _ Hu:=okd (t15 X G) uW ((qY uJ vI fJ).2 D13 D14 M9 yz5 yz8 yz11 yz13);have D16:DefD P w K mg base _ _ _ Ce:=okd (t16 X G) pD ((lu Hu).2 D15 yz0 yz11 yz13);have D17:DefD P w K mg base _ _ _ BZ:=okd (t17 X G) qe ((eZ Ce fJ).2 D16 M9 yz5 yz8 yz13);have D18:DefD P w K mg base _ _ _ yW:=okd (t18 X G) qD ((tu qJ oG fJ).2 D12 W_Walk M9 Z.o_Walk yz5 yz8 yz13);have D19:DefD P w K mg base _ _ _ Cg:=okd (t19 X G) tX ((o6 BZ vL qJ yW fJ).2 D17 D10 D12 D18 M9 yz5 yz8 yz10);have D20:DefD P w K mg base _ _ _ vH:=okd (t20 X G) tW ((mj).2 yz5);have D21:DefD P w K mg base _ _ _ Ca:=okd (t21 X G) pA ((qy).2 );have D22:DefD P w K mg base _ _ _ vK:=okd (t22 X G) mF ((iG).2 yz3 yz7);have D23:DefD P w K mg base _ _ _ BR:=okd (t23 X G) o9 ((kY Ca).2 D21);have D24:DefD P w K mg base _ _ _ vN:=okd (t24 X G) pB ((lg BR).2 D23 yz3 yz5 yz6 yz8 yz13);have D25:DefD P w K mg base _ _ _ uI:=okn (λN=>eV N) (t25 X G) mD Nz λN=>(iD N).2
 have D26:DefD P w K mg base _ _ _ BJ:=okd (t26 X G) ir ((iZ uI).2 D25);have R27:∀n,DefD P w K mg base (1+n) _ _ (nR n):=λn=>by
  induction n with
  |zero=>exact (okd (k:=0) (t27 X G) dj λz=>Df)
  |succ n ih=>exact okd (t27 X G) dj ((cH (nR n)).2 (Vn _) ih yz2)
 have D27:DefD P w K mg base _ _ _ (nR 5):=R27 _;have D28:DefD P w K mg base _ _ _ rM:=DefD.freezeJ (F:=yX) (okd (t28 X G) ph ((kZ).2 yz3 yz12 yz14)) N8;have D29:DefD P w K mg base _ _ _ BV:=okd (t29 X G) qC ((m6 rM (nR 5) BJ).2 D28 D27 D26 yz2 yz5 yz8 yz13);have D30:DefD P w K mg base _ _ _ BL:=okd (t30 X G) oA ((jG).2 yz2 yz3 yz5 yz13);have D31:DefD P w K mg base _ _ _ Cd:=okd (t31 X G) pC ((lq).2 yz8);exact ((Q4 (P:=P) (w:=w) (base:=base) F Fp λcdv A outer s H E hr=>(Bj vH vK vN BL Cd BV Cg oG).2 D20 D22 D24 D30 D31 D29 D19 W_Walk Z.o_Walk.at_ Z.o_Walk Z.q_Walk yz4 yz5 yz8 yz9 hr).imp λvs H Q E h=>Ox Z.nl h).mono (by decide)
theorem walk{l:PySem.W.OpenLaw}{q:Program}{loose:List Str}{XP:(Str->Option Value)->Heap->Prop}{YP:World->Heap->Prop}{d:DefRec}{K:Params->PySem.W.Frag}(hn:l.most=some 63)(hdf:d.params.defaults=[])
  (hY:∀(w:World) (h:Heap),YP w h->(K w.params).In h)
  (F:∀(w:World) (mg:Str->Option Value) (fa:Addr) (h:Heap),(K w.params).In h->h.Ns mainGlobals mg->mg d.name=some (.ref fa)->
    ∃fd:FuncData,(∀(s:Shared) (u:Value),BindsTo s fd ⟨[u],[]⟩ [("_law_script",u)])/\∀base:Heap,(K w.params).In base->base.Ns mainGlobals mg->FnOk l.prog w (K w.params) mg base (fu l.prog w) 16 fa fd ["_law_script"] (spLaw (K w.params))) :
  PySem.W.WalkO q loose XP YP l.row.toRowW d [] (λf vs=>PySem.call f vs):=
 L2.walk_of (n:=63) (k:=16) (x := "_law_script") (CX:=λw=>fu l.prog w) (sp:=λw=>spLaw (K w.params)) hn (by decide) hdf ⟨rfl,by decide,by decide,rfl⟩ hY F (λy y a ns hl y hS=>⟨a,ns,rfl,hS,hl,λy=>rfl⟩) λy y y y y z=>by obtain⟨_,_,_,_,_,_,_,_,_,_,_,_,_,q⟩:=z;exact q.elim
end K
open PySem PySem.W PyProof.Rows
set_option maxRecDepth 100000 in
set_option maxHeartbeats 0 in
theorem PySem.Challenge.cw_fadewalk_k83_walks_watched_holds : PySem.Challenge.rw_fadewalk_k83_walks_watched.Holds := by
 w_on;refine T.cut ?_
 k_fill
 refine K.walk (l:=PySem.Challenge.rw_fadewalk_k83_walks_watched) rfl rfl (λw h Y=>PySem.W.kIn_of Y) ?F
 case F=>
  intro w mg fa h KX G hmg
  refine' K.all_mk hmg KX G ?t0 ?t1 ?t2 ?t3 ?t4 ?t5 ?t6 ?t7 ?t8 ?t9 ?t10 ?t11 ?t12 ?t13 ?t14 ?t15 ?t16 ?t17 ?t18 ?t19 ?t20 ?t21 ?t22 ?t23 ?t24 ?t25 ?t26 ?t27 ?t28 ?t29 ?t30 ?t31 ?t32 ?z0 ?z1 ?z2 ?z3 ?z4 ?z5 ?z6 ?z7 ?z8 ?z9 ?z10 ?z11 ?z12 ?z13 ?z14 (K.J7 KX G ?g_MOST_PLACES ?cm_Walk ?pg_Walk ?hd_Walk ?po_Walk ?sa_Walk ?mk_Walk ?kc_Walk ?qn_Walk ?qm_Walk ?qc_Walk ?qg_Walk ?qt_Walk ?qi_Walk ?nf_Walk_rows ?nf_Walk_whole ?nl)
  case cm_Walk=>k_is
  case g_MOST_PLACES | pg_Walk | hd_Walk | po_Walk | sa_Walk | mk_Walk | kc_Walk | qn_Walk | qm_Walk | qc_Walk | qg_Walk | qt_Walk | qi_Walk | nf_Walk_rows | nf_Walk_whole | nl=>first | k_is | k_exc | kernel_rfl
  case t9 | t11=>apply L2.DN<;>k_is
  case t0 | t1 | t2 | t3 | t4 | t5 | t6 | t7 | t8 | t10 | t12 | t13 | t14 | t15 | t16 | t17 | t18 | t19 | t20 | t21 | t22 | t23 | t24 | t25 | t26 | t27 | t28 | t29 | t30 | t31 | t32=>apply L3.Pn<;>k_is
  case z0 | z1 | z2 | z3 | z4 | z5 | z6 | z7 | z8 | z9 | z10 | z11 | z12 | z13 | z14=>delta L3.TB;k_is
