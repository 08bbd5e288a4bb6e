import PyProof.Rows.All
import Wide.All
import KE.KNestM
import KE.KLam
import KE.KPar
import KE.KFromBytes
import KE.KIsAll
import KE.KxBytes
import Wide.FinOn
import Lean
import PyProof.EqAt
import PyProof.EqKinds
import PyProof.TupleCall
import PyProof.ReprRoads
import PyProof.P3Eq
import PyProof.NeData
import PyProof.ReprLen
import PyProof.Rows.RegStrFacts
import OpenK.KOwn
import PyProof.StationsW
import PyProof.Rows.Catch
import PyProof.Rows.Own
import PyProof.RulesAs
import PyProof.ExcBaseAll.ValueError
import PyProof.NsDelKeeps
import PyProof.ExcArgsOwn
import PyProof.ExcAttrAll.ValueError
import PyProof.CompFree
import PyProof.CompMap
import PyProof.ConsumeWalk
import PyProof.SumWalk
import PyProof.Rows.TupIter
import PyProof.Rows.SumGenD
import PyProof.FString
import PyProof.Rows.FStr
import PyProof.Rows.RuleIs
import PyProof.FactsAll.tuple_iterator_1
import PyProof.FactsAll.tuple_2
import PyProof.FactsAll.list_3
import PyProof.Cells
import PyProof.ZipIter
import PyProof.EnumMake
import PyProof.EnumFor
import PyProof.ListRange
import PyProof.TupleOfSeq
import PyProof.AttrMissHeap
import KE.KDictOf
import KE.KItemsList
import PyProof.DictValues
import PyProof.DictItemsLoops
import PyProof.DictWalks
import PyProof.Rows.SetFrom
import PyProof.Rows.SortShell
import PyProof.CollectWalk
import PyProof.FactsAll.set_1
import PyProof.Rows.SortWalk
import PyProof.FactsAll.set_2
import KE.KDictSum
import PyProof.Rows.Range3
import PyProof.Conv_bool
import PyProof.MeetsSeq
import PyProof.SeqRoads2
import KE.KRevIter
import PyProof.FactsAll.range_2
import KE.KSortTup
import PyProof.WalkInts
import PyProof.TupleKey
import PyProof.IsRules
import KE.KTupSum
import PyProof.SeqI3
import PyProof.Conv_int_bool
import PyProof.ListOps
import KE.KDictLaws
import PyProof.CallStr
import PyProof.StrOps
import PySem.Challenge.RW_fadewalk_k89_keepers_compared_and_twins
section
open PySem PySem.Spec PySem.W PySem.Calls PyProof.Rows
def SQ:=@wpAny_bind
def SX:=@Heap.get?_push_of_some
def S5:=@List.getElem?_eq_some_iff
def S6:=@wpAny_pure
def S7:=@if_pos
def S8:=@Heap.lt_size
def S9:=@List.getElem?_append_left
def Tc:=@List.getElem?_set_ne
def Td:=@Nat.le_refl
def Te:=@List.length_map
def Tf:=@Option.some.inj
def Tg:=@List.getElem?_eq_getElem
def Th:=@List.getElem?_set_self
def Ti:=@Option.map_eq_some_iff
def Tj:=@Nat.lt_of_lt_of_le
def Tp:=@wpAny_mono
def Tq:=@if_neg
def Tr:=@Heap.get?_push_size
def Tt:=@List.mem_singleton
def Tu:=@List.size_toArray
def Tv:=@Nat.ne_of_lt
def Tw:=@Bool.false_ne_true
def Tz:=@decide_eq_true
def TF:=@List.length_append
def TJ:=@List.getElem?_append_right
def TQ:=@List.mem_append_right
def TV:=@List.getElem?_map
def TX:=@List.getElem?_eq_none_iff
def TY:=@PySem.W.mg_none_of
def T3:=@List.mem_cons
def T4:=@Option.bind_eq_some_iff
def T5:=@List.mem_of_getElem?
def T6:=@List.mem_append
def T7:=@Nat.le_trans
def T8:=@List.mem_cons_of_mem
def T9:=@Bool.eq_iff_iff
def Ua:=@wpAny_truthy_bool
def Ub:=@wpAny_holding
def Uc:=@wpAny_field
def Ud:=@List.mem_append_left
def Ue:=@List.map_append
def Ug:=@Heap.size_push
def Uh:=@List.mem_range
def Ui:=@List.mem_cons_self
def Uj:=@List.mem_map
def Uk:=@Option.isSome_iff_exists
def Ul:=@wpAny_loadPart'
def Um:=@decide_eq_false
def Uo:=@PySem.W.mg_of
def Up:=@PySem.MeetsSeq.plain_contains_loop
def Uq:=@Nat.zero_add
def Ur:=@List.length_set
def Us:=@List.map_cons
def Ut:=@PySem.W.kia_one
def Uu:=@PySem.mem_of_lookup
def Uv:=@List.length_replicate
def Uw:=@wpAny_cRoomFor
def Ux:=@List.append_nil
def Uy:=@List.length_range
def Uz:=@PyProof.Rows.callWith_type1
def UG:=@wpAny_callSpecial?_slot
def UJ:=@List.getElem?_replicate
def UL:=@List.getD_eq_getElem?_getD
def UT:=@of_decide_eq_true
def UV:=@wpAny_newObj_type
def UW:=@PySem.W.looks_subIn
def U0:=@List.map_map
def U3:=@Nat.not_lt
def U4:=@PassesOwn.leaving
def U5:=@List.append_assoc
def U6:=@Nat.le_succ_of_le
def U7:=@PySem.W.ifBound_K
def U8:=@List.replicate_succ
def U9:=@call_meetsIn
def Va:=@Nat.lt_irrefl
def Vb:=@List.length_take
def Vc:=@List.lookup_cons
def Vd:=@wpAny_call_entry
def Ve:=@List.length_cons
def Vf:=@wpAny_Call_Name_kw
def Vg:=@PyProof.Rows.slot_tuple_getitem
def Vh:=@Nat.zero_le
def Vi:=@PySem.W.looks_findIn
def Vj:=@codeAny_mono
def Vk:=@wpAny_pyIter_list
def Vl:=@PySem.F.plainAttrs_list
def Vm:=@wpAny_seqItems
def Vn:=@List.length_drop
def Vo:=@wpAny_call
def Vp:=@assignInOrder_cons
def Vq:=@wpAny_passesOwn
def Vr:=@List.mem_filter
def Vs:=@List.contains_iff_mem
def Vt:=@List.getElem?_eq_none
def Vu:=@decide_eq_true_eq
def Vv:=@List.flatten_cons
def Vw:=@PySem.MeetsSeq.entry_contains_loop
def Vx:=@codeAny_call_builtin
def Vy:=@List.getElem_mem
def Vz:=@Nat.lt_succ_self
def VB:=@List.getElem?_range
def VD:=@beq_eq_false_iff_ne
def VF:=@wpAny_standAt
def VG:=@beq_iff_eq
def VH:=@PySem.W.callWith_K
def VJ:=@PySem.W.cellsFrom_some
def VL:=@List.take_of_length_le
def VM:=@wpAny_loadPart_at
def VN:=@List.mem_iff_getElem?
def VP:=@F.slot_enumerate_next
def VR:=@List.length_filter_le
def V0:=@PySem.W.methodCall_KW
def V1:=@List.all_eq_true
def V2:=@F.args_object_init_3
def V3:=@Bool.and_eq_true
def V4:=@wpAny_rule
def V5:=@wpAny_newFunctionEnv_cells
def V6:=@Calls.Name_function_global
def V7:=@List.sum_cons
def V8:=@slot_tupleiter_next
def V9:=@List.filter_eq_self
def Wa:=@PySem.W.looks_mroIn
def Wb:=@List.filterMap_cons
def Wc:=@wpAny_execs_nil
def Wd:=@List.of_mem_zip
def We:=@wpAny_tryCompare_declines
def Wf:=@Nat.ne_of_gt
def Wg:=@AutoSeq1.wpAny_loadPart'
def Wh:=@PySem.F.args_tuple_add_2
def Wi:=@wpAny_typeOf
def Wj:=@call_meets
def Wk:=@iter_tuple
def Wl:=@wpAny_bindName
def Wm:=@PySem.F.entry_tuple_add
def Wn:=@PySem.F.slot_tuple_add
def Wo:=@F.typeCall_zip_2
def Wq:=@codeAny_call_function
def Wr:=@List.set_append_right
def Ws:=@F.entry_zip_new
def Wt:=@Nat.min_eq_left
def Wu:=@List.map_set
def Wv:=@codeAny_builtin
def Ww:=@List.range_succ
def Wx:=@List.mem_iff_getElem
def Wy:=@Around.under_plainId
def Wz:=@cmpInfo_Eq
def WD:=@List.nodup_cons
def WF:=@callType_new
def WL:=@Nat.mod_lt
def WM:=@F.newCall_zip_2
def WN:=@List.map_nil
def WP:=@Nat.lt_or_ge
def WQ:=@wpAny_attempt
def WR:=@List.nodup_append
def WT:=@List.drop_eq_getElem_cons
def WW:=@Calls.call_function_entry
def WX:=@Nat.le_of_lt
def WY:=@PySem.F.slot_list_append
def W0:=@PySem.F.type_list_append
def W3:=@wpAny_isInstance
def W4:=@List.length_eq_zero_iff
def W5:=@pushCells_keeps
def W6:=@IsTup.new
def W7:=@Heap.get?_update_other
def W8:=@Heap.get?_update_self
def W9:=@plainId_quiet
def Xa:=@Heap.SameBut.update
def Xb:=@List.map_congr_left
def Xc:=@List.length_pos_iff
def Xd:=@sizeLine_eq
end
set_option Elab.async false
set_option maxRecDepth 100000
set_option maxHeartbeats 8000000
namespace T
open PySem PySem.W PyProof.Rows
/-- the top's run over a tree -/
noncomputable def runT(p:Program)(w:World)(m:Nat)(a:Option Value):Nat->SharedT->Thread->Option SharedT
 | 0,_,_=>none
 | n + 1,s,t=>match through t with
   | true=>some s
   | false=>match stepOk m a t with
     | false=>none
     | true=>match stepT (denote treeTable) p w s t with
       | some r=>runT p w m a n r.1 r.2
       | none=>none
theorem run_of{p:Program}{w:World}{m:Nat}{a:Option Value}:∀ {n:Nat}{s s':SharedT}{t:Thread},runT p w m a n s t=some s'->topRun treeTable p w m a n s.abs t=some s'.abs
 | 0,_,_,_,h=>by cases h
 | n + 1,s,s',t,h=>by
   unfold runT at h;unfold topRun;cases ht:through t with
   | true=>rw [ht]at h;cases h;rfl
   | false=>
     rw [ht]at h;cases hk:stepOk m a t with
     | false=>rw [hk]at h;cases h
     | true=>
       rw [hk]at h;cases hs:stepT (denote treeTable) p w s t with
       | none=>rw [hs]at h;cases h
       | some r=>obtain ⟨s2,t2⟩:=r;rw [hs]at h;rw [stepT_spec hs];exact run_of h
noncomputable def grow:List Obj->Nat->BT->BT
 | [],_,t=>t
 | o::l,n,t=>grow l (n + 1) (t.ins n o)
noncomputable def bootT(B:Heap)(os:OsState):SharedT:=⟨grow B.objs.toList 0 .nil,B.objs.size,B.life,#[],boot_drawn,boot_toks,os⟩
noncomputable def bootA(w:World)(os:OsState):Shared:=⟨boot_heap w.params,#[],boot_drawn,boot_toks,os⟩
def boot_abs(w:World)(os:OsState):(bootT (boot_heap w.params) os).abs=bootA w os:=by kernel_rfl
def boot_ns(w:World):((boot_heap w.params).isNs mainGlobals && (#[]:Array GenState).size == 0)=true:=by kernel_rfl
noncomputable def chk{α:Type}(p q:Program)(loose:List Str)(Xt:Shared->Bool)(Yf:Shared->α)(N:Nat)(B:Heap)(w:World)(os:OsState):=
 (runT p w B.objs.size (B.nsMap mainGlobals "__annotations__") N (bootT B os) (topStub p)).map λs=>
   (staticsOk (importedModules p.main.body) B s.abs.heap && namesBound p s.abs.heap && gensDone s.abs && laidKept B s.abs.heap,openSeen q loose (importedModules p.main.body) Xt true s.abs,Yf s.abs)
def left{α:Type}{p q:Program}{loose:List Str}{Xt:Shared->Bool}{Yf:Shared->α}{Ya:World->α}{N:Nat}(e:opening p=plainProg p.main.scope.names)(hN:Nat.ble 600 N=true)(f:∀ s,fenceModules? p s=some s)
  (h:∀ (w:World) (os:OsState),chk p q loose Xt Yf N (boot_heap w.params) w os=some (true,openGood q loose,Ya w)):LeftO p q loose Xt Yf Ya N:=λw=>by
 obtain ⟨⟨hh,gs,d,k,os⟩,e1,e2⟩:=Ti.mp (boot_open (N:=N) e hN f w);obtain ⟨rfl,rfl,rfl,rfl⟩:hh=boot_heap w.params/\gs=#[]/\d=boot_drawn/\k=boot_toks:=by simpa using e2
 obtain ⟨s,r1,r2⟩:=Ti.mp (h w os);have r:=run_of r1;rw [boot_abs]at r;obtain ⟨l1,l2,l3⟩:_/\_/\_:=by simpa only [Prod.mk.injEq] using r2
 unfold openEnds topFrom;rw [e1];show (match (boot_heap w.params).isNs mainGlobals && (#[]:Array GenState).size == 0 with | true=>_ | false=>_:Option Shared).map _=_
 rw [boot_ns];show ((topRun treeTable p w (boot_heap w.params).objs.size _ N (bootA w os) (topStub p)).bind _).map _=_;rw [r];show (match staticsOk (importedModules p.main.body) (boot_heap w.params) s.abs.heap && namesBound p s.abs.heap && gensDone s.abs && laidKept (boot_heap w.params) s.abs.heap with | true=>_ | false=>_:Option Shared).map _=_
 rw [l1];show some (openSeen q loose (importedModules p.main.body) Xt true s.abs,Yf s.abs)=some _;rw [l2,l3]
noncomputable def tp(i:Nat):Stmt:=PySem.Challenge.pw_fadewalk_k89_keepers_compared_and_twins.main.body.getD i (.Pass ⟨0,0,0,0⟩)
noncomputable def view:Program:={ PySem.Challenge.pw_fadewalk_k89_keepers_compared_and_twins with main:={ PySem.Challenge.pw_fadewalk_k89_keepers_compared_and_twins.main with body:=[tp 0,tp 2,tp 3,tp 4,tp 5,tp 6,tp 7,tp 8,tp 9,tp 10,tp 11,tp 12,tp 13,tp 14,tp 15,tp 16,tp 17,tp 18,tp 19,tp 20,tp 21,tp 22,tp 24,tp 26,tp 27,tp 28,tp 29,tp 30,tp 31,tp 33,tp 34,tp 35,tp 36,tp 37,tp 38,tp 39,tp 41,tp 43,tp 44,tp 46,tp 47,tp 48,tp 50,tp 51,tp 52,tp 53,tp 54,tp 55,tp 56,tp 57,tp 58,tp 59,tp 60,tp 61,tp 62,tp 63] } }
noncomputable def loos:List Str:=["Walk", "Keeper"]
noncomputable def lvs:List (Str×WData):=[]
noncomputable def lhs(B:Heap)(as ts:List Addr)(w:World)(os:OsState):=chk PySem.Challenge.pw_fadewalk_k89_keepers_compared_and_twins view loos (λs=>xlAt view lvs s && recOk (RowW.records (OpenRow.toRowW (OpenLaw.row PySem.Challenge.rw_fadewalk_k89_keepers_compared_and_twins))) s) (λs=>(as.map s.heap.get?,ts.map s.heap.get?)) 13690 B w os
noncomputable def rhs(K:Params->Frag)(ts:List Addr)(w:World):=some (true,openGood view loos,((K w.params).map λp=>some p.2,ts.map λ_=>some (tabObj #[])))
end T
noncomputable def PySem.W.Fast.tw18300101107502380108:PySem.Program:=PySem.Challenge.pw_fadewalk_k89_keepers_compared_and_twins
def PySem.W.Fast.te18300101107502380108:PySem.Challenge.pw_fadewalk_k89_keepers_compared_and_twins=PySem.W.Fast.tw18300101107502380108:=rfl
namespace T
open PySem PySem.W PyProof.Rows
lay_quick T.lhs T.rhs
def hook{K:Params->Frag}{as:List Addr}{e:∀ P,as=(K P).map (·.1)}{ts:List Addr}(h:∀ (w:World) (os:OsState),PySem.W.Fast.tw12313586583820656202 (boot_heap w.params) as ts w os=PySem.W.Fast.tw7420988445182104193 K ts w):
  LeftO PySem.Challenge.pw_fadewalk_k89_keepers_compared_and_twins view loos (λs=>xlAt view lvs s && recOk (RowW.records (OpenRow.toRowW (OpenLaw.row PySem.Challenge.rw_fadewalk_k89_keepers_compared_and_twins))) s) (Hook.obs (kmHook K as e ts)) (Hook.val (kmHook K as e ts)) 13690:=
 left rfl (by decide) (λ_=>rfl) λw os=>by show lhs (boot_heap w.params) as ts w os=rhs K ts w;rw [PySem.W.Fast.te12313586583820656202,PySem.W.Fast.te7420988445182104193];exact h w os
local macro_rules
 | `(tactic| o_head $H)=>`(tactic| (
   refine PySem.W.holds_open (q:=T.view) (loose:=T.loos)
    (Xt:=λs=>PySem.W.xlAt T.view T.lvs s && PySem.W.recOk (PySem.W.RowW.records (PySem.W.OpenRow.toRowW (PySem.W.OpenLaw.row PySem.Challenge.rw_fadewalk_k89_keepers_compared_and_twins))) s)
    (XP:=PySem.W.XL T.view T.lvs) (Yf:=PySem.W.Hook.obs $H) (Ya:=PySem.W.Hook.val $H)
    (YP:=PySem.W.Hook.says $H) (N:=13690) ?hl (PySem.W.Hook.of $H) (PySem.W.Hook.keeps $H)
    (λs e=>PySem.W.xl_of s (Bool.and_eq_true_iff.mp e).1) PySem.W.XL.keeps rfl rfl rfl
    (λs e=>PySem.W.recFacts_of (Bool.and_eq_true_iff.mp e).2) rfl
    (by first | assumption | decide +kernel) (by decide +kernel)
    ⟨rfl,rfl,rfl,rfl,rfl,by decide +kernel⟩ ?hw ?hc;(case hl=>exact T.hook (λw os=>by kernel_rfl))))
open_top cut for PySem.Challenge.rw_fadewalk_k89_keepers_compared_and_twins
end T
set_option linter.all false
set_option tactic.hygienic false
set_option bootstrap.genMatcherCode false
namespace L2
open PySem PySem.Spec PyProof.Rows
abbrev Key:=Sum Int Str
def keyIs:Key->Value->Bool
 |.inl k,v=>Value.isInt k v
 |.inr x,v=>Value.isStrOf x v
def keyH(w:World):Key->Int
 |.inl k=>hashInt k
 |.inr x=>hashStr w x
def keyIs_shape:∀ {k:Key}{v:Value},keyIs k v=true->(∃ i t,k=Sum.inl i/\v=Value.int i t)\/(∃ x t,k=Sum.inr x/\v=Value.str x t)
 |.inl i,v,h=>by obtain⟨t,e⟩:=Value.isInt_shape (k:=i) (v:=v) h;exact .inl ⟨i,t,rfl,e⟩
 |.inr x,v,h=>by obtain⟨t,e⟩:=Value.isStrOf_shape (x:=x) (v:=v) h;exact .inr ⟨x,t,rfl,e⟩
def key_ll(a b:Int):decide ((Sum.inl a:Key)=Sum.inl b)=(a==b):=by
 by_cases e:a=b
 ·subst e;simp
 ·have h:¬ (Sum.inl a:Key)=Sum.inl b:=λq=>e (Sum.inl.inj q)
  rw[Um h];exact (VD.mpr e).symm
def key_rr(a b:Str):decide ((Sum.inr a:Key)=Sum.inr b)=decide (a=b):=by
 by_cases e:a=b
 ·subst e;simp
 ·have h:¬ (Sum.inr a:Key)=Sum.inr b:=λq=>e (Sum.inr.inj q)
  rw[Um h,Um e]
def key_lr(a:Int)(b:Str):decide ((Sum.inl a:Key)=Sum.inr b)=false:=Um (λq=>nomatch q)
def key_rl(a:Str)(b:Int):decide ((Sum.inr a:Key)=Sum.inl b)=false:=Um (λq=>nomatch q)
def mixKind(prog:Program)(w:World):PySem.KeyKind prog w Key where
 is:=keyIs
 hash:=keyH w
 inj:=λv a b ha hb=>by
  rcases keyIs_shape ha with ⟨i,t,rfl,rfl⟩ | ⟨x,t,rfl,rfl⟩
  ·rcases keyIs_shape hb with ⟨j,u,rfl,e⟩ | ⟨y,u,rfl,e⟩
   ·injection e with e1 _;rw[e1]
   ·exact nomatch e
  ·rcases keyIs_shape hb with ⟨j,u,rfl,e⟩ | ⟨y,u,rfl,e⟩
   ·exact nomatch e
   ·injection e with e1 _;rw[e1]
 byValue:=λk v h=>by rcases keyIs_shape h with ⟨i,t,rfl,rfl⟩ | ⟨x,t,rfl,rfl⟩<;>rfl
 pyHash:=λhv h=>by
  rcases keyIs_shape hv with ⟨i,t,rfl,rfl⟩ | ⟨x,t,rfl,rfl⟩
  ·exact wpAny_pyHash_int h
  ·exact wpAny_pyHash_str h
 eqBool:=λhu hv h=>by
  rcases keyIs_shape hu with ⟨i,t,rfl,rfl⟩ | ⟨x,t,rfl,rfl⟩
  ·rcases keyIs_shape hv with ⟨j,u,rfl,rfl⟩ | ⟨y,u,rfl,rfl⟩
   ·rw[key_ll]at h;exact wpAny_eqBool_int h
   ·rw[key_lr]at h;exact SeqAt.EqAt.int_str i t y u _ _ _ _ h
  ·rcases keyIs_shape hv with ⟨j,u,rfl,rfl⟩ | ⟨y,u,rfl,rfl⟩
   ·rw[key_rl]at h;exact SeqAt.EqAt.str_int x t j u _ _ _ _ h
   ·rw[key_rr]at h;exact wpAny_eqBool_str h
 «strs»:=λk x t v h=>by
  rcases keyIs_shape h with ⟨i,u,rfl,e⟩ | ⟨y,u,rfl,e⟩
  ·exact nomatch e
  ·injection e with e1 _
   subst e1;cases v<;>rfl
open PySem PySem.Spec PyProof.Rows
inductive V where
 |non | bl (b:Bool) | int (i:Int) | str (x:Str) | byt (b:Array UInt8) | flt (b:UInt64) | ref (a:Addr) | ty (n:String)
 deriving DecidableEq
def RelV:V->Value->Prop
 |.non,u=>u=Value.none
 |.bl b,u=>u=Value.bool b
 |.int i,u=>∃t,u=Value.int i t
 |.str x,u=>∃t,u=Value.str x t
 |.byt b,u=>∃t,u=Value.bytes b t
 |.flt b,u=>∃t,u=Value.float b t
 |.ref a,u=>u=Value.ref a
 |.ty n,u=>u=Value.type n
abbrev Vals:List V->List Value->Prop:=Paired RelV
theorem Vals.length(r:Vals xs us):xs.length=us.length:=Paired.length r
theorem Vals.get:∀ {xs:List V}{us:List Value}{i:Nat}{x:V},Vals xs us->xs[i]?=some x->∃ u,us[i]?=some u/\RelV x u
 |_,_,_,_,.nil,e=>by simp at e
 |_,_,0,_,.cons r _,e=>by simp at e;subst e;exact⟨_,rfl,r⟩
 |_,_,i+1,x,.cons _ t,e=>by
   obtain⟨u,h1,h2⟩:=Vals.get (i:=i) (x:=x) t (by simpa using e)
   exact⟨u,by simpa using h1,h2⟩
theorem Vals.set(r:RelV x u):∀{xs:List V}{us:List Value} (i:Nat),Vals xs us->Vals (xs.set i x) (us.set i u)
 |_,_,_,.nil=>.nil
 |_,_,0,.cons _ t=>.cons r t
 |_,_,i+1,.cons q t=>.cons q (Vals.set r i t)
theorem Vals.append:∀{xs ys:List V}{us ws:List Value},Vals xs us->Vals ys ws->Vals (xs++ys) (us++ws)
 |_,_,_,_,.nil,s=>s
 |_,_,_,_,.cons r t,s=>.cons r (Vals.append t s)
theorem Vals.take:∀{xs:List V}{us:List Value} (n:Nat),Vals xs us->Vals (xs.take n) (us.take n)
 |_,_,0,_=>.nil
 |_,_,_+1,.nil=>.nil
 |_,_,n+1,.cons r t=>.cons r (Vals.take n t)
theorem Vals.drop:∀{xs:List V}{us:List Value} (n:Nat),Vals xs us->Vals (xs.drop n) (us.drop n)
 |_,_,0,r=>r
 |_,_,_+1,.nil=>.nil
 |_,_,n+1,.cons _ t=>Vals.drop n t
def Vals.none_of:∀{xs:List V}{us:List Value}{i:Nat},Vals xs us->xs[i]?=none->us[i]?=none:=λ{xs us i} r e=>by have h1:=r.length;have h2:xs.length<=i:=TX.mp e;exact TX.mpr (by omega)
def RelO:Option V->Option Value->Prop
 |some v,some u=>RelV v u
 |none,none=>True
 |_,_=>False
def KV{κ:Type}:List (κ×V)->List (κ×Value)->Prop:=Paired λ(p:κ×V) (q:κ×Value)=>p.1=q.1/\RelV p.2 q.2
def kV:Key->V
 |.inl i=>.int i
 |.inr x=>.str x
inductive HO where
 /-- a list -/
 |lst (xs:List V)
 /-- a tuple (never changes) -/
 |tup (xs:List V)
 /-- a dict whose keys are ints and texts;one whose keys are tuples of ints and texts (the empty one is both) -/
 |dK (kvs:List (Key×V)) | dT (kvs:List (List Key×V))
 /-- a set of ints: its members,its size -/
 |set (S:Int->Bool) (n:Nat)
 /-- an instance of the class at C,its dict at dx,its attributes -/
 |ins (C dx:Addr) (fs:List (Str×V))
 /-- the dict of the instance at x -/
 |own (x:Addr)
 /-- the dict of an exception -/
 |xd (fs:List (Str×V))
 /-- a bound method,f of x -/
 |met (f x:Addr)
 /-- a range object lo,lo+1,.. below hi -/
 |rng (lo hi:Int)
 /-- a thing that is known to the object (the script;a dict while a loop walks it): read,never written while it is so -/
 |frz (o:Obj) (u:HO)
 /-- a code object's table -/
 |tbl (ps:Array Value)
 /-- any other thing,by what is true of its one object (a def of one's own: SetO a S n:=HO.ext λh=>..) -/
 |ext (φ:Heap->Prop)
abbrev Hp:=Addr->Option HO
def upd(H:Hp)(a:Addr)(o:HO):Hp:=λb=>if b=a then some o else H b
def upd_same{H:Hp}{a:Addr}{o:HO}:upd H a o a=some o:=by unfold upd;rw[S7 rfl]
def upd_ne{H:Hp}{a b:Addr}{o:HO}(h:b≠a):upd H a o b=H b:=by unfold upd;rw[Tq h]
def ne_of_none{H:Hp}{a b:Addr}{o:HO}(h:H a=some o)(h':H b=none):a≠b:=by intro e;subst e;rw[h]at h';cases h'
def RecAt(H:Hp)(v:Value):Prop:=∃c o fs q t,v=.ref c/\H c=some (.frz o (.own c))/\o.data=.fields fs/\fs[1]?=some (.str q t)
section
variable(P:Program)(w:World)
def ObjOk(H:Hp)(h:Heap)(a:Addr):HO->Prop
 |.lst xs=>xs.length<=sizeLine/\∃(its:List Value) (n:Nat),Vals xs its/\h.get? a=some { cls:=.type "list",data:=.seq its.toArray n }
 |.tup xs=>xs.length<=sizeLine/\∃its:List Value,Vals xs its/\IsTup h a its.toArray
 |.dK kvs=>kvs.length<=sizeLine/\(a==sysModules)=false/\∃vs,KV kvs vs/\h.DictOf (mixKind P w) a vs
 |.dT kvs=>kvs.length<=sizeLine/\(a==sysModules)=false/\∃xs:List (List Key×Addr×Value),
   Paired (λ(p:List Key×V) (q:List Key×Addr×Value)=>p.1=q.1/\H q.2.1=some (.tup (p.1.map kV))/\RelV p.2 q.2.2) kvs xs /\
   ∃o es ep,h.get? a=some o/\o.ExactDict/\o.data=.dict es ep/\es.toList=xs.map (entryOfKey (tupleKind (mixKind P w)))/\(xs.map (·.1)).Nodup
 |.set S n=>h.SetOf (intKind P w) a S n
 |.ins C dx fs=>H dx=some (.own a)/\fs.length<=1000/\dx≠a/\h.get? a=some (PySem.W.instObj C dx) /\
   ∃mA,h.Ns1 dx mA/\(∀f,RelO (fs.lookup f) (mA f))/\PySem.Within mA (fs.map (·.1))
 |.own _=>∃o,h.get? a=some o
 |.xd fs=>∃mA,h.Ns1 a mA/\∀f,RelO (fs.lookup f) (mA f)
 |.rng lo hi=>∃t u v,h.get? a=some { cls:=.type "range",data:=.fields #[.int lo t,.int hi u,.int 1 v] }
 |.frz o u=>h.get? a=some o/\ObjOk H h a u
 |.tbl _=>∃ps:Array Value,h.get? a=some { cls:=.none,data:=.fields ps }/\TriplesOk ps.toList/\∀pos cv,codeAmong pos ps.toList=some cv->RecAt H cv
 |.met f x=>h.get? a=some (PySem.W.methodObj (.ref f) (.ref x))
 |.ext φ=>φ h/\(∃o,h.get? a=some o)/\∀h1 h2:Heap,φ h1->(∀o,h1.get? a=some o->h2.get? a=some o)->φ h2
def HOk(H:Hp)(h:Heap):Prop:=∀a o,H a=some o->ObjOk P w H h a o
end
section
variable{P:Program}{w:World}{H H':Hp}{h h':Heap}{a:Addr}{o:HO}
theorem ObjOk.lt(x:ObjOk P w H h a o):a<h.objs.size:=by
 cases o with
 |lst xs=>obtain⟨_,_,_,_,e⟩:=x;exact S8 e
 |tup xs=>obtain⟨_,_,_,p⟩:=x;exact p.lt
 |dK kvs=>obtain⟨_,_,_,_,o,_,_,e,_⟩:=x;exact S8 e
 |dT kvs=>obtain⟨_,_,_,_,o,_,_,e,_⟩:=x;exact S8 e
 |set S n=>obtain⟨o,_,_,_,e,_⟩:=x;exact S8 e
 |ins C dx fs=>obtain⟨_,_,_,e,_⟩:=x;exact S8 e
 |own y=>obtain⟨_,e⟩:=x;exact S8 e
 |xd fs=>obtain⟨_,⟨_,_,_,e,_⟩,_⟩:=x;exact S8 e
 |rng lo hi=>obtain⟨_,_,_,e⟩:=x;exact S8 e
 |frz ob u=>obtain⟨e,_⟩:=x;exact S8 e
 |tbl ps=>obtain⟨_,e,_⟩:=x;exact S8 e
 |met f y=>exact S8 (show h.get? a=some _ from x)
 |ext φ=>obtain⟨_,⟨_,e⟩,_⟩:=x;exact S8 e
theorem Paired.mapP:∀{l₁:List α}{l₂:List β},Paired F l₁ l₂->(∀a b,F a b->G a b)->Paired G l₁ l₂
 |_,_,.nil,_=>.nil
 |_,_,.cons r t,f=>.cons (f _ _ r) (Paired.mapP t f)
def ObjOk.stay(x:ObjOk P w H h a o)(k:∀ b u,(b=a\/H b=some (.own a))->h.get? b=some u->h'.get? b=some u)
  (ho:∀b,H b=some (.own a)->H' b=some (.own a)) (ht:∀b xs,H b=some (.tup xs)->H' b=some (.tup xs)) (hf:∀b o,H b=some (.frz o (.own b))->H' b=some (.frz o (.own b)):=by exact λs s q=>q):ObjOk P w H' h' a o:=by
 induction o with
 |lst xs=>obtain⟨z,its,n,r,e⟩:=x;exact⟨z,its,n,r,k _ _ (.inl rfl) e⟩
 |tup xs=>obtain⟨z,its,r,ob,e,c⟩:=x;exact⟨z,its,r,ob,k _ _ (.inl rfl) e,c⟩
 |dK kvs=>obtain⟨z,y,vs,r,ob,es,ep,e,c⟩:=x;exact⟨z,y,vs,r,ob,es,ep,k _ _ (.inl rfl) e,c⟩
 |dT kvs=>obtain⟨z,y,xs,r,ob,es,ep,e,c⟩:=x;exact⟨z,y,xs,Paired.mapP r λp q z=>⟨z.1,ht _ _ z.2.1,z.2.2⟩,ob,es,ep,k _ _ (.inl rfl) e,c⟩
 |set S n=>obtain⟨ob,es,ep,t,e,c⟩:=x;exact⟨ob,es,ep,t,k _ _ (.inl rfl) e,c⟩
 |ins C dx fs=>obtain⟨d,z,ne,e,mA,⟨od,es,ep,e2,c⟩,r⟩:=x;exact⟨ho _ d,z,ne,k _ _ (.inl rfl) e,mA,⟨od,es,ep,k _ _ (.inr d) e2,c⟩,r⟩
 |own y=>obtain⟨ob,e⟩:=x;exact⟨ob,k _ _ (.inl rfl) e⟩
 |xd fs=>obtain⟨mA,⟨od,es,ep,e,c⟩,r⟩:=x;exact⟨mA,⟨od,es,ep,k _ _ (.inl rfl) e,c⟩,r⟩
 |rng lo hi=>obtain⟨t,u,v,e⟩:=x;exact⟨t,u,v,k _ _ (.inl rfl) e⟩
 |frz ob u ih=>obtain⟨e,q⟩:=x;exact⟨k _ _ (.inl rfl) e,ih q⟩
 |tbl ps=>obtain⟨ps',e,z,r⟩:=x;exact⟨ps',k a _ (.inl rfl) e,z,λpos cv q=>let ⟨c,o,fs,q',t,g1,g2,g3⟩:=r pos cv q;⟨c,o,fs,q',t,g1,hf c o g2,g3⟩⟩
 |met f y=>have e:h.get? a=some (PySem.W.methodObj (.ref f) (.ref y)):=x;show h'.get? a=some (PySem.W.methodObj (.ref f) (.ref y));exact k a _ (.inl rfl) e
 |ext φ=>obtain⟨p,⟨o,e⟩,st⟩:=x;exact⟨st _ _ p λo q=>k _ _ (.inl rfl) q,⟨o,k _ _ (.inl rfl) e⟩,st⟩
theorem HOk.lt(x:HOk P w H h)(e:H a=some o):a<h.objs.size:=(x a o e).lt
def HOk.fresh(x:HOk P w H h)(e:h.objs.size<=a):H a=none:=by
 cases q:H a with
 |none=>rfl
 |some u=>exact absurd (Tj (x.lt q) e) (Va _)
def HOk.kept(x:HOk P w H h)(k:∀b u,h.get? b=some u->h'.get? b=some u):HOk P w H h':=λa o e=>
 (x a o e).stay (λb u z q=>k b u q) (λz q=>q) λz z q=>q
def HOk.laid(x:HOk P w H h)(k:∀b u,h.get? b=some u->h'.get? b=some u)(hp:h.objs.size<=a)(new:ObjOk P w (upd H a o) h' a o):HOk P w (upd H a o) h':=λb u e=>by
 have hn:=x.fresh hp;by_cases hb:b=a
 ·subst hb;rw[upd_same]at e;cases e;exact new
 ·rw[upd_ne hb]at e;exact (x b u e).stay (λc v z q=>k c v q) (λc q=>by rw[upd_ne (ne_of_none q hn)];exact q) (λc xs q=>by rw[upd_ne (ne_of_none q hn)];exact q) λc o q=>by rw[upd_ne (ne_of_none q hn)];exact q
end
def Rd(H:Hp)(a:Addr)(u:HO):Prop:=H a=some u\/∃o,H a=some (.frz o u)
def Rd.ok(r:Rd H a u)(x:HOk P w H h):ObjOk P w H h a u:=by
 rcases r with r | ⟨o,r⟩
 ·exact x a u r
 ·obtain⟨_,q⟩:=x a _ r;exact q
def Mut:Option HO->Prop
 |some (.lst _)=>True
 |some (.dK _)=>True
 |some (.dT _)=>True
 |some (.set _ _)=>True
 |some (.ins _ _ _)=>True
 |some (.ext _)=>True
 |_=>False
section
variable{P:Program}{w:World}{H:Hp}{h h':Heap}{x e:Addr}{o':HO}
def HOk.write(ok:HOk P w H h)(mu:Mut (H x))(he:e=x\/H e=some (.own x))(k:∀ b u,b≠e->h.get? b=some u->h'.get? b=some u)(heo:∃ u,h'.get? e=some u)
  (new:ObjOk P w (upd H x o') h' x o'):HOk P w (upd H x o') h':=λb u q=>by
 have nown:∀c y,H c=some (.own y)->c≠x:=λc y r z=>by subst z;rw[r]at mu;exact mu
 have ntup:∀c xs,H c=some (.tup xs)->c≠x:=λc xs r z=>by subst z;rw[r]at mu;exact mu
 have nfrz:∀c o u,H c=some (.frz o u)->c≠x:=λc o u r z=>by subst z;rw[r]at mu;exact mu
 by_cases hb:b=x
 ·subst hb;rw[upd_same]at q;cases q;exact new
 ·rw [upd_ne hb]at q;by_cases hbe:b=e
  ·have q':H b=some (.own x):=by
    rcases he with z | z
    ·exact absurd (hbe.trans z) hb
    ·rw[hbe];exact z
   rw[q]at q';cases q';obtain⟨v,hv⟩:=heo;exact⟨v,by rw[hbe];exact hv⟩
  ·refine (ok b u q).stay (λc v hc r=>k c v ?_ r) (λc r=>by rw[upd_ne (nown c b r)];exact r) (λc xs r=>by rw[upd_ne (ntup c xs r)];exact r) λc o r=>by rw[upd_ne (nfrz c o _ r)];exact r
   rcases hc with rfl | hc
   ·exact hbe
   ·rintro rfl;rcases he with z | z
    ·exact nown c b hc z
    ·rw[hc]at z;cases z;exact hb rfl
end
structure Un(fs ex:List Addr)(H H':Hp)(h h':Heap):Prop where
 keep:∀b o,h.get? b=some o->H b=none->b∉fs->b∉ex->h'.get? b=some o
 slot:∀b o,h.get? b=some o->H b=none->b∈fs->b∉ex->∃sl,h'.get? b=some { o with slots:=sl }
 free:∀b o,h.get? b=some o->H b=none->b∉ex->H' b=none
 there:∀b o,h.get? b=some o->b∉ex->∃o',h'.get? b=some o'
 tups:∀b xs,H b=some (.tup xs)->H' b=some (.tup xs)
 frzs:∀b o u,H b=some (.frz o u)->H' b=some (.frz o u)
 tbls:∀b ps,H b=some (.tbl ps)->∃more,H' b=some (.tbl (ps++more))
section
variable{fs fs' ex ex':List Addr}{H H1 H2:Hp}{h h1 h2 h':Heap}{a x e:Addr}{o:HO}
def Un.any(u:Un fs ex H H1 h h1)(q:h.get? b=some ob)(n:H b=none)(hx:b∉ex):∃sl,h1.get? b=some { ob with slots:=sl }:=by
 by_cases hb:b∈fs
 ·exact u.slot b ob q n hb hx
 ·exact⟨ob.slots,u.keep b ob q n hb hx⟩
def Un.kept(k:∀b u,h.get? b=some u->h'.get? b=some u):Un fs ex H H h h':=
 ⟨λb ob q z z z=>k b ob q,λb ob q z z z=>⟨ob.slots,k b ob q⟩,λz z z n z=>n,λb ob q z=>⟨ob,k b ob q⟩,λz z q=>q,λz z z q=>q,λz ps q=>⟨#[],by rw[q];simp⟩⟩
def Un.refl:Un fs ex H H h h:=Un.kept λz z q=>q
def Un.laid(k:∀b u,h.get? b=some u->h'.get? b=some u)(hp:h.objs.size<=a)(hn:H a=none):Un fs ex H (upd H a o) h h' where
 keep:=λb u q z z z=>k b u q
 slot:=λb u q z z z=>⟨u.slots,k b u q⟩
 free:=λb u q n z=>by rw[upd_ne (Tv (Tj (S8 q) hp))];exact n
 there:=λb u q z=>⟨u,k b u q⟩
 tups:=λb xs q=>by rw[upd_ne (ne_of_none q hn)];exact q
 frzs:=λb u xs q=>by rw[upd_ne (ne_of_none q hn)];exact q
 tbls:=λb ps q=>⟨#[],by rw[upd_ne (ne_of_none q hn),q];simp⟩
def Un.write(mu:Mut (H x))(he:e=x\/H e=some (.own x))(k:∀b u,b≠e->h.get? b=some u->h'.get? b=some u)(heo:∃u,h'.get? e=some u):Un fs ex H (upd H x o) h h':=by
 have hx:∀b,H b=none->b≠x:=λb n z=>by subst z;rw[n]at mu;exact mu
 have hb:∀b,H b=none->b≠e:=λb n z=>by
  subst z;rcases he with r | r
  ·exact hx b n r
  ·rw[n]at r;cases r
 have hm:∀b u,H b=some u->¬ Mut (some u)->b≠x:=λb u q nm z=>by subst z;rw[q]at mu;exact nm mu
 refine⟨λb u q n y y=>k b u (hb b n) q,λb u q n y y=>⟨u.slots,k b u (hb b n) q⟩,λb u q n y=>by rw[upd_ne (hx b n)];exact n,λb u q y=>?_,
  λb xs q=>by rw[upd_ne (hm b _ q λz=>z)];exact q,λb u xs q=>by rw[upd_ne (hm b _ q λz=>z)];exact q,λb ps q=>⟨#[],by rw[upd_ne (hm b _ q λz=>z),q];simp⟩⟩
 by_cases hbe:b=e
 ·subst hbe;exact heo
 ·exact⟨u,k b u hbe q⟩
end
def trk(h:Heap)(H:Hp):List Addr:=(List.range h.objs.size).filter λa=>(H a).isSome
def hidT(h:Heap)(H:Hp):Heap:=PySem.W.hideAll h (trk h H)
def hidT_size(h:Heap)(H:Hp):(hidT h H).objs.size=h.objs.size:=PySem.W.hideAll_size _ _
def hidT_get(e:h.get? b=some o)(n:H b=none):(hidT h H).get? b=some o:=
 PySem.W.hideAll_get _ e λhm=>by have q:(H b).isSome=true:=(Vr.mp hm).2;rw[n]at q;simp at q
def of_hidT(e:(hidT h H).get? b=some o):h.get? b=some o/\H b=none:=by
 have e':h.get? b=some o:=PySem.W.of_hideAll (trk h H) e;refine⟨e',?_⟩;cases q:H b with
 |none=>rfl
 |some x=>
   have hm:b∈trk h H:=Vr.mpr ⟨Uh.mpr (S8 e'),by simp[q]⟩
   have z:(hidT h H).get? b=none:=PySem.W.hideAll_none (trk h H) hm;rw[z]at e;cases e
def allNews(g h:Heap)(L:Addr):List (Addr×Obj):=(List.range h.objs.size).filterMap λa=>if a=L\/(g.get? a).isSome=true then none else (h.get? a).map λo=>(a,o)
def rest(g h:Heap)(L d:Addr):List (Addr×Obj):=(allNews g h L).filter λp=>decide (p.1≠d)
open PySem PySem.Spec PyProof.Rows
structure Mod(K:PySem.W.Frag)(mg:Str->Option Value)(base:Heap):Prop where
 kin:K.In base
 glob:base.Ns mainGlobals mg
 blt:∃mb,base.Ns builtinsNs mb/\∀x:Str,x≠"__name__"->mb x=bootBuiltins x
 nolimit:base.NoLimit
structure Cx where
 prog:Program
 w:World
 K:PySem.W.Frag
 mg:Str->Option Value
 base:Heap
 A:Around
 N:List Str
 s₀:Shared
 H₀:Hp
 env:Env
 outer:List Env
 stack:List Env
 ex:List Addr
 fn:Str->Bool
 calm:Bool
 pn:List (Addr×Obj)
 xe:Value->Shared->Prop
def frs(l:List Env):List Addr:=l.filterMap (·.frame)
abbrev Cx.fs(X:Cx):List Addr:=frs X.outer
def Vis(sc:Scope)(x:Str):Prop:=sc.names.lookup x=some .local\/sc.names.lookup x=some .cell\/sc.names.lookup x=some .free
def Loc(sc:Scope)(x:Str):Prop:=sc.names.lookup x=some .local\/sc.names.lookup x=some .cell
def Look(env:Env)(h:Heap)(m:Str->Option Value)(x:Str)(u:Value):Prop:=
 (env.kindOf x=some .local/\m x=some u)\/((env.kindOf x=some .cell\/env.kindOf x=some .free)/\∃c,env.cells.lookup x=some c/\h.IsCell c (some u))
structure Cx.Ok(X:Cx):Prop where
 mod:Mod X.K X.mg X.base
 kind:X.env.scope.kind=.function
 glob:X.env.globals=mainGlobals
 blt:X.env.builtins=builtinsNs
 above:X.s₀.heap.objs.size<=X.env.locals
 inj:∀x y c,X.env.cells.lookup x=some c->X.env.cells.lookup y=some c->x=y
 has:∀x,(X.env.kindOf x=some .cell\/X.env.kindOf x=some .free)->∃c,X.env.cells.lookup x=some c
 cab:∀x c,X.fn x=true->X.env.cells.lookup x=some c->X.s₀.heap.objs.size<=c
 hd:X.calm=true->X.A.handled=none
 frames:X.A.frames=some X.stack
 stk:X.stack=X.outer\/(X.stack=X.env::X.outer/\X.env.frame=some X.env.locals)
 exf:∀b∈X.ex,b≠X.env.locals/\∀x c,X.env.cells.lookup x=some c->c≠b
 bs:∀b o,X.base.get? b=some o->X.s₀.heap.get? b=some o/\X.H₀ b=none
 bsz:X.base.objs.size<=X.s₀.heap.objs.size
 noex:∀b o,X.base.get? b=some o->b∉X.ex
 exfs:∀b∈X.ex,b∉X.fs
 funs:X.s₀.heap.FunFrames X.base X.outer
 frf:∀b∈X.fs,X.H₀ b=none
structure Inv(X:Cx)(Xe:List (Addr×Obj))(σ:List (Option V))(H:Hp)(s:Shared):Prop where
 ok:X.Ok
 os:s.os=X.s₀.os
 bare:AllBare s.gens
 base:Un X.fs X.ex X.H₀ H X.s₀.heap s.heap
 loc:∃m,s.heap.Ns X.env.locals m/\∀(i:Nat) (x:Str) (v:V),X.N[i]?=some x->σ[i]?=some (some v)->Vis X.env.scope x->∃u,RelV v u/\Look X.env s.heap m x u
 cell:∀x c,X.env.cells.lookup x=some c->∃v,s.heap.IsCell c v
 free:H X.env.locals=none
 freeC:∀x c,X.env.cells.lookup x=some c->H c=none
 pin:∀p∈X.pn++Xe,s.heap.get? p.1=some p.2/\H p.1=none/\p.1≠X.env.locals/\p.1∉X.fs/\∀v,p.2.data≠.cell v
 hok:HOk X.prog X.w H s.heap
 len:σ.length=X.N.length
section
variable{X:Cx}{Xe:List (Addr×Obj)}{σ:List (Option V)}{H H':Hp}{s:Shared}{h':Heap}
def Cx.Ok.nofr(ok:X.Ok)(e:X.base.get? b=some o):b∉X.fs:=λhb=>by have:=(ok.funs.mem hb).1;rw[e]at this;cases this
theorem Inv.bs(I:Inv X Xe σ H s):∀b o,X.base.get? b=some o->s.heap.get? b=some o/\H b=none:=λb o e=>
 ⟨I.base.keep b o (I.ok.bs b o e).1 (I.ok.bs b o e).2 (I.ok.nofr e) (I.ok.noex b o e),I.base.free b o (I.ok.bs b o e).1 (I.ok.bs b o e).2 (I.ok.noex b o e)⟩
def Inv.bk(I:Inv X Xe σ H s):∀b o,X.base.get? b=some o->s.heap.get? b=some o:=λb o e=>(I.bs b o e).1
theorem Inv.mod(I:Inv X Xe σ H s):Mod X.K X.mg X.base:=I.ok.mod
def Inv.kIn(I:Inv X Xe σ H s):X.K.In s.heap:=I.ok.mod.kin.keeps I.bk
def Inv.fr(I:Inv X Xe σ H s):∃m,Fr X.base X.env.locals s.heap m:=
 let ⟨m,hn,_⟩:=I.loc
 ⟨m,hn,I.bk,T7 I.ok.bsz I.ok.above⟩
theorem Inv.lt(I:Inv X Xe σ H s):X.env.locals<s.heap.objs.size:=let ⟨_,hn,_⟩:=I.loc;hn.lt
def Inv.sz(I:Inv X Xe σ H s):X.s₀.heap.objs.size<=s.heap.objs.size:=T7 I.ok.above (WX I.lt)
def Inv.nofs(I:Inv X Xe σ H s)(h:s.heap.objs.size<=a):a∉X.fs:=λhb=>by obtain⟨_,o,ho,_⟩:=I.ok.funs.mem hb;exact absurd (Tj (S8 ho) (T7 I.sz h)) (Va _)
def Inv.cne(I:Inv X Xe σ H s):∀x c,X.env.cells.lookup x=some c->c≠X.env.locals:=λx c e z=>by obtain⟨v,o,ho,hd⟩:=I.cell x c e;obtain⟨m,⟨o',es,ep,ho',hd',_⟩,_⟩:=I.loc;rw[z,ho']at ho;cases ho;rw[hd']at hd;cases hd
theorem Inv.funs(I:Inv X Xe σ H s):s.heap.FunFrames X.base X.outer:=by
 have all:∀ (l:List Env),(∀ b∈frs l,b∈X.fs)->X.s₀.heap.FunFrames X.base l->s.heap.FunFrames X.base l:=by
  intro l;induction l with
  |nil=>intro _ _;trivial
  |cons env r ih=>
    intro hs hl;obtain⟨hk,⟨L,o,hf,hn,ho,hd⟩,hr⟩:=hl;have hL:L∈X.fs:=hs L (by unfold frs;rw[Wb,hf];exact Ui)
    obtain⟨sl,e⟩:=I.base.slot L o ho (I.ok.frf L hL) hL λz=>I.ok.exfs L z hL
    exact⟨hk,⟨L,_,hf,hn,e,hd⟩,ih (λb hb=>hs b (by unfold frs;rw[Wb,hf];exact T8 _ hb)) hr⟩
 exact all X.outer (λy hb=>hb) I.ok.funs
theorem Inv.stack(I:Inv X Xe σ H s):s.heap.FunFrames X.base X.stack:=by
 rcases I.ok.stk with e | ⟨e,hf⟩
 ·rw[e];exact I.funs
 ·rw[e];obtain⟨m,hn,_⟩:=I.loc;refine .cons (by rw[I.ok.kind];decide) hf hn ?_ I.funs
  exact Heap.get?_none_of_le (T7 I.ok.bsz I.ok.above)
def Inv.stkSub(I:Inv X Xe σ H s):∀b∈frs X.stack,b∈X.env.locals::X.fs:=λb hb=>by
 rcases I.ok.stk with e | ⟨e,hf⟩
 ·rw[e]at hb;exact T8 _ hb
 ·rw[e]at hb;unfold frs at hb;rw[Wb,hf]at hb;exact hb
def Inv.stkFree(I:Inv X Xe σ H s):∀b∈frs X.stack,H b=none:=λb hb=>by
 rcases T3.mp (I.stkSub b hb) with e | hb
 ·rw[e];exact I.free
 ·obtain⟨_,o,ho,_⟩:=I.ok.funs.mem hb;exact I.base.free b o ho (I.ok.frf b hb) λz=>I.ok.exfs b z hb
def Inv.step{g':Array GenState}{t':Nat}{ch:List Addr}(I:Inv X Xe σ H s)
  (hch:∀b∈ch,(b∈X.ex\/X.s₀.heap.objs.size<=b)/\b≠X.env.locals/\(∀x c,X.env.cells.lookup x=some c->c≠b)/\∀p∈X.pn++Xe,p.1≠b)
  (keep:∀b o,b≠X.env.locals->b∉X.fs->b∉ch->s.heap.get? b=some o->H b=none->h'.get? b=some o)
  (slot:∀b o,b≠X.env.locals->b∈X.fs->b∉ch->s.heap.get? b=some o->H b=none->∃sl,h'.get? b=some { o with slots:=sl }) (free:∀b o,b∉ch->s.heap.get? b=some o->H b=none->H' b=none)
  (there:∀b o,b∉ch->s.heap.get? b=some o->∃o',h'.get? b=some o')
  (tups:∀b xs,H b=some (.tup xs)->H' b=some (.tup xs)) (frzs:∀b o u,H b=some (.frz o u)->H' b=some (.frz o u)) (tbls:∀b ps,H b=some (.tbl ps)->∃more,H' b=some (.tbl (ps++more)))
  (ns:∀m,s.heap.Ns X.env.locals m->h'.Ns X.env.locals m) (hok:HOk X.prog X.w H' h') (hg:AllBare g') :
  Inv X Xe σ H' { s with heap:=h',gens:=g',drawn:=d',toks:=t' }:=by
 have neL:∀b o,X.s₀.heap.get? b=some o->b≠X.env.locals:=λb o e=>Tv (Tj (S8 e) I.ok.above)
 have neC:∀b o,X.s₀.heap.get? b=some o->b∉X.ex->b∉ch:=λb o e hx hb=>by
  rcases (hch b hb).1 with z | z
  ·exact hx z
  ·exact absurd (Tj (S8 e) z) (Va _)
 have cellK:∀x c,X.env.cells.lookup x=some c->∀v,s.heap.IsCell c v->h'.IsCell c v:=λx c e v ⟨o,ho,hd⟩=>by
  have nch:c∉ch:=λz=>(hch c z).2.2.1 x c e rfl
  by_cases hc:c∈X.fs
  ·obtain⟨sl,q⟩:=slot c o (I.cne x c e) hc nch ho (I.freeC x c e);exact⟨_,q,hd⟩
  ·exact⟨o,keep c o (I.cne x c e) hc nch ho (I.freeC x c e),hd⟩
 refine⟨I.ok,I.os,hg,⟨λb o e n hb hx=>?_,λb o e n hb hx=>?_,λb o e n hx=>?_,λb o e hx=>?_,λb xs e=>tups b xs (I.base.tups b xs e),λb o xs e=>frzs b o xs (I.base.frzs b o xs e),λb ps e=>?_⟩,?_,λx c e=>?_,?_,λx c e=>?_,λp hp=>?_,hok,I.len⟩
 ·exact keep b o (neL b o e) hb (neC b o e hx) (I.base.keep b o e n hb hx) (I.base.free b o e n hx)
 ·obtain⟨sl,e1⟩:=I.base.slot b o e n hb hx;obtain⟨sl',e2⟩:=slot b _ (neL b o e) hb (neC b o e hx) e1 (I.base.free b o e n hx);exact⟨sl',e2⟩
 ·obtain⟨o',e1⟩:=I.base.there b o e hx;exact free b o' (neC b o e hx) e1 (I.base.free b o e n hx)
 ·obtain⟨o',e1⟩:=I.base.there b o e hx;exact there b o' (neC b o e hx) e1
 ·obtain⟨m1,e1⟩:=I.base.tbls b ps e;obtain⟨m2,e2⟩:=tbls b _ e1;exact⟨m1++m2,by rw[e2,Array.append_assoc]⟩
 ·obtain⟨m,hn,hl⟩:=I.loc;refine⟨m,ns m hn,λi x v e1 e2 e3=>?_⟩
  obtain⟨u,r,l⟩:=hl i x v e1 e2 e3;refine⟨u,r,?_⟩;rcases l with l | ⟨k,c,e,z⟩
  ·exact .inl l
  ·exact .inr ⟨k,c,e,cellK x c e _ z⟩
 ·obtain⟨v,z⟩:=I.cell x c e;exact⟨v,cellK x c e v z⟩
 ·obtain⟨m,⟨o,_,_,ho,_⟩,_⟩:=I.loc;exact free _ o (λz=>(hch _ z).2.1 rfl) ho I.free
 ·obtain⟨v,o,ho,hd⟩:=I.cell x c e;exact free c o (λz=>(hch c z).2.2.1 x c e rfl) ho (I.freeC x c e)
 ·obtain⟨e,n,ne,nf,d⟩:=I.pin p hp;have nch:p.1∉ch:=λz=>(hch p.1 z).2.2.2 p hp rfl
  exact⟨keep p.1 p.2 ne nf nch e n,free p.1 p.2 nch e n,ne,nf,d⟩
def Inv.un{t':Nat}(I:Inv X Xe σ H s)(u:Un X.fs [] H H' s.heap h')(hok:HOk X.prog X.w H' h'):Inv X Xe σ H' { s with heap:=h',toks:=t' }:=by
 obtain⟨m,⟨o,es,ep,ho,r⟩,_⟩:=id I.loc;obtain⟨sl,hL⟩:=u.any ho I.free (by simp)
 exact I.step (g':=s.gens) (d':=s.drawn) (ch:=[]) (λy z=>nomatch z) (λb o y hb y e n=>u.keep b o e n hb (by simp)) (λb o y hb y e n=>u.slot b o e n hb (by simp)) (λb o y e n=>u.free b o e n (by simp)) (λb o y e=>u.there b o e (by simp)) u.tups u.frzs u.tbls (λm' hm=>by obtain⟨o',es',ep',ho',r'⟩:=hm;rw[ho]at ho';cases ho';exact⟨_,es',ep',hL,r'⟩) hok I.bare
def Inv.call{g':Array GenState}{t':Nat}{ch:List Addr}(I:Inv X Xe σ H s)(u:Un (frs X.stack) ch H H' s.heap h')(hok:HOk X.prog X.w H' h')(hg:AllBare g')
  (hch:∀b∈ch,(b∈X.ex\/X.s₀.heap.objs.size<=b)/\b≠X.env.locals/\(∀x c,X.env.cells.lookup x=some c->c≠b)/\∀p∈X.pn++Xe,p.1≠b) :
  Inv X Xe σ H' { s with heap:=h',gens:=g',drawn:=d',toks:=t' }:=by
 obtain⟨m,⟨o,es,ep,ho,r⟩,_⟩:=id I.loc;obtain⟨sl,hL⟩:=u.any ho I.free λz=>(hch _ z).2.1 rfl
 exact I.step (ch:=ch) hch (λb o hL hb hc e n=>u.keep b o e n (λz=>(T3.mp (I.stkSub b z)).elim hL hb) hc) (λb o y y hc e n=>u.any e n hc) (λb o hc e n=>u.free b o e n hc) (λb o hc e=>u.there b o e hc) u.tups u.frzs u.tbls (λm' hm=>by obtain⟨o',es',ep',ho',r'⟩:=hm;rw[ho]at ho';cases ho';exact⟨_,es',ep',hL,r'⟩) hok hg
def Inv.turned{t':Nat}(I:Inv X Xe σ H s)(k:∀b o,b≠it->s.heap.get? b=some o->h'.get? b=some o)(hn:H it=none)(hL:it≠X.env.locals)
  (h1:it∈X.ex\/X.s₀.heap.objs.size<=it) (h2:∀x c,X.env.cells.lookup x=some c->c≠it) (h3:∀p∈X.pn++Xe,p.1≠it):Inv X Xe σ H { s with heap:=h',toks:=t' }:=by
 have nit:∀b u,H b=some u->b≠it:=λb u e z=>by rw[z,hn]at e;cases e
 refine I.step (g':=s.gens) (d':=s.drawn) (ch:=[it]) (λb hb=>?_) (λb o y y hc e y=>k b o (λz=>hc (by simp[z])) e) (λb o y y hc e y=>⟨o.slots,k b o (λz=>hc (by simp[z])) e⟩) (λy y y y n=>n)
  (λb o hc e=>⟨o,k b o (λz=>hc (by simp[z])) e⟩) (λy y e=>e) (λy y y e=>e) (λb ps e=>⟨#[],by rw[e];simp⟩) (λm hm=>?_) (λb u e=>?_) I.bare
 ·have e:b=it:=by simpa using hb
  subst e;exact⟨h1,hL,h2,h3⟩
 ·obtain⟨o,es,ep,ho,r⟩:=hm;exact⟨o,es,ep,k _ o (Ne.symm hL) ho,r⟩
 ·refine (I.hok b u e).stay (λc v hc q=>k c v ?_ q) (λy q=>q) λy y q=>q
  rcases hc with z | z
  ·rw[z];exact nit b u e
  ·exact nit c _ z
def Inv.tok(I:Inv X Xe σ H s)(t:Nat):Inv X Xe σ H { s with toks:=t }:=I.un (h':=s.heap) (t':=t) Un.refl I.hok
theorem Inv.kept(I:Inv X Xe σ H s)(k:∀b u,s.heap.get? b=some u->h'.get? b=some u):Inv X Xe σ H { s with heap:=h',toks:=t' }:=I.un (Un.kept k) (I.hok.kept k)
theorem Inv.laid(I:Inv X Xe σ H s)(k:∀b u,s.heap.get? b=some u->h'.get? b=some u)(hp:s.heap.objs.size<=a)(new:ObjOk X.prog X.w (upd H a o) h' a o):
  Inv X Xe σ (upd H a o) { s with heap:=h',toks:=t' }:=I.un (Un.laid k hp (I.hok.fresh hp)) (I.hok.laid k hp new)
theorem Inv.write(I:Inv X Xe σ H s)(mu:Mut (H x))(he:e=x\/H e=some (.own x))(k:∀b u,b≠e->s.heap.get? b=some u->h'.get? b=some u)(heo:∃u,h'.get? e=some u)
  (new:ObjOk X.prog X.w (upd H x o) h' x o):Inv X Xe σ (upd H x o) { s with heap:=h',toks:=t' }:=I.un (Un.write mu he k heo) (I.hok.write mu he k heo new)
def Inv.weak(I:Inv X Xe σ H s)(hl:σ'.length=σ.length)(w:∀(i:Nat) v,σ'[i]?=some (some v)->σ[i]?=some (some v)):Inv X Xe σ' H s:=
 ⟨I.ok,I.os,I.bare,I.base,let ⟨m,hn,hl'⟩:=I.loc;⟨m,hn,λi x v e1 e2 e3=>hl' i x v e1 (w i v e2) e3⟩,I.cell,I.free,I.freeC,I.pin,I.hok,hl.trans I.len⟩
def Inv.pins_of(I:Inv X Xe σ H s)(h:∀p∈pins',s.heap.get? p.1=some p.2/\H p.1=none/\p.1≠X.env.locals/\p.1∉X.fs/\∀v,p.2.data≠.cell v):Inv X pins' σ H s:=
 ⟨I.ok,I.os,I.bare,I.base,I.loc,I.cell,I.free,I.freeC,λp hp=>(T6.mp hp).elim (λz=>I.pin p (Ud _ z)) (h p),I.hok,I.len⟩
def nodup_ix{N:List Str}(hN:N.Nodup){i j:Nat}(a:N[i]?=some x)(b:N[j]?=some x):i=j:=by obtain⟨h1,e1⟩:=S5.mp a;obtain⟨h2,e2⟩:=S5.mp b;exact (List.getElem_inj hN).mp (e1.trans e2.symm)
def store_ok2{E:Value->Shared->Prop}{i:Nat}{Q:Unit->Shared->Prop}(I:Inv X Xe σ H s)(hN:X.N.Nodup)(hi:X.N[i]?=some x)(hx:Loc X.env.scope x)(r:RelV v u)
  (h:∀s',Inv X Xe (σ.set i (some v)) H s'->(∃a,Heap.SameBut a s.heap s'.heap/\(a=X.env.locals\/X.env.cells.lookup x=some a))->Q () s') (hf:X.fn x=true\/X.env.scope.names.lookup x=some .local:=by first | exact .inl rfl | exact .inr rfl | assumption):wpAny M A (storeName X.env x u) Q E s:=by
 obtain⟨m,hn,hl⟩:=id I.loc;have hcls:(X.env.scope.kind==.class || (X.env.scope.kind==.module&&X.env.locals != X.env.globals))=false:=by rw[I.ok.kind];rfl
 have hiσ:i<σ.length:=by rw[I.len];exact (S5.mp hi).1
 have cne:=I.cne;have tracked:∀{a:Addr}{h':Heap},(∃o,s.heap.get? a=some o/\H a=none)->Heap.SameBut a s.heap h'->HOk X.prog X.w H h':=λ{a h'} ha hs b ob e=>by
  obtain⟨_,_,hfree⟩:=ha;refine (I.hok b ob e).stay (λc w' hc q=>(hs.2 c ?_).trans q) (λt q=>q) λt t q=>q
  rintro rfl;rcases hc with rfl | hc
  ·rw[hfree]at e;cases e
  ·rw[hfree]at hc;cases hc
 rcases hx with hk | hk
 ·refine wpAny_storeName_local hk hn (λh' hn' hs=>?_) hcls
  obtain⟨oL,_,_,hoL,_⟩:=id hn;refine h _ ⟨I.ok,I.os,I.bare,⟨λb o e n hb hx=>?_,λb o e n hb hx=>?_,I.base.free,λb o e hx=>?_,I.base.tups,I.base.frzs,I.base.tbls⟩,⟨_,hn',λj y v' e1 e2 e3=>?_⟩,λy c e=>?_,I.free,I.freeC,λp hp=>?_,tracked ⟨oL,hoL,I.free⟩ hs,by simpa using I.len⟩ ⟨_,hs,.inl rfl⟩
  ·exact (hs.2 b (Tv (Tj (S8 e) I.ok.above))).trans (I.base.keep b o e n hb hx)
  ·obtain⟨sl,e1⟩:=I.base.slot b o e n hb hx;exact⟨sl,(hs.2 b (Tv (Tj (S8 e) I.ok.above))).trans e1⟩
  ·obtain⟨o',e1⟩:=I.base.there b o e hx;exact⟨o',(hs.2 b (Tv (Tj (S8 e) I.ok.above))).trans e1⟩
  ·by_cases hj:j=i
   ·subst hj;rw[hi]at e1;cases e1;rw[Th hiσ]at e2;cases e2;exact⟨u,r,.inl ⟨hk,by simp⟩⟩
   ·rw[Tc (Ne.symm hj)]at e2;obtain⟨u',r',q⟩:=hl j y v' e1 e2 e3;refine⟨u',r',?_⟩;rcases q with ⟨k,e⟩ | ⟨k,c,e,z⟩
    ·refine .inl ⟨k,?_⟩;have:y≠x:=λe=>hj (nodup_ix hN e1 (e ▸ hi))
     simp[this,e]
    ·exact .inr ⟨k,c,e,z.sameBut hs (cne y c e)⟩
  ·obtain⟨w',z⟩:=I.cell y c e;exact⟨w',z.sameBut hs (cne y c e)⟩
  ·obtain⟨e,n,ne,nf,d⟩:=I.pin p hp;exact⟨(hs.2 p.1 ne).trans e,n,ne,nf,d⟩
 ·have hfn:X.fn x=true:=by
   rcases hf with z | z
   ·exact z
   ·rw[z]at hk;cases hk
  obtain⟨c,hc⟩:=I.ok.has x (.inl hk);obtain⟨w',z⟩:=I.cell x c hc;refine wpAny_storeName_cell I.ok.kind hk hc z (λh' hc' hs=>?_)
  obtain⟨oc,hoc,hocd⟩:=id z;refine h { s with heap:=h' } ⟨I.ok,I.os,I.bare,⟨λb o e n hb hx=>?_,λb o e n hb hx=>?_,I.base.free,λb o e hx=>?_,I.base.tups,I.base.frzs,I.base.tbls⟩,⟨m,hn.sameBut hs (Ne.symm (cne x c hc)),λj y v' e1 e2 e3=>?_⟩,λy c' e=>?_,I.free,I.freeC,λp hp=>?_,tracked ⟨oc,hoc,I.freeC x c hc⟩ hs,by simpa using I.len⟩ ⟨c,hs,.inr hc⟩
  ·exact (hs.2 b (Tv (Tj (S8 e) (I.ok.cab x c hfn hc)))).trans (I.base.keep b o e n hb hx)
  ·obtain⟨sl,e1⟩:=I.base.slot b o e n hb hx;exact⟨sl,(hs.2 b (Tv (Tj (S8 e) (I.ok.cab x c hfn hc)))).trans e1⟩
  ·obtain⟨o',e1⟩:=I.base.there b o e hx;exact⟨o',(hs.2 b (Tv (Tj (S8 e) (I.ok.cab x c hfn hc)))).trans e1⟩
  ·by_cases hj:j=i
   ·subst hj;rw[hi]at e1;cases e1;rw[Th hiσ]at e2;cases e2;exact⟨u,r,.inr ⟨.inl hk,c,hc,hc'⟩⟩
   ·rw[Tc (Ne.symm hj)]at e2;obtain⟨u',r',q⟩:=hl j y v' e1 e2 e3;refine⟨u',r',?_⟩;rcases q with q | ⟨k,c',e,z'⟩
    ·exact .inl q
    ·refine .inr ⟨k,c',e,z'.sameBut hs ?_⟩;rintro rfl;exact hj (nodup_ix hN e1 (I.ok.inj _ _ _ e hc ▸ hi))
  ·by_cases hcc:c'=c
   ·subst hcc;exact⟨_,hc'⟩
   ·obtain⟨w2,z2⟩:=I.cell y c' e;exact⟨w2,z2.sameBut hs hcc⟩
  ·obtain⟨e,n,ne,nf,d⟩:=I.pin p hp;refine⟨(hs.2 p.1 ?_).trans e,n,ne,nf,d⟩;intro q;rw[q,hoc]at e;have q':oc=p.2:=Tf e;exact d w' (by rw[<-q'];exact hocd)
def store_ok(I:Inv X Xe σ H s)(hN:X.N.Nodup)(hi:X.N[i]?=some x)(hx:Loc X.env.scope x)(r:RelV v u)
  (h:∀s',Inv X Xe (σ.set i (some v)) H s'->Q () s') (hf:X.fn x=true\/X.env.scope.names.lookup x=some .local:=by first | exact .inl rfl | exact .inr rfl | assumption):wpAny M A (storeName X.env x u) Q E s:=
 store_ok2 I hN hi hx r (λs' I' z=>h s' I') hf
def Inv.call'(I:Inv X Xe σ H s)(ho:s'.os=s.os)(u:Un (frs X.stack) ch H H' s.heap s'.heap)(hok:HOk X.prog X.w H' s'.heap)(hg:AllBare s'.gens)
  (hch:∀b∈ch,(b∈X.ex\/X.s₀.heap.objs.size<=b)/\b≠X.env.locals/\(∀x c,X.env.cells.lookup x=some c->c≠b)/\∀p∈X.pn++Xe,p.1≠b):Inv X Xe σ H' s':=by
 obtain⟨h',g',d',t',o'⟩:=s';have e:o'=s.os:=ho;subst e;exact I.call (g':=g') (t':=t') (d':=d') u hok hg hch
end
abbrev XK:=Value->Option Addr->Hp->Prop
abbrev St:=List (Option V)
abbrev VK:=V->Hp->Prop
abbrev TE:=St->Hp->VK->Prop
abbrev TT:=St->Hp->(Bool->Hp->Prop)->Prop
abbrev TA:=St->Hp->(List V->Hp->Prop)->Prop
structure Ends where
 nx:St->Hp->Prop
 rt:VK
 bk:St->Hp->Prop:=λ_ _=>False
 ct:St->Hp->Prop:=λ_ _=>False
abbrev TS:=Ends->St->Hp->Prop
def EP(X:Cx)(Xe:List (Addr×Obj))(σ:St)(Q:VK)(u:Value)(s':Shared):Prop:=∃v H',Inv X Xe σ H' s'/\RelV v u/\Q v H'
def TP(X:Cx)(Xe:List (Addr×Obj))(σ:St)(Q:Bool->Hp->Prop)(b:Bool)(s':Shared):Prop:=∃H',Inv X Xe σ H' s'/\Q b H'
def AP(X:Cx)(Xe:List (Addr×Obj))(σ:St)(Q:List V->Hp->Prop)(us:List Value)(s':Shared):Prop:=∃vs H',Inv X Xe σ H' s'/\Vals vs us/\Q vs H'
def SP(X:Cx)(Xe:List (Addr×Obj))(D:Ends)(f:Flow)(s':Shared):Prop:=
 match f with
 |.next=>∃σ' H',Inv X Xe σ' H' s'/\D.nx σ' H'
 |.brk=>∃σ' H',Inv X Xe σ' H' s'/\D.bk σ' H'
 |.cont=>∃σ' H',Inv X Xe σ' H' s'/\D.ct σ' H'
 |.ret u=>∃v σ' H',Inv X Xe σ' H' s'/\RelV v u/\D.rt v H'
def PE(X:Cx)(e:Expr)(t:TE):Prop:=
 ∀(Xe:List (Addr×Obj)) (s:Shared) (σ:St) (H:Hp) (Q:VK),Inv X Xe σ H s->t σ H Q->wpAny (model X.prog X.w) X.A (eval e X.env) (EP X Xe σ Q) X.xe s
def PT(X:Cx)(e:Expr)(t:TT):Prop:=
 ∀(Xe:List (Addr×Obj)) (s:Shared) (σ:St) (H:Hp) (Q:Bool->Hp->Prop),Inv X Xe σ H s->t σ H Q->wpAny (model X.prog X.w) X.A (isTrue e X.env (eval e X.env)) (TP X Xe σ Q) X.xe s
def PW(X:Cx)(e:Expr)(t:TT):Prop:=
 ∀(whole:Sem Value) (Xe:List (Addr×Obj)) (s:Shared) (σ:St) (H:Hp) (Q:Bool->Hp->Prop),Inv X Xe σ H s->t σ H Q->wpAny (model X.prog X.w) X.A (isTrue e X.env whole) (TP X Xe σ Q) X.xe s
def PW.pt(h:PW X e t):PT X e t:=h _
def PA(X:Cx)(es:List Expr)(t:TA):Prop:=
 ∀(pos:Pos) (Xe:List (Addr×Obj)) (s:Shared) (σ:St) (H:Hp) (Q:List V->Hp->Prop),Inv X Xe σ H s->t σ H Q->wpAny (model X.prog X.w) X.A (spliced (backTo pos (starEach es X.env))) (AP X Xe σ Q) X.xe s
def PS(X:Cx)(st:Stmt)(t:TS):Prop:=
 ∀(Xe:List (Addr×Obj)) (s:Shared) (σ:St) (H:Hp) (D:Ends),Inv X Xe σ H s->t D σ H->wpAny (model X.prog X.w) X.A (exec st X.env) (SP X Xe D) X.xe s
def PSs(X:Cx)(st:List Stmt)(t:TS):Prop:=
 ∀(Xe:List (Addr×Obj)) (s:Shared) (σ:St) (H:Hp) (D:Ends),Inv X Xe σ H s->t D σ H->wpAny (model X.prog X.w) X.A (execs st X.env) (SP X Xe D) X.xe s
def thn(h:wpAny M A t Q E s)(hQ:∀a s,Q a s->Q' a s):wpAny M A t Q' E s:=Tp h hQ λz z x=>x
open PySem PySem.Spec PyProof.Rows
section
variable{X:Cx}
def bin(ha:PE X a ta)(hb:PE X b tb){Xe:List (Addr×Obj)}{R:V->V->Hp->Prop}(I:Inv X Xe σ H s)(h:ta σ H λx H1=>tb σ H1 λy H2=>R x y H2)
  {α:Type}{Q:α->Shared->Prop}{f:Value->Value->Sem α}
  (hf:∀v u s2 x y H2,Inv X Xe σ H2 s2->RelV x v->RelV y u->R x y H2->wpAny (model X.prog X.w) X.A (f v u) Q X.xe s2) :
  wpAny (model X.prog X.w) X.A (eval a X.env) (λv s₁=>wpAny (model X.prog X.w) X.A (eval b X.env) (λu s₂=>wpAny (model X.prog X.w) X.A (f v u) Q X.xe s₂) X.xe s₁) X.xe s:=by
 refine thn (ha Xe s σ H _ I h) λv s1 ⟨x,H1,I1,r1,q1⟩=>?_
 refine thn (hb Xe s1 σ H1 _ I1 q1) λu s2 ⟨y,H2,I2,r2,q2⟩=>?_
 exact hf v u s2 x y H2 I2 r1 r2 q2
def tVar(i:Nat):TE:=λσ H Q=>∃v,σ[i]?=some (some v)/\Q v H
def tC(v:V):TE:=λz H Q=>Q v H
def pe_var(hN:X.N[i]?=some x)(hv:Vis X.env.scope x)(hd:(x==("__debug__":Str))=false:=by decide)(hcd:(x==("__classdict__":Str))=false:=by decide):PE X (.Name x pos) (tVar i):=by
 intro Xe s σ H Q I h;obtain⟨v,e,h⟩:=h;obtain⟨m,hn,hl⟩:=I.loc;obtain⟨u,r,l⟩:=hl i x v hN e hv;have fin:EP X Xe σ Q u s:=⟨v,H,I,r,h⟩;rcases l with ⟨hk,hm⟩ | ⟨hk,c,hc,hcell⟩
 ·exact wpAny_Name (wpAny_loadName_local I.ok.kind hk hn hm fin) hd
 ·rcases hk with hk | hk
  ·exact wpAny_Name (wpAny_loadName_cell I.ok.kind hk hc hcell fin) hd
  ·exact wpAny_Name (wpAny_loadName_free I.ok.kind hk hc hcell fin hcd) hd
def pe_int{i j pos}:PE X (.Constant (.int i) j pos) (tC (.int i)):=λz z z H z I h=>wpAny_Constant_int ⟨.int i,H,I.tok _,⟨_,rfl⟩,h⟩
def pe_bl{b j pos}:PE X (.Constant (.bool b) j pos) (tC (.bl b)):=λz z z H z I h=>Constant_bool ⟨.bl b,H,I,rfl,h⟩
def pe_non{j pos}:PE X (.Constant .none j pos) (tC .non):=λz z z H z I h=>Constant_none ⟨.non,H,I,rfl,h⟩
def pe_str{x j pos}:PE X (.Constant (.str x) j pos) (tC (.str x)):=λz z z H z I h=>Calls.Constant_str ⟨.str x,H,I.tok _,⟨_,rfl⟩,h⟩
def Gl(X:Cx)(x:Str):Prop:=X.env.kindOf x=some .globalImplicit
def ld_glob(I:Inv X Xe σ H s)(hg:Gl X x)(hm:X.mg x=some u)(h:Q u s)
  (hd:(x==("__debug__":Str))=false:=by decide):wpAny (model X.prog X.w) X.A (eval (.Name x pos) X.env) Q E s:=
 V6 I.ok.kind hg (Calls.loadGlobal_global (by rw[I.ok.glob];exact I.mod.glob.keeps I.bk) hm h) hd
def ld_blt(I:Inv X Xe σ H s)(hg:Gl X x)(hm:X.mg x=none)(hv:bootBuiltins x=some u)(h:Q u s)
  (hn:x≠"__name__":=by decide) (hd:(x==("__debug__":Str))=false:=by decide):wpAny (model X.prog X.w) X.A (eval (.Name x pos) X.env) Q E s:=by
 obtain⟨mb,h1,h2⟩:=I.mod.blt;exact V6 I.ok.kind hg (Calls.loadGlobal_builtin (by rw[I.ok.glob];exact I.mod.glob.keeps I.bk) hm (by rw[I.ok.blt];exact h1.keeps I.bk) ((h2 x hn).trans hv) h) hd
def pe_glob(hg:Gl X x)(hm:X.mg x=some u)(r:RelV v u)(hd:(x==("__debug__":Str))=false:=by decide):PE X (.Name x pos) (tC v):=
 λz z z H z I h=>ld_glob I hg hm ⟨v,H,I,r,h⟩ hd
def pe_bltn(hg:Gl X x)(hm:X.mg x=none)(hv:bootBuiltins x=some u)(r:RelV v u)(hn:x≠"__name__":=by decide)(hd:(x==("__debug__":Str))=false:=by decide):PE X (.Name x pos) (tC v):=
 λz z z H z I h=>ld_blt I hg hm hv ⟨v,H,I,r,h⟩ hn hd
variable{a b:Expr}{ta tb:TE}{pos:Pos}
variable{tA tB':TT}{rest:List Expr}
def tAnd(t u:TT):TT:=λσ H Q=>t σ H λc H1=>if c=true then u σ H1 Q else Q false H1
def tOr(t u:TT):TT:=λσ H Q=>t σ H λc H1=>if c=true then Q true H1 else u σ H1 Q
def tNot(t:TT):TT:=λσ H Q=>t σ H λc H1=>Q (!c) H1
def pw_and1(ha:PT X a tA):PW X (.BoolOp .And [a] pos) tA:=by
 intro wh Xe s σ H Q I h;refine isTrue_and (thn (ha Xe s σ H Q I h) λc s1 e=>?_)
 cases c with
 |true=>exact isTrue_and_nil e
 |false=>exact e
def pw_or1(ha:PT X a tA):PW X (.BoolOp .Or [a] pos) tA:=by
 intro wh Xe s σ H Q I h;refine isTrue_or (thn (ha Xe s σ H Q I h) λc s1 e=>?_)
 cases c with
 |false=>exact isTrue_or_nil e
 |true=>exact e
def pw_and(ha:PT X a tA)(hb:PW X (.BoolOp .And (b::rest) pos) tB'):PW X (.BoolOp .And (a::b::rest) pos) (tAnd tA tB'):=by
 intro wh Xe s σ H Q I h;refine isTrue_and (thn (ha Xe s σ H _ I h) λc s1 ⟨H1,I1,q1⟩=>?_)
 cases c with
 |true=>exact hb wh Xe s1 σ H1 Q I1 q1
 |false=>exact⟨H1,I1,q1⟩
def pw_or(ha:PT X a tA)(hb:PW X (.BoolOp .Or (b::rest) pos) tB'):PW X (.BoolOp .Or (a::b::rest) pos) (tOr tA tB'):=by
 intro wh Xe s σ H Q I h;refine isTrue_or (thn (ha Xe s σ H _ I h) λc s1 ⟨H1,I1,q1⟩=>?_)
 cases c with
 |true=>exact⟨H1,I1,q1⟩
 |false=>exact hb wh Xe s1 σ H1 Q I1 q1
def pt_not(ha:PT X a tA):PT X (.UnaryOp .Not a pos) (tNot tA):=by intro Xe s σ H Q I h;exact isTrue_not (ha Xe s σ H (λc H1=>Q (!c) H1) I h)
def tAndV(ta tb:TE):TE:=λσ H Q=>ta σ H λx H1=>∃c,x=.bl c/\if c=true then tb σ H1 Q else Q (.bl false) H1
def tNotV(ta:TE):TE:=λσ H Q=>ta σ H λx H1=>∃c,x=.bl c/\Q (.bl (!c)) H1
def pe_one{op}(h:PE X a t):PE X (.BoolOp op [a] pos) t:=λXe s σ H Q I hw=>BoolOp_one (h Xe s σ H Q I hw)
def pe_and(ha:PE X a ta)(hb:PE X (.BoolOp .And (b::rest) pos) tb):PE X (.BoolOp .And (a::b::rest) pos) (tAndV ta tb):=by
 intro Xe s σ H Q I h;refine BoolOp_and (thn (ha Xe s σ H _ I h) λv s1 ⟨x,H1,I1,r1,q1⟩=>?_)
 obtain⟨c,rfl,q1⟩:=q1;cases r1;refine Ua ?_;cases c with
 |true=>exact hb Xe s1 σ H1 Q I1 q1
 |false=>exact⟨.bl false,H1,I1,rfl,q1⟩
def pe_not(ha:PE X a ta):PE X (.UnaryOp .Not a pos) (tNotV ta):=by
 intro Xe s σ H Q I h;refine UnaryOp_ (thn (ha Xe s σ H _ I h) λv s1 ⟨x,H1,I1,r1,q1⟩=>?_)
 obtain⟨c,rfl,q1⟩:=q1;cases r1;exact not_of (Ua ⟨.bl (!c),H1,I1,rfl,q1⟩)
def tIf(t:TT)(ta tb:TE):TE:=λσ H Q=>t σ H λc H1=>if c=true then ta σ H1 Q else tb σ H1 Q
def pe_ifExp(hc:PT X c tA)(ha:PE X a ta)(hb:PE X b tb):PE X (.IfExp c a b pos) (tIf tA ta tb):=by
 intro Xe s σ H Q I h;refine wpAny_IfExp (thn (hc Xe s σ H _ I h) λd s1 ⟨H1,I1,q1⟩=>?_)
 cases d with
 |true=>exact ha Xe s1 σ H1 Q I1 q1
 |false=>exact hb Xe s1 σ H1 Q I1 q1
end
open PySem PySem.Spec PyProof.Rows
def SqL(K:PySem.W.Frag)(H:Hp)(a:Addr)(xs:List V):Prop:=
 Rd H a (.lst xs) \/
  ∃(o:Obj) (its:Array Value) (n:Nat),K.lookup a=some o/\o.cls=.type "list"/\o.dict=none/\o.data=.seq its n/\its.size<=sizeLine/\Vals xs its.toList
def SqT(K:PySem.W.Frag)(H:Hp)(a:Addr)(xs:List V):Prop:=
 Rd H a (.tup xs) \/
  ∃(o:Obj) (its:Array Value) (n:Nat),K.lookup a=some o/\o.cls=.type "tuple"/\o.data=.seq its n/\its.size<=sizeLine/\Vals xs its.toList
def absV:Value->Option V
 |.none=>some .non
 |.bool b=>some (.bl b)
 |.int i _=>some (.int i)
 |.str x _=>some (.str x)
 |.bytes b _=>some (.byt b)
 |.float b _=>some (.flt b)
 |.ref a=>some (.ref a)
 |.type n=>some (.ty n)
 |_=>none
def RelV.abs(r:RelV x u):absV u=some x:=by
 cases x with
 |non=>cases r;rfl
 |bl _=>cases r;rfl
 |int _=>obtain⟨t,rfl⟩:=r;rfl
 |str _=>obtain⟨t,rfl⟩:=r;rfl
 |byt _=>obtain⟨t,rfl⟩:=r;rfl
 |flt _=>obtain⟨t,rfl⟩:=r;rfl
 |ref _=>cases r;rfl
 |ty _=>cases r;rfl
def RelV.inj(r:RelV x u)(q:RelV y u):x=y:=Tf (r.abs.symm.trans q.abs)
theorem Vals.inj:∀{xs ys:List V}{us:List Value},Vals xs us->Vals ys us->xs=ys
 |_,_,_,.nil,.nil=>rfl
 |_,_,_,.cons r t,.cons r' t'=>by rw[r.inj r',Vals.inj t t']
section
variable{X:Cx}{Xe:List (Addr×Obj)}{σ:St}{H:Hp}{s:Shared}{a:Addr}{xs ys:List V}
def SqL.of{K:PySem.W.Frag}(h:H a=some (.lst xs)):SqL K H a xs:=.inl (.inl h)
def SqT.of{K:PySem.W.Frag}(h:H a=some (.tup xs)):SqT K H a xs:=.inl (.inl h)
def Inv.list(I:Inv X Xe σ H s)(h:SqL X.K H a xs):∃its:List Value,Vals xs its/\PlainL s.heap a its.toArray/\xs.length<=sizeLine:=by
 rcases h with h | ⟨o,its,n,hk,hc,hd,hs,hz,r⟩
 ·obtain⟨z,its,n,r,e⟩:=h.ok I.hok;exact⟨its,r,⟨_,n,e,rfl,rfl,rfl⟩,z⟩
 ·refine⟨its.toList,r,⟨o,n,I.kIn a o hk,hc,hd,by simpa using hs⟩,?_⟩
  have e:=r.length;simp only[Array.length_toList]at e;omega
def Inv.tuple(I:Inv X Xe σ H s)(h:SqT X.K H a xs):∃its:List Value,Vals xs its/\IsTup s.heap a its.toArray/\xs.length<=sizeLine:=by
 rcases h with h | ⟨o,its,n,hk,hc,hs,hz,r⟩
 ·obtain⟨z,its,r,p⟩:=h.ok I.hok;exact⟨its,r,p,z⟩
 ·refine⟨its.toList,r,⟨o,I.kIn a o hk,hc,n,by simpa using hs⟩,?_⟩
  have e:=r.length;simp only[Array.length_toList]at e;omega
def Inv.list_inj(I:Inv X Xe σ H s)(h:SqL X.K H a xs)(h':SqL X.K H a ys):xs=ys:=by
 obtain⟨its,r,⟨o,n,e,_,_,d⟩,_⟩:=I.list h;obtain⟨its',r',⟨o',n',e',_,_,d'⟩,_⟩:=I.list h';rw[e]at e';cases e';rw[d]at d';injection d' with d1 _
 have:its=its':=by simpa using congrArg Array.toList d1
 subst this;exact r.inj r'
def Inv.tuple_inj(I:Inv X Xe σ H s)(h:SqT X.K H a xs)(h':SqT X.K H a ys):xs=ys:=by
 obtain⟨its,r,⟨o,e,_,n,d⟩,_⟩:=I.tuple h;obtain⟨its',r',⟨o',e',_,n',d'⟩,_⟩:=I.tuple h';rw[e]at e';cases e';rw[d]at d';injection d' with d1 _
 have:its=its':=by simpa using congrArg Array.toList d1
 subst this;exact r.inj r'
end
section
variable{X:Cx}{st:Stmt}{rest:List Stmt}{t u:TS}{e:Expr}{te:TE}{pos:Pos}
def tNext:TS:=λD σ H=>D.nx σ H
def tSeq(t u:TS):TS:=λD σ H=>t { D with nx:=u D } σ H
def pss_nil:PSs X [] tNext:=λ_ _ σ H _ I h=>Wc ⟨σ,H,I,h⟩
def pss_cons(h1:PS X st t)(h2:PSs X rest u):PSs X (st::rest) (tSeq t u):=by
 intro Xe s σ H D I h;refine wpAny_execs_cons (thn (h1 Xe s σ H { D with nx:=u D } I h) λf s1 q=>?_)
 cases f with
 |next=>obtain⟨σ',H',I',q⟩:=q;exact h2 Xe s1 σ' H' D I' q
 |ret v=>exact q
 |brk=>exact q
 |cont=>exact q
def pss_one(h1:PS X st t):PSs X [st] t:=by
 intro Xe s σ H D I h;refine wpAny_execs_cons (thn (h1 Xe s σ H D I h) λf s1 q=>?_)
 cases f with
 |next=>exact Wc q
 |ret v=>exact q
 |brk=>exact q
 |cont=>exact q
def Inv.quiet(I:Inv X Xe σ H s):interactive X.env=false:=by simp[interactive,I.ok.kind]
def tDrop(te:TE):TS:=λD σ H=>te σ H λz H1=>D.nx σ H1
def ps_expr(he:PE X e te)(hs:swapsWith e none pos.line X.env=pure false:=by rfl):PS X (.Expr e pos) (tDrop te):=by intro Xe s σ H D I h;exact wpAny_Expr_any (thn (he Xe s σ H _ I h) λv s1 ⟨x,H1,I1,r1,q1⟩=>⟨σ,H1,I1,q1⟩) I.quiet hs
def tRet(te:TE):TS:=λD σ H=>te σ H D.rt
def ps_ret(he:PE X e te):PS X (.Return (some e) pos) (tRet te):=by intro Xe s σ H D I h;exact wpAny_Return_some (thn (he Xe s σ H _ I h) λv s1 ⟨x,H1,I1,r1,q1⟩=>⟨x,σ,H1,I1,r1,q1⟩)
def tIfS(c:TT)(t u:TS):TS:=λD σ H=>c σ H λb H1=>if b=true then t D σ H1 else u D σ H1
def ps_if(hc:PT X c tc)(ha:PSs X a t)(hb:PSs X b u):PS X (.If c a b pos) (tIfS tc t u):=by
 intro Xe s σ H D I h;refine wpAny_If (thn (hc Xe s σ H _ I h) λd s1 ⟨H1,I1,q1⟩=>?_)
 cases d with
 |true=>exact ha Xe s1 σ H1 D I1 q1
 |false=>exact hb Xe s1 σ H1 D I1 q1
end
abbrev TG:=V->St->Hp->(St->Hp->Prop)->Prop
abbrev TGs:=List V->St->Hp->(St->Hp->Prop)->Prop
def PG(X:Cx)(target:Expr)(t:TG):Prop:=
 ∀(Xe:List (Addr×Obj)) (s:Shared) (σ:St) (H:Hp) (v:V) (u:Value) (Q:St->Hp->Prop),Inv X Xe σ H s->RelV v u->t v σ H Q->
   wpAny (model X.prog X.w) X.A (assign target X.env u) (λz s'=>∃σ' H',Inv X Xe σ' H' s'/\Q σ' H') X.xe s
def PGs(X:Cx)(ts:List Expr)(t:TGs):Prop:=
 ∀(Xe:List (Addr×Obj)) (s:Shared) (σ:St) (H:Hp) (vs:List V) (us:List Value) (Q:St->Hp->Prop),Inv X Xe σ H s->Vals vs us->t vs σ H Q->
   wpAny (model X.prog X.w) X.A (assignInOrder ((assignEach ts X.env).map (·.2)) us) (λz s'=>∃σ' H',Inv X Xe σ' H' s'/\Q σ' H') X.xe s
abbrev TSet:=V->V->V->Hp->(Hp->Prop)->Prop
def PSet(X:Cx)(t:TSet):Prop:=
 ∀(Xe:List (Addr×Obj)) (s:Shared) (σ:St) (H:Hp) (o i v:V) (ov iv u:Value) (Q:Hp->Prop),Inv X Xe σ H s->RelV o ov->RelV i iv->RelV v u->t o i v H Q->
   wpAny (model X.prog X.w) X.A (setItem ov iv u) (λz s'=>∃H',Inv X Xe σ H' s'/\Q H') X.xe s
abbrev TIp:=V->V->Hp->VK->Prop
def PIp(X:Cx)(op:Operator)(t:TIp):Prop:=
 ∀(Xe:List (Addr×Obj)) (s:Shared) (σ:St) (H:Hp) (x y:V) (v u:Value) (Q:VK),Inv X Xe σ H s->RelV x v->RelV y u->t x y H Q->
   wpAny (model X.prog X.w) X.A (inplaceOp op v u) (EP X Xe σ Q) X.xe s
section
variable{X:Cx}{pos:Pos}
def gName(i:Nat):TG:=λv σ H Q=>Q (σ.set i (some v)) H
def pg_name(hN:X.N.Nodup)(hi:X.N[i]?=some x)(hx:Loc X.env.scope x)(hf:X.fn x=true\/X.env.scope.names.lookup x=some .local:=by first | exact .inl rfl | exact .inr rfl | assumption):PG X (.Name x pos) (gName i):=by intro Xe s σ H v u Q I r h;exact wpAny_assign_Name (store_ok I hN hi hx r (λs' I'=>⟨_,H,I',h⟩) hf)
def gNil:TGs:=λvs σ H Q=>vs=[]/\Q σ H
def gCons(t:TG)(u:TGs):TGs:=λvs σ H Q=>∃v r,vs=v::r/\t v σ H λσ' H'=>u r σ' H' Q
def pgs_nil:PGs X [] gNil:=by intro Xe s σ H vs us Q I r h;obtain⟨e,h⟩:=h;subst e;cases r;exact assignInOrder_nil ⟨σ,H,I,h⟩
def pgs_cons(h1:PG X e t)(h2:PGs X es u)
  (hs:(assignEach (e::es) X.env).map (·.2)=assign e X.env::(assignEach es X.env).map (·.2):=by rfl):PGs X (e::es) (gCons t u):=by
 intro Xe s σ H vs us Q I r h;obtain⟨v,vr,e1,h⟩:=h;subst e1;cases r with
 |cons r rr=>
   rw[hs];refine Vp (thn (h1 Xe s σ H _ _ _ I r h) λ_ s1 ⟨σ1,H1,I1,q1⟩=>?_)
   exact h2 Xe s1 σ1 H1 _ _ Q I1 rr q1
def gTup(K:PySem.W.Frag)(n:Nat)(t:TGs):TG:=λv σ H Q=>∃a xs,v=.ref a/\SqT K H a xs/\xs.length=n/\t xs σ H Q
def pg_tup(hc:X.calm=true)(h:PGs X es t)
  (hn:(assignEach es X.env).length=n:=by rfl) (hst:(assignEach es X.env).findIdx? (·.1)=none:=by rfl):PG X (.Tuple es k pos) (gTup X.K n t):=by
 intro Xe s σ H v u Q I r hw;obtain⟨a,xs,e1,hq,hl,hw⟩:=hw;subst e1;cases r;obtain⟨its,rv,ht,hz⟩:=I.tuple hq;refine assign_Tuple_tuple (I.ok.hd hc) ht (by simp[hn,<-hl,rv.length]) hst λh' hx=>?_
 have I1:Inv X Xe σ H { s with heap:=h' }:=I.kept (t':=s.toks) λb o e=>hx b o (Tv (S8 e)) e
 exact h Xe _ σ H xs _ Q I1 (by simpa using rv) hw
def gSub(to ti:TE)(t:TSet):TG:=λv σ H Q=>to σ H λo H1=>ti σ H1 λi H2=>t o i v H2 λH3=>Q σ H3
def pg_sub(ho:PE X o to)(hi:PE X i ti)(hs:PSet X t)
  (ha:∀v,assign (.Subscript o i pos) X.env v=(do
    let ov <-holding [v] (eval o X.env)
    let iv <-holding [v,ov] (eval i X.env)
    standAt pos
    holding [v,ov,iv] (setItem ov iv v)
    release [v,ov,iv] []):=by intro _;rfl):PG X (.Subscript o i pos) (gSub to ti t):=by
 intro Xe s σ H v u Q I r h;rw[ha];refine SQ (Ub (thn (ho Xe s σ H _ I h) λov s1 ⟨x,H1,I1,r1,q1⟩=>?_))
 refine SQ (Ub (thn (hi Xe s1 σ H1 _ I1 q1) λiv s2 ⟨y,H2,I2,r2,q2⟩=>?_))
 refine SQ (VF (SQ (Ub (thn (hs Xe s2 σ H2 x y v ov iv u _ I2 r1 r2 r q2) λ_ s3 ⟨H3,I3,q3⟩=>?_))))
 exact wpAny_release ⟨σ,H3,I3,q3⟩
def tAsg(te:TE)(g:TG):TS:=λD σ H=>te σ H λx H1=>g x σ H1 D.nx
def ps_asg(he:PE X e te)(hg:PG X tg g)(hs:swapsWithSole [tg] e pos.line X.env=pure false:=by rfl)(hw:swappedStores [tg] e X.env=pure none:=by rfl)
  (h1:(assignEach [tg] X.env).map (·.2)=[assign tg X.env]:=by rfl):PS X (.Assign [tg] e pos) (tAsg te g):=by
 intro Xe s σ H D I h;refine wpAny_Assign_stores (thn (he Xe s σ H _ I h) λv s1 ⟨x,H1,I1,r1,q1⟩=>?_) hs hw
 rw[h1];exact thn (hg Xe s1 σ H1 x v _ I1 r1 q1) λz s2 q=>q
def ps_set(hN:X.N.Nodup)(hi:X.N[i]?=some x)(hx:Loc X.env.scope x)(he:PE X e te)(hs:swapsWith e (some (.Name x pos')) pos.line X.env=pure false:=by rfl)(hf:X.fn x=true\/X.env.scope.names.lookup x=some .local:=by first | exact .inl rfl | exact .inr rfl | assumption):
  PS X (.Assign [.Name x pos'] e pos) (tAsg te (gName i)):=by
 intro Xe s σ H D I h;refine wpAny_Assign_Name (thn (he Xe s σ H _ I h) λv s1 ⟨y,H1,I1,r1,q1⟩=>?_) hs
 exact store_ok I1 hN hi hx r1 (λs2 I2=>⟨_,H1,I2,q1⟩) hf
def tPar(i j:Nat)(ta:TA):TS:=λD σ H=>ta σ H λvs H1=>∃v w,vs=[v,w]/\D.nx ((σ.set i (some v)).set j (some w)) H1
def ps_par{kt k2 pt2}(hc:X.calm=true)(hN:X.N.Nodup)(hi:X.N[i]?=some x)(hj:X.N[j]?=some y)(hij:i≠j)
  (hx:X.env.scope.names.lookup x=some .local) (hy:X.env.scope.names.lookup y=some .local) (ha:PA X [a,b] ta)
  (hw:swappedStores [.Tuple [.Name x px,.Name y py] kt pt] (.Tuple [a,b] k2 pt2) X.env=pure (some [x,y]))
  (hs:swapsWithSole [.Tuple [.Name x px,.Name y py] kt pt] (.Tuple [a,b] k2 pt2) pos.line X.env=pure false:=by rfl) :
  PS X (.Assign [.Tuple [.Name x px,.Name y py] kt pt] (.Tuple [a,b] k2 pt2) pos) (tPar i j ta):=by
 intro Xe s σ H D I h;rw[exec_Assign_arm];refine SQ (VF ?_);rw[hs];refine SQ (S6 ?_);rw[Tq (by decide)]
 refine SQ (Tuple_ (thn (ha _ Xe s σ H _ I h) λus s1 ⟨vs,H1,I1,r1,q1⟩=>?_))
 obtain⟨v,w,e1,q1⟩:=q1;subst e1;obtain ⟨u1,u2,rfl,rv,rw'⟩:∃ u1 u2,us=[u1,u2]/\RelV v u1/\RelV w u2:=by
  cases r1 with
  | cons p q=>
    cases q with
    |cons p' q'=>cases q';exact⟨_,_,rfl,p,p'⟩
 refine UV ?_ (by show 2<=sizeLine;decide)
 have I2:Inv X Xe σ H1 { s1 with heap:=s1.heap.push { cls:=.type "tuple",data:=.seq [u1,u2].toArray } }:=I1.kept (t':=s1.toks) λb o e=>SX _ e
 rw[hw];refine SQ (S6 ?_);show wpAny (model X.prog X.w) X.A (do rule "assign.swapped-stores";let items <-unpackItems (.ref s1.heap.objs.size) 2 none;assignInOrder [λv=>bindName X.env y v,λv=>bindName X.env x v] items.reverse;pure Flow.next) _ _ _
 refine SQ (V4 (SQ (unpackItems_tuple (items:=#[u1,u2]) (I.ok.hd hc) (W6 s1.heap _) λh' hx'=>?_)))
 have I3:=I2.kept (h':=h') (t':=s1.toks) λb o e=>hx' b o (Tv (S8 e)) e
 show wpAny _ _ (assignInOrder [λv=>bindName X.env y v,λv=>bindName X.env x v] [u2,u1]>>=λz=>pure Flow.next) _ _ _
 refine SQ (Vp (Wl (store_ok I3 hN hj (.inl hy) rw' (λs2 I4=>?_) (.inr hy))))
 refine Vp (Wl (store_ok I4 hN hi (.inl hx) rv (λs3 I5=>assignInOrder_nil (S6 ?_)) (.inr hx)))
 rw[List.set_comm _ _ (Ne.symm hij)]at I5;exact⟨_,H1,I5,q1⟩
def tAugS(to ti te:TE)(tget:V->V->Hp->VK->Prop)(tip:TIp)(tset:TSet):TS:=λD σ H=>to σ H λo H1=>ti σ H1 λi H2=>tget o i H2 λx H3=>te σ H3 λy H4=>tip x y H4 λz H5=>tset o i z H5 λH6=>D.nx σ H6
def PGet(X:Cx)(t:V->V->Hp->VK->Prop):Prop:=
 ∀(Xe:List (Addr×Obj)) (s:Shared) (σ:St) (H:Hp) (o i:V) (ov iv:Value) (Q:VK),Inv X Xe σ H s->RelV o ov->RelV i iv->t o i H Q->
   wpAny (model X.prog X.w) X.A (getItem ov iv) (EP X Xe σ Q) X.xe s
def ps_augS(ho:PE X o to)(hi:PE X i ti)(hg:PGet X tget)(he:PE X e te)(hp:PIp X op tip)(hs:PSet X tset)
  (ha:∀ov iv new,augStore i ov iv new=(do holding [new,ov,iv] (setItem ov iv new);release [new,ov,iv] [];pure .next):=by intros;rfl):PS X (.AugAssign (.Subscript o i tpos) op e pos) (tAugS to ti te tget tip tset):=by
 intro Xe s σ H D I h;refine wpAny_AugAssign_SubscriptAny (thn (ho Xe s σ H _ I h) λov s1 ⟨x1,H1,I1,r1,q1⟩=>?_) ha
 refine thn (hi Xe s1 σ H1 _ I1 q1) λiv s2 ⟨x2,H2,I2,r2,q2⟩=>?_
 refine thn (hg Xe s2 σ H2 x1 x2 ov iv _ I2 r1 r2 q2) λold s3 ⟨x3,H3,I3,r3,q3⟩=>?_
 refine thn (he Xe s3 σ H3 _ I3 q3) λv s4 ⟨x4,H4,I4,r4,q4⟩=>?_
 refine thn (hp Xe s4 σ H4 x3 x4 old v _ I4 r3 r4 q4) λnew s5 ⟨x5,H5,I5,r5,q5⟩=>?_
 exact thn (hs Xe s5 σ H5 x1 x2 x5 ov iv new _ I5 r1 r2 r5 q5) λ_ s6 ⟨H6,I6,q6⟩=>⟨σ,H6,I6,q6⟩
end
section
variable{X:Cx}{pos:Pos}
def tWhile(c:TT)(tb:TS):TS:=λD σ H=>∃W:Nat->St->Hp->Prop,(∃m,W m σ H)/\∀m σ H,W m σ H->
 c σ H λb H1=>if b=true then ∃N:St->Hp->Prop,(∀σ' H',N σ' H'->∃m',m'<m/\W m' σ' H')/\tb { D with nx:=N,ct:=N,bk:=D.nx } σ H1 else D.nx σ H1
def ps_while(hp:PassesOwn (model X.prog X.w) X.A X.env X.xe)(hc:PT X c tc)(hb:PSs X body tb):PS X (.While c body [] pos) (tWhile tc tb):=by
 intro Xe s σ H D I h;obtain⟨W,⟨m0,w0⟩,turn⟩:=h;refine wpAny_While (codeAny_whileLoop (λn s'=>∃σ' H',Inv X Xe σ' H' s'/\W n σ' H') ?_ m0 ⟨σ,H,I,w0⟩)
 rintro n s1 ⟨σ1,H1,I1,w1⟩;refine Vq hp (thn (hc Xe s1 σ1 H1 _ I1 (turn n σ1 H1 w1)) λb s2 ⟨H2,I2,q2⟩=>?_)
 cases b with
 | true=>
   obtain⟨N,hN,q2⟩:=q2;rw[S7 rfl];refine Vq hp (thn (hb Xe s2 σ1 H2 _ I2 q2) λf s3 q3=>?_)
   cases f with
   |next=>obtain⟨σ3,H3,I3,n3⟩:=q3;obtain⟨m',hm,w3⟩:=hN σ3 H3 n3;exact⟨m',hm,σ3,H3,I3,w3⟩
   |cont=>obtain⟨σ3,H3,I3,n3⟩:=q3;obtain⟨m',hm,w3⟩:=hN σ3 H3 n3;exact⟨m',hm,σ3,H3,I3,w3⟩
   |brk=>exact q3
   |ret v=>exact q3
 |false=>rw[Tq Tw];exact Wc ⟨σ1,H2,I2,q2⟩
end
structure It where
 go:Nat->Hp->Prop
 yld:Nat->Hp->V->Hp->Prop
 stop:Nat->Hp->Prop
def FpOk(X:Cx)(Xe:List (Addr×Obj))(H:Hp)(b:Addr):Prop:=
 H b=none/\b≠X.env.locals/\b∉X.fs/\(b∈X.ex\/X.s₀.heap.objs.size<=b)/\(∀x c,X.env.cells.lookup x=some c->c≠b)/\∀p∈X.pn++Xe,p.1≠b
def Inv.fpOk(I:Inv X Xe σ H s)(hb:s.heap.objs.size<=b)(hn:H' b=none):FpOk X Xe H' b:=by
 refine⟨hn,Wf (Tj I.lt hb),I.nofs hb,.inr (T7 I.sz hb),λx c e z=>?_,λp hp z=>?_⟩
 ·obtain⟨v,q⟩:=I.cell x c e;exact absurd (Tj q.lt (by rw[z];exact hb)) (Va _)
 ·exact absurd (Tj (S8 (I.pin p hp).1) (by rw[z];exact hb)) (Va _)
structure Turn(P:Program)(w:World)(K:PySem.W.Frag)(tg:Expr)(J:It)(fp:List Addr)(it:Addr)(tn:Nat->Heap->Prop):Prop where
 mem:it∈fp
 obj:∀i h,tn i h->∀b∈fp,∃o,h.get? b=some o/\∀v,o.data≠.cell v
 keep:∀i h h',tn i h->(∀b∈fp,∀o,h.get? b=some o->h'.get? b=some o)->tn i h'
 item:∀(X:Cx),X.prog=P->X.w=w->X.K=K->X.calm=true->∀(i:Nat) (Xe:List (Addr×Obj)) (s:Shared) (σ:St) (H:Hp) (E:Value->Shared->Prop),Inv X Xe σ H s->(∀b∈fp,FpOk X Xe H b)->tn i s.heap->J.go i H->
  wpAny (model P w) X.A (pyNext (.ref it)) (λr s1=>∃u,r=some u /\
   wpAny (model P w) X.A (letOwnedTupleGo tg (.ref it) u) (λ_ s2=>∃x H',Inv X Xe σ H' s2/\RelV x u/\J.yld i H x H'/\tn (i+1) s2.heap/\∀b∈fp,H' b=none) E s1) E s
 done:∀(X:Cx),X.prog=P->X.w=w->X.K=K->X.calm=true->∀(i:Nat) (Xe:List (Addr×Obj)) (s:Shared) (σ:St) (H:Hp) (E:Value->Shared->Prop),Inv X Xe σ H s->(∀b∈fp,FpOk X Xe H b)->tn i s.heap->J.stop i H->
  wpAny (model P w) X.A (pyNext (.ref it)) (λr s1=>r=none/\Inv X Xe σ H s1) E s
 self:∀(A:Around) (i:Nat) (s:Shared) (Q:Value->Shared->Prop) (E:Value->Shared->Prop),tn i s.heap->Q (.ref it) s->wpAny (model P w) A (pyIter (.ref it)) Q E s
abbrev TI:=St->Hp->(It->Hp->Prop)->Prop
def PIE(X:Cx)(Xe:List (Addr×Obj))(σ:St)(tg:Expr)(R:It->Hp->Prop)(itv:Value)(s2:Shared):Prop:=
 ∃(it:Addr) (fp:List Addr) (tn:Nat->Heap->Prop) (J:It) (H':Hp),itv=.ref it/\Inv X Xe σ H' s2/\Turn X.prog X.w X.K tg J fp it tn/\tn 0 s2.heap/\(∀b∈fp,FpOk X Xe H' b)/\R J H'
def PI(X:Cx)(tg iter:Expr)(wi:TI):Prop:=
 ∀(Xe:List (Addr×Obj)) (s:Shared) (σ:St) (H:Hp) (R:It->Hp->Prop),Inv X Xe σ H s->wi σ H R->
   wpAny (model X.prog X.w) X.A (eval iter X.env) (λv s1=>wpAny (model X.prog X.w) X.A (pyIter v) (PIE X Xe σ tg R) X.xe s1) X.xe s
def go_of(ho:s.heap.get? it=some o)(hc:o.cls=.type n)(hd:o.data=.fields vs)
  (hn:["enumerate", "zip", "dict_itemiterator", "dict_reverseitemiterator", "odict_iterator", "itertools.zip_longest", "itertools.pairwise"].contains n=false) (hQ:Q () s):wpAny M A (letOwnedTupleGo tg (.ref it) u) Q E s:=by
 unfold letOwnedTupleGo;cases tg<;>first
  |exact S6 hQ
  | (cases u<;>first
      |exact S6 hQ
      | (refine wpAny_bind (wpAny_load ho ?_)
         rw[hc,hd];show wpAny M A (if (["enumerate", "zip", "dict_itemiterator", "dict_reverseitemiterator", "odict_iterator", "itertools.zip_longest", "itertools.pairwise"].contains n&&vs[0]?==some (rawInt _))=true then _ else _) Q E s
         rw[Tq (by intro h;rw[hn,Bool.false_and]at h;cases h)]
         exact S6 hQ))
def Itl(K:PySem.W.Frag)(a:Addr):It:=
 ⟨λi H=>∃xs x,SqL K H a xs/\xs[i]?=some x,λi H x H'=>H'=H/\∀xs,SqL K H a xs->xs[i]?=some x,λi H=>∃xs,SqL K H a xs/\xs.length<=i⟩
def Itt(K:PySem.W.Frag)(a:Addr):It:=
 ⟨λi H=>∃xs x,SqT K H a xs/\xs[i]?=some x,λi H x H'=>H'=H/\∀xs,SqT K H a xs->xs[i]?=some x,λi H=>∃xs,SqT K H a xs/\xs.length<=i⟩
def Itr(lo:Int)(n:Nat):It:=⟨λi z=>i<n,λi H x H'=>H'=H/\x=.int (lo+i),λi z=>n<=i⟩
def turn_list{P:Program}{w:World}{K:PySem.W.Frag}{tg:Expr}(a it:Addr):Turn P w K tg (Itl K a) [it] it (λi h=>h.IsListIter it a i) where
 mem:=by simp
 obj:=λi h st b hb=>by
  have e:b=it:=by simpa using hb
  subst e;obtain⟨o,e,c,d⟩:=st;exact⟨o,e,λv z=>by rw[d]at z;cases z⟩
 keep:=λi h h' st k=>st.at λo e=>k it (by simp) o e
 item:=by
  intro X hP hw hK hc i Xe s σ H E I hf st hg;subst hP hw hK;obtain⟨xs,x,hq,hx⟩:=hg;obtain⟨its,rv,p,hz⟩:=I.list hq;obtain⟨u,hu,ru⟩:=rv.get hx;obtain⟨f0,f1,f2,f3,f4,f5⟩:=hf it (by simp)
  refine wpAny_pyNext_list_item st p.isList (x:=u) (by simpa using hu) λh' st' sb=>?_
  have I1:Inv X Xe σ H { s with heap:=h' }:=I.turned (t':=s.toks) (λb o hb e=>(sb.2 b hb).trans e) f0 f1 f3 f4 f5
  obtain⟨o,e,c,d⟩:=id st';exact⟨u,rfl,go_of (s:={ s with heap:=h' }) e c d (by decide) ⟨x,H,I1,ru,⟨rfl,λys hy=>by rw[I.list_inj hy hq];exact hx⟩,st',λb hb=>(hf b hb).1⟩⟩
 done:=by
  intro X hP hw hK hc i Xe s σ H E I hf st hg;subst hP hw hK;obtain⟨xs,hq,hx⟩:=hg;obtain⟨its,rv,p,hz⟩:=I.list hq;obtain⟨f0,f1,f2,f3,f4,f5⟩:=hf it (by simp)
  have hl:=rv.length;exact wpAny_pyNext_list_end (I.ok.hd hc) st p.isList (by simp;omega) λh' eb=>⟨rfl,I.turned (t':=s.toks) (λb o hb e=>eb b o hb e) f0 f1 f3 f4 f5⟩
 self:=λy y y y y st h=>wpAny_pyIter_listiter st h
def turn_tuple{P:Program}{w:World}{K:PySem.W.Frag}{tg:Expr}(a it:Addr):Turn P w K tg (Itt K a) [it] it (λi h=>h.IsTupleIter it a i) where
 mem:=by simp
 obj:=λi h st b hb=>by
  have e:b=it:=by simpa using hb
  subst e;obtain⟨o,e,c,d⟩:=st;exact⟨o,e,λv z=>by rw[d]at z;cases z⟩
 keep:=λi h h' st k=>st.at λo e=>k it (by simp) o e
 item:=by
  intro X hP hw hK hc i Xe s σ H E I hf st hg;subst hP hw hK;obtain⟨xs,x,hq,hx⟩:=hg;obtain⟨its,rv,p,hz⟩:=I.tuple hq;obtain⟨u,hu,ru⟩:=rv.get hx;obtain⟨f0,f1,f2,f3,f4,f5⟩:=hf it (by simp)
  refine wpAny_pyNext_tuple_item st (show s.heap.IsTuple a its.toArray from p) (x:=u) (by simpa using hu) λh' st' sb=>?_
  have I1:Inv X Xe σ H { s with heap:=h' }:=I.turned (t':=s.toks) (λb o hb e=>(sb.2 b hb).trans e) f0 f1 f3 f4 f5
  obtain⟨o,e,c,d⟩:=id st';exact⟨u,rfl,go_of (s:={ s with heap:=h' }) e c d (by decide) ⟨x,H,I1,ru,⟨rfl,λys hy=>by rw[I.tuple_inj hy hq];exact hx⟩,st',λb hb=>(hf b hb).1⟩⟩
 done:=by
  intro X hP hw hK hc i Xe s σ H E I hf st hg;subst hP hw hK;obtain⟨xs,hq,hx⟩:=hg;obtain⟨its,rv,p,hz⟩:=I.tuple hq;obtain⟨f0,f1,f2,f3,f4,f5⟩:=hf it (by simp)
  have hl:=rv.length;exact wpAny_pyNext_tuple_end (I.ok.hd hc) st (show s.heap.IsTuple a its.toArray from p) (by simp;omega) λh' eb=>⟨rfl,I.turned (t':=s.toks) (λb o hb e=>eb b o hb e) f0 f1 f3 f4 f5⟩
 self:=λy y y y y st h=>wpAny_pyIter_tupleiter st h
def turn_range{P:Program}{w:World}{K:PySem.W.Frag}{tg:Expr}(it:Addr)(lo:Int)(n:Nat):Turn P w K tg (Itr lo n) [it] it (λi h=>IsRangeIter h it (lo + (i:Nat) * 1) ((n:Int) - (i:Nat)) 1) where
 mem:=by simp
 obj:=λi h st b hb=>by
  have e:b=it:=by simpa using hb
  subst e;exact⟨_,st,λv z=>by have z':Data.fields _=Data.cell v:=z;cases z'⟩
 keep:=λi h h' st k=>k it (by simp) _ st
 item:=by
  intro X hP hw hK hc i Xe s σ H E I hf st hg;subst hP hw hK;obtain⟨f0,f1,f2,f3,f4,f5⟩:=hf it (by simp)
  have W:=Walks.range (prog:=X.prog) (w:=X.w) (I.ok.hd hc) it lo 1 n;refine W.item i s _ _ hg st λv h' tk hv st' kk=>?_
  obtain⟨t,rfl⟩:=hv;have I1:Inv X Xe σ H { s with heap:=h',toks:=tk }:=I.turned (λb o hb e=>kk b o (by simpa using hb) e) f0 f1 f3 f4 f5
  refine⟨_,rfl,go_of (s:={ s with heap:=h',toks:=tk }) (n := "range_iterator") st' rfl rfl (by decide) ⟨.int (lo+i),H,I1,⟨t,?_⟩,⟨rfl,rfl⟩,st',λb hb=>(hf b hb).1⟩⟩
  rw[Int.mul_one]
 done:=by
  intro X hP hw hK hc i Xe s σ H E I hf st hg;subst hP hw hK;obtain⟨f0,f1,f2,f3,f4,f5⟩:=hf it (by simp)
  exact wpAny_pyNext_range_end (I.ok.hd hc) st (by have:n<=i:=hg;omega) λh' eb=>⟨rfl,I.turned (t':=s.toks) (λb o hb e=>eb b o hb e) f0 f1 f3 f4 f5⟩
 self:=λy y y y y st h=>wpAny_pyIter_rangeiter st h
open PySem PySem.Spec PyProof.Rows
section
variable{X:Cx}{tg:Expr}
def iList(K:PySem.W.Frag)(tl:TE):TI:=λσ H R=>tl σ H λx H1=>∃a,x=.ref a/\(∃xs,SqL K H1 a xs)/\R (Itl K a) H1
def iTup(K:PySem.W.Frag)(tl:TE):TI:=λσ H R=>tl σ H λx H1=>∃a,x=.ref a/\(∃xs,SqT K H1 a xs)/\R (Itt K a) H1
def pi_list{l:Expr}{tl:TE}(hl:PE X l tl):PI X tg l (iList X.K tl):=by
 intro Xe s σ H R I h;refine thn (hl Xe s σ H _ I h) λv s1 ⟨x,H1,I1,r1,q1⟩=>?_
 obtain⟨a,e,⟨xs,hq⟩,q⟩:=q1;subst e;cases r1;obtain⟨its,rv,p,hz⟩:=I1.list hq;refine Vk p.isList ?_;refine⟨s1.heap.objs.size,[s1.heap.objs.size],_,_,H1,rfl,I1.kept (t':=s1.toks) λb o e=>SX _ e,turn_list a _,⟨_,Tr _ rfl,rfl,rfl⟩,λb hb=>?_,q⟩
 have e:b=s1.heap.objs.size:=by simpa using hb
 subst e;exact I1.fpOk (Td _) (I1.hok.fresh (Td _))
def pi_tup{l:Expr}{tl:TE}(hl:PE X l tl):PI X tg l (iTup X.K tl):=by
 intro Xe s σ H R I h;refine thn (hl Xe s σ H _ I h) λv s1 ⟨x,H1,I1,r1,q1⟩=>?_
 obtain⟨a,e,⟨xs,hq⟩,q⟩:=q1;subst e;cases r1;obtain⟨its,rv,p,hz⟩:=I1.tuple hq;refine wpAny_pyIter_tuple (show s1.heap.IsTuple a its.toArray from p) ?_
 refine⟨s1.heap.objs.size,[s1.heap.objs.size],_,_,H1,rfl,I1.kept (t':=s1.toks) λb o e=>SX _ e,turn_tuple a _,⟨_,Tr _ rfl,rfl,rfl⟩,λb hb=>?_,q⟩
 have e:b=s1.heap.objs.size:=by simpa using hb
 subst e;exact I1.fpOk (Td _) (I1.hok.fresh (Td _))
def range_it{Xe:List (Addr×Obj)}{R:It->Hp->Prop}{E:Value->Shared->Prop}{lo hi:Int}{tk:Nat}(I:Inv X Xe σ H s)(h1:-(2^62)<=lo)(h2:lo<2^62)(h3:-(2^62)<=hi)(h4:hi<2^62)
  (q:R (Itr lo (hi-lo).toNat) H):wpAny (model X.prog X.w) X.A (pyIter (.ref s.heap.objs.size)) (PIE X Xe σ tg R) E { s with heap:=s.heap.push { cls:=.type "range",data:=.fields #[.int lo t,.int hi u,.int 1 v] },toks:=tk }:=by
 refine wpAny_pyIter_range (IsRange.new ..) (small_one h1 h2 h3 h4) ?_;have I1:Inv X Xe σ H { s with heap:=s.heap.push { cls:=.type "range",data:=.fields #[.int lo t,.int hi u,.int 1 v] },toks:=tk }:=I.kept λb o e=>SX _ e
 refine⟨(s.heap.push { cls:=.type "range",data:=.fields #[.int lo t,.int hi u,.int 1 v] }).objs.size,[(s.heap.push { cls:=.type "range",data:=.fields #[.int lo t,.int hi u,.int 1 v] }).objs.size],_,_,H,rfl,
  I1.kept (t':=tk) λb o e=>SX _ e,turn_range _ lo (hi-lo).toNat,?_,λb hb=>?_,q⟩
 ·have e1:lo+((0:Nat):Int)*1=lo:=by simp
  have e2:(((hi-lo).toNat:Nat):Int)-((0:Nat):Int)=Builtin.Range.rangeSize lo hi 1:=by rw[rangeSize_one];split<;>omega
  show IsRangeIter _ _ (lo+((0:Nat):Int)*1) ((((hi-lo).toNat:Nat):Int)-((0:Nat):Int)) 1;rw[e1,e2];exact Tr _ rfl
 ·have e:b=(s.heap.push { cls:=.type "range",data:=.fields #[.int lo t,.int hi u,.int 1 v] }).objs.size:=by simpa using hb
  subst e;exact I1.fpOk (Td _) (I1.hok.fresh (Td _))
def iRng1(ta:TA):TI:=λσ H R=>ta σ H λvs H1=>∃j:Int,vs=[.int j]/\-(2^62)<=j/\j<2^62/\R (Itr 0 j.toNat) H1
def pi_range1(hg:Gl X "range")(hm:X.mg "range"=none)(ha:PA X [a] ta)(hs:starEach [a] X.env=[(false,eval a X.env)]:=by rfl):PI X tg (.Call (.Name "range" p) [a] [] pos) (iRng1 ta):=by
 intro Xe s σ H R I h;refine Call_ (ld_blt I hg hm boot_range (Uz (thn (ha pos Xe s σ H _ I h) λus s1 ⟨vs,H1,I1,r1,q1⟩=>?_) hs rfl))
 obtain⟨j,e,q1,q2,q⟩:=q1;subst e;cases r1 with
 |cons r rr=>cases rr;obtain⟨t,rfl⟩:=r;exact call_range_1 (range_it I1 (by omega) (by omega) q1 q2 (by simpa using q))
def tFor(wi:TI)(g:TG)(tb:TS):TS:=λD σ H=>wi σ H λJ H1=>∃W:Nat->Nat->St->Hp->Prop,(∃m,W 0 m σ H1)/\∀i m σ H,W i m σ H->
 (J.stop i H/\D.nx σ H)\/(J.go i H/\∃N:St->Hp->Prop,(∀σ' H',N σ' H'->∃m',m'<m/\W (i+1) m' σ' H')/\∀x H',J.yld i H x H'->g x σ H' λσ2 H2=>tb { D with nx:=N,ct:=N,bk:=D.nx } σ2 H2)
def pinsAt(fp:List Addr)(h:Heap):List (Addr×Obj):=fp.filterMap λb=>(h.get? b).map λo=>(b,o)
def mem_pinsAt(hb:b∈fp)(e:h.get? b=some o):(b,o)∈pinsAt fp h:=List.mem_filterMap.mpr ⟨b,hb,by rw[e];rfl⟩
def of_pinsAt(hp:p∈pinsAt fp h):p.1∈fp/\h.get? p.1=some p.2:=by
 obtain⟨b,hb,e⟩:=List.mem_filterMap.mp hp;cases q:h.get? b with
 |none=>rw[q]at e;cases e
 |some o=>rw[q]at e;have e':(b,o)=p:=Tf e;subst e';exact⟨hb,q⟩
def Inv.pinned(I:Inv X Xe σ H s)(hf:∀b∈fp,FpOk X Xe H b)(ho:∀b∈fp,∃o,s.heap.get? b=some o/\∀v,o.data≠.cell v):Inv X (Xe++pinsAt fp s.heap) σ H s:=
 I.pins_of λp hp=>(T6.mp hp).elim (λz=>I.pin p (TQ _ z)) λz=>by obtain⟨hb,e⟩:=of_pinsAt z;obtain⟨f0,f1,f2,_⟩:=hf p.1 hb;obtain⟨o,e',d⟩:=ho p.1 hb;rw[e]at e';cases e';exact⟨e,f0,f1,f2,d⟩
def Inv.unpinned(I:Inv X (Xe++pl) σ H s):Inv X Xe σ H s:=I.pins_of λp hp=>I.pin p (TQ _ (Ud _ hp))
def ps_for(hp:PassesOwn (model X.prog X.w) X.A X.env X.xe)(hc:X.calm=true)(hi:PI X tg iter wi)(hg:PG X tg g)(hb:PSs X body tb)
  (hs:∀x,foldedSetIterable iter X.env x=pure x:=by intro _;rfl):PS X (.For tg iter body [] pos) (tFor wi g tb):=by
 intro Xe s σ H D I h;refine wpAny_For (thn (hi Xe s σ H _ I h) λv s1 h1=>thn h1 λitv s2 h2=>?_) hs
 obtain⟨it,fp,tn,J,H2,e,I2,T,st2,f2,W,⟨m0,w0⟩,turn⟩:=h2;subst e
 -- what stays true of the iterator's objects through the loop
 have stat:∀{H':Hp},(∀b∈fp,H' b=none)->∀b∈fp,FpOk X Xe H' b:=λhn b hb=>⟨hn b hb,(f2 b hb).2⟩
 refine codeAny_forLoop_any (λn s'=>∃i σ' H',Inv X Xe σ' H' s'/\tn i s'.heap/\(∀b∈fp,H' b=none)/\W i n σ' H') ?_ m0 ⟨0,σ,H2,I2,st2,λb hb=>(f2 b hb).1,w0⟩
 rintro n s3 ⟨i,σ3,H3,I3,st3,fr3,w3⟩;rcases turn i n σ3 H3 w3 with ⟨stop,qn⟩ | ⟨go,N,hN,step⟩
 ·refine Vq hp (thn (T.done X rfl rfl rfl hc i Xe s3 σ3 H3 X.xe I3 (stat fr3) st3 stop) λr s4 ⟨hr,I4⟩=>?_)
  subst hr;exact Wc ⟨σ3,H3,I4,qn⟩
 ·refine Vq hp (thn (T.item X rfl rfl rfl hc i Xe s3 σ3 H3 X.xe I3 (stat fr3) st3 go) λr s4 ⟨u,hr,h4⟩=>?_)
  subst hr;refine Vq hp (thn h4 λ_ s5 ⟨x,H5,I5,r5,y5,st5,fr5⟩=>?_)
  have I5':=I5.pinned (stat fr5) (T.obj _ _ st5);refine Vq hp (thn (hg _ s5 σ3 H5 x u _ I5' r5 (step x H5 y5)) λ_ s6 ⟨σ6,H6,I6,q6⟩=>?_)
  refine Vq hp (thn (hb _ s6 σ6 H6 _ I6 q6) λf s7 q7=>?_)
  have again:∀{σ7:St}{H7:Hp},Inv X (Xe++pinsAt fp s5.heap) σ7 H7 s7->N σ7 H7->∃m,m<n/\∃i σ' H',Inv X Xe σ' H' s7/\tn i s7.heap/\(∀b∈fp,H' b=none)/\W i m σ' H':=λ{σ7 H7} I7 n7=>by
   obtain⟨m',hm,w7⟩:=hN σ7 H7 n7;refine⟨m',hm,i+1,σ7,H7,I7.unpinned,T.keep _ _ _ st5 λb hb o e=>(I7.pin (b,o) (TQ _ (TQ _ (mem_pinsAt hb e)))).1,λb hb=>?_,w7⟩
   obtain⟨o,e,d⟩:=T.obj _ _ st5 b hb;exact (I7.pin (b,o) (TQ _ (TQ _ (mem_pinsAt hb e)))).2.1
  cases f with
  |next=>obtain⟨σ7,H7,I7,n7⟩:=q7;exact again I7 n7
  |cont=>obtain⟨σ7,H7,I7,n7⟩:=q7;exact again I7 n7
  |brk=>obtain⟨σ7,H7,I7,q7⟩:=q7;exact⟨σ7,H7,I7.unpinned,q7⟩
  |ret v=>obtain⟨x7,σ7,H7,I7,r7,q7⟩:=q7;exact⟨x7,σ7,H7,I7.unpinned,r7,q7⟩
end
open PySem PySem.Spec PyProof.Rows
abbrev R2:=V->V->Hp->VK->Prop
def OpR(X:Cx)(f:Value->Value->Sem Value)(r:R2):Prop:=
 ∀(Xe:List (Addr×Obj)) (s:Shared) (σ:St) (H:Hp) (x y:V) (v u:Value) (Q:VK),Inv X Xe σ H s->RelV x v->RelV y u->r x y H Q->
   wpAny (model X.prog X.w) X.A (f v u) (EP X Xe σ Q) X.xe s
def UnR(X:Cx)(f:Value->Sem Value)(r:V->Hp->VK->Prop):Prop:=
 ∀(Xe:List (Addr×Obj)) (s:Shared) (σ:St) (H:Hp) (x:V) (v:Value) (Q:VK),Inv X Xe σ H s->RelV x v->r x H Q->
   wpAny (model X.prog X.w) X.A (f v) (EP X Xe σ Q) X.xe s
def CallR(X:Cx)(f:Value)(r:List V->Hp->VK->Prop):Prop:=
 ∀(Xe:List (Addr×Obj)) (s:Shared) (σ:St) (H:Hp) (xs:List V) (us:List Value) (Q:VK),Inv X Xe σ H s->Vals xs us->r xs H Q->
   wpAny (model X.prog X.w) X.A (call f us) (EP X Xe σ Q) X.xe s
def TruR(X:Cx)(r:V->Hp->(Bool->Hp->Prop)->Prop):Prop:=
 ∀(Xe:List (Addr×Obj)) (s:Shared) (σ:St) (H:Hp) (x:V) (v:Value) (Q:Bool->Hp->Prop),Inv X Xe σ H s->RelV x v->r x H Q->
   wpAny (model X.prog X.w) X.A (truthy v) (TP X Xe σ Q) X.xe s
def tOp(r:R2)(ta tb:TE):TE:=λσ H Q=>ta σ H λx H1=>tb σ H1 λy H2=>r x y H2 Q
def tUn(r:V->Hp->VK->Prop)(ta:TE):TE:=λσ H Q=>ta σ H λx H1=>r x H1 Q
def rI(C:Int->Int->Prop)(g:Int->Int->V):R2:=λx y H Q=>∃i j,x=.int i/\y=.int j/\C i j/\Q (g i j) H
def rI0(g:Int->Int->V):R2:=λx y H Q=>∃i j,x=.int i/\y=.int j/\Q (g i j) H
def rU(g:Int->V):V->Hp->VK->Prop:=λx H Q=>∃i,x=.int i/\Q (g i) H
section
variable{X:Cx}{a b c:Expr}{ta tb tc:TE}{pos:Pos}
def binT(ha:PE X a ta)(hb:PE X b tb){Xe:List (Addr×Obj)}{R:V->V->Hp->Prop}(I:Inv X Xe σ H s)
  (h:ta σ H λx H1=>tb σ H1 λy H2=>R x y H2) {Q:Value->Shared->Prop}{f:Value->Value->Sem Value}
  (hf:∀v u s2 x y H2,Inv X Xe σ H2 s2->RelV x v->RelV y u->R x y H2->wpAny (model X.prog X.w) X.A (f v u) Q X.xe s2) :
  wpAny (model X.prog X.w) X.A (eval a X.env) (λv s₁=>wpAny (model X.prog X.w) X.A (eval b X.env) (λu s₂=>wpAny (model X.prog X.w) X.A (f v u) Q X.xe s₂) X.xe s₁) X.xe s:=by
 refine thn (ha Xe s σ H _ I h) λv s1 ⟨x,H1,I1,r1,q1⟩=>?_
 refine thn (hb Xe s1 σ H1 _ I1 q1) λu s2 ⟨y,H2,I2,r2,q2⟩=>?_
 exact hf v u s2 x y H2 I2 r1 r2 q2
def pe_op(ho:OpR X (binaryOp op) r)(ha:PE X a ta)(hb:PE X b tb):PE X (.BinOp a op b pos) (tOp r ta tb):=by intro Xe s σ H Q I h;exact wpAny_BinOp (binT ha hb I h λv u s2 x y H2 I2 rx ry q=>ho Xe s2 σ H2 x y v u Q I2 rx ry q)
def pe_un(ho:UnR X (unaryOp op) r)(ha:PE X a ta):PE X (.UnaryOp op a pos) (tUn r ta):=by intro Xe s σ H Q I h;exact UnaryOp_ (thn (ha Xe s σ H _ I h) λv s1 ⟨x,H1,I1,r1,q1⟩=>ho Xe s1 σ H1 x v Q I1 r1 q1)
def opI{f:Value->Value->Sem Value}{C:Int->Int->Prop}{g:Int->Int->Int}
  (rule:∀(i j:Int) (t u:Tok) (s:Shared) (Q:Value->Shared->Prop) (E:Value->Shared->Prop),C i j->Q (.int (g i j) s.toks) { s with toks:=s.toks+1 }->wpAny (model X.prog X.w) X.A (f (.int i t) (.int j u)) Q E s) :
  OpR X f (rI C λi j=>.int (g i j)):=by
 intro Xe s σ H x y v u Q I rx ry h;obtain⟨i,j,rfl,rfl,hc,q⟩:=h;obtain⟨t,rfl⟩:=rx;obtain⟨t',rfl⟩:=ry;exact rule i j t t' s _ _ hc ⟨.int (g i j),H,I.tok _,⟨_,rfl⟩,q⟩
def opI0{f:Value->Value->Sem Value}{g:Int->Int->Int}
  (rule:∀(i j:Int) (t u:Tok) (s:Shared) (Q:Value->Shared->Prop) (E:Value->Shared->Prop),Q (.int (g i j) s.toks) { s with toks:=s.toks+1 }->wpAny (model X.prog X.w) X.A (f (.int i t) (.int j u)) Q E s) :
  OpR X f (rI0 λi j=>.int (g i j)):=by
 intro Xe s σ H x y v u Q I rx ry h;obtain⟨i,j,rfl,rfl,q⟩:=h;obtain⟨t,rfl⟩:=rx;obtain⟨t',rfl⟩:=ry;exact rule i j t t' s _ _ ⟨.int (g i j),H,I.tok _,⟨_,rfl⟩,q⟩
def opB0{f:Value->Value->Sem Value}{g:Int->Int->Bool}
  (rule:∀(i j:Int) (t u:Tok) (s:Shared) (Q:Value->Shared->Prop) (E:Value->Shared->Prop),Q (.bool (g i j)) s->wpAny (model X.prog X.w) X.A (f (.int i t) (.int j u)) Q E s) :
  OpR X f (rI0 λi j=>.bl (g i j)):=by
 intro Xe s σ H x y v u Q I rx ry h;obtain⟨i,j,rfl,rfl,q⟩:=h;obtain⟨t,rfl⟩:=rx;obtain⟨t',rfl⟩:=ry;exact rule i j t t' s _ _ ⟨.bl (g i j),H,I,rfl,q⟩
def CPow(i j:Int):Prop:=0<=j/\j<=1000000/\i.natAbs<2^64
def op_add:OpR X (binaryOp .Add) (rI0 λi j=>.int (i+j)):=opI0 λz z z z z z z q=>add_int q
def op_sub:OpR X (binaryOp .Sub) (rI0 λi j=>.int (i-j)):=opI0 λz z z z z z z q=>sub_int q
def op_mod:OpR X (binaryOp .Mod) (rI (λz j=>0<j) λi j=>.int (i%j)):=opI λi j z z z z z hc q=>by have h1:(0:Int)<j:=hc;exact mod_int' (by omega) (by rw[Int.fmod_eq_emod_of_nonneg i (by omega)];exact q)
def op_pow:OpR X (binaryOp .Pow) (rI CPow λi j=>.int (i^j.toNat)):=opI λz z z z z z z hc q=>pow_int_small hc.1 hc.2.1 hc.2.2 q
def iop_add:OpR X (inplaceOp .Add) (rI0 λi j=>.int (i+j)):=opI0 λz z z z z z z q=>iadd_int q
def iop_sub:OpR X (inplaceOp .Sub) (rI0 λi j=>.int (i-j)):=opI0 λz z z z z z z q=>isub_int q
def unI{f:Value->Sem Value}{g:Int->Int}
  (rule:∀(i:Int) (t:Tok) (s:Shared) (Q:Value->Shared->Prop) (E:Value->Shared->Prop),Q (.int (g i) s.toks) { s with toks:=s.toks+1 }->wpAny (model X.prog X.w) X.A (f (.int i t)) Q E s) :
  UnR X f (rU λi=>.int (g i)):=by
 intro Xe s σ H x v Q I rx h;obtain⟨i,rfl,q⟩:=h;obtain⟨t,rfl⟩:=rx;exact rule i t s _ _ ⟨.int (g i),H,I.tok _,⟨_,rfl⟩,q⟩
def un_neg:UnR X (unaryOp .USub) (rU λi=>.int (-i)):=unI λz z z z z q=>neg_int q
end
def scal:V->V->Bool
 |.non,.non=>true | .non,.int _=>true | .int _,.non=>true | .non,.bl _=>true | .bl _,.non=>true | .non,.str _=>true | .str _,.non=>true
 |.int _,.int _=>true | .bl _,.bl _=>true | .str _,.str _=>true | .byt _,.byt _=>true
 |.int _,.str _=>true | .str _,.int _=>true | .bl _,.str _=>true | .str _,.bl _=>true
 |_,_=>false
def rEq:R2:=λx y H Q=>scal x y=true/\Q (.bl (decide (x=y))) H
def rNe:R2:=λx y H Q=>scal x y=true/\Q (.bl (!decide (x=y))) H
def dec_int:decide (V.int i=V.int j)=(i==j):=by rw[T9];simp
def dec_bl:decide (V.bl i=V.bl j)=(i==j):=by rw[T9];simp
def dec_str:decide (V.str i=V.str j)=(i==j):=by rw[T9];simp
def dec_byt:decide (V.byt i=V.byt j)=(i.toList==j.toList):=by rw[T9];cases i;cases j;simp
section
variable{X:Cx}{a b c:Expr}{ta tb tc:TE}{pos:Pos}
def fin_bl(I:Inv X Xe σ H s)(q:Q (.bl k) H)(e:k=k'):EP X Xe σ Q (.bool k') s:=by subst e;exact⟨.bl k,H,I,rfl,q⟩
def op_eq:OpR X (compareOp .Eq) rEq:=by
 intro Xe s σ H x y v u Q I rx ry h;obtain⟨hs,q⟩:=h;cases x with
 |non=>
   cases rx;cases y with
   |non=>cases ry;exact PySem.EqNone.eq_none_none (fin_bl I q (by simp))
   |bl j=>cases ry;exact PySem.EqNone.eq_none_bool (fin_bl I q (by simp))
   |int j=>obtain⟨t',rfl⟩:=ry;exact PySem.EqNone.eq_none_int (fin_bl I q (by simp))
   |str j=>obtain⟨t',rfl⟩:=ry;exact PySem.EqNone.eq_none_str (fin_bl I q (by simp))
   |_=>exact absurd (show false=true from hs) Tw
 |bl i=>
   cases rx;cases y with
   |non=>cases ry;exact PySem.EqNone.eq_bool_none (fin_bl I q (by simp))
   |bl j=>cases ry;exact eq_bool (fin_bl I q dec_bl)
   |str j=>obtain⟨t',rfl⟩:=ry;exact PySem.EqMixed.eq_bool_str (fin_bl I q (by simp))
   |_=>exact absurd (show false=true from hs) Tw
 |int i=>
   obtain⟨t,rfl⟩:=rx;cases y with
   |non=>cases ry;exact PySem.EqNone.eq_int_none (fin_bl I q (by simp))
   |int j=>obtain⟨t',rfl⟩:=ry;exact eq_int (fin_bl I q dec_int)
   |str j=>obtain⟨t',rfl⟩:=ry;exact PySem.EqMixed.eq_int_str (fin_bl I q (by simp))
   |_=>exact absurd (show false=true from hs) Tw
 |str i=>
   obtain⟨t,rfl⟩:=rx;cases y with
   |non=>cases ry;exact PySem.EqNone.eq_str_none (fin_bl I q (by simp))
   |bl j=>cases ry;exact PySem.EqMixed.eq_str_bool (fin_bl I q (by simp))
   |int j=>obtain⟨t',rfl⟩:=ry;exact PySem.EqMixed.eq_str_int (fin_bl I q (by simp))
   |str j=>obtain⟨t',rfl⟩:=ry;exact eq_str (fin_bl I q dec_str)
   |_=>exact absurd (show false=true from hs) Tw
 |byt i=>
   obtain⟨t,rfl⟩:=rx;cases y with
   |byt j=>obtain⟨t',rfl⟩:=ry;exact PySem.W.eq_bytes (fin_bl I q dec_byt)
   |_=>exact absurd (show false=true from hs) Tw
 |_=>cases y<;>exact absurd (show false=true from hs) Tw
def op_ne:OpR X (compareOp .NotEq) rNe:=by
 intro Xe s σ H x y v u Q I rx ry h;obtain⟨hs,q⟩:=h;cases x with
 |non=>
   cases rx;cases y with
   |non=>cases ry;exact PySem.EqNone.ne_none_none (fin_bl I q (by simp))
   |bl j=>cases ry;exact PySem.EqNone.ne_none_bool (fin_bl I q (by simp))
   |int j=>obtain⟨t',rfl⟩:=ry;exact PySem.EqNone.ne_none_int (fin_bl I q (by simp))
   |str j=>obtain⟨t',rfl⟩:=ry;exact PySem.EqNone.ne_none_str (fin_bl I q (by simp))
   |_=>exact absurd (show false=true from hs) Tw
 |bl i=>
   cases rx;cases y with
   |non=>cases ry;exact PySem.EqNone.ne_bool_none (fin_bl I q (by simp))
   |bl j=>cases ry;exact ne_bool (fin_bl I q (congrArg not dec_bl))
   |str j=>obtain⟨t',rfl⟩:=ry;exact PySem.EqMixed.ne_bool_str (fin_bl I q (by simp))
   |_=>exact absurd (show false=true from hs) Tw
 |int i=>
   obtain⟨t,rfl⟩:=rx;cases y with
   |non=>cases ry;exact PySem.EqNone.ne_int_none (fin_bl I q (by simp))
   |int j=>obtain⟨t',rfl⟩:=ry;exact ne_int (fin_bl I q (congrArg not dec_int))
   |str j=>obtain⟨t',rfl⟩:=ry;exact PySem.EqMixed.ne_int_str (fin_bl I q (by simp))
   |_=>exact absurd (show false=true from hs) Tw
 |str i=>
   obtain⟨t,rfl⟩:=rx;cases y with
   |non=>cases ry;exact PySem.EqNone.ne_str_none (fin_bl I q (by simp))
   |bl j=>cases ry;exact PySem.EqMixed.ne_str_bool (fin_bl I q (by simp))
   |int j=>obtain⟨t',rfl⟩:=ry;exact PySem.EqMixed.ne_str_int (fin_bl I q (by simp))
   |str j=>obtain⟨t',rfl⟩:=ry;exact ne_str (fin_bl I q (congrArg not dec_str))
   |_=>exact absurd (show false=true from hs) Tw
 |byt i=>
   obtain⟨t,rfl⟩:=rx;cases y with
   |byt j=>obtain⟨t',rfl⟩:=ry;exact PySem.W.ne_bytes (fin_bl I q (congrArg not dec_byt))
   |_=>exact absurd (show false=true from hs) Tw
 |_=>cases y<;>exact absurd (show false=true from hs) Tw
def op_lt:OpR X (compareOp .Lt) (rI0 λi j=>.bl (decide (i<j))):=opB0 λz z z z z z z q=>lt_int q
def op_le:OpR X (compareOp .LtE) (rI0 λi j=>.bl (decide (i<=j))):=opB0 λz z z z z z z q=>le_int q
def op_gt:OpR X (compareOp .Gt) (rI0 λi j=>.bl (decide (j<i))):=opB0 λz z z z z z z q=>gt_int q
def op_ge:OpR X (compareOp .GtE) (rI0 λi j=>.bl (decide (j<=i))):=opB0 λz z z z z z z q=>ge_int q
def op_isN:OpR X (compareOp .Is) (λx y H Q=>y=.non/\Q (.bl (decide (x=.non))) H):=by
 intro Xe s σ H x y v u Q I rx ry h;obtain⟨rfl,q⟩:=h;cases ry;refine is_none_gen (fin_bl I q ?_);cases x<;>first
  |(cases rx;rfl)
  |(obtain⟨t,rfl⟩:=rx;rfl)
def OpR.or(h:OpR X f r)(h':OpR X f r'):OpR X f (λx y H Q=>r x y H Q\/r' x y H Q):=by
 intro Xe s σ H x y v u Q I rx ry q;rcases q with q | q
 ·exact h Xe s σ H x y v u Q I rx ry q
 ·exact h' Xe s σ H x y v u Q I rx ry q
def nomark(b:Expr)(h:op≠.In:=by decide)(h2:op≠.NotIn:=by decide):behindInMarks op b=false:=by
 have e1:(op==CmpOp.In)=false:=by cases op<;>first | rfl | exact absurd rfl h
 have e2:(op==CmpOp.NotIn)=false:=by cases op<;>first | rfl | exact absurd rfl h2
 cases b<;>simp[behindInMarks,e1,e2]
def pe_cmpR(ho:OpR X (compareOp op) r)(ha:PE X a ta)(hb:PE X b tb)(hm:behindInMarks op b=false):PE X (.Compare a [op] [b] pos) (tOp r ta tb):=by intro Xe s σ H Q I h;exact wpAny_Compare1 (binT ha hb I h λv u s2 x y H2 I2 rx ry q=>ho Xe s2 σ H2 x y v u Q I2 rx ry q) hm
def tTest(t:TE):TT:=λσ H Q=>t σ H λx H'=>∃k,x=.bl k/\Q k H'
def pt_cmpR(ho:OpR X (compareOp op) r)(ha:PE X a ta)(hb:PE X b tb)(hm:behindInMarks op b=false):PT X (.Compare a [op] [b] pos) (tTest (tOp r ta tb)):=by
 intro Xe s σ H Q I h;refine wpAny_isTrue_Compare1 (thn (ha Xe s σ H _ I h) λv s1 ⟨x,H1,I1,r1,q1⟩=>thn (hb Xe s1 σ H1 _ I1 q1) λu s2 ⟨y,H2,I2,r2,q2⟩=>
  thn (ho Xe s2 σ H2 x y v u _ I2 r1 r2 q2) λc s3 ⟨z,H3,I3,r3,k,e,q3⟩=>?_) hm
 subst e;cases r3;exact Ua ⟨H3,I3,q3⟩
def tChain(r r':R2)(ta tb tc:TE):TE:=λσ H Q=>ta σ H λx H1=>tb σ H1 λy H2=>r x y H2 λz H3=>∃k,z=.bl k /\
 (if k=true then tc σ H3 λw' H4=>r' y w' H4 Q else Q (.bl false) H3)
def pe_chain(ho:OpR X (compareOp op) r)(ho':OpR X (compareOp op') r')(ha:PE X a ta)(hb:PE X b tb)(hc:PE X c tc)
  (hm:lastMarks [op,op'] [b,c]=false:=by with_unfolding_all rfl):PE X (.Compare a [op,op'] [b,c] pos) (tChain r r' ta tb tc):=by
 intro Xe s σ H Q I h;refine Compare_chain (thn (ha Xe s σ H _ I h) λv s1 ⟨x,H1,I1,r1,q1⟩=>chain_link (thn (hb Xe s1 σ H1 _ I1 q1) λu s2 ⟨y,H2,I2,r2,q2⟩=>
  thn (ho Xe s2 σ H2 x y v u _ I2 r1 r2 q2) λd s3 ⟨z,H3,I3,r3,k,e,q3⟩=>?_)) hm
 subst e;cases r3;refine Ua ?_;cases k with
 |false=>exact ite_ff ⟨.bl false,H3,I3,rfl,q3⟩
 |true=>exact ite_tt (chain_last (thn (hc Xe s3 σ H3 _ I3 q3) λw' s4 ⟨z',H4,I4,r4,q4⟩=>ho' Xe s4 σ H4 y z' u w' Q I4 r2 r4 q4))
def pt_chain(ho:OpR X (compareOp op) r)(ho':OpR X (compareOp op') r')(ha:PE X a ta)(hb:PE X b tb)(hc:PE X c tc)
  (hm:lastMarks [op,op'] [b,c]=false:=by with_unfolding_all rfl):PT X (.Compare a [op,op'] [b,c] pos) (tTest (tChain r r' ta tb tc)):=by
 intro Xe s σ H Q I h;refine isTrue_chain (thn (ha Xe s σ H _ I h) λv s1 ⟨x,H1,I1,r1,q1⟩=>test_link (thn (hb Xe s1 σ H1 _ I1 q1) λu s2 ⟨y,H2,I2,r2,q2⟩=>
  thn (ho Xe s2 σ H2 x y v u _ I2 r1 r2 q2) λd s3 ⟨z,H3,I3,r3,k,e,q3⟩=>?_)) hm
 subst e;cases r3;refine Ua ?_;cases k with
 |false=>obtain⟨k',e',q'⟩:=q3;cases e';exact ite_ff ⟨H3,I3,q'⟩
 |true=>
   refine ite_tt (test_last (thn (hc Xe s3 σ H3 _ I3 q3) λw' s4 ⟨z',H4,I4,r4,q4⟩=>thn (ho' Xe s4 σ H4 y z' u w' _ I4 r2 r4 q4) λd' s5 ⟨z2,H5,I5,r5,k2,e2,q5⟩=>?_))
   subst e2;cases r5;exact Ua ⟨H5,I5,q5⟩
def TruV(K:PySem.W.Frag)(x:V)(H:Hp)(k:Bool):Prop:=
 match x with
 |.non=>k=false
 |.bl b=>k=b
 |.int i=>k=(i != 0)
 |.str y=>y.length<=sizeLine/\k=((y.length:Int) != 0)
 |.byt y=>y.size<=sizeLine/\k=((y.size:Int) != 0)
 |.ref p=>(∃xs,SqL K H p xs/\k=!xs.isEmpty)\/(∃xs,SqT K H p xs/\k=!xs.isEmpty)\/∃kvs,H p=some (.dK kvs)/\k=!kvs.isEmpty
 |_=>False
def isEmpty_kv(r:KV kvs vs):(!vs.isEmpty)=!kvs.isEmpty:=by cases r<;>rfl
def isEmpty_of(r:Vals xs its):(!its.toArray.isEmpty)=!xs.isEmpty:=by cases r<;>simp
def line63:(sizeLine:Nat)<2^63:=by rw[Xd];decide
def tru_ok:TruR X (λx H Q=>∃ k,TruV X.K x H k/\Q k H):=by
 intro Xe s σ H x v Q I rx h;obtain⟨k,e,q⟩:=h;have hl:=line63;have hs:sizeLine=16777216:=Xd;cases x with
 |non=>cases rx;have e':k=false:=e;subst e';exact truthy_none ⟨H,I,q⟩
 |bl b=>cases rx;have e':k=b:=e;subst e';exact Ua ⟨H,I,q⟩
 |int i=>obtain⟨t,rfl⟩:=rx;have e':k=(i != 0):=e;subst e';exact PySem.P.truthy_int ⟨H,I,q⟩
 |str y=>obtain⟨t,rfl⟩:=rx;obtain⟨hy,e'⟩:y.length<=sizeLine/\k=((y.length:Int) != 0):=e;subst e';exact PySem.P.truthy_str (by omega) ⟨H,I.tok _,q⟩
 |byt y=>obtain⟨t,rfl⟩:=rx;obtain⟨hy,e'⟩:y.size<=sizeLine/\k=((y.size:Int) != 0):=e;subst e';exact PySem.W.truthy_bytes (by omega) ⟨H,I.tok _,q⟩
 | ref p=>
   cases rx;have e':(∃xs,SqL X.K H p xs/\k=!xs.isEmpty)\/(∃xs,SqT X.K H p xs/\k=!xs.isEmpty)\/∃kvs,H p=some (.dK kvs)/\k=!kvs.isEmpty:=e;rcases e' with ⟨xs,hx,e'⟩ | ⟨xs,hx,e'⟩ | ⟨kvs,hx,e'⟩
   ·subst e';obtain⟨its,r,pl,hz⟩:=I.list hx;have hlen:=r.length;exact wpAny_truthy_list pl.isList (by simp only[List.size_toArray];omega) ⟨H,I.tok _,by rw[isEmpty_of r];exact q⟩
   ·subst e';obtain⟨its,r,pl,hz⟩:=I.tuple hx;have hlen:=r.length;exact truthy_tuple pl (by simp only[List.size_toArray];omega) ⟨H,I.tok _,by rw[isEmpty_of r];exact q⟩
   ·subst e';obtain⟨hz,hS,vs,r,m⟩:kvs.length<=sizeLine/\(p==sysModules)=false/\∃vs,KV kvs vs/\s.heap.DictOf (mixKind X.prog X.w) p vs:=I.hok p _ hx;have hlen:kvs.length=vs.length:=Paired.length r;exact wpAny_truthy_dict hS m (by omega) ⟨H,I.tok _,by rw[isEmpty_kv r];exact q⟩
 |_=>exact (show False from e).elim
def pt_truth(ha:PE X a ta)(he:∀whole,isTrue a X.env whole=(do let v <-whole;standAt a.pos;holding [v] (truthy v))):
  PT X a (λσ H Q=>ta σ H λx H'=>∃k,TruV X.K x H' k/\Q k H'):=by
 intro Xe s σ H Q I h;exact isTrue_plain (thn (ha Xe s σ H _ I h) λv s1 ⟨x,H1,I1,r1,q1⟩=>tru_ok Xe s1 σ H1 x v Q I1 r1 q1) (he _)
def op_add_str:OpR X (binaryOp .Add) (λx y H Q=>∃i j,x=.str i/\y=.str j/\i.length+j.length<=sizeLine/\Q (.str (i++j)) H):=by intro Xe s σ H x y v u Q I rx ry h;obtain⟨i,j,rfl,rfl,hz,q⟩:=h;obtain⟨t,rfl⟩:=rx;obtain⟨t',rfl⟩:=ry;exact add_str (λt' tk=>⟨.str (i++j),H,I.tok _,⟨_,rfl⟩,q⟩) hz
def vals1(r:Vals [x] us):∃u,us=[u]/\RelV x u:=by
 cases r with
 |cons r1 r2=>cases r2;exact⟨_,rfl,r1⟩
def vals2(r:Vals [x,y] us):∃ u w',us=[u,w']/\RelV x u/\RelV y w':=by
 cases r with
 |cons r1 r2=>
   cases r2 with
   |cons r3 r4=>cases r4;exact⟨_,_,rfl,r1,r3⟩
def call_max2(hc:X.calm=true):CallR X (.builtin "max") (λxs H Q=>∃i j,xs=[.int i,.int j]/\Q (.int (if j > i then j else i)) H):=by
 intro Xe s σ H xs us Q I r h;obtain⟨i,j,rfl,q⟩:=h;obtain⟨u,w',rfl,⟨t,rfl⟩,⟨t',rfl⟩⟩:=vals2 r;refine max_two_ints (I.ok.hd hc) λh' tk k=>⟨_,H,I.kept k,?_,q⟩
 by_cases hj:j > i
 ·rw[S7 hj,S7 hj];exact⟨_,rfl⟩
 ·rw[Tq hj,Tq hj];exact⟨_,rfl⟩
end
open PySem PySem.Spec PyProof.Rows
structure ObjM(h:Heap)(x dx C:Addr)(mA:Str->Option Value):Prop where
 obj:h.get? x=some (PySem.W.instObj C dx)
 ns:h.Ns1 dx mA
 ne:dx≠x
set_option tactic.hygienic true in
def lookIn_ns{h:Heap}{dx:Addr}{mA:Str->Option Value}(n:h.Ns1 dx mA):∃ od,h.get? dx=some od/\∀ name,PySem.W.lookIn name od=some (mA name):=by
 obtain⟨o,es,ep,ho,hd,hk,_,hm⟩:=n;refine⟨o,ho,λname=>?_⟩
 have e:=hm name;unfold nsFind findBy at e;rw[<-Array.find?_toList]at e;unfold PySem.W.lookIn;rw[hd];dsimp only;split
 ·rename_i y q;rw[q]at e;exact congrArg some e
 ·rename_i q;rw[q]at e;have a:es.toList.any (·.refKey)=false:=by rw[List.any_eq_false];intro y hy;obtain⟨z,t,hkey⟩:=hk y (Array.mem_toList_iff.mp hy);simp[DictEntry.refKey,hkey]
  have a':¬ es.toList.any (·.refKey)=true:=by rw[a];exact Tw
  rw[Tq a'];exact congrArg some e
def ObjM.look(I:ObjM h x dx C mA):∃od,PySem.W.InstAt h x (PySem.W.instObj C dx) C (some od)/\∀name,PySem.W.lookIn name od=some (mA name):=
 let ⟨od,ho,hl⟩:=lookIn_ns I.ns
 ⟨od,⟨I.obj,rfl,rfl,ho⟩,hl⟩
section
variable{prog:Program}{w:World}{A:Around}{E:Value->Shared->Prop}{s:Shared}{K:PySem.W.Frag}{x dx C f:Addr}{mA:Str->Option Value}{name:Str}{v:Value}
def get_map(X:K.In s.heap)(I:ObjM s.heap x dx C mA)(hg:PySem.W.plainGet K C name=true)(hh:PySem.W.hasDictIn K C=true)
  (ha:PySem.W.findIn K (.ref C) name=some none) (hv:mA name=some v) (hv':PySem.W.handedIn v=true) (h:Q v { s with toks:=s.toks+1 }) :
  wpAny (model prog w) A (getAttr (.ref x) name expr) Q E s:=by
 obtain⟨od,J,hl⟩:=I.look;exact PySem.W.get_value X J (PySem.W.plainGet_of hg).1 (PySem.W.findObj_own hh ha rfl (by rw[hl,hv])) hv' h
def get_meth(X:K.In s.heap)(I:ObjM s.heap x dx C mA)(hg:PySem.W.plainGet K C name=true)
  (hf:PySem.W.findIn K (.ref C) name=some (some (.ref f))) (ht:PySem.W.isFn K (.ref f)=true) (hv:mA name=none) (h:Q (.ref f,[.ref x]) s) :
  wpAny (model prog w) A (getMethod (.ref x) name pl) Q E s:=by
 obtain⟨od,J,hl⟩:=I.look;exact PySem.W.method_fn X J (PySem.W.plainGet_of hg).1 (PySem.W.plainGet_of hg).2 hf (VG.mp ht) (by show (PySem.W.lookIn name od).map (·.isSome)=some false;rw[hl,hv];rfl) h
def set_map(X:K.In s.heap)(I:ObjM s.heap x dx C mA)
  (hs:PySem.W.findIn K (.ref C) "__setattr__"=some (some (.builtin "object.__setattr__"))) (hp:PySem.W.plainOver K C=true) (ht:PySem.W.takerIn K C name=some none) (hh:PySem.W.hasDictIn K C=true)
  (hw:PySem.Within mA ns) (hsz:ns.length<=sizeLine)
  (h:∀h',ObjM h' x dx C (λy=>if y=name then some v else mA y)->Heap.SameBut dx s.heap h'->Q () { s with heap:=h',toks:=s.toks+2 }) :
  wpAny (model prog w) A (setAttr (.ref x) name v) Q E s:=by
 obtain⟨od,J,hl⟩:=I.look;refine PySem.W.set_plain X J hs (PySem.W.osa_open (s:={ s with toks:=s.toks+1 }) (r:=none) X J hp ht λb=>?_)
 obtain⟨cd,hc,hd'⟩:=PySem.W.any_some hh;have hx:s.heap.get? x=some ⟨.ref C,some dx,.plain,#[]⟩:=I.obj;refine SQ (S6 (SQ (SQ (wpAny_loadPart hx (SQ (PySem.W.Looks.here (s:={ s with toks:=s.toks+1 }) (PySem.W.looks_clsIn X hc) ?_))))))
 rw[hd'];refine S6 (a:=some dx) (SQ (S6 (SQ ?_)));refine wpAny_nsSet1 (s:={ s with toks:=s.toks+1 }) I.ns λh' hn2 hs2=>?_
 obtain⟨oD,esD,epD,hoD,hdD,hcD⟩:=hn2.count (PySem.Within.cons name v hw);refine SQ (wpAny_lookBehind hoD (by rw[hdD];exact pastItsLine_dict (T7 hcD (by rw[Ve];omega))) ?_)
 exact S6 (h _ ⟨(hs2.2 _ (Ne.symm I.ne)).trans I.obj,hn2,I.ne⟩ hs2)
def make_map(X:K.In s.heap)(hm:PySem.W.makesIn K C=true)
  (hi:PySem.W.findIn K (.ref C) "__init__"=some (some (.ref f))) (hf:PySem.W.typeIn K (.ref f)=some (.type "function"))
  (h:codeAny (model prog w) (A.under (.builtin "type.__call__" ⟨.ref C::vs,kw⟩)) (.call (.ref f) ⟨.ref (s.heap.objs.size+1)::vs,kw⟩) (PySem.W.InitBack (s.heap.objs.size+1) R)
    { s with heap:=(s.heap.push PySem.W.emptyDict).push (PySem.W.instObj C s.heap.objs.size) }) :
  codeAny (model prog w) A (.call (.ref C) ⟨vs,kw⟩) R s:=by
 obtain⟨hh,g,d,t,os⟩:=s;exact PySem.W.make_core (PySem.W.makes_of X hm) (Vi X hi) (λself=>PySem.W.bind_fn X self hf) (.inl rfl) h
end
def putF(f:Str)(v:V):List (Str×V)->List (Str×V)
 |[]=>[(f,v)]
 |(g,x)::r=>if g=f then (g,v)::r else (g,x)::putF f v r
theorem lookup_putF(f g:Str)(v:V):∀ fs:List (Str×V),(putF f v fs).lookup g=if g=f then some v else fs.lookup g
 | []=>by
   show List.lookup g [(f,v)]=_;by_cases h:g=f
   ·have hb:(g==f)=true:=VG.mpr h;simp only[List.lookup,hb,if_pos h]
   ·have hb:(g==f)=false:=VD.mpr h;simp only[List.lookup,hb,if_neg h]
 | (k,x)::r=>by
   have ih:=lookup_putF f g v r;rw[show putF f v ((k,x)::r)=(if k=f then (k,v)::r else (k,x)::putF f v r) from rfl]
   by_cases hk:k=f
   ·rw[S7 hk];by_cases h:g=k
    ·have hb:(g==k)=true:=VG.mpr h;simp only[List.lookup,hb,if_pos (h.trans hk)]
    ·have hb:(g==k)=false:=VD.mpr h;simp only[List.lookup,hb,if_neg (λe:g=f=>h (e.trans hk.symm))]
   ·rw[Tq hk];by_cases h:g=k
    ·have hb:(g==k)=true:=VG.mpr h;simp only[List.lookup,hb,if_neg (λe:g=f=>hk (h.symm.trans e))]
    ·have hb:(g==k)=false:=VD.mpr h;simp only[List.lookup,hb];exact ih
theorem keys_putF(f:Str)(v:V):∀ fs:List (Str×V),f∈(putF f v fs).map (·.1)/\∀ g,g∈fs.map (·.1)->g∈(putF f v fs).map (·.1)
 |[]=>⟨by simp[putF],λg h=>by simp at h⟩
 | (k,x)::r=>by
   obtain⟨i1,i2⟩:=keys_putF f v r;rw[show putF f v ((k,x)::r)=(if k=f then (k,v)::r else (k,x)::putF f v r) from rfl]
   by_cases hk:k=f
   ·rw[S7 hk];subst hk;exact⟨by simp,λg h=>by simpa using h⟩
   ·rw[Tq hk];refine⟨?_,λg h=>?_⟩
    ·rw[Us];exact T8 _ i1
    ·rw[Us]at h ⊢
     rcases T3.mp h with e | e
     ·exact T3.mpr (.inl e)
     ·exact T8 _ (i2 g e)
theorem length_putF(f:Str)(v:V):∀ fs:List (Str×V),(putF f v fs).length<=fs.length + 1
 |[]=>by simp[putF]
 |(k,x)::r=>by
   have ih:=length_putF f v r;rw[show putF f v ((k,x)::r)=(if k=f then (k,v)::r else (k,x)::putF f v r) from rfl]
   by_cases hk:k=f
   ·rw[S7 hk,Ve,Ve];omega
   ·rw[Tq hk,Ve,Ve];omega
def RelO.some_of(r:RelO (some v) o):∃u,o=some u/\RelV v u:=by
 cases o with
 |none=>exact (show False from r).elim
 |some u=>exact⟨u,rfl,r⟩
def RelO.none_of(r:RelO none o):o=none:=by
 cases o with
 |none=>rfl
 |some u=>exact (show False from r).elim
def handed_of(r:RelV v u):PySem.W.handedIn u=true:=by
 cases v with
 |non=>cases (show u=Value.none from r);rfl
 |bl b=>cases (show u=Value.bool b from r);rfl
 |int i=>obtain⟨t,e⟩:=(show ∃t,u=Value.int i t from r);cases e;rfl
 |str x=>obtain⟨t,e⟩:=(show ∃t,u=Value.str x t from r);cases e;rfl
 |byt b=>obtain⟨t,e⟩:=(show ∃t,u=Value.bytes b t from r);cases e;rfl
 |flt b=>obtain⟨t,e⟩:=(show ∃t,u=Value.float b t from r);cases e;rfl
 |ref a=>cases (show u=Value.ref a from r);rfl
 |ty n=>cases (show u=Value.type n from r);rfl
section
variable{P:Program}{w:World}{H H':Hp}{h h':Heap}{a C dx:Addr}{fs fs':List (Str×V)}
def ins_get(hok:HOk P w H h)(e:H a=some (.ins C dx fs)):∃mA,ObjM h a dx C mA/\(∀f,RelO (fs.lookup f) (mA f))/\PySem.Within mA (fs.map (·.1))/\fs.length<=1000/\H dx=some (.own a):=by
 obtain⟨d,z,ne,ob,mA,n,r,q⟩:=(show ObjOk P w H h a (.ins C dx fs) from hok a _ e)
 exact⟨mA,⟨ob,n,ne⟩,r,q,z,d⟩
end
structure Cls(K:PySem.W.Frag)(C:Addr):Prop where
 pg:PySem.W.plainGet K C Str.empty=true
 hd:PySem.W.hasDictIn K C=true
 po:PySem.W.plainOver K C=true
 sa:PySem.W.findIn K (.ref C) "__setattr__"=some (some (.builtin "object.__setattr__"))
def Cls.get{K:PySem.W.Frag}{C:Addr}(c:Cls K C)(f:Str):PySem.W.plainGet K C f=true:=c.pg
def NoAttr(K:PySem.W.Frag)(C:Addr)(f:Str):Prop:=PySem.W.findIn K (.ref C) f=some none
def NoAttr.taker{K:PySem.W.Frag}{C:Addr}{f:Str}(n:NoAttr K C f):PySem.W.takerIn K C f=some none:=by
 unfold PySem.W.takerIn;rw[show PySem.W.findIn K (.ref C) f=some none from n]
 rfl
structure Meth(K:PySem.W.Frag)(C:Addr)(m:Str)(f:Addr):Prop where
 at_:PySem.W.findIn K (.ref C) m=some (some (.ref f))
 fn:PySem.W.isFn K (.ref f)=true
 kp:PySem.W.keepIn K (.ref f)=true
section
variable{X:Cx}{Xe:List (Addr×Obj)}{σ:St}{H:Hp}{s:Shared}{a C dx:Addr}{fs:List (Str×V)}{f:Str}{v:V}{A:Around}{E:Value->Shared->Prop}
def getattr_ok(I:Inv X Xe σ H s)(e:H a=some (.ins C dx fs))(c:Cls X.K C)(n:NoAttr X.K C f)(l:fs.lookup f=some v)
  (h:∀u s',Inv X Xe σ H s'->RelV v u->Q u s'):wpAny (model X.prog X.w) A (getAttr (.ref a) f b) Q E s:=by
 obtain⟨mA,O,r,_,_,_⟩:=ins_get I.hok e;obtain⟨u,hu,ru⟩:=RelO.some_of (v:=v) (o:=mA f) (by rw[<-l];exact r f)
 exact get_map I.kIn O (c.get f) c.hd n hu (handed_of ru) (h u _ (I.tok _) ru)
def getmeth_ok(I:Inv X Xe σ H s)(e:H a=some (.ins C dx fs))(c:Cls X.K C)(k:Meth X.K C m g)(l:fs.lookup m=none)
  (h:Q (.ref g,[.ref a]) s):wpAny (model X.prog X.w) A (getMethod (.ref a) m pl) Q E s:=by
 obtain⟨mA,O,r,_,_,_⟩:=ins_get I.hok e;have hn:mA m=none:=RelO.none_of (by rw[<-l];exact r m)
 exact get_meth I.kIn O (c.get m) k.at_ k.fn hn h
def setattr_ok(I:Inv X Xe σ H s)(e:H a=some (.ins C dx fs))(c:Cls X.K C)(n:NoAttr X.K C f)(hl:fs.length<1000)(ry:RelV y u)
  (h:∀s',Inv X Xe σ (upd H a (.ins C dx (putF f y fs))) s'->Q () s'):wpAny (model X.prog X.w) A (setAttr (.ref a) f u) Q E s:=by
 obtain⟨mA,O,r,wi,_,ho⟩:=ins_get I.hok e;have hz:(fs.map (·.1)).length<=sizeLine:=by rw[Te,Xd];omega
 refine set_map I.kIn O c.sa c.po n.taker c.hd wi hz λh' O' sb=>h _ ?_
 have hd:∃o,h'.get? dx=some o:=let ⟨o,_,_,e',_⟩:=O'.ns;⟨o,e'⟩
 refine I.write (x:=a) (e:=dx) (by rw[e];exact True.intro) (.inr ho) (λb q hb z=>(sb.2 b hb).trans z) hd ?_
 refine⟨by rw[upd_ne O.ne];exact ho,?_,O.ne,O'.obj,_,O'.ns,λg=>?_,λg hg=>?_⟩
 ·have:=length_putF f y fs;omega
 ·show RelO ((putF f y fs).lookup g) (if g=f then some u else mA g)
  rw[lookup_putF];by_cases q:g=f
  ·rw[S7 q,S7 q];exact ry
  ·rw[Tq q,Tq q];exact r g
 ·by_cases q:g=f
  ·rw[q];exact (keys_putF f y fs).1
  ·refine (keys_putF f y fs).2 g (wi g λz=>hg ?_)
   show (if g=f then some u else mA g)=none
   rw[Tq q];exact z
def Inv.made(I:Inv X Xe σ H s):Inv X Xe σ (upd (upd H s.heap.objs.size (.own (s.heap.objs.size+1))) (s.heap.objs.size+1) (.ins C s.heap.objs.size []))
  { s with heap:=(s.heap.push PySem.W.emptyDict).push (PySem.W.instObj C s.heap.objs.size) }:=by
 have e1:(s.heap.push PySem.W.emptyDict).get? s.heap.objs.size=some PySem.W.emptyDict:=Tr s.heap rfl;have e2:((s.heap.push PySem.W.emptyDict).push (PySem.W.instObj C s.heap.objs.size)).get? (s.heap.objs.size+1)=some (PySem.W.instObj C s.heap.objs.size):=by
  have:=Tr (s.heap.push PySem.W.emptyDict) (o:=PySem.W.instObj C s.heap.objs.size) rfl
  rwa [Ug]at this
 have e3:(s.heap.push PySem.W.emptyDict).Ns s.heap.objs.size (λz=>none):=⟨PySem.W.emptyDict,#[],_,e1,rfl,(λe he=>absurd he (by simp)),λz=>rfl⟩
 have I1:=I.laid (a:=s.heap.objs.size) (o:=.own (s.heap.objs.size+1)) (h':=s.heap.push PySem.W.emptyDict) (t':=s.toks) (λb u q=>SX _ q) (Td _) ⟨_,e1⟩
 refine I1.laid (a:=s.heap.objs.size+1) (o:=.ins C s.heap.objs.size []) (t':=s.toks) (λb u q=>SX _ q) (Nat.le_of_eq (Ug _ _)) ?_
 have ne:s.heap.objs.size≠s.heap.objs.size+1:=Tv (Vz _);refine⟨by rw[upd_ne ne,upd_same],Vh _,ne,e2,λz=>none,(Heap.Ns1.of_empty e3).at λo q=>SX _ q,λz=>True.intro,λy hy=>absurd rfl hy⟩
def attr_of(hb:attributeBase e f env (eval e env)=eval e env)
  (h:wpAny (model prog w) A (eval e env) (λo s₁=>wpAny (model prog w) A (getAttr o f true) Q E s₁) E s):wpAny (model prog w) A (eval (.Attribute e f pos) env) Q E s:=
 Attribute_any_ h (by rw[arm_eval_Attribute,hb])
end
def tFld(K:PySem.W.Frag)(ta:TE)(f:Str):TE:=λσ H Q=>ta σ H λx H1=>∃a C dx fs v,x=.ref a/\H1 a=some (.ins C dx fs)/\Cls K C/\NoAttr K C f/\fs.lookup f=some v/\Q v H1
def sFld(K:PySem.W.Frag)(ta tv:TE)(f:Str):TS:=λD σ H=>tv σ H λy H1=>ta σ H1 λx H2=>∃a C dx fs,x=.ref a/\H2 a=some (.ins C dx fs)/\Cls K C/\NoAttr K C f/\fs.length<1000 /\
 D.nx σ (upd H2 a (.ins C dx (putF f y fs)))
def InOp(X:Cx)(op:Operator)(rd:V->V->Hp->VK->Prop):Prop:=
 ∀(Xe:List (Addr×Obj)) (s:Shared) (σ:St) (H:Hp) (x y:V) (u v:Value) (Q:VK),Inv X Xe σ H s->RelV x u->RelV y v->rd x y H Q->wpAny (model X.prog X.w) X.A (inplaceOp op u v) (EP X Xe σ Q) X.xe s
def sFldAug(K:PySem.W.Frag)(ta tv:TE)(rd:V->V->Hp->VK->Prop)(f:Str):TS:=λD σ H=>ta σ H λx H1=>∃a C dx fs v,x=.ref a/\H1 a=some (.ins C dx fs)/\Cls K C/\NoAttr K C f/\fs.lookup f=some v /\
 tv σ H1 λy H2=>rd v y H2 λz H3=>∃dx' fs',H3 a=some (.ins C dx' fs')/\fs'.length<1000/\D.nx σ (upd H3 a (.ins C dx' (putF f z fs')))
section
variable{X:Cx}{o e value:Expr}{f:Str}{pos pos' tpos:Pos}{ta tv:TE}
def pe_fld(he:PE X e ta)(hb:attributeBase e f X.env (eval e X.env)=eval e X.env):PE X (.Attribute e f pos) (tFld X.K ta f):=by
 intro Xe s σ H Q I h;refine attr_of hb (thn (he Xe s σ H _ I h) λu s1 ⟨x,H1,I1,rx,a,C,dx,fs,v,ex,ea,c,n,l,q⟩=>?_)
 subst ex;obtain rfl:u=Value.ref a:=rx;exact getattr_ok I1 ea c n l λu' s2 I2 ru=>⟨v,H1,I2,ru,q⟩
def ps_fld(ha:PE X o ta)(hv:PE X value tv)(hs:swapsWith value (some (.Attribute o f pos')) pos.line X.env=pure false):PS X (.Assign [.Attribute o f pos'] value pos) (sFld X.K ta tv f):=by
 intro Xe s σ H D I h;refine plainObj_wpAny_Assign_Attribute (thn (hv Xe s σ H _ I h) λu s1 ⟨y,H1,I1,ry,q⟩=>thn (ha Xe s1 σ H1 _ I1 q) λov s2 ⟨x,H2,I2,rx,a,C,dx,fs,ex,ea,c,n,l,q2⟩=>?_) hs
 subst ex;obtain rfl:ov=Value.ref a:=rx;exact setattr_ok I2 ea c n l ry λs3 I3=>⟨σ,_,I3,q2⟩
def ps_fldaug(ha:PE X o ta)(hv:PE X value tv)(hop:InOp X op rd):PS X (.AugAssign (.Attribute o f tpos) op value pos) (sFldAug X.K ta tv rd f):=by
 intro Xe s σ H D I h;refine wpAny_AugAssign_AttributeAny (thn (ha Xe s σ H _ I h) λov s1 ⟨x,H1,I1,rx,a,C,dx,fs,v,ex,ea,c,n,l,q⟩=>?_)
 subst ex;obtain rfl:ov=Value.ref a:=rx;refine getattr_ok I1 ea c n l λu s2 I2 ru=>thn (hv Xe s2 σ H1 _ I2 q) λw3 s3 ⟨y,H2,I3,ry,q3⟩=>thn (hop Xe s3 σ H2 v y u w3 _ I3 ru ry q3) λw4 s4 ⟨z,H3,I4,rz,dx',fs',ea',l',q4⟩=>?_
 exact setattr_ok I4 ea' c n l' rz λs5 I5=>⟨σ,_,I5,q4⟩
def methcall_of(he:PE X e te)(I:Inv X Xe σ H s)
  (h:te σ H λx H1=>∃a C dx fs g,x=.ref a/\H1 a=some (.ins C dx fs)/\Cls X.K C/\Meth X.K C m g/\fs.lookup m=none /\
    ∀s1,Inv X Xe σ H1 s1->wpAny (model X.prog X.w) X.A (callWith pos (.ref g) [.ref a] (backTo pos (starEach args X.env)) (backToKw pos (keywordEach [] X.env))) Q X.xe s1)
  (ht:eval (.Call (.Attribute e m apos) args [] pos) X.env=(do
    let ov <-eval e X.env
    standAt apos.atName
    let (f,first) <-holding [ov] (getMethod ov m pl)
    callWith pos f first (backTo pos (starEach args X.env)) (backToKw pos (keywordEach [] X.env)))) :
  wpAny (model X.prog X.w) X.A (eval (.Call (.Attribute e m apos) args [] pos) X.env) Q X.xe s:=by
 refine V0 (pl:=pl) (thn (he Xe s σ H _ I h) λu s1 ⟨x,H1,I1,rx,a,C,dx,fs,g,ex,ea,c,k,l,q⟩=>?_) ht
 subst ex;obtain rfl:u=Value.ref a:=rx;exact getmeth_ok I1 ea c k l (q s1 I1)
end
section
variable{X:Cx}{Xe:List (Addr×Obj)}{σ:St}{H:Hp}{s:Shared}{A:Around}{E:Value->Shared->Prop}{Q:Value->Shared->Prop}{c:Value}{b:Bool}
inductive TyOf(K:PySem.W.Frag)(H:Hp):V->Value->Prop where
 |non:TyOf K H .non (.type "NoneType")
 |bl (x:Bool):TyOf K H (.bl x) (.type "bool")
 |int (i:Int):TyOf K H (.int i) (.type "int")
 |str (x:Str):TyOf K H (.str x) (.type "str")
 |flt (x:UInt64):TyOf K H (.flt x) (.type "float")
 |lst {a:Addr}{xs:List V} (e:H a=some (.lst xs)):TyOf K H (.ref a) (.type "list")
 |frz {a:Addr}{o:Obj}{xs:List V} (e:H a=some (.frz o (.lst xs))):TyOf K H (.ref a) (.type "list")
 |tup {a:Addr}{xs:List V} (e:H a=some (.tup xs)):TyOf K H (.ref a) (.type "tuple")
 |dK {a:Addr}{kvs:List (Key×V)} (e:H a=some (.dK kvs)):TyOf K H (.ref a) (.type "dict")
 |dT {a:Addr}{kvs:List (List Key×V)} (e:H a=some (.dT kvs)):TyOf K H (.ref a) (.type "dict")
 |ins {a C dx:Addr}{fs:List (Str×V)} (e:H a=some (.ins C dx fs)) (cl:Cls K C) (ha:PySem.W.findIn K (.ref C) "__class__"=some (some (.builtin "object.__class__")))
   (hn:PySem.W.specialIn K (.builtin "object.__class__") "__get__"=some (some (.builtin "getset_descriptor.__get__"))) (htk:PySem.W.takesIn K (.builtin "object.__class__")=some true)
   (hm:PySem.W.mroIn K C (.type "object")=some true):TyOf K H (.ref a) (.ref C)
def isinst_ok(I:Inv X Xe σ H s)(rx:RelV x u)(ty:TyOf X.K H x t)(e:PySem.W.kitOne X.K t c=some b)(h:∀ tk,Q (.bool b) { s with toks:=tk }):
  wpAny (model X.prog X.w) A (call (.builtin "isinstance") [u,c]) Q E s:=by
 cases ty with
 |non=>cases (show u=Value.none from rx);exact Ut PySem.W.kitx_none I.kIn True.intro e (λz=>nomatch z) h
 |bl y=>cases (show u=Value.bool y from rx);exact Ut PySem.W.kitx_bool I.kIn True.intro e (λz=>nomatch z) h
 |int i=>obtain⟨t,q⟩:=(show ∃t,u=Value.int i t from rx);cases q;exact Ut PySem.W.kitx_int I.kIn True.intro e (λz=>nomatch z) h
 |str y=>obtain⟨t,q⟩:=(show ∃t,u=Value.str y t from rx);cases q;exact Ut PySem.W.kitx_str I.kIn True.intro e (λz=>nomatch z) h
 |flt y=>obtain⟨t,q⟩:=(show ∃t,u=Value.float y t from rx);cases q;exact Ut PySem.W.kitx_float I.kIn True.intro e (λz=>nomatch z) h
 | @lst a xs ea=>
   cases (show u=Value.ref a from rx)
   obtain⟨_,_,n,_,h1⟩:=(show ObjOk X.prog X.w H s.heap a (.lst xs) from I.hok a _ ea)
   exact Ut PySem.W.kitx_list I.kIn ⟨_,h1,rfl⟩ e (λz=>nomatch z) h
 | @frz a ob xs ea=>
   cases (show u=Value.ref a from rx)
   obtain⟨_,_,_,n,_,h1⟩:=(show ObjOk X.prog X.w H s.heap a (.frz ob (.lst xs)) from I.hok a _ ea)
   exact Ut PySem.W.kitx_list I.kIn ⟨_,h1,rfl⟩ e (λz=>nomatch z) h
 | @tup a xs ea=>
   cases (show u=Value.ref a from rx)
   obtain⟨_,_,_,p⟩:=(show ObjOk X.prog X.w H s.heap a (.tup xs) from I.hok a _ ea)
   obtain⟨o,h1,h2,_⟩:=p;exact Ut PySem.W.kitx_tuple I.kIn ⟨o,h1,h2⟩ e (λz=>nomatch z) h
 | @dK a kvs ea=>
   cases (show u=Value.ref a from rx)
   obtain⟨_,_,vs,_,p⟩:=(show ObjOk X.prog X.w H s.heap a (.dK kvs) from I.hok a _ ea)
   obtain⟨o,es,ep,h1,h2,_⟩:=p;exact Ut PySem.W.kitx_dict I.kIn ⟨o,h1,h2.1⟩ e (λz=>nomatch z) h
 | @dT a kvs ea=>
   cases (show u=Value.ref a from rx)
   obtain⟨_,_,xs,_,o,es,ep,h1,h2,_⟩:=(show ObjOk X.prog X.w H s.heap a (.dT kvs) from I.hok a _ ea)
   exact Ut PySem.W.kitx_dict I.kIn ⟨o,h1,h2.1⟩ e (λz=>nomatch z) h
 | @ins a C dx fs ea cl ha hn htk hm=>
   cases (show u=Value.ref a from rx)
   obtain⟨mA,O,_⟩:=ins_get I.hok ea;obtain⟨od,J,_⟩:=O.look;exact Ut (PySem.W.kitx_own (cl.get _) cl.hd ha hn htk hm) I.kIn J e (λz=>nomatch z) h
end
open PySem PySem.Spec PyProof.Rows
structure Room(k:Nat)(A:Around):Prop where
 hd:A.handled=none
 dp:A.depth+3*k+5<recursionLimit
 un:A.units+16*k+200<cLine
 gd:A.guards=some []
def Room.mono(r:Room k A)(h:j<=k):Room j A:=⟨r.hd,by have:=r.dp;omega,by have:=r.un;omega,r.gd⟩
theorem Room.deeper(r:Room (k+1) A)(env:Env):Room k (A.deeper env):=
 ⟨r.hd,by have:=r.dp;show A.depth+1+3*k+5<_;omega,by have:=r.un;show A.units+3+16*k+200<_;omega,r.gd⟩
theorem Room.in1(r:Room (k+1) A):Room k A.in1:=
 ⟨r.hd,by have:=r.dp;show A.depth+3*k+5<_;omega,by have:=r.un;show A.units+1+16*k+200<_;omega,r.gd⟩
def make_depth{A:Around}{C:Addr}{us:List Value}{kw:List (Str×Value)}:(A.under (.builtin "type.__call__" ⟨.ref C::us,kw⟩)).depth=A.depth+1:=by
 first | rfl | simp[Around.under,Code.weight,Code.isCreation,Code.isGuard,Code.isCaller,Code.frames,Code.isFrame,guardIds]
def make_units{A:Around}{C:Addr}{us:List Value}{kw:List (Str×Value)}:(A.under (.builtin "type.__call__" ⟨.ref C::us,kw⟩)).units=A.units+1:=by
 first | rfl | simp[Around.under,Code.cUnits,Code.frames,Code.isFrame]
def Al{A:Around}{C:Addr}{us:List Value}{kw:List (Str×Value)}:(A.under (.builtin "type.__call__" ⟨.ref C::us,kw⟩)).guards=A.guards:=by simp[Around.under,Code.guards,Code.isGuard,guardIds,pushGuards]
def Room.make(r:Room (k+1) A)(C:Addr)(us:List Value)(kw:List (Str×Value)):Room k (A.under (.builtin "type.__call__" ⟨.ref C::us,kw⟩)):=
 ⟨r.hd,by have:=r.dp;rw[make_depth];omega,by have:=r.un;rw[make_units];omega,by first | (rw[Al];exact r.gd) | exact r.gd⟩
theorem Room.depth(r:Room k A):A.depth<recursionLimit:=by have:=r.dp;omega
theorem Room.units(r:Room k A):A.units+64<cLine:=by have:=r.un;omega
def tNil:TA:=λz H Q=>Q [] H
def tCons(ta:TE)(tr:TA):TA:=λσ H Q=>ta σ H λx H1=>tr σ H1 λxs H2=>Q (x::xs) H2
section
variable{X:Cx}{e:Expr}{es:List Expr}{te:TE}{t:TA}{pos:Pos}
def pa_nil:PA X [] tNil:=λz z z z H Q I h=>Calls.spliced_nil ⟨[],H,I,.nil,h⟩
def pa_cons(ha:PE X e te)(hr:PA X es t)(hs:starEach (e::es) X.env=(false,eval e X.env)::starEach es X.env:=by rfl):PA X (e::es) (tCons te t):=by
 intro pos Xe s σ H Q I h;rw[hs];show wpAny _ _ (spliced ((false,eval e X.env)::backTo pos (starEach es X.env))) _ _ s;refine Calls.spliced_cons (thn (ha Xe s σ H _ I h) λu s1 ⟨x,H1,I1,r1,q1⟩=>?_)
 exact thn (hr pos Xe s1 σ H1 _ I1 q1) λus s2 ⟨xs,H2,I2,r2,q2⟩=>⟨x::xs,H2,I2,.cons r1 r2,q2⟩
def tTup(t:TA):TE:=λσ H Q=>t σ H λxs H1=>xs.length<=sizeLine/\∀p,H1 p=none->Q (.ref p) (upd H1 p (.tup xs))
def tLst(t:TA):TE:=λσ H Q=>t σ H λxs H1=>xs.length<=sizeLine/\∀p,H1 p=none->Q (.ref p) (upd H1 p (.lst xs))
def pe_tup{x1}(h:PA X es t):PE X (.Tuple es x1 pos) (tTup t):=by
 intro Xe s σ H Q I hq;refine wpAny_Tuple_spliced (thn (h pos Xe s σ H _ I hq) λus s1 ⟨xs,H1,I1,r,z,q⟩=>⟨by rw[<-r.length];exact z,?_⟩)
 have hf:H1 s1.heap.objs.size=none:=I1.hok.fresh (Td _);refine⟨.ref s1.heap.objs.size,upd H1 s1.heap.objs.size (.tup xs),I1.laid (t':=s1.toks) (λb u e=>SX _ e) (Td _) ?_,rfl,q _ hf⟩
 exact⟨z,us,r,⟨_,Tr _ rfl,rfl,_,rfl⟩⟩
def pe_lst(h:PA X es t):PE X (.List es pos) (tLst t):=by
 intro Xe s σ H Q I hq;refine wpAny_List_spliced (thn (h pos Xe s σ H _ I hq) λus s1 ⟨xs,H1,I1,r,z,q⟩=>⟨by rw[<-r.length];exact z,?_⟩)
 have hf:H1 s1.heap.objs.size=none:=I1.hok.fresh (Td _);refine⟨.ref s1.heap.objs.size,upd H1 s1.heap.objs.size (.lst xs),I1.laid (t':=s1.toks) (λb u e=>SX _ e) (Td _) ?_,rfl,q _ hf⟩
 exact⟨z,us,0,r,Tr _ rfl⟩
end
abbrev Sp:=List V->Hp->VK->XK->Prop
abbrev CXT:=List Env->Hp->Shared->XK->Value->Shared->Prop
structure Env0(P:Program)(w:World)(K:PySem.W.Frag)(mg:Str->Option Value)(base:Heap)(A:Around)(outer:List Env)(s:Shared)(H:Hp):Prop where
 frames:A.frames=some outer
 mod:Mod K mg base
 bs:∀b o,base.get? b=some o->s.heap.get? b=some o/\H b=none
 bsz:base.objs.size<=s.heap.objs.size
 funs:s.heap.FunFrames base outer
 frf:∀b∈frs outer,H b=none
 hok:HOk P w H s.heap
 bare:AllBare s.gens
def CE(outer:List Env)(P:Program)(w:World)(H:Hp)(s:Shared)(Q:VK)(u:Value)(s':Shared):Prop:=
 ∃v H',s'.os=s.os/\AllBare s'.gens/\Un (frs outer) [] H H' s.heap s'.heap/\HOk P w H' s'.heap/\RelV v u/\Q v H'
def CR(CX:CXT)(outer:List Env)(P:Program)(w:World)(H:Hp)(s:Shared)(Q:VK)(E:XK)(r:Result)(s':Shared):Prop:=
 match r with
 |.ok (.ret u)=>CE outer P w H s Q u s'
 |.ok _=>False
 |.error e=>CX outer H s E e s'
structure FnOk(P:Program)(w:World)(K:PySem.W.Frag)(mg:Str->Option Value)(base:Heap)(CX:CXT)(k:Nat)(f:Addr)(fd:FuncData)(ps:List Str)(sp:Sp):Prop where
 len:∀vs H Q E,sp vs H Q E->vs.length=ps.length
 run:∀(A:Around) (outer:List Env) (s:Shared) (H:Hp) (args:Args) (us:List Value) (vs:List V) (Q:VK) (E:XK),Room k A->Env0 P w K mg base A outer s H->BindsTo s fd args (ps.zip us)->Vals vs us->sp vs H Q E->
  codeAny (model P w) A (.call (.ref f) args) (CR CX outer P w H s Q E) s
theorem FnOk.mono{P:Program}{w:World}{K:PySem.W.Frag}{mg:Str->Option Value}{base:Heap}{CX:CXT}{j k:Nat}{f:Addr}{fd:FuncData}{ps:List Str}{sp:Sp}(F:FnOk P w K mg base CX j f fd ps sp)(h:j<=k):
  FnOk P w K mg base CX k f fd ps sp:=⟨F.len,λA outer s H args us vs Q E hr=>F.run A outer s H args us vs Q E (hr.mono h)⟩
def FnOk.imp{P:Program}{w:World}{K:PySem.W.Frag}{mg:Str->Option Value}{base:Heap}{CX:CXT}{k:Nat}{f:Addr}{fd:FuncData}{ps:List Str}{sp sp':Sp}(F:FnOk P w K mg base CX k f fd ps sp)
  (h:∀vs H Q E,sp' vs H Q E->sp vs H Q E):FnOk P w K mg base CX k f fd ps sp':=
 ⟨λvs H Q E q=>F.len vs H Q E (h _ _ _ _ q),λA outer s H args us vs Q E hr he hb hv hs=>F.run A outer s H args us vs Q E hr he hb hv (h _ _ _ _ hs)⟩
def Env0.make{P:Program}{w:World}{K:PySem.W.Frag}{mg:Str->Option Value}{base:Heap}{A:Around}{outer:List Env}{s:Shared}{H:Hp}(e:Env0 P w K mg base A outer s H)(C:Addr)(us:List Value)(kw:List (Str×Value)):
  Env0 P w K mg base (A.under (.builtin "type.__call__" ⟨.ref C::us,kw⟩)) outer s H:=⟨by first | exact e.frames | (simpa[Around.under,Code.envs,Code.isFrame,pushEnvs] using e.frames),e.mod,e.bs,e.bsz,e.funs,e.frf,e.hok,e.bare⟩
section
variable{X:Cx}{Xe:List (Addr×Obj)}{σ:St}{H:Hp}{s s':Shared}
def Inv.env0(I:Inv X Xe σ H s):Env0 X.prog X.w X.K X.mg X.base X.A X.stack s H:=
 ⟨I.ok.frames,I.ok.mod,I.bs,T7 I.ok.bsz I.sz,I.stack,I.stkFree,I.hok,I.bare⟩
def Inv.after(I:Inv X Xe σ H s)(h:CE X.stack X.prog X.w H s Q u s'):EP X Xe σ Q u s':=by obtain⟨v,H',os,bare,un,hok,r,q⟩:=h;obtain⟨hh,g,d,t,os'⟩:=s';obtain rfl:os'=s.os:=os;exact⟨v,H',I.call (h':=hh) (g':=g) (d':=d) (t':=t) (ch:=[]) un hok bare (λb z=>absurd z (by simp)),r,q⟩
end
def tCall(sp:Sp)(dvs:List V)(E:XK)(t:TA):TE:=λσ H Q=>t σ H λvs H1=>sp (vs++dvs) H1 Q E
def tMeth(C:Addr)(m:Str)(sp:Sp)(dvs:List V)(E:XK)(ta:TE)(t:TA):TE:=λσ H Q=>ta σ H λx H1=>∃a dx fs,x=.ref a/\H1 a=some (.ins C dx fs)/\fs.lookup m=none /\
 t σ H1 λvs H2=>sp (x::(vs++dvs)) H2 Q E
def tMake(C:Addr)(sp:Sp)(dvs:List V)(E:XK)(t:TA):TE:=λσ H Q=>t σ H λvs H1=>∀x dx,H1 x=none->H1 dx=none->dx≠x->
 sp (.ref x::(vs++dvs)) (upd (upd H1 dx (.own x)) x (.ins C dx [])) (λv H2=>v=.non/\Q (.ref x) H2) E
def Binds(K:PySem.W.Frag)(fd:FuncData)(ps:List Str)(ds:List Value):Prop:=
 ∀(s:Shared) (us:List Value),K.In s.heap->(us++ds).length=ps.length->BindsTo s fd ⟨us,[]⟩ (ps.zip (us++ds))
def Binds.all{K:PySem.W.Frag}{fd:FuncData}{ps:List Str}(h:∀us:List Value,us.length=ps.length->bindArgs fd ⟨us,[]⟩=pure (ps.zip us)):Binds K fd ps []:=λs us z hl=>by
 rw[Ux]at hl ⊢
 exact .of_eq (h us hl)
def Passes(CX:CXT)(X:Cx)(E:XK):Prop:=∀(Xe:List (Addr×Obj)) (σ:St) (H:Hp) (s:Shared) (e:Value) (s':Shared),Inv X Xe σ H s->CX X.stack H s E e s'->X.xe e s'
section
variable{X:Cx}{CX:CXT}{k:Nat}{f C:Addr}{fd:FuncData}{ps:List Str}{sp:Sp}{dvs:List V}{ds:List Value}{E:XK}{x m:Str}{p pos apos:Pos}{e o:Expr}{es:List Expr}{ta:TE}{t:TA}
def run_fn(F:FnOk X.prog X.w X.K X.mg X.base CX k f fd ps sp)(hr:Room k X.A)(hb:Binds X.K fd ps ds)(hd:Vals dvs ds)(hx:Passes CX X E)
  (I:Inv X Xe σ H s) (r:Vals vs us) (h:sp (vs++dvs) H Q E):wpAny (model X.prog X.w) X.A (call (.ref f) us) (EP X Xe σ Q) X.xe s:=by
 have r2:Vals (vs++dvs) (us++ds):=r.append hd;have hl:(us++ds).length=ps.length:=by rw[<-r2.length];exact F.len _ _ _ _ h
 refine Vo (Vj (F.run X.A X.stack s H ⟨us,[]⟩ (us++ds) (vs++dvs) Q E hr I.env0 (hb s us I.kIn hl) r2 h) λr s' hq=>?_)
 cases r with
 |error e=>exact hx Xe σ H s e s' I hq
 |ok fl=>
   cases fl with
   |ret u=>exact I.after hq
   |next=>exact False.elim hq
   |brk=>exact False.elim hq
   |cont=>exact False.elim hq
def pe_call(F:FnOk X.prog X.w X.K X.mg X.base CX k f fd ps sp)(hr:Room k X.A)(hg:Gl X x)(hm:X.mg x=some (.ref f))(hk:PySem.W.keepIn X.K (.ref f)=true)(hb:Binds X.K fd ps ds)(hd:Vals dvs ds)(hx:Passes CX X E)
  (ha:PA X (e::es) t) (hdb:(x==("__debug__":Str))=false:=by decide) (he:starEach (e::es) X.env=(false,eval e X.env)::starEach es X.env:=by rfl) (hpl:(backTo pos (starEach es X.env)).any (·.1)=false:=by rfl) :
  PE X (.Call (.Name x p) (e::es) [] pos) (tCall sp dvs E t):=by
 intro Xe s σ H Q I h;refine Vf (ld_glob I hg hm ?_ hdb);refine VH (h₀:=X.base) I.ok.mod.kin hk (thn (ha pos Xe s σ H _ I h) λus s1 ⟨vs,H1,I1,r,q⟩=>⟨I1.kIn,?_⟩) he hpl
 exact run_fn F hr hb hd hx I1 r q
def pe_meth(he:PE X o ta)(c:Cls X.K C)(hm:Meth X.K C m f)(F:FnOk X.prog X.w X.K X.mg X.base CX k f fd ps sp)(hr:Room k X.A)(hb:Binds X.K fd ps ds)(hd:Vals dvs ds)(hx:Passes CX X E)(ha:PA X (e::es) t)
  (hst:starEach (e::es) X.env=(false,eval e X.env)::starEach es X.env:=by rfl) (hpl:(backTo pos (starEach es X.env)).any (·.1)=false:=by rfl)
  (ht:eval (.Call (.Attribute o m apos) (e::es) [] pos) X.env=(do
    let ov <-eval o X.env
    standAt apos.atName
    let (f,first) <-holding [ov] (getMethod ov m pl)
    callWith pos f first (backTo pos (starEach (e::es) X.env)) (backToKw pos (keywordEach [] X.env))):=by rfl) :
  PE X (.Call (.Attribute o m apos) (e::es) [] pos) (tMeth C m sp dvs E ta t):=by
 intro Xe s σ H Q I h;refine V0 (pl:=pl) (thn (he Xe s σ H _ I h) λu s1 ⟨x,H1,I1,rx,a,dx,fs,ex,ea,l,q⟩=>?_) ht
 subst ex;obtain rfl:u=Value.ref a:=rx;refine getmeth_ok I1 ea c hm l ?_;refine VH (first:=[.ref a]) (h₀:=X.base) I.ok.mod.kin hm.kp (thn (ha pos Xe s1 σ H1 _ I1 q) λus s2 ⟨vs,H2,I2,r,q2⟩=>⟨I2.kIn,?_⟩) hst hpl
 exact run_fn (us:=.ref a::us) (vs:=.ref a::vs) F hr hb hd hx I2 (.cons rfl r) q2
def pe_meth0(he:PE X o ta)(c:Cls X.K C)(hm:Meth X.K C m f)(F:FnOk X.prog X.w X.K X.mg X.base CX k f fd ps sp)(hr:Room k X.A)(hb:Binds X.K fd ps ds)(hd:Vals dvs ds)(hx:Passes CX X E)
  (ht:eval (.Call (.Attribute o m apos) [] [] pos) X.env=(do
    let ov <-eval o X.env
    standAt apos.atName
    let (f,first) <-holding [ov] (getMethod ov m pl)
    callWith pos f first (backTo pos (starEach [] X.env)) (backToKw pos (keywordEach [] X.env))):=by rfl) :
  PE X (.Call (.Attribute o m apos) [] [] pos) (tMeth C m sp dvs E ta tNil):=by
 intro Xe s σ H Q I h;refine V0 (pl:=pl) (thn (he Xe s σ H _ I h) λu s1 ⟨x,H1,I1,rx,a,dx,fs,ex,ea,l,q⟩=>?_) ht
 subst ex;obtain rfl:u=Value.ref a:=rx;refine getmeth_ok I1 ea c hm l ?_;exact PySem.W.callWith_K0 (first:=[.ref a]) I1.kIn hm.kp (run_fn (us:=[.ref a]) (vs:=[.ref a]) F hr hb hd hx I1 (.cons rfl .nil) q)
structure Mk(K:PySem.W.Frag)(C f:Addr):Prop where
 makes:PySem.W.makesIn K C=true
 init:PySem.W.findIn K (.ref C) "__init__"=some (some (.ref f))
 fn:PySem.W.isFn K (.ref f)=true
 kp:PySem.W.keepIn K (.ref C)=true
def run_make(M:Mk X.K C f)(F:FnOk X.prog X.w X.K X.mg X.base CX k f fd ps sp)(hr:Room (k + 1) X.A)(hb:Binds X.K fd ps ds)(hd:Vals dvs ds)
  (hx:Passes CX X E) (I:Inv X Xe σ H s) (r:Vals vs us)
  (h:∀x dx,H x=none->H dx=none->dx≠x->sp (.ref x::(vs++dvs)) (upd (upd H dx (.own x)) x (.ins C dx [])) (λv H2=>v=.non/\Q (.ref x) H2) E) :
  wpAny (model X.prog X.w) X.A (call (.ref C) us) (EP X Xe σ Q) X.xe s:=by
 have hq:=h (s.heap.objs.size+1) s.heap.objs.size (I.hok.fresh (Nat.le_succ _)) (I.hok.fresh (Td _)) (Tv (Vz _));have I2:=Inv.made (C:=C) I;have r2:Vals (V.ref (s.heap.objs.size+1)::(vs++dvs)) (Value.ref (s.heap.objs.size+1)::(us++ds)):=.cons rfl (r.append hd);have hl:(Value.ref (s.heap.objs.size+1)::us++ds).length=ps.length:=by have e:=r2.length;rw[F.len _ _ _ _ hq]at e;exact e.symm
 refine Vo (make_map (f:=f) I.kIn M.makes M.init (VG.mp M.fn) (Vj (F.run _ X.stack _ _ ⟨Value.ref (s.heap.objs.size+1)::us,[]⟩ (Value.ref (s.heap.objs.size+1)::(us++ds)) _ _ E (hr.make C us [])
  (I2.env0.make C us []) (hb _ (Value.ref (s.heap.objs.size+1)::us) I2.kIn hl) r2 hq) λr s' hq'=>?_))
 cases r with
 |error e=>exact hx Xe σ _ _ e s' I2 hq'
 | ok fl=>
   cases fl with
   |ret u=>obtain⟨v,H',I3,rv,ev,q3⟩:=I2.after hq';subst ev;exact⟨rv,⟨V.ref (s.heap.objs.size+1),H',I3,rfl,q3⟩⟩
   |next=>exact False.elim hq'
   |brk=>exact False.elim hq'
   |cont=>exact False.elim hq'
def pe_make(M:Mk X.K C f)(F:FnOk X.prog X.w X.K X.mg X.base CX k f fd ps sp)(hr:Room (k+1) X.A)(hg:Gl X x)(hm:X.mg x=some (.ref C))(hb:Binds X.K fd ps ds)(hd:Vals dvs ds)(hx:Passes CX X E)
  (ha:PA X (e::es) t) (hdb:(x==("__debug__":Str))=false:=by decide) (he:starEach (e::es) X.env=(false,eval e X.env)::starEach es X.env:=by rfl) (hpl:(backTo pos (starEach es X.env)).any (·.1)=false:=by rfl) :
  PE X (.Call (.Name x p) (e::es) [] pos) (tMake C sp dvs E t):=by
 intro Xe s σ H Q I h;refine Vf (ld_glob I hg hm ?_ hdb);refine VH (h₀:=X.base) I.ok.mod.kin M.kp (thn (ha pos Xe s σ H _ I h) λus s1 ⟨vs,H1,I1,r,q⟩=>⟨I1.kIn,?_⟩) he hpl
 exact run_make M F hr hb hd hx I1 r q
end
def PK(X:Cx)(kws:List Keyword)(t:TA):Prop:=
 ∀(pos:Pos) (Xe:List (Addr×Obj)) (s:Shared) (σ:St) (H:Hp) (Q:List V->Hp->Prop),Inv X Xe σ H s->t σ H Q->wpAny (model X.prog X.w) X.A (evalAll ((backToKw pos (keywordEach kws X.env)).map (·.2))) (AP X Xe σ Q) X.xe s
section
variable{X:Cx}{CX:CXT}{k:Nat}{f C:Addr}{fd:FuncData}{ps ks:List Str}{sp:Sp}{E:XK}{x m:Str}{p pos apos kpos:Pos}{e o:Expr}{es:List Expr}{kws:List Keyword}{te ta:TE}{t tk:TA}{nm:Option Str}
def pk_nil:PK X [] tNil:=λz z z z H Q I h=>wpAny_evalAll_nil ⟨[],H,I,.nil,h⟩
def pk_cons(ha:PE X e te)(hr:PK X kws t):PK X (⟨nm,e,kpos⟩::kws) (tCons te t):=by
 intro pos Xe s σ H Q I h;show wpAny _ _ (evalAll ((do let v <-eval e X.env;standAt pos;pure v)::(backToKw pos (keywordEach kws X.env)).map (·.2))) _ _ s
 refine wpAny_evalAll_cons (SQ (thn (ha Xe s σ H _ I h) λu s1 ⟨x,H1,I1,r1,q1⟩=>SQ (VF (S6 ?_))))
 exact thn (hr pos Xe s1 σ H1 _ I1 q1) λus s2 ⟨xs,H2,I2,r2,q2⟩=>⟨x::xs,H2,I2,.cons r1 r2,q2⟩
structure KBinds(K:PySem.W.Frag)(fd:FuncData)(ps ks:List Str)(g:List Value->List Value->List Value)(gV:List V->List V->List V):Prop where
 to:∀(s:Shared) (us ws:List Value),K.In s.heap->(g us ws).length=ps.length->BindsTo s fd ⟨us,ks.zip ws⟩ (ps.zip (g us ws))
 rel:∀{vs:List V}{us:List Value}{zs:List V}{ws:List Value},Vals vs us->Vals zs ws->Vals (gV vs zs) (g us ws)
variable{g:List Value->List Value->List Value}{gV:List V->List V->List V}
def run_fnk(F:FnOk X.prog X.w X.K X.mg X.base CX k f fd ps sp)(hr:Room k X.A)(hb:KBinds X.K fd ps ks g gV)(hx:Passes CX X E)
  (I:Inv X Xe σ H s) (r:Vals vs us) (rz:Vals zs ws) (h:sp (gV vs zs) H Q E):wpAny (model X.prog X.w) X.A (call (.ref f) us (ks.zip ws)) (EP X Xe σ Q) X.xe s:=by
 have r2:=hb.rel r rz;have hl:(g us ws).length=ps.length:=by rw[<-r2.length];exact F.len _ _ _ _ h
 refine Vo (Vj (F.run X.A X.stack s H ⟨us,ks.zip ws⟩ (g us ws) (gV vs zs) Q E hr I.env0 (hb.to s us ws I.kIn hl) r2 h) λr s' hq=>?_)
 cases r with
 |error e=>exact hx Xe σ H s e s' I hq
 |ok fl=>
   cases fl with
   |ret u=>exact I.after hq
   |next=>exact False.elim hq
   |brk=>exact False.elim hq
   |cont=>exact False.elim hq
end
structure FnScope(N P:List Str)(sc:Scope):Prop where
 kind:sc.kind=.function
 co:sc.isCoroutine=false
 gen:sc.isGenerator=false
 nd:N.Nodup
 pre:N.take P.length=P
 par:∀x∈P,sc.names.lookup x=some .local\/sc.names.lookup x=some .cell
 nofree:∀y∈sc.names,y.2≠.free
theorem bindL_out{kindOf:Str->Option NameKind}:∀ {binds:List (Str×Value)}{m:Str->Option Value},(∀ v,(x,v)∉binds)->bindL kindOf binds m x=m x
 |[],_,_=>rfl
 | (n,v)::r,m,h=>by
   unfold bindL;rw[bindL_out λw hw=>h w (T8 _ hw)]
   split
   ·have:x≠n:=by rintro rfl;exact h v Ui
    simp[this]
   ·rfl
theorem bindC_out{kindOf:Str->Option NameKind}:∀ {binds:List (Str×Value)}{m:Str->Option Value},(∀ v,(x,v)∉binds)->bindC kindOf binds m x=m x
 |[],_,_=>rfl
 | (n,v)::r,m,h=>by
   unfold bindC;rw[bindC_out λw hw=>h w (T8 _ hw)]
   split
   ·rfl
   ·have:x≠n:=by rintro rfl;exact h v Ui
    simp[this]
theorem bindL_get{kindOf:Str->Option NameKind}:∀ {P:List Str}{vs:List Value}{i:Nat}{m:Str->Option Value},P.Nodup->P[i]?=some x->vs[i]?=some v->kindOf x=some .local->
  bindL kindOf (P.zip vs) m x=some v
 |[],_,_,_,_,h,_,_=>by simp at h
 |_::_,[],_,_,_,_,h,_=>by simp at h
 |p::P,w::vs,0,m,nd,h1,h2,hk=>by
   simp at h1 h2;subst h1;subst h2;show bindL kindOf ((p,w)::P.zip vs) m p=_;unfold bindL;rw[bindL_out λv hv=>(WD.mp nd).1 (Wd hv).1,S7 hk]
   simp
 |p::P,w::vs,i+1,m,nd,h1,h2,hk=>by show bindL kindOf ((p,w)::P.zip vs) m x=_;unfold bindL;exact bindL_get (i:=i) (WD.mp nd).2 (by simpa using h1) (by simpa using h2) hk
theorem bindC_get{kindOf:Str->Option NameKind}:∀ {P:List Str}{vs:List Value}{i:Nat}{m:Str->Option Value},P.Nodup->P[i]?=some x->vs[i]?=some v->kindOf x≠some .local->
  bindC kindOf (P.zip vs) m x=some v
 |[],_,_,_,_,h,_,_=>by simp at h
 |_::_,[],_,_,_,_,h,_=>by simp at h
 |p::P,w::vs,0,m,nd,h1,h2,hk=>by
   simp at h1 h2;subst h1;subst h2;show bindC kindOf ((p,w)::P.zip vs) m p=_;unfold bindC;rw[bindC_out λv hv=>(WD.mp nd).1 (Wd hv).1,Tq hk]
   simp
 |p::P,w::vs,i+1,m,nd,h1,h2,hk=>by show bindC kindOf ((p,w)::P.zip vs) m x=_;unfold bindC;exact bindC_get (i:=i) (WD.mp nd).2 (by simpa using h1) (by simpa using h2) hk
def start(N:List Str)(vs:List V):St:=vs.map some++List.replicate (N.length-vs.length) none
def cxOf(CX:CXT)(P:Program)(w:World)(K:PySem.W.Frag)(mg:Str->Option Value)(base:Heap)(N:List Str)(qual:Str)(scope:Scope)(f:Addr)(cd:Value)(A:Around)(outer:List Env)(s:Shared)(H:Hp)(E:XK):Cx where
 prog:=P
 w:=w
 K:=K
 mg:=mg
 base:=base
 A:=A.deeper (envOfC qual scope s.heap.objs.size f cd)
 N:=N
 s₀:=s
 H₀:=H
 env:=envOfC qual scope s.heap.objs.size f cd
 outer:=outer
 stack:=envOfC qual scope s.heap.objs.size f cd::outer
 ex:=[]
 calm:=true
 fn:=λz=>true
 pn:=[]
 xe:=λe s'=>wpAny (model P w) (A.deeper (envOfC qual scope s.heap.objs.size f cd)) (leaving (envOfC qual scope s.heap.objs.size f cd) e) (λz s''=>CX outer H s E e s'') (λe' s''=>CX outer H s E e' s'') s'
def cell_has{sc:Scope}{n:Nat}{x:Str}(h:sc.names.lookup x=some .cell):∃c,(cellsFrom n sc.names []).lookup x=some c:=by have q:=VJ sc.names n [] (.inl h);exact Uk.mp q
def inv_start{CX:CXT}{P:Program}{w:World}{K:PySem.W.Frag}{mg:Str->Option Value}{base:Heap}{N ps:List Str}{qual:Str}{scope:Scope}{f:Addr}{cd:Value}{A:Around}{outer:List Env}{s s1:Shared}{H:Hp}{E:XK}{us:List Value}{vs:List V}
  (S:FnScope N ps scope) (hd:A.handled=none) (e0:Env0 P w K mg base A outer s H) (hl:vs.length=ps.length) (r:Vals vs us)
  (x:InCallC s s.heap.objs.size (bindL (envOfC qual scope s.heap.objs.size f cd).kindOf (ps.zip us) λt=>none) (cellsFrom (s.heap.objs.size+1) scope.names []) (bindC (envOfC qual scope s.heap.objs.size f cd).kindOf (ps.zip us) λt=>none) s1) :
  Inv (cxOf CX P w K mg base N qual scope f cd A outer s H E) [] (start N vs) H s1:=by
 have hpl:ps.length<=N.length:=by have:=congrArg List.length S.pre;rw[Vb]at this;omega
 obtain⟨h1,tk,rfl,hk⟩:=x.done;have noA:∀b:Addr,b∉(cxOf CX P w K mg base N qual scope f cd A outer s H E).ex:=λb z=>absurd (show b∈([]:List Addr) from z) (by simp)
 refine⟨⟨e0.mod,S.kind,rfl,rfl,Td _,λy z c h1 h2=>?_,λy hy=>?_,λy c t h=>?_,λt=>hd,Around.frames_deeper e0.frames,.inr ⟨rfl,rfl⟩,λb z=>absurd z (noA b),e0.bs,e0.bsz,λb t t=>noA b,λb z=>absurd z (noA b),e0.funs,e0.frf⟩,
  rfl,e0.bare,Un.kept hk,⟨_,x.toInCall.ns,λi y v h1 h2 h3=>?_⟩,λy c h=>⟨_,x.cell y c h⟩,e0.hok.fresh (Td _),λy c h=>?_,λp hp=>absurd (show p∈([]:List (Addr×Obj)) from hp) (by simp),e0.hok.kept hk,?_⟩
 ·exact name_of_addr x.apart (Uu h1) (Uu h2)
 ·have hy:scope.names.lookup y=some .cell\/scope.names.lookup y=some .free:=hy;rcases hy with hy | hy
  ·exact cell_has hy
  ·exact absurd rfl (S.nofree _ (Uu hy))
 ·exact WX (x.above y c (Uu h))
 ·have hi:i<vs.length:=by
   unfold start at h2;by_cases hi:i<vs.length
   ·exact hi
   ·rw[TJ (by simpa using hi)]at h2
    rw[UJ]at h2;split at h2<;>cases h2
  have ha:vs[i]?=some v:=by
   unfold start at h2;rw[S9 (by simpa using hi),TV]at h2
   cases e:vs[i]? with
   |none=>rw[e]at h2;cases h2
   |some a=>rw[e]at h2;cases h2;rfl
  obtain⟨u,hu,rv⟩:=r.get ha;have hp:ps[i]?=some y:=by rw[<-S.pre,List.getElem?_take_of_lt (by omega)];exact h1
  have ndP:ps.Nodup:=by rw[<-S.pre];exact S.nd.sublist (List.take_sublist _ _)
  refine⟨u,rv,?_⟩;rcases S.par y (T5 hp) with k | k
  ·exact .inl ⟨k,bindL_get ndP hp hu k⟩
  ·obtain⟨c,e⟩:=cell_has (n:=s.heap.objs.size+1) k;refine .inr ⟨.inl k,c,e,?_⟩;have q:=x.cell y c e;rw[bindC_get ndP hp hu (by show scope.names.lookup y≠_;rw[k];decide)]at q
   exact q
 ·exact e0.hok.fresh (WX (x.above y c (Uu h)))
 ·unfold start;show _=N.length;rw[TF,Te,Uv];omega
def fn_of{CX:CXT}{P:Program}{w:World}{K:PySem.W.Frag}{mg:Str->Option Value}{base:Heap}{k:Nat}{f:Addr}{name qual:Str}{params:Arguments}{body:List Stmt}{scope:Scope}{dV kV doc pm cdv ct oc:Value}{an od:Option Addr}
  {osl:Array (Option Value)}{N ps:List Str}{sp:Sp} (lk:K.lookup f=some ⟨oc,od,.func (PySem.W.fnOf name qual params body scope dV kV doc pm an cdv ct),osl⟩) (hcd:PySem.W.codeIn K cdv qual=true) (S:FnScope N ps scope)
  (len:∀vs H Q E,sp vs H Q E->vs.length=ps.length)
  (hbody:∀(A:Around) (outer:List Env) (s:Shared) (H:Hp) (vs:List V) (Q:VK) (E:XK),Room k (A.deeper (envOfC qual scope s.heap.objs.size f cdv))->sp vs H Q E->
    ∃t,PSs (cxOf CX P w K mg base N qual scope f cdv A outer s H E) body t/\t { nx:=λz H'=>Q .non H',rt:=Q } (start N vs) H) :
  FnOk P w K mg base CX (k+1) f (PySem.W.fnOf name qual params body scope dV kV doc pm an cdv ct) ps sp:=by
 refine⟨len,λA outer s H args us vs Q E hr e0 hb r hsp=>?_⟩
 have hl:=len _ _ _ _ hsp;have KX:K.In s.heap:=e0.mod.kin.keeps λb o e=>(e0.bs b o e).1
 have lim:s.heap.NoLimit:=e0.mod.nolimit.keeps λb o e=>(e0.bs b o e).1
 have hkind:∀y∈ps.zip us,scope.names.lookup y.1=some .local\/(scope.names.lookup y.1=some .cell/\((cellsFrom (s.heap.objs.size+1) scope.names []).lookup y.1).isSome=true):=λ⟨n,v⟩ hy=>by
  rcases S.par n (Wd hy).1 with q | q
  ·exact .inl q
  ·exact .inr ⟨q,VJ _ _ _ (.inl q)⟩
 refine Wq hr.depth (KX _ _ lk) rfl S.co S.gen rfl (PySem.W.codeRec_of KX hcd) (hb _ _ _ _ ?_);refine V5 S.kind hkind λenv he s1 x=>?_
 subst he;refine⟨lim.keeps x.toInCall.keep,codeAny_func ?_⟩;obtain⟨t,ht,hq⟩:=hbody A outer s H vs Q E (hr.deeper _) hsp;have I:Inv (cxOf CX P w K mg base N qual scope f cdv A outer s H E) [] (start N vs) H s1:=inv_start S hr.hd e0 hl r x;refine Tp (ht [] s1 (start N vs) H _ I hq) (λfl s' hs=>?_) λe s' hs=>hs
 have fin:∀{σ':St}{H':Hp}{v:V}{u:Value},Inv (cxOf CX P w K mg base N qual scope f cdv A outer s H E) [] σ' H' s'->RelV v u->Q v H'->CE outer P w H s Q u s':=
  λ{σ' H' v u} J rv q=>⟨v,H',J.os,J.bare,J.base,J.hok,rv,q⟩
 cases fl with
 |ret u=>obtain⟨v,σ',H',J,rv,q⟩:=hs;exact fin J rv q
 |next=>obtain⟨σ',H',J,q⟩:=hs;exact fin (v:=V.non) (u:=Value.none) J rfl q
 |brk=>obtain⟨_,_,_,q⟩:=hs;exact False.elim q
 |cont=>obtain⟨_,_,_,q⟩:=hs;exact False.elim q
open PySem PySem.Spec PyProof.Rows
section
variable{X:Cx}{x:Str}{p pos:Pos}{e:Expr}{es:List Expr}{t:TA}{id T:String}{r:List V->Hp->VK->Prop}
def tCB(r:List V->Hp->VK->Prop)(t:TA):TE:=λσ H Q=>t σ H λvs H1=>r vs H1 Q
def pe_callB(hc:CallR X (.builtin id) r)(hg:Gl X x)(hm:X.mg x=none)(hv:bootBuiltins x=some (.builtin id))(ha:PA X (e::es) t)(hn:x≠"__name__":=by decide)(hdb:(x==("__debug__":Str))=false:=by decide)
  (he:starEach (e::es) X.env=(false,eval e X.env)::starEach es X.env:=by rfl) (hpl:(backTo pos (starEach es X.env)).any (·.1)=false:=by rfl):PE X (.Call (.Name x p) (e::es) [] pos) (tCB r t):=by
 intro Xe s σ H Q I h;refine Vf (ld_blt I hg hm hv ?_ hn hdb);exact PyProof.Rows.callWith_builtin1 (thn (ha pos Xe s σ H _ I h) λus s1 ⟨vs,H1,I1,r1,q1⟩=>hc Xe s1 σ H1 vs us Q I1 r1 q1) he hpl
def pe_callTy(hc:CallR X (.type T) r)(hg:Gl X x)(hm:X.mg x=none)(hv:bootBuiltins x=some (.type T))(ha:PA X (e::es) t)(hn:x≠"__name__":=by decide)(hdb:(x==("__debug__":Str))=false:=by decide)
  (he:starEach (e::es) X.env=(false,eval e X.env)::starEach es X.env:=by rfl) (hpl:(backTo pos (starEach es X.env)).any (·.1)=false:=by rfl):PE X (.Call (.Name x p) (e::es) [] pos) (tCB r t):=by
 intro Xe s σ H Q I h;refine Vf (ld_blt I hg hm hv ?_ hn hdb);exact Uz (thn (ha pos Xe s σ H _ I h) λus s1 ⟨vs,H1,I1,r1,q1⟩=>hc Xe s1 σ H1 vs us Q I1 r1 q1) he hpl
end
end L2
namespace HT
open PySem PyProof.Rows
section
open PySem.SeqAt
open PySem.AutoSeq1 (wpAny_loadPart')
open PySem.MeetsSeq PySem.MeetsSeq2 PySem.MeetsSeq3
end
section
variable{prog:Program}{w:World}{A:Around}{E:Value->Shared->Prop}{s:Shared}
def cat_tup(ht:IsTup s.heap t vs.toArray)(hb:IsTup s.heap b ws.toArray)(hv:vs≠[])
  (h1:ws=[]->Q (.ref t) s) (h2:ws≠[]->Q (.ref s.heap.objs.size) { s with heap:=s.heap.push { cls:=.type "tuple",data:=.seq (vs++ws).toArray } })
  (hsz:vs.length+ws.length<=sizeLine):wpAny (model prog w) A (binaryOp .Add (.ref t) (.ref b)) Q E s:=by
 obtain⟨⟨cls,dd,data,sl⟩,ho,hc,n,hd⟩:=id ht;obtain⟨⟨cls2,dd2,data2,sl2⟩,ho2,hc2,n2,hd2⟩:=id hb;simp only at hc hd hc2 hd2;subst hc hd hc2 hd2;have e:vs.toArray++ws.toArray=(vs++ws).toArray:=by simp
 by_cases hw:ws=[]
 ·exact concat_meets ⟨_,ho,rfl⟩ ⟨_,ho2,rfl⟩ noFill_tuple_add seq_tuple_add Wn Wm (Wh _ _)
   (tuple_addW1 t b vs.toArray ws.toArray n n2 dd dd2 sl sl2 (by simpa using hv) (by simp[hw])) ⟨ho,ho2,h1 hw⟩
 ·refine concat_meets ⟨_,ho,rfl⟩ ⟨_,ho2,rfl⟩ noFill_tuple_add seq_tuple_add Wn Wm (Wh _ _)
   (tuple_addW2 t b vs.toArray ws.toArray n n2 dd dd2 sl sl2 (by simpa using hv) (by simpa using hw) (by rw[Tu,Tu];exact hsz)) ⟨ho,ho2,?_⟩
  rw[e];exact h2 hw
def sIx(n d:Nat):Option Int->Nat
 |none=>d
 |some v=>if v<0 then (v+(n:Int)).toNat else min v.toNat n
def sIx_none(n d:Nat):sIx n d none=d:=rfl
def sIx_nat(n d k:Nat):sIx n d (some (k:Int))=min k n:=by
 show (if (k:Int)<0 then ((k:Int)+(n:Int)).toNat else min (k:Int).toNat n)=min k n
 rw[Tq (by omega),Int.toNat_natCast]
def sIx_le(n d:Nat)(hd:d<=n)(o:Option Int):sIx n d o<=n:=by
 cases o with
 |none=>exact hd
 |some v=>
   show (if v<0 then (v+(n:Int)).toNat else min v.toNat n)<=n
   by_cases hv:v<0
   ·rw[S7 hv];omega
   ·rw[Tq hv];exact Nat.min_le_right _ _
def clip_eq(v:Int)(n d:Nat):(if v<0 then max (v+(n:Int)) 0 else min v (n:Int))=((sIx n d (some v):Nat):Int):=by
 show (if v<0 then max (v+(n:Int)) 0 else min v (n:Int))=(((if v<0 then (v+(n:Int)).toNat else min v.toNat n):Nat):Int)
 by_cases hv:v<0
 ·simp only[if_pos hv];omega
 ·simp only[if_neg hv];omega
def adjust_gen(lo hi:Option Int)(n:Nat):Builtin.Slice.sliceAdjust lo hi 1 (n:Int)=(((sIx n 0 lo:Nat):Int),((sIx n n hi:Nat):Int)):=by
 have h1:¬ ((1:Int)<0):=by omega
 unfold Builtin.Slice.sliceAdjust;simp only[h1,if_false];refine Prod.ext ?_ ?_
 ·cases lo with
  |none=>rfl
  |some v=>exact clip_eq v n 0
 ·cases hi with
  |none=>rfl
  |some v=>exact clip_eq v n n
def places_gen(i j:Nat):Builtin.Slice.slicePlaces (i:Int) (j:Int) 1=j-i:=by
 unfold Builtin.Slice.slicePlaces;have h1:(1:Int) > 0:=by omega
 simp only[h1,if_true,Int.ediv_one];split<;>omega
def slicePart_(p:IsPart v o)(h:Q o s):wpAny (model prog w) A (Builtin.Slice.slicePartIndex v) Q E s:=by
 cases p with
 |none=>exact slicePart_none h
 |int i t=>exact slicePart_int h
def sliceApplied_gen{lo hi:Option Int}{n:Nat}{Q:Int×Int×Nat->Shared->Prop}(hs:s.heap.IsSliceOf sl vl vu .none)(pl:IsPart vl lo)(pu:IsPart vu hi)
  (h:Q (((sIx n 0 lo:Nat):Int),1,sIx n n hi-sIx n 0 lo) s):wpAny (model prog w) A (Builtin.Slice.sliceApplied (.ref sl) (pure (n:Int))) Q E s:=by
 obtain⟨os,hos,hcs,hds⟩:=id hs;unfold Builtin.Slice.sliceApplied Builtin.Slice.sliceFields;refine SQ (SQ (Uc hos hds (x:=vl) rfl (SQ (Uc hos hds (x:=vu) rfl (SQ (Uc hos hds (x:=.none) rfl (S6 ?_)))))));refine SQ (slicePart_none ?_);show wpAny _ _ (if ((1:Int)==0)=true then _ else _) _ _ s
 rw[Tq (by decide)]
 refine SQ (slicePart_ pl (SQ (slicePart_ pu (SQ (S6 ?_)))));show wpAny _ _ (match Builtin.Slice.sliceAdjust lo hi 1 (n:Int) with | (lo,hi)=>pure (lo,(1:Int),Builtin.Slice.slicePlaces lo hi 1)) _ _ s
 rw[adjust_gen lo hi n];show wpAny _ _ (pure (((sIx n 0 lo:Nat):Int),(1:Int),Builtin.Slice.slicePlaces ((sIx n 0 lo:Nat):Int) ((sIx n n hi:Nat):Int) 1)) _ _ s;rw[places_gen];exact S6 h
def pick_gen(xs:Array Value)(i k:Nat):((List.range k).filterMap λ(m:Nat)=>xs[((i:Int)+(m:Int)*1).toNat]?).toArray=((xs.toList.drop i).take k).toArray:=by
 have e:(λ(m:Nat)=>xs[((i:Int)+(m:Int)*1).toNat]?)=λm=>xs[i+m]?:=by
  funext m;have:((i:Int)+(m:Int)*1).toNat=i+m:=by omega
  rw[this]
 rw[e];have:=pick_run xs i k;rw[List.filterMap_map]at this;have e2:((λx=>xs[x]?) ∘ λx=>i+x)=λm=>xs[i+m]?:=rfl
 rw[e2]at this;rw[this]
def getItem_tuple_cut{items:Array Value}{lo hi:Option Int}{Q:Value->Shared->Prop}(ht:IsTup s.heap t items)(hs:s.heap.IsSliceOf sl vl vu .none)(pl:IsPart vl lo)(pu:IsPart vu hi)
  (hw:¬ (sIx items.size 0 lo=0/\sIx items.size items.size hi=items.size))
  (h:Q (.ref s.heap.objs.size) { s with heap:=s.heap.push { cls:=.type "tuple",data:=.seq ((items.toList.drop (sIx items.size 0 lo)).take (sIx items.size items.size hi-sIx items.size 0 lo)).toArray } })
  (hsz:items.size<=sizeLine):wpAny (model prog w) A (getItem (.ref t) (.ref sl)) Q E s:=by
 have htake:sizeOk (.seq ((items.toList.drop (sIx items.size 0 lo)).take (sIx items.size items.size hi-sIx items.size 0 lo)).toArray):=by show ((items.toList.drop (sIx items.size 0 lo)).take (sIx items.size items.size hi-sIx items.size 0 lo)).toArray.size<=sizeLine;rw[Tu,Vb,Vn,Array.length_toList];omega
 have hj:sIx items.size items.size hi<=items.size:=sIx_le _ _ (Td _) hi;obtain⟨os,hos,hcs,hds⟩:=id hs;have hTs:s.TypeIs (.ref sl) "slice":=⟨os,hos,hcs⟩;unfold getItem
 try with_reducible refine Ub ?_
 first | refine SQ (S6 ?_) | skip
 refine SQ (wpAny_sequenceKey ht.typeIs (by decide) ?_)
 refine SQ (UG (name:=Str.ofString "__getitem__") ht.typeIs Vg
  (Vd Vg ht.typeIs entry_tuple_getitem ?_ (args_tuple_getitem _ _)))
 show wpAny _ _ (Builtin.Tuple.tupleItemsOf (.ref t)>>=_) _ _ s;refine SQ (tupleItemsOf_ ht ?_);refine SQ (Wi hTs ?_);rw[S7 (by decide)]
 refine SQ (sliceApplied_gen hs pl pu ?_);have hno:¬ ((((sIx items.size 0 lo:Nat):Int)==0&&(1:Int)==1&&(sIx items.size items.size hi-sIx items.size 0 lo)==items.size)=true):=by intro q;rw[V3,V3]at q;have q1:((sIx items.size 0 lo:Nat):Int)=0:=eq_of_beq q.1.1;have q2:sIx items.size items.size hi-sIx items.size 0 lo=items.size:=eq_of_beq q.2;exact hw ⟨by omega,by omega⟩
 show wpAny _ _ (if (((sIx items.size 0 lo:Nat):Int)==0&&(1:Int)==1&&(sIx items.size items.size hi-sIx items.size 0 lo)==items.size)=true then _ else _) _ _ s
 rw[Tq hno,pick_gen]
 first
  |exact SQ (m:=Builtin.Tuple.tupleExact _) (UV (S6 ⟨_,rfl,S6 h⟩) htake)
  |exact SQ (m:=Builtin.Tuple.tupleExact _) (UV (SQ (S6 (S6 ⟨_,rfl,S6 h⟩))) htake)
  |exact SQ (SQ (m:=Builtin.Tuple.tupleExact _) (UV (S6 (S6 ⟨_,rfl,S6 h⟩)) htake))
  |exact SQ (SQ (m:=Builtin.Tuple.tupleExact _) (UV (S6 ⟨_,rfl,S6 h⟩) htake))
end
end HT
namespace L2
open PySem PySem.Spec PyProof.Rows
abbrev TO:=St->Hp->(Option Int->Hp->Prop)->Prop
def PO(X:Cx)(e:Option Expr)(t:TO):Prop:=
 ∀(Xe:List (Addr×Obj)) (s:Shared) (σ:St) (H:Hp) (Q:Option Int->Hp->Prop),Inv X Xe σ H s->t σ H Q->
   wpAny (model X.prog X.w) X.A (evalPart e X.env) (λu s'=>∃o H',Inv X Xe σ H' s'/\IsPart u o/\Q o H') X.xe s
def tNoPart:TO:=λz H Q=>Q none H
def tPart(t:TE):TO:=λσ H Q=>t σ H λx H1=>∃i,x=.int i/\Q (some i) H1
def intsAre_of:∀ {us:List Value},Vals (ns.map V.int) us->IntsAre us ns:=by
 induction ns with
 |nil=>intro us r;rw[WN]at r;cases r;exact .nil
 | cons n ns ih=>
   intro us r;rw[Us]at r;cases r with
   |cons r1 r2=>obtain⟨t,e⟩:=r1;subst e;exact .cons n t (ih r2)
section
variable{X:Cx}{e:Expr}{te:TE}{lo hi:Option Expr}{tl th:TO}{pos p2:Pos}
def po_none:PO X none tNoPart:=by intro Xe s σ H Q I h;rw[evalPart_none];exact S6 ⟨none,H,I,.none,h⟩
def po_some(h:PE X e te):PO X (some e) (tPart te):=by
 intro Xe s σ H Q I hw;rw[evalPart_some];refine thn (h Xe s σ H _ I hw) λu s1 ⟨x,H1,I1,r1,q1⟩=>?_
 obtain⟨i,rfl,q⟩:=q1;obtain⟨t,rfl⟩:=r1;exact⟨some i,H1,I1,.int i t,q⟩
def SlR(X:Cx)(r:V->Option Int->Option Int->Hp->VK->Prop):Prop:=
 ∀(Xe:List (Addr×Obj)) (s:Shared) (σ:St) (H:Hp) (x:V) (v vl vu:Value) (lo hi:Option Int) (sl:Addr) (Q:VK),Inv X Xe σ H s->RelV x v->s.heap.IsSliceOf sl vl vu .none->IsPart vl lo->IsPart vu hi->r x lo hi H Q->
   ∃T id,typeLookup (.type T) "__getitem__"=pure (some (.builtin id))/\s.TypeIs v T/\wpAny (model X.prog X.w) X.A (getItem v (.ref sl)) (EP X Xe σ Q) X.xe s
def tSl(r:V->Option Int->Option Int->Hp->VK->Prop)(te:TE)(tl th:TO):TE:=λσ H Q=>te σ H λx H1=>tl σ H1 λl H2=>th σ H2 λu H3=>r x l u H3 Q
def pe_slice(hr:SlR X r)(he:PE X e te)(hl:PO X lo tl)(hu:PO X hi th):PE X (.Subscript e (.Slice lo hi none p2) pos) (tSl r te tl th):=by
 intro Xe s σ H Q I h;refine Subscript_ (thn (he Xe s σ H _ I h) λv s1 ⟨x,H1,I1,r1,q1⟩=>?_)
 refine wpAny_Slice (thn (hl Xe s1 σ H1 _ I1 q1) λvl s2 ⟨l,H2,I2,pl,q2⟩=>thn (hu Xe s2 σ H2 _ I2 q2) λvu s3 ⟨u,H3,I3,pu,q3⟩=>?_)
 rw[evalPart_none];refine S6 ?_;have I4:Inv X Xe σ H3 { s3 with heap:=s3.heap.push { cls:=.type "slice",data:=.fields #[vl,vu,.none] } }:=I3.kept (t':=s3.toks) λb ob q=>SX _ q
 obtain⟨T,id,hT,ht,hg⟩:=hr Xe { s3 with heap:=s3.heap.push { cls:=.type "slice",data:=.fields #[vl,vu,.none] } } σ H3 x v vl vu l u s3.heap.objs.size Q I4 r1 (Heap.IsSliceOf.new ..) pl pu q3
 show wpAny (model X.prog X.w) X.A (subscriptTail e (.Slice lo hi none p2) v (.ref s3.heap.objs.size)) (EP X Xe σ Q) X.xe { s3 with heap:=s3.heap.push { cls:=.type "slice",data:=.fields #[vl,vu,.none] } }
 exact tail_any (ops:=[.ref s3.heap.objs.size,v]) ht hT hg (by with_unfolding_all rfl)
def cutV(xs:List V)(lo hi:Option Int):List V:=(xs.drop (HT.sIx xs.length 0 lo)).take (HT.sIx xs.length xs.length hi-HT.sIx xs.length 0 lo)
def cutV_length(xs:List V)(lo hi:Option Int):(cutV xs lo hi).length<=xs.length:=by unfold cutV;rw[Vb,Vn];omega
def rSlT(K:PySem.W.Frag):V->Option Int->Option Int->Hp->VK->Prop:=λx lo hi H Q=>∃a xs,x=.ref a/\SqT K H a xs /\
 ¬ (HT.sIx xs.length 0 lo=0/\HT.sIx xs.length xs.length hi=xs.length)/\∀p,H p=none->Q (.ref p) (upd H p (.tup (cutV xs lo hi)))
def sl_tup:SlR X (rSlT X.K):=by
 intro Xe s σ H x v vl vu lo hi sl Q I rx hs pl pu h;obtain⟨a,xs,rfl,hx,hw,q⟩:=h;cases rx;obtain⟨its,r,ht,hz⟩:=I.tuple hx;have hlen:its.toArray.size=xs.length:=by rw[Tu];exact r.length.symm
 refine⟨"tuple",_,PyProof.Rows.slot_tuple_getitem.lookup,ht.typeIs,?_⟩;refine HT.getItem_tuple_cut ht hs pl pu (by rw[hlen];exact hw) ?_ (by rw[hlen];exact hz)
 rw[hlen];refine⟨.ref s.heap.objs.size,_,I.laid (t':=s.toks) (o:=.tup (cutV xs lo hi)) (λb ob q=>SX _ q) (Td _) ?_,rfl,q _ (I.hok.fresh (Td _))⟩
 exact⟨T7 (cutV_length xs lo hi) hz,_,(r.drop (HT.sIx xs.length 0 lo)).take (HT.sIx xs.length xs.length hi-HT.sIx xs.length 0 lo),W6 _ _⟩
def rCatT(K:PySem.W.Frag):R2:=λx y H Q=>∃a b xs ys,x=.ref a/\y=.ref b/\SqT K H a xs/\SqT K H b ys/\xs≠[]/\xs.length+ys.length<=sizeLine /\
 (ys=[]->Q (.ref a) H)/\(ys≠[]->∀p,H p=none->Q (.ref p) (upd H p (.tup (xs++ys))))
def Vals.nil_iff(r:Vals xs us):us=[] ↔ xs=[]:=by
 cases r with
 |nil=>simp
 |cons _ _=>simp
def op_catT:OpR X (binaryOp .Add) (rCatT X.K):=by
 intro Xe s σ H x y v u Q I rx ry h;obtain⟨a,b,xs,ys,rfl,rfl,ha,hb,hx,hz,q1,q2⟩:=h;cases rx;cases ry;obtain⟨its,r1,p1,_⟩:=I.tuple ha;obtain⟨its2,r2,p2,_⟩:=I.tuple hb;refine HT.cat_tup p1 p2 (λz=>hx (r1.nil_iff.mp z)) (λz=>⟨.ref a,H,I,rfl,q1 (r2.nil_iff.mp z)⟩) (λz=>?_) (by rw[<-r1.length,<-r2.length];exact hz)
 refine⟨.ref s.heap.objs.size,_,I.laid (t':=s.toks) (o:=.tup (xs++ys)) (λb ob q=>SX _ q) (Td _) ?_,rfl,q2 (λw=>z (r2.nil_iff.mpr w)) _ (I.hok.fresh (Td _))⟩
 exact⟨by rw[TF];exact hz,_,r1.append r2,W6 _ _⟩
end
open PySem PySem.Spec PyProof.Rows
def ixN(n:Nat)(i:Int):Option Nat:=if 0<=i then (if i<n then some i.toNat else none) else if -(n:Int)<=i then some (i+n).toNat else none
def atI{α:Type}(xs:List α)(i:Int):Option α:=(ixN xs.length i).bind λj=>xs[j]?
def ixN_seq(h:ixN n i=some j):seqIndex? i n=some j/\j<n/\-(n:Int)<=i/\i<n:=by
 unfold ixN at h;by_cases h0:0<=i
 ·rw[S7 h0]at h;by_cases h1:i<n
  ·rw[S7 h1]at h;have e:i.toNat=j:=Tf h;exact⟨by rw[seqIndex_of h0 h1,e],by omega,by omega,h1⟩
  ·rw[Tq h1]at h;cases h
 ·rw[Tq h0]at h;by_cases h1:-(n:Int)<=i
  ·rw[S7 h1]at h;have e:(i+n).toNat=j:=Tf h;exact⟨by rw[seqIndex_neg (by omega) h1,e],by omega,h1,by omega⟩
  ·rw[Tq h1]at h;cases h
def atI_get(h:atI xs i=some v):∃ j,seqIndex? i xs.length=some j/\xs[j]?=some v/\j<xs.length/\-(xs.length:Int)<=i/\i<xs.length:=by
 unfold atI at h;cases e:ixN xs.length i with
 |none=>rw[e]at h;cases h
 |some j=>rw[e]at h;obtain⟨h1,h2,h3,h4⟩:=ixN_seq e;exact⟨j,h1,h,h2,h3,h4⟩
def PlainIx(b:Expr):Prop:=∀o i,subscripted b false o i=operate [o,i] (getItem o i)
def IxR(X:Cx)(r:R2):Prop:=
 ∀(value slice:Expr) (Xe:List (Addr×Obj)) (s:Shared) (σ:St) (H:Hp) (x y:V) (v u:Value) (Q:VK),Inv X Xe σ H s->RelV x v->RelV y u->r x y H Q->
   subscripted slice false v u=operate [v,u] (getItem v u)->wpAny (model X.prog X.w) X.A (subscriptTail value slice v u) (EP X Xe σ Q) X.xe s
def MtR(X:Cx)(id:String)(r:V->List V->Hp->VK->Prop):Prop:=
 ∀(Xe:List (Addr×Obj)) (s:Shared) (σ:St) (H:Hp) (x:V) (xs:List V) (v:Value) (us:List Value) (Q:VK),Inv X Xe σ H s->RelV x v->Vals xs us->r x xs H Q->
   wpAny (model X.prog X.w) X.A (call (.builtin id) (v::us)) (EP X Xe σ Q) X.xe s
section
variable{X:Cx}{a b:Expr}{ta tb:TE}{pos:Pos}
def pe_ix(hr:IxR X r)(ha:PE X a ta)(hb:PE X b tb)(hs:PlainIx b):PE X (.Subscript a b pos) (tOp r ta tb):=by intro Xe s σ H Q I h;exact Subscript_ (binT ha hb I h λv u s2 x y H2 I2 rx ry q=>hr a b Xe s2 σ H2 x y v u Q I2 rx ry q (hs _ _))
def rIxL(K:PySem.W.Frag):R2:=λx y H Q=>∃p xs i v,x=.ref p/\y=.int i/\SqL K H p xs/\atI xs i=some v/\Q v H
def rIxT(K:PySem.W.Frag):R2:=λx y H Q=>∃p xs i v,x=.ref p/\y=.int i/\SqT K H p xs/\atI xs i=some v/\Q v H
def ix_list:IxR X (rIxL X.K):=by
 intro value slice Xe s σ H x y v u Q I rx ry h hs;obtain⟨p,xs,i,z,rfl,rfl,hq,he,q⟩:=h;cases rx;obtain⟨t,rfl⟩:=ry;obtain⟨its,r,pl,hz⟩:=I.list hq;obtain⟨j,h1,h2,h3,h4,h5⟩:=atI_get he;obtain⟨w,ew,rw'⟩:=r.get h2;have hl:=r.length;have hn:=line63;have fin:EP X Xe σ Q w s:=⟨z,H,I,rw',q⟩;by_cases h0:0<=i
 ·have hj:i.toNat=j:=by rw[seqIndex_of h0 h5]at h1;exact Tf h1
  exact item_listR pl.isList h0 (by omega) (by rw[hj];simpa using ew) fin hs
 ·have hj:(i+(its.toArray.size:Int)).toNat=j:=by
   rw[seqIndex_neg (by omega) h4]at h1
   rw[Tu,<-hl];exact Tf h1
  exact subscriptTail_builtinR (x:=w) pl.isList.typeIs slot_list_getitem.lookup
   (wpAny_getItem_list_neg (Q:=λr s'=>r=w/\EP X Xe σ Q r s') pl.isList (by omega) (by rw[Tu]<;>omega) (by omega) (by rw[hj];simpa using ew) ⟨rfl,fin⟩) hs
def ix_tup:IxR X (rIxT X.K):=by
 intro value slice Xe s σ H x y v u Q I rx ry h hs;obtain⟨p,xs,i,z,rfl,rfl,hq,he,q⟩:=h;cases rx;obtain⟨t,rfl⟩:=ry;obtain⟨its,r,pl,hz⟩:=I.tuple hq;obtain⟨j,h1,h2,h3,h4,h5⟩:=atI_get he;obtain⟨w,ew,rw'⟩:=r.get h2;have hl:=r.length;have hn:=line63;have fin:EP X Xe σ Q w s:=⟨z,H,I,rw',q⟩;exact subscriptTail_builtinR (x:=w) pl.typeIs slot_tuple_getitem.lookup
  (getItem_tuple (j:=j) (Q:=λr s'=>r=w/\EP X Xe σ Q r s') pl (by omega) (by omega) (by rw[Tu,<-hl];exact h1) (by simpa using ew) ⟨rfl,fin⟩) hs
def mapSeq_set(its:List Value)(n j:Nat)(u:Value):Obj.mapSeq (·.setIfInBounds j u) { cls:=.type "list",data:=.seq its.toArray n }={ cls:=.type "list",data:=.seq (its.set j u).toArray n }:=by simp[Obj.mapSeq]
theorem Inv.lst(I:Inv X Xe σ H s)(h:H p=some (.lst xs)):
  ∃(its:List Value) (n:Nat),Vals xs its/\s.heap.get? p=some { cls:=.type "list",data:=.seq its.toArray n }/\xs.length<=sizeLine:=by
 obtain⟨z,its,n,r,e⟩:=I.hok p _ h;exact⟨its,n,r,e,z⟩
def Inv.lstUpd{Xe:List (Addr×Obj)}{xs ys:List V}{its its':List Value}{n n':Nat}{f:Obj->Obj}(I:Inv X Xe σ H s)(h:H p=some (.lst xs))
  (ho:s.heap.get? p=some { cls:=.type "list",data:=.seq its.toArray n }) (hf:f { cls:=.type "list",data:=.seq its.toArray n }={ cls:=.type "list",data:=.seq its'.toArray n' }) (r:Vals ys its') (hz:ys.length<=sizeLine) (t:Nat) :
  Inv X Xe σ (upd H p (.lst ys)) { s with heap:=s.heap.update p f,toks:=t }:=by
 have e:(s.heap.update p f).get? p=some { cls:=.type "list",data:=.seq its'.toArray n' }:=by rw[W8 f ho (by rw[hf]<;>rfl),hf]
 refine I.write (x:=p) (e:=p) (by rw[h];trivial) (.inl rfl) (λb u hb q=>(W7 _ _ (Ne.symm hb)).trans q) ⟨_,e⟩ ?_
 exact⟨hz,its',n',r,e⟩
def rSetL:V->V->V->Hp->(Hp->Prop)->Prop:=λo i v H Q=>∃p xs k j,o=.ref p/\i=.int k/\H p=some (.lst xs)/\ixN xs.length k=some j/\Q (upd H p (.lst (xs.set j v)))
def set_list:PSet X rSetL:=by
 intro Xe s σ H o i v ov iv u Q I ro ri rv h;obtain⟨p,xs,k,j,rfl,rfl,hp,hj,q⟩:=h;cases ro;obtain⟨t,rfl⟩:=ri;obtain⟨its,n,r,ho,hz⟩:=I.lst hp;obtain⟨h1,h2,h3,h4⟩:=ixN_seq hj;have hl:=r.length;have hn:=line63;have I':Inv X Xe σ (upd H p (.lst (xs.set j v))) { s with heap:=s.heap.update p (Obj.mapSeq (·.setIfInBounds j u)) }:=
  I.lstUpd hp ho (mapSeq_set its n j u) (r.set rv j) (by rw[Ur];exact hz) s.toks
 by_cases h0:0<=k
 ·have hk:k.toNat=j:=by rw[seqIndex_of h0 h4]at h1;exact Tf h1
  exact PySem.W.ki_setAt ho h0 (by omega) (by rw[Tu,<-hl];exact h4) (by rw[hk];exact⟨_,I',q⟩)
 ·have hk:(k+(its.toArray.size:Int)).toNat=j:=by
   rw[seqIndex_neg (by omega) h3]at h1
   rw[Tu,<-hl];exact Tf h1
  exact PySem.W.ki_setBack ho (by omega) (by rw[Tu,<-hl];exact h3) (by omega) (by rw[hk];exact⟨_,I',q⟩)
def slice_bounds(lo hi:Option Int)(n:Nat):(sliceBounds lo hi none n).1=((HT.sIx n 0 lo:Nat):Int)/\(sliceBounds lo hi none n).2.1=((HT.sIx n n hi:Nat):Int)/\(sliceBounds lo hi none n).2.2=1:=by
 refine⟨?_,?_,rfl⟩
 ·cases lo with
  |none=>simp[sliceBounds,HT.sIx]
  |some i=>
    simp only[sliceBounds,HT.sIx,Option.getD_none,show (1:Int) > 0 by decide,if_true]
    by_cases h:i<0
    ·simp only[h,if_true]<;>omega
    ·simp only[h,if_false]<;>omega
 ·cases hi with
  |none=>simp[sliceBounds,HT.sIx]
  |some i=>
    simp only[sliceBounds,HT.sIx,Option.getD_none,show (1:Int) > 0 by decide,if_true]
    by_cases h:i<0
    ·simp only[h,if_true]<;>omega
    ·simp only[h,if_false]<;>omega
def slicePick_cut(its:List Value)(lo hi:Option Int):slicePick its.toArray lo hi none=((its.drop (HT.sIx its.length 0 lo)).take (HT.sIx its.length its.length hi-HT.sIx its.length 0 lo)).toArray:=by obtain⟨h1,h2,h3⟩:=slice_bounds lo hi its.toArray.size;unfold slicePick;rw[h1,h2,h3];simp only[sliceRange_one,pick_run,List.size_toArray]<;>rfl
def rSlL(K:PySem.W.Frag):V->Option Int->Option Int->Hp->VK->Prop:=λx lo hi H Q=>∃a xs,x=.ref a/\SqL K H a xs/\∀p,H p=none->Q (.ref p) (upd H p (.lst (cutV xs lo hi)))
def sl_list:SlR X (rSlL X.K):=by
 intro Xe s σ H x v vl vu lo hi sl Q I rx hs pl pu h;obtain⟨a,xs,rfl,hx,q⟩:=h;cases rx;obtain⟨its,r,ht,hz⟩:=I.list hx;have hlen:=r.length;refine⟨"list",_,slot_list_getitem.lookup,ht.isList.typeIs,?_⟩;refine wpAny_getItem_list_slice ht.isList hs pl pu .none (by simp) ?_ (by rw[Tu]<;>omega)
 rw[slicePick_cut,<-hlen];refine⟨.ref s.heap.objs.size,_,I.laid (t':=s.toks) (o:=.lst (cutV xs lo hi)) (λb ob q=>SX _ q) (Td _) ?_,rfl,q _ (I.hok.fresh (Td _))⟩
 exact⟨T7 (cutV_length xs lo hi) hz,_,0,(r.drop (HT.sIx xs.length 0 lo)).take (HT.sIx xs.length xs.length hi-HT.sIx xs.length 0 lo),Tr _ rfl⟩
def call_len_seq:CallR X (.builtin "len") (λxs H Q=>∃p ys,xs=[.ref p]/\(SqL X.K H p ys\/SqT X.K H p ys)/\Q (.int ys.length) H):=by
 intro Xe s σ H xs us Q I r h;obtain⟨p,ys,rfl,hq,q⟩:=h;obtain⟨u,rfl,rx⟩:=vals1 r;cases rx;have hn:=line63;rcases hq with hq | hq
 ·obtain⟨its,r',pl,hz⟩:=I.list hq;have hlen:=r'.length;exact Calls.call_len_list pl.isList (by simp only[List.size_toArray]<;>omega) ⟨.int ys.length,H,I.tok _,⟨s.toks+1,by rw[Tu,hlen]⟩,q⟩
 ·obtain⟨its,r',pl,hz⟩:=I.tuple hq;have hlen:=r'.length;exact len_tuple pl (by simp only[List.size_toArray]<;>omega) ⟨.int ys.length,H,I.tok _,⟨s.toks+1,by rw[Tu,hlen]⟩,q⟩
def call_len_str:CallR X (.builtin "len") (λxs H Q=>∃z,xs=[.str z]/\z.length<=sizeLine/\Q (.int z.length) H):=by intro Xe s σ H xs us Q I r h;obtain⟨z,rfl,hz,q⟩:=h;obtain⟨u,rfl,t,rfl⟩:=vals1 r;have hn:=line63;exact len_str (by omega) ⟨.int z.length,H,I.tok _,⟨_,rfl⟩,q⟩
def CallR.or(h:CallR X f r)(h':CallR X f r'):CallR X f (λxs H Q=>r xs H Q\/r' xs H Q):=by
 intro Xe s σ H xs us Q I rs q;rcases q with q | q
 ·exact h Xe s σ H xs us Q I rs q
 ·exact h' Xe s σ H xs us Q I rs q
def call_list_of:CallR X (.type "list") (λxs H Q=>∃ p ys,xs=[.ref p]/\(SqL X.K H p ys\/SqT X.K H p ys)/\∀ l,H l=none->Q (.ref l) (upd H l (.lst ys))):=by
 intro Xe s σ H xs us Q I r h;obtain⟨p,ys,rfl,hq,q⟩:=h;obtain⟨u,rfl,rx⟩:=vals1 r;cases rx;have fin:∀(its:List Value),Vals ys its->ys.length<=sizeLine->∀(h':Heap) (c':Nat),(∀b o',s.heap.get? b=some o'->h'.get? b=some o')->
   h'.get? s.heap.objs.size=some { cls:=.type "list",dict:=none,data:=.seq its.toArray c',slots:=#[] }->EP X Xe σ Q (.ref s.heap.objs.size) { s with heap:=h' }:=λits r' hz h' c' kp e=>
  ⟨.ref s.heap.objs.size,_,I.laid (t':=s.toks) kp (Td _) (show ObjOk X.prog X.w _ h' _ (.lst ys) from⟨hz,its,c',r',e⟩),rfl,q _ (I.hok.fresh (Td _))⟩
 rcases hq with hq | hq
 ·obtain⟨its,r',pl,hz⟩:=I.list hq;have hlen:=r'.length;obtain⟨o,ho,hc,n,hd⟩:=pl.isList;exact call_list_seq p (.inl rfl) ho hc hd (λh' c' kp e=>fin its r' hz h' c' kp e) (by simp only[List.size_toArray]<;>omega)
 ·obtain⟨its,r',pl,hz⟩:=I.tuple hq;have hlen:=r'.length;obtain⟨o,ho,hc,n,hd⟩:=pl;exact call_list_seq p (.inr rfl) ho hc hd (λh' c' kp e=>fin its r' hz h' c' kp e) (by simp only[List.size_toArray]<;>omega)
def call_tuple_of:CallR X (.type "tuple") (λxs H Q=>∃ p ys,xs=[.ref p]/\((SqL X.K H p ys/\∀ l,H l=none->Q (.ref l) (upd H l (.tup ys)))\/(SqT X.K H p ys/\Q (.ref p) H))):=by
 intro Xe s σ H xs us Q I r h;obtain⟨p,ys,rfl,h⟩:=h;obtain⟨u,rfl,rx⟩:=vals1 r;cases rx;rcases h with ⟨hq,q⟩ | ⟨hq,q⟩
 ·obtain⟨its,r',pl,hz⟩:=I.list hq;have hlen:=r'.length;refine call_tuple_list pl.isList (λh' kp=>?_) (by simp only[List.size_toArray]<;>omega)
  have I1:Inv X Xe σ H { s with heap:=h' }:=I.kept (t':=s.toks) kp
  have I2:Inv X Xe σ (upd H h'.objs.size (.tup ys)) { s with heap:=h'.push { cls:=.type "tuple",data:=.seq its.toArray } }:=
   I1.laid (t':=s.toks) (λb o e=>SX _ e) (Td _) (show ObjOk X.prog X.w _ _ _ (.tup ys) from⟨hz,its,r',W6 _ _⟩)
  exact⟨.ref h'.objs.size,_,I2,rfl,q _ (I1.hok.fresh (Td _))⟩
 ·obtain⟨its,r',pl,hz⟩:=I.tuple hq;exact call_tuple_same pl ⟨.ref p,H,I,rfl,q⟩
def tyV(K:PySem.W.Frag)(T:String)(x:V)(H:Hp):Prop:=match x with
 |.str _=>T = "str"
 |.int _=>T = "int"
 |.ref p=>(T = "list"/\∃xs,SqL K H p xs)\/(T = "tuple"/\∃o,K.lookup p=some o/\o.cls=.type "tuple"/\o.dict=none) \/
   (T = "dict"/\((∃kvs,H p=some (.dK kvs))\/∃kvs,H p=some (.dT kvs)))\/(T = "set"/\∃S n,H p=some (.set S n))
 |_=>False
def tyV_is(I:Inv X Xe σ H s)(r:RelV x v)(ty:tyV X.K T x H):
  s.TypeIs v T/\∀a,v=.ref a->∃ob,s.heap.get? a=some ob/\ob.dict=none:=by
 cases x with
 |str z=>
   obtain⟨t,rfl⟩:=r;cases (show T = "str" from ty)
   exact⟨typeIs_str s z t,λy e=>nomatch e⟩
 |int i=>
   obtain⟨t,rfl⟩:=r;cases (show T = "int" from ty)
   exact⟨typeIs_int s i t,λy e=>nomatch e⟩
 | ref p=>
   cases r;rcases ty with ⟨rfl,xs,hq⟩ | ⟨rfl,o,hk,hc,hd⟩ | ⟨rfl,hk⟩ | ⟨rfl,S,n,hk⟩
   ·obtain⟨its,_,pl,_⟩:=I.list hq;refine⟨pl.isList.typeIs,λa e=>?_⟩
    cases e;obtain⟨o,n,e,c,hd,_⟩:=pl;exact⟨o,e,hd⟩
   ·refine⟨⟨o,I.kIn p o hk,hc⟩,λa e=>?_⟩
    cases e;exact⟨o,I.kIn _ o hk,hd⟩
   ·have z:∃ o,s.heap.get? p=some o/\o.ExactDict:=by
     rcases hk with ⟨kvs,hk⟩ | ⟨kvs,hk⟩
     ·obtain⟨_,_,_,_,o,_,_,e,ex,_⟩:=I.hok p _ hk;exact⟨o,e,ex⟩
     ·obtain⟨_,_,_,_,o,_,_,e,ex,_⟩:=I.hok p _ hk;exact⟨o,e,ex⟩
    obtain⟨o,e,ex⟩:=z;refine⟨⟨o,e,ex.1⟩,λa e2=>?_⟩
    cases e2;exact⟨o,e,ex.2.1⟩
   ·obtain⟨o,_,_,_,e,ex,_⟩:=I.hok p _ hk;refine⟨⟨o,e,ex.1⟩,λa e2=>?_⟩
    cases e2;exact⟨o,e,ex.2.1⟩
 |_=>exact False.elim ty
def tBM0(K:PySem.W.Frag)(T:String)(r:V->List V->Hp->VK->Prop)(to:TE):TE:=λσ H Q=>to σ H λx H1=>tyV K T x H1/\r x [] H1 Q
def tBM(K:PySem.W.Frag)(T:String)(r:V->List V->Hp->VK->Prop)(to:TE)(t:TA):TE:=λσ H Q=>to σ H λx H1=>tyV K T x H1/\t σ H1 λxs H2=>r x xs H2 Q
variable{o e:Expr}{es:List Expr}{to:TE}{t:TA}{name:Str}{apos cpos:Pos}{T id:String}{r:V->List V->Hp->VK->Prop}
def pe_bm0(pa:PlainAttrs T)(slot:Slot T name id)(hty:typeOf (.builtin id)=pure (.type "method_descriptor"))(hm:MtR X id r)(ho:PE X o to)
  (hbase:attributeBase o name X.env (eval o X.env)=eval o X.env:=by rfl) (hline:(apos.endLine==cpos.line)=true:=by rfl):PE X (.Call (.Attribute o name apos) [] [] cpos) (tBM0 X.K T r to):=by
 intro Xe s σ H Q I h;refine wpAny_Call_method0_late hbase hline (thn (ho Xe s σ H _ I h) λv s1 ⟨x,H1,I1,r1,ty,q1⟩=>?_)
 obtain⟨h1,h2⟩:=tyV_is I1 r1 ty;exact⟨T,id,pa,slot,hty,h1,h2,Calls.callWith_builtin rfl (PySem.evalArgs_none (hm Xe s1 σ H1 x [] v [] Q I1 r1 .nil q1))⟩
def pe_bm(pa:PlainAttrs T)(slot:Slot T name id)(hty:typeOf (.builtin id)=pure (.type "method_descriptor"))(hm:MtR X id r)(ho:PE X o to)(ha:PA X (e::es) t)
  (hbase:attributeBase o name X.env (eval o X.env)=eval o X.env:=by rfl)
  (hfew:((backTo cpos (starEach (e::es) X.env)).all (fun x=>!x.1)&&(backToKw cpos (keywordEach [] X.env)).all (fun x=>x.1.isSome)
   &&decide ((e::es).length+([]:List Keyword).length+(if ([]:List Keyword).isEmpty then 0 else 1)<30))=true:=by rfl)
  (hline:(apos.endLine==cpos.line)=true:=by rfl) (hs:starEach (e::es) X.env=(false,eval e X.env)::starEach es X.env:=by rfl) (hplain:(backTo cpos (starEach es X.env)).any (·.1)=false:=by rfl) :
  PE X (.Call (.Attribute o name apos) (e::es) [] cpos) (tBM X.K T r to t):=by
 intro Xe s σ H Q I h;refine wpAny_Call_method_late hbase hfew hline rfl (thn (ho Xe s σ H _ I h) λv s1 ⟨x,H1,I1,r1,ty,q1⟩=>?_)
 obtain⟨h1,h2⟩:=tyV_is I1 r1 ty;refine⟨T,id,pa,slot,hty,h1,h2,?_⟩;have hA:=ha cpos Xe s1 σ H1 _ I1 q1;rw[hs]at hA ⊢
 refine Calls.callWith_builtin (by show (false || (backTo cpos (starEach es X.env)).any (·.1))=false;rw[hplain]<;>rfl) (Calls.evalArgs_plain ?_)
 exact thn hA λus s2 ⟨vs,H2,I2,r2,q2⟩=>hm Xe s2 σ H2 x vs v us Q I2 r1 r2 q2
end
open PySem PySem.Spec PyProof.Rows
def MtM(X:Cx)(id:String)(r:V->List V->Hp->VK->Prop):Prop:=
 ∀(Xe:List (Addr×Obj)) (s:Shared) (σ:St) (H:Hp) (x:V) (xs:List V) (v:Value) (us:List Value) (Q:VK),Inv X Xe σ H s->RelV x v->Vals xs us->r x xs H Q->
   wpAny (model X.prog X.w) X.A (call (.builtin id) (v::us)) (EP X Xe σ Q) X.xe s
def Vals.one:∀{x:V}{us:List Value},Vals [x] us->∃u,us=[u]/\RelV x u
 |_,_,.cons r .nil=>⟨_,rfl,r⟩
def Vals.zero:∀{us:List Value},Vals [] us->us=[]
 |_,.nil=>rfl
theorem Vals.dropLast(h:Vals xs us):Vals xs.dropLast us.dropLast:=by
 induction h with
 |nil=>exact .nil
 |cons r t ih=>
   cases t with
   |nil=>exact .nil
   |cons q t'=>exact .cons r ih
theorem Vals.rep(h:Vals xs us):∀ k:Nat,Vals (List.replicate k xs).flatten (List.replicate k us).flatten
 |0=>.nil
 |k+1=>by rw[U8,U8,Vv,Vv];exact Vals.append h (Vals.rep h k)
def erase_last{α:Type}(l:List α):l.eraseIdx (l.length - 1)=l.dropLast:=by
 induction l with
 |nil=>rfl
 | cons a r ih=>
   cases r with
   |nil=>rfl
   | cons b r=>
     have e:(a::b::r).length-1=((b::r).length-1)+1:=by have h1:(a::b::r).length=r.length+2:=rfl;have h2:(b::r).length=r.length+1:=rfl;omega
     rw[e,List.eraseIdx_cons_succ,ih]
     all_goals rfl
theorem foldl_rep(its:List Value):∀ (k:Nat) (acc:List Value),
  List.foldl (λx1 x2=>x1++x2) acc.toArray (List.replicate k its.toArray)=(acc++(List.replicate k its).flatten).toArray
 |0,acc=>by simp
 | k + 1,acc=>by
   have e:acc.toArray++its.toArray=(acc++its).toArray:=by simp
   have e2:(acc++its)++(List.replicate k its).flatten=acc++(List.replicate (k+1) its).flatten:=by rw[U8,Vv,U5]
   rw[<-e2,<-foldl_rep its k (acc++its),<-e,U8,List.foldl_cons]
section
variable{X:Cx}{Xe:List (Addr×Obj)}{σ:St}{H:Hp}{s:Shared}{l b:Addr}{xs ys zs:List V}
def Inv.lset{its its':List Value}{n:Nat}{f:Array Value->Array Value}{t':Nat}(I:Inv X Xe σ H s)(hH:H l=some (.lst xs))
  (e:s.heap.get? l=some { cls:=.type "list",data:=.seq its.toArray n }) (hf:f its.toArray=its'.toArray) (hv:Vals ys its') (hz:ys.length<=sizeLine) :
  Inv X Xe σ (upd H l (.lst ys)) { s with heap:=s.heap.update l (Obj.mapSeq f),toks:=t' }:=by
 have q:=PySem.IsL.update e f;rw[hf]at q;refine I.write (x:=l) (e:=l) (by rw[hH];exact trivial) (.inl rfl) (λb' u hb hu=>(W7 s.heap (Obj.mapSeq f) (Ne.symm hb)).trans hu) ⟨_,q⟩ ?_
 exact⟨hz,its',_,hv,q⟩
def Inv.lnew(I:Inv X Xe σ H s)(hv:Vals ys its)(hz:ys.length<=sizeLine):
  Inv X Xe σ (upd H s.heap.objs.size (.lst ys)) { s with heap:=s.heap.push { cls:=.type "list",data:=.seq its.toArray },toks:=t' }:=
 I.laid (λz z q=>SX _ q) (Td _) ⟨hz,its,0,hv,Tr _ rfl⟩
theorem Inv.fresh(I:Inv X Xe σ H s):H s.heap.objs.size=none:=I.hok.fresh (Td _)
def Inv.lstM(I:Inv X Xe σ H s)(hH:H l=some (.lst xs)):xs.length<=sizeLine/\∃(its:List Value) (n:Nat),Vals xs its/\xs.length=its.length/\s.heap.get? l=some { cls:=.type "list",data:=.seq its.toArray n }:=by obtain⟨z,its,n,r,e⟩:=I.hok l _ hH;exact⟨z,its,n,r,r.length,e⟩
def notLongL{n:Nat}(h:n<=sizeLine):Builtin.List.listTooLong n=false:=by unfold Builtin.List.listTooLong;exact Um (by omega)
end
section
variable{X:Cx}
def rAppend:V->List V->Hp->VK->Prop:=λx vs H Q=>∃l xs y,x=.ref l/\vs=[y]/\H l=some (.lst xs)/\xs.length<sizeLine/\Q .non (upd H l (.lst (xs++[y])))
def mt_append:MtM X "list.append" rAppend:=by
 intro Xe s σ H x vs v us Q I rx rv h;obtain⟨l,xs,y,rfl,rfl,hH,hz,q⟩:=h;cases rx;obtain⟨u,rfl,ru⟩:=rv.one;obtain⟨z,its,n,r,hl,e⟩:=I.lstM hH;refine Wj F.slot_list_append ⟨_,e,rfl⟩ F.entry_list_append (F.args_list_append_2 _ _) (PySem.list_append l its.toArray n u (by rw[Tu];omega)) ⟨e,?_⟩
 refine⟨.non,_,I.lset (its':=its++[u]) hH e (by simp) (r.append (.cons ru .nil)) ?_,rfl,q⟩
 rw[TF,List.length_singleton];omega
def rExtend:V->List V->Hp->VK->Prop:=λx vs H Q=>∃l b xs zs,x=.ref l/\vs=[.ref b]/\H l=some (.lst xs)/\H b=some (.lst zs)/\xs.length+zs.length<=sizeLine/\Q .non (upd H l (.lst (xs++zs)))
def mt_extend:MtM X "list.extend" rExtend:=by
 intro Xe s σ H x vs v us Q I rx rv h;obtain⟨l,b,xs,zs,rfl,rfl,hH,hB,hz,q⟩:=h;cases rx;obtain⟨u,rfl,ru⟩:=rv.one;cases ru;obtain⟨z,its,n,r,hl,e⟩:=I.lstM hH;obtain⟨z2,its2,n2,r2,hl2,e2⟩:=I.lstM hB;have hsz:its.toArray.size+its2.toArray.size<=sizeLine:=by rw[Tu,Tu];omega
 have hlong:¬ (!its.toArray.isEmpty&&Builtin.List.listTooLong (its.toArray.size+its2.toArray.size))=true:=by rw[notLongL hsz,Bool.and_false];exact Tw
 refine Wj F.slot_list_extend ⟨_,e,rfl⟩ F.entry_list_extend (F.args_list_extend_2 _ _)
  (AutoSeq1.list_extend_list_list_0 l its.toArray n b its2.toArray n2 hlong (by rw[Tu];omega) (by omega)) ⟨e,e2,?_⟩
 refine⟨.non,_,I.lset (its':=its++its2) hH e (by simp) (r.append r2) ?_,rfl,q⟩
 rw[TF];omega
def rPop:V->List V->Hp->VK->Prop:=λx vs H Q=>∃l xs y,x=.ref l/\vs=[]/\H l=some (.lst xs)/\xs[xs.length-1]?=some y/\Q y (upd H l (.lst xs.dropLast))
def mt_pop:MtM X "list.pop" rPop:=by
 intro Xe s σ H x vs v us Q I rx rv h;obtain⟨l,xs,y,rfl,rfl,hH,hy,q⟩:=h;cases rx;have hus:=rv.zero;subst hus;obtain⟨z,its,n,r,hl,e⟩:=I.lstM hH;obtain⟨u,hu,ru⟩:=r.get hy;have hy':its.toArray[its.toArray.size-1]?=some u:=by show its.toArray[its.length-1]?=some u;rw[<-Array.getElem?_toList,<-hl];exact hu
 refine Wj F.slot_list_pop ⟨_,e,rfl⟩ F.entry_list_pop (F.args_list_pop_1 _) (MeetsSeq.list_pop_last l its.toArray n u hy' (by rw[Tu];omega)) ⟨e,?_⟩
 refine⟨y,_,I.lset (its':=its.dropLast) hH e ?_ r.dropLast ?_,ru,q⟩
 ·show its.toArray.eraseIdxIfInBounds (its.toArray.size-1)=its.dropLast.toArray;rw[Tu,List.eraseIdxIfInBounds_toArray,erase_last]
 ·rw[List.length_dropLast];omega
def rCat:R2:=λx y H Q=>∃l b xs zs,x=.ref l/\y=.ref b/\H l=some (.lst xs)/\H b=some (.lst zs)/\xs.length+zs.length<=sizeLine/\∀p,H p=none->Q (.ref p) (upd H p (.lst (xs++zs)))
def op_cat:OpR X (binaryOp .Add) rCat:=by
 intro Xe s σ H x y v u Q I rx ry h;obtain⟨l,b,xs,zs,rfl,rfl,hH,hB,hz,q⟩:=h;cases rx;cases ry;obtain⟨z,its,n,r,hl,e⟩:=I.lstM hH;obtain⟨z2,its2,n2,r2,hl2,e2⟩:=I.lstM hB;refine PySem.P.add_list e e2 ?_ (by rw[Tu,Tu];omega)
 have ea:its.toArray++its2.toArray=(its++its2).toArray:=by simp
 rw[ea];exact⟨.ref _,_,I.lnew (t':=s.toks) (r.append r2) (by rw[TF];omega),rfl,q _ I.fresh⟩
def rRep:R2:=λx y H Q=>∃l k xs,x=.ref l/\y=.int k/\H l=some (.lst xs)/\-(2^63)<=k/\k<2^63/\xs.length*k.toNat<=sizeLine /\
 ∀p,H p=none->Q (.ref p) (upd H p (.lst (List.replicate k.toNat xs).flatten))
def len_rep(xs:List α)(k:Nat):(List.replicate k xs).flatten.length=k*xs.length:=by
 induction k with
 |zero=>simp
 |succ k ih=>rw[U8,Vv,TF,ih,Nat.succ_mul,Nat.add_comm]
def op_rep:OpR X (binaryOp .Mult) rRep:=by
 intro Xe s σ H x y v u Q I rx ry h;obtain⟨l,k,xs,rfl,rfl,hH,h1,h2,hz,q⟩:=h;cases rx;obtain⟨t,rfl⟩:=ry;obtain⟨z,its,n,r,hl,e⟩:=I.lstM hH;have hlen:its.toArray.size*k.toNat<=sizeLine:=by rw[Tu,<-hl];exact hz
 have hcap:¬ its.toArray.size*k.toNat > (2^63-1) / 8:=by
  have:(sizeLine:Nat)<=(2^63-1) / 8:=by decide
  omega
 have hfit:¬ (!Builtin.List.listFitsIndex k)=true:=by rw[fitsIndex_both h1 h2];exact Tw
 have hlong:¬ Builtin.List.listTooLong (its.toArray.size*k.toNat)=true:=by rw[notLongL hlen];exact Tw
 have hnew:List.foldl (λx1 x2=>x1++x2) #[] (List.replicate (if its.toArray.isEmpty=true then 0 else k.toNat) its.toArray)=(List.replicate k.toNat its).flatten.toArray:=by
  have f0:∀m:Nat,List.foldl (λx1 x2=>x1++x2) #[] (List.replicate m its.toArray)=(List.replicate m its).flatten.toArray:=λm=>by have:=foldl_rep its m [];rw[List.nil_append]at this;exact this
  rw[f0];cases its with
  |nil=>simp
  |cons a r'=>rw[Tq (by simp)]
 refine wpAny_binaryOp_repeat_ref (T := "list") (U := "int") (by decide) ⟨_,e,rfl⟩ (λs'=>typeIs_int s' k t) noFill_list_mul F.fills_int_mul F.slot_int_rmul repeat_list F.slot_int_index.lookup
  (Wj F.slot_int_rmul (typeIs_int s k t) F.entry_int_rmul (F.args_int_rmul_2 _ _) (int___rmul___int_list k t l its.toArray n)
    ⟨e,rfl,⟨_,e,rfl⟩,Wj F.slot_list_mul ⟨_,e,rfl⟩ F.entry_list_mul (F.args_list_mul_2 _ _) (AutoListH.list___mul___list_int_3 l its.toArray n k t hfit hcap hlong) ⟨e,?_⟩⟩)
 rw[hnew];exact⟨.ref _,_,I.lnew (t':=s.toks) (r.rep k.toNat) (by rw[len_rep,Nat.mul_comm];exact hz),rfl,q _ I.fresh⟩
end
end L2
namespace Att
open PySem PySem.W PySem.Calls PyProof.Rows
def ints_of_wellAll:∀ (ns:List Int) (vs:List Value),WellAll P h vs (ns.map WData.int)->IntsAre vs ns:=by
 intro ns;induction ns with
 |nil=>intro vs w;rw[WN]at w;cases w;exact .nil
 | cons n ns ih=>
   intro vs w;rw[Us]at w;cases w with
   |cons a b=>cases a;exact .cons _ _ (ih _ b)
def script_of{l:OpenLaw}{n:Nat}(hn:l.most=some n){P:Params}{h:Heap}{args:List WData}{vals:List Value}
  (hpre:l.row.toRowW.claim.pre args=true) (hwl:WellAll P h vals args) :
  ∃a vs ns,vals=[Value.ref a]/\args=[WData.list (ns.map WData.int)]/\h.get? a=some { cls:=.type "list",data:=.seq vs.toArray }/\IntsAre vs ns/\ns.length<=n:=by
 have hsh:WShape.hasAll [] args [.list .int]=true:=(pre_splitW hpre).1;have hc:l.pre.holds [] { args:=args }=true:=(pre_splitW hpre).2;obtain⟨d,r,rfl,h1,h2⟩:=hasAllW_cons hsh;obtain rfl:=hasAllW_nil h2;obtain⟨xs,rfl,h3⟩:=hasW_list h1;obtain⟨ns,rfl⟩:=items_int h3;have hlen:ns.length<=n:=by
  unfold OpenLaw.pre at hc;have h4:(WTm.not (.lt (.lit (.int (n:Int))) (.len (.arg 0)))).holds [] { args:=[.list (ns.map .int)] }=true:=by have h4:=(holds_andW hc).1;rw[hn]at h4;exact h4
  have h5:=condW_of h4 (w_not (w_lt w_lit (w_len_list (w_arg rfl))));rw[Te]at h5;refine Nat.le_of_not_lt λq=>?_
  have q':(n:Int)<((ns.length:Nat):Int):=by omega
  first
   |(rw[Tz q']at h5;exact absurd h5 (by decide))
   |(simp at h5;omega)
 cases hwl with
 |cons w1 w2=>
   cases w2;cases w1 with
   |list ho hall=>exact⟨_,_,ns,rfl,rfl,ho,ints_of_wellAll ns _ hall,hlen⟩
def post_true(l:OpenLaw)(args:List WData):l.row.toRowW.claim.post args (.bool true) args=true:=
 postW_of (r:=l.row.toRowW) (X:=(true==true))
  (show WShape.has [] (.bool true) .bool=true by first | rfl | decide | simp[WShape.has,WShape.arms,WShape.armsAll])
  (show (WTm.eq .res (.lit (.bool true))).value [] { args:=args,res:=some (.bool true),after:=args }=some (.bool (true==true)) from w_eq_bool (w_res rfl) w_lit) rfl
def attach_call{l:OpenLaw}{n:Nat}{q:Program}{loose:List Str}{XP:(Str->Option Value)->Heap->Prop}{YP:World->Heap->Prop}{d:DefRec}
  (hn:l.most=some n) (hdf:d.params.defaults=[])
  (call:∀(w:World) (s₀ s₁:Shared) (mg mb:Str->Option Value) (fa:Addr) (o:Obj) (pm cd doc:Value) (a:Addr) (vs:List Value) (ns:List Int),
    Ground q loose [] XP w s₀ mg mb s₁.heap->YP w s₁.heap->
    s₁.heap.get? fa=some o->o.data=.func (docDef d.name d.params d.body d.scope pm cd doc)->s₁.heap.CodeRec cd d.name->mg d.name=some (.ref fa)->
    s₁.heap.get? a=some { cls:=.type "list",data:=.seq vs.toArray }->IntsAre vs ns->ns.length<=n->s₁.gens=#[]->
    codeAny (model l.prog w) callerA (.call (.ref fa) ⟨[.ref a],[]⟩) (λr s'=>r=.ok (.ret (.bool true))/\OldK s₁.heap s'.heap/\s'.os=s₁.os/\AllBare s'.gens) s₁) :
  WalkO q loose XP YP l.row.toRowW d [] (λf vs=>PySem.call f vs):=by
 intro w s₀ s₁ mg mb G Y fa o pm cd doc dV kV ho hd hcd hD hmg hg args vals as hpre hlay hrd hwl hlo;obtain rfl:dV=.none:=Dflts.none hD hdf;obtain rfl:kV=.none:=Dflts.noKw hD;obtain⟨a,vs,ns,rfl,rfl,hobj,hints,hlen⟩:=script_of hn hpre hwl;refine enter_call (Vj (call w s₀ s₁ mg mb fa o pm cd doc a vs ns G Y ho (fd_plain hd) hcd hmg hobj hints hlen hg) λr s' hq=>?_)
 obtain⟨rfl,h2,h3,h4⟩:=hq;exact⟨.inl ⟨.bool true,.bool true,[],rfl,λz=>rfl,.bool true,post_true l _,λz=>⟨List.Pairwise.nil,λz hm=>(nomatch hm)⟩⟩,h2,h3,h4⟩
end Att
namespace L2
open PySem PySem.Spec PyProof.Rows
theorem vals_ints:∀{vs:List Value}{ns:List Int},IntsAre vs ns->Vals (ns.map V.int) vs
 |_,_,.nil=>.nil
 |_,_,.cons n t h=>.cons ⟨t,rfl⟩ (vals_ints h)
open PySem PySem.Spec PyProof.Rows
open PySem PySem.Spec PyProof.Rows
def inClass(s:Stmt)(j:Nat):Stmt:=match s with
 |.ClassDef _ _ _ body _ _ _ _ _ _ _=>body.getD j (.Pass ⟨0,0,0,0⟩)
 |_=>.Pass ⟨0,0,0,0⟩
def defArgs(s:Stmt):Arguments:=match s with
 |.FunctionDef _ a _ _ _ _ _ _ _ _=>a
 |_=>{ posonlyargs:=[],args:=[],vararg:=none,kwonlyargs:=[],kw_defaults:=[],kwarg:=none,defaults:=[] }
def defBody(s:Stmt):List Stmt:=match s with
 |.FunctionDef _ _ b _ _ _ _ _ _ _=>b
 |_=>[]
def defScope(s:Stmt):Scope:=match s with
 |.FunctionDef _ _ _ _ _ _ sc _ _ _=>sc
 |_=>{ kind:=.function,names:=[],isGenerator:=false,isCoroutine:=false }
abbrev E0:XK:=λ_ _ _=>False
structure Fun(K:PySem.W.Frag)(x qual:Str)(st:Stmt)(f:Addr)(fd:FuncData):Prop where
 ex:∃(oc:Value) (od:Option Addr) (kV doc pm:Value) (an:Option Addr) (cdv ct:Value) (osl:Array (Option Value)),
  fd=PySem.W.fnOf x qual (defArgs st) (defBody st) (defScope st) .none kV doc pm an cdv ct/\K.lookup f=some ⟨oc,od,.func fd,osl⟩/\PySem.W.codeIn K cdv qual=true
 kp:PySem.W.keepIn K (.ref f)=true
section
variable{P:Program}{w:World}{K:PySem.W.Frag}{mg:Str->Option Value}{base:Heap}
def Fun.binds{x qual:Str}{st:Stmt}{f:Addr}{fd:FuncData}{ps:List Str}(F:Fun K x qual st f fd)
  (h:∀(kV doc pm:Value) (an:Option Addr) (cdv ct:Value) (us:List Value),us.length=ps.length->bindArgs (PySem.W.fnOf x qual (defArgs st) (defBody st) (defScope st) .none kV doc pm an cdv ct) ⟨us,[]⟩=pure (ps.zip us)):Binds K fd ps []:=by
 obtain⟨oc,od,kV,doc,pm,an,cdv,ct,osl,rfl,lk,hcd⟩:=F.ex;exact .all (h kV doc pm an cdv ct)
def fun_mk{x qual:Str}{st:Stmt}{f:Addr}{oc:Value}{od an:Option Addr}{osl:Array (Option Value)}{kV doc pm cdv ct:Value}(l:K.lookup f=some ⟨oc,od,.func (PySem.W.fnOf x qual (defArgs st) (defBody st) (defScope st) .none kV doc pm an cdv ct),osl⟩)
  (c:PySem.W.codeIn K cdv qual=true) (k:PySem.W.keepIn K (.ref f)=true):Fun K x qual st f (PySem.W.fnOf x qual (defArgs st) (defBody st) (defScope st) .none kV doc pm an cdv ct):=⟨⟨oc,od,kV,doc,pm,an,cdv,ct,osl,rfl,l,c⟩,k⟩
end
def iteF{A B:Prop}(h:B):if false=true then A else B:=by rw[Tq Tw];exact h
def iteT{A B:Prop}(h:A):if true=true then A else B:=by rw[S7 rfl];exact h
def Same(H H':Hp):Prop:=∀b o,H b=some o->H' b=some o
def Same.refl(H:Hp):Same H H:=λz z h=>h
mutual
inductive Rep(K:PySem.W.Frag)(H:Hp):V->PyData->Prop
 |non:Rep K H .non .none
 |bl (b:Bool):Rep K H (.bl b) (.bool b)
 |int (i:Int):Rep K H (.int i) (.int i)
 |str (x:Str):Rep K H (.str x) (.str x)
 |lst {a:Addr}{xs:List V}{ds:List PyData}:SqL K H a xs->Reps K H xs ds->Rep K H (.ref a) (.list ds)
 |tup {a:Addr}{xs:List V}{ds:List PyData}:SqT K H a xs->Reps K H xs ds->Rep K H (.ref a) (.tuple ds)
inductive Reps(K:PySem.W.Frag)(H:Hp):List V->List PyData->Prop
 |nil:Reps K H [] []
 |cons {v:V}{d:PyData}{vs:List V}{ds:List PyData}:Rep K H v d->Reps K H vs ds->Reps K H (v::vs) (d::ds)
end
section
variable{X:Cx}{Xe:List (Addr×Obj)}{σ:St}{H:Hp}{s:Shared}
def Rep.reads(I:Inv X Xe σ H s){v:V}{d:PyData}{u:Value}(h:Rep X.K H v d):RelV v u->∃ as,Reads s.heap u d as:=
 Rep.rec (motive_1:=λv d z=>∀ u,RelV v u->∃ as,Reads s.heap u d as) (motive_2:=λvs ds z=>∀ us,Vals vs us->∃ as,ReadsAll s.heap us ds as)
  (λu r=>by cases r;exact⟨_,.none⟩)
  (λb u r=>by cases r;exact⟨_,.bool b⟩)
  (λi u r=>by obtain⟨t,rfl⟩:=r;exact⟨_,.int i t⟩)
  (λi u r=>by obtain⟨t,rfl⟩:=r;exact⟨_,.str i t⟩)
  (λh hs ih u r=>by cases r;obtain⟨its,rv,⟨o,n,h1,h2,_,h3⟩,_⟩:=I.list h;obtain⟨as,ra⟩:=ih _ rv;exact⟨_,.list h1 h2 h3 ra⟩)
  (λh hs ih u r=>by cases r;obtain⟨its,rv,⟨o,h1,h2,n,h3⟩,_⟩:=I.tuple h;obtain⟨as,ra⟩:=ih _ rv;exact⟨_,.tuple h1 h2 h3 ra⟩)
  (λu r=>by cases r;exact⟨_,.nil⟩)
  (λh hs i1 i2 u r=>by
    cases r with
    |cons r1 r2=>obtain⟨a1,e1⟩:=i1 _ r1;obtain⟨a2,e2⟩:=i2 _ r2;exact⟨_,.cons e1 e2⟩)
  h u
end
def same_new{H:Hp}{p:Addr}(h:H p=none)(o:HO):Same H (upd H p o):=λb u q=>by rw[upd_ne (ne_of_none q h)];exact q
section
variable{X:Cx}
def HQ(K:PySem.W.Frag)(neg:Bool):R2:=λx y H Q=>∃da db,Rep K H x da/\Rep K H y db/\da.canLay0=true/\db.canLay0=true/\da.depth<=60/\Q (.bl (if neg then !PyData.eqv da db else PyData.eqv da db)) H
def Nq(hu:X.A.units+64<cLine):OpR X (compareOp .Eq) (HQ X.K false):=by intro Xe s σ H x y v u Q I rx ry h;obtain⟨da,db,ha,hb,la,lb,hd,q⟩:=h;obtain⟨as,ra⟩:=ha.reads I rx;obtain⟨bs,rb⟩:=hb.reads I ry;exact PySem.SeqAt.compareEq_reads ra rb la lb (by lia) ⟨.bl _,H,I,rfl,q⟩
def Nv(hu:X.A.units+64<cLine):OpR X (compareOp .NotEq) (HQ X.K true):=by intro Xe s σ H x y v u Q I rx ry h;obtain⟨da,db,ha,hb,la,lb,hd,q⟩:=h;obtain⟨as,ra⟩:=ha.reads I rx;obtain⟨bs,rb⟩:=hb.reads I ry;exact PySem.SeqAt.compareNe_reads ra rb la lb (by lia) ⟨.bl _,H,I,rfl,q⟩
def Oz(i j:Int):Prop:=IntMulOk i j
def JR:OpR X (binaryOp .Mult) (rI Oz λi j=>.int (i*j)):=opI λz z z z z z z hc q=>mul_int q hc
def G7:CallR X (.builtin "isinstance") (λxs H Q=>∃x t c b,xs=[x,.ty c]/\TyOf X.K H x t/\PySem.W.kitOne X.K t (.type c)=some b/\Q (.bl b) H):=by intro Xe s σ H xs us Q I r h;obtain⟨x,t,c,b,rfl,ty,e,q⟩:=h;obtain⟨u,w',rfl,r1,r2⟩:=vals2 r;cases r2;exact isinst_ok I r1 ty e λtk=>⟨.bl b,H,I.tok _,rfl,q⟩
end
open PySem PySem.Spec PyProof.Rows
structure DefAt(K:PySem.W.Frag)(mg:Str->Option Value)(x:Str)(st:Stmt):Prop where
 ex:∃f fd,Fun K x x st f fd/\mg x=some (.ref f)
def Hm{K:PySem.W.Frag}{h:Heap}{mg:Str->Option Value}{x:Str}{st:Stmt}{f:Addr}{oc:Value}{od an:Option Addr}{osl:Array (Option Value)}{kV doc pm cdv ct:Value}(X:K.In h)(G:h.Ns mainGlobals mg)
  (a:PySem.W.nsIn K mainGlobals x=some (some (.ref f))) (l:K.lookup f=some ⟨oc,od,.func (PySem.W.fnOf x x (defArgs st) (defBody st) (defScope st) .none kV doc pm an cdv ct),osl⟩) (c:PySem.W.codeIn K cdv x=true) (k:PySem.W.keepIn K (.ref f)=true):DefAt K mg x st:=
 ⟨f,_,fun_mk l c k,Uo X G a⟩
section
variable{X:Cx}{j k:Nat}{ps:List Str}{sp:Sp}{x:Str}{p pos:Pos}{e:Expr}{es:List Expr}{t:TA}
def QZ{id:String}{r:List V->Hp->VK->Prop}(hc:CallR X (.builtin id) r)(hm:X.mg x=none)(ha:PA X (e::es) t)(hg:Gl X x:=by rfl)(hv:bootBuiltins x=some (.builtin id):=by decide +kernel)(hn:x≠"__name__":=by decide)(hdb:(x==("__debug__":Str))=false:=by decide)
  (he:starEach (e::es) X.env=(false,eval e X.env)::starEach es X.env:=by rfl) (hpl:(backTo pos (starEach es X.env)).any (·.1)=false:=by rfl) :
  PE X (.Call (.Name x p) (e::es) [] pos) (tCB r t):=pe_callB hc hg hm hv ha hn hdb he hpl
def Qa{T:String}(hm:X.mg x=none)(hg:Gl X x:=by rfl)(hv:bootBuiltins x=some (.type T):=by decide +kernel)(hn:x≠"__name__":=by decide)(hdb:(x==("__debug__":Str))=false:=by decide):PE X (.Name x pos) (tC (.ty T)):=
 pe_bltn hg hm hv rfl hn hdb
end
end L2
namespace L2
open PySem PySem.Spec PyProof.Rows
open PySem PySem.Spec PyProof.Rows
def ObjOk.there(x:ObjOk P w H h a o):∃u,h.get? a=some u:=by
 induction o with
 |lst xs=>obtain⟨_,_,_,_,e⟩:=x;exact⟨_,e⟩
 |tup xs=>obtain⟨_,_,_,o,e,_⟩:=x;exact⟨_,e⟩
 |dK kvs=>obtain⟨_,_,_,_,o,_,_,e,_⟩:=x;exact⟨_,e⟩
 |dT kvs=>obtain⟨_,_,_,_,o,_,_,e,_⟩:=x;exact⟨_,e⟩
 |set S n=>obtain⟨o,_,_,_,e,_⟩:=x;exact⟨_,e⟩
 |ins C dx fs=>obtain⟨_,_,_,e,_⟩:=x;exact⟨_,e⟩
 |own y=>exact x
 |xd fs=>obtain⟨_,⟨o,es,ep,e,_⟩,_⟩:=x;first | exact⟨_,e⟩ | exact⟨o,es⟩
 |met g y=>exact⟨_,x⟩
 |rng lo hi=>obtain⟨_,_,_,e⟩:=x;exact⟨_,e⟩
 |frz o u ih=>exact⟨_,x.1⟩
 |tbl ps=>obtain⟨_,e,_⟩:=x;exact⟨_,e⟩
 |ext φ=>exact x.2.1
end L2
namespace L2
open PySem PySem.Spec PyProof.Rows
def bJ(P:Program)(w:World):CXT:=λouter H s E e s'=>
 ∃(x:Addr) (C a0:Value) (H':Hp) (B:Heap),e=.ref x∧s'.os=s.os∧AllBare s'.gens∧Un (frs outer) [] H H' s.heap s'.heap∧HOk P w H' s'.heap∧Heap.FlyingW B outer x C a0 s'.heap ∧
   (∀b,H' b≠none->∃o,B.get? b=some o)/\(∀b o,s.heap.get? b=some o->b∉frs outer->∃o',B.get? b=some o')/\E C none H'
def uf{env:Env}{l:List Env}{L:Addr}(h:env.frame=some L):frs (env::l)=L::frs l:=by unfold frs;rw[Wb,h]
def sO{fs:List Addr}{H H':Hp}{h0 h h' B:Heap}(u:Un fs [] H H' h0 h)(hB:B.StaysIn h)(hB':B.StaysIn h')(up:h.UpToSlots h')
  (fr:∀b∈fs,∃o,h.get? b=some o/\∀vs,o.data≠.fields vs) (cov:∀b o,h0.get? b=some o->b∉fs->∃o',B.get? b=some o'):Un fs [] H H' h0 h' where
 keep b o e n hb hx:=by have h1:=u.keep b o e n hb hx;obtain⟨o',e'⟩:=cov b o e hb;have h2:=hB b o' e';rw[h1]at h2;cases h2;exact hB' b o e'
 slot b o e n hb hx:=by obtain⟨sl,h1⟩:=u.slot b o e n hb hx;obtain⟨o1,h2,nf⟩:=fr b hb;rw[h1]at h2;cases h2;obtain⟨sl2,h3⟩:=up b _ h1 nf;exact⟨sl2,h3⟩
 free:=u.free
 there b o e hx:=by
  by_cases hb:b∈fs
  ·obtain⟨o1,h2,nf⟩:=fr b hb;obtain⟨sl2,h3⟩:=up b _ h2 nf;exact⟨_,h3⟩
  ·obtain⟨o',e'⟩:=cov b o e hb;exact⟨o',hB' b o' e'⟩
 tups:=u.tups
 frzs:=u.frzs
 tbls:=u.tbls
def oX{P:Program}{w:World}{H':Hp}{h h' B:Heap}(ok:HOk P w H' h)(hB:B.StaysIn h)(hB':B.StaysIn h')(cov:∀ b,H' b≠none->∃ o,B.get? b=some o):HOk P w H' h':=λa o e=>
 (ok a o e).stay (λb u hb hu=>by
   have hn:H' b≠none:=by
    rcases hb with rfl | hb
    ·rw[e];simp
    ·rw[hb];simp
   obtain⟨o',e'⟩:=cov b hn;have:=hB b o' e';rw[hu]at this;cases this;exact hB' b u e') (λz h=>h) (λz z h=>h)
section
variable{P:Program}{w:World}{K:PySem.W.Frag}{mg:Str->Option Value}{base:Heap}{N:List Str}{qual:Str}{scope:Scope}{f:Addr}{cd:Value}{A:Around}{outer:List Env}{s:Shared}{H:Hp}{E:XK}
abbrev b7(P:Program)(w:World)(K:PySem.W.Frag)(mg:Str->Option Value)(base:Heap)(N:List Str)(qual:Str)(scope:Scope)(f:Addr)(cd:Value)(A:Around)(outer:List Env)(s:Shared)(H:Hp)(E:XK):Cx:=
 cxOf (bJ P w) P w K mg base N qual scope f cd A outer s H E
def aH:Passes (bJ P w) (b7 P w K mg base N qual scope f cd A outer s H E) E:=by
 intro Xe σ H1 s1 e s' I hf;obtain⟨x,C,a0,H',B,rfl,os,bare,un,hok,fl,ci,cii,q⟩:=hf;have J:Inv (b7 P w K mg base N qual scope f cd A outer s H E) Xe σ H' s':=I.call' (ch:=[]) os un hok bare (λb z=>absurd z (by simp))
 have hfr:(b7 P w K mg base N qual scope f cd A outer s H E).A.frames=some ((b7 P w K mg base N qual scope f cd A outer s H E).env::outer):=I.ok.frames;have hfs:∀b∈frs outer,∃o,s'.heap.get? b=some o/\∀vs,o.data≠.fields vs:=λb hb=>(fl.2.2.1.2.2.mem hb).2
 have hfrm:(b7 P w K mg base N qual scope f cd A outer s H E).env.frame=some (b7 P w K mg base N qual scope f cd A outer s H E).env.locals:=rfl;have cov:∀b o,s.heap.get? b=some o->b∉frs outer->∃o',B.get? b=some o':=λb o e hb=>by
  obtain⟨o1,h1⟩:=I.base.there b o e (show b∉([]:List Addr) by simp)
  refine cii b o1 h1 ?_;show b∉frs ((b7 P w K mg base N qual scope f cd A outer s H E).env::outer);rw[uf hfrm];intro hm;rcases T3.mp hm with rfl | hm
  ·exact absurd (S8 e) (U3.mpr I.ok.above)
  ·exact hb hm
 show wpAny _ _ (leaving _ (.ref x)) _ _ s';refine wpAny_leaves_onW hfr rfl fl λh' fl' up=>?_
 exact⟨x,C,a0,H',B,rfl,J.os,bare,sO J.base fl.1 fl'.1 up hfs cov,oX hok fl.1 fl'.1 ci,fl',ci,cov,q⟩
def Og{Xe:List (Addr×Obj)}{σ:St}{H1:Hp}{s1:Shared}{h1:Heap}{e:Addr}{C:Value}{args:List Value}(I:Inv (b7 P w K mg base N qual scope f cd A outer s H E) Xe σ H1 s1)
  (hx:Heap.MadeExcOf s1.heap h1 e C args) (q:E C none H1):(b7 P w K mg base N qual scope f cd A outer s H E).xe (.ref e) { s1 with heap:=h1 }:=by
 have hfr:(b7 P w K mg base N qual scope f cd A outer s H E).A.frames=some ((b7 P w K mg base N qual scope f cd A outer s H E).env::outer):=I.ok.frames;have hfrm:(b7 P w K mg base N qual scope f cd A outer s H E).env.frame=some (b7 P w K mg base N qual scope f cd A outer s H E).env.locals:=rfl;have ff:s1.heap.FunFrames base ((b7 P w K mg base N qual scope f cd A outer s H E).env::outer):=I.stack;have hin:∀env∈((b7 P w K mg base N qual scope f cd A outer s H E).env::outer),∀b,env.frame=some b->b∈frs ((b7 P w K mg base N qual scope f cd A outer s H E).env::outer):=λenv he b hb=>List.mem_filterMap.mpr ⟨env,he,hb⟩
 have hst:(PySem.W.hideAll s1.heap (frs ((b7 P w K mg base N qual scope f cd A outer s H E).env::outer))).StaysIn s1.heap:=λb o q=>PySem.W.of_hideAll _ q
 have cov:∀b o,s.heap.get? b=some o->b∉frs outer->∃o',(PySem.W.hideAll s1.heap (frs ((b7 P w K mg base N qual scope f cd A outer s H E).env::outer))).get? b=some o':=λb o e hb=>by
  obtain⟨o1,h1⟩:=I.base.there b o e (show b∉([]:List Addr) by simp)
  refine⟨o1,PySem.W.hideAll_get _ h1 ?_⟩;rw[uf hfrm];intro hm;rcases T3.mp hm with rfl | hm
  ·exact absurd (S8 e) (U3.mpr I.ok.above)
  ·exact hb hm
 have ci:∀ b,H1 b≠none->∃ o,(PySem.W.hideAll s1.heap (frs ((b7 P w K mg base N qual scope f cd A outer s H E).env::outer))).get? b=some o:=λb hb=>by
  cases hb':H1 b with
  |none=>exact absurd hb' hb
  |some o=>
    have lt:=I.hok.lt hb';have ex:∃o',s1.heap.get? b=some o':=(I.hok b o hb').there;obtain⟨o',ho'⟩:=ex;refine⟨o',PySem.W.hideAll_get _ ho' λhm=>?_⟩
    have:=I.stkFree b hm;rw[hb']at this;cases this
 have hfs:∀b∈frs outer,∃o,h1.get? b=some o/\∀vs,o.data≠.fields vs:=λb hb=>by obtain⟨_,o,ho,nf⟩:=ff.2.2.mem hb;exact⟨o,hx.keeps _ _ ho,nf⟩
 have I1:Inv (b7 P w K mg base N qual scope f cd A outer s H E) Xe σ H1 { s1 with heap:=h1 }:=I.kept (t':=s1.toks) hx.keeps
 show wpAny _ _ (leaving _ (.ref e)) _ _ _;refine wpAny_leaves_madeW hfr rfl hst (PySem.W.funFrames_hide ff hin) hx λh' t fl' z z up=>?_
 exact⟨e,C,.ref t,H1,_,rfl,I1.os,I1.bare,sO I1.base (λb o e=>hx.keeps _ _ (hst _ _ e)) fl'.1 up hfs cov,oX I1.hok (λb o e=>hx.keeps _ _ (hst _ _ e)) fl'.1 ci,fl',ci,cov,q⟩
end
abbrev rA:List Value:=[.type "ValueError",.type "Exception",.type "BaseException",.type "object"]
set_option tactic.hygienic true in
def wB{K:PySem.W.Frag}{h:Heap}{mg:Str->Option Value}{x:Str}{C:Addr}{bmB:List Value}{newId:String}(X:K.In h)(m:mg x=some (.ref C))(q:PySem.W.excIn K C bmB newId=true):OwnCls x C bmB newId mg h:=by
 refine⟨m,?_⟩;unfold PySem.W.excIn at q;split at q
 ·rename_i dd cd sl hobj;split at q
  ·rename_i C' tl a0 a1 a2 a3 n a5 hmro hslot
   (simp only[Bool.not_eq_true',Bool.and_eq_true,beq_iff_eq]at q)
   obtain⟨⟨⟨⟨⟨rfl,rfl⟩,hnd⟩,ht⟩,hns⟩,hin⟩:=q;obtain⟨c1,c2,c3,c4,c5,c6,c7,c8,c9,c10,c11⟩:=cd;dsimp only at hmro hnd hns hin;subst hmro hnd;have hslv:sl=#[a0,a1,a2,a3,some (.builtin n),a5]:=by obtain⟨l⟩:=sl;simp only at hslot;rw[hslot]
   subst hslv;exact⟨tl,c4,c1,c5,c2,c6,c7,c8,c9,c10,dd,a0,a1,a2,a3,a5,_,X _ _ hobj,.of_isNs (PySem.W.isNs_of_in X hns),PySem.W.nsMap_none_of_in X hns hin,PySem.W.tail_of_in X ht⟩
  ·cases q
 ·cases q
structure XCls(K:PySem.W.Frag)(mg:Str->Option Value)(x:Str)(C:Addr):Prop where
 at_:mg x=some (.ref C)
 exc:PySem.W.excIn K C rA "ValueError.__new__"=true
section
variable{P:Program}{w:World}{K:PySem.W.Frag}{mg:Str->Option Value}{base:Heap}{N:List Str}{qual:Str}{scope:Scope}{f:Addr}{cd:Value}{A:Around}{outer:List Env}{s:Shared}{H:Hp}{E:XK}
def HN{x:Str}{C:Addr}{np cpos pos:Pos}{e:Expr}{te:TE}(hc:XCls K mg x C)(he:PE (b7 P w K mg base N qual scope f cd A outer s H E) e te)
  (hg:Gl (b7 P w K mg base N qual scope f cd A outer s H E) x:=by rfl) (hd:(x==("__debug__":Str))=false:=by decide)
  (hst:starEach [e] (b7 P w K mg base N qual scope f cd A outer s H E).env=[(false,eval e (b7 P w K mg base N qual scope f cd A outer s H E).env)]:=by rfl) :
  PS (b7 P w K mg base N qual scope f cd A outer s H E) (.Raise (some (.Call (.Name x np) [e] [] cpos)) none pos) (λ_ σ H1=>te σ H1 λv H2=>[v].length=1/\E (.ref C) none H2):=by
 intro Xe s1 σ H1 D I h;have O:=wB (newId := "ValueError.__new__") (bmB:=rA) (mg:=mg) (x:=x) I.ok.mod.kin hc.at_ hc.exc;obtain⟨tl,Nn,nm,q,bs,hdct,sn,sub,ab,col,dd,k0,k1,k2,k3,k5,mN,hC,hN,hni,T⟩:=O.obj;refine wpAny_Raise_call_subT (C:=C) (nm:=nm) (q:=q) (N:=Nn) (bs:=bs) (bm:=tl) (hdct:=hdct) (sn:=sn) (sub:=sub) (ab:=ab) (col:=col) (dd:=dd) (k0:=k0) (k1:=k1) (k2:=k2) (k3:=k3) (k5:=k5)
  PySem.F.excBase_ValueError (mN:=mN) (T.hasType PySem.F.excBase_ValueError.hasBase) (I.ok.hd rfl) (by rw[hst];rfl) hni (ld_glob I hg hc.at_ ⟨rfl,?_⟩ hd)
 have hPA:=(pa_cons he pa_nil hst) cpos Xe s1 σ H1 (λvs H2=>vs.length=1/\E (.ref C) none H2) I h
 rw[hst]at hPA ⊢
 refine Calls.evalArgs_plain (Tp hPA (λvs s₂ h₂=>?_) λz z y=>y)
 obtain⟨ws,H2,I2,rv,l1,qE⟩:=h₂;have lv:vs.length=1:=by rw[<-rv.length];exact l1
 have kp:∀b o,base.get? b=some o->s₂.heap.get? b=some o:=I2.bk;exact⟨rfl,by rw[lv];decide,kp _ _ hC,hN.keeps kp,T.keeps kp,λh' e hm=>Og I2 hm qE⟩
end
section
variable{X:Cx}{Xe:List (Addr×Obj)}{σ:St}{H:Hp}{s:Shared}{h' B:Heap}
def Inv.land(I:Inv X Xe σ H s)(hc:X.env.cells=[])(hex:X.ex=[])(hB:B.StaysIn s.heap)(hB':B.StaysIn h')(up:s.heap.UpToSlots h')
  (fr:∀b∈X.fs,∃o,s.heap.get? b=some o/\∀vs,o.data≠.fields vs) (ci:∀b,H b≠none->∃o,B.get? b=some o) (cov:∀b o,X.s₀.heap.get? b=some o->b∉X.fs->∃o',B.get? b=some o')
  (cp:∀p∈X.pn++Xe,B.get? p.1=some p.2):Inv X Xe σ H { s with heap:=h' }:=by
 have nc:∀x c,X.env.cells.lookup x=some c->False:=λx c e=>by rw[hc]at e;cases e
 obtain⟨m,hn,hl⟩:=I.loc;have ub:Un X.fs [] X.H₀ H X.s₀.heap s.heap:=by have:=I.base;rw[hex]at this;exact this
 refine⟨I.ok,I.os,I.bare,?_,⟨m,up.ns hn,λi x v h1 h2 h3=>?_⟩,λx c e=>(nc x c e).elim,I.free,λx c e=>(nc x c e).elim,λp hp=>?_,oX I.hok hB hB' ci,I.len⟩
 ·rw[hex];exact sO ub hB hB' up fr cov
 ·obtain⟨u,r,q⟩:=hl i x v h1 h2 h3;refine⟨u,r,?_⟩;rcases q with q | ⟨_,c,e,_⟩
  ·exact .inl q
  ·exact (nc x c e).elim
 ·obtain⟨e,n,ne,nf,d⟩:=I.pin p hp;exact⟨hB' _ _ (cp p hp),n,ne,nf,d⟩
def Inv.gone(I:Inv X Xe σ H s)(hN:X.N.Nodup)(hi:X.N[i]?=some n)(hk:X.env.kindOf n=some .local)
  (h:∀s',Inv X Xe (σ.set i none) H s'->Q () s'):wpAny M A (do bindName X.env n .none;unbindBehindTheSuite X.env n pos) Q E s:=by
 obtain⟨m,hn,hl⟩:=id I.loc;have hcls:(X.env.scope.kind==.class || (X.env.scope.kind==.module&&X.env.locals != X.env.globals))=false:=by rw[I.ok.kind];rfl
 have cne:=I.cne;obtain⟨oL,_,_,hoL,_⟩:=id hn;refine wpAny_nameGoes_keeps hk hn hcls λh' v hn' hs=>?_
 refine h _ ⟨I.ok,I.os,I.bare,⟨λb o e n hb hx=>?_,λb o e n hb hx=>?_,I.base.free,λb o e hx=>?_,I.base.tups,I.base.frzs,I.base.tbls⟩,⟨_,hn',λj y v' e1 e2 e3=>?_⟩,λy c e=>?_,I.free,I.freeC,λp hp=>?_,λb ob e=>?_,by simpa using I.len⟩
 ·exact (hs.2 b (Tv (Tj (S8 e) I.ok.above))).trans (I.base.keep b o e n hb hx)
 ·obtain⟨sl,e1⟩:=I.base.slot b o e n hb hx;exact⟨sl,(hs.2 b (Tv (Tj (S8 e) I.ok.above))).trans e1⟩
 ·obtain⟨o',e1⟩:=I.base.there b o e hx;exact⟨o',(hs.2 b (Tv (Tj (S8 e) I.ok.above))).trans e1⟩
 ·have hj:j≠i:=λz=>by
   subst z;have hlt:j<σ.length:=by rw[I.len];exact (S5.mp hi).1
   rw[Th hlt]at e2;cases e2
  rw[Tc (Ne.symm hj)]at e2;obtain⟨u',r',q⟩:=hl j y v' e1 e2 e3;refine⟨u',r',?_⟩;rcases q with ⟨k,e⟩ | ⟨k,c,e,z⟩
  ·refine .inl ⟨k,?_⟩;have:y≠n:=λe=>hj (nodup_ix hN e1 (e ▸ hi))
   simp[this,e]
  ·exact .inr ⟨k,c,e,z.sameBut hs (cne y c e)⟩
 ·obtain⟨w',z⟩:=I.cell y c e;exact⟨w',z.sameBut hs (cne y c e)⟩
 ·obtain⟨e,n,ne,nf,d⟩:=I.pin p hp;exact⟨(hs.2 p.1 ne).trans e,n,ne,nf,d⟩
 ·refine (I.hok b ob e).stay (λc w' hc q=>(hs.2 c ?_).trans q) (λx q=>q) λx x q=>q
  rintro rfl;rcases hc with hc | hc
  ·rw[<-hc,I.free]at e;cases e
  ·rw[I.free]at hc;cases hc
end
def Rr(X:Cx)(Xe:List (Addr×Obj))(Eh:XK):Value->Shared->Prop:=λe s'=>
 ∃(σ':St) (H':Hp) (x:Addr) (C a0:Value) (B:Heap),e=.ref x∧Inv X Xe σ' H' s'∧Heap.FlyingW B X.stack x C a0 s'.heap∧(∀b,H' b≠none->∃o,B.get? b=some o) ∧
   (∀b o,X.s₀.heap.get? b=some o->b∉X.fs->∃o',B.get? b=some o')/\(∀p∈X.pn++Xe,B.get? p.1=some p.2)/\Eh C none H'
abbrev Cx.tryC(X:Cx)(Xe:List (Addr×Obj))(Eh:XK):Cx:={ X with pn:=X.pn++Xe,xe:=Rr X Xe Eh }
abbrev Cx.sui(X:Cx)(x:Addr)(oe:Obj):Cx:={ X with A:=X.A.mark (some (.ref x)),calm:=false,pn:=X.pn++[(x,oe)],xe:=λ_ _=>False }
section
variable{X:Cx}{Xe:List (Addr×Obj)}{σ:St}{H:Hp}{s:Shared}{Eh:XK}{P:Program}{w:World}
def Inv.toTry(I:Inv X Xe σ H s):Inv (X.tryC Xe Eh) [] σ H s:=
 ⟨⟨I.ok.mod,I.ok.kind,I.ok.glob,I.ok.blt,I.ok.above,I.ok.inj,I.ok.has,I.ok.cab,I.ok.hd,I.ok.frames,I.ok.stk,I.ok.exf,I.ok.bs,I.ok.bsz,I.ok.noex,I.ok.exfs,I.ok.funs,I.ok.frf⟩,I.os,I.bare,I.base,I.loc,I.cell,I.free,I.freeC,λp hp=>I.pin p (by simpa using hp),I.hok,I.len⟩
def Inv.ofTry(I:Inv (X.tryC Xe Eh) pins2 σ H s):Inv X Xe σ H s:=
 ⟨⟨I.ok.mod,I.ok.kind,I.ok.glob,I.ok.blt,I.ok.above,I.ok.inj,I.ok.has,I.ok.cab,I.ok.hd,I.ok.frames,I.ok.stk,I.ok.exf,I.ok.bs,I.ok.bsz,I.ok.noex,I.ok.exfs,I.ok.funs,I.ok.frf⟩,I.os,I.bare,I.base,I.loc,I.cell,I.free,I.freeC,λp hp=>I.pin p (Ud _ hp),I.hok,I.len⟩
def Inv.toSui(I:Inv X Xe σ H s)(h:s.heap.get? x=some oe/\H x=none/\x≠X.env.locals/\x∉X.fs/\∀ v,oe.data≠.cell v):Inv (X.sui x oe) Xe σ H s:=
 ⟨⟨I.ok.mod,I.ok.kind,I.ok.glob,I.ok.blt,I.ok.above,I.ok.inj,I.ok.has,I.ok.cab,fun z=>(by cases z),I.ok.frames,I.ok.stk,I.ok.exf,I.ok.bs,I.ok.bsz,I.ok.noex,I.ok.exfs,I.ok.funs,I.ok.frf⟩,I.os,I.bare,I.base,I.loc,I.cell,I.free,I.freeC,fun p hp=>by
  rcases T6.mp hp with hp | hp
  ·rcases T6.mp hp with hp | hp
   ·exact I.pin p (Ud _ hp)
   ·cases Tt.mp hp;exact h
  ·exact I.pin p (TQ _ hp),I.hok,I.len⟩
def Inv.ofSui(ok:X.Ok)(I:Inv (X.sui x oe) Xe σ H s):Inv X Xe σ H s:=
 ⟨ok,I.os,I.bare,I.base,I.loc,I.cell,I.free,I.freeC,fun p hp=>I.pin p (by
  rcases T6.mp hp with hp | hp
  ·exact Ud _ (Ud _ hp)
  ·exact TQ _ hp),I.hok,I.len⟩
def PP(hex:X.ex=[])(hP:X.prog=P)(hw:X.w=w):Passes (bJ P w) (X.tryC Xe Eh) Eh:=by
 subst hP hw;intro pins2 σ H1 s1 e s' I hf;obtain⟨x,C,a0,H',B,rfl,os,bare,un,hok,fl,ci,cii,q⟩:=hf;have J:Inv (X.tryC Xe Eh) pins2 σ H' s':=I.call' (ch:=[]) os un hok bare (λb z=>absurd z (by simp))
 have J':=J.ofTry;have cp:∀p∈X.pn++Xe,B.get? p.1=some p.2:=λp hp=>by
  obtain⟨e1,n1,ne1,nf1,d1⟩:=I.ofTry.pin p hp;obtain⟨e2,_⟩:=J'.pin p hp;obtain⟨o',e3⟩:=cii p.1 p.2 e1 (λhm=>by
   rcases T3.mp (I.ofTry.stkSub _ hm) with z | z
   ·exact ne1 z
   ·exact nf1 z)
  have:=fl.1 _ _ e3;rw[e2]at this;cases this;exact e3
 have cov:∀b o,X.s₀.heap.get? b=some o->b∉X.fs->∃o',B.get? b=some o':=λb o e hb=>by
  obtain⟨o1,h1⟩:=I.base.there b o e (by show b∉X.ex;rw[hex];simp)
  refine cii b o1 h1 λhm=>?_
  rcases T3.mp (I.ofTry.stkSub _ hm) with z | z
  ·exact absurd (S8 e) (by rw[z];exact U3.mpr I.ok.above)
  ·exact hb z
 exact⟨σ,H',x,C,a0,B,rfl,J',fl,ci,cov,cp,q⟩
end
section
variable{M:Model}{A:Around}{E:Value->Shared->Prop}
variable{nm q:Str}{C N:Addr}{bs bm:List Value}{hdct:Bool}{sn:List Str}{sub:List Value}{ab:Bool}{col:Option Bool}{dd:Option Addr}{k0 k1 k2 k3 k5:Option Value}{newId:String}
variable{nm' q':Str}{C' N':Addr}{bs' bm':List Value}{hdct':Bool}{sn':List Str}{sub':List Value}{ab':Bool}{col':Option Bool}{dd':Option Addr}{j0 j1 j2 j3 j5:Option Value}{newId':String}
def vX{h:Heap}{g:Array GenState}{d:Drawn}{t:Nat}{os:OsState}{e:Addr}{oe:Obj}{Q:Bool->Shared->Prop}
  (hC:h.get? C=some (excClassObj nm q C N bs bm hdct sn sub ab col dd k0 k1 k2 k3 k5 newId)) (hC':h.get? C'=some (excClassObj nm' q' C' N' bs' bm' hdct' sn' sub' ab' col' dd' j0 j1 j2 j3 j5 newId')) (he:h.get? e=some oe) (hcls:oe.cls=.ref C)
  (hbase:bm'.contains (.type "BaseException")=true) (hsub:(Value.ref C::bm).contains (.ref C')=true)
  (hq:Q true ⟨h,g,d,t,os⟩):wpAny M A (excMatches (.ref e) (.ref C')) Q E ⟨h,g,d,t,os⟩:=by
 have hcB:(Value.ref C'::bm').contains (.type "BaseException")=true:=by rw[List.contains_cons,hbase,Bool.or_true]
 have f:=tc_notTuple;unfold excMatches
 repeat (first | (with_reducible refine VM he ?_;rw[hcls]) | with_reducible refine VM hC' ?_ | (with_reducible refine wpAny_isSubtype_exc hC' ?_;rw[hcB]) | (with_reducible refine wpAny_isSubtype_exc hC ?_;rw[hsub]) | wp_step)
 all_goals exact hq
end
structure Catches(K:PySem.W.Frag)(C F:Addr):Prop where
 exc:PySem.W.excIn K C rA "ValueError.__new__"=true
 excF:PySem.W.excIn K F rA "ValueError.__new__"=true
 sub:PySem.W.mroIn K C (.ref F)=some true
set_option tactic.hygienic true in
def CK{K:PySem.W.Frag}{M:Model}{A:Around}{E:Value->Shared->Prop}{s:Shared}{C F e:Addr}{oe:Obj}{Q:Bool->Shared->Prop}(X:K.In s.heap)(c:Catches K C F)(he:s.heap.get? e=some oe)(hcls:oe.cls=.ref C)(hq:Q true s):
  wpAny M A (excMatches (.ref e) (.ref F)) Q E s:=by
 obtain⟨bm,N,nm,q,bs,hdct,sn,sub,ab,col,dd,k0,k1,k2,k3,k5,mN,hC,hN,hni,T⟩:=(wB (mg:=λz=>some (.ref C)) (x := "x") X rfl c.exc).obj
 obtain⟨bm',N',nm',q',bs',hdct',sn',sub',ab',col',dd',j0,j1,j2,j3,j5,mN',hC',hN',hni',T'⟩:=(wB (mg:=λz=>some (.ref F)) (x := "x") X rfl c.excF).obj
 have hsub:(Value.ref C::bm).contains (.ref F)=true:=by
  have h1:=c.sub;unfold PySem.W.mroIn at h1;obtain⟨cd,a,b⟩:=T4.mp h1;unfold PySem.W.clsIn at a;split at a
  ·rename_i c' d' cd' sl' ho;have:=X _ _ ho;rw[hC]at this;cases this;cases a;split at b
   ·cases b
   ·exact Tf b
  ·cases a
 obtain⟨hp,g,d,tk,os⟩:=s;exact vX hC hC' he hcls (T'.hasType PySem.F.excBase_ValueError.hasBase) hsub hq
def Rg(X:Cx)(i:Nat)(F:Addr)(Eh:XK)(tb:TS)(th:Addr->Obj->TS):TS:=λD σ H=>
 tb D σ H/\∀(x:Addr) (oe:Obj) (C:Value) (H1:Hp),oe.cls=C->(∃vs,oe.data=.fields vs)->Eh C none H1->(∃c,C=.ref c/\Catches X.K c F) /\
  th x oe { D with nx:=λσ' H'=>D.nx (σ'.set i none) H',bk:=λσ' H'=>D.bk (σ'.set i none) H',ct:=λσ' H'=>D.ct (σ'.set i none) H' } ((List.replicate X.N.length none).set i (some (.ref x))) H1
def NZ(hcalm:X.calm=true)(hcells:X.env.cells=[])(hex:X.ex=[])
  (hst:X.stack=X.env::X.outer) (hfr:X.env.frame=some X.env.locals) (hN:X.N.Nodup) (hi:X.N[i]?=some n) (hk:X.env.kindOf n=some .local) (hm:X.mg x=some (.ref F))
  (hb:∀Xe,PSs (X.tryC Xe Eh) body tb) (hs:∀y oe,PSs (X.sui y oe) (b₀::suite) (th y oe)) (hg:Gl X x:=by rfl) (hd:(x==("__debug__":Str))=false:=by decide) :
  PS X (.Try body [.ExceptHandler (some (.Name x np)) (some n) (b₀::suite) p1] [] [] pos) (Rg X i F Eh tb th):=by
 intro Xe s σ H D I h;obtain⟨h1,h2⟩:=h;have Io:∀{f:Flow}{s':Shared},SP (X.tryC Xe Eh) [] D f s'->SP X Xe D f s':=λ{f s'} z=>by
  cases f with
  |next=>obtain⟨σ',H',J,q⟩:=z;exact⟨σ',H',J.ofTry,q⟩
  |brk=>obtain⟨σ',H',J,q⟩:=z;exact⟨σ',H',J.ofTry,q⟩
  |cont=>obtain⟨σ',H',J,q⟩:=z;exact⟨σ',H',J.ofTry,q⟩
  |ret u=>obtain⟨v,σ',H',J,r,q⟩:=z;exact⟨v,σ',H',J.ofTry,r,q⟩
 refine wpAny_Try_except (Tp ((hb Xe) [] s σ H D I.toTry h1) (λf s₁ hf=>?_) λe s₁ he=>?_)
 ·have hf':=Io hf;cases f with
  |next=>exact Wc hf'
  |brk=>exact hf'
  |cont=>exact hf'
  |ret u=>exact hf'
 obtain⟨σ',H',y,C,a0,B,rfl,J,fl,ci,cov,cp,q⟩:=he;have hfrs:X.A.frames=some (X.env::X.outer):=by rw[I.ok.frames,hst]
 rw[hst]at fl;have fr:∀b∈X.fs,∃o,s₁.heap.get? b=some o/\∀vs,o.data≠.fields vs:=λb hb=>(fl.2.2.1.2.2.mem hb).2
 refine wpAny_looks_onW hfrs hfr fl λh₄ held up₄=>?_
 refine wpAny_landsW held λh₅ fl₅ up₅=>?_
 have J₅:Inv X Xe σ' H' { s₁ with heap:=h₅ }:=J.land hcells hex fl.1 fl₅.1 (up₄.trans up₅) fr ci cov cp
 obtain⟨ob,wb,hob,hobc,hobd,_⟩:=fl₅.first;refine wpAny_handleBy_cons (codeAny_handlers_test ?_) (by intro z;cases z)
 have K₅:∀{E:Value->Shared->Prop}{Q:Value->Shared->Prop},Q (.ref F) { s₁ with heap:=h₅ }->wpAny (model X.prog X.w) (X.A.mark (some (.ref y))) (eval (.Name x np) X.env) Q E { s₁ with heap:=h₅ }:=λhQ=>
  V6 I.ok.kind hg (by
   have g5:h₅.Ns X.env.globals X.mg:=by rw[I.ok.glob];exact I.ok.mod.glob.keeps J₅.bk
   exact Calls.loadGlobal_global g5 hm hQ) hd
 refine K₅ ?_;obtain⟨⟨c,hCc,cat⟩,_⟩:=h2 y ob C H' hobc ⟨_,hobd⟩ q;subst hCc;refine CK J₅.kIn cat hob hobc ?_;refine codeAny_handlers_suite_as ?_;refine lands_againW fl₅ λh₆ fl₆ up₆=>?_
 have fr₅:∀b∈X.fs,∃o,h₅.get? b=some o/\∀vs,o.data≠.fields vs:=λb hb=>(fl₅.2.2.1.2.2.mem hb).2
 have fr₆:∀b∈X.fs,∃o,h₆.get? b=some o/\∀vs,o.data≠.fields vs:=λb hb=>(fl₆.2.2.1.2.2.mem hb).2
 have J₆:Inv X Xe σ' H' { s₁ with heap:=h₆ }:=J₅.land (s:={ s₁ with heap:=h₅ }) hcells hex fl₅.1 fl₆.1 up₆ fr₅ ci cov cp
 have J₇:Inv X Xe (List.replicate X.N.length none) H' { s₁ with heap:=h₆ }:=J₆.weak (by rw[J₆.len];simp) λi v z=>by rw[UJ]at z;split at z<;>cases z
 obtain⟨oe,ws,hoe,hoec,hoed,hoe0⟩:=fl₆.first;obtain⟨m,⟨oL,es,ep,hoL,hdL,_⟩,_⟩:=id J₇.loc;have ynL:y≠X.env.locals:=λz=>by rw[z]at hoe;rw[hoL]at hoe;cases hoe;rw[hdL]at hoed;cases hoed
 have ynf:y∉X.fs:=λz=>by obtain⟨o,ho,nf⟩:=fr₆ y z;rw[hoe]at ho;cases ho;exact nf _ hoed
 have yH:H' y=none:=by
  cases z:H' y with
  |none=>rfl
  |some o=>
    obtain⟨o',e'⟩:=ci y (by rw[z];simp)
    rw[fl.2.1]at e';cases e'
 refine store_ok2 (v:=.ref y) J₇ hN hi (.inl hk) rfl (λs' I' hsb=>?_) (.inr hk)
 obtain⟨a,hsb,ha⟩:=hsb;have ha':a=X.env.locals:=by
  rcases ha with ha | ha
  ·exact ha
  ·rw[hcells]at ha;cases ha
 subst ha';have hoe':s'.heap.get? y=some oe:=(hsb.2 y ynL).trans hoe;have IS:=I'.toSui (x:=y) (oe:=oe) ⟨hoe',yH,ynL,ynf,λv z=>by rw[hoed]at z;cases z⟩
 refine Tp ((hs y oe) Xe s' _ H' _ IS (h2 y oe (.ref c) H' hoec ⟨_,hoed⟩ q).2) (λf s₃ hf=>?_) λt t z=>z.elim
 cases f with
 |next=>obtain⟨σ2,H2,J2,q2⟩:=hf;exact (J2.ofSui I.ok).gone hN hi hk λs4 J4=>⟨_,H2,J4,q2⟩
 |brk=>obtain⟨σ2,H2,J2,q2⟩:=hf;exact (J2.ofSui I.ok).gone hN hi hk λs4 J4=>⟨_,H2,J4,q2⟩
 |cont=>obtain⟨σ2,H2,J2,q2⟩:=hf;exact (J2.ofSui I.ok).gone hN hi hk λs4 J4=>⟨_,H2,J4,q2⟩
 |ret u=>obtain⟨v,σ2,H2,J2,r2,q2⟩:=hf;exact (J2.ofSui I.ok).gone hN hi hk λs4 J4=>⟨v,_,H2,J4,r2,q2⟩
structure XAt(K:PySem.W.Frag)(D:Addr):Prop where
 ga:PySem.W.findIn K (.ref D) "__getattribute__"=some (some (.builtin "BaseException.__getattribute__"))
 gn:PySem.W.findIn K (.ref D) "__getattr__"=some none
 gc:PySem.W.findIn K (.ref D) "__class__"=some (some (.builtin "object.__class__"))
 mo:PySem.W.mroIn K D (.type "object")=some true
 mb:PySem.W.mroIn K D (.type "BaseException")=some true
section
variable{prog:Program}{w:World}{A:Around}{E:Value->Shared->Prop}{h:Heap}{g:Array GenState}{d:Drawn}{t:Nat}{os:OsState}{x D:Addr}{oe:Obj}{K:PySem.W.Frag}
def Et(hx:h.get? x=some oe)(hc:oe.cls=.ref D):PySem.W.Looks M h (typeOf (.ref x)) (.ref D):=hc ▸ (PySem.W.Looks.ld hx).andThen .now
open PySem.W Builtin.Getset_descriptor Builtin.ObjectAttr Builtin in
def Cj(X:K.In h)(hx:h.get? x=some oe)(hc:oe.cls=.ref D)(hm:mroIn K D (.type "object")=some true)
  (hR:R (.ok (.ret (.ref D))) ⟨h,g,d,t,os⟩):codeAny (model prog w) A (.call (.builtin "getset_descriptor.__get__") ⟨[.builtin "object.__class__",.ref x,tp],[]⟩) R ⟨h,g,d,t,os⟩:=by
 have Lty:=Et (M:=model prog w) hx hc;have Lmr:=looks_mroIn (M:=model prog w) X hm;refine Vx KF.slot_gs.plain KF.entry_gs (KF.slot_gs.check _ _ _ _ _ _ _ _ KF.type_class (KF.args_gs _ _ _) ?_)
 (unfold Builtin.«getset_descriptor.__get__» descrGet;rw[dga_obj];refine SQ (S6 ?_))
 (unfold descrGetter descrCheckInstance descrNameAndClass isInstance;simp only[KF.owner_class];repeat lk)
 refine⟨Code.quiet_builtin _ (by decide +kernel),Wv KF.entry_class ?_⟩
 (unfold Builtin.«object.__class__» shownTypeOf;repeat lk)
 all_goals first | exact hR | assumption
def Ai(X:K.In h)(T:XAt K D)(hx:h.get? x=some oe)(hc:oe.cls=.ref D)(hq:Q (.done (.ret (.ref D))) ⟨h,g,d,t,os⟩):
  wpAny (model prog w) A (Builtin.«object.__getattribute__» ⟨[.ref x,.str "__class__" tk],[]⟩) Q E ⟨h,g,d,t,os⟩:=by
 have tyc:(⟨h,g,d,t,os⟩:Shared).TypeIs (.builtin "object.__class__") "getset_descriptor":=F.typeOf_object_class;have u5:=F.typeOf_object_class;have u6:=F.slot_gs_get.lookup;have u7:=F.slot_gs_set.lookup;have Lc:=Vi (M:=model prog w) X T.gc
 repeat (any_goals (first | assumption | (with_reducible refine VM hx ?_;rw[hc]) | with_reducible refine Lc.at ?_ | wp_step))
 refine Cj X hx hc T.mo ?_
 repeat (any_goals (first | wp_step | assumption))
def Ha(X:K.In h)(T:XAt K D)(hx:h.get? x=some oe)(hc:oe.cls=.ref D)(hq:Q () ⟨h,g,d,t,os⟩):
  wpAny M A (checkBuiltinCall "BaseException.__getattribute__" ⟨[.ref x,nameV],[]⟩) Q E ⟨h,g,d,t,os⟩:=by
 have bk:builtinKind "BaseException.__getattribute__"=some .slot:=by decide +kernel
 have spl:splitId "BaseException.__getattribute__"=some ("BaseException", "__getattribute__"):=by decide +kernel
 have ha:=F.args_bexc_ga (.ref x) nameV;have Lb:=Wa (M:=M) X T.mb;simp only[checkBuiltinCall,bk,spl];refine SQ ?_
 ·unfold isInstance
  repeat (first | (with_reducible refine VM hx ?_;rw[hc]) | with_reducible refine Lb.at ?_ | wp_step)
  exact hq
def Ci(X:K.In h)(T:XAt K D)(hx:h.get? x=some oe)(hc:oe.cls=.ref D)(hq:R (.ok (.ret (.ref D))) ⟨h,g,d,t,os⟩):
  codeAny (model prog w) A (.call (.builtin "BaseException.__getattribute__") ⟨[.ref x,.str "__class__" tk],[]⟩) R ⟨h,g,d,t,os⟩:=
 Vx F.attrBase_ValueError.ga.plain F.entry_bexc_ga (Ha X T hx hc (Ai X T hx hc hq))
def Hb{fill expr:Bool}{Q:Value->Shared->Prop}(X:K.In h)(T:XAt K D)(hx:h.get? x=some oe)(hc:oe.cls=.ref D)(hq:Q (.ref D) ⟨h,g,d,t,os⟩):
  wpAny (model prog w) A (getAttrBy (.ref x) (.str "__class__" tk) fill expr) Q E ⟨h,g,d,t,os⟩:=by
 have u3:=F.attrBase_ValueError.ga.bind (.ref x);have ex0:(expr&&onTheHeap (Value.builtin "BaseException.__getattribute__"))=false:=by cases expr<;>rfl
 have ex2:(Value.builtin "BaseException.__getattribute__"==Value.builtin "object.__getattribute__")=false:=by decide +kernel
 have ex1:(onTheHeap (Value.ref D)&&Value.builtin "BaseException.__getattribute__"==Value.builtin "object.__getattribute__")=false:=by rw[ex2];rfl
 have L1:=Vi (M:=model prog w) X T.ga;have L2:=Vi (M:=model prog w) X T.gn
 repeat (any_goals (first | assumption | (with_reducible refine VM hx ?_;rw[hc]) | with_reducible refine L1.at ?_ | with_reducible refine L2.at ?_ | wp_step))
 refine Ci X T hx hc ?_
 repeat (any_goals (first | wp_step | assumption))
def uM{Q:Option Value->Shared->Prop}(X:K.In h)(T:XAt K D)(hx:h.get? x=some oe)(hc:oe.cls=.ref D)(hq:Q (some (.ref D)) ⟨h,g,d,t+1,os⟩):
  wpAny (model prog w) A (getAttr? (.ref x) "__class__") Q E ⟨h,g,d,t,os⟩:=by
 unfold getAttr? getAttrBy?;refine SQ (wpAny_mkText (SQ (WQ (Hb X T hx hc ?_))))
 repeat (any_goals (first | wp_step | assumption))
end
set_option tactic.hygienic true in
def Hr{K:PySem.W.Frag}{x D:Addr}{oe:Obj}(T:XAt K D)(hc:oe.cls=.ref D):
  PySem.W.KitX K (.ref x) (.ref D) (λh=>h.get? x=some oe) where
 ty:=λy y y I=>Et I hc
 it:=λy y X y=>by
  have h1:=T.mo;unfold PySem.W.mroIn at h1;obtain⟨cd,a,b⟩:=T4.mp h1;unfold PySem.W.clsIn at a;split at a
  ·rename_i c' d' cd' sl' ho;intro A' Q' E' s' k q;unfold isType loadHead;exact SQ (wpAny_loadPart (k _ _ (X _ _ ho)) (S6 q))
  ·cases a
 ne:=λh tp dd its n sl X htp=>by
  have h1:=T.mo;unfold PySem.W.mroIn at h1;obtain⟨cd,a,b⟩:=T4.mp h1;refine Bool.eq_false_iff.mpr λq=>?_
  cases Value.ref.inj (VG.mp q);unfold PySem.W.clsIn at a;split at a
  ·rename_i c' d' cd' sl' ho;have z:=(X _ _ ho).symm.trans htp;cases z
  ·cases a
 ca:=λ{_ _ _ _ _ s} X I k=>by obtain⟨h,g,d,t,os⟩:=s;exact uM X T I hc k
def NP(h:X.mg x=some (.ref C))(hg:Gl X x:=by rfl)(hd:(x==("__debug__":Str))=false:=by decide):PE X (.Name x pos) (tC (.ref C)):=pe_glob hg h rfl hd
def pick(js:List Nat)(σ:St):St:=js.map λj=>(σ[j]?).getD none
def GJ(u:Un fs ex H H' h0 h)(hs:Heap.SameBut C h h')(hC:h0.objs.size<=C):Un fs ex H H' h0 h' where
 keep b o e n hb hx:=(hs.2 b (Tv (Tj (S8 e) hC))).trans (u.keep b o e n hb hx)
 slot b o e n hb hx:=by obtain⟨sl,e1⟩:=u.slot b o e n hb hx;exact⟨sl,(hs.2 b (Tv (Tj (S8 e) hC))).trans e1⟩
 free:=u.free
 there b o e hx:=by obtain⟨o',e1⟩:=u.there b o e hx;exact⟨o',(hs.2 b (Tv (Tj (S8 e) hC))).trans e1⟩
 tups:=u.tups
 frzs:=u.frzs
 tbls:=u.tbls
def Bk(ok:HOk P w H h)(hs:Heap.SameBut C h h')(hC:H C=none):HOk P w H h':=λb ob e=>
 (ok b ob e).stay (λc w' hc q=>(hs.2 c (by
   rintro rfl;rcases hc with hc | hc
   ·rw[<-hc,hC]at e;cases e
   ·rw[hC]at hc;cases hc)).trans q) (λz q=>q) λz z q=>q
structure DefC(P:Program)(w:World)(K:PySem.W.Frag)(mg:Str->Option Value)(base:Heap)(k:Nat)(x:Str)(ps:List Str)(sp:Sp):Prop where
 ex:∃f fd,FnOk P w K mg base (bJ P w) k f fd ps sp/\Binds K fd ps []/\PySem.W.keepIn K (.ref f)=true/\mg x=some (.ref f)
section
variable{P:Program}{w:World}{K:PySem.W.Frag}{mg:Str->Option Value}{base:Heap}{k:Nat}{x:Str}{N ps:List Str}{sp:Sp}{st:Stmt}
def RB(F:Fun K x x st f fd)(S:FnScope N ps (defScope st))(len:∀ vs H Q E,sp vs H Q E->vs.length=ps.length)
  (hbody:∀(cdv:Value) (A:Around) (outer:List Env) (s:Shared) (H:Hp) (vs:List V) (Q:VK) (E:XK),Room k (A.deeper (envOfC x (defScope st) s.heap.objs.size f cdv))->sp vs H Q E->
    ∃t,PSs (b7 P w K mg base N x (defScope st) f cdv A outer s H E) (defBody st) t/\t { nx:=λz H'=>Q .non H',rt:=Q } (start N vs) H):FnOk P w K mg base (bJ P w) (k+1) f fd ps sp:=by
 obtain⟨oc,od,kV,doc,pm,an,cdv,ct,osl,rfl,l,c⟩:=F.ex;exact fn_of l c S len (hbody cdv)
def DefAt.okE(D:DefAt K mg x st)(S:FnScope N ps (defScope st))(hb:∀ (kV doc pm:Value) (an:Option Addr) (cdv ct:Value) (us:List Value),us.length=ps.length->bindArgs (PySem.W.fnOf x x (defArgs st) (defBody st) (defScope st) .none kV doc pm an cdv ct) ⟨us,[]⟩=pure (ps.zip us))
  (len:∀vs H Q E,sp vs H Q E->vs.length=ps.length)
  (hbody:∀(f:Addr) (cdv:Value) (A:Around) (outer:List Env) (s:Shared) (H:Hp) (vs:List V) (Q:VK) (E:XK),Room k (A.deeper (envOfC x (defScope st) s.heap.objs.size f cdv))->sp vs H Q E->
    ∃t,PSs (b7 P w K mg base N x (defScope st) f cdv A outer s H E) (defBody st) t/\t { nx:=λz H'=>Q .non H',rt:=Q } (start N vs) H):DefC P w K mg base (k+1) x ps sp:=by
 obtain⟨f,fd,F,m⟩:=D.ex;exact⟨f,fd,RB F S len (hbody f),F.binds hb,F.kp,m⟩
end
def qJ:Passes (bJ P w) X E0:=λz z z z z z z h=>by obtain⟨_,_,_,_,_,_,_,_,_,_,_,_,_,q⟩:=h;exact q.elim
section
variable{X:Cx}{j k:Nat}{ps:List Str}{sp:Sp}{x:Str}{p pos:Pos}{e:Expr}{es:List Expr}{t:TA}{E:XK}
def HD(D:DefC X.prog X.w X.K X.mg X.base j x ps sp)(hr:Room k X.A)(hx:Passes (bJ X.prog X.w) X E)(ha:PA X (e::es) t)(hjk:j<=k:=by decide)(hg:Gl X x:=by rfl)(hdb:(x==("__debug__":Str))=false:=by decide)
  (he:starEach (e::es) X.env=(false,eval e X.env)::starEach es X.env:=by rfl) (hpl:(backTo pos (starEach es X.env)).any (·.1)=false:=by rfl) :
  PE X (.Call (.Name x p) (e::es) [] pos) (tCall sp [] E t):=by
 obtain⟨f,fd,F,b,kp,m⟩:=D.ex;exact pe_call F (hr.mono hjk) hg m kp b .nil hx ha hdb he hpl
end
section
variable{X:Cx}{Xe:List (Addr×Obj)}{σ:St}{H:Hp}{s:Shared}{a:Addr}{y v:V}{u r:Value}{o:Option V}{A:Around}{E:Value->Shared->Prop}
def Inv.big(I:Inv X Xe σ H s):sysModules<s.heap.objs.size:=by have h:mainGlobals<s.heap.objs.size:=(I.mod.glob.keeps I.bk).lt;exact Nat.lt_trans (by decide) h
end
def dk_empty(h:Heap)(hb:sysModules<h.objs.size):ObjOk P w H (h.push { cls:=.type "dict",data:=.dict #[] }) h.objs.size (.dK []):=
 ⟨Vh _,VD.mpr (Ne.symm (Tv hb)),[],.nil,Heap.DictOf.new h⟩
def tDNewK:TE:=λz H Q=>∀p,H p=none->Q (.ref p) (upd H p (.dK []))
section
variable{X:Cx}{pos:Pos}
def pe_dnewK:PE X (.Dict [] [] pos) tDNewK:=λXe s σ H Q I h=>
 wpAny_Dict_empty ⟨.ref s.heap.objs.size,_,I.laid (a:=s.heap.objs.size) (o:=.dK []) (t':=s.toks) (λz z q=>SX _ q) (Td _) (dk_empty s.heap I.big),rfl,h _ (I.hok.fresh (Td _))⟩
end
end L2
namespace HT
open PySem PySem.Spec PyProof.Rows PySem.W
section
variable{prog:Program}{w:World}{A:Around}{E:Value->Shared->Prop}{s:Shared}
def G8{vs ws:List Value}{Q:Value->Shared->Prop}(ht:IsTup s.heap t vs.toArray)(hb:IsTup s.heap b ws.toArray)(hv:vs=[])
  (h1:Q (.ref b) s):wpAny (model prog w) A (binaryOp .Add (.ref t) (.ref b)) Q E s:=by
 obtain⟨⟨cls,dd,data,sl⟩,ho,hc,n,hd⟩:=id ht;obtain⟨⟨cls2,dd2,data2,sl2⟩,ho2,hc2,n2,hd2⟩:=id hb;simp only at hc hd hc2 hd2;subst hc hd hc2 hd2;exact concat_meets ⟨_,ho,rfl⟩ ⟨_,ho2,rfl⟩ noFill_tuple_add seq_tuple_add Wn Wm (Wh _ _)
   (tuple_addW0 t b vs.toArray ws.toArray n n2 dd dd2 sl sl2 (by simp[hv])) ⟨ho,ho2,h1⟩
def sS{items:Array Value}{lo hi:Option Int}{Q:Value->Shared->Prop}(ht:IsTup s.heap t items)(hs:s.heap.IsSliceOf sl vl vu .none)(pl:IsPart vl lo)(pu:IsPart vu hi)
  (hw:sIx items.size 0 lo=0/\sIx items.size items.size hi=items.size) (h:Q (.ref t) s):wpAny (model prog w) A (getItem (.ref t) (.ref sl)) Q E s:=by
 obtain⟨os,hos,hcs,hds⟩:=id hs;obtain⟨ot,hot,hct,nt,hdt⟩:=id ht;have hTs:s.TypeIs (.ref sl) "slice":=⟨os,hos,hcs⟩;have hTt:s.TypeIs (.ref t) "tuple":=⟨ot,hot,hct⟩;unfold getItem
 try with_reducible refine Ub ?_
 first | refine SQ (S6 ?_) | skip
 refine SQ (wpAny_sequenceKey ht.typeIs (by decide) ?_)
 refine SQ (UG (name:=Str.ofString "__getitem__") ht.typeIs Vg
  (Vd Vg ht.typeIs entry_tuple_getitem ?_ (args_tuple_getitem _ _)))
 show wpAny _ _ (Builtin.Tuple.tupleItemsOf (.ref t)>>=_) _ _ s;refine SQ (tupleItemsOf_ ht ?_);refine SQ (Wi hTs ?_);rw[S7 (by decide)]
 refine SQ (sliceApplied_gen hs pl pu ?_);have hno:((((sIx items.size 0 lo:Nat):Int)==0&&(1:Int)==1&&(sIx items.size items.size hi-sIx items.size 0 lo)==items.size)=true):=by rw[hw.1,hw.2];simp
 show wpAny _ _ (if (((sIx items.size 0 lo:Nat):Int)==0&&(1:Int)==1&&(sIx items.size items.size hi-sIx items.size 0 lo)==items.size)=true then _ else _) _ _ s
 rw[S7 hno];unfold Builtin.Tuple.tupleIsExact;refine SQ ?_;refine SQ (Wi hTt (S6 ?_));rw[S7 (by decide)]
 exact SQ (V4 (S6 ⟨_,rfl,S6 h⟩))
end
end HT
namespace L2
open PySem PySem.Spec PyProof.Rows
section
variable{X:Cx}
def Hj{xs:List V}{lo hi:Option Int}(h:HT.sIx xs.length 0 lo=0/\HT.sIx xs.length xs.length hi=xs.length):cutV xs lo hi=xs:=by unfold cutV;rw[h.1,h.2];simp
def Q6:V->Option Int->Option Int->Hp->VK->Prop:=λx lo hi H Q=>∃a xs,x=.ref a/\H a=some (.tup xs)/\∀p H',Same H H'->H' p=some (.tup (cutV xs lo hi))->Q (.ref p) H'
def Kf:SlR X Q6:=by
 intro Xe s σ H x v vl vu lo hi sl Q I rx hs pl pu h;obtain⟨a,xs,rfl,hx,q⟩:=h;by_cases hw:HT.sIx xs.length 0 lo=0/\HT.sIx xs.length xs.length hi=xs.length
 ·cases rx;obtain⟨its,r,ht,hz⟩:=I.tuple (SqT.of hx);have hlen:its.toArray.size=xs.length:=by rw[Tu];exact r.length.symm
  refine⟨"tuple",_,PyProof.Rows.slot_tuple_getitem.lookup,ht.typeIs,?_⟩;refine HT.sS ht hs pl pu (by rw[hlen];exact hw) ⟨.ref a,H,I,rfl,q a H (Same.refl _) (by rw[Hj hw];exact hx)⟩
 ·exact sl_tup (X:=X) Xe s σ H _ v vl vu lo hi sl Q I rx hs pl pu ⟨a,xs,rfl,SqT.of hx,hw,λp hp=>q p _ (same_new hp _) upd_same⟩
def Qc:R2:=λx y H Q=>∃a b xs ys,x=.ref a/\y=.ref b/\H a=some (.tup xs)/\H b=some (.tup ys)/\xs.length+ys.length<=sizeLine/\∀p H',Same H H'->H' p=some (.tup (xs++ys))->Q (.ref p) H'
def JQ:OpR X (binaryOp .Add) Qc:=by
 intro Xe s σ H x y v u Q I rx ry h;obtain⟨a,b,xs,ys,rfl,rfl,ha,hb,hz,q⟩:=h;by_cases hx:xs=[]
 ·cases rx;cases ry;obtain⟨its,r1,p1,_⟩:=I.tuple (SqT.of ha);obtain⟨its2,r2,p2,_⟩:=I.tuple (SqT.of hb);exact HT.G8 p1 p2 (r1.nil_iff.mpr hx) ⟨.ref b,H,I,rfl,q b H (Same.refl _) (by rw[hx,List.nil_append];exact hb)⟩
 ·exact op_catT (X:=X) Xe s σ H _ _ v u Q I rx ry ⟨a,b,xs,ys,rfl,rfl,SqT.of ha,SqT.of hb,hx,hz,λe=>q a H (Same.refl _) (by rw[e,Ux];exact ha),λz p hp=>q p _ (same_new hp _) upd_same⟩
end
mutual
inductive RepF(H:Hp):Bool->V->PyData->Prop
 |non {f:Bool}:RepF H f .non .none
 |bl {f:Bool} (b:Bool):RepF H f (.bl b) (.bool b)
 |int {f:Bool} (i:Int):RepF H f (.int i) (.int i)
 |str {f:Bool} (x:Str):RepF H f (.str x) (.str x)
 |lst {f:Bool}{a:Addr}{xs:List V}{ds:List PyData}:H a=some (.lst xs)->RepsF H f xs ds->RepF H f (.ref a) (.list ds)
 |tup {f:Bool}{a:Addr}{xs:List V}{ds:List PyData}:H a=some (.tup xs)->RepsF H f xs ds->RepF H f (.ref a) (.tuple ds)
 |d0 {a:Addr}:H a=some (.dK [])->RepF H false (.ref a) (.dict [])
 |d1 {a:Addr}{i j:Int}:H a=some (.dK [(.inl i,.int j)])->RepF H false (.ref a) (.dict [(.int i,.int j)])
inductive RepsF(H:Hp):Bool->List V->List PyData->Prop
 |nil {f:Bool}:RepsF H f [] []
 |cons {f:Bool}{v:V}{d:PyData}{vs:List V}{ds:List PyData}:RepF H f v d->RepsF H f vs ds->RepsF H f (v::vs) (d::ds)
end
def RepF.toRep{K:PySem.W.Frag}{H:Hp}{v:V}{d:PyData}(h:RepF H true v d):Rep K H v d:=
 RepF.rec (motive_1:=λf v d z=>f=true->Rep K H v d) (motive_2:=λf vs ds z=>f=true->Reps K H vs ds) (λz=>.non) (λb z=>.bl b) (λb z=>.int b) (λb z=>.str b) (λh z i e=>.lst (SqL.of h) (i e)) (λh z i e=>.tup (SqT.of h) (i e)) (λz e=>nomatch e) (λz e=>nomatch e) (λz=>.nil) (λz z i j e=>.cons (i e) (j e)) h rfl
mutual
def KZ:PyData->Nat
 |.none | .bool _=>5
 |.int _=>1921
 |.str x=>(reprText x).length
 |.list xs | .tuple xs=>Ih xs+3
 |.dict _=>8000
def Ih:List PyData->Nat
 |[]=>0
 |x::xs=>KZ x+2+Ih xs
end
def Q3(hc:CallR X (.type T) r)(hm:X.mg x=none)(ha:PA X (e::es) t)(hg:Gl X x:=by rfl)(hv:bootBuiltins x=some (.type T):=by decide +kernel)(hn:x≠"__name__":=by decide)(hdb:(x==("__debug__":Str))=false:=by decide)
  (he:starEach (e::es) X.env=(false,eval e X.env)::starEach es X.env:=by rfl) (hpl:(backTo pos (starEach es X.env)).any (·.1)=false:=by rfl) :
  PE X (.Call (.Name x p) (e::es) [] pos) (tCB r t):=pe_callTy hc hg hm hv ha hn hdb he hpl
def notStar:Expr->Bool
 |.Starred _ _=>false
 |_=>true
def bU(h:notStar e=true):starEach (e::es) env=(false,eval e env)::starEach es env:=by cases e<;>first | rfl | cases h
def zL(ha:PE X e te)(hr:PA X es t)(hs:notStar e=true:=by rfl):PA X (e::es) (tCons te t):=pa_cons ha hr (bU hs)
structure QI(X:Cx)(tg l:Expr)(wi:TI):Prop where
 h:PI X tg l wi
structure QA(X:Cx)(es:List Expr)(t:TA):Prop where
 h:PA X es t
def N6:QA X [] tNil:=⟨pa_nil⟩
def Q5(ha:PE X e te)(hr:QA X es t)(hs:notStar e=true:=by rfl):QA X (e::es) (tCons te t):=⟨zL ha hr.h hs⟩
section
variable{X:Cx}{j k:Nat}{ps:List Str}{sp:Sp}{x:Str}{p pos:Pos}{e:Expr}{es:List Expr}{t:TA}{E:XK}
def JV{x1}(h:QA X es t):PE X (.Tuple es x1 pos) (tTup t):=pe_tup h.h
def Bt(h:QA X es t):PE X (.List es pos) (tLst t):=pe_lst h.h
def xF(D:DefC X.prog X.w X.K X.mg X.base j x ps sp)(hr:Room k X.A)(hx:Passes (bJ X.prog X.w) X E)(ha:QA X (e::es) t)(hjk:j<=k:=by decide)(hg:Gl X x:=by rfl)(hdb:(x==("__debug__":Str))=false:=by decide)
  (he:notStar e=true:=by rfl) (hpl:(backTo pos (starEach es X.env)).any (·.1)=false:=by rfl) :
  PE X (.Call (.Name x p) (e::es) [] pos) (tCall sp [] E t):=HD D hr hx ha.h hjk hg hdb (bU he) hpl
def PQ{id:String}{r:List V->Hp->VK->Prop}(hc:CallR X (.builtin id) r)(hm:X.mg x=none)(ha:QA X (e::es) t)(hg:Gl X x:=by rfl)(hv:bootBuiltins x=some (.builtin id):=by decide +kernel)(hn:x≠"__name__":=by decide)(hdb:(x==("__debug__":Str))=false:=by decide)
  (he:notStar e=true:=by rfl) (hpl:(backTo pos (starEach es X.env)).any (·.1)=false:=by rfl) :
  PE X (.Call (.Name x p) (e::es) [] pos) (tCB r t):=QZ hc hm ha.h hg hv hn hdb (bU he) hpl
def P0(hc:CallR X (.type T) r)(hm:X.mg x=none)(ha:QA X (e::es) t)(hg:Gl X x:=by rfl)(hv:bootBuiltins x=some (.type T):=by decide +kernel)(hn:x≠"__name__":=by decide)(hdb:(x==("__debug__":Str))=false:=by decide)
  (he:notStar e=true:=by rfl) (hpl:(backTo pos (starEach es X.env)).any (·.1)=false:=by rfl) :
  PE X (.Call (.Name x p) (e::es) [] pos) (tCB r t):=Q3 hc hm ha.h hg hv hn hdb (bU he) hpl
def NK{T name id:String}{r:V->List V->Hp->VK->Prop}{o:Expr}{to:TE}{apos cpos:Pos}(pa:PlainAttrs T)(slot:Slot T name id)(hty:typeOf (.builtin id)=pure (.type "method_descriptor"))(hm:MtR X id r)(ho:PE X o to)(ha:QA X (e::es) t)
  (hbase:attributeBase o name X.env (eval o X.env)=eval o X.env:=by rfl)
  (hfew:((backTo cpos (starEach (e::es) X.env)).all (fun x=>!x.1)&&(backToKw cpos (keywordEach [] X.env)).all (fun x=>x.1.isSome)
   &&decide ((e::es).length+([]:List Keyword).length+(if ([]:List Keyword).isEmpty then 0 else 1)<30))=true:=by rfl)
  (hline:(apos.endLine==cpos.line)=true:=by rfl) (hs:notStar e=true:=by rfl) (hplain:(backTo cpos (starEach es X.env)).any (·.1)=false:=by rfl) :
  PE X (.Call (.Attribute o name apos) (e::es) [] cpos) (tBM X.K T r to t):=pe_bm pa slot hty hm ho ha.h hbase hfew hline (bU hs) hplain
def CT(hg:Gl X "range")(hm:X.mg "range"=none)(ha:QA X [a] ta)(hs:notStar a=true:=by rfl):QI X tg (.Call (.Name "range" p) [a] [] pos) (iRng1 ta):=⟨pi_range1 hg hm ha.h (bU hs)⟩
end
def yE{α:Type}(P:α->Prop):List α->Prop
 |[]=>True
 |a::l=>P a/\yE P l
theorem oM:∀ {l:List α},yE P l->∀ a∈l,P a
 |[],_,_,h=>nomatch h
 |b::l,h,a,hm=>by
   rcases T3.mp hm with rfl | hm
   ·exact h.1
   ·exact oM h.2 a hm
set_option tactic.hygienic true in
theorem mem_of_lookup:∀ {l:List (Str×β)},l.lookup y=some c->(y,c)∈l
 |[],h=>by cases h
 | (z,d)::l,h=>by
   rw[Vc]at h;split at h
   ·rename_i e;have e':y=z:=by simpa using e
    cases h;rw[e'];exact Ui ..
   ·exact T8 _ (mem_of_lookup h)
def vM{cl cells:List (Str×Addr)}(h:yE (λp=>cells.lookup p.1=some p.2) cl):∀y c,cl.lookup y=some c->cells.lookup y=some c:=λy c e=>oM h (y,c) (mem_of_lookup e)
def Hq:NameKind->Bool
 |.cell | .free=>true
 |_=>false
def uY{names:List (Str×NameKind)}{cl:List (Str×Addr)}(h:(names.all λp=>!Hq p.2 || (cl.lookup p.1).isSome)=true):∀y,(names.lookup y=some .cell\/names.lookup y=some .free)->∃c,cl.lookup y=some c:=λy e=>by
 have hh:=V1.mp h;rcases e with e | e
 ·have:=hh _ (mem_of_lookup e);simp only[Hq,Bool.not_true,Bool.false_or]at this;exact Uk.mp this
 ·have:=hh _ (mem_of_lookup e);simp only[Hq,Bool.not_true,Bool.false_or]at this;exact Uk.mp this
def uW{js:List Nat}{fr:List Str}{P:Nat->Str->Prop}(h:yE (λp:Nat×Str=>P p.1 p.2) (js.zip fr)):∀(k j:Nat) (y:Str),js[k]?=some j->fr[k]?=some y->P j y:=λk j y h1 h2=>by refine oM h (j,y) (VN.mpr ⟨k,?_⟩);rw[List.getElem?_zip_eq_some];exact⟨h1,h2⟩
section
variable{X:Cx}
def Ho:entryFor table "tuple_iterator.__iter__"=some Builtin.«dict_keyiterator.__iter__»:=
 entryFor_alias (id' := "dict_keyiterator.__iter__") (by kernel_rfl) rfl (by decide +kernel) (by kernel_rfl)
def wj(hit:IsTupIter s.heap it t i)(h:Q (.ref it) s):
  wpAny (model prog w) A (pyIter (.ref it)) Q E s:=by
 refine wpAny_pyIter_slot hit.typeIs F.slot_tuple_iterator_iter (Vd F.slot_tuple_iterator_iter hit.typeIs Ho ?_ (F.args_tuple_iterator_iter_1 _));show wpAny _ _ (ret (.ref it)) _ _ s;exact S6 ⟨_,rfl, "tuple_iterator",_,hit.typeIs,slot_tupleiter_next.lookup,h⟩
def GK(hh:A.handled=none)(I ax:Addr)(hne:ax≠I)(items:Array Value):
  Walks prog w A I [I,ax] [I] items.size (λi v=>items[i]?=some v) (λi h=>IsTupIter h I ax i/\IsTup h ax items) where
 sub:=λb hb=>by simp at hb;simp[hb]
 frame:=λi h h' st hk=>by obtain⟨⟨o,e1,e2⟩,⟨o',f1,f2⟩⟩:=st;exact⟨⟨o,hk I (by simp) o e1,e2⟩,⟨o',hk ax (by simp) o' f1,f2⟩⟩
 item:=λi s Q E hi st hQ=>by
  refine next_tuple_item st.1 st.2 (x:=items[i]) (by simp[hi]) λh' hit' hs'=>?_
  exact hQ _ h' s.toks (by simp[hi]) ⟨hit',st.2.extBut hs'.extBut hne⟩ λb o hb e=>hs'.extBut b o (λh=>hb (by simp[h])) e
 done:=λs Q E st hQ=>next_tuple_end hh st.1 st.2 (by simp) λh' he'=>hQ h' s.toks λb o hb e=>he' b o (λh=>hb (by simp[h])) e
 self:=λz z z z st hQ=>wj st.1 hQ
def iV:V->Bool
 |.bl b=>b
 |.int i=>i != 0
 |_=>false
def scS:V->Bool
 |.bl _=>true
 |.int _=>true
 |_=>false
def GC(h:scS v=true)(r:RelV v u)(q:Q (iV v) s):wpAny (model prog w) A (truthy u) Q E s:=by
 cases v with
 |bl b=>cases r;exact Ua q
 |int i=>obtain⟨t,rfl⟩:=r;exact PyProof.Rows.truthy_int q
 |_=>cases h
def range_all{xs:List V}{tr:Nat->Bool}(h:∀(i:Nat) (x:V),xs[i]?=some x->tr i=iV x):(List.range xs.length).all tr=xs.all iV:=by
 rw[T9,V1,V1];constructor
 ·intro q x hx;obtain⟨i,hi,e⟩:=Wx.mp hx;have:=q i (Uh.mpr hi);rw[h i x (by rw[Tg hi,e])]at this
  exact this
 ·intro q i hi;have hi':=Uh.mp hi;rw[h i xs[i] (Tg hi')];exact q _ (Vy hi')
def range_any{xs:List V}{tr:Nat->Bool}(h:∀(i:Nat) (x:V),xs[i]?=some x->tr i=iV x):(List.range xs.length).any tr=xs.any iV:=by
 rw[T9,List.any_eq_true,List.any_eq_true];constructor
 ·rintro⟨i,hi,e⟩;have hi':=Uh.mp hi;rw[h i xs[i] (Tg hi')]at e;exact⟨_,Vy hi',e⟩
 ·rintro⟨x,hx,e⟩;obtain⟨i,hi,ex⟩:=Wx.mp hx;refine⟨i,Uh.mpr hi,?_⟩;rw[h i x (by rw[Tg hi,ex])]
  exact e
def Jf{xs:List V}{its:List Value}(rv:Vals xs its)(hs:∀x∈xs,scS x=true):TruthOf prog w A (λi v=>its.toArray[i]?=some v) (λi=>iV (xs[i]?.getD .non)):=by
 intro i v s Q E hP hQ;have e:its[i]?=some v:=by simpa using hP
 have hl:=rv.length;have hi:i<xs.length:=by rw[hl];exact (S5.mp e).1
 obtain⟨u,e2,r⟩:=rv.get (Tg hi);rw[e]at e2;cases e2;refine GC (hs _ (Vy hi)) r ?_;have hQ':Q (iV (xs[i]?.getD V.non)) s:=hQ;rw[Tg hi]at hQ';exact hQ'
def G5(hh:X.A.handled=none):CallR X (.builtin "all") (λvs H Q=>∃l xs,vs=[.ref l]/\H l=some (.lst xs)/\(∀x∈xs,scS x=true)/\Q (.bl (xs.all iV)) H):=by
 intro Xe s σ H vs us Q I r h;obtain⟨l,xs,rfl,hH,hs,q⟩:=h;obtain⟨u,rfl,ru⟩:=vals1 r;cases ru;obtain⟨its,rv,p,hz⟩:=I.list (SqL.of (K:=X.K) hH);have hl:l<s.heap.objs.size:=by obtain⟨o,n,e,_⟩:=p;exact S8 e
 refine call_all_walk (Vk p.isList ?_);refine⟨s.heap.objs.size,[s.heap.objs.size,l],[s.heap.objs.size],its.toArray.size,λi v=>its.toArray[i]?=some v,λi h=>h.IsListIter s.heap.objs.size l i/\h.IsList l its.toArray,λi=>iV (xs[i]?.getD .non),rfl,Walks.list (A:=X.A.in1) hh s.heap.objs.size l (Tv hl) its.toArray,⟨⟨_,Tr _ rfl,rfl,rfl⟩,p.isList.at λo e=>SX _ e⟩,Jf rv hs,λh' tk hk=>?_⟩
 refine⟨.bl (xs.all iV),H,I.kept λb o e=>hk b o (λz=>?_) (SX _ e),?_,q⟩
 ·have:b=s.heap.objs.size:=by simpa using z
  exact absurd (S8 e) (by rw[this];exact Va _)
 ·rw[show its.toArray.size=xs.length by rw[Tu];exact rv.length.symm]
  show Value.bool _=Value.bool _;rw[range_all λi x e=>by rw[e];rfl]
def G6(hh:X.A.handled=none):CallR X (.builtin "any") (λvs H Q=>∃l xs,vs=[.ref l]/\H l=some (.tup xs)/\(∀x∈xs,scS x=true)/\Q (.bl (xs.any iV)) H):=by
 intro Xe s σ H vs us Q I r h;obtain⟨l,xs,rfl,hH,hs,q⟩:=h;obtain⟨u,rfl,ru⟩:=vals1 r;cases ru;obtain⟨its,rv,p,hz⟩:=I.tuple (SqT.of (K:=X.K) hH);have hl:l<s.heap.objs.size:=by obtain⟨o,e,_⟩:=p;exact S8 e
 refine call_any_walk (Wk p ?_);refine⟨s.heap.objs.size,[s.heap.objs.size,l],[s.heap.objs.size],its.toArray.size,λi v=>its.toArray[i]?=some v,λi h=>IsTupIter h s.heap.objs.size l i/\IsTup h l its.toArray,λi=>iV (xs[i]?.getD .non),rfl,GK (A:=X.A.in1) hh s.heap.objs.size l (Tv hl) its.toArray,⟨⟨_,Tr _ rfl,rfl,rfl⟩,?_⟩,Jf rv hs,λh' tk hk=>?_⟩
 ·obtain⟨o',f1,f2⟩:=p;exact⟨o',SX _ f1,f2⟩
 refine⟨.bl (xs.any iV),H,I.kept λb o e=>hk b o (λz=>?_) (SX _ e),?_,q⟩
 ·have:b=s.heap.objs.size:=by simpa using z
  exact absurd (S8 e) (by rw[this];exact Va _)
 ·rw[show its.toArray.size=xs.length by rw[Tu];exact rv.length.symm]
  show Value.bool _=Value.bool _;rw[range_any λi x e=>by rw[e];rfl]
def Rf(tv:TE):TE:=λσ H Q=>tv σ H λx H1=>∃i:Int,x=.int i/\i.natAbs.log2<1920/\Q (.str (toString i)) H1
def NQ(he:PE X e tv):PE X (.FormattedValue e (-1) none pos) (Rf tv):=by
 intro Xe s σ H Q I h;refine FormattedValue_plain (thn (he Xe s σ H _ I h) λv s1 ⟨x,H1,I1,r1,q1⟩=>?_)
 obtain⟨i,rfl,hl,q⟩:=q1;obtain⟨t,rfl⟩:=r1;exact wpAny_formatField_int hl ⟨.str _,H1,I1.tok _,⟨_,rfl⟩,q⟩
theorem wR:∀ {bs:List Bool}{its:List Value},Vals (bs.map V.bl) its->its=bs.map Value.bool
 |[],_,r=>by rw[WN]at r;cases r;rfl
 |b::bs,_,r=>by
   rw[Us]at r;cases r with
   |cons r1 r2=>cases r1;rw[wR r2];rfl
def eqB(b:Bool):Value->Bool
 |.bool c=>c==b
 |_=>false
theorem xm(b:Bool):∀bs:List Bool,(bs.map Value.bool).countP (eqB b)=bs.countP (·== b)
 |[]=>rfl
 |c::bs=>by rw[Us,List.countP_cons,List.countP_cons,xm b bs];rfl
def Hv:MtM X "list.count" (λx vs H Q=>∃(l:Addr) (bs:List Bool) (b:Bool),x=.ref l/\vs=[.bl b]/\H l=some (.lst (bs.map V.bl))/\Q (.int (bs.countP (·== b):Nat)) H):=by
 intro Xe s σ H x vs v us Q I rx rv h;obtain⟨l,bs,b,rfl,rfl,hH,q⟩:=h;cases rx;obtain⟨u,rfl,ru⟩:=rv.one;cases ru;obtain⟨z,its,n,r,hl,e⟩:=I.lstM hH;have ei:=wR r;subst ei;refine Wj F.slot_list_count ⟨_,e,rfl⟩ F.entry_list_count (F.args_list_count_2 _ _) (PySem.SeqAt.list_countAt l (bs.map Value.bool).toArray n none #[] (.bool b) (eqB b)) ⟨e,λy hy=>?_,?_⟩
 ·have hy':y∈bs.map Value.bool:=by simpa using hy
  obtain⟨c,_,rfl⟩:=Uj.mp hy';exact PySem.SeqAt.EqAt.bool_bool c b
 ·refine⟨.int _,H,I.tok _,⟨s.toks,?_⟩,q⟩;show Value.int (((bs.map Value.bool).toArray.toList.countP (eqB b):Nat):Int) _=_;rw[show (bs.map Value.bool).toArray.toList=bs.map Value.bool from rfl,xm]
def Hw:MtM X "list.index" (λx vs H Q=>∃(l:Addr) (bs:List Bool) (b:Bool) (j:Nat),x=.ref l/\vs=[.bl b]/\H l=some (.lst (bs.map V.bl))/\bs[j]?=some b/\(∀m c,m<j->bs[m]?=some c->(c==b)=false)/\j<1000/\Q (.int (j:Nat)) H):=by
 intro Xe s σ H x vs v us Q I rx rv h;obtain⟨l,bs,b,j,rfl,rfl,hH,hj,hno,h1,q⟩:=h;cases rx;obtain⟨u,rfl,ru⟩:=rv.one;cases ru;obtain⟨z,its,n,r,hl,e⟩:=I.lstM hH;have ei:=wR r;subst ei;obtain⟨lt,ej⟩:=S5.mp hj;have lt':j<(bs.map Value.bool).toArray.size:=by simpa using lt
 refine Wj F.slot_list_index ⟨_,e,rfl⟩ F.entry_list_index (F.args_list_index_2 _ _) (PySem.SeqAt.list_indexAt l (bs.map Value.bool).toArray n none #[] (.bool b) (eqB b) j lt' (by lia) ?_ ?_) ⟨e,λy hy=>?_,?_⟩
 ·simp[eqB,ej]
 ·intro m hm lm;have hm':m<bs.length:=by simpa using hm
  have:=hno m bs[m] lm (Tg hm');simpa[eqB] using this
 ·have hy':y∈bs.map Value.bool:=by simpa using hy
  obtain⟨c,_,rfl⟩:=Uj.mp hy';exact PySem.SeqAt.EqAt.bool_bool c b
 ·exact⟨.int _,H,I.tok _,⟨_,rfl⟩,q⟩
def PX(h:X.mg x=some (.int i t))(hg:Gl X x:=by rfl)(hd:(x==("__debug__":Str))=false:=by decide):PE X (.Name x pos) (tC (.int i)):=pe_glob hg h ⟨t,rfl⟩ hd
end
structure MethAt(K:PySem.W.Frag)(C:Addr)(x qual:Str)(st:Stmt):Prop where
 ex:∃f fd,Fun K x qual st f fd/\PySem.W.findIn K (.ref C) x=some (some (.ref f))/\PySem.W.isFn K (.ref f)=true
structure MethC(P:Program)(w:World)(K:PySem.W.Frag)(mg:Str->Option Value)(base:Heap)(k:Nat)(C:Addr)(x:Str)(ps:List Str)(sp:Sp):Prop where
 ex:∃f fd,FnOk P w K mg base (bJ P w) k f fd ps sp/\Binds K fd ps []/\PySem.W.keepIn K (.ref f)=true/\PySem.W.findIn K (.ref C) x=some (some (.ref f))/\PySem.W.isFn K (.ref f)=true
def Ff{K:PySem.W.Frag}{C:Addr}{x qual:Str}{st:Stmt}{f:Addr}{oc:Value}{od an:Option Addr}{osl:Array (Option Value)}{kV doc pm cdv ct:Value}
  (a:PySem.W.findIn K (.ref C) x=some (some (.ref f))) (n:PySem.W.isFn K (.ref f)=true) (l:K.lookup f=some ⟨oc,od,.func (PySem.W.fnOf x qual (defArgs st) (defBody st) (defScope st) .none kV doc pm an cdv ct),osl⟩) (c:PySem.W.codeIn K cdv qual=true) (k:PySem.W.keepIn K (.ref f)=true):MethAt K C x qual st:=
 ⟨f,_,fun_mk l c k,a,n⟩
section
variable{P:Program}{w:World}{K:PySem.W.Frag}{mg:Str->Option Value}{base:Heap}{k:Nat}{C:Addr}{x qual:Str}{N ps:List Str}{sp:Sp}{st:Stmt}
def QV(F:Fun K x qual st f fd)(S:FnScope N ps (defScope st))(len:∀ vs H Q E,sp vs H Q E->vs.length=ps.length)
  (hbody:∀(cdv:Value) (A:Around) (outer:List Env) (s:Shared) (H:Hp) (vs:List V) (Q:VK) (E:XK),Room k (A.deeper (envOfC qual (defScope st) s.heap.objs.size f cdv))->sp vs H Q E->
    ∃t,PSs (b7 P w K mg base N qual (defScope st) f cdv A outer s H E) (defBody st) t/\t { nx:=λz H'=>Q .non H',rt:=Q } (start N vs) H):FnOk P w K mg base (bJ P w) (k+1) f fd ps sp:=by
 obtain⟨oc,od,kV,doc,pm,an,cdv,ct,osl,rfl,l,c⟩:=F.ex;exact fn_of l c S len (hbody cdv)
end
section
variable{X:Cx}{j k:Nat}{C:Addr}{ps:List Str}{sp:Sp}{x:Str}{p pos:Pos}{e:Expr}{es:List Expr}{t:TA}{E:XK}
def HF(D:MethC X.prog X.w X.K X.mg X.base j C "__init__" ps sp)(mk:PySem.W.makesIn X.K C=true)(kc:PySem.W.keepIn X.K (.ref C)=true)(hm:X.mg x=some (.ref C))(hr:Room k X.A)(hx:Passes (bJ X.prog X.w) X E)(ha:QA X (e::es) t)(hjk:j+1<=k:=by decide)(hg:Gl X x:=by rfl)(hdb:(x==("__debug__":Str))=false:=by decide)
  (he:notStar e=true:=by rfl) (hpl:(backTo pos (starEach es X.env)).any (·.1)=false:=by rfl) :
  PE X (.Call (.Name x p) (e::es) [] pos) (tMake C sp [] E t):=by
 obtain⟨f,fd,F,b,kp,a,n⟩:=D.ex;exact pe_make ⟨mk,a,n,kc⟩ F (hr.mono hjk) hg hm b .nil hx ha.h hdb (bU he) hpl
end
open PySem PySem.Spec PyProof.Rows
section
variable{X:Cx}{CX:CXT}{k:Nat}{f C:Addr}{fd:FuncData}{ps:List Str}{sp:Sp}{E:XK}
def n8(F:FnOk X.prog X.w X.K X.mg X.base CX k f fd ps sp)(hr:Room k X.A.in1)(hb:Binds X.K fd ps [])(hx:Passes CX X E)
  (I:Inv X Xe σ H s) (r:Vals vs us) (h:sp vs H Q E):wpAny (model X.prog X.w) X.A.in1 (call (.ref f) us) (EP X Xe σ Q) X.xe s:=by
 have hl:(us++[]).length=ps.length:=by rw[Ux,<-r.length];exact F.len _ _ _ _ h
 have hl':us.length=ps.length:=by rw[Ux]at hl;exact hl
 have bb:=hb s us I.kIn hl;rw[Ux]at bb;refine Vo (Vj (F.run X.A.in1 X.stack s H ⟨us,[]⟩ us vs Q E hr ⟨(show X.A.in1.frames=some X.stack from I.ok.frames),I.ok.mod,I.bs,T7 I.ok.bsz I.sz,I.stack,I.stkFree,I.hok,I.bare⟩ bb r h) λr s' hq=>?_)
 cases r with
 |error e=>exact hx Xe σ H s e s' I hq
 |ok fl=>
   cases fl with
   |ret u=>exact I.after hq
   |next=>exact False.elim hq
   |brk=>exact False.elim hq
   |cont=>exact False.elim hq
def Ec(D:MethC X.prog X.w X.K X.mg X.base j C "__len__" ps sp)(hr:Room (j+1) X.A)(hx:Passes (bJ X.prog X.w) X E):
  CallR X (.builtin "len") (λvs H Q=>∃x dx fs,vs=[.ref x]/\H x=some (.ins C dx fs)/\sp [.ref x] H (λv H2=>∃n:Int,v=.int n/\(0<=n/\n<2^63)/\Q (.int n) H2) E):=by
 intro Xe s σ H vs us Q I r h;obtain⟨x,dx,fs,rfl,hx',q⟩:=h;obtain⟨f,fd,F,b,kp,a,n⟩:=D.ex;obtain⟨u,rfl,ru⟩:=vals1 r;cases ru;obtain⟨mA,O,_⟩:=ins_get I.hok hx';obtain⟨od,IA,_⟩:=O.look;refine WW PySem.kind_len PySem.plain_len PySem.entry_len (PySem.args_len1 _) ?_;unfold Builtin.«len»
 refine SQ (m:=oneArg "len" _) (S6 ?_);refine SQ (m:=callSpecial? (.ref x) (Str.ofString "__len__")) (PySem.W.special_fn I.kIn IA a (VG.mp n) (Tp (n8 (vs:=[.ref x]) F hr.in1 b hx I (.cons rfl .nil) q) (λw' s' hw=>?_) λz z y=>y))
 obtain⟨v,H2,I2,rv,m,rfl,⟨h0,h1⟩,qq⟩:=hw;obtain⟨t,rfl⟩:=rv;refine SQ (Ub (S6 ?_));refine SQ (wpAny_letGo ?_);show wpAny _ _ (if m<0 then _ else _) _ _ _
 rw[Tq (by lia)]
 show wpAny _ _ (if m ≥ 2^63 then _ else _) _ _ _
 rw[Tq (by lia)]
 exact SQ (wpAny_mkInt (S6 ⟨_,rfl,.int m,H2,I2.tok _,⟨_,rfl⟩,qq⟩))
end
theorem cO:∀ (names:List (Str×NameKind)) (n:Nat) (acc:List (Str×Addr)),cellsFrom n names acc=cellsFrom n names []++acc
 |[],_,_=>rfl
 |(name,kind)::r,n,acc=>by
   unfold cellsFrom;split
   ·rw[cO r (n+1) ((name,n)::acc),cO r (n+1) [(name,n)],U5];rfl
   ·exact cO r n acc
def Fq
  (hQ:Q (newEnv scope s.heap.objs.size globals (cellsFrom (s.heap.objs.size+1) scope.names cl) qual none .none (some env) builtinsNs) { s with heap:=pushCells (s.heap.push { cls:=.type "dict",data:=.dict #[] }) scope.names }) :
  wpAny M A (newFunctionEnv scope globals cl [] qual none .none (some env)) Q E s:=by
 simp only[newFunctionEnv,Option.isSome_some,if_true];refine SQ (wpAny_alloc ?_);refine SQ (wpAny_layCells _ (λname kind cells=>by cases hkc:kind==NameKind.cell<;>simp[hkc]) _ _ _ _ ?_)
 rw[show ({ s with heap:=s.heap.push { cls:=.type "dict",data:=.dict #[] } }:Shared).heap.objs.size=s.heap.objs.size+1 from Ug ..]
 refine SQ ?_;rw[List.forIn_nil];exact S6 (S6 hQ)
abbrev Cx.bL(X:Cx)(Xe:List (Addr×Obj))(scope:Scope)(cs:List (Str×Addr))(Nc:List Str)(fp:List Addr)(C:Addr)(s₂:Shared)(H₂:Hp):Cx where
 prog:=X.prog
 w:=X.w
 K:=X.K
 mg:=X.mg
 base:=X.base
 A:=X.A
 N:=Nc
 s₀:=s₂
 H₀:=H₂
 env:=compEnvC scope cs C X.env
 outer:=X.stack
 stack:=X.stack
 ex:=fp
 fn:=λy=>scope.names.lookup y==some .cell
 calm:=X.calm
 pn:=X.pn++Xe
 xe:=λ_ _=>False
structure CompG(X:Cx)(scope:Scope)(cl:List (Str×Addr))(own:List Str)(js:List Nat)(fr:List Str):Prop where
 kind:scope.kind=.function
 names:∀y∈scope.names,y.2=.local->scope.names.lookup y.1=some .local
 clos:closureFor scope X.env=pure cl
 sub:∀y c,cl.lookup y=some c->X.env.cells.lookup y=some c
 has:∀(m:Nat) y,((relabel scope X.env).names.lookup y=some .cell\/(relabel scope X.env).names.lookup y=some .free)->∃c,(cellsFrom m scope.names cl).lookup y=some c
 nd:(own++fr).Nodup
 len:js.length=fr.length
 newc:∀(m:Nat) y c,(cellsFrom m scope.names []).lookup y=some c->scope.names.lookup y=some .cell
 oldc:∀y c,cl.lookup y=some c->scope.names.lookup y≠some .cell
 fre:∀(k j:Nat) (y:Str),js[k]?=some j->fr[k]?=some y->X.N[j]?=some y/\(X.env.scope.names.lookup y=some .cell\/X.env.scope.names.lookup y=some .free)/\((relabel scope X.env).names.lookup y=some .cell\/(relabel scope X.env).names.lookup y=some .free)/\∃c,cl.lookup y=some c
theorem o5:∀ {l m:List (Str×α)},(l++m).lookup y=some c->l.lookup y=some c\/(l.lookup y=none/\m.lookup y=some c)
 |[],_,h=>.inr ⟨rfl,h⟩
 |(k,v)::r,m,h=>by
   rw[List.cons_append,Vc]at h;rw[Vc];split at h
   ·exact .inl h
   ·exact o5 h
theorem lW:∀ {l m:List (Str×α)},l.lookup y=none->(l++m).lookup y=m.lookup y
 |[],_,_=>rfl
 |(k,v)::r,m,h=>by
   rw[Vc]at h;rw[List.cons_append,Vc];split at h
   ·cases h
   ·exact lW h
section
variable{X:Cx}{Xe:List (Addr×Obj)}{σ:St}{H:Hp}{s:Shared}{scope:Scope}{cl:List (Str×Addr)}{own:List Str}{js:List Nat}{fr:List Str}{fp:List Addr}{C m:Addr}
def Hc{hh:Heap}(T:CompG X scope cl own js fr)(I:Inv X Xe σ H s)(f:∀ b∈fp,FpOk X Xe H b)(hlt:∀ b∈fp,b<s.heap.objs.size)(hC:s.heap.objs.size<=C)(hm:m=hh.objs.size)(hms:s.heap.objs.size<=m):
  (X.bL Xe scope (cellsFrom m scope.names cl) (own++fr) fp C s H).Ok:=by
 have ok:CellsOk (pushCells hh scope.names) m (cellsFrom m scope.names []):=by
  have:=cellsFrom_ok scope.names hh m [] ⟨λx x hm=>(nomatch hm),List.Pairwise.nil⟩ (by rw[hm];exact Td _)
  rw[<-hm]at this;exact this
 have hold:∀y c,cl.lookup y=some c->c<s.heap.objs.size:=λy c e=>by obtain⟨v,q⟩:=I.cell y c (T.sub _ _ e);exact q.lt
 have spl:∀y c,(cellsFrom m scope.names cl).lookup y=some c->(m<=c/\(cellsFrom m scope.names []).lookup y=some c)\/(cl.lookup y=some c/\c<s.heap.objs.size):=λy c e=>by
  rw[cO]at e;rcases o5 e with z | ⟨_,z⟩
  ·exact .inl ⟨(ok.empty _ _ (Uu z)).2,z⟩
  ·exact .inr ⟨z,hold _ _ z⟩
 refine⟨I.ok.mod,T.kind,I.ok.glob,I.ok.blt,hC,λy z c h1 h2=>?_,λy h=>T.has m y h,λy c h1 h2=>?_,I.ok.hd,I.ok.frames,.inl rfl,λb hb=>⟨Tv (Tj (hlt b hb) hC),λy c h=>?_⟩,λb o e=>I.bs b o e,T7 I.ok.bsz I.sz,λb o e hb=>?_,λb hb hm'=>?_,I.stack,I.stkFree⟩
 ·rcases spl _ _ h1 with ⟨a1,a2⟩ | ⟨a1,a2⟩
  ·rcases spl _ _ h2 with ⟨b1,b2⟩ | ⟨b1,b2⟩
   ·exact name_of_addr ok.apart (Uu a2) (Uu b2)
   ·exact absurd (Tj b2 hms) (U3.mpr a1)
  ·rcases spl _ _ h2 with ⟨b1,b2⟩ | ⟨b1,b2⟩
   ·exact absurd (Tj a2 hms) (U3.mpr b1)
   ·exact I.ok.inj y z c (T.sub _ _ a1) (T.sub _ _ b1)
 ·rcases spl _ _ h2 with ⟨a1,a2⟩ | ⟨a1,a2⟩
  ·exact T7 hms a1
  ·exact absurd (by simpa using h1) (T.oldc _ _ a1)
 ·rcases spl _ _ h with ⟨a1,a2⟩ | ⟨a1,a2⟩
  ·exact λz=>absurd (Tj (hlt b hb) hms) (U3.mpr (z ▸ a1))
  ·exact (f b hb).2.2.2.2.1 y c (T.sub _ _ a1)
 ·rcases (f b hb).2.2.2.1 with z | z
  ·exact I.ok.noex b o e z
  ·exact absurd (Tj (S8 e) I.ok.bsz) (U3.mpr z)
 ·rcases T3.mp (I.stkSub b hm') with z | z
  ·exact (f b hb).2.1 z
  ·exact (f b hb).2.2.1 z
def Ck(T:CompG X scope cl own js fr)(I:Inv X Xe σ H s)(f:∀ b∈fp,FpOk X Xe H b)(hlt:∀ b∈fp,b<s.heap.objs.size)
  (k:∀b o,s.heap.get? b=some o->h'.get? b=some o) (ha:s.heap.objs.size<=acc) (hC:s.heap.objs.size<=C) (hne:C≠acc) (hm:m=hh.objs.size) (hms:s.heap.objs.size<=m) (hCm:C<m) (ham:acc<m) (hh':h'=pushCells hh scope.names) (ob:ObjOk X.prog X.w (upd H acc ho) h' acc ho) (ns:h'.Ns C mm) :
  Inv (X.bL Xe scope (cellsFrom m scope.names cl) (own++fr) fp C s H) [] (List.replicate own.length none++pick js σ) (upd H acc ho) { s with heap:=h',toks:=t' }:=by
 have ok:CellsOk (pushCells hh scope.names) m (cellsFrom m scope.names []):=by
  have:=cellsFrom_ok scope.names hh m [] ⟨λx x hm=>(nomatch hm),List.Pairwise.nil⟩ (by rw[hm];exact Td _)
  rw[<-hm]at this;exact this
 have hold:∀y c,cl.lookup y=some c->c<s.heap.objs.size:=λy c e=>by obtain⟨v,q⟩:=I.cell y c (T.sub _ _ e);exact q.lt
 have spl:∀y c,(cellsFrom m scope.names cl).lookup y=some c->(m<=c/\h'.IsCell c none)\/(cl.lookup y=some c/\c<s.heap.objs.size):=λy c e=>by
  rw[cO]at e;rcases o5 e with z | ⟨_,z⟩
  ·have:=ok.empty _ _ (Uu z);exact .inl ⟨this.2,by rw[hh'];exact this.1⟩
  ·exact .inr ⟨z,hold _ _ z⟩
 have hn:H acc=none:=I.hok.fresh ha;have fC:H C=none:=I.hok.fresh hC;refine⟨Hc T I f hlt hC hm hms,rfl,I.bare,Un.laid k ha hn,⟨mm,ns,λi y v h1 h2 h3=>?_⟩,λy c e=>?_,by show upd H acc _ C=none;rw[upd_ne hne];exact fC,λy c e=>?_,λp hp=>?_,I.hok.laid k ha ob,?_⟩
 ·have h1:(own++fr)[i]?=some y:=h1;by_cases hi:i<own.length
  ·rw[S9 (by rw[Uv];exact hi),UJ]at h2
   split at h2<;>cases h2
  ·rw [List.getElem?_append_right (by lia)] at h1
   rw[TJ (by rw[Uv];lia),Uv]at h2
   unfold pick at h2;rw[TV]at h2;cases hj:js[i-own.length]? with
   |none=>rw[hj]at h2;cases h2
   | some j=>
     rw[hj]at h2;have h2s:(σ[j]?).getD none=some v:=Tf h2;have h2'':σ[j]?=some (some v):=by
      cases z:σ[j]? with
      |none=>rw[z]at h2s;cases h2s
      |some w=>rw[z]at h2s;exact congrArg some h2s
     obtain⟨g1,g2,g3,c,gc⟩:=T.fre _ j y hj h1;obtain⟨mX,_,hl⟩:=I.loc;have vis:Vis X.env.scope y:=g2.elim (λz=>.inr (.inl z)) λz=>.inr (.inr z)
     obtain⟨u,r,q⟩:=hl j y v g1 h2'' vis;refine⟨u,r,.inr ⟨g3,c,?_,?_⟩⟩
     ·show (cellsFrom m scope.names cl).lookup y=some c;rw[cO];cases z:(cellsFrom m scope.names []).lookup y with
      |none=>rw[lW z];exact gc
      |some c'=>exact absurd (T.newc m y c' z) (T.oldc y c gc)
     ·have hc':=T.sub _ _ gc;rcases q with ⟨q,_⟩ | ⟨_,c2,e2,z⟩
      ·have q:X.env.scope.names.lookup y=some .local:=q;rcases g2 with g2 | g2<;>(rw[g2]at q;cases q)
      ·rw[hc']at e2;cases e2;exact z.keeps k
 ·rcases spl y c e with ⟨_,z⟩ | ⟨z,_⟩
  ·exact⟨_,z⟩
  ·obtain⟨v,q⟩:=I.cell y c (T.sub _ _ z);exact⟨v,q.keeps k⟩
 ·rcases spl y c e with ⟨z,_⟩ | ⟨z,lt⟩
  ·show upd H acc _ c=none;rw[upd_ne (λ(q:c=acc)=>absurd ham (U3.mpr (q ▸ z)))]
   exact I.hok.fresh (T7 hms z)
  ·show upd H acc _ c=none;rw[upd_ne (λ(q:c=acc)=>absurd lt (U3.mpr (q ▸ ha)))]
   exact I.freeC y c (T.sub _ _ z)
 ·have hp':p∈X.pn++Xe:=by simpa using hp
  obtain⟨e,n,ne,nf,d⟩:=I.pin p hp';refine⟨k _ _ e,?_,Tv (Tj (S8 e) hC),λhm=>?_,d⟩
  ·show upd H acc _ p.1=none;rw[upd_ne (λz=>absurd (S8 e) (by rw[z];exact U3.mpr ha))]
   exact n
  ·rcases T3.mp (I.stkSub _ hm) with z | z
   ·exact ne z
   ·exact nf z
 ·show (List.replicate own.length none++pick js σ).length=(own++fr).length;unfold pick;rw[TF,Uv,Te,TF,T.len]
end
section
variable{prog:Program}{w:World}{A:Around}{R:Result->Shared->Prop}{s:Shared}
def wO(ifs:List Expr)(env:Env):Sem Bool:=forIn ifs true λc r=>if r=true then do let ok <-isTrue c env (eval c env);pure (ForInStep.yield ok) else pure (ForInStep.yield r)
def turnOf(g:Comprehension)(bodyK:Sem Fin->Sem Fin)(c:Code)(it:Value)(env:Env):Sem Fin:=do
 standAt g.iter.pos
 match <-pyNext it with
 |none=>pure (.done .next)
 |some v=>
   letOwnedTupleGo g.target it v
   assign g.target env v
   let ok <-wO g.ifs env
   if ok then bodyK (again c) else again c
def uR(elt:Expr)(acc:Value)(env:Env)(k:Sem Fin):Sem Fin:=do
 (do let _ <-call (.builtin "list.append") [acc,<-eval elt env])
 k
def Jg(elt target iter:Expr)(ifs:List Expr)(scope:Scope)(pos:Pos)(it acc:Value)(env:Env):
  compTurn (.ListComp elt [⟨target,iter,ifs,0⟩] scope pos) 0 it acc env=turnOf ⟨target,iter,ifs,0⟩ (uR elt acc env) (.compLoop (.ListComp elt [⟨target,iter,ifs,0⟩] scope pos) 0 it acc env) it env:=rfl
def oK(prog:Program)(w:World)(A:Around)(bodyK:Sem Fin->Sem Fin)(W:(Shared->Prop)->Shared->Prop):Prop:=
 ∀(k:Sem Fin) (Q:Fin->Shared->Prop) (E:Value->Shared->Prop) (s:Shared),W (λs'=>wpAny (model prog w) A k Q E s') s->wpAny (model prog w) A (bodyK k) Q E s
def Ep:oK prog w A (uR elt acc env) (λP s=>wpAny (model prog w) A (eval elt env) (λx s1=>wpAny (model prog w) A (call (.builtin "list.append") [acc,x]) (λy s2=>P s2) (λy y=>False) s1) (λy y=>False) s):=by intro k Q E s h;unfold uR;exact SQ (SQ (Tp h (λx s1 h1=>SQ (Tp h1 (λy s2 h2=>S6 h2) λy y z=>z.elim)) λy y z=>z.elim))
def DK(e:Expr):Prop:=(∃a b c d,e=.ListComp a b c d)\/∃a b c d,e=.SetComp a b c d
def Hs(I:Nat->Shared->Prop)
  (hturn:compTurn e depth it acc env=turnOf g bodyK (.compLoop e depth it acc env) it env) (hW:oK prog w A bodyK W)
  (turn:∀ n s,I n s->wpAny (model prog w) A (pyNext it) (λr s₁=>match r with
    |none=>R (.ok .next) s₁
    |some v=>wpAny (model prog w) A (letOwnedTupleGo g.target it v) (λz s₂=>wpAny (model prog w) A (assign g.target env v) (λz s₃=>
      wpAny (model prog w) A (wO g.ifs env) (λok s₄=>if ok=true then W (λs₅=>∃m,m<n/\I m s₅) s₄ else ∃m,m<n/\I m s₄) (λz z=>False) s₃) (λz z=>False) s₂) (λz z=>False) s₁) (λz z=>False) s)
  (hmono:∀P P' s,(∀s,P s->P' s)->W P s->W P' s)
  (n:Nat) (h:I n s) (he:DK e):codeAny (model prog w) A (.compLoop e depth it acc env) R s:=by
 refine codeAny_loop (by rcases he with ⟨_,_,_,_,rfl⟩ | ⟨_,_,_,_,rfl⟩<;>rfl) I (λn s hI=>?_) n h
 suffices q:wpAny (model prog w) A ((compTurn e depth it acc env).onRaise (λx=>do noteFrame x env;theTreesLotGoes x)) (λfin s'=>match fin with
   |.done f=>R (.ok f) s'
   |.again c'=>c'=Code.compLoop e depth it acc env/\∃m,m<n/\I m s') (λe s'=>R (.error e) s') s by
  rcases he with ⟨_,_,_,_,rfl⟩ | ⟨_,_,_,_,rfl⟩<;>exact q
 refine wpAny_noted ?_;rw[hturn];unfold turnOf;refine SQ (VF (SQ (Tp (turn n s hI) (λr s₁ h₁=>?_) λz z h'=>h'.elim)))
 cases r with
 |none=>exact S6 h₁
 | some v=>
   refine SQ (Tp h₁ (λz s₂ h₂=>SQ (Tp h₂ (λz s₃ h₃=>SQ (Tp h₃ (λok s₄ h₄=>?_) λz z h'=>h'.elim)) λz z h'=>h'.elim)) λz z h'=>h'.elim)
   cases ok with
   |false=>have h₄:∃m,m<n/\I m s₄:=h₄;exact S6 ⟨rfl,h₄⟩
   |true=>
     have h₄:W (λs₅=>∃m,m<n/\I m s₅) s₄:=h₄
     exact hW _ _ _ _ (hmono _ _ _ (λs₅ h₅=>S6 ⟨rfl,h₅⟩) h₄)
def Gx(hg:(clausesOf e)[depth]?=some g)(ha:g.is_async=0)
  (h0:codeAny (model prog w) A (.compLoop e depth it acc env) R s)
  (h:wpAny (model prog w) A (pyIter it) (λit' s'=>codeAny (model prog w) A (.compLoop e depth it' acc env) R s') (λz z=>False) s) (he:DK e) :
  codeAny (model prog w) A (.compStart e depth it acc env) R s:=by
 refine codeAny_of_tree ?_
 suffices q:wpAny (model prog w) A ((compStart e depth it acc env).onRaise (λx=>do noteFrame x env;standAt theWindowsPlace)) (λfin s'=>match fin with
   |.done f=>R (.ok f) s'
   |.again c'=>c'.quiet=true/\codeAny (model prog w) A c' R s') (λe s'=>R (.error e) s') s by
  rcases he with ⟨_,_,_,_,rfl⟩ | ⟨_,_,_,_,rfl⟩<;>exact q
 refine wpAny_notedAt ?_;unfold compStart;have e1:(((clausesOf e)[depth]?).elim false (·.is_async != 0))=false:=by rw[hg];show (g.is_async != 0)=false;rw[ha];rfl
 rw[e1];simp only[Bool.false_eq_true,if_false,pure_bind];refine SQ (wpAny_askSetting (wpAny_ite ?_));split
 ·first
   |exact SQ (S6 (S6 (And.intro rfl h0)))
   |exact S6 (And.intro rfl h0)
 ·refine SQ (V4 ?_);rw[hg];exact SQ (VF (SQ (Tp h (λit' s' h'=>S6 (And.intro rfl h')) λz z x=>x.elim)))
end
section
variable{prog:Program}{w:World}{A:Around}{E:Value->Shared->Prop}{s:Shared}
def CP(hi:IsTupIter s.heap ia t k)(ht:IsTup s.heap t its)(hy:its[k]?=some y)
  (hQ:∀h',IsTupIter h' ia t (k+1)->Heap.SameBut ia s.heap h'->Q y { s with heap:=h' }):wpAny (model prog w) A (Builtin.SmallTypes.nextOf (.ref ia)) Q E s:=by
 obtain⟨oi,hoi,hci,hdi⟩:=id hi;obtain⟨ot,hot,_,nt,hdt⟩:=ht;unfold Builtin.SmallTypes.nextOf;refine SQ (UG (name:=Str.ofString "__next__") hi.typeIs V8 (Vd V8 hi.typeIs entry_tupleiter_next ?_ (args_tupleiter_next _)));show wpAny _ _ (field (.ref ia) 0>>=_) _ _ s;refine SQ (Uc hoi hdi (x:=.ref t) rfl ?_);show wpAny _ _ (if (Value.ref t==Value.none)=true then _ else _) _ _ s
 rw[Tq (λz:(Value.ref t==Value.none)=true=>Tw z)]
 show wpAny _ _ (field (.ref ia) 1>>=_) _ _ s;refine SQ (Uc hoi hdi (x:=.int k 0) rfl ?_);show wpAny _ _ (seqItems? (.ref t)>>=_) _ _ s;refine SQ (Vm hot hdt ?_);simp only[Int.toNat_natCast,hy];refine SQ (wpAny_setField hoi hdi (by simp) (S6 ⟨y,rfl,S6 (hQ _ ⟨_,W8 _ hoi (Obj.isFreed_of_fields (Obj.data_mapFields hdi _)),(Obj.cls_mapFields ..).trans hci,?_⟩ (Xa ..))⟩))
 rw[Obj.data_mapFields hdi];simp[rawInt]
def Am(hh:A.handled=none)(hi:IsTupIter s.heap ia t k)(ht:IsTup s.heap t its)(hy:its[k]?=none)
  (hE:∀h' e,Heap.ExtBut ia s.heap h'->(∃o,h'.get? e=some o/\o.cls=.type "StopIteration")->E (.ref e) { s with heap:=h' }):wpAny (model prog w) A (Builtin.SmallTypes.nextOf (.ref ia)) Q E s:=by
 obtain⟨oi,hoi,hci,hdi⟩:=id hi;obtain⟨ot,hot,_,nt,hdt⟩:=ht;unfold Builtin.SmallTypes.nextOf;refine SQ (UG (name:=Str.ofString "__next__") hi.typeIs V8 (Vd V8 hi.typeIs entry_tupleiter_next ?_ (args_tupleiter_next _)));show wpAny _ _ (field (.ref ia) 0>>=_) _ _ s;refine SQ (Uc hoi hdi (x:=.ref t) rfl ?_);show wpAny _ _ (if (Value.ref t==Value.none)=true then _ else _) _ _ s
 rw[Tq (λz:(Value.ref t==Value.none)=true=>Tw z)]
 show wpAny _ _ (field (.ref ia) 1>>=_) _ _ s;refine SQ (Uc hoi hdi (x:=.int k 0) rfl ?_);show wpAny _ _ (seqItems? (.ref t)>>=_) _ _ s;refine SQ (Vm hot hdt ?_);simp only[Int.toNat_natCast,hy];refine SQ (V4 (SQ (wpAny_setField hoi hdi (by simp) ?_)))
 show wpAny _ _ (newExc (.type "StopIteration") ([]:List Value)>>=λy=>_) _ _ _
 refine SQ ?_;simp only[newExc,newTuple];refine SQ (UV ?_ (by size_fits:_))
 refine SQ (m:=firstArgMember _ _) (wpAny_of_eq (a:=Value.none) (by first | rfl | simp only[firstArgMember]) ?_)
 refine UV ?_ (by size_fits:_)
 simp only[raiseNew];refine SQ (wpAny_handled ?_)
 first | rw[hh] | rw[show A.in1.handled=none from hh]
 refine SQ (S6 (wpAny_throw (hE _ _ (((Xa ..).extBut.push _).push _) ⟨_,Tr _ rfl,rfl⟩)))
end
structure SubIt(P:Program)(w:World)(i l:Addr)(its:Array Value)(st:Nat->Heap->Prop):Prop where
 obj:∀k h,st k h->(∃o,h.get? i=some o/\∀v,o.data≠.cell v)/\∃o,h.get? l=some o
 keep:∀k h h',st k h->(∀o,h.get? i=some o->h'.get? i=some o)->(∀o,h.get? l=some o->h'.get? l=some o)->st k h'
 item:∀(A:Around) k (s:Shared) x (Q:Value->Shared->Prop) (E:Value->Shared->Prop),st k s.heap->its[k]?=some x->(∀h',st (k+1) h'->Heap.SameBut i s.heap h'->Q x { s with heap:=h' })->wpAny (model P w) A (Builtin.SmallTypes.nextOf (.ref i)) Q E s
 done:∀(A:Around) k (s:Shared) (Q:Value->Shared->Prop) (E:Value->Shared->Prop),A.handled=none->st k s.heap->its[k]?=none->(∀h' e,Heap.ExtBut i s.heap h'->(∃o,h'.get? e=some o/\o.cls=.type "StopIteration")->E (.ref e) { s with heap:=h' })->wpAny (model P w) A (Builtin.SmallTypes.nextOf (.ref i)) Q E s
def Ko(hne:l≠i)(its:Array Value):SubIt P w i l its (λk h=>IsTupIter h i l k/\IsTup h l its) where
 obj:=λk h ⟨⟨o,e,_,d⟩,⟨o',e',_⟩⟩=>⟨⟨o,e,λv z=>by rw[d]at z;cases z⟩,o',e'⟩
 keep:=λk h h' ⟨⟨o,e,r⟩,⟨o',e',r'⟩⟩ k1 k2=>⟨⟨o,k1 _ e,r⟩,⟨o',k2 _ e',r'⟩⟩
 item:=λA k s x Q E st hx hQ=>CP st.1 st.2 hx λh' h1 h2=>hQ h' ⟨h1,st.2.extBut h2.extBut hne⟩ h2
 done:=λA k s Q E hh st hx hE=>Am hh st.1 st.2 hx hE
def Km(hne:l≠i)(its:Array Value):SubIt P w i l its (λk h=>h.IsListIter i l k/\h.IsList l its) where
 obj:=λk h ⟨⟨o,e,_,d⟩,⟨o',e',_⟩⟩=>⟨⟨o,e,λv z=>by rw[d]at z;cases z⟩,o',e'⟩
 keep:=λk h h' ⟨⟨o,e,r⟩,⟨o',e',r'⟩⟩ k1 k2=>⟨⟨o,k1 _ e,r⟩,⟨o',k2 _ e',r'⟩⟩
 item:=λA k s x Q E st hx hQ=>wpAny_nextOf_list_item st.1 st.2 hx λh' h1 h2=>hQ h' ⟨h1,st.2.extBut h2.extBut hne⟩ h2
 done:=λA k s Q E hh st hx hE=>wpAny_nextOf_list_end hh st.1 st.2 hx hE
section
variable{P:Program}{w:World}{A:Around}{E:Value->Shared->Prop}{s:Shared}{z TI TO i1 i2 l1 l2:Addr}{xs ys:Array Value}{st1 st2:Nat->Heap->Prop}
def GQ{k:Nat}{Q:Value->Shared->Prop}(D:ZipApart z TI TO i1 i2 l1 l2)(S1:SubIt P w i1 l1 xs st1)(S2:SubIt P w i2 l2 ys st2)
  (hz:IsZip s.heap z TI TO .none) (hTI:IsPair s.heap TI (.ref i1) (.ref i2)) (hTO:IsPair s.heap TO a b) (h1:st1 k s.heap) (h2:st2 k s.heap) (hx:xs[k]?=some x) (hy:ys[k]?=some y)
  (hQ:∀h',IsZip h' z TI TO (rawInt s.heap.objs.size)->IsPair h' TO x y->st1 (k+1) h'->st2 (k+1) h'->IsPair h' s.heap.objs.size x y->h'.objs.size=s.heap.objs.size+1->(∀c o,c≠z->c≠TO->c≠i1->c≠i2->s.heap.get? c=some o->h'.get? c=some o)->Q (.ref s.heap.objs.size) { s with heap:=h' }) :
  wpAny (model P w) A (Builtin.«zip.__next__» ⟨[.ref z],[]⟩) (λfin s'=>∃v,fin=.done (.ret v)/\Q v s') E s:=by
 show wpAny _ _ (field (.ref z) 2>>=λu=>_) _ _ _
 refine SQ (Uc hz rfl (x:=.bool false) rfl (show _ from ?_))
 show wpAny _ _ (field (.ref z) 3>>=λu=>_) _ _ _
 refine SQ (Uc hz rfl (x:=.ref TI) rfl (show _ from ?_))
 refine SQ (Vm hTI rfl (show _ from ?_))
 show wpAny _ _ (Builtin.SmallTypes.ownedTupleIsFree (.ref z)>>=λu=>_) _ _ _
 refine SQ ?_;unfold Builtin.SmallTypes.ownedTupleIsFree;refine SQ (Uc hz rfl (x:=.none) rfl (S6 (show _ from ?_)))
 simp only[if_true];refine SQ (V4 (show _ from ?_))
 refine SQ (Uc hz rfl (x:=.ref TO) rfl (show _ from ?_))
 refine SQ (wpAny_setField_rec hz (by simp) λg1 hz1 e1=>?_)
 replace hz1:IsZip g1 z TI TO .ellipsis:=hz1;have n1:=(S1.obj _ _ h1).2;refine SQ ?_;simp only[List.zipIdx_cons,List.zipIdx_nil,List.forIn_cons,List.forIn_nil];refine SQ (SQ (wpAny_onRaise (show _ from ?_)))
 show wpAny _ _ (Builtin.SmallTypes.nextOf (.ref i1)>>=λu=>_) _ _ _
 refine SQ (S1.item _ k _ x _ _ (S1.keep _ _ _ h1 (λo q=>e1.extBut _ _ D.i1z q) λo q=>e1.extBut _ _ D.l1z q) hx λg2 h12 e2=>S6 ?_)
 have hTO2:IsPair g2 TO a b:=e2.extBut _ _ D.TOi1 (e1.extBut _ _ D.TOz hTO);refine SQ (Vm hTO2 rfl (show _ from ?_))
 refine SQ (wpAny_updateSeq_pair hTO2 λg3 hTO3 e3=>?_)
 replace hTO3:IsPair g3 TO x b:=hTO3;refine SQ (wpAny_letGo (S6 (show _ from ?_)))
 refine SQ (SQ (wpAny_onRaise (show _ from ?_)))
 show wpAny _ _ (Builtin.SmallTypes.nextOf (.ref i2)>>=λu=>_) _ _ _
 refine SQ (S2.item _ k _ y _ _ (S2.keep _ _ _ h2 (λo q=>e3.extBut _ _ D.TOi2.symm (e2.extBut _ _ D.i12.symm (e1.extBut _ _ D.i2z q))) λo q=>e3.extBut _ _ D.l2TO (e2.extBut _ _ D.l2i1 (e1.extBut _ _ D.l2z q))) hy λg4 h24 e4=>S6 ?_)
 have hTO4:IsPair g4 TO x b:=e4.extBut _ _ D.TOi2 hTO3;refine SQ (Vm hTO4 rfl (show _ from ?_))
 refine SQ (wpAny_updateSeq_pair hTO4 λg5 hTO5 e5=>?_)
 replace hTO5:IsPair g5 TO x y:=hTO5;refine SQ (wpAny_letGo (S6 (S6 (show _ from ?_))))
 refine SQ (Vm hTO5 rfl (show _ from ?_))
 refine SQ (wpAny_newTuple (show _ from ?_))
 have hsz:g5.objs.size=s.heap.objs.size:=by rw[e5.1,e4.1,e3.1,e2.1,e1.1]
 have hz5:IsZip g5 z TI TO .ellipsis:=e5.extBut _ _ D.TOz.symm (e4.extBut _ _ D.i2z.symm (e3.extBut _ _ D.TOz.symm (e2.extBut _ _ D.i1z.symm hz1)));have hk5:∀c o,c≠z->c≠TO->c≠i1->c≠i2->s.heap.get? c=some o->g5.get? c=some o:=λc o c1 c2 c3 c4 q=>e5.extBut _ _ c2 (e4.extBut _ _ c4 (e3.extBut _ _ c2 (e2.extBut _ _ c3 (e1.extBut _ _ c1 q))))
 have h15:st1 (k+1) g5:=S1.keep _ _ _ h12 (λo q=>e5.extBut _ _ D.TOi1.symm (e4.extBut _ _ D.i12 (e3.extBut _ _ D.TOi1.symm q))) λo q=>e5.extBut _ _ D.l1TO (e4.extBut _ _ D.l1i2 (e3.extBut _ _ D.l1TO q))
 have h25:st2 (k+1) g5:=S2.keep _ _ _ h24 (λo q=>e5.extBut _ _ D.TOi2.symm q) λo q=>e5.extBut _ _ D.l2TO q
 have hzlt:z<g5.objs.size:=S8 hz5;show wpAny _ _ (Builtin.SmallTypes.ownedTupleHandOut (.ref z) (.ref g5.objs.size)>>=λu=>_) _ _ _
 refine SQ ?_;unfold Builtin.SmallTypes.ownedTupleHandOut;have hz6:IsZip (g5.push { cls:=.type "tuple",data:=.seq #[x,y] }) z TI TO .ellipsis:=SX _ hz5;refine SQ (wpAny_setField_rec hz6 (by simp) λg7 hz7 e7=>?_)
 replace hz7:IsZip g7 z TI TO (rawInt g5.objs.size):=hz7;refine wpAny_setField_rec hz7 (by simp) λg8 hz8 e8=>?_
 replace hz8:IsZip g8 z TI TO (rawInt g5.objs.size):=hz8;have up:∀c o,c≠z->g5.get? c=some o->g8.get? c=some o:=λc o c1 q=>e8.extBut _ _ c1 (e7.extBut _ _ c1 (SX _ q))
 have hT8:IsPair g8 g5.objs.size x y:=e8.extBut _ _ (Wf hzlt) (e7.extBut _ _ (Wf hzlt) (Tr _ rfl));have sz8:g8.objs.size=g5.objs.size+1:=by rw[e8.1,e7.1,Ug]
 rw[hsz]at hz8 hT8 sz8;refine S6 ⟨_,rfl,?_⟩;show Q (.ref g5.objs.size) _;rw[hsz];exact hQ g8 hz8 (up _ _ D.TOz hTO5) (S1.keep _ _ _ h15 (λo q=>up _ o D.i1z q) λo q=>up _ o D.l1z q) (S2.keep _ _ _ h25 (λo q=>up _ o D.i2z q) λo q=>up _ o D.l2z q) hT8 sz8 λc o c1 c2 c3 c4 q=>up c o c1 (hk5 c o c1 c2 c3 c4 q)
def H8(hh:A.handled=none)(D:ZipApart z TI TO i1 i2 l1 l2)(S1:SubIt P w i1 l1 xs st1)(S2:SubIt P w i2 l2 ys st2)
  (hz:IsZip s.heap z TI TO .none) (hTI:IsPair s.heap TI (.ref i1) (.ref i2)) (hTO:IsPair s.heap TO a b) (h1:st1 k s.heap) (h2:st2 k s.heap) (hend:xs[k]?=none\/ys[k]?=none)
  (hE:∀h' e,(∀c o,c≠z->c≠TO->c≠i1->c≠i2->s.heap.get? c=some o->h'.get? c=some o)->(∃o,h'.get? e=some o/\o.cls=.type "StopIteration")->E (.ref e) { s with heap:=h' }) :
  wpAny (model P w) A (Builtin.«zip.__next__» ⟨[.ref z],[]⟩) Q E s:=by
 show wpAny _ _ (field (.ref z) 2>>=λy=>_) _ _ _
 refine SQ (Uc hz rfl (x:=.bool false) rfl (show _ from ?_))
 show wpAny _ _ (field (.ref z) 3>>=λy=>_) _ _ _
 refine SQ (Uc hz rfl (x:=.ref TI) rfl (show _ from ?_))
 refine SQ (Vm hTI rfl (show _ from ?_))
 show wpAny _ _ (Builtin.SmallTypes.ownedTupleIsFree (.ref z)>>=λy=>_) _ _ _
 refine SQ ?_;unfold Builtin.SmallTypes.ownedTupleIsFree;refine SQ (Uc hz rfl (x:=.none) rfl (S6 (show _ from ?_)))
 simp only[if_true];refine SQ (V4 (show _ from ?_))
 refine SQ (Uc hz rfl (x:=.ref TO) rfl (show _ from ?_))
 refine SQ (wpAny_setField_rec hz (by simp) λg1 hz1 e1=>?_)
 replace hz1:IsZip g1 z TI TO .ellipsis:=hz1;refine SQ ?_;simp only[List.zipIdx_cons,List.zipIdx_nil,List.forIn_cons,List.forIn_nil];refine SQ (SQ (wpAny_onRaise (show _ from ?_)))
 show wpAny _ _ (Builtin.SmallTypes.nextOf (.ref i1)>>=λy=>_) _ _ _
 have h11:st1 k g1:=S1.keep _ _ _ h1 (λo q=>e1.extBut _ _ D.i1z q) λo q=>e1.extBut _ _ D.l1z q
 cases hx:xs[k]? with
 |none=>
   refine SQ (S1.done _ k _ _ _ hh h11 hx λg2 e e2 he=>?_)
   obtain⟨oe,hoe,hce⟩:=he;have hz2:IsZip g2 z TI TO .ellipsis:=e2 _ _ D.i1z.symm hz1;have hez:e≠z:=λq=>by subst q;rw[hz2]at hoe;cases hoe;simp at hce
   refine wpAny_setField_rec hz2 (by simp) λg3 y e3=>hE g3 e (λc o c1 y c3 y q=>e3.extBut _ _ c1 (e2 _ _ c3 (e1.extBut _ _ c1 q))) ⟨oe,e3.extBut _ _ hez hoe,hce⟩
 |some x=>
   have hy:ys[k]?=none:=by rcases hend with q | q;rw[hx]at q;cases q;exact q
   refine SQ (S1.item _ k _ x _ _ h11 hx λg2 h12 e2=>S6 ?_)
   have hTO2:IsPair g2 TO a b:=e2.extBut _ _ D.TOi1 (e1.extBut _ _ D.TOz hTO);refine SQ (Vm hTO2 rfl (show _ from ?_))
   refine SQ (wpAny_updateSeq_pair hTO2 λg3 hTO3 e3=>?_)
   refine SQ (wpAny_letGo (S6 (show _ from ?_)))
   refine SQ (SQ (wpAny_onRaise (show _ from ?_)))
   show wpAny _ _ (Builtin.SmallTypes.nextOf (.ref i2)>>=λy=>_) _ _ _
   refine SQ (S2.done _ k _ _ _ hh (S2.keep _ _ _ h2 (λo q=>e3.extBut _ _ D.TOi2.symm (e2.extBut _ _ D.i12.symm (e1.extBut _ _ D.i2z q))) λo q=>e3.extBut _ _ D.l2TO (e2.extBut _ _ D.l2i1 (e1.extBut _ _ D.l2z q))) hy λg4 e e4 he=>?_)
   obtain⟨oe,hoe,hce⟩:=he;have hz4:IsZip g4 z TI TO .ellipsis:=e4 _ _ D.i2z.symm (e3.extBut _ _ D.TOz.symm (e2.extBut _ _ D.i1z.symm hz1));have hez:e≠z:=λq=>by subst q;rw[hz4]at hoe;cases hoe;simp at hce
   refine wpAny_setField_rec hz4 (by simp) λg5 y e5=>hE g5 e (λc o c1 c2 c3 c4 q=>e5.extBut _ _ c1 (e4 _ _ c4 (e3.extBut _ _ c2 (e2.extBut _ _ c3 (e1.extBut _ _ c1 q))))) ⟨oe,e5.extBut _ _ hez hoe,hce⟩
end
abbrev rE(h:Heap)(T1:String)(l1:Addr):Heap:=h.push { cls:=.type T1,data:=.fields #[.ref l1,.int 0 0] }
abbrev Jj(h:Heap)(T1 T2:String)(l1 l2:Addr):Heap:=(rE h T1 l1).push { cls:=.type T2,data:=.fields #[.ref l2,.int 0 0] }
abbrev Jk(h:Heap)(T1 T2:String)(l1 l2:Addr):Heap:=(Jj h T1 T2 l1 l2).push { cls:=.type "tuple",data:=.seq #[.ref h.objs.size,.ref (rE h T1 l1).objs.size] }
abbrev tQ(h:Heap)(T1 T2:String)(l1 l2:Addr):Heap:=(Jk h T1 T2 l1 l2).push { cls:=.type "tuple",data:=.seq #[.none,.none] }
abbrev oJ(h:Heap)(T1 T2:String)(l1 l2:Addr):Heap:=(tQ h T1 T2 l1 l2).push { cls:=.type "zip",data:=.fields #[.none,.bool false,.bool false,.ref (Jj h T1 T2 l1 l2).objs.size,.ref (Jk h T1 T2 l1 l2).objs.size] }
def zB(l1 l2:Addr)(xs ys:Array Value):
  Meets (Builtin.«zip.__new__» ⟨[.type "zip",.ref l1,.ref l2],[]⟩) (λz R s=>IsTup s.heap l1 xs/\IsTup s.heap l2 ys/\R (.ok (.ret (.ref (tQ s.heap "tuple_iterator" "tuple_iterator" l1 l2).objs.size))) { s with heap:=oJ s.heap "tuple_iterator" "tuple_iterator" l1 l2 }):=
 .of_wp λprog w A R s h=>by
  obtain⟨hp,gn,dr,tk,os⟩:=s;obtain⟨k1,k2,h⟩:=h;have hsub:=sub_zip;have K1:IsTup (Shared.heap ⟨hp,gn,dr,tk,os⟩) l1 xs:=k1;have K2:IsTup (Shared.heap ⟨hp.push { cls:=.type "tuple_iterator",data:=.fields #[.ref l1,.int 0 0] },gn,dr,tk,os⟩) l2 ys:=k2.push _
  wp_walk using Wk K1,Wk K2
  exact⟨_,rfl,h⟩
def zz(l1 l2:Addr)(xs ys:Array Value):
  Meets (Builtin.«zip.__new__» ⟨[.type "zip",.ref l1,.ref l2],[]⟩) (λz R s=>s.heap.IsList l1 xs/\IsTup s.heap l2 ys/\R (.ok (.ret (.ref (tQ s.heap "list_iterator" "tuple_iterator" l1 l2).objs.size))) { s with heap:=oJ s.heap "list_iterator" "tuple_iterator" l1 l2 }):=
 .of_wp λprog w A R s h=>by
  obtain⟨hp,gn,dr,tk,os⟩:=s;obtain⟨k1,k2,h⟩:=h;have hsub:=sub_zip;have K1:Heap.IsList (Shared.heap ⟨hp,gn,dr,tk,os⟩) l1 xs:=k1;have K2:IsTup (Shared.heap ⟨hp.push { cls:=.type "list_iterator",data:=.fields #[.ref l1,.int 0 0] },gn,dr,tk,os⟩) l2 ys:=k2.push _
  wp_walk using Vk K1,Wk K2
  exact⟨_,rfl,h⟩
def zA(l1 l2:Addr)(xs ys:Array Value):
  Meets (Builtin.«zip.__new__» ⟨[.type "zip",.ref l1,.ref l2],[]⟩) (λz R s=>IsTup s.heap l1 xs/\s.heap.IsList l2 ys/\R (.ok (.ret (.ref (tQ s.heap "tuple_iterator" "list_iterator" l1 l2).objs.size))) { s with heap:=oJ s.heap "tuple_iterator" "list_iterator" l1 l2 }):=
 .of_wp λprog w A R s h=>by
  obtain⟨hp,gn,dr,tk,os⟩:=s;obtain⟨k1,k2,h⟩:=h;have hsub:=sub_zip;have K1:IsTup (Shared.heap ⟨hp,gn,dr,tk,os⟩) l1 xs:=k1;have K2:Heap.IsList (Shared.heap ⟨hp.push { cls:=.type "tuple_iterator",data:=.fields #[.ref l1,.int 0 0] },gn,dr,tk,os⟩) l2 ys:=Heap.IsList.push k2 _
  wp_walk using Wk K1,Vk K2
  exact⟨_,rfl,h⟩
def zy(l1 l2:Addr)(xs ys:Array Value):
  Meets (Builtin.«zip.__new__» ⟨[.type "zip",.ref l1,.ref l2],[]⟩) (λz R s=>s.heap.IsList l1 xs/\s.heap.IsList l2 ys/\R (.ok (.ret (.ref (tQ s.heap "list_iterator" "list_iterator" l1 l2).objs.size))) { s with heap:=oJ s.heap "list_iterator" "list_iterator" l1 l2 }):=
 .of_wp λprog w A R s h=>by
  obtain⟨hp,gn,dr,tk,os⟩:=s;obtain⟨k1,k2,h⟩:=h;have hsub:=sub_zip;have K1:Heap.IsList (Shared.heap ⟨hp,gn,dr,tk,os⟩) l1 xs:=k1;have K2:Heap.IsList (Shared.heap ⟨hp.push { cls:=.type "list_iterator",data:=.fields #[.ref l1,.int 0 0] },gn,dr,tk,os⟩) l2 ys:=Heap.IsList.push k2 _
  wp_walk using Vk K1,Vk K2
  exact⟨_,rfl,h⟩
def gF(b:Bool)(h:Heap)(l:Addr)(xs:Array Value):Prop:=if b then IsTup h l xs else h.IsList l xs
def rH(b:Bool)(i l:Addr)(xs:Array Value)(k:Nat)(h:Heap):Prop:=(if b then IsTupIter h i l k else h.IsListIter i l k)/\gF b h l xs
def kW(b:Bool)(hne:l≠i)(its:Array Value):SubIt P w i l its (rH b i l its):=by
 cases b with
 |true=>exact Ko hne its
 |false=>exact Km hne its
def gF.lt(q:gF b h l xs):l<h.objs.size:=by
 cases b with
 |true=>obtain⟨o,e,_⟩:=(show IsTup h l xs from q);exact S8 e
 |false=>obtain⟨o,e,_⟩:=(show h.IsList l xs from q);exact S8 e
def gF.keep(q:gF b h l xs)(k:∀o,h.get? l=some o->h'.get? l=some o):gF b h' l xs:=by
 cases b with
 |true=>obtain⟨o,e,r⟩:=(show IsTup h l xs from q);exact⟨o,k _ e,r⟩
 |false=>obtain⟨o,e,r⟩:=(show h.IsList l xs from q);exact⟨o,k _ e,r⟩
section
variable{P:Program}{w:World}{A:Around}{E:Value->Shared->Prop}{s:Shared}{l1 l2:Addr}{xs ys:Array Value}
def Ef(k1:gF b1 s.heap l1 xs)(k2:gF b2 s.heap l2 ys)
  (h:∀h',IsZip h' (s.heap.objs.size+4) (s.heap.objs.size+2) (s.heap.objs.size+3) .none->IsPair h' (s.heap.objs.size+2) (.ref s.heap.objs.size) (.ref (s.heap.objs.size+1))->IsPair h' (s.heap.objs.size+3) .none .none->
    rH b1 s.heap.objs.size l1 xs 0 h'->rH b2 (s.heap.objs.size+1) l2 ys 0 h'->h'.objs.size=s.heap.objs.size+5->(∀c o,s.heap.get? c=some o->h'.get? c=some o)->Q (.ref (s.heap.objs.size+4)) { s with heap:=h' }) :
  wpAny (model P w) A (call (.type "zip") [.ref l1,.ref l2]) Q E s:=by
 have fin:∀T1 T2,(∀h' k,h'.get? s.heap.objs.size=some { cls:=.type T1,data:=.fields #[.ref l1,.int 0 0] }->gF b1 h' l1 xs->k=0->rH b1 s.heap.objs.size l1 xs k h')->
   (∀h' k,h'.get? (s.heap.objs.size+1)=some { cls:=.type T2,data:=.fields #[.ref l2,.int 0 0] }->gF b2 h' l2 ys->k=0->rH b2 (s.heap.objs.size+1) l2 ys k h')->
   s.TypeIs (.ref (tQ s.heap T1 T2 l1 l2).objs.size) "zip"\/True->Q (.ref (tQ s.heap T1 T2 l1 l2).objs.size) { s with heap:=oJ s.heap T1 T2 l1 l2 }/\({ s with heap:=oJ s.heap T1 T2 l1 l2 }:Shared).TypeIs (.ref (tQ s.heap T1 T2 l1 l2).objs.size) "zip":=by
  intro T1 T2 f1 f2 _;have z1:(rE s.heap T1 l1).objs.size=s.heap.objs.size+1:=Ug ..
  have z2:(Jj s.heap T1 T2 l1 l2).objs.size=s.heap.objs.size+2:=by rw[Ug,z1]
  have z3:(Jk s.heap T1 T2 l1 l2).objs.size=s.heap.objs.size+3:=by rw[Ug,z2]
  have z4:(tQ s.heap T1 T2 l1 l2).objs.size=s.heap.objs.size+4:=by rw[Ug,z3]
  have z5:(oJ s.heap T1 T2 l1 l2).objs.size=s.heap.objs.size+5:=by rw[Ug,z4]
  have up:∀c o,s.heap.get? c=some o->(oJ s.heap T1 T2 l1 l2).get? c=some o:=λc o q=>SX _ (SX _ (SX _ (SX _ (SX _ q))))
  have q5:(oJ s.heap T1 T2 l1 l2).get? (tQ s.heap T1 T2 l1 l2).objs.size=some _:=Tr _ rfl;have q4:(oJ s.heap T1 T2 l1 l2).get? (Jk s.heap T1 T2 l1 l2).objs.size=some _:=SX _ (Tr _ rfl);have q3:(oJ s.heap T1 T2 l1 l2).get? (Jj s.heap T1 T2 l1 l2).objs.size=some _:=SX _ (SX _ (Tr _ rfl));have q2:(oJ s.heap T1 T2 l1 l2).get? (rE s.heap T1 l1).objs.size=some _:=SX _ (SX _ (SX _ (Tr _ rfl)));have q1:(oJ s.heap T1 T2 l1 l2).get? s.heap.objs.size=some _:=SX _ (SX _ (SX _ (SX _ (Tr _ rfl))));rw[z2,z3,z4]at q5;rw[z1,z2]at q3;rw[z3]at q4;rw[z1]at q2;rw[z4];exact⟨h _ q5 q3 q4 (f1 _ 0 q1 (k1.keep λo q=>up _ _ q) rfl) (f2 _ 0 q2 (k2.keep λo q=>up _ _ q) rfl) z5 up,_,q5,rfl⟩
 cases b1 with
 | true=>cases b2 with
   |true=>
     refine WF F.called_zip (by decide) (Wo _ _) (WM _ _) (λobj=>V2 obj _ _) Ws (zB l1 l2 xs ys) ⟨k1,k2,?_⟩
     obtain⟨a1,a2⟩:=fin "tuple_iterator" "tuple_iterator" (λh' k q q' e=>by subst e;exact⟨⟨_,q,rfl,rfl⟩,q'⟩) (λh' k q q' e=>by subst e;exact⟨⟨_,q,rfl,rfl⟩,q'⟩) (.inr trivial)
     exact⟨a2,a1⟩
   |false=>
     refine WF F.called_zip (by decide) (Wo _ _) (WM _ _) (λobj=>V2 obj _ _) Ws (zA l1 l2 xs ys) ⟨k1,k2,?_⟩
     obtain⟨a1,a2⟩:=fin "tuple_iterator" "list_iterator" (λh' k q q' e=>by subst e;exact⟨⟨_,q,rfl,rfl⟩,q'⟩) (λh' k q q' e=>by subst e;exact⟨⟨_,q,rfl,rfl⟩,q'⟩) (.inr trivial)
     exact⟨a2,a1⟩
 | false=>cases b2 with
   |true=>
     refine WF F.called_zip (by decide) (Wo _ _) (WM _ _) (λobj=>V2 obj _ _) Ws (zz l1 l2 xs ys) ⟨k1,k2,?_⟩
     obtain⟨a1,a2⟩:=fin "list_iterator" "tuple_iterator" (λh' k q q' e=>by subst e;exact⟨⟨_,q,rfl,rfl⟩,q'⟩) (λh' k q q' e=>by subst e;exact⟨⟨_,q,rfl,rfl⟩,q'⟩) (.inr trivial)
     exact⟨a2,a1⟩
   |false=>
     refine WF F.called_zip (by decide) (Wo _ _) (WM _ _) (λobj=>V2 obj _ _) Ws (zy l1 l2 xs ys) ⟨k1,k2,?_⟩
     obtain⟨a1,a2⟩:=fin "list_iterator" "list_iterator" (λh' k q q' e=>by subst e;exact⟨⟨_,q,rfl,rfl⟩,q'⟩) (λh' k q q' e=>by subst e;exact⟨⟨_,q,rfl,rfl⟩,q'⟩) (.inr trivial)
     exact⟨a2,a1⟩
end
section
variable{X:Cx}{Xe:List (Addr×Obj)}{σ:St}{H:Hp}{s:Shared}{h':Heap}
def Inv.turnedL{t':Nat}{ch:List Addr}(I:Inv X Xe σ H s)(k:∀b o,b∉ch->s.heap.get? b=some o->h'.get? b=some o)(hf:∀b∈ch,FpOk X Xe H b)(hL:∀b∈ch,b≠X.env.locals):Inv X Xe σ H { s with heap:=h',toks:=t' }:=by
 have nit:∀b u,H b=some u->b∉ch:=λb u e z=>by have:=(hf b z).1;rw[e]at this;cases this
 refine I.step (g':=s.gens) (d':=s.drawn) (ch:=ch) (λb hb=>?_) (λb o y y hc e y=>k b o hc e) (λb o y y hc e y=>⟨o.slots,k b o hc e⟩) (λy y y y n=>n)
  (λb o hc e=>⟨o,k b o hc e⟩) (λy y e=>e) (λy y y e=>e) (λb ps e=>⟨#[],by rw[e];simp⟩) (λm hm=>?_) (λb u e=>?_) I.bare
 ·obtain⟨_,f1,_,f3,f4,f5⟩:=hf b hb;exact⟨f3,f1,f4,f5⟩
 ·obtain⟨o,es,ep,ho,r⟩:=hm;exact⟨o,es,ep,k _ o (λz=>(hL _ z) rfl) ho,r⟩
 ·refine (I.hok b u e).stay (λc v hc q=>k c v ?_ q) (λy q=>q) λy y q=>q
  rcases hc with z | z
  ·rw[z];exact nit b u e
  ·exact nit c _ z
def Inv.turnedLay{t':Nat}{ch:List Addr}{p:Addr}{o:HO}(I:Inv X Xe σ H s)(k:∀ b o,b∉ch->s.heap.get? b=some o->h'.get? b=some o)(hf:∀ b∈ch,FpOk X Xe H b)(hp:s.heap.objs.size<=p)(new:ObjOk X.prog X.w (upd H p o) h' p o):Inv X Xe σ (upd H p o) { s with heap:=h',toks:=t' }:=by
 have nit:∀b u,H b=some u->b∉ch:=λb u e z=>by have:=(hf b z).1;rw[e]at this;cases this
 have hn:H p=none:=I.hok.fresh hp;have tr:∀b u,H b=some u->upd H p o b=some u:=λb u e=>by rw[upd_ne (ne_of_none e hn)];exact e
 refine I.step (g':=s.gens) (d':=s.drawn) (ch:=ch) (λb hb=>?_) (λb o x x hc e x=>k b o hc e) (λb o x x hc e x=>⟨o.slots,k b o hc e⟩) (λb u x e n=>by rw[upd_ne (Tv (Tj (S8 e) hp))];exact n)
  (λb o hc e=>⟨o,k b o hc e⟩) (λb xs e=>tr b _ e) (λb x x e=>tr b _ e) (λb ps e=>⟨#[],by rw[tr b _ e];simp⟩) (λm hm=>?_) (λb u e=>?_) I.bare
 ·obtain⟨_,f1,_,f3,f4,f5⟩:=hf b hb;exact⟨f3,f1,f4,f5⟩
 ·obtain⟨o,es,ep,ho,r⟩:=hm;exact⟨o,es,ep,k _ o (λz=>(hf _ z).2.1 rfl) ho,r⟩
 ·by_cases z:b=p
  ·subst z;rw[upd_same]at e;cases e;exact new
  ·rw[upd_ne z]at e;refine (I.hok b u e).stay (λc v hc q=>k c v ?_ q) (λc q=>tr c _ q) (λc xs q=>tr c _ q) λc o q=>tr c _ q
   rcases hc with y | y
   ·rw[y];exact nit b u e
   ·exact nit c _ y
end
def m6(b:Bool)(K:PySem.W.Frag)(H:Hp)(l:Addr)(xs:List V):Prop:=if b then SqT K H l xs else SqL K H l xs
def Inv.seqS{X:Cx}{Xe:List (Addr×Obj)}{σ:St}{H:Hp}{s:Shared}{b:Bool}{l:Addr}{xs:List V}(I:Inv X Xe σ H s)(h:m6 b X.K H l xs):∃its:List Value,Vals xs its/\gF b s.heap l its.toArray/\xs.length<=sizeLine:=by
 cases b with
 |true=>obtain⟨its,r,p,z⟩:=I.tuple (show SqT X.K H l xs from h);exact⟨its,r,p,z⟩
 |false=>obtain⟨its,r,p,z⟩:=I.list (show SqL X.K H l xs from h);exact⟨its,r,p.isList,z⟩
def Inv.seqS_inj{X:Cx}{Xe:List (Addr×Obj)}{σ:St}{H:Hp}{s:Shared}{b:Bool}{l:Addr}{xs ys:List V}(I:Inv X Xe σ H s)(h:m6 b X.K H l xs)(q:m6 b X.K H l ys):xs=ys:=by
 cases b with
 |true=>exact I.tuple_inj (show SqT X.K H l xs from h) q
 |false=>exact I.list_inj (show SqL X.K H l xs from h) q
def fG(b:Bool)(i l:Addr)(k:Nat)(h:Heap):Prop:=if b then IsTupIter h i l k else h.IsListIter i l k
def fG.keep{b:Bool}{i l:Addr}{k:Nat}{h h':Heap}(q:fG b i l k h)(kk:∀o,h.get? i=some o->h'.get? i=some o):fG b i l k h':=by
 cases b with
 |true=>obtain⟨o,e,r⟩:=(show IsTupIter h i l k from q);exact⟨o,kk _ e,r⟩
 |false=>obtain⟨o,e,r⟩:=(show h.IsListIter i l k from q);exact⟨o,kk _ e,r⟩
def fG.obj{b:Bool}{i l:Addr}{k:Nat}{h:Heap}(q:fG b i l k h):∃o,h.get? i=some o/\∀v,o.data≠.cell v:=by
 cases b with
 |true=>obtain⟨o,e,_,d⟩:=(show IsTupIter h i l k from q);exact⟨o,e,λv z=>by rw[d]at z;cases z⟩
 |false=>obtain⟨o,e,_,d⟩:=(show h.IsListIter i l k from q);exact⟨o,e,λv z=>by rw[d]at z;cases z⟩
def Qy(K:PySem.W.Frag)(b1 b2:Bool)(l1 l2:Addr):It:=
 ⟨fun i H=>∃xs ys x y,m6 b1 K H l1 xs∧m6 b2 K H l2 ys∧xs[i]?=some x∧ys[i]?=some y,
  λi H v H'=>∃p,H p=none/\v=.ref p/\∀xs ys,m6 b1 K H l1 xs->m6 b2 K H l2 ys->∃x y,xs[i]?=some x/\ys[i]?=some y/\H'=upd H p (.tup [x,y]),
  λi H=>∃xs ys,m6 b1 K H l1 xs/\m6 b2 K H l2 ys/\(xs[i]?=none\/ys[i]?=none)⟩
def tL{P:Program}{w:World}{A:Around}{E:Value->Shared->Prop}{s:Shared}{z TI TO:Addr}{f0:Value}{Q:Option Value->Shared->Prop}(hz:IsZip s.heap z TI TO f0)
  (h:wpAny (model P w) A.in1 (Builtin.«zip.__next__» ⟨[.ref z],[]⟩) (λfin s'=>∃v,fin=.done (.ret v)/\Q (some v) s') (λe s'=>∃o ea,e=.ref ea/\s'.heap.get? ea=some o/\o.cls=.type "StopIteration"/\Q none s') s):wpAny (model P w) A (pyNext (.ref z)) Q E s:=by
 have hT:s.TypeIs (.ref z) "zip":=⟨_,hz,rfl⟩;unfold pyNext;refine SQ (WQ (UG (name:=Str.ofString "__next__") hT F.slot_zip_next (Vd F.slot_zip_next hT F.entry_zip_next (Tp h (λfin s' q=>?_) λe s' q=>?_) (F.args_zip_next_1 _))))
 ·obtain⟨v,rfl,q⟩:=q;exact⟨v,rfl,S6 q⟩
 ·obtain⟨o,ea,rfl,ho,hc,q⟩:=q;exact SQ (W3 (T := "StopIteration") (b:=true) ⟨o,ho,hc⟩ isSubtype_stop (S6 q))
def HW{P:Program}{w:World}{K:PySem.W.Frag}{elts:List Expr}{x1}{tp:Pos}{b1 b2:Bool}{z TI TO i1 i2 l1 l2:Addr}(D:ZipApart z TI TO i1 i2 l1 l2):
  Turn P w K (.Tuple elts x1 tp) (Qy K b1 b2 l1 l2) [z,TI,TO,i1,i2] z (λi h=>IsZip h z TI TO .none/\IsPair h TI (.ref i1) (.ref i2)/\(∃a b,IsPair h TO a b)/\fG b1 i1 l1 i h/\fG b2 i2 l2 i h) where
 mem:=by simp
 obj:=λi h st b hb=>by
  obtain⟨hz,hTI,⟨a,c,hTO⟩,h1,h2⟩:=st;simp only[List.mem_cons,List.mem_nil_iff,or_false]at hb;rcases hb with rfl | rfl | rfl | rfl | rfl
  ·exact⟨_,hz,λv q=>by cases q⟩
  ·exact⟨_,hTI,λv q=>by cases q⟩
  ·exact⟨_,hTO,λv q=>by cases q⟩
  ·exact h1.obj
  ·exact h2.obj
 keep:=λi h h' st k=>by obtain⟨hz,hTI,⟨a,c,hTO⟩,h1,h2⟩:=st;exact⟨k z (by simp) _ hz,k TI (by simp) _ hTI,⟨a,c,k TO (by simp) _ hTO⟩,h1.keep λo q=>k i1 (by simp) o q,h2.keep λo q=>k i2 (by simp) o q⟩
 item:=by
  intro X hP hw hK hc i Xe s σ H E I hf st hg;subst hP hw hK;obtain⟨hz,hTI,⟨a,c,hTO⟩,h1,h2⟩:=st;obtain⟨xs,ys,x,y,s1,s2,hx,hy⟩:=hg;obtain⟨its1,r1,q1,_⟩:=I.seqS s1;obtain⟨its2,r2,q2,_⟩:=I.seqS s2;obtain⟨u1,e1,ru1⟩:=r1.get hx;obtain⟨u2,e2,ru2⟩:=r2.get hy;refine tL hz (Tp (GQ D (kW b1 D.l1i1 its1.toArray) (kW b2 D.l2i2 its2.toArray) hz hTI hTO ⟨h1,q1⟩ ⟨h2,q2⟩ (by simpa using e1) (by simpa using e2) (Q:=λv s'=>∃h',v=.ref s.heap.objs.size/\s'={ s with heap:=h' }/\IsZip h' z TI TO (rawInt s.heap.objs.size)/\IsPair h' TO u1 u2/\fG b1 i1 l1 (i+1) h'/\fG b2 i2 l2 (i+1) h'/\IsPair h' s.heap.objs.size u1 u2/\(∀c o,c≠z->c≠TO->c≠i1->c≠i2->s.heap.get? c=some o->h'.get? c=some o)) (E:=λu u=>False)
   λh' a1 a2 a3 a4 a5 a6 a7=>⟨h',rfl,rfl,a1,a2,a3.1,a4.1,a5,a7⟩) (λfin s' q=>?_) λu u q=>q.elim)
  obtain⟨v,rfl,h',rfl,rfl,a1,a2,a3,a4,a5,a7⟩:=q;refine⟨_,rfl,_,rfl,wpAny_letOwnedTupleGo_zip a1 λh2' hz' hs'=>?_⟩
  have lt:z<s.heap.objs.size:=S8 hz;have kk:∀b o,b∉[z,TI,TO,i1,i2]->s.heap.get? b=some o->h2'.get? b=some o:=λb o hb q=>hs'.extBut _ _ (λe=>hb (by simp[e])) (a7 b o (λe=>hb (by simp[e])) (λe=>hb (by simp[e])) (λe=>hb (by simp[e])) (λe=>hb (by simp[e])) q)
  have fresh:H s.heap.objs.size=none:=I.hok.fresh (Td _);have I1:Inv X Xe σ H { s with heap:=h2',toks:=s.toks }:=I.turnedL kk hf (λb hb=>(hf b hb).2.1)
  have pr:IsPair h2' s.heap.objs.size u1 u2:=hs'.extBut _ _ (Wf lt) a5;have nw:ObjOk X.prog X.w (upd H s.heap.objs.size (.tup [x,y])) h2' s.heap.objs.size (.tup [x,y]):=⟨by show 2<=sizeLine;decide,[u1,u2],.cons ru1 (.cons ru2 .nil),⟨_,pr,rfl,_,rfl⟩⟩
  have nfp:∀b∈[z,TI,TO,i1,i2],b≠s.heap.objs.size:=λb hb e=>by
   obtain⟨o,ho,_⟩:∃o,s.heap.get? b=some o/\True:=by
    simp only[List.mem_cons,List.mem_nil_iff,or_false]at hb;rcases hb with rfl | rfl | rfl | rfl | rfl
    ·exact⟨_,hz,trivial⟩
    ·exact⟨_,hTI,trivial⟩
    ·exact⟨_,hTO,trivial⟩
    ·obtain⟨o,q,_⟩:=h1.obj;exact⟨o,q,trivial⟩
    ·obtain⟨o,q,_⟩:=h2.obj;exact⟨o,q,trivial⟩
   exact absurd (S8 ho) (by rw[e];exact Va _)
  refine⟨.ref s.heap.objs.size,upd H s.heap.objs.size (.tup [x,y]),?_,rfl,⟨_,fresh,rfl,λxs' ys' q1' q2'=>⟨x,y,by rw[I.seqS_inj q1' s1];exact hx,by rw[I.seqS_inj q2' s2];exact hy,rfl⟩⟩,⟨hz',?_,⟨u1,u2,hs'.extBut _ _ D.TOz a2⟩,a3.keep λo q=>hs'.extBut _ _ D.i1z q,a4.keep λo q=>hs'.extBut _ _ D.i2z q⟩,λb hb=>by rw[upd_ne (nfp b hb)];exact (hf b hb).1⟩
  ·exact I.turnedLay (t':=s.toks) kk hf (Td _) nw
  ·exact hs'.extBut _ _ D.TIz (a7 _ _ D.TIz D.TITO D.TIi1 D.TIi2 hTI)
 done:=by
  intro X hP hw hK hc i Xe s σ H E I hf st hg;subst hP hw hK;obtain⟨hz,hTI,⟨a,c,hTO⟩,h1,h2⟩:=st;obtain⟨xs,ys,s1,s2,hend⟩:=hg;obtain⟨its1,r1,q1,_⟩:=I.seqS s1;obtain⟨its2,r2,q2,_⟩:=I.seqS s2;have hend':its1.toArray[i]?=none\/its2.toArray[i]?=none:=hend.imp (λq=>by simpa using r1.none_of q) λq=>by simpa using r2.none_of q
  refine tL hz (H8 (show X.A.in1.handled=none from I.ok.hd hc) D (kW b1 D.l1i1 its1.toArray) (kW b2 D.l2i2 its2.toArray) hz hTI hTO ⟨h1,q1⟩ ⟨h2,q2⟩ hend' λh' e kk he=>?_)
  obtain⟨o,ho,hco⟩:=he;exact⟨o,e,rfl,ho,hco,rfl,I.turnedL (t':=s.toks) (λb o hb q=>kk b o (λe=>hb (by simp[e])) (λe=>hb (by simp[e])) (λe=>hb (by simp[e])) (λe=>hb (by simp[e])) q) hf (λb hb=>(hf b hb).2.1)⟩
 self:=λu u u u u st h=>wpAny_pyIter_zip st.1 h
set_option tactic.hygienic true in
def zx(l:Addr)(xs:Array Value):
  Meets (Builtin.«enumerate.__new__» ⟨[.type "enumerate",.ref l],[]⟩) (λz R s=>IsTup s.heap l xs /\
   R (.ok (.ret (.ref (rE s.heap "tuple_iterator" l).objs.size))) { s with heap:=(rE s.heap "tuple_iterator" l).push { cls:=.type "enumerate",data:=.fields #[.none,.bool false,.ref s.heap.objs.size,rawInt 0,.none,.none] } }):=
 .of_wp λprog w A R s h=>by
  obtain⟨hp,gn,dr,tk,os⟩:=s;obtain⟨k1,h⟩:=h;have hsub:=sub_enumerate;have K1:IsTup (Shared.heap ⟨hp,gn,dr,tk,os⟩) l xs:=k1;obtain⟨ot,hot,r⟩:=id K1
  wp_walk using Wg hot
  refine wpAny_stack_any λsk=>S6 ?_
  split
  ·rename_i c _ _ _ _ _;cases (c==Value.type "enumerate")<;>(wp_walk using Wg hot,Wk K1;exact⟨_,rfl,h⟩)
  ·wp_walk using Wg hot,Wk K1
   exact⟨_,rfl,h⟩
section
variable{P:Program}{w:World}{A:Around}{E:Value->Shared->Prop}{s:Shared}{e it l:Addr}{xs:Array Value}{st:Nat->Heap->Prop}
def Cd(k1:gF b s.heap l xs)
  (h:∀h',IsEnum h' (s.heap.objs.size+1) s.heap.objs.size 0 .none->rH b s.heap.objs.size l xs 0 h'->h'.objs.size=s.heap.objs.size+2->(∀c o,s.heap.get? c=some o->h'.get? c=some o)->Q (.ref (s.heap.objs.size+1)) { s with heap:=h' }) :
  wpAny (model P w) A (call (.type "enumerate") [.ref l]) Q E s:=by
 cases b with
 |false=>exact call_enumerate_list (show s.heap.IsList l xs from k1) λh' a1 a2 a3 a4=>h h' a1 ⟨a2,k1.keep λo q=>a4 _ _ q⟩ a3 a4
 |true=>
   refine WF F.called_enumerate (by decide) (F.typeCall_enumerate_1 _) (F.newCall_enumerate_1 _) (λobj=>F.args_object_init_2 obj _) F.entry_enumerate_new (zx l xs) ⟨k1,?_⟩
   have z1:(rE s.heap "tuple_iterator" l).objs.size=s.heap.objs.size+1:=Ug ..
   have up:∀c o,s.heap.get? c=some o->((rE s.heap "tuple_iterator" l).push { cls:=.type "enumerate",data:=.fields #[.none,.bool false,.ref s.heap.objs.size,rawInt 0,.none,.none] }).get? c=some o:=λc o q=>SX _ (SX _ q)
   have q2:((rE s.heap "tuple_iterator" l).push { cls:=.type "enumerate",data:=.fields #[.none,.bool false,.ref s.heap.objs.size,rawInt 0,.none,.none] }).get? (rE s.heap "tuple_iterator" l).objs.size=some _:=Tr _ rfl;have q1:((rE s.heap "tuple_iterator" l).push { cls:=.type "enumerate",data:=.fields #[.none,.bool false,.ref s.heap.objs.size,rawInt 0,.none,.none] }).get? s.heap.objs.size=some _:=SX _ (Tr _ rfl);show _/\_;rw[z1]at q2 ⊢
   exact⟨⟨_,q2,rfl⟩,h _ q2 ⟨⟨_,q1,rfl,rfl⟩,k1.keep λo q=>up _ _ q⟩ (by rw[Ug,z1]) up⟩
def Cq{i:Nat}{Q:Value->Shared->Prop}(S:SubIt P w it l xs st)(ne:e≠it)(nl:l≠e)(he:IsEnum s.heap e it i old)(h0:st i s.heap)(hx:xs[i]?=some x)
  (hQ:∀h',IsEnumOut h' e it ((i:Int)+1) x s.heap.objs.size->st (i+1) h'->IsPair h' s.heap.objs.size (.int i s.toks) x->h'.objs.size=s.heap.objs.size+1->
    (∀c o,c≠e->c≠it->s.heap.get? c=some o->h'.get? c=some o)->Q (.ref s.heap.objs.size) { s with heap:=h',toks:=s.toks+1 }) :
  wpAny (model P w) A (Builtin.«enumerate.__next__» ⟨[.ref e],[]⟩) (λfin s'=>∃v,fin=.done (.ret v)/\Q v s') E s:=by
 obtain⟨hp,gn,dr,tk,os⟩:=s;show wpAny _ _ (field (.ref e) 2>>=λz=>_) _ _ _
 refine SQ (Uc he rfl (x:=.ref it) rfl (show _ from ?_))
 refine SQ (S.item _ i _ x _ _ h0 hx λg1 n1 e1=>(show _ from ?_))
 replace e1:Heap.SameBut it hp g1:=e1;have c1:IsEnum g1 e it i old:=e1.extBut _ _ ne he;show wpAny _ _ (field (.ref e) 3>>=λz=>_) _ _ ⟨g1,gn,dr,tk,os⟩
 refine SQ (Uc c1 rfl (x:=rawInt i) rfl (show _ from ?_))
 show wpAny _ _ (field (.ref e) 4>>=λz=>_) _ _ ⟨g1,gn,dr,tk,os⟩
 refine SQ (Uc c1 rfl (x:=.none) rfl (show _ from ?_))
 show wpAny _ _ (mkInt i>>=λz=>_) _ _ ⟨g1,gn,dr,tk,os⟩
 refine SQ (wpAny_mkInt (show _ from ?_))
 show wpAny _ _ (setField (.ref e) 3 (rawInt ((i:Int)+1))>>=λz=>_) _ _ ⟨g1,gn,dr,tk+1,os⟩
 refine SQ (wpAny_setField_rec c1 (by simp) λg2 c2 e2=>?_)
 replace e2:Heap.SameBut e g1 g2:=e2;replace c2:IsEnum g2 e it ((i:Int)+1) old:=c2;show wpAny _ _ (setField (.ref e) 4 .none>>=λz=>_) _ _ ⟨g2,gn,dr,tk+1,os⟩
 refine SQ (wpAny_setField_rec c2 (by simp) λg3 c3 e3=>?_)
 replace e3:Heap.SameBut e g2 g3:=e3;replace c3:IsEnum g3 e it ((i:Int)+1) old:=c3;show wpAny _ _ (newTuple [.int i tk,x]>>=λz=>_) _ _ ⟨g3,gn,dr,tk+1,os⟩
 refine SQ (wpAny_newTuple (show _ from ?_))
 have c4:IsEnum (g3.push { cls:=.type "tuple",data:=.seq #[.int i tk,x] }) e it ((i:Int)+1) old:=SX _ c3;have sz:g3.objs.size=hp.objs.size:=by rw[e3.1,e2.1,e1.1]
 have el:e<hp.objs.size:=S8 he;have t4:IsPair (g3.push { cls:=.type "tuple",data:=.seq #[.int i tk,x] }) hp.objs.size (.int i tk) x:=by rw[<-sz];exact Tr _ rfl
 have z4:(g3.push { cls:=.type "tuple",data:=.seq #[.int i tk,x] }).objs.size=hp.objs.size+1:=by rw[Ug,sz]
 have k4:∀c o,c≠e->c≠it->hp.get? c=some o->(g3.push { cls:=.type "tuple",data:=.seq #[.int i tk,x] }).get? c=some o:=λc o a1 a2 q=>SX _ (e3.extBut _ _ a1 (e2.extBut _ _ a1 (e1.extBut _ _ a2 q)))
 have n4:st (i+1) (g3.push { cls:=.type "tuple",data:=.seq #[.int i tk,x] }):=S.keep _ _ _ n1 (λo q=>SX _ (e3.extBut _ _ ne.symm (e2.extBut _ _ ne.symm q))) λo q=>SX _ (e3.extBut _ _ nl (e2.extBut _ _ nl q))
 revert c4 t4 z4 k4 n4;generalize g3.push { cls:=.type "tuple",data:=.seq #[.int i tk,x] }=g4;intro c4 t4 z4 k4 n4;show wpAny _ _ (Builtin.SmallTypes.ownedTupleIsFree (.ref e)>>=λz=>_) _ _ ⟨g4,gn,dr,tk+1,os⟩
 rw[sz];refine SQ ?_;unfold Builtin.SmallTypes.ownedTupleIsFree;refine SQ (Uc c4 rfl (x:=.none) rfl (S6 (show _ from ?_)))
 simp only[if_true];refine SQ (V4 (show _ from ?_))
 refine SQ (Uc c4 rfl (x:=old) rfl (show _ from ?_))
 refine SQ (wpAny_setField_rec c4 (by simp) λg5 c5 e5=>?_)
 replace e5:Heap.SameBut e g4 g5:=e5;replace c5:IsEnum g5 e it ((i:Int)+1) x:=c5;show wpAny _ _ (Builtin.SmallTypes.ownedTupleHandOut (.ref e) (.ref hp.objs.size)>>=λz=>_) _ _ ⟨g5,gn,dr,tk+1,os⟩
 refine SQ ?_;unfold Builtin.SmallTypes.ownedTupleHandOut;refine SQ (wpAny_setField_rec c5 (by simp) λg6 c6 e6=>?_)
 replace e6:Heap.SameBut e g5 g6:=e6;replace c6:IsEnumOut g6 e it ((i:Int)+1) x hp.objs.size:=c6;refine wpAny_setField_rec c6 (by simp) λg7 c7 e7=>?_
 replace e7:Heap.SameBut e g6 g7:=e7;replace c7:IsEnumOut g7 e it ((i:Int)+1) x hp.objs.size:=c7;have up:∀c o,c≠e->g4.get? c=some o->g7.get? c=some o:=λc o a1 q=>e7.extBut _ _ a1 (e6.extBut _ _ a1 (e5.extBut _ _ a1 q))
 refine SQ (wpAny_letGo (S6 ⟨_,rfl,hQ g7 c7 ?_ (up _ _ (Wf el) t4) (by rw[e7.1,e6.1,e5.1,z4]) λc o a1 a2 q=>up _ _ a1 (k4 _ _ a1 a2 q)⟩))
 exact S.keep _ _ _ n4 (λo q=>up _ _ ne.symm q) λo q=>up _ _ nl q
def zP{i:Nat}{Q:Option Value->Shared->Prop}(S:SubIt P w it l xs st)(ne:e≠it)(nl:l≠e)(he:IsEnum s.heap e it i old)(h0:st i s.heap)(hx:xs[i]?=some x)
  (hQ:∀h',IsEnumOut h' e it ((i:Int)+1) x s.heap.objs.size->st (i+1) h'->IsPair h' s.heap.objs.size (.int i s.toks) x->h'.objs.size=s.heap.objs.size+1->
    (∀c o,c≠e->c≠it->s.heap.get? c=some o->h'.get? c=some o)->Q (some (.ref s.heap.objs.size)) { s with heap:=h',toks:=s.toks+1 }):wpAny (model P w) A (pyNext (.ref e)) Q E s:=by
 have T:s.TypeIs (.ref e) "enumerate":=⟨_,he,rfl⟩;unfold pyNext;exact SQ (WQ (UG (name:=Str.ofString "__next__") T VP (Vd VP T F.entry_enumerate_next (Cq S ne nl he h0 hx λh' a b c d k=>S6 (hQ h' a b c d k)) (F.args_enumerate_next_1 _))))
def zO{i:Nat}{Q:Option Value->Shared->Prop}(hh:A.handled=none)(S:SubIt P w it l xs st)(he:IsEnum s.heap e it i old)(h0:st i s.heap)(hx:xs[i]?=none)
  (hQ:∀h',Heap.ExtBut it s.heap h'->Q none { s with heap:=h' }):wpAny (model P w) A (pyNext (.ref e)) Q E s:=by
 have T:s.TypeIs (.ref e) "enumerate":=⟨_,he,rfl⟩;unfold pyNext;refine SQ (WQ (UG (name:=Str.ofString "__next__") T VP (Vd VP T F.entry_enumerate_next (show _ from ?_) (F.args_enumerate_next_1 _))))
 show wpAny _ _ (field (.ref e) 2>>=λz=>_) _ _ _
 refine SQ (Uc he rfl (x:=.ref it) rfl (show _ from ?_))
 refine SQ (S.done _ i _ _ _ (show A.in1.handled=none from hh) h0 hx λh' y e1 hy=>?_)
 obtain⟨o,ho,hc⟩:=hy;exact SQ (W3 (T := "StopIteration") (b:=true) ⟨o,ho,hc⟩ isSubtype_stop (S6 (hQ _ e1)))
end
def Qx(K:PySem.W.Frag)(b:Bool)(l:Addr):It:=
 ⟨fun i H=>∃xs x,m6 b K H l xs∧xs[i]?=some x,
  λi H v H'=>∃p,H p=none/\v=.ref p/\∀xs,m6 b K H l xs->∃x,xs[i]?=some x/\H'=upd H p (.tup [.int (i:Int),x]),
  λi H=>∃xs,m6 b K H l xs/\xs[i]?=none⟩
def GD{P:Program}{w:World}{K:PySem.W.Frag}{elts:List Expr}{x1}{tp:Pos}{b:Bool}{e it l:Addr}(ne:e≠it)(nl:l≠e)(ni:l≠it):
  Turn P w K (.Tuple elts x1 tp) (Qx K b l) [e,it] e (λi h=>(∃old,IsEnum h e it i old)/\fG b it l i h) where
 mem:=by simp
 obj:=λi h st c hc=>by
  obtain⟨⟨old,he⟩,h1⟩:=st;simp only[List.mem_cons,List.mem_nil_iff,or_false]at hc;rcases hc with rfl | rfl
  ·exact⟨_,he,λv q=>by cases q⟩
  ·exact h1.obj
 keep:=λi h h' st k=>by obtain⟨⟨old,he⟩,h1⟩:=st;exact⟨⟨old,k e (by simp) _ he⟩,h1.keep λo q=>k it (by simp) o q⟩
 item:=by
  intro X hP hw hK hc i Xe s σ H E I hf st hg;subst hP hw hK;obtain⟨⟨old,he⟩,h1⟩:=st;obtain⟨xs,x,s1,hx⟩:=hg;obtain⟨its1,r1,q1,_⟩:=I.seqS s1;obtain⟨u1,e1,ru1⟩:=r1.get hx;refine zP (kW b ni its1.toArray) ne nl he ⟨h1,q1⟩ (by simpa using e1) λh' a1 a2 a3 a4 a5=>⟨_,rfl,wpAny_letOwnedTupleGo_enum a1 λh2' he' hs'=>?_⟩
  have lt:e<s.heap.objs.size:=S8 he;have kk:∀c o,c∉[e,it]->s.heap.get? c=some o->h2'.get? c=some o:=λc o hb q=>hs'.extBut _ _ (λz=>hb (by simp[z])) (a5 c o (λz=>hb (by simp[z])) (λz=>hb (by simp[z])) q)
  have fresh:H s.heap.objs.size=none:=I.hok.fresh (Td _);have pr:IsPair h2' s.heap.objs.size (.int i s.toks) u1:=hs'.extBut _ _ (Wf lt) a3;have nw:ObjOk X.prog X.w (upd H s.heap.objs.size (.tup [.int (i:Int),x])) h2' s.heap.objs.size (.tup [.int (i:Int),x]):=⟨by show 2<=sizeLine;decide,[.int i s.toks,u1],.cons ⟨_,rfl⟩ (.cons ru1 .nil),⟨_,pr,rfl,_,rfl⟩⟩
  have nfp:∀c∈[e,it],c≠s.heap.objs.size:=λc hc z=>by
   obtain⟨o,ho⟩:∃o,s.heap.get? c=some o:=by
    simp only[List.mem_cons,List.mem_nil_iff,or_false]at hc;rcases hc with rfl | rfl
    ·exact⟨_,he⟩
    ·obtain⟨o,q,_⟩:=h1.obj;exact⟨o,q⟩
   exact absurd (S8 ho) (by rw[z];exact Va _)
  refine⟨.ref s.heap.objs.size,upd H s.heap.objs.size (.tup [.int (i:Int),x]),?_,rfl,⟨_,fresh,rfl,λxs' q1'=>⟨x,by rw[I.seqS_inj q1' s1];exact hx,rfl⟩⟩,⟨⟨_,he'⟩,(show fG b it l (i+1) h' from a2.1).keep λo q=>hs'.extBut _ _ ne.symm q⟩,λc hc=>by rw[upd_ne (nfp c hc)];exact (hf c hc).1⟩
  exact I.turnedLay (t':=s.toks+1) kk hf (Td _) nw
 done:=by
  intro X hP hw hK hc i Xe s σ H E I hf st hg;subst hP hw hK;obtain⟨⟨old,he⟩,h1⟩:=st;obtain⟨xs,s1,hend⟩:=hg;obtain⟨its1,r1,q1,_⟩:=I.seqS s1;refine zO (I.ok.hd hc) (kW b ni its1.toArray) he ⟨h1,q1⟩ (by simpa using r1.none_of hend) λh' e1=>?_
  exact⟨rfl,I.turnedL (t':=s.toks) (λc o hb q=>e1 _ _ (λz=>hb (by simp[z])) q) hf (λc hc=>(hf c hc).2.1)⟩
 self:=λy y y y y st h=>by obtain⟨⟨old,he⟩,_⟩:=st;exact wpAny_pyIter_enum he h
def Ca:bootBuiltins "list"=some (.type "list"):=by decide +kernel
theorem xH:∀ (vs:List Value) (k:Nat),(∀ (j:Nat) v,vs[j]?=some v->∃ t,v=.int ((k + j:Nat):Int) t)->Vals ((List.range' k vs.length).map λi:Nat=>V.int (i:Int)) vs
 |[],k,_=>.nil
 | v::vs,k,h=>by
   have h0:=h 0 v rfl;have ih:=xH vs (k+1) λj u e=>by
    have:=h (j+1) u (by simpa using e)
    rw[show k+1+j=k+(j+1) by lia];exact this
   rw[Ve,List.range'_succ,Us];exact .cons h0 ih
section
variable{X:Cx}
def Qq(ta:TA):TE:=λσ H Q=>ta σ H λvs H1=>∃j:Int,vs=[.int j]/\j<=2^20/\-(2^62)<=j/\∀l,H1 l=none->Q (.ref l) (upd H1 l (.lst ((List.range j.toNat).map λi:Nat=>V.int (i:Int))))
def Ga(hc:X.calm=true)(hgL:Gl X "list")(hmL:X.mg "list"=none)(hg:Gl X "range")(hm:X.mg "range"=none)(ha:PA X [a] ta)(hs:notStar a=true:=by rfl):
  PE X (.Call (.Name "list" p1) [.Call (.Name "range" p2) [a] [] pos2] [] pos1) (Qq ta):=by
 intro Xe s σ H Q I h;have hst:starEach [Expr.Call (.Name "range" p2) [a] [] pos2] X.env=(false,eval (.Call (.Name "range" p2) [a] [] pos2) X.env)::starEach [] X.env:=bU rfl;refine Call_ (ld_blt I hgL hmL Ca (Uz ?_ hst rfl));rw[hst];show wpAny _ _ (spliced ((false,eval (.Call (.Name "range" p2) [a] [] pos2) X.env)::[])) _ _ s;refine Calls.spliced_cons ?_;refine Call_ (ld_blt I hg hm boot_range (Uz (thn (ha pos2 Xe s σ H _ I h) λus s1 ⟨vs,H1,I1,r1,q1⟩=>?_) (bU hs) rfl))
 obtain⟨j,e,q1,q2,q⟩:=q1;subst e;cases r1 with
 | cons r rr=>
   cases rr;obtain⟨t,rfl⟩:=r;refine call_range_1 ?_;refine Calls.spliced_nil ?_;have rs:Builtin.Range.rangeSize 0 j 1=((j.toNat:Nat):Int):=by rw[rangeSize_one];split<;>lia
   refine call_list_range (n:=j.toNat) (I1.ok.hd hc) (IsRange.new ..) (small_one (by lia) (by lia) q2 (by lia)) rs (by lia) λh' tk acc c k1 k2 k3=>?_
   have vl:Vals ((List.range j.toNat).map λi:Nat=>V.int (i:Int)) acc.toList:=by
    have:=xH acc.toList 0 λi v e=>by
     obtain⟨t,rfl⟩:=k3.2 i v (by simpa using e)
     exact⟨t,by congr 1;lia⟩
    rw[List.range_eq_range'];rw[show acc.toList.length=j.toNat by simpa using k3.1]at this
    exact this
   refine⟨.ref _,upd H1 _ (.lst ((List.range j.toNat).map λi:Nat=>V.int (i:Int))),?_,rfl,q _ (I1.hok.fresh ?_)⟩
   ·refine I1.turnedLay (ch:=[]) (t':=tk) (λb o z e=>k1 b o (SX _ e)) (λb hb=>nomatch hb) ?_ ⟨?_,acc.toList,c,vl,k2⟩
    ·rw[Ug];lia
    ·rw[Te,Uy];show _<=2^24;lia
   ·rw[Ug];lia
end
end L2
namespace L2
open PySem PySem.Spec PyProof.Rows
open PySem.AutoSeq1 (wpAny_loadPart')
open PySem PySem.Spec PyProof.Rows
end L2
namespace L2
open PySem PySem.Spec PyProof.Rows
end L2
namespace LS
open PySem
end LS
namespace LS
open PySem PySem.Spec PyProof.Rows
end LS
namespace L2
open PySem PySem.Spec PyProof.Rows LS
end L2
namespace LS
open PySem PySem.Spec PyProof.Rows
end LS
namespace L2
open PySem PySem.Spec PyProof.Rows LS
end L2
namespace L2
open PySem PySem.Spec PyProof.Rows
section
variable{X:Cx}{CX:CXT}{k:Nat}{f C:Addr}{fd:FuncData}{ps:List Str}{sp:Sp}{E:XK}
def Ce(D:MethC X.prog X.w X.K X.mg X.base j C "__repr__" ps sp)(hu:X.A.units+64<cLine)(hr:Room (j+1) X.A)(hx:Passes (bJ X.prog X.w) X E):
  CallR X (.builtin "repr") (λvs H Q=>∃x dx fs,vs=[.ref x]/\H x=some (.ins C dx fs)/\sp [.ref x] H (λv H2=>∃n:Str,v=.str n/\Q (.str n) H2) E):=by
 intro Xe s σ H vs us Q I r h;obtain⟨x,dx,fs,rfl,hx',q⟩:=h;obtain⟨f,fd,F,b,kp,a,n⟩:=D.ex;obtain⟨u,rfl,ru⟩:=vals1 r;cases ru;obtain⟨mA,O,_⟩:=ins_get I.hok hx';obtain⟨od,IA,_⟩:=O.look;refine WW PySem.F.kind_repr PySem.F.plain_repr PySem.F.entry_repr (PySem.F.args_repr1 _) ?_;unfold Builtin.«repr»
 refine SQ (m:=oneArg "repr" _) (S6 ?_);refine SQ (Uw (by show X.A.units+1<cLine;lia) ?_)
 refine SQ (SQ (IA.type.here ((Vi I.kIn a).here ?_)));show wpAny _ _ (if (some (Value.ref f)).isNone=true then _ else _) _ _ _
 rw[Tq (by simp)]
 refine SQ (m:=callSpecialIfBound? (.ref x) (Str.ofString "__repr__") _) (U7 I.kIn IA a n (Tp (n8 (vs:=[.ref x]) F hr.in1 b hx I (.cons rfl .nil) q) (λw' s' hw=>?_) λz z y=>y))
 obtain⟨v,H2,I2,rv,m,rfl,qq⟩:=hw;obtain⟨t,rfl⟩:=rv;refine SQ (W3 (typeIs_str _ _ _) isSubtype_str_str ?_)
 first
  |exact S6 ⟨_,rfl,.str m,H2,I2,⟨_,rfl⟩,qq⟩
  |(rw[S7 rfl];exact S6 ⟨_,rfl,.str m,H2,I2,⟨_,rfl⟩,qq⟩)
def TyOf.looks(I:Inv X Xe σ H s)(rx:RelV x u)(ty:TyOf X.K H x (.type T)):PySem.W.Looks (model X.prog X.w) s.heap (typeOf u) (.type T):=by
 cases ty with
 |non=>cases (show u=Value.none from rx);exact PySem.W.kitx_none.ty _ _ I.kIn True.intro
 |bl y=>cases (show u=Value.bool y from rx);exact PySem.W.kitx_bool.ty _ _ I.kIn True.intro
 |int i=>obtain⟨t,q⟩:=(show ∃t,u=Value.int i t from rx);cases q;exact PySem.W.kitx_int.ty _ _ I.kIn True.intro
 |str y=>obtain⟨t,q⟩:=(show ∃t,u=Value.str y t from rx);cases q;exact PySem.W.kitx_str.ty _ _ I.kIn True.intro
 |flt y=>obtain⟨t,q⟩:=(show ∃t,u=Value.float y t from rx);cases q;exact PySem.W.kitx_float.ty _ _ I.kIn True.intro
 | @lst a xs ea=>
   cases (show u=Value.ref a from rx)
   obtain⟨_,_,n,_,h1⟩:=(show ObjOk X.prog X.w H s.heap a (.lst xs) from I.hok a _ ea)
   exact PySem.W.kitx_list.ty _ _ I.kIn ⟨_,h1,rfl⟩
 | @frz a ob xs ea=>
   cases (show u=Value.ref a from rx)
   obtain⟨_,_,_,n,_,h1⟩:=(show ObjOk X.prog X.w H s.heap a (.frz ob (.lst xs)) from I.hok a _ ea)
   exact PySem.W.kitx_list.ty _ _ I.kIn ⟨_,h1,rfl⟩
 | @tup a xs ea=>
   cases (show u=Value.ref a from rx)
   obtain⟨_,_,_,p⟩:=(show ObjOk X.prog X.w H s.heap a (.tup xs) from I.hok a _ ea)
   obtain⟨o,h1,h2,_⟩:=p;exact PySem.W.kitx_tuple.ty _ _ I.kIn ⟨o,h1,h2⟩
 | @dK a kvs ea=>
   cases (show u=Value.ref a from rx)
   obtain⟨_,_,vs,_,p⟩:=(show ObjOk X.prog X.w H s.heap a (.dK kvs) from I.hok a _ ea)
   obtain⟨o,es,ep,h1,h2,_⟩:=p;exact PySem.W.kitx_dict.ty _ _ I.kIn ⟨o,h1,h2.1⟩
 | @dT a kvs ea=>
   cases (show u=Value.ref a from rx)
   obtain⟨_,_,xs,_,o,es,ep,h1,h2,_⟩:=(show ObjOk X.prog X.w H s.heap a (.dT kvs) from I.hok a _ ea)
   exact PySem.W.kitx_dict.ty _ _ I.kIn ⟨o,h1,h2.1⟩
def vN(K:PySem.W.Frag)(H:Hp)(C:Addr)(y:V):Prop:=(∃b dx fs,y=.ref b/\H b=some (.ins C dx fs))\/∃T,TyOf K H y (.type T)/\PySem.W.subIn K (.type T) (.ref C)=some false
def vN.to(I:Inv X Xe σ H s)(ry:RelV y u)(h:vN X.K H C y):∃t,PySem.W.Looks (model X.prog X.w) s.heap (typeOf u) t/\(t=.ref C\/(t≠.ref C/\PySem.W.Looks (model X.prog X.w) s.heap (isSubtype t (.ref C)) false)):=by
 rcases h with ⟨b,dx,fs,rfl,hb⟩ | ⟨T,ty,sb⟩
 ·cases ry;obtain⟨mA,O,_⟩:=ins_get I.hok hb;obtain⟨od,IA,_⟩:=O.look;exact⟨_,IA.type,.inl rfl⟩
 ·exact⟨_,ty.looks I ry,.inr ⟨(λz=>by cases z),UW I.kIn sb⟩⟩
def Fx(D:MethC X.prog X.w X.K X.mg X.base j C "__eq__" ps sp)(hu:X.A.units+64<cLine)(hr:Room j X.A)(hx:Passes (bJ X.prog X.w) X E):
  OpR X (compareOp .Eq) (λx y H Q=>∃a dx fs,x=.ref a/\H a=some (.ins C dx fs)/\vN X.K H C y/\sp [.ref a,y] H (λv H2=>∃b:Bool,v=.bl b/\Q (.bl b) H2) E):=by
 intro Xe s σ H x y v u Q I rx ry h;obtain⟨a,dx,fs,rfl,hx',rg,q⟩:=h;obtain⟨f,fd,F,b,kp,fi,n⟩:=D.ex;cases rx;obtain⟨mA,O,_⟩:=ins_get I.hok hx';obtain⟨od,IA,_⟩:=O.look;obtain⟨t,lt,ht⟩:=rg.to I ry;show wpAny _ _ (richCompare .Eq (.ref a) u) _ _ _;unfold richCompare;simp only[oneThing_ref];refine Ub ?_;refine SQ (Uw (by lia) ?_)
 rw[Wz];dsimp only;refine SQ (IA.type.here ?_);refine SQ (lt.here ?_);have fin:wpAny (model X.prog X.w) X.A (tryCompare (.ref a) "__eq__" u) (λo s'=>∃v,o=some v/\EP X Xe σ Q v s') X.xe s:=by
  unfold tryCompare;refine SQ (U7 I.kIn IA fi n (Tp (run_fn (vs:=[.ref a,y]) (dvs:=[]) (ds:=[]) F hr b .nil hx I (.cons rfl (.cons ry .nil)) q) (λw' s' hw=>?_) λz z y=>y))
  obtain⟨v,H2,I2,rv,m,rfl,qq⟩:=hw;cases (show w'=Value.bool m from rv)
  exact S6 ⟨_,rfl,.bl m,H2,I2,rfl,qq⟩
 rcases ht with rfl | ⟨ne,sb⟩
 ·rw[show (Value.ref C != Value.ref C)=false from by simp]
  simp only[Bool.false_eq_true,if_false];refine SQ (S6 ?_);simp only[Bool.false_eq_true,if_false];refine SQ (Tp fin (λo s' ho=>?_) λz z e=>e)
  obtain⟨v,rfl,hv⟩:=ho;exact S6 hv
 ·rw[show (Value.ref C != t)=true from by simpa using Ne.symm ne]
  simp only[if_true];refine SQ (sb.here ?_);simp only[Bool.false_eq_true,if_false];refine SQ (Tp fin (λo s' ho=>?_) λz z e=>e)
  obtain⟨v,rfl,hv⟩:=ho;exact S6 hv
def qw{M:Model}{A:Around}{E:Value->Shared->Prop}{s:Shared}{K:PySem.W.Frag}{x C:Addr}{ox:Obj}{od:Option Obj}{name:Str}{id:String}{args:List Value}{Q:Option Value->Shared->Prop}(Xk:K.In s.heap)(I:PySem.W.InstAt s.heap x ox C od)(hs:PySem.W.findIn K (.ref C) name=some (some (.builtin id)))
  (hb:∀self,bindSpecial (.builtin id) self=pure (.builtin id,[self])) (h:wpAny M A (call (.builtin id) (.ref x::args)) (λv=>Q (some v)) E s):wpAny M A (callSpecialIfBound? (.ref x) name args) Q E s:=by
 simp only[callSpecialIfBound?,bindSpecialIfBound?];refine Ub (SQ (SQ (SQ (I.type.here ((Vi Xk hs).here ?_)))));refine SQ (wpAny_askSetting (wpAny_ite ?_));have fin:wpAny M A (call (.builtin id) ([.ref x]++args)>>=λv=>pure (some v)) Q E s:=SQ (Tp h (λv s' h'=>S6 h') λz z h'=>h')
 split
 ·exact SQ ((PySem.W.Looks.of_pure (hb _)).here (S6 (by exact fin)))
 ·exact wpAny_tryCatch (SQ ((PySem.W.Looks.of_pure (hb _)).here (S6 (by exact fin))))
def FQ(D:MethC X.prog X.w X.K X.mg X.base j C "__eq__" ps sp)(hne:PySem.W.findIn X.K (.ref C) "__ne__"=some (some (.builtin "object.__ne__")))(hm:PySem.W.mroIn X.K C (.type "object")=some true)(hu:X.A.units+64<cLine)(hr:Room (j+1) X.A)(hx:Passes (bJ X.prog X.w) X E):
  OpR X (compareOp .NotEq) (λx y H Q=>∃a dx fs,x=.ref a/\H a=some (.ins C dx fs)/\vN X.K H C y/\sp [.ref a,y] H (λv H2=>∃b:Bool,v=.bl b/\Q (.bl (!b)) H2) E):=by
 intro Xe s σ H x y v u Q I rx ry h;obtain⟨a,dx,fs,rfl,hx',rg,q⟩:=h;obtain⟨f,fd,F,b,kp,fi,n⟩:=D.ex;cases rx;obtain⟨mA,O,_⟩:=ins_get I.hok hx';obtain⟨od,IA,_⟩:=O.look;obtain⟨t,lt,ht⟩:=rg.to I ry;show wpAny _ _ (richCompare .NotEq (.ref a) u) _ _ _;unfold richCompare;simp only[oneThing_ref];refine Ub ?_;refine SQ (Uw (by lia) ?_)
 rw[cmpInfo_NotEq];dsimp only;refine SQ (IA.type.here ?_);refine SQ (lt.here ?_);have fin:wpAny (model X.prog X.w) X.A (tryCompare (.ref a) "__ne__" u) (λo s'=>∃v,o=some v/\EP X Xe σ Q v s') X.xe s:=by
  unfold tryCompare;refine SQ (qw I.kIn IA hne PySem.F.cmp_object.ne.bind (Vo (Vx PySem.F.cmp_object.ne.plain PySem.F.cmpEntry_ne (PySem.W.check_slot (i := "object.__ne__") (owner := "object") (n := "__ne__") PySem.F.cmpKind_ne PySem.F.cmpSplit_ne (IA.type.andThen (Wa I.kIn hm)) (PySem.F.cmpArgs_ne _ _) ?_))));unfold Builtin.«object.__ne__»
  refine SQ (m:=slotArgs "__ne__" 1 _) (S6 ?_);refine SQ (m:=cRoomFor _ _) (Uw (by show X.A.units+1<cLine;lia) ?_)
  refine SQ (m:=callSpecialIfBound? (.ref a) (Str.ofString "__eq__") _) (U7 I.kIn IA fi n (Tp (n8 (vs:=[.ref a,y]) F hr.in1 b hx I (.cons rfl (.cons ry .nil)) q) (λw' s' hw=>?_) λz z y=>y))
  obtain⟨v,H2,I2,rv,m,rfl,qq⟩:=hw;cases (show w'=Value.bool m from rv)
  refine SQ (m:=truthy (.bool m)) (Ua ?_);exact S6 (S6 ⟨_,rfl,.bl (!m),H2,I2,rfl,qq⟩)
 rcases ht with rfl | ⟨ne,sb⟩
 ·rw[show (Value.ref C != Value.ref C)=false from by simp]
  simp only[Bool.false_eq_true,if_false];refine SQ (S6 ?_);simp only[Bool.false_eq_true,if_false];refine SQ (Tp fin (λo s' ho=>?_) λz z e=>e)
  obtain⟨v,rfl,hv⟩:=ho;exact S6 hv
 ·rw[show (Value.ref C != t)=true from by simpa using Ne.symm ne]
  simp only[if_true];refine SQ (sb.here ?_);simp only[Bool.false_eq_true,if_false];refine SQ (Tp fin (λo s' ho=>?_) λz z e=>e)
  obtain⟨v,rfl,hv⟩:=ho;exact S6 hv
def Ea(hc:PySem.W.kitOne X.K (.ref C) (.ref C)=some true)(hn:PySem.W.findIn X.K (.ref C) "__class__"=some (some (.builtin "object.__class__")))(hs:PySem.W.specialIn X.K (.builtin "object.__class__") "__get__"=some (some (.builtin "getset_descriptor.__get__")))(htk:PySem.W.takesIn X.K (.builtin "object.__class__")=some true)
  (hm:PySem.W.mroIn X.K C (.type "object")=some true) (cl:Cls X.K C) :
  CallR X (.builtin "isinstance") (λxs H Q=>∃x,xs=[x,.ref C]/\((∃a dx fs,x=.ref a/\H a=some (.ins C dx fs)/\Q (.bl true) H)\/∃T,TyOf X.K H x (.type T)/\PySem.W.kitOne X.K (.type T) (.ref C)=some false/\Q (.bl false) H)):=by
 intro Xe s σ H xs us Q I r h;obtain⟨x,rfl,h⟩:=h;obtain⟨u,w',rfl,r1,r2⟩:=vals2 r;cases r2;rcases h with ⟨a,dx,fs,rfl,ha,q⟩ | ⟨T,ty,e,q⟩
 ·exact isinst_ok I r1 (.ins ha cl hn hs htk hm) hc λtk=>⟨.bl true,H,I.tok _,rfl,q⟩
 ·exact isinst_ok I r1 ty e λtk=>⟨.bl false,H,I.tok _,rfl,q⟩
end
end L2
namespace L2
open PySem PySem.Spec PyProof.Rows LS
end L2
namespace L2
open PySem PySem.Spec PyProof.Rows
section
variable{X:Cx}{CX:CXT}{k:Nat}{f C:Addr}{fd:FuncData}{ps:List Str}{sp:Sp}{E:XK}
def J9{B:Around}{Xe:List (Addr×Obj)}{σ:St}{H:Hp}{s:Shared}{Q:VK}{us:List Value}{vs:List V}(F:FnOk X.prog X.w X.K X.mg X.base CX k f fd ps sp)(hB:B.frames=some X.stack)(hr:Room k B)(hb:Binds X.K fd ps [])(hx:Passes CX X E)
  (I:Inv X Xe σ H s) (r:Vals vs us) (h:sp vs H Q E):wpAny (model X.prog X.w) B (call (.ref f) us) (EP X Xe σ Q) X.xe s:=by
 have hl:(us++[]).length=ps.length:=by rw[Ux,<-r.length];exact F.len _ _ _ _ h
 have hl':us.length=ps.length:=by rw[Ux]at hl;exact hl
 have bb:=hb s us I.kIn hl;rw[Ux]at bb;refine Vo (Vj (F.run B X.stack s H ⟨us,[]⟩ us vs Q E hr ⟨hB,I.ok.mod,I.bs,T7 I.ok.bsz I.sz,I.stack,I.stkFree,I.hok,I.bare⟩ bb r h) λr s' hq=>?_)
 cases r with
 |error e=>exact hx Xe σ H s e s' I hq
 |ok fl=>
   cases fl with
   |ret u=>exact I.after hq
   |next=>exact False.elim hq
   |brk=>exact False.elim hq
   |cont=>exact False.elim hq
end
def Aj{P:Program}{w:World}(a:Int)(t:Tok)(x C dx:Addr):MeetsIn P w (Builtin.«int.__eq__» ⟨[.int a t,.ref x],[]⟩)
  (λA R s=>s.heap.get? x=some (PySem.W.instObj C dx)/\R (.ok (.ret .notImplemented)) s):=λA R s h=>by
 obtain⟨hp,g,d,tk,os⟩:=s;obtain⟨h1,h⟩:=h;unfold Builtin.«int.__eq__»
 wp_walk using Ul h1
 all_goals first | exact⟨_,rfl,h⟩ | exact h | (trace_state;skip)
def Av{P:Program}{w:World}(a:Str)(t:Tok)(x C dx:Addr):MeetsIn P w (Builtin.«str.__eq__» ⟨[.str a t,.ref x],[]⟩)
  (λA R s=>s.heap.get? x=some (PySem.W.instObj C dx)/\R (.ok (.ret .notImplemented)) s):=λA R s h=>by
 obtain⟨hp,g,d,tk,os⟩:=s;obtain⟨h1,h⟩:=h;unfold Builtin.«str.__eq__»
 wp_walk using Ul h1
 all_goals first | exact⟨_,rfl,h⟩ | exact h | (trace_state;skip)
def zH{P:Program}{w:World}(x:Addr):MeetsIn P w (Builtin.«NoneType.__eq__» ⟨[.none,.ref x],[]⟩)
  (λA R s=>R (.ok (.ret .notImplemented)) s):=λA R s h=>by
 obtain⟨hp,g,d,tk,os⟩:=s;unfold Builtin.«NoneType.__eq__»
 wp_walk
 all_goals first | exact⟨_,rfl,h⟩ | exact h | (trace_state;skip)
def xN{P:Program}{w:World}(l x C dx:Addr):MeetsIn P w (Builtin.«tuple.__eq__» ⟨[.ref l,.ref x],[]⟩)
  (λA R s=>(∃o,s.heap.get? l=some o/\o.cls=.type "tuple")/\s.heap.get? x=some (PySem.W.instObj C dx)/\PySem.W.Looks (model P w) s.heap (isSubtype (.ref C) (.type "tuple")) false/\R (.ok (.ret .notImplemented)) s):=λA R s h=>by
 obtain⟨hp,g,d,tk,os⟩:=s;obtain⟨⟨o,hl,ho⟩,h1,f1,h⟩:=h;unfold Builtin.«tuple.__eq__»
 wp_walk using Ul hl
 try (refine f1.here ?_;wp_walk)
 all_goals first | exact⟨_,rfl,h⟩ | exact h | (trace_state;skip)
def zq{P:Program}{w:World}(l x C dx:Addr):MeetsIn P w (Builtin.«list.__eq__» ⟨[.ref l,.ref x],[]⟩)
  (λA R s=>(∃o,s.heap.get? l=some o/\o.cls=.type "list")/\s.heap.get? x=some (PySem.W.instObj C dx)/\PySem.W.Looks (model P w) s.heap (isSubtype (.ref C) (.type "list")) false/\R (.ok (.ret .notImplemented)) s):=λA R s h=>by
 obtain⟨hp,g,d,tk,os⟩:=s;obtain⟨⟨o,hl,ho⟩,h1,f1,h⟩:=h;unfold Builtin.«list.__eq__»
 wp_walk using Ul hl
 try (refine f1.here ?_;wp_walk)
 all_goals first | exact⟨_,rfl,h⟩ | exact h | (trace_state;skip)
def yN{P:Program}{w:World}(l x C dx:Addr):MeetsIn P w (Builtin.«dict.__eq__» ⟨[.ref l,.ref x],[]⟩)
  (λA R s=>(∃o,s.heap.get? l=some o/\o.cls=.type "dict")/\s.heap.get? x=some (PySem.W.instObj C dx)/\PySem.W.Looks (model P w) s.heap (isSubtype (.ref C) (.type "dict")) false/\R (.ok (.ret .notImplemented)) s):=λA R s h=>by
 obtain⟨hp,g,d,tk,os⟩:=s;obtain⟨⟨o,hl,ho⟩,h1,f1,h⟩:=h;unfold Builtin.«dict.__eq__»
 wp_walk using Ul hl
 try (refine f1.here ?_;wp_walk)
 all_goals first | exact⟨_,rfl,h⟩ | exact h | (trace_state;skip)
def Ak{P:Program}{w:World}(a:Int)(t:Tok)(x C dx:Addr):MeetsIn P w (Builtin.«int.__ne__» ⟨[.int a t,.ref x],[]⟩)
  (λA R s=>s.heap.get? x=some (PySem.W.instObj C dx)/\R (.ok (.ret .notImplemented)) s):=λA R s h=>by
 obtain⟨hp,g,d,tk,os⟩:=s;obtain⟨h1,h⟩:=h;unfold Builtin.«int.__ne__»
 wp_walk using Ul h1
 all_goals first | exact⟨_,rfl,h⟩ | exact h | (trace_state;skip)
def Aw{P:Program}{w:World}(a:Str)(t:Tok)(x C dx:Addr):MeetsIn P w (Builtin.«str.__ne__» ⟨[.str a t,.ref x],[]⟩)
  (λA R s=>s.heap.get? x=some (PySem.W.instObj C dx)/\R (.ok (.ret .notImplemented)) s):=λA R s h=>by
 obtain⟨hp,g,d,tk,os⟩:=s;obtain⟨h1,h⟩:=h;unfold Builtin.«str.__ne__»
 wp_walk using Ul h1
 all_goals first | exact⟨_,rfl,h⟩ | exact h | (trace_state;skip)
def zJ{P:Program}{w:World}(x:Addr):MeetsIn P w (Builtin.«NoneType.__ne__» ⟨[.none,.ref x],[]⟩)
  (λA R s=>R (.ok (.ret .notImplemented)) s):=λA R s h=>by
 obtain⟨hp,g,d,tk,os⟩:=s;unfold Builtin.«NoneType.__ne__»
 wp_walk
 all_goals first | exact⟨_,rfl,h⟩ | exact h | (trace_state;skip)
def xO{P:Program}{w:World}(l x C dx:Addr):MeetsIn P w (Builtin.«tuple.__ne__» ⟨[.ref l,.ref x],[]⟩)
  (λA R s=>(∃o,s.heap.get? l=some o/\o.cls=.type "tuple")/\s.heap.get? x=some (PySem.W.instObj C dx)/\PySem.W.Looks (model P w) s.heap (isSubtype (.ref C) (.type "tuple")) false/\R (.ok (.ret .notImplemented)) s):=λA R s h=>by
 obtain⟨hp,g,d,tk,os⟩:=s;obtain⟨⟨o,hl,ho⟩,h1,f1,h⟩:=h;unfold Builtin.«tuple.__ne__»
 wp_walk using Ul hl
 try (refine f1.here ?_;wp_walk)
 all_goals first | exact⟨_,rfl,h⟩ | exact h | (trace_state;skip)
def zr{P:Program}{w:World}(l x C dx:Addr):MeetsIn P w (Builtin.«list.__ne__» ⟨[.ref l,.ref x],[]⟩)
  (λA R s=>(∃o,s.heap.get? l=some o/\o.cls=.type "list")/\s.heap.get? x=some (PySem.W.instObj C dx)/\PySem.W.Looks (model P w) s.heap (isSubtype (.ref C) (.type "list")) false/\R (.ok (.ret .notImplemented)) s):=λA R s h=>by
 obtain⟨hp,g,d,tk,os⟩:=s;obtain⟨⟨o,hl,ho⟩,h1,f1,h⟩:=h;unfold Builtin.«list.__ne__»
 wp_walk using Ul hl
 try (refine f1.here ?_;wp_walk)
 all_goals first | exact⟨_,rfl,h⟩ | exact h | (trace_state;skip)
def yO{P:Program}{w:World}(l x C dx:Addr):MeetsIn P w (Builtin.«dict.__ne__» ⟨[.ref l,.ref x],[]⟩)
  (λA R s=>(∃o,s.heap.get? l=some o/\o.cls=.type "dict")/\s.heap.get? x=some (PySem.W.instObj C dx)/\PySem.W.Looks (model P w) s.heap (isSubtype (.ref C) (.type "dict")) false/\R (.ok (.ret .notImplemented)) s):=λA R s h=>by
 obtain⟨hp,g,d,tk,os⟩:=s;obtain⟨⟨o,hl,ho⟩,h1,f1,h⟩:=h;unfold Builtin.«dict.__ne__»
 wp_walk using Ul hl
 try (refine f1.here ?_;wp_walk)
 all_goals first | exact⟨_,rfl,h⟩ | exact h | (trace_state;skip)
def tK:List String:=["NoneType", "int", "str", "list", "tuple", "dict"]
def tU(K:PySem.W.Frag)(C:Addr):Prop:=∀T∈tK,PySem.W.subIn K (.ref C) (.type T)=some false
def tR(P:Program)(w:World)(s:Shared)(a:Addr)(u:Value)(T:String):Prop:=
 s.TypeIs u T/\(∃id,Slot T (cmpInfo .Eq).2.1 id/\∀(A:Around) (E Q:Value->Shared->Prop),Q .notImplemented s->wpAny (model P w) A (call (.builtin id) [u,.ref a]) Q E s) /\
  ∃id,Slot T (cmpInfo .NotEq).2.1 id/\∀(A:Around) (E Q:Value->Shared->Prop),Q .notImplemented s->wpAny (model P w) A (call (.builtin id) [u,.ref a]) Q E s
section
variable{X:Cx}{k:Nat}{C:Addr}{ps:List Str}{sp:Sp}{E:XK}
def yL{Xe:List (Addr×Obj)}{σ:St}{H:Hp}{s:Shared}{x:V}{v:Value}{T:String}{a dx:Addr}(I:Inv X Xe σ H s)(rx:RelV x v)(ty:TyOf X.K H x (.type T))(hT:T∈tK)(sn:tU X.K C)
  (ha:s.heap.get? a=some (PySem.W.instObj C dx)):tR X.prog X.w s a v T:=by
 have sb:∀T∈tK,PySem.W.Looks (model X.prog X.w) s.heap (isSubtype (.ref C) (.type T)) false:=λT h=>UW I.kIn (sn T h)
 have sq:∀(l:Addr) (o:Obj),s.heap.get? l=some o->o.cls=.type "list"->s.TypeIs (.ref l) "list"->tR X.prog X.w s a (.ref l) "list":=λl o h1 h2 ht=>
  ⟨ht,⟨_,PySem.F.slot_list_eq,fun A E Q h=>call_meetsIn PySem.F.slot_list_eq ht PySem.F.entry_list_eq (PySem.F.args_list_eq_2 _ _) (zq l a C dx) ⟨⟨o,h1,h2⟩,ha,sb _ (by decide),h⟩⟩,
   ⟨_,PySem.F.slot_list_ne,λA E Q h=>U9 PySem.F.slot_list_ne ht PySem.F.entry_list_ne (PySem.F.args_list_ne_2 _ _) (zr l a C dx) ⟨⟨o,h1,h2⟩,ha,sb _ (by decide),h⟩⟩⟩
 have sd:∀(l:Addr) (o:Obj),s.heap.get? l=some o->o.cls=.type "dict"->s.TypeIs (.ref l) "dict"->tR X.prog X.w s a (.ref l) "dict":=λl o h1 h2 ht=>
  ⟨ht,⟨_,PySem.F.slot_dict_eq,fun A E Q h=>call_meetsIn PySem.F.slot_dict_eq ht PySem.F.entry_dict_eq (PySem.F.args_dict_eq_2 _ _) (yN l a C dx) ⟨⟨o,h1,h2⟩,ha,sb _ (by decide),h⟩⟩,
   ⟨_,PySem.F.slot_dict_ne,λA E Q h=>U9 PySem.F.slot_dict_ne ht PySem.F.entry_dict_ne (PySem.F.args_dict_ne_2 _ _) (yO l a C dx) ⟨⟨o,h1,h2⟩,ha,sb _ (by decide),h⟩⟩⟩
 cases ty with
 | non=>
   cases (show v=Value.none from rx)
   exact⟨rfl,⟨_,PySem.F.slot_NoneType_eq,λA E Q h=>U9 PySem.F.slot_NoneType_eq rfl PySem.F.entry_NoneType_eq (PySem.F.args_NoneType_eq_2 _ _) (zH a) h⟩,
    ⟨_,PySem.F.slot_NoneType_ne,λA E Q h=>U9 PySem.F.slot_NoneType_ne rfl PySem.F.entry_NoneType_ne (PySem.F.args_NoneType_ne_2 _ _) (zJ a) h⟩⟩
 |bl y=>exact absurd hT (by decide)
 |flt y=>exact absurd hT (by decide)
 | int i=>
   obtain⟨t,q⟩:=(show ∃t,v=Value.int i t from rx);cases q
   exact⟨rfl,⟨_,PySem.F.slot_int_eq,λA E Q h=>U9 PySem.F.slot_int_eq rfl PySem.F.entry_int_eq (PySem.F.args_int_eq_2 _ _) (Aj i t a C dx) ⟨ha,h⟩⟩,
    ⟨_,PySem.F.slot_int_ne,λA E Q h=>U9 PySem.F.slot_int_ne rfl PySem.F.entry_int_ne (PySem.F.args_int_ne_2 _ _) (Ak i t a C dx) ⟨ha,h⟩⟩⟩
 | str y=>
   obtain⟨t,q⟩:=(show ∃t,v=Value.str y t from rx);cases q
   exact⟨rfl,⟨_,PySem.F.slot_str_eq,λA E Q h=>U9 PySem.F.slot_str_eq rfl PySem.F.entry_str_eq (PySem.F.args_str_eq_2 _ _) (Av y t a C dx) ⟨ha,h⟩⟩,
    ⟨_,PySem.F.slot_str_ne,λA E Q h=>U9 PySem.F.slot_str_ne rfl PySem.F.entry_str_ne (PySem.F.args_str_ne_2 _ _) (Aw y t a C dx) ⟨ha,h⟩⟩⟩
 | @lst l xs ea=>
   cases (show v=Value.ref l from rx)
   obtain⟨_,_,n,_,h1⟩:=(show ObjOk X.prog X.w H s.heap l (.lst xs) from I.hok l _ ea)
   exact sq l _ h1 rfl ⟨_,h1,rfl⟩
 | @frz l ob xs ea=>
   cases (show v=Value.ref l from rx)
   obtain⟨_,_,_,n,_,h1⟩:=(show ObjOk X.prog X.w H s.heap l (.frz ob (.lst xs)) from I.hok l _ ea)
   exact sq l _ h1 rfl ⟨_,h1,rfl⟩
 | @tup l xs ea=>
   cases (show v=Value.ref l from rx)
   obtain⟨_,_,_,p⟩:=(show ObjOk X.prog X.w H s.heap l (.tup xs) from I.hok l _ ea)
   obtain⟨o,h1,h2,_⟩:=p;have ht:s.TypeIs (.ref l) "tuple":=⟨o,h1,h2⟩;exact⟨ht,⟨_,PySem.F.slot_tuple_eq,λA E Q h=>U9 PySem.F.slot_tuple_eq ht PySem.F.entry_tuple_eq (PySem.F.args_tuple_eq_2 _ _) (xN l a C dx) ⟨⟨o,h1,h2⟩,ha,sb _ (by decide),h⟩⟩,
    ⟨_,PySem.F.slot_tuple_ne,λA E Q h=>U9 PySem.F.slot_tuple_ne ht PySem.F.entry_tuple_ne (PySem.F.args_tuple_ne_2 _ _) (xO l a C dx) ⟨⟨o,h1,h2⟩,ha,sb _ (by decide),h⟩⟩⟩
 | @dK l kvs ea=>
   cases (show v=Value.ref l from rx)
   obtain⟨_,_,vs,_,p⟩:=(show ObjOk X.prog X.w H s.heap l (.dK kvs) from I.hok l _ ea)
   obtain⟨o,es,ep,h1,h2,_⟩:=p;exact sd l o h1 h2.1 ⟨o,h1,h2.1⟩
 | @dT l kvs ea=>
   cases (show v=Value.ref l from rx)
   obtain⟨_,_,xs,_,o,es,ep,h1,h2,_⟩:=(show ObjOk X.prog X.w H s.heap l (.dT kvs) from I.hok l _ ea)
   exact sd l o h1 h2.1 ⟨o,h1,h2.1⟩
def Nr{j:Nat}(D:MethC X.prog X.w X.K X.mg X.base j C "__eq__" ps sp)(sn:tU X.K C)(hu:X.A.units+64<cLine)(hr:Room j X.A)(hx:Passes (bJ X.prog X.w) X E):
  OpR X (compareOp .Eq) (λx y H Q=>∃a dx fs T,y=.ref a/\H a=some (.ins C dx fs)/\TyOf X.K H x (.type T)/\T∈tK/\sp [.ref a,x] H (λv H2=>∃b:Bool,v=.bl b/\Q (.bl b) H2) E):=by
 intro Xe s σ H x y v u Q I rx ry h;obtain⟨a,dx,fs,T,rfl,hy,ty,hT,q⟩:=h;obtain⟨f,fd,F,b,kp,fi,n⟩:=D.ex;cases ry;obtain⟨mA,O,_⟩:=ins_get I.hok hy;obtain⟨od,IA,_⟩:=O.look;obtain⟨tv,⟨id,sl,dc⟩,_⟩:=yL I rx ty hT sn IA.at_;show wpAny _ _ (richCompare .Eq v (.ref a)) _ _ _;unfold richCompare;simp only[tv.oneThing_none];refine Ub ?_;refine SQ (Uw (by lia) ?_)
 rw[Wz]at sl ⊢
 dsimp only at sl ⊢
 refine SQ (Wi tv ?_);refine SQ (IA.type.here ?_);rw[show (Value.type T != Value.ref C)=true from by simp]
 simp only[if_true];refine SQ ((UW I.kIn (sn T hT)).here ?_);simp only[Bool.false_eq_true,if_false];refine SQ (m:=tryCompare v _ _) (We tv sl (dc _ _ _ ⟨rfl,?_⟩));simp only[Bool.not_false,if_true];have fin:wpAny (model X.prog X.w) X.A (tryCompare (.ref a) "__eq__" v) (λo s'=>∃v,o=some v/\EP X Xe σ Q v s') X.xe s:=by
  unfold tryCompare;refine SQ (U7 I.kIn IA fi n (Tp (run_fn (vs:=[.ref a,x]) (dvs:=[]) (ds:=[]) F hr b .nil hx I (.cons rfl (.cons rx .nil)) q) (λw' s' hw=>?_) λz z y=>y))
  obtain⟨v,H2,I2,rv,m,rfl,qq⟩:=hw;cases (show w'=Value.bool m from rv)
  exact S6 ⟨_,rfl,.bl m,H2,I2,rfl,qq⟩
 refine SQ (m:=tryCompare (.ref a) _ _) (Tp fin (λo s' ho=>?_) λz z e=>e)
 obtain⟨v,rfl,hv⟩:=ho;exact S6 hv
def Nx{j:Nat}(D:MethC X.prog X.w X.K X.mg X.base j C "__eq__" ps sp)(sn:tU X.K C)(hne:PySem.W.findIn X.K (.ref C) "__ne__"=some (some (.builtin "object.__ne__")))(hm:PySem.W.mroIn X.K C (.type "object")=some true)(hu:X.A.units+64<cLine)(hr:Room (j+1) X.A)(hx:Passes (bJ X.prog X.w) X E):
  OpR X (compareOp .NotEq) (λx y H Q=>∃a dx fs T,y=.ref a/\H a=some (.ins C dx fs)/\TyOf X.K H x (.type T)/\T∈tK/\sp [.ref a,x] H (λv H2=>∃b:Bool,v=.bl b/\Q (.bl (!b)) H2) E):=by
 intro Xe s σ H x y v u Q I rx ry h;obtain⟨a,dx,fs,T,rfl,hy,ty,hT,q⟩:=h;obtain⟨f,fd,F,b,kp,fi,n⟩:=D.ex;cases ry;obtain⟨mA,O,_⟩:=ins_get I.hok hy;obtain⟨od,IA,_⟩:=O.look;obtain⟨tv,_,⟨id,sl,dc⟩⟩:=yL I rx ty hT sn IA.at_;show wpAny _ _ (richCompare .NotEq v (.ref a)) _ _ _;unfold richCompare;simp only[tv.oneThing_none];refine Ub ?_;refine SQ (Uw (by lia) ?_)
 rw[cmpInfo_NotEq]at sl ⊢
 dsimp only at sl ⊢
 refine SQ (Wi tv ?_);refine SQ (IA.type.here ?_);rw[show (Value.type T != Value.ref C)=true from by simp]
 simp only[if_true];refine SQ ((UW I.kIn (sn T hT)).here ?_);simp only[Bool.false_eq_true,if_false];refine SQ (m:=tryCompare v _ _) (We tv sl (dc _ _ _ ⟨rfl,?_⟩));simp only[Bool.not_false,if_true];have fin:wpAny (model X.prog X.w) X.A (tryCompare (.ref a) "__ne__" v) (λo s'=>∃v,o=some v/\EP X Xe σ Q v s') X.xe s:=by
  unfold tryCompare;refine SQ (qw I.kIn IA hne PySem.F.cmp_object.ne.bind (Vo (Vx PySem.F.cmp_object.ne.plain PySem.F.cmpEntry_ne (PySem.W.check_slot (i := "object.__ne__") (owner := "object") (n := "__ne__") PySem.F.cmpKind_ne PySem.F.cmpSplit_ne (IA.type.andThen (Wa I.kIn hm)) (PySem.F.cmpArgs_ne _ _) ?_))));unfold Builtin.«object.__ne__»
  refine SQ (m:=slotArgs "__ne__" 1 _) (S6 ?_);refine SQ (m:=cRoomFor _ _) (Uw (by show X.A.units+1<cLine;lia) ?_)
  refine SQ (m:=callSpecialIfBound? (.ref a) (Str.ofString "__eq__") _) (U7 I.kIn IA fi n (Tp (n8 (vs:=[.ref a,x]) F hr.in1 b hx I (.cons rfl (.cons rx .nil)) q) (λw' s' hw=>?_) λz z y=>y))
  obtain⟨v,H2,I2,rv,m,rfl,qq⟩:=hw;cases (show w'=Value.bool m from rv)
  refine SQ (m:=truthy (.bool m)) (Ua ?_);exact S6 (S6 ⟨_,rfl,.bl (!m),H2,I2,rfl,qq⟩)
 refine SQ (m:=tryCompare (.ref a) _ _) (Tp fin (λo s' ho=>?_) λz z e=>e)
 obtain⟨v,rfl,hv⟩:=ho;exact S6 hv
def FJ{j:Nat}{C':Addr}(D:MethC X.prog X.w X.K X.mg X.base j C "__eq__" ps sp)(sb:PySem.W.subIn X.K (.ref C') (.ref C)=some false)(hC:C'≠C)(hu:X.A.units+64<cLine)(hr:Room j X.A)(hx:Passes (bJ X.prog X.w) X E):
  OpR X (compareOp .Eq) (λx y H Q=>∃a dx fs b dx' fs',x=.ref a/\H a=some (.ins C dx fs)/\y=.ref b/\H b=some (.ins C' dx' fs')/\sp [.ref a,y] H (λv H2=>∃b:Bool,v=.bl b/\Q (.bl b) H2) E):=by
 intro Xe s σ H x y v u Q I rx ry h;obtain⟨a,dx,fs,c,dx',fs',rfl,hx',rfl,hy',q⟩:=h;obtain⟨f,fd,F,b,kp,fi,n⟩:=D.ex;cases rx;cases ry;obtain⟨mA,O,_⟩:=ins_get I.hok hx';obtain⟨od,IA,_⟩:=O.look;obtain⟨mB,OB,_⟩:=ins_get I.hok hy';obtain⟨ob,IB,_⟩:=OB.look;show wpAny _ _ (richCompare .Eq (.ref a) (.ref c)) _ _ _;unfold richCompare;simp only[oneThing_ref];refine Ub ?_;refine SQ (Uw (by lia) ?_)
 rw[Wz];dsimp only;refine SQ (IA.type.here ?_);refine SQ (IB.type.here ?_);rw[show (Value.ref C != Value.ref C')=true from by simpa using Ne.symm hC]
 simp only[if_true];refine SQ ((UW I.kIn sb).here ?_);simp only[Bool.false_eq_true,if_false];have fin:wpAny (model X.prog X.w) X.A (tryCompare (.ref a) "__eq__" (.ref c)) (λo s'=>∃v,o=some v/\EP X Xe σ Q v s') X.xe s:=by
  unfold tryCompare;refine SQ (U7 I.kIn IA fi n (Tp (run_fn (vs:=[.ref a,.ref c]) (dvs:=[]) (ds:=[]) F hr b .nil hx I (.cons rfl (.cons rfl .nil)) q) (λw' s' hw=>?_) λz z y=>y))
  obtain⟨v,H2,I2,rv,m,rfl,qq⟩:=hw;cases (show w'=Value.bool m from rv)
  exact S6 ⟨_,rfl,.bl m,H2,I2,rfl,qq⟩
 refine SQ (Tp fin (λo s' ho=>?_) λz z e=>e)
 obtain⟨v,rfl,hv⟩:=ho;exact S6 hv
end
abbrev yD(s:Shared)(l:Addr)(ys:Array Value)(n:Nat):Prop:=s.heap.get? l=some { cls:=.type "list",dict:=none,data:=.seq ys n,slots:=#[] }
def Ej{P:Program}{w:World}(l:Addr)(x:Value):MeetsIn P w (Builtin.«list.__contains__» ⟨[.ref l,x],[]⟩)
  (λA R s=>∃ys n y1,yD s l ys n/\ys[Int.toNat 0]?=some y1/\wpAny (model P w) A.in1 (eqBool y1 x) (λb s1=>if b=true then R (.ok (.ret (.bool true))) s1 else
    ∃ys n y2,yD s1 l ys n/\ys[Int.toNat 1]?=some y2/\wpAny (model P w) A.in1 (eqBool y2 x) (λb s2=>(b=false->∃ys n,yD s2 l ys n/\ys[Int.toNat 2]?=none)/\R (.ok (.ret (.bool b))) s2) (λe s'=>R (.error e) s') s1) (λe s'=>R (.error e) s') s):=by
 have l2:∀(A:Around) (R:Result->Shared->Prop) (s:Shared),(∃ys n,yD s l ys n/\ys[Int.toNat 2]?=none)->R (.ok (.ret (.bool false))) s->wpAny (model P w) A.in1 (Builtin.«list.__contains__.loop» ⟨[.ref l,x,rawInt 2],[]⟩) (λfin s'=>match fin with | .done f=>R (.ok f) s' | .again c'=>c'.quiet=true/\codeAny (model P w) A c' R s') (λe s'=>R (.error e) s') s:=λA R s hl h=>by
  obtain⟨ys,n,hl,e2⟩:=hl;obtain⟨hp,g,d,tk,os⟩:=s
  wp_walk using Ul hl
  rw[e2]
  wp_walk
  exact h
 have l1:∀ (A:Around) (R:Result->Shared->Prop) (s:Shared),(∃ ys n y2,yD s l ys n/\ys[Int.toNat 1]?=some y2/\wpAny (model P w) A.in1 (eqBool y2 x) (λb s2=>(b=false->∃ ys n,yD s2 l ys n/\ys[Int.toNat 2]?=none)/\R (.ok (.ret (.bool b))) s2) (λe s'=>R (.error e) s') s)->wpAny (model P w) A.in1 (Builtin.«list.__contains__.loop» ⟨[.ref l,x,rawInt 1],[]⟩) (λfin s'=>match fin with | .done f=>R (.ok f) s' | .again c'=>c'.quiet=true/\codeAny (model P w) A c' R s') (λe s'=>R (.error e) s') s:=λA R s h=>by
  obtain⟨ys,n,y2,hl,e1,h⟩:=h;obtain⟨hp,g,d,tk,os⟩:=s
  wp_walk using Ul hl
  rw[e1];refine SQ (Tp h (λb s2 hb=>?_) λy y z=>z)
  obtain⟨h1,h2⟩:=hb;cases b with
  |true=>
    wp_walk
    exact h2
  | false=>
    wp_walk
    exact⟨W9 Up _,Wv Vw (by rw[Wy Up _];exact l2 A R _ (h1 rfl) h2)⟩
 intro A R s h;obtain⟨ys,n,y1,hl,e0,h⟩:=h;obtain⟨hp,g,d,tk,os⟩:=s
 wp_walk using Ul hl
 refine⟨W9 Up _,Wv Vw ?_⟩;rw[Wy Up _]
 wp_walk using Ul hl
 rw[e0];refine SQ (Tp h (λb s1 hb=>?_) λy y z=>z)
 cases b with
 |true=>
   wp_walk
   exact hb
 | false=>
   wp_walk
   exact⟨W9 Up _,Wv Vw (by rw[Wy Up _];exact l1 A R _ hb)⟩
section
variable{X:Cx}{k:Nat}{C:Addr}{ps:List Str}{sp:Sp}{E:XK}
def HR{j:Nat}(D:MethC X.prog X.w X.K X.mg X.base j C "__eq__" ps sp){B:Around}(hB:B.frames=some X.stack)(hr:Room j B)(hx:Passes (bJ X.prog X.w) X E){Xe:List (Addr×Obj)}{σ:St}{H:Hp}{s:Shared}{y:V}{u:Value}{a dx:Addr}{fs:List (Str×V)}{Q:VK}
  (I:Inv X Xe σ H s) (ry:RelV y u) (ha:H a=some (.ins C dx fs)) (q:sp [.ref a,y] H (λv H2=>∃b:Bool,v=.bl b/\Q (.bl b) H2) E) :
  wpAny (model X.prog X.w) B (tryCompare (.ref a) "__eq__" u) (λo s'=>∃b,o=some (.bool b)/\EP X Xe σ Q (.bool b) s') X.xe s:=by
 obtain⟨f,fd,F,b,kp,fi,n⟩:=D.ex;obtain⟨mA,O,_⟩:=ins_get I.hok ha;obtain⟨od,IA,_⟩:=O.look;unfold tryCompare;refine SQ (U7 I.kIn IA fi n (Tp (J9 (vs:=[.ref a,y]) F hB hr b hx I (.cons rfl (.cons ry .nil)) q) (λw' s' hw=>?_) λz z y=>y))
 obtain⟨v,H2,I2,rv,m,rfl,qq⟩:=hw;cases (show w'=Value.bool m from rv)
 exact S6 ⟨_,rfl,.bl m,H2,I2,rfl,qq⟩
def QM{j:Nat}(D:MethC X.prog X.w X.K X.mg X.base j C "__eq__" ps sp)(sn:tU X.K C){B:Around}(hB:B.frames=some X.stack)(hu:B.units+32<cLine)(hr:Room j B)(hx:Passes (bJ X.prog X.w) X E){Xe:List (Addr×Obj)}{σ:St}{H:Hp}{s:Shared}{x:V}{v:Value}{T:String}{a dx:Addr}{fs:List (Str×V)}{Q:VK}
  (I:Inv X Xe σ H s) (rx:RelV x v) (hv:(v==Value.ref a)=false) (ha:H a=some (.ins C dx fs)) (ty:TyOf X.K H x (.type T)) (hT:T∈tK) (q:sp [.ref a,x] H (λv H2=>∃b:Bool,v=.bl b/\Q (.bl b) H2) E) :
  wpAny (model X.prog X.w) B (eqBool v (.ref a)) (λb s'=>EP X Xe σ Q (.bool b) s') X.xe s:=by
 obtain⟨mA,O,_⟩:=ins_get I.hok ha;obtain⟨od,IA,_⟩:=O.look;obtain⟨tv,⟨id,sl,dc⟩,_⟩:=yL I rx ty hT sn IA.at_;have rc:wpAny (model X.prog X.w) B (richCompare .Eq v (.ref a)) (λr s'=>∃b,r=.bool b/\EP X Xe σ Q (.bool b) s') X.xe s:=by
  unfold richCompare;simp only[tv.oneThing_none];refine Ub ?_;refine SQ (Uw (by lia) ?_)
  rw[Wz]at sl ⊢
  dsimp only at sl ⊢
  refine SQ (Wi tv ?_);refine SQ (IA.type.here ?_);rw[show (Value.type T != Value.ref C)=true from by simp]
  simp only[if_true];refine SQ ((UW I.kIn (sn T hT)).here ?_);simp only[Bool.false_eq_true,if_false];refine SQ (m:=tryCompare v _ _) (We tv sl (dc _ _ _ ⟨rfl,?_⟩));simp only[Bool.not_false,if_true];refine SQ (m:=tryCompare (.ref a) _ _) (Tp (HR D hB hr hx I rx ha q) (λo s' ho=>?_) λz z e=>e)
  obtain⟨b,rfl,hv⟩:=ho;exact S6 ⟨b,rfl,hv⟩
 unfold eqBool;refine Ub ?_;rw[hv];simp only[Bool.false_eq_true,if_false];have fin:wpAny (model X.prog X.w) B (richCompare .Eq v (.ref a)>>=truthOfDropped) (λb s'=>EP X Xe σ Q (.bool b) s') X.xe s:=by
  refine SQ (Tp rc (λr s' hr=>?_) λz z e=>e)
  obtain⟨b,rfl,h⟩:=hr;exact Ua h
 cases v<;>exact fin
def QL{j:Nat}(D:MethC X.prog X.w X.K X.mg X.base j C "__eq__" ps sp){B:Around}(hB:B.frames=some X.stack)(hu:B.units+32<cLine)(hr:Room j B)(hx:Passes (bJ X.prog X.w) X E){Xe:List (Addr×Obj)}{σ:St}{H:Hp}{s:Shared}{a c dx dx':Addr}{fs fs':List (Str×V)}{Q:VK}
  (I:Inv X Xe σ H s) (hne:c≠a) (ha:H a=some (.ins C dx fs)) (hc:H c=some (.ins C dx' fs')) (q:sp [.ref c,.ref a] H (λv H2=>∃b:Bool,v=.bl b/\Q (.bl b) H2) E) :
  wpAny (model X.prog X.w) B (eqBool (.ref c) (.ref a)) (λb s'=>EP X Xe σ Q (.bool b) s') X.xe s:=by
 obtain⟨mA,O,_⟩:=ins_get I.hok ha;obtain⟨od,IA,_⟩:=O.look;obtain⟨mC,OC,_⟩:=ins_get I.hok hc;obtain⟨oc,IC,_⟩:=OC.look;have rc:wpAny (model X.prog X.w) B (richCompare .Eq (.ref c) (.ref a)) (λr s'=>∃b,r=.bool b/\EP X Xe σ Q (.bool b) s') X.xe s:=by
  unfold richCompare;simp only[oneThing_ref];refine Ub ?_;refine SQ (Uw (by lia) ?_)
  rw[Wz];dsimp only;refine SQ (IC.type.here ?_);refine SQ (IA.type.here ?_);rw[show (Value.ref C != Value.ref C)=false from by simp]
  simp only[Bool.false_eq_true,if_false];refine SQ (S6 ?_);simp only[Bool.false_eq_true,if_false];refine SQ (m:=tryCompare (.ref c) _ _) (Tp (HR D hB hr hx I (y:=.ref a) rfl hc q) (λo s' ho=>?_) λz z e=>e)
  obtain⟨b,rfl,hv⟩:=ho;exact S6 ⟨b,rfl,hv⟩
 unfold eqBool;refine Ub ?_;rw[show (Value.ref c==Value.ref a)=false from by simpa using hne]
 simp only[Bool.false_eq_true,if_false];refine SQ (Tp rc (λr s' hr=>?_) λz z e=>e)
 obtain⟨b,rfl,h⟩:=hr;exact Ua h
end
def Cw{prog:Program}{w:World}{A:Around}{E:Value->Shared->Prop}{s:Shared}{T id:String}{B:Builtin}{c x:Value}{S:PySem.Spec}{Q:Value->Shared->Prop}(hT:s.TypeIs c T)(slot:Slot T "__contains__" id)
  (entry:entryFor table id=some B) (args:argsOk id ⟨[c,x],[]⟩) (g:MeetsIn prog w (B ⟨[c,x],[]⟩) S)
  (h:S A (wants (λv s'=>∃b,v=.bool b/\Q (.bool b) s') E) s):wpAny (model prog w) A (compareOp .In x c) Q E s:=by
 show wpAny _ A (do return .bool (<-contains c x)) Q E s
 refine SQ (wpAny_contains_slot hT slot (Tp (U9 slot hT entry args g h) (λv s' hv=>?_) λz z e=>e))
 obtain⟨b,rfl,hq⟩:=hv;exact Ua (S6 hq)
section
variable{X:Cx}{k:Nat}{C:Addr}{ps:List Str}{sp:Sp}{E:XK}
def QQ{j:Nat}{C':Addr}(D:MethC X.prog X.w X.K X.mg X.base j C' "__eq__" ps sp)(sb:PySem.W.subIn X.K (.ref C) (.ref C')=some false)(hC:C'≠C){B:Around}(hB:B.frames=some X.stack)(hu:B.units+32<cLine)(hr:Room j B)(hx:Passes (bJ X.prog X.w) X E){Xe:List (Addr×Obj)}{σ:St}{H:Hp}{s:Shared}{a c dx dx':Addr}{fs fs':List (Str×V)}{Q:VK}
  (I:Inv X Xe σ H s) (hne:c≠a) (ha:H a=some (.ins C dx fs)) (hc:H c=some (.ins C' dx' fs')) (q:sp [.ref c,.ref a] H (λv H2=>∃b:Bool,v=.bl b/\Q (.bl b) H2) E) :
  wpAny (model X.prog X.w) B (eqBool (.ref c) (.ref a)) (λb s'=>EP X Xe σ Q (.bool b) s') X.xe s:=by
 obtain⟨mA,O,_⟩:=ins_get I.hok ha;obtain⟨od,IA,_⟩:=O.look;obtain⟨mC,OC,_⟩:=ins_get I.hok hc;obtain⟨oc,IC,_⟩:=OC.look;have rc:wpAny (model X.prog X.w) B (richCompare .Eq (.ref c) (.ref a)) (λr s'=>∃b,r=.bool b/\EP X Xe σ Q (.bool b) s') X.xe s:=by
  unfold richCompare;simp only[oneThing_ref];refine Ub ?_;refine SQ (Uw (by lia) ?_)
  rw[Wz];dsimp only;refine SQ (IC.type.here ?_);refine SQ (IA.type.here ?_);rw[show (Value.ref C' != Value.ref C)=true from by simpa using hC]
  simp only[if_true];refine SQ ((UW I.kIn sb).here ?_);simp only[Bool.false_eq_true,if_false];refine SQ (m:=tryCompare (.ref c) _ _) (Tp (HR D hB hr hx I (y:=.ref a) rfl hc q) (λo s' ho=>?_) λz z e=>e)
  obtain⟨b,rfl,hv⟩:=ho;exact S6 ⟨b,rfl,hv⟩
 unfold eqBool;refine Ub ?_;rw[show (Value.ref c==Value.ref a)=false from by simpa using hne]
 simp only[Bool.false_eq_true,if_false];refine SQ (Tp rc (λr s' hr=>?_) λz z e=>e)
 obtain⟨b,rfl,h⟩:=hr;exact Ua h
def H9(X:Cx)(C:Addr)(sp:Sp)(E:XK)(sp':Sp)(C':Addr)(a:Addr)(y:V)(H:Hp)(Q:VK):Prop:=
 (∃dx fs,H a=some (.ins C dx fs))/\((∃c dx' fs',y=.ref c/\c≠a/\H c=some (.ins C dx' fs')/\sp [.ref c,.ref a] H (λv H2=>∃b:Bool,v=.bl b/\Q (.bl b) H2) E) \/
   (∃T,y≠.ref a/\TyOf X.K H y (.type T)/\T∈tK/\sp [.ref a,y] H (λv H2=>∃b:Bool,v=.bl b/\Q (.bl b) H2) E) \/
   ∃c dx' fs',y=.ref c/\c≠a/\H c=some (.ins C' dx' fs')/\sp' [.ref c,.ref a] H (λv H2=>∃b:Bool,v=.bl b/\Q (.bl b) H2) E)
def Eo{j:Nat}{C':Addr}{ps':List Str}{sp':Sp}(D:MethC X.prog X.w X.K X.mg X.base j C "__eq__" ps sp)(D':MethC X.prog X.w X.K X.mg X.base j C' "__eq__" ps' sp')(sb:PySem.W.subIn X.K (.ref C) (.ref C')=some false)(hC:C'≠C)(sn:tU X.K C){B:Around}(hB:B.frames=some X.stack)(hu:B.units + 32<cLine)(hr:Room j B)(hx:Passes (bJ X.prog X.w) X E){Xe:List (Addr×Obj)}{σ:St}{H:Hp}{s:Shared}{a:Addr}{y:V}{u:Value}{Q:VK}
  (I:Inv X Xe σ H s) (ry:RelV y u) (q:H9 X C sp E sp' C' a y H Q):wpAny (model X.prog X.w) B (eqBool u (.ref a)) (λb s'=>EP X Xe σ Q (.bool b) s') X.xe s:=by
 obtain⟨⟨dx,fs,ha⟩,q⟩:=q;rcases q with ⟨c,dx',fs',rfl,hne,hc,q⟩ | ⟨T,hne,ty,hT,q⟩ | ⟨c,dx',fs',rfl,hne,hc,q⟩
 ·cases ry;exact QL D hB hu hr hx I hne ha hc q
 ·refine QM D sn hB hu hr hx I ry ?_ ha ty hT q;cases y with
  |ref b=>
    cases ry;have:b≠a:=λz=>hne (by rw[z])
    simpa using this
  |non=>cases (show u=Value.none from ry);rfl
  |int i=>obtain⟨t,q⟩:=(show ∃t,u=Value.int i t from ry);cases q;rfl
  |str i=>obtain⟨t,q⟩:=(show ∃t,u=Value.str i t from ry);cases q;rfl
  |_=>cases ty<;>exact absurd hT (by decide)
 ·cases ry;exact QQ D' sb hC hB hu hr hx I hne ha hc q
def Nt{j:Nat}{C':Addr}{ps':List Str}{sp':Sp}(D:MethC X.prog X.w X.K X.mg X.base j C "__eq__" ps sp)(D':MethC X.prog X.w X.K X.mg X.base j C' "__eq__" ps' sp')(sb:PySem.W.subIn X.K (.ref C) (.ref C')=some false)(hC:C'≠C)(sn:tU X.K C)(hu:X.A.units + 64<cLine)(hr:Room (j + 1) X.A)(hx:Passes (bJ X.prog X.w) X E):
  OpR X (compareOp .In) (λx y H Q=>∃a p y1 y2,x=.ref a/\y=.ref p/\H p=some (.lst [y1,y2])/\H9 X C sp E sp' C' a y1 H (λv H1=>∃b,v=.bl b/\(b=true->Q (.bl true) H1)/\(b=false->H1 p=some (.lst [y1,y2])/\H9 X C sp E sp' C' a y2 H1 (λv H2=>H2 p=some (.lst [y1,y2])/\Q v H2)))):=by
 intro Xe s σ H x y v u Q I rx ry h;obtain⟨a,p,y1,y2,rfl,rfl,hp,q⟩:=h;cases rx;cases ry;have la:∀{s':Shared}{H':Hp},Inv X Xe σ H' s'->H' p=some (.lst [y1,y2])->∃u1 u2 n,RelV y1 u1/\RelV y2 u2/\yD s' p #[u1,u2] n:=λ{s' H'} I' hp'=>by
  obtain⟨_,us,n,r,h1⟩:=(show ObjOk X.prog X.w H' s'.heap p (.lst [y1,y2]) from I'.hok p _ hp')
  obtain⟨u1,u2,rfl,r1,r2⟩:=vals2 r;exact⟨u1,u2,n,r1,r2,h1⟩
 obtain⟨u1,u2,n,r1,r2,hl⟩:=la I hp;have fr:X.A.in1.frames=some X.stack:=I.ok.frames;have hu1:X.A.in1.units+32<cLine:=by show X.A.units+1+32<cLine;lia
 refine Cw ⟨_,hl,rfl⟩ PySem.F.slot_list_contains PySem.F.entry_list_contains (PySem.F.args_list_contains_2 _ _) (Ej p (.ref a)) ⟨_,n,u1,hl,rfl,?_⟩;refine Tp (Eo D D' sb hC sn (B:=X.A.in1) fr hu1 hr.in1 hx I r1 q) (λb s1 hb=>?_) λz z e=>e
 obtain⟨w1,H1,I1,rw1,b',rfl,ht,hf⟩:=hb;cases (show Value.bool b=Value.bool b' from rw1)
 cases b with
 |true=>rw[S7 rfl];exact⟨true,rfl,.bl true,H1,I1,rfl,ht rfl⟩
 |false=>
   rw[Tq (by simp)]
   obtain⟨hp1,q2⟩:=hf rfl;obtain⟨v1,v2,n1,t1,t2,hl1⟩:=la I1 hp1;refine⟨_,n1,v2,hl1,rfl,?_⟩;refine Tp (Eo D D' sb hC sn (B:=X.A.in1) fr hu1 hr.in1 hx I1 t2 q2) (λb s2 hb=>?_) λz z e=>e
   obtain⟨w2,H2,I2,rw2,hp2,hq⟩:=hb;refine⟨λz=>?_,b,rfl,w2,H2,I2,rw2,hq⟩
   obtain⟨x1,x2,n2,_,_,hl2⟩:=la I2 hp2;exact⟨_,n2,hl2,rfl⟩
end
section
variable{X:Cx}{k:Nat}{C:Addr}{ps:List Str}{sp:Sp}{E:XK}
def FW{j:Nat}{C':Addr}(D:MethC X.prog X.w X.K X.mg X.base j C "__eq__" ps sp)(sb:PySem.W.subIn X.K (.ref C') (.ref C)=some false)(hC:C'≠C)(hne:PySem.W.findIn X.K (.ref C) "__ne__"=some (some (.builtin "object.__ne__")))(hm:PySem.W.mroIn X.K C (.type "object")=some true)(hu:X.A.units+64<cLine)(hr:Room (j+1) X.A)(hx:Passes (bJ X.prog X.w) X E):
  OpR X (compareOp .NotEq) (λx y H Q=>∃a dx fs b dx' fs',x=.ref a/\H a=some (.ins C dx fs)/\y=.ref b/\H b=some (.ins C' dx' fs')/\sp [.ref a,y] H (λv H2=>∃b:Bool,v=.bl b/\Q (.bl (!b)) H2) E):=by
 intro Xe s σ H x y v u Q I rx ry h;obtain⟨a,dx,fs,c,dx',fs',rfl,hx',rfl,hy',q⟩:=h;obtain⟨f,fd,F,b,kp,fi,n⟩:=D.ex;cases rx;cases ry;obtain⟨mA,O,_⟩:=ins_get I.hok hx';obtain⟨od,IA,_⟩:=O.look;obtain⟨mB,OB,_⟩:=ins_get I.hok hy';obtain⟨ob,IB,_⟩:=OB.look;show wpAny _ _ (richCompare .NotEq (.ref a) (.ref c)) _ _ _;unfold richCompare;simp only[oneThing_ref];refine Ub ?_;refine SQ (Uw (by lia) ?_)
 rw[cmpInfo_NotEq];dsimp only;refine SQ (IA.type.here ?_);refine SQ (IB.type.here ?_);rw[show (Value.ref C != Value.ref C')=true from by simpa using Ne.symm hC]
 simp only[if_true];refine SQ ((UW I.kIn sb).here ?_);simp only[Bool.false_eq_true,if_false];have fin:wpAny (model X.prog X.w) X.A (tryCompare (.ref a) "__ne__" (.ref c)) (λo s'=>∃v,o=some v/\EP X Xe σ Q v s') X.xe s:=by
  unfold tryCompare;refine SQ (qw I.kIn IA hne PySem.F.cmp_object.ne.bind (Vo (Vx PySem.F.cmp_object.ne.plain PySem.F.cmpEntry_ne (PySem.W.check_slot (i := "object.__ne__") (owner := "object") (n := "__ne__") PySem.F.cmpKind_ne PySem.F.cmpSplit_ne (IA.type.andThen (Wa I.kIn hm)) (PySem.F.cmpArgs_ne _ _) ?_))));unfold Builtin.«object.__ne__»
  refine SQ (m:=slotArgs "__ne__" 1 _) (S6 ?_);refine SQ (m:=cRoomFor _ _) (Uw (by show X.A.units+1<cLine;lia) ?_)
  refine SQ (m:=callSpecialIfBound? (.ref a) (Str.ofString "__eq__") _) (U7 I.kIn IA fi n (Tp (n8 (vs:=[.ref a,.ref c]) F hr.in1 b hx I (.cons rfl (.cons rfl .nil)) q) (λw' s' hw=>?_) λz z y=>y))
  obtain⟨v,H2,I2,rv,m,rfl,qq⟩:=hw;cases (show w'=Value.bool m from rv)
  refine SQ (m:=truthy (.bool m)) (Ua ?_);exact S6 (S6 ⟨_,rfl,.bl (!m),H2,I2,rfl,qq⟩)
 refine SQ (Tp fin (λo s' ho=>?_) λz z e=>e)
 obtain⟨v,rfl,hv⟩:=ho;exact S6 hv
end
set_option tactic.hygienic true in
def BX(l:List Value)(h:TriplesOk l)(q:codeAmong pos (l++[rawInt a,rawInt b,c])=some cv):codeAmong pos l=some cv\/cv=c:=by
 fun_induction TriplesOk l with
 |case1=>
   simp only[List.nil_append,codeAmong,rawInt]at q;split at q
   ·exact .inr (Tf q).symm
   ·cases q
 |case2 a' t b' u x rest ih=>
   simp only[List.cons_append,codeAmong]at q ⊢
   split at q
   ·rename_i hc;rw[S7 hc];exact .inl q
   ·rename_i hc;rw[Tq hc];exact ih h q
 |case3 l h1 h2=>exact h.elim
def RecAt.mono(r:RecAt H v)(f:∀b o,H b=some (.frz o (.own b))->H' b=some (.frz o (.own b))):RecAt H' v:=
 let ⟨c,o,fs,q,t,g1,g2,g3⟩:=r;⟨c,o,fs,q,t,g1,f c o g2,g3⟩
def RecAt.rec_(r:RecAt H v)(ok:HOk P w H h):∃q,h.CodeRec v q:=by obtain⟨c,o,fs,q,t,g1,g2,g3,g4⟩:=r;exact⟨q,c,o,fs,t,g1,(ok c _ g2).1,g3,g4⟩
abbrev vd(qual:Str)(params:Arguments)(body:Expr)(scope:Scope)(cl:List (Str×Addr))(pm cv ctv:Value):Obj:=
 { cls:=.type "function",data:=.func (PySem.W.kla_fn "<lambda>" qual params body scope cl pm cv ctv) }
def rF(H:Hp)(g:Addr)(params:Arguments)(body:Expr)(scope:Scope)(cl:List (Str×Addr)):Prop:=
 ∃qual pm cv ctv,H g=some (.frz (vd qual params body scope cl pm cv ctv) (.own g))/\RecAt H cv
theorem rF.mono(r:rF H g params body scope cl)(f:∀b o,H b=some (.frz o (.own b))->H' b=some (.frz o (.own b))):rF H' g params body scope cl:=
 let ⟨qual,pm,cv,ctv,g1,g2⟩:=r;⟨qual,pm,cv,ctv,f g _ g1,g2.mono f⟩
def Om(P:Addr)(params:Arguments)(body:Expr)(scope:Scope)(cl:List (Str×Addr)):TE:=λz H Q=>
 (∃ps,H P=some (.tbl ps))/\∀g H1,H g=none->Same H H1->rF H1 g params body scope cl->Q (.ref g) H1
def NT(hcd:X.env.code=.ref c)(C:PySem.W.CodeHd X.base c P)(hP:mainGlobals≠P)(B:X.base.BuiltinsAt X.mg P)
  (hcl:closureFor scope X.env=pure cl) (hdef:defaultsOf params X.env=([],[]):=by rfl):PE X (.Lambda params body scope pos) (Om P params body scope cl):=by
 intro Xe s σ H Q I h;obtain⟨⟨ps0,hT⟩,q⟩:=h;obtain⟨ps,hP',tr,rc⟩:=I.hok P _ hT;refine PySem.W.kla_eval hdef ?_;have hg:s.heap.Ns mainGlobals X.mg:=I.ok.mod.glob.keeps I.bk;have hb:s.heap.BuiltinsAt X.mg P:=let ⟨bm,o,a1,a2,a3,a4,a5,r⟩:=B;⟨bm,o,a1,a2,a3,a4,I.bk _ _ a5,r⟩
 cases hq:codeAmong pos ps.toList with
 | none=>
   refine PySem.W.kla_makeFunction hcl I.ok.glob hg hcd (C.keeps I.bk) hP' tr hq hP hb λc' ctv h' tk hx hge hlt hrec htb=>?_
   obtain⟨c2,oc,vs,t,e2,hoc,hd,hv⟩:=hrec;cases e2;have fc:H c'=none:=I.hok.fresh hge;have fg:H h'.objs.size=none:=I.hok.fresh (T7 hge (WX hlt));have ncg:c'≠h'.objs.size:=Tv hlt;let fo:Obj:=vd (X.env.qual++"<lambda>") params body scope cl ((X.mg "__name__").getD .none) (.ref c') ctv
   let H1:Hp:=upd (upd H c' (.frz oc (.own c'))) h'.objs.size (.frz fo (.own h'.objs.size))
   have S:Same H H1:=λb o e=>by show upd (upd H c' _) h'.objs.size _ b=_;rw[upd_ne (ne_of_none e fg),upd_ne (ne_of_none e fc)];exact e
   have kp:∀b o,b≠P->s.heap.get? b=some o->(h'.push fo).get? b=some o:=λb o hb e=>SX _ (hx b o hb e)
   have nP:∀b,H b=none->b≠P:=λb n z=>by rw[z,hT]at n;cases n
   have g1:H1 h'.objs.size=some (.frz fo (.own h'.objs.size)):=upd_same;have c1:H1 c'=some (.frz oc (.own c')):=by show upd (upd H c' _) h'.objs.size _ c'=_;rw[upd_ne ncg];exact upd_same
   have r1:RecAt H1 (.ref c'):=⟨c',oc,vs,_,t,rfl,c1,hd,hv⟩;have un:Un X.fs [] H H1 s.heap (h'.push fo):=by
    refine⟨λb o e n x x=>kp b o (nP b n) e,λb o e n x x=>⟨o.slots,kp b o (nP b n) e⟩,λb o e n x=>?_,λb o e x=>?_,λb xs e=>S _ _ e,λb o u e=>S _ _ e,λb ps e=>⟨#[],by rw[S _ _ e];simp⟩⟩
    ·have l:=S8 e;show upd (upd H c' _) h'.objs.size _ b=_;rw[upd_ne (Tv (Nat.lt_trans (Tj l hge) hlt)),upd_ne (Tv (Tj l hge))];exact n
    ·by_cases hb':b=P
     ·subst hb';exact⟨_,SX _ htb⟩
     ·exact⟨o,kp b o hb' e⟩
   have hok:HOk X.prog X.w H1 (h'.push fo):=λb u e=>by
    by_cases bg:b=h'.objs.size
    ·subst bg;rw[g1]at e;cases e;exact⟨Tr _ rfl,_,Tr _ rfl⟩
    by_cases bc:b=c'
    ·subst bc;rw[c1]at e;cases e;exact⟨SX _ hoc,_,SX _ hoc⟩
    have e':H b=some u:=by have e:upd (upd H c' _) h'.objs.size _ b=some u:=e;rw[upd_ne bg,upd_ne bc]at e;exact e
    by_cases bP:b=P
    ·subst bP;rw[hT]at e';cases e';refine⟨_,SX _ htb,?_,λpos' cv' z=>?_⟩
     ·rw[Array.toList_append];exact TriplesOk_snoc _ _ _ _ tr
     ·rw[Array.toList_append]at z;rcases BX _ tr z with z | z
      ·exact (rc _ _ z).mono λb o e=>S _ _ e
      ·rw[z];exact r1
    ·refine (I.hok b u e').stay (λd v hd' q'=>kp d v ?_ q') (λd z=>S _ _ z) (λd xs z=>S _ _ z) λd o z=>S _ _ z
     rcases hd' with z | z
     ·rw[z];exact bP
     ·intro y;rw[y,hT]at z;cases z
   exact⟨.ref h'.objs.size,H1,I.un (t':=tk) un hok,rfl,q _ H1 fg S ⟨_,_,_,_,g1,r1⟩⟩
 |some cv=>
   have rcv:=rc _ _ hq;refine PySem.W.kla_makeFunctionHit hcl I.ok.glob hg hcd (C.keeps I.bk) hP' tr hq hb λctv h' tk hk hsz=>?_
   have fg:H h'.objs.size=none:=I.hok.fresh hsz;have S:Same H (upd H h'.objs.size (.frz (vd (X.env.qual++"<lambda>") params body scope cl ((X.mg "__name__").getD .none) cv ctv) (.own h'.objs.size))):=same_new fg _;refine⟨.ref h'.objs.size,_,I.laid (t':=tk) (o:=.frz (vd (X.env.qual++"<lambda>") params body scope cl ((X.mg "__name__").getD .none) cv ctv) (.own h'.objs.size)) (λb u e=>SX _ (hk b u e)) hsz ⟨Tr _ rfl,_,Tr _ rfl⟩,rfl,q _ _ fg S ⟨_,_,_,_,upd_same,rcv.mono λb o e=>S _ _ e⟩⟩
def pQ(P:Program)(w:World)(K:PySem.W.Frag)(mg:Str->Option Value)(base:Heap)(N:List Str)(qual:Str)(scope:Scope)(g:Addr)(cd:Value)(cl:List (Str×Addr))(A:Around)(outer:List Env)(s:Shared)(H:Hp)(E:XK):Cx where
 prog:=P
 w:=w
 K:=K
 mg:=mg
 base:=base
 A:=A.deeper (PySem.W.envX qual scope s.heap.objs.size g cd cl)
 N:=N
 s₀:=s
 H₀:=H
 env:=PySem.W.envX qual scope s.heap.objs.size g cd cl
 outer:=outer
 stack:=PySem.W.envX qual scope s.heap.objs.size g cd cl::outer
 ex:=[]
 calm:=true
 fn:=λz=>false
 pn:=[]
 xe:=λe s'=>wpAny (model P w) (A.deeper (PySem.W.envX qual scope s.heap.objs.size g cd cl)) (leaving (PySem.W.envX qual scope s.heap.objs.size g cd cl) e) (λz s''=>bJ P w outer H s E e s'') (λe' s''=>bJ P w outer H s E e' s'') s'
structure LamOk(scope:Scope)(cl:List (Str×Addr))(fr:List Str):Prop where
 kind:scope.kind=.function
 co:scope.isCoroutine=false
 gen:scope.isGenerator=false
 cell:∀y∈scope.names,y.2≠.cell
 nd:fr.Nodup
 has:∀y,(scope.names.lookup y=some .cell\/scope.names.lookup y=some .free)->∃c,cl.lookup y=some c
 fre:∀y∈fr,scope.names.lookup y=some .free
structure CellsAt(cl:List (Str×Addr))(fr:List Str)(σ:St)(H:Hp)(h:Heap):Prop where
 inj:∀x y c,cl.lookup x=some c->cl.lookup y=some c->x=y
 cell:∀x c,cl.lookup x=some c->∃v,h.IsCell c v
 free:∀x c,cl.lookup x=some c->H c=none
 val:∀(i:Nat) x v,fr[i]?=some x->σ[i]?=some (some v)->∃u c,RelV v u/\cl.lookup x=some c/\h.IsCell c (some u)
 len:σ.length=fr.length
section
variable{P:Program}{w:World}{K:PySem.W.Frag}{mg:Str->Option Value}{base:Heap}{A:Around}{outer:List Env}{s:Shared}{H:Hp}{E:XK}{Q:VK}{k:Nat}{g:Addr}{params:Arguments}{body:Expr}{scope:Scope}{cl:List (Str×Addr)}{fr:List Str}{σ:St}
def JG(T:LamOk scope cl fr)(e0:Env0 P w K mg base A outer s H)(hd:A.handled=none)(C:CellsAt cl fr σ H s.heap)(hns:h1.Ns s.heap.objs.size m)(hk:∀b o,s.heap.get? b=some o->h1.get? b=some o):
  Inv (pQ P w K mg base fr qual scope g cd cl A outer s H E) [] σ H { s with heap:=h1,toks:=tk }:=by
 have noA:∀b:Addr,b∉(pQ P w K mg base fr qual scope g cd cl A outer s H E).ex:=λb z=>absurd (show b∈([]:List Addr) from z) (by simp)
 refine⟨⟨e0.mod,T.kind,rfl,rfl,Td _,C.inj,T.has,λy c z x=>absurd (show false=true from z) Tw,λx=>hd,Around.frames_deeper e0.frames,.inr ⟨rfl,rfl⟩,λb z=>absurd z (noA b),e0.bs,e0.bsz,λb x x=>noA b,λb z=>absurd z (noA b),e0.funs,e0.frf⟩,
  rfl,e0.bare,Un.kept hk,⟨m,hns,λi y v h1 h2 h3=>?_⟩,λy c h=>?_,e0.hok.fresh (Td _),λy c h=>C.free y c h,λp hp=>absurd (show p∈([]:List (Addr×Obj)) from hp) (by simp),e0.hok.kept hk,C.len⟩
 ·obtain⟨u,c,r,e,z⟩:=C.val i y v h1 h2;exact⟨u,r,.inr ⟨.inr (T.fre y (T5 h1)),c,e,z.keeps hk⟩⟩
 ·obtain⟨v,z⟩:=C.cell y c h;exact⟨v,z.keeps hk⟩
def Ka(T:LamOk scope cl fr)(e0:Env0 P w K mg base A outer s H)(hr:Room (k+1) A)(L:rF H g params body scope cl)(C:CellsAt cl fr σ H s.heap)
  (hbind:∀qual pm cv ctv,bindArgs (PySem.W.kla_fn "<lambda>" qual params body scope cl pm cv ctv) ⟨[],[]⟩=pure [])
  (hbody:∀qual cd,Room k (A.deeper (PySem.W.envX qual scope s.heap.objs.size g cd cl))->∃t,PE (pQ P w K mg base fr qual scope g cd cl A outer s H E) body t/\t σ H Q) :
  codeAny (model P w) A (.call (.ref g) ⟨[],[]⟩) (CR (bJ P w) outer P w H s Q E) s:=by
 obtain⟨qual,pm,cv,ctv,hg,rc⟩:=L;obtain⟨q,hcd⟩:=rc.rec_ e0.hok;obtain⟨ho,_⟩:=e0.hok g _ hg;have lim:s.heap.NoLimit:=e0.mod.nolimit.keeps λb o e=>(e0.bs b o e).1
 obtain⟨c,oc,vs,tq,hc,hoc,hdc,hq⟩:=hcd;subst hc;refine codeAny_of_tree ?_;show wpAny _ A.in1 (callAny (.ref g) ⟨[],[]⟩) _ _ s;simp only[callAny];refine SQ (wpAny_load ho ?_);simp only[callFunction,T.co,T.gen];refine SQ (m:=field (.ref c) 1) (Uc hoc hdc hq (SQ (S6 ?_)));rw[hbind];refine SQ (S6 (SQ (wpAny_newFunctionEnv T.cell (λx hx=>by cases hx) (λh1 hns hsb=>?_) T.kind)))
 have hk:∀b o,s.heap.get? b=some o->h1.get? b=some o:=λb o e=>hsb.extBut b o (Tv (S8 e)) (SX _ e)
 refine SQ (wpAny_enterFrame (lim.keeps hk) hr.depth (S6 (And.intro rfl ?_)));show codeAny _ _ (.expr body (PySem.W.envX q scope s.heap.objs.size g (.ref c) cl)) _ _;obtain⟨t,ht,hq⟩:=hbody q (.ref c) (hr.deeper _);have I:Inv (pQ P w K mg base fr q scope g (.ref c) cl A outer s H E) [] σ H { s with heap:=h1,toks:=s.toks+([]:List (Str×Value)).length }:=JG T e0 hr.hd C hns hk
 refine PySem.W.kla_codeExpr (Tp (ht [] _ σ H _ I hq) (λu s' hs=>?_) λe s' hs=>hs)
 obtain⟨v,H',J,rv,q⟩:=hs;exact⟨v,H',J.os,J.bare,J.base,J.hok,rv,q⟩
def PN:Passes (bJ P w) (pQ P w K mg base N qual scope g cd cl A outer s H E) E:=by
 intro Xe σ H1 s1 e s' I hf;obtain⟨x,C,a0,H',B,rfl,os,bare,un,hok,fl,ci,cii,q⟩:=hf;have J:Inv (pQ P w K mg base N qual scope g cd cl A outer s H E) Xe σ H' s':=I.call' (ch:=[]) os un hok bare (λb z=>absurd z (by simp))
 have hfr:(pQ P w K mg base N qual scope g cd cl A outer s H E).A.frames=some ((pQ P w K mg base N qual scope g cd cl A outer s H E).env::outer):=I.ok.frames;have hfs:∀b∈frs outer,∃o,s'.heap.get? b=some o/\∀vs,o.data≠.fields vs:=λb hb=>(fl.2.2.1.2.2.mem hb).2
 have hfrm:(pQ P w K mg base N qual scope g cd cl A outer s H E).env.frame=some (pQ P w K mg base N qual scope g cd cl A outer s H E).env.locals:=rfl;have cov:∀b o,s.heap.get? b=some o->b∉frs outer->∃o',B.get? b=some o':=λb o e hb=>by
  obtain⟨o1,h1⟩:=I.base.there b o e (show b∉([]:List Addr) by simp)
  refine cii b o1 h1 ?_;show b∉frs ((pQ P w K mg base N qual scope g cd cl A outer s H E).env::outer);rw[uf hfrm];intro hm;rcases T3.mp hm with rfl | hm
  ·exact absurd (S8 e) (U3.mpr I.ok.above)
  ·exact hb hm
 show wpAny _ _ (leaving _ (.ref x)) _ _ s';refine wpAny_leaves_onW hfr rfl fl λh' fl' up=>?_
 exact⟨x,C,a0,H',B,rfl,J.os,bare,sO J.base fl.1 fl'.1 up hfs cov,oX hok fl.1 fl'.1 ci,fl',ci,cov,q⟩
def J8{x:Str}{st:Stmt}{f:Addr}{fd:FuncData}{N ps:List Str}{us:List Value}{vs:List V}(F:Fun K x x st f fd)(S:FnScope N ps (defScope st))(e0:Env0 P w K mg base A outer s H)(hr:Room (k + 1) A)
  (hb:∀(kV doc pm:Value) (an:Option Addr) (cdv ct:Value),bindArgs (PySem.W.fnOf x x (defArgs st) (defBody st) (defScope st) .none kV doc pm an cdv ct) ⟨us,[]⟩=pure (ps.zip us)) (hl:vs.length=ps.length) (r:Vals vs us)
  (hbody:∀cdv,Room k (A.deeper (envOfC x (defScope st) s.heap.objs.size f cdv))->∃t,PSs (b7 P w K mg base N x (defScope st) f cdv A outer s H E) (defBody st) t/\t { nx:=λz H'=>Q .non H',rt:=Q } (start N vs) H) :
  codeAny (model P w) A (.call (.ref f) ⟨us,[]⟩) (CR (bJ P w) outer P w H s Q E) s:=by
 obtain⟨oc,od,kV,doc,pm,an,cdv,ct,osl,rfl,lk,hcd⟩:=F.ex;have KX:K.In s.heap:=e0.mod.kin.keeps λb o e=>(e0.bs b o e).1
 have lim:s.heap.NoLimit:=e0.mod.nolimit.keeps λb o e=>(e0.bs b o e).1
 have hkind:∀y∈ps.zip us,(defScope st).names.lookup y.1=some .local\/((defScope st).names.lookup y.1=some .cell/\((cellsFrom (s.heap.objs.size+1) (defScope st).names []).lookup y.1).isSome=true):=λ⟨n,v⟩ hy=>by
  rcases S.par n (Wd hy).1 with q | q
  ·exact .inl q
  ·exact .inr ⟨q,VJ _ _ _ (.inl q)⟩
 refine Wq hr.depth (KX _ _ lk) rfl S.co S.gen rfl (PySem.W.codeRec_of KX hcd) ?_;rw[hb];refine S6 (V5 S.kind hkind λenv he s1 x=>?_)
 subst he;refine⟨lim.keeps x.toInCall.keep,codeAny_func ?_⟩;obtain⟨t,ht,hq⟩:=hbody cdv (hr.deeper _);have I:=inv_start (CX:=bJ P w) (E:=E) S hr.hd e0 hl r x;refine Tp (ht [] s1 (start N vs) H _ I hq) (λfl s' hs=>?_) λe s' hs=>hs
 cases fl with
 |ret u=>obtain⟨v,σ',H',J,rv,q⟩:=hs;exact⟨v,H',J.os,J.bare,J.base,J.hok,rv,q⟩
 |next=>obtain⟨σ',H',J,q⟩:=hs;exact⟨V.non,H',J.os,J.bare,J.base,J.hok,(rfl:RelV .non Value.none),q⟩
 |brk=>obtain⟨_,_,_,q⟩:=hs;exact False.elim q
 |cont=>obtain⟨_,_,_,q⟩:=hs;exact False.elim q
end
structure TabD(mg:Str->Option Value)(base:Heap)(c P:Addr):Prop where
 hd:PySem.W.CodeHd base c P
 ne:mainGlobals≠P
 bl:base.BuiltinsAt mg P
def EY{P:Program}{w:World}{K:PySem.W.Frag}{mg mb:Str->Option Value}{CX:CXT}{k:Nat}{fa a:Addr}{fd:FuncData}{x:Str}{sp:Sp}{s₁:Shared}{vs:List Value}{ns:List Int}{tabs:List (Addr×Addr)}
  (KX:K.In s₁.heap) (hns:s₁.heap.Ns mainGlobals mg) (hb:s₁.heap.Ns builtinsNs mb) (hbb:∀x:Str,x≠"__name__"->mb x=bootBuiltins x) (hlim:s₁.heap.NoLimit) (hg:s₁.gens=#[])
  (ha:s₁.heap.get? a=some { cls:=.type "list",data:=.seq vs.toArray }) (hi:IntsAre vs ns) (hl:ns.length<=sizeLine) (hr:Room k callerA) (hT:PySem.W.TabsAt tabs s₁.heap) (hKT:∀q∈tabs,K.lookup q.2=none) (hKA:K.lookup a=none)
  (hB:∃bm ob,mg "__builtins__"=some (.ref bm)/\bm≠builtinsNs/\s₁.heap.get? bm=some ob/\ob.cls=.type "module"/\ob.dict=some builtinsNs/\ob.data=.plain)
  (F:∀base:Heap,K.In base->base.Ns mainGlobals mg->(∀q∈tabs,TabD mg base q.1 q.2)->FnOk P w K mg base CX k fa fd [x] sp) (hbind:∀(s:Shared) (u:Value),BindsTo s fd ⟨[u],[]⟩ [(x,u)])
  (hsp:∀H:Hp,Rd H a (.lst (ns.map V.int))->(∀q∈tabs,H q.2=some (.tbl #[]))->sp [.ref a] H (λv t=>v=.bl true) λt t t=>False)
  (hCX:∀H e s',CX [] H s₁ (λt t t=>False) e s'->False) :
  codeAny (model P w) callerA (.call (.ref fa) ⟨[.ref a],[]⟩) (λr s'=>r=.ok (.ret (.bool true))/\OldK s₁.heap s'.heap/\s'.os=s₁.os/\AllBare s'.gens) s₁:=by
 have rv:=vals_ints hi;have lenV:=hi.length;let lo:Obj:={ cls:=.type "list",data:=.seq vs.toArray }
 let H:Hp:=λb=>if b∈tabs.map (·.2) then some (.tbl #[]) else if b=a then some (.frz lo (.lst (ns.map V.int))) else none
 have tabO:∀b,b∈tabs.map (·.2)->s₁.heap.get? b=some (PySem.W.tabObj #[]):=λb hb'=>by obtain⟨q,hq,rfl⟩:=Uj.mp hb';exact (hT q hq).2
 have naT:a∉tabs.map (·.2):=λz=>by have:=tabO a z;rw[ha]at this;cases this
 have H1:∀b,b∈tabs.map (·.2)->H b=some (.tbl #[]):=λb z=>S7 z
 have H2:H a=some (.frz lo (.lst (ns.map V.int))):=(Tq naT).trans (S7 rfl);have H3:∀b,b∉tabs.map (·.2)->b≠a->H b=none:=λb h1 h2=>(Tq h1).trans (Tq h2)
 have free:∀{b:Addr}{o:Obj},s₁.heap.get? b=some o->o≠PySem.W.tabObj #[]->o≠lo->H b=none:=λ{b o} e h1 h2=>H3 b (λz=>h1 (by have:=tabO b z;rw[e]at this;exact Tf this)) (λz=>h2 (by subst z;rw[ha]at e;exact (Tf e).symm))
 have hok:HOk P w H s₁.heap:=λb u e=>by
  by_cases z:b∈tabs.map (·.2)
  ·rw[H1 b z]at e;cases e;exact⟨#[],tabO b z,trivial,λpos cv q=>by cases q⟩
  by_cases y:b=a
  ·subst y;rw[H2]at e;cases e;exact⟨ha,by rw[Te];exact hl,vs,_,rv,ha⟩
  ·rw[H3 b z y]at e;cases e
 have base_of:∀{b:Addr}{o:Obj},s₁.heap.get? b=some o->o≠PySem.W.tabObj #[]->o≠lo->(hidT s₁.heap H).get? b=some o:=λe h1 h2=>hidT_get e (free e h1 h2)
 have nsK:∀{b:Addr}{m:Str->Option Value},s₁.heap.Ns b m->(hidT s₁.heap H).Ns b m:=λ{b m} ⟨o,es,ep,e,d,r⟩=>⟨o,es,ep,base_of e (λz=>by rw[z]at d;cases d) (λz=>by rw[z]at d;cases d),d,r⟩
 have hKb:K.In (hidT s₁.heap H):=λb o e=>hidT_get (KX b o e) (H3 b (λz=>by obtain⟨q,hq,rfl⟩:=Uj.mp z;rw[hKT q hq]at e;cases e) λz=>by rw[z,hKA]at e;cases e)
 have hM:Mod K mg (hidT s₁.heap H):=⟨hKb,nsK hns,⟨mb,nsK hb,hbb⟩,let ⟨mc,h1,h2⟩:=hlim;⟨mc,nsK h1,h2⟩⟩
 have e0:Env0 P w K mg (hidT s₁.heap H) callerA [] s₁ H:=⟨rfl,hM,λb o e=>of_hidT e,Nat.le_of_eq (hidT_size _ _),trivial,λb hb=>absurd (show b∈([]:List Addr) from hb) (by simp),hok,.of_eq hg⟩
 have hTD:∀ q∈tabs,TabD mg (hidT s₁.heap H) q.1 q.2:=λq hq=>by
  obtain⟨o,vs',file,tf,flags,tg,inF,text,tt,e1,r1,r⟩:=(hT q hq).1;have eP:=(hT q hq).2;refine⟨⟨o,vs',file,tf,flags,tg,inF,text,tt,base_of e1 (λz=>by rw[z]at r1;cases r1) (λz=>by rw[z]at r1;simp[lo]at r1),r1,r⟩,λz=>?_,?_⟩
  ·obtain⟨o',es,ep,e,d,_⟩:=hns;rw[z,eP]at e;cases e;cases d
  ·obtain⟨bm,ob,b1,b2,b3,b4,b5,b6⟩:=hB;refine⟨bm,ob,b1,b2,λz=>?_,λz=>?_,base_of b3 (λz=>by rw[z]at b4;cases b4) (λz=>by rw[z]at b4;simp[lo]at b4),b4,b5,b6⟩
   ·obtain⟨o',es,ep,e,d,_⟩:=hns;rw[z,e]at b3;cases b3;rw[d]at b6;cases b6
   ·rw[z,eP]at b3;cases b3;cases b4
 refine Vj ((F _ hKb (nsK hns) hTD).run callerA [] s₁ H ⟨[.ref a],[]⟩ [.ref a] [.ref a] _ _ hr e0 (hbind s₁ (.ref a)) (.cons rfl .nil) (hsp H (.inr ⟨_,H2⟩) λq hq=>H1 _ (List.mem_map_of_mem hq))) λr s' h=>?_
 cases r with
 |error e=>exact (hCX H e s' h).elim
 | ok fl=>
   cases fl with
   |next=>exact False.elim h
   |brk=>exact False.elim h
   |cont=>exact False.elim h
   | ret u=>
     obtain⟨v,H',os,bare,un,hok',r',q⟩:=h;have q':v=.bl true:=q;subst q';obtain rfl:u=Value.bool true:=r';have kept:∀b o,s₁.heap.get? b=some o->b∉tabs.map (·.2)->s'.heap.get? b=some o:=λb o e z=>by
      by_cases y:b=a
      ·subst y;have z2:=un.frzs b lo _ H2;obtain⟨e2,_⟩:=hok' b _ z2;rw[ha]at e;cases e;exact e2
      ·exact un.keep b o e (H3 b z y) (by intro z;exact absurd (show b∈([]:List Addr) from z) (by simp)) (by simp)
     have grown:∀b,b∈tabs.map (·.2)->∃ps,s'.heap.get? b=some (PySem.W.tabObj ps):=λb z=>by obtain⟨m,e⟩:=un.tbls b _ (H1 b z);obtain⟨ps,e2,_⟩:=hok' b _ e;exact⟨ps,e2⟩
     refine⟨rfl,⟨λb o e=>?_,λb o e=>?_⟩,os,bare⟩
     ·by_cases z:b∈tabs.map (·.2)
      ·obtain⟨ps,e2⟩:=grown b z;obtain⟨q,hq,rfl⟩:=Uj.mp z;have e3:=(hT q hq).2;rw[e]at e3;cases Tf e3;exact .inr (.inl ⟨((hT q hq).1.tab (hT q hq).2).isCodeTable,rfl,#[],ps,rfl,by rw[Array.empty_append];exact e2⟩)
      ·exact .inl (kept b o e z)
     ·by_cases z:b∈tabs.map (·.2)
      ·obtain⟨ps,e2⟩:=grown b z;exact⟨_,e2⟩
      ·exact⟨o,kept b o e z⟩
def Fun.codeC{K:PySem.W.Frag}{mg:Str->Option Value}{x:Str}{st:Stmt}{f:Addr}{fd:FuncData}{c P:Addr}{h:Heap}(F:Fun K x x st f fd)(X:K.In h)(G:h.Ns mainGlobals mg)(m:mg x=some (.ref f))(ht:PySem.W.tabIn K x=some (c,P)):fd.code=.ref c:=by obtain⟨oc,od,kV,doc,pm,an,cdv,ct,osl,e,lk,_⟩:=F.ex;exact PySem.W.law_code X G ht m (X _ _ lk) rfl
def HY{l:PySem.W.OpenLaw}{n k:Nat}{q:Program}{loose:List Str}{XP:(Str->Option Value)->Heap->Prop}{YP:World->Heap->Prop}{d:DefRec}{K:Params->PySem.W.Frag}{CX:World->CXT}{sp:List (Addr×Addr)->Sp}{x:Str}{tn:List (Str×Addr×Addr)}
  (hn:l.most=some n) (hn2:n<=sizeLine) (hdf:d.params.defaults=[]) (hr:Room k callerA)
  (hY:∀(w:World) (h:Heap),YP w h->(K w.params).In h) (hnl:∀(w:World) (a:Addr) (o:Obj),(K w.params).lookup a=some o->o.cls≠.type "list")
  (h1:∀t∈tn,((recsOf q).find? (λe=>e.name==t.1)).isSome=true) (h2:∀(w:World),∀t∈tn,PySem.W.tabIn (K w.params) t.1=some t.2) (h3:∀(w:World),∀t∈tn,(K w.params).lookup t.2.2=none)
  (F:∀ (w:World) (mg:Str->Option Value) (fa:Addr) (h:Heap),(K w.params).In h->h.Ns mainGlobals mg->mg d.name=some (.ref fa)->
    ∃fd:FuncData,(∀(s:Shared) (u:Value),BindsTo s fd ⟨[u],[]⟩ [(x,u)]) /\
      ∀base:Heap,(K w.params).In base->base.Ns mainGlobals mg->(∀q∈tn.map (·.2),TabD mg base q.1 q.2)->FnOk l.prog w (K w.params) mg base (CX w) k fa fd [x] (sp (tn.map (·.2))))
  (hsp:∀(H:Hp) (a:Addr) (ns:List Int),ns.length<=n->Rd H a (.lst (ns.map V.int))->(∀q∈tn.map (·.2),H q.2=some (.tbl #[]))->sp (tn.map (·.2)) [.ref a] H (λv y=>v=.bl true) λy y y=>False)
  (hCX:∀(w:World) (H:Hp) (s:Shared) (e:Value) (s':Shared),CX w [] H s (λy y y=>False) e s'->False) :
  PySem.W.WalkO q loose XP YP l.row.toRowW d [] (λf vs=>PySem.call f vs):=by
 refine Att.attach_call hn hdf λw s₀ s₁ mg mb fa o pm cd doc a vs ns G Y ho hd hcd hmg hobj hints hlen hg=>?_
 have KX:=hY w _ Y;obtain⟨fd,hb,hF⟩:=F w mg fa _ KX G.T.g hmg;have hKA:(K w.params).lookup a=none:=by
  cases z:(K w.params).lookup a with
  |none=>rfl
  |some oa=>have e:=KX a oa z;rw[hobj]at e;cases e;exact absurd rfl (hnl w a _ z)
 have hT:PySem.W.TabsAt (tn.map (·.2)) s₁.heap:=λq hq=>by obtain⟨t,ht,rfl⟩:=Uj.mp hq;obtain⟨d',hd'⟩:=Uk.mp (h1 t ht);exact PySem.W.tab_of G.T KX hd' (h2 w t ht)
 exact EY KX G.T.g G.T.b G.T.builtins G.T.nolimit hg hobj hints (T7 hlen hn2) hr hT (λq hq=>by obtain⟨t,ht,rfl⟩:=Uj.mp hq;exact h3 w t ht) hKA G.T.bmain hF hb (λH hS hH=>hsp H a ns hlen hS hH) λH e s'=>hCX w H s₁ e s'
open PySem PySem.Spec PyProof.Rows
def Gy{K:PySem.W.Frag}{x:Str}{f c P:Addr}{oc occ:Value}{od ocd:Option Addr}{osl ocs:Array (Option Value)}{fd:FuncData}{vs:Array Value}(a:PySem.W.nsIn K mainGlobals x=some (some (.ref f)))(l:K.lookup f=some ⟨oc,od,.func fd,osl⟩)(hc:fd.code=.ref c)
  (l2:K.lookup c=some ⟨occ,ocd,.fields vs,ocs⟩) (h11:vs[11]?=some (.ref P)):PySem.W.tabIn K x=some (c,P):=by
 unfold PySem.W.tabIn;rw[a];simp only[l,hc,l2,h11]
end L2
namespace L2
open PySem PySem.Spec PyProof.Rows
open PySem PySem.Spec PyProof.Rows
open PySem PySem.Spec PyProof.Rows
end L2
namespace L2
open PySem PySem.Spec PyProof.Rows LS
end L2
namespace L2
open PySem PySem.Spec PyProof.Rows
end L2
namespace LB
open PySem PySem.W PyProof.Rows
end LB
namespace LB
open PySem PySem.W PySem.Calls PyProof.Rows
end LB
namespace L2
open PySem PySem.Spec PyProof.Rows LS LB
end L2
namespace LB
open PySem PySem.W PySem.Calls PyProof.Rows
end LB
namespace L2
open PySem PySem.Spec PyProof.Rows LS LB
end L2
namespace LB
open PySem PySem.Spec L2
open PyProof.Rows hiding St
open Sem (wp)
end LB
namespace LA
open PySem LS
end LA
namespace LA
open PySem LS PyProof.Rows
end LA
namespace L2
open PySem PySem.Spec PyProof.Rows LS LA LB
end L2
namespace LA
open PySem PySem.Spec PyProof.Rows LS LB
end LA
namespace L2
open PySem PySem.Spec PyProof.Rows LS LA LB
end L2
namespace LA
open PySem PySem.Spec PyProof.Rows LS
end LA
namespace L2
open PySem PySem.Spec PyProof.Rows LS
end L2
namespace L3
open PySem PySem.Spec L2
open PyProof.Rows hiding St
inductive D where
 |non | bl (b:Bool) | int (i:Int) | str (x:Str)
 |tup (l:List D) | lst (l:List D)
 |dic (ks:List Key) (vs:List D)
 |obj (c:Str) (ns:List Str) (vs:List D)
 |scr (ns:List Int)
 |ref (n:Nat)
 |cls (c:Str) | ty (t:String)
 |exn (a:Addr)
instance:Inhabited D:=⟨.non⟩
inductive DO where
 |lst (l:List D)
 |dic (ks:List Key) (vs:List D)
 |ins (c:Str) (ns:List Str) (vs:List D)
abbrev Mo:=List DO
inductive R(α:Type) where
 |ok (a:α) | exc (c:Str)
def DM(α:Type):=Mo->Option (R α×Mo)
@[reducible] def DM.pure{α:Type}(a:α):DM α:=λM=>some (.ok a,M)
def DM.bind{α β:Type}(m:DM α)(f:α->DM β):DM β:=λM=>match m M with
 |none=>none
 |some (.exc c,M')=>some (.exc c,M')
 |some (.ok a,M')=>f a M'
instance:Monad DM where
 pure:=DM.pure
 bind:=DM.bind
def rd{α:Type}(f:Mo->Option α):DM α:=λM=>(f M).map λa=>(.ok a,M)
def opt{α:Type}(o:Option α):DM α:=λM=>o.map λa=>(.ok a,M)
def stuck{α:Type}:DM α:=λz=>none
def raise{α:Type}(c:Str):DM α:=λM=>some (.exc c,M)
abbrev ao:=List (Option D)
structure Rh where
 st:List Addr
 vo:List Addr
instance:Membership Addr Rh:=⟨λρ a=>a∈ρ.st\/a∈ρ.vo⟩
def Rh.put(ρ:Rh)(p:Addr):Rh:=⟨ρ.st++[p],ρ.vo⟩
def Rh.hold(ρ:Rh)(p:Addr):Rh:=⟨ρ.st,p::ρ.vo⟩
mutual
inductive Cv(mg:Str->Option Value)(ρ:Rh)(H:Hp):V->D->Prop
 |non:Cv mg ρ H .non .non
 |bl (b:Bool):Cv mg ρ H (.bl b) (.bl b)
 |int (i:Int):Cv mg ρ H (.int i) (.int i)
 |str (x:Str):Cv mg ρ H (.str x) (.str x)
 |tup {a:Addr}{xs:List V}{ds:List D}:a∉ρ->H a=some (.tup xs)->Cvs mg ρ H xs ds->Cv mg ρ H (.ref a) (.tup ds)
 |lst {a:Addr}{xs:List V}{ds:List D}:a∉ρ->H a=some (.lst xs)->Cvs mg ρ H xs ds->Cv mg ρ H (.ref a) (.lst ds)
 |dic {a:Addr}{ks:List Key}{xs:List V}{ds:List D}:a∉ρ->H a=some (.dK (ks.zip xs))->ks.length=xs.length->Cvs mg ρ H xs ds->Cv mg ρ H (.ref a) (.dic ks ds)
 |obj {a C dx:Addr}{c:Str}{ns:List Str}{xs:List V}{ds:List D}:a∉ρ->mg c=some (.ref C)->H a=some (.ins C dx (ns.zip xs))->ns.length=xs.length->Cvs mg ρ H xs ds->Cv mg ρ H (.ref a) (.obj c ns ds)
 |scr {a:Addr}{ns:List Int}:a∉ρ->Rd H a (.lst (ns.map V.int))->Cv mg ρ H (.ref a) (.scr ns)
 |ref {n:Nat}{a:Addr}:ρ.st[n]?=some a->Cv mg ρ H (.ref a) (.ref n)
 |cls {c:Str}{C:Addr}:mg c=some (.ref C)->Cv mg ρ H (.ref C) (.cls c)
 |ty (t:String):Cv mg ρ H (.ty t) (.ty t)
 |exn (a:Addr):Cv mg ρ H (.ref a) (.exn a)
inductive Cvs(mg:Str->Option Value)(ρ:Rh)(H:Hp):List V->List D->Prop
 |nil:Cvs mg ρ H [] []
 |cons {v:V}{d:D}{vs:List V}{ds:List D}:Cv mg ρ H v d->Cvs mg ρ H vs ds->Cvs mg ρ H (v::vs) (d::ds)
end
structure Ext(ρ:Rh)(H:Hp)(ρ':Rh)(H':Hp):Prop where
 pre:∃τ,ρ'.st=ρ.st++τ
 vo:ρ'.vo=ρ.vo
 new:∀a,a∈ρ'.st->a∉ρ.st->H a=none
 keep:∀a o,H a=some o->a∉ρ.st->H' a=some o
def Ext.refl:Ext ρ H ρ H:=⟨⟨[],by simp⟩,rfl,λa h n=>absurd h n,λz z h z=>h⟩
def Ext.keeps(e:Ext ρ H ρ' H')(h:H a=some o)(n:a∉ρ):H' a=some o:=e.keep a o h λz=>n (.inl z)
def Ext.out1(e:Ext ρ H ρ' H')(h:H a=some o)(n:a∉ρ.st):a∉ρ'.st:=λz=>by have:=e.new a z n;rw[h]at this;cases this
def Ext.out(e:Ext ρ H ρ' H')(h:H a=some o)(n:a∉ρ):a∉ρ':=λz=>by
 rcases z with z | z
 ·exact e.out1 h (λy=>n (.inl y)) z
 ·rw[e.vo]at z;exact n (.inr z)
theorem Ext.trans(e:Ext ρ H ρ1 H1)(f:Ext ρ1 H1 ρ2 H2):Ext ρ H ρ2 H2:=by
 refine⟨?_,f.vo.trans e.vo,λa h n=>?_,λa o h n=>f.keep a o (e.keep a o h n) (e.out1 h n)⟩
 ·obtain⟨τ,h1⟩:=e.pre;obtain⟨υ,h2⟩:=f.pre;exact⟨τ++υ,by rw[h2,h1,U5]⟩
 ·by_cases z:a∈ρ1.st
  ·exact e.new a z n
  ·cases q:H a with
   |none=>rfl
   |some o=>have:=f.new a h z;rw[e.keep a o q n]at this;cases this
def Ext.at(e:Ext ρ H ρ' H'){n:Nat}(h:ρ.st[n]?=some a):ρ'.st[n]?=some a:=by obtain⟨τ,h1⟩:=e.pre;rw[h1,S9 (S5.mp h).1];exact h
def Rh.nhold{ρ:Rh}{a p:Addr}(h:a∉ρ)(n:a≠p):a∉ρ.hold p:=λz=>by
 rcases z with z | z
 ·exact h (.inl z)
 ·rcases T3.mp z with z | z
  ·exact n z
  ·exact h (.inr z)
section
variable{mg:Str->Option Value}{ρ ρ':Rh}{H H':Hp}
def Cvs.ind{P:List V->List D->Prop}{vs:List V}{ds:List D}(h:Cvs mg ρ H vs ds)(n:P [] [])(c:∀{v d vs ds},Cv mg ρ H v d->Cvs mg ρ H vs ds->P vs ds->P (v::vs) (d::ds)):P vs ds:=
 Cvs.rec (motive_1:=λz z z=>True) (motive_2:=λvs ds z=>P vs ds) ⟨⟩ (λz=>⟨⟩) (λz=>⟨⟩) (λz=>⟨⟩) (λz z z z=>⟨⟩) (λz z z z=>⟨⟩) (λz z z z z=>⟨⟩) (λz z z z z z=>⟨⟩) (λz z=>⟨⟩) (λz=>⟨⟩) (λz=>⟨⟩) (λz=>⟨⟩) (λz=>⟨⟩) n (λa t z i=>c a t i) h
def Cvs.gen(at_:∀(n:Nat) a,ρ.st[n]?=some a->ρ'.st[n]?=some a)(kp:∀a o,H a=some o->a∉ρ->(∀φ,o≠.ext φ)->a∉ρ'/\H' a=some o){vs:List V}{ds:List D}(h:Cvs mg ρ H vs ds):Cvs mg ρ' H' vs ds:=
 Cvs.rec (motive_1:=λv d z=>Cv mg ρ' H' v d) (motive_2:=λvs ds z=>Cvs mg ρ' H' vs ds) .non .bl .int .str (λn h z c=>.tup (kp _ _ h n nofun).1 (kp _ _ h n nofun).2 c) (λn h z c=>.lst (kp _ _ h n nofun).1 (kp _ _ h n nofun).2 c) (λn h l z c=>.dic (kp _ _ h n nofun).1 (kp _ _ h n nofun).2 l c) (λn m h l z c=>.obj (kp _ _ h n nofun).1 m (kp _ _ h n nofun).2 l c)
  (λn h=>h.elim (λh=>.scr (kp _ _ h n nofun).1 (.inl (kp _ _ h n nofun).2)) λ⟨_,h⟩=>.scr (kp _ _ h n nofun).1 (.inr ⟨_,(kp _ _ h n nofun).2⟩)) (λh=>.ref (at_ _ _ h)) .cls .ty .exn .nil (λz z=>.cons) h
def Cvs.hd{v:V}{d:D}{vs:List V}{ds:List D}(h:Cvs mg ρ H (v::vs) (d::ds)):Cv mg ρ H v d:=by cases h;assumption
theorem Cv.gen(at_:∀(n:Nat) a,ρ.st[n]?=some a->ρ'.st[n]?=some a)(kp:∀a o,H a=some o->a∉ρ->(∀φ,o≠.ext φ)->a∉ρ'/\H' a=some o){v:V}{d:D}(h:Cv mg ρ H v d):Cv mg ρ' H' v d:=(Cvs.gen at_ kp (.cons h .nil)).hd
def Cv.mono(e:Ext ρ H ρ' H'){v:V}{d:D}(h:Cv mg ρ H v d):Cv mg ρ' H' v d:=h.gen (λz z=>e.at) λz z h n z=>⟨e.out h n,e.keeps h n⟩
def Cvs.mono(e:Ext ρ H ρ' H'){v:List V}{d:List D}(h:Cvs mg ρ H v d):Cvs mg ρ' H' v d:=h.gen (λz z=>e.at) λz z h n z=>⟨e.out h n,e.keeps h n⟩
def Cvs.len{vs:List V}{ds:List D}(h:Cvs mg ρ H vs ds):vs.length=ds.length:=h.ind (P:=λvs ds=>vs.length=ds.length) rfl λz z=>congrArg (·+ 1)
def Cvs.append{vs us:List V}{ds es:List D}(h:Cvs mg ρ H vs ds)(h2:Cvs mg ρ H us es):Cvs mg ρ H (vs++us) (ds++es):=h.ind (P:=λvs ds=>Cvs mg ρ H (vs++us) (ds++es)) h2 λa z=>.cons a
theorem Cvs.take{vs:List V}{ds:List D}(n:Nat)(h:Cvs mg ρ H vs ds):Cvs mg ρ H (vs.take n) (ds.take n):=h.ind (P:=λvs ds=>∀n,Cvs mg ρ H (vs.take n) (ds.take n)) (λn=>by rw[List.take_nil,List.take_nil];exact .nil) (λa z i n=>by cases n with | zero=>exact .nil | succ n=>exact .cons a (i n)) n
theorem Cvs.drop{vs:List V}{ds:List D}(n:Nat)(h:Cvs mg ρ H vs ds):Cvs mg ρ H (vs.drop n) (ds.drop n):=h.ind (P:=λvs ds=>∀n,Cvs mg ρ H (vs.drop n) (ds.drop n)) (λn=>by rw[List.drop_nil,List.drop_nil];exact .nil) (λa t i n=>by cases n with | zero=>exact .cons a t | succ n=>exact i n) n
def Cvs.get{vs:List V}{ds:List D}{i:Nat}{d:D}(h:Cvs mg ρ H vs ds):ds[i]?=some d->∃v,vs[i]?=some v/\Cv mg ρ H v d:=h.ind (P:=λvs ds=>∀i,ds[i]?=some d->∃v,vs[i]?=some v/\Cv mg ρ H v d) (λz e=>by cases e) (λ{v _ _ _} a _ r i=>by cases i with | zero=>exact λe=>⟨v,rfl,Tf e ▸ a⟩ | succ n=>exact r n) i
theorem Cvs.set{v:V}{d:D}(h:Cv mg ρ H v d){vs:List V}{ds:List D}(i:Nat)(c:Cvs mg ρ H vs ds):Cvs mg ρ H (vs.set i v) (ds.set i d):=c.ind (P:=λvs ds=>∀i,Cvs mg ρ H (vs.set i v) (ds.set i d)) (λz=>.nil) (λa t r i=>by cases i with | zero=>exact .cons h t | succ n=>exact .cons a (r n)) i
def pI(mg:Str->Option Value)(ρ:Rh)(H:Hp)(a:Addr):DO->Prop
 |.lst l=>∃xs,H a=some (.lst xs)/\Cvs mg ρ H xs l
 |.dic ks l=>∃xs,H a=some (.dK (ks.zip xs))/\ks.length=xs.length/\Cvs mg ρ H xs l
 |.ins c ns l=>∃C dx xs,mg c=some (.ref C)/\H a=some (.ins C dx (ns.zip xs))/\ns.length=xs.length/\Cvs mg ρ H xs l
theorem pI.some{a:Addr}{o:DO}(h:pI mg ρ H a o):∃u,H a=some u:=by
 cases o with
 |lst l=>obtain⟨xs,h,_⟩:=h;exact⟨_,h⟩
 |dic ks l=>obtain⟨xs,h,_⟩:=h;exact⟨_,h⟩
 |ins c ns l=>obtain⟨C,dx,xs,_,h,_⟩:=h;exact⟨_,h⟩
theorem pI.mono{a:Addr}{o:DO}(e:Ext ρ H ρ' H')(k:H' a=H a)(h:pI mg ρ H a o):pI mg ρ' H' a o:=by
 cases o with
 |lst l=>obtain⟨xs,h,c⟩:=h;exact⟨xs,k.trans h,c.mono e⟩
 |dic ks l=>obtain⟨xs,h,q,c⟩:=h;exact⟨xs,k.trans h,q,c.mono e⟩
 |ins c ns l=>obtain⟨C,dx,xs,m,h,q,c⟩:=h;exact⟨C,dx,xs,m,k.trans h,q,c.mono e⟩
structure J(mg:Str->Option Value)(ρ:Rh)(M:Mo)(H:Hp):Prop where
 len:ρ.st.length=M.length
 nd:ρ.st.Nodup
 obj:∀(n:Nat) a o,ρ.st[n]?=some a->M[n]?=some o->pI mg ρ H a o
 vol:∀a,a∈ρ.vo->a∉ρ.st/\∃xs,H a=some (.lst xs)
theorem J.some{M:Mo}(j:J mg ρ M H){a:Addr}(h:a∈ρ):∃u,H a=some u:=by
 rcases h with h | h
 ·obtain⟨n,hn⟩:=VN.mp h;have lt:n<M.length:=by rw[<-j.len];exact (S5.mp hn).1
  exact (j.obj n a M[n] hn (Tg lt)).some
 ·obtain⟨_,xs,e⟩:=j.vol a h;exact⟨_,e⟩
def J.fresh{M:Mo}(j:J mg ρ M H){p:Addr}(h:H p=none):p∉ρ:=λz=>by obtain⟨u,e⟩:=j.some z;rw[h]at e;cases e
def J.inj{M:Mo}(j:J mg ρ M H){n m:Nat}{a:Addr}(h:ρ.st[n]?=Option.some a)(k:ρ.st[m]?=Option.some a):n=m:=by
 obtain⟨h1,e1⟩:=S5.mp h;obtain⟨h2,e2⟩:=S5.mp k;have q:∀i k (hi:i<ρ.st.length) (hk:k<ρ.st.length),i<k->ρ.st[i]≠ρ.st[k]:=λi k hi hk lt=>List.pairwise_iff_getElem.mp j.nd i k hi hk lt
 rcases Nat.lt_trichotomy n m with z | z | z
 ·exact absurd (e1.trans e2.symm) (q n m h1 h2 z)
 ·exact z
 ·exact absurd (e2.trans e1.symm) (q m n h2 h1 z)
def Ext.lay{p:Addr}{o:HO}(h:H p=none):Ext ρ H ρ (upd H p o):=⟨⟨[],by simp⟩,rfl,λa h n=>absurd h n,λa o e z=>by rw[upd_ne (ne_of_none e h)];exact e⟩
def Ext.same(S:Same H H'):Ext ρ H ρ H':=⟨⟨[],by simp⟩,rfl,λa h n=>absurd h n,λa o e z=>S _ _ e⟩
theorem J.same{M:Mo}(j:J mg ρ M H)(S:Same H H'):J mg ρ M H':=⟨j.len,j.nd,λn a o h k=>by have c:=j.obj n a o h k;obtain⟨u,e⟩:=c.some;exact c.mono (Ext.same S) (by rw[e,S _ _ e]),λa h=>let ⟨x,xs,e⟩:=j.vol a h;⟨x,xs,S _ _ e⟩⟩
def J.lay{M:Mo}(j:J mg ρ M H){p:Addr}(o:HO)(h:H p=none):J mg ρ M (upd H p o):=j.same (same_new h o)
theorem Ext.put{p:Addr}{o:HO}(h:H p=none):Ext ρ H (ρ.put p) (upd H p o):=⟨⟨[p],rfl⟩,rfl,λa ha n=>by
 rcases T6.mp ha with z | z
 ·exact absurd z n
 ·rw[Tt.mp z];exact h,λa o e y=>by rw[upd_ne (ne_of_none e h)];exact e⟩
theorem J.put{M:Mo}(j:J mg ρ M H){p:Addr}{o:HO}{u:DO}(h:H p=none)(c:pI mg (ρ.put p) (upd H p o) p u):J mg (ρ.put p) (M++[u]) (upd H p o):=by
 have np:p∉ρ.st:=λz=>j.fresh h (.inl z)
 refine⟨?_,?_,λn a w h1 h2=>?_,λa ha=>?_⟩
 ·show (ρ.st++[p]).length=_;rw[TF,TF,j.len];rfl
 ·show (ρ.st++[p]).Nodup;rw[WR];exact⟨j.nd,by simp,λx hx y hy e=>by rw[Tt.mp hy]at e;exact np (e ▸ hx)⟩
 ·have h1:(ρ.st++[p])[n]?=Option.some a:=h1;by_cases hn:n<ρ.st.length
  ·rw[S9 hn]at h1;rw[S9 (by rw[<-j.len];exact hn)]at h2
   have c:=j.obj n a w h1 h2;exact c.mono (Ext.put h) (upd_ne λ(z:a=p)=>np (z ▸ T5 h1))
  ·have hl:n<(ρ.st++[p]).length:=(S5.mp h1).1;rw[TF]at hl;have e:n=ρ.st.length:=by have:[p].length=1:=rfl;lia
   subst e;rw[TJ (Td _)]at h1;rw[j.len,TJ (Td _)]at h2;simp at h1 h2;subst h1 h2;exact c
 ·obtain⟨x,xs,e⟩:=j.vol a ha;have ne:a≠p:=ne_of_none e h;refine⟨λz=>?_,xs,by rw[upd_ne ne];exact e⟩
  rcases T6.mp z with z | z
  ·exact x z
  ·exact ne (Tt.mp z)
theorem Ext.upd{p:Addr}{o:HO}(h:p∈ρ.st):Ext ρ H ρ (L2.upd H p o):=⟨⟨[],by simp⟩,rfl,λa h n=>absurd h n,λa u e n=>by rw[upd_ne (λ(z:a=p)=>n (z ▸ h))];exact e⟩
theorem J.upd{M:Mo}(j:J mg ρ M H){n:Nat}{p:Addr}{o:HO}{u:DO}(h:ρ.st[n]?=Option.some p)(c:pI mg ρ (L2.upd H p o) p u):J mg ρ (M.set n u) (L2.upd H p o):=by
 refine⟨by rw[Ur];exact j.len,j.nd,λm a w h1 h2=>?_,λa ha=>?_⟩
 ·by_cases e:m=n
  ·subst e;rw[h]at h1;cases h1;have lt:m<M.length:=by rw[<-j.len];exact (S5.mp h).1
   rw[Th lt]at h2;cases h2;exact c
  ·rw[Tc (λz=>e z.symm)]at h2
   have ne:a≠p:=λz=>by subst z;exact e (j.inj h1 h)
   exact (j.obj m a w h1 h2).mono (Ext.upd (T5 h)) (by rw[upd_ne ne])
 ·obtain⟨x,xs,e⟩:=j.vol a ha;exact⟨x,xs,by rw[upd_ne (λ(z:a=p)=>x (z ▸ T5 h))];exact e⟩
def Kr{p a:Addr}{o:HO}(hp:p∈ρ.vo)(n:a∉ρ):L2.upd H p o a=H a:=upd_ne λz=>n (by rw[z];exact .inr hp)
def Cvs.hold{p:Addr}{o:HO}(hp:p∈ρ.vo){v:List V}{d:List D}(h:Cvs mg ρ H v d):Cvs mg ρ (L2.upd H p o) v d:=h.gen (λz z h=>h) λz z h n z=>⟨n,(Kr hp n).trans h⟩
def Cvs.less{ρ1:Rh}(hs:ρ1.st=ρ.st)(hv:∀a,a∈ρ1.vo->a∈ρ.vo){v:List V}{d:List D}(h:Cvs mg ρ H v d):Cvs mg ρ1 H v d:=h.gen (λx x h=>hs ▸ h) λx x h n x=>⟨λz=>n (z.elim (λy=>.inl (hs ▸ y)) λy=>.inr (hv _ y)),h⟩
def Cvs.more{p:Addr}(hp:H p=none){v:List V}{d:List D}(h:Cvs mg ρ H v d):Cvs mg (ρ.hold p) H v d:=h.gen (ρ:=ρ) (ρ':=ρ.hold p) (λz z h=>h) λz z h n z=>⟨Rh.nhold n (ne_of_none h hp),h⟩
def pI.map{ρ1:Rh}{H1:Hp}{a:Addr}{o:DO}(k:H1 a=H a)(f:∀vs ds,Cvs mg ρ H vs ds->Cvs mg ρ1 H1 vs ds)(h:pI mg ρ H a o):pI mg ρ1 H1 a o:=by
 cases o with
 |lst l=>obtain⟨xs,h,c⟩:=h;exact⟨xs,k.trans h,f _ _ c⟩
 |dic ks l=>obtain⟨xs,h,q,c⟩:=h;exact⟨xs,k.trans h,q,f _ _ c⟩
 |ins c ns l=>obtain⟨C,dx,xs,m,h,q,c⟩:=h;exact⟨C,dx,xs,m,k.trans h,q,f _ _ c⟩
def J.begin{M:Mo}(j:J mg ρ M H){p:Addr}(hp:H p=none):J mg (ρ.hold p) M (L2.upd H p (.lst [])):=by
 have np:p∉ρ.st:=λz=>j.fresh hp (.inl z)
 refine⟨j.len,j.nd,λn a o h1 h2=>?_,λa ha=>?_⟩
 ·exact (j.obj n a o h1 h2).map (upd_ne λ(z:a=p)=>np (z ▸ T5 h1)) λvs ds c=>(c.more hp).hold (.head _)
 ·rcases T3.mp ha with rfl | ha
  ·exact⟨np,[],upd_same⟩
  ·obtain⟨x,xs,e⟩:=j.vol a ha;exact⟨x,xs,by rw[upd_ne (ne_of_none e hp)];exact e⟩
def J.grow{M:Mo}(j:J mg ρ M H){p:Addr}{ys:List V}(hp:p∈ρ.vo):J mg ρ M (L2.upd H p (.lst ys)):=by
 refine⟨j.len,j.nd,λn a o h1 h2=>?_,λa ha=>?_⟩
 ·exact (j.obj n a o h1 h2).map (upd_ne λ(z:a=p)=>(j.vol p hp).1 (z ▸ T5 h1)) λvs ds c=>c.hold hp
 ·by_cases z:a=p
  ·subst z;exact⟨(j.vol a ha).1,ys,upd_same⟩
  ·obtain⟨x,xs,e⟩:=j.vol a ha;exact⟨x,xs,by rw[upd_ne z];exact e⟩
def J.done{M:Mo}{p:Addr}{ρ1:Rh}(j:J mg ρ1 M H)(hv:ρ1.vo=p::ρ.vo):J mg ⟨ρ1.st,ρ.vo⟩ M H:=by
 refine⟨j.len,j.nd,λn a o h1 h2=>?_,λa ha=>?_⟩
 ·exact pI.map (ρ:=ρ1) rfl (λvs ds c=>Cvs.less (ρ:=ρ1) (ρ1:=⟨ρ1.st,ρ.vo⟩) rfl (λa ha=>by rw[hv];exact .tail _ ha) c) (j.obj n a o h1 h2)
 ·obtain⟨x,y⟩:=j.vol a (by rw[hv];exact .tail _ ha)
  exact⟨x,y⟩
end
structure Kp(ρ:Rh)(H:Hp)(ρ':Rh)(H':Hp):Prop where
 pre:∃τ,ρ'.st=ρ.st++τ
 keep:∀a o,H a=some o->a∉ρ->(∀φ,o≠.ext φ)->a∉ρ'/\H' a=some o
def Ext.kp{ρ ρ':Rh}{H H':Hp}(e:Ext ρ H ρ' H'):Kp ρ H ρ' H':=⟨e.pre,λa o h n z=>⟨e.out h n,e.keeps h n⟩⟩
def Kp.trans{ρ ρ1 ρ2:Rh}{H H1 H2:Hp}(a:Kp ρ H ρ1 H1)(b:Kp ρ1 H1 ρ2 H2):Kp ρ H ρ2 H2:=by
 refine⟨?_,λc o h n ne=>let ⟨x,y⟩:=a.keep c o h n ne;b.keep c o y x ne⟩
 obtain⟨τ,h1⟩:=a.pre;obtain⟨υ,h2⟩:=b.pre;exact⟨τ++υ,by rw[h2,h1,U5]⟩
def Kp.at{ρ ρ':Rh}{H H':Hp}(e:Kp ρ H ρ' H'){n:Nat}{a:Addr}(h:ρ.st[n]?=some a):ρ'.st[n]?=some a:=by obtain⟨τ,h1⟩:=e.pre;rw[h1,S9 (S5.mp h).1];exact h
section
variable{mg:Str->Option Value}{ρ ρ':Rh}{H H':Hp}
def Cv.kp(e:Kp ρ H ρ' H'){v:V}{d:D}(h:Cv mg ρ H v d):Cv mg ρ' H' v d:=h.gen (λz z=>e.at) e.keep
def Cvs.kp(e:Kp ρ H ρ' H'){v:List V}{d:List D}(h:Cvs mg ρ H v d):Cvs mg ρ' H' v d:=h.gen (λz z=>e.at) e.keep
end
def qg(mg:Str->Option Value)(ρ:Rh)(H:Hp){α β:Type}(rel:Rh->Hp->β->α->Prop)(Q:β->Hp->Prop)(E:XK):R α×Mo->Prop
 |(.ok a,M')=>∀ρ' H' b,Ext ρ H ρ' H'->J mg ρ' M' H'->rel ρ' H' b a->Q b H'
 |(.exc c,M')=>∀ρ' H' C,Ext ρ H ρ' H'->J mg ρ' M' H'->mg c=some (.ref C)->E (.ref C) none H'
def Go(mg:Str->Option Value)(E:XK){α β:Type}(rel:Rh->Hp->β->α->Prop)(Q:β->Hp->Prop)(ρ:Rh)(H:Hp)(m:DM α)(M:Mo):Prop:=∃r,m M=some r/\qg mg ρ H rel Q E r
section
variable{mg:Str->Option Value}{ρ ρ':Rh}{H H':Hp}{E:XK}{α β γ δ':Type}{rel:Rh->Hp->β->α->Prop}{rel':Rh->Hp->δ'->γ->Prop}{Q:δ'->Hp->Prop}{Q':β->Hp->Prop}
def qg.mono{r:R α×Mo}(e:Ext ρ H ρ' H')(h:qg mg ρ H rel Q' E r):qg mg ρ' H' rel Q' E r:=by
 obtain⟨r,M'⟩:=r;cases r with
 |ok a=>exact λρ2 H2 b e2 j c=>h ρ2 H2 b (e.trans e2) j c
 |exc c=>exact λρ2 H2 C e2 j m=>h ρ2 H2 C (e.trans e2) j m
set_option tactic.hygienic true in
theorem Go.bind{m:DM α}{k:α->DM γ}{M:Mo}(g:Go mg E rel' Q ρ H (m>>=k) M)
  (f:∀ρ1 H1 M1 b a,Ext ρ H ρ1 H1->J mg ρ1 M1 H1->rel ρ1 H1 b a->Go mg E rel' Q ρ1 H1 (k a) M1->Q' b H1):Go mg E rel Q' ρ H m M:=by
 obtain⟨r,e,p⟩:=g;have e:DM.bind m k M=some r:=e;unfold DM.bind at e;split at e
 ·cases e
 ·rename_i c M' em;cases e;exact⟨_,em,p⟩
 ·rename_i a M' em;exact⟨_,em,λρ1 H1 b x j c=>f ρ1 H1 M' b a x j c ⟨r,e,p.mono x⟩⟩
theorem Go.rd{f:Mo->Option α}{M:Mo}(g:Go mg E rel Q' ρ H (rd f) M):∃a,f M=some a/\∀ρ' H' b,Ext ρ H ρ' H'->J mg ρ' M H'->rel ρ' H' b a->Q' b H':=by obtain⟨r,e,p⟩:=g;obtain⟨a,e1,rfl⟩:=Ti.mp e;exact⟨a,e1,p⟩
theorem Go.opt{o:Option α}{M:Mo}(g:Go mg E rel Q' ρ H (opt o) M):∃a,o=some a/\∀ρ' H' b,Ext ρ H ρ' H'->J mg ρ' M H'->rel ρ' H' b a->Q' b H':=by obtain⟨r,e,p⟩:=g;obtain⟨a,e1,rfl⟩:=Ti.mp e;exact⟨a,e1,p⟩
theorem Go.pure{a:α}{M:Mo}(g:Go mg E rel Q' ρ H (pure a) M):∀ρ' H' b,Ext ρ H ρ' H'->J mg ρ' M H'->rel ρ' H' b a->Q' b H':=by obtain⟨r,e,p⟩:=g;have e:some (R.ok a,M)=some r:=e;cases e;exact p
end
structure Ev(mg:Str->Option Value)(ρ:Rh)(H:Hp)(σ:St)(δ:ao):Prop where
 len:σ.length=δ.length
 val:∀(i:Nat) d,δ[i]?=some (some d)->∃v,σ[i]?=some (some v)/\Cv mg ρ H v d
theorem Ev.mono{mg:Str->Option Value}{ρ ρ':Rh}{H H':Hp}{σ:St}{δ:ao}(e:Ext ρ H ρ' H')(h:Ev mg ρ H σ δ):Ev mg ρ' H' σ δ:=
 ⟨h.len,λi d q=>let ⟨v,a,b⟩:=h.val i d q;⟨v,a,b.mono e⟩⟩
theorem Ev.kp{mg:Str->Option Value}{ρ ρ':Rh}{H H':Hp}{σ:St}{δ:ao}(e:Kp ρ H ρ' H')(h:Ev mg ρ H σ δ):Ev mg ρ' H' σ δ:=
 ⟨h.len,λi d q=>let ⟨v,a,b⟩:=h.val i d q;⟨v,a,b.kp e⟩⟩
theorem Ev.set{mg:Str->Option Value}{ρ:Rh}{H:Hp}{σ:St}{δ:ao}{i:Nat}{v:V}{d:D}(h:Ev mg ρ H σ δ)(c:Cv mg ρ H v d):Ev mg ρ H (σ.set i (some v)) (δ.set i (some d)):=by
 refine⟨by rw[Ur,Ur,h.len],λj x q=>?_⟩
 by_cases e:j=i
 ·subst e;have hj:j<(δ.set j (some d)).length:=(S5.mp q).1;rw[Ur]at hj;rw[Th hj]at q;cases q;exact⟨v,Th (by rw[h.len];exact hj),c⟩
 ·rw[Tc (λz=>e z.symm)]at q ⊢
  exact h.val j x q
def tD(mg:Str->Option Value)(E:XK){α β:Type}(rel:Rh->Hp->β->α->Prop)(f:ao->DM α):St->Hp->(β->Hp->Prop)->Prop:=λσ H Q=>
 ∃ρ δ M,Ev mg ρ H σ δ/\J mg ρ M H/\Go mg E rel Q ρ H (f δ) M
def Bv(_:Rh)(_:Hp)(b a:Bool):Prop:=b=a
structure DE(X:Cx)(E:XK)(e:Expr)(f:ao->DM D):Prop where
 h:PE X e (tD X.mg E (Cv X.mg) f)
structure DA(X:Cx)(E:XK)(es:List Expr)(f:ao->DM (List D)):Prop where
 h:QA X es (tD X.mg E (Cvs X.mg) f)
structure DT(X:Cx)(E:XK)(e:Expr)(f:ao->DM Bool):Prop where
 h:PT X e (tD X.mg E Bv f)
def PE.mono{X:Cx}{e:Expr}{t t':TE}(h:PE X e t)(f:∀σ H Q,t' σ H Q->t σ H Q):PE X e t':=λXe s σ H Q I q=>h Xe s σ H Q I (f σ H Q q)
def PT.mono{X:Cx}{e:Expr}{t t':TT}(h:PT X e t)(f:∀σ H Q,t' σ H Q->t σ H Q):PT X e t':=λXe s σ H Q I q=>h Xe s σ H Q I (f σ H Q q)
def PA.mono{X:Cx}{e:List Expr}{t t':TA}(h:PA X e t)(f:∀σ H Q,t' σ H Q->t σ H Q):PA X e t':=λp Xe s σ H Q I q=>h p Xe s σ H Q I (f σ H Q q)
mutual
def toPy:D->Option PyData
 |.non=>some .none
 |.bl b=>some (.bool b)
 |.int i=>some (.int i)
 |.str x=>some (.str x)
 |.tup l=>(dH l).map .tuple
 |.lst l=>(dH l).map .list
 |_=>none
def dH:List D->Option (List PyData)
 |[]=>some []
 |d::l=>match toPy d,dH l with
   |some p,some ps=>some (p::ps)
   |_,_=>none
end
mutual
def Je:D->Option PyData
 |.non=>some .none
 |.bl b=>some (.bool b)
 |.int i=>some (.int i)
 |.str x=>some (.str x)
 |.tup l=>(Ac l).map .tuple
 |.lst l=>(Ac l).map .list
 |.dic [] []=>some (.dict [])
 |.dic [.inl i] [.int j]=>some (.dict [(.int i,.int j)])
 |_=>none
def Ac:List D->Option (List PyData)
 |[]=>some []
 |d::l=>match Je d,Ac l with
   |some p,some ps=>some (p::ps)
   |_,_=>none
end
section
variable{mg:Str->Option Value}{ρ:Rh}{H:Hp}
def nO{α:Type}{p:α}{P:Prop}(e:none=some p):P:=nomatch e
def Cvs.repF{vs:List V}{ds:List D}{ps:List PyData}(h:Cvs mg ρ H vs ds):dH ds=some ps->RepsF H true vs ps:=
 Cvs.rec (motive_1:=λv d z=>∀ p,toPy d=some p->RepF H true v p) (motive_2:=λvs ds z=>∀ ps,dH ds=some ps->RepsF H true vs ps)
  (λz e=>Tf e ▸ .non) (λb z e=>Tf e ▸ .bl b) (λb z e=>Tf e ▸ .int b) (λb z e=>Tf e ▸ .str b)
  (λz h z c z e=>by obtain⟨ps,e1,e2⟩:=Ti.mp e;exact e2 ▸ .tup h (c _ e1)) (λz h z c z e=>by obtain⟨ps,e1,e2⟩:=Ti.mp e;exact e2 ▸ .lst h (c _ e1))
  (λz z z z z z e=>nO e) (λz z z z z z z e=>nO e) (λz z z e=>nO e) (λz z e=>nO e) (λz z e=>nO e) (λz z e=>nO e) (λz z e=>nO e)
  (λz e=>Tf e ▸ .nil) (λ{_ d _ l} _ _ i j _ e=>by
    revert e;show (match toPy d,dH l with | some p,some ps=>some (p::ps) | _,_=>none)=_->_
    cases h1:toPy d with
    |none=>exact λe=>nO e
    |some p=>cases h2:dH l with
      |none=>exact λe=>nO e
      |some q=>exact λe=>Tf e ▸ .cons (i _ h1) (j _ h2)) h ps
theorem Cv.repF{v:V}{d:D}{p:PyData}(h:Cv mg ρ H v d)(e:toPy d=some p):RepF H true v p:=by
 have z:dH [d]=some [p]:=by
  show (match toPy d,some [] with | some p,some ps=>some (p::ps) | _,_=>none)=_
  rw[e]
 cases Cvs.repF (.cons h .nil) z;assumption
end
section
variable{X:Cx}{E:XK}{a b c:Expr}{fa fb fc:ao->DM D}{pos:Pos}
def ug(i:Nat)(δ:ao):DM D:=opt ((δ[i]?).join)
def aa(i:Nat){x:Str}(hN:X.N[i]?=some x:=by rfl)(hv:Vis X.env.scope x:=by first | exact Or.inl rfl | exact Or.inr (Or.inl rfl) | exact Or.inr (Or.inr rfl))(hd:(x==("__debug__":Str))=false:=by decide)
  (hcd:(x==("__classdict__":Str))=false:=by decide):DE X E (.Name x pos) (ug i):=⟨PE.mono (pe_var (i:=i) hN hv hd hcd) λσ H Q h=>by
 obtain⟨ρ,δ,M,ev,j,g⟩:=h;obtain⟨d,e,q⟩:=g.opt;have e':δ[i]?=some (some d):=by
  cases z:δ[i]? with
  |none=>rw[z]at e;cases e
  |some o=>rw[z]at e;exact congrArg some e
 obtain⟨v,h1,h2⟩:=ev.val i d e';exact⟨v,h1,q ρ H v .refl j h2⟩⟩
def gY{e:Expr}{v:V}{d:D}(h:PE X e (tC v))(hc:∀ρ H,Cv X.mg ρ H v d):DE X E e (λz=>pure d):=⟨PE.mono h λσ H Q h=>by obtain⟨ρ,δ,M,ev,j,g⟩:=h;exact g.pure ρ H v .refl j (hc _ _)⟩
def aB{i j}:DE X E (.Constant (.int i) j pos) (λz=>pure (.int i)):=gY pe_int λz z=>.int i
def cN{i j}:DE X E (.Constant (.bool i) j pos) (λz=>pure (.bl i)):=gY pe_bl λz z=>.bl i
def iH{j}:DE X E (.Constant .none j pos) (λz=>pure .non):=gY pe_non λz z=>.non
def aR{x j}:DE X E (.Constant (.str x) j pos) (λz=>pure (.str x)):=gY pe_str λz z=>.str x
def Cm{x:Str}{i:Int}{t:Tok}(h:X.mg x=some (.int i t))(hg:Gl X x:=by rfl)(hd:(x==("__debug__":Str))=false:=by decide):DE X E (.Name x pos) (λz=>pure (.int i)):=gY (PX h hg hd) λz z=>.int i
def uO{x:Str}{C:Addr}(h:X.mg x=some (.ref C))(hg:Gl X x:=by rfl)(hd:(x==("__debug__":Str))=false:=by decide):DE X E (.Name x pos) (λz=>pure (.cls x)):=gY (NP h hg hd) λz z=>.cls h
def gG{x:Str}{T:String}(hm:X.mg x=none)(hg:Gl X x:=by rfl)(hv:bootBuiltins x=some (.type T):=by decide +kernel)(hn:x≠"__name__":=by decide)(hdb:(x==("__debug__":Str))=false:=by decide):DE X E (.Name x pos) (λz=>pure (.ty T)):=
 gY (Qa hm hg hv hn hdb) λz z=>.ty T
def rD(mg:Str->Option Value)(E:XK)(g:D->D->DM D):R2:=λx y H Q=>∃ρ M dx dy,J mg ρ M H/\Cv mg ρ H x dx/\Cv mg ρ H y dy/\Go mg E (Cv mg) Q ρ H (g dx dy) M
def bZ(X:Cx)(E:XK)(f:Value->Value->Sem Value)(g:D->D->DM D):Prop:=OpR X f (rD X.mg E g)
def Bj{g:D->D->DM D}{r:R2}(hr:∀x y H Q,rD X.mg E g x y H Q->r x y H Q){σ:L2.St}{H:Hp}{Q:VK}(h:tD X.mg E (Cv X.mg) (λδ=>fa δ>>=λx=>fb δ>>=λy=>g x y) σ H Q):
  tOp r (tD X.mg E (Cv X.mg) fa) (tD X.mg E (Cv X.mg) fb) σ H Q:=by
 obtain⟨ρ,δ,M,ev,j,g1⟩:=h;exact⟨ρ,δ,M,ev,j,g1.bind λρ1 H1 M1 x dx e1 j1 c1 g2=>⟨ρ1,δ,M1,ev.mono e1,j1,g2.bind λρ2 H2 M2 y dy e2 j2 c2 g3=>hr _ _ _ _ ⟨ρ2,M2,dx,dy,j2,c1.mono e2,c2,g3⟩⟩⟩
def aY{op:Operator}{g:D->D->DM D}(ho:bZ X E (binaryOp op) g)(ha:DE X E a fa)(hb:DE X E b fb):DE X E (.BinOp a op b pos) (λδ=>fa δ>>=λx=>fb δ>>=λy=>g x y):=
 ⟨PE.mono (pe_op ho ha.h hb.h) λσ H Q h=>Bj (λw w w w z=>z) h⟩
def cQ{op:CmpOp}{g:D->D->DM D}(ho:bZ X E (compareOp op) g)(ha:DE X E a fa)(hb:DE X E b fb)(hm:behindInMarks op b=false:=by first | exact nomark _ | rfl):DE X E (.Compare a [op] [b] pos) (λδ=>fa δ>>=λx=>fb δ>>=λy=>g x y):=
 ⟨PE.mono (pe_cmpR ho ha.h hb.h hm) λσ H Q h=>Bj (λw w w w z=>z) h⟩
def lH:D->DM Bool
 |.bl b=>pure b
 |_=>stuck
theorem Go.lH{mg:Str->Option Value}{ρ:Rh}{H:Hp}{d:D}{M:Mo}{Q:Bool->Hp->Prop}(g:Go mg E Bv Q ρ H (lH d) M):∃k,d=.bl k/\∀ρ' H',Ext ρ H ρ' H'->J mg ρ' M H'->Q k H':=by
 cases d with
 |bl k=>exact⟨k,rfl,λρ' H' e j=>(show Go mg E Bv Q ρ H (Pure.pure k) M from g).pure ρ' H' k e j rfl⟩
 |_=>obtain⟨r,e,_⟩:=g;cases e
def dt_of{e:Expr}{f:ao->DM D}{t:TE}(h:PT X e (tTest t))(ht:∀σ H Q,tD X.mg E (Cv X.mg) f σ H Q->t σ H Q):DT X E e (λδ=>f δ>>=lH):=⟨PT.mono h λσ H Q h=>by
 obtain⟨ρ,δ,M,ev,j,g1⟩:=h;refine ht _ _ _ ⟨ρ,δ,M,ev,j,g1.bind λρ1 H1 M1 x dx e1 j1 c1 g2=>?_⟩
 obtain⟨k,rfl,q⟩:=Go.lH g2;cases c1;exact⟨k,rfl,q ρ1 H1 .refl j1⟩⟩
def aW{op:CmpOp}{g:D->D->DM D}(ho:bZ X E (compareOp op) g)(ha:DE X E a fa)(hb:DE X E b fb)(hm:behindInMarks op b=false:=by first | exact nomark _ | rfl):DT X E (.Compare a [op] [b] pos) (λδ=>(fa δ>>=λx=>fb δ>>=λy=>g x y)>>=lH):=
 dt_of (pt_cmpR ho ha.h hb.h hm) λσ H Q h=>Bj (λw w w w z=>z) h
def QC{g g':D->D->DM D}{σ:L2.St}{H:Hp}{Q:VK}(h:tD X.mg E (Cv X.mg) (λδ=>fa δ >>= λx=>fb δ >>= λy=>g x y >>= λz=>lH z >>= λk=>if k then fc δ >>= λw=>g' y w else pure (.bl false)) σ H Q):
  tChain (rD X.mg E g) (rD X.mg E g') (tD X.mg E (Cv X.mg) fa) (tD X.mg E (Cv X.mg) fb) (tD X.mg E (Cv X.mg) fc) σ H Q:=by
 obtain⟨ρ,δ,M,ev,j,g1⟩:=h;refine⟨ρ,δ,M,ev,j,g1.bind λρ1 H1 M1 x dx e1 j1 c1 g2=>⟨ρ1,δ,M1,ev.mono e1,j1,g2.bind λρ2 H2 M2 y dy e2 j2 c2 g3=>⟨ρ2,M2,dx,dy,j2,c1.mono e2,c2,g3.bind λρ3 H3 M3 z dz e3 j3 c3 g4=>?_⟩⟩⟩
 have g5:=g4.bind (rel:=Bv) (Q':=λk H4=>dz=.bl k/\∃ρ4 M4,Ext ρ3 H3 ρ4 H4/\J X.mg ρ4 M4 H4/\Go X.mg E (Cv X.mg) Q ρ4 H4 (if k then fc δ>>=λw=>g' dy w else pure (.bl false)) M4)
 have key:∃k,dz=.bl k/\Go X.mg E (Cv X.mg) Q ρ3 H3 (if k then fc δ>>=λw=>g' dy w else pure (.bl false)) M3:=by
  cases dz with
  |bl k=>exact⟨k,rfl,g4⟩
  |_=>obtain⟨r,e,_⟩:=g4;cases e
 obtain⟨k,rfl,g6⟩:=key;cases c3;refine⟨k,rfl,?_⟩;cases k with
 |false=>exact iteF (g6.pure ρ3 H3 _ .refl j3 (.bl false))
 |true=>
   have g6:Go X.mg E (Cv X.mg) Q ρ3 H3 (fc δ>>=λw=>g' dy w) M3:=g6
   exact iteT ⟨ρ3,δ,M3,((ev.mono e1).mono e2).mono e3,j3,g6.bind λρ4 H4 M4 w dw e4 j4 c4 g7=>⟨ρ4,M4,dy,dw,j4,(c2.mono e3).mono e4,c4,g7⟩⟩
def Hk{op op':CmpOp}{g g':D->D->DM D}(ho:bZ X E (compareOp op) g)(ho':bZ X E (compareOp op') g')(ha:DE X E a fa)(hb:DE X E b fb)(hc:DE X E c fc)(hm:lastMarks [op,op'] [b,c]=false:=by with_unfolding_all rfl):
  DE X E (.Compare a [op,op'] [b,c] pos) (λδ=>fa δ>>=λx=>fb δ>>=λy=>g x y>>=λz=>lH z>>=λk=>if k then fc δ>>=λw=>g' y w else pure (.bl false)):=
 ⟨PE.mono (pe_chain ho ho' ha.h hb.h hc.h hm) λσ H Q h=>QC h⟩
def uc{op op':CmpOp}{g g':D->D->DM D}(ho:bZ X E (compareOp op) g)(ho':bZ X E (compareOp op') g')(ha:DE X E a fa)(hb:DE X E b fb)(hc:DE X E c fc)(hm:lastMarks [op,op'] [b,c]=false:=by with_unfolding_all rfl):
  DT X E (.Compare a [op,op'] [b,c] pos) (λδ=>(fa δ>>=λx=>fb δ>>=λy=>g x y>>=λz=>lH z>>=λk=>if k then fc δ>>=λw=>g' y w else pure (.bl false))>>=lH):=
 dt_of (pt_chain ho ho' ha.h hb.h hc.h hm) λσ H Q h=>QC h
def Ae:D->Mo->Option Bool
 |.non,_=>some false
 |.bl b,_=>some b
 |.int i,_=>some (i != 0)
 |.str y,_=>if y.length<=sizeLine then some ((y.length:Int) != 0) else none
 |.tup l,_=>some (!l.isEmpty)
 |.lst l,_=>some (!l.isEmpty)
 |.scr l,_=>some (!l.isEmpty)
 |.dic ks _,_=>some (!ks.isEmpty)
 |.ref n,M=>match M[n]? with
   |some (.lst l)=>some (!l.isEmpty)
   |some (.dic ks _)=>some (!ks.isEmpty)
   |_=>none
 |_,_=>none
def xK{α β:Type}{ks:List α}{xs:List β}(h:ks.length=xs.length):(ks.zip xs).isEmpty=ks.isEmpty:=by
 cases ks with
 |nil=>simp
 |cons k ks=>cases xs with
   |nil=>simp at h
   |cons x xs=>rfl
def Cvs.empty{mg:Str->Option Value}{ρ:Rh}{H:Hp}{vs:List V}{ds:List D}(c:Cvs mg ρ H vs ds):vs.isEmpty=ds.isEmpty:=by cases c<;>rfl
set_option tactic.hygienic true in
def Ot{K:PySem.W.Frag}{mg:Str->Option Value}{ρ:Rh}{H:Hp}{M:Mo}{x:V}{d:D}{k:Bool}(j:J mg ρ M H)(h:Cv mg ρ H x d)(e:Ae d M=some k):TruV K x H k:=by
 cases h with
 |non=>cases e;rfl
 |bl b=>cases e;rfl
 |int i=>cases e;rfl
 |str y=>
   unfold Ae at e;dsimp only at e;split at e
   ·cases e;exact⟨‹_›,rfl⟩
   ·cases e
 |tup n h c=>cases e;exact .inr (.inl ⟨_,SqT.of h,by rw[c.empty]⟩)
 |lst n h c=>cases e;exact .inl ⟨_,SqL.of h,by rw[c.empty]⟩
 |scr n h=>cases e;exact .inl ⟨_,.inl h,by simp⟩
 |dic n h l c=>cases e;exact .inr (.inr ⟨_,h,by rw[xK l]⟩)
 | ref q=>
   rename_i n a;unfold Ae at e;dsimp only at e;split at e
   ·rename_i l hl;cases e;obtain⟨xs,h,c⟩:=j.obj n a _ q hl;exact .inl ⟨_,SqL.of h,by rw[c.empty]⟩
   ·rename_i ks l hl;cases e;obtain⟨xs,h,z,c⟩:=j.obj n a _ q hl;exact .inr (.inr ⟨_,h,by rw[xK z]⟩)
   ·cases e
 |obj=>cases e
 |cls=>cases e
 |ty=>cases e
 |exn=>cases e
def bN(ha:DE X E a fa)(he:∀whole,isTrue a X.env whole=(do let v <-whole;standAt a.pos;holding [v] (truthy v))):DT X E a (λδ=>fa δ>>=λx=>rd (Ae x)):=⟨PT.mono (pt_truth ha.h he) λσ H Q h=>by
 obtain⟨ρ,δ,M,ev,j,g1⟩:=h;refine⟨ρ,δ,M,ev,j,g1.bind λρ1 H1 M1 x dx e1 j1 c1 g2=>?_⟩
 obtain⟨k,e,q⟩:=g2.rd;exact⟨k,Ot j1 c1 e,q ρ1 H1 k .refl j1 rfl⟩⟩
variable{ta tb:ao->DM Bool}
def cA(ha:DT X E a ta):DT X E (.UnaryOp .Not a pos) (λδ=>ta δ>>=λk=>pure (!k)):=⟨PT.mono (pt_not ha.h) λσ H Q h=>by
 obtain⟨ρ,δ,M,ev,j,g1⟩:=h;refine⟨ρ,δ,M,ev,j,g1.bind λρ1 H1 M1 x dx e1 j1 c1 g2=>?_⟩
 have c1:x=dx:=c1;subst c1;exact g2.pure ρ1 H1 _ .refl j1 rfl⟩
structure DW(X:Cx)(E:XK)(e:Expr)(f:ao->DM Bool):Prop where
 h:PW X e (tD X.mg E Bv f)
def PW.mono{e:Expr}{t t':TT}(h:PW X e t)(f:∀σ H Q,t' σ H Q->t σ H Q):PW X e t':=λw Xe s σ H Q I q=>h w Xe s σ H Q I (f σ H Q q)
def DW.dt{e:Expr}(h:DW X E e ta):DT X E e ta:=⟨PW.pt h.h⟩
def JB(ha:DT X E a ta):DW X E (.BoolOp .And [a] pos) ta:=⟨pw_and1 ha.h⟩
def d8(ha:DT X E a ta):DW X E (.BoolOp .Or [a] pos) ta:=⟨pw_or1 ha.h⟩
variable{rest:List Expr}
def Lk(ha:DT X E a ta)(hb:DW X E (.BoolOp .And (b::rest) pos) tb):DW X E (.BoolOp .And (a::b::rest) pos) (λδ=>ta δ>>=λk=>if k then tb δ else pure false):=⟨PW.mono (pw_and ha.h hb.h) λσ H Q h=>by
 obtain⟨ρ,δ,M,ev,j,g1⟩:=h;refine⟨ρ,δ,M,ev,j,g1.bind λρ1 H1 M1 x dx e1 j1 c1 g2=>?_⟩
 have c1:x=dx:=c1;subst c1;cases x with
 |true=>exact iteT ⟨ρ1,δ,M1,ev.mono e1,j1,g2⟩
 |false=>exact iteF (Go.pure (a:=false) g2 ρ1 H1 _ .refl j1 rfl)⟩
def eZ(ha:DT X E a ta)(hb:DW X E (.BoolOp .Or (b::rest) pos) tb):DW X E (.BoolOp .Or (a::b::rest) pos) (λδ=>ta δ>>=λk=>if k then pure true else tb δ):=⟨PW.mono (pw_or ha.h hb.h) λσ H Q h=>by
 obtain⟨ρ,δ,M,ev,j,g1⟩:=h;refine⟨ρ,δ,M,ev,j,g1.bind λρ1 H1 M1 x dx e1 j1 c1 g2=>?_⟩
 have c1:x=dx:=c1;subst c1;cases x with
 |false=>exact iteF ⟨ρ1,δ,M1,ev.mono e1,j1,g2⟩
 |true=>exact iteT (Go.pure (a:=true) g2 ρ1 H1 _ .refl j1 rfl)⟩
def jy{op:BoolOp}(ha:DE X E a fa):DE X E (.BoolOp op [a] pos) fa:=⟨pe_one ha.h⟩
def Go.isB{mg:Str->Option Value}{ρ:Rh}{H:Hp}{α β:Type}{rel:Rh->Hp->β->α->Prop}{Q:β->Hp->Prop}{d:D}{M:Mo}{f:Bool->DM α}(g:Go mg E rel Q ρ H (L3.lH d>>=f) M):∃k,d=.bl k/\Go mg E rel Q ρ H (f k) M:=by
 cases d with
 |bl k=>exact⟨k,rfl,g⟩
 |_=>obtain⟨r,e,_⟩:=g;cases e
def jx(ha:DE X E a fa)(hb:DE X E (.BoolOp .And (b::rest) pos) fb):DE X E (.BoolOp .And (a::b::rest) pos) (λδ=>fa δ>>=λx=>lH x>>=λk=>if k then fb δ else pure (.bl false)):=⟨PE.mono (pe_and ha.h hb.h) λσ H Q h=>by
 obtain⟨ρ,δ,M,ev,j,g1⟩:=h;refine⟨ρ,δ,M,ev,j,g1.bind λρ1 H1 M1 x dx e1 j1 c1 g2=>?_⟩
 obtain⟨k,rfl,g3⟩:=Go.isB g2;cases c1;refine⟨k,rfl,?_⟩;cases k with
 |true=>exact iteT ⟨ρ1,δ,M1,ev.mono e1,j1,g3⟩
 |false=>exact iteF (Go.pure (a:=D.bl false) g3 ρ1 H1 _ .refl j1 (.bl false))⟩
def yK(ha:DE X E a fa):DE X E (.UnaryOp .Not a pos) (λδ=>fa δ>>=λx=>lH x>>=λk=>pure (.bl (!k))):=⟨PE.mono (pe_not ha.h) λσ H Q h=>by
 obtain⟨ρ,δ,M,ev,j,g1⟩:=h;refine⟨ρ,δ,M,ev,j,g1.bind λρ1 H1 M1 x dx e1 j1 c1 g2=>?_⟩
 obtain⟨k,rfl,g3⟩:=Go.isB g2;cases c1;exact⟨k,rfl,g3.pure ρ1 H1 _ .refl j1 (.bl _)⟩⟩
def lQ(hc:DT X E c ta)(ha:DE X E a fa)(hb:DE X E b fb):DE X E (.IfExp c a b pos) (λδ=>ta δ>>=λk=>if k then fa δ else fb δ):=⟨PE.mono (pe_ifExp hc.h ha.h hb.h) λσ H Q h=>by
 obtain⟨ρ,δ,M,ev,j,g1⟩:=h;refine⟨ρ,δ,M,ev,j,g1.bind λρ1 H1 M1 x dx e1 j1 c1 g2=>?_⟩
 have c1:x=dx:=c1;subst c1;cases x with
 |true=>exact iteT ⟨ρ1,δ,M1,ev.mono e1,j1,g2⟩
 |false=>exact iteF ⟨ρ1,δ,M1,ev.mono e1,j1,g2⟩⟩
def ak:DA X E [] (λz=>pure []):=⟨⟨PA.mono N6.h λσ H Q h=>by obtain⟨ρ,δ,M,ev,j,g⟩:=h;exact g.pure ρ H [] .refl j .nil⟩⟩
def aj{es:List Expr}{fs:ao->DM (List D)}(ha:DE X E a fa)(hr:DA X E es fs)(hs:notStar a=true:=by rfl):DA X E (a::es) (λδ=>fa δ>>=λx=>fs δ>>=λxs=>pure (x::xs)):=⟨⟨PA.mono (Q5 ha.h hr.h hs).h λσ H Q h=>by obtain⟨ρ,δ,M,ev,j,g1⟩:=h;exact⟨ρ,δ,M,ev,j,g1.bind λρ1 H1 M1 x dx e1 j1 c1 g2=>⟨ρ1,δ,M1,ev.mono e1,j1,g2.bind λρ2 H2 M2 xs dxs e2 j2 c2 g3=>g3.pure ρ2 H2 _ .refl j2 (.cons (c1.mono e2) c2)⟩⟩⟩⟩
def eY{α:Type}(l:List α):Bool:=decide (l.length<=sizeLine)
def fY(l:List D):DM D:=opt (if eY l then some (.tup l) else none)
def gB(l:List D):DM D:=opt (if eY l then some (.lst l) else none)
def eE(l:List D):DM D:=λM=>if eY l then some (.ok (.ref M.length),M++[.lst l]) else none
set_option tactic.hygienic true in
def vq{l:List D}{d e:D}(h:(if eY l then some d else none)=some e):l.length<=sizeLine/\d=e:=by
 split at h
 ·cases h;exact⟨UT ‹_›,rfl⟩
 ·cases h
variable{es:List Expr}{fs:ao->DM (List D)}
def bH{x1}(h:DA X E es fs):DE X E (.Tuple es x1 pos) (λδ=>fs δ>>=fY):=⟨PE.mono (JV h.h) λσ H Q h=>by
 obtain⟨ρ,δ,M,ev,j,g1⟩:=h;refine⟨ρ,δ,M,ev,j,g1.bind λρ1 H1 M1 xs dxs e1 j1 c1 g2=>?_⟩
 obtain⟨d,e,q⟩:=Go.opt g2;obtain⟨hz,rfl⟩:=vq e;exact⟨by rw[c1.len];exact hz,λp hp=>q ρ1 _ _ (.lay hp) (j1.lay _ hp) (.tup (j1.fresh hp) upd_same (c1.mono (.lay hp)))⟩⟩
def bV(h:DA X E es fs):DE X E (.List es pos) (λδ=>fs δ>>=gB):=⟨PE.mono (Bt h.h) λσ H Q h=>by
 obtain⟨ρ,δ,M,ev,j,g1⟩:=h;refine⟨ρ,δ,M,ev,j,g1.bind λρ1 H1 M1 xs dxs e1 j1 c1 g2=>?_⟩
 obtain⟨d,e,q⟩:=Go.opt g2;obtain⟨hz,rfl⟩:=vq e;exact⟨by rw[c1.len];exact hz,λp hp=>q ρ1 _ _ (.lay hp) (j1.lay _ hp) (.lst (j1.fresh hp) upd_same (c1.mono (.lay hp)))⟩⟩
set_option tactic.hygienic true in
theorem Go.eE{mg:Str->Option Value}{ρ:Rh}{H:Hp}{M:Mo}{Q:VK}{l:List D}{xs:List V}{p:Addr}(g:Go mg E (Cv mg) Q ρ H (eE l) M)(j:J mg ρ M H)(c:Cvs mg ρ H xs l)(hp:H p=none):l.length<=sizeLine/\Q (.ref p) (upd H p (.lst xs)):=by
 obtain⟨r,e,q⟩:=g;unfold L3.eE at e;split at e
 ·cases e;refine⟨UT ‹_›,?_⟩;have x:Ext ρ H (ρ.put p) (upd H p (.lst xs)):=.put hp;refine q _ _ _ x (j.put hp ⟨xs,upd_same,c.mono x⟩) (.ref ?_);show (ρ.st++[p])[_]?=_;rw[<-j.len];simp
 ·cases e
set_option tactic.hygienic true in
def Go.mkR_len{mg:Str->Option Value}{ρ:Rh}{H:Hp}{M:Mo}{Q:VK}{l:List D}(g:Go mg E (Cv mg) Q ρ H (L3.eE l) M):l.length<=sizeLine:=by
 obtain⟨r,e,q⟩:=g;unfold L3.eE at e;split at e
 ·exact UT ‹_›
 ·cases e
def nj(h:DA X E es fs):DE X E (.List es pos) (λδ=>fs δ>>=eE):=⟨PE.mono (Bt h.h) λσ H Q h=>by
 obtain⟨ρ,δ,M,ev,j,g1⟩:=h;refine⟨ρ,δ,M,ev,j,g1.bind λρ1 H1 M1 xs dxs e1 j1 c1 g2=>?_⟩
 exact⟨by rw[c1.len];exact g2.mkR_len,λp hp=>(g2.eE j1 c1 hp).2⟩⟩
end
section
variable{X:Cx}{E:XK}{mg:Str->Option Value}{ρ:Rh}{H:Hp}{M:Mo}
def Go.rdb(g:Go mg E rel Q ρ H (L3.rd f>>=k) M):∃a,f M=some a/\Go mg E rel Q ρ H (k a) M:=by
 obtain⟨r,e,p⟩:=g;have e:DM.bind _ _ M=some r:=e;unfold DM.bind L3.rd at e;cases h:f M with
 |none=>rw[h]at e;cases e
 |some a=>rw[h]at e;exact⟨a,rfl,r,e,p⟩
def bZ.of{f:Value->Value->Sem Value}{g:D->D->Mo->Option D}(hr:OpR X f r)
  (h:∀x y H Q ρ M dx dy d,J X.mg ρ M H->Cv X.mg ρ H x dx->Cv X.mg ρ H y dy->g dx dy M=some d->(∀ρ' H' v,Ext ρ H ρ' H'->J X.mg ρ' M H'->Cv X.mg ρ' H' v d->Q v H')->r x y H Q):bZ X E f (λx y=>rd (g x y)):=by
 intro Xe s σ H x y v u Q I rx ry q;obtain⟨ρ,M,dx,dy,j,cx,cy,go⟩:=q;obtain⟨d,e,p⟩:=go.rd;exact hr Xe s σ H x y v u Q I rx ry (h x y H Q ρ M dx dy d j cx cy e p)
def bj:D->Mo->Option (List D)
 |.lst l,_=>some l
 |.ref n,M=>match M[n]? with
   |some (.lst l)=>some l
   |_=>none
 |_,_=>none
set_option tactic.hygienic true in
def dj(j:J mg ρ M H){l:List D}(c:Cv mg ρ H x d)(e:bj d M=some l):∃ a xs,x=.ref a/\H a=some (.lst xs)/\Cvs mg ρ H xs l:=by
 cases c with
 |lst n h c=>cases e;exact⟨_,_,rfl,h,c⟩
 | ref q=>
   unfold bj at e;dsimp only at e;split at e
   ·rename_i l' hl;cases e;obtain⟨xs,h,c⟩:=j.obj _ _ _ q hl;exact⟨_,_,rfl,h,c⟩
   ·cases e
 |_=>cases e
def J.notup(j:J mg ρ M H)(h:H p=Option.some (HO.tup xs)):p∉ρ:=λz=>by
 rcases z with z | z
 rotate_left
 ·obtain⟨_,ys,e⟩:=j.vol p z;rw[h]at e;cases e
 obtain⟨n,hn⟩:=VN.mp z;have lt:n<M.length:=by rw[<-j.len];exact (S5.mp hn).1
 have c:=j.obj n p M[n] hn (Tg lt);cases hm:M[n] with
 |lst l=>rw[hm]at c;obtain⟨xs,e,_⟩:=c;rw[h]at e;cases e
 |dic ks l=>rw[hm]at c;obtain⟨xs,e,_⟩:=c;rw[h]at e;cases e
 |ins c' ns l=>rw[hm]at c;obtain⟨_,_,_,_,e,_⟩:=c;rw[h]at e;cases e
def Ou(l:List D):Option D:=if eY l then some (.tup l) else none
def Ht(l:List D):Option D:=if eY l then some (.lst l) else none
def cU:D->D->Mo->Option D
 |.int i,.int j,_=>some (.int (i+j))
 |.str a,.str b,_=>if a.length+b.length<=sizeLine then some (.str (a++b)) else none
 |.tup l,.tup m,_=>Ou (l++m)
 |x,y,M=>match bj x M,bj y M with
   |some l,some m=>Ht (l++m)
   |_,_=>none
set_option tactic.hygienic true in
def GX(h:cU x y M=some d):(∃ i j,x=.int i/\y=.int j/\d=.int (i + j))\/(∃ a b,x=.str a/\y=.str b/\a.length + b.length<=sizeLine/\d=.str (a++b))\/(∃ l m,x=.tup l/\y=.tup m/\l.length + m.length<=sizeLine/\d=.tup (l++m)) \/
  ∃l m,bj x M=some l/\bj y M=some m/\l.length+m.length<=sizeLine/\d=.lst (l++m):=by
 unfold cU at h;split at h
 ·cases h;exact .inl ⟨_,_,rfl,rfl,rfl⟩
 ·split at h
  ·cases h;exact .inr (.inl ⟨_,_,rfl,rfl,‹_›,rfl⟩)
  ·cases h
 ·obtain⟨hz,rfl⟩:=vq h;rw[TF]at hz;exact .inr (.inr (.inl ⟨_,_,rfl,rfl,hz,rfl⟩))
 ·split at h
  ·rename_i l m h1 h2;obtain⟨hz,rfl⟩:=vq h;rw[TF]at hz;exact .inr (.inr (.inr ⟨l,m,h1,h2,hz,rfl⟩))
  ·cases h
def bz:bZ X E (binaryOp .Add) (λx y=>rd (cU x y)):=by
 refine bZ.of (op_add.or (op_add_str.or (JQ.or op_cat))) λx y H Q ρ M dx dy d j cx cy e q=>?_
 rcases GX e with ⟨i,k,rfl,rfl,rfl⟩ | ⟨i,k,rfl,rfl,hz,rfl⟩ | ⟨l,m,rfl,rfl,hz,rfl⟩ | ⟨l,m,h1,h2,hz,rfl⟩
 ·cases cx;cases cy;exact .inl ⟨_,_,rfl,rfl,q ρ H _ .refl j (.int _)⟩
 ·cases cx;cases cy;exact .inr (.inl ⟨_,_,rfl,rfl,hz,q ρ H _ .refl j (.str _)⟩)
 ·cases cx with | tup n1 a1 c1=>cases cy with | tup n2 a2 c2=>
  refine .inr (.inr (.inl ⟨_,_,_,_,rfl,rfl,a1,a2,by rw[c1.len,c2.len];exact hz,λp H' S hp=>?_⟩))
  exact q ρ H' _ (.same S) (j.same S) (.tup ((j.same S).notup hp) hp ((c1.append c2).mono (.same S)))
 ·obtain⟨a1,x1,rfl,a2,c1⟩:=dj j cx h1;obtain⟨b1,y1,rfl,b2,c2⟩:=dj j cy h2;refine .inr (.inr (.inr ⟨_,_,_,_,rfl,rfl,a2,b2,by rw[c1.len,c2.len];exact hz,λp hp=>?_⟩))
  exact q ρ _ _ (.lay hp) (j.lay _ hp) (.lst (j.fresh hp) upd_same ((c1.append c2).mono (.lay hp)))
def cW(C:Int->Int->Bool)(g:Int->Int->D):D->D->Mo->Option D
 |.int i,.int j,_=>if C i j then some (g i j) else none
 |_,_,_=>none
set_option tactic.hygienic true in
def vZ(h:cW C g x y M=some d):∃i j,x=.int i/\y=.int j/\C i j=true/\d=g i j:=by
 unfold cW at h;split at h
 ·split at h
  ·cases h;exact⟨_,_,rfl,rfl,‹_›,rfl⟩
  ·cases h
 ·cases h
def rW{f:Value->Value->Sem Value}{C:Int->Int->Bool}{g:Int->Int->Int}{P:Int->Int->Prop}(hr:OpR X f (rI P λi j=>.int (g i j)))(hc:∀i j,C i j=true->P i j):bZ X E f (λx y=>rd (cW C (λi j=>.int (g i j)) x y)):=
 bZ.of hr λx y H Q ρ M dx dy d j cx cy e q=>by obtain⟨i,k,rfl,rfl,hh,rfl⟩:=vZ e;cases cx;cases cy;exact⟨_,_,rfl,rfl,hc _ _ hh,q ρ H _ .refl j (.int _)⟩
def uh{f:Value->Value->Sem Value}{g:Int->Int->Int}(hr:OpR X f (rI0 λi j=>.int (g i j))):bZ X E f (λx y=>rd (cW (λz z=>true) (λi j=>.int (g i j)) x y)):=
 bZ.of hr λx y H Q ρ M dx dy d j cx cy e q=>by obtain⟨i,k,rfl,rfl,hh,rfl⟩:=vZ e;cases cx;cases cy;exact⟨_,_,rfl,rfl,q ρ H _ .refl j (.int _)⟩
def rT{f:Value->Value->Sem Value}{g:Int->Int->Bool}(hr:OpR X f (rI0 λi j=>.bl (g i j))):bZ X E f (λx y=>rd (cW (λz z=>true) (λi j=>.bl (g i j)) x y)):=
 bZ.of hr λx y H Q ρ M dx dy d j cx cy e q=>by obtain⟨i,k,rfl,rfl,hh,rfl⟩:=vZ e;cases cx;cases cy;exact⟨_,_,rfl,rfl,q ρ H _ .refl j (.bl _)⟩
abbrev q9:D->D->Mo->Option D:=cW (λ_ _=>true) λi j=>.int (i-j)
def rZ:bZ X E (binaryOp .Sub) (λx y=>rd (q9 x y)):=uh op_sub
def jn(i j:Int):Bool:=!(decide (Builtin.Int.intBits i > shortFactorBits)&&decide (Builtin.Int.intBits j > shortFactorBits)&&Builtin.Int.intTooBig (Builtin.Int.intBits i+Builtin.Int.intBits j))
def jn.ok(h:jn i j=true):IntMulOk i j:=λz=>by unfold jn at h;rw[z]at h;cases h
abbrev qF:D->D->Mo->Option D:=cW jn λi j=>.int (i*j)
def rY:bZ X E (binaryOp .Mult) (λx y=>rd (qF x y)):=rW JR λi j h=>jn.ok h
def rK(i j:Int):Bool:=decide (0<j)&&!Builtin.divisionGoesByPylong i j
def Hy:OpR X (binaryOp .FloorDiv) (rI (λi j=>rK i j=true) λi j=>.int (i / j)):=opI λi j z z z z z hc q=>by
 unfold rK at hc;have h0:0<j:=by have:=(V3 _ _).mp hc;exact UT this.1
 have h1:Builtin.divisionGoesByPylong i j=false:=by have:=(V3 _ _).mp hc;simpa using this.2
 have e:i.fdiv j=i / j:=Int.fdiv_eq_ediv_of_nonneg i (Int.le_of_lt h0);exact floordiv_int (Int.ne_of_gt h0) (by rw[e];exact q) (.inl h1)
abbrev uU:D->D->Mo->Option D:=cW rK λi j=>.int (i / j)
def o6:bZ X E (binaryOp .FloorDiv) (λx y=>rd (uU x y)):=rW Hy λi j h=>h
abbrev qD:D->D->Mo->Option D:=cW (λ_ j=>decide (0<j)) λi j=>.int (i%j)
def iy:bZ X E (binaryOp .Mod) (λx y=>rd (qD x y)):=rW op_mod λi j h=>UT h
def IK(i j:Int):Bool:=decide (0<=j/\j<=1000000/\i.natAbs<2^64)
abbrev HJ:D->D->Mo->Option D:=cW IK λi j=>.int (i^j.toNat)
def JT:bZ X E (binaryOp .Pow) (λx y=>rd (HJ x y)):=rW op_pow λi j h=>UT (p:=0<=j/\j<=1000000/\i.natAbs<2^64) h
abbrev vf:D->D->Mo->Option D:=cW (λ_ _=>true) λi j=>.bl (decide (i<j))
abbrev xr:D->D->Mo->Option D:=cW (λ_ _=>true) λi j=>.bl (decide (i<=j))
abbrev xq:D->D->Mo->Option D:=cW (λ_ _=>true) λi j=>.bl (decide (j<i))
abbrev Ew:D->D->Mo->Option D:=cW (λ_ _=>true) λi j=>.bl (decide (j<=i))
def nG:bZ X E (compareOp .Lt) (λx y=>rd (vf x y)):=rT op_lt
def jB:bZ X E (compareOp .LtE) (λx y=>rd (xr x y)):=rT op_le
def vm:bZ X E (compareOp .Gt) (λx y=>rd (xq x y)):=rT op_gt
def zK:bZ X E (compareOp .GtE) (λx y=>rd (Ew x y)):=rT op_ge
def eqP(x y:D):Option Bool:=match toPy x,toPy y with
 |some p,some q=>if p.canLay0&&q.canLay0&&decide (p.depth<=60) then some (PyData.eqv p q) else none
 |_,_=>none
def eqB:D->D->Option Bool
 |.str a,.str b=>some (decide (a=b))
 |x,y=>eqP x y
def cI(x y:D)(_:Mo):Option D:=(eqB x y).map .bl
def gC(x y:D)(_:Mo):Option D:=(eqB x y).map λb=>.bl (!b)
set_option tactic.hygienic true in
def Lp(h:eqP x y=some b):∃ p q,toPy x=some p/\toPy y=some q/\p.canLay0=true/\q.canLay0=true/\p.depth<=60/\b=PyData.eqv p q:=by
 unfold eqP at h;split at h
 ·rename_i p q h1 h2;split at h
  ·rename_i hc;cases h;simp only[Bool.and_eq_true,decide_eq_true_eq]at hc;exact⟨p,q,h1,h2,hc.1.1,hc.1.2,hc.2,rfl⟩
  ·cases h
 ·cases h
def Ln(h:eqB x y=some b):(∃a c,x=.str a/\y=.str c/\b=decide (a=c))\/eqP x y=some b:=by
 unfold eqB at h;split at h
 ·cases h;exact .inl ⟨_,_,rfl,rfl,rfl⟩
 ·exact .inr h
def Kl:decide (V.str a=V.str c)=decide (a=c):=by rw[T9];simp
def Br(h1:OpR X f (λx y H Q=>scal x y=true/\Q (.bl (n ^^ decide (x=y))) H))(h2:OpR X f (HQ X.K n)):bZ X E f (λx y=>rd λz=>(eqB x y).map λb=>.bl (n ^^ b)):=by
 intro Xe s σ H x y v u Q I rx ry q;obtain⟨ρ,M,dx,dy,j,cx,cy,g⟩:=q;obtain⟨d,e,q⟩:=Go.rd g;obtain⟨b,hb,rfl⟩:=Ti.mp e;rcases Ln hb with ⟨a,c,rfl,rfl,rfl⟩ | hb
 ·cases cx;cases cy;refine h1 Xe s σ H _ _ v u Q I rx ry ⟨rfl,?_⟩;rw[Kl];exact q ρ H _ .refl j (.bl _)
 ·obtain⟨p,p',k1,k2,h3,h4,h5,rfl⟩:=Lp hb;refine h2 Xe s σ H x y v u Q I rx ry ⟨p,p',(cx.repF k1).toRep,(cy.repF k2).toRep,h3,h4,h5,?_⟩;have:=q ρ H _ .refl j (.bl _);cases n
  ·simpa using this
  ·simpa using this
def bu(hu:X.A.units+64<cLine):bZ X E (compareOp .Eq) (λx y=>rd (cI x y)):=by
 have h:=Br (X:=X) (E:=E) (n:=false) (f:=compareOp .Eq) (λXe s σ H x y v u Q I rx ry q=>op_eq (X:=X) Xe s σ H x y v u Q I rx ry ⟨q.1,by simpa using q.2⟩) (Nq hu)
 have e:(λx y=>(rd (cI x y):DM D))=λx y=>rd λz=>(eqB x y).map λb=>.bl (false ^^ b):=by funext x y;show rd _=rd _;congr 1;funext M;simp only[cI,Bool.false_xor,Bool.true_xor]
 rw[e];exact h
def dN(hu:X.A.units+64<cLine):bZ X E (compareOp .NotEq) (λx y=>rd (gC x y)):=by
 have h:=Br (X:=X) (E:=E) (n:=true) (f:=compareOp .NotEq) (λXe s σ H x y v u Q I rx ry q=>op_ne (X:=X) Xe s σ H x y v u Q I rx ry ⟨q.1,by simpa using q.2⟩) (Nv hu)
 have e:(λx y=>(rd (gC x y):DM D))=λx y=>rd λz=>(eqB x y).map λb=>.bl (true ^^ b):=by funext x y;show rd _=rd _;congr 1;funext M;simp only[gC,Bool.false_xor,Bool.true_xor]
 rw[e];exact h
def QD:D->Bool
 |.non=>true
 |_=>false
def Ma(c:Cv mg ρ H x d):decide (x=.non)=QD d:=by cases c<;>rfl
def isD(x y:D)(_:Mo):Option D:=match y with
 |.non=>some (.bl (QD x))
 |_=>none
def vp:bZ X E (compareOp .Is) (λx y=>rd (isD x y)):=bZ.of op_isN λx y H Q ρ M dx dy d j cx cy e q=>by
 unfold isD at e;split at e
 ·cases e;cases cy;exact⟨rfl,by rw[Ma cx];exact q ρ H _ .refl j (.bl _)⟩
 ·cases e
theorem Cvs.rep(c:Cv mg ρ H v d):∀n,Cvs mg ρ H (List.replicate n v) (List.replicate n d)
 |0=>.nil
 |n+1=>.cons c (Cvs.rep c n)
def CZ(l:List D)(k:Int):Option (List D):=if decide (-(2^63)<=k/\k<2^63/\l.length*k.toNat<=sizeLine) then some (List.replicate k.toNat l).flatten else none
theorem Cvs.reps{vs:List V}{ds:List D}(c:Cvs mg ρ H vs ds):∀n,Cvs mg ρ H (List.replicate n vs).flatten (List.replicate n ds).flatten
 |0=>.nil
 |n+1=>by rw[U8,U8,Vv,Vv];exact c.append (Cvs.reps c n)
def mF(x y:D)(M:Mo):Option (List D):=match bj x M,y with
 |some l,.int k=>CZ l k
 |_,_=>none
set_option tactic.hygienic true in
def Bq{l:List D}(h:mF x y M=some l):∃ m k,bj x M=some m/\y=.int k/\(-(2 ^ 63)<=k/\k<2 ^ 63/\m.length * k.toNat<=sizeLine)/\l=(List.replicate k.toNat m).flatten:=by
 unfold mF at h;split at h
 ·rename_i m k h1;unfold CZ at h;split at h
  ·rename_i hk;cases h;exact⟨m,k,h1,rfl,UT hk,rfl⟩
  ·cases h
 ·cases h
def Bs:bZ X E (binaryOp .Mult) (λx y=>rd (λM=>(mF x y M).map .lst)):=bZ.of op_rep λx y H Q ρ M dx dy d j cx cy e q=>by
 obtain⟨l,e1,rfl⟩:=Ti.mp e;obtain⟨m,k,h1,rfl,⟨h2,h3,h4⟩,rfl⟩:=Bq e1;obtain⟨a,xs,rfl,ha,c⟩:=dj j cx h1;cases cy;refine⟨_,_,_,rfl,rfl,ha,h2,h3,by rw[c.len];exact h4,λp hp=>?_⟩
 exact q ρ _ _ (.lay hp) (j.lay _ hp) (.lst (j.fresh hp) upd_same ((Cvs.reps c _).mono (.lay hp)))
def MP(x y:D):DM D:=rd (mF x y)>>=eE
def JS:bZ X E (binaryOp .Mult) MP:=by intro Xe s σ H x y v u Q I rx ry q;obtain⟨ρ,M,dx,dy,j,cx,cy,go⟩:=q;obtain⟨l,e1,g⟩:=Go.rdb go;obtain⟨m,k,h1,rfl,⟨h2,h3,h4⟩,rfl⟩:=Bq e1;obtain⟨a,xs,rfl,ha,c⟩:=dj j cx h1;cases cy;exact op_rep (X:=X) Xe s σ H _ _ v u Q I rx ry ⟨_,_,_,rfl,rfl,ha,h2,h3,by rw[c.len];exact h4,λp hp=>(g.eE j (Cvs.reps c _) hp).2⟩
def qG:D->Mo->Option D
 |.int i,_=>some (.int (-i))
 |_,_=>none
def fJ(ha:DE X E a fa):DE X E (.UnaryOp .USub a pos) (λδ=>fa δ>>=λx=>rd (qG x)):=⟨PE.mono (pe_un un_neg ha.h) λσ H Q h=>by
 obtain⟨ρ,δ,M,ev,j,g1⟩:=h;refine⟨ρ,δ,M,ev,j,g1.bind λρ1 H1 M1 x dx e1 j1 c1 g2=>?_⟩
 obtain⟨d,e,q⟩:=g2.rd;unfold qG at e;split at e
 ·cases e;cases c1;exact⟨_,rfl,q ρ1 H1 _ .refl j1 (.int _)⟩
 ·cases e⟩
theorem Cvs.at(c:Cvs mg ρ H vs ds)(h:atI ds i=some d):∃v,atI vs i=some v/\Cv mg ρ H v d:=by
 unfold atI at h ⊢
 rw[c.len];obtain⟨n,hn,e⟩:=T4.mp h;obtain⟨v,e2,cv⟩:=c.get e;exact⟨v,by rw[hn];exact e2,cv⟩
def cg:D->D->Mo->Option D
 |.tup l,.int i,_=>atI l i
 |.scr l,.int i,_=>(atI l i).map .int
 |x,.int i,M=>(bj x M).bind λl=>atI l i
 |_,_,_=>none
def Qz(X:Cx)(E:XK)(g:D->D->DM D):Prop:=IxR X (rD X.mg E g)
set_option tactic.hygienic true in
def bw:Qz X E (λx y=>rd (cg x y)):=by
 intro value slice Xe s σ H x y v u Q I rx ry q hs;obtain⟨ρ,M,dx,dy,j,cx,cy,go⟩:=q;obtain⟨d,e,p⟩:=go.rd;unfold cg at e;split at e
 ·cases cy;cases cx with | tup n a c=>
  obtain⟨w,e2,cw⟩:=c.at e;exact ix_tup (X:=X) value slice Xe s σ H _ _ v u Q I rx ry ⟨_,_,_,_,rfl,rfl,SqT.of a,e2,p ρ H _ .refl j cw⟩ hs
 ·rename_i l i;cases cy;cases cx with | scr n a=>
  obtain⟨z,e1,rfl⟩:=Ti.mp e;have e2:atI (l.map V.int) i=some (V.int z):=by
   unfold atI at e1 ⊢
   rw[Te];obtain⟨n,hn,e⟩:=T4.mp e1;rw[hn];show (List.map V.int _)[n]?=_;rw[TV,e];rfl
  exact ix_list (X:=X) value slice Xe s σ H _ _ v u Q I rx ry ⟨_,_,_,_,rfl,rfl,.inl a,e2,p ρ H _ .refl j (.int z)⟩ hs
 ·cases cy;obtain⟨l,h1,e1⟩:=T4.mp e;obtain⟨a,xs,rfl,ha,c⟩:=dj j cx h1;obtain⟨w,e2,cw⟩:=c.at e1;exact ix_list (X:=X) value slice Xe s σ H _ _ v u Q I rx ry ⟨_,_,_,_,rfl,rfl,SqL.of ha,e2,p ρ H _ .refl j cw⟩ hs
 ·cases e
def aZ(hi:Qz X E g)(ha:DE X E a fa)(hb:DE X E b fb)(hs:PlainIx b:=by exact λw w=>rfl):DE X E (.Subscript a b pos) (λδ=>fa δ>>=λx=>fb δ>>=λy=>g x y):=
 ⟨PE.mono (pe_ix hi ha.h hb.h hs) λσ H Q h=>Bj (λw w w w z=>z) h⟩
def sW:D->DM (Option Int)
 |.int i=>pure (some i)
 |_=>stuck
def cutD(xs:List D)(lo hi:Option Int):List D:=(xs.drop (HT.sIx xs.length 0 lo)).take (HT.sIx xs.length xs.length hi-HT.sIx xs.length 0 lo)
def Cvs.cut(c:Cvs mg ρ H vs ds)(lo hi:Option Int):Cvs mg ρ H (cutV vs lo hi) (cutD ds lo hi):=by unfold cutV cutD;rw[c.len];exact (c.drop _).take _
structure DP(X:Cx)(E:XK)(e:Option Expr)(f:ao->DM (Option Int)):Prop where
 h:PO X e (tD X.mg E (λ_ _ (b a:Option Int)=>b=a) f)
def PO.mono(h:PO X e t)(f:∀σ H Q,t' σ H Q->t σ H Q):PO X e t':=λXe s σ H Q I q=>h Xe s σ H Q I (f σ H Q q)
def ir:DP X E none (λz=>pure none):=⟨PO.mono po_none λσ H Q h=>by obtain⟨ρ,δ,M,ev,j,g⟩:=h;exact g.pure ρ H none .refl j rfl⟩
def eQ(ha:DE X E a fa):DP X E (some a) (λδ=>fa δ>>=sW):=⟨PO.mono (po_some ha.h) λσ H Q h=>by
 obtain⟨ρ,δ,M,ev,j,g1⟩:=h;refine⟨ρ,δ,M,ev,j,g1.bind λρ1 H1 M1 x dx e1 j1 c1 g2=>?_⟩
 cases dx with
 |int i=>cases c1;exact⟨i,rfl,Go.pure (a:=some i) g2 ρ1 H1 _ .refl j1 rfl⟩
 |_=>obtain⟨r,e,_⟩:=g2;cases e⟩
def qZ(lo hi:Option Int):D->Mo->Option D
 |.tup l,_=>some (.tup (cutD l lo hi))
 |x,M=>(bj x M).map λl=>.lst (cutD l lo hi)
def Rb:SlR X (λx lo hi H Q=>∃ρ M dx d,J X.mg ρ M H/\Cv X.mg ρ H x dx/\qZ lo hi dx M=some d/\∀ρ' H' v,Ext ρ H ρ' H'->J X.mg ρ' M H'->Cv X.mg ρ' H' v d->Q v H'):=by
 intro Xe s σ H x v vl vu lo hi sl Q I rx hs pl pu h;obtain⟨ρ,M,dx,d,j,c,e,q⟩:=h;unfold qZ at e;split at e
 ·cases e;cases c with | tup n a c=>
  refine Kf (X:=X) Xe s σ H _ v vl vu lo hi sl Q I rx hs pl pu ⟨_,_,rfl,a,λp H' S hp=>?_⟩
  exact q ρ H' _ (.same S) (j.same S) (.tup ((j.same S).notup hp) hp ((c.cut lo hi).mono (.same S)))
 ·obtain⟨l,h1,rfl⟩:=Ti.mp e;obtain⟨a,xs,rfl,ha,c⟩:=dj j c h1;refine sl_list (X:=X) Xe s σ H _ v vl vu lo hi sl Q I rx hs pl pu ⟨_,_,rfl,SqL.of ha,λp hp=>?_⟩
  exact q ρ _ _ (.lay hp) (j.lay _ hp) (.lst (j.fresh hp) upd_same ((c.cut lo hi).mono (.lay hp)))
def fK{fa:ao->DM D}{lo hi:Option Expr}{fl fh:ao->DM (Option Int)}(ha:DE X E a fa)(hl:DP X E lo fl)(hh:DP X E hi fh):
  DE X E (.Subscript a (.Slice lo hi none p2) pos) (λδ=>fa δ>>=λx=>fl δ>>=λl=>fh δ>>=λh=>rd (qZ l h x)):=⟨PE.mono (pe_slice Rb ha.h hl.h hh.h) λσ H Q h=>by
 obtain⟨ρ,δ,M,ev,j,g1⟩:=h;refine⟨ρ,δ,M,ev,j,g1.bind λρ1 H1 M1 x dx e1 j1 c1 g2=>⟨ρ1,δ,M1,ev.mono e1,j1,g2.bind λρ2 H2 M2 l dl e2 j2 c2 g3=>⟨ρ2,δ,M2,(ev.mono e1).mono e2,j2,g3.bind λρ3 H3 M3 h dh e3 j3 c3 g4=>?_⟩⟩⟩
 have c2:l=dl:=c2;have c3:h=dh:=c3;subst c2 c3;obtain⟨d,e,q⟩:=g4.rd;exact⟨ρ3,M3,dx,d,j3,(c1.mono e2).mono e3,e,q⟩⟩
end
inductive Fl where
 |nx (δ:ao) | rt (d:D) | bk (δ:ao) | ct (δ:ao)
def rG(mg:Str->Option Value)(ρ:Rh)(H:Hp)(D:Ends)(E:XK):R Fl×Mo->Prop
 |(.ok (.nx δ'),M')=>∀ρ' H' σ',Ext ρ H ρ' H'->J mg ρ' M' H'->Ev mg ρ' H' σ' δ'->D.nx σ' H'
 |(.ok (.bk δ'),M')=>∀ρ' H' σ',Ext ρ H ρ' H'->J mg ρ' M' H'->Ev mg ρ' H' σ' δ'->D.bk σ' H'
 |(.ok (.ct δ'),M')=>∀ρ' H' σ',Ext ρ H ρ' H'->J mg ρ' M' H'->Ev mg ρ' H' σ' δ'->D.ct σ' H'
 |(.ok (.rt d),M')=>∀ρ' H' v,Ext ρ H ρ' H'->J mg ρ' M' H'->Cv mg ρ' H' v d->D.rt v H'
 |(.exc c,M')=>∀ρ' H' C,Ext ρ H ρ' H'->J mg ρ' M' H'->mg c=some (.ref C)->E (.ref C) none H'
def bK(mg:Str->Option Value)(E:XK)(D:Ends)(ρ:Rh)(H:Hp)(m:DM Fl)(M:Mo):Prop:=∃r,m M=some r/\rG mg ρ H D E r
section
variable{mg:Str->Option Value}{ρ ρ':Rh}{H H':Hp}{E:XK}{α β:Type}{rel:Rh->Hp->β->α->Prop}{D D':Ends}{Q':β->Hp->Prop}{M:Mo}
def rG.mono(e:Ext ρ H ρ' H')(h:rG mg ρ H D E r):rG mg ρ' H' D E r:=by
 obtain⟨r,M'⟩:=r;cases r with
 |ok a=>cases a<;>exact λρ2 H2 b e2 j c=>h ρ2 H2 b (e.trans e2) j c
 |exc c=>exact λρ2 H2 C e2 j m=>h ρ2 H2 C (e.trans e2) j m
set_option tactic.hygienic true in
theorem bK.bind(g:bK mg E D ρ H (m>>=k) M)
  (f:∀ρ1 H1 M1 b a,Ext ρ H ρ1 H1->J mg ρ1 M1 H1->rel ρ1 H1 b a->bK mg E D ρ1 H1 (k a) M1->Q' b H1):Go mg E rel Q' ρ H m M:=by
 obtain⟨r,e,p⟩:=g;have e:DM.bind m k M=some r:=e;unfold DM.bind at e;split at e
 ·cases e
 ·rename_i c M' em;cases e;exact⟨_,em,p⟩
 ·rename_i a M' em;exact⟨_,em,λρ1 H1 b x j c=>f ρ1 H1 M' b a x j c ⟨r,e,p.mono x⟩⟩
theorem bK.pure(g:bK mg E D ρ H (pure a) M):rG mg ρ H D E (.ok a,M):=by obtain⟨r,e,p⟩:=g;have e:some (R.ok a,M)=some r:=e;cases e;exact p
def m5(f g:ao->DM Fl):ao->DM Fl:=λδ=>f δ>>=λr=>match r with
 |.nx δ'=>g δ'
 |r=>Pure.pure r
set_option tactic.hygienic true in
def bK.seq(g:bK mg E D ρ H (f>>=k) M)
  (hn:∀δ' ρ1 H1 M1 σ1,Ext ρ H ρ1 H1->J mg ρ1 M1 H1->Ev mg ρ1 H1 σ1 δ'->bK mg E D ρ1 H1 (k (.nx δ')) M1->D'.nx σ1 H1)
  (hb:∀δ' ρ1 H1 M1 σ1,Ext ρ H ρ1 H1->J mg ρ1 M1 H1->Ev mg ρ1 H1 σ1 δ'->bK mg E D ρ1 H1 (k (.bk δ')) M1->D'.bk σ1 H1)
  (hc:∀δ' ρ1 H1 M1 σ1,Ext ρ H ρ1 H1->J mg ρ1 M1 H1->Ev mg ρ1 H1 σ1 δ'->bK mg E D ρ1 H1 (k (.ct δ')) M1->D'.ct σ1 H1)
  (hr:∀d ρ1 H1 M1 v,Ext ρ H ρ1 H1->J mg ρ1 M1 H1->Cv mg ρ1 H1 v d->bK mg E D ρ1 H1 (k (.rt d)) M1->D'.rt v H1):bK mg E D' ρ H f M:=by
 obtain⟨r,e,p⟩:=g;have e:DM.bind f k M=some r:=e;unfold DM.bind at e;split at e
 ·cases e
 ·rename_i c M' em;cases e;exact⟨_,em,p⟩
 ·rename_i a M' em;refine⟨_,em,?_⟩;cases a with
  |nx δ'=>exact λρ1 H1 b x j c=>hn δ' ρ1 H1 M' b x j c ⟨r,e,p.mono x⟩
  |bk δ'=>exact λρ1 H1 b x j c=>hb δ' ρ1 H1 M' b x j c ⟨r,e,p.mono x⟩
  |ct δ'=>exact λρ1 H1 b x j c=>hc δ' ρ1 H1 M' b x j c ⟨r,e,p.mono x⟩
  |rt d=>exact λρ1 H1 b x j c=>hr d ρ1 H1 M' b x j c ⟨r,e,p.mono x⟩
end
def tS(mg:Str->Option Value)(E:XK)(f:ao->DM Fl):TS:=λD σ H=>∃ρ δ M,Ev mg ρ H σ δ/\J mg ρ M H/\bK mg E D ρ H (f δ) M
structure DS(X:Cx)(E:XK)(st:Stmt)(f:ao->DM Fl):Prop where
 h:PS X st (tS X.mg E f)
structure DSs(X:Cx)(E:XK)(st:List Stmt)(f:ao->DM Fl):Prop where
 h:PSs X st (tS X.mg E f)
def PS.mono(h:PS X e t)(f:∀D σ H,t' D σ H->t D σ H):PS X e t':=λXe s σ H D I q=>h Xe s σ H D I (f D σ H q)
def PSs.mono(h:PSs X e t)(f:∀D σ H,t' D σ H->t D σ H):PSs X e t':=λXe s σ H D I q=>h Xe s σ H D I (f D σ H q)
section
variable{X:Cx}{E:XK}{st:Stmt}{rest:List Stmt}{f g:ao->DM Fl}{e:Expr}{fe:ao->DM D}{pos:Pos}
def aU:DSs X E [] (λδ=>pure (.nx δ)):=⟨PSs.mono pss_nil λD σ H h=>by obtain⟨ρ,δ,M,ev,j,g⟩:=h;exact g.pure ρ H σ .refl j ev⟩
def aD(h:DS X E st f):DSs X E [st] f:=⟨pss_one h.h⟩
def az(h1:DS X E st f)(h2:DSs X E rest g):DSs X E (st::rest) (m5 f g):=⟨PSs.mono (pss_cons h1.h h2.h) λD σ H h=>by
 obtain⟨ρ,δ,M,ev,j,g1⟩:=h;refine⟨ρ,δ,M,ev,j,g1.seq (λδ' ρ1 H1 M1 σ1 e1 j1 ev1 g2=>⟨ρ1,δ',M1,ev1,j1,g2⟩) (λδ' ρ1 H1 M1 σ1 e1 j1 ev1 g2=>?_) (λδ' ρ1 H1 M1 σ1 e1 j1 ev1 g2=>?_) (λd ρ1 H1 M1 v e1 j1 c1 g2=>?_)⟩
 ·exact bK.pure g2 ρ1 H1 σ1 .refl j1 ev1
 ·exact bK.pure g2 ρ1 H1 σ1 .refl j1 ev1
 ·exact bK.pure g2 ρ1 H1 v .refl j1 c1⟩
def aM(he:DE X E e fe):DS X E (.Return (some e) pos) (λδ=>fe δ>>=λd=>pure (.rt d)):=⟨PS.mono (L2.ps_ret he.h) λD σ H h=>by obtain⟨ρ,δ,M,ev,j,g1⟩:=h;exact⟨ρ,δ,M,ev,j,g1.bind λρ1 H1 M1 v d e1 j1 c1 g2=>g2.pure ρ1 H1 v .refl j1 c1⟩⟩
def cz(he:DE X E e fe)(hs:swapsWith e none pos.line X.env=pure false:=by rfl):DS X E (.Expr e pos) (λδ=>fe δ>>=λz=>pure (.nx δ)):=⟨PS.mono (ps_expr he.h hs) λD σ H h=>by obtain⟨ρ,δ,M,ev,j,g1⟩:=h;exact⟨ρ,δ,M,ev,j,g1.bind λρ1 H1 M1 v d e1 j1 c1 g2=>g2.pure ρ1 H1 σ .refl j1 (ev.mono e1)⟩⟩
def bf(hN:X.N.Nodup)(hi:X.N[i]?=some x)(hx:Loc X.env.scope x)(he:DE X E e fe)(hs:swapsWith e (some (.Name x pos')) pos.line X.env=pure false:=by rfl)(hf:X.fn x=true\/X.env.scope.names.lookup x=some .local:=by first | exact .inl rfl | exact .inr rfl | assumption):
  DS X E (.Assign [.Name x pos'] e pos) (λδ=>fe δ>>=λd=>pure (.nx (δ.set i (some d)))):=⟨PS.mono (ps_set hN hi hx he.h hs hf) λD σ H h=>by
 obtain⟨ρ,δ,M,ev,j,g1⟩:=h;exact⟨ρ,δ,M,ev,j,g1.bind λρ1 H1 M1 v d e1 j1 c1 g2=>g2.pure ρ1 H1 _ .refl j1 ((ev.mono e1).set c1)⟩⟩
def bx(hc:DT X E c tc)(ha:DSs X E a f)(hb:DSs X E b g):DS X E (.If c a b pos) (λδ=>tc δ>>=λk=>if k then f δ else g δ):=⟨PS.mono (L2.ps_if hc.h ha.h hb.h) λD σ H h=>by
 obtain⟨ρ,δ,M,ev,j,g1⟩:=h;refine⟨ρ,δ,M,ev,j,g1.bind λρ1 H1 M1 x dx e1 j1 c1 g2=>?_⟩
 have c1:x=dx:=c1;subst c1;cases x with
 |true=>exact iteT ⟨ρ1,δ,M1,ev.mono e1,j1,g2⟩
 |false=>exact iteF ⟨ρ1,δ,M1,ev.mono e1,j1,g2⟩⟩
def tG(mg:Str->Option Value)(E:XK)(fg:D->ao->DM ao):TG:=λv σ H Q=>∃ρ δ M d,Ev mg ρ H σ δ/\J mg ρ M H/\Cv mg ρ H v d/\Go mg E (Ev mg) Q ρ H (fg d δ) M
def R5(mg:Str->Option Value)(E:XK)(fg:List D->ao->DM ao):TGs:=λvs σ H Q=>∃ρ δ M ds,Ev mg ρ H σ δ/\J mg ρ M H/\Cvs mg ρ H vs ds/\Go mg E (Ev mg) Q ρ H (fg ds δ) M
structure DG(X:Cx)(E:XK)(tg:Expr)(fg:D->ao->DM ao):Prop where
 h:PG X tg (tG X.mg E fg)
structure DGs(X:Cx)(E:XK)(tg:List Expr)(fg:List D->ao->DM ao):Prop where
 h:PGs X tg (R5 X.mg E fg)
def PG.mono(h:PG X tg t)(f:∀v σ H Q,t' v σ H Q->t v σ H Q):PG X tg t':=λXe s σ H v u Q I r q=>h Xe s σ H v u Q I r (f v σ H Q q)
def PGs.mono(h:PGs X tg t)(f:∀v σ H Q,t' v σ H Q->t v σ H Q):PGs X tg t':=λXe s σ H v u Q I r q=>h Xe s σ H v u Q I r (f v σ H Q q)
def gN(i:Nat):D->ao->DM ao:=λd δ=>pure (δ.set i (some d))
def bB(hN:X.N.Nodup)(hi:X.N[i]?=some x)(hx:Loc X.env.scope x)(hf:X.fn x=true\/X.env.scope.names.lookup x=some .local:=by first | exact .inl rfl | exact .inr rfl | assumption):DG X E (.Name x pos) (gN i):=
 ⟨PG.mono (pg_name hN hi hx hf) fun v σ H Q h=>by obtain⟨ρ,δ,M,d,ev,j,c,g1⟩:=h;exact Go.pure g1 ρ H _ .refl j (ev.set c)⟩
def iI:List D->ao->DM ao
 |[],δ=>pure δ
 |_,_=>stuck
def cF(f:D->ao->DM ao)(fs:List D->ao->DM ao):List D->ao->DM ao
 |d::l,δ=>f d δ>>=λδ'=>fs l δ'
 |_,_=>stuck
def nq:DGs X E [] iI:=⟨PGs.mono pgs_nil λvs σ H Q h=>by
 obtain⟨ρ,δ,M,ds,ev,j,c,g1⟩:=h;cases c with
 |nil=>exact⟨rfl,Go.pure (a:=δ) g1 ρ H σ .refl j ev⟩
 |cons _ _=>obtain⟨r,e,_⟩:=g1;cases e⟩
def cP(h1:DG X E e fg)(h2:DGs X E es fgs)(hs:(assignEach (e::es) X.env).map (·.2)=assign e X.env::(assignEach es X.env).map (·.2):=by rfl):DGs X E (e::es) (cF fg fgs):=
 ⟨PGs.mono (pgs_cons h1.h h2.h hs) fun vs σ H Q h=>by
  obtain⟨ρ,δ,M,ds,ev,j,c,g1⟩:=h;cases c with
  |nil=>obtain⟨r,e,_⟩:=g1;cases e
  |cons c1 c2=>
    have g1:Go X.mg E (Ev X.mg) Q ρ H (fg _ δ>>=λδ'=>fgs _ δ') M:=g1
    exact⟨_,_,rfl,ρ,δ,M,_,ev,j,c1,g1.bind λρ1 H1 M1 σ1 δ1 e1 j1 ev1 g2=>⟨ρ1,δ1,M1,_,ev1,j1,c2.mono e1,g2⟩⟩⟩
def gT(n:Nat)(fs:List D->ao->DM ao):D->ao->DM ao
 |.tup l,δ=>if l.length=n then fs l δ else stuck
 |_,_=>stuck
set_option tactic.hygienic true in
def qp(hc:X.calm=true)(h:DGs X E es fgs)(hn:(assignEach es X.env).length=n:=by rfl)(hst:(assignEach es X.env).findIdx? (·.1)=none:=by rfl):DG X E (.Tuple es k pos) (gT n fgs):=
 ⟨PG.mono (pg_tup hc h.h hn hst) fun v σ H Q h=>by
  obtain⟨ρ,δ,M,d,ev,j,c,g1⟩:=h;cases c with
  | tup nx a c=>
    have g1:Go X.mg E (Ev X.mg) Q ρ H (if _ then _ else _) M:=g1
    split at g1
    ·rename_i hl;exact⟨_,_,rfl,SqT.of a,by rw[c.len];exact hl,ρ,δ,M,_,ev,j,c,g1⟩
    ·obtain⟨r,e,_⟩:=g1;cases e
  |_=>obtain⟨r,e,_⟩:=g1;cases e⟩
def Df:D->D->D->DM Unit
 | .ref n,.int k,v=>λM=>match M[n]? with
   |some (.lst l)=>match ixN l.length k with
     |some j=>some (.ok (),M.set n (.lst (l.set j v)))
     |none=>none
   |_=>none
 |_,_,_=>stuck
def IV(mg:Str->Option Value)(E:XK)(gs:D->D->D->DM Unit):TSet:=λo i v H Q=>∃ρ M dO di dv,J mg ρ M H/\Cv mg ρ H o dO/\Cv mg ρ H i di/\Cv mg ρ H v dv/\Go mg E (λ_ _ (_:Unit) (_:Unit)=>True) (λz H'=>Q H') ρ H (gs dO di dv) M
set_option tactic.hygienic true in
def vL:PSet X (IV X.mg E Df):=by
 intro Xe s σ H o i v ov iv u Q I ro ri rv h;obtain⟨ρ,M,dO,di,dv,j,co,ci,cv,r,e,p⟩:=h;cases co with
 | ref hn=>
   cases ci with
   | int k=>
     rename_i n a;have e:(match M[n]? with
      |some (.lst l)=>match ixN l.length k with
        |some j=>some (R.ok (),M.set n (.lst (l.set j dv)))
        |none=>none
      |_=>none)=some r:=e
     split at e
     ·rename_i l hl;split at e
      ·rename_i q hq;cases e;obtain⟨xs,hx,c⟩:=j.obj _ _ _ hn hl;have x:Ext ρ H ρ (upd H a (.lst (xs.set q v))):=.upd (T5 hn);exact set_list (X:=X) Xe s σ H _ _ v ov iv u Q I ro ri rv ⟨_,_,_,q,rfl,rfl,hx,by rw[c.len];exact hq,p ρ _ () x (j.upd hn ⟨_,upd_same,(c.set cv q).mono x⟩) trivial⟩
      ·cases e
     ·cases e
   |_=>cases e
 |_=>cases e
def uP(ho:DE X E o fo)(hi:DE X E i fi)(hs:PSet X (IV X.mg E gs))
  (ha:∀v,assign (.Subscript o i pos) X.env v=(do
    let ov <-holding [v] (eval o X.env)
    let iv <-holding [v,ov] (eval i X.env)
    standAt pos
    holding [v,ov,iv] (setItem ov iv v)
    release [v,ov,iv] []):=by intro _;rfl):DG X E (.Subscript o i pos) (λd δ=>fo δ>>=λo=>fi δ>>=λi=>gs o i d>>=λz=>pure δ):=
 ⟨PG.mono (pg_sub ho.h hi.h hs ha) fun v σ H Q h=>by obtain⟨ρ,δ,M,d,ev,j,c,g1⟩:=h;exact⟨ρ,δ,M,ev,j,g1.bind λρ1 H1 M1 x dx e1 j1 c1 g2=>⟨ρ1,δ,M1,ev.mono e1,j1,g2.bind λρ2 H2 M2 y dy e2 j2 c2 g3=>⟨ρ2,M2,dx,dy,d,j2,c1.mono e2,c2,(c.mono e1).mono e2,g3.bind λρ3 H3 M3 _ _ e3 j3 _ g4=>g4.pure ρ3 H3 σ .refl j3 (((ev.mono e1).mono e2).mono e3)⟩⟩⟩⟩
def lq(he:DE X E e fe)(hg:DG X E tg fg)(hs:swapsWithSole [tg] e pos.line X.env=pure false:=by rfl)(hw:swappedStores [tg] e X.env=pure none:=by rfl)
  (h1:(assignEach [tg] X.env).map (·.2)=[assign tg X.env]:=by rfl):DS X E (.Assign [tg] e pos) (λδ=>fe δ>>=λd=>fg d δ>>=λδ'=>pure (.nx δ')):=⟨PS.mono (ps_asg he.h hg.h hs hw h1) λD σ H h=>by
 obtain⟨ρ,δ,M,ev,j,g1⟩:=h;exact⟨ρ,δ,M,ev,j,g1.bind λρ1 H1 M1 v d e1 j1 c1 g2=>⟨ρ1,δ,M1,d,ev.mono e1,j1,c1,g2.bind λρ2 H2 M2 σ2 δ2 e2 j2 ev2 g3=>g3.pure ρ2 H2 σ2 .refl j2 ev2⟩⟩⟩
def NB(i j:Nat)(fa:ao->DM (List D)):ao->DM Fl:=λδ=>fa δ>>=λl=>match l with
 |[v,w]=>pure (.nx ((δ.set i (some v)).set j (some w)))
 |_=>stuck
def yR{kt k2 pt2}(hc:X.calm=true)(hN:X.N.Nodup)(hi:X.N[i]?=some x)(hj:X.N[j]?=some y)(hij:i≠j)
  (hx:X.env.scope.names.lookup x=some .local) (hy:X.env.scope.names.lookup y=some .local) (ha:DA X E [a,b] fa)
  (hw:swappedStores [.Tuple [.Name x px,.Name y py] kt pt] (.Tuple [a,b] k2 pt2) X.env=pure (some [x,y]))
  (hs:swapsWithSole [.Tuple [.Name x px,.Name y py] kt pt] (.Tuple [a,b] k2 pt2) pos.line X.env=pure false:=by rfl) :
  DS X E (.Assign [.Tuple [.Name x px,.Name y py] kt pt] (.Tuple [a,b] k2 pt2) pos) (NB i j fa):=⟨PS.mono (ps_par hc hN hi hj hij hx hy ha.h.h hw hs) λD σ H h=>by
 obtain⟨ρ,δ,M,ev,j,g1⟩:=h;refine⟨ρ,δ,M,ev,j,bK.bind g1 λρ1 H1 M1 v d e1 j1 c1 g2=>?_⟩
 cases c1 with
 |nil=>obtain⟨r,e,_⟩:=g2;cases e
 | cons c1 c2=>cases c2 with
   |nil=>obtain⟨r,e,_⟩:=g2;cases e
   |cons c2 c3=>cases c3 with
     |nil=>exact⟨_,_,rfl,bK.pure (a:=.nx _) g2 ρ1 H1 _ .refl j1 (((ev.mono e1).set c1).set c2)⟩
     |cons _ _=>obtain⟨r,e,_⟩:=g2;cases e⟩
def um:bZ X E (inplaceOp .Add) (λx y=>rd (cW (λz z=>true) (λi j=>.int (i+j)) x y)):=uh iop_add
def Hz:bZ X E (inplaceOp .Sub) (λx y=>rd (q9 x y)):=uh iop_sub
end
inductive Itn where
 |fix (l:List D) | dyn (n:Nat)
def Itn.next:Itn->Nat->Mo->Option (Option D)
 |.fix l,i,_=>some l[i]?
 |.dyn n,i,M=>match M[n]? with
   |some (.lst l)=>some l[i]?
   |_=>none
set_option tactic.hygienic true in
structure ItOk(mg:Str->Option Value)(ρ:Rh)(H:Hp)(Jt:It)(it:Itn):Prop where
 item:∀(i:Nat) ρ' H' M' d,Kp ρ H ρ' H'->J mg ρ' M' H'->it.next i M'=some (some d)->Jt.go i H'/\∀x H2,Jt.yld i H' x H2->Ext ρ' H' ρ' H2/\J mg ρ' M' H2/\Cv mg ρ' H2 x d
 stop:∀(i:Nat) ρ' H' M',Kp ρ H ρ' H'->J mg ρ' M' H'->it.next i M'=some none->Jt.stop i H'
def tI(mg:Str->Option Value)(E:XK)(fi:ao->DM Itn):TI:=λσ H R=>tD mg E (ItOk mg) fi σ H R
structure DI(X:Cx)(E:XK)(tg it:Expr)(fi:ao->DM Itn):Prop where
 h:PI X tg it (tI X.mg E fi)
def PI.mono(h:PI X tg e t)(f:∀σ H Q,t' σ H Q->t σ H Q):PI X tg e t':=λXe s σ H Q I q=>h Xe s σ H Q I (f σ H Q q)
def Ml{K:PySem.W.Frag}{mg:Str->Option Value}{ρ:Rh}{H:Hp}{a:Addr}{xs:List V}{ds:List D}(n:a∉ρ)(h:H a=some (.lst xs))(c:Cvs mg ρ H xs ds):ItOk mg ρ H (Itl K a) (.fix ds) where
 item:=λi ρ' H' M' d e j q=>by
  have hq:ds[i]?=some d:=Tf q;obtain⟨v,hv,cv⟩:=c.get hq;have h':=(e.keep _ _ h n nofun).2
  refine⟨⟨xs,v,SqL.of h',hv⟩,λx H2 y=>?_⟩
  obtain⟨rfl,y⟩:=y;have:=y xs (SqL.of h');rw[hv]at this;cases this;exact⟨.refl,j,cv.kp e⟩
 stop:=λi ρ' H' M' e j q=>by have hq:ds[i]?=none:=Tf q;exact⟨xs,SqL.of (e.keep _ _ h n nofun).2,by rw[c.len];exact TX.mp hq⟩
def Mp{K:PySem.W.Frag}{mg:Str->Option Value}{ρ:Rh}{H:Hp}{a:Addr}{xs:List V}{ds:List D}(n:a∉ρ)(h:H a=some (.tup xs))(c:Cvs mg ρ H xs ds):ItOk mg ρ H (Itt K a) (.fix ds) where
 item:=λi ρ' H' M' d e j q=>by
  have hq:ds[i]?=some d:=Tf q;obtain⟨v,hv,cv⟩:=c.get hq;have h':=(e.keep _ _ h n nofun).2
  refine⟨⟨xs,v,SqT.of h',hv⟩,λx H2 y=>?_⟩
  obtain⟨rfl,y⟩:=y;have:=y xs (SqT.of h');rw[hv]at this;cases this;exact⟨.refl,j,cv.kp e⟩
 stop:=λi ρ' H' M' e j q=>by have hq:ds[i]?=none:=Tf q;exact⟨xs,SqT.of (e.keep _ _ h n nofun).2,by rw[c.len];exact TX.mp hq⟩
set_option tactic.hygienic true in
def Mj{K:PySem.W.Frag}{mg:Str->Option Value}{ρ:Rh}{H:Hp}{a:Addr}{n:Nat}(h:ρ.st[n]?=some a):ItOk mg ρ H (Itl K a) (.dyn n) where
 item:=λi ρ' H' M' d e j q=>by
  have h':=e.at h;unfold Itn.next at q;dsimp only at q;split at q
  ·rename_i l hl;obtain⟨xs,hx,c⟩:=j.obj n a _ h' hl;have hq:l[i]?=some d:=Tf q;obtain⟨v,hv,cv⟩:=c.get hq;refine⟨⟨xs,v,SqL.of hx,hv⟩,λx H2 y=>?_⟩
   obtain⟨rfl,y⟩:=y;have:=y xs (SqL.of hx);rw[hv]at this;cases this;exact⟨.refl,j,cv⟩
  ·cases q
 stop:=λi ρ' H' M' e j q=>by
  have h':=e.at h;unfold Itn.next at q;dsimp only at q;split at q
  ·rename_i l hl;obtain⟨xs,hx,c⟩:=j.obj n a _ h' hl;have hq:l[i]?=none:=Tf q;exact⟨xs,SqL.of hx,by rw[c.len];exact TX.mp hq⟩
  ·cases q
def ur(lo:Int)(n:Nat):List D:=(List.range n).map λi=>.int (lo+(i:Nat))
def BJ{lo:Int}{n i:Nat}:(ur lo n)[i]?=if i<n then some (.int (lo+(i:Nat))) else none:=by
 unfold ur;rw[TV];by_cases h:i<n
 ·rw[S7 h,VB h];rfl
 ·rw[Tq h,TX.mpr (by simp;lia)];rfl
set_option tactic.hygienic true in
def Mm{mg:Str->Option Value}{lo:Int}{n:Nat}:ItOk mg ρ H (Itr lo n) (.fix (ur lo n)) where
 item:=λi ρ' H' M' d e j q=>by
  have hq:(ur lo n)[i]?=some d:=Tf q;rw[BJ]at hq;split at hq
  ·rename_i h;cases hq;refine⟨h,λx H2 y=>?_⟩
   obtain⟨rfl,rfl⟩:=y;exact⟨.refl,j,.int _⟩
  ·cases hq
 stop:=λi ρ' H' M' e j q=>by
  have hq:(ur lo n)[i]?=none:=Tf q;rw[BJ]at hq;split at hq
  ·cases hq
  ·rename_i h;exact U3.mp h
section
variable{X:Cx}{E:XK}{tg:Expr}
def Dc(i:Int):Bool:=decide (-(2^62)<=i/\i<2^62)
def ph:List D->Option Itn
 |[.int j]=>if Dc j then some (.fix (ur 0 j.toNat)) else none
 |_=>none
set_option tactic.hygienic true in
def cH(hg:Gl X "range")(hm:X.mg "range"=none)(ha:DA X E [a] fa)(hs:notStar a=true:=by rfl):DI X E tg (.Call (.Name "range" p) [a] [] pos) (λδ=>fa δ >>= λl=>opt (ph l)):=
 ⟨PI.mono (CT hg hm ha.h hs).h fun σ H R h=>by
  obtain⟨ρ,δ,M,ev,j,g1⟩:=h;refine⟨ρ,δ,M,ev,j,g1.bind λρ1 H1 M1 x dx e1 j1 c1 g2=>?_⟩
  obtain⟨it,e,q⟩:=g2.opt;unfold ph at e;split at e
  ·split at e
   ·rename_i hk;cases e;cases c1 with | cons c1 c2=>
    cases c2;cases c1;have hk:=UT hk;exact⟨_,rfl,hk.1,hk.2,q ρ1 H1 _ .refl j1 Mm⟩
   ·cases e
  ·cases e⟩
def w5:D->Option Itn
 |.tup l=>some (.fix l)
 |_=>none
def KQ:D->Mo->Option Itn
 |.lst l,_=>some (.fix l)
 |.ref n,M=>match M[n]? with
   |some (.lst _)=>some (.dyn n)
   |_=>none
 |_,_=>none
def lg(hl:DE X E l fl):DI X E tg l (λδ=>fl δ>>=λd=>opt (w5 d)):=⟨PI.mono (pi_tup hl.h) λσ H R h=>by
 obtain⟨ρ,δ,M,ev,j,g1⟩:=h;refine⟨ρ,δ,M,ev,j,g1.bind λρ1 H1 M1 x dx e1 j1 c1 g2=>?_⟩
 obtain⟨it,e,q⟩:=g2.opt;unfold w5 at e;split at e
 ·cases e;cases c1 with | tup n a c=>
  exact⟨_,rfl,⟨_,SqT.of a⟩,q ρ1 H1 _ .refl j1 (Mp n a c)⟩
 ·cases e⟩
set_option tactic.hygienic true in
def Em(hl:DE X E l fl):DI X E tg l (λδ=>fl δ >>= λd=>rd (KQ d)):=⟨PI.mono (pi_list hl.h) λσ H R h=>by
 obtain⟨ρ,δ,M,ev,j,g1⟩:=h;refine⟨ρ,δ,M,ev,j,g1.bind λρ1 H1 M1 x dx e1 j1 c1 g2=>?_⟩
 obtain⟨it,e,q⟩:=g2.rd;unfold KQ at e;split at e
 ·cases e;cases c1 with | lst n a c=>
  exact⟨_,rfl,⟨_,SqL.of a⟩,q ρ1 H1 _ .refl j1 (Ml n a c)⟩
 ·split at e
  ·rename_i l' hl';cases e;cases c1 with | ref hn=>
   obtain⟨xs,hx,_⟩:=j1.obj _ _ _ hn hl';exact⟨_,rfl,⟨xs,SqL.of hx⟩,q ρ1 H1 _ .refl j1 (Mj hn)⟩
  ·cases e
 ·cases e⟩
end
def forL(tg:D->ao->DM ao)(fb:ao->DM Fl):List D->ao->DM Fl
 |[],δ=>pure (.nx δ)
 |d::l,δ=>tg d δ>>=λδ1=>fb δ1>>=λr=>match r with
   |.nx δ2=>forL tg fb l δ2
   |.ct δ2=>forL tg fb l δ2
   |.bk δ2=>pure (.nx δ2)
   |.rt d=>pure (.rt d)
def yZ(tg:D->ao->DM ao)(fb:ao->DM Fl)(n:Nat):Nat->Nat->ao->DM Fl
 |0,_,_=>stuck
 | k + 1,i,δ=>rd (Itn.next (.dyn n) i) >>= λo=>match o with
   |none=>pure (.nx δ)
   |some d=>tg d δ>>=λδ1=>fb δ1>>=λr=>match r with
     |.nx δ2=>yZ tg fb n k (i+1) δ2
     |.ct δ2=>yZ tg fb n k (i+1) δ2
     |.bk δ2=>pure (.nx δ2)
     |.rt d=>pure (.rt d)
def yX(N:Nat)(tg:D->ao->DM ao)(fb:ao->DM Fl):Itn->ao->DM Fl
 |.fix l=>forL tg fb l
 |.dyn n=>yZ tg fb n N 0
def bK.rdb{mg:Str->Option Value}{E:XK}{D:Ends}{ρ:Rh}{H:Hp}{M:Mo}{γ:Type}{f:Mo->Option γ}{k:γ->DM Fl}(g:bK mg E D ρ H (L3.rd f>>=k) M):∃a,f M=some a/\bK mg E D ρ H (k a) M:=by
 obtain⟨r,e,p⟩:=g;have e:DM.bind _ _ M=some r:=e;unfold DM.bind L3.rd at e;cases h:f M with
 |none=>rw[h]at e;cases e
 |some a=>rw[h]at e;exact⟨a,rfl,r,e,p⟩
def zb{X:Cx}{E:XK}{fg:D->ao->DM ao}{fb:ao->DM Fl}{D:Ends}{σ:L2.St}{H H':Hp}{ρ:Rh}{δ:ao}{M:Mo}{x:V}{d:L3.D}{N:L2.St->Hp->Prop}{again:ao->DM Fl}
  (ev:Ev X.mg ρ H σ δ) (e1:Ext ρ H ρ H') (j1:J X.mg ρ M H') (c1:Cv X.mg ρ H' x d) (ht:bK X.mg E D ρ H (fg d δ>>=λδ1=>fb δ1>>=λr=>match r with
    |.nx δ2=>again δ2
    |.ct δ2=>again δ2
    |.bk δ2=>pure (.nx δ2)
    |.rt d=>pure (.rt d)) M) (hN:∀ρ2 δ2 M2 σ2 H2,Ext ρ H ρ2 H2->Ev X.mg ρ2 H2 σ2 δ2->J X.mg ρ2 M2 H2->bK X.mg E D ρ2 H2 (again δ2) M2->N σ2 H2) :
  tG X.mg E fg x σ H' λσ2 H2=>tS X.mg E fb { D with nx:=N,ct:=N,bk:=D.nx } σ2 H2:=by
 obtain⟨r,er,p⟩:=ht;have ht':bK X.mg E D ρ H' _ M:=⟨r,er,p.mono e1⟩;refine⟨ρ,δ,M,d,ev.mono e1,j1,c1,bK.bind ht' λρ2 H2 M2 σ2 δ2 e2 j2 ev2 g2=>⟨ρ2,δ2,M2,ev2,j2,g2.seq (λδ' ρ3 H3 M3 σ3 e3 j3 ev3 g3=>?_) (λδ' ρ3 H3 M3 σ3 e3 j3 ev3 g3=>?_) (λδ' ρ3 H3 M3 σ3 e3 j3 ev3 g3=>?_) (λd' ρ3 H3 M3 v e3 j3 c3 g3=>?_)⟩⟩
 ·exact hN ρ3 δ' M3 σ3 H3 ((e1.trans e2).trans e3) ev3 j3 g3
 ·exact bK.pure (a:=.nx δ') g3 ρ3 H3 σ3 .refl j3 ev3
 ·exact hN ρ3 δ' M3 σ3 H3 ((e1.trans e2).trans e3) ev3 j3 g3
 ·exact bK.pure (a:=.rt d') g3 ρ3 H3 v .refl j3 c3
def gA{body:List Stmt}{fi:ao->DM Itn}{fg:D->ao->DM ao}{fb:ao->DM Fl}(N:Nat)(hp:PassesOwn (model X.prog X.w) X.A X.env X.xe)(hc:X.calm=true)(hi:DI X E tg iter fi)(hg:DG X E tg fg)(hb:DSs X E body fb)
  (hs:∀x,foldedSetIterable iter X.env x=pure x:=by intro _;rfl):DS X E (.For tg iter body [] pos) (λδ=>fi δ>>=λit=>yX N fg fb it δ):=⟨PS.mono (ps_for hp hc hi.h hg.h hb.h hs) λD σ H h=>by
 obtain⟨ρ,δ,M,ev,j,g1⟩:=h;refine⟨ρ,δ,M,ev,j,g1.bind λρ1 H1 M1 Jt it e1 j1 iok g2=>?_⟩
 cases it with
 | fix l=>
   refine⟨λi m σ H=>∃ρ' δ' M',Ext ρ1 H1 ρ' H/\Ev X.mg ρ' H σ δ'/\J X.mg ρ' M' H/\m=(l.drop i).length/\bK X.mg E D ρ' H (forL fg fb (l.drop i) δ') M',⟨_,ρ1,δ,M1,.refl,ev.mono e1,j1,rfl,g2⟩,?_⟩
   rintro i m σ2 H2 ⟨ρ2,δ2,M2,e2,ev2,j2,rfl,g3⟩;cases hd:l[i]? with
   |none=>have hl:l.drop i=[]:=List.drop_eq_nil_of_le (TX.mp hd);rw[hl]at g3;exact .inl ⟨iok.stop i ρ2 H2 M2 e2.kp j2 (congrArg some hd),bK.pure (a:=.nx δ2) g3 ρ2 H2 σ2 .refl j2 ev2⟩
   |some d=>
     obtain⟨hi',hd'⟩:=S5.mp hd;have hl:l.drop i=d::l.drop (i+1):=by rw[<-hd'];exact WT hi'
     obtain⟨go,yl⟩:=iok.item i ρ2 H2 M2 d e2.kp j2 (congrArg some hd);rw[hl]at g3;refine .inr ⟨go,λσ' H'=>∃ρ' δ' M',Ext ρ1 H1 ρ' H'/\Ev X.mg ρ' H' σ' δ'/\J X.mg ρ' M' H'/\bK X.mg E D ρ' H' (forL fg fb (l.drop (i+1)) δ') M',λσ' H' ⟨ρ',δ',M',a1,a2,a3,a4⟩=>⟨_,by rw[Vn,Vn];lia,ρ',δ',M',a1,a2,a3,rfl,a4⟩,λx H' y=>?_⟩
     obtain⟨x1,x2,x3⟩:=yl x H' y;exact zb ev2 x1 x2 x3 g3 λρ3 δ3 M3 σ3 H3 f1 f2 f3 f4=>⟨ρ3,δ3,M3,e2.trans f1,f2,f3,f4⟩
 | dyn n=>
   refine⟨λi m σ H=>∃ρ' δ' M',Ext ρ1 H1 ρ' H/\Ev X.mg ρ' H σ δ'/\J X.mg ρ' M' H/\bK X.mg E D ρ' H (yZ fg fb n m i δ') M',⟨N,ρ1,δ,M1,.refl,ev.mono e1,j1,g2⟩,?_⟩
   rintro i m σ2 H2 ⟨ρ2,δ2,M2,e2,ev2,j2,g3⟩;cases m with
   |zero=>obtain⟨r,e,_⟩:=g3;cases e
   | succ m=>
     obtain⟨o,eo,g4⟩:=bK.rdb g3;cases o with
     |none=>exact .inl ⟨iok.stop i ρ2 H2 M2 e2.kp j2 eo,bK.pure (a:=.nx δ2) g4 ρ2 H2 σ2 .refl j2 ev2⟩
     |some d=>
       obtain⟨go,yl⟩:=iok.item i ρ2 H2 M2 d e2.kp j2 eo;refine .inr ⟨go,λσ' H'=>∃ρ' δ' M',Ext ρ1 H1 ρ' H'/\Ev X.mg ρ' H' σ' δ'/\J X.mg ρ' M' H'/\bK X.mg E D ρ' H' (yZ fg fb n m (i+1) δ') M',λσ' H' z=>⟨m,Vz _,z⟩,λx H' y=>?_⟩
       obtain⟨x1,x2,x3⟩:=yl x H' y;exact zb ev2 x1 x2 x3 g4 λρ3 δ3 M3 σ3 H3 f1 f2 f3 f4=>⟨ρ3,δ3,M3,e2.trans f1,f2,f3,f4⟩⟩
def lG(c:ao->DM Bool)(fb:ao->DM Fl):Nat->ao->DM Fl
 |0,_=>stuck
 | k + 1,δ=>c δ >>= λb=>if b then (fb δ >>= λr=>match r with
     |.nx δ2=>lG c fb k δ2
     |.ct δ2=>lG c fb k δ2
     |.bk δ2=>pure (.nx δ2)
     |.rt d=>pure (.rt d)) else pure (.nx δ)
def Hn(N:Nat)(hp:PassesOwn (model X.prog X.w) X.A X.env X.xe)(hc:DT X E c fc)(hb:DSs X E body fb):DS X E (.While c body [] pos) (lG fc fb N):=⟨PS.mono (L2.ps_while hp hc.h hb.h) λD σ H h=>by
 obtain⟨ρ,δ,M,ev,j,g1⟩:=h;refine⟨λm σ H=>∃ρ' δ' M',Ev X.mg ρ' H σ δ'/\J X.mg ρ' M' H/\bK X.mg E D ρ' H (lG fc fb m δ') M',⟨N,ρ,δ,M,ev,j,g1⟩,?_⟩
 rintro m σ2 H2 ⟨ρ2,δ2,M2,ev2,j2,g3⟩;cases m with
 |zero=>obtain⟨r,e,_⟩:=g3;cases e
 | succ m=>
   refine⟨ρ2,δ2,M2,ev2,j2,bK.bind g3 λρ3 H3 M3 b b' e3 j3 cb g4=>?_⟩
   have cb:b=b':=cb;subst cb;cases b with
   |true=>
     refine iteT ⟨λσ' H'=>∃ρ' δ' M',Ev X.mg ρ' H' σ' δ'/\J X.mg ρ' M' H'/\bK X.mg E D ρ' H' (lG fc fb m δ') M',λσ' H' z=>⟨m,Vz _,z⟩,ρ3,δ2,M3,ev2.mono e3,j3,?_⟩
     refine bK.seq g4 (λδ' ρ4 H4 M4 σ4 e4 j4 ev4 g5=>⟨ρ4,δ',M4,ev4,j4,g5⟩) (λδ' ρ4 H4 M4 σ4 e4 j4 ev4 g5=>?_) (λδ' ρ4 H4 M4 σ4 e4 j4 ev4 g5=>⟨ρ4,δ',M4,ev4,j4,g5⟩) (λd' ρ4 H4 M4 v e4 j4 c4 g5=>?_)
     ·exact bK.pure (a:=.nx δ') g5 ρ4 H4 σ4 .refl j4 ev4
     ·exact bK.pure (a:=.rt d') g5 ρ4 H4 v .refl j4 c4
   |false=>exact iteF (bK.pure (a:=.nx δ2) g4 ρ3 H3 σ2 .refl j3 (ev2.mono e3))⟩
def iU(mg:Str->Option Value)(F:List D->DM D):Sp:=λvs H Q E=>∃ρ M ds,Cvs mg ρ H vs ds/\J mg ρ M H/\Go mg E (Cv mg) Q ρ H (F ds) M
structure DefD(P:Program)(w:World)(K:PySem.W.Frag)(mg:Str->Option Value)(base:Heap)(k:Nat)(x:Str)(ps:List Str)(F:List D->DM D):Prop where
 h:DefC P w K mg base k x ps (iU mg F)
def aP(n:Nat)(ds:List D):ao:=ds.map some++List.replicate (n-ds.length) none
def aL(p n:Nat)(fb:ao->DM Fl)(ds:List D):DM D:=if ds.length=p then fb (aP n ds)>>=λr=>match r with
 |.nx _=>pure .non
 |.rt d=>pure d
 |_=>stuck else stuck
def jc(c:Cvs mg ρ H vs ds):Ev mg ρ H (L2.start N vs) (aP N.length ds):=by
 unfold L2.start aP;refine⟨by simp[c.len],λi d q=>?_⟩
 by_cases hi:i<ds.length
 ·rw[S9 (by rw[Te];exact hi),TV]at q
  obtain⟨d',h1,h2⟩:=Ti.mp q;cases h2;obtain⟨v,hv,cv⟩:=c.get h1;exact⟨v,by rw[S9 (by rw[Te,c.len];exact hi),TV,hv];rfl,cv⟩
 ·rw[TJ (by rw[Te];lia),UJ]at q
  split at q<;>cases q
section
variable{P:Program}{w:World}{K:PySem.W.Frag}{mg:Str->Option Value}{base:Heap}{k:Nat}{x:Str}{N ps:List Str}{st:Stmt}
set_option tactic.hygienic true in
theorem bK.aL(g:Go mg E (Cv mg) Q ρ H (L3.aL p n fb ds) M):ds.length=p/\bK mg E { nx:=λz H'=>Q .non H',rt:=Q } ρ H (fb (aP n ds)) M:=by
 obtain⟨r,e,p⟩:=g;unfold L3.aL at e;split at e;rotate_left
 ·cases e
 rename_i hl;refine⟨hl,?_⟩;have e:DM.bind _ _ M=some r:=e;unfold DM.bind at e;split at e
 ·cases e
 ·rename_i c M' em;cases e;exact⟨_,em,p⟩
 ·rename_i a M' em;refine⟨_,em,?_⟩;cases a with
  |nx δ'=>cases e;exact λρ1 H1 b x j c=>p ρ1 H1 .non x j .non
  |rt d=>cases e;exact λρ1 H1 b x j c=>p ρ1 H1 b x j c
  |bk δ'=>cases e
  |ct δ'=>cases e
def DefAt.okD(D:DefAt K mg x st)(S:FnScope N ps (defScope st))(hb:∀ (kV doc pm:Value) (an:Option Addr) (cdv ct:Value) (us:List Value),us.length=ps.length->bindArgs (PySem.W.fnOf x x (defArgs st) (defBody st) (defScope st) .none kV doc pm an cdv ct) ⟨us,[]⟩=pure (ps.zip us))
  (hbody:∀(f:Addr) (cdv:Value) (A:Around) (outer:List Env) (s:Shared) (H:Hp) (E:XK),Room k (A.deeper (envOfC x (defScope st) s.heap.objs.size f cdv))->
    DSs (b7 P w K mg base N x (defScope st) f cdv A outer s H E) E (defBody st) fb):DefD P w K mg base (k+1) x ps (aL ps.length N.length fb):=⟨by
 refine D.okE S hb (λvs H Q E h=>?_) λf cdv A outer s H vs Q E hr h=>?_
 ·obtain⟨ρ,M,ds,c,j,g⟩:=h;rw[c.len];exact (bK.aL g).1
 obtain⟨ρ,M,ds,c,j,g⟩:=h;exact⟨_,(hbody f cdv A outer s H E hr).h,ρ,_,M,jc c,j,(bK.aL g).2⟩⟩
end
mutual
inductive Fz(M:Mo)(k:Nat):D->D->Prop
 |non:Fz M k .non .non
 |bl (b:Bool):Fz M k (.bl b) (.bl b)
 |int (i:Int):Fz M k (.int i) (.int i)
 |str (x:Str):Fz M k (.str x) (.str x)
 |tup {l l':List D}:Fzs M k l l'->Fz M k (.tup l) (.tup l')
 |lst {l l':List D}:Fzs M k l l'->Fz M k (.lst l) (.lst l')
 |dic {ks:List Key}{l l':List D}:Fzs M k l l'->Fz M k (.dic ks l) (.dic ks l')
 |obj {c:Str}{ns:List Str}{l l':List D}:Fzs M k l l'->Fz M k (.obj c ns l) (.obj c ns l')
 |scr (ns:List Int):Fz M k (.scr ns) (.scr ns)
 |old {n:Nat}:n<k->Fz M k (.ref n) (.ref n)
 |new {n:Nat}{l l':List D}:k<=n->M[n]?=some (.lst l)->Fzs M k l l'->Fz M k (.ref n) (.lst l')
 |cls (c:Str):Fz M k (.cls c) (.cls c)
 |ty (c:String):Fz M k (.ty c) (.ty c)
 |exn (a:Addr):Fz M k (.exn a) (.exn a)
inductive Fzs(M:Mo)(k:Nat):List D->List D->Prop
 |nil:Fzs M k [] []
 |cons {d d':D}{l l':List D}:Fz M k d d'->Fzs M k l l'->Fzs M k (d::l) (d'::l')
end
def Rt(M:Mo)(k:Nat):DO->DO->Prop
 |.lst l,.lst l'=>Fzs M k l l'
 |.dic ks l,.dic ks' l'=>ks=ks'/\Fzs M k l l'
 |.ins c ns l,.ins c' ns' l'=>c=c'/\ns=ns'/\Fzs M k l l'
 |_,_=>False
def Qw(M':Mo)(k:Nat)(M1:Mo):Prop:=M1.length=k/\∀(n:Nat) o,M1[n]?=some o->∃o',M'[n]?=some o'/\Rt M' k o' o
section
variable{mg:Str->Option Value}{ρ ρ':Rh}{H:Hp}{M:Mo}{k:Nat}
structure Sub(ρ ρ':Rh)(k:Nat):Prop where
 st:∃τ,ρ'.st=ρ.st++τ
 vo:ρ'.vo=ρ.vo
 len:ρ.st.length=k
def Sub.out(s:Sub ρ ρ' k)(h:a∉ρ'):a∉ρ:=λz=>by
 obtain⟨τ,e⟩:=s.st;rcases z with z | z
 ·exact h (.inl (by rw[e];exact Ud _ z))
 ·exact h (.inr (by rw[s.vo];exact z))
def Rq(mg:Str->Option Value)(ρ:Rh)(H:Hp)(v:V)(d:D):Prop:=D.casesOn (motive_1:=λz=>Prop) d (v=.non) (λb=>v=.bl b) (λi=>v=.int i) (λx=>v=.str x) (λds=>∃a xs,v=.ref a/\a∉ρ/\H a=some (.tup xs)/\Cvs mg ρ H xs ds) (λds=>∃a xs,v=.ref a/\a∉ρ/\H a=some (.lst xs)/\Cvs mg ρ H xs ds)
 (λks ds=>∃a xs,v=.ref a/\a∉ρ/\H a=some (.dK (ks.zip xs))/\ks.length=xs.length/\Cvs mg ρ H xs ds) (λc ns ds=>∃a C dx xs,v=.ref a/\a∉ρ/\mg c=some (.ref C)/\H a=some (.ins C dx (ns.zip xs))/\ns.length=xs.length/\Cvs mg ρ H xs ds)
 (λns=>∃a,v=.ref a/\a∉ρ/\Rd H a (.lst (ns.map V.int))) (λn=>∃a,v=.ref a/\ρ.st[n]?=some a) (λc=>∃C,v=.ref C/\mg c=some (.ref C)) (λt=>v=.ty t) (λa=>v=.ref a)
set_option tactic.hygienic true in
def Cv.inv{v:V}{d:D}(h:Cv mg ρ H v d):Rq mg ρ H v d:=by
 cases h
 case non=>exact rfl
 case bl=>exact rfl
 case int=>exact rfl
 case str=>exact rfl
 case tup n h c=>exact⟨_,_,rfl,n,h,c⟩
 case lst n h c=>exact⟨_,_,rfl,n,h,c⟩
 case dic n h l c=>exact⟨_,_,rfl,n,h,l,c⟩
 case obj n m h l c=>exact⟨_,_,_,_,rfl,n,m,h,l,c⟩
 case scr n h=>exact⟨_,rfl,n,h⟩
 case ref h=>exact⟨_,rfl,h⟩
 case cls h=>exact⟨_,rfl,h⟩
 case ty=>exact rfl
 case exn=>exact rfl
def Cvs.inv{v:V}{d:D}{vs:List V}{l:List D}(h:Cvs mg ρ H vs (d::l)):∃v vs',vs=v::vs'/\Cv mg ρ H v d/\Cvs mg ρ H vs' l:=by cases h with | cons a b=>exact⟨_,_,rfl,a,b⟩
def Cvs.inv0{vs:List V}(h:Cvs mg ρ H vs []):vs=[]:=by cases h;rfl
def Cvs.freeze(s:Sub ρ ρ' k)(j:J mg ρ' M H){d d':List D}{v:List V}(f:Fzs M k d d'):Cvs mg ρ' H v d->Cvs mg ρ H v d':=
 Fzs.rec (motive_1:=λd d' y=>∀ v,Cv mg ρ' H v d->Cv mg ρ H v d') (motive_2:=λd d' y=>∀ v,Cvs mg ρ' H v d->Cvs mg ρ H v d')
  (λy c=>Eq.symm (a:=_) (Cv.inv c) ▸ .non) (λb y c=>Eq.symm (a:=_) (Cv.inv c) ▸ .bl b) (λb y c=>Eq.symm (a:=_) (Cv.inv c) ▸ .int b) (λb y c=>Eq.symm (a:=_) (Cv.inv c) ▸ .str b)
  (λy f v c=>let ⟨_,_,e,n,h,c⟩:=Cv.inv c;e ▸ .tup (s.out n) h (f _ c))
  (λy f v c=>let ⟨_,_,e,n,h,c⟩:=Cv.inv c;e ▸ .lst (s.out n) h (f _ c))
  (λy f v c=>let ⟨_,_,e,n,h,l,c⟩:=Cv.inv c;e ▸ .dic (s.out n) h l (f _ c))
  (λy f v c=>let ⟨_,_,_,_,e,n,m,h,l,c⟩:=Cv.inv c;e ▸ .obj (s.out n) m h l (f _ c))
  (λy v c=>let ⟨_,e,n,h⟩:=Cv.inv c;e ▸ .scr (s.out n) h)
  (λhn v c=>by
    obtain⟨a,rfl,h⟩:=Cv.inv c;obtain⟨τ,e⟩:=s.st;rw[e,S9 (by rw[s.len];exact hn)]at h
    exact .ref h)
  (λhn hm y f v c=>by
    obtain⟨a,rfl,h⟩:=Cv.inv c;obtain⟨xs,hx,c⟩:=j.obj _ _ _ h hm;refine .lst (λz=>?_) hx (f _ c)
    rcases z with z | z
    ·obtain⟨m,hm'⟩:=VN.mp z;obtain⟨τ,e⟩:=s.st;have hl:=(S5.mp hm').1;have h2:ρ'.st[m]?=some a:=by rw[e,S9 hl];exact hm'
     exact U3.mpr hn (j.inj h h2 ▸ s.len ▸ hl)
    ·exact (j.vol a (by rw[s.vo];exact z)).1 (T5 h))
  (λy v c=>let ⟨_,e,h⟩:=Cv.inv c;e ▸ .cls h) (λb y c=>Eq.symm (a:=_) (Cv.inv c) ▸ .ty b) (λb y c=>Eq.symm (a:=_) (Cv.inv c) ▸ .exn b)
  (λv c=>Cvs.inv0 c ▸ .nil) (λy y f g v c=>let ⟨_,_,e,a,b⟩:=Cvs.inv (v:=.non) c;e ▸ .cons (f _ a) (g _ b)) f v
theorem J.freeze{M1:Mo}(s:Sub ρ ρ' k)(j:J mg ρ' M H)(hk:ρ.st.length=M1.length)(f:Qw M k M1):J mg ρ M1 H:=by
 obtain⟨τ,e⟩:=s.st;refine⟨hk,?_,λn a o h1 h2=>?_,λa ha=>?_⟩
 ·have:=j.nd;rw[e]at this;exact (WR.mp this).1
 ·obtain ⟨o',h3,fo⟩:=f.2 n o h2;have hl:=(S5.mp h1).1;have c:=j.obj n a o' (by rw[e,S9 hl];exact h1) h3
  cases o' with
  |lst l=>cases o with
    |lst l'=>obtain⟨xs,hx,c⟩:=c;exact⟨xs,hx,Cvs.freeze s j fo c⟩
    |dic _ _=>exact (show False from fo).elim
    |ins _ _ _=>exact (show False from fo).elim
  |dic ks l=>cases o with
    |lst l'=>exact (show False from fo).elim
    |dic ks' l'=>obtain⟨xs,hx,q,c⟩:=c;obtain⟨rfl,fo⟩:=fo;exact⟨xs,hx,q,Cvs.freeze s j fo c⟩
    |ins _ _ _=>exact (show False from fo).elim
  |ins c' ns l=>cases o with
    |lst l'=>exact (show False from fo).elim
    |dic _ _=>exact (show False from fo).elim
    |ins c'' ns' l'=>obtain⟨C,dx,xs,m,hx,q,c⟩:=c;obtain⟨rfl,rfl,fo⟩:=fo;exact⟨C,dx,xs,m,hx,q,Cvs.freeze s j fo c⟩
 ·obtain⟨x,xs,h⟩:=j.vol a (by rw[s.vo];exact ha)
  exact⟨λz=>x (by rw[e];exact Ud _ z),xs,h⟩
end
section
variable{X:Cx}{E:XK}{j k:Nat}{ps:List Str}{F:List D->DM D}{x:Str}{p pos:Pos}{e:Expr}{es:List Expr}{fs:ao->DM (List D)}
def aO(D:DefD X.prog X.w X.K X.mg X.base j x ps F)(hr:Room k X.A)(hx:Passes (bJ X.prog X.w) X E)(ha:DA X E (e::es) fs)(hjk:j<=k:=by decide)(hg:Gl X x:=by rfl)(hdb:(x==("__debug__":Str))=false:=by decide)
  (he:notStar e=true:=by rfl) (hpl:(backTo pos (starEach es X.env)).any (·.1)=false:=by rfl) :
  DE X E (.Call (.Name x p) (e::es) [] pos) (λδ=>fs δ>>=F):=⟨PE.mono (xF D.h hr hx ha.h hjk hg hdb he hpl) λσ H Q h=>by
 obtain⟨ρ,δ,M,ev,j,g1⟩:=h;refine⟨ρ,δ,M,ev,j,g1.bind λρ1 H1 M1 xs dxs e1 j1 c1 g2=>?_⟩
 rw[Ux];exact⟨ρ1,M1,dxs,c1,j1,g2⟩⟩
def rC(mg:Str->Option Value)(E:XK)(g:List D->DM D):List V->Hp->VK->Prop:=λvs H Q=>∃ρ M ds,J mg ρ M H/\Cvs mg ρ H vs ds/\Go mg E (Cv mg) Q ρ H (g ds) M
def CallD(X:Cx)(E:XK)(f:Value)(g:List D->DM D):Prop:=CallR X f (rC X.mg E g)
def aV{id:String}{g:List D->DM D}(hc:CallD X E (.builtin id) g)(hm:X.mg x=none)(ha:DA X E (e::es) fs)(hg:Gl X x:=by rfl)(hv:bootBuiltins x=some (.builtin id):=by decide +kernel)(hn:x≠"__name__":=by decide)(hdb:(x==("__debug__":Str))=false:=by decide)
  (he:notStar e=true:=by rfl) (hpl:(backTo pos (starEach es X.env)).any (·.1)=false:=by rfl) :
  DE X E (.Call (.Name x p) (e::es) [] pos) (λδ=>fs δ>>=g):=⟨PE.mono (PQ hc hm ha.h hg hv hn hdb he hpl) λσ H Q h=>by
 obtain⟨ρ,δ,M,ev,j,g1⟩:=h;exact⟨ρ,δ,M,ev,j,g1.bind λρ1 H1 M1 xs dxs e1 j1 c1 g2=>⟨ρ1,M1,dxs,j1,c1,g2⟩⟩⟩
def fZ{T:String}{g:List D->DM D}(hc:CallD X E (.type T) g)(hm:X.mg x=none)(ha:DA X E (e::es) fs)(hg:Gl X x:=by rfl)(hv:bootBuiltins x=some (.type T):=by decide +kernel)(hn:x≠"__name__":=by decide)(hdb:(x==("__debug__":Str))=false:=by decide)
  (he:notStar e=true:=by rfl) (hpl:(backTo pos (starEach es X.env)).any (·.1)=false:=by rfl) :
  DE X E (.Call (.Name x p) (e::es) [] pos) (λδ=>fs δ>>=g):=⟨PE.mono (P0 hc hm ha.h hg hv hn hdb he hpl) λσ H Q h=>by
 obtain⟨ρ,δ,M,ev,j,g1⟩:=h;exact⟨ρ,δ,M,ev,j,g1.bind λρ1 H1 M1 xs dxs e1 j1 c1 g2=>⟨ρ1,M1,dxs,j1,c1,g2⟩⟩⟩
def CallD.of{f:Value}{r:List V->Hp->VK->Prop}{g:List D->Mo->Option D}(hr:CallR X f r)
  (h:∀vs H Q ρ M ds d,J X.mg ρ M H->Cvs X.mg ρ H vs ds->g ds M=some d->(∀ρ' H' v,Ext ρ H ρ' H'->J X.mg ρ' M H'->Cv X.mg ρ' H' v d->Q v H')->r vs H Q):CallD X E f (λl=>rd (g l)):=by
 intro Xe s σ H vs us Q I rs q;obtain⟨ρ,M,ds,j,c,go⟩:=q;obtain⟨d,e,p⟩:=go.rd;exact hr Xe s σ H vs us Q I rs (h vs H Q ρ M ds d j c e p)
end
section
variable{X:Cx}{E:XK}{mg:Str->Option Value}{ρ:Rh}{H:Hp}{M:Mo}
def Cvs.one(c:Cvs mg ρ H vs [d]):∃v,vs=[v]/\Cv mg ρ H v d:=by
 cases c with
 |cons c c2=>cases c2;exact⟨_,rfl,c⟩
def Cvs.two(c:Cvs mg ρ H vs [d,e]):∃ v w,vs=[v,w]/\Cv mg ρ H v d/\Cv mg ρ H w e:=by
 cases c with
 |cons c c2=>obtain⟨w,rfl,k⟩:=c2.one;exact⟨_,_,rfl,c,k⟩
def dX:List D->Mo->Option D
 |[.tup l],_=>some (.int l.length)
 |[.scr l],_=>some (.int l.length)
 |[.str x],_=>if x.length<=sizeLine then some (.int x.length) else none
 |[d],M=>(bj d M).map λl=>.int l.length
 |_,_=>none
set_option tactic.hygienic true in
def call_lenD:CallD X E (.builtin "len") (λl=>rd (dX l)):=CallD.of (call_len_seq.or call_len_str) λvs H Q ρ M ds d j c e q=>by
 unfold dX at e;split at e
 ·cases e;obtain⟨v,rfl,k⟩:=c.one;replace c:=k;cases c with | tup n a c=>
  exact .inl ⟨_,_,rfl,.inr (SqT.of a),by rw[c.len];exact q ρ H _ .refl j (.int _)⟩
 ·cases e;obtain⟨v,rfl,k⟩:=c.one;replace c:=k;cases c with | scr n a=>
  exact .inl ⟨_,_,rfl,.inl (.inl a),by rw[Te];exact q ρ H _ .refl j (.int _)⟩
 ·split at e
  ·cases e;obtain⟨v,rfl,k⟩:=c.one;replace c:=k;cases c;exact .inr ⟨_,rfl,‹_›,q ρ H _ .refl j (.int _)⟩
  ·cases e
 ·obtain⟨l,h1,rfl⟩:=Ti.mp e;obtain⟨v,rfl,k⟩:=c.one;replace c:=k;obtain⟨a,xs,rfl,ha,c⟩:=dj j c h1;exact .inl ⟨_,_,rfl,.inl (SqL.of ha),by rw[c.len];exact q ρ H _ .refl j (.int _)⟩
 ·cases e
def QH:List D->Mo->Option D
 |[.int i],_=>some (.int (if i<0 then -i else i))
 |_,_=>none
def xV:List D->Mo->Option D
 |[.int i,.int j],_=>some (.int (if j > i then j else i))
 |_,_=>none
def Pq:List D->Mo->Option D
 |[.int i,.int j],_=>some (.int (if j<i then j else i))
 |_,_=>none
def uL(hc:X.calm=true):CallD X E (.builtin "max") (λl=>rd (xV l)):=CallD.of (call_max2 hc) λvs H Q ρ M ds d j c e q=>by
 unfold xV at e;split at e
 ·cases e;obtain⟨v,w,rfl,k,c2⟩:=c.two;replace c:=k;cases c;cases c2;exact⟨_,_,rfl,q ρ H _ .refl j (.int _)⟩
 ·cases e
def gW:D->Mo->Option (List D)
 |.tup l,_=>some l
 |d,M=>bj d M
def Gv(j:J mg ρ M H)(c:Cv mg ρ H x d)(e:gW d M=some l):∃a xs,x=.ref a/\(H a=some (.lst xs)\/H a=some (.tup xs))/\Cvs mg ρ H xs l:=by
 unfold gW at e;split at e
 ·cases e;cases c with | tup n a c=>exact⟨_,_,rfl,.inr a,c⟩
 ·obtain⟨a,xs,rfl,ha,c⟩:=dj j c e;exact⟨a,xs,rfl,.inl ha,c⟩
def intsOf:List D->Option (List Int)
 |[]=>some []
 |.int i::l=>(intsOf l).map (i::·)
 |_=>none
theorem ints_of:∀ {xs:List V}{l:List D}{ns:List Int},Cvs mg ρ H xs l->intsOf l=some ns->xs=ns.map V.int
 |_,_,_,.nil,e=>by cases e;rfl
 | _,_,_,.cons (d:=d) c cs,e=>by
   cases d with
   |int i=>obtain⟨ms,h1,rfl⟩:=Ti.mp e;cases c;rw[ints_of cs h1];rfl
   |_=>cases e
def Ed(hh:X.A.handled=none):CallR X (.builtin "sum") (λvs H Q=>∃ (l:Addr) (ns:List Int),vs=[.ref l]/\(H l=some (.lst (ns.map V.int))\/H l=some (.tup (ns.map V.int)))/\Q (.int ns.sum) H):=by
 intro Xe s σ H vs us Q I r h;obtain⟨l,ns,rfl,hH,q⟩:=h;obtain⟨u,rfl,ru⟩:=vals1 r;cases ru;have fin:∀(its:List Value),IntsAre its ns->∃xs,its.toArray=intItems xs/\preSum (numAt xs) xs.size=ns.sum:=λits hi=>by
  obtain⟨xs,hx⟩:=hi.allInts.items;have hn:numsOf its.toArray.toList=ns:=by rw[show its.toArray.toList=its from rfl,hi.numsOf]
  rw[hx]at hn;rw[PySem.nums_intItems]at hn;exact⟨xs,hx,by rw[PySem.preSum_eq,VL (by simp),hn]⟩
 rcases hH with hH | hH
 ·obtain ⟨its,rv,p,hz⟩:=I.list (SqL.of (K:=X.K) hH);obtain⟨xs,hx,hs⟩:=fin its (intsAre_of rv);have hl:=p.isList;rw[hx]at hl;obtain⟨o,ho,hc,n,hd⟩:=id hl;have hne:l≠s.heap.objs.size:=Tv (S8 ho);have hsz:(intItems xs).size=xs.size:=by simp[intItems]
  have W:=(Walks.list (prog:=X.prog) (w:=X.w) (A:=X.A.in1) hh s.heap.objs.size l hne (intItems xs)).toS;rw[hsz]at W;refine call_sum_walkAnyS (Vk hl ?_);refine⟨s.heap.objs.size,_,_,_,_,_,_,numAt xs,rfl,W,⟨⟨_,Tr _ rfl,rfl,rfl⟩,hl.at λo e=>SX _ e⟩,λb hb=>?_,λi v hP=>intItems_at hP,λs' t' hm=>?_⟩
  ·rcases T3.mp hb with rfl | hb
   ·exact S8 (Tr _ rfl)
   ·obtain rfl:=Tt.mp hb;exact S8 (SX _ ho)
  ·obtain⟨h',g',d',tk',os'⟩:=s';have e1:g'=s.gens:=hm.gens;have e2:d'=s.drawn:=hm.drawn;have e3:os'=s.os:=hm.os;subst e1 e2 e3;refine⟨.int ns.sum,H,I.kept (h':=h') (t':=tk') λb o e=>hm.heap b o (λhb=>absurd (S8 e) ((Tt.mp hb) ▸ Va _)) (SX _ e),⟨t',?_⟩,q⟩
   rw[<-hs]
 ·obtain⟨its,rv,p,hz⟩:=I.tuple (SqT.of (K:=X.K) hH);obtain⟨xs,hx,hs⟩:=fin its (intsAre_of rv);rw[hx]at p;exact PySem.W.ktm_sumG hh (show s.heap.IsTuple l _ from p) λh' tk t' hk=>⟨.int ns.sum,H,I.kept hk,⟨t',by rw[<-hs]⟩,q⟩
def Dh:List D->Mo->Option D
 |[d],M=>(gW d M).bind λl=>(intsOf l).map λns=>.int ns.sum
 |_,_=>none
def lN(hh:X.A.handled=none):CallD X E (.builtin "sum") (λl=>rd (Dh l)):=CallD.of (Ed hh) λvs H Q ρ M ds d j c e q=>by
 unfold Dh at e;split at e
 ·obtain⟨l,h1,e1⟩:=T4.mp e;obtain⟨ns,h2,rfl⟩:=Ti.mp e1;obtain⟨v,rfl,k⟩:=c.one;replace c:=k;obtain⟨a,xs,rfl,ha,c⟩:=Gv j c h1;have:=ints_of c h2;subst this;exact⟨_,ns,rfl,ha,q ρ H _ .refl j (.int _)⟩
 ·cases e
def HS:D->Option Bool
 |.bl b=>some b
 |.int i=>some (i != 0)
 |_=>none
def iW:List D->Option (List Bool)
 |[]=>some []
 |d::l=>match HS d,iW l with
   |some b,some bs=>some (b::bs)
   |_,_=>none
set_option tactic.hygienic true in
theorem wQ:∀ {xs:List V}{l:List D}{bs:List Bool},Cvs mg ρ H xs l->iW l=some bs->(∀ x∈xs,scS x=true)/\xs.map iV=bs
 |_,_,_,.nil,e=>by cases e;exact⟨(λx hx=>nomatch hx),rfl⟩
 | _,_,_,.cons (d:=d) (ds:=ds) (vs:=vs) c cs,e=>by
   unfold iW at e;split at e
   ·rename_i b bs h1 h2;cases e;obtain⟨a1,a2⟩:=wQ cs h2;cases c with
    |bl b'=>cases h1;exact⟨λx hx=>by rcases T3.mp hx with rfl | hx;rfl;exact a1 x hx,by rw[Us,a2];rfl⟩
    |int b'=>cases h1;exact⟨λx hx=>by rcases T3.mp hx with rfl | hx;rfl;exact a1 x hx,by rw[Us,a2];rfl⟩
    |_=>cases h1
   ·cases e
def vP:List D->Mo->Option D
 |[d],M=>(bj d M).bind λl=>(iW l).map λbs=>.bl (bs.all id)
 |_,_=>none
def BZ:List D->Mo->Option D
 |[.tup l],_=>(iW l).map λbs=>.bl (bs.any id)
 |_,_=>none
def qm(hh:X.A.handled=none):CallD X E (.builtin "all") (λl=>rd (vP l)):=CallD.of (G5 hh) λvs H Q ρ M ds d j c e q=>by
 unfold vP at e;split at e
 ·obtain⟨l,h1,e1⟩:=T4.mp e;obtain⟨ns,h2,rfl⟩:=Ti.mp e1;obtain⟨v,rfl,k⟩:=c.one;replace c:=k;obtain⟨a,xs,rfl,ha,c⟩:=dj j c h1;obtain⟨t1,t2⟩:=wQ c h2;subst t2;exact⟨_,xs,rfl,ha,t1,by have z:=q ρ H _ .refl j (.bl _);rw[List.all_map]at z;exact z⟩
 ·cases e
def DX(hh:X.A.handled=none):CallD X E (.builtin "any") (λl=>rd (BZ l)):=CallD.of (G6 hh) λvs H Q ρ M ds d j c e q=>by
 unfold BZ at e;split at e
 ·obtain⟨ns,h2,rfl⟩:=Ti.mp e;obtain⟨v,rfl,k⟩:=c.one;replace c:=k;cases c with | tup n ha c=>
  obtain⟨t1,t2⟩:=wQ c h2;subst t2;exact⟨_,_,rfl,ha,t1,by have z:=q ρ H _ .refl j (.bl _);rw[List.any_map]at z;exact z⟩
 ·cases e
def oG:List D->Mo->Option D
 |[d],M=>(gW d M).map .tup
 |_,_=>none
def cB:CallD X E (.type "tuple") (λl=>rd (oG l)):=CallD.of call_tuple_of λvs H Q ρ M ds d j c e q=>by
 unfold oG at e;split at e
 ·obtain⟨l,h1,rfl⟩:=Ti.mp e;obtain⟨v,rfl,k⟩:=c.one;replace c:=k;unfold gW at h1;split at h1
  ·cases h1;cases c with | tup n a c=>
   exact⟨_,_,rfl,.inr ⟨SqT.of a,q ρ H _ .refl j (.tup n a c)⟩⟩
  ·obtain⟨a,xs,rfl,ha,c⟩:=dj j c h1;exact⟨_,_,rfl,.inl ⟨SqL.of ha,λp hp=>q ρ _ _ (.lay hp) (j.lay _ hp) (.tup (j.fresh hp) upd_same (c.mono (.lay hp)))⟩⟩
 ·cases e
def Il:List D->Mo->Option (List D)
 |[d],M=>gW d M
 |_,_=>none
def oO:CallD X E (.type "list") (λl=>rd (Il l)>>=eE):=by
 intro Xe s σ H vs us Q I rs q;obtain⟨ρ,M,ds,j,c,go⟩:=q;obtain⟨l,e1,g⟩:=Go.rdb go;unfold Il at e1;split at e1
 ·obtain⟨v,rfl,k⟩:=c.one;replace c:=k;obtain⟨a,xs,rfl,ha,c⟩:=Gv j c e1;exact call_list_of (X:=X) Xe s σ H _ us Q I rs ⟨_,_,rfl,ha.imp SqL.of SqT.of,λp hp=>(g.eE j c hp).2⟩
 ·cases e1
def Q4(d:D):Option PyData:=match toPy d with
 |some p=>some p
 |none=>Je d
def Qo:List D->Mo->Option D
 |[d],_=>(Q4 d).bind λp=>if p.showable&&decide (p.depth<=60)&&decide (KZ p<=sizeLine) then some (.str p.shown) else none
 |_,_=>none
def tyOf:D->Mo->Option String
 |.non,_=>some "NoneType"
 |.bl _,_=>some "bool"
 |.int _,_=>some "int"
 |.str _,_=>some "str"
 |.tup _,_=>some "tuple"
 |.lst _,_=>some "list"
 |.scr _,_=>some "list"
 |.dic _ _,_=>some "dict"
 |.ref n,M=>match M[n]? with
   |some (.lst _)=>some "list"
   |some (.dic _ _)=>some "dict"
   |_=>none
 |_,_=>none
set_option tactic.hygienic true in
def pH{K:PySem.W.Frag}(j:J mg ρ M H){x:V}{d:D}{t:String}(c:Cv mg ρ H x d)(e:tyOf d M=some t):TyOf K H x (.type t):=by
 cases c with
 |non=>cases e;exact .non
 |bl b=>cases e;exact .bl b
 |int b=>cases e;exact .int b
 |str b=>cases e;exact .str b
 |tup n h c=>cases e;exact .tup h
 |lst n h c=>cases e;exact .lst h
 |dic n h l c=>cases e;exact .dK h
 |scr n h=>
   cases e;rcases h with h | ⟨o,h⟩
   ·exact .lst h
   ·exact .frz h
 | ref q=>
   unfold tyOf at e;dsimp only at e;split at e
   ·rename_i l hl;cases e;obtain⟨xs,h,_⟩:=j.obj _ _ _ q hl;exact .lst h
   ·rename_i ks l hl;cases e;obtain⟨xs,h,_⟩:=j.obj _ _ _ q hl;exact .dK h
   ·cases e
 |_=>cases e
def Dg(t c:String):Bool:=t==c || (t=="bool"&&c=="int")
def tys:List String:=["NoneType", "bool", "int", "str", "tuple", "list", "dict"]
def eV:List D->Mo->Option D
 |[d,.ty c],M=>(tyOf d M).bind λt=>if tys.contains c then some (.bl (Dg t c)) else none
 |_,_=>none
def jl(e:tyOf d M=some t):t∈tys:=by unfold tyOf at e;split at e<;>first | (cases e;decide) | (split at e<;>first | (cases e;decide) | cases e) | cases e
def Mt{K:PySem.W.Frag}:∀t∈tys,∀c∈tys,PySem.W.kitOne K (.type t) (.type c)=some (Dg t c):=by intro t ht c hc;simp only[tys,List.mem_cons,List.mem_nil_iff,or_false]at ht hc;rcases ht with rfl | rfl | rfl | rfl | rfl | rfl | rfl<;>rcases hc with rfl | rfl | rfl | rfl | rfl | rfl | rfl<;>rfl
set_option tactic.hygienic true in
def cZ:CallD X E (.builtin "isinstance") (λl=>rd (eV l)):=CallD.of G7 λvs H Q ρ M ds d j c e q=>by
 unfold eV at e;split at e
 ·obtain⟨t,h1,e1⟩:=T4.mp e;split at e1
  ·rename_i hk;cases e1;obtain⟨v,w,rfl,k,c2⟩:=c.two;replace c:=k;cases c2;exact⟨_,_,_,_,rfl,pH j c h1,Mt _ (jl h1) _ (Vs.mp hk),q ρ H _ .refl j (.bl _)⟩
  ·cases e1
 ·cases e
def Ib(X:Cx)(E:XK)(id:String)(g:D->List D->DM D):Prop:=MtR X id (λx vs H Q=>∃ρ M d ds,J X.mg ρ M H/\Cv X.mg ρ H x d/\Cvs X.mg ρ H vs ds/\Go X.mg E (Cv X.mg) Q ρ H (g d ds) M)
def G3:D->List D->DM D
 |.ref n,[v]=>λM=>match M[n]? with
   |some (.lst l)=>if l.length<sizeLine then some (.ok .non,M.set n (.lst (l++[v]))) else none
   |_=>none
 |_,_=>stuck
set_option tactic.hygienic true in
def ww:Ib X E "list.append" G3:=by
 intro Xe s σ H x xs v us Q I rx rs q;obtain⟨ρ,M,d,ds,j,cx,cs,r,e,p⟩:=q;cases cx with
 | ref hn=>
   cases cs with
   |nil=>cases e
   | cons c cs=>cases cs with
     |cons _ _=>cases e
     | nil=>
       rename_i n a w dw;have e:(match M[n]? with
        |some (.lst l)=>if l.length<sizeLine then some (R.ok .non,M.set n (.lst (l++[dw]))) else none
        |_=>none)=some r:=e
       split at e
       ·rename_i l hl;split at e
        ·cases e;obtain⟨xs,hx,cl⟩:=j.obj _ _ _ hn hl;have x:Ext ρ H ρ (upd H a (.lst (xs++[w]))):=.upd (T5 hn);exact mt_append (X:=X) Xe s σ H _ _ v us Q I rx rs ⟨_,_,_,rfl,rfl,hx,by rw[cl.len];assumption,p ρ _ .non x (j.upd hn ⟨_,upd_same,(cl.append (.cons c .nil)).mono x⟩) .non⟩
        ·cases e
       ·cases e
 |_=>cases e
def uN{name id:String}{g:D->List D->DM D}{o e:Expr}{es:List Expr}{fo:ao->DM D}{fs:ao->DM (List D)}{apos cpos:Pos}(pa:PlainAttrs "list")(slot:Slot "list" name id)(hty:typeOf (.builtin id)=pure (.type "method_descriptor"))(hm:Ib X E id g)(ho:DE X E o fo)(ha:DA X E (e::es) fs)
  (hbase:attributeBase o name X.env (eval o X.env)=eval o X.env:=by rfl)
  (hfew:((backTo cpos (starEach (e::es) X.env)).all (fun x=>!x.1)&&(backToKw cpos (keywordEach [] X.env)).all (fun x=>x.1.isSome)
   &&decide ((e::es).length+([]:List Keyword).length+(if ([]:List Keyword).isEmpty then 0 else 1)<30))=true:=by rfl)
  (hline:(apos.endLine==cpos.line)=true:=by rfl) (hs:notStar e=true:=by rfl) (hplain:(backTo cpos (starEach es X.env)).any (·.1)=false:=by rfl) :
  DE X E (.Call (.Attribute o name apos) (e::es) [] cpos) (λδ=>fo δ>>=λx=>rd (λM=>bj x M)>>=λz=>fs δ>>=λxs=>g x xs):=⟨PE.mono (NK pa slot hty hm ho.h ha.h hbase hfew hline hs hplain) λσ H Q h=>by
 obtain⟨ρ,δ,M,ev,j,g1⟩:=h;refine⟨ρ,δ,M,ev,j,g1.bind λρ1 H1 M1 x dx e1 j1 c1 g2=>?_⟩
 obtain⟨l,hl,g3⟩:=Go.rdb g2;obtain⟨a,xs,rfl,hx,cl⟩:=dj j1 c1 hl;exact⟨.inl ⟨rfl,_,SqL.of hx⟩,ρ1,δ,M1,ev.mono e1,j1,g3.bind λρ2 H2 M2 ys dys e2 j2 c2 g4=>⟨ρ2,M2,dx,dys,j2,c1.mono e2,c2,g4⟩⟩⟩
end
structure ExtB(acc:Addr)(ρ:Rh)(H:Hp)(ρ':Rh)(H':Hp):Prop where
 pre:∃τ,ρ'.st=ρ.st++τ
 vo:ρ'.vo=ρ.vo
 new:∀a,a∈ρ'.st->a∉ρ.st->H a=none
 keep:∀a o,H a=some o->a∉ρ.st->a≠acc->H' a=some o
 na:acc∉ρ'.st
section
variable{acc:Addr}{ρ ρ1 ρ2:Rh}{H H1 H2:Hp}
theorem ExtB.trans(e:ExtB acc ρ H ρ1 H1)(f:ExtB acc ρ1 H1 ρ2 H2):ExtB acc ρ H ρ2 H2:=by
 have out:∀a o,H a=some o->a∉ρ.st->a∉ρ1.st:=λa o h n z=>by have:=e.new a z n;rw[h]at this;cases this
 refine⟨?_,f.vo.trans e.vo,λa h n=>?_,λa o h n na=>f.keep a o (e.keep a o h n na) (out a o h n) na,f.na⟩
 ·obtain⟨τ,h1⟩:=e.pre;obtain⟨υ,h2⟩:=f.pre;exact⟨τ++υ,by rw[h2,h1,U5]⟩
 ·by_cases z:a∈ρ1.st
  ·exact e.new a z n
  ·cases q:H a with
   |none=>rfl
   |some o=>have:=f.new a h z;rw[e.keep a o q n (λy=>f.na (y ▸ h))]at this;cases this
def Ext.b(e:Ext ρ H ρ1 H1)(na:acc∉ρ1.st):ExtB acc ρ H ρ1 H1:=⟨e.pre,e.vo,e.new,λa o h n z=>e.keep a o h n,na⟩
def ExtB.kp(e:ExtB acc ρ H ρ1 H1)(h:acc∈ρ.vo):Kp ρ H ρ1 H1:=⟨e.pre,λa o q n y=>by
 have ne:a≠acc:=λz=>n (z ▸ .inr h)
 have ns:a∉ρ.st:=λz=>n (.inl z)
 refine⟨λz=>?_,e.keep a o q ns ne⟩
 rcases z with z | z
 ·have:=e.new a z ns;rw[q]at this;cases this
 ·rw[e.vo]at z;exact n (.inr z)⟩
theorem ExtB.refl(na:acc∉ρ.st):ExtB acc ρ H ρ H:=(Ext.refl).b na
def ExtB.grow(na:acc∉ρ.st):ExtB acc ρ H ρ (upd H acc (.lst ys)):=⟨⟨[],by simp⟩,rfl,λa h n=>absurd h n,λa o h z ne=>by rw[upd_ne ne];exact h,na⟩
end
abbrev ZK:=Addr->Rh->Hp->HO->List D->Prop
structure CstG(Z:ZK)(X:Cx)(Xe:List (Addr×Obj))(acc:Addr)(ρ0:Rh)(H0:Hp)(δ:ao)(l:List D)(M:Mo)(fp:List Addr)(s:Shared):Prop where
 ex:∃σ H ρ o,Inv X Xe σ H s/\ExtB acc ρ0 H0 ρ H/\J X.mg ρ M H/\Ev X.mg ρ H σ δ/\H acc=some o/\Z acc ρ H o l/\∀b∈fp,H b=none
def ZK.Ok(Z:ZK):Prop:=∀a ρ H ρ' H' o l,Z a ρ H o l->Ext ρ H ρ' H'->Z a ρ' H' o l
def ZL(mg:Str->Option Value):ZK:=λ_ ρ H o l=>∃ys,o=.lst ys/\Cvs mg ρ H ys l
def ZL.ok:(ZL mg).Ok:=λ_ _ _ _ _ _ _ ⟨ys,e,c⟩ x=>⟨ys,e,c.mono x⟩
def bC(fg:D->ao->DM ao)(ft:ao->DM Bool)(fb:ao->List D->DM (ao×List D)):List D->ao->List D->DM (ao×List D)
 |[],δ,l=>pure (δ,l)
 |d::ds,δ,l=>fg d δ>>=λδ1=>ft δ1>>=λb=>(if b then fb δ1 l else pure (δ1,l))>>=λp=>bC fg ft fb ds p.1 p.2
def CJ(fg:D->ao->DM ao)(ft:ao->DM Bool)(fb:ao->List D->DM (ao×List D))(n:Nat):Nat->Nat->ao->List D->DM (ao×List D)
 |0,_,_,_=>stuck
 |k+1,i,δ,l=>rd (Itn.next (.dyn n) i)>>=λo=>match o with
   |none=>pure (δ,l)
   |some d=>fg d δ>>=λδ1=>ft δ1>>=λb=>(if b then fb δ1 l else pure (δ1,l))>>=λp=>CJ fg ft fb n k (i+1) p.1 p.2
def fu(fg:D->ao->DM ao)(ft:ao->DM Bool)(fb:ao->List D->DM (ao×List D)):Itn->ao->List D->DM (ao×List D)
 |.fix ds,δ,l=>bC fg ft fb ds δ l
 |.dyn n,δ,l=>rd (λM=>bj (.ref n) M)>>=λm=>CJ fg ft fb n (m.length+1) 0 δ l
def cC(fe:ao->DM D)(δ:ao)(l:List D):DM (ao×List D):=fe δ>>=λd=>if l.length<sizeLine then pure (δ,l++[d]) else stuck
def Rw(X:Cx)(ifs:List Expr)(t:TT):Prop:=∀(Xe:List (Addr×Obj)) (s:Shared) (σ:L2.St) (H:Hp) (Q:Bool->Hp->Prop),Inv X Xe σ H s->t σ H Q->wpAny (model X.prog X.w) X.A (wO ifs X.env) (TP X Xe σ Q) X.xe s
structure DTs(X:Cx)(E:XK)(ifs:List Expr)(f:ao->DM Bool):Prop where
 h:Rw X ifs (tD X.mg E Bv f)
def nu:DTs X E [] (λz=>pure true):=⟨λXe s σ H Q I h=>by obtain⟨ρ,δ,M,ev,j,g⟩:=h;exact S6 ⟨H,I,g.pure ρ H true .refl j rfl⟩⟩
def vW(hc:DT X E c f):DTs X E [c] f:=⟨λXe s σ H Q I h=>wpAny_tests_one (hc.h Xe s σ H Q I h)⟩
set_option tactic.hygienic true in
def DM.bind_ok{α β:Type}{m:DM α}{k:α->DM β}{M M':Mo}{b:β}(h:(m>>=k) M=some (.ok b,M')):∃a M1,m M=some (.ok a,M1)/\k a M1=some (.ok b,M'):=by
 have h:DM.bind m k M=some (.ok b,M'):=h;unfold DM.bind at h;split at h
 ·cases h
 ·cases h
 ·rename_i a M1 e;exact⟨a,M1,e,h⟩
def xP(Z:ZK)(X:Cx)(acc:Addr)(W:(Shared->Prop)->Shared->Prop)(fb:ao->List D->DM (ao×List D))(ρ0:Rh)(H0:Hp):Prop:=
 ∀Xe δ l M s δ' l' M',CstG Z X Xe acc ρ0 H0 δ l M [] s->fb δ l M=some (.ok (δ',l'),M')->W (λs'=>CstG Z X Xe acc ρ0 H0 δ' l' M' [] s') s
def BodyOk(X:Cx)(acc:Addr)(W:(Shared->Prop)->Shared->Prop)(fb:ao->List D->DM (ao×List D)):Prop:=
 ∀ρ0 H0,acc∈ρ0.vo->xP (ZL X.mg) X acc W fb ρ0 H0
def CstG.unpin(c:CstG Z X (Xe++pl) acc ρ0 H0 δ l M [] s)(h:∀b∈fp,∃o,(b,o)∈pl):
  CstG Z X Xe acc ρ0 H0 δ l M fp s/\∀p∈pl,s.heap.get? p.1=some p.2:=by
 obtain⟨σ,H,ρ,o,I,x,j,ev,ha,cl,_⟩:=c.ex;refine⟨⟨σ,H,ρ,o,I.unpinned,x,j,ev,ha,cl,λb hb=>?_⟩,λp hp=>(I.pin p (TQ _ (TQ _ hp))).1⟩
 obtain⟨o',ho⟩:=h b hb;exact (I.pin (b,o') (TQ _ (TQ _ ho))).2.1
def wZ(fg:D->ao->DM ao)(ft:ao->DM Bool)(fb:ao->List D->DM (ao×List D))(δf:ao)(lf:List D)(Mf:Mo):Itn->Nat->Nat->ao->List D->Mo->Prop
 |.fix ds,n,i,δ,l,M=>n=ds.length-i/\bC fg ft fb (ds.drop i) δ l M=some (.ok (δf,lf),Mf)
 |.dyn a,n,i,δ,l,M=>CJ fg ft fb a n i δ l M=some (.ok (δf,lf),Mf)
set_option tactic.hygienic true in
def wZ.step{fg:D->ao->DM ao}{ft:ao->DM Bool}{fb:ao->List D->DM (ao×List D)}{δf δ:ao}{lf l:List D}{Mf M:Mo}{it:Itn}{n i:Nat}(h:wZ fg ft fb δf lf Mf it n i δ l M):
  (it.next i M=some none/\δ=δf/\l=lf/\M=Mf)\/∃d δ1 M1 b M2 δ3 l3 M3 m,it.next i M=some (some d)/\fg d δ M=some (.ok δ1,M1)/\ft δ1 M1=some (.ok b,M2)/\(if b then fb δ1 l else pure (δ1,l)) M2=some (.ok (δ3,l3),M3)/\m<n/\wZ fg ft fb δf lf Mf it m (i+1) δ3 l3 M3:=by
 cases it with
 | fix ds=>
   obtain⟨rfl,h⟩:=h;cases hd:ds[i]? with
   |none=>rw[List.drop_eq_nil_of_le (TX.mp hd)]at h;cases h;exact .inl ⟨congrArg some hd,rfl,rfl,rfl⟩
   |some d=>
     obtain⟨hi',hd'⟩:=S5.mp hd;have hl:ds.drop i=d::ds.drop (i+1):=by rw[<-hd'];exact WT hi'
     rw[hl]at h;obtain⟨δ1,M1,e1,h1⟩:=DM.bind_ok h;obtain⟨b,M2,e2,h2⟩:=DM.bind_ok h1;obtain⟨⟨δ3,l3⟩,M3,e3,h3⟩:=DM.bind_ok h2;exact .inr ⟨d,δ1,M1,b,M2,δ3,l3,M3,ds.length-(i+1),congrArg some hd,e1,e2,e3,by lia,rfl,h3⟩
 | dyn a=>
   cases n with
   |zero=>cases h
   | succ n=>
     obtain⟨o,M0,e0,h⟩:=DM.bind_ok h;obtain⟨o',q,z⟩:=Ti.mp e0;cases z;cases o with
     |none=>cases h;exact .inl ⟨q,rfl,rfl,rfl⟩
     |some d=>obtain⟨δ1,M1,e1,h1⟩:=DM.bind_ok h;obtain⟨b,M2,e2,h2⟩:=DM.bind_ok h1;obtain⟨⟨δ3,l3⟩,M3,e3,h3⟩:=DM.bind_ok h2;exact .inr ⟨d,δ1,M1,b,M2,δ3,l3,M3,n,q,e1,e2,e3,Vz _,h3⟩
def wZ.start{fg:D->ao->DM ao}{ft:ao->DM Bool}{fb:ao->List D->DM (ao×List D)}{δf δ:ao}{lf l:List D}{Mf M:Mo}{it:Itn}(h:fu fg ft fb it δ l M=some (.ok (δf,lf),Mf)):∃ n,wZ fg ft fb δf lf Mf it n 0 δ l M:=by
 cases it with
 |fix ds=>exact⟨_,rfl,h⟩
 |dyn a=>obtain⟨m,M0,e0,h⟩:=DM.bind_ok h;obtain⟨m',q,z⟩:=Ti.mp e0;cases z;exact⟨_,h⟩
def MK(hZ:Z.Ok)(hc:X.calm=true)(hxe:X.xe=λy y=>False){depth:Nat}{bodyK:Sem Fin->Sem Fin}{W:(Shared->Prop)->Shared->Prop}
  (hturn:compTurn e depth (.ref it) (.ref acc) X.env=turnOf g bodyK (.compLoop e depth (.ref it) (.ref acc) X.env) (.ref it) X.env) (hW:oK X.prog X.w X.A bodyK W) (hmono:∀P P' s,(∀s,P s->P' s)->W P s->W P' s)
  {fg:D->ao->DM ao}{ft:ao->DM Bool}{fb:ao->List D->DM (ao×List D)} (hg:DG X E0 g.target fg) (ht:DTs X E0 g.ifs ft) {fp:List Addr}{tn:Nat->Heap->Prop} (T:Turn X.prog X.w X.K g.target Jt fp it tn) (iok:ItOk X.mg ρi Hi Jt itn) (hb:xP Z X acc W fb ρ0 H0) (kp0:∀ρ H,ExtB acc ρ0 H0 ρ H->Kp ρi Hi ρ H) {Xe:List (Addr×Obj)}
  (fok:∀H',(∀b∈fp,H' b=none)->∀b∈fp,FpOk X Xe H' b) {l:List D} (st:CstG Z X Xe acc ρ0 H0 δ l M fp s) (htn:tn 0 s.heap) {lf:List D} (hrun:fu fg ft fb itn δ l M=some (.ok (δf,lf),Mf))
  {R:Result->Shared->Prop} (he:DK e) (hR:∀s',CstG Z X Xe acc ρ0 H0 δf lf Mf fp s'->R (.ok .next) s') :
  codeAny (model X.prog X.w) X.A (.compLoop e depth (.ref it) (.ref acc) X.env) R s:=by
 obtain⟨n0,rem0⟩:=wZ.start hrun;refine Hs (λn s=>∃i δ l M,wZ fg ft fb δf lf Mf itn n i δ l M/\CstG Z X Xe acc ρ0 H0 δ l M fp s/\tn i s.heap) hturn hW ?_ hmono n0 ⟨0,δ,l,M,rem0,st,htn⟩ he
 rintro n s ⟨i,δ,l,M,rem,st,htn⟩;obtain⟨σ,H,ρ,o,I,x,j,ev,ha,cl,fr⟩:=st.ex;have kp:=kp0 _ _ x;rcases rem.step with ⟨hd,rfl,rfl,rfl⟩ | ⟨d,δ1,M1,b,M2,δ3,l3,M3,m,hd,e1,e2,e3,hm,rem3⟩
 ·refine Tp (T.done X rfl rfl rfl hc i Xe s σ H _ I (fok H fr) htn (iok.stop i ρ H _ kp j hd)) (λr s1 h1=>?_) λy y z=>z
  obtain⟨rfl,I1⟩:=h1;exact hR s1 ⟨σ,H,ρ,o,I1,x,j,ev,ha,cl,fr⟩
 ·obtain ⟨go,yl⟩:=iok.item i ρ H M d kp j hd;refine Tp (T.item X rfl rfl rfl hc i Xe s σ H (λy y=>False) I (fok H fr) htn go) (λr s1 h1=>?_) λy y z=>z
  obtain⟨u,rfl,h1⟩:=h1;refine Tp h1 (λy s2 h2=>?_) λy y z=>z
  obtain⟨xv,H5,I5,r5,y5,tn5,fr5⟩:=h2;obtain⟨x5,j5,c5⟩:=yl xv H5 y5;have I5':=I5.pinned (fok H5 fr5) (T.obj _ _ tn5);refine Tp (hg.h _ s2 σ H5 xv u (λσ6 H6=>∃ρ6,Ext ρ H5 ρ6 H6/\J X.mg ρ6 M1 H6/\Ev X.mg ρ6 H6 σ6 δ1) I5' r5 ⟨ρ,δ,M,d,ev.mono x5,j5,c5,_,e1,λρ6 H6 σ6 a1 a2 a3=>⟨ρ6,a1,a2,a3⟩⟩) (λy s3 h3=>?_) λy y z=>by rw[hxe]at z;exact z
  obtain⟨σ6,H6,I6,ρ6,x6,j6,ev6⟩:=h3;refine Tp (ht.h _ s3 σ6 H6 (λb' H7=>b'=b/\∃ρ7,Ext ρ6 H6 ρ7 H7/\J X.mg ρ7 M2 H7) I6 ⟨ρ6,δ1,M1,ev6,j6,_,e2,λρ7 H7 b' a1 a2 a3=>⟨a3,ρ7,a1,a2⟩⟩) (λok s4 h4=>?_) λy y z=>by rw[hxe]at z;exact z
  obtain⟨H7,I7,rfl,ρ7,x7,j7⟩:=h4;have nacc:acc∉ρ.st:=x.na;have na6:acc∉ρ6.st:=λz=>by have h5:=x5.keep acc _ ha nacc;have:=x6.new acc z nacc;rw[h5]at this;cases this
  have ha5:=x5.keep acc _ ha nacc;have ha6:=x6.keep acc _ ha5 nacc;have na7:acc∉ρ7.st:=λz=>by have:=x7.new acc z na6;rw[ha6]at this;cases this
  have ha7:=x7.keep acc _ ha6 na6;have xb:ExtB acc ρ0 H0 ρ7 H7:=((x.trans (x5.b nacc)).trans (x6.b na6)).trans (x7.b na7);have ct:CstG Z X (Xe++pinsAt fp s2.heap) acc ρ0 H0 δ1 l M2 [] s4:=⟨σ6,H7,ρ7,o,I7,xb,j7,ev6.mono x7,ha7,hZ _ _ _ _ _ _ _ (hZ _ _ _ _ _ _ _ (hZ _ _ _ _ _ _ _ cl x5) x6) x7,λb hb=>nomatch hb⟩
  have fin:∀s5,CstG Z X (Xe++pinsAt fp s2.heap) acc ρ0 H0 δ3 l3 M3 [] s5->∃m,m<n/\∃i δ l M,wZ fg ft fb δf lf Mf itn m i δ l M/\CstG Z X Xe acc ρ0 H0 δ l M fp s5/\tn i s5.heap:=λs5 c5=>by
   obtain⟨c6,pp⟩:=c5.unpin (fp:=fp) λb hb=>by obtain⟨o,eo,_⟩:=T.obj _ _ tn5 b hb;exact⟨o,mem_pinsAt hb eo⟩
   exact⟨m,hm,i+1,δ3,l3,M3,rem3,c6,T.keep _ _ _ tn5 λb hb o eo=>pp (b,o) (mem_pinsAt hb eo)⟩
  cases ok with
  |true=>exact iteT (hmono _ _ _ fin (hb _ δ1 l M2 s4 δ3 l3 M3 ct e3))
  |false=>cases e3;exact iteF (fin s4 ct)
set_option tactic.hygienic true in
def Bg{X:Cx}(hxe:X.xe=λy y=>False){elt:Expr}{fe:ao->DM D}{acc:Addr}(he:DE X E0 elt fe):
  BodyOk X acc (λP s=>wpAny (model X.prog X.w) X.A (eval elt X.env) (λx s1=>wpAny (model X.prog X.w) X.A (call (.builtin "list.append") [.ref acc,x]) (λy s2=>P s2) (λy y=>False) s1) (λy y=>False) s) (cC fe):=by
 intro ρ0 H0 hacc Xe δ l M s δ' l' M' ct e;obtain⟨d,M1,e1,e2⟩:=DM.bind_ok e;obtain⟨σ,H,ρ,o,I,x,j,ev,ha,⟨ys,rfl,cl⟩,_⟩:=ct.ex;split at e2;rotate_left
 ·cases e2
 rename_i hz;cases e2;refine Tp (he.h Xe s σ H (λv H1=>∃ρ1,Ext ρ H ρ1 H1/\J X.mg ρ1 M' H1/\Cv X.mg ρ1 H1 v d) I ⟨ρ,δ,M,ev,j,_,e1,λρ1 H1 v a1 a2 a3=>⟨ρ1,a1,a2,a3⟩⟩) (λu s1 h1=>?_) λy y z=>by rw[hxe]at z;exact z
 obtain⟨v,H1,I1,rv,ρ1,x1,j1,c1⟩:=h1;have nacc:acc∉ρ.st:=x.na;have ha1:=x1.keep acc _ ha nacc;have na1:acc∉ρ1.st:=λz=>by have:=x1.new acc z nacc;rw[ha]at this;cases this
 have hv1:acc∈ρ1.vo:=by rw[x1.vo,x.vo];exact hacc
 refine Tp (mt_append (X:=X) Xe s1 σ H1 (.ref acc) [v] (.ref acc) [u] (λy H'=>H'=upd H1 acc (.lst (ys++[v]))) I1 rfl (.cons rv .nil) ⟨_,ys,v,rfl,rfl,ha1,by rw[cl.len];exact hz,rfl⟩) (λy s2 h2=>?_) λy y z=>by rw[hxe]at z;exact z
 obtain⟨_,H2,I2,_,rfl⟩:=h2;exact⟨σ,_,ρ1,_,I2,(x.trans (x1.b na1)).trans (.grow na1),j1.grow hv1,(ev.mono x1).kp ((ExtB.grow na1).kp hv1),upd_same,⟨ys++[v],rfl,((cl.mono x1).append (.cons c1 .nil)).hold hv1⟩,λb hb=>nomatch hb⟩
def dM{α:Type}(m:DM α):DM α:=λM=>match m M with
 |some (.ok a,M')=>some (.ok a,M')
 |_=>none
set_option tactic.hygienic true in
def vh(h:dM m M=some r):∃a M',m M=some (.ok a,M')/\r=(.ok a,M'):=by
 unfold dM at h;split at h
 ·rename_i a M' e;cases h;exact⟨a,M',e,rfl⟩
 ·cases h
def dm(js:List Nat)(δ:ao):ao:=js.map λj=>(δ[j]?).getD none
def b8(k:Nat)(js:List Nat)(δ:ao):ao:=List.replicate k none++dm js δ
def Bh(ev:Ev mg ρ H σ δ)(k:Nat)(js:List Nat):Ev mg ρ H (List.replicate k none++pick js σ) (b8 k js δ):=by
 unfold b8 pick dm;refine⟨by simp,λi d q=>?_⟩
 by_cases hi:i<k
 ·rw[S9 (by rw[Uv];exact hi),UJ]at q
  split at q<;>cases q
 ·rw [TJ (by rw [Uv];lia),Uv,TV]at q ⊢
  cases hj:js[i-k]? with
  |none=>rw[hj]at q;cases q
  | some j=>
    rw[hj]at q;have q:(δ[j]?).getD none=some d:=Tf q;have q':δ[j]?=some (some d):=by
     cases z:δ[j]? with
     |none=>rw[z]at q;cases q
     |some o=>rw[z]at q;exact congrArg some q
    obtain⟨v,h1,h2⟩:=ev.val j d q';exact⟨v,by show some ((σ[j]?).getD none)=_;rw[h1];rfl,h2⟩
def zp(hp:H p=none):Kp ρ H (ρ.hold p) (upd H p o):=⟨⟨[],by show ρ.st=_;simp⟩,λa u h n z=>⟨Rh.nhold n (ne_of_none h hp),by rw[upd_ne (ne_of_none h hp)];exact h⟩⟩
inductive Out where
 |val | sto
def Out.run:Out->List D->DM D
 |.val,l=>pure (.lst l)
 |.sto,l=>λM=>some (.ok (.ref M.length),M++[.lst l])
def Out.fin(o:Out)(hf:H2 acc=none)(hn:acc∉ρ1)(x:ExtB acc (ρ1.hold acc) (upd H2 acc (.lst [])) ρ4 H4)(j:J mg ρ4 M H4)(ha:H4 acc=some (.lst ys))(c:Cvs mg ρ4 H4 ys l)
  (g:Go mg E (Cv mg) Q ρ1 H2 (o.run l) M):Q (.ref acc) H4:=by
 have hv:ρ4.vo=acc::ρ1.vo:=x.vo;have na:acc∉ρ1.vo:=λz=>hn (.inr z)
 have nw:∀a,a∈ρ4.st->a∉ρ1.st->H2 a=none:=λa h n=>by
  have:=x.new a h n;by_cases z:a=acc
  ·rw[z,upd_same]at this;cases this
  ·rw[upd_ne z]at this;exact this
 have kp:∀a o,H2 a=some o->a∉ρ1.st->H4 a=some o:=λa o h n=>x.keep a o (by rw[upd_ne (ne_of_none h hf)];exact h) n (ne_of_none h hf)
 cases o with
 | val=>
   have e:Ext ρ1 H2 ⟨ρ4.st,ρ1.vo⟩ H4:=⟨x.pre,rfl,nw,kp⟩;have jd:J mg ⟨ρ4.st,ρ1.vo⟩ M H4:=J.done (ρ:=ρ1) j hv;have cd:Cvs mg ⟨ρ4.st,ρ1.vo⟩ H4 ys l:=Cvs.less (ρ:=ρ4) (ρ1:=⟨ρ4.st,ρ1.vo⟩) rfl (λa h=>by rw[hv];exact .tail _ h) c
   exact Go.pure (a:=D.lst l) g ⟨ρ4.st,ρ1.vo⟩ H4 (.ref acc) e jd (.lst (λz=>by
    rcases z with z | z
    ·exact x.na z
    ·exact na z) ha cd)
 | sto=>
   obtain⟨r,er,p⟩:=g;cases er;have k4:Kp ρ4 H4 ⟨ρ4.st++[acc],ρ1.vo⟩ H4:=⟨⟨[acc],rfl⟩,λa o h n v=>⟨λz=>by
    rcases z with z | z
    ·rcases T6.mp z with z | z
     ·exact n (.inl z)
     ·exact n (.inr (by rw[hv,Tt.mp z];exact .head _))
    ·exact n (.inr (by rw[hv];exact .tail _ z)),h⟩⟩
   have e:Ext ρ1 H2 ⟨ρ4.st++[acc],ρ1.vo⟩ H4:=by
    refine⟨?_,rfl,λa h n=>?_,kp⟩
    ·obtain⟨τ,h1⟩:=x.pre;exact⟨τ++[acc],by show ρ4.st++[acc]=_;rw[h1,U5];rfl⟩
    ·rcases T6.mp h with z | z
     ·exact nw a z n
     ·rw[Tt.mp z];exact hf
   have jd:J mg ⟨ρ4.st++[acc],ρ1.vo⟩ (M++[.lst l]) H4:=by
    refine⟨by show (ρ4.st++[acc]).length=_;rw[TF,TF,j.len];rfl,?_,λn a w h1 h2=>?_,λa h=>?_⟩
    ·show (ρ4.st++[acc]).Nodup;rw[WR];exact⟨j.nd,by simp,λx' hx y hy e=>by rw[Tt.mp hy]at e;exact x.na (e ▸ hx)⟩
    ·have h1:(ρ4.st++[acc])[n]?=some a:=h1;by_cases hl:n<ρ4.st.length
     ·rw[S9 hl]at h1;rw[S9 (by rw[<-j.len];exact hl)]at h2
      exact (j.obj n a w h1 h2).map rfl λvs ds c=>c.kp k4
     ·have hl':n<(ρ4.st++[acc]).length:=(S5.mp h1).1;rw[TF]at hl';have e:n=ρ4.st.length:=by have:[acc].length=1:=rfl;lia
      subst e;rw[TJ (Td _)]at h1;rw[j.len,TJ (Td _)]at h2;simp at h1 h2;subst h1 h2;exact⟨ys,ha,c.kp k4⟩
    ·have h:a∈ρ1.vo:=h;obtain⟨y1,y2⟩:=j.vol a (by rw[hv];exact .tail _ h)
     refine⟨λz=>?_,y2⟩
     rcases T6.mp z with z | z
     ·exact y1 z
     ·exact na (Tt.mp z ▸ h)
   refine p _ H4 (.ref acc) e jd (.ref ?_);show (ρ4.st++[acc])[_]?=_;rw[<-j.len];simp
structure Beg(X:Cx)(Z:ZK)(ob:Obj)(o0:Addr->HO)(g:Rh->Addr->Rh)(mk:Sem Value):Prop where
 ok:Z.Ok
 nw:∀(A:Around) (E:Value->Shared->Prop) (s:Shared) (Q:Value->Shared->Prop),Q (.ref s.heap.objs.size) { s with heap:=s.heap.push ob }->wpAny (model X.prog X.w) A mk Q E s
 hob:∀(H:Hp) (h:Heap) (a:Addr),h.get? a=some ob->ObjOk X.prog X.w H h a (o0 a)
 fr:ob.isFreed=false
 j:∀{ρ M H a},H a=none->J X.mg ρ M H->J X.mg (g ρ a) M (upd H a (o0 a))
 ev:∀{ρ H a σ δ},H a=none->Ev X.mg ρ H σ δ->Ev X.mg (g ρ a) (upd H a (o0 a)) σ δ
 kp:∀{ρ H a ρ' H'},H a=none->ExtB a (g ρ a) (upd H a (o0 a)) ρ' H'->Kp ρ H ρ' H'
 st:∀ρ a,(g ρ a).st=ρ.st
 z:∀ρ H a,Z a ρ H (o0 a) []
section
variable{X:Cx}{E:XK}{Z:ZK}{ob:Obj}{o0:Addr->HO}{gr:Rh->Addr->Rh}{mk:Sem Value}{scope:Scope}{cl:List (Str×Addr)}{own:List Str}{js:List Nat}{fr:List Str}{e t0 i0:Expr}{f0:List Expr}{gs:List Comprehension}{pos:Pos}{fi:ao->DM Itn}{fg:D->ao->DM ao}{ft:ao->DM Bool}{fb:ao->List D->DM (ao×List D)}
  {bodyK:Cx->Addr->Sem Fin->Sem Fin}{W:Cx->Addr->(Shared->Prop)->Shared->Prop}{α:Type}{Rv:Rh->Hp->V->α->Prop}{Q:VK}{fin:List D->DM α}{use:Option (Value->Sem Unit)}{Qs:Value->Shared->Prop}{Xe:List (Addr×Obj)}{σ:L2.St}{H:Hp}{s:Shared}{ρ:Rh}{δ:ao}{M:Mo}
set_option tactic.hygienic true in
def xj(B:Beg X Z ob o0 gr mk)(he:DK e)(hcl:clausesOf e=⟨t0,i0,f0,0⟩::gs)(hc:X.calm=true)(T:CompG X scope cl own js fr)(hi:DI X E t0 i0 fi)
  (hturn:∀(Y:Cx) it acc,compTurn e 0 (.ref it) (.ref acc) Y.env=turnOf ⟨t0,i0,f0,0⟩ (bodyK Y acc) (.compLoop e 0 (.ref it) (.ref acc) Y.env) (.ref it) Y.env)
  (hW:∀Y acc,oK Y.prog Y.w Y.A (bodyK Y acc) (W Y acc)) (hmono:∀Y acc P P' s,(∀s,P s->P' s)->W Y acc P s->W Y acc P' s)
  (hg:∀Xe m fp C s₂ H₂,DG (X.bL Xe scope (cellsFrom m scope.names cl) (own++fr) fp C s₂ H₂) E0 t0 fg) (ht:∀Xe m fp C s₂ H₂,DTs (X.bL Xe scope (cellsFrom m scope.names cl) (own++fr) fp C s₂ H₂) E0 f0 ft)
  (hb:∀Xe m fp C s₂ H₂ acc ρ H0,xP Z (X.bL Xe scope (cellsFrom m scope.names cl) (own++fr) fp C s₂ H₂) acc (W (X.bL Xe scope (cellsFrom m scope.names cl) (own++fr) fp C s₂ H₂) acc) fb (gr ρ acc) H0)
  (hs:∀y,foldedSetIterable i0 X.env y=pure y) (I:Inv X Xe σ H s) (ev:Ev X.mg ρ H σ δ) (j:J X.mg ρ M H) (g1:Go X.mg E Rv Q ρ H (fi δ>>=λit=>dM (fu fg ft fb it (b8 own.length js δ) [])>>=λp=>fin p.2) M)
  (hfin:∀s2 H2 fp C m acc ρ1 lf Mf s',Inv X Xe σ H2 s2->(∀b∈fp,FpOk X Xe H2 b)->s2.heap.objs.size<=acc->s2.heap.objs.size<=C->H2 acc=none->acc∉ρ1->(∃δf,CstG Z (X.bL Xe scope (cellsFrom m scope.names cl) (own++fr) fp C s2 H2) [] acc (gr ρ1 acc) (upd H2 acc (o0 acc)) δf lf Mf fp s')->Go X.mg E Rv Q ρ1 H2 (fin lf) Mf->
    compPost (model X.prog X.w) X.A X.xe use Qs (.ref acc) C (.ok .next) s') :
  wpAny (model X.prog X.w) X.A (comprehension e scope X.env pos mk false (eval i0 X.env) use) Qs X.xe s:=by
 refine wpAny_comprehension_free (cl:=cl) (use:=use) hcl hs T.clos T.kind T.names ?_;refine thn (hi.h Xe s σ H (λJt H1=>∃ρ1 M1 it,Ext ρ H ρ1 H1/\J X.mg ρ1 M1 H1/\ItOk X.mg ρ1 H1 Jt it/\Go X.mg E Rv Q ρ1 H1 (dM (fu fg ft fb it (b8 own.length js δ) [])>>=λp=>fin p.2) M1) I
  ⟨ρ,δ,M,ev,j,g1.bind λρ1 H1 M1 Jt it e1 j1 iok g2=>⟨ρ1,M1,it,e1,j1,iok,g2⟩⟩) λv s1 h1=>thn h1 λitv s2 h2=>?_
 obtain⟨it,fp,tn,Jt,H2,rfl,I2,Tn,st2,f2,ρ1,M1,itn,x1,j1,iok,g2⟩:=h2;have hrun:∃δf lf Mf,fu fg ft fb itn (b8 own.length js δ) [] M1=some (.ok (δf,lf),Mf)/\Go X.mg E Rv Q ρ1 H2 (fin lf) Mf:=by
  obtain⟨r,e,p⟩:=g2;have e:DM.bind _ _ M1=some r:=e;unfold DM.bind at e;split at e
  ·cases e
  ·rename_i c M' em;obtain⟨a,M'',_,z⟩:=vh em;cases z
  ·rename_i a M' em;obtain⟨a',M'',e1,z⟩:=vh em;cases z;exact⟨a.1,a.2,M',e1,r,e,p⟩
 obtain⟨δf,lf,Mf,hrun,g3⟩:=hrun;refine B.nw _ _ _ _ (Fq ?_);have hlt:∀b∈fp,b<s2.heap.objs.size:=λb hb=>by obtain⟨o,e,_⟩:=Tn.obj _ _ st2 b hb;exact S8 e
 dsimp only;generalize hP:s2.heap.push ob=hp1;have hCs:hp1.objs.size=s2.heap.objs.size+1:=by rw[<-hP,Ug]
 have hCe:hp1.objs.size+1=(hp1.push { cls:=.type "dict",data:=.dict #[] }).objs.size:=by rw[Ug]
 have hC:s2.heap.objs.size<=hp1.objs.size:=by lia
 have hne:hp1.objs.size≠s2.heap.objs.size:=by lia
 have old1:∀b o,s2.heap.get? b=some o->hp1.get? b=some o:=λb o e=>by rw[<-hP];exact SX _ e
 have old:∀b o,s2.heap.get? b=some o->(pushCells (hp1.push { cls:=.type "dict",data:=.dict #[] }) scope.names).get? b=some o:=λb o e=>W5 _ _ _ _ (SX _ (old1 b o e))
 have new:=W5 scope.names _ _ _ (SX { cls:=.type "dict",data:=.dict #[] } (show hp1.get? s2.heap.objs.size=some ob by rw[<-hP];exact Tr _ B.fr))
 have ns:(pushCells (hp1.push { cls:=.type "dict",data:=.dict #[] }) scope.names).Ns hp1.objs.size λu=>none:=(Heap.Ns.new hp1 (.type "dict")).keeps (W5 _ _)
 have hfree:H2 s2.heap.objs.size=none:=I2.hok.fresh (Td _);have IC:=Ck (t':=s2.toks) T I2 f2 hlt old (Td _) hC hne hCe (T7 hC (Nat.le_succ _)) (Vz _) (Nat.lt_succ_of_le hC) rfl (B.hob _ _ _ new) ns;have OK:=IC.ok;have fok:∀H',(∀b∈fp,H' b=none)->∀b∈fp,FpOk (X.bL Xe scope (cellsFrom (hp1.objs.size+1) scope.names cl) (own++fr) fp hp1.objs.size s2 H2) [] H' b:=λH' hn b hb=>by
  obtain⟨_,g2,g3,g4,g5,g6⟩:=f2 b hb;refine⟨hn b hb,Tv (Tj (hlt b hb) hC),λhm=>?_,.inl hb,(OK.exf b hb).2,λp hp=>g6 p (by simpa using hp)⟩
  rcases T3.mp (I2.stkSub _ hm) with z | z
  ·exact g2 z
  ·exact g3 z
 have fp1:∀b∈fp,upd H2 s2.heap.objs.size (o0 s2.heap.objs.size) b=none:=λb hb=>by rw[upd_ne (Tv (hlt b hb))];exact (f2 b hb).1
 have nf:=j1.fresh hfree;have st:CstG Z (X.bL Xe scope (cellsFrom (hp1.objs.size+1) scope.names cl) (own++fr) fp hp1.objs.size s2 H2) [] s2.heap.objs.size (gr ρ1 s2.heap.objs.size) (upd H2 s2.heap.objs.size (o0 s2.heap.objs.size)) (b8 own.length js δ) [] M1 fp
   { s2 with heap:=pushCells (hp1.push { cls:=.type "dict",data:=.dict #[] }) scope.names,toks:=s2.toks }:=
  ⟨_,_,_,_,IC,.refl (λz=>nf (.inl (by rw[<-B.st ρ1];exact z))),B.j hfree j1,B.ev hfree (Bh (ev.mono x1) _ _),upd_same,B.z _ _ _,fp1⟩
 have tn0:tn 0 (pushCells (hp1.push { cls:=.type "dict",data:=.dict #[] }) scope.names):=Tn.keep _ _ _ st2 (λb u o e=>old b o e)
 have loop:codeAny (model X.prog X.w) X.A (.compLoop e 0 (.ref it) (.ref s2.heap.objs.size) (compEnvC scope (cellsFrom (hp1.objs.size+1) scope.names cl) hp1.objs.size X.env))
   (compPost (model X.prog X.w) X.A X.xe use Qs (.ref s2.heap.objs.size) hp1.objs.size) { s2 with heap:=pushCells (hp1.push { cls:=.type "dict",data:=.dict #[] }) scope.names,toks:=s2.toks }:=
  MK (X:=X.bL Xe scope (cellsFrom (hp1.objs.size+1) scope.names cl) (own++fr) fp hp1.objs.size s2 H2) B.ok hc rfl (hturn _ _ _) (hW _ _) (hmono _ _) (hg ..) (ht ..) Tn iok (hb Xe (hp1.objs.size+1) fp hp1.objs.size s2 H2 s2.heap.objs.size ρ1 _) (λu u x=>B.kp hfree x) fok st tn0 hrun he λs' c'=>hfin s2 H2 fp _ _ _ ρ1 lf Mf s' I2 f2 (Td _) hC hfree nf ⟨_,c'⟩ g3
 show codeAny _ _ (.compStart _ 0 (.ref it) (.ref s2.heap.objs.size) (compEnvC scope (cellsFrom (hp1.objs.size+1) scope.names cl) hp1.objs.size X.env)) _ _;exact Gx (by rw[hcl];rfl) rfl loop (Tn.self X.A 0 _ _ _ tn0 loop) he
def Hh(B:Beg X Z ob o0 gr mk)(he:DK e)(hcl:clausesOf e=⟨t0,i0,f0,0⟩::gs)(hc:X.calm=true)(T:CompG X scope cl own js fr)(hi:DI X E t0 i0 fi)
  (hturn:∀(Y:Cx) it acc,compTurn e 0 (.ref it) (.ref acc) Y.env=turnOf ⟨t0,i0,f0,0⟩ (bodyK Y acc) (.compLoop e 0 (.ref it) (.ref acc) Y.env) (.ref it) Y.env)
  (hW:∀Y acc,oK Y.prog Y.w Y.A (bodyK Y acc) (W Y acc)) (hmono:∀Y acc P P' s,(∀s,P s->P' s)->W Y acc P s->W Y acc P' s)
  (hg:∀Xe m fp C s₂ H₂,DG (X.bL Xe scope (cellsFrom m scope.names cl) (own++fr) fp C s₂ H₂) E0 t0 fg) (ht:∀Xe m fp C s₂ H₂,DTs (X.bL Xe scope (cellsFrom m scope.names cl) (own++fr) fp C s₂ H₂) E0 f0 ft)
  (hb:∀Xe m fp C s₂ H₂ acc ρ H0,xP Z (X.bL Xe scope (cellsFrom m scope.names cl) (own++fr) fp C s₂ H₂) acc (W (X.bL Xe scope (cellsFrom m scope.names cl) (own++fr) fp C s₂ H₂) acc) fb (gr ρ acc) H0)
  (hs:∀y,foldedSetIterable i0 X.env y=pure y)
  (hq:∀(Q:VK) acc H2 ρ1 lf Mf H4 ρ4 o,H2 acc=none->acc∉ρ1->ExtB acc (gr ρ1 acc) (upd H2 acc (o0 acc)) ρ4 H4->J X.mg ρ4 Mf H4->H4 acc=some o->Z acc ρ4 H4 o lf->Go X.mg E Rv Q ρ1 H2 (fin lf) Mf->Q (.ref acc) H4)
  (ee:eval e X.env=comprehension e scope X.env pos mk false (eval i0 X.env) none) :
  PE X e (tD X.mg E Rv λδ=>fi δ>>=λit=>dM (fu fg ft fb it (b8 own.length js δ) [])>>=λp=>fin p.2):=by
 intro Xe s σ H Q I h;obtain⟨ρ,δ,M,ev,j,g1⟩:=h;rw[ee];refine xj B he hcl hc T hi hturn hW hmono hg ht hb hs I ev j g1 λs2 H2 fp C m acc ρ1 lf Mf s' I2 f2 hA hC hfree nf c' g3=>?_
 obtain⟨δf,c'⟩:=c';obtain⟨σ4,H4,ρ4,o,I4,x4,j4,ev4,ha4,z4,fr4⟩:=c'.ex;obtain⟨m4,hn4,_⟩:=I4.loc;refine⟨m4,hn4,λh' hsb'=>?_⟩
 have un:=GJ I4.base hsb' hC;have ok4:=Bk I4.hok hsb' I4.free;exact⟨.ref acc,H4,I2.call' (s':={ s' with heap:=h' }) (ch:=fp) (I4.os) un ok4 I4.bare (λb hb=>by obtain⟨_,g2,g3,g4,g5,g6⟩:=f2 b hb;exact⟨g4,g2,g5,g6⟩),rfl,hq Q acc H2 ρ1 lf Mf H4 ρ4 o hfree nf x4 j4 ha4 z4 g3⟩
end
theorem Beg.list:Beg X (ZL X.mg) { cls:=.type "list",dict:=none,data:=.seq ([]:List Value).toArray } (λy=>.lst []) Rh.hold (newList []) where
 ok:=ZL.ok
 nw:=λA E s Q q=>by unfold newList;exact UV q
 hob:=λH h a e=>⟨Vh _,[],_,.nil,e⟩
 fr:=rfl
 j:=λh j=>j.begin h
 ev:=λh e=>e.kp (zp h)
 kp:=λh x=>(zp h).trans (x.kp (.head _))
 st:=λy y=>rfl
 z:=λy y y=>⟨[],rfl,.nil⟩
def Hf{cl:List (Str×Addr)}{own:List Str}{js:List Nat}{fr:List Str}{f0:List Expr}{gs:List Comprehension}{fi:ao->DM Itn}{fg:D->ao->DM ao}{ft:ao->DM Bool}{fb:ao->List D->DM (ao×List D)}
  {bodyK:Cx->Addr->Sem Fin->Sem Fin}{W:Cx->Addr->(Shared->Prop)->Shared->Prop} (o:Out) (hc:X.calm=true) (T:CompG X scope cl own js fr) (hi:DI X E t0 i0 fi)
  (hturn:∀(Y:Cx) it acc,compTurn (.ListComp elt (⟨t0,i0,f0,0⟩::gs) scope pos) 0 (.ref it) (.ref acc) Y.env=turnOf ⟨t0,i0,f0,0⟩ (bodyK Y acc) (.compLoop (.ListComp elt (⟨t0,i0,f0,0⟩::gs) scope pos) 0 (.ref it) (.ref acc) Y.env) (.ref it) Y.env)
  (hW:∀Y acc,oK Y.prog Y.w Y.A (bodyK Y acc) (W Y acc)) (hmono:∀Y acc P P' s,(∀s,P s->P' s)->W Y acc P s->W Y acc P' s)
  (hg:∀Xe m fp C s₂ H₂,DG (X.bL Xe scope (cellsFrom m scope.names cl) (own++fr) fp C s₂ H₂) E0 t0 fg) (ht:∀Xe m fp C s₂ H₂,DTs (X.bL Xe scope (cellsFrom m scope.names cl) (own++fr) fp C s₂ H₂) E0 f0 ft)
  (hb:∀Xe m fp C s₂ H₂ acc,BodyOk (X.bL Xe scope (cellsFrom m scope.names cl) (own++fr) fp C s₂ H₂) acc (W (X.bL Xe scope (cellsFrom m scope.names cl) (own++fr) fp C s₂ H₂) acc) fb)
  (hs:∀y,foldedSetIterable i0 X.env y=pure y:=by intro _;rfl) :
  DE X E (.ListComp elt (⟨t0,i0,f0,0⟩::gs) scope pos) (λδ=>fi δ>>=λit=>dM (fu fg ft fb it (b8 own.length js δ) [])>>=λp=>o.run p.2):=
 ⟨Hh Beg.list (.inl ⟨_,_,_,_,rfl⟩) rfl hc T hi hturn hW hmono hg ht (λz z z z z z z z z=>hb _ _ _ _ _ _ _ _ _ (.head _)) hs (λQ acc H2 ρ1 lf Mf H4 ρ4 o' hf nf x4 j4 ha4 ⟨ys,e,c⟩ g=>o.fin hf nf x4 j4 (e ▸ ha4) c g) (eval_ListComp ..)⟩
def jb{cl:List (Str×Addr)}{own:List Str}{js:List Nat}{fr:List Str}{f0:List Expr}{fi:ao->DM Itn}{fg:D->ao->DM ao}{ft:ao->DM Bool}{fe:ao->DM D}
  (o:Out) (hc:X.calm=true) (T:CompG X scope cl own js fr) (hi:DI X E t0 i0 fi)
  (hg:∀Xe m fp C s₂ H₂,DG (X.bL Xe scope (cellsFrom m scope.names cl) (own++fr) fp C s₂ H₂) E0 t0 fg) (ht:∀Xe m fp C s₂ H₂,DTs (X.bL Xe scope (cellsFrom m scope.names cl) (own++fr) fp C s₂ H₂) E0 f0 ft)
  (he:∀Xe m fp C s₂ H₂,DE (X.bL Xe scope (cellsFrom m scope.names cl) (own++fr) fp C s₂ H₂) E0 elt fe)
  (hs:∀y,foldedSetIterable i0 X.env y=pure y:=by intro _;rfl) :
  DE X E (.ListComp elt [⟨t0,i0,f0,0⟩] scope pos) (λδ=>fi δ>>=λit=>dM (fu fg ft (cC fe) it (b8 own.length js δ) [])>>=λp=>o.run p.2):=
 Hf (bodyK:=λY acc=>uR elt (.ref acc) Y.env) (W:=λY acc P s=>wpAny (model Y.prog Y.w) Y.A (eval elt Y.env) (λx s1=>wpAny (model Y.prog Y.w) Y.A (call (.builtin "list.append") [.ref acc,x]) (λv s2=>P s2) (λv v=>False) s1) (λv v=>False) s) o hc T hi
  (λY it acc=>Jg ..) (λY acc=>Ep) (λY acc P P' s hp h=>Tp h (λx s1 h1=>Tp h1 (λv s2 h2=>hp _ h2) λv v z=>z) λv v z=>z) hg ht (λXe m fp C s₂ H₂ acc=>Bg rfl (he ..)) hs
def boot_zip:bootBuiltins "zip"=some (.type "zip"):=by decide +kernel
def frz:D->Option (Bool×List D)
 |.tup l=>some (true,l)
 |.lst l=>some (false,l)
 |_=>none
def pairs:List D->List D->List D
 |x::xs,y::ys=>.tup [x,y]::pairs xs ys
 |_,_=>[]
def Ah:List D->Option Itn
 |[x,y]=>match frz x,frz y with
   |some (_,l),some (_,m)=>some (.fix (pairs l m))
   |_,_=>none
 |_=>none
theorem pairs_at:∀ (l m:List D) (i:Nat),(pairs l m)[i]?=match l[i]?,m[i]? with
  |some x,some y=>some (.tup [x,y])
  |_,_=>none
 |[],m,i=>by simp[pairs]
 |x::xs,[],i=>by
   cases i with
   |zero=>simp[pairs]
   |succ i=>simp only[pairs,List.getElem?_nil,List.getElem?_cons_succ];cases xs[i]?<;>rfl
 |x::xs,y::ys,0=>by simp[pairs]
 |x::xs,y::ys,i+1=>by simp only[pairs,List.getElem?_cons_succ];exact pairs_at xs ys i
section
variable{mg:Str->Option Value}{ρ:Rh}{H:Hp}
def zc{K:PySem.W.Frag}{x:V}{d:D}{b:Bool}{l:List D}(c:Cv mg ρ H x d)(e:frz d=some (b,l)):∃a xs,x=.ref a/\a∉ρ/\H a=some (if b then .tup xs else .lst xs)/\Cvs mg ρ H xs l:=by
 cases c with
 |tup n h c=>cases e;exact⟨_,_,rfl,n,h,c⟩
 |lst n h c=>cases e;exact⟨_,_,rfl,n,h,c⟩
 |_=>cases e
def p7{K:PySem.W.Frag}{b:Bool}{a:Addr}{xs:List V}(h:H a=some (if b then .tup xs else .lst xs)):m6 b K H a xs:=by
 cases b with
 |true=>exact SqT.of h
 |false=>exact SqL.of h
def ne_if:∀φ,(if b=true then HO.tup xs else HO.lst ys)≠HO.ext φ:=by cases b<;>nofun
set_option tactic.hygienic true in
def Mq{K:PySem.W.Frag}{b1 b2:Bool}{l1 l2:Addr}{xs ys:List V}{ds es:List D}(n1:l1∉ρ)(n2:l2∉ρ)(h1:H l1=some (if b1 then .tup xs else .lst xs))(h2:H l2=some (if b2 then .tup ys else .lst ys))(c1:Cvs mg ρ H xs ds)(c2:Cvs mg ρ H ys es):ItOk mg ρ H (Qy K b1 b2 l1 l2) (.fix (pairs ds es)) where
 item:=λi ρ' H' M' d e j q=>by
  have hq:(pairs ds es)[i]?=some d:=Tf q;rw[pairs_at]at hq;split at hq
  ·rename_i dx dy e1 e2;cases hq;obtain⟨x,hx,cx⟩:=c1.get e1;obtain⟨y,hy,cy⟩:=c2.get e2;have k1:=(e.keep _ _ h1 n1 ne_if).2;have k2:=(e.keep _ _ h2 n2 ne_if).2;refine⟨⟨xs,ys,x,y,p7 k1,p7 k2,hx,hy⟩,λv H2 z=>?_⟩
   obtain⟨p,hp,rfl,z⟩:=z;obtain⟨x',y',hx',hy',rfl⟩:=z xs ys (p7 k1) (p7 k2);rw[hx]at hx';cases hx';rw[hy]at hy';cases hy';exact⟨.lay hp,j.lay _ hp,.tup (j.fresh hp) upd_same (.cons ((cx.kp e).mono (.lay hp)) (.cons ((cy.kp e).mono (.lay hp)) .nil))⟩
  ·cases hq
 stop:=λi ρ' H' M' e j q=>by
  have hq:(pairs ds es)[i]?=none:=Tf q;rw[pairs_at]at hq;refine⟨xs,ys,p7 (e.keep _ _ h1 n1 ne_if).2,p7 (e.keep _ _ h2 n2 ne_if).2,?_⟩;cases e1:ds[i]? with
  |none=>exact .inl (TX.mpr (by rw[c1.len];exact TX.mp e1))
  |some dx=>cases e2:es[i]? with
    |none=>exact .inr (TX.mpr (by rw[c2.len];exact TX.mp e2))
    |some dy=>rw[e1,e2]at hq;cases hq
end
set_option tactic.hygienic true in
def Lh{X:Cx}{E:XK}{elts:List Expr}{kt:Nat}{tp:Pos}{a b:Expr}{fa:ao->DM (List D)}{p pos:Pos}(hg:Gl X "zip")(hm:X.mg "zip"=none)(ha:DA X E [a,b] fa)(hs:notStar a=true:=by rfl)(hs2:notStar b=true:=by rfl):
  DI X E (.Tuple elts kt tp) (.Call (.Name "zip" p) [a,b] [] pos) (λδ=>fa δ>>=λl=>opt (Ah l)):=⟨by
 intro Xe s σ H R I h;obtain⟨ρ,δ,M,ev,j,g1⟩:=h;refine Call_ (ld_blt I hg hm boot_zip (Uz (thn (ha.h.h pos Xe s σ H (λvs H1=>∃ρ1 M1 ds,Ext ρ H ρ1 H1/\J X.mg ρ1 M1 H1/\Cvs X.mg ρ1 H1 vs ds/\Go X.mg E (ItOk X.mg) R ρ1 H1 (opt (Ah ds)) M1) I ⟨ρ,δ,M,ev,j,g1.bind λρ1 H1 M1 vs ds e1 j1 c1 g2=>⟨ρ1,M1,ds,e1,j1,c1,g2⟩⟩) λus s1 h1=>?_) (bU hs) (by rw[bU hs2];rfl)))
 obtain⟨vs,H1,I1,rv,ρ1,M1,ds,e1,j1,c1,g2⟩:=h1;obtain⟨itn,ei,q⟩:=g2.opt;unfold Ah at ei;split at ei;rotate_left
 ·cases ei
 rename_i dx dy;split at ei;rotate_left
 ·cases ei
 rename_i b1 l b2 m f1 f2;cases ei;obtain⟨v1,v2,rfl,k1,k2⟩:=c1.two;obtain⟨a1,xs,rfl,n1,h1,cx⟩:=zc (K:=X.K) k1 f1;obtain⟨a2,ys,rfl,n2,h2,cy⟩:=zc (K:=X.K) k2 f2;obtain⟨u1,u2,rfl,r1,r2⟩:=vals2 rv;cases r1;cases r2;obtain⟨its1,w1,p1,_⟩:=I1.seqS (p7 (K:=X.K) h1);obtain⟨its2,w2,p2,_⟩:=I1.seqS (p7 (K:=X.K) h2);refine Ef p1 p2 λh' a1' a2' a3 a4 a5 a6 a7=>wpAny_pyIter_zip a1' ?_
 have lt1:@LT.lt Nat _ a1 s1.heap.objs.size:=p1.lt;have lt2:@LT.lt Nat _ a2 s1.heap.objs.size:=p2.lt;have D:ZipApart (s1.heap.objs.size+4) (s1.heap.objs.size+2) (s1.heap.objs.size+3) s1.heap.objs.size (s1.heap.objs.size+1) a1 a2:=by constructor<;>exact λ(h:@Eq Nat _ _)=>by have:=lt1;have:=lt2;lia
 have I2:Inv X Xe σ H1 { s1 with heap:=h' }:=I1.kept (t':=s1.toks) a7
 refine⟨_,_,_,_,H1,rfl,I2,HW D,⟨a1',a2',⟨_,_,a3⟩,a4.1,a5.1⟩,λb hb=>?_,q ρ1 H1 _ .refl j1 (Mq n1 n2 h1 h2 cx cy)⟩
 refine I1.fpOk ?_ (I1.hok.fresh ?_)<;>(simp only[List.mem_cons,List.mem_nil_iff,or_false]at hb;rcases hb with rfl | rfl | rfl | rfl | rfl<;>lia)⟩
structure XTab(K:PySem.W.Frag)(mg:Str->Option Value)(ns:List Str)(F:Addr):Prop where
 cls:∀a∈ns,∃C,XCls K mg a C/\XAt K C/\Catches K C F
 kit:∀a∈ns,∀b∈ns,∀C D,mg a=some (.ref C)->mg b=some (.ref D)->PySem.W.kitOne K (.ref C) (.ref D)=some (a==b)
def tZ{P:Program}{w:World}{K:PySem.W.Frag}{mg:Str->Option Value}{base:Heap}{N:List Str}{qual:Str}{scope:Scope}{f:Addr}{cd:Value}{A:Around}{outer:List Env}{s:Shared}{H:Hp}{E:XK}{ns:List Str}{F:Addr}{x:Str}{np cpos pos:Pos}{e:Expr}{fe:ao->DM D}
  (T:XTab K mg ns F) (hx:x∈ns) (he:DE (b7 P w K mg base N qual scope f cd A outer s H E) E e fe)
  (hg:Gl (b7 P w K mg base N qual scope f cd A outer s H E) x:=by rfl) (hd:(x==("__debug__":Str))=false:=by decide)
  (hst:starEach [e] (b7 P w K mg base N qual scope f cd A outer s H E).env=[(false,eval e (b7 P w K mg base N qual scope f cd A outer s H E).env)]:=by rfl) :
  DS (b7 P w K mg base N qual scope f cd A outer s H E) E (.Raise (some (.Call (.Name x np) [e] [] cpos)) none pos) (λδ=>fe δ>>=λz=>raise x):=by
 obtain⟨C,xc,_,_⟩:=T.cls x hx;refine⟨PS.mono (L2.HN xc he.h hg hd hst) λD σ H h=>?_⟩
 obtain⟨ρ,δ,M,ev,j,g1⟩:=h;refine⟨ρ,δ,M,ev,j,g1.bind λρ1 H1 M1 v d e1 j1 c1 g2=>⟨rfl,?_⟩⟩
 obtain⟨r,er,p⟩:=g2;cases er;exact p ρ1 H1 C .refl j1 xc.at_
def Ev.forget(h:Ev mg ρ H σ δ):Ev mg ρ H (σ.set i none) (δ.set i none):=by
 refine⟨by rw[Ur,Ur,h.len],λj x q=>?_⟩
 by_cases e:j=i
 ·subst e;have hj:j<(δ.set j none).length:=(S5.mp q).1;rw[Ur]at hj;rw[Th hj]at q;cases q
 ·rw[Tc (λz=>e z.symm)]at q ⊢
  exact h.val j x q
def HB(i:Nat):Fl->DM Fl
 |.nx δ=>pure (.nx (δ.set i none))
 |.bk δ=>pure (.bk (δ.set i none))
 |.ct δ=>pure (.ct (δ.set i none))
 |.rt d=>pure (.rt d)
def rm(ns:List Str)(n i:Nat)(fb:ao->DM Fl)(fh:Str->ao->DM Fl)(δ:ao):DM Fl:=λM=>match fb δ M with
 |some (.exc c,M')=>if ns.contains c then (dM (fh c ((List.replicate n none).set i (some (.exn 0))))>>=HB i) M' else none
 |r=>r
def Sy(ns:List Str)(c:Str):List D->Mo->Option D
 |[.exn _,.cls k],_=>if ns.contains k then some (.bl (c==k)) else none
 |_,_=>none
def OJ(a:α)(f:α->DM β):((Pure.pure a:DM α)>>=f)=f a:=rfl
def QX(a:α):(opt (some a):DM α)=Pure.pure a:=rfl
def OD(m:DM α)(f:α->DM β)(g:β->DM γ):(m>>=f)>>=g=m>>=λa=>f a>>=g:=by
 funext M;show DM.bind (DM.bind m f) g M=DM.bind m (λa=>DM.bind (f a) g) M
 unfold DM.bind;cases m M with
 |none=>rfl
 |some r=>obtain⟨r,M'⟩:=r;cases r<;>rfl
section
variable{X:Cx}{E:XK}{a b c:Expr}{fa fb fc:ao->DM D}{pos:Pos}
def Cu:D->Mo->Option D
 |.int i,_=>if i.natAbs.log2<1920 then some (.str (toString i)) else none
 |_,_=>none
set_option tactic.hygienic true in
def Ek(ha:DE X E a fa):DE X E (.FormattedValue a (-1) none pos) (λδ=>fa δ >>= λx=>rd (Cu x)):=⟨PE.mono (NQ ha.h) λσ H Q h=>by
 obtain⟨ρ,δ,M,ev,j,g1⟩:=h;refine⟨ρ,δ,M,ev,j,g1.bind λρ1 H1 M1 x dx e1 j1 c1 g2=>?_⟩
 obtain⟨d,e,q⟩:=g2.rd;unfold Cu at e;split at e
 ·split at e
  ·cases e;cases c1;exact⟨_,rfl,‹_›,q ρ1 H1 _ .refl j1 (.str _)⟩
  ·cases e
 ·cases e⟩
def strOf:D->Option Str
 |.str x=>some x
 |_=>none
theorem Go.strOf(g:Go mg E rel Q ρ H (L3.opt (L3.strOf d)>>=k) M):∃x,d=.str x/\Go mg E rel Q ρ H (k x) M:=by
 cases d with
 |str x=>exact⟨x,rfl,g⟩
 |_=>obtain⟨r,e,_⟩:=g;cases e
def Go.ite[Decidable p](g:Go mg E rel Q ρ H (if p then m else stuck) M):p/\Go mg E rel Q ρ H m M:=by
 by_cases h:p
 ·rw[S7 h]at g;exact⟨h,g⟩
 ·rw[Tq h]at g;obtain⟨r,e,_⟩:=g;cases e
def boolsOf:List D->Option (List Bool)
 |[]=>some []
 |.bl b::l=>(boolsOf l).map (b::·)
 |_=>none
theorem tV:∀ {xs:List V}{l:List D}{bs:List Bool},Cvs mg ρ H xs l->boolsOf l=some bs->xs=bs.map V.bl
 |_,_,_,.nil,e=>by cases e;rfl
 | _,_,_,.cons (d:=d) c cs,e=>by
   cases d with
   |bl i=>obtain⟨ms,h1,rfl⟩:=Ti.mp e;cases c;rw[tV cs h1];rfl
   |_=>cases e
def K9:D->List D->DM D
 |x,[.bl b]=>rd λM=>(bj x M).bind λl=>(boolsOf l).map λbs=>.int (bs.countP (·== b):Nat)
 |_,_=>stuck
def Fj:Ib X E "list.count" K9:=by
 intro Xe s σ H x xs v us Q I rx rs q;obtain⟨ρ,M,d,ds,j,cx,cs,g⟩:=q;cases cs with
 |nil=>obtain⟨r,e,_⟩:=g;cases e
 | cons c cs=>cases cs with
   |cons _ _=>obtain⟨r,e,_⟩:=g;cases c<;>cases e
   | nil=>cases c with
     |bl b=>obtain⟨d',e,p⟩:=Go.rd g;obtain⟨l,h1,e1⟩:=T4.mp e;obtain⟨bs,h2,rfl⟩:=Ti.mp e1;obtain⟨a,ys,rfl,ha,cl⟩:=dj j cx h1;have:=tV cl h2;subst this;exact Hv (X:=X) Xe s σ H _ _ v us Q I rx rs ⟨a,bs,b,rfl,rfl,ha,p ρ H _ .refl j (.int _)⟩
     |_=>obtain⟨r,e,_⟩:=g;cases e
def findB(b:Bool):List Bool->Option Nat
 |[]=>none
 |c::l=>if c==b then some 0 else (findB b l).map (·+ 1)
set_option tactic.hygienic true in
theorem uV{b:Bool}:∀ {l:List Bool}{n:Nat},findB b l=some n->l[n]?=some b/\∀ m c,m<n->l[m]?=some c->(c == b)=false
 |[],n,h=>by cases h
 | c::l,n,h=>by
   unfold findB at h;split at h
   ·rename_i hc;cases h;exact⟨by rw[VG.mp hc];rfl,λm c hm=>absurd hm (Nat.not_lt_zero _)⟩
   ·rename_i hc;obtain⟨k,h1,rfl⟩:=Ti.mp h;obtain⟨a1,a2⟩:=uV h1;refine⟨by simpa using a1,λm c' hm e=>?_⟩
    cases m with
    |zero=>simp at e;subst e;simpa using hc
    |succ m=>exact a2 m c' (by lia) (by simpa using e)
def LK:D->List D->DM D
 |x,[.bl b]=>rd λM=>(bj x M).bind λl=>(boolsOf l).bind λbs=>(findB b bs).bind λn=>if n<1000 then some (.int (n:Nat)) else none
 |_,_=>stuck
set_option tactic.hygienic true in
def Fo:Ib X E "list.index" LK:=by
 intro Xe s σ H x xs v us Q I rx rs q;obtain⟨ρ,M,d,ds,j,cx,cs,g⟩:=q;cases cs with
 |nil=>obtain⟨r,e,_⟩:=g;cases e
 | cons c cs=>cases cs with
   |cons _ _=>obtain⟨r,e,_⟩:=g;cases c<;>cases e
   | nil=>cases c with
     | bl b=>
       obtain⟨d',e,p⟩:=Go.rd g;obtain⟨l,h1,e1⟩:=T4.mp e;obtain⟨bs,h2,e2⟩:=T4.mp e1;obtain⟨n,h3,e3⟩:=T4.mp e2;split at e3
       ·rename_i hn;cases e3;obtain⟨a,ys,rfl,ha,cl⟩:=dj j cx h1;have:=tV cl h2;subst this;obtain⟨f1,f2⟩:=uV h3;exact Hw (X:=X) Xe s σ H _ _ v us Q I rx rs ⟨a,bs,b,n,rfl,rfl,ha,f1,f2,hn,p ρ H _ .refl j (.int _)⟩
       ·cases e3
     |_=>obtain⟨r,e,_⟩:=g;cases e
end
def Js:DE X E (.Dict [] [] pos) (λz=>pure (.dic [] [])):=⟨PE.mono pe_dnewK λσ H Q h=>by obtain⟨ρ,δ,M,ev,j,g⟩:=h;exact λp hp=>g.pure ρ _ _ (.lay hp) (j.lay _ hp) (.dic (j.fresh hp) upd_same rfl .nil)⟩
set_option tactic.hygienic true in
theorem jL:∀ {names:List (Str×NameKind)}{m:Nat}{y:Str}{c:Addr},(y,c)∈cellsFrom m names []->(y,NameKind.cell)∈names
 |[],_,_,_,h=>nomatch h
 | (n,k)::r,m,y,c,h=>by
   unfold cellsFrom at h;split at h
   ·rename_i hk;rw[cO]at h;rcases T6.mp h with z | z
    ·exact .tail _ (jL z)
    ·cases Tt.mp z;have hk':k=.cell:=by cases k<;>first | rfl | cases hk
     rw[hk'];exact .head _
   ·exact .tail _ (jL h)
def isC:NameKind->Bool
 |.cell=>true
 |_=>false
def LR(h:isC k=true):k=.cell:=by cases k<;>first | rfl | cases h
set_option tactic.hygienic true in
def wy(h:(names.all λp=>!isC p.2 || (match names.lookup p.1 with | some k=>isC k | none=>false))=true):∀(m:Nat) y c,(cellsFrom m names []).lookup y=some c->names.lookup y=some .cell:=λm y c e=>by
 have hm:=jL (Uu e);have q:=V1.mp h _ hm;simp only[isC,Bool.not_true,Bool.false_or]at q;split at q
 ·rename_i k hk;rw[hk,LR q]
 ·cases q
def wz{cl:List (Str×Addr)}{names:List (Str×NameKind)}(h:yE (λp=>(match names.lookup p.1 with | some k=>isC k | none=>false)=false) cl):∀y c,cl.lookup y=some c->names.lookup y≠some .cell:=λy c e z=>by have:=oM h (y,c) (L2.mem_of_lookup e);simp only[z,isC]at this;cases this
end L3
namespace L3
open PySem PySem.Spec L2
@[simp] theorem au(a:α)(f:α->DM β):((Pure.pure a:DM α)>>=f)=f a:=id rfl
@[simp] theorem aq(m:DM α)(f:α->DM β)(g:β->DM γ):(m>>=f)>>=g=m>>=λa=>f a>>=g:=OD m f g
@[simp] theorem nZ(a:α):(opt (some a):DM α)=Pure.pure a:=id rfl
@[simp] theorem Su(a:α):dM (Pure.pure a:DM α)=Pure.pure a:=id rfl
@[simp] theorem Rj(c:Str)(f:α->DM β):((raise c:DM α)>>=f)=raise c:=id rfl
def bY{α:Type}{f:Mo->Option α}{a:α}(h:∀M,f M=some a):(rd f:DM α)=Pure.pure a:=by funext M;show (f M).map _=_;rw[h M];rfl
@[simp] theorem Sv(f g:ao->DM Fl)(δ:ao):m5 f g δ=f δ>>=λr=>match r with
 |.nx δ'=>g δ'
 |r=>Pure.pure r:=id rfl
@[simp] theorem aF(i:Nat)(δ:ao):ug i δ=opt ((δ[i]?).join):=id rfl
@[simp] theorem aQ(b:Bool):lH (.bl b)=Pure.pure b:=id rfl
@[simp] theorem RQ(p n:Nat)(fb:ao->DM Fl)(ds:List D):aL p n fb ds=if ds.length=p then fb (aP n ds)>>=λr=>match r with
 |.nx _=>Pure.pure .non
 |.rt d=>Pure.pure d
 |_=>stuck else stuck:=id rfl
@[simp] theorem Rk(n:Nat)(ds:List D):aP n ds=ds.map some++List.replicate (n-ds.length) none:=id rfl
@[simp] theorem o8(i:Nat)(d:D)(δ:ao):gN i d δ=Pure.pure (δ.set i (some d)):=id rfl
@[simp] theorem SM(n:Nat)(fs:List D->ao->DM ao)(l:List D)(δ:ao):gT n fs (.tup l) δ=if l.length=n then fs l δ else stuck:=id rfl
@[simp] theorem Sd(f:D->ao->DM ao)(fs:List D->ao->DM ao)(d:D)(l:List D)(δ:ao):cF f fs (d::l) δ=f d δ>>=λδ'=>fs l δ':=id rfl
@[simp] theorem Sg(δ:ao):iI [] δ=Pure.pure δ:=id rfl
@[simp] theorem CW(i j:Nat)(fa:ao->DM (List D))(δ:ao):NB i j fa δ=fa δ>>=λl=>match l with
 |[v,w]=>Pure.pure (.nx ((δ.set i (some v)).set j (some w)))
 |_=>stuck:=id rfl
@[simp] theorem Qf(i j:Int):(rd (cU (.int i) (.int j)):DM D)=Pure.pure (.int (i+j)):=id rfl
@[simp] theorem Qn(i j:Int):(rd (q9 (.int i) (.int j)):DM D)=Pure.pure (.int (i-j)):=id rfl
@[simp] theorem Ra(i j:Int):(rd (vf (.int i) (.int j)):DM D)=Pure.pure (.bl (decide (i<j))):=id rfl
@[simp] theorem Q9(i j:Int):(rd (xr (.int i) (.int j)):DM D)=Pure.pure (.bl (decide (i<=j))):=id rfl
@[simp] theorem Q8(i j:Int):(rd (xq (.int i) (.int j)):DM D)=Pure.pure (.bl (decide (j<i))):=id rfl
@[simp] theorem Q7(i j:Int):(rd (Ew (.int i) (.int j)):DM D)=Pure.pure (.bl (decide (j<=i))):=id rfl
@[simp] theorem Ss(i:Int):(rd (qG (.int i)):DM D)=Pure.pure (.int (-i)):=id rfl
@[simp] theorem R6(i:Int):(rd (QH [.int i]):DM D)=Pure.pure (.int (if i<0 then -i else i)):=id rfl
@[simp] theorem N8(i j:Int):(rd (xV [.int i,.int j]):DM D)=Pure.pure (.int (if j > i then j else i)):=id rfl
@[simp] theorem RX(i j:Int):(rd (Pq [.int i,.int j]):DM D)=Pure.pure (.int (if j<i then j else i)):=id rfl
def Qj{i j:Int}(h:0<j):(rd (qD (.int i) (.int j)):DM D)=Pure.pure (.int (i%j)):=bY λM=>by simp[cW,h]
def Ja{i j:Int}(h:jn i j=true):(rd (qF (.int i) (.int j)):DM D)=Pure.pure (.int (i*j)):=bY λM=>by simp[cW,h]
def N7{i j:Int}(h:rK i j=true):(rd (uU (.int i) (.int j)):DM D)=Pure.pure (.int (i / j)):=bY λM=>by simp[cW,h]
def Ql{i j:Int}(h:IK i j=true):(rd (HJ (.int i) (.int j)):DM D)=Pure.pure (.int (i^j.toNat)):=bY λM=>by simp[cW,h]
set_option tactic.hygienic true in
def bits_le(h:i.natAbs<2^n):Builtin.Int.intBits i<=n:=by
 unfold Builtin.Int.intBits;split
 ·exact Vh _
 ·rename_i h0;have:i.natAbs≠0:=by intro z;apply h0;simp;lia
  exact (Nat.log2_lt this).mpr h
def JM(h:i.natAbs<2^64):jn i j=true:=by
 unfold jn;have:¬ (Builtin.Int.intBits i > shortFactorBits):=by have:=bits_le h;unfold shortFactorBits;lia
 simp[this]
def JN(h:j.natAbs<2^64):jn i j=true:=by
 unfold jn;have:¬ (Builtin.Int.intBits j > shortFactorBits):=by have:=bits_le h;unfold shortFactorBits;lia
 simp[this]
def Jw(h0:0<j)(h:j.natAbs<2^1000):rK i j=true:=by
 unfold rK;have a:Builtin.divisionGoesByPylong i j=false:=by
  unfold Builtin.divisionGoesByPylong;have hj:j.natAbs≠0:=by lia
  have hl:j.natAbs.log2<1000:=(Nat.log2_lt hj).mpr h;have h0':(j==0)=false:=by simp;lia
  simp only[h0'];have:¬ (j.natAbs.log2 / 30+1 > 300):=by lia
  simp[this]
 simp[a,h0]
def Ob{a b:Nat}(h:a<2^64):(rd (qF (.int (a:Int)) (.int (b:Int))):DM D)=Pure.pure (.int ((a*b:Nat):Int)):=by rw[Ja (JM (by simpa using h)),Int.natCast_mul]
def Oa{a b:Nat}(h0:0<b):(rd (qD (.int (a:Int)) (.int (b:Int))):DM D)=Pure.pure (.int ((a%b:Nat):Int)):=by rw[Qj (by lia),Int.natCast_emod]
def nD(n:Nat):D:=.int (n:Int)
def nT(l:List Nat):D:=.tup (l.map nD)
def m7{α:Type}{l:List α}{i:Nat}{a:α}(h:l[i]?=some a):atI l (i:Int)=some a:=by
 have hi:=(S5.mp h).1;unfold atI ixN;rw[S7 (by lia),S7 (by lia)]
 simpa using h
def I9{l:List D}{i:Nat}{a:D}(h:l[i]?=some a):(rd (cg (.tup l) (.int (i:Int))):DM D)=Pure.pure a:=bY λM=>m7 h
def I8{l:List D}{i:Nat}{a:D}(h:l[i]?=some a):(rd (cg (.lst l) (.int (i:Int))):DM D)=Pure.pure a:=bY λM=>m7 h
def Qi{l:List Nat}{i:Nat}{a:Nat}(h:l[i]?=some a):(rd (cg (nT l) (.int (i:Int))):DM D)=Pure.pure (nD a):=I9 (by simp[h])
@[simp] theorem RW(l:List D):(rd (dX [.tup l]):DM D)=Pure.pure (.int (l.length:Int)):=id rfl
@[simp] theorem RT(l:List D):(rd (dX [.lst l]):DM D)=Pure.pure (.int (l.length:Int)):=id rfl
@[simp] theorem RV(l:List Int):(rd (dX [.scr l]):DM D)=Pure.pure (.int (l.length:Int)):=id rfl
@[simp] theorem zX(l:List D):(rd (oG [.lst l]):DM D)=Pure.pure (.tup l):=id rfl
@[simp] theorem R3(l:List D):(rd (oG [.tup l]):DM D)=Pure.pure (.tup l):=id rfl
theorem qx:∀l:List Nat,intsOf (l.map nD)=some (l.map λn:Nat=>(n:Int))
 |[]=>rfl
 |i::l=>by simp[intsOf,nD];exact qx l
theorem uA:∀l:List Nat,(l.map λn:Nat=>(n:Int)).sum=((l.sum:Nat):Int)
 |[]=>rfl
 |i::l=>by simp[uA l]
@[simp] theorem R1(l:List Nat):(rd (Dh [nT l]):DM D)=Pure.pure (nD l.sum):=bY λM=>by show (intsOf (l.map nD)).map _=_;rw[qx];simp[nD,uA]
@[simp] theorem Oe(l:List Nat):(rd (Dh [.lst (l.map nD)]):DM D)=Pure.pure (nD l.sum):=bY λM=>by show (intsOf (l.map nD)).map _=_;rw[qx];simp[nD,uA]
@[simp] theorem Oc{n:Nat}(h:n<2^62):ph [.int (n:Int)]=some (.fix ((List.range n).map nD)):=by
 have:Dc (n:Int)=true:=by unfold Dc;exact Tz ⟨by lia,by lia⟩
 simp[ph,this,ur,nD]
@[simp] theorem R7(l:List D):w5 (.tup l)=some (.fix l):=id rfl
def dD(h:l.length<=1000000):fY l=Pure.pure (.tup l):=by
 have:eY l=true:=by unfold eY;exact Tz (by show l.length<=2^24;lia)
 simp[fY,this]
def cX(h:l.length<=1000000):gB l=Pure.pure (.lst l):=by
 have:eY l=true:=by unfold eY;exact Tz (by show l.length<=2^24;lia)
 simp[gB,this]
@[simp] theorem Bw(fg:D->ao->DM ao)(ft:ao->DM Bool)(fb:ao->List D->DM (ao×List D))(ds:List D)(δ:ao)(l:List D):fu fg ft fb (.fix ds) δ l=bC fg ft fb ds δ l:=id rfl
theorem zu(S:ao->Prop)(en:D->ao)(p:D->Bool)(e:D->D):∀ (ds:List D) (δ:ao) (l:List D),S δ->l.length + ds.length<=1000000->
  (∀d∈ds,∀δ,S δ->fg d δ=Pure.pure (en d)/\S (en d))->(∀d∈ds,ft (en d)=Pure.pure (p d))->(∀d∈ds,p d=true->fe (en d)=Pure.pure (e d))->∃δ',bC fg ft (cC fe) ds δ l=Pure.pure (δ',l++(ds.filter p).map e)
 |[],δ,l,_,_,_,_,_=>⟨δ,by simp[bC]⟩
 | d::ds,δ,l,s,hl,h0,h1,h2=>by
   have a:=h0 d (Ui ..) δ s;have b:=h1 d (Ui ..);have hl':l.length+(ds.length+1)<=1000000:=by simpa using hl
   have lt:l.length<sizeLine:=by show l.length<2^24;lia
   have ih:=λl' hl'=>zu S en p e ds (en d) l' a.2 hl' (λx hx=>h0 x (T8 _ hx)) (λx hx=>h1 x (T8 _ hx)) (λx hx=>h2 x (T8 _ hx))
   by_cases hp:p d=true
   ·have c:=h2 d (Ui ..) hp;obtain⟨δ',q⟩:=ih (l++[e d]) (by simp;lia)
    refine⟨δ',?_⟩;simp[bC,a.1,b,hp,cC,c,lt,q]
   ·obtain⟨δ',q⟩:=ih l (by lia)
    refine⟨δ',?_⟩;simp[bC,a.1,b,hp,q]
@[simp] theorem n6(l:List D):Out.run .val l=Pure.pure (.lst l):=id rfl
def O3{ft:ao->DM Bool}{fe:ao->DM D}{x:Option D}{rest:ao}{ds:List D}(p:D->Bool)(e:D->D)(hl:ds.length<=1000000)(h1:∀d∈ds,ft (some d::rest)=Pure.pure (p d))(h2:∀d∈ds,p d=true->fe (some d::rest)=Pure.pure (e d)){β:Type}{k:ao×List D->DM β}{k':List D->DM β}(hk:∀q,k q=k' q.2):
  (dM (bC (gN 0) ft (cC fe) ds (x::rest) [])>>=k)=k' ((ds.filter p).map e):=by
 obtain⟨δ',q⟩:=zu (fg:=gN 0) (ft:=ft) (fe:=fe) (λδ=>∃x,δ=x::rest) (λd=>some d::rest) p e ds (x::rest) [] ⟨x,rfl⟩ (by simpa using hl) (λd _ δ ⟨x,h⟩=>⟨by subst h;rfl,_,rfl⟩) h1 h2
 rw[q];simp[hk]
@[simp] theorem Ri(m:DM α):(m>>=λa=>(Pure.pure a:DM α))=m:=by
 funext M;show DM.bind m _ M=m M;unfold DM.bind;cases m M with
 |none=>rfl
 |some r=>obtain⟨r,M'⟩:=r;cases r<;>rfl
def fj:Option D->List D->Option D
 |x,[]=>x
 |_,d::ds=>fj (some d) ds
theorem Im{ft:ao->DM Bool}{fe:ao->DM D}{rest:ao}(p:D->Bool)(e:D->D):∀ (ds:List D) (x:Option D) (l:List D),l.length + ds.length<=1000000->(∀ d∈ds,ft (some d::rest)=Pure.pure (p d))->(∀ d∈ds,p d=true->fe (some d::rest)=Pure.pure (e d))->
  bC (gN 0) ft (cC fe) ds (x::rest) l=Pure.pure (fj x ds::rest,l++(ds.filter p).map e)
 |[],x,l,_,_,_=>by simp[bC,fj]
 | d::ds,x,l,hl,h1,h2=>by
   have b:=h1 d (Ui ..);have hl':l.length+(ds.length+1)<=1000000:=by simpa using hl
   have lt:l.length<sizeLine:=by show l.length<2^24;lia
   have ih:=λl' hl'=>Im (rest:=rest) p e ds (some d) l' hl' (λx hx=>h1 x (T8 _ hx)) (λx hx=>h2 x (T8 _ hx))
   by_cases hp:p d=true
   ·have c:=h2 d (Ui ..) hp;have q:=ih (l++[e d]) (by simp;lia)
    simp[bC,b,hp,cC,c,lt,q,fj]
   ·have q:=ih l (by lia)
    simp[bC,b,hp,q,fj]
def K6{ft:ao->DM Bool}{fe:ao->DM D}{x:Option D}{rest:ao}{ds:List D}(p:D->Bool)(e:D->D)(hl:ds.length<=1000000)(h1:∀d∈ds,ft (some d::rest)=Pure.pure (p d))(h2:∀d∈ds,p d=true->fe (some d::rest)=Pure.pure (e d)):
  dM (bC (gN 0) ft (cC fe) ds (x::rest) [])=Pure.pure (fj x ds::rest,(ds.filter p).map e):=by
 rw[Im p e ds x [] (by simpa using hl) h1 h2];simp
def Fp(l:List Nat)(p:D->Bool)(q:Nat->Bool)(h:∀n∈l,p (nD n)=q n):(l.map nD).filter p=(l.filter q).map nD:=by rw[List.filter_map];congr 1;exact List.filter_congr λn hn=>h n hn
def Ng(l:List Nat)(f:D->D)(g:Nat->Nat)(h:∀n∈l,f (nD n)=nD (g n)):(l.map nD).map f=(l.map g).map nD:=by rw[U0,U0];exact Xb λn hn=>h n hn
def K7{ft:ao->DM Bool}{fe:ao->DM D}{x:Option D}{rest:ao}{l:List Nat}(p:Nat->Bool)(e:Nat->Nat)(hl:l.length<=1000000)(h1:∀n∈l,ft (some (nD n)::rest)=Pure.pure (p n))(h2:∀n∈l,p n=true->fe (some (nD n)::rest)=Pure.pure (nD (e n))):
  dM (bC (gN 0) ft (cC fe) (l.map nD) (x::rest) [])=Pure.pure (fj x (l.map nD)::rest,((l.filter p).map e).map nD):=by
 let u:D->Nat:=λd=>match d with | .int i=>i.toNat | _=>0
 have hu:∀n:Nat,u (nD n)=n:=λn=>by simp[u,nD]
 rw[K6 (λd=>p (u d)) (λd=>nD (e (u d))) (by simpa using hl) (λd hd=>?_) (λd hd hp=>?_)]
 ·rw[Fp l _ p (λn z=>by rw[hu]),Ng _ _ e (λn z=>by rw[hu])]
 ·obtain⟨n,hn,rfl⟩:=Uj.mp hd;rw[hu];exact h1 n hn
 ·obtain⟨n,hn,rfl⟩:=Uj.mp hd;rw[hu]at hp ⊢;exact h2 n hn hp
def rP:Option D->Option D->List D->List D->ao
 |x,y,a::as,b::bs=>rP (some a) (some b) as bs
 |x,y,_,_=>[x,y]
theorem qu:∀ (as bs:List Int),PyData.eqvAll (as.map .int) (bs.map .int)=decide (as=bs)
 |[],[]=>by simp[PyData.eqvAll]
 |[],b::bs=>by simp[PyData.eqvAll]
 |a::as,[]=>by simp[PyData.eqvAll]
 |a::as,b::bs=>by rw[Us,Us];simp only[PyData.eqvAll,PyData.eqv,qu as bs];by_cases h:a=b<;>by_cases h2:as=bs<;>simp[h,h2]
theorem pG:∀l:List Int,dH (l.map D.int)=some (l.map PyData.int)
 |[]=>rfl
 |i::l=>by simp[dH,toPy,pG l]
theorem lay_ints:∀l:List Int,PyData.canLayAll0 (l.map PyData.int)=true
 |[]=>rfl
 |i::l=>by simp[PyData.canLayAll0,PyData.canLay0,lay_ints l]
theorem oU:∀ l:List Int,PyData.depthAll (l.map PyData.int)<=1
 |[]=>by simp[PyData.depthAll]
 |i::l=>by
   have:=oU l;simp only[List.map_cons,PyData.depthAll,PyData.depth]
   lia
@[simp] theorem Qg(i j:Int):(rd (cI (.int i) (.int j)):DM D)=Pure.pure (.bl (decide (i=j))):=bY λM=>by simp[cI,eqB,eqP,toPy,PyData.canLay0,PyData.depth,PyData.eqv];rw[T9];simp
@[simp] theorem Qk(i j:Int):(rd (gC (.int i) (.int j)):DM D)=Pure.pure (.bl (!decide (i=j))):=bY λM=>by simp[gC,eqB,eqP,toPy,PyData.canLay0,PyData.depth,PyData.eqv];rw[T9];simp
@[simp] theorem R9(i j:Str):(rd (cI (.str i) (.str j)):DM D)=Pure.pure (.bl (decide (i=j))):=id rfl
@[simp] theorem Sq(i j:Str):(rd (gC (.str i) (.str j)):DM D)=Pure.pure (.bl (!decide (i=j))):=id rfl
def yU(a b:List Int):eqB (.tup (a.map D.int)) (.tup (b.map D.int))=some (decide (a=b)):=by
 have:=oU a;have h:∀n,n<=1->1+n<=60:=λn h=>by lia
 simp only[eqB,eqP,toPy,pG,Option.map_some,PyData.canLay0,lay_ints,PyData.depth,PyData.eqv,qu];simp
 lia
def nA(l:List Nat):nT l=.tup ((l.map λn:Nat=>(n:Int)).map D.int):=by simp[nT,nD,Function.comp_def]
def tW{a b:List Nat}:(a.map λn:Nat=>(n:Int))=(b.map λn:Nat=>(n:Int)) ↔ a=b:=List.map_inj_right λx y (h:(x:Int)=(y:Int))=>by lia
@[simp] theorem R8(a b:List Nat):(rd (cI (nT a) (nT b)):DM D)=Pure.pure (.bl (decide (a=b))):=bY λM=>by rw[nA,nA,cI,yU];simp[tW]
@[simp] theorem Sh(a b:List Nat):(rd (gC (nT a) (nT b)):DM D)=Pure.pure (.bl (!decide (a=b))):=bY λM=>by rw[nA,nA,gC,yU];simp[tW]
theorem BV:∀l:List Bool,iW (l.map D.bl)=some l
 |[]=>rfl
 |b::l=>by simp[iW,HS,BV l]
@[simp] theorem Ge(l:List Bool):(rd (vP [.lst (l.map D.bl)]):DM D)=Pure.pure (.bl (l.all id)):=bY λM=>by simp[vP,bj,BV]
theorem Gz:∀ l:List Nat,iW (l.map nD)=some (l.map λn=>n != 0)
 |[]=>rfl
 |b::l=>by simp only[List.map_cons,iW,Gz l,nD,HS];congr 2;rw[T9];simp
@[simp] theorem RP(l:List Nat):(rd (BZ [nT l]):DM D)=Pure.pure (.bl (l.any (·!= 0))):=bY λM=>by simp[BZ,nT,Gz,List.any_map]
theorem Ax:∀ l:List Nat,l.any (·!= 0)=decide (0<l.sum)
 |[]=>rfl
 |a::l=>by
   rw[List.any_cons,Ax l,T9];simp only[Bool.or_eq_true,bne_iff_ne,decide_eq_true_eq,ne_eq];rw[V7]
   lia
def vD(h:∀M,tyOf d M=some t)(hc:tys.contains c=true):(rd (eV [d,.ty c]):DM D)=Pure.pure (.bl (Dg t c)):=bY λM=>by simp only[eV,h M,Option.bind_some,hc,if_true]
@[simp] theorem jD(b:Bool):(rd (Ae (.bl b)):DM Bool)=Pure.pure b:=id rfl
@[simp] theorem R4(l m:List D):Ah [.tup l,.tup m]=some (.fix (pairs l m)):=id rfl
def Rn{α:Type}(m:DM α)(M:Mo)(Q:α->Mo->Prop):Prop:=∃a M',m M=some (.ok a,M')/\Q a M'
theorem Rn.bind(h:Rn m M Q1)(k:∀a M',Q1 a M'->Rn (f a) M' Q):Rn (m>>=f) M Q:=by obtain⟨a,M',e,q⟩:=h;obtain⟨b,M2,e2,q2⟩:=k a M' q;refine⟨b,M2,?_,q2⟩;show DM.bind m f M=_;unfold DM.bind;rw[e];exact e2
theorem Rn.pure(q:Q a M):Rn (Pure.pure a) M Q:=⟨a,M,rfl,q⟩
def Rn.mono{α:Type}{m:DM α}{Q R:α->Mo->Prop}(h:Rn m M Q)(k:∀a M',Q a M'->R a M'):Rn m M R:=by obtain⟨a,M',e,q⟩:=h;exact⟨a,M',e,k a M' q⟩
theorem Rn.rd(h:f M=some a)(q:Q a M):Rn (L3.rd f) M Q:=⟨a,M,by unfold L3.rd;rw[h];rfl,q⟩
def Rn.bindRd(a:α)(h:f M=some a)(q:Rn (k a) M Q):Rn (L3.rd f>>=k) M Q:=Rn.bind (Rn.rd h (Q:=λb M'=>b=a/\M'=M) ⟨rfl,rfl⟩) (λb M' ⟨e1,e2⟩=>by rw[e1,e2];exact q)
def Rn.call(hp:ds.length=p)(h:Rn (fb (aP n ds)) M λr M'=>∃d,r=.rt d/\Q d M'):Rn (aL p n fb ds) M Q:=by
 unfold aL;rw[S7 hp];refine Rn.bind h λr M' ⟨d,e,q⟩=>?_
 subst e;exact Rn.pure q
structure Sb(p:Nat)(M M':Mo):Prop where
 le:M.length<=M'.length
 keep:∀q,q≠p->q<M.length->M'[q]?=M[q]?
def Sb.refl:Sb p M M:=⟨Td _,λz z z=>rfl⟩
theorem Sb.trans(h:Sb p M M1)(k:Sb p M1 M2):Sb p M M2:=⟨T7 h.le k.le,λq hq hl=>(k.keep q hq (Tj hl h.le)).trans (h.keep q hq hl)⟩
theorem Sb.set:Sb p M (M.set p o):=⟨by simp,λq hq hl=>Tc (λz=>hq z.symm)⟩
def Sb.push:Sb p M (M++[o]):=⟨by simp,λq hq hl=>S9 hl⟩
def Sb.at(h:Sb p M M')(hq:q≠p)(e:M[q]?=some o):M'[q]?=some o:=(h.keep q hq (S5.mp e).1).trans e
def Sb.new(h:M'.length=M.length\/M.length<=M'.length)(hq:M.length<=q)(k:Sb q M' M2)(h1:Sb p M M'):Sb p M M2:=⟨T7 h1.le k.le,λr hr hl=>(k.keep r (by lia) (Tj hl h1.le)).trans (h1.keep r hr hl)⟩
def JL(h:l.length<=1000000):eE l M=some (.ok (.ref M.length),M++[.lst l]):=by
 have:eY l=true:=by unfold eY;exact Tz (by show l.length<=2^24;lia)
 unfold eE;rw[S7 this]
theorem Rn.eE(h:l.length<=1000000)(q:Rn (k (.ref M.length)) (M++[.lst l]) Q):Rn (L3.eE l>>=k) M Q:=Rn.bind ⟨_,_,JL h,(⟨rfl,rfl⟩:D.ref M.length=.ref M.length/\M++[.lst l]=M++[.lst l])⟩ (Q1:=λa M'=>a=.ref M.length/\M'=M++[.lst l]) (λa M' ⟨e1,e2⟩=>by rw[e1,e2];exact q)
def qy{n:Nat}{l:List D}{i:Nat}(h:M[n]?=some (.lst l))(hi:l[i]?=some a):cg (.ref n) (.int (i:Int)) M=some a:=by show (bj (.ref n) M).bind _=_;simp only[bj,h,Option.bind_some];exact m7 hi
def Mr(h:i<n):ixN n (i:Int)=some i:=by unfold ixN;rw[S7 (by lia),S7 (by lia)];simp
def jk{n:Nat}{l:List D}{i:Nat}(h:M[n]?=some (.lst l))(hi:i<l.length):Df (.ref n) (.int (i:Int)) v M=some (.ok (),M.set n (.lst (l.set i v))):=by delta Df;dsimp only;rw[h];dsimp only;rw[Mr hi]
def vQ(h:M[n]?=some (.lst l))(hl:l.length<1000000):G3 (.ref n) [v] M=some (.ok .non,M.set n (.lst (l++[v]))):=by
 have:l.length<sizeLine:=by show l.length<2^24;lia
 delta G3;dsimp only;rw[h];dsimp only;rw[S7 this]
def Rn.run(h:m M=some (.ok a,M'))(q:Rn (k a) M' Q):Rn (m>>=k) M Q:=Rn.bind (Q1:=λb M2=>b=a/\M2=M') ⟨a,M',h,rfl,rfl⟩ (λb M2 ⟨e1,e2⟩=>by rw[e1,e2];exact q)
theorem du(I:Nat->ao->Mo->Prop):∀ (ds:List D) (i:Nat) (δ:ao) (M:Mo),I i δ M->(∀ j d δ M,ds[j]?=some d->I (i + j) δ M->Rn (tg d δ >>= fb) M λr M'=>∃ δ',r=.nx δ'/\I (i + j + 1) δ' M')->Rn (forL tg fb ds δ) M λr M'=>∃ δ',r=.nx δ'/\I (i + ds.length) δ' M'
 |[],i,δ,M,h,_=>Rn.pure ⟨δ,rfl,h⟩
 | d::ds,i,δ,M,h,st=>by
   have s:=st 0 d δ M rfl h;have e:forL tg fb (d::ds) δ=(tg d δ>>=fb)>>=λr=>match r with
    |.nx δ2=>forL tg fb ds δ2
    |.ct δ2=>forL tg fb ds δ2
    |.bk δ2=>Pure.pure (.nx δ2)
    |.rt d=>Pure.pure (.rt d):=by rw[aq];rfl
   rw[e];refine Rn.bind s λr M' ⟨δ',e,h'⟩=>?_
   subst e;have ih:=du I ds (i+1) δ' M' h' (λj d δ M hj hI=>by
    have:=st (j+1) d δ M (by simpa using hj) (by rw[show i+(j+1)=i+1+j by lia];exact hI)
    rw[show i+1+j+1=i+(j+1)+1 by lia];exact this)
   rw[show i+(d::ds).length=i+1+ds.length by simp;lia]
   exact ih
section
variable{X:Cx}{E:XK}
def Ex:PGet X (λx y H Q=>∃p xs i v,x=.ref p/\y=.int i/\0<=i/\SqL X.K H p xs/\atI xs i=some v/\Q v H):=by
 intro Xe s σ H x y ov iv Q I rx ry h;obtain⟨p,xs,i,z,rfl,rfl,h0,hq,he,q⟩:=h;cases rx;obtain⟨t,rfl⟩:=ry;obtain⟨its,r,pl,hz⟩:=I.list hq;obtain⟨j,h1,h2,h3,h4,h5⟩:=atI_get he;obtain⟨w,ew,rw'⟩:=r.get h2;have hl:=r.length;have hn:=line63;have fin:EP X Xe σ Q w s:=⟨z,H,I,rw',q⟩;have hj:i.toNat=j:=by rw[seqIndex_of h0 h5]at h1;exact Tf h1
 exact wpAny_getItem_list pl.isList h0 (by lia) (by rw[hj];simpa using ew) fin
def Ik:D->D->Mo->Option D
 |x,.int i,M=>if 0<=i then (bj x M).bind λl=>atI l i else none
 |_,_,_=>none
set_option tactic.hygienic true in
def Pb:PGet X (rD X.mg E (λx y=>rd (Ik x y))):=by
 intro Xe s σ H x y ov iv Q I rx ry h;obtain⟨ρ,M,dx,dy,j,cx,cy,go⟩:=h;obtain⟨d,e,p⟩:=go.rd;unfold Ik at e;split at e
 ·cases cy;split at e
  ·rename_i h0;obtain⟨l,h1,e1⟩:=T4.mp e;obtain⟨a,xs,rfl,ha,c⟩:=dj j cx h1;obtain⟨w,e2,cw⟩:=c.at e1;exact Ex (X:=X) Xe s σ H _ _ ov iv Q I rx ry ⟨_,_,_,_,rfl,rfl,h0,SqL.of ha,e2,p ρ H _ .refl j cw⟩
  ·cases e
 ·cases e
def vV(ho:DE X E o fo)(hi:DE X E i fi)(hop:bZ X E (inplaceOp op) gop)(he:DE X E e fe)
  (ha:∀ov iv new,augStore i ov iv new=(do holding [new,ov,iv] (setItem ov iv new);release [new,ov,iv] [];pure .next):=by intros;rfl) :
  DS X E (.AugAssign (.Subscript o i tpos) op e pos) (λδ=>fo δ>>=λa=>fi δ>>=λk=>rd (Ik a k)>>=λx=>fe δ>>=λy=>gop x y>>=λz=>Df a k z>>=λw=>pure (.nx δ)):=
 ⟨PS.mono (ps_augS (tip:=rD X.mg E gop) ho.h hi.h (Pb (E:=E)) he.h hop (vL (E:=E)) ha) fun D σ H h=>by
  obtain⟨ρ,δ,M,ev,j,g1⟩:=h;refine⟨ρ,δ,M,ev,j,g1.bind λρ1 H1 M1 a da e1 j1 c1 g2=>⟨ρ1,δ,M1,ev.mono e1,j1,g2.bind λρ2 H2 M2 k dk e2 j2 c2 g3=>⟨ρ2,M2,da,dk,j2,c1.mono e2,c2,g3.bind λρ3 H3 M3 x dx e3 j3 c3 g4=>?_⟩⟩⟩
  have ev3:=((ev.mono e1).mono e2).mono e3;refine⟨ρ3,δ,M3,ev3,j3,g4.bind λρ4 H4 M4 y dy e4 j4 c4 g5=>⟨ρ4,M4,dx,dy,j4,c3.mono e4,c4,g5.bind λρ5 H5 M5 z dz e5 j5 c5 g6=>?_⟩⟩
  refine⟨ρ5,M5,da,dk,dz,j5,(((c1.mono e2).mono e3).mono e4).mono e5,((c2.mono e3).mono e4).mono e5,c5,g6.bind λρ6 H6 M6 _ _ e6 j6 _ g7=>?_⟩
  exact g7.pure ρ6 H6 σ .refl j6 (((ev3.mono e4).mono e5).mono e6)⟩
end
end L3
namespace L3
open PySem PySem.Spec L2
open PyProof.Rows hiding St
def DR:bootBuiltins "enumerate"=some (.type "enumerate"):=by decide +kernel
def mH(i:Nat):List D->List D
 |[]=>[]
 |x::xs=>.tup [.int (i:Int),x]::mH (i+1) xs
def xR:List D->Option Itn
 |[x]=>(frz x).map λp=>.fix (mH 0 p.2)
 |_=>none
theorem rR:∀ (l:List D) (k i:Nat),(mH k l)[i]?=(l[i]?).map λx=>.tup [.int ((k + i:Nat):Int),x]
 |[],k,i=>by simp[mH]
 |x::xs,k,0=>by simp[mH]
 |x::xs,k,i+1=>by simp only[mH,List.getElem?_cons_succ,rR xs (k+1) i];rw[show k+1+i=k+(i+1) by lia]
def JH{mg:Str->Option Value}{ρ:Rh}{H:Hp}{K:PySem.W.Frag}{b:Bool}{l:Addr}{xs:List V}{ds:List D}(n1:l∉ρ)(h1:H l=some (if b then .tup xs else .lst xs))(c1:Cvs mg ρ H xs ds):ItOk mg ρ H (Qx K b l) (.fix (mH 0 ds)) where
 item:=λi ρ' H' M' d e j q=>by
  have hq:(mH 0 ds)[i]?=some d:=Tf q;rw[rR]at hq;obtain⟨dx,e1,rfl⟩:=Ti.mp hq;obtain⟨x,hx,cx⟩:=c1.get e1;have k1:=(e.keep _ _ h1 n1 ne_if).2;refine⟨⟨xs,x,p7 k1,hx⟩,λv H2 z=>?_⟩
  obtain⟨p,hp,rfl,z⟩:=z;obtain⟨x',hx',rfl⟩:=z xs (p7 k1);rw[hx]at hx';cases hx';rw[Uq];exact⟨.lay hp,j.lay _ hp,.tup (j.fresh hp) upd_same (.cons (.int _) (.cons ((cx.kp e).mono (.lay hp)) .nil))⟩
 stop:=λi ρ' H' M' e j q=>by have hq:(mH 0 ds)[i]?=none:=Tf q;rw[rR,Option.map_eq_none_iff]at hq;exact⟨xs,p7 (e.keep _ _ h1 n1 ne_if).2,TX.mpr (by rw[c1.len];exact TX.mp hq)⟩
def Jv(hg:Gl X "enumerate")(hm:X.mg "enumerate"=none)(ha:DA X E [a] fa)(hs:notStar a=true:=by rfl):
  DI X E (.Tuple elts kt tp) (.Call (.Name "enumerate" p) [a] [] pos) (λδ=>fa δ>>=λl=>opt (xR l)):=⟨by
 intro Xe s σ H R I h;obtain⟨ρ,δ,M,ev,j,g1⟩:=h;refine Call_ (ld_blt I hg hm DR (Uz (thn (ha.h.h pos Xe s σ H (λvs H1=>∃ρ1 M1 ds,Ext ρ H ρ1 H1/\J X.mg ρ1 M1 H1/\Cvs X.mg ρ1 H1 vs ds/\Go X.mg E (ItOk X.mg) R ρ1 H1 (opt (xR ds)) M1) I ⟨ρ,δ,M,ev,j,g1.bind λρ1 H1 M1 vs ds e1 j1 c1 g2=>⟨ρ1,M1,ds,e1,j1,c1,g2⟩⟩) λus s1 h1=>?_) (bU hs) (by rfl)))
 obtain⟨vs,H1,I1,rv,ρ1,M1,ds,e1,j1,c1,g2⟩:=h1;obtain⟨itn,ei,q⟩:=g2.opt;unfold xR at ei;split at ei;rotate_left
 ·cases ei
 obtain⟨⟨b,l⟩,f1,rfl⟩:=Ti.mp ei;cases c1 with
 |cons k1 c1=>
 cases c1;obtain⟨a1,xs,rfl,n1,h1,cx⟩:=zc (K:=X.K) k1 f1;cases rv with
 |cons r1 rv=>
 cases rv;cases r1;obtain⟨its1,w1,p1,_⟩:=I1.seqS (p7 (K:=X.K) h1);refine Cd p1 λh' a1' a2' a3 a4=>wpAny_pyIter_enum a1' ?_
 have lt1:@LT.lt Nat _ a1 s1.heap.objs.size:=p1.lt;have I2:Inv X Xe σ H1 { s1 with heap:=h' }:=I1.kept (t':=s1.toks) a4
 refine⟨_,_,_,_,H1,rfl,I2,GD (b:=b) (e:=s1.heap.objs.size+1) (it:=s1.heap.objs.size) (l:=a1) (λ(h:@Eq Nat _ _)=>by lia) (λ(h:@Eq Nat _ _)=>by lia) (λ(h:@Eq Nat _ _)=>by lia),⟨⟨_,a1'⟩,a2'.1⟩,λb hb=>?_,q ρ1 H1 _ .refl j1 (JH n1 h1 cx)⟩
 refine I1.fpOk ?_ (I1.hok.fresh ?_)<;>(simp only[List.mem_cons,List.mem_nil_iff,or_false]at hb;rcases hb with rfl | rfl<;>lia)⟩
def Hg{i:Nat}{cl:List (Str×Addr)}{own:List Str}{js:List Nat}{fr:List Str}{f0:List Expr}{gs:List Comprehension}{fi:ao->DM Itn}{fg:D->ao->DM ao}{ft:ao->DM Bool}{fb:ao->List D->DM (ao×List D)}
  {bodyK:Cx->Addr->Sem Fin->Sem Fin}{W:Cx->Addr->(Shared->Prop)->Shared->Prop} (o:Out) (hN:X.N.Nodup) (hi0:X.N[i]?=some x) (hx:Loc X.env.scope x) (hc:X.calm=true) (T:CompG X scope cl own js fr) (hi:DI X E t0 i0 fi)
  (hturn:∀(Y:Cx) it acc,compTurn (.ListComp elt (⟨t0,i0,f0,0⟩::gs) scope pos) 0 (.ref it) (.ref acc) Y.env=turnOf ⟨t0,i0,f0,0⟩ (bodyK Y acc) (.compLoop (.ListComp elt (⟨t0,i0,f0,0⟩::gs) scope pos) 0 (.ref it) (.ref acc) Y.env) (.ref it) Y.env)
  (hW:∀Y acc,oK Y.prog Y.w Y.A (bodyK Y acc) (W Y acc)) (hmono:∀Y acc P P' s,(∀s,P s->P' s)->W Y acc P s->W Y acc P' s)
  (hg:∀Xe m fp C s₂ H₂,DG (X.bL Xe scope (cellsFrom m scope.names cl) (own++fr) fp C s₂ H₂) E0 t0 fg) (ht:∀Xe m fp C s₂ H₂,DTs (X.bL Xe scope (cellsFrom m scope.names cl) (own++fr) fp C s₂ H₂) E0 f0 ft)
  (hb:∀Xe m fp C s₂ H₂ acc,BodyOk (X.bL Xe scope (cellsFrom m scope.names cl) (own++fr) fp C s₂ H₂) acc (W (X.bL Xe scope (cellsFrom m scope.names cl) (own++fr) fp C s₂ H₂) acc) fb)
  (hsw:swapsWith (.ListComp elt (⟨t0,i0,f0,0⟩::gs) scope pos) (some (.Name x px)) spos.line X.env=pure true:=by rfl)
  (hs:∀y,foldedSetIterable i0 X.env y=pure y:=by intro _;rfl) (hf:X.fn x=true\/X.env.scope.names.lookup x=some .local:=by first | exact .inl rfl | exact .inr rfl | assumption) :
  DS X E (.Assign [.Name x px] (.ListComp elt (⟨t0,i0,f0,0⟩::gs) scope pos) spos) (λδ=>(fi δ>>=λit=>dM (fu fg ft fb it (b8 own.length js δ) [])>>=λp=>o.run p.2)>>=λd=>pure (.nx (δ.set i (some d)))):=⟨by
 intro Xe s σ H D I h;obtain⟨ρ,δ,M,ev,j,g0⟩:=h;let Q:VK:=λv H'=>D.nx (σ.set i (some v)) H'
 have g1:Go X.mg E (Cv X.mg) Q ρ H (fi δ>>=λit=>dM (fu fg ft fb it (b8 own.length js δ) [])>>=λp=>o.run p.2) M:=g0.bind λρ1 H1 M1 v d e1 j1 c1 g2=>g2.pure ρ1 H1 _ .refl j1 ((ev.mono e1).set c1)
 rw[exec_Assign_Name_used _ _ _ _ hsw];refine SQ (VF (SQ ?_));show wpAny _ _ (do let _ <-comprehension (.ListComp elt (⟨t0,i0,f0,0⟩::gs) scope pos) scope X.env _ (newList []) false (eval i0 X.env) (some (assign (.Name x px) X.env))) _ _ s
 refine SQ (Tp (xj Beg.list (use:=some (assign (.Name x px) X.env)) (Qs:=λu s'=>∃v H',Inv X Xe (σ.set i (some v)) H' s'/\Q v H') (.inl ⟨_,_,_,_,rfl⟩) rfl hc T hi hturn hW hmono hg ht (λu u u u u u u u u=>hb _ _ _ _ _ _ _ _ _ (.head _)) hs I ev j g1 λs2 H2 fp C m acc ρ1 lf Mf s' I2 f2 hA hC hfree nf c' g3=>?_) (λ_ s' ⟨v,H',I',q'⟩=>S6 (S6 ⟨_,H',I',q'⟩)) λu u e=>e)
 obtain⟨δf,c'⟩:=c';obtain⟨σ4,H4,ρ4,_,I4,x4,j4,ev4,ha4,⟨ys,rfl,cl4⟩,fr4⟩:=c'.ex;obtain⟨m4,hn4,_⟩:=I4.loc;have hsb0:Heap.SameBut C s'.heap s'.heap:=⟨rfl,λu u=>rfl⟩
 have IO:Inv X Xe σ H4 s':=I2.call' (s':=s') (ch:=fp) (I4.os) (GJ I4.base hsb0 hC) (Bk I4.hok hsb0 I4.free) I4.bare (λb hb=>by obtain⟨_,g2,g3,g4,g5,g6⟩:=f2 b hb;exact⟨g4,g2,g5,g6⟩)
 obtain⟨fC1,fC2,fC3,fC4,fC5,fC6⟩:=I2.fpOk hC I4.free;show wpAny _ _ (assign (.Name x px) X.env (.ref acc)) _ _ s';refine wpAny_assign_Name (store_ok2 IO hN hi0 hx (v:=.ref acc) rfl (λs'' I'' hsb=>?_) hf)
 obtain⟨a,sb,ha⟩:=hsb;have nC:C≠a:=by
  rcases ha with z | z
  ·rw[z];exact fC2
  ·exact λe=>fC5 x a z e.symm
 exact⟨m4,hn4.sameBut sb nC,λh' hsb'=>⟨.ref acc,H4,I''.turned (it:=C) (t':=s''.toks) (λb o hb e=>hsb'.extBut b o hb e) fC1 fC2 fC4 (λy c e=>fC5 y c e) fC6,o.fin hfree nf x4 j4 ha4 cl4 g3⟩⟩⟩
def yQ{i:Nat}{cl:List (Str×Addr)}{own:List Str}{js:List Nat}{fr:List Str}{f0:List Expr}{fi:ao->DM Itn}{fg:D->ao->DM ao}{ft:ao->DM Bool}{fe:ao->DM D}
  (o:Out) (hN:X.N.Nodup) (hi0:X.N[i]?=some x) (hx:Loc X.env.scope x) (hc:X.calm=true) (T:CompG X scope cl own js fr) (hi:DI X E t0 i0 fi)
  (hg:∀Xe m fp C s₂ H₂,DG (X.bL Xe scope (cellsFrom m scope.names cl) (own++fr) fp C s₂ H₂) E0 t0 fg) (ht:∀Xe m fp C s₂ H₂,DTs (X.bL Xe scope (cellsFrom m scope.names cl) (own++fr) fp C s₂ H₂) E0 f0 ft)
  (he:∀Xe m fp C s₂ H₂,DE (X.bL Xe scope (cellsFrom m scope.names cl) (own++fr) fp C s₂ H₂) E0 elt fe)
  (hsw:swapsWith (.ListComp elt [⟨t0,i0,f0,0⟩] scope pos) (some (.Name x px)) spos.line X.env=pure true:=by rfl)
  (hs:∀y,foldedSetIterable i0 X.env y=pure y:=by intro _;rfl) (hf:X.fn x=true\/X.env.scope.names.lookup x=some .local:=by first | exact .inl rfl | exact .inr rfl | assumption) :
  DS X E (.Assign [.Name x px] (.ListComp elt [⟨t0,i0,f0,0⟩] scope pos) spos) (λδ=>(fi δ>>=λit=>dM (fu fg ft (cC fe) it (b8 own.length js δ) [])>>=λp=>o.run p.2)>>=λd=>pure (.nx (δ.set i (some d)))):=
 Hg (bodyK:=λY acc=>uR elt (.ref acc) Y.env) (W:=λY acc P s=>wpAny (model Y.prog Y.w) Y.A (eval elt Y.env) (λx s1=>wpAny (model Y.prog Y.w) Y.A (call (.builtin "list.append") [.ref acc,x]) (λv s2=>P s2) (λv v=>False) s1) (λv v=>False) s) o hN hi0 hx hc T hi
  (λY it acc=>Jg ..) (λY acc=>Ep) (λY acc P P' s hp h=>Tp h (λx s1 h1=>Tp h1 (λv s2 h2=>hp _ h2) λv v z=>z) λv v z=>z) hg ht (λXe m fp C s₂ H₂ acc=>Bg rfl (he ..)) hsw hs hf
end L3
namespace L3
open PySem PySem.Spec L2
structure OCls(K:PySem.W.Frag)(mg:Str->Option Value)(c:Str)(C:Addr)(fs:List Str):Prop where
 at_:mg c=some (.ref C)
 cls:L2.Cls K C
 no:∀f∈fs,NoAttr K C f
theorem oZ:∀ {ns:List Str}{xs:List V}{ds:List D}{d:D},Cvs mg ρ H xs ds->(ns.zip ds).lookup f=some d->∃ v,(ns.zip xs).lookup f=some v/\Cv mg ρ H v d
 |[],_,_,_,_,e=>by simp at e
 |n::ns,_,_,_,.nil,e=>by simp at e
 |n::ns,_,_,d,.cons (v:=v) c cs,e=>by
   rw[List.zip_cons_cons,Vc]at e ⊢
   split at e
   ·cases e;exact⟨v,rfl,c⟩
   ·exact oZ cs e
def oW(c f:Str):D->Mo->Option D
 |.obj k ns vs,_=>if k=c then (ns.zip vs).lookup f else none
 |.ref n,M=>match M[n]? with
   |some (.ins k ns vs)=>if k=c then (ns.zip vs).lookup f else none
   |_=>none
 |_,_=>none
set_option tactic.hygienic true in
def aX(O:OCls K mg c C fs)(hf:f∈fs)(he:DE X E e fe)
  (hb:attributeBase e f X.env (eval e X.env)=eval e X.env:=by rfl) (hK:X.K=K:=by rfl) (hM:X.mg=mg:=by rfl):DE X E (.Attribute e f pos) (λδ=>fe δ>>=λx=>rd (oW c f x)):=by
 subst hK hM;refine⟨PE.mono (pe_fld he.h hb) λσ H Q h=>?_⟩
 obtain⟨ρ,δ,M,ev,j,g1⟩:=h;refine⟨ρ,δ,M,ev,j,g1.bind λρ1 H1 M1 x dx e1 j1 c1 g2=>?_⟩
 obtain⟨d,ed,q⟩:=g2.rd;unfold oW at ed;split at ed
 ·split at ed
  ·rename_i hk;subst hk;cases c1 with
   |obj n m h l cs=>obtain⟨v,hv,cv⟩:=oZ cs ed;rw[O.at_]at m;cases m;exact⟨_,_,_,_,v,rfl,h,O.cls,O.no f hf,hv,q ρ1 H1 _ .refl j1 cv⟩
  ·cases ed
 ·split at ed
  ·split at ed
   ·rename_i hm hk;subst hk;cases c1 with
    |ref hn=>obtain⟨C',dx',xs,m,h,l,cs⟩:=j1.obj _ _ _ hn hm;obtain⟨v,hv,cv⟩:=oZ cs ed;rw[O.at_]at m;cases m;exact⟨_,_,_,_,v,rfl,h,O.cls,O.no f hf,hv,q ρ1 H1 _ .refl j1 cv⟩
   ·cases ed
  ·cases ed
 ·cases ed
def xU:List D->Mo->Option (List D)
 |[.int j],_=>if -(2^62)<=j/\j<=2^20 then some ((List.range j.toNat).map nD) else none
 |_,_=>none
theorem Ba:∀l:List Nat,Cvs mg ρ H (l.map λi:Nat=>V.int (i:Int)) (l.map nD)
 |[]=>.nil
 |n::l=>.cons (.int _) (Ba l)
section
variable{X:Cx}{E:XK}{a:Expr}{fa:ao->DM (List D)}{p1 p2 pos1 pos2:Pos}
set_option tactic.hygienic true in
def xn(hc:X.calm=true)(hmL:X.mg "list"=none)(hm:X.mg "range"=none)(ha:DA X E [a] fa)(hgL:Gl X "list":=by rfl)(hg:Gl X "range":=by rfl)(hs:notStar a=true:=by rfl):
  DE X E (.Call (.Name "list" p1) [.Call (.Name "range" p2) [a] [] pos2] [] pos1) (λδ=>fa δ>>=λl=>rd (λM=>(xU l M).map D.lst)):=⟨PE.mono (Ga hc hgL hmL hg hm ha.h.h hs) λσ H Q h=>by
 obtain⟨ρ,δ,M,ev,j,g1⟩:=h;refine⟨ρ,δ,M,ev,j,g1.bind λρ1 H1 M1 xs ds e1 j1 c1 g2=>?_⟩
 obtain⟨d,ed,q⟩:=g2.rd;obtain⟨l,el,rfl⟩:=Ti.mp ed;unfold xU at el;split at el
 ·split at el
  ·rename_i hb;cases el;obtain⟨v,rfl,k⟩:=c1.one;cases k;exact⟨_,rfl,hb.2,hb.1,λp hp=>q ρ1 _ _ (.lay hp) (j1.lay _ hp) (.lst (j1.fresh hp) upd_same (Ba _))⟩
  ·cases el
 ·cases el⟩
end
section
variable{X:Cx}{E:XK}
def Cy:List D->Mo->Option D
 |[.bl b],_=>some (.int (if b then 1 else 0))
 |_,_=>none
def DY:CallR X (.type "int") (λxs H Q=>∃ b,xs=[.bl b]/\Q (.int (if b then 1 else 0)) H):=by
 intro Xe s σ H xs us Q I rs h;obtain⟨b,rfl,q⟩:=h;cases rs with
 |cons r rr=>cases rr;cases r;exact call_int_bool ⟨.int (if b then 1 else 0),H,I.tok _,⟨_,rfl⟩,q⟩
def oN:CallD X E (.type "int") (λl=>rd (Cy l)):=CallD.of DY λvs H Q ρ M ds d j c e q=>by
 unfold Cy at e;split at e
 ·cases e;obtain⟨v,rfl,k⟩:=c.one;cases k;exact⟨_,rfl,q ρ H _ .refl j (.int _)⟩
 ·cases e
end
theorem xu(I:Nat->ao->List D->Mo->Prop):∀ (ds:List D) (i:Nat) (δ:ao) (l:List D) (M:Mo),I i δ l M->
  (∀j d δ l M,ds[j]?=some d->I (i+j) δ l M->Rn (fg d δ>>=λδ1=>ft δ1>>=λb=>if b then fb δ1 l else Pure.pure (δ1,l)) M λp M'=>I (i+j+1) p.1 p.2 M')->Rn (bC fg ft fb ds δ l) M λp M'=>I (i+ds.length) p.1 p.2 M'
 |[],i,δ,l,M,h,_=>Rn.pure h
 | d::ds,i,δ,l,M,h,st=>by
   have s:=st 0 d δ l M rfl h;have e:bC fg ft fb (d::ds) δ l=(fg d δ>>=λδ1=>ft δ1>>=λb=>if b then fb δ1 l else Pure.pure (δ1,l))>>=λp=>bC fg ft fb ds p.1 p.2:=by
    rw[aq];show (fg d δ>>=λδ1=>ft δ1>>=λb=>(if b then fb δ1 l else Pure.pure (δ1,l))>>=λp=>bC fg ft fb ds p.1 p.2)=_
    congr 1;funext δ1;rw[aq]
   rw[e];refine Rn.bind s λp M' h'=>?_
   have ih:=xu I ds (i+1) p.1 p.2 M' h' (λj d δ l M hj hI=>by
    have:=st (j+1) d δ l M (by simpa using hj) (by rw[show i+(j+1)=i+1+j by lia];exact hI)
    rw[show i+1+j+1=i+(j+1)+1 by lia];exact this)
   rw[show i+(d::ds).length=i+1+ds.length by simp;lia]
   exact ih
def Ky(h:Rn m M Q):Rn (dM m) M Q:=by obtain⟨a,M',e,q⟩:=h;exact⟨a,M',by unfold dM;rw[e],q⟩
def rO{n:Nat}{l:List D}{i:Nat}(h:M[n]?=some (.lst l))(hi:l[i]?=some a):Ik (.ref n) (.int (i:Int)) M=some a:=by
 show (if (0:Int)<=(i:Int) then (bj (.ref n) M).bind _ else none)=_
 rw[S7 (by lia)]
 simp only[bj,h,Option.bind_some];exact m7 hi
def Hx(hn:n<=1000)(q:Rn (k (.ref M.length)) (M++[.lst ((List.replicate n 0).map nD)]) Q):Rn (MP (.lst [.int 0]) (nD n)>>=k) M Q:=by
 have e:mF (.lst [.int 0]) (nD n) M=some ((List.replicate n 0).map nD):=by
  show CZ [.int 0] (n:Int)=_;unfold CZ;rw[S7 (Tz ⟨by lia,by lia,by show _<=2^24;simp;lia⟩)]
  congr 1;simp[List.flatten_replicate_singleton,nD]
 show Rn ((rd (mF (.lst [.int 0]) (nD n))>>=eE)>>=k) M Q;rw[aq];refine Rn.bindRd _ e ?_;exact Rn.eE (by simp;lia) q
end L3
namespace L3
open PySem PySem.Spec L2
open PyProof.Rows hiding St
def putN(f:Str):List Str->List Str
 |[]=>[f]
 |g::r=>if g=f then g::r else g::putN f r
def bO{α:Type}(f:Str)(v:α):List Str->List α->List α
 |[],_=>[v]
 |g::r,x::xs=>if g=f then v::xs else x::bO f v r xs
 |_::_,[]=>[]
theorem uo(f:Str)(v:V):∀ (ns:List Str) (xs:List V),ns.length=xs.length->putF f v (ns.zip xs)=(putN f ns).zip (bO f v ns xs)
 |[],[],_=>rfl
 |g::r,x::xs,h=>by
   show putF f v ((g,x)::r.zip xs)=_;unfold putF putN bO;by_cases e:g=f
   ·rw[S7 e,S7 e,S7 e];rfl
   ·rw[Tq e,Tq e,Tq e,uo f v r xs (by simpa using h)];rfl
theorem uq(f:Str)(v:α):∀ (ns:List Str) (xs:List α),ns.length=xs.length->(putN f ns).length=(bO f v ns xs).length
 |[],[],_=>rfl
 |g::r,x::xs,h=>by
   unfold putN bO;by_cases e:g=f
   ·rw[S7 e,S7 e];simpa using h
   ·rw[Tq e,Tq e,Ve,Ve,uq f v r xs (by simpa using h)]
theorem Cvs.put(c:Cv mg ρ H v d):∀ (ns:List Str) {xs:List V}{ds:List D},Cvs mg ρ H xs ds->Cvs mg ρ H (bO f v ns xs) (bO f d ns ds)
 |[],_,_,_=>.cons c .nil
 |g::r,_,_,.nil=>.nil
 |g::r,_,_,.cons h t=>by
   unfold bO;by_cases e:g=f
   ·rw[S7 e,S7 e];exact .cons c t
   ·rw[Tq e,Tq e];exact .cons h (Cvs.put c r t)
def ju(c f:Str)(o d:D):DM Unit:=λM=>match o with
 |.ref n=>match M[n]? with
   |some (.ins k ns vs)=>if k=c/\ns.length=vs.length/\ns.length<1000 then some (.ok (),M.set n (.ins k (putN f ns) (bO f d ns vs))) else none
   |_=>none
 |_=>none
section
variable{X:Cx}{E:XK}
set_option tactic.hygienic true in
def dZ{K:PySem.W.Frag}{mg:Str->Option Value}{c f:Str}{C:Addr}{fs:List Str}{o value:Expr}{fo fv:ao->DM D}{pos pos':Pos}(O:OCls K mg c C fs)(hf:f∈fs)(ho:DE X E o fo)(hv:DE X E value fv)
  (hs:swapsWith value (some (.Attribute o f pos')) pos.line X.env=pure false:=by rfl) (hK:X.K=K:=by rfl) (hM:X.mg=mg:=by rfl) :
  DS X E (.Assign [.Attribute o f pos'] value pos) (λδ=>fv δ>>=λd=>fo δ>>=λo=>ju c f o d>>=λz=>pure (.nx δ)):=by
 subst hK hM;refine⟨PS.mono (ps_fld ho.h hv.h hs) λD σ H h=>?_⟩
 obtain⟨ρ,δ,M,ev,j,g1⟩:=h;refine⟨ρ,δ,M,ev,j,g1.bind λρ1 H1 M1 y dy e1 j1 c1 g2=>⟨ρ1,δ,M1,ev.mono e1,j1,g2.bind λρ2 H2 M2 x dx e2 j2 c2 g3=>?_⟩⟩
 obtain⟨r,e,p⟩:=g3;have e:DM.bind _ _ M2=some r:=e;unfold DM.bind ju at e;cases dx with
 | ref n=>
   dsimp only at e;cases c2 with | ref hn=>
   rename_i a;cases hm:M2[n]? with
   |none=>rw[hm]at e;cases e
   | some u=>
     rw[hm]at e;cases u with
     |lst l=>cases e
     |dic ks l=>cases e
     | ins k ns vs=>
       dsimp only at e;split at e
       ·cases e
       ·rename_i he;split at he<;>cases he
       ·rename_i he;split at he
        ·rename_i hk;obtain⟨rfl,hl,hz⟩:=hk;cases he;cases e;obtain⟨C',dx',xs,m,hx,l,cs⟩:=j2.obj _ _ _ hn hm;rw[O.at_]at m;cases m;have c1':=c1.mono e2;have x:Ext ρ2 H2 ρ2 (upd H2 a (.ins C dx' (putF f y (ns.zip xs)))):=.upd (T5 hn);refine⟨a,C,dx',_,rfl,hx,O.cls,O.no f hf,?_,?_⟩
         ·rw[List.length_zip];lia
         refine p ρ2 _ σ x (j2.upd hn ?_) (((ev.mono e1).mono e2).mono x);refine⟨C,dx',bO f y ns xs,O.at_,by rw[upd_same,uo f y ns xs l],uq f y ns xs l,?_⟩
         exact (Cvs.put c1' ns cs).mono x
        ·cases he
 |_=>cases e
end
structure MethD(P:Program)(w:World)(K:PySem.W.Frag)(mg:Str->Option Value)(base:Heap)(k:Nat)(c x qual:Str)(st:Stmt)(ps:List Str)(F:List D->DM D):Prop where
 ex:∃C f fd,mg c=some (.ref C)/\FnOk P w K mg base (bJ P w) k f fd ps (iU mg F)/\Fun K x qual st f fd/\PySem.W.findIn K (.ref C) x=some (some (.ref f))/\PySem.W.isFn K (.ref f)=true/\L2.Cls K C
section
variable{P:Program}{w:World}{K:PySem.W.Frag}{mg:Str->Option Value}{base:Heap}{k:Nat}{C:Addr}{c x qual:Str}{N ps:List Str}{st:Stmt}{fb:ao->DM Fl}{f:Addr}{fd:FuncData}{is:List Int}
def QS(F:Fun K x qual st f fd)(S:FnScope N ps (defScope st))
  (hbody:∀(f:Addr) (cdv:Value) (A:Around) (outer:List Env) (s:Shared) (H:Hp) (E:XK),Room k (A.deeper (envOfC qual (defScope st) s.heap.objs.size f cdv))->
    DSs (b7 P w K mg base N qual (defScope st) f cdv A outer s H E) E (defBody st) fb):FnOk P w K mg base (bJ P w) (k+1) f fd ps (iU mg (aL ps.length N.length fb)):=by
 refine QV F S (λvs H Q E h=>?_) λcdv A outer s H vs Q E hr h=>?_
 ·obtain⟨ρ,M,ds,c,j,g⟩:=h;rw[c.len];exact (bK.aL g).1
 obtain⟨ρ,M,ds,c,j,g⟩:=h;exact⟨_,(hbody f cdv A outer s H E hr).h,ρ,_,M,jc c,j,(bK.aL g).2⟩
def MethAt.okD(T:MethAt K C x qual st)(m:mg c=some (.ref C))(cl:L2.Cls K C)(S:FnScope N ps (defScope st))
  (hbody:∀(f:Addr) (cdv:Value) (A:Around) (outer:List Env) (s:Shared) (H:Hp) (E:XK),Room k (A.deeper (envOfC qual (defScope st) s.heap.objs.size f cdv))->
    DSs (b7 P w K mg base N qual (defScope st) f cdv A outer s H E) E (defBody st) fb):MethD P w K mg base (k+1) c x qual st ps (aL ps.length N.length fb):=by
 obtain⟨f,fd,F,a,n⟩:=T.ex;exact⟨C,f,fd,m,QS F S hbody,F,a,n,cl⟩
end
def jM(c m:Str):D->Mo->Option Unit
 |.obj k ns _,_=>if k=c/\ns.contains m=false then some () else none
 |.ref n,M=>match M[n]? with
   |some (.ins k ns _)=>if k=c/\ns.contains m=false then some () else none
   |_=>none
 |_,_=>none
theorem uB:∀ (ns:List Str) (xs:List α),ns.contains m=false->(ns.zip xs).lookup m=none
 |[],_,_=>rfl
 |n::ns,[],_=>rfl
 |n::ns,x::xs,h=>by rw[List.contains_cons,Bool.or_eq_false_iff]at h;rw[List.zip_cons_cons,Vc,h.1];exact uB ns xs h.2
set_option tactic.hygienic true in
def vY(mc:mg c=some (.ref C))(j:J mg ρ M H)(cv:Cv mg ρ H v d)(e:jM c m d M=some u):∃ a dx fs,v=.ref a/\H a=some (.ins C dx fs)/\fs.lookup m=none:=by
 unfold jM at e;split at e
 ·split at e
  ·rename_i hk;obtain⟨rfl,hn⟩:=hk;cases cv with
   |obj n m' h l cs=>rw[mc]at m';cases m';exact⟨_,_,_,rfl,h,uB _ _ hn⟩
  ·cases e
 ·split at e
  ·rename_i hm;split at e
   ·rename_i hk;obtain⟨rfl,hn⟩:=hk;cases cv with
    |ref h=>obtain⟨C',dx',xs,m',hx,l,cs⟩:=j.obj _ _ _ h hm;rw[mc]at m';cases m';exact⟨_,_,_,rfl,hx,uB _ _ hn⟩
   ·cases e
  ·cases e
 ·cases e
structure DKw(X:Cx)(E:XK)(kws:List Keyword)(f:ao->DM (List D)):Prop where
 h:PK X kws (tD X.mg E (Cvs X.mg) f)
def PK.mono(h:PK X e t)(f:∀σ H Q,t' σ H Q->t σ H Q):PK X e t':=λp Xe s σ H Q I q=>h p Xe s σ H Q I (f σ H Q q)
section
variable{X:Cx}{E:XK}{j k:Nat}{ps:List Str}{F:List D->DM D}{c m x qual:Str}{st:Stmt}{p pos apos kpos:Pos}{a e o:Expr}{es:List Expr}{fa fo:ao->DM D}{fs fk:ao->DM (List D)}{kws:List Keyword}{nm:Option Str}{ks:List Str}
def uQ:DKw X E [] (λz=>pure []):=⟨PK.mono pk_nil λσ H Q h=>by obtain⟨ρ,δ,M,ev,j,g⟩:=h;exact g.pure ρ H [] .refl j .nil⟩
def Cp(ha:DE X E a fa)(hr:DKw X E kws fs):DKw X E (⟨nm,a,kpos⟩::kws) (λδ=>fa δ>>=λx=>fs δ>>=λxs=>pure (x::xs)):=⟨PK.mono (pk_cons ha.h hr.h) λσ H Q h=>by obtain⟨ρ,δ,M,ev,j,g1⟩:=h;exact⟨ρ,δ,M,ev,j,g1.bind λρ1 H1 M1 x dx e1 j1 c1 g2=>⟨ρ1,δ,M1,ev.mono e1,j1,g2.bind λρ2 H2 M2 xs dxs e2 j2 c2 g3=>g3.pure ρ2 H2 _ .refl j2 (.cons (c1.mono e2) c2)⟩⟩⟩
def gK{α:Type}(n:Nat)(us ws:List α):List α:=if ws.length=n then us++ws else []
set_option tactic.hygienic true in
def Ms{K:PySem.W.Frag}{f:Addr}{fd:FuncData}(B:Fun K x qual st f fd)(h0:0<ps.length)
  (hb:∀(kV doc pm:Value) (an:Option Addr) (cdv ct:Value) (us ws:List Value),ws.length=ks.length->us.length+ks.length=ps.length->bindArgs (PySem.W.fnOf x qual (defArgs st) (defBody st) (defScope st) .none kV doc pm an cdv ct) ⟨us,ks.zip ws⟩=pure (ps.zip (us++ws))):KBinds K fd ps ks (gK ks.length) (gK ks.length):=by
 obtain⟨oc,od,kV,doc,pm,an,cdv,ct,osl,rfl,lk,hcd⟩:=B.ex;refine⟨λs us ws z hl=>?_,λr r'=>?_⟩
 ·unfold gK at hl ⊢
  split at hl
  ·rename_i hw;rw[S7 hw];rw[TF]at hl;exact .of_eq (hb kV doc pm an cdv ct us ws hw (by lia))
  ·simp at hl;lia
 ·unfold gK;rw[r'.length];split
  ·exact r.append r'
  ·exact .nil
def ik(T:MethD X.prog X.w X.K X.mg X.base j c m qual st ps F)(hr:Room k X.A)(hx:Passes (bJ X.prog X.w) X E)(ho:DE X E o fo)(ha:DA X E (e::es) fs)
  (hb:∀(kV doc pm:Value) (an:Option Addr) (cdv ct:Value) (us:List Value),us.length=ps.length->bindArgs (PySem.W.fnOf m qual (defArgs st) (defBody st) (defScope st) .none kV doc pm an cdv ct) ⟨us,[]⟩=pure (ps.zip us))
  (hjk:j<=k:=by decide) (he:notStar e=true:=by rfl) (hpl:(backTo pos (starEach es X.env)).any (·.1)=false:=by rfl)
  (ht:eval (.Call (.Attribute o m apos) (e::es) [] pos) X.env=(do
    let ov <-eval o X.env
    standAt apos.atName
    let (f,first) <-holding [ov] (getMethod ov m pl)
    callWith pos f first (backTo pos (starEach (e::es) X.env)) (backToKw pos (keywordEach [] X.env))):=by rfl) :
  DE X E (.Call (.Attribute o m apos) (e::es) [] pos) (λδ=>fo δ>>=λx=>rd (jM c m x)>>=λz=>fs δ>>=λds=>F (x::ds)):=by
 obtain⟨C,f,fd,mc,G,B,a,n,cl⟩:=T.ex;refine⟨PE.mono (pe_meth (pl:=pl) ho.h cl ⟨a,n,B.kp⟩ G (hr.mono hjk) (B.binds hb) .nil hx ha.h.h (bU he) hpl ht) λσ H Q h=>?_⟩
 obtain⟨ρ,δ,M,ev,j,g1⟩:=h;refine⟨ρ,δ,M,ev,j,g1.bind λρ1 H1 M1 x dx e1 j1 c1 g2=>?_⟩
 obtain⟨u,eu,g3⟩:=Go.rdb g2;obtain⟨a',dx',fs',ex,hx',hl'⟩:=vY mc j1 c1 eu;refine⟨a',dx',fs',ex,hx',hl',ρ1,δ,M1,ev.mono e1,j1,g3.bind λρ2 H2 M2 xs dxs e2 j2 c2 g4=>?_⟩
 rw[Ux];exact⟨ρ2,M2,dx::dxs,.cons (c1.mono e2) c2,j2,g4⟩
def cJ(T:MethD X.prog X.w X.K X.mg X.base j c m qual st ps F)(hr:Room k X.A)(hx:Passes (bJ X.prog X.w) X E)(ho:DE X E o fo)
  (hb:∀(kV doc pm:Value) (an:Option Addr) (cdv ct:Value) (us:List Value),us.length=ps.length->bindArgs (PySem.W.fnOf m qual (defArgs st) (defBody st) (defScope st) .none kV doc pm an cdv ct) ⟨us,[]⟩=pure (ps.zip us))
  (hjk:j<=k:=by decide)
  (ht:eval (.Call (.Attribute o m apos) [] [] pos) X.env=(do
    let ov <-eval o X.env
    standAt apos.atName
    let (f,first) <-holding [ov] (getMethod ov m pl)
    callWith pos f first (backTo pos (starEach [] X.env)) (backToKw pos (keywordEach [] X.env))):=by rfl) :
  DE X E (.Call (.Attribute o m apos) [] [] pos) (λδ=>fo δ>>=λx=>rd (jM c m x)>>=λz=>F [x]):=by
 obtain⟨C,f,fd,mc,G,B,a,n,cl⟩:=T.ex;refine⟨PE.mono (pe_meth0 (pl:=pl) ho.h cl ⟨a,n,B.kp⟩ G (hr.mono hjk) (B.binds hb) .nil hx ht) λσ H Q h=>?_⟩
 obtain⟨ρ,δ,M,ev,j,g1⟩:=h;refine⟨ρ,δ,M,ev,j,g1.bind λρ1 H1 M1 x dx e1 j1 c1 g2=>?_⟩
 obtain⟨u,eu,g3⟩:=Go.rdb g2;obtain⟨a',dx',fs',ex,hx',hl'⟩:=vY mc j1 c1 eu;exact⟨a',dx',fs',ex,hx',hl',ρ1,M1,[dx],.cons c1 .nil,j1,g3⟩
def Oo(C:Addr)(m:Str)(sp:Sp)(gV:List V->List V->List V)(E:XK)(ta:TE)(t tk:TA):TE:=λσ H Q=>ta σ H λx H1=>∃a dx fs,x=.ref a/\H1 a=some (.ins C dx fs)/\fs.lookup m=none /\
 t σ H1 λvs H2=>tk σ H2 λzs H3=>sp (gV (x::vs) zs) H3 Q E
def HH(he:PE X o ta)(cl:L2.Cls X.K C)(hm:Meth X.K C m f)(G:FnOk X.prog X.w X.K X.mg X.base CX k f fd ps sp)(hr:Room k X.A)(hb:KBinds X.K fd ps ks g gV)(hx:Passes CX X E)(ha:PA X (e::es) t)(hkw:PK X kws tk)
  (hall:(backToKw pos (keywordEach kws X.env)).all (·.1.isSome)=true) (hks:(backToKw pos (keywordEach kws X.env)).filterMap (·.1)=ks)
  (hst:starEach (e::es) X.env=(false,eval e X.env)::starEach es X.env) (hpl:((backTo pos (starEach (e::es) X.env)).any (·.1) || (backToKw pos (keywordEach kws X.env)).any (·.1.isNone))=false)
  (ht:eval (.Call (.Attribute o m apos) (e::es) kws pos) X.env=(do
    let ov <-eval o X.env
    standAt apos.atName
    let (f,first) <-holding [ov] (getMethod ov m pl)
    callWith pos f first (backTo pos (starEach (e::es) X.env)) (backToKw pos (keywordEach kws X.env)))) :
  PE X (.Call (.Attribute o m apos) (e::es) kws pos) (Oo C m sp gV E ta t tk):=by
 intro Xe s σ H Q I h;refine V0 (pl:=pl) (thn (he Xe s σ H _ I h) λu s1 ⟨x,H1,I1,rx,a,dx,fs,ex,ea,l,q⟩=>?_) ht
 subst ex;obtain rfl:u=Value.ref a:=rx;refine getmeth_ok I1 ea cl hm l ?_;refine PySem.W.callWith_KW (first:=[.ref a]) (h₀:=X.base) I.ok.mod.kin hm.kp hall (thn (ha pos Xe s1 σ H1 _ I1 q) λus s2 ⟨vs,H2,I2,r,q2⟩=>?_) hpl hst
 refine thn (hkw pos Xe s2 σ H2 _ I2 q2) λws s3 ⟨zs,H3,I3,rz,q3⟩=>⟨I3.kIn,?_⟩
 rw[hks];exact run_fnk (us:=.ref a::us) (vs:=.ref a::vs) G hr hb hx I3 (.cons rfl r) rz q3
set_option tactic.hygienic true in
def oR{pl:Sem Bool}(T:MethD X.prog X.w X.K X.mg X.base j c m qual st ps F)(hr:Room k X.A)(hx:Passes (bJ X.prog X.w) X E)(ho:DE X E o fo)(ha:DA X E (e::es) fs)(hkw:DKw X E kws fk)
  (hb:∀(kV doc pm:Value) (an:Option Addr) (cdv ct:Value) (us ws:List Value),ws.length=ks.length->us.length+ks.length=ps.length->bindArgs (PySem.W.fnOf m qual (defArgs st) (defBody st) (defScope st) .none kV doc pm an cdv ct) ⟨us,ks.zip ws⟩=pure (ps.zip (us++ws)))
  (hjk:j<=k:=by decide) (h0:0<ps.length:=by decide) (hall:(backToKw pos (keywordEach kws X.env)).all (·.1.isSome)=true:=by rfl) (hks:(backToKw pos (keywordEach kws X.env)).filterMap (·.1)=ks:=by rfl)
  (he:notStar e=true:=by rfl) (hpl:((backTo pos (starEach (e::es) X.env)).any (·.1) || (backToKw pos (keywordEach kws X.env)).any (·.1.isNone))=false:=by rfl)
  (ht:eval (.Call (.Attribute o m apos) (e::es) kws pos) X.env=(do
    let ov <-eval o X.env
    standAt apos.atName
    let (f,first) <-holding [ov] (getMethod ov m pl)
    callWith pos f first (backTo pos (starEach (e::es) X.env)) (backToKw pos (keywordEach kws X.env))):=by rfl) :
  DE X E (.Call (.Attribute o m apos) (e::es) kws pos) (λδ=>fo δ>>=λx=>rd (jM c m x)>>=λz=>fs δ>>=λds=>fk δ>>=λdk=>if dk.length=ks.length then F (x::(ds++dk)) else stuck):=by
 obtain⟨C,f,fd,mc,G,B,a,n,cl⟩:=T.ex;refine⟨PE.mono (HH (pl:=pl) ho.h cl ⟨a,n,B.kp⟩ G (hr.mono hjk) (Ms B h0 hb) hx ha.h.h hkw.h hall hks (bU he) hpl ht) λσ H Q h=>?_⟩
 obtain⟨ρ,δ,M,ev,j,g1⟩:=h;refine⟨ρ,δ,M,ev,j,g1.bind λρ1 H1 M1 x dx e1 j1 c1 g2=>?_⟩
 obtain⟨u,eu,g3⟩:=Go.rdb g2;obtain⟨a',dx',fs',ex,hx',hl'⟩:=vY mc j1 c1 eu;refine⟨a',dx',fs',ex,hx',hl',ρ1,δ,M1,ev.mono e1,j1,g3.bind λρ2 H2 M2 xs dxs e2 j2 c2 g4=>⟨ρ2,δ,M2,(ev.mono e1).mono e2,j2,g4.bind λρ3 H3 M3 zs dzs e3 j3 c3 g5=>?_⟩⟩
 split at g5
 ·rename_i hl;unfold gK;rw[S7 (by rw[c3.len];exact hl)]
  exact⟨ρ3,M3,dx::(dxs++dzs),.cons ((c1.mono e2).mono e3) ((c2.mono e3).append c3),j3,g5⟩
 ·obtain⟨r,e,_⟩:=g5;cases e
end
structure ClsD(P:Program)(w:World)(K:PySem.W.Frag)(mg:Str->Option Value)(base:Heap)(k:Nat)(c:Str)(F:List D->DM D):Prop where
 ex:∃C ps sp,MethC P w K mg base k C "__init__" ps sp/\PySem.W.makesIn K C=true/\PySem.W.keepIn K (.ref C)=true/\mg c=some (.ref C) /\
  ∀ρ M H vs ds Q E,Cvs mg ρ H vs ds->J mg ρ M H->Go mg E (Cv mg) Q ρ H (F ds) M->∀x dx,H x=none->H dx=none->dx≠x->sp (.ref x::vs) (upd (upd H dx (.own x)) x (.ins C dx [])) (λv H2=>v=.non/\Q (.ref x) H2) E
def eO(T:ClsD X.prog X.w X.K X.mg X.base j c F)(hr:Room k X.A)(hx:Passes (bJ X.prog X.w) X E)(ha:DA X E (e::es) fs)(hjk:j+1<=k:=by decide)(hg:Gl X c:=by rfl)(hdb:(c==("__debug__":Str))=false:=by decide)
  (he:notStar e=true:=by rfl) (hpl:(backTo pos (starEach es X.env)).any (·.1)=false:=by rfl) :
  DE X E (.Call (.Name c p) (e::es) [] pos) (λδ=>fs δ>>=F):=by
 obtain⟨C,ps,sp,G,mk,kc,m,h⟩:=T.ex;refine⟨PE.mono (HF G mk kc m hr hx ha.h hjk hg hdb he hpl) λσ H Q z=>?_⟩
 obtain⟨ρ,δ,M,ev,j,g1⟩:=z;refine⟨ρ,δ,M,ev,j,g1.bind λρ1 H1 M1 xs dxs e1 j1 c1 g2=>λx dx h1 h2 h3=>?_⟩
 rw[Ux];exact h ρ1 M1 H1 xs dxs Q E c1 j1 g2 x dx h1 h2 h3
def Io(c:Str):DM D:=λM=>some (.ok (.ref M.length),M++[.ins c [] []])
section
variable{mg:Str->Option Value}{ρ:Rh}{H:Hp}{k:Nat}{M':Mo}
def Cvs.fz(hk:ρ.st.length=k){vs:List V}{ds:List D}(h:Cvs mg ρ H vs ds):Fzs M' k ds ds:=
 Cvs.rec (motive_1:=λz d z=>Fz M' k d d) (motive_2:=λz ds z=>Fzs M' k ds ds) .non .bl .int .str (λz z z=>.tup) (λz z z=>.lst) (λz z z z=>.dic) (λz z z z z=>.obj) (λz z=>.scr _) (λh=>.old (hk ▸ (S5.mp h).1)) (λz=>.cls _) .ty .exn .nil (λz z=>.cons) h
theorem Cv.fz(hk:ρ.st.length=k){v:V}{d:D}(h:Cv mg ρ H v d):Fz M' k d d:=by cases Cvs.fz hk (.cons h .nil);assumption
def Cvs.fz_mem(hk:ρ.st.length=k){vs:List V}{ds:List D}(h:Cvs mg ρ H vs ds):∀d∈ds,Fz M' k d d:=h.ind (P:=λz ds=>∀d∈ds,Fz M' k d d) nofun λa z i d h=>(T3.mp h).elim (λe=>e ▸ a.fz hk) (i d)
theorem Eu:∀{ds:List D},(∀d∈ds,Fz M' k d d)->Fzs M' k ds ds
 |[],_=>.nil
 |d::ds,h=>.cons (h d (by simp)) (Eu λe he=>h e (by simp[he]))
theorem J.fz(j:J mg ρ M H):Qw (M++[o]) M.length M:=by
 refine⟨rfl,λn u h=>?_⟩
 have hn:=(S5.mp h).1;refine⟨u,by rw[S9 hn];exact h,?_⟩
 have hl:n<ρ.st.length:=by rw[j.len];exact hn
 have c:=j.obj n ρ.st[n] u (Tg hl) h;cases u with
 |lst l=>obtain⟨xs,_,c⟩:=c;exact c.fz j.len
 |dic ks l=>obtain⟨xs,_,_,c⟩:=c;exact⟨rfl,c.fz j.len⟩
 |ins cc ns l=>obtain⟨C,dx,xs,_,_,_,c⟩:=c;exact⟨rfl,rfl,c.fz j.len⟩
end
def KD(c:Str)(Fi:List D->DM D)(ds:List D)(M:Mo)(r':R D×Mo):Prop:=
 (∃ns vs,Fi (.ref M.length::ds) (M++[.ins c [] []])=some (.ok .non,M++[.ins c ns vs])/\(∀d∈vs,d∈ds\/∃i,d=.int i)/\r'=(.ok (.obj c ns vs),M)) \/
 (∃e o,Fi (.ref M.length::ds) (M++[.ins c [] []])=some (.exc e,M++[o])/\r'=(.exc e,M))
def QK{P:Program}{w:World}{K:PySem.W.Frag}{mg:Str->Option Value}{base:Heap}{k:Nat}{c qual:Str}{st:Stmt}{ps:List Str}{Fi F':List D->DM D}(T:MethD P w K mg base k c "__init__" qual st ps Fi)
  (hb:∀(kV doc pm:Value) (an:Option Addr) (cdv ct:Value) (us:List Value),us.length=ps.length->bindArgs (PySem.W.fnOf "__init__" qual (defArgs st) (defBody st) (defScope st) .none kV doc pm an cdv ct) ⟨us,[]⟩=pure (ps.zip us))
  (hm:∀C,mg c=some (.ref C)->PySem.W.makesIn K C=true/\PySem.W.keepIn K (.ref C)=true) (hf:∀ds M r',F' ds M=some r'->KD c Fi ds M r'):ClsD P w K mg base k c F':=by
 obtain⟨C,f,fd,mc,G,B,a,n,cl⟩:=T.ex;refine⟨C,ps,_,⟨f,fd,G,B.binds hb,B.kp,a,n⟩,(hm C mc).1,(hm C mc).2,mc,λρ M H vs ds Q E cv j g x dx hx hdx hne=>?_⟩
 obtain⟨r',e,p⟩:=g;have hx':upd H dx (.own x) x=none:=by rw[upd_ne (λz=>hne z.symm)];exact hx
 have x1:Ext ρ H ρ (upd H dx (.own x)):=.lay hdx;have j1:=j.lay (.own x) hdx;have x2:Ext ρ (upd H dx (.own x)) (ρ.put x) (upd (upd H dx (.own x)) x (.ins C dx [])):=.put hx';have j2:J mg (ρ.put x) (M++[.ins c [] []]) (upd (upd H dx (.own x)) x (.ins C dx [])):=j1.put hx' ⟨C,dx,[],mc,upd_same,rfl,.nil⟩;have hput:(ρ.put x).st[M.length]?=some x:=by show (ρ.st++[x])[M.length]?=some x;rw[<-j.len,TJ (Td _)];simp
 refine⟨ρ.put x,M++[.ins c [] []],.ref M.length::ds,.cons (.ref hput) (cv.mono (x1.trans x2)),j2,?_⟩;have sb:∀{ρ2 H2},Ext (ρ.put x) (upd (upd H dx (.own x)) x (.ins C dx [])) ρ2 H2->Sub ρ ρ2 M.length:=λ{ρ2 H2} y=>by obtain⟨τ,ht⟩:=y.pre;exact⟨⟨[x]++τ,by rw[ht];show (ρ.st++[x])++τ=_;simp⟩,y.vo,j.len⟩
 have ex:∀{ρ2 H2},Ext (ρ.put x) (upd (upd H dx (.own x)) x (.ins C dx [])) ρ2 H2->Ext ρ H ρ H2:=λ{ρ2 H2} y=>⟨⟨[],by simp⟩,rfl,λa h n=>absurd h n,λb o hb hn=>y.keep b o (by
  have nx:b≠x:=ne_of_none hb hx;have ndx:b≠dx:=ne_of_none hb hdx;rw[upd_ne nx,upd_ne ndx];exact hb) (λz=>by
  rcases T6.mp z with z | z
  ·exact hn z
  ·exact ne_of_none hb hx (Tt.mp z))⟩
 rcases hf ds M r' e with ⟨ns,vs',e2,hv,rfl⟩ | ⟨er,o,e2,rfl⟩
 ·refine⟨_,e2,λρ2 H2 b y j3 cb=>?_⟩
  cases cb;refine⟨rfl,p ρ H2 (.ref x) (ex y) (j3.freeze (sb y) j.len j.fz) ?_⟩;have h3:ρ2.st[M.length]?=some x:=y.at hput;obtain⟨C',dx',xs,m',hx3,l,cs⟩:=j3.obj M.length x (.ins c ns vs') h3 (by simp)
  refine .obj (j.fresh hx) m' hx3 l (Cvs.freeze (sb y) j3 (Eu λd hd=>?_) cs)
  rcases hv d hd with h | ⟨i,rfl⟩
  ·exact cv.fz_mem j.len d h
  ·exact .int i
 ·refine⟨_,e2,λρ2 H2 C2 y j3 m2=>?_⟩
  exact p ρ H2 C2 (ex y) (j3.freeze (sb y) j.len j.fz) m2
end L3
namespace L3
open PySem PySem.Spec L2 LS
end L3
namespace L3
open PySem PySem.Spec L2
def cM(h:l.length=1):∃a,l=[a]:=match l,h with | [a],_=>⟨a,rfl⟩
def dJ(h:l.length=2):∃a b,l=[a,b]:=match l,h with | [a,b],_=>⟨a,b,rfl⟩
def qC(h:l.length=3):∃a b c,l=[a,b,c]:=match l,h with | [a,b,c],_=>⟨a,b,c,rfl⟩
def Cz(h:l.length=4):∃a b c d,l=[a,b,c,d]:=match l,h with | [a,b,c,d],_=>⟨a,b,c,d,rfl⟩
def Cg:D->DM D
 |.int n=>if 0<=n/\n<2^63 then pure (.int n) else stuck
 |_=>stuck
def CG(c:Str)(F:List D->DM D):List D->DM D
 |[.obj k ns vs]=>if k=c then F [.obj k ns vs]>>=Cg else stuck
 |l=>rd (dX l)
set_option tactic.hygienic true in
def xg(T:MethD X.prog X.w X.K X.mg X.base j c "__len__" qual st ps F)(hr:Room k X.A)(hx:Passes (bJ X.prog X.w) X E)
  (hb:∀(kV doc pm:Value) (an:Option Addr) (cdv ct:Value) (us:List Value),us.length=ps.length->bindArgs (PySem.W.fnOf "__len__" qual (defArgs st) (defBody st) (defScope st) .none kV doc pm an cdv ct) ⟨us,[]⟩=pure (ps.zip us))
  (hjk:j+1<=k:=by decide):CallD X E (.builtin "len") (CG c F):=by
 obtain⟨C,f,fd,mc,G,B,a,n,cl⟩:=T.ex;have MC:MethC X.prog X.w X.K X.mg X.base j C "__len__" ps (iU X.mg F):=⟨f,fd,G,B.binds hb,B.kp,a,n⟩;intro Xe s σ H vs us Q I rs q;obtain⟨ρ,M,ds,j,cv,go⟩:=q;unfold CG at go;split at go
 ·rename_i k' ns ws;split at go
  ·rename_i hk;subst hk;obtain⟨v,rfl,kv⟩:=cv.one;cases kv with
   | obj hn m hh hl cs=>
     rw[mc]at m;cases m;refine Ec MC (hr.mono hjk) hx Xe s σ H _ us Q I rs ⟨_,_,_,rfl,hh,ρ,M,_,cv,j,go.bind λρ1 H1 M1 b d e1 j1 c1 g2=>?_⟩
     unfold Cg at g2;split at g2
     ·split at g2
      ·rename_i hn2;cases c1;exact⟨_,rfl,hn2,g2.pure ρ1 H1 _ .refl j1 (.int _)⟩
      ·obtain⟨r,e,_⟩:=g2;cases e
     ·obtain⟨r,e,_⟩:=g2;cases e
  ·obtain⟨r,e,_⟩:=go;cases e
 ·exact call_lenD Xe s σ H vs us Q I rs ⟨ρ,M,_,j,cv,go⟩
end L3
namespace L2
open PySem PySem.Spec PyProof.Rows
end L2
namespace L3
open PySem PySem.Spec L2
end L3
namespace L2
open PySem PySem.Spec PyProof.Rows
def Qt(i j k:Nat)(ta:TA):TS:=λD σ H=>ta σ H λvs H1=>∃v w z,vs=[v,w,z]/\D.nx (((σ.set i (some v)).set j (some w)).set k (some z)) H1
def J0{kt k2 pt2}(hc:X.calm=true)(hN:X.N.Nodup)(hi:X.N[i]?=some x)(hj:X.N[j]?=some y)(hk:X.N[k]?=some z)(hij:i≠j)(hik:i≠k)(hjk:j≠k)
  (hx:X.env.scope.names.lookup x=some .local) (hy:X.env.scope.names.lookup y=some .local) (hz:X.env.scope.names.lookup z=some .local) (ha:PA X [a,b,c] ta)
  (hw:swappedStores [.Tuple [.Name x px,.Name y py,.Name z pz] kt pt] (.Tuple [a,b,c] k2 pt2) X.env=pure (some [x,y,z]))
  (hs:swapsWithSole [.Tuple [.Name x px,.Name y py,.Name z pz] kt pt] (.Tuple [a,b,c] k2 pt2) pos.line X.env=pure false:=by rfl) :
  PS X (.Assign [.Tuple [.Name x px,.Name y py,.Name z pz] kt pt] (.Tuple [a,b,c] k2 pt2) pos) (Qt i j k ta):=by
 intro Xe s σ H D I h;rw[exec_Assign_arm];refine SQ (VF ?_);rw[hs];refine SQ (S6 ?_);rw[Tq (by decide)]
 refine SQ (Tuple_ (thn (ha _ Xe s σ H _ I h) λus s1 ⟨vs,H1,I1,r1,q1⟩=>?_))
 obtain⟨v,w,w3,e1,q1⟩:=q1;subst e1;obtain ⟨u1,u2,u3,rfl,rv,rw',rz⟩:∃ u1 u2 u3,us=[u1,u2,u3]/\RelV v u1/\RelV w u2/\RelV w3 u3:=by
  cases r1 with
  | cons p q=>
    cases q with
    | cons p' q'=>
      cases q' with
      |cons p2 q2=>cases q2;exact⟨_,_,_,rfl,p,p',p2⟩
 refine UV ?_ (by show 3<=sizeLine;decide)
 have I2:Inv X Xe σ H1 { s1 with heap:=s1.heap.push { cls:=.type "tuple",data:=.seq [u1,u2,u3].toArray } }:=I1.kept (t':=s1.toks) λb o e=>SX _ e
 rw[hw];refine SQ (S6 ?_);show wpAny (model X.prog X.w) X.A (do rule "assign.swapped-stores";let items <-unpackItems (.ref s1.heap.objs.size) 3 none;assignInOrder [λv=>bindName X.env z v,λv=>bindName X.env y v,λv=>bindName X.env x v] items.reverse;pure Flow.next) _ _ _
 refine SQ (V4 (SQ (unpackItems_tuple (items:=#[u1,u2,u3]) (I.ok.hd hc) (W6 s1.heap _) λh' hx'=>?_)))
 have I3:=I2.kept (h':=h') (t':=s1.toks) λb o e=>hx' b o (Tv (S8 e)) e
 show wpAny _ _ (assignInOrder [λv=>bindName X.env z v,λv=>bindName X.env y v,λv=>bindName X.env x v] [u3,u2,u1]>>=λu=>pure Flow.next) _ _ _
 refine SQ (Vp (Wl (store_ok I3 hN hk (.inl hz) rz (λs2 I4=>?_) (.inr hz))))
 refine Vp (Wl (store_ok I4 hN hj (.inl hy) rw' (λs3 I5=>?_) (.inr hy)))
 refine Vp (Wl (store_ok I5 hN hi (.inl hx) rv (λs4 I6=>assignInOrder_nil (S6 ?_)) (.inr hx)))
 have e:((σ.set k (some w3)).set j (some w)).set i (some v)=((σ.set i (some v)).set j (some w)).set k (some w3):=by rw[List.set_comm _ _ (Ne.symm hjk),List.set_comm _ _ (Ne.symm hik),List.set_comm _ _ (Ne.symm hij)]
 rw[e]at I6;exact⟨_,H1,I6,q1⟩
end L2
namespace L3
open PySem PySem.Spec L2
def Iw(i j k:Nat)(fa:ao->DM (List D)):ao->DM Fl:=λδ=>fa δ>>=λl=>match l with
 |[v,w,z]=>pure (.nx (((δ.set i (some v)).set j (some w)).set k (some z)))
 |_=>stuck
@[simp] theorem RZ(i j k:Nat)(fa:ao->DM (List D))(δ:ao):Iw i j k fa δ=fa δ>>=λl=>match l with
 |[v,w,z]=>Pure.pure (.nx (((δ.set i (some v)).set j (some w)).set k (some z)))
 |_=>stuck:=id rfl
def Jy{kt k2 pt2}(hc:X.calm=true)(hN:X.N.Nodup)(hi:X.N[i]?=some x)(hj:X.N[j]?=some y)(hk:X.N[k]?=some z)(hij:i≠j)(hik:i≠k)(hjk:j≠k)
  (hx:X.env.scope.names.lookup x=some .local) (hy:X.env.scope.names.lookup y=some .local) (hz:X.env.scope.names.lookup z=some .local) (ha:DA X E [a,b,c] fa)
  (hw:swappedStores [.Tuple [.Name x px,.Name y py,.Name z pz] kt pt] (.Tuple [a,b,c] k2 pt2) X.env=pure (some [x,y,z]))
  (hs:swapsWithSole [.Tuple [.Name x px,.Name y py,.Name z pz] kt pt] (.Tuple [a,b,c] k2 pt2) pos.line X.env=pure false:=by rfl) :
  DS X E (.Assign [.Tuple [.Name x px,.Name y py,.Name z pz] kt pt] (.Tuple [a,b,c] k2 pt2) pos) (Iw i j k fa):=⟨PS.mono (J0 hc hN hi hj hk hij hik hjk hx hy hz ha.h.h hw hs) λD σ H h=>by
 obtain⟨ρ,δ,M,ev,j,g1⟩:=h;refine⟨ρ,δ,M,ev,j,bK.bind g1 λρ1 H1 M1 v d e1 j1 c1 g2=>?_⟩
 cases c1 with
 |nil=>obtain⟨r,e,_⟩:=g2;cases e
 | cons c1 c2=>cases c2 with
   |nil=>obtain⟨r,e,_⟩:=g2;cases e
   | cons c2 c3=>cases c3 with
     |nil=>obtain⟨r,e,_⟩:=g2;cases e
     |cons c3 c4=>cases c4 with
       |nil=>exact⟨_,_,_,rfl,bK.pure (a:=.nx _) g2 ρ1 H1 _ .refl j1 ((((ev.mono e1).set c1).set c2).set c3)⟩
       |cons _ _=>obtain⟨r,e,_⟩:=g2;cases e⟩
end L3
namespace N10
def Rz(f s:List Nat):Nat:=(List.zipWith (λa b=>a-b) f s).sum
def mx(f s:List Nat):Nat:=(List.zipWith max f s).sum
theorem BR(c:Nat):∀(f:List Nat),(f.map (c * ·)).sum=c*f.sum
 |[]=>rfl
 |a::f=>by simp only[List.map_cons,List.sum_cons,BR c f,Nat.mul_add]
def pl(a b:Nat):Nat×Nat:=(a / Nat.gcd a b,b / Nat.gcd a b)
def LC(x y:Nat):Nat:=x / Nat.gcd x y*y
def RC(a b:List Nat):List Nat:=a.map λw=>w*(LC a.sum b.sum / a.sum)
def RD(a b:List Nat):List Nat:=b.map λw=>w*(LC a.sum b.sum / b.sum)
def ap(a b:List Nat):Nat×Nat:=pl (Rz (RC a b) (RD a b)) (LC a.sum b.sum)
def QW(l:List Nat):Nat:=l.foldl Nat.gcd 0
def lst(l:List Nat):List Nat:=l.map (·/ QW l)
def S:Nat->(Nat->Nat)->Nat
 |0,_=>0
 |n+1,f=>S n f+f n
def up(f:Nat->Nat)(x v:Nat):Nat->Nat:=λi=>if i=x then v else f i
def Kq(f:Nat->Nat)(x v:Nat):up f x v x=v:=by simp[up]
def Ji(h:i≠x):up f x v i=f i:=by simp[up,h]
theorem vO:∀ {n:Nat},(∀ i,i<n->f i=g i)->S n f=S n g
 |0,_=>rfl
 |n+1,h=>by show S n f+f n=S n g+g n;rw[vO λi hi=>h i (by lia),h n (by lia)]
theorem KC:∀ {n:Nat},x<n->S n (up f x v) + f x=S n f + v
 | n + 1,h=>by
   show S n (up f x v)+up f x v n+f x=S n f+f n+v;by_cases e:x=n
   ·subst e;rw[Kq,vO (g:=f) λi hi=>Ji (by lia)];lia
   ·have:=KC (f:=f) (v:=v) (n:=n) (x:=x) (by lia)
    rw[Ji (Ne.symm e)];lia
theorem uF:∀ {n:Nat},(∀ i,i<n->f i=0)->S n f=0
 |0,_=>rfl
 |n+1,h=>by show S n f+f n=0;rw[uF λi hi=>h i (by lia),h n (by lia)]
theorem Ie(f g:Nat->Nat):∀ n:Nat,S n (λi=>f i + g i)=S n f + S n g
 |0=>rfl
 |n+1=>by show S n _+(f n+g n)=(S n f+f n)+(S n g+g n);rw[Ie f g n];lia
theorem uE(f:Nat->Nat):∀ n:Nat,((List.range n).map f).sum=S n f
 |0=>rfl
 |n+1=>by
   rw[Ww,Ue,List.sum_append,uE f n];show S n f+(f n+0)=S n f+f n
   lia
structure G where
 A:Nat->Nat->Nat
 L:Nat->Nat
 W:Nat->Nat
end N10
namespace L3
open PySem PySem.Spec L2
def nM(R:List (List Nat)):D:=.tup (R.map nT)
def ga(l:List Nat)(i:Nat):Nat:=l.getD i 0
def gr(R:List (List Nat))(i:Nat):List Nat:=R.getD i []
def uX(h:i<l.length):ga l i∈l:=by unfold ga;rw[UL,Tg h];exact Vy _
def gr_mem{R:List (List Nat)}{i:Nat}(h:i<R.length):gr R i∈R:=by unfold gr;rw[UL,Tg h];exact Vy _
def Lx(h:l.length<=i):ga l i=0:=by unfold ga;rw[UL,Vt h];rfl
def lU(h:i<l.length):ga l i=l[i]:=by unfold ga;rw[UL,Tg h];rfl
def Nf(h:nD a=nD b):a=b:=by
 have:=D.int.inj h
 lia
def Nj(h:nT a=nT b):a=b:=(List.map_inj_right λz z=>Nf).mp (D.tup.inj h)
def Ni(h:nM a=nM b):a=b:=(List.map_inj_right λz z=>Nj).mp (D.tup.inj h)
theorem Fd{α:Type}{ft:ao->DM Bool}{fe:ao->DM D}{rest:ao}(enc:α->D)(p:α->Bool)(e:α->D):∀ (as:List α) (x:Option D) (l:List D),l.length + as.length<=1000000->(∀ a∈as,ft (some (enc a)::rest)=Pure.pure (p a))->(∀ a∈as,p a=true->fe (some (enc a)::rest)=Pure.pure (e a))->
  bC (gN 0) ft (cC fe) (as.map enc) (x::rest) l=Pure.pure (fj x (as.map enc)::rest,l++(as.filter p).map e)
 |[],x,l,_,_,_=>by simp[bC,fj]
 | d::ds,x,l,hl,h1,h2=>by
   have b:=h1 d (Ui ..);have hl':l.length+(ds.length+1)<=1000000:=by simpa using hl
   have lt:l.length<sizeLine:=by show l.length<2^24;lia
   have ih:=λl' hl'=>Fd (rest:=rest) enc p e ds (some (enc d)) l' hl' (λx hx=>h1 x (T8 _ hx)) (λx hx=>h2 x (T8 _ hx))
   by_cases hp:p d=true
   ·have c:=h2 d (Ui ..) hp;have q:=ih (l++[e d]) (by simp;lia)
    simp[bC,b,hp,cC,c,lt,q,fj]
   ·have q:=ih l (by lia)
    simp[bC,b,hp,q,fj]
def bL{α:Type}{ft:ao->DM Bool}{fe:ao->DM D}{x:Option D}{rest:ao}{as:List α}(enc:α->D)(p:α->Bool)(e:α->D)(hl:as.length<=1000000)(h1:∀a∈as,ft (some (enc a)::rest)=Pure.pure (p a))(h2:∀a∈as,p a=true->fe (some (enc a)::rest)=Pure.pure (e a)):
  dM (bC (gN 0) ft (cC fe) (as.map enc) (x::rest) [])=Pure.pure (fj x (as.map enc)::rest,(as.filter p).map e):=by
 rw[Fd enc p e as x [] (by simpa using hl) h1 h2];simp
def rJ{α:Type}{fe:ao->DM D}{x:Option D}{rest:ao}{as:List α}(enc:α->D)(e:α->D)(hl:as.length<=1000000)(h2:∀a∈as,fe (some (enc a)::rest)=Pure.pure (e a)):
  dM (bC (gN 0) (λz=>Pure.pure true) (cC fe) (as.map enc) (x::rest) [])=Pure.pure (fj x (as.map enc)::rest,as.map e):=by
 rw[bL enc (λz=>true) e hl (λz z=>rfl) λa ha z=>h2 a ha,V9.mpr (λz z=>rfl)]
theorem Fe{α β:Type}{fe:ao->DM D}{rest:ao}(enc:α->D)(enc':β->D)(e:α->β->D):∀ (as:List α) (bs:List β) (x y:Option D) (l:List D),l.length + as.length<=1000000->(∀ a∈as,∀ b∈bs,fe (some (enc a)::some (enc' b)::rest)=Pure.pure (e a b))->
  bC (gT 2 (cF (gN 0) (cF (gN 1) iI))) (λz=>Pure.pure true) (cC fe) (pairs (as.map enc) (bs.map enc')) (x::y::rest) l=Pure.pure (rP x y (as.map enc) (bs.map enc')++rest,l++List.zipWith e as bs)
 |[],bs,x,y,l,_,_=>by simp[bC,rP,pairs]
 |a::as,[],x,y,l,_,_=>by simp[bC,rP,pairs]
 |a::as,b::bs,x,y,l,hl,h=>by
   have c:=h a (by simp) b (by simp)
   have hl':l.length+(as.length+1)<=1000000:=by simpa using hl
   have lt:l.length<sizeLine:=by show l.length<2^24;lia
   have ih:=Fe (rest:=rest) enc enc' e as bs (some (enc a)) (some (enc' b)) (l++[e a b]) (by simp;lia) (λa ha b hb=>h a (by simp[ha]) b (by simp[hb]))
   simp[bC,pairs,cC,c,lt,ih,rP]
def K8{α β:Type}{fe:ao->DM D}{x y:Option D}{rest:ao}{as:List α}{bs:List β}(enc:α->D)(enc':β->D)(e:α->β->D)(hl:as.length<=1000000)(h:∀a∈as,∀b∈bs,fe (some (enc a)::some (enc' b)::rest)=Pure.pure (e a b)):
  dM (bC (gT 2 (cF (gN 0) (cF (gN 1) iI))) (λz=>Pure.pure true) (cC fe) (pairs (as.map enc) (bs.map enc')) (x::y::rest) [])=Pure.pure (rP x y (as.map enc) (bs.map enc')++rest,List.zipWith e as bs):=by
 rw[Fe enc enc' e as bs x y [] (by simpa using hl) h];simp
def zT(h0:0<b)(h:b<2^1000):(rd (uU (nD a) (nD b)):DM D)=Pure.pure (nD (a / b)):=by unfold nD;rw[N7 (Jw (by lia) (by simpa using h)),Int.natCast_ediv]
def zV(h:b<2^64):(rd (qF (nD a) (nD b)):DM D)=Pure.pure (nD (a*b)):=by unfold nD;rw[Ja (JN (by simpa using h)),Int.natCast_mul]
def jC(a b:Nat):(rd (cU (nD a) (nD b)):DM D)=Pure.pure (nD (a+b)):=by unfold nD;rw[Qf,Int.natCast_add]
def sy(a:Nat):(rd (cU (nD a) (.int 1)):DM D)=Pure.pure (nD (a+1)):=jC a 1
def Gd(a:Nat):(rd (cU (.int 1) (nD a)):DM D)=Pure.pure (nD (a+1)):=by rw[Nat.add_comm];exact jC 1 a
def vG(h:b<=a):(rd (q9 (nD a) (nD b)):DM D)=Pure.pure (nD (a-b)):=by
 unfold nD;rw[Qn];have:(a:Int)-(b:Int)=((a-b:Nat):Int):=by lia
 rw[this]
def fO(a b:Nat):(rd (cI (nD a) (nD b)):DM D)=Pure.pure (.bl (decide (a=b))):=by
 unfold nD;rw[Qg];have:decide ((a:Int)=(b:Int))=decide (a=b):=by rw[T9,Vu,Vu];lia
 rw[this]
def zW(a b:Nat):(rd (gC (nD a) (nD b)):DM D)=Pure.pure (.bl (!decide (a=b))):=by
 unfold nD;rw[Qk];have:decide ((a:Int)=(b:Int))=decide (a=b):=by rw[T9,Vu,Vu];lia
 rw[this]
def nY(a b:Nat):(rd (vf (nD a) (nD b)):DM D)=Pure.pure (.bl (decide (a<b))):=by
 unfold nD;rw[Ra];have:decide ((a:Int)<(b:Int))=decide (a<b):=by rw[T9];simp
 rw[this]
def nU(a b:Nat):(rd (xr (nD a) (nD b)):DM D)=Pure.pure (.bl (decide (a<=b))):=by
 unfold nD;rw[Q9];have:decide ((a:Int)<=(b:Int))=decide (a<=b):=by rw[T9];simp
 rw[this]
def vC(a b:Nat):(rd (xq (nD a) (nD b)):DM D)=Pure.pure (.bl (decide (b<a))):=by
 unfold nD;rw[Q8];have:decide ((b:Int)<(a:Int))=decide (b<a):=by rw[T9];simp
 rw[this]
def Gh(a b:Nat):(rd (Ew (nD a) (nD b)):DM D)=Pure.pure (.bl (decide (b<=a))):=by
 unfold nD;rw[Q7];have:decide ((b:Int)<=(a:Int))=decide (b<=a):=by rw[T9];simp
 rw[this]
def jh(h:0<b):(rd (qD (nD a) (nD b)):DM D)=Pure.pure (nD (a%b)):=Oa h
def Gm(l:List Nat):(rd (dX [nT l]):DM D)=Pure.pure (nD l.length):=by simp[nT,nD]
def nW(R:List (List Nat)):(rd (dX [nM R]):DM D)=Pure.pure (nD R.length):=by simp[nM,nD]
def Qh(l:List D):(rd (eV [.tup l,.ty "tuple"]):DM D)=Pure.pure (.bl true):=vD (t := "tuple") (λz=>rfl) (by decide)
def Gj(R:List (List Nat)):(rd (eV [nM R,.ty "tuple"]):DM D)=Pure.pure (.bl true):=Qh _
def eF(h:n<2^62):ph [nD n]=some (.fix ((List.range n).map nD)):=Oc h
def Gg(R:List (List Nat)):w5 (nM R)=some (.fix (R.map nT)):=rfl
def Gf(l:List D):(rd (KQ (.lst l)):DM Itn)=Pure.pure (.fix l):=rfl
def J5(l:List Nat)(R:List (List Nat)):Ah [nT l,nM R]=some (.fix (pairs (l.map nD) (R.map nT))):=rfl
def sE(h:i<l.length):(rd (cg (nT l) (nD i)):DM D)=Pure.pure (nD (ga l i)):=Qi (by unfold ga;rw[UL,Tg h];rfl)
def jr{R:List (List Nat)}{i:Nat}(h:i<R.length):(rd (cg (nM R) (nD i)):DM D)=Pure.pure (nT (gr R i)):=I9 (by unfold gr;rw[TV,UL,Tg h];rfl)
def Gk{R:List (List Nat)}(h:0<R.length):(rd (cg (nM R) (.int 0)):DM D)=Pure.pure (nT (gr R 0)):=jr h
theorem Ad:∀ R:List (List Nat),dH (R.map nT)=some (R.map λl=>PyData.tuple (l.map λn:Nat=>PyData.int (n:Int)))
 |[]=>rfl
 | l::R=>by
   have e:toPy (nT l)=some (PyData.tuple (l.map λn:Nat=>PyData.int (n:Int))):=by rw[nA];simp only[toPy,pG,Option.map_some];rw[U0];rfl
   simp only[List.map_cons,dH,e,Ad R]
theorem yM:∀ R:List (List Nat),PyData.depthAll (R.map λl=>PyData.tuple (l.map λn:Nat=>PyData.int (n:Int)))<=2
 |[]=>by simp[PyData.depthAll]
 |l::R=>by
   have:=yM R;have h:=oU (l.map λn:Nat=>(n:Int))
   rw[U0]at h;have h':PyData.depthAll (l.map λn:Nat=>PyData.int (n:Int))<=1:=h
   simp only[List.map_cons,PyData.depthAll,PyData.depth]
   lia
def Er(a b:List (List Nat))(ha:a.length<=1000000):(rd (gC (nM a) (nM b)):DM D)=Pure.pure (.bl (!decide (a=b))):=bY λM=>by
 have d:=yM a;have key:∀ a b:List (List Nat),PyData.eqvAll (a.map λl=>PyData.tuple (l.map λn:Nat=>PyData.int (n:Int))) (b.map λl=>PyData.tuple (l.map λn:Nat=>PyData.int (n:Int)))=decide (a=b):=by
  intro a;induction a with
  |nil=>intro b;cases b<;>simp[PyData.eqvAll]
  | cons x a ih=>
    intro b;cases b with
    |nil=>simp[PyData.eqvAll]
    | cons y b=>
      have e:=qu (x.map λn:Nat=>(n:Int)) (y.map λn:Nat=>(n:Int))
      rw[U0,U0]at e;have e':PyData.eqvAll (x.map λn:Nat=>PyData.int (n:Int)) (y.map λn:Nat=>PyData.int (n:Int))=decide (x=y):=by refine Eq.trans e ?_;rw[T9,Vu,Vu];exact tW
      simp only[List.map_cons,PyData.eqvAll,PyData.eqv,e',ih b];by_cases h:x=y<;>by_cases h2:a=b<;>simp[h,h2]
 have lay:∀ a:List (List Nat),PyData.canLayAll0 (a.map λl=>PyData.tuple (l.map λn:Nat=>PyData.int (n:Int)))=true:=by
  intro a;induction a with
  |nil=>rfl
  |cons x a ih=>
    have e:=lay_ints (x.map λn:Nat=>(n:Int))
    rw[U0]at e;have e':PyData.canLayAll0 (x.map λn:Nat=>PyData.int (n:Int))=true:=e
    simp[PyData.canLayAll0,PyData.canLay0,e',ih]
 unfold nM;simp only[gC,L3.eqB,eqP,toPy,Ad,Option.map_some,PyData.canLay0,lay,PyData.depth,PyData.eqv,key];simp
 lia
end L3
namespace LS
open PySem PySem.Spec PyProof.Rows PyProof
end LS
namespace L2
open PySem PySem.Spec PyProof.Rows
variable{X:Cx}{pos:Pos}
end L2
namespace L3
open PySem PySem.Spec PyProof.Rows L2
variable{X:Cx}{E:XK}{pos:Pos}
def gL(n:Nat)(fs:List D->ao->DM ao):D->ao->DM ao
 |.lst l,δ=>if l.length=n then fs l δ else stuck
 |_,_=>stuck
@[simp] theorem SJ(n:Nat)(fs:List D->ao->DM ao)(l:List D)(δ:ao):gL n fs (.lst l) δ=if l.length=n then fs l δ else stuck:=id rfl
def gZ{X:Cx}{E:XK}{st:Stmt}:DS X E st (λz=>stuck):=⟨by intro Xe s σ H D I h;obtain⟨ρ,δ,M,ev,j,g1⟩:=h;obtain⟨r,e,_⟩:=g1;cases e⟩
end L3
namespace L3
open PySem PySem.Spec L2
abbrev Mg:=Str->Option Value
abbrev Fn:=List D->DM D
abbrev Nn(mg:Mg)(x:Str):Prop:=mg x=none
abbrev Gi(mg:Mg)(x:Str)(i:Int)(t:Tok):Prop:=mg x=some (.int i t)
abbrev Gc(mg:Mg)(x:Str)(C:Addr):Prop:=mg x=some (.ref C)
abbrev Rm(k:Nat)(A:Around)(q:Str)(st:Stmt)(s:Shared)(f:Addr)(cdv:Value):Prop:=Room k (A.deeper (PyProof.Rows.envOfC q (defScope st) s.heap.objs.size f cdv))
abbrev Ds(P:Program)(w:World)(K:PySem.W.Frag)(mg:Mg)(base:Heap)(N:List Str)(q:Str)(st:Stmt)(f:Addr)(cdv:Value)(A:Around)(outer:List Env)(s:Shared)(H:Hp)(E:XK)(b:ao->DM Fl):Prop:=
 DSs (b7 P w K mg base N q (defScope st) f cdv A outer s H E) E (defBody st) b
def sI(a:sc.kind=.function)(b:sc.isCoroutine=false)(c:sc.isGenerator=false)(p:N.take P.length=P)(d:(decide N.Nodup&&(decide (∀x∈P,sc.names.lookup x=some .local\/sc.names.lookup x=some .cell)&&decide (∀y∈sc.names,y.2≠.free)))=true):FnScope N P sc:=by simp only[Bool.and_eq_true,decide_eq_true_eq]at d;exact⟨a,b,c,d.1,p,d.2.1,d.2.2⟩
def Jb(lo hi:Option Int):D->Mo->Option D
 |.scr ns,_=>some (.lst (cutD (ns.map D.int) lo hi))
 |_,_=>none
theorem Bb:∀l:List Int,Cvs mg ρ H (l.map V.int) (l.map D.int)
 |[]=>.nil
 |n::l=>.cons (.int _) (Bb l)
section
variable{X:Cx}{E:XK}
def Rc:SlR X (λx lo hi H Q=>∃ρ M dx d,J X.mg ρ M H/\Cv X.mg ρ H x dx/\Jb lo hi dx M=some d/\∀ρ' H' v,Ext ρ H ρ' H'->J X.mg ρ' M H'->Cv X.mg ρ' H' v d->Q v H'):=by
 intro Xe s σ H x v vl vu lo hi sl Q I rx hs pl pu h;obtain⟨ρ,M,dx,d,j,c,e,q⟩:=h;unfold Jb at e;split at e
 ·cases e;cases c with | scr n rd=>
  refine sl_list (X:=X) Xe s σ H _ v vl vu lo hi sl Q I rx hs pl pu ⟨_,_,rfl,.inl rd,λp hp=>?_⟩
  exact q ρ _ _ (.lay hp) (j.lay _ hp) (.lst (j.fresh hp) upd_same (((Bb _).cut lo hi).mono (.lay hp)))
 ·cases e
def El(ha:DE X E a fa)(hl:DP X E lo fl)(hh:DP X E hi fh):
  DE X E (.Subscript a (.Slice lo hi none p2) pos) (λδ=>fa δ>>=λx=>fl δ>>=λl=>fh δ>>=λh=>rd (Jb l h x)):=⟨PE.mono (pe_slice Rc ha.h hl.h hh.h) λσ H Q h=>by
 obtain⟨ρ,δ,M,ev,j,g1⟩:=h;refine⟨ρ,δ,M,ev,j,g1.bind λρ1 H1 M1 x dx e1 j1 c1 g2=>⟨ρ1,δ,M1,ev.mono e1,j1,g2.bind λρ2 H2 M2 l dl e2 j2 c2 g3=>⟨ρ2,δ,M2,(ev.mono e1).mono e2,j2,g3.bind λρ3 H3 M3 h dh e3 j3 c3 g4=>?_⟩⟩⟩
 have c2:l=dl:=c2;have c3:h=dh:=c3;subst c2 c3;obtain⟨d,e,q⟩:=g4.rd;exact⟨ρ3,M3,dx,d,j3,(c1.mono e2).mono e3,e,q⟩⟩
end
def Qm(ns:List Int)(lo hi:Option Int):(rd (Jb lo hi (.scr ns)):DM D)=Pure.pure (.lst (cutD (ns.map D.int) lo hi)):=rfl
def u1(h:n+64<cLine):n+1<cLine:=by lia
end L3
namespace L3
open PySem L2
theorem xJ{c:ao->DM Bool}{fb:ao->DM Fl}{qg:ao->Mo->Prop}(I:Nat->ao->Mo->Prop)
  (step:∀m δ M,I m δ M->∃b,c δ M=some (.ok b,M)/\(b=true->Rn (fb δ) M λr M'=>∃δ' m',r=.nx δ'/\m'<m/\I m' δ' M')/\(b=false->qg δ M)) :
  ∀(N m:Nat) (δ:ao) (M:Mo),m<N->I m δ M->Rn (lG c fb N δ) M λr M'=>∃δ',r=.nx δ'/\qg δ' M'
 |0,m,δ,M,h,_=>by lia
 | N + 1,m,δ,M,h,i=>by
   obtain⟨b,e,h1,h2⟩:=step m δ M i;unfold lG;refine Rn.bind (Q1:=λb' M'=>b'=b/\M'=M) ⟨b,M,e,rfl,rfl⟩ λb' M' ⟨eb,eM⟩=>?_
   subst eb eM;cases b' with
   |false=>exact Rn.pure ⟨δ,rfl,h2 rfl⟩
   |true=>
     refine Rn.bind (h1 rfl) λr M1 ⟨δ',m',er,hm,i'⟩=>?_
     subst er;exact xJ I step N m' δ' M1 (by lia) i'
end L3
namespace L3
open PySem PySem.Spec L2 LB
end L3
namespace L3
open PySem L2
end L3
namespace L3
open PySem PySem.Spec L2 LA LB
open PyProof.Rows hiding St
end L3
namespace L3
open PySem PySem.Spec L2 LA LB LS
open PyProof.Rows hiding St
end L3
namespace L2
open PySem PySem.Spec PyProof.Rows LS LA LB
end L2
namespace L3
open PySem PySem.Spec L2 LA LB
end L3
namespace L3
open PySem PySem.Spec L2
open PyProof.Rows hiding St
end L3
namespace L3
open PySem PySem.Spec PyProof.Rows L2
abbrev TB(K:PySem.W.Frag)(x:Str):Prop:=PySem.W.nsIn K mainGlobals x=some none
def TD(K:PySem.W.Frag)(x:Str)(st:Stmt):Prop:=∀{h:Heap}{mg:Mg},K.In h->h.Ns mainGlobals mg->DefAt K mg x st
section
variable{K:PySem.W.Frag}{x:Str}{st:Stmt}{f:Addr}{oc:Value}{od an:Option Addr}{osl:Array (Option Value)}{kV doc pm cdv ct:Value}
def Qu(a:PySem.W.nsIn K mainGlobals x=some (some (.ref f)))(l:K.lookup f=some ⟨oc,od,.func (PySem.W.fnOf x x (defArgs st) (defBody st) (defScope st) .none kV doc pm an cdv ct),osl⟩)(c:PySem.W.codeIn K cdv x=true)(k:PySem.W.keepIn K (.ref f)=true):TD K x st:=
 λX G=>Hm X G a l c k
end
section
variable{P:Program}{w:World}{K:PySem.W.Frag}{mg:Mg}{base:Heap}{k:Nat}{C:Addr}{c x qual:Str}{N ps:List Str}{st:Stmt}{fb:ao->DM Fl}{is:List Int}
def okd(T:DefAt K mg x st)(S:FnScope N ps (defScope st))(hbody:∀{f cdv A outer s H E},Rm k A x st s f cdv->Ds P w K mg base N x st f cdv A outer s H E fb)
  (hb:∀(kV doc pm:Value) (an:Option Addr) (cdv ct:Value) (us:List Value),us.length=ps.length->bindArgs (PySem.W.fnOf x x (defArgs st) (defBody st) (defScope st) .none kV doc pm an cdv ct) ⟨us,[]⟩=pure (ps.zip us):=by intro _ _ _ _ _ _ us hl;first | (obtain⟨_,rfl⟩:=cM hl;rfl) | (obtain⟨_,_,rfl⟩:=dJ hl;rfl) | (obtain⟨_,_,_,rfl⟩:=qC hl;rfl) | (obtain⟨_,_,_,_,rfl⟩:=Cz hl;rfl)) :
  DefD P w K mg base (k+1) x ps (aL ps.length N.length fb):=L3.DefAt.okD T S hb λz z z z z z z=>hbody
def iJ(T:MethAt K C x qual st)(m:mg c=some (.ref C))(cl:L2.Cls K C)(S:FnScope N ps (defScope st))(hbody:∀{f cdv A outer s H E},Rm k A qual st s f cdv->Ds P w K mg base N qual st f cdv A outer s H E fb):MethD P w K mg base (k+1) c x qual st ps (aL ps.length N.length fb):=L3.MethAt.okD T m cl S λz z z z z z z=>hbody
end
end L3
namespace LA
open PySem PySem.W PySem.Calls LS PyProof.Rows LB
end LA
namespace L2
open PySem PySem.Spec PyProof.Rows LS LA LB
end L2
namespace L3
open PySem PySem.Spec L2 LA LB LS
open PyProof.Rows hiding St
end L3
namespace L3
open PySem PySem.Spec L2
open PyProof.Rows hiding St
end L3
namespace L3
open PySem PySem.Spec L2 LB
end L3
namespace L3
open PySem PySem.Spec L2
open PyProof.Rows hiding St
end L3
namespace L2
open PySem PySem.Spec PyProof.Rows LS
end L2
namespace L3
open PySem PySem.Spec L2
structure OwnK(K:PySem.W.Frag)(C:Addr):Prop where
 ne:PySem.W.findIn K (.ref C) "__ne__"=some (some (.builtin "object.__ne__"))
 mro:PySem.W.mroIn K C (.type "object")=some true
 cc:PySem.W.findIn K (.ref C) "__class__"=some (some (.builtin "object.__class__"))
 gs:PySem.W.specialIn K (.builtin "object.__class__") "__get__"=some (some (.builtin "getset_descriptor.__get__"))
 tk:PySem.W.takesIn K (.builtin "object.__class__")=some true
 ci:((PySem.W.clsIn K C).isSome&&PySem.W.typeIn K (.ref C)==some (.type "type"))=true
 cls:L2.Cls K C
structure OwnC(K:PySem.W.Frag)(mg:Str->Option Value)(c:Str):Prop where
 ex:∃C,mg c=some (.ref C)/\OwnK K C
def Ab:∀t∈tys,PySem.W.subIn K (.type t) (.ref C)=some false:=by intro t ht;simp only[tys,List.mem_cons,List.mem_nil_iff,or_false]at ht;rcases ht with rfl | rfl | rfl | rfl | rfl | rfl | rfl<;>rfl
def OwnK.kit(h:OwnK K C):∀t∈tys,PySem.W.kitOne K (.type t) (.ref C)=some false:=by
 intro t ht;unfold PySem.W.kitOne;rw[Tq (by simp)]
 unfold PySem.W.kitCls;dsimp only;rw[S7 h.ci];exact Ab t ht
def o9(c:Str):D->Mo->Bool
 |.obj k _ _,_=>k==c
 |d,M=>(tyOf d M).isSome
def dI:D->DM D
 |.bl b=>pure (.bl b)
 |_=>stuck
def jf:D->DM D
 |.bl b=>pure (.bl (!b))
 |_=>stuck
def yJ:D->DM D
 |.str x=>pure (.str x)
 |_=>stuck
def jw{α:Type}(p:Mo->Bool)(m:DM α):DM α:=λM=>if p M=true then m M else none
set_option tactic.hygienic true in
def Go.when(g:Go mg E rel Q ρ H (jw p m) M):p M=true/\Go mg E rel Q ρ H m M:=by
 obtain⟨r,e,q⟩:=g;unfold jw at e;split at e
 ·exact⟨‹_›,r,e,q⟩
 ·cases e
def Gn{X:Cx}{ρ:Rh}{H:Hp}{M:Mo}{c:Str}{C:Addr}{y:V}{d:D}(mc:X.mg c=some (.ref C))(j:J X.mg ρ M H)(cy:Cv X.mg ρ H y d)(h:o9 c d M=true):vN X.K H C y:=by
 cases d with
 | obj k ns vs=>
   have hk:k=c:=by simpa[o9] using h
   subst hk;cases cy with
   |obj hn m hh hl cs=>rw[mc]at m;cases m;exact .inl ⟨_,_,_,rfl,hh⟩
 |_=>have h':=h;simp only[o9]at h';obtain⟨t,ht⟩:=Uk.mp h';exact .inr ⟨t,pH j cy ht,Ab t (jl ht)⟩
section
variable{X:Cx}{E:XK}{j k:Nat}{c qual:Str}{st:Stmt}{ps:List Str}{F:List D->DM D}
def Sw(c:Str)(F:List D->DM D):List D->DM D
 |[.obj k ns vs]=>if k=c then F [.obj k ns vs]>>=yJ else stuck
 |l=>rd (Qo l)
def Es(c:Str)(F:List D->DM D):D->D->DM D
 |.obj k ns vs,y=>if k=c then jw (o9 c y) (F [.obj k ns vs,y]>>=dI) else stuck
 |x,y=>rd (cI x y)
def Ip(c:Str)(F:List D->DM D):D->D->DM D
 |.obj k ns vs,y=>if k=c then jw (o9 c y) (F [.obj k ns vs,y]>>=jf) else stuck
 |x,y=>rd (gC x y)
set_option tactic.hygienic true in
def Fy(T:MethD X.prog X.w X.K X.mg X.base j c "__eq__" qual st ps F)(hr:Room k X.A)(hx:Passes (bJ X.prog X.w) X E)
  (hb:∀(kV doc pm:Value) (an:Option Addr) (cdv ct:Value) (us:List Value),us.length=ps.length->bindArgs (PySem.W.fnOf "__eq__" qual (defArgs st) (defBody st) (defScope st) .none kV doc pm an cdv ct) ⟨us,[]⟩=pure (ps.zip us))
  (hjk:j+1<=k:=by decide):bZ X E (compareOp .Eq) (Es c F):=by
 obtain⟨C,f,fd,mc,G,B,a,n,cl⟩:=T.ex;have MC:MethC X.prog X.w X.K X.mg X.base j C "__eq__" ps (iU X.mg F):=⟨f,fd,G,B.binds hb,B.kp,a,n⟩;intro Xe s σ H x y v u Q I rx ry q;obtain⟨ρ,M,dx,dy,j,cx,cy,go⟩:=q;unfold Es at go;split at go
 ·rename_i k' ns ws;split at go
  ·rename_i hk;subst hk;cases cx with
   | obj hn m hh hl cs=>
     rw[mc]at m;cases m;obtain⟨hg,go⟩:=go.when;refine Fx MC hr.units (hr.mono (by lia)) hx Xe s σ H _ _ v u Q I rx ry ⟨_,_,_,rfl,hh,Gn mc j cy hg,ρ,M,_,.cons (.obj hn mc hh hl cs) (.cons cy .nil),j,go.bind λρ1 H1 M1 b d e1 j1 c1 g2=>?_⟩
     unfold dI at g2;split at g2
     ·cases c1;exact⟨_,rfl,g2.pure ρ1 H1 _ .refl j1 (.bl _)⟩
     ·obtain⟨r,e,_⟩:=g2;cases e
  ·obtain⟨r,e,_⟩:=go;cases e
 ·exact bu hr.units Xe s σ H x y v u Q I rx ry ⟨ρ,M,_,_,j,cx,cy,go⟩
set_option tactic.hygienic true in
def Ny(T:MethD X.prog X.w X.K X.mg X.base j c "__eq__" qual st ps F)(O:OwnC X.K X.mg c)(hr:Room k X.A)(hx:Passes (bJ X.prog X.w) X E)
  (hb:∀(kV doc pm:Value) (an:Option Addr) (cdv ct:Value) (us:List Value),us.length=ps.length->bindArgs (PySem.W.fnOf "__eq__" qual (defArgs st) (defBody st) (defScope st) .none kV doc pm an cdv ct) ⟨us,[]⟩=pure (ps.zip us))
  (hjk:j+1<=k:=by decide):bZ X E (compareOp .NotEq) (Ip c F):=by
 obtain⟨C,f,fd,mc,G,B,a,n,cl⟩:=T.ex;obtain⟨C',mc',ok⟩:=O.ex;rw[mc]at mc';cases mc';have MC:MethC X.prog X.w X.K X.mg X.base j C "__eq__" ps (iU X.mg F):=⟨f,fd,G,B.binds hb,B.kp,a,n⟩;intro Xe s σ H x y v u Q I rx ry q;obtain⟨ρ,M,dx,dy,j,cx,cy,go⟩:=q;unfold Ip at go;split at go
 ·rename_i k' ns ws;split at go
  ·rename_i hk;subst hk;cases cx with
   | obj hn m hh hl cs=>
     rw[mc]at m;cases m;obtain⟨hg,go⟩:=go.when;refine FQ MC ok.ne ok.mro hr.units (hr.mono hjk) hx Xe s σ H _ _ v u Q I rx ry ⟨_,_,_,rfl,hh,Gn mc j cy hg,ρ,M,_,.cons (.obj hn mc hh hl cs) (.cons cy .nil),j,go.bind λρ1 H1 M1 b d e1 j1 c1 g2=>?_⟩
     unfold jf at g2;split at g2
     ·cases c1;exact⟨_,rfl,g2.pure ρ1 H1 _ .refl j1 (.bl _)⟩
     ·obtain⟨r,e,_⟩:=g2;cases e
  ·obtain⟨r,e,_⟩:=go;cases e
 ·exact dN hr.units Xe s σ H x y v u Q I rx ry ⟨ρ,M,_,_,j,cx,cy,go⟩
def wg(c:Str):List D->Mo->Option D
 |[d,.cls c'],M=>if c'=c then (if o9 c d M=true then some (.bl (match d with | .obj _ _ _=>true | _=>false)) else none) else none
 |l,M=>eV l M
set_option tactic.hygienic true in
def Eb(O:OwnC X.K X.mg c):CallD X E (.builtin "isinstance") (λl=>rd (wg c l)):=by
 obtain⟨C,mc,ok⟩:=O.ex;intro Xe s σ H vs us Q I rs q;obtain⟨ρ,M,ds,j,cv,go⟩:=q;by_cases hd:∃d c',ds=[d,.cls c']
 ·obtain ⟨d,c',rfl⟩:=hd;obtain⟨r,e,p⟩:=go.rd;simp only[wg]at e;split at e
  ·rename_i hc;subst hc;split at e
   ·rename_i hg;cases e;obtain⟨v,w,rfl,k1,k2⟩:=cv.two;cases k2 with
    | cls h=>
      rw[mc]at h;cases h;refine Ea (by unfold PySem.W.kitOne;rw[S7 (by simp)]) ok.cc ok.gs ok.tk ok.mro ok.cls Xe s σ H _ us Q I rs ⟨_,rfl,?_⟩
      cases d with
      | obj k' ns ws=>
        have hk:k'=c':=by simpa[o9] using hg
        subst hk;cases k1 with
        |obj hn m hh hl cs=>rw[mc]at m;cases m;exact .inl ⟨_,_,_,rfl,hh,p ρ H _ .refl j (.bl _)⟩
      |_=>simp only[o9]at hg;obtain⟨t,ht⟩:=Uk.mp hg;exact .inr ⟨t,pH j k1 ht,ok.kit t (jl ht),p ρ H _ .refl j (.bl _)⟩
   ·cases e
  ·cases e
 ·have e:(rd (wg c ds):DM D)=rd (eV ds):=by
   congr 1;funext M;unfold wg;split
   ·exact absurd ⟨_,_,rfl⟩ hd
   ·rfl
  have go':Go X.mg E _ _ ρ H (rd (wg c ds)) M:=go;rw[e]at go';exact cZ Xe s σ H vs us Q I rs ⟨ρ,M,_,j,cv,go'⟩
end
end L3
namespace L3
open PySem PySem.Spec L2 PyProof.Rows
end L3
namespace L3
open PySem PySem.Spec L2
open PyProof.Rows hiding St
structure ThD(P:Program)(w:World)(K:PySem.W.Frag)(mg:Str->Option Value)(base:Heap)(k:Nat)(outer:List Env)(s:Shared)(H:Hp)(ρ:Rh)(g:Addr)(th:DM D):Prop where
 fn:∀(s2:Shared) (H2:Hp),Un (frs outer) [] H H2 s.heap s2.heap->HOk P w H2 s2.heap->PySem.W.FnAt g s2.heap
 run:∀(A2:Around) (outer2:List Env) (s2:Shared) (H2:Hp) (ρ2:Rh) (M2:Mo) (Q:VK) (E:XK),Room k A2->Env0 P w K mg base A2 outer2 s2 H2->Un (frs outer) [] H H2 s.heap s2.heap->Ext ρ H ρ2 H2->J mg ρ2 M2 H2->
  Go mg E (Cv mg) Q ρ2 H2 th M2->codeAny (model P w) A2 (.call (.ref g) ⟨[],[]⟩) (CR (bJ P w) outer2 P w H2 s2 Q E) s2
def Ku(i:Nat)(g:Addr)(ρ₀:Rh)(H₀:Hp):L2.St->Rh->Hp->Prop:=λσ ρ H=>σ[i]?=some (some (.ref g))/\Ext ρ₀ H₀ ρ H
abbrev AT:=L2.St->Rh->Hp->Prop
def tA(An:AT)(mg:Str->Option Value)(E:XK)(f:ao->DM D):TE:=λσ H Q=>∃ρ δ M,An σ ρ H/\Ev mg ρ H σ δ/\J mg ρ M H/\Go mg E (Cv mg) Q ρ H (f δ) M
def Jc(An:AT)(mg:Str->Option Value)(E:XK)(f:ao->DM Fl):TS:=λD σ H=>∃ρ δ M,An σ ρ H/\Ev mg ρ H σ δ/\J mg ρ M H/\bK mg E D ρ H (f δ) M
structure AE(X:Cx)(E:XK)(An:AT)(e:Expr)(f:ao->DM D):Prop where
 h:PE X e (tA An X.mg E f)
structure AS(X:Cx)(E:XK)(An:AT)(st:Stmt)(f:ao->DM Fl):Prop where
 h:PS X st (Jc An X.mg E f)
structure ASs(X:Cx)(E:XK)(An:AT)(st:List Stmt)(f:ao->DM Fl):Prop where
 h:PSs X st (Jc An X.mg E f)
section
variable{X:Cx}{E:XK}{An:AT}{e:Expr}{fe:ao->DM D}{pos:Pos}{st:Stmt}{rest:List Stmt}{f g:ao->DM Fl}
def GZ{k i:Nat}{y:Str}{p:Pos}{g:Addr}{th:DM D}{ρ₀:Rh}(hr:Room k X.A)(hx:Passes (bJ X.prog X.w) X E)(hT:ThD X.prog X.w X.K X.mg X.base k X.outer X.s₀ X.H₀ ρ₀ g th)(hex:X.ex=[]:=by rfl)(hN:X.N[i]?=some y:=by rfl)
  (hv:Vis X.env.scope y:=by exact Or.inl rfl) (hd:(y==("__debug__":Str))=false:=by decide) (hcd:(y==("__classdict__":Str))=false:=by decide) :
  AE X E (Ku i g ρ₀ X.H₀) (.Call (.Name y p) [] [] pos) (λz=>th):=⟨by
 intro Xe s σ H Q I h;obtain⟨ρ,δ,M,⟨hσ,ex⟩,ev,j,go⟩:=h;refine Vf ?_;refine thn (pe_var hN hv hd hcd Xe s σ H (λv H1=>v=.ref g/\H1=H) I ⟨.ref g,hσ,rfl,rfl⟩) λu s1 h1=>?_
 obtain⟨v,H1,I1,r,rfl,rfl⟩:=h1;obtain rfl:u=Value.ref g:=r;have un:Un (frs X.outer) [] X.H₀ H1 X.s₀.heap s1.heap:=by have:=I1.base;rw[hex]at this;exact this
 refine PySem.W.callWith_F0 (hT.fn s1 H1 un I1.hok) ?_;refine Vo (Vj (hT.run X.A X.stack s1 H1 ρ M Q E hr I1.env0 un ex j go) λr s' hq=>?_)
 cases r with
 |error e=>exact hx Xe σ H1 s1 e s' I1 hq
 |ok fl=>
   cases fl with
   |ret u=>exact I1.after hq
   |next=>exact False.elim hq
   |brk=>exact False.elim hq
   |cont=>exact False.elim hq⟩
def KR(he:AE X E An e fe):AS X E An (.Return (some e) pos) (λδ=>fe δ>>=λd=>pure (.rt d)):=⟨PS.mono (L2.ps_ret he.h) λD σ H h=>by obtain⟨ρ,δ,M,an,ev,j,g1⟩:=h;exact⟨ρ,δ,M,an,ev,j,g1.bind λρ1 H1 M1 v d e1 j1 c1 g2=>g2.pure ρ1 H1 v .refl j1 c1⟩⟩
def Ay(h:AS X E An st f):ASs X E An [st] f:=⟨pss_one h.h⟩
end
set_option tactic.hygienic true in
def KY(nl:Nat){ns:List Str}{fb:ao->DM Fl}{fh:Str->ao->DM Fl}{fy:Addr->Str->ao->DM Fl}{i:Nat}{body suite:List Stmt}(T:XTab X.K X.mg ns F)(hcalm:X.calm=true)(hcells:X.env.cells=[])(hex:X.ex=[])
  (hst:X.stack=X.env::X.outer) (hfr:X.env.frame=some X.env.locals) (hN:X.N.Nodup) (hi:X.N[i]?=some n) (hk:X.env.kindOf n=some .local) (hm:X.mg x=some (.ref F))
  (hb:∀Xe Eh,ASs (X.tryC Xe Eh) Eh An body fb) (hs:∀c C y oe,c∈ns->X.mg c=some (.ref C)->oe.cls=.ref C->XAt X.K C->DSs (X.sui y oe) E0 (b₀::suite) (fy y c))
  (hy:∀y c M r,fh c ((List.replicate nl none).set i (some (.exn 0))) M=some r->fy y c ((List.replicate nl none).set i (some (.exn y))) M=some r)
  (hnl:X.N.length=nl:=by rfl) (hg:Gl X x:=by rfl) (hd:(x==("__debug__":Str))=false:=by decide) :
  AS X E An (.Try body [.ExceptHandler (some (.Name x np)) (some n) (b₀::suite) p1] [] [] pos) (rm ns nl i fb fh):=⟨by
 subst hnl;intro Xe s σ H D I h;obtain⟨ρ,δ,M,an,ev,j,g1⟩:=h;let Eh:XK:=λC' o H'=>∃c C ρ' M' r,c∈ns/\C'=.ref C/\o=none/\X.mg c=some (.ref C)/\J X.mg ρ' M' H'/\(dM (fh c ((List.replicate X.N.length none).set i (some (.exn 0))))>>=HB i) M'=some r/\rG X.mg ρ' H' D E r
 have key:Jc An X.mg Eh fb D σ H:=by
  obtain⟨r,e,p⟩:=g1;unfold rm at e;split at e
  ·rename_i c M' em;split at e;rotate_left
   ·cases e
   rename_i hc;refine⟨ρ,δ,M,an,ev,j,_,em,λρ' H' C x' j' m=>⟨c,C,ρ',M',r,Vs.mp hc,rfl,rfl,m,j',e,p.mono x'⟩⟩
  ·rename_i em;refine⟨ρ,δ,M,an,ev,j,r,e,?_⟩;obtain⟨r,M'⟩:=r;cases r with
   |ok a=>cases a<;>exact p
   |exc c=>exact absurd e (em c M')
 refine L2.NZ (Eh:=Eh) (tb:=Jc An X.mg Eh fb) (th:=λy oe D σ H=>∃c C,c∈ns/\X.mg c=some (.ref C)/\oe.cls=.ref C/\XAt X.K C/\tS X.mg E0 (fy y c) D σ H) hcalm hcells hex hst hfr hN hi hk hm (λXe=>(hb Xe Eh).h) (λy oe pins' s' σ' H' D' I' q=>?_) hg hd Xe s σ H D I ⟨key,?_⟩
 ·obtain⟨c,C,hc,m,ho,xa,q⟩:=q;exact (hs c C y oe hc m ho xa).h pins' s' σ' H' D' I' q
 ·rintro y oe C' H1 hcl _ ⟨c,C,ρ',M',r,hc,rfl,_,m,j',e,p⟩;obtain⟨C2,xc,xa,ca⟩:=T.cls c hc;have:C2=C:=by have:=xc.at_;rw[m]at this;cases this;rfl
  subst this;refine⟨⟨C2,rfl,ca⟩,c,C2,hc,m,hcl,xa,ρ',(List.replicate X.N.length none).set i (some (.exn y)),M',?_,j',?_⟩
  ·refine ⟨by simp,λk d q=>?_⟩
   by_cases hk':k=i
   ·subst hk';have hl:k<(List.replicate X.N.length (none:Option L3.D)).length:=by have:=(S5.mp q).1;rw[Ur]at this;exact this
    rw[Th hl]at q;cases q;refine⟨.ref y,Th ?_,.exn y⟩;rw[Uv]at hl ⊢;exact hl
   ·rw[Tc (λz=>hk' z.symm),UJ]at q
    split at q<;>cases q
  ·have e:DM.bind _ _ M'=some r:=e;unfold DM.bind at e;split at e
   ·cases e
   ·rename_i em;obtain⟨_,_,_,z⟩:=vh em;cases z
   ·rename_i a M'' em0;obtain⟨a',M3,em,z⟩:=vh em0;cases z;refine⟨_,hy y c _ _ em,?_⟩;cases a with
    |nx δ2=>cases e;exact λρ2 H2 σ2 a1 a2 a3=>p ρ2 H2 (σ2.set i none) a1 a2 a3.forget
    |bk δ2=>cases e;exact λρ2 H2 σ2 a1 a2 a3=>p ρ2 H2 (σ2.set i none) a1 a2 a3.forget
    |ct δ2=>cases e;exact λρ2 H2 σ2 a1 a2 a3=>p ρ2 H2 (σ2.set i none) a1 a2 a3.forget
    |rt d=>cases e;exact λρ2 H2 v a1 a2 a3=>p ρ2 H2 v a1 a2 a3⟩
structure HrdD(P:Program)(w:World)(K:PySem.W.Frag)(mg:Str->Option Value)(base:Heap)(k:Nat)(x:Str)(Fh:DM D->DM D):Prop where
 ex:∃f,mg x=some (.ref f)/\PySem.W.keepIn K (.ref f)=true/\∀(A:Around) (outer:List Env) (s:Shared) (H:Hp) (ρ:Rh) (M:Mo) (g:Addr) (th:DM D) (Q:VK) (E:XK),Room (k+1) A->Env0 P w K mg base A outer s H->
  ThD P w K mg base k outer s H ρ g th->J mg ρ M H->Go mg E (Cv mg) Q ρ H (Fh th) M->codeAny (model P w) A (.call (.ref f) ⟨[.ref g],[]⟩) (CR (bJ P w) outer P w H s Q E) s
def xQ(n:Nat)(fb:DM D->ao->DM Fl)(th:DM D):DM D:=fb th (List.replicate n none)>>=λr=>match r with
 |.nx _=>pure .non
 |.rt d=>pure d
 |_=>stuck
section
variable{P:Program}{w:World}{K:PySem.W.Frag}{mg:Str->Option Value}{base:Heap}{k:Nat}{x y:Str}{N:List Str}{st:Stmt}
set_option tactic.hygienic true in
def RK(T:DefAt K mg x st)(S:FnScope N [y] (defScope st))
  (hbody:∀{f cdv A outer s H E ρ g th},Room k (A.deeper (envOfC x (defScope st) s.heap.objs.size f cdv))->ThD P w K mg base k outer s H ρ g th->
    ASs (b7 P w K mg base N x (defScope st) f cdv A outer s H E) E (Ku 0 g ρ H) (defBody st) (fb th))
  (hb:∀(kV doc pm:Value) (an:Option Addr) (cdv ct u:Value),bindArgs (PySem.W.fnOf x x (defArgs st) (defBody st) (defScope st) .none kV doc pm an cdv ct) ⟨[u],[]⟩=pure ([y].zip [u]):=by intros;rfl):HrdD P w K mg base k x (xQ N.length fb):=by
 obtain⟨f,fd,F,m⟩:=T.ex;refine⟨f,m,F.kp,λA outer s H ρ M g th Q E hr e0 hth j go=>?_⟩
 have hN:1<=N.length:=by have:=congrArg List.length S.pre;rw[Vb]at this;simp at this;lia
 refine J8 (us:=[.ref g]) (vs:=[.ref g]) F S e0 hr (λz z z z z z=>hb _ _ _ _ _ _ _) rfl (.cons rfl .nil) λcdv hr'=>⟨_,(hbody hr' hth).h,ρ,List.replicate N.length none,M,⟨rfl,.refl⟩,⟨?_,λi d q=>?_⟩,j,?_⟩
 ·unfold L2.start;simp;lia
 ·rw[UJ]at q;split at q<;>cases q
 ·obtain⟨r,e,p⟩:=go;have e:DM.bind _ _ M=some r:=e;unfold DM.bind at e;split at e
  ·cases e
  ·rename_i c M' em;cases e;exact⟨_,em,p⟩
  ·rename_i a M' em;refine⟨_,em,?_⟩;cases a with
   |nx δ'=>cases e;exact λρ1 H1 b x j c=>p ρ1 H1 .non x j .non
   |rt d=>cases e;exact λρ1 H1 b x j c=>p ρ1 H1 b x j c
   |bk δ'=>cases e
   |ct δ'=>cases e
end
structure LamC(X:Cx)(scope:Scope)(cl:List (Str×Addr))(js:List Nat)(fr:List Str):Prop where
 ok:LamOk scope cl fr
 clos:closureFor scope X.env=pure cl
 sub:∀y c,cl.lookup y=some c->X.env.cells.lookup y=some c
 len:js.length=fr.length
 fre:∀(k j:Nat) (y:Str),js[k]?=some j->fr[k]?=some y->X.N[j]?=some y/\X.env.scope.names.lookup y=some .cell/\∃c,cl.lookup y=some c
def G9{X:Cx}{scope:Scope}{cl:List (Str×Addr)}{js:List Nat}{fr:List Str}{Xe:List (Addr×Obj)}{σ:L2.St}{H H2:Hp}{s s2:Shared}(T:LamC X scope cl js fr)(hfn:∀ x,X.fn x=true)(I:Inv X Xe σ H s)(un:Un (frs X.stack) [] H H2 s.heap s2.heap):CellsAt cl fr (pick js σ) H2 s2.heap:=by
 have out:∀y c,cl.lookup y=some c->c∉frs X.stack:=λy c e hm=>by
  rcases T3.mp (I.stkSub c hm) with z | z
  ·exact I.cne y c (T.sub _ _ e) z
  ·obtain⟨_,o,ho,_⟩:=I.ok.funs.mem z;exact absurd (S8 ho) (U3.mpr (I.ok.cab y c (hfn y) (T.sub _ _ e)))
 have kp:∀y c v,cl.lookup y=some c->s.heap.IsCell c v->s2.heap.IsCell c v:=λy c v e ⟨o,ho,hd⟩=>⟨o,un.keep c o ho (I.freeC y c (T.sub _ _ e)) (out y c e) (by simp),hd⟩
 refine⟨λx y c h1 h2=>I.ok.inj x y c (T.sub _ _ h1) (T.sub _ _ h2),λx c e=>?_,λx c e=>?_,λi x v h1 h2=>?_,?_⟩
 ·obtain⟨v,z⟩:=I.cell x c (T.sub _ _ e);exact⟨v,kp x c v e z⟩
 ·obtain⟨v,o,ho,_⟩:=I.cell x c (T.sub _ _ e);exact un.free c o ho (I.freeC x c (T.sub _ _ e)) (by simp)
 ·unfold pick at h2;rw[TV]at h2;cases hj:js[i]? with
  |none=>rw[hj]at h2;cases h2
  | some j=>
    rw[hj]at h2;have h2s:(σ[j]?).getD none=some v:=Tf h2;have h2':σ[j]?=some (some v):=by
     cases z:σ[j]? with
     |none=>rw[z]at h2s;cases h2s
     |some w=>rw[z]at h2s;exact congrArg some h2s
    obtain⟨g1,g2,c,g3⟩:=T.fre i j x hj h1;obtain⟨mX,_,hl⟩:=I.loc;obtain⟨u,r,q⟩:=hl j x v g1 h2' (.inr (.inl g2));refine⟨u,c,r,g3,kp x c _ g3 ?_⟩;rcases q with ⟨q,_⟩ | ⟨_,c2,e2,z⟩
    ·have:X.env.scope.names.lookup x=some .local:=q;rw[g2]at this;cases this
    ·rw[T.sub _ _ g3]at e2;cases e2;exact z
 ·unfold pick;rw[Te];exact T.len
def Lf(js:List Nat)(fr:List Str)(Hd:HrdD X.prog X.w X.K X.mg X.base (k + 1) fx Fh)(hr:Room j X.A)(hx:Passes (bJ X.prog X.w) X E)
  (T:TabD X.mg X.base c P) (hcd:X.env.code=.ref c) (hP:∃ps,X.H₀ P=some (.tbl ps))
  (hbody:∀{qual g cd A outer s H E},Room k (A.deeper (PySem.W.envX qual scope s.heap.objs.size g cd cl))->DE (pQ X.prog X.w X.K X.mg X.base fr qual scope g cd cl A outer s H E) E body tb) (L:LamC X scope cl js fr) (hjk:k+2<=j:=by decide) (hfn:∀x,X.fn x=true:=by intros;rfl)
  (hdef:defaultsOf params X.env=([],[]):=by rfl) (hbind:∀qual pm cv ctv,bindArgs (PySem.W.kla_fn "<lambda>" qual params body scope cl pm cv ctv) ⟨[],[]⟩=pure []:=by intros;rfl) (hg:Gl X fx:=by rfl) (hdb:(fx==("__debug__":Str))=false:=by decide) :
  DE X E (.Call (.Name fx p) [.Lambda params body scope lpos] [] pos) (λδ=>Fh (tb (dm js δ))):=⟨by
 obtain⟨f,hm,hkp,run⟩:=Hd.ex;intro Xe s σ H Q I h;obtain⟨ρ,δ,M,ev,jj,go⟩:=h;refine Vf (ld_glob I hg hm ?_ hdb);obtain⟨ps0,hP0⟩:=hP;obtain⟨more,hPt⟩:=I.base.tbls P ps0 hP0;have pl:PE X (.Lambda params body scope lpos) (Om P params body scope cl):=NT hcd T.hd T.ne T.bl L.clos hdef;refine VH (h₀:=X.base) I.ok.mod.kin hkp (thn (zL pl pa_nil rfl pos Xe s σ H (λvs H1=>∃g,vs=[.ref g]/\H g=none/\Same H H1/\rF H1 g params body scope cl) I ⟨⟨_,hPt⟩,λg H1 a b c=>⟨g,rfl,a,b,c⟩⟩) λus s1 h1=>?_) (bU rfl) rfl
 obtain⟨vs,H1,I1,r,g,rfl,hgn,S,La⟩:=h1;refine⟨I1.kIn,?_⟩;obtain⟨u,rfl,ru⟩:∃u,us=[u]/\RelV (.ref g) u:=by
  cases r with
  |cons r1 r2=>cases r2;exact⟨_,rfl,r1⟩
 obtain rfl:u=Value.ref g:=ru;have x1:Ext ρ H ρ H1:=.same S;have go1:Go X.mg E (Cv X.mg) Q ρ H1 (Fh (tb (dm js δ))) M:=let ⟨r,e,p⟩:=go;⟨r,e,p.mono x1⟩
 have th:ThD X.prog X.w X.K X.mg X.base (k+1) X.stack s1 H1 ρ g (tb (dm js δ)):=by
  refine⟨λs2 H2 un ok=>?_,λA2 outer2 s2 H2 ρ2 M2 Q2 E2 hr2 e2 un ex2 j2 Bj=>?_⟩
  ·obtain⟨qual,pm,cv,ctv,hgl,_⟩:=La;exact⟨_,_,_,_,(ok g _ (un.frzs g _ _ hgl)).1⟩
  ·refine Ka L.ok e2 hr2 (La.mono λb o e=>un.frzs b o _ e) (G9 L hfn I1 un) hbind λqual cd hr3=>⟨_,(hbody hr3).h,ρ2,dm js δ,M2,?_,j2,Bj⟩
   have:=Bh ((ev.mono x1).mono ex2) 0 js;show Ev X.mg ρ2 H2 (pick js σ) (dm js δ);simpa[b8] using this
 refine Vo (Vj (run X.A X.stack s1 H1 ρ M g _ Q E (hr.mono hjk) I1.env0 th (jj.same S) go1) λr s' hq=>?_)
 cases r with
 |error e=>exact hx Xe σ H1 s1 e s' I1 hq
 |ok fl=>
   cases fl with
   |ret u=>exact I1.after hq
   |next=>exact False.elim hq
   |brk=>exact False.elim hq
   |cont=>exact False.elim hq⟩
open PySem PySem.Spec L2
open PyProof.Rows hiding St
end L3
namespace L2
open PySem PySem.Spec PyProof.Rows LS
end L2
namespace L3
open PySem PySem.Spec L2
open PyProof.Rows hiding St
open PySem PySem.Spec L2
open PyProof.Rows hiding St
end L3
namespace L3
open PySem PySem.Spec L2
open PyProof.Rows hiding St
end L3
namespace L3
open PySem PySem.Spec PyProof.Rows L2
end L3
namespace L3
open PySem PySem.Spec L2 LA LB LS
open PyProof.Rows hiding St
end L3
namespace L3
open PySem PySem.Spec L2
open PyProof.Rows hiding St
variable{X:Cx}{E:XK}
end L3
namespace L3
open PySem PySem.Spec PyProof.Rows L2
end L3
namespace L3
open PySem PySem.Spec L2
open PyProof.Rows hiding St
end L3
namespace L3
open PySem PySem.Spec L2
end L3
namespace L2
open PySem PySem.Spec PyProof.Rows
end L2
namespace L3
open PySem PySem.Spec L2
end L3
namespace L3
open PySem PySem.Spec L2
open PyProof.Rows hiding St
def tY:DE X E e (λz=>stuck):=⟨by intro Xe s σ H D I h;obtain⟨ρ,δ,M,ev,j,g1⟩:=h;obtain⟨r,e,_⟩:=g1;cases e⟩
abbrev Ii(P:Program)(w:World)(K:PySem.W.Frag)(mg:Str->Option Value)(base:Heap)(N:List Str)(qual:Str)(scope:Scope)(f:Addr)(cd:Value)(A:Around)(outer:List Env)(s:Shared)(H:Hp):Cx:=
 { b7 P w K mg base N qual scope f cd A outer s H E0 with calm:=false,xe:=λ_ _=>False }
section
variable{P:Program}{w:World}{K:PySem.W.Frag}{mg:Str->Option Value}{base:Heap}{A:Around}{outer:List Env}{s:Shared}{H:Hp}{k:Nat}
def Inv.toN(I:Inv (b7 P w K mg base N qual scope f cd A outer s H E) Xe σ H1 s1):Inv (Ii P w K mg base N qual scope f cd (A.mark y) outer s H) Xe σ H1 s1:=
 ⟨⟨I.ok.mod,I.ok.kind,I.ok.glob,I.ok.blt,I.ok.above,I.ok.inj,I.ok.has,I.ok.cab,λz=>(by cases z),I.ok.frames,I.ok.stk,I.ok.exf,I.ok.bs,I.ok.bsz,I.ok.noex,I.ok.exfs,I.ok.funs,I.ok.frf⟩,I.os,I.bare,I.base,I.loc,I.cell,I.free,I.freeC,I.pin,I.hok,I.len⟩
def J7{x:Str}{st:Stmt}{f:Addr}{fd:FuncData}{N ps:List Str}{us:List Value}{vs:List V}{y:Option Value}{Q:VK}{E:XK}(F:Fun K x x st f fd)(S:FnScope N ps (defScope st))(e0:Env0 P w K mg base (A.mark y) outer s H)(hr:Room (k + 1) A)
  (hb:∀(kV doc pm:Value) (an:Option Addr) (cdv ct:Value),bindArgs (PySem.W.fnOf x x (defArgs st) (defBody st) (defScope st) .none kV doc pm an cdv ct) ⟨us,[]⟩=pure (ps.zip us)) (hl:vs.length=ps.length) (r:Vals vs us)
  (hbody:∀cdv,Room k (A.deeper (envOfC x (defScope st) s.heap.objs.size f cdv))->∃t,PSs (Ii P w K mg base N x (defScope st) f cdv (A.mark y) outer s H) (defBody st) t/\t { nx:=λz H'=>Q .non H',rt:=Q } (L2.start N vs) H) :
  codeAny (model P w) (A.mark y) (.call (.ref f) ⟨us,[]⟩) (CR (bJ P w) outer P w H s Q E) s:=by
 obtain⟨oc,od,kV,doc,pm,an,cdv,ct,osl,rfl,lk,hcd⟩:=F.ex;have KX:K.In s.heap:=e0.mod.kin.keeps λb o e=>(e0.bs b o e).1
 have lim:s.heap.NoLimit:=e0.mod.nolimit.keeps λb o e=>(e0.bs b o e).1
 have hkind:∀y∈ps.zip us,(defScope st).names.lookup y.1=some .local\/((defScope st).names.lookup y.1=some .cell/\((cellsFrom (s.heap.objs.size+1) (defScope st).names []).lookup y.1).isSome=true):=λ⟨n,v⟩ hy=>by
  rcases S.par n (Wd hy).1 with q | q
  ·exact .inl q
  ·exact .inr ⟨q,VJ _ _ _ (.inl q)⟩
 refine Wq hr.depth (KX _ _ lk) rfl S.co S.gen rfl (PySem.W.codeRec_of KX hcd) ?_;rw[hb];refine S6 (V5 S.kind hkind λenv he s1 x=>?_)
 subst he;refine⟨lim.keeps x.toInCall.keep,codeAny_func ?_⟩;obtain⟨t,ht,hq⟩:=hbody cdv (hr.deeper _);have e1:Env0 P w K mg base A outer s H:=⟨e0.frames,e0.mod,e0.bs,e0.bsz,e0.funs,e0.frf,e0.hok,e0.bare⟩;have I:=inv_start (CX:=bJ P w) (E:=E) S hr.hd e1 hl r x;refine Tp (ht [] s1 (L2.start N vs) H _ (Inv.toN I) hq) (λfl s' hs=>?_) λe s' hs=>hs.elim
 cases fl with
 |ret u=>obtain⟨v,σ',H',J,rv,q⟩:=hs;exact⟨v,H',J.os,J.bare,J.base,J.hok,rv,q⟩
 |next=>obtain⟨σ',H',J,q⟩:=hs;exact⟨V.non,H',J.os,J.bare,J.base,J.hok,(rfl:RelV .non Value.none),q⟩
 |brk=>obtain⟨_,_,_,q⟩:=hs;exact False.elim q
 |cont=>obtain⟨_,_,_,q⟩:=hs;exact False.elim q
end
abbrev wA:List String:=["LookupError", "TypeError", "ArithmeticError", "RuntimeError"]
structure FlK(K:PySem.W.Frag)(mg:Str->Option Value)(ns:List Str)(c:Str)(C:Addr):Prop where
 xa:XAt K C
 kit:∀k∈ns,∀D,mg k=some (.ref D)->PySem.W.kitOne K (.ref C) (.ref D)=some (c==k)
 val:PySem.W.kitOne K (.ref C) (.type "ValueError")=some true
 oth:PySem.W.kitAny K (.ref C) (wA.map Value.type)=some false
def uT:D->Option Addr
 |.exn a=>some a
 |_=>none
def Lr(h:uT d=some y):d=.exn y:=by
 unfold uT at h;split at h
 ·cases h;rfl
 ·cases h
def Jh:D->Option String
 |.ty t=>some t
 |_=>none
def Ov(h:Jh d=some t):d=.ty t:=by
 unfold Jh at h;split at h
 ·cases h;rfl
 ·cases h
def Mh(ns:List Str)(c:Str):D->Option D
 |.cls k=>if ns.contains k then some (.bl (c==k)) else none
 |.ty t=>if t = "ValueError" then some (.bl true) else none
 |.tup l=>if l.map Jh=wA.map some then some (.bl false) else none
 |_=>none
def lu(ns:List Str)(y:Addr)(c:Str):List D->Mo->Option D
 |[d,k],_=>if uT d=some y then Mh ns c k else none
 |_,_=>none
theorem GF:∀ {l:List D}{ts:List String},l.map Jh=ts.map some->l=ts.map D.ty
 |[],[],_=>rfl
 |[],_::_,h=>by cases h
 |_::_,[],h=>by cases h
 |d::l,t::ts,h=>by rw[Us,Us]at h;rw[Ov (List.cons.inj h).1,GF (List.cons.inj h).2];rfl
theorem Bc:∀{ts:List String}{xs:List V},Cvs mg ρ H xs (ts.map D.ty)->xs=ts.map V.ty
 |[],_,.nil=>rfl
 |_::_,_,.cons a t=>by cases a;rw[Bc t];rfl
theorem Ag:∀{ts:List String}{us:List Value},Vals (ts.map V.ty) us->us=ts.map Value.type
 |[],_,.nil=>rfl
 |_::_,_,.cons a t=>by cases a;rw[Ag t];rfl
set_option tactic.hygienic true in
def bA(T:FlK X.K X.mg ns c C)(ho:oe.cls=.ref C)(h0:X.s₀.heap.get? y=some oe)(hn:X.H₀ y=none)(hf:y∉X.fs)(hex:X.ex=[]:=by rfl):CallD X E (.builtin "isinstance") (λl=>rd (lu ns y c l)):=by
 intro Xe s σ H vs us Q I rs q;obtain⟨ρ,M,ds,j,cs,go⟩:=q;obtain⟨d,e,p⟩:=go.rd;have hh:s.heap.get? y=some oe:=I.base.keep y oe h0 hn hf (by rw[hex];simp)
 unfold lu at e;split at e;rotate_left
 ·cases e
 split at e;rotate_left
 ·cases e
 rename_i hk;obtain rfl:=Lr hk;obtain⟨v,w,rfl,k1,k2⟩:=cs.two;obtain⟨u,w',rfl,r1,r2⟩:=vals2 rs;cases k1;cases r1;have Z:=Hr (x:=y) T.xa ho;have fin:∀b,d=.bl b->∀tk,EP X Xe σ Q (.bool b) { s with toks:=tk }:=λb e tk=>⟨.bl b,H,I.tok _,rfl,p ρ H _ .refl j (e ▸ .bl b)⟩
 unfold Mh at e;split at e
 ·split at e
  ·rename_i hm;cases k2 with | cls h=>
   cases r2;exact Ut Z I.kIn hh (T.kit _ (Vs.mp hm) _ h) (λz=>nomatch z) (fin _ (Tf e).symm)
  ·cases e
 ·split at e
  ·rename_i hm;subst hm;cases k2;cases r2;exact Ut Z I.kIn hh T.val (λz=>nomatch z) (fin _ (Tf e).symm)
  ·cases e
 ·split at e
  ·rename_i hm;obtain rfl:=GF hm;cases k2 with | tup hna ha cc=>
   cases r2;rw[Bc cc]at ha;obtain⟨_,its,rv,o,ho',hc',n,hd'⟩:=I.hok _ _ ha;rw[Ag rv]at hd';obtain⟨o1,o2,o3,o4⟩:=o;cases hc';cases hd';exact PySem.W.kia_tup Z I.kIn hh ho' T.oth (λz=>nomatch z) (fin _ (Tf e).symm)
  ·cases e
 ·cases e
structure FlgD(P:Program)(w:World)(K:PySem.W.Frag)(mg:Str->Option Value)(base:Heap)(k:Nat)(x:Str)(rs:List Str)(W:Str->D):Prop where
 ex:∃f,mg x=some (.ref f)/\PySem.W.keepIn K (.ref f)=true/\∀(A:Around) (outer:List Env) (s:Shared) (H:Hp) (ρ:Rh) (M:Mo) (y:Addr) (oe:Obj) (c:Str) (C:Addr) (Q:VK) (E:XK),Room (k+1) A->Env0 P w K mg base (A.mark (some (.ref y))) outer s H->
  s.heap.get? y=some oe->H y=none->y∉frs outer->c∈rs->mg c=some (.ref C)->oe.cls=.ref C->J mg ρ M H->Go mg E (Cv mg) Q ρ H (pure (W c)) M->
  codeAny (model P w) (A.mark (some (.ref y))) (.call (.ref f) ⟨[.ref y],[]⟩) (CR (bJ P w) outer P w H s Q E) s
section
variable{P:Program}{w:World}{K:PySem.W.Frag}{mg:Str->Option Value}{base:Heap}{k:Nat}{x p:Str}{N:List Str}{st:Stmt}{rs ns:List Str}{W:Str->D}
def RJ{fb:Addr->Str->ao->DM Fl}(T:DefAt K mg x st)(S:FnScope N [p] (defScope st))(hk:∀ c∈rs,∀ C,mg c=some (.ref C)->FlK K mg ns c C)
  (hF:∀y c,c∈rs->fb y c (aP N.length [.exn y])=pure (.rt (W c)))
  (hbody:∀{f:Addr}{cdv:Value}{A:Around}{outer:List Env}{s:Shared}{H:Hp}{y:Addr}{oe:Obj}{c:Str}{C:Addr},Room k (A.deeper (envOfC x (defScope st) s.heap.objs.size f cdv))->FlK K mg ns c C->oe.cls=.ref C->s.heap.get? y=some oe->H y=none->y∉frs outer->
    DSs (Ii P w K mg base N x (defScope st) f cdv (A.mark (some (.ref y))) outer s H) E0 (defBody st) (fb y c))
  (hb:∀(kV doc pm:Value) (an:Option Addr) (cdv ct u:Value),bindArgs (PySem.W.fnOf x x (defArgs st) (defBody st) (defScope st) .none kV doc pm an cdv ct) ⟨[u],[]⟩=pure ([p].zip [u]):=by intros;rfl):FlgD P w K mg base k x rs W:=by
 obtain⟨f,fd,F,m⟩:=T.ex;refine⟨f,m,F.kp,λA outer s H ρ M y oe c C Q E hr e0 hy hn hf hc hm ho j go=>?_⟩
 refine J7 (us:=[.ref y]) (vs:=[.ref y]) F S e0 hr (λz z z z z z=>hb _ _ _ _ _ _ _) rfl (.cons rfl .nil) λcdv hr'=>⟨_,(hbody (c:=c) hr' (hk c hc C hm) ho hy hn hf).h,ρ,aP N.length [.exn y],M,jc (.cons (.exn y) .nil),j,?_⟩
 obtain⟨r,e,q⟩:=go;cases e;exact⟨(.ok (.rt (W c)),M),by rw[hF y c hc];rfl,λρ1 H1 v x j c=>q ρ1 H1 v x j c⟩
end
set_option tactic.hygienic true in
def Jz(hr:Room k X.A)(Fg:FlgD X.prog X.w X.K X.mg X.base j x rs W)(hc:c∈rs)(hm:X.mg c=some (.ref C))(ho:oe.cls=.ref C)(hjk:j + 1<=k:=by decide)(hN:X.N[i]?=some n:=by rfl)
  (hv:Vis X.env.scope n:=by exact Or.inl rfl) (hd:(n==("__debug__":Str))=false:=by decide) (hcd:(n==("__classdict__":Str))=false:=by decide) (hg:Gl X x:=by rfl) (hdb:(x==("__debug__":Str))=false:=by decide) :
  DSs (X.sui y oe) E0 [.Return (some (.Call (.Name x p) [.Name n p2] [] pos)) pos2] (λδ=>ug i δ>>=λd=>match d with
   |.exn a=>if a==y then pure (.rt (W c)) else stuck
   |_=>stuck):=by
 refine aD ⟨PS.mono (L2.ps_ret (te:=λσ H Q=>∃ρ M,σ[i]?=some (some (.ref y))/\J X.mg ρ M H/\Go X.mg E0 (Cv X.mg) Q ρ H (pure (W c)) M) ?_) λD σ H h=>?_⟩
 ·obtain ⟨f,hf,hkp,run⟩:=Fg.ex;intro Xe s σ H Q I h;obtain⟨ρ,M,hσ,j,go⟩:=h;refine Vf (ld_glob I hg hf ?_ hdb);refine VH (h₀:=X.base) I.ok.mod.kin hkp (thn (zL (X:=X.sui y oe) (pe_var hN hv hd hcd) pa_nil rfl pos Xe s σ H (λvs H1=>vs=[.ref y]/\H1=H) I ⟨.ref y,hσ,rfl,rfl⟩) λus s1 h1=>?_) (bU rfl) rfl
  obtain⟨vs,H1,I1,r,rfl,rfl⟩:=h1;refine⟨I1.kIn,?_⟩;obtain⟨u,rfl,ru⟩:∃u,us=[u]/\RelV (.ref y) u:=by
   cases r with
   |cons r1 r2=>cases r2;exact⟨_,rfl,r1⟩
  obtain rfl:u=Value.ref y:=ru;obtain⟨e1,e2,e3,e4,_⟩:=I1.pin (y,oe) (Ud _ (TQ _ Ui));have hns:y∉frs X.stack:=λhm=>by
   rcases T3.mp (I1.stkSub y hm) with z | z
   ·exact e3 z
   ·exact e4 z
  refine Vo (Vj (run X.A X.stack s1 H1 ρ M y oe c C Q E0 (hr.mono hjk) I1.env0 e1 e2 hns hc hm ho j go) λr s' hq=>?_)
  cases r with
  |error e=>obtain⟨_,_,_,_,_,_,_,_,_,_,_,_,_,q⟩:=hq;exact q.elim
  |ok fl=>
    cases fl with
    |ret u=>exact I1.after hq
    |next=>exact False.elim hq
    |brk=>exact False.elim hq
    |cont=>exact False.elim hq
 ·obtain ⟨ρ,δ,M,ev,j,g1⟩:=h;obtain⟨r,e,q⟩:=g1;have e:DM.bind (ug i δ) _ M=some r:=e;rename_i e0;clear e0;unfold DM.bind at e;split at e
  ·cases e
  ·rename_i c' M' em;unfold ug at em;obtain⟨_,_,z⟩:=Ti.mp em;cases z
  ·rename_i a M' em;obtain⟨d,hd',z⟩:=Ti.mp em;cases z;have hδ:δ[i]?=some (some a):=by
    cases z:δ[i]? with
    |none=>rw[z]at hd';cases hd'
    |some o=>rw[z]at hd';cases o with
      |none=>cases hd'
      |some b=>cases hd';rfl
   obtain⟨v,hv',cv⟩:=ev.val i a hδ;dsimp only at e;split at e
   ·split at e
    ·rename_i a hay;obtain rfl:=VG.mp hay;have e':=Tf e;subst e';cases cv;exact⟨ρ,M,hv',j,_,rfl,λρ1 H1 v x j c=>q ρ1 H1 v x j c⟩
    ·cases e
   ·cases e
section
variable{X:Cx}{E:XK}{An:AT}{e:Expr}{fe:ao->DM D}{pos:Pos}
def Jl{x1}(ha:PE X a (tC (.str wd)))(he:AE X E An e fe)(h1:notStar a=true:=by rfl)(h2:notStar e=true:=by rfl):AE X E An (.Tuple [a,e] x1 pos) (λδ=>fe δ>>=λd=>pure (.tup [.str wd,d])):=
 ⟨PE.mono (L2.pe_tup (zL ha (zL he.h pa_nil h2) h1)) fun σ H Q h=>by obtain⟨ρ,δ,M,an,ev,j,g1⟩:=h;exact⟨ρ,δ,M,an,ev,j,g1.bind λρ1 H1 M1 v d e1 j1 c1 g2=>⟨by show 2<=sizeLine;decide,λp hp=>g2.pure ρ1 _ _ (.lay hp) (j1.lay _ hp) (.tup (j1.fresh hp) upd_same (Cvs.mono (.lay hp) (.cons (.str wd) (.cons c1 .nil))))⟩⟩⟩
end
structure DefT(P:Program)(w:World)(K:PySem.W.Frag)(mg:Str->Option Value)(base:Heap)(k:Nat)(x:Str)(ps:List Str)(Pt:Addr)(F:List D->DM D):Prop where
 h:DefC P w K mg base k x ps (λvs H Q E=>iU mg F vs H Q E/\∃qs,H Pt=some (.tbl qs))
def RL{P:Program}{w:World}{K:PySem.W.Frag}{mg:Str->Option Value}{base:Heap}{k:Nat}{x:Str}{N ps:List Str}{st:Stmt}{fb:ao->DM Fl}{Pt c:Addr}{h:Heap}(T:DefAt K mg x st)(S:FnScope N ps (defScope st))(X:K.In h)(G:h.Ns mainGlobals mg)(ht:PySem.W.tabIn K x=some (c,Pt))
  (hbody:∀{f cdv A outer s H E},(∃qs,H Pt=some (.tbl qs))->cdv=.ref c->Rm k A x st s f cdv->Ds P w K mg base N x st f cdv A outer s H E fb)
  (hb:∀(kV doc pm:Value) (an:Option Addr) (cdv ct:Value) (us:List Value),us.length=ps.length->bindArgs (PySem.W.fnOf x x (defArgs st) (defBody st) (defScope st) .none kV doc pm an cdv ct) ⟨us,[]⟩=pure (ps.zip us):=by intro _ _ _ _ _ _ us hl;first | (obtain⟨_,rfl⟩:=cM hl;rfl) | (obtain⟨_,_,rfl⟩:=dJ hl;rfl) | (obtain⟨_,_,_,rfl⟩:=qC hl;rfl) | (obtain⟨_,_,_,_,rfl⟩:=Cz hl;rfl)) :
  DefT P w K mg base (k+1) x ps Pt (aL ps.length N.length fb):=by
 obtain⟨f,fd,F,m⟩:=T.ex;have hc:=F.codeC X G m ht;have Fb:=F.binds hb;have Fk:=F.kp;obtain⟨oc,od,kV,doc,pm,an,cdv,ct,osl,rfl,lk,cd⟩:=F.ex;obtain rfl:cdv=.ref c:=hc;refine⟨f,_,fn_of lk cd S (λvs H Q E h=>?_) λA outer s H vs Q E hr h=>?_,Fb,Fk,m⟩
 ·obtain⟨⟨ρ,M,ds,c,j,g⟩,_⟩:=h;rw[c.len];exact (bK.aL g).1
 obtain⟨⟨ρ,M,ds,c,j,g⟩,ht⟩:=h;exact⟨_,(hbody ht rfl hr).h,ρ,_,M,jc c,j,(bK.aL g).2⟩
def PL(j:J mg ρ M H)(h:H a=some (HO.tbl qs)):a∉ρ.st:=λz=>by
 obtain⟨n,hn,e⟩:=Wx.mp z;have hm:n<M.length:=by rw[<-j.len];exact hn
 have c:=j.obj n a M[n] (by rw[Tg hn,e]) (Tg hm)
 cases hM:M[n] with
 |lst l=>rw[hM]at c;obtain⟨_,c,_⟩:=c;rw[h]at c;cases c
 |dic ks l=>rw[hM]at c;obtain⟨_,c,_⟩:=c;rw[h]at c;cases c
 |ins cc ns l=>rw[hM]at c;obtain⟨_,_,_,_,c,_⟩:=c;rw[h]at c;cases c
def kZ(D:DefT X.prog X.w X.K X.mg X.base j x ps Pt F)(hP:∃qs,X.H₀ Pt=some (.tbl qs))(hr:Room k X.A)(hx:Passes (bJ X.prog X.w) X E)(ha:DA X E (e::es) fs)(hjk:j<=k:=by decide)(hg:Gl X x:=by rfl)(hdb:(x==("__debug__":Str))=false:=by decide)
  (he:notStar e=true:=by rfl) (hpl:(backTo pos (starEach es X.env)).any (·.1)=false:=by rfl) :
  DE X E (.Call (.Name x p) (e::es) [] pos) (λδ=>fs δ>>=F):=⟨λXe s σ H Q I h=>by
 obtain⟨qs,hq⟩:=hP;obtain⟨more,hq⟩:=I.base.tbls Pt qs hq;refine xF D.h hr hx ha.h hjk hg hdb he hpl Xe s σ H Q I ?_;obtain⟨ρ,δ,M,ev,j,g1⟩:=h;refine⟨ρ,δ,M,ev,j,g1.bind λρ1 H1 M1 xs dxs e1 j1 c1 g2=>?_⟩
 rw[Ux];exact And.intro ⟨ρ1,M1,dxs,c1,j1,g2⟩ ⟨_,e1.keep Pt _ hq (PL j hq)⟩⟩
def sV(K:PySem.W.Frag)(C:Addr)(c:Str):List Str->Prop
 |[]=>True
 |x::xs=>(∃d,PySem.W.nsIn K mainGlobals x=some (some (.ref d))/\PySem.W.kitOne K (.ref C) (.ref d)=some (c==x))/\sV K C c xs
def aJ{K:PySem.W.Frag}{C d:Addr}{c x:Str}{xs:List Str}(q:Bool)(a:PySem.W.nsIn K mainGlobals x=some (some (.ref d)))(b:PySem.W.kitOne K (.ref C) (.ref d)=some q)(e:(c==x)=q)(t:sV K C c xs):sV K C c (x::xs):=⟨⟨d,a,b.trans (congrArg some e.symm)⟩,t⟩
theorem sV.at{K:PySem.W.Frag}{C:Addr}{c x:Str}:∀{ns:List Str},sV K C c ns->x∈ns->∃d,PySem.W.nsIn K mainGlobals x=some (some (.ref d))/\PySem.W.kitOne K (.ref C) (.ref d)=some (c==x)
 |_::_,h,.head _=>h.1
 |_::_,h,.tail _ m=>sV.at h.2 m
def yW{K:PySem.W.Frag}{mg:Str->Option Value}{h:Heap}{ns:List Str}{c:Str}{C:Addr}(X:K.In h)(G:h.Ns mainGlobals mg)(n:sV K C c ns)(xa:XAt K C)(v:PySem.W.kitOne K (.ref C) (.type "ValueError")=some true)(o:PySem.W.kitAny K (.ref C) (wA.map Value.type)=some false):FlK K mg ns c C:=
 ⟨xa,fun k hk D hD=>by obtain⟨d,e1,e2⟩:=n.at hk;have:=(Uo X G e1).symm.trans hD;cases this;exact e2,v,o⟩
def bW{ns:List Str}(h:∀x∈ns,∃C,X.mg x=some (.ref C))(hx:ns.contains x=true:=by decide +kernel)(hg:Gl X x:=by rfl)(hd:(x==("__debug__":Str))=false:=by decide):DE X E (.Name x pos) (λz=>pure (.cls x)):=by obtain⟨C,e⟩:=h x (Vs.mp hx);exact uO e hg hd
def QT{P:Program}{w:World}{K:PySem.W.Frag}{mg:Str->Option Value}{base:Heap}{k:Nat}{x:Str}{N ps:List Str}{st:Stmt}{fb:ao->DM Fl}{f:Addr}{fd:FuncData}{ts:List (Addr×Addr)}(F:Fun K x x st f fd)(S:FnScope N ps (defScope st))
  (hbody:∀(cdv:Value) (A:Around) (outer:List Env) (s:Shared) (H:Hp) (E:XK),(∀q∈ts,H q.2=some (.tbl #[]))->Room k (A.deeper (envOfC x (defScope st) s.heap.objs.size f cdv))->
    DSs (b7 P w K mg base N x (defScope st) f cdv A outer s H E) E (defBody st) fb):FnOk P w K mg base (bJ P w) (k+1) f fd ps (λvs H Q E=>iU mg (aL ps.length N.length fb) vs H Q E/\∀q∈ts,H q.2=some (.tbl #[])):=by
 obtain⟨oc,od,kV,doc,pm,an,cdv,ct,osl,rfl,lk,cd⟩:=F.ex;refine fn_of lk cd S (λvs H Q E h=>?_) λA outer s H vs Q E hr h=>?_
 ·obtain⟨⟨ρ,M,ds,c,j,g⟩,_⟩:=h;rw[c.len];exact (bK.aL g).1
 obtain⟨⟨ρ,M,ds,c,j,g⟩,ht⟩:=h;exact⟨_,(hbody cdv A outer s H E ht hr).h,ρ,_,M,jc c,j,(bK.aL g).2⟩
end L3
namespace L2
open PySem PySem.Spec PyProof.Rows
end L2
namespace L3
open PySem PySem.Spec L2
end L3
namespace L2
open PySem PySem.Spec PyProof.Rows
end L2
namespace L3
open PySem PySem.Spec L2
theorem Cvs.of:∀{vs:List V}{ds:List D},vs.length=ds.length->(∀(j:Nat) v d,vs[j]?=some v->ds[j]?=some d->Cv mg ρ H v d)->Cvs mg ρ H vs ds
 |[],[],_,_=>.nil
 |[],_::_,h,_=>by cases h
 |_::_,[],h,_=>by cases h
 |v::vs,d::ds,h,f=>.cons (f 0 v d rfl rfl) (Cvs.of (by simpa using h) λj v' d' e1 e2=>f (j+1) v' d' (by simpa using e1) (by simpa using e2))
end L3
namespace L3
open PySem PySem.Spec L2 LB
open PyProof.Rows hiding St
end L3
namespace L2
open PySem PySem.Spec PyProof.Rows
end L2
namespace L3
open PySem PySem.Spec L2
end L3
namespace L2
open PySem PySem.Spec PyProof.Rows
end L2
namespace L3
open PySem PySem.Spec L2
open PyProof.Rows hiding St
def Sx(ns:List Str)(n:Nat)(fb fh:ao->DM Fl)(δ:ao):DM Fl:=λM=>match fb δ M with
 |some (.exc c,M')=>if ns.contains c then dM (fh (List.replicate n none)) M' else none
 |r=>r
def oY(c:Str)(n:Nat)(M:Mo):Bool:=match M[n]? with
 |some (.ins k _ _)=>k==c
 |_=>false
set_option tactic.hygienic true in
def rN{mg:Str->Option Value}{ρ:Rh}{H:Hp}{M:Mo}{c:Str}{C:Addr}{n:Nat}{a:Addr}(mc:mg c=some (.ref C))(j:J mg ρ M H)(hn:ρ.st[n]?=some a)(h:oY c n M=true):∃dx fs,H a=some (.ins C dx fs):=by
 unfold oY at h;split at h
 ·rename_i k ns vs hm;obtain⟨C',dx,xs,m,hx,l,cs⟩:=j.obj _ _ _ hn hm;obtain rfl:k=c:=by simpa using h
  rw[mc]at m;cases m;exact⟨_,_,hx⟩
 ·cases h
def Hu(c:Str)(Fi:List D->DM D)(ds:List D):DM D:=Io c>>=λr=>Fi (r::ds)>>=λd=>match d with
 |.non=>pure r
 |_=>stuck
def QJ{P:Program}{w:World}{K:PySem.W.Frag}{mg:Str->Option Value}{base:Heap}{k:Nat}{c qual:Str}{st:Stmt}{ps:List Str}{Fi:List D->DM D}(T:MethD P w K mg base k c "__init__" qual st ps Fi)
  (hb:∀(kV doc pm:Value) (an:Option Addr) (cdv ct:Value) (us:List Value),us.length=ps.length->bindArgs (PySem.W.fnOf "__init__" qual (defArgs st) (defBody st) (defScope st) .none kV doc pm an cdv ct) ⟨us,[]⟩=pure (ps.zip us))
  (hm:∀C,mg c=some (.ref C)->PySem.W.makesIn K C=true/\PySem.W.keepIn K (.ref C)=true):ClsD P w K mg base k c (Hu c Fi):=by
 obtain⟨C,f,fd,mc,G,B,a,n,cl⟩:=T.ex;refine⟨C,ps,_,⟨f,fd,G,B.binds hb,B.kp,a,n⟩,(hm C mc).1,(hm C mc).2,mc,λρ M H vs ds Q E cv j g x dx hx hdx hne=>?_⟩
 have hx':upd H dx (.own x) x=none:=by rw[upd_ne (λz=>hne z.symm)];exact hx
 have x1:Ext ρ H ρ (upd H dx (.own x)):=.lay hdx;have j1:=j.lay (.own x) hdx;have x2:Ext ρ (upd H dx (.own x)) (ρ.put x) (upd (upd H dx (.own x)) x (.ins C dx [])):=.put hx';have j2:J mg (ρ.put x) (M++[.ins c [] []]) (upd (upd H dx (.own x)) x (.ins C dx [])):=j1.put hx' ⟨C,dx,[],mc,upd_same,rfl,.nil⟩;have hput:(ρ.put x).st[M.length]?=some x:=by show (ρ.st++[x])[M.length]?=some x;rw[<-j.len,TJ (Td _)];simp
 have x12:=x1.trans x2;refine⟨ρ.put x,M++[.ins c [] []],.ref M.length::ds,.cons (.ref hput) (cv.mono x12),j2,?_⟩;have g':Go mg E (Cv mg) Q ρ H (Io c>>=λr=>Fi (r::ds)>>=λd=>match d with
  |.non=>pure r
  |_=>stuck) M:=g
 have g2:Go mg E (Cv mg) Q (ρ.put x) (upd (upd H dx (.own x)) x (.ins C dx [])) (Fi (.ref M.length::ds)>>=λd=>match d with
  |.non=>pure (.ref M.length)
  |_=>stuck) (M++[.ins c [] []]):=by
  obtain⟨r,e,p⟩:=g';exact⟨r,e,p.mono x12⟩
 exact g2.bind λρ2 H2 M2 b d e2 j3 cb g3=>by
  split at g3
  ·cases cb;exact⟨rfl,g3.pure ρ2 H2 _ .refl j3 (.ref (e2.at hput))⟩
  ·obtain⟨r,e,_⟩:=g3;cases e
def Ls(c f:Str):D->Mo->Option D
 |.ref n,M=>oW c f (.ref n) M
 |_,_=>none
set_option tactic.hygienic true in
def Jx{X:Cx}{E:XK}{K:PySem.W.Frag}{mg:Str->Option Value}{c f:Str}{C:Addr}{fs:List Str}{o value:Expr}{fo fv:ao->DM D}{op:Operator}{g:D->D->DM D}{tpos pos:Pos}(O:OCls K mg c C fs)(hf:f∈fs)(ho:DE X E o fo)(hv:DE X E value fv)(hop:bZ X E (inplaceOp op) g)
  (hK:X.K=K:=by rfl) (hM:X.mg=mg:=by rfl) :
  DS X E (.AugAssign (.Attribute o f tpos) op value pos) (λδ=>fo δ>>=λo=>rd (Ls c f o)>>=λx=>fv δ>>=λy=>g x y>>=λz=>ju c f o z>>=λw=>pure (.nx δ)):=by
 subst hK hM;refine⟨PS.mono (ps_fldaug ho.h hv.h hop) λD σ H h=>?_⟩
 obtain⟨ρ,δ,M,ev,j,g1⟩:=h;refine⟨ρ,δ,M,ev,j,g1.bind λρ1 H1 M1 x dx e1 j1 c1 g2=>?_⟩
 obtain⟨d,ed,g3⟩:=bK.rdb g2;unfold Ls at ed;split at ed;rotate_left
 ·cases ed
 rename_i n;unfold oW at ed;dsimp only at ed;split at ed;rotate_left
 ·cases ed
 rename_i k ns vs hm;split at ed;rotate_left
 ·cases ed
 rename_i hk;subst hk;cases c1 with | ref hn=>
 rename_i a;obtain⟨C',dx',xs,m,h,l,cs⟩:=j1.obj _ _ _ hn hm;obtain⟨v,hv',cv⟩:=oZ cs ed;rw[O.at_]at m;cases m;refine⟨_,_,_,_,v,rfl,h,O.cls,O.no f hf,hv',ρ1,δ,M1,ev.mono e1,j1,g3.bind λρ2 H2 M2 y dy e2 j2 c2 g4=>⟨ρ2,M2,d,dy,j2,cv.mono e2,c2,g4.bind λρ3 H3 M3 z dz e3 j3 c3 g5=>?_⟩⟩
 obtain⟨r,e,p⟩:=g5;have e:DM.bind _ _ M3=some r:=e;unfold DM.bind ju at e;dsimp only at e;have hn3:ρ3.st[n]?=some a:=e3.at (e2.at hn);cases hm3:M3[n]? with
 |none=>rw[hm3]at e;cases e
 | some u=>
   rw[hm3]at e;cases u with
   |lst l=>cases e
   |dic ks l=>cases e
   | ins k ns vs=>
     dsimp only at e;split at e
     ·cases e
     ·rename_i he;split at he<;>cases he
     ·rename_i he;split at he
      ·rename_i hk;obtain⟨rfl,hl,hz⟩:=hk;cases he;cases e;obtain⟨C',dx',xs,m,hx,l,cs⟩:=j3.obj _ _ _ hn3 hm3;rw[O.at_]at m;cases m;have x:Ext ρ3 H3 ρ3 (upd H3 a (.ins C dx' (putF f z (ns.zip xs)))):=.upd (T5 hn3);refine⟨dx',_,hx,?_,?_⟩
       ·rw[List.length_zip];lia
       refine p ρ3 _ σ x (j3.upd hn3 ?_) ((((ev.mono e1).mono e2).mono e3).mono x);refine⟨C,dx',bO f z ns xs,O.at_,by rw[upd_same,uo f z ns xs l],uq f z ns xs l,?_⟩
       exact (Cvs.put c3 ns cs).mono x
      ·cases he
def Iz:D->DM D
 | .ref n=>λM=>match M[n]? with
   |some (.lst l)=>match l[l.length-1]? with
     |some d=>some (.ok d,M.set n (.lst l.dropLast))
     |none=>none
   |_=>none
 |_=>stuck
theorem Cvs.dropLast{mg:Str->Option Value}{ρ:Rh}{H:Hp}{xs:List V}{l:List D}(c:Cvs mg ρ H xs l):Cvs mg ρ H xs.dropLast l.dropLast:=by
 refine Cvs.of (by rw[List.length_dropLast,List.length_dropLast,c.len]) λi v d e1 e2=>?_
 rw[List.getElem?_dropLast]at e1 e2;split at e1
 ·split at e2
  ·obtain⟨w,hw,cw⟩:=c.get e2;rw[e1]at hw;cases hw;exact cw
  ·cases e2
 ·cases e1
set_option tactic.hygienic true in
def Ju{X:Cx}{E:XK}{o:Expr}{fo:ao->DM D}{apos cpos:Pos}(ho:DE X E o fo)(hbase:attributeBase o "pop" X.env (eval o X.env)=eval o X.env:=by rfl)(hline:(apos.endLine == cpos.line)=true:=by rfl):
  DE X E (.Call (.Attribute o "pop" apos) [] [] cpos) (λδ=>fo δ>>=Iz):=⟨PE.mono (pe_bm0 (r:=rPop) Vl PySem.F.slot_list_pop PySem.F.type_list_pop (λXe s σ H x xs v us Q I rx rs h=>mt_pop Xe s σ H x xs v us Q I rx rs h) ho.h hbase hline) λσ H Q h=>by
 obtain⟨ρ,δ,M,ev,j,g1⟩:=h;refine⟨ρ,δ,M,ev,j,g1.bind λρ1 H1 M1 x dx e1 j1 c1 g2=>?_⟩
 obtain⟨r,e,p⟩:=g2;cases c1 with
 | ref hn=>
   rename_i n a;have e:(match M1[n]? with
    |some (.lst l)=>match l[l.length-1]? with
      |some d=>some (R.ok d,M1.set n (.lst l.dropLast))
      |none=>none
    |_=>none)=some r:=e
   split at e
   ·rename_i l hl;split at e
    ·rename_i d hd;cases e;obtain⟨xs,hx,cl⟩:=j1.obj _ _ _ hn hl;obtain⟨w,hw,cw⟩:=cl.get hd;have x:Ext ρ1 H1 ρ1 (upd H1 a (.lst xs.dropLast)):=.upd (T5 hn);exact⟨.inl ⟨rfl,_,SqL.of hx⟩,a,xs,w,rfl,rfl,hx,by rw[cl.len];exact hw,p ρ1 _ w x (j1.upd hn ⟨_,upd_same,cl.dropLast.mono x⟩) (cw.mono x)⟩
    ·cases e
   ·cases e
 |_=>cases e⟩
def lV:List (ao->DM D)->ao->Str->DM D
 |[],_,acc=>pure (.str acc)
 |f::fs,δ,acc=>f δ>>=λx=>opt (strOf x)>>=λa=>if (acc++a).length<=sizeLine then lV fs δ (acc++a) else stuck
inductive Djs(X:Cx)(E:XK):List Expr->List (ao->DM D)->Prop
 |nil:Djs X E [] []
 |cons {e:Expr}{f:ao->DM D}{es:List Expr}{fs:List (ao->DM D)}:DE X E e f->Djs X E es fs->Djs X E (e::es) (f::fs)
section
variable{X:Cx}{E:XK}
def joins{es:List Expr}{fs:List (ao->DM D)}(h:Djs X E es fs):∀ (acc:Str) (Xe:List (Addr×Obj)) (s:Shared) (σ:L2.St) (H:Hp) (Q:VK),acc.length<=sizeLine->Inv X Xe σ H s->tD X.mg E (Cv X.mg) (λδ=>lV fs δ acc) σ H Q->
  wpAny (model X.prog X.w) X.A (joinParts acc (evalEach es X.env)) (EP X Xe σ Q) X.xe s:=by
 induction h with
 |nil=>intro acc Xe s σ H Q ha I g;obtain⟨ρ,δ,M,ev,j,g⟩:=g;exact joinParts_nilE (joinParts_nil ⟨.str acc,H,I.tok _,⟨_,rfl⟩,Go.pure g ρ H _ .refl j (.str acc)⟩ ha)
 | @cons e f es fs d ds ih=>
   intro acc Xe s σ H Q ha I g;obtain⟨ρ,δ,M,ev,j,g⟩:=g;have g:Go X.mg E (Cv X.mg) Q ρ H (f δ>>=λx=>opt (strOf x)>>=λa=>if (acc++a).length<=sizeLine then lV fs δ (acc++a) else stuck) M:=g
   refine joinParts_consE (joinParts_cons (thn (d.h Xe s σ H (λx H1=>∃a:Str,x=.str a/\(acc++a).length<=sizeLine/\tD X.mg E (Cv X.mg) (λδ=>lV fs δ (acc++a)) σ H1 Q) I ⟨ρ,δ,M,ev,j,g.bind λρ1 H1 M1 x dx e1 j1 c1 g2=>?_⟩) λv s1 hv=>?_))
   ·obtain⟨a,rfl,g2⟩:=g2.strOf;obtain⟨h1,g2⟩:=g2.ite;cases c1;exact⟨a,rfl,h1,ρ1,δ,M1,ev.mono e1,j1,g2⟩
   ·obtain⟨x,H1,I1,r1,a,rfl,la,g1⟩:=hv;obtain⟨t,rfl⟩:=r1;exact⟨la,ih (acc++a) Xe s1 σ H1 Q la I1 g1⟩
def Hl{a b:Expr}{es:List Expr}{fs:List (ao->DM D)}{pos:Pos}(h:Djs X E (a::b::es) fs):DE X E (.JoinedStr (a::b::es) pos) (λδ=>lV fs δ Str.empty):=⟨λXe s σ H Q I g=>JoinedStr_many (joins h Str.empty Xe s σ H Q (by show 0<=_;lia) I g)⟩
def SN:List D->Mo->Option D
 |[.int i],_=>if i.natAbs.log2<1920 then some (.str (toString i)) else none
 |_,_=>none
def KH:D->D->Mo->Option D
 |.str a,.str b,_=>if a.length≠0/\b.length≠0/\(a++b).length<=sizeLine then some (.str (a++b)) else none
 |_,_,_=>none
variable{j k:Nat}{c qual:Str}{st:Stmt}{ps:List Str}{F:List D->DM D}
def vH(c:Str)(F:List D->DM D):List D->DM D
 |[.ref n]=>jw (oY c n) (F [.ref n]>>=yJ)
 |_=>stuck
def iG(T:MethD X.prog X.w X.K X.mg X.base j c "__repr__" qual st ps F)(hr:Room k X.A)(hx:Passes (bJ X.prog X.w) X E)
  (hb:∀(kV doc pm:Value) (an:Option Addr) (cdv ct:Value) (us:List Value),us.length=ps.length->bindArgs (PySem.W.fnOf "__repr__" qual (defArgs st) (defBody st) (defScope st) .none kV doc pm an cdv ct) ⟨us,[]⟩=pure (ps.zip us))
  (hjk:j+1<=k:=by decide):CallD X E (.builtin "repr") (vH c F):=by
 obtain⟨C,f,fd,mc,G,B,a,n,cl⟩:=T.ex;have MC:MethC X.prog X.w X.K X.mg X.base j C "__repr__" ps (iU X.mg F):=⟨f,fd,G,B.binds hb,B.kp,a,n⟩;intro Xe s σ H vs us Q I rs q;obtain⟨ρ,M,ds,j,cv,go⟩:=q;unfold vH at go;split at go
 ·obtain ⟨v,rfl,kv⟩:=cv.one;obtain⟨hi,go⟩:=go.when;cases kv with
  | ref hn=>
    obtain⟨dx,fs,hh⟩:=rN mc j hn hi;refine Ce MC hr.units (hr.mono hjk) hx Xe s σ H _ us Q I rs ⟨_,_,_,rfl,hh,ρ,M,_,cv,j,go.bind λρ1 H1 M1 b d e1 j1 c1 g2=>?_⟩
    unfold yJ at g2;split at g2
    ·cases c1;exact⟨_,rfl,g2.pure ρ1 H1 _ .refl j1 (.str _)⟩
    ·obtain⟨r,e,_⟩:=g2;cases e
 ·obtain⟨r,e,_⟩:=go;cases e
end
structure StoN(K:PySem.W.Frag)(mg:Str->Option Value)(c:Str):Prop where
 ex:∃C,mg c=some (.ref C)/\tU K C
def bD(c:Str):D->Mo->Bool
 |.ref n,M=>oY c n M
 |_,_=>false
def iu(d:D)(M:Mo):Bool:=match tyOf d M with
 |some t=>tK.contains t
 |none=>false
def Go.at_{mg:Str->Option Value}{E:XK}{ρ:Rh}{H:Hp}{M:Mo}{α β:Type}{rel:Rh->Hp->β->α->Prop}{Q:β->Hp->Prop}{m m':DM α}(g:Go mg E rel Q ρ H m M)(h:m M=m' M):Go mg E rel Q ρ H m' M:=by obtain⟨r,e,q⟩:=g;exact⟨r,h ▸ e,q⟩
section
variable{X:Cx}{E:XK}{j k:Nat}{c qual:Str}{st:Stmt}{ps:List Str}{F:List D->DM D}
def je{C:Addr}{ρ:Rh}{H:Hp}{M:Mo}{x:V}{d:D}(mc:X.mg c=some (.ref C))(j:J X.mg ρ M H)(cx:Cv X.mg ρ H x d)(h:bD c d M=true):∃ a dx fs,x=.ref a/\H a=some (.ins C dx fs):=by
 cases d with
 |ref n=>
   cases cx with | ref hn=>
   obtain⟨dx,fs,hh⟩:=rN mc j hn h;exact⟨_,dx,fs,rfl,hh⟩
 |_=>cases h
def By{C:Addr}{ρ:Rh}{H:Hp}{M:Mo}{y:V}{d:D}(mc:X.mg c=some (.ref C))(j:J X.mg ρ M H)(cy:Cv X.mg ρ H y d)(h:bD c d M=true\/(tyOf d M).isSome=true):vN X.K H C y:=by
 rcases h with h | h
 ·obtain⟨a,dx,fs,e,hh⟩:=je mc j cy h;exact .inl ⟨a,dx,fs,e,hh⟩
 ·obtain⟨t,ht⟩:=Uk.mp h;exact .inr ⟨t,pH j cy ht,Ab t (jl ht)⟩
set_option tactic.hygienic true in
def yS{ρ:Rh}{H:Hp}{M:Mo}{y:V}{d:D}(j:J X.mg ρ M H)(cy:Cv X.mg ρ H y d)(h:iu d M=true):∃T,TyOf X.K H y (.type T)/\T∈tK:=by
 unfold iu at h;split at h
 ·rename_i t ht;exact⟨t,pH j cy ht,Vs.mp h⟩
 ·cases h
end
def dW(c:Str)(F:List D->DM D)(c2:Str)(F2:List D->DM D)(n:Nat)(d:D):DM D:=λM=>
 if oY c n M=true then
  (if bD c d M=true then (match d with | .ref m=>if m=n then none else (F [d,.ref n]>>=dI) M | _=>none)
   else if iu d M=true then (F [.ref n,d]>>=dI) M
   else match d with | .obj c' _ _=>if c'=c2 then (F2 [d,.ref n]>>=dI) M else none | _=>none)
 else none
def Ey(c:Str)(F:List D->DM D)(c2:Str)(F2:List D->DM D)(x y:D):DM D:=match x,y with
 |.ref n,.lst [d1,d2]=>dW c F c2 F2 n d1>>=λr=>match r with
   |.bl true=>pure (.bl true)
   |.bl false=>dW c F c2 F2 n d2
   |_=>stuck
 |_,_=>stuck
section
variable{X:Cx}{E:XK}{j k:Nat}{c qual c2 qual2:Str}{st st2:Stmt}{ps ps2:List Str}{F F2:List D->DM D}
def Jp{mg:Str->Option Value}{ρ:Rh}{H:Hp}{M:Mo}{Q:V->Hp->Prop}{v:V}{d:D}(cv:Cv mg ρ H v d){k:D->DM D}{rel:Rh->Hp->V->D->Prop}(g:Go mg E rel Q ρ H (dI d>>=k) M):∃b,v=.bl b/\d=.bl b/\Go mg E rel Q ρ H (k (.bl b)) M:=by
 cases d with
 |bl b=>cases cv;exact⟨b,rfl,rfl,g⟩
 |_=>obtain⟨r,e,_⟩:=g;cases e
def Jo{α β:Type}{m m':DM α}{f:α->DM β}{M:Mo}(h:m M=m' M):(m>>=f) M=(m'>>=f) M:=by show DM.bind m f M=DM.bind m' f M;unfold DM.bind;rw[h]
set_option tactic.hygienic true in
def En{C C':Addr}(mc:X.mg c=some (.ref C))(mc2:X.mg c2=some (.ref C')){ρ:Rh}{H:Hp}{M:Mo}{y:V}{d:D}{n:Nat}{a:Addr}{kk:D->DM D}{Q0:V->Hp->Prop}{Q:V->Hp->Prop}(j:J X.mg ρ M H)(hn:ρ.st[n]?=some a)(cy:Cv X.mg ρ H y d)
  (go:Go X.mg E (Cv X.mg) Q0 ρ H (dW c F c2 F2 n d>>=kk) M) (fin:∀ρ1 H1 M1 b,Ext ρ H ρ1 H1->J X.mg ρ1 M1 H1->Go X.mg E (Cv X.mg) Q0 ρ1 H1 (kk (.bl b)) M1->Q (.bl b) H1):H9 X C (iU X.mg F) E (iU X.mg F2) C' a y H Q:=by
 have bad:∀{m:DM D},(m M=none)->Go X.mg E (Cv X.mg) Q0 ρ H (m>>=kk) M->False:=λ{m} h g=>by obtain⟨r,e,_⟩:=g;have e:DM.bind m kk M=_:=e;unfold DM.bind at e;rw[h]at e;cases e
 have use:∀{G:List D->DM D}{l:List D}{vs:List V},dW c F c2 F2 n d M=(G l>>=dI) M->Cvs X.mg ρ H vs l->iU X.mg G vs H (λv H2=>∃b:Bool,v=.bl b/\Q (.bl b) H2) E:=λ{G l vs} h cs=>by
  have g:=go.at_ (m':=G l>>=λr=>dI r>>=kk) ((Jo h).trans (congrFun (aq _ _ _) _))
  exact⟨ρ,M,l,cs,j,g.bind λρ1 H1 M1 b d e1 j1 c1 g2=>by obtain⟨b,rfl,rfl,g3⟩:=Jp c1 g2;exact⟨b,rfl,fin ρ1 H1 M1 b e1 j1 g3⟩⟩
 by_cases h0:oY c n M=true
 ·obtain ⟨dx,fs,hh⟩:=rN mc j hn h0;refine⟨⟨dx,fs,hh⟩,?_⟩;by_cases h1:bD c d M=true
  ·cases d with
   | ref m=>
     by_cases hm:m=n
     ·exact (bad (by unfold dW;rw[S7 h0,S7 h1];simp[hm]) go).elim
     ·cases cy with
      |ref hc=>
        rename_i b;obtain⟨dx',fs',hc'⟩:=rN mc j hc h1;refine .inl ⟨b,dx',fs',rfl,λz=>?_,hc',use (G:=F) (l:=[.ref m,.ref n]) (by unfold dW;rw[S7 h0,S7 h1];simp[hm]) (.cons (.ref hc) (.cons (.ref hn) .nil))⟩
        subst z;exact hm (j.inj hc hn)
   |_=>cases h1
  ·by_cases h2:iu d M=true
   ·obtain⟨T,ty,hT⟩:=yS j cy h2;refine .inr (.inl ⟨T,λz=>?_,ty,hT,use (G:=F) (l:=[.ref n,d]) (by unfold dW;rw[S7 h0,Tq h1,S7 h2]) (.cons (.ref hn) (.cons cy .nil))⟩)
    subst z;cases ty<;>(rename_i e;rw[hh]at e;cases e)
   ·cases d with
    | obj c' ns vs=>
      by_cases hc:c'=c2
      ·subst hc;cases cy with
       |obj nm m hq hl cs=>
         rw[mc2]at m;cases m;rename_i b dx' xs;refine .inr (.inr ⟨b,dx',_,rfl,λz=>?_,hq,use (G:=F2) (l:=[.obj c' ns vs,.ref n]) (by unfold dW;rw[S7 h0,Tq h1,Tq h2];simp) (.cons (.obj nm mc2 hq hl cs) (.cons (.ref hn) .nil))⟩)
         subst z;exact nm (.inl (T5 hn))
      ·exact (bad (by unfold dW;rw[S7 h0,Tq h1,Tq h2];simp[hc]) go).elim
    |_=>exact (bad (by unfold dW;rw[S7 h0,Tq h1,Tq h2]) go).elim
 ·exact (bad (by unfold dW;rw[Tq h0]) go).elim
structure TwoC(K:PySem.W.Frag)(mg:Str->Option Value)(c c2:Str):Prop where
 ex:∃C C',mg c=some (.ref C)/\mg c2=some (.ref C')/\PySem.W.subIn K (.ref C) (.ref C')=some false/\PySem.W.subIn K (.ref C') (.ref C)=some false/\C'≠C
set_option tactic.hygienic true in
def Nu(T:MethD X.prog X.w X.K X.mg X.base j c "__eq__" qual st ps F)(T2:MethD X.prog X.w X.K X.mg X.base j c2 "__eq__" qual2 st2 ps2 F2)(S:StoN X.K X.mg c)(W:TwoC X.K X.mg c c2)(hr:Room k X.A)(hx:Passes (bJ X.prog X.w) X E)
  (hb:∀(kV doc pm:Value) (an:Option Addr) (cdv ct:Value) (us:List Value),us.length=ps.length->bindArgs (PySem.W.fnOf "__eq__" qual (defArgs st) (defBody st) (defScope st) .none kV doc pm an cdv ct) ⟨us,[]⟩=pure (ps.zip us))
  (hb2:∀(kV doc pm:Value) (an:Option Addr) (cdv ct:Value) (us:List Value),us.length=ps2.length->bindArgs (PySem.W.fnOf "__eq__" qual2 (defArgs st2) (defBody st2) (defScope st2) .none kV doc pm an cdv ct) ⟨us,[]⟩=pure (ps2.zip us))
  (hjk:j+1<=k:=by decide):bZ X E (compareOp .In) (Ey c F c2 F2):=by
 obtain⟨C,f,fd,mc,G,B,a,n,cl⟩:=T.ex;obtain⟨C2,f2,fd2,mc2,G2,B2,a2,n2,cl2⟩:=T2.ex;obtain⟨C',mc',sn⟩:=S.ex;rw[mc]at mc';cases mc';obtain⟨C',C3,m1,m2,s1,s2,hne⟩:=W.ex;rw[mc]at m1;cases m1;rw[mc2]at m2;cases m2;have MC:MethC X.prog X.w X.K X.mg X.base j C "__eq__" ps (iU X.mg F):=⟨f,fd,G,B.binds hb,B.kp,a,n⟩;have MC2:MethC X.prog X.w X.K X.mg X.base j C2 "__eq__" ps2 (iU X.mg F2):=⟨f2,fd2,G2,B2.binds hb2,B2.kp,a2,n2⟩;intro Xe s σ H x y v u Q I rx ry q;obtain⟨ρ,M,dx,dy,j,cx,cy,go⟩:=q;unfold Ey at go;split at go
 ·rename_i i d1 d2;cases cx with
  | @ref n1 a1 hn=>
  cases cy with
  | @lst p xs ds np hp cs=>
  obtain⟨y1,y2,rfl,k1,k2⟩:=cs.two;refine Nt MC MC2 s1 hne sn hr.units (hr.mono hjk) hx Xe s σ H _ _ v u Q I rx ry ⟨a1,p,y1,y2,rfl,rfl,hp,?_⟩;refine En mc mc2 j hn k1 go λρ1 H1 M1 b e1 j1 g1=>⟨b,rfl,λhb=>?_,λhb=>?_⟩
  ·subst hb;exact g1.pure ρ1 H1 _ .refl j1 (.bl true)
  ·subst hb;refine⟨e1.keeps hp np,?_⟩;refine En (kk:=λr=>pure r) mc mc2 j1 (e1.at hn) (k2.mono e1) (g1.at_ (m':=dW c F c2 F2 i d2>>=λr=>pure r) (by
    show dW c F c2 F2 i d2 M1=DM.bind _ _ M1;unfold DM.bind;cases dW c F c2 F2 i d2 M1 with
    |none=>rfl
    |some r=>obtain⟨r,M'⟩:=r;cases r<;>rfl)) λρ2 H2 M2 b e2 j2 g2=>⟨e2.keeps (e1.keeps hp np) (e1.out hp np),?_⟩
   exact g2.pure ρ2 H2 _ .refl j2 (.bl b)
 ·obtain⟨r,e,_⟩:=go;cases e
end
def Bm{K:PySem.W.Frag}{C D:Addr}(h:OwnK K C)(hne:D≠C)(s:PySem.W.subIn K (.ref D) (.ref C)=some false):PySem.W.kitOne K (.ref D) (.ref C)=some false:=by
 unfold PySem.W.kitOne;rw[Tq (by simpa using hne)]
 unfold PySem.W.kitCls;dsimp only;rw[S7 h.ci];exact s
def eX(c:Str):D->Bool
 |.obj c' _ _=>c'==c
 |_=>false
def kJ(c c2:Str):List D->Mo->Option D
 |[x,.cls c'],M=>
   if c'=c then (if bD c x M=true then some (.bl true) else if (tyOf x M).isSome=true\/eX c2 x=true then some (.bl false) else none)
   else if c'=c2 then (if eX c2 x=true then some (.bl true) else if (tyOf x M).isSome=true\/bD c x M=true then some (.bl false) else none)
   else none
 |l,M=>eV l M
section
variable{X:Cx}{E:XK}
def nF{c:Str}{C:Addr}{ρ:Rh}{H:Hp}{y:V}{d:D}(mc:X.mg c=some (.ref C))(cy:Cv X.mg ρ H y d)(h:eX c d=true):∃ b dx fs,y=.ref b/\H b=some (.ins C dx fs):=by
 cases d with
 | obj c' ns vs=>
   have hk:c'=c:=by simpa[eX] using h
   subst hk;cases cy with
   |obj hn m hh hl cs=>rw[mc]at m;cases m;exact⟨_,_,_,rfl,hh⟩
 |_=>cases h
set_option tactic.hygienic true in
def uK{c c2:Str}(O:OwnC X.K X.mg c)(O2:OwnC X.K X.mg c2)(W:TwoC X.K X.mg c c2):CallD X E (.builtin "isinstance") (λl=>rd (kJ c c2 l)):=by
 obtain⟨C,mc,ok⟩:=O.ex;obtain⟨C2,mc2,ok2⟩:=O2.ex;obtain⟨C',C3,m1,m2,s1,s2,hne⟩:=W.ex;rw[mc]at m1;cases m1;rw[mc2]at m2;cases m2;intro Xe s σ H vs us Q I rs q;obtain⟨ρ,M,ds,j,cv,go⟩:=q;by_cases hd:∃d c',ds=[d,.cls c']
 ·obtain ⟨d,c',rfl⟩:=hd;obtain⟨r,e,p⟩:=go.rd;simp only[kJ]at e;obtain⟨v,w,rfl,k1,k2⟩:=cv.two;obtain⟨u,w',rfl,r1,r2⟩:=vals2 rs;cases k2 with
  | cls h=>
    cases r2;split at e
    ·rename_i hc;subst hc;rw[mc]at h;cases h;split at e
     ·rename_i hg;cases e;obtain⟨o,od,fs,e,hh⟩:=je mc j k1 hg;subst e;exact isinst_ok I r1 (.ins hh ok.cls ok.cc ok.gs ok.tk ok.mro) (by unfold PySem.W.kitOne;rw[S7 (by simp)]) λtk=>⟨.bl true,H,I.tok _,rfl,p ρ H _ .refl j (.bl _)⟩
     ·split at e
      ·rename_i hg;cases e;rcases hg with hg | hg
       ·obtain⟨t,ht⟩:=Uk.mp hg;exact isinst_ok I r1 (pH j k1 ht) (ok.kit t (jl ht)) λtk=>⟨.bl false,H,I.tok _,rfl,p ρ H _ .refl j (.bl _)⟩
       ·obtain⟨b,dx,fs,rfl,hh⟩:=nF mc2 k1 hg;exact isinst_ok I r1 (.ins hh ok2.cls ok2.cc ok2.gs ok2.tk ok2.mro) (Bm ok hne s2) λtk=>⟨.bl false,H,I.tok _,rfl,p ρ H _ .refl j (.bl _)⟩
      ·cases e
    ·split at e
     ·rename_i hc;subst hc;rw[mc2]at h;cases h;split at e
      ·rename_i hg;cases e;obtain⟨b,dx,fs,rfl,hh⟩:=nF mc2 k1 hg;exact isinst_ok I r1 (.ins hh ok2.cls ok2.cc ok2.gs ok2.tk ok2.mro) (by unfold PySem.W.kitOne;rw[S7 (by simp)]) λtk=>⟨.bl true,H,I.tok _,rfl,p ρ H _ .refl j (.bl _)⟩
      ·split at e
       ·rename_i hg;cases e;rcases hg with hg | hg
        ·obtain⟨t,ht⟩:=Uk.mp hg;exact isinst_ok I r1 (pH j k1 ht) (ok2.kit t (jl ht)) λtk=>⟨.bl false,H,I.tok _,rfl,p ρ H _ .refl j (.bl _)⟩
        ·obtain⟨o,od,fs,e,hh⟩:=je mc j k1 hg;subst e;exact isinst_ok I r1 (.ins hh ok.cls ok.cc ok.gs ok.tk ok.mro) (Bm ok2 (Ne.symm hne) s1) λtk=>⟨.bl false,H,I.tok _,rfl,p ρ H _ .refl j (.bl _)⟩
       ·cases e
     ·cases e
 ·have e:∀M,kJ c c2 ds M=eV ds M:=λM=>by
   unfold kJ;split
   ·exact absurd ⟨_,_,rfl⟩ hd
   ·rfl
  have go:Go X.mg E (Cv X.mg) Q ρ H (rd (eV ds)) M:=go.at_ (by show (kJ c c2 ds M).map _=(eV ds M).map _;rw[e])
  exact cZ Xe s σ H vs us Q I rs ⟨ρ,M,ds,j,cv,go⟩
end
def MethD.up{P:Program}{w:World}{K:PySem.W.Frag}{mg:Str->Option Value}{base:Heap}{j k:Nat}{c x qual:Str}{st:Stmt}{ps:List Str}{F:List D->DM D}(T:MethD P w K mg base j c x qual st ps F)(h:j<=k):MethD P w K mg base k c x qual st ps F:=by obtain⟨C,f,fd,mc,G,r⟩:=T.ex;exact⟨⟨C,f,fd,mc,G.mono h,r⟩⟩
def jz(c:Str)(F:List D->DM D)(c2:Str)(F2:List D->DM D)(x y:D):DM D:=λM=>
 if bD c x M=true then (if bD c y M=true\/(tyOf y M).isSome=true\/eX c2 y=true then (F [x,y]>>=dI) M else none)
 else if bD c y M=true then (if iu x M=true then (F [y,x]>>=dI) M else if eX c2 x=true then (F2 [x,y]>>=dI) M else none)
 else Es c2 F2 x y M
def jA(c:Str)(F:List D->DM D)(c2:Str)(F2:List D->DM D)(x y:D):DM D:=λM=>
 if bD c x M=true then (if bD c y M=true\/(tyOf y M).isSome=true\/eX c2 y=true then (F [x,y]>>=jf) M else none)
 else if bD c y M=true then (if iu x M=true then (F [y,x]>>=jf) M else if eX c2 x=true then (F2 [x,y]>>=jf) M else none)
 else Ip c2 F2 x y M
section
variable{X:Cx}{E:XK}{j k:Nat}{c qual c2 qual2:Str}{st st2:Stmt}{ps ps2:List Str}{F F2:List D->DM D}
def Fw(T:MethD X.prog X.w X.K X.mg X.base j c "__eq__" qual st ps F)(T2:MethD X.prog X.w X.K X.mg X.base j c2 "__eq__" qual2 st2 ps2 F2)(S:StoN X.K X.mg c)(W:TwoC X.K X.mg c c2)(O:OwnC X.K X.mg c)(O2:OwnC X.K X.mg c2)(hr:Room k X.A)(hx:Passes (bJ X.prog X.w) X E)
  (hb:∀(kV doc pm:Value) (an:Option Addr) (cdv ct:Value) (us:List Value),us.length=ps.length->bindArgs (PySem.W.fnOf "__eq__" qual (defArgs st) (defBody st) (defScope st) .none kV doc pm an cdv ct) ⟨us,[]⟩=pure (ps.zip us))
  (hb2:∀(kV doc pm:Value) (an:Option Addr) (cdv ct:Value) (us:List Value),us.length=ps2.length->bindArgs (PySem.W.fnOf "__eq__" qual2 (defArgs st2) (defBody st2) (defScope st2) .none kV doc pm an cdv ct) ⟨us,[]⟩=pure (ps2.zip us))
  (hjk:j+1<=k:=by decide):bZ X E (compareOp .Eq) (jz c F c2 F2):=by
 obtain⟨C,f,fd,mc,G,B,a,n,cl⟩:=T.ex;obtain⟨C2,f2,fd2,mc2,G2,B2,a2,n2,cl2⟩:=T2.ex;obtain⟨C',mc',sn⟩:=S.ex;rw[mc]at mc';cases mc';obtain⟨C',C3,m1,m2,s1,s2,hne⟩:=W.ex;rw[mc]at m1;cases m1;rw[mc2]at m2;cases m2;obtain⟨C',m1,ok⟩:=O.ex;rw[mc]at m1;cases m1;obtain⟨C',m2,ok2⟩:=O2.ex;rw[mc2]at m2;cases m2;have MC:MethC X.prog X.w X.K X.mg X.base j C "__eq__" ps (iU X.mg F):=⟨f,fd,G,B.binds hb,B.kp,a,n⟩;have MC2:MethC X.prog X.w X.K X.mg X.base j C2 "__eq__" ps2 (iU X.mg F2):=⟨f2,fd2,G2,B2.binds hb2,B2.kp,a2,n2⟩;intro Xe s σ H x y v u Q I rx ry q;obtain⟨ρ,M,dx,dy,j,cx,cy,go⟩:=q;have bad:∀{m:DM D},m M=none->Go X.mg E (Cv X.mg) Q ρ H m M->False:=λ{m} h g=>by obtain⟨r,e,_⟩:=g;rw[h]at e;cases e
 by_cases h1:bD c dx M=true
 ·obtain ⟨o,od,fs,e,hh⟩:=je mc j cx h1;by_cases h2:bD c dy M=true\/(tyOf dy M).isSome=true\/eX c2 dy=true
  ·have go:=go.at_ (m':=F [dx,dy] >>= dI) (by unfold jz;rw [S7 h1,S7 h2])
   subst e;by_cases h3:bD c dy M=true\/(tyOf dy M).isSome=true
   ·refine Fx MC hr.units (hr.mono (by lia)) hx Xe s σ H _ _ v u Q I rx ry ⟨_,_,_,rfl,hh,By mc j cy h3,ρ,M,_,.cons cx (.cons cy .nil),j,go.bind λρ1 H1 M1 b d e1 j1 c1 g2=>?_⟩
    unfold dI at g2;split at g2
    ·cases c1;exact⟨_,rfl,g2.pure ρ1 H1 _ .refl j1 (.bl _)⟩
    ·obtain⟨r,e,_⟩:=g2;cases e
   ·have h4:eX c2 dy=true:=by
     rcases h2 with h | h | h
     ·exact absurd (.inl h) h3
     ·exact absurd (.inr h) h3
     ·exact h
    obtain⟨b',dx',fs',e',hh'⟩:=nF mc2 cy h4;subst e';refine FJ MC s2 hne hr.units (hr.mono (by lia)) hx Xe s σ H _ _ v u Q I rx ry ⟨_,_,_,_,_,_,rfl,hh,rfl,hh',ρ,M,_,.cons cx (.cons cy .nil),j,go.bind λρ1 H1 M1 b d e1 j1 c1 g2=>?_⟩
    unfold dI at g2;split at g2
    ·cases c1;exact⟨_,rfl,g2.pure ρ1 H1 _ .refl j1 (.bl _)⟩
    ·obtain⟨r,e,_⟩:=g2;cases e
  ·exact (bad (by unfold jz;rw[S7 h1,Tq h2]) go).elim
 ·by_cases h2:bD c dy M=true
  ·obtain ⟨o,od,fs,e,hh⟩:=je mc j cy h2;by_cases h3:iu dx M=true
   ·have go:=go.at_ (m':=F [dy,dx]>>=dI) (by unfold jz;rw[Tq h1,S7 h2,S7 h3])
    subst e;obtain⟨T,ty,hT⟩:=yS j cx h3;refine Nr MC sn hr.units (hr.mono (by lia)) hx Xe s σ H _ _ v u Q I rx ry ⟨_,_,_,T,rfl,hh,ty,hT,ρ,M,_,.cons cy (.cons cx .nil),j,go.bind λρ1 H1 M1 b d e1 j1 c1 g2=>?_⟩
    unfold dI at g2;split at g2
    ·cases c1;exact⟨_,rfl,g2.pure ρ1 H1 _ .refl j1 (.bl _)⟩
    ·obtain⟨r,e,_⟩:=g2;cases e
   ·by_cases h4:eX c2 dx=true
    ·have go:=go.at_ (m':=F2 [dx,dy]>>=dI) (by unfold jz;rw[Tq h1,S7 h2,Tq h3,S7 h4])
     subst e;obtain⟨b',dx',fs',e',hh'⟩:=nF mc2 cx h4;subst e';refine FJ MC2 s1 (Ne.symm hne) hr.units (hr.mono (by lia)) hx Xe s σ H _ _ v u Q I rx ry ⟨_,_,_,_,_,_,rfl,hh',rfl,hh,ρ,M,_,.cons cx (.cons cy .nil),j,go.bind λρ1 H1 M1 b d e1 j1 c1 g2=>?_⟩
     unfold dI at g2;split at g2
     ·cases c1;exact⟨_,rfl,g2.pure ρ1 H1 _ .refl j1 (.bl _)⟩
     ·obtain⟨r,e,_⟩:=g2;cases e
    ·exact (bad (by unfold jz;rw[Tq h1,S7 h2,Tq h3,Tq h4]) go).elim
  ·have go:=go.at_ (m':=Es c2 F2 dx dy) (by unfold jz;rw[Tq h1,Tq h2])
   exact Fy T2 hr hx hb2 hjk Xe s σ H x y v u Q I rx ry ⟨ρ,M,_,_,j,cx,cy,go⟩
def FN(T:MethD X.prog X.w X.K X.mg X.base j c "__eq__" qual st ps F)(T2:MethD X.prog X.w X.K X.mg X.base j c2 "__eq__" qual2 st2 ps2 F2)(S:StoN X.K X.mg c)(W:TwoC X.K X.mg c c2)(O:OwnC X.K X.mg c)(O2:OwnC X.K X.mg c2)(hr:Room k X.A)(hx:Passes (bJ X.prog X.w) X E)
  (hb:∀(kV doc pm:Value) (an:Option Addr) (cdv ct:Value) (us:List Value),us.length=ps.length->bindArgs (PySem.W.fnOf "__eq__" qual (defArgs st) (defBody st) (defScope st) .none kV doc pm an cdv ct) ⟨us,[]⟩=pure (ps.zip us))
  (hb2:∀(kV doc pm:Value) (an:Option Addr) (cdv ct:Value) (us:List Value),us.length=ps2.length->bindArgs (PySem.W.fnOf "__eq__" qual2 (defArgs st2) (defBody st2) (defScope st2) .none kV doc pm an cdv ct) ⟨us,[]⟩=pure (ps2.zip us))
  (hjk:j+1<=k:=by decide):bZ X E (compareOp .NotEq) (jA c F c2 F2):=by
 obtain⟨C,f,fd,mc,G,B,a,n,cl⟩:=T.ex;obtain⟨C2,f2,fd2,mc2,G2,B2,a2,n2,cl2⟩:=T2.ex;obtain⟨C',mc',sn⟩:=S.ex;rw[mc]at mc';cases mc';obtain⟨C',C3,m1,m2,s1,s2,hne⟩:=W.ex;rw[mc]at m1;cases m1;rw[mc2]at m2;cases m2;obtain⟨C',m1,ok⟩:=O.ex;rw[mc]at m1;cases m1;obtain⟨C',m2,ok2⟩:=O2.ex;rw[mc2]at m2;cases m2;have MC:MethC X.prog X.w X.K X.mg X.base j C "__eq__" ps (iU X.mg F):=⟨f,fd,G,B.binds hb,B.kp,a,n⟩;have MC2:MethC X.prog X.w X.K X.mg X.base j C2 "__eq__" ps2 (iU X.mg F2):=⟨f2,fd2,G2,B2.binds hb2,B2.kp,a2,n2⟩;intro Xe s σ H x y v u Q I rx ry q;obtain⟨ρ,M,dx,dy,j,cx,cy,go⟩:=q;have bad:∀{m:DM D},m M=none->Go X.mg E (Cv X.mg) Q ρ H m M->False:=λ{m} h g=>by obtain⟨r,e,_⟩:=g;rw[h]at e;cases e
 by_cases h1:bD c dx M=true
 ·obtain ⟨o,od,fs,e,hh⟩:=je mc j cx h1;by_cases h2:bD c dy M=true\/(tyOf dy M).isSome=true\/eX c2 dy=true
  ·have go:=go.at_ (m':=F [dx,dy] >>= jf) (by unfold jA;rw [S7 h1,S7 h2])
   subst e;by_cases h3:bD c dy M=true\/(tyOf dy M).isSome=true
   ·refine FQ MC ok.ne ok.mro hr.units (hr.mono hjk) hx Xe s σ H _ _ v u Q I rx ry ⟨_,_,_,rfl,hh,By mc j cy h3,ρ,M,_,.cons cx (.cons cy .nil),j,go.bind λρ1 H1 M1 b d e1 j1 c1 g2=>?_⟩
    unfold jf at g2;split at g2
    ·cases c1;exact⟨_,rfl,g2.pure ρ1 H1 _ .refl j1 (.bl _)⟩
    ·obtain⟨r,e,_⟩:=g2;cases e
   ·have h4:eX c2 dy=true:=by
     rcases h2 with h | h | h
     ·exact absurd (.inl h) h3
     ·exact absurd (.inr h) h3
     ·exact h
    obtain⟨b',dx',fs',e',hh'⟩:=nF mc2 cy h4;subst e';refine FW MC s2 hne ok.ne ok.mro hr.units (hr.mono hjk) hx Xe s σ H _ _ v u Q I rx ry ⟨_,_,_,_,_,_,rfl,hh,rfl,hh',ρ,M,_,.cons cx (.cons cy .nil),j,go.bind λρ1 H1 M1 b d e1 j1 c1 g2=>?_⟩
    unfold jf at g2;split at g2
    ·cases c1;exact⟨_,rfl,g2.pure ρ1 H1 _ .refl j1 (.bl _)⟩
    ·obtain⟨r,e,_⟩:=g2;cases e
  ·exact (bad (by unfold jA;rw[S7 h1,Tq h2]) go).elim
 ·by_cases h2:bD c dy M=true
  ·obtain ⟨o,od,fs,e,hh⟩:=je mc j cy h2;by_cases h3:iu dx M=true
   ·have go:=go.at_ (m':=F [dy,dx]>>=jf) (by unfold jA;rw[Tq h1,S7 h2,S7 h3])
    subst e;obtain⟨T,ty,hT⟩:=yS j cx h3;refine Nx MC sn ok.ne ok.mro hr.units (hr.mono hjk) hx Xe s σ H _ _ v u Q I rx ry ⟨_,_,_,T,rfl,hh,ty,hT,ρ,M,_,.cons cy (.cons cx .nil),j,go.bind λρ1 H1 M1 b d e1 j1 c1 g2=>?_⟩
    unfold jf at g2;split at g2
    ·cases c1;exact⟨_,rfl,g2.pure ρ1 H1 _ .refl j1 (.bl _)⟩
    ·obtain⟨r,e,_⟩:=g2;cases e
   ·by_cases h4:eX c2 dx=true
    ·have go:=go.at_ (m':=F2 [dx,dy]>>=jf) (by unfold jA;rw[Tq h1,S7 h2,Tq h3,S7 h4])
     subst e;obtain⟨b',dx',fs',e',hh'⟩:=nF mc2 cx h4;subst e';refine FW MC2 s1 (Ne.symm hne) ok2.ne ok2.mro hr.units (hr.mono hjk) hx Xe s σ H _ _ v u Q I rx ry ⟨_,_,_,_,_,_,rfl,hh',rfl,hh,ρ,M,_,.cons cx (.cons cy .nil),j,go.bind λρ1 H1 M1 b d e1 j1 c1 g2=>?_⟩
     unfold jf at g2;split at g2
     ·cases c1;exact⟨_,rfl,g2.pure ρ1 H1 _ .refl j1 (.bl _)⟩
     ·obtain⟨r,e,_⟩:=g2;cases e
    ·exact (bad (by unfold jA;rw[Tq h1,S7 h2,Tq h3,Tq h4]) go).elim
  ·have go:=go.at_ (m':=Ip c2 F2 dx dy) (by unfold jA;rw[Tq h1,Tq h2])
   exact Ny T2 O2 hr hx hb2 hjk Xe s σ H x y v u Q I rx ry ⟨ρ,M,_,_,j,cx,cy,go⟩
end
end L3
namespace L3
open PySem PySem.Spec L2
def RM{P:Program}{w:World}{K:PySem.W.Frag}{mg:Str->Option Value}{base:Heap}{k:Nat}{x:Str}{N ps:List Str}{st:Stmt}{fb:ao->DM Fl}{Pt:Addr}(T:DefAt K mg x st)(S:FnScope N ps (defScope st))
  (hbody:∀{f cdv A outer s H E},(∃qs,H Pt=some (.tbl qs))->Rm k A x st s f cdv->Ds P w K mg base N x st f cdv A outer s H E fb)
  (hb:∀(kV doc pm:Value) (an:Option Addr) (cdv ct:Value) (us:List Value),us.length=ps.length->bindArgs (PySem.W.fnOf x x (defArgs st) (defBody st) (defScope st) .none kV doc pm an cdv ct) ⟨us,[]⟩=pure (ps.zip us):=by intro _ _ _ _ _ _ us hl;first | (obtain⟨_,rfl⟩:=cM hl;rfl) | (obtain⟨_,_,rfl⟩:=dJ hl;rfl) | (obtain⟨_,_,_,rfl⟩:=qC hl;rfl) | (obtain⟨_,_,_,_,rfl⟩:=Cz hl;rfl)) :
  DefT P w K mg base (k+1) x ps Pt (aL ps.length N.length fb):=by
 obtain⟨f,fd,F,m⟩:=T.ex;have Fb:=F.binds hb;have Fk:=F.kp;obtain⟨oc,od,kV,doc,pm,an,cdv,ct,osl,rfl,lk,cd⟩:=F.ex;refine⟨f,_,fn_of lk cd S (λvs H Q E h=>?_) λA outer s H vs Q E hr h=>?_,Fb,Fk,m⟩
 ·obtain⟨⟨ρ,M,ds,c,j,g⟩,_⟩:=h;rw[c.len];exact (bK.aL g).1
 obtain⟨⟨ρ,M,ds,c,j,g⟩,ht⟩:=h;exact⟨_,(hbody ht hr).h,ρ,_,M,jc c,j,(bK.aL g).2⟩
end L3
namespace N10
end N10
namespace K
open PySem L2 L3
def zE(l:List Str)(h:l.Nodup:=by decide):l.Nodup:=h
local macro_rules | `(tactic| trivial)=>`(tactic| refine⟨rfl,by decide +kernel,rfl,vM ?_,λm_=>uY rfl,by decide,rfl,wy rfl,wz ?_,uW ?_⟩<;>((repeat' apply And.intro)<;>first | exact True.intro | rfl | exact Or.inl rfl | exact Or.inr rfl | exact⟨_,rfl⟩))
def top(i:Nat):Stmt:=PySem.Challenge.pw_fadewalk_k89_keepers_compared_and_twins.main.body.getD i (.Pass ⟨0,0,0,0⟩)
abbrev mq:List Str:=["NoMove", "NoMark", "NoDeed"]
abbrev Qd(k:Nat)(N:List Str)(x:Str)(st:Stmt)(Y:Program->World->PySem.W.Frag->Mg->Heap->Prop->Prop):={b:ao->DM Fl // ∀{P w K mg base f cdv A outer s H E},Y P w K mg base (Rm k A x st s f cdv->Ds P w K mg base N x st f cdv A outer s H E b)}
abbrev Qe(k:Nat)(N:List Str)(x:Str)(st:Stmt)(Y:(Nat->Str->List Str->Fn->Prop)->(Str->Prop)->Prop->Prop):=Qd k N x st λP w K m o=>Y (DefD P w K m o) (Nn m)
abbrev Sc(N ps:List Str)(st:Stmt):=FnScope N ps (defScope st)
def cj{N P:List Str}{sc:Scope}(a:sc.kind=.function:=by exact rfl)(b:sc.isCoroutine=false:=by exact rfl)(c:sc.isGenerator=false:=by exact rfl)(p:N.take P.length=P:=by exact rfl)(d:(decide N.Nodup&&(decide (∀x∈P,sc.names.lookup x=some .local\/sc.names.lookup x=some .cell)&&decide (∀y∈sc.names,y.2≠.free)))=true:=by decide +kernel):FnScope N P sc:=sI a b c p d
def Be{X:Cx}{E:XK}{scope:Scope}{cl:List (Str×Addr)}{elt i0:Expr}{p0 pos:Pos}{fi:ao->DM Itn}{fe:ao->DM D}(x:Str)(js:List Nat)(fr:List Str)(hi:DI X E (.Name x p0) i0 fi)
  (he:∀{Xe m fp C s₂ H₂},DE (X.bL Xe scope (cellsFrom m scope.names cl) ([x]++fr) fp C s₂ H₂) E0 elt fe) (T:CompG X scope cl [x] js fr:=by trivial) (hc:X.calm=true:=by exact rfl)
  (nd:([x]++fr).Nodup:=by decide) (hl:∀m C Z,(compEnvC scope (cellsFrom m scope.names cl) C Z).scope.names.lookup x=some .local:=by intros;exact rfl)
  (hs:∀y,foldedSetIterable i0 X.env y=pure y:=by intro _;rfl) :
  DE X E (.ListComp elt [⟨.Name x p0,i0,[],0⟩] scope pos) (λδ=>fi δ>>=λit=>dM (fu (gN 0) (λz=>pure true) (cC fe) it (b8 [x].length js δ) [])>>=λp=>Out.val.run p.2):=
 jb (own:=[x]) .val hc T hi (λz z z z z z=>bB (i:=0) nd rfl (Or.inl (hl ..)) (Or.inr (hl ..))) (λz z z z z z=>nu) (λz z z z z z=>he) hs
section
variable(N:Nat)(v0 v1 v2 v3 v4 v5 v6 v7 v8 v9 v10 v11 v12 v13 v14 v15 v16 v17 v18 v19:Fn)
abbrev pD:Stmt:=top 24
def Ar:Sc ["thing"] ["thing"] pD:=cj
@[simp] noncomputable def vB:Qe 0 ["thing"] "is_whole" pD λD n Z=>n "bool"->n "int"->n "isinstance"->Z:=
 ⟨_,λya yb yc hr=>(aD (aM (jx (aV cZ yc (aj (aa 0) (aj (gG (T := "int") yb) ak))) (jy (yK (aV cZ yc (aj (aa 0) (aj (gG (T := "bool") ya) ak))))))))⟩
noncomputable def uJ:=(vB).1
abbrev jU:Stmt:=top 27
def wL:Sc ["thing", "many"] ["thing", "many"] jU:=cj
@[simp] noncomputable def pW:Qe 1 ["thing", "many"] "are_weights" jU fun D n Z=>D 1 "is_whole" ["thing"] v0->n "all"->n "isinstance"->n "len"->n "tuple"->Z:=
 ⟨_,fun ya yb yc yd ye hr=>(az (bx (DW.dt (eZ (cA (bN (aV cZ yc (aj (aa 0) (aj (gG (T := "tuple") ye) ak))) (fun _=>rfl))) (d8 (aW (dN hr.units) (aV call_lenD yd (aj (aa 0) ak)) (aa 1)))))
  (aD (aM cN))
  aU)
  (aD (aM (aV (qm hr.hd) yb (aj (Be "weight" [] [] (lg (aa 0)) (jx (aO ya hr qJ (aj (aa 0) ak)) (jy (cQ zK (aa 0) aB)))) ak)))))⟩
noncomputable def pO:=(pW v0).1
abbrev pB:Stmt:=top 28
def Ao:Sc ["thing", "many"] ["thing", "many"] pB:=cj
@[simp] noncomputable def vz:Qe 2 ["thing", "many"] "are_rows" pB fun D n Z=>D 2 "are_weights" ["thing", "many"] v0->n "all"->n "isinstance"->n "len"->n "tuple"->Z:=
 ⟨_,fun ya yb yc yd ye hr=>(az (bx (DW.dt (eZ (cA (bN (aV cZ yc (aj (aa 0) (aj (gG (T := "tuple") ye) ak))) (fun _=>rfl))) (d8 (aW (dN hr.units) (aV call_lenD yd (aj (aa 0) ak)) (aa 1)))))
  (aD (aM cN))
  aU)
  (aD (aM (aV (qm hr.hd) yb (aj (Be "row" [1] ["many"] (lg (aa 0)) (aO ya hr qJ (aj (aa 0) (aj (aa 1) ak)))) ak)))))⟩
noncomputable def uH:=(vz v0).1
abbrev pC:Stmt:=top 29
def Aq:Sc ["thing", "many"] ["thing", "many"] pC:=cj
@[simp] noncomputable def vA:Qe 1 ["thing", "many"] "is_place" pC λD n Z=>D 1 "is_whole" ["thing"] v0->Z:=
 ⟨_,λya hr=>(aD (aM (jx (aO ya hr aH (aj (aa 0) ak)) (jy (Hk jB nG aB (aa 0) (aa 1))))))⟩
noncomputable def uI:=(vA v0).1
abbrev ut:Stmt:=top 30
def Gq:Sc ["thing"] ["thing"] ut:=cj
@[simp] noncomputable def zQ:Qd 2 ["thing"] "is_lot" ut fun P w K m o Z=>∀{t_MOST_PLACES},DefD P w K m o 2 "are_weights" ["thing", "many"] v0->Gi m "MOST_PLACES" 25 t_MOST_PLACES->Nn m "any"->Nn m "isinstance"->Nn m "len"->Nn m "tuple"->Z:=
 ⟨_,fun ya yb yc yd ye yf hr=>(az (bx (DW.dt (eZ (cA (bN (aV cZ yd (aj (aa 0) (aj (gG (T := "tuple") yf) ak))) (fun _=>rfl))) (d8 (cA (uc jB jB aB (aV call_lenD ye (aj (aa 0) ak)) (Cm yb))))))
  (aD (aM cN))
  aU)
  (aD (aM (jx (aO ya hr aH (aj (aa 0) (aj (aV call_lenD ye (aj (aa 0) ak)) ak))) (jy (aV (DX hr.hd) yc (aj (aa 0) ak)))))))⟩
noncomputable def yG:=(zQ v0).1
abbrev iT:Stmt:=top 31
def uz:Sc ["thing"] ["thing"] iT:=cj
@[simp] noncomputable def mj:Qe 3 ["thing"] "refuse_no_lot" iT fun D n Z=>D 3 "is_lot" ["thing"] v0->Z:=
 ⟨_,fun ya hr=>(aD (bx (cA (bN (aO ya hr aH (aj (aa 0) ak)) (fun _=>rfl)))
  (aD gZ)
  aU))⟩
noncomputable def lM:=(mj v0).1
abbrev iR:Stmt:=top 34
def lE:Sc ["thing", "whole"] ["thing"] iR:=cj
@[simp] noncomputable def lZ:Qd 3 ["thing", "whole"] "can_be_walked" iR fun P w K m o Z=>∀{t_MOST_PLACES},DefD P w K m o 3 "are_rows" ["thing", "many"] v0->Gi m "MOST_PLACES" 25 t_MOST_PLACES->Nn m "all"->Nn m "isinstance"->Nn m "len"->Nn m "sum"->Nn m "tuple"->Z:=
 ⟨_,fun ya yb yc yd ye yf yg hr=>have nd:=lE.nd;(az (bx (DW.dt (eZ (cA (bN (aV cZ yd (aj (aa 0) (aj (gG (T := "tuple") yg) ak))) (fun _=>rfl))) (eZ (cA (uc jB jB aB (aV call_lenD ye (aj (aa 0) ak)) (Cm yb))) (d8 (cA (bN (aO ya hr aH (aj (aa 0) (aj (aV call_lenD ye (aj (aa 0) ak)) ak))) (fun _=>rfl)))))))
  (aD (aM cN))
  aU)
  (az (bf (i:=1) nd rfl (Or.inr rfl) (aV (lN hr.hd) yf (aj (aZ bw (aa 0) aB) ak)))
  (aD (aM (jx (cQ zK (aa 1) aB) (jy (aV (qm hr.hd) yc (aj (Be "row" [1] ["whole"] (lg (aa 0)) (cQ (bu hr.units) (aV (lN hr.hd) yf (aj (aa 0) ak)) (aa 1))) ak))))))))⟩
noncomputable def lL:=(lZ v0).1
abbrev gm:Stmt:=top 35
def qY:Sc ["thing"] ["thing"] gm:=cj
@[simp] noncomputable def km:Qd 1 ["thing"] "refuse_no_steps" gm fun P w K m o Z=>∀{t_MOST_STEPS},DefD P w K m o 1 "is_whole" ["thing"] v0->Gi m "MOST_STEPS" 100 t_MOST_STEPS->Z:=
 ⟨_,fun ya yb hr=>(aD (bx (DW.dt (eZ (cA (bN (aO ya hr aH (aj (aa 0) ak)) (fun _=>rfl))) (d8 (cA (uc jB jB aB (aa 0) (Cm yb))))))
  (aD gZ)
  aU))⟩
noncomputable def kh:=(km v0).1
abbrev dR:Stmt:=inClass (top 39) 1
def vJ:Sc ["self"] ["self"] dR:=cj
@[simp] noncomputable def nJ:Qd 0 ["self"] "Walk.__len__" dR λP w K m o Z=>∀{C_Walk},OCls K m "Walk" C_Walk ["rows", "whole"]->Nn m "len"->Z:=
 ⟨_,λya yb hr=>(aD (aM (aV call_lenD yb (aj (aX ya (by decide) (aa 0)) ak))))⟩
noncomputable def m9:=(nJ).1
abbrev gk:Stmt:=top 36
def qX:Sc ["walk", "thing"] ["walk", "thing"] gk:=cj
@[simp] noncomputable def kj:Qd 2 ["walk", "thing"] "refuse_no_place" gk fun P w K m o Z=>DefD P w K m o 2 "is_place" ["thing", "many"] v0->MethD P w K m o 1 "Walk" "__len__" "Walk.__len__" dR ["self"] v1->Nn m "len"->Z:=
 ⟨_,fun ya yb yc hr=>(aD (bx (cA (bN (aO ya hr aH (aj (aa 1) (aj (aV (xg yb hr aH (fun _ _ _ _ _ _ us hl=>by obtain⟨_,rfl⟩:=cM hl;rfl)) yc (aj (aa 0) ak)) ak))) (fun _=>rfl)))
  (aD gZ)
  aU))⟩
noncomputable def j9:=(kj v0 v1).1
abbrev uv:Stmt:=top 37
def Gs:Sc ["place", "many"] ["place", "many"] uv:=cj
@[simp] noncomputable def zR:Qe 0 ["place", "many"] "lot_at" uv λD n Z=>n "range"->n "tuple"->Z:=
 ⟨_,λya yb hr=>(aD (aM (fZ (T := "tuple") cB yb (aj (Be "at" [0] ["place"] (cH rfl ya (aj (aa 1) ak)) (lQ (aW (bu hr.units) (aa 0) (aa 1)) aB aB)) ak))))⟩
noncomputable def yI:=(zR).1
abbrev qL:Stmt:=top 38
def De:Sc ["rows", "lot"] ["rows", "lot"] qL:=cj
@[simp] noncomputable def xG:Qe 0 ["rows", "lot"] "stepped" qL λD n Z=>n "len"->n "range"->n "sum"->n "tuple"->n "zip"->Z:=
 ⟨_,λya yb yc yd ye hr=>(aD (aM (fZ (T := "tuple") cB yd (aj (jb (own:=["place"]) (js:=[1,0]) (fr:=["lot", "rows"]) .val rfl (by trivial) (cH rfl yb (aj (aV call_lenD ya (aj (aa 1) ak)) ak)) (λz z z z z z=>(bB (i:=0) (zE ["place", "lot", "rows"]) rfl (Or.inr rfl))) (λz z z z z z=>nu) (λz z z z z z=>(aV (lN hr.hd) yc (aj (jb (own:=["weight", "row"]) (js:=[0]) (fr:=["place"]) .val rfl (by trivial) (Lh rfl ye (aj (aa 1) (aj (aa 2) ak))) (λz z z z z z=>(qp (n:=2) rfl (cP (bB (i:=0) (zE ["weight", "row", "place"]) rfl (Or.inl rfl)) (cP (bB (i:=1) (zE ["weight", "row", "place"]) rfl (Or.inl rfl)) nq)))) (λz z z z z z=>nu) (λz z z z z z=>(aY rY (aa 0) (aZ bw (aa 1) (aa 2))))) ak)))) ak))))⟩
noncomputable def xf:=(xG).1
abbrev iM:Stmt:=inClass (top 39) 0
def uy:Sc ["self", "rows"] ["self", "rows"] iM:=cj
@[simp] noncomputable def lY:Qd 4 ["self", "rows"] "Walk.__init__" iM fun P w K m o Z=>∀{C_Walk},DefD P w K m o 4 "can_be_walked" ["thing"] v0->OCls K m "Walk" C_Walk ["rows", "whole"]->Nn m "sum"->Z:=
 ⟨_,fun ya yb yc hr=>(az (bx (cA (bN (aO ya hr aH (aj (aa 1) ak)) (fun _=>rfl)))
  (aD gZ)
  aU)
  (az (dZ yb (by decide) (aa 0) (aa 1))
  (aD (dZ yb (by decide) (aa 0) (aV (lN hr.hd) yc (aj (aZ bw (aa 1) aB) ak))))))⟩
noncomputable def lK:=(lY v0).1
abbrev eN:Stmt:=inClass (top 39) 2
def wK:Sc ["self", "other"] ["self", "other"] eN:=cj
@[simp] noncomputable def jQ:Qd 0 ["self", "other"] "Walk.__eq__" eN λP w K m o Z=>∀{C_Walk},Gc m "Walk" C_Walk->OCls K m "Walk" C_Walk ["rows", "whole"]->OwnC K m "Keeper"->OwnC K m "Walk"->TwoC K m "Keeper" "Walk"->Nn m "isinstance"->Z:=
 ⟨_,λya yb yc yd ye yf hr=>(aD (aM (jx (aV (uK yc yd ye) yf (aj (aa 1) (aj (uO ya) ak))) (jy (cQ (bu hr.units) (aX yb (by decide) (aa 0)) (aX yb (by decide) (aa 1)))))))⟩
noncomputable def jK:=(jQ).1
abbrev iQ:Stmt:=inClass (top 39) 4
def pY:Sc ["self", "lot", "steps", "step"] ["self", "lot", "steps"] iQ:=cj
@[simp] noncomputable def lC:Qd 4 ["self", "lot", "steps", "step"] "Walk.after" iQ fun P w K m o Z=>∀{C_Walk},DefD P w K m o 4 "refuse_no_lot" ["thing"] v0->DefD P w K m o 2 "refuse_no_steps" ["thing"] v1->DefD P w K m o 1 "stepped" ["rows", "lot"] v2->OCls K m "Walk" C_Walk ["rows", "whole"]->Nn m "len"->Nn m "range"->Z:=
 ⟨_,fun ya yb yc yd ye yf hr=>have nd:=pY.nd;(az (cz (aO ya hr aH (aj (aa 1) ak)))
  (az (bx (aW (dN hr.units) (aV call_lenD ye (aj (aa 1) ak)) (aV call_lenD ye (aj (aX yd (by decide) (aa 0)) ak)))
  (aD gZ)
  aU)
  (az (cz (aO yb hr aH (aj (aa 2) ak)))
  (az (gA 0 U4 rfl (cH rfl yf (aj (aa 2) ak)) (bB (i:=3) nd rfl (Or.inl rfl))
  (aD (bf (i:=1) nd rfl (Or.inl rfl) (aO yc hr aH (aj (aX yd (by decide) (aa 0)) (aj (aa 1) ak))))))
  (aD (aM (aa 1)))))))⟩
noncomputable def qi:=(lC v0 v1 v2).1
abbrev fQ:Stmt:=inClass (top 39) 5
def pZ:Sc ["self", "steps", "many"] ["self", "steps"] fQ:=cj
@[simp] noncomputable def qK:Qd 5 ["self", "steps", "many"] "Walk.power" fQ fun P w K m o Z=>∀{C_Walk},DefD P w K m o 1 "lot_at" ["place", "many"] v0->MethD P w K m o 5 "Walk" "after" "Walk.after" iQ ["self", "lot", "steps"] v1->OCls K m "Walk" C_Walk ["rows", "whole"]->Nn m "len"->Nn m "range"->Nn m "tuple"->Z:=
 ⟨_,fun ya yb yc yd ye yf hr=>have nd:=pZ.nd;(az (bf (i:=2) nd rfl (Or.inr rfl) (aV call_lenD yd (aj (aX yc (by decide) (aa 0)) ak)))
  (aD (aM (fZ (T := "tuple") cB yf (aj (Be "place" [0,2,1] ["self", "many", "steps"] (cH rfl ye (aj (aa 2) ak)) (oR (ks:=["steps"]) yb hr qJ (aa 1) (aj (aO ya hr qJ (aj (aa 0) (aj (aa 2) ak))) ak) (Cp (aa 3) uQ) (λz z z z z z us ws h1 h2=>by obtain⟨_,rfl⟩:=cM h1;obtain⟨_,_,rfl⟩:=dJ (show us.length=2 by simpa using h2);rfl))) ak)))))⟩
noncomputable def qj:=(qK v0 v1).1
abbrev jV:Stmt:=top 41
def wM:Sc ["thing", "low"] ["thing", "low"] jV:=cj
@[simp] noncomputable def pX:Qe 1 ["thing", "low"] "refuse_less" jV fun D n Z=>D 1 "is_whole" ["thing"] v0->Z:=
 ⟨_,fun ya hr=>(aD (bx (DW.dt (eZ (cA (bN (aO ya hr aH (aj (aa 0) ak)) (fun _=>rfl))) (d8 (aW nG (aa 0) (aa 1)))))
  (aD gZ)
  aU))⟩
noncomputable def pP:=(pX v0).1
abbrev ig:Stmt:=top 46
def kI:Sc ["walk", "x", "y", "z", "many", "place"] ["walk", "x", "y", "z", "many"] ig:=cj
@[simp] noncomputable def ie:Qe 3 ["walk", "x", "y", "z", "many", "place"] "refuse_no_move" ig fun D n Z=>D 3 "refuse_no_place" ["walk", "thing"] v0->D 2 "refuse_less" ["thing", "low"] v1->Z:=
 ⟨_,fun ya yb hr=>have nd:=kI.nd;(az (gA 0 PassesOwn.leaving rfl (lg (bH (aj (aa 1) (aj (aa 2) (aj (aa 3) ak))))) (bB (i:=5) nd rfl (Or.inl rfl))
  (aD (cz (aO ya hr aH (aj (aa 0) (aj (aa 5) ak))))))
  (aD (cz (aO yb hr aH (aj (aa 4) (aj aB ak))))))⟩
noncomputable def kY:=(ie v0 v1).1
abbrev wF:Stmt:=top 47
def Aa:Sc ["walk", "x", "y", "z", "many", "row"] ["walk", "x", "y", "z", "many"] wF:=cj
@[simp] noncomputable def su:Qd 6 ["walk", "x", "y", "z", "many", "row"] "moved" wF fun P w K m o Z=>∀{F0 C_Walk},ClsD P w K m o 5 "Walk" v0->XTab K m mq F0->OCls K m "Walk" C_Walk ["rows", "whole"]->Nn m "list"->Nn m "tuple"->Z:=
 ⟨_,fun ya yb yc yd ye hr=>have nd:=Aa.nd;(az (bx (DW.dt (eZ (aW (bu hr.units) (aa 2) (aa 3)) (d8 (aW nG (aZ bw (aZ bw (aX yc (by decide) (aa 0)) (aa 1)) (aa 2)) (aa 4)))))
  (aD (tZ yb (by decide) aR))
  aU)
  (az (bf (i:=5) nd rfl (Or.inl rfl) (fZ (T := "list") oO yd (aj (aZ bw (aX yc (by decide) (aa 0)) (aa 1)) ak)))
  (az (vV (aa 5) (aa 2) Hz (aa 4))
  (az (vV (aa 5) (aa 3) um (aa 4))
  (aD (aM (eO ya hr aH (aj (aY bz (aY bz (fK (aX yc (by decide) (aa 0)) ir (eQ (aa 1))) (bH (aj (fZ (T := "tuple") cB ye (aj (aa 5) ak)) ak))) (fK (aX yc (by decide) (aa 0)) (eQ (aY bz (aa 1) aB)) ir)) ak))))))))⟩
noncomputable def vR:=(su v0).1
abbrev gj:Stmt:=inClass (top 48) 0
def qM:Sc ["self", "walk"] ["self", "walk"] gj:=cj
@[simp] noncomputable def f9:Qd 6 ["self", "walk"] "Keeper.__init__" gj fun P w K m o Z=>∀{C_Walk C_Keeper},MethD P w K m o 6 "Walk" "power" "Walk.power" fQ ["self", "steps"] v0->Gc m "Walk" C_Walk->OCls K m "Keeper" C_Keeper ["kept", "marks", "deeds", "powers", "made", "__bool__"]->OwnC K m "Walk"->Nn m "isinstance"->Z:=
 ⟨_,fun ya yb yc yd ye hr=>(az (bx (cA (bN (aV (Eb yd) ye (aj (aa 1) (aj (uO yb) ak))) (fun _=>rfl)))
  (aD gZ)
  aU)
  (az (dZ yc (by decide) (aa 0) (aa 1))
  (az (dZ yc (by decide) (aa 0) (bH ak))
  (az (dZ yc (by decide) (aa 0) (nj ak))
  (az (dZ yc (by decide) (aa 0) (nj (aj (ik ya hr aH (aa 1) (aj aB ak) (λz z z z z z us hl=>by obtain⟨_,_,rfl⟩:=dJ hl;rfl)) ak)))
  (aD (dZ yc (by decide) (aa 0) aB)))))))⟩
noncomputable def jX:=(f9 v0).1
abbrev fD:Stmt:=inClass (top 48) 2
def uw:Sc ["self", "other"] ["self", "other"] fD:=cj
@[simp] noncomputable def fB:Qd 2 ["self", "other"] "Keeper.__eq__" fD λP w K m o Z=>∀{C_Keeper},MethD P w K m o 1 "Walk" "__eq__" "Walk.__eq__" eN ["self", "other"] v0->Gc m "Keeper" C_Keeper->OCls K m "Keeper" C_Keeper ["kept", "marks", "deeds", "powers", "made", "__bool__"]->OwnC K m "Keeper"->OwnC K m "Walk"->TwoC K m "Keeper" "Walk"->Nn m "isinstance"->Z:=
 ⟨_,λya yb yc yd ye yf yg hr=>(aD (aM (jx (aV (uK yd ye yf) yg (aj (aa 1) (aj (uO yb) ak))) (jy (cQ (Fy ya hr aH (λz z z z z z us hl=>by obtain⟨_,_,rfl⟩:=dJ hl;rfl)) (aX yc (by decide) (aa 0)) (aX yc (by decide) (aa 1)))))))⟩
noncomputable def iB:=(fB v0).1
abbrev cR:Stmt:=inClass (top 48) 3
def qN:Sc ["self"] ["self"] cR:=cj
@[simp] noncomputable def gb:Qd 2 ["self"] "Keeper.__repr__" cR λP w K m o Z=>∀{C_Keeper},MethD P w K m o 1 "Walk" "__len__" "Walk.__len__" dR ["self"] v0->OCls K m "Keeper" C_Keeper ["kept", "marks", "deeds", "powers", "made", "__bool__"]->Nn m "len"->Z:=
 ⟨_,λya yb yc hr=>(aD (aM (Hl (.cons aR (.cons (Ek (aV (xg ya hr aH (λz z z z z z us hl=>by obtain⟨_,rfl⟩:=cM hl;rfl)) yc (aj (aX yb (by decide) (aa 0)) ak))) (.cons aR (.cons (Ek (aV call_lenD yc (aj (aX yb (by decide) (aa 0)) ak))) (.cons aR .nil))))))))⟩
noncomputable def jY:=(gb v0).1
abbrev dq:Stmt:=inClass (top 48) 5
def ux:Sc ["self", "walk", "marks"] ["self", "walk", "marks"] dq:=cj
@[simp] noncomputable def iK:Qd 6 ["self", "walk", "marks"] "Keeper.change" dq fun P w K m o Z=>∀{C_Keeper},MethD P w K m o 6 "Walk" "power" "Walk.power" fQ ["self", "steps"] v0->OCls K m "Keeper" C_Keeper ["kept", "marks", "deeds", "powers", "made", "__bool__"]->Z:=
 ⟨_,fun ya yb hr=>(az (dZ yb (by decide) (aa 0) (aa 1))
  (az (dZ yb (by decide) (aa 0) (aa 2))
  (aD (dZ yb (by decide) (aa 0) (nj (aj (ik ya hr aH (aa 1) (aj aB ak) (λz z z z z z us hl=>by obtain⟨_,_,rfl⟩:=dJ hl;rfl)) ak))))))⟩
noncomputable def lJ:=(iK v0).1
abbrev eU:Stmt:=inClass (top 48) 6
def zY:Sc ["self", "walk", "marks"] ["self", "walk", "marks"] eU:=cj
@[simp] noncomputable def mJ:Qd 7 ["self", "walk", "marks"] "Keeper.do" eU fun P w K m o Z=>∀{C_Keeper},MethD P w K m o 7 "Keeper" "change" "Keeper.change" dq ["self", "walk", "marks"] v0->OCls K m "Keeper" C_Keeper ["kept", "marks", "deeds", "powers", "made", "__bool__"]->Z:=
 ⟨_,fun ya yb hr=>(az (cz (uN PySem.F.plainAttrs_list PySem.F.slot_list_append PySem.F.type_list_append ww (aX yb (by decide) (aa 0)) (aj (bH (aj (aX yb (by decide) (aa 0)) (aj (aX yb (by decide) (aa 0)) ak))) ak)))
  (aD (cz (ik ya hr aH (aa 0) (aj (aa 1) (aj (aa 2) ak)) (λz z z z z z us hl=>by obtain⟨_,_,_,rfl⟩:=qC hl;rfl)))))⟩
noncomputable def sX:=(mJ v0).1
abbrev gQ:Stmt:=inClass (top 48) 7
def wI:Sc ["self", "x", "y", "z", "many"] ["self", "x", "y", "z", "many"] gQ:=cj
@[simp] noncomputable def gJ:Qd 8 ["self", "x", "y", "z", "many"] "Keeper.move" gQ fun P w K m o Z=>∀{C_Keeper},DefD P w K m o 4 "refuse_no_move" ["walk", "x", "y", "z", "many"] v0->DefD P w K m o 7 "moved" ["walk", "x", "y", "z", "many"] v1->MethD P w K m o 8 "Keeper" "do" "Keeper.do" eU ["self", "walk", "marks"] v2->OCls K m "Keeper" C_Keeper ["kept", "marks", "deeds", "powers", "made", "__bool__"]->Z:=
 ⟨_,fun ya yb yc yd hr=>(az (cz (aO ya hr aH (aj (aX yd (by decide) (aa 0)) (aj (aa 1) (aj (aa 2) (aj (aa 3) (aj (aa 4) ak)))))))
  (aD (cz (ik yc hr aH (aa 0) (aj (aO yb hr aH (aj (aX yd (by decide) (aa 0)) (aj (aa 1) (aj (aa 2) (aj (aa 3) (aj (aa 4) ak)))))) (aj (aX yd (by decide) (aa 0)) ak)) (λv v v v v v us hl=>by obtain⟨_,_,_,rfl⟩:=qC hl;rfl)))))⟩
noncomputable def jH:=(gJ v0 v1 v2).1
abbrev gP:Stmt:=inClass (top 48) 8
def wH:Sc ["self"] ["self"] gP:=cj
@[simp] noncomputable def jN:Qd 8 ["self"] "Keeper.mark" gP λP w K m o Z=>∀{C_Keeper},MethD P w K m o 8 "Keeper" "do" "Keeper.do" eU ["self", "walk", "marks"] v0->OCls K m "Keeper" C_Keeper ["kept", "marks", "deeds", "powers", "made", "__bool__"]->Z:=
 ⟨_,λya yb hr=>(aD (cz (ik ya hr aH (aa 0) (aj (aX yb (by decide) (aa 0)) (aj (aY bz (aX yb (by decide) (aa 0)) (bH (aj (aX yb (by decide) (aa 0)) ak))) ak)) (λz z z z z z us hl=>by obtain⟨_,_,_,rfl⟩:=qC hl;rfl))))⟩
noncomputable def pK:=(jN v0).1
abbrev gO:Stmt:=inClass (top 48) 9
def wG:Sc ["self"] ["self"] gO:=cj
@[simp] noncomputable def gH:Qd 8 ["self"] "Keeper.back" gO fun P w K m o Z=>∀{F0 C_Keeper},MethD P w K m o 8 "Keeper" "do" "Keeper.do" eU ["self", "walk", "marks"] v0->XTab K m mq F0->OCls K m "Keeper" C_Keeper ["kept", "marks", "deeds", "powers", "made", "__bool__"]->Nn m "len"->Z:=
 ⟨_,fun ya yb yc yd hr=>(az (bx (aW (bu hr.units) (aV call_lenD yd (aj (aX yc (by decide) (aa 0)) ak)) aB)
  (aD (tZ yb (by decide) aR))
  aU)
  (aD (cz (ik ya hr aH (aa 0) (aj (aZ bw (aX yc (by decide) (aa 0)) (fJ aB)) (aj (fK (aX yc (by decide) (aa 0)) ir (eQ (fJ aB))) ak)) (λz z z z z z us hl=>by obtain⟨_,_,_,rfl⟩:=qC hl;rfl)))))⟩
noncomputable def jG:=(gH v0).1
abbrev gU:Stmt:=inClass (top 48) 10
def ou:Sc ["self", "walk", "marks"] ["self"] gU:=cj
@[simp] noncomputable def gM:Qd 7 ["self", "walk", "marks"] "Keeper.undo" gU fun P w K m o Z=>∀{F0 C_Keeper},MethD P w K m o 7 "Keeper" "change" "Keeper.change" dq ["self", "walk", "marks"] v0->XTab K m mq F0->OCls K m "Keeper" C_Keeper ["kept", "marks", "deeds", "powers", "made", "__bool__"]->Nn m "len"->Z:=
 ⟨_,fun ya yb yc yd hr=>have nd:=ou.nd;(az (bx (aW (bu hr.units) (aV call_lenD yd (aj (aX yc (by decide) (aa 0)) ak)) aB)
  (aD (tZ yb (by decide) aR))
  aU)
  (az (lq (Ju (aX yc (by decide) (aa 0))) (qp (n:=2) rfl (cP (bB (i:=1) nd rfl (Or.inl rfl)) (cP (bB (i:=2) nd rfl (Or.inl rfl)) nq))))
  (aD (cz (ik ya hr aH (aa 0) (aj (aa 1) (aj (aa 2) ak)) (λz z z z z z us hl=>by obtain⟨_,_,_,rfl⟩:=qC hl;rfl))))))⟩
noncomputable def jJ:=(gM v0).1
abbrev eG:Stmt:=inClass (top 48) 11
def wJ:Sc ["self"] ["self"] eG:=cj
@[simp] noncomputable def jP:Qd 0 ["self"] "Keeper.walk" eG λP w K m o Z=>∀{C_Keeper},OCls K m "Keeper" C_Keeper ["kept", "marks", "deeds", "powers", "made", "__bool__"]->Z:=
 ⟨_,λya hr=>(aD (aM (aX ya (by decide) (aa 0))))⟩
noncomputable def pM:=(jP).1
abbrev cT:Stmt:=inClass (top 48) 12
def iz:Sc ["self", "steps", "last"] ["self", "steps"] cT:=cj
@[simp] noncomputable def dY:Qd 1 ["self", "steps", "last"] "Keeper.power_after" cT fun P w K m o Z=>∀{C_Keeper C_Walk},DefD P w K m o 1 "stepped" ["rows", "lot"] v0->OCls K m "Keeper" C_Keeper ["kept", "marks", "deeds", "powers", "made", "__bool__"]->OCls K m "Walk" C_Walk ["rows", "whole"]->Nn m "len"->Nn m "tuple"->Z:=
 ⟨_,fun ya yb yc yd ye hr=>have nd:=iz.nd;(az (Hn N PassesOwn.leaving (aW jB (aV call_lenD yd (aj (aX yb (by decide) (aa 0)) ak)) (aa 1)) (az (bf (i:=2) nd rfl (Or.inl rfl) (aZ bw (aX yb (by decide) (aa 0)) (fJ aB)))
  (az (cz (uN Vl WY W0 ww (aX yb (by decide) (aa 0)) (aj (fZ (T := "tuple") cB ye (aj (Be "lot" [0] ["self"] (lg (aa 2)) (aO ya hr qJ (aj (aX yc (by decide) (aX yb (by decide) (aa 1))) (aj (aa 0) ak)))) ak)) ak)))
  (aD (Jx yb (by decide) (aa 0) aB um)))))
  (aD (aM (aZ bw (aX yb (by decide) (aa 0)) (aa 1)))))⟩
noncomputable def iC:=(dY N v0).1
abbrev fW:Stmt:=inClass (top 48) 13
def vI:Sc ["self", "start", "steps"] ["self", "start", "steps"] fW:=cj
@[simp] noncomputable def jg:Qd 3 ["self", "start", "steps"] "Keeper.after" fW fun P w K m o Z=>∀{C_Keeper},DefD P w K m o 3 "refuse_no_place" ["walk", "thing"] v0->DefD P w K m o 2 "refuse_no_steps" ["thing"] v1->MethD P w K m o 2 "Keeper" "power_after" "Keeper.power_after" cT ["self", "steps"] v2->OCls K m "Keeper" C_Keeper ["kept", "marks", "deeds", "powers", "made", "__bool__"]->Z:=
 ⟨_,fun ya yb yc yd hr=>(az (cz (aO ya hr aH (aj (aX yd (by decide) (aa 0)) (aj (aa 1) ak))))
  (az (cz (aO yb hr aH (aj (aa 2) ak)))
  (aD (aM (aZ bw (ik yc hr aH (aa 0) (aj (aa 2) ak) (λz z z z z z us hl=>by obtain⟨_,_,rfl⟩:=dJ hl;rfl)) (aa 1))))))⟩
noncomputable def m8:=(jg v0 v1 v2).1
abbrev dF:Stmt:=inClass (top 48) 17
def qO:Sc ["self"] ["self"] dF:=cj
@[simp] noncomputable def gf:Qd 0 ["self"] "Keeper.reckoned" dF λP w K m o Z=>∀{C_Keeper},OCls K m "Keeper" C_Keeper ["kept", "marks", "deeds", "powers", "made", "__bool__"]->Z:=
 ⟨_,λya hr=>(aD (aM (aX ya (by decide) (aa 0))))⟩
noncomputable def jZ:=(gf).1
abbrev gR:Stmt:=inClass (top 48) 18
def oh:Sc ["self", "other"] ["self"] gR:=cj
@[simp] noncomputable def jO:Qd 8 ["self", "other"] "Keeper.twin" gR fun P w K m o Z=>∀{C_Keeper},ClsD P w K m o 7 "Keeper" v0->OCls K m "Keeper" C_Keeper ["kept", "marks", "deeds", "powers", "made", "__bool__"]->Nn m "list"->Z:=
 ⟨_,fun ya yb yc hr=>have nd:=oh.nd;(az (bf (i:=1) nd rfl (Or.inl rfl) (eO ya hr aH (aj (aX yb (by decide) (aa 0)) ak)))
  (az (dZ yb (by decide) (aa 1) (aX yb (by decide) (aa 0)))
  (az (dZ yb (by decide) (aa 1) (fZ (T := "list") oO yc (aj (aX yb (by decide) (aa 0)) ak)))
  (aD (aM (aa 1))))))⟩
noncomputable def pL:=(jO v0).1
abbrev ji:Stmt:=top 50
def vK:Sc ["_law_script", "_law_k"] ["_law_script", "_law_k"] ji:=cj
@[simp] noncomputable def nQ:Qe 0 ["_law_script", "_law_k"] "_law_cell_at" ji fun D n Z=>n "len"->Z:=
 ⟨_,fun ya hr=>(az (bx (aW nG (aa 1) (aV call_lenD ya (aj (aa 0) ak)))
  (aD (aM (aZ bw (aa 0) (aa 1))))
  aU)
  (aD (aM aB)))⟩
noncomputable def iZ:=(nQ).1
abbrev mY:Stmt:=top 51
def qR:Sc ["_law_seed"] ["_law_seed"] mY:=cj
@[simp] noncomputable def tM:Qe 0 ["_law_seed"] "_law_next" mY fun _ _ Z=>Z:=
 ⟨_,fun  hr=>have nd:=qR.nd;(az (bf (i:=0) nd rfl (Or.inl rfl) (aY iy (aY bz (aa 0) aB) aB))
  (aD (aM (aY iy (aY bz (aY bz (aY rY (aa 0) (aa 0)) (aY rY aB (aa 0))) aB) aB))))⟩
noncomputable def tu:=(tM).1
abbrev jT:Stmt:=top 52
def oA:Sc ["_law_cell", "_law_left"] ["_law_cell"] jT:=cj
@[simp] noncomputable def jR:Qe 0 ["_law_cell", "_law_left"] "_law_pen_of" jT fun D n Z=>n "int"->n "max"->Z:=
 ⟨_,fun ya yb hr=>have nd:=oA.nd;(az (bf (i:=1) nd rfl (Or.inl rfl) (aV (uL rfl) yb (aj (aa 0) (aj (aY rZ aB (aa 0)) ak))))
  (aD (aM (nj (aj (aa 1) (aj (fZ (T := "int") oN ya (aj (cQ zK (aa 1) (aY JT aB aB)) ak)) (aj (aY iy (aa 1) aB) ak)))))))⟩
noncomputable def pN:=(jR).1
abbrev mW:Stmt:=top 53
def qQ:Sc ["_law_pen", "_law_size", "_law_found"] ["_law_pen", "_law_size"] mW:=cj
@[simp] noncomputable def mO:Qe 1 ["_law_pen", "_law_size", "_law_found"] "_law_draw" mW fun D n Z=>D 1 "_law_next" ["_law_seed"] v0->Z:=
 ⟨_,fun ya hr=>have nd:=qQ.nd;(az (bx (DW.dt (Lk (aW (bu hr.units) (aZ bw (aa 0) aB) aB) (JB (aW vm (aZ bw (aa 0) aB) aB))))
  (az (bf (i:=2) nd rfl (Or.inl rfl) (aY iy (aZ bw (aa 0) aB) (aa 1)))
  (az (lq (aY o6 (aZ bw (aa 0) aB) (aa 1)) (uP (aa 0) aB vL))
  (aD (aM (aa 2)))))
  aU)
  (az (lq (aO ya hr aH (aj (aY bz (aO ya hr aH (aj (aZ bw (aa 0) aB) ak)) aB) ak)) (uP (aa 0) aB vL))
  (aD (aM (aY iy (aY o6 (aZ bw (aa 0) aB) aB) (aa 1))))))⟩
noncomputable def sZ:=(mO v0).1
abbrev mZ:Stmt:=top 54
def qT:Sc ["_law_pen", "_law_most", "_law_size", "_law_whole", "_law_way", "_law_rows_here", "_law_x", "_law_some", "_law_row", "_law_ball"] ["_law_pen", "_law_most"] mZ:=cj
@[simp] noncomputable def mQ:Qe 2 ["_law_pen", "_law_most", "_law_size", "_law_whole", "_law_way", "_law_rows_here", "_law_x", "_law_some", "_law_row", "_law_ball"] "_law_rows" mZ fun D n Z=>D 2 "_law_draw" ["_law_pen", "_law_size"] v0->n "int"->n "len"->n "list"->n "range"->n "tuple"->Z:=
 ⟨_,fun ya yb yc yd ye yf hr=>have nd:=qT.nd;(az (Jy (i:=2) (j:=3) (k:=4) rfl nd rfl rfl rfl (by decide) (by decide) (by decide) rfl rfl rfl (aj (aY bz aB (aO ya hr aH (aj (aa 0) (aj (aa 1) ak)))) (aj (aZ bw (bV (aj aB (aj aB (aj aB (aj aB (aj aB (aj aB ak))))))) (aO ya hr aH (aj (aa 0) (aj aB ak)))) (aj (aO ya hr aH (aj (aa 0) (aj aB ak))) ak))) rfl)
  (az (bf (i:=5) nd rfl (Or.inl rfl) (nj ak))
  (az (gA 0 U4 rfl (cH rfl ye (aj (aa 2) ak)) (bB (i:=6) nd rfl (Or.inr rfl))
  (az (bf (i:=7) nd rfl (Or.inl rfl) (xn rfl yd ye (aj (aa 2) ak)))
  (az (bx (aW (bu hr.units) (aa 4) aB)
  (aD (bf (i:=7) nd rfl (Or.inl rfl) (bV (aj (aO ya hr aH (aj (aa 0) (aj (aa 2) ak))) (aj (aO ya hr aH (aj (aa 0) (aj (aa 2) ak))) ak)))))
  aU)
  (az (bx (aW (bu hr.units) (aa 4) aB)
  (aD (bf (i:=7) nd rfl (Or.inl rfl) (bV (aj (aY iy (aY bz (aa 6) aB) (aa 2)) ak))))
  aU)
  (az (bx (aW (bu hr.units) (aa 4) aB)
  (aD (bf (i:=7) nd rfl (Or.inl rfl) (aY bz (jb (own:=["_law_y"]) (js:=[6]) (fr:=["_law_x"]) .val rfl (by trivial) (cH rfl ye (aj (aa 2) ak)) (λz z z z z z=>(bB (i:=0) (zE ["_law_y", "_law_x"]) rfl (Or.inl rfl))) (λz z z z z z=>(vW (aW (dN hr.units) (aY iy (aa 0) aB) (aY iy (aa 1) aB)))) (λz z z z z z=>(aa 0))) (aY Bs (bV (aj (aa 6) ak)) (fZ (T := "int") oN yb (aj (cQ (bu hr.units) (aa 2) aB) ak))))))
  aU)
  (az (bx (aW (bu hr.units) (aa 4) aB)
  (aD (yQ (i:=7) (own:=["_law_y"]) (js:=[6]) (fr:=["_law_x"]) .val nd rfl (Or.inl rfl) rfl (by trivial) (cH rfl ye (aj (aa 2) ak)) (λz z z z z z=>(bB (i:=0) (zE ["_law_y", "_law_x"]) rfl (Or.inl rfl))) (λz z z z z z=>(vW (aW (bu hr.units) (aY o6 (aa 0) aB) (aY o6 (aa 1) aB)))) (λz z z z z z=>(aa 0))))
  aU)
  (az (bx (aW (bu hr.units) (aa 4) aB)
  (aD (bf (i:=7) nd rfl (Or.inl rfl) (xn rfl yd ye (aj (aY bz (aa 6) aB) ak))))
  aU)
  (az (bf (i:=8) nd rfl (Or.inl rfl) (aY JS (bV (aj aB ak)) (aa 2)))
  (az (gA 0 U4 rfl (cH rfl ye (aj (aa 3) ak)) (bB (i:=9) nd rfl (Or.inl rfl))
  (aD (vV (aa 8) (aZ bw (aa 7) (aO ya hr aH (aj (aa 0) (aj (aV call_lenD yc (aj (aa 7) ak)) ak)))) um aB)))
  (aD (cz (uN Vl WY W0 ww (aa 5) (aj (fZ (T := "tuple") cB yf (aj (aa 8) ak)) ak)))))))))))))
  (aD (aM (fZ (T := "tuple") cB yf (aj (aa 5) ak)))))))⟩
noncomputable def tE:=(mQ v0).1
abbrev mU:Stmt:=top 55
def qP:Sc ["_law_pen", "_law_rows_here", "_law_way", "_law_size", "_law_x", "_law_some", "_law_y", "_law_much"] ["_law_pen", "_law_rows_here"] mU:=cj
@[simp] noncomputable def mK:Qe 2 ["_law_pen", "_law_rows_here", "_law_way", "_law_size", "_law_x", "_law_some", "_law_y", "_law_much"] "_law_deed" mU fun D n Z=>D 2 "_law_draw" ["_law_pen", "_law_size"] v0->n "enumerate"->n "int"->n "len"->n "max"->Z:=
 ⟨_,fun ya yb yc yd ye hr=>have nd:=qP.nd;(az (yR (i:=2) (j:=3) rfl nd rfl rfl (by decide) rfl rfl (aj (aO ya hr aH (aj (aa 0) (aj aB ak))) (aj (aV call_lenD yd (aj (aa 1) ak)) ak)) rfl)
  (az (bx (aW nG (aa 2) aB)
  (az (bf (i:=4) nd rfl (Or.inl rfl) (aO ya hr aH (aj (aa 0) (aj (aa 3) ak))))
  (az (yQ (i:=5) (own:=["_law_y", "_law_weight"]) (js:=[]) (fr:=[]) .val nd rfl (Or.inl rfl) rfl (by trivial) (Jv rfl yb (aj (aZ bw (aa 1) (aa 4)) ak)) (λz z z z z z=>(qp (n:=2) rfl (cP (bB (i:=0) (zE ["_law_y", "_law_weight"]) rfl (Or.inl rfl)) (cP (bB (i:=1) (zE ["_law_y", "_law_weight"]) rfl (Or.inl rfl)) nq)))) (λz z z z z z=>(vW (aW vm (aa 1) aB))) (λz z z z z z=>(aa 0)))
  (az (bf (i:=6) nd rfl (Or.inl rfl) (lQ (aW vm (aO ya hr aH (aj (aa 0) (aj aB ak))) aB) (aZ bw (aa 5) (aO ya hr aH (aj (aa 0) (aj (aV call_lenD yd (aj (aa 5) ak)) ak)))) (aO ya hr aH (aj (aa 0) (aj (aa 3) ak)))))
  (az (bf (i:=7) nd rfl (Or.inl rfl) (aY bz (aY bz aB (aO ya hr aH (aj (aa 0) (aj (aV (uL rfl) ye (aj aB (aj (aZ bw (aZ bw (aa 1) (aa 4)) (aa 6)) ak))) ak)))) (fZ (T := "int") oN yc (aj (cQ (bu hr.units) (aO ya hr aH (aj (aa 0) (aj aB ak))) aB) ak))))
  (aD (aM (bH (aj aR (aj (aa 4) (aj (aa 6) (aj (aO ya hr aH (aj (aa 0) (aj (aa 3) ak))) (aj (aa 7) ak))))))))))))
  aU)
  (aD (aM (bH (aj (aZ bw (bV (aj aR (aj aR (aj aR (aj aR (aj aR (aj aR ak))))))) (aY rZ (aa 2) aB)) ak))))))⟩
noncomputable def sY:=(mK v0).1
abbrev pA:Stmt:=top 56
def tO:Sc ["_law_past", "_law_deed_here", "_law_rows_here", "_law_marks", "_law_x", "_law_y", "_law_z", "_law_much", "_law_row"] ["_law_past", "_law_deed_here"] pA:=cj
@[simp] noncomputable def o7:Qe 0 ["_law_past", "_law_deed_here", "_law_rows_here", "_law_marks", "_law_x", "_law_y", "_law_z", "_law_much", "_law_row"] "_law_due" pA fun D n Z=>n "len"->n "list"->n "tuple"->Z:=
 ⟨_,fun ya yb yc hr=>have nd:=tO.nd;(az (lq (aZ bw (aa 0) (fJ aB)) (qp (n:=2) rfl (cP (bB (i:=2) nd rfl (Or.inl rfl)) (cP (bB (i:=3) nd rfl (Or.inl rfl)) nq))))
  (az (bx (aW (bu hr.units) (aZ bw (aa 1) aB) aR)
  (aD (aM (lQ (aW vm (aV call_lenD ya (aj (aa 0) ak)) aB) (fK (aa 0) ir (eQ (fJ aB))) (bH (aj aR ak)))))
  aU)
  (az (bx (aW (bu hr.units) (aZ bw (aa 1) aB) aR)
  (aD (aM (aY bz (aa 0) (bV (aj (bH (aj (aa 2) (aj (aY bz (aa 3) (bH (aj (aa 2) ak))) ak))) ak)))))
  aU)
  (az (bx (aW (bu hr.units) (aZ bw (aa 1) aB) aR)
  (aD (aM (lQ (aW (dN hr.units) (aa 3) (bH ak)) (aY bz (aa 0) (bV (aj (bH (aj (aZ bw (aa 3) (fJ aB)) (aj (fK (aa 3) ir (eQ (fJ aB))) ak))) ak))) (bH (aj aR ak)))))
  aU)
  (az (lq (fK (aa 1) (eQ aB) ir) (qp (n:=4) rfl (cP (bB (i:=4) nd rfl (Or.inl rfl)) (cP (bB (i:=5) nd rfl (Or.inl rfl)) (cP (bB (i:=6) nd rfl (Or.inl rfl)) (cP (bB (i:=7) nd rfl (Or.inl rfl)) nq))))))
  (az (bx (DW.dt (eZ (aW (bu hr.units) (aa 5) (aa 6)) (d8 (aW nG (aZ bw (aZ bw (aa 2) (aa 4)) (aa 5)) (aa 7)))))
  (aD (aM (bH (aj aR ak))))
  aU)
  (az (bf (i:=8) nd rfl (Or.inl rfl) (fZ (T := "list") oO yb (aj (aZ bw (aa 2) (aa 4)) ak)))
  (az (lq (aY rZ (aZ bw (aa 8) (aa 5)) (aa 7)) (uP (aa 8) (aa 5) vL))
  (az (lq (aY bz (aZ bw (aa 8) (aa 6)) (aa 7)) (uP (aa 8) (aa 6) vL))
  (aD (aM (aY bz (aa 0) (bV (aj (bH (aj (aY bz (aY bz (fK (aa 2) ir (eQ (aa 4))) (bH (aj (fZ (T := "tuple") cB yc (aj (aa 8) ak)) ak))) (fK (aa 2) (eQ (aY bz (aa 4) aB)) ir)) (aj (aa 3) ak))) ak))))))))))))))⟩
noncomputable def uG:=(o7).1
abbrev mV:Stmt:=top 57
def zZ:Sc ["_law_keeper", "_law_deed_here"] ["_law_keeper", "_law_deed_here"] mV:=cj
@[simp] noncomputable def jo:Qd 9 ["_law_keeper", "_law_deed_here"] "_law_done" mV fun P w K m o Z=>MethD P w K m o 9 "Keeper" "move" "Keeper.move" gQ ["self", "x", "y", "z", "many"] v0->MethD P w K m o 9 "Keeper" "mark" "Keeper.mark" gP ["self"] v1->MethD P w K m o 9 "Keeper" "back" "Keeper.back" gO ["self"] v2->MethD P w K m o 8 "Keeper" "undo" "Keeper.undo" gU ["self"] v3->Z:=
 ⟨_,fun ya yb yc yd hr=>(az (bx (aW (bu hr.units) (aZ bw (aa 1) aB) aR)
  (aD (aM (oR (ks:=["many"]) ya hr aH (aa 0) (aj (aZ bw (aa 1) aB) (aj (aZ bw (aa 1) aB) (aj (aZ bw (aa 1) aB) ak))) (Cp (aZ bw (aa 1) aB) uQ) (λv v v v v v us ws h1 h2=>by obtain⟨_,rfl⟩:=cM h1;obtain⟨_,_,_,_,rfl⟩:=Cz (show us.length=4 by simpa using h2);rfl))))
  aU)
  (az (bx (aW (bu hr.units) (aZ bw (aa 1) aB) aR)
  (aD (aM (cJ yb hr aH (aa 0) (λv v v v v v us hl=>by obtain⟨_,rfl⟩:=cM hl;rfl))))
  aU)
  (aD (aM (lQ (aW (bu hr.units) (aZ bw (aa 1) aB) aR) (cJ yc hr aH (aa 0) (λv v v v v v us hl=>by obtain⟨_,rfl⟩:=cM hl;rfl)) (cJ yd hr aH (aa 0) (λv v v v v v us hl=>by obtain⟨_,rfl⟩:=cM hl;rfl)))))))⟩
noncomputable def my:=(jo v0 v1 v2 v3).1
abbrev lD:Stmt:=top 61
def xM:Sc ["_law_one", "_law_other", "_law_due_here"] ["_law_one", "_law_other", "_law_due_here"] lD:=cj
@[simp] noncomputable def fL:Qd 4 ["_law_one", "_law_other", "_law_due_here"] "_law_equal" lD λP w K m o Z=>MethD P w K m o 3 "Keeper" "__eq__" "Keeper.__eq__" fD ["self", "other"] v0->MethD P w K m o 1 "Walk" "__eq__" "Walk.__eq__" eN ["self", "other"] v1->OwnC K m "Keeper"->OwnC K m "Walk"->StoN K m "Keeper"->TwoC K m "Keeper" "Walk"->Z:=
 ⟨_,λya yb yc yd ye yf hr=>(aD (aM (cQ (bu hr.units) (bV (aj (cQ (Fw ya (yb.up (by decide)) ye yf yc yd hr aH (λz z z z z z us hl=>by obtain⟨_,_,rfl⟩:=dJ hl;rfl) (λz z z z z z us hl=>by obtain⟨_,_,rfl⟩:=dJ hl;rfl)) (aa 0) (aa 1)) (aj (cQ (Fw ya (yb.up (by decide)) ye yf yc yd hr aH (λz z z z z z us hl=>by obtain⟨_,_,rfl⟩:=dJ hl;rfl) (λz z z z z z us hl=>by obtain⟨_,_,rfl⟩:=dJ hl;rfl)) (aa 1) (aa 0)) (aj (cQ (Nu ya (yb.up (by decide)) ye yf hr aH (λz z z z z z us hl=>by obtain⟨_,_,rfl⟩:=dJ hl;rfl) (λz z z z z z us hl=>by obtain⟨_,_,rfl⟩:=dJ hl;rfl)) (aa 0) (bV (aj iH (aj (aa 1) ak)))) (aj (yK (cQ (FN ya (yb.up (by decide)) ye yf yc yd hr aH (λz z z z z z us hl=>by obtain⟨_,_,rfl⟩:=dJ hl;rfl) (λz z z z z z us hl=>by obtain⟨_,_,rfl⟩:=dJ hl;rfl)) (aa 0) (aa 1))) (aj (yK (cQ (FN ya (yb.up (by decide)) ye yf yc yd hr aH (λz z z z z z us hl=>by obtain⟨_,_,rfl⟩:=dJ hl;rfl) (λz z z z z z us hl=>by obtain⟨_,_,rfl⟩:=dJ hl;rfl)) (aa 1) (aa 0))) ak)))))) (aY Bs (bV (aj (aa 2) ak)) aB))))⟩
noncomputable def iD:=(fL v0 v1).1
end
abbrev oH:List Str:=["BadWalk", "NoBound", "NoDeed", "NoFraction", "NoLine", "NoLot", "NoMark", "NoMove", "NoNumber", "NoParts", "NoPlace", "NoPlan", "NoRest", "NoRule", "NoSet", "NoSteps", "NoText", "NoWalk", "TooMany", "Unlike"]
abbrev fU:Stmt:=top 59
def p6:FnScope ["_law_e", "_law_marks", "_law_words", "_law_flag"] ["_law_e"] (defScope fU):=sI rfl rfl rfl rfl (by decide +kernel)
@[simp] noncomputable def fM:{b:Addr->Str->ao->DM Fl // ∀{P w K mg base f cdv A outer s H}{y:Addr}{oe:Obj}{c:Str}{C:Addr} (mL:∀x∈oH,∃C,mg x=some (.ref C)) (z_ArithmeticError:Nn mg "ArithmeticError") (z_LookupError:Nn mg "LookupError") (z_RuntimeError:Nn mg "RuntimeError") (z_TypeError:Nn mg "TypeError") (z_ValueError:Nn mg "ValueError") (z_isinstance:Nn mg "isinstance") (hr:Rm 0 A "_law_flags" fU s f cdv) (FK:FlK K mg oH c C) (ho_:oe.cls=.ref C) (h0_:s.heap.get? y=some oe) (hn_:H y=none) (hf_:y∉frs outer),DSs (Ii P w K mg base ["_law_e", "_law_marks", "_law_words", "_law_flag"] "_law_flags" (defScope fU) f cdv (A.mark (some (.ref y))) outer s H) E0 (defBody fU) (b y c)}:=
 ⟨fun y c=>_,fun {P w K mg base f cdv A outer s H y oe c C} mL z_ArithmeticError z_LookupError z_RuntimeError z_TypeError z_ValueError z_isinstance hr FK ho_ h0_ hn_ hf_=>have nd:=p6.nd;(az (bf (i:=1) nd rfl (Or.inl rfl) (bV (aj (aV (bA FK ho_ h0_ hn_ hf_) z_isinstance (aj (aa 0) (aj (bW mL) ak))) (aj (aV (bA FK ho_ h0_ hn_ hf_) z_isinstance (aj (aa 0) (aj (bW mL) ak))) (aj (aV (bA FK ho_ h0_ hn_ hf_) z_isinstance (aj (aa 0) (aj (bW mL) ak))) (aj (aV (bA FK ho_ h0_ hn_ hf_) z_isinstance (aj (aa 0) (aj (bW mL) ak))) ak))))))
  (az (bf (i:=1) nd rfl (Or.inl rfl) (aY bz (aa 1) (bV (aj (aV (bA FK ho_ h0_ hn_ hf_) z_isinstance (aj (aa 0) (aj (bW mL) ak))) (aj (aV (bA FK ho_ h0_ hn_ hf_) z_isinstance (aj (aa 0) (aj (bW mL) ak))) (aj (aV (bA FK ho_ h0_ hn_ hf_) z_isinstance (aj (aa 0) (aj (bW mL) ak))) (aj (aV (bA FK ho_ h0_ hn_ hf_) z_isinstance (aj (aa 0) (aj (bW mL) ak))) ak)))))))
  (az (bf (i:=1) nd rfl (Or.inl rfl) (aY bz (aa 1) (bV (aj (aV (bA FK ho_ h0_ hn_ hf_) z_isinstance (aj (aa 0) (aj (bW mL) ak))) (aj (aV (bA FK ho_ h0_ hn_ hf_) z_isinstance (aj (aa 0) (aj (bW mL) ak))) (aj (aV (bA FK ho_ h0_ hn_ hf_) z_isinstance (aj (aa 0) (aj (bW mL) ak))) (aj (aV (bA FK ho_ h0_ hn_ hf_) z_isinstance (aj (aa 0) (aj (bW mL) ak))) ak)))))))
  (az (bf (i:=1) nd rfl (Or.inl rfl) (aY bz (aa 1) (bV (aj (aV (bA FK ho_ h0_ hn_ hf_) z_isinstance (aj (aa 0) (aj (bW mL) ak))) (aj (aV (bA FK ho_ h0_ hn_ hf_) z_isinstance (aj (aa 0) (aj (bW mL) ak))) (aj (aV (bA FK ho_ h0_ hn_ hf_) z_isinstance (aj (aa 0) (aj (bW mL) ak))) (aj (aV (bA FK ho_ h0_ hn_ hf_) z_isinstance (aj (aa 0) (aj (bW mL) ak))) ak)))))))
  (az (bf (i:=1) nd rfl (Or.inl rfl) (aY bz (aa 1) (bV (aj (aV (bA FK ho_ h0_ hn_ hf_) z_isinstance (aj (aa 0) (aj (bW mL) ak))) (aj (aV (bA FK ho_ h0_ hn_ hf_) z_isinstance (aj (aa 0) (aj (bW mL) ak))) (aj (aV (bA FK ho_ h0_ hn_ hf_) z_isinstance (aj (aa 0) (aj (bW mL) ak))) (aj (aV (bA FK ho_ h0_ hn_ hf_) z_isinstance (aj (aa 0) (aj (bW mL) ak))) ak)))))))
  (az (bx (DW.dt (eZ (cA (bN (aV (bA FK ho_ h0_ hn_ hf_) z_isinstance (aj (aa 0) (aj (gG (T := "ValueError") z_ValueError) ak))) (λz=>rfl))) (d8 (bN (aV (bA FK ho_ h0_ hn_ hf_) z_isinstance (aj (aa 0) (aj (bH (aj (gG (T := "LookupError") z_LookupError) (aj (gG (T := "TypeError") z_TypeError) (aj (gG (T := "ArithmeticError") z_ArithmeticError) (aj (gG (T := "RuntimeError") z_RuntimeError) ak))))) ak))) (λz=>rfl)))))
  (aD (aM (bH (aj aR ak))))
  aU)
  (az (bf (i:=2) nd rfl (Or.inl rfl) (bV (aj aR (aj aR (aj aR (aj aR (aj aR (aj aR (aj aR (aj aR (aj aR (aj aR (aj aR ak)))))))))))))
  (az (bf (i:=2) nd rfl (Or.inl rfl) (aY bz (aa 2) (bV (aj aR (aj aR (aj aR (aj aR (aj aR (aj aR (aj aR (aj aR (aj aR ak))))))))))))
  (az (bx (aW (dN hr.units) (uN Vl PySem.F.slot_list_count PySem.F.type_list_count Fj (aa 1) (aj cN ak)) aB)
  (aD (aM (bH (aj aR ak))))
  aU)
  (az (bf (i:=3) nd rfl (Or.inl rfl) (aZ bw (aa 2) (uN Vl PySem.F.slot_list_index PySem.F.type_list_index Fo (aa 1) (aj cN ak))))
  (az (bx (aW (bu hr.units) (aa 3) aR)
  (aD (aM (bH (aj (aa 3) (aj tY (aj tY ak))))))
  aU)
  (aD (aM (lQ (aW (bu hr.units) (aa 3) aR) (bH (aj (aa 3) (aj tY ak))) (bH (aj (aa 3) ak))))))))))))))))⟩
noncomputable def cV:Addr->Str->ao->DM Fl:=(fM).1
abbrev gD:Stmt:=top 60
def qU:FnScope ["_law_call", "_law_e"] ["_law_call"] (defScope gD):=sI rfl rfl rfl rfl (by decide +kernel)
@[simp] noncomputable def jq(W:Str->D):{b:DM D->ao->DM Fl // ∀{P w K mg base f cdv A outer s H E ρ g th k F0} (XT:XTab K mg mq F0) (m_FadeError:Gc mg "FadeError" F0) (FG:FlgD P w K mg base 0 "_law_flags" mq W) (hk:1≤k) (ht:ThD P w K mg base k outer s H ρ g th) (hq:Rm k A "_law_said" gD s f cdv),ASs (b7 P w K mg base ["_law_call", "_law_e"] "_law_said" (defScope gD) f cdv A outer s H E) E (Ku 0 g ρ H) (defBody gD) (b th)}:=
 ⟨_,fun XT m_FadeError FG hk ht hq=>have hr:=Room.mono hq hk;have nd:=qU.nd;(Ay (KY 2 (fh:=fun c=>fun _=>pure (Fl.rt (W c))) (i:=1) XT rfl rfl rfl rfl rfl nd rfl rfl m_FadeError (fun pins_ Eh_=>(Ay (KR (Jl pe_str (GZ hq (PP rfl rfl rfl) ht)))))
  (λc C y oe hc_ hm_ ho_ xa_=>(Jz (i:=1) hr FG hc_ hm_ ho_)) (λy c M r h=>by rw[<-h];simp[ug,QX,OJ])))⟩
noncomputable def mD(W:Str->D):DM D->ao->DM Fl:=(jq W).1
abbrev jt:Stmt:=top 58
def qW:FnScope ["_law_keeper", "_law_past", "_law_deed_here", "_law_due_here", "_law_said_here"] ["_law_keeper", "_law_past", "_law_deed_here"] (defScope jt):=sI rfl rfl rfl rfl (by decide +kernel)
local macro_rules | `(tactic| trivial)=>`(tactic| (repeat' apply And.intro)<;>first | exact True.intro | rfl | exact⟨_,rfl⟩ | exact Or.inl rfl)
@[simp] noncomputable def mR(F__law_due F__law_done:Fn)(F__law_said:DM D->DM D):{b // ∀{P w K mg base f cdv A outer s H E c_ P_} (D__law_due:DefD P w K mg base 1 "_law_due" ["_law_past", "_law_deed_here"] F__law_due) (D__law_done:DefD P w K mg base 10 "_law_done" ["_law_keeper", "_law_deed_here"] F__law_done) (z_isinstance:Nn mg "isinstance") (z_tuple:Nn mg "tuple") (H__law_said:HrdD P w K mg base (12+1) "_law_said" F__law_said) (TB:TabD mg base c_ P_) (hC:cdv=.ref c_) (hP:∃ps,H P_=some (.tbl ps)) (hr:Rm 14 A "_law_step" jt s f cdv),Ds P w K mg base ["_law_keeper", "_law_past", "_law_deed_here", "_law_due_here", "_law_said_here"] "_law_step" jt f cdv A outer s H E b}:=
 ⟨_,fun D__law_due D__law_done z_isinstance z_tuple H__law_said TB hC hP hr=>have nd:=qW.nd;(az (bf (i:=3) nd rfl (Or.inl rfl) (aO D__law_due hr aH (aj (aa 1) (aj (aa 2) ak))))
  (az (bf (i:=4) nd rfl (Or.inl rfl) (Lf [0,2] ["_law_keeper", "_law_deed_here"] H__law_said hr aH TB hC hP (λhr=>(aO D__law_done hr PN (aj (aa 0) (aj (aa 1) ak)))) ⟨⟨rfl,rfl,rfl,by decide +kernel,by decide,uY rfl,by decide +kernel⟩,rfl,vM (by trivial),rfl,uW (by trivial)⟩))
  (az (bx (bN (aV cZ z_isinstance (aj (aa 3) (aj (gG (T := "tuple") z_tuple) ak))) (λz=>rfl))
  (aD (aM (lQ (aW (bu hr.units) (aa 4) (aa 3)) (aa 1) iH)))
  aU)
  (aD (aM (lQ (aW (bu hr.units) (aa 4) (bH (aj aR (aj iH ak)))) (aa 3) iH))))))⟩
noncomputable def tH(F__law_due F__law_done:Fn)(F__law_said:DM D->DM D):ao->DM Fl:=(mR F__law_due F__law_done F__law_said).1
abbrev dG:Stmt:=top 62
def jE:FnScope ["_law_pen", "_law_keeper", "_law_past", "_law_other", "_law_kept", "_law_own", "_law_turn"] ["_law_pen", "_law_keeper", "_law_past"] (defScope dG):=sI rfl rfl rfl rfl (by decide +kernel)
@[simp] noncomputable def gh(F__law_equal F__law_deed F_Keeper_after F_Keeper_reckoned F_Keeper_walk F_Keeper___repr__ F_Keeper_twin:Fn)(F__law_step:Fn):{b // ∀{P w K mg base f cdv A outer s H E P__law_step C_Walk} (D__law_equal:DefD P w K mg base 5 "_law_equal" ["_law_one", "_law_other", "_law_due_here"] F__law_equal) (D__law_deed:DefD P w K mg base 3 "_law_deed" ["_law_pen", "_law_rows_here"] F__law_deed) (M_Keeper_after:MethD P w K mg base 4 "Keeper" "after" "Keeper.after" fW ["self", "start", "steps"] F_Keeper_after) (M_Keeper_reckoned:MethD P w K mg base 1 "Keeper" "reckoned" "Keeper.reckoned" dF ["self"] F_Keeper_reckoned) (M_Keeper_walk:MethD P w K mg base 1 "Keeper" "walk" "Keeper.walk" eG ["self"] F_Keeper_walk) (M_Keeper___repr__:MethD P w K mg base 3 "Keeper" "__repr__" "Keeper.__repr__" cR ["self"] F_Keeper___repr__) (M_Keeper_twin:MethD P w K mg base 9 "Keeper" "twin" "Keeper.twin" gR ["self"] F_Keeper_twin) (O_Walk:OCls K mg "Walk" C_Walk ["rows", "whole"]) (z_len:Nn mg "len") (z_range:Nn mg "range") (z_repr:Nn mg "repr")  (T__law_step:DefT P w K mg base 15 "_law_step" ["_law_keeper", "_law_past", "_law_deed_here"] P__law_step F__law_step) (hP__law_step:∃qs,H P__law_step=some (.tbl qs)) (hr:Rm 15 A "_law_twin_right" dG s f cdv),Ds P w K mg base ["_law_pen", "_law_keeper", "_law_past", "_law_other", "_law_kept", "_law_own", "_law_turn"] "_law_twin_right" dG f cdv A outer s H E b}:=
 ⟨_,fun D__law_equal D__law_deed M_Keeper_after M_Keeper_reckoned M_Keeper_walk M_Keeper___repr__ M_Keeper_twin O_Walk z_len z_range z_repr T__law_step hP__law_step hr=>have nd:=jE.nd;(az (cz (oR (ks:=["steps"]) M_Keeper_after hr aH (aa 1) (aj aB ak) (Cp aB uQ) (fun _ _ _ _ _ _ us ws h1 h2=>by obtain⟨_,rfl⟩:=cM h1;obtain⟨_,_,rfl⟩:=dJ (show us.length=2 by simpa using h2);rfl)))
  (az (yR (i:=3) (j:=4) rfl nd rfl rfl (by decide) rfl rfl (aj (cJ M_Keeper_twin hr aH (aa 1) (λz z z z z z us hl=>by obtain⟨_,rfl⟩:=cM hl;rfl)) (aj (bH (aj (aV (iG M_Keeper___repr__ hr aH (λz z z z z z us hl=>by obtain⟨_,rfl⟩:=cM hl;rfl)) z_repr (aj (aa 1) ak)) (aj (aX O_Walk (by decide) (cJ M_Keeper_walk hr aH (aa 1) (λz z z z z z us hl=>by obtain⟨_,rfl⟩:=cM hl;rfl))) (aj (cJ M_Keeper_reckoned hr aH (aa 1) (λz z z z z z us hl=>by obtain⟨_,rfl⟩:=cM hl;rfl)) ak)))) ak)) rfl)
  (az (bx (DW.dt (eZ (cA (bN (aO D__law_equal hr aH (aj (aa 1) (aj (aa 3) (aj cN ak)))) (λz=>rfl))) (eZ (aW (dN hr.units) (aV (iG M_Keeper___repr__ hr aH (λz z z z z z us hl=>by obtain⟨_,rfl⟩:=cM hl;rfl)) z_repr (aj (aa 3) ak)) (aV (iG M_Keeper___repr__ hr aH (λz z z z z z us hl=>by obtain⟨_,rfl⟩:=cM hl;rfl)) z_repr (aj (aa 1) ak))) (d8 (aW (dN hr.units) (cJ M_Keeper_reckoned hr aH (aa 3) (λz z z z z z us hl=>by obtain⟨_,rfl⟩:=cM hl;rfl)) aB)))))
  (aD (aM cN))
  aU)
  (az (cz (oR (ks:=["steps"]) M_Keeper_after hr aH (aa 3) (aj aB ak) (Cp aB uQ) (λz z z z z z us ws h1 h2=>by obtain⟨_,rfl⟩:=cM h1;obtain⟨_,_,rfl⟩:=dJ (show us.length=2 by simpa using h2);rfl)))
  (az (bx (aW (dN hr.units) (cJ M_Keeper_reckoned hr aH (aa 3) (λz z z z z z us hl=>by obtain⟨_,rfl⟩:=cM hl;rfl)) aB)
  (aD (aM cN))
  aU)
  (az (bf (i:=5) nd rfl (Or.inl rfl) (aa 2))
  (az (gA 0 U4 rfl (cH rfl z_range (aj aB ak)) (bB (i:=6) nd rfl (Or.inl rfl))
  (az (bf (i:=5) nd rfl (Or.inl rfl) (kZ T__law_step hP__law_step hr aH (aj (aa 3) (aj (aa 5) (aj (aO D__law_deed hr aH (aj (aa 0) (aj (aZ bw (aZ bw (aa 5) (fJ aB)) aB) ak))) ak)))))
  (aD (bx (DW.dt (eZ (aW vp (aa 5) iH) (d8 (aW (dN hr.units) (aX O_Walk (by decide) (cJ M_Keeper_walk hr aH (aa 3) (λz z z z z z us hl=>by obtain⟨_,rfl⟩:=cM hl;rfl))) (aZ bw (aZ bw (aa 5) (fJ aB)) aB)))))
  (aD (aM cN))
  aU))))
  (az (gA 0 U4 rfl (cH rfl z_range (aj (aV call_lenD z_len (aj (aa 5) ak)) ak)) (bB (i:=6) nd rfl (Or.inl rfl))
  (az (bf (i:=5) nd rfl (Or.inl rfl) (kZ T__law_step hP__law_step hr aH (aj (aa 3) (aj (aa 5) (aj (bH (aj aR ak)) ak)))))
  (aD (bx (aW vp (aa 5) iH)
  (aD (aM cN))
  aU))))
  (aD (aM (jx (cQ (bu hr.units) (bH (aj (aV (iG M_Keeper___repr__ hr aH (λz z z z z z us hl=>by obtain⟨_,rfl⟩:=cM hl;rfl)) z_repr (aj (aa 1) ak)) (aj (aX O_Walk (by decide) (cJ M_Keeper_walk hr aH (aa 1) (λz z z z z z us hl=>by obtain⟨_,rfl⟩:=cM hl;rfl))) (aj (cJ M_Keeper_reckoned hr aH (aa 1) (λz z z z z z us hl=>by obtain⟨_,rfl⟩:=cM hl;rfl)) ak)))) (aa 4)) (jy (cQ (bu hr.units) (aX O_Walk (by decide) (cJ M_Keeper_walk hr aH (aa 3) (λz z z z z z us hl=>by obtain⟨_,rfl⟩:=cM hl;rfl))) (aZ bw (aZ bw (aa 2) aB) aB))))))))))))))⟩
noncomputable def j8(F__law_equal F__law_deed F_Keeper_after F_Keeper_reckoned F_Keeper_walk F_Keeper___repr__ F_Keeper_twin:Fn)(F__law_step:Fn):ao->DM Fl:=(gh F__law_equal F__law_deed F_Keeper_after F_Keeper_reckoned F_Keeper_walk F_Keeper___repr__ F_Keeper_twin F__law_step).1
abbrev xW:Stmt:=top 63
def Gr:FnScope ["_law_script", "_law_cell", "_law_pen", "_law_rows_here", "_law_keeper", "_law_past", "_law_turn", "_law_now", "_law_strange", "_law_other", "_law_thing"] ["_law_script"] (defScope xW):=sI rfl rfl rfl rfl (by decide +kernel)
@[simp] noncomputable def CV(F__law_cell_at F__law_pen_of F__law_rows F__law_deed F__law_equal F_Walk F_Keeper F_Keeper___repr__ F_Keeper_walk:Fn)(F__law_step:Fn)(F__law_twin_right:Fn):{b // ∀{P w K mg base f cdv A outer s H E P__law_step P__law_twin_right} (D__law_cell_at:DefD P w K mg base 1 "_law_cell_at" ["_law_script", "_law_k"] F__law_cell_at) (D__law_pen_of:DefD P w K mg base 1 "_law_pen_of" ["_law_cell"] F__law_pen_of) (D__law_rows:DefD P w K mg base 3 "_law_rows" ["_law_pen", "_law_most"] F__law_rows) (D__law_deed:DefD P w K mg base 3 "_law_deed" ["_law_pen", "_law_rows_here"] F__law_deed) (D__law_equal:DefD P w K mg base 5 "_law_equal" ["_law_one", "_law_other", "_law_due_here"] F__law_equal) (W_Walk:ClsD P w K mg base 5 "Walk" F_Walk) (W_Keeper:ClsD P w K mg base 7 "Keeper" F_Keeper) (M_Keeper___repr__:MethD P w K mg base 3 "Keeper" "__repr__" "Keeper.__repr__" cR ["self"] F_Keeper___repr__) (M_Keeper_walk:MethD P w K mg base 1 "Keeper" "walk" "Keeper.walk" eG ["self"] F_Keeper_walk) (z_len:Nn mg "len") (z_range:Nn mg "range") (z_repr:Nn mg "repr") (z_tuple:Nn mg "tuple")  (T__law_step:DefT P w K mg base 15 "_law_step" ["_law_keeper", "_law_past", "_law_deed_here"] P__law_step F__law_step) (hP__law_step:∃qs,H P__law_step=some (.tbl qs))  (T__law_twin_right:DefT P w K mg base 16 "_law_twin_right" ["_law_pen", "_law_keeper", "_law_past"] P__law_twin_right F__law_twin_right) (hP__law_twin_right:∃qs,H P__law_twin_right=some (.tbl qs)) (hr:Rm 16 A "law" xW s f cdv),Ds P w K mg base ["_law_script", "_law_cell", "_law_pen", "_law_rows_here", "_law_keeper", "_law_past", "_law_turn", "_law_now", "_law_strange", "_law_other", "_law_thing"] "law" xW f cdv A outer s H E b}:=
 ⟨_,fun D__law_cell_at D__law_pen_of D__law_rows D__law_deed D__law_equal W_Walk W_Keeper M_Keeper___repr__ M_Keeper_walk z_len z_range z_repr z_tuple T__law_step hP__law_step T__law_twin_right hP__law_twin_right hr=>have nd:=Gr.nd;(az (gA 0 PassesOwn.leaving rfl (Em (aY bz (bV (aj (aO D__law_cell_at hr aH (aj (aa 0) (aj aB ak))) ak)) (El (aa 0) (eQ aB) (eQ aB)))) (bB (i:=1) nd rfl (Or.inl rfl))
  (az (bf (i:=2) nd rfl (Or.inl rfl) (aO D__law_pen_of hr aH (aj (aa 1) ak)))
  (az (bf (i:=3) nd rfl (Or.inl rfl) (aO D__law_rows hr aH (aj (aa 2) (aj aB ak))))
  (az (yR (i:=4) (j:=5) rfl nd rfl rfl (by decide) rfl rfl (aj (eO W_Keeper hr aH (aj (eO W_Walk hr aH (aj (aa 3) ak)) ak)) (aj (bV (aj (bH (aj (aa 3) (aj (bH ak) ak))) ak)) ak)) rfl)
  (az (gA 0 U4 rfl (cH rfl z_range (aj aB ak)) (bB (i:=6) nd rfl (Or.inl rfl))
  (az (bf (i:=5) nd rfl (Or.inl rfl) (kZ T__law_step hP__law_step hr aH (aj (aa 4) (aj (aa 5) (aj (aO D__law_deed hr aH (aj (aa 2) (aj (aZ bw (aZ bw (aa 5) (fJ aB)) aB) ak))) ak)))))
  (aD (bx (aW vp (aa 5) iH)
  (aD (aM cN))
  aU))))
  (az (bf (i:=7) nd rfl (Or.inl rfl) (aZ bw (aZ bw (aa 5) (fJ aB)) aB))
  (az (bx (DW.dt (eZ (cA (bN (aO D__law_equal hr aH (aj (aa 4) (aj (eO W_Keeper hr aH (aj (eO W_Walk hr aH (aj (aa 7) ak)) ak)) (aj cN ak)))) (λz=>rfl))) (d8 (cA (bN (kZ T__law_twin_right hP__law_twin_right hr aH (aj (aa 2) (aj (aa 4) (aj (aa 5) ak)))) (λz=>rfl))))))
  (aD (aM cN))
  aU)
  (az (bf (i:=8) nd rfl (Or.inl rfl) (bV (aj iH (aj aB (aj (aa 7) (aj (cJ M_Keeper_walk hr aH (aa 4) (λz z z z z z us hl=>by obtain⟨_,rfl⟩:=cM hl;rfl)) (aj (aV (iG M_Keeper___repr__ hr aH (λz z z z z z us hl=>by obtain⟨_,rfl⟩:=cM hl;rfl)) z_repr (aj (aa 4) ak)) (aj (bV (aj (aa 4) ak)) (aj Js ak)))))))))
  (az (bf (i:=9) nd rfl (Or.inl rfl) (eO W_Keeper hr aH (aj (eO W_Walk hr aH (aj (fZ (T := "tuple") cB z_tuple (aj (jb (own:=["_law_row"]) (js:=[]) (fr:=[]) .val rfl (by refine⟨rfl,by decide +kernel,rfl,vM ?_,λm_=>uY rfl,by decide,rfl,wy rfl,wz ?_,uW ?_⟩<;>((repeat' apply And.intro)<;>first | exact True.intro | rfl | exact Or.inl rfl | exact Or.inr rfl | exact⟨_,rfl⟩)) (lg (aa 7)) (λpins_ m_ fp_ C_ s_ H_=>(bB (i:=0) (show List.Nodup ((["_law_row"]:List Str)++([]:List Str)) by decide) rfl (Or.inl rfl))) (λpins_ m_ fp_ C_ s_ H_=>nu) (λpins_ m_ fp_ C_ s_ H_=>(fZ (T := "tuple") cB z_tuple (aj (jb (own:=["_law_weight"]) (js:=[]) (fr:=[]) .val rfl (by refine⟨rfl,by decide +kernel,rfl,vM ?_,λm_=>uY rfl,by decide,rfl,wy rfl,wz ?_,uW ?_⟩<;>((repeat' apply And.intro)<;>first | exact True.intro | rfl | exact Or.inl rfl | exact Or.inr rfl | exact⟨_,rfl⟩)) (lg (aa 0)) (λpins_ m_ fp_ C_ s_ H_=>(bB (i:=0) (show List.Nodup ((["_law_weight"]:List Str)++([]:List Str)) by decide) rfl (Or.inl rfl))) (λpins_ m_ fp_ C_ s_ H_=>nu) (λpins_ m_ fp_ C_ s_ H_=>(aY rY aB (aa 0)))) ak)))) ak)) ak)) ak)))
  (az (gA 0 U4 rfl (Em (aY bz (aa 8) (bV (aj (aa 9) ak)))) (bB (i:=10) nd rfl (Or.inl rfl))
  (aD (bx (cA (bN (aO D__law_equal hr aH (aj (aa 4) (aj (aa 10) (aj cN ak)))) (λz=>rfl)))
  (aD (aM cN))
  aU)))
  (az (gA 0 U4 rfl (cH rfl z_range (aj (aY rZ (aV call_lenD z_len (aj (aa 5) ak)) aB) ak)) (bB (i:=6) nd rfl (Or.inl rfl))
  (az (bf (i:=5) nd rfl (Or.inl rfl) (kZ T__law_step hP__law_step hr aH (aj (aa 4) (aj (aa 5) (aj (bH (aj aR ak)) ak)))))
  (aD (bx (aW vp (aa 5) iH)
  (aD (aM cN))
  aU))))
  (aD (bx (cA (bN (aO D__law_equal hr aH (aj (aa 4) (aj (eO W_Keeper hr aH (aj (eO W_Walk hr aH (aj (aa 3) ak)) ak)) (aj cN ak)))) (λz=>rfl)))
  (aD (aM cN))
  aU)))))))))))))
  (aD (aM cN)))⟩
noncomputable def Ig(F__law_cell_at F__law_pen_of F__law_rows F__law_deed F__law_equal F_Walk F_Keeper F_Keeper___repr__ F_Keeper_walk:Fn)(F__law_step:Fn)(F__law_twin_right:Fn):ao->DM Fl:=(CV F__law_cell_at F__law_pen_of F__law_rows F__law_deed F__law_equal F_Walk F_Keeper F_Keeper___repr__ F_Keeper_walk F__law_step F__law_twin_right).1
end K
set_option exponentiation.threshold 20000
namespace K
open PySem L2 L3 N10
def aK:(∀(α:Type) (a:α) (l:List α),(a::l)[0]?=some a)/\(∀(α:Type) (a:α) (l:List α) (i:Nat),(a::l)[i+1]?=l[i]?)/\(∀(α:Type) (x:Option α),(some x).join=x)/\(∀(α:Type) (a:α),(opt (some a):DM α)=pure a)/\∀(α β:Type) (a:α) (f:α->DM β),((pure a:DM α)>>=f)=f a:=⟨λz z z=>rfl,λz z z z=>rfl,λz z=>rfl,λz z=>nZ _,λz z z z=>au _ _⟩
def bQ:(∀(α:Type) (a b:α) (l:List α) (i:Nat),(a::l).set (i+1) b=a::l.set i b)/\∀(α:Type) (a b:α) (l:List α),(a::l).set 0 b=b::l:=⟨λz z z z z=>rfl,λz z z z=>rfl⟩
noncomputable def p8:=aL 1 1 uJ
noncomputable def wU:=aL 2 2 (pO p8)
def uZ(n:Nat):p8 [nD n]=pure (.bl true):=by
 have a:(rd (eV [nD n,.ty "int"]):DM D)=pure (.bl true):=vD (t := "int") (λz=>rfl) (by decide)
 have b:(rd (eV [nD n,.ty "bool"]):DM D)=pure (.bl false):=vD (t := "int") (λz=>rfl) (by decide)
 simp[p8,uJ,a,b]
def DQ{l:List Nat}(hl:l.length<=1000):wU [nT l,.int (l.length:Int)]=pure (.bl true):=by
 have a:(rd (eV [nT l,.ty "tuple"]):DM D)=pure (.bl true):=vD (t := "tuple") (λz=>rfl) (by decide)
 have ln:(rd (dX [nT l]):DM D)=pure (.int (l.length:Int)):=by simp[nT]
 simp[wU,pO,a,ln,b8,dm];show (dM (bC _ _ _ (l.map nD) _ _)>>=_)=_;rw[O3 (λz=>true) (λz=>.bl true) (by simpa using T7 hl (by decide)) (λz z=>rfl) (λd hd z=>?_) (k':=λl=>rd (vP [.lst l])) (λz=>rfl)]
 ·have:((l.map nD).filter (λz=>true)).map (λz=>D.bl true)=(l.map λz=>true).map D.bl:=by rw[V9.mpr (λz z=>rfl),U0,U0];rfl
  have q:(l.map λz=>true).all id=true:=by rw[V1];intro x hx;obtain⟨_,_,rfl⟩:=Uj.mp hx;rfl
  rw[this,Ge,q]
 ·obtain⟨n,_,rfl⟩:=Uj.mp hd;have:=uZ n;unfold nD at this ⊢
  simp[this]
theorem BP:∀ {l:List Nat}{n:Nat},n∈l->n<=l.sum
 |a::l,n,h=>by
   rw[V7];rcases T3.mp h with rfl | h
   ·omega
   ·have:=BP h;omega
noncomputable def xZ:=aL 2 2 iZ
def K4(cs:List Int)(k:Nat):∃ c:Int,xZ [.scr cs,nD k]=pure (.int c):=by
 by_cases h:k<cs.length
 ·have e:decide ((k:Int)<(cs.length:Int))=true:=Tz (by omega)
  have ix:(rd (cg (.scr cs) (.int (k:Int))):DM D)=pure (.int cs[k]):=bY λM=>by show (atI cs (k:Int)).map _=_;rw[m7 (Tg h)];rfl
  refine⟨cs[k],?_⟩;simp[xZ,iZ,nD,e,ix,h]
 ·have e:decide ((k:Int)<(cs.length:Int))=false:=Um (by omega)
  refine⟨0,?_⟩;simp[xZ,iZ,nD,e,h]
def aG{f g:ao->DM Fl}{δ:ao}{M:Mo}{Q:Fl->Mo->Prop}(h:∀K:Fl->DM Fl,(∀δ',K (.nx δ')=g δ')->Rn (f δ>>=K) M Q):Rn (m5 f g δ) M Q:=by
 have:=h (λr=>match r with | .nx δ'=>g δ' | r=>Pure.pure r) (λz=>rfl)
 exact this
structure WK(R:List (List Nat))(W:Nat):Prop where
 n1:1<=R.length
 n25:R.length<=25
 row:∀r∈R,r.length=R.length
 sum:∀r∈R,r.sum=W
 w1:1<=W
def WK.head{R:List (List Nat)}{W:Nat}(h:WK R W):gr R 0∈R:=gr_mem (by have:=h.n1;omega)
noncomputable def Dj:=aL 2 2 (uH wU)
noncomputable def Dk:=aL 1 2 (lL Dj)
def Jm{l:List Nat}{n:Nat}(h:l.length=n)(hl:n<=1000):wU [nT l,nD n]=pure (.bl true):=by subst h;exact DQ hl
def yF(n:Nat):(rd (vP [.lst (List.replicate n (.bl true))]):DM D)=pure (.bl true):=by have:=Ge (List.replicate n true);rw[List.map_replicate]at this;rw[this];simp
def xx{α:Type}(l:List α)(d:D):(l.map λz=>d)=List.replicate l.length d:=List.map_const' ..
def KN{R:List (List Nat)}{W:Nat}(h:WK R W):Dj [nM R,nD R.length]=pure (.bl true):=by
 have:=h.n25;simp[Dj,uH,Gj,nW,zW,Gg,b8,dm];rw[rJ nT (λz=>.bl true) (by omega) (λr hr=>by simp[Jm (h.row r hr) (by omega)])]
 rw[au,xx,yF]
def Ld{R:List (List Nat)}{W:Nat}(h:WK R W):Dk [nM R]=pure (.bl true):=by
 have h1:=h.n1;have h2:=h.n25;have e1:(rd (xr (.int 1) (nD R.length)):DM D)=pure (.bl true):=by rw[show D.int 1=nD 1 from rfl,nU,Tz h1]
 have e2:(rd (xr (nD R.length) (.int 25)):DM D)=pure (.bl true):=by rw[show D.int 25=nD 25 from rfl,nU,Tz h2]
 have e3:(rd (Ew (nD W) (.int 1)):DM D)=pure (.bl true):=by rw[show D.int 1=nD 1 from rfl,Gh,Tz h.w1]
 have e4:∀r∈R,(rd (cI (nD r.sum) (nD W)):DM D)=pure (.bl true):=λr hr=>by rw[fO,h.sum r hr];simp
 simp[Dk,lL,Gj,nW,e1,e2,KN h,Gk (R:=R) (by omega),h.sum _ h.head]
 simp[e3,Gg,b8,dm];rw[rJ nT (λz=>.bl true) (by omega) (λr hr=>by simp[e4 r hr])]
 rw[au,xx,yF]
noncomputable def aA(R:List (List Nat))(W:Nat):D:=.obj "Walk" ["rows", "whole"] [nM R,nD W]
noncomputable def Fin:=aL 2 2 (lK Dk)
def BL{M:Mo}{ns:List Str}{vs:List D}{f:Str}{d:D}(hl:ns.length=vs.length)(hz:ns.length<1000):ju "Walk" f (.ref M.length) d (M++[.ins "Walk" ns vs])=some (.ok (),M++[.ins "Walk" (putN f ns) (bO f d ns vs)]):=by unfold ju;simp[hl];omega
def Lz{R:List (List Nat)}{W:Nat}(h:WK R W)(M:Mo):Fin (.ref M.length::[nM R]) (M++[.ins "Walk" [] []])=some (.ok .non,M++[.ins "Walk" ["rows", "whole"] [nM R,nD W]]):=by
 have h1:=h.n1;have go:Rn (Fin (.ref M.length::[nM R])) (M++[.ins "Walk" [] []]) λd M'=>d=.non/\M'=M++[.ins "Walk" ["rows", "whole"] [nM R,nD W]]:=by
  simp[Fin,lK,Ld h,Gk (R:=R) (by omega)]
  refine Rn.run (BL rfl (by decide)) ?_
  rw[h.sum _ h.head];refine Rn.run (BL rfl (by decide)) ?_
  exact Rn.pure ⟨rfl,rfl⟩
 obtain⟨d,M',e,rfl,rfl⟩:=go;exact e
open Classical in
noncomputable def uC(ds:List D):DM D:=if h:∃p:List (List Nat)×Nat,WK p.1 p.2/\ds=[nM p.1] then pure (aA (choose h).1 (choose h).2) else stuck
def rB{R:List (List Nat)}{W:Nat}(h:WK R W):uC [nM R]=pure (aA R W):=by
 have q:∃p:List (List Nat)×Nat,WK p.1 p.2/\[nM R]=[nM p.1]:=⟨(R,W),h,rfl⟩;unfold uC;rw[dif_pos q];obtain⟨a,b⟩:=Classical.choose_spec q;generalize Classical.choose q=p at a b;have e:R=p.1:=Ni (by simpa using b)
 have w:W=p.2:=by have:=h.sum _ h.head;rw[<-this,e];exact a.sum _ a.head
 rw[<-e,<-w]
set_option tactic.hygienic true in
def Ox:∀ds M r',uC ds M=some r'->KD "Walk" Fin ds M r':=by
 intro ds M r' e;unfold uC at e;split at e
 ·rename_i q;obtain⟨a,b⟩:=Classical.choose_spec q;generalize Classical.choose q=p at a b e;subst b;cases e;refine .inl ⟨["rows", "whole"],[nM p.1,nD p.2],Lz a M,λd hd=>?_,rfl⟩
  rcases T3.mp hd with rfl | hd
  ·exact .inl (by simp)
  ·exact .inr ⟨p.2,by simpa[nD] using hd⟩
 ·cases e
def cD(R:List (List Nat))(W:Nat):(rd (oW "Walk" "rows" (aA R W)):DM D)=pure (nM R):=bY λM=>by simp[oW,aA]
def zg{m:Str}(h:(["rows", "whole"]:List Str).contains m=false)(R:List (List Nat))(W:Nat):(rd (jM "Walk" m (aA R W)):DM Unit)=pure ():=bY λM=>by unfold jM aA;dsimp only;rw[S7 ⟨rfl,h⟩]
noncomputable def sU:=aL 1 1 m9
def MJ(R:List (List Nat))(W:Nat):sU [aA R W]=pure (nD R.length):=by simp[sU,m9,cD,nW]
def Bp{R:List (List Nat)}{W:Nat}(h:R.length<=25):CG "Walk" sU [aA R W]=pure (nD R.length):=by
 have e:CG "Walk" sU [aA R W]=(if ("Walk":Str) = "Walk" then sU [aA R W]>>=Cg else stuck):=rfl
 rw[e,S7 rfl,MJ,au];have q:(0:Int)<=(R.length:Int)/\(R.length:Int)<2^63:=⟨by omega,by omega⟩
 unfold Cg nD;dsimp only;rw[S7 q]
def WK.le{R:List (List Nat)}{W:Nat}(h:WK R W){r:List Nat}(hr:r∈R){n:Nat}(hn:n∈r):n<=W:=by rw[<-h.sum r hr];exact BP hn
def WK.at_le{R:List (List Nat)}{W:Nat}(h:WK R W){r:List Nat}(hr:r∈R)(y:Nat):ga r y<=W:=by
 by_cases hy:y<r.length
 ·exact h.le hr (uX hy)
 ·rw[Lx (by omega)];exact Vh _
def Bu{m:DM D}{v:D}(h:∀M,Rn m M λd M'=>d=v/\M'=M):m=pure v:=by funext M;obtain⟨d,M',e,rfl,rfl⟩:=h M;exact e
def Kz:∀l:List Nat,S l.length (ga l)=l.sum:=λl=>by
 rw[<-uE];congr 1;apply List.ext_getElem?;intro k;by_cases hk:k<l.length
 ·rw[TV,VB hk,Tg hk,Option.map_some,lU hk]
 ·rw[Vt (by simp;omega),Vt (by omega)]
theorem DN(c:Nat)(f:Nat->Nat):∀ n:Nat,S n (λy=>c * f y)=c * S n f
 |0=>rfl
 |n+1=>by
   show S n (λy=>c*f y)+c*f n=c*(S n f+f n)
   rw[DN c f n,Nat.mul_add]
def zj(b:Bool):(rd (Cy [.bl b]):DM D)=pure (nD (if b then 1 else 0)):=by cases b<;>rfl
def wN{l:List Nat}{i v:Nat}(h:i<l.length):(l.set i v).sum + ga l i=l.sum + v:=by
 induction l generalizing i with
 |nil=>simp at h
 | cons a l ih=>
   cases i with
   |zero=>simp[ga];omega
   |succ i=>
     have:=ih (i:=i) (by simpa using h)
     rw[List.set_cons_succ,V7,V7];have e:ga (a::l) (i+1)=ga l i:=rfl;rw[e];omega
def sG{n j:Nat}{d:D}(h:((List.range n).map nD)[j]?=some d):j<n/\d=nD j:=by
 have hj:j<n:=by have:=(S5.mp h).1;simpa using this
 rw[TV,VB hj]at h;exact⟨hj,(Tf h).symm⟩
def zU{l:List Nat}{i:Nat}(h:i<l.length):(rd (cg (.lst (l.map nD)) (nD i)):DM D)=pure (nD (ga l i)):=I8 (i:=i) (by rw[TV,Tg h,lU h];rfl)
def fF{k:Nat}{tg:D->ao->DM ao}{fb:ao->DM Fl}{l:List D}{δ:ao}:yX k tg fb (.fix l) δ=forL tg fb l δ:=rfl
def lA{fg:D->ao->DM ao}{ft:ao->DM Bool}{fb:ao->List D->DM (ao×List D)}{ds:List D}{δ:ao}{l:List D}:fu fg ft fb (.fix ds) δ l=bC fg ft fb ds δ l:=rfl
def fV{f g:ao->DM Fl}{δ:ao}{M:Mo}{Q:Fl->Mo->Prop}(h:∀K:Fl->DM Fl,(∀δ',K (.nx δ')=g δ')->(∀d,K (.rt d)=Pure.pure (.rt d))->Rn (f δ>>=K) M Q):Rn (m5 f g δ) M Q:=by
 have:=h (λr=>match r with | .nx δ'=>g δ' | r=>Pure.pure r) (λz=>rfl) (λz=>rfl)
 exact this
noncomputable def Dv:=aL 1 1 tu
def Fv{s:Nat}(h:s<2^40):∃t:Nat,t<2147483629/\Dv [nD s]=pure (nD t):=by
 refine⟨(((s+7919)%2147483647)*((s+7919)%2147483647)+48271*((s+7919)%2147483647)+12345)%2147483629,WL _ (by decide),?_⟩
 have a1:(rd (cU (nD s) (.int 7919)):DM D)=pure (nD (s+7919)):=jC s 7919;have a2:(rd (qD (nD (s+7919)) (.int 2147483647)):DM D)=pure (nD ((s+7919)%2147483647)):=jh (b:=2147483647) (by decide)
 have lt:=WL (s+7919) (show 2147483647 > 0 by decide)
 generalize (s+7919)%2147483647=x at a2 lt;have a3:(rd (qF (nD x) (nD x)):DM D)=pure (nD (x*x)):=zV (by omega)
 have a4:(rd (qF (.int 48271) (nD x)):DM D)=pure (nD (48271*x)):=zV (a:=48271) (by omega)
 have a5:∀a b:Nat,(rd (cU (nD a) (nD b)):DM D)=pure (nD (a+b)):=λa b=>jC a b
 have a6:(rd (cU (nD (x*x+48271*x)) (.int 12345)):DM D)=pure (nD (x*x+48271*x+12345)):=jC _ 12345;have a7:(rd (qD (nD (x*x+48271*x+12345)) (.int 2147483629)):DM D)=pure (nD ((x*x+48271*x+12345)%2147483629)):=jh (b:=2147483629) (by decide)
 simp[Dv,tu,a1,a2,a3,a4,a5,a6,a7]
noncomputable def gq(p:Nat)(M:Mo):Prop:=∃a b c:Nat,c<2^40/\M[p]?=some (.lst [nD a,nD b,nD c])
def gq.lt{p:Nat}{M:Mo}(h:gq p M):p<M.length:=by obtain⟨a,b,c,_,e⟩:=h;exact (S5.mp e).1
def gq.sb{p q:Nat}{M M':Mo}(h:gq p M)(s:Sb q M M')(hq:p≠q):gq p M':=by obtain⟨a,b,c,hc,e⟩:=h;exact⟨a,b,c,hc,s.at hq e⟩
noncomputable def yt:=aL 1 2 pN
def JW(c:Int)(M:Mo):Rn (yt [.int c]) M λd M'=>d=.ref M.length/\gq M.length M':=by
 unfold yt pN jR;dsimp only;refine Rn.call rfl ?_;refine aG λK hK=>?_
 have p18:(rd (HJ (.int 10) (.int 18)):DM D)=pure (.int 1000000000000000000):=by rw[Ql (by decide)];rfl
 have st:aP 2 [D.int c]=[some (.int c),none]:=rfl;rw[st];simp;have en:D.int (if c < -c then -c else c)=nD (if c < -c then -c else c).toNat:=by unfold nD;congr 1;split<;>omega
 rw[en];generalize (if c < -c then -c else c).toNat=n
 rw[hK];clear hK K;have ge:(rd (Ew (nD n) (.int 1000000000000000000)):DM D)=pure (.bl (decide (1000000000000000000<=n))):=Gh n 1000000000000000000;have md:(rd (qD (nD n) (.int 1000003)):DM D)=pure (nD (n%1000003)):=jh (b:=1000003) (by decide)
 simp[p18,ge,zj,md];refine Rn.eE (by simp) ?_
 have lt:=WL n (show 1000003 > 0 by decide)
 exact Rn.pure ⟨_,rfl,rfl,n,(if 1000000000000000000<=n then 1 else 0),n%1000003,by omega,by simp⟩
noncomputable def yj:=aL 2 3 (sZ Dv)
def dg{p:Nat}{M:Mo}{m:Nat}(h:gq p M)(h0:0<m)(h1:m<2 ^ 60):Rn (yj [.ref p,nD m]) M λd M'=>∃ t:Nat,t<m/\d=nD t/\gq p M'/\Sb p M M':=by
 obtain⟨a,b,c,hc,e⟩:=h;have hp:=(S5.mp e).1;unfold yj sZ mO;dsimp only;refine Rn.call rfl ?_;have st:aP 3 [D.ref p,nD m]=[some (.ref p),some (nD m),none]:=rfl;rw[st];have i0:cg (.ref p) (.int 0) M=some (nD a):=qy (i:=0) e rfl;have i1:cg (.ref p) (.int 1) M=some (nD b):=qy (i:=1) e rfl;have i2:cg (.ref p) (.int 2) M=some (nD c):=qy (i:=2) e rfl;have eb:(rd (cI (nD b) (.int 1)):DM D)=pure (.bl (decide (b=1))):=fO b 1;have ga:(rd (xq (nD a) (.int 0)):DM D)=pure (.bl (decide (0<a))):=vC a 0;refine fV λK hK hR=>?_
 have rest:Rn (K (.nx [some (.ref p),some (nD m),none])) M λr M'=>∃d,r=.rt d/\∃t:Nat,t<m/\d=nD t/\gq p M'/\Sb p M M':=by
  rw[hK];clear hK hR K;refine aG λK hK=>?_
  simp;refine Rn.bindRd _ i2 ?_;obtain⟨t1,l1,e1⟩:=Fv hc;have a7:(rd (cU (nD t1) (.int 7)):DM D)=pure (nD (t1+7)):=jC t1 7;obtain⟨t2,l2,e2⟩:=Fv (s:=t1+7) (by omega)
  simp only[e1,au,a7,e2];refine Rn.run (jk (i:=2) e (by simp)) ?_
  rw[hK];clear hK K;simp;have at2:(M.set p (.lst [nD a,nD b,nD t2]))[p]?=some (.lst [nD a,nD b,nD t2]):=Th hp;refine Rn.bindRd (nD t2) (qy (i:=2) at2 rfl) ?_;have dv:(rd (uU (nD t2) (.int 64)):DM D)=pure (nD (t2 / 64)):=zT (b:=64) (by decide) (by decide)
  simp[dv,jh (a:=t2 / 64) (b:=m) h0];exact Rn.pure ⟨_,rfl,_,WL _ h0,rfl,⟨a,b,t2,by omega,at2⟩,Sb.set⟩
 simp;refine Rn.bindRd _ i1 ?_;simp only[eb,au,aQ];by_cases hb:b=1
 ·simp[hb];refine Rn.bindRd _ i0 ?_;simp only[ga,au,aQ];by_cases ha:0<a
  ·simp[ha];refine Rn.bindRd _ i0 ?_;simp[jh (a:=a) (b:=m) h0];refine Rn.bindRd _ i0 ?_;simp[zT (a:=a) (b:=m) h0 (Nat.lt_trans h1 (by decide))]
   refine Rn.run (jk (i:=0) e (by simp)) ?_
   have at2:(M.set p (.lst [nD (a / m),nD b,nD c]))[p]?=some (.lst [nD (a / m),nD b,nD c]):=Th hp;simp;rw[hR];exact Rn.pure ⟨_,rfl,_,WL _ h0,rfl,⟨_,b,c,hc,at2⟩,Sb.set⟩
  ·simp[ha];exact rest
 ·simp[hb];exact rest
def wC{a b:List D}(h:a.length+b.length<=1000000):(rd (cU (.lst a) (.lst b)):DM D)=pure (.lst (a++b)):=bY λM=>by
 have:eY (a++b)=true:=by unfold eY;exact Tz (by show (a++b).length<=2^24;rw[TF];omega)
 simp[cU,bj,Ht,this]
structure Smn(n:Nat)(l:List Nat):Prop where
 ne:l≠[]
 lt:∀i∈l,i<n
 len:l.length<=100
def Bx{n:Nat}(h:n<=1000):(rd (λM=>(xU [nD n] M).map D.lst):DM D)=pure (.lst ((List.range n).map nD)):=bY λM=>by
 have:xU [nD n] M=some ((List.range n).map nD):=by
  unfold nD;show (if -(2^62)<=(n:Int)/\(n:Int)<=2^20 then some ((List.range (n:Int).toNat).map nD) else none)=_
  rw[S7 ⟨by omega,by omega⟩,Int.toNat_natCast]
  rfl
 rw[this];rfl
def wD(a b:Nat):(rd (cW (λz z=>true) (λi j=>.int (i+j)) (nD a) (nD b)):DM D)=pure (nD (a+b)):=bY λM=>by simp[cW,nD]
def J1{a b:List Nat}(h:a.length+b.length<=1000000):(rd (cU (.lst (a.map nD)) (.lst (b.map nD))):DM D)=pure (.lst ((a++b).map nD)):=bY λM=>by
 have:eY (a.map nD++b.map nD)=true:=by unfold eY;exact Tz (by show _<=2^24;rw[TF,Te,Te];omega)
 simp[cU,bj,Ht,this]
def J3(x:Nat)(b:Bool):(rd (λM=>(mF (.lst [nD x]) (nD (if b then 1 else 0)) M).map D.lst):DM D)=pure (.lst ((if b then [x] else []).map nD)):=bY λM=>by cases b<;>rfl
noncomputable def yx:=aL 2 10 (tE yj)
structure RwsS(M0:Mo)(p q n W:Nat)(i:Nat)(M:Mo):Prop where
 pen:gq p M
 sb:Sb p M0 M
 ex:∃R:List (List Nat),R.length=i/\M[q]?=some (.lst (R.map nT))/\∀r∈R,r.length=n/\r.sum=W
noncomputable def BW(M0:Mo)(p tp q n W kd:Nat)(i:Nat)(δ:ao)(M:Mo):Prop:=(∃z6 z7 z8 z9,δ=[some (.ref p),some (nD tp),some (nD n),some (nD W),some (nD kd),some (.ref q),z6,z7,z8,z9])/\RwsS M0 p q n W i M
structure BalS(M0:Mo)(p q t n:Nat)(L:List (List Nat))(i:Nat)(M:Mo):Prop where
 pen:gq p M
 sb:Sb p M0 M
 atq:M[q]?=some (.lst (L.map nT))
 ex:∃r:List Nat,M[t]?=some (.lst (r.map nD))/\r.length=n/\r.sum=i
noncomputable def QG(M0:Mo)(p q t n:Nat)(L:List (List Nat))(pre:ao)(i:Nat)(δ:ao)(M:Mo):Prop:=(∃z9,δ=pre++[z9])/\BalS M0 p q t n L i M
def Kd{p tp:Nat}{M:Mo}(hp:gq p M)(h1:1<=tp)(h2:tp<=6):Rn (yx [.ref p,nD tp]) M λd M'=>∃ (R:List (List Nat)) (W:Nat),d=nM R/\WK R W/\R.length<=tp/\W<=12/\gq p M'/\Sb p M M':=by
 have hpl:=hp.lt;unfold yx tE mQ;dsimp only;refine Rn.call rfl ?_;have st:aP 10 [D.ref p,nD tp]=[some (.ref p),some (nD tp),none,none,none,none,none,none,none,none]:=rfl;rw[st];refine aG λK hK=>?_
 simp;refine Rn.bind (dg hp (by omega:0<tp) (by omega)) λd1 M1 ⟨t1,g1,e1,hp1,s1⟩=>?_
 subst e1;have ml:gB [.int 1,.int 2,.int 3,.int 4,.int 6,.int 12]=pure (.lst ([1,2,3,4,6,12].map nD)):=cX (by simp)
 simp only[Gd,au,ml];have d6:=dg (m:=6) hp1 (by decide) (by decide)
 refine Rn.bind d6 λd2 M2 ⟨t2,g2,e2,hp2,s2⟩=>?_
 subst e2;have ht2:t2<[1,2,3,4,6,12].length:=by simpa using g2
 rw[zU ht2];have hW:1<=ga [1,2,3,4,6,12] t2/\ga [1,2,3,4,6,12] t2<=12:=by have:=uX ht2;generalize ga [1,2,3,4,6,12] t2=x at this;simp at this;omega
 revert hW;generalize ga [1,2,3,4,6,12] t2=W;intro hW;have d7:=dg (m:=7) hp2 (by decide) (by decide)
 simp only[au];refine Rn.bind d7 λd3 M3 ⟨kd,g3,e3,hp3,s3⟩=>?_
 subst e3;rw[hK];clear hK K d6 d7 ml ht2;have sb3:Sb p M M3:=s1.trans (s2.trans s3);have hn1:1<=t1+1:=by omega
 have hn2:t1+1<=tp:=by omega
 revert hn1 hn2;generalize t1+1=n;intro n1 n2
 -- the list of rows
 refine aG λK hK=>?_
 simp;refine Rn.eE (by simp) ?_
 have pq:p≠M3.length:=by have:=hp3.lt;omega
 have ql:M.length<=M3.length:=sb3.le;have st0:RwsS M p M3.length n W 0 (M3++[.lst []]):=⟨hp3.sb (q:=M3.length) Sb.push pq,Sb.new (p:=p) (.inr sb3.le) ql Sb.push sb3,[],rfl,by simp,by simp⟩
 rw[hK];clear hK K hp1 hp2 hp3 s1 s2 s3;revert st0 pq ql;generalize M3.length=q;generalize M3++[DO.lst []]=M4;intro pq ql st0;refine aG λK hK=>?_
 simp[eF (n:=n) (by omega),fF]
 refine Rn.bind (du (BW M p tp q n W kd) _ 0 _ _ ⟨⟨_,_,_,_,rfl⟩,st0⟩ (λx d δ M5 hx hI=>?_)) (λr M5 hI=>?_)
 rotate_left
 ·obtain⟨δ',rfl,⟨z6,z7,z8,z9,rfl⟩,hp5,sb5,R,lR,at5,hR⟩:=hI;rw[hK];clear hK K;rw[Te,Uy,Uq]at lR;simp;refine Rn.bindRd (nM R) (by show (bj (.ref q) M5).map _=_;simp only[bj,at5];rfl) ?_
  exact Rn.pure ⟨_,rfl,R,rfl,W,⟨by omega,by omega,λr hr=>by rw[(hR r hr).1,lR],λr hr=>(hR r hr).2,hW.1⟩,by omega,hW.2,hp5,sb5⟩
 clear hK K;obtain⟨⟨z6,z7,z8,z9,rfl⟩,hp5,sb5,R,lR,at5,hR⟩:=hI;obtain⟨hx',rfl⟩:=sG hx;rw[Uq]at lR ⊢
 rw[o8,au];have hQ:∀δ' M',BW M p tp q n W kd (x+1) δ' M'->(λ(r:Fl) (M':Mo)=>∃δ',r=.nx δ'/\BW M p tp q n W kd (x+1) δ' M') (.nx δ') M':=λδ' M' h=>⟨δ',rfl,h⟩
 revert hQ;generalize (λ(r:Fl) (M':Mo)=>∃δ',r=.nx δ'/\BW M p tp q n W kd (x+1) δ' M')=Q
 intro hQ
 -- all places
 refine aG λK hK=>?_
 simp[Bx (n:=n) (by omega)]
 rw[hK];clear hK K;have som0:Smn n (List.range n):=⟨by simp;omega,λi hi=>Uh.mp hi,by simp;omega⟩
 let G:(Fl->DM Fl)->Prop:=λK=>∀(l:List Nat) (M6:Mo),Smn n l->gq p M6->Sb p M5 M6->Rn (K (.nx [some (.ref p),some (nD tp),some (nD n),some (nD W),some (nD kd),some (.ref q),some (nD x),some (.lst (l.map nD)),z8,z9])) M6 Q
 have ev:∀c:Nat,∀b,decide (kd=c)=b->(rd (cI (nD kd) (nD c)):DM D)=pure (.bl b):=λc b h=>h ▸ fO kd c
 -- 1
 refine aG λK hK=>?_
 suffices H:G K by
  by_cases h:kd=1
  ·have e:(rd (cI (nD kd) (.int 1)):DM D)=_:=ev 1 _ (Tz h);simp[e];refine Rn.bind (dg hp5 (by omega:0<n) (by omega)) λd1 M7 ⟨u1,g1,e1,hp7,s7⟩=>?_
   refine Rn.bind (dg hp7 (by omega:0<n) (by omega)) λd2 M8 ⟨u2,g2,e2,hp8,s8⟩=>?_
   subst e1 e2;have ml:gB [nD u1,nD u2]=pure (.lst ([u1,u2].map nD)):=cX (by simp)
   simp only[ml,au];exact H [u1,u2] M8 ⟨by simp,λi hi=>by simp at hi;omega,by simp⟩ hp8 (s7.trans s8)
  ·have e:(rd (cI (nD kd) (.int 1)):DM D)=_:=ev 1 _ (Um h);simp[e];exact H _ _ som0 hp5 Sb.refl
 intro l1 M6_1 som1 hp6_1 sb6_1;rw[hK];clear hK K
 -- 2
 refine aG λK hK=>?_
 suffices H:G K by
  by_cases h:kd=2
  ·have e:(rd (cI (nD kd) (.int 2)):DM D)=_:=ev 2 _ (Tz h);have ml:gB [nD ((x+1)%n)]=pure (.lst ([(x+1)%n].map nD)):=cX (by simp)
   have hm:=WL (x+1) (show n > 0 by omega)
   simp[e,sy,jh (a:=x+1) (b:=n) (by omega),ml]
   exact H [(x+1)%n] _ ⟨by simp,λi hi=>by simp at hi;omega,by simp⟩ hp6_1 sb6_1
  ·have e:(rd (cI (nD kd) (.int 2)):DM D)=_:=ev 2 _ (Um h);simp[e];exact H _ _ som1 hp6_1 sb6_1
 intro l2 M6_2 som2 hp6_2 sb6_2;rw[hK];clear hK K
 -- 3
 refine aG λK hK=>?_
 suffices H:G K by
  by_cases h:kd=3
  ·have e:(rd (cI (nD kd) (.int 3)):DM D)=_:=ev 3 _ (Tz h);have md:∀y:Nat,(rd (qD (nD y) (.int 2)):DM D)=pure (nD (y%2)):=λy=>jh (b:=2) (by decide)
   have e1:(rd (cI (nD n) (.int 1)):DM D)=pure (.bl (decide (n=1))):=fO n 1;have ml:gB [nD x]=pure (.lst [nD x]):=cX (by simp)
   have fl:((List.range n).filter λy=>!decide (y%2=x%2)).length<=n:=by
    have:=VR (λy=>!decide (y%2=x%2)) (List.range n)
    rwa [Uy]at this
   have il:(if decide (n=1)=true then [x] else []).length<=1:=by split<;>simp
   have ad:=J1 (a:=(List.range n).filter λy=>!decide (y%2=x%2)) (b:=if decide (n=1)=true then [x] else []) (by omega)
   have mu:=J3 x (decide (n=1));have ge:=H (((List.range n).filter λy=>!decide (y%2=x%2))++if decide (n=1)=true then [x] else []) M6_2 ⟨λz=>?_,λi hi=>?_,?_⟩ hp6_2 sb6_2
   ·simp only[bQ,aK,aF,aq,e,aQ,if_true,eF (n:=n) (by omega),Bw,b8,dm,List.length_cons,List.length_nil,List.map_cons,List.map_nil,List.replicate_succ,List.replicate_zero,List.cons_append,List.nil_append,Option.getD_some]
    rw[bL nD (λy=>!decide (y%2=x%2)) nD (by simp;omega) (λy hy=>by simp[md,zW]) (λy hy w=>by simp)]
    simp only[bQ,au,n6,ml,e1,zj,mu,ad];exact ge
   ·rw [List.append_eq_nil_iff] at z
    by_cases h1:n=1
    ·rw[Tz h1,S7 rfl]at z;cases z.2
    ·have m:(if x % 2=0 then 1 else 0)∈(List.range n).filter λy=>!decide (y % 2=x % 2):=by
      rw[Vr,Uh];constructor
      ·split<;>omega
      ·by_cases h2:x%2=0
       ·simp[h2]
       ·have:x%2=1:=by omega
        simp[this]
     rw[z.1]at m;cases m
   ·rcases T6.mp hi with h2 | h2
    ·exact Uh.mp (Vr.mp h2).1
    ·split at h2
     ·simp at h2;omega
     ·cases h2
   ·rw[TF];omega
  ·have e:(rd (cI (nD kd) (.int 3)):DM D)=_:=ev 3 _ (Um h);simp[e];exact H _ _ som2 hp6_2 sb6_2
 intro l3 M6_3 som3 hp6_3 sb6_3;rw[hK];clear hK K
 -- 4
 refine aG λK hK=>?_
 suffices H:G K by
  by_cases h:kd=4
  ·have e:(rd (cI (nD kd) (.int 4)):DM D)=_:=ev 4 _ (Tz h);have dv:∀y:Nat,(rd (uU (nD y) (.int 2)):DM D)=pure (nD (y / 2)):=λy=>zT (b:=2) (by decide) (by decide)
   have fl:((List.range n).filter λy=>decide (y / 2=x / 2)).length<=n:=by
    have:=VR (λy=>decide (y / 2=x / 2)) (List.range n)
    rwa [Uy]at this
   simp only[bQ,aK,aF,aq,e,aQ,if_true,eF (n:=n) (by omega),Bw,b8,dm,List.length_cons,List.length_nil,List.map_cons,List.map_nil,List.replicate_succ,List.replicate_zero,List.cons_append,List.nil_append,Option.getD_some]
   rw[bL nD (λy=>decide (y / 2=x / 2)) nD (by simp;omega) (λy hy=>by simp[dv,fO]) (λy hy w=>by simp)]
   simp only[bQ,au,n6];refine H _ _ ⟨λz=>?_,λi hi=>Uh.mp (Vr.mp hi).1,by omega⟩ hp6_3 sb6_3
   have m:x∈(List.range n).filter λy=>decide (y / 2=x / 2):=by rw[Vr,Uh];exact⟨hx',by simp⟩
   rw[z]at m;cases m
  ·have e:(rd (cI (nD kd) (.int 4)):DM D)=_:=ev 4 _ (Um h);simp[e];exact H _ _ som3 hp6_3 sb6_3
 intro l4 M6_4 som4 hp6_4 sb6_4;rw[hK];clear hK K
 -- 5
 refine aG λK hK=>?_
 suffices H:G K by
  by_cases h:kd=5
  ·have e:(rd (cI (nD kd) (.int 5)):DM D)=_:=ev 5 _ (Tz h);simp[e,sy,Bx (n:=x+1) (by omega)]
   exact H (List.range (x+1)) _ ⟨by simp,λi hi=>by have:=Uh.mp hi;omega,by simp;omega⟩ hp6_4 sb6_4
  ·have e:(rd (cI (nD kd) (.int 5)):DM D)=_:=ev 5 _ (Um h);simp[e];exact H _ _ som4 hp6_4 sb6_4
 intro l5 M6_5 som5 hp6_5 sb6_5;rw[hK];clear hK K
 -- the row
 have q6:q<M6_5.length:=(S5.mp (sb6_5.at (λz=>pq z.symm) at5)).1
 have at6:=sb6_5.at (λz=>pq z.symm) at5
 have sb6:Sb p M M6_5:=sb5.trans sb6_5;have m0:gB [.int 0]=pure (.lst [.int 0]):=cX (by simp)
 refine aG λK hK=>?_
 simp[m0];refine Hx (by omega) ?_
 have pt:p≠M6_5.length:=by have:=hp6_5.lt;omega
 have qt:q≠M6_5.length:=by omega
 have tl:M.length<=M6_5.length:=sb6.le;have bs0:BalS M p q M6_5.length n R 0 (M6_5++[.lst ((List.replicate n 0).map nD)]):=⟨hp6_5.sb (q:=M6_5.length) Sb.push pt,Sb.new (p:=p) (.inr sb6.le) tl Sb.push sb6,by rw[S9 q6];exact at6,List.replicate n 0,by simp,by simp,by simp⟩
 rw[hK];clear hK K;revert bs0 pt qt tl;generalize M6_5.length=t;generalize M6_5++[DO.lst ((List.replicate n 0).map nD)]=M7;intro pt qt tl bs0
 -- ball by ball
 refine aG λK hK=>?_
 simp[eF (n:=W) (by omega),fF]
 refine Rn.bind (du (QG M p q t n R [some (.ref p),some (nD tp),some (nD n),some (nD W),some (nD kd),some (.ref q),some (nD x),some (.lst (l5.map nD)),some (.ref t)]) _ 0 _ _ ⟨⟨z9,rfl⟩,bs0⟩ (λj d δ M8 hj hI=>?_)) (λr M8 hI=>?_)
 ·obtain⟨⟨z9,rfl⟩,hp8,sb8,atq8,r,at8,lr,sr⟩:=hI;obtain⟨hj',rfl⟩:=sG hj;rw[Uq]at sr ⊢
  rw[o8,au];have ln:(rd (dX [.lst (l5.map nD)]):DM D)=pure (nD l5.length):=by simp[nD]
  have l0:0<l5.length:=Xc.mpr som5.ne;simp[ln];refine Rn.bind (dg hp8 l0 (by have:=som5.len;omega)) λd9 M9 ⟨u,g9,e9,hp9,s9⟩=>?_
  subst e9;simp only[zU g9,au];have ul:ga l5 u<r.length:=by rw[lr];exact som5.lt _ (uX g9)
  have at9:=s9.at (λz=>pt z.symm) at8
  have atq9:=s9.at (λz=>pq z.symm) atq8
  have t9:=(S5.mp at9).1;generalize ga l5 u=v at ul;refine Rn.bindRd (nD (ga r v)) (by
   show (if 0<=(v:Int) then (bj (.ref t) M9).bind λl=>atI l (v:Int) else none)=_
   rw[S7 (by omega)]
   simp only[bj,at9,Option.bind_some];exact m7 (by rw[TV,Tg ul,lU ul];rfl)) ?_
  have ia:(rd (cW (λw w=>true) (λi j=>.int (i+j)) (nD (ga r v)) (.int 1)):DM D)=pure (nD (ga r v+1)):=wD (ga r v) 1
  simp[ia];refine Rn.run (jk at9 (by rw[Te];exact ul)) ?_
  refine Rn.pure ⟨_,rfl,⟨_,rfl⟩,hp9.sb (q:=t) Sb.set pt,Sb.new (p:=p) (.inr (sb8.trans s9).le) tl Sb.set (sb8.trans s9),by rw[Tc (λz=>qt z.symm)];exact atq9,r.set v (ga r v+1),?_,by rw[Ur];exact lr,?_⟩
  ·rw[Th t9,Wu]
  ·have:=wN (l:=r) (i:=v) (v:=ga r v+1) ul;omega
 obtain⟨δ',rfl,⟨z9,rfl⟩,hp8,sb8,atq8,r,at8,lr,sr⟩:=hI;rw[Te,Uy,Uq]at sr;rw[hK];clear hK K;simp;refine Rn.bindRd _ (by simp only[bj,atq8];rfl) ?_
 refine Rn.bindRd (nT r) (by show (bj (.ref t) M8).map _=_;simp only[bj,at8];rfl) ?_
 have q8:=(S5.mp atq8).1;refine Rn.run (vQ atq8 (by rw[Te];omega)) ?_
 refine Rn.pure (hQ _ _ ⟨⟨_,_,_,_,rfl⟩,hp8.sb (q:=q) Sb.set pq,Sb.new (p:=p) (.inr sb8.le) ql Sb.set sb8,R++[r],by simp[lR],by rw[Th q8];simp,λr' hr'=>?_⟩)
 rcases T6.mp hr' with z | z
 ·exact hR r' z
 ·rw[Tt.mp z];exact⟨lr,sr⟩
noncomputable def Dm:=aL 1 1 (yG wU)
noncomputable def Dy:=aL 1 1 (lM Dm)
noncomputable def Kw(l:List Nat):Prop:=1<=l.length/\l.length<=25/\0<l.sum
def Ly{l:List Nat}(h1:1<=l.length)(h2:l.length<=25):Dm [nT l]=pure (.bl (decide (0<l.sum))):=by
 have a:(rd (eV [nT l,.ty "tuple"]):DM D)=pure (.bl true):=vD (t := "tuple") (λz=>rfl) (by decide)
 have ln:(rd (dX [nT l]):DM D)=pure (.int (l.length:Int)):=by simp[nT]
 have e1:decide ((1:Int)<=(l.length:Int))=true:=Tz (by omega)
 have e2:decide ((l.length:Int)<=25)=true:=Tz (by omega)
 simp[Dm,yG,a,ln,e1,e2,DQ (l:=l) (by omega),Ax]
def Oi{l:List Nat}(h:Kw l):Dy [nT l]=pure .non:=by simp[Dy,lM,Ly h.1 h.2.1,h.2.2]
noncomputable def Frs:=aL 1 1 (kh p8)
def Gp{k:Nat}(h:k<=100):Frs [nD k]=pure .non:=by
 have e1:(rd (xr (.int 0) (nD k)):DM D)=pure (.bl true):=by rw[show D.int 0=nD 0 from rfl,nU,Tz (Vh _)]
 have e2:(rd (xr (nD k) (.int 100)):DM D)=pure (.bl true):=by rw[show D.int 100=nD 100 from rfl,nU,Tz h]
 simp[Frs,kh,uZ,e1,e2]
noncomputable def unit(n x:Nat):List Nat:=(List.range n).map λi=>if i=x then 1 else 0
noncomputable def Du:=aL 2 2 yI
def MF{n x:Nat}(h:n<=1000):Du [nD x,nD n]=pure (nT (unit n x)):=by
 simp[Du,yI,eF (n:=n) (by omega),b8,dm]
 rw[rJ nD (λi=>nD (if i=x then 1 else 0)) (by simp;omega) (λi hi=>by simp[fO];by_cases e:i=x<;>simp[e,nD])]
 simp[unit,nT,Function.comp_def]
noncomputable def dot(l:List Nat)(R:List (List Nat))(y:Nat):Nat:=(List.zipWith (λw r=>w*ga r y) l R).sum
noncomputable def stp(R:List (List Nat))(l:List Nat):List Nat:=(List.range R.length).map (dot l R)
noncomputable def pR{α:Type}(f:α->α):Nat->α->α
 |0,a=>a
 |n+1,a=>pR f n (f a)
theorem lz{α:Type}(f:α->α):∀ (n:Nat) (a:α),pR f (n + 1) a=f (pR f n a)
 |0,a=>rfl
 |n+1,a=>by show pR f (n+1) (f a)=_;rw[lz f n (f a)];rfl
noncomputable def yC:=aL 2 2 xf
def Nh(f:Nat->List Nat->Nat)(l:List Nat)(R:List (List Nat)):List.zipWith (λw r=>nD (f w r)) l R=(List.zipWith f l R).map nD:=by rw[List.map_zipWith]
def Gu{R:List (List Nat)}{W:Nat}{l:List Nat}(h:WK R W)(hW:W<2 ^ 60)(hl:l.length=R.length):yC [nM R,nT l]=pure (nT (stp R l)):=by
 have h2:=h.n25;simp[yC,xf,Gm,eF (n:=l.length) (by omega),b8,dm]
 rw[rJ nD (λy=>nD (dot l R y)) (by simp;omega) (λy hy=>?_)]
 ·simp[stp,hl,nT,Function.comp_def]
 ·have hy':y<R.length:=by rw[<-hl];exact Uh.mp hy
  simp[J5];rw[K8 nD nT (λw r=>nD (w*ga r y)) (by omega) (λw hw r hr=>by have:=h.at_le hr y;simp[sE (l:=r) (i:=y) (by rw[h.row r hr];exact hy'),zV (a:=w) (b:=ga r y) (by omega)])]
  rw[Nh,au,Oe];rfl
def Kg(R:List (List Nat))(l:List Nat):(stp R l).length=R.length:=by simp[stp]
theorem Bf{n W:Nat}:∀ (l:List Nat) (R:List (List Nat)),l.length=R.length->(∀ r∈R,r.length=n)->(∀ r∈R,r.sum=W)->S n (dot l R)=l.sum * W
 |[],[],_,_,_=>by rw[uF (f:=dot [] []) λz z=>rfl];simp
 | w::l,r::R,hl,h1,h2=>by
   have e:dot (w::l) (r::R)=λy=>w*ga r y+dot l R y:=by
    funext y;show (w*ga r y::List.zipWith (λw r=>w*ga r y) l R).sum=_
    rw[V7];rfl
   rw[e,Ie,DN,Bf l R (by simpa using hl) (λr hr=>h1 r (by simp[hr])) (λr hr=>h2 r (by simp[hr])),V7,Nat.add_mul]
   have:=Kz r;rw[h1 r (by simp),h2 r (by simp)]at this
   rw[this]
def Kh{R:List (List Nat)}{W:Nat}{l:List Nat}(h:WK R W)(hl:l.length=R.length):(stp R l).sum=l.sum*W:=by unfold stp;rw[uE];exact Bf l R hl h.row h.sum
def wu{R:List (List Nat)}{l:List Nat}(hl:l.length=R.length):∀k,(pR (stp R) k l).length=R.length
 |0=>hl
 |k+1=>by rw[lz,Kg]
theorem Bl{R:List (List Nat)}{W:Nat}{l:List Nat}(h:WK R W)(hl:l.length=R.length):∀ k,(pR (stp R) k l).sum=l.sum * W ^ k
 |0=>by simp[pR]
 |k+1=>by rw[lz,Kh h (wu hl k),Bl h hl k,Nat.pow_succ,Nat.mul_assoc]
def lF(n x:Nat):(unit n x).length=n:=by simp[unit]
def Af{n x:Nat}(h:x<n):(unit n x).sum=1:=by
 unfold unit;rw[uE];have e:S n (λi=>if i=x then 1 else 0)=S n (up (λz=>0) x 1):=vO λi z=>rfl
 have:S n (up (λz=>0) x 1)+0=S n (λz=>0)+1:=KC (f:=λz=>0) h
 rw[uF (f:=λz=>0) λz z=>rfl]at this
 omega
def HX{R:List (List Nat)}{W x:Nat}(h:WK R W)(hx:x<R.length):Kw (unit R.length x):=⟨by rw[lF];exact h.n1,by rw[lF];exact h.n25,by rw[Af hx];decide⟩
noncomputable def Di:=aL 3 4 (qi Dy Frs yC)
noncomputable def Rp(M0:Mo)(w:D)(R:List (List Nat))(l:List Nat)(k:Nat)(i:Nat)(δ:ao)(M:Mo):Prop:=(∃z,δ=[some w,some (nT (pR (stp R) i l)),some (nD k),z])/\M=M0
def KJ{R:List (List Nat)}{W:Nat}{l:List Nat}{k:Nat}(h:WK R W)(hW:W<2^60)(hl:l.length=R.length)(hL:Kw l)(hk:k<=100):Di [aA R W,nT l,nD k]=pure (nT (pR (stp R) k l)):=Bu λM=>by
 unfold Di qi lC;dsimp only;refine Rn.call rfl ?_;simp[Oi hL,Gm,cD,nW,zW,hl,Gp hk,eF (n:=k) (by omega),yX]
 refine Rn.bind (du (Rp M (aA R W) R l k) _ 0 _ _ ⟨⟨none,rfl⟩,rfl⟩ (λj d δ M1 hj hI=>?_)) (λr M1 hI=>?_)
 ·obtain⟨⟨z,rfl⟩,rfl⟩:=hI;rw[Uq];simp[cD,Gu h hW (wu hl j)];exact Rn.pure ⟨_,rfl,⟨_,by rw[lz]⟩,rfl⟩
 ·obtain⟨δ',rfl,⟨z,rfl⟩,rfl⟩:=hI;simp;exact Rn.pure ⟨_,rfl,rfl,rfl⟩
noncomputable def bR(R:List (List Nat))(k:Nat):List (List Nat):=(List.range R.length).map λx=>pR (stp R) k (unit R.length x)
noncomputable def wX:=aL 2 3 (qj Du Di)
def N5{R:List (List Nat)}{W:Nat}{k:Nat}(h:WK R W)(hW:W<2^60)(hk:k<=100):wX [aA R W,nD k]=pure (nM (bR R k)):=by
 have h2:=h.n25;simp[wX,qj,cD,nW,eF (n:=R.length) (by omega),b8,dm]
 rw[rJ nD (λx=>nT (pR (stp R) k (unit R.length x))) (by simp;omega) (λx hx=>by have hx':=Uh.mp hx;simp[zg (m := "after") (by decide),MF (n:=R.length) (x:=x) (by omega),KJ h hW (lF _ _) (HX h hx') hk])]
 simp[bR,nM,Function.comp_def]
def zN(R:List (List Nat))(k:Nat):(bR R k).length=R.length:=by simp[bR]
def JZ{R:List (List Nat)}{W k:Nat}(wk:WK R W):∀l∈bR R k,l.length=R.length/\l.sum=W^k:=λl hl=>by obtain⟨x,hx,rfl⟩:=Uj.mp hl;have hx':=Uh.mp hx;exact⟨wu (lF _ _) k,by rw[Bl wk (lF _ _),Af hx',Nat.one_mul]⟩
abbrev Ro:=List (List Nat)
structure KS where
 R:Ro
 ms:List Ro
 ds:List (Ro×List Ro)
noncomputable def bF(W:Nat)(ms:List Ro):D:=.tup (ms.map λR=>aA R W)
noncomputable def lO(W:Nat)(q:Ro×List Ro):D:=.tup [aA q.1 W,bF W q.2]
def bM:List Str:=["kept", "marks", "deeds", "powers", "made"]
structure KOk(n W:Nat)(S:KS):Prop where
 R:WK S.R W/\S.R.length=n
 ms:∀R∈S.ms,WK R W/\R.length=n
 ds:∀q∈S.ds,(WK q.1 W/\q.1.length=n)/\∀R∈q.2,WK R W/\R.length=n
structure Kpr(k d p W:Nat)(S:KS)(M:Mo):Prop where
 obj:∃c:Nat,M[k]?=some (.ins "Keeper" bM [aA S.R W,bF W S.ms,.ref d,.ref p,nD c])
 dd:M[d]?=some (.lst (S.ds.map (lO W)))
 pw:∃j,j<=50/\M[p]?=some (.lst ((List.range (j+1)).map λi=>nM (bR S.R i)))
 kd:k<d
 dp:k<p/\d≠p
structure Kc(k d p W:Nat)(S:KS)(c j:Nat)(M:Mo):Prop where
 obj:M[k]?=some (.ins "Keeper" bM [aA S.R W,bF W S.ms,.ref d,.ref p,nD c])
 jle:j<=50
 pw:M[p]?=some (.lst ((List.range (j+1)).map λi=>nM (bR S.R i)))
structure Op(k d p:Nat)(M:Mo)(p':Nat)(M':Mo):Prop where
 le:M.length<=M'.length
 keep:∀q,q<M.length->q≠k->q≠d->q≠p->M'[q]?=M[q]?
 new:p'=p\/M.length<=p'
def Op.refl{k d p:Nat}{M:Mo}:Op k d p M p M:=⟨Td _,λz z z z z=>rfl,.inl rfl⟩
theorem Op.trans{k d p p1 p2:Nat}{M M1 M2:Mo}(a:Op k d p M p1 M1)(b:Op k d p1 M1 p2 M2):Op k d p M p2 M2 where
 le:=T7 a.le b.le
 keep:=λq hq h1 h2 h3=>by
  have n3:q≠p1:=by
   rcases a.new with z | z
   ·omega
   ·omega
  rw[b.keep q (Tj hq a.le) h1 h2 n3];exact a.keep q hq h1 h2 h3
 new:=by
  have:=a.le;rcases b.new with z | z
  ·rcases a.new with y | y
   ·exact .inl (z.trans y)
   ·exact .inr (by omega)
  ·exact .inr (by omega)
def Kpr.lt{k d p W:Nat}{S:KS}{M:Mo}(h:Kpr k d p W S M):p<M.length:=by obtain⟨j,_,e⟩:=h.pw;exact (S5.mp e).1
def Kpr.on{k d p q W:Nat}{S:KS}{M M':Mo}(h:Kpr k d p W S M)(s:Sb q M M')(h1:k≠q)(h2:d≠q)(h3:p≠q):Kpr k d p W S M':=by obtain⟨c,e⟩:=h.obj;obtain⟨j,hj,e2⟩:=h.pw;exact⟨⟨c,s.at h1 e⟩,s.at h2 h.dd,⟨j,hj,s.at h3 e2⟩,h.kd,h.dp⟩
def kO{M:Mo}{k:Nat}{vs:List D}{f:Str}{d:D}(e:M[k]?=some (.ins "Keeper" bM vs))(hl:vs.length=5):ju "Keeper" f (.ref k) d M=some (.ok (),M.set k (.ins "Keeper" (putN f bM) (bO f d bM vs))):=by unfold ju;simp only[e];rw[S7 ⟨True.intro,by rw[hl];rfl,by decide⟩]
def bh{M:Mo}{k:Nat}{vs:List D}{f:Str}{x:D}(e:M[k]?=some (.ins "Keeper" bM vs))(h:(bM.zip vs).lookup f=some x):oW "Keeper" f (.ref k) M=some x:=by simp only[oW,e];rw[S7 True.intro];exact h
def cL{M:Mo}{k:Nat}{vs:List D}{m:Str}(e:M[k]?=some (.ins "Keeper" bM vs))(h:bM.contains m=false):jM "Keeper" m (.ref k) M=some ():=by simp only[jM,e];rw[S7 ⟨True.intro,h⟩]
def Rn.callN{p n:Nat}{fb:ao->DM Fl}{ds:List D}{M:Mo}{Q:D->Mo->Prop}(hp:ds.length=p)(h:Rn (fb (aP n ds)) M λr M'=>(∃δ,r=.nx δ)/\Q .non M'):Rn (aL p n fb ds) M Q:=by
 unfold aL;rw[S7 hp];refine Rn.bind h λr M' hq=>?_
 obtain⟨⟨δ,rfl⟩,q⟩:=hq;exact Rn.pure q
def QF{R:Ro}{W:Nat}(wk:WK R W)(hW:W<2^60):wX [aA R W,.int 0]=pure (nM (bR R 0)):=N5 (k:=0) wk hW (by omega)
noncomputable def yo:=aL 3 3 (lJ wX)
def Eg{k d p W:Nat}{S:KS}{M:Mo}(h:Kpr k d p W S M){R:Ro}{ms:List Ro}(wk:WK R W)(hW:W<2^60):
  Rn (yo [.ref k,aA R W,bF W ms]) M λr M'=>r=.non/\∃p',Kpr k d p' W ⟨R,ms,S.ds⟩ M'/\Op k d p M p' M':=by
 obtain⟨c,ho⟩:=h.obj;obtain⟨j,hj,hp⟩:=h.pw;have kl:=(S5.mp ho).1;have dl:=(S5.mp h.dd).1;have pl:=(S5.mp hp).1;have kd:=h.kd;have dp:=h.dp;unfold yo lJ iK;dsimp only;refine Rn.callN rfl ?_;have st:aP 3 [D.ref k,aA R W,bF W ms]=[some (.ref k),some (aA R W),some (bF W ms)]:=rfl;rw[st];refine aG λK hK=>?_
 simp only[aK,aF,aq];refine Rn.run (kO ho rfl) ?_;rw[hK];clear hK K;have ho1:(M.set k (.ins "Keeper" (putN "kept" bM) (bO "kept" (aA R W) bM [aA S.R W,bF W S.ms,.ref d,.ref p,nD c])))[k]?=some (.ins "Keeper" bM [aA R W,bF W S.ms,.ref d,.ref p,nD c]):=Th kl;have k1:∀q,q≠k->(M.set k (.ins "Keeper" (putN "kept" bM) (bO "kept" (aA R W) bM [aA S.R W,bF W S.ms,.ref d,.ref p,nD c])))[q]?=M[q]?:=λq hq=>Tc (λz=>hq z.symm)
 have l1:(M.set k (.ins "Keeper" (putN "kept" bM) (bO "kept" (aA R W) bM [aA S.R W,bF W S.ms,.ref d,.ref p,nD c]))).length=M.length:=by simp
 revert ho1 k1 l1;generalize M.set k (.ins "Keeper" (putN "kept" bM) (bO "kept" (aA R W) bM [aA S.R W,bF W S.ms,.ref d,.ref p,nD c]))=M1;intro ho1 k1 l1;refine aG λK hK=>?_
 simp only[aK,aF,aq];refine Rn.run (kO ho1 rfl) ?_;rw[hK];clear hK K;have ho2:(M1.set k (.ins "Keeper" (putN "marks" bM) (bO "marks" (bF W ms) bM [aA R W,bF W S.ms,.ref d,.ref p,nD c])))[k]?=some (.ins "Keeper" bM [aA R W,bF W ms,.ref d,.ref p,nD c]):=Th (by rw[l1];exact kl)
 have k2:∀q,q≠k->(M1.set k (.ins "Keeper" (putN "marks" bM) (bO "marks" (bF W ms) bM [aA R W,bF W S.ms,.ref d,.ref p,nD c])))[q]?=M[q]?:=λq hq=>(Tc (λz=>hq z.symm)).trans (k1 q hq)
 have l2:(M1.set k (.ins "Keeper" (putN "marks" bM) (bO "marks" (bF W ms) bM [aA R W,bF W S.ms,.ref d,.ref p,nD c]))).length=M.length:=by simp[l1]
 revert ho2 k2 l2;generalize M1.set k (.ins "Keeper" (putN "marks" bM) (bO "marks" (bF W ms) bM [aA R W,bF W S.ms,.ref d,.ref p,nD c]))=M2;intro ho2 k2 l2;clear ho1 k1 l1;have ip:(rd (jM "Walk" "power" (aA R W)):DM Unit)=pure ():=zg (by decide) R W
 simp only[aK,aF,aq,ip,QF wk hW];refine Rn.eE (by simp) ?_
 have ho3:(M2++[DO.lst [nM (bR R 0)]])[k]?=some (.ins "Keeper" bM [aA R W,bF W ms,.ref d,.ref p,nD c]):=by rw[S9 (by omega)];exact ho2
 refine Rn.run (kO ho3 rfl) ?_;refine Rn.pure ⟨⟨_,rfl⟩,True.intro,M2.length,⟨⟨c,?_⟩,?_,⟨0,by omega,?_⟩,kd,by omega⟩,⟨by simp;omega,λq hq q1 q2 q3=>?_,.inr (by omega)⟩⟩
 ·rw[Th (by simp;omega)];rfl
 ·rw[Tc (by omega),S9 (by omega),k2 d (by omega)]
  exact h.dd
 ·rw[Tc (by omega)];simp
 ·rw[Tc (λz=>q1 z.symm),S9 (by omega),k2 q q1]
def Xn{α:Type}(m:DM α)(M:Mo)(c:Str)(M':Mo):Prop:=m M=some (.exc c,M')
section
variable{α β:Type}{m:DM α}{f:α->DM β}{M M1 M':Mo}{c:Str}{a:α}
def Xn.bindX(h:Xn m M c M'):Xn (m>>=f) M c M':=by show DM.bind m f M=_;unfold DM.bind;rw[show m M=_ from h]
def Xn.run(h:m M=some (.ok a,M1))(k:Xn (f a) M1 c M'):Xn (m>>=f) M c M':=by show DM.bind m f M=_;unfold DM.bind;rw[h];exact k
def Xn.bindRd{g:Mo->Option α}(a:α)(h:g M=some a)(k:Xn (f a) M c M'):Xn (L3.rd g>>=f) M c M':=Xn.run (a:=a) (M1:=M) (by unfold L3.rd;rw[h];rfl) k
def Xn.call{p n:Nat}{fb:ao->DM Fl}{ds:List D}(hp:ds.length=p)(h:Xn (fb (aP n ds)) M c M'):Xn (aL p n fb ds) M c M':=by unfold aL;rw[S7 hp];exact h.bindX
def Xn.seqK{f g:ao->DM Fl}{δ:ao}(h:∀K:Fl->DM Fl,(∀δ',K (.nx δ')=g δ')->Xn (f δ>>=K) M c M'):Xn (m5 f g δ) M c M':=by
 have:=h (λr=>match r with | .nx δ'=>g δ' | r=>Pure.pure r) (λz=>rfl)
 exact this
theorem Xn.raise:Xn (L3.raise c:DM α) M c M:=rfl
end
noncomputable def uD:=aL 3 3 (sX yo)
def Bo{n:Nat}{M:Mo}{l:List D}(h:M[n]?=some (.lst l)):bj (.ref n) M=some l:=by simp only[bj,h]
def Kpr.push{k d p W:Nat}{S:KS}{M:Mo}(h:Kpr k d p W S M)(q:Ro×List Ro):Kpr k d p W ⟨S.R,S.ms,S.ds++[q]⟩ (M.set d (.lst ((S.ds++[q]).map (lO W)))):=by obtain⟨c,ho⟩:=h.obj;obtain⟨j,hj,hp⟩:=h.pw;have kd:=h.kd;have dp:=h.dp;exact⟨⟨c,by rw[Tc (by omega)];exact ho⟩,Th (S5.mp h.dd).1,⟨j,hj,by rw[Tc (by omega)];exact hp⟩,kd,dp⟩
theorem Op.set{k d p:Nat}{M:Mo}{o:DO}:Op k d p M p (M.set d o):=⟨by simp,λq y y h y=>Tc (λz=>h z.symm),.inl rfl⟩
def yP{k d p W:Nat}{S:KS}{M:Mo}(h:Kpr k d p W S M){R:Ro}{ms:List Ro}(wk:WK R W)(hW:W<2^60)(hl:S.ds.length<1000):
  Rn (uD [.ref k,aA R W,bF W ms]) M λr M'=>r=.non/\∃p',Kpr k d p' W ⟨R,ms,S.ds++[(S.R,S.ms)]⟩ M'/\Op k d p M p' M':=by
 obtain⟨c,ho⟩:=h.obj;unfold uD sX mJ;dsimp only;refine Rn.callN rfl ?_;have st:aP 3 [D.ref k,aA R W,bF W ms]=[some (.ref k),some (aA R W),some (bF W ms)]:=rfl;rw[st];have mt:∀x y:D,(fY [x,y]:DM D)=pure (.tup [x,y]):=λx y=>dD (by simp)
 refine aG λK hK=>?_
 simp only[aK,aF,aq];refine Rn.bindRd (.ref d) (bh ho rfl) ?_;refine Rn.bindRd _ (Bo h.dd) ?_;refine Rn.bindRd (aA S.R W) (bh ho rfl) ?_;refine Rn.bindRd (bF W S.ms) (bh ho rfl) ?_;simp only[mt,au];refine Rn.run (vQ h.dd (by rw[Te];omega)) ?_
 rw[hK];clear hK K;have e:S.ds.map (lO W)++[.tup [aA S.R W,bF W S.ms]]=(S.ds++[(S.R,S.ms)]).map (lO W):=by rw[Ue];rfl
 rw[e];have h1:=h.push (S.R,S.ms);obtain⟨c1,ho1⟩:=h1.obj;simp only[aK,aF,aq];refine Rn.bindRd () (cL ho1 (by decide)) ?_
 refine Rn.bind (Eg h1 wk hW) λr M' hr=>?_
 obtain⟨rfl,p',h2,o2⟩:=hr;exact Rn.pure ⟨⟨_,rfl⟩,True.intro,p',h2,Op.set.trans o2⟩
noncomputable def Dq:=aL 1 1 (pK uD)
noncomputable def ym:=aL 1 1 (jG uD)
noncomputable def yq:=aL 1 3 (jJ yo)
noncomputable def wW:=aL 1 1 pM
def nR(a b:List D)(h:a.length+b.length<=1000000):(rd (cU (.tup a) (.tup b)):DM D)=pure (.tup (a++b)):=bY λM=>by
 have:eY (a++b)=true:=by unfold eY;exact Tz (by show (a++b).length<=2^24;rw[TF];omega)
 simp[cU,Ou,this]
def MN{k d p W:Nat}{S:KS}{M:Mo}(h:Kpr k d p W S M)(wk:WK S.R W)(hW:W<2^60)(hl:S.ds.length<1000)(hm:S.ms.length<1000):
  Rn (Dq [.ref k]) M λr M'=>r=.non/\∃p',Kpr k d p' W ⟨S.R,S.ms++[S.R],S.ds++[(S.R,S.ms)]⟩ M'/\Op k d p M p' M':=by
 obtain⟨c,ho⟩:=h.obj;unfold Dq pK jN;dsimp only;refine Rn.callN rfl ?_;have st:aP 1 [D.ref k]=[some (.ref k)]:=rfl;rw[st];have mt:∀x:D,(fY [x]:DM D)=pure (.tup [x]):=λx=>dD (by simp)
 have e:D.tup (S.ms.map (λR=>aA R W)++[aA S.R W])=bF W (S.ms++[S.R]):=by unfold bF;rw[Ue];rfl
 have ct:(rd (cU (bF W S.ms) (.tup [aA S.R W])):DM D)=pure (bF W (S.ms++[S.R])):=by rw[<-e];exact nR _ _ (by simp;omega)
 simp only[aK,aF,aq];refine Rn.bindRd () (cL ho (by decide)) ?_
 refine Rn.bindRd (aA S.R W) (bh ho rfl) ?_;refine Rn.bindRd (bF W S.ms) (bh ho rfl) ?_;refine Rn.bindRd (aA S.R W) (bh ho rfl) ?_;simp only[mt,au,ct];refine Rn.bind (yP h wk hW hl) λr M' hr=>?_
 obtain⟨rfl,p',h2,o2⟩:=hr;exact Rn.pure ⟨⟨_,rfl⟩,True.intro,p',h2,o2⟩
def Az(l:List D)(x:D):(rd (cg (.tup (l++[x])) (.int (-1))):DM D)=pure x:=bY λM=>by
 show atI (l++[x]) (-1)=some x;unfold atI;have:ixN (l++[x]).length (-1)=some l.length:=by
  unfold ixN;rw[Tq (by omega),S7 (by simp;omega)]
  congr 1;simp;omega
 rw[this];simp
def tX(l:List D)(x:D):cutD (l++[x]) none (some (-1))=l:=by
 unfold cutD HT.sIx;have:((-1:Int)+((l++[x]).length:Int)).toNat=l.length:=by simp;omega
 dsimp only;rw[S7 (by omega),this]
 simp
def rM(n:Nat):(rd (cI (nD n) (.int 0)):DM D)=pure (.bl (decide (n=0))):=fO n 0
def K3{k d p W:Nat}{R:Ro}{ms:List Ro}{R':Ro}{ds:List (Ro×List Ro)}{M:Mo}(h:Kpr k d p W ⟨R,ms++[R'],ds⟩ M)(wk:WK R' W)(hW:W<2^60)(hl:ds.length<1000):
  Rn (ym [.ref k]) M λr M'=>r=.non/\∃p',Kpr k d p' W ⟨R',ms,ds++[(R,ms++[R'])]⟩ M'/\Op k d p M p' M':=by
 obtain⟨c,ho⟩:=h.obj;unfold ym jG gH;dsimp only;refine Rn.callN rfl ?_;have st:aP 1 [D.ref k]=[some (.ref k)]:=rfl;rw[st];have em:bF W (ms++[R'])=.tup ((ms.map λR=>aA R W)++[aA R' W]):=by unfold bF;rw[Ue];rfl
 have ln:(rd (dX [bF W (ms++[R'])]):DM D)=pure (nD (ms.length+1)):=bY λM=>by show (some (D.int _))=_;simp[nD]
 have ng:(rd (qG (.int 1)):DM D)=pure (.int (-1)):=rfl;have ai:(sW (.int (-1)):DM (Option Int))=pure (some (-1)):=rfl;have sl:(rd (qZ none (some (-1)) (bF W (ms++[R']))):DM D)=pure (bF W ms):=bY λM=>by rw[em];show some (D.tup (cutD _ none (some (-1))))=_;rw[tX];rfl
 refine aG λK hK=>?_
 simp only[aK,aF,aq];refine Rn.bindRd (bF W (ms++[R'])) (bh ho rfl) ?_;simp only[ln,au,rM,aQ,show decide (ms.length+1=0)=false from decide_eq_false (by omega),if_false,Bool.false_eq_true]
 rw[hK];clear hK K;simp only[aK,aF,aq];refine Rn.bindRd () (cL ho (by decide)) ?_
 refine Rn.bindRd (bF W (ms++[R'])) (bh ho rfl) ?_;simp only[ng,au];rw[show (rd (cg (bF W (ms++[R'])) (.int (-1))):DM D)=pure (aA R' W) by rw[em];exact Az _ _,au]
 refine Rn.bindRd (bF W (ms++[R'])) (bh ho rfl) ?_;simp only[ai,sl,au];refine Rn.bind (yP h wk hW hl) λr M' hr=>?_
 obtain⟨rfl,p',h2,o2⟩:=hr;exact Rn.pure ⟨⟨_,rfl⟩,True.intro,p',h2,o2⟩
def O1{k d p W:Nat}{R:Ro}{ds:List (Ro×List Ro)}{M:Mo}(h:Kpr k d p W ⟨R,[],ds⟩ M):Xn (ym [.ref k]) M "NoMark" M:=by
 obtain⟨c,ho⟩:=h.obj;have ln:(rd (dX [bF W []]):DM D)=pure (nD 0):=rfl;unfold ym jG gH;dsimp only;refine Xn.call rfl ?_;have st:aP 1 [D.ref k]=[some (.ref k)]:=rfl;rw[st];refine Xn.seqK λK hK=>?_
 simp only[aK,aF,aq];refine Xn.bindRd (bF W []) (bh ho rfl) ?_;simp only[ln,au,rM,aQ,decide_true,if_true];exact Xn.raise.bindX
def JX{n:Nat}{M:Mo}{l:List D}{x:D}(h:M[n]?=some (.lst (l++[x]))):Iz (.ref n) M=some (.ok x,M.set n (.lst l)):=by
 show (match M[n]? with
  |some (.lst l)=>match l[l.length-1]? with
    |some d=>some (R.ok d,M.set n (.lst l.dropLast))
    |none=>none
  |_=>none)=_
 rw[h];simp
def Ow{k d p W:Nat}{R R':Ro}{ms ms':List Ro}{ds:List (Ro×List Ro)}{M:Mo}(h:Kpr k d p W ⟨R,ms,ds++[(R',ms')]⟩ M)(wk:WK R' W)(hW:W<2^60):
  Rn (yq [.ref k]) M λr M'=>r=.non/\∃p',Kpr k d p' W ⟨R',ms',ds⟩ M'/\Op k d p M p' M':=by
 obtain⟨c,ho⟩:=h.obj;have hd:M[d]?=some (.lst (ds.map (lO W)++[lO W (R',ms')])):=by have:=h.dd;rwa [Ue]at this
 unfold yq jJ gM;dsimp only;refine Rn.callN rfl ?_;have st:aP 3 [D.ref k]=[some (.ref k),none,none]:=rfl;rw[st];refine aG λK hK=>?_
 simp only[aK,aF,aq];refine Rn.bindRd (.ref d) (bh ho rfl) ?_;refine Rn.bindRd (nD (ds.length+1)) (by show (bj (.ref d) M).map _=_;simp only[bj,hd];simp[nD]) ?_
 simp only[au,rM,aQ,show decide (ds.length+1=0)=false from decide_eq_false (by omega),if_false,Bool.false_eq_true]
 rw[hK];clear hK K;refine aG λK hK=>?_
 simp only[aK,aF,aq];refine Rn.bindRd (.ref d) (bh ho rfl) ?_;refine Rn.run (JX hd) ?_;have tg:gT 2 (cF (gN 1) (cF (gN 2) iI)) (lO W (R',ms')) [some (.ref k),none,none]=pure [some (.ref k),some (aA R' W),some (bF W ms')]:=by unfold lO;simp[gT,cF,iI]
 rw[tg,au,hK];clear hK K;have kd:=h.kd;have dp:=h.dp;obtain⟨j,hj,hp⟩:=h.pw;have h1:Kpr k d p W ⟨R,ms,ds⟩ (M.set d (.lst (ds.map (lO W)))):=⟨⟨c,by rw[Tc (by omega)];exact ho⟩,Th (S5.mp hd).1,⟨j,hj,by rw[Tc (by omega)];exact hp⟩,kd,dp⟩
 obtain⟨c1,ho1⟩:=h1.obj;simp only[aK,aF,aq];refine Rn.bindRd () (cL ho1 (by decide)) ?_
 refine Rn.bind (Eg h1 wk hW) λr M' hr=>?_
 obtain⟨rfl,p',h2,o2⟩:=hr;exact Rn.pure ⟨⟨_,rfl⟩,True.intro,p',h2,Op.set.trans o2⟩
def Qv{k d p W:Nat}{R:Ro}{ms:List Ro}{M:Mo}(h:Kpr k d p W ⟨R,ms,[]⟩ M):Xn (yq [.ref k]) M "NoDeed" M:=by
 obtain⟨c,ho⟩:=h.obj;have hd:=h.dd;unfold yq jJ gM;dsimp only;refine Xn.call rfl ?_;have st:aP 3 [D.ref k]=[some (.ref k),none,none]:=rfl;rw[st];refine Xn.seqK λK hK=>?_
 simp only[aK,aF,aq];refine Xn.bindRd (.ref d) (bh ho rfl) ?_;refine Xn.bindRd (nD 0) (by show (bj (.ref d) M).map _=_;simp only[bj,hd];rfl) ?_
 simp only[au,rM,aQ,decide_true,if_true];exact Xn.raise.bindX
noncomputable def Dn:=aL 2 2 (uI p8)
noncomputable def qb:=aL 2 2 (j9 Dn sU)
noncomputable def yu:=aL 2 2 (pP p8)
noncomputable def yw:=aL 5 6 (kY qb yu)
def LQ{x n:Nat}(h:x<n):Dn [nD x,nD n]=pure (.bl true):=by
 have e1:(rd (xr (.int 0) (nD x)):DM D)=pure (.bl true):=by rw[show D.int 0=nD 0 from rfl,nU];simp
 have e2:(rd (vf (nD x) (nD n)):DM D)=pure (.bl true):=by rw[nY,Tz h]
 simp[Dn,uI,uZ,e1,e2]
def sH{R:Ro}{W x:Nat}(h2:R.length<=25)(h:x<R.length):qb [aA R W,nD x]=pure .non:=by simp[qb,j9,Bp h2,LQ h]
def J6{m:Nat}(h:1<=m):yu [nD m,.int 1]=pure .non:=by
 have e1:(rd (vf (nD m) (.int 1)):DM D)=pure (.bl false):=by rw[show D.int 1=nD 1 from rfl,nY,Um (by omega)]
 simp[yu,pP,uZ,e1]
def BK{R:Ro}{W x y z m:Nat}(h2:R.length<=25)(hx:x<R.length)(hy:y<R.length)(hz:z<R.length)(hm:1<=m):yw [aA R W,nD x,nD y,nD z,nD m]=pure .non:=Bu λM=>by
 unfold yw kY ie;dsimp only;refine Rn.callN rfl ?_;have st:aP 6 [aA R W,nD x,nD y,nD z,nD m]=[some (aA R W),some (nD x),some (nD y),some (nD z),some (nD m),none]:=rfl;rw[st];have mt:(fY [nD x,nD y,nD z]:DM D)=pure (.tup [nD x,nD y,nD z]):=dD (by simp)
 have fo:yX 0 (gN 5) (λδ=>opt δ[0]?.join>>=λa=>opt δ[5]?.join>>=λb=>qb [a,b]>>=λw=>pure (Fl.nx δ)) (.fix [nD x,nD y,nD z]) [some (aA R W),some (nD x),some (nD y),some (nD z),some (nD m),none]=pure (.nx [some (aA R W),some (nD x),some (nD y),some (nD z),some (nD m),some (nD z)]):=by simp[yX,forL,sH h2 hx,sH h2 hy,sH h2 hz]
 refine aG λK hK=>?_
 simp only[aK,aF,aq,mt,w5];rw[fo,au,hK];clear hK K;simp only[aK,aF,aq,J6 hm];exact Rn.pure ⟨⟨_,rfl⟩,True.intro,rfl⟩
structure Gw(M M':Mo):Prop where
 le:M.length<=M'.length
 keep:∀q,q<M.length->M'[q]?=M[q]?
def Gw.at{M M':Mo}(g:Gw M M'){q:Nat}{o:DO}(h:M[q]?=some o):M'[q]?=some o:=(g.keep q (S5.mp h).1).trans h
def iY(r:List Nat)(y z m:Nat):List Nat:=(r.set y (ga r y-m)).set z (ga (r.set y (ga r y-m)) z+m)
def lX(R:Ro)(x y z m:Nat):Ro:=R.set x (iY (gr R x) y z m)
def Nb{r:List Nat}{y z m:Nat}(hy:y<r.length)(hz:z<r.length)(h:m<=ga r y):(iY r y z m).length=r.length/\(iY r y z m).sum=r.sum:=by
 have s1:=wN (l:=r) (i:=y) (v:=ga r y-m) hy;have s2:=wN (l:=r.set y (ga r y-m)) (i:=z) (v:=ga (r.set y (ga r y-m)) z+m) (by rw[Ur];exact hz)
 unfold iY;refine⟨by simp,by omega⟩
def CN{R:Ro}{W x y z m:Nat}(wk:WK R W)(hx:x<R.length)(hy:y<R.length)(hz:z<R.length)(h:m<=ga (gr R x) y):WK (lX R x y z m) W:=by
 have rl:=wk.row _ (gr_mem hx);obtain⟨a,b⟩:=Nb (r:=gr R x) (y:=y) (z:=z) (m:=m) (by omega) (by omega) h
 have l:(lX R x y z m).length=R.length:=by simp[lX]
 refine⟨by rw[l];exact wk.n1,by rw[l];exact wk.n25,λr hr=>?_,λr hr=>?_,wk.w1⟩
 ·rcases List.mem_or_eq_of_mem_set hr with hr | rfl
  ·rw[l];exact wk.row r hr
  ·rw[l,a,rl]
 ·rcases List.mem_or_eq_of_mem_set hr with hr | rfl
  ·exact wk.sum r hr
  ·rw[b];exact wk.sum _ (gr_mem hx)
noncomputable def yr:=aL 5 6 (vR uC)
def Jd(R:Ro):nM R=.tup (R.map nT):=rfl
def Pr{R:Ro}{W x y z m:Nat}(wk:WK R W)(hx:x<R.length)(hy:y<R.length)(h:y=z\/ga (gr R x) y<m)(M:Mo):Xn (yr [aA R W,nD x,nD y,nD z,nD m]) M "NoMove" M:=by
 have rl:=wk.row _ (gr_mem hx);unfold yr vR su;dsimp only;refine Xn.call rfl ?_;have st:aP 6 [aA R W,nD x,nD y,nD z,nD m]=[some (aA R W),some (nD x),some (nD y),some (nD z),some (nD m),none]:=rfl;rw[st];refine Xn.seqK λK hK=>?_
 have e1:(rd (cI (nD y) (nD z)):DM D)=pure (.bl (decide (y=z))):=fO y z;have e2:(rd (vf (nD (ga (gr R x) y)) (nD m)):DM D)=pure (.bl (decide (ga (gr R x) y<m))):=nY _ _;simp only[aK,aF,aq,e1,aQ];by_cases c:y=z
 ·simp only[c,decide_true,if_true,au];exact Xn.raise.bindX
 ·simp only[c,decide_false,Bool.false_eq_true,if_false,cD,au,jr hx,sE (show y<(gr R x).length by omega),e2,aQ,decide_eq_true (h.resolve_left c),if_true]
  exact Xn.raise.bindX
def MT{R:Ro}{W x y z m:Nat}(wk:WK R W)(hx:x<R.length)(hy:y<R.length)(hz:z<R.length)(h1:y≠z)(h2:m<=ga (gr R x) y)(M:Mo):Rn (yr [aA R W,nD x,nD y,nD z,nD m]) M λr M'=>r=aA (lX R x y z m) W/\Gw M M':=by
 have rl:=wk.row _ (gr_mem hx);have n25:=wk.n25;unfold yr vR su;dsimp only;refine Rn.call rfl ?_;have st:aP 6 [aA R W,nD x,nD y,nD z,nD m]=[some (aA R W),some (nD x),some (nD y),some (nD z),some (nD m),none]:=rfl;rw[st];refine aG λK hK=>?_
 have e1:(rd (cI (nD y) (nD z)):DM D)=pure (.bl (decide (y=z))):=fO y z;have e2:(rd (vf (nD (ga (gr R x) y)) (nD m)):DM D)=pure (.bl (decide (ga (gr R x) y<m))):=nY _ _;simp only[aK,aF,aq,e1,aQ,decide_eq_false h1,Bool.false_eq_true,if_false,cD,jr hx,sE (show y<(gr R x).length by omega),e2,decide_eq_false (show ¬ ga (gr R x) y<m by omega)]
 rw[hK];clear hK K;refine aG λK hK=>?_
 simp only[aK,aF,aq,cD,jr hx];refine Rn.bindRd ((gr R x).map nD) rfl ?_;refine Rn.eE (by simp;omega) ?_
 rw[hK];clear hK K;have r0:(M++[DO.lst ((gr R x).map nD)])[M.length]?=some (.lst ((gr R x).map nD)):=by simp
 have yl:y<(gr R x).length:=by omega
 have zl:z<((gr R x).set y (ga (gr R x) y-m)).length:=by rw[Ur];omega
 refine aG λK hK=>?_
 simp only[bQ,aK,aF,aq];refine Rn.bindRd (nD (ga (gr R x) y)) (rO (i:=y) r0 (by rw[TV,Tg yl,lU yl];rfl)) ?_
 rw[show (rd (q9 (nD (ga (gr R x) y)) (nD m)):DM D)=pure (nD (ga (gr R x) y-m)) from vG h2,au]
 refine Rn.run (jk r0 (by rw[Te];exact yl)) ?_
 rw[hK,<-Wu];clear hK K;have r1:((M++[DO.lst ((gr R x).map nD)]).set M.length (.lst (((gr R x).set y (ga (gr R x) y-m)).map nD)))[M.length]?=some (.lst (((gr R x).set y (ga (gr R x) y-m)).map nD)):=Th (by simp)
 refine aG λK hK=>?_
 simp only[bQ,aK,aF,aq];refine Rn.bindRd (nD (ga ((gr R x).set y (ga (gr R x) y-m)) z)) (rO (i:=z) r1 (by rw[TV,Tg zl,lU zl];rfl)) ?_
 rw[wD,au];refine Rn.run (jk r1 (by rw[Te];exact zl)) ?_
 rw[hK,<-Wu];clear hK K;have r2:(((M++[DO.lst ((gr R x).map nD)]).set M.length (.lst (((gr R x).set y (ga (gr R x) y-m)).map nD))).set M.length (.lst ((iY (gr R x) y z m).map nD)))[M.length]?=some (.lst ((iY (gr R x) y z m).map nD)):=Th (by simp)
 have g2:Gw M (((M++[DO.lst ((gr R x).map nD)]).set M.length (.lst (((gr R x).set y (ga (gr R x) y-m)).map nD))).set M.length (.lst ((iY (gr R x) y z m).map nD))):=⟨by simp,λq hq=>by rw[Tc (by omega),Tc (by omega),S9 hq]⟩
 show Rn _ (((M++[DO.lst ((gr R x).map nD)]).set M.length (.lst (((gr R x).set y (ga (gr R x) y-m)).map nD))).set M.length (.lst ((iY (gr R x) y z m).map nD))) _;revert r2 g2;generalize ((M++[DO.lst ((gr R x).map nD)]).set M.length (.lst (((gr R x).set y (ga (gr R x) y-m)).map nD))).set M.length (.lst ((iY (gr R x) y z m).map nD))=M2;intro r2 g2;have s1:(rd (qZ none (some (x:Int)) (nM R)):DM D)=pure (.tup ((R.take x).map nT)):=bY λM=>by
  show some (D.tup (cutD (R.map nT) none (some (x:Int))))=_;have e:cutD (R.map nT) none (some (x:Int))=(R.take x).map nT:=by unfold cutD;rw[HT.sIx_none,HT.sIx_nat,List.drop_zero,Nat.sub_zero,Te,Wt (by omega),List.map_take]
  rw[e]
 have s2:(rd (qZ (some ((x+1:Nat):Int)) none (nM R)):DM D)=pure (.tup ((R.drop (x+1)).map nT)):=bY λM=>by
  show some (D.tup (cutD (R.map nT) (some ((x+1:Nat):Int)) none))=_;have e:cutD (R.map nT) (some ((x+1:Nat):Int)) none=(R.drop (x+1)).map nT:=by
   unfold cutD;rw[HT.sIx_none,HT.sIx_nat,Te,Wt (by omega),List.map_drop]
   exact VL (by simp)
  rw[e]
 have tp:oG [.ref M.length] M2=some (nT (iY (gr R x) y z m)):=by show (gW (.ref M.length) M2).map D.tup=_;simp only[gW,bj,r2];rfl
 have mt:∀d:D,(fY [d]:DM D)=pure (.tup [d]):=λd=>dD (by simp)
 have ax:(sW (nD x):DM (Option Int))=pure (some (x:Int)):=rfl;have a1:(rd (cU (nD x) (.int 1)):DM D)=pure (nD (x+1)):=sy x;have ax1:(sW (nD (x+1)):DM (Option Int))=pure (some ((x+1:Nat):Int)):=rfl;simp only[aK,aF,aq,cD,ax,s1];refine Rn.bindRd _ tp ?_;simp only[mt,au,a1,ax1,s2];have tl:(R.take x).length<=25:=by rw[Vb];omega
 have dl:(R.drop (x+1)).length<=25:=by rw[Vn];omega
 rw[nR _ _ (by simp;omega),au,nR _ _ (by simp;omega),au]
 have em:D.tup ((R.take x).map nT++[nT (iY (gr R x) y z m)]++(R.drop (x+1)).map nT)=nM (lX R x y z m):=by rw[Jd];congr 1;unfold lX;rw[List.set_eq_take_append_cons_drop,S7 hx];simp
 rw[em,rB (CN wk hx hy hz h2),au];exact Rn.pure ⟨_,rfl,rfl,g2⟩
noncomputable def yp:=aL 5 5 (jH yw yr uD)
def Kpr.gw{k d p W:Nat}{S:KS}{M M':Mo}(h:Kpr k d p W S M)(g:Gw M M'):Kpr k d p W S M':=by obtain⟨c,e⟩:=h.obj;obtain⟨j,hj,e2⟩:=h.pw;exact⟨⟨c,g.at e⟩,g.at h.dd,⟨j,hj,g.at e2⟩,h.kd,h.dp⟩
def Gw.op{k d p:Nat}{M M':Mo}(g:Gw M M'):Op k d p M p M':=⟨g.le,λq hq z z z=>g.keep q hq,.inl rfl⟩
def Mu{k d p W x y z m:Nat}{S:KS}{M:Mo}(h:Kpr k d p W S M)(wk:WK S.R W)(hW:W<2^60)(hl:S.ds.length<1000)(hx:x<S.R.length)(hy:y<S.R.length)(hz:z<S.R.length)(hm:1<=m)(h1:y≠z)(h2:m<=ga (gr S.R x) y):
  Rn (yp [.ref k,nD x,nD y,nD z,nD m]) M λr M'=>r=.non/\∃p',Kpr k d p' W ⟨lX S.R x y z m,S.ms,S.ds++[(S.R,S.ms)]⟩ M'/\Op k d p M p' M':=by
 obtain⟨c,ho⟩:=h.obj;unfold yp jH gJ;dsimp only;refine Rn.callN rfl ?_;have st:aP 5 [.ref k,nD x,nD y,nD z,nD m]=[some (.ref k),some (nD x),some (nD y),some (nD z),some (nD m)]:=rfl;rw[st];refine aG λK hK=>?_
 simp only[aK,aF,aq];refine Rn.bindRd (aA S.R W) (bh ho rfl) ?_;simp only[BK wk.n25 hx hy hz hm,au];rw[hK];clear hK K;simp only[aK,aF,aq];refine Rn.bindRd () (cL ho (by decide)) ?_
 refine Rn.bindRd (aA S.R W) (bh ho rfl) ?_;refine Rn.bind (MT wk hx hy hz h1 h2 M) λr M1 hr=>?_
 obtain⟨rfl,g⟩:=hr;have hg:=h.gw g;refine Rn.bindRd (bF W S.ms) (bh (g.at ho) rfl) ?_;refine Rn.bind (yP hg (CN wk hx hy hz h2) hW hl) λr M' hr=>?_
 obtain⟨rfl,p',h2,o2⟩:=hr;exact Rn.pure ⟨⟨_,rfl⟩,True.intro,p',h2,g.op.trans o2⟩
def Pk{k d p W x y z m:Nat}{S:KS}{M:Mo}(h:Kpr k d p W S M)(wk:WK S.R W)(hx:x<S.R.length)(hy:y<S.R.length)(hz:z<S.R.length)(hm:1<=m)(h1:y=z\/ga (gr S.R x) y<m):Xn (yp [.ref k,nD x,nD y,nD z,nD m]) M "NoMove" M:=by
 obtain⟨c,ho⟩:=h.obj;unfold yp jH gJ;dsimp only;refine Xn.call rfl ?_;have st:aP 5 [.ref k,nD x,nD y,nD z,nD m]=[some (.ref k),some (nD x),some (nD y),some (nD z),some (nD m)]:=rfl;rw[st];refine Xn.seqK λK hK=>?_
 simp only[aK,aF,aq];refine Xn.bindRd (aA S.R W) (bh ho rfl) ?_;simp only[BK wk.n25 hx hy hz hm,au];rw[hK];clear hK K;simp only[aK,aF,aq];refine Xn.bindRd () (cL ho (by decide)) ?_
 refine Xn.bindRd (aA S.R W) (bh ho rfl) ?_;exact (Pr wk hx hy h1 M).bindX
inductive Dd where
 |mv (x y z m:Nat)
 |mark
 |back
 |undo
noncomputable def Dd.D:Dd->D
 |.mv x y z m=>.tup [.str "move",nD x,nD y,nD z,nD m]
 |.mark=>.tup [.str "mark"]
 |.back=>.tup [.str "back"]
 |.undo=>.tup [.str "undo"]
def Dd.ok(n:Nat):Dd->Prop
 |.mv x y z m=>x<n/\y<n/\z<n/\1<=m
 |_=>True
inductive Stp:KS->Dd->KS->Prop
 |mv {R:Ro}{ms ds}{x y z m:Nat}:y≠z->m<=ga (gr R x) y->Stp ⟨R,ms,ds⟩ (.mv x y z m) ⟨lX R x y z m,ms,ds++[(R,ms)]⟩
 |mark {R:Ro}{ms ds}:Stp ⟨R,ms,ds⟩ .mark ⟨R,ms++[R],ds++[(R,ms)]⟩
 |back {R R':Ro}{ms ds}:Stp ⟨R,ms++[R'],ds⟩ .back ⟨R',ms,ds++[(R,ms++[R'])]⟩
 |undo {R R':Ro}{ms ms' ds}:Stp ⟨R,ms,ds++[(R',ms')]⟩ .undo ⟨R',ms',ds⟩
inductive Ref:KS->Dd->Prop
 |mv {R:Ro}{ms ds}{x y z m:Nat}:(y=z\/ga (gr R x) y<m)->Ref ⟨R,ms,ds⟩ (.mv x y z m)
 |back {R:Ro}{ds}:Ref ⟨R,[],ds⟩ .back
 |undo {R:Ro}{ms}:Ref ⟨R,ms,[]⟩ .undo
theorem Stp.ok{n W:Nat}{S S':KS}{q:Dd}(h:Stp S q S')(k:KOk n W S)(hq:q.ok n):KOk n W S':=by
 obtain⟨kR,kms,kds⟩:=k;cases h with
 |mv h1 h2=>
   obtain⟨a,b,c,e⟩:=hq;refine⟨⟨CN kR.1 (by rw[kR.2];exact a) (by rw[kR.2];exact b) (by rw[kR.2];exact c) h2,by simp[lX,kR.2]⟩,kms,λq hq=>?_⟩
   rcases T6.mp hq with hq | hq
   ·exact kds q hq
   ·rw[Tt.mp hq];exact⟨kR,kms⟩
 | mark=>
   refine⟨kR,λR hR=>?_,λq hq=>?_⟩
   ·rcases T6.mp hR with hR | hR
    ·exact kms R hR
    ·rw[Tt.mp hR];exact kR
   ·rcases T6.mp hq with hq | hq
    ·exact kds q hq
    ·rw[Tt.mp hq];exact⟨kR,kms⟩
 |back=>
   refine⟨kms _ (by simp),λR hR=>kms R (by simp[hR]),λq hq=>?_⟩
   rcases T6.mp hq with hq | hq
   ·exact kds q hq
   ·rw[Tt.mp hq];exact⟨kR,kms⟩
 |undo=>have:=kds (_,_) (TQ _ (Tt.mpr rfl));exact⟨this.1,this.2,λq hq=>kds q (Ud _ hq)⟩
noncomputable def yh:=aL 2 2 (my yp Dq ym yq)
def fX(a b:Str):(rd (cI (.str a) (.str b)):DM D)=pure (.bl (decide (a=b))):=rfl
set_option tactic.hygienic true in
def Li{k d p n W:Nat}{S S':KS}{q:Dd}{M:Mo}(h:Kpr k d p W S M)(o:KOk n W S)(hW:W<2 ^ 60)(hl:S.ds.length<1000)(hm:S.ms.length<1000)(hq:q.ok n)(hs:Stp S q S'):
  Rn (yh [.ref k,q.D]) M λr M'=>r=.non/\∃p',Kpr k d p' W S' M'/\Op k d p M p' M':=by
 obtain⟨c,ho⟩:=h.obj;obtain⟨⟨wk,rn⟩,oms,ods⟩:=o;unfold yh my jo;dsimp only;refine Rn.call rfl ?_;have st:aP 2 [.ref k,q.D]=[some (.ref k),some q.D]:=rfl;rw[st];cases hs with
 |mv h1 h2=>
   rename_i R ms ds x y z m;obtain⟨a,b,e,f⟩:=hq;have i0:(rd (cg (Dd.D (.mv x y z m)) (.int 0)):DM D)=pure (.str "move"):=rfl;have i1:(rd (cg (Dd.D (.mv x y z m)) (.int 1)):DM D)=pure (nD x):=rfl;have i2:(rd (cg (Dd.D (.mv x y z m)) (.int 2)):DM D)=pure (nD y):=rfl;have i3:(rd (cg (Dd.D (.mv x y z m)) (.int 3)):DM D)=pure (nD z):=rfl;have i4:(rd (cg (Dd.D (.mv x y z m)) (.int 4)):DM D)=pure (nD m):=rfl;refine fV λK hK hR=>?_
   simp only[aK,aF,aq,i0,fX,aQ,decide_true,if_true];refine Rn.bindRd () (cL ho (by decide)) ?_
   simp only[i1,i2,i3,i4,au,List.length_cons,List.length_nil,if_true,List.cons_append,List.nil_append];refine Rn.bind (Mu h wk hW hl (by dsimp only at rn ⊢;omega) (by dsimp only at rn ⊢;omega) (by dsimp only at rn ⊢;omega) f h1 h2) λr M' hr=>?_
   rw[hR];exact Rn.pure ⟨_,rfl,hr⟩
 |mark=>
   have i0:(rd (cg (Dd.D .mark) (.int 0)):DM D)=pure (.str "mark"):=rfl;refine aG λK hK=>?_
   simp only[aK,aF,aq,i0,fX,aQ,show decide (("mark":Str) = "move")=false from by decide,Bool.false_eq_true,if_false]
   rw[hK];clear hK K;refine fV λK hK hR=>?_
   simp only[aK,aF,aq,i0,fX,aQ,decide_true,if_true];refine Rn.bindRd () (cL ho (by decide)) ?_
   refine Rn.bind (MN h wk hW hl hm) λr M' hr=>?_
   rw[hR];exact Rn.pure ⟨_,rfl,hr⟩
 |back=>
   have i0:(rd (cg (Dd.D .back) (.int 0)):DM D)=pure (.str "back"):=rfl;refine aG λK hK=>?_
   simp only[aK,aF,aq,i0,fX,aQ,show decide (("back":Str) = "move")=false from by decide,Bool.false_eq_true,if_false]
   rw[hK];clear hK K;refine aG λK hK=>?_
   simp only[aK,aF,aq,i0,fX,aQ,show decide (("back":Str) = "mark")=false from by decide,Bool.false_eq_true,if_false]
   rw[hK];clear hK K;simp only[aK,aF,aq,i0,fX,aQ,decide_true,Bool.false_eq_true,if_false,if_true];refine Rn.bindRd () (cL ho (by decide)) ?_
   refine Rn.bind (K3 h (oms _ (by simp)).1 hW hl) λr M' hr=>?_
   exact Rn.pure ⟨_,rfl,hr⟩
 |undo=>
   have i0:(rd (cg (Dd.D .undo) (.int 0)):DM D)=pure (.str "undo"):=rfl;refine aG λK hK=>?_
   simp only[aK,aF,aq,i0,fX,aQ,show decide (("undo":Str) = "move")=false from by decide,Bool.false_eq_true,if_false]
   rw[hK];clear hK K;refine aG λK hK=>?_
   simp only[aK,aF,aq,i0,fX,aQ,show decide (("undo":Str) = "mark")=false from by decide,Bool.false_eq_true,if_false]
   rw[hK];clear hK K;simp only[aK,aF,aq,i0,fX,aQ,show decide (("undo":Str) = "back")=false from by decide,Bool.false_eq_true,if_false,if_true]
   refine Rn.bindRd () (cL ho (by decide)) ?_
   refine Rn.bind (Ow h (ods (_,_) (TQ _ (Tt.mpr rfl))).1.1 hW) λr M' hr=>?_
   exact Rn.pure ⟨_,rfl,hr⟩
def Dd.c:Dd->Str
 |.mv _ _ _ _=>"NoMove"
 |.mark=>"NoMark"
 |.back=>"NoMark"
 |.undo=>"NoDeed"
set_option tactic.hygienic true in
def O4{k d p n W:Nat}{S:KS}{q:Dd}{M:Mo}(h:Kpr k d p W S M)(o:KOk n W S)(hq:q.ok n)(hs:Ref S q):
  Xn (yh [.ref k,q.D]) M q.c M:=by
 obtain⟨c,ho⟩:=h.obj;obtain⟨⟨wk,rn⟩,oms,ods⟩:=o;unfold yh my jo;dsimp only;have st:aP 2 [.ref k,q.D]=[some (.ref k),some q.D]:=rfl;cases hs with
 |mv h1=>
   rename_i R ms ds x y z m;obtain⟨a,b,e,f⟩:=hq;have i0:(rd (cg (Dd.D (.mv x y z m)) (.int 0)):DM D)=pure (.str "move"):=rfl;have i1:(rd (cg (Dd.D (.mv x y z m)) (.int 1)):DM D)=pure (nD x):=rfl;have i2:(rd (cg (Dd.D (.mv x y z m)) (.int 2)):DM D)=pure (nD y):=rfl;have i3:(rd (cg (Dd.D (.mv x y z m)) (.int 3)):DM D)=pure (nD z):=rfl;have i4:(rd (cg (Dd.D (.mv x y z m)) (.int 4)):DM D)=pure (nD m):=rfl;refine Xn.call rfl ?_;rw[st];refine Xn.seqK λK hK=>?_
   simp only[aK,aF,aq,i0,fX,aQ,decide_true,if_true];refine Xn.bindRd () (cL ho (by decide)) ?_
   simp only[i1,i2,i3,i4,au,List.length_cons,List.length_nil,if_true,List.cons_append,List.nil_append];exact (Pk h wk (by dsimp only at rn ⊢;omega) (by dsimp only at rn ⊢;omega) (by dsimp only at rn ⊢;omega) f h1).bindX
 |back=>
   have i0:(rd (cg (Dd.D .back) (.int 0)):DM D)=pure (.str "back"):=rfl;refine Xn.call rfl ?_;rw[st];refine Xn.seqK λK hK=>?_
   simp only[aK,aF,aq,i0,fX,aQ,show decide (("back":Str) = "move")=false from by decide,Bool.false_eq_true,if_false]
   rw[hK];clear hK K;refine Xn.seqK λK hK=>?_
   simp only[aK,aF,aq,i0,fX,aQ,show decide (("back":Str) = "mark")=false from by decide,Bool.false_eq_true,if_false]
   rw[hK];clear hK K;simp only[aK,aF,aq,i0,fX,aQ,decide_true,if_true];refine Xn.bindRd () (cL ho (by decide)) ?_
   exact (O1 h).bindX
 |undo=>
   have i0:(rd (cg (Dd.D .undo) (.int 0)):DM D)=pure (.str "undo"):=rfl;refine Xn.call rfl ?_;rw[st];refine Xn.seqK λK hK=>?_
   simp only[aK,aF,aq,i0,fX,aQ,show decide (("undo":Str) = "move")=false from by decide,Bool.false_eq_true,if_false]
   rw[hK];clear hK K;refine Xn.seqK λK hK=>?_
   simp only[aK,aF,aq,i0,fX,aQ,show decide (("undo":Str) = "mark")=false from by decide,Bool.false_eq_true,if_false]
   rw[hK];clear hK K;simp only[aK,aF,aq,i0,fX,aQ,show decide (("undo":Str) = "back")=false from by decide,Bool.false_eq_true,if_false]
   refine Xn.bindRd () (cL ho (by decide)) ?_
   exact (Qv h).bindX
noncomputable def Rx{α:Type}(M0:Mo)(rest:ao)(p:α->Bool)(e:α->D)(as:List α)(i:Nat)(δ:ao)(l:List D)(M:Mo):Prop:=(∃z,δ=z::rest)/\l=((as.take i).filter p).map e/\M=M0
def Jq{α:Type}{ft:ao->DM Bool}{fe:ao->DM D}{rest:ao}{as:List α}(enc:α->D)(p:α->Bool)(e:α->D){M:Mo}{x:Option D}(hn:as.length<=1000)(h1:∀ a∈as,Rn (ft (some (enc a)::rest)) M λb M'=>b=p a/\M'=M)(h2:∀ a∈as,p a=true->Rn (fe (some (enc a)::rest)) M λd M'=>d=e a/\M'=M):
  Rn (bC (gN 0) ft (cC fe) (as.map enc) (x::rest) []) M λq M'=>M'=M/\q.2=(as.filter p).map e:=by
 refine (xu (Rx M rest p e as) (as.map enc) 0 (x::rest) [] M ⟨⟨x,rfl⟩,by simp,rfl⟩ (λj d δ l M1 hj hI=>?_)).mono λq M' hI=>?_
 ·obtain ⟨⟨z,rfl⟩,rfl,rfl⟩:=hI;rw[TV]at hj;obtain⟨y,hy,rfl⟩:=Ti.mp hj;obtain⟨hj',rfl⟩:=S5.mp hy;have le:=VR p (as.take (0+j));rw[Vb]at le;have lt:(((as.take (0+j)).filter p).map e).length<sizeLine:=by show _<2^24;rw[Te];omega
  have tk:as.take (j+1)=as.take j++[as[j]]:=List.take_succ_eq_append_getElem hj';have hm:=Vy hj';rw[o8,au];refine Rn.bind (h1 _ hm) λb M' ⟨e1,e2⟩=>?_
  subst e1 e2;rw[Uq]at lt ⊢
  cases hp:p as[j] with
  |true=>
    rw[S7 rfl];unfold cC;refine Rn.bind (h2 _ hm hp) λd M2 ⟨e3,e4⟩=>?_
    subst e3 e4;rw[S7 lt];refine Rn.pure ⟨⟨_,rfl⟩,?_,rfl⟩;rw[tk,List.filter_append,Ue];simp[hp]
  |false=>
    rw[Tq (by decide)]
    refine Rn.pure ⟨⟨_,rfl⟩,?_,rfl⟩;rw[tk,List.filter_append,Ue];simp[hp]
 ·obtain⟨_,e1,e2⟩:=hI;refine⟨e2,?_⟩;rw[e1,Uq,Te,VL (Td _)]
noncomputable def Dw:=aL 2 3 (iC 10 yC)
def Gb(R:Ro)(j:Nat):(bR R j).map (stp R)=bR R (j+1):=by
 unfold bR;rw[U0];refine Xb λx z=>?_
 show stp R (pR (stp R) j (unit R.length x))=_;rw[lz]
def Rn.eq{α:Type}{m:DM α}{M:Mo}{a:α}(h:Rn m M λb M'=>b=a/\M'=M):m M=some (.ok a,M):=by obtain⟨b,M',e,rfl,rfl⟩:=h;exact e
def Nz{k d p n W t c0 j0:Nat}{S:KS}{M:Mo}(h:Kpr k d p W S M)(g:Kc k d p W S c0 j0 M)(o:KOk n W S)(hW:W<2 ^ 60)(ht:t<=6):
  Rn (Dw [.ref k,nD t]) M λr M'=>r=nM (bR S.R t)/\Kpr k d p W S M'/\Op k d p M p M'/\∃j,Kc k d p W S (c0+(t-j0)) j M':=by
 obtain⟨⟨wk,rn⟩,oms,ods⟩:=o;have n25:=wk.n25;unfold Dw iC dY;dsimp only;refine Rn.call rfl ?_;have st:aP 3 [.ref k,nD t]=[some (.ref k),some (nD t),none]:=rfl;rw[st];refine aG λK hK=>?_
 refine Rn.bind (xJ (qg:=λδ M'=>(∃z,δ=[some (.ref k),some (nD t),z])/\Kpr k d p W S M'/\Op k d p M p M'/\∃j,t<=j/\Kc k d p W S (c0+(t-j0)) j M')
  (λm δ M'=>(∃z,δ=[some (.ref k),some (nD t),z])/\Kpr k d p W S M'/\Op k d p M p M'/\∃c j,m=t-j/\c+(t-j)=c0+(t-j0)/\Kc k d p W S c j M') (λm δ M1 hI=>?_) 10 _ _ _ ?_ ⟨⟨none,rfl⟩,h,Op.refl,_,_,rfl,rfl,g⟩) λrr M1 hI=>?_
 ·obtain ⟨⟨z,rfl⟩,h1,o1,c,j,rfl,hc,⟨ho,hj,hp⟩⟩:=hI;refine⟨decide (j+1<=t),?_,λhb=>?_,λhb=>?_⟩
  ·refine Rn.eq ?_;simp only[aK,aF,aq];refine Rn.bindRd (.ref p) (bh ho rfl) ?_;refine Rn.bindRd (nD (j+1)) (by show (bj (.ref p) M1).map _=_;simp only[bj,hp];simp[nD]) ?_
   rw[nU,au];exact Rn.pure ⟨rfl,rfl⟩
  ·have hjt:j + 1<=t:=UT hb;refine aG λK hK=>?_
   simp only[aK,aF,aq];refine Rn.bindRd (.ref p) (bh ho rfl) ?_;rw[show (rd (qG (.int 1)):DM D)=pure (.int (-1)) from rfl,au]
   have el:((List.range (j+1)).map λi=>nM (bR S.R i))=((List.range j).map λi=>nM (bR S.R i))++[nM (bR S.R j)]:=by rw[Ww,Ue];rfl
   refine Rn.bindRd (nM (bR S.R j)) (by
    show (bj (.ref p) M1).bind (λl=>atI l (-1))=_
    simp only[bj,hp,Option.bind_some];rw[el];unfold atI;have:ixN (((List.range j).map λi=>nM (bR S.R i))++[nM (bR S.R j)]).length (-1)=some j:=by
     unfold ixN;rw[Tq (by omega),S7 (by simp;omega)]
     congr 1;simp;omega
    rw[this];rw[Option.bind_some,TJ (by simp)]
    simp) ?_
   rw[hK];clear hK K;refine aG λK hK=>?_
   simp only[bQ,aK,aF,aq,b8,dm,List.length_cons,List.length_nil,List.replicate_succ,List.replicate_zero,List.cons_append,List.nil_append,List.map_nil,List.map_cons,Option.getD_some];refine Rn.bindRd (.ref p) (bh ho rfl) ?_;refine Rn.bindRd _ (Bo hp) ?_;have ast:w5 (nM (bR S.R j))=some (.fix ((bR S.R j).map nT)):=rfl;simp only[ast,nZ,au,lA];refine Rn.bind (Ky (Jq (M:=M1) (as:=bR S.R j) nT (λy=>true) (λl=>nT (stp S.R l)) (by rw[zN];omega) (λa ha=>Rn.pure ⟨rfl,rfl⟩) (λa ha y=>?_))) λq M' hq=>?_
   ·simp only[aK,aF,aq];refine Rn.bindRd (aA S.R W) (bh ho rfl) ?_;simp only[cD,au,Gu wk hW (JZ wk a ha).1];exact Rn.pure ⟨rfl,rfl⟩
   obtain⟨eM,eq⟩:=hq;rw[eM];clear eM;have e2:D.tup q.2=nM (bR S.R (j+1)):=by
    rw[eq,<-Gb,V9.mpr (λy y=>rfl)]
    unfold nM;rw[U0];rfl
   simp only[n6,au,zX,e2];refine Rn.run (vQ hp (by simp;omega)) ?_
   rw[hK];clear hK K;have kd:=h1.kd;have dp:=h1.dp;have pl:=h1.lt;have ho2:(M1.set p (.lst (((List.range (j+1)).map λi=>nM (bR S.R i))++[nM (bR S.R (j+1))])))[k]?=some (.ins "Keeper" bM [aA S.R W,bF W S.ms,.ref d,.ref p,nD c]):=by rw[Tc (by omega)];exact ho
   simp only[bQ,aK,aF,aq];refine Rn.bindRd (nD c) (by show oW "Keeper" "made" (.ref k) _=_;exact bh ho2 rfl) ?_
   rw[show (rd (cW (λy y=>true) (λi j=>.int (i+j)) (nD c) (.int 1)):DM D)=pure (nD (c+1)) from wD c 1,au]
   refine Rn.run (kO ho2 rfl) ?_;have kl:=(S5.mp ho2).1;refine Rn.pure ⟨_,t-(j+1),rfl,by omega,⟨_,rfl⟩,⟨⟨c+1,by rw[Th kl];rfl⟩,?_,⟨j+1,by omega,?_⟩,kd,dp⟩,⟨?_,λq hq q1 q2 q3=>?_,.inl rfl⟩,c+1,j+1,rfl,by omega,by rw[Th kl];rfl,by omega,?_⟩
   ·rw[Tc (by omega),Tc (by omega)];exact h1.dd
   ·rw[Tc (by omega),Th pl,Ww (n:=j+1),Ue];rfl
   ·have:=o1.le;simp;omega
   ·rw[Tc (by omega),Tc (by omega)]
    exact o1.keep q hq q1 q2 q3
   ·rw[Tc (by omega),Th pl,Ww (n:=j+1),Ue];rfl
  ·have hjt:¬ j+1<=t:=of_decide_eq_false hb;exact⟨⟨z,rfl⟩,h1,o1,j,by omega,by rw[show c0+(t-j0)=c by omega];exact⟨ho,hj,hp⟩⟩
 ·omega
 ·obtain⟨δ',rfl,⟨z,rfl⟩,h1,o1,j,hjt,kc⟩:=hI;have ho:=kc.obj;rw[hK];clear hK K;simp only[aK,aF,aq];refine Rn.bindRd (.ref p) (bh ho rfl) ?_;refine Rn.bindRd (nM (bR S.R t)) (qy (i:=t) kc.pw (by rw[TV,VB (by omega)];rfl)) ?_
  exact Rn.pure ⟨_,rfl,rfl,h1,o1,j,kc⟩
noncomputable def Do:=aL 3 3 (m8 qb Frs Dw)
def Ez{k d p n W t x c0 j0:Nat}{S:KS}{M:Mo}(h:Kpr k d p W S M)(g:Kc k d p W S c0 j0 M)(o:KOk n W S)(hW:W<=12)(ht:t<=6)(hx:x<n):
  Rn (Do [.ref k,nD x,nD t]) M λr M'=>r=nT (gr (bR S.R t) x)/\Kpr k d p W S M'/\Op k d p M p M'/\∃j,Kc k d p W S (c0+(t-j0)) j M':=by
 obtain⟨c,ho⟩:=h.obj;obtain⟨wk,rn⟩:=o.R;unfold Do m8 jg;dsimp only;refine Rn.call rfl ?_;have st:aP 3 [.ref k,nD x,nD t]=[some (.ref k),some (nD x),some (nD t)]:=rfl;rw[st];refine aG λK hK=>?_
 simp only[aK,aF,aq];refine Rn.bindRd (aA S.R W) (bh ho rfl) ?_;simp only[sH wk.n25 (show x<S.R.length by omega),au]
 rw[hK];clear hK K;refine aG λK hK=>?_
 simp only[aK,aF,aq,Gp (show t<=100 by omega)]
 rw[hK];clear hK K;simp only[aK,aF,aq];refine Rn.bindRd () (cL ho (by decide)) ?_
 refine Rn.bind (Nz h g o (by omega) ht) λr M' hr=>?_
 obtain⟨rfl,h1,o1⟩:=hr;rw[jr (R:=bR S.R t) (i:=x) (by rw[zN];omega),au]
 exact Rn.pure ⟨_,rfl,rfl,h1,o1⟩
def Mz{k d p W:Nat}{S:KS}{M:Mo}(h:Kpr k d p W S M):Rn (wW [.ref k]) M λr M'=>r=aA S.R W/\M'=M:=by obtain⟨c,ho⟩:=h.obj;unfold wW pM jP;dsimp only;refine Rn.call rfl ?_;have st:aP 1 [.ref k]=[some (.ref k)]:=rfl;rw[st];simp only[aK,aF,aq];refine Rn.bindRd (aA S.R W) (bh ho rfl) ?_;exact Rn.pure ⟨_,rfl,rfl,rfl⟩
def zf{M:Mo}{k:Nat}{vs:List D}(e:M[k]?=some (.ins "Keeper" bM vs)):oY "Keeper" k M=true:=by unfold oY;rw[e];rfl
noncomputable def cY:=aL 2 2 jK
def Ks{p:Mo->Bool}{m:DM D}(h:∀M,p M=true):jw p m=m:=by funext M;unfold jw;rw[S7 (h M)]
def QB(a b:List (List Nat))(ha:a.length<=1000000):(rd (cI (nM a) (nM b)):DM D)=pure (.bl (decide (a=b))):=bY λM=>by
 have this:Option.map (λx=>(R.ok x,M)) (gC (nM a) (nM b) M)=some (R.ok (D.bl !decide (a=b)),M):=congrFun (Er a b ha) M
 unfold gC at this;show (L3.eqB (nM a) (nM b)).map D.bl=_;revert this;cases (L3.eqB (nM a) (nM b)) with
 |none=>intro e;cases e
 |some x=>intro e;simp only[Option.map_some,Option.some.injEq,Prod.mk.injEq,R.ok.injEq,D.bl.injEq,and_true]at e;simp only[Option.map_some];cases x<;>simp_all
def O9{R R':List (List Nat)}{W W':Nat}(h:R.length<=1000000):cY [aA R W,aA R' W']=pure (.bl (decide (R=R'))):=by
 have i:(rd (kJ "Keeper" "Walk" [aA R' W',.cls "Walk"]):DM D)=pure (.bl true):=bY λM=>rfl
 simp[cY,jK,i,cD,QB R R' h]
def Lq{R R':List (List Nat)}{W W':Nat}(h:R.length<=1000000):Es "Walk" cY (aA R W) (aA R' W')=pure (.bl (decide (R=R'))):=by
 show (if ("Walk":Str) = "Walk" then jw _ _ else stuck)=_
 rw[S7 rfl,Ks (p:=o9 "Walk" (aA R' W')) (λM=>rfl)]
 show (cY [aA R W,aA R' W']>>=dI)=_;rw[O9 h,au];rfl
def Nm(k:Nat)(d:D):Prop:=∃p,toPy d=some p/\p.canLay0=true/\p.depth<=k/\PyData.eqv p p=true
def Ru(k:Nat)(l:List D):Prop:=∃ps,dH l=some ps/\PyData.canLayAll0 ps=true/\PyData.depthAll ps<=k/\PyData.eqvAll ps ps=true
theorem vg{k:Nat}:∀ {l:List D},(∀ d∈l,Nm k d)->Ru k l
 |[],_=>⟨[],rfl,rfl,Vh _,rfl⟩
 |d::l,h=>by
   obtain⟨p,a1,a2,a3,a4⟩:=h d (.head _);obtain⟨ps,b1,b2,b3,b4⟩:=vg (l:=l) λx hx=>h x (.tail _ hx)
   refine⟨p::ps,by simp[dH,a1,b1],by simp[PyData.canLayAll0,a2,b2],by simp only[PyData.depthAll];omega,by simp[PyData.eqvAll,a4,b4]⟩
def Ft{k:Nat}(i:Int):Nm k (.int i):=⟨.int i,rfl,rfl,Vh _,by simp[PyData.eqv]⟩
def qI{k:Nat}{l:List D}(h:∀d∈l,Nm k d):Nm (k+1) (.tup l):=by obtain⟨ps,b1,b2,b3,b4⟩:=vg h;exact⟨.tuple ps,by simp[toPy,b1],by simp[PyData.canLay0,b2],by simp only[PyData.depth];omega,by simp[PyData.eqv,b4]⟩
def zF{k:Nat}{l:List D}(h:∀d∈l,Nm k d):Nm (k+1) (.lst l):=by obtain⟨ps,b1,b2,b3,b4⟩:=vg h;exact⟨.list ps,by simp[toPy,b1],by simp[PyData.canLay0,b2],by simp only[PyData.depth];omega,by simp[PyData.eqv,b4]⟩
def PJ{k:Nat}(l:List Nat):Nm (k+1) (nT l):=qI λd hd=>by obtain⟨x,_,rfl⟩:=Uj.mp hd;exact Ft _
def Iu{k:Nat}(R:Ro):Nm (k+2) (nM R):=qI λd hd=>by obtain⟨x,_,rfl⟩:=Uj.mp hd;exact PJ _
noncomputable def Ia:=aL 2 2 (jX wX)
noncomputable def xY:=Hu "Keeper" Ia
def oF{c f:Str}{k:Nat}{M:Mo}{ns:List Str}{vs:List D}{d:D}(e:M[k]?=some (.ins c ns vs))(hl:ns.length=vs.length)(hz:ns.length<1000):ju c f (.ref k) d M=some (.ok (),M.set k (.ins c (putN f ns) (bO f d ns vs))):=by unfold ju;simp only[e];rw[S7 ⟨True.intro,hl,hz⟩]
def Mi(R:Ro)(W:Nat):(rd (wg "Walk" [aA R W,.cls "Walk"]):DM D)=pure (.bl true):=rfl
def qz{R:Ro}{W:Nat}(wk:WK R W)(hW:W<2 ^ 60)(M:Mo):Rn (xY [aA R W]) M λr M'=>r=.ref M.length/\Kpr M.length (M.length + 1) (M.length + 2) W ⟨R,[],[]⟩ M'/\Gw M M'/\Kc M.length (M.length + 1) (M.length + 2) W ⟨R,[],[]⟩ 0 0 M':=by
 have body:Rn (Ia (.ref M.length::[aA R W])) (M++[.ins "Keeper" [] []]) λr M'=>r=.non/\Kpr M.length (M.length+1) (M.length+2) W ⟨R,[],[]⟩ M'/\Gw M M'/\Kc M.length (M.length+1) (M.length+2) W ⟨R,[],[]⟩ 0 0 M':=by
  unfold Ia jX f9;dsimp only;refine Rn.callN rfl ?_;have st:aP 2 [.ref M.length,aA R W]=[some (.ref M.length),some (aA R W)]:=rfl;rw[st];have ip:(rd (jM "Walk" "power" (aA R W)):DM Unit)=pure ():=zg (by decide) R W
  have mt:(fY []:DM D)=pure (.tup []):=dD (by simp)
  refine aG λK hK=>?_
  simp only[aK,aF,aq,Mi,jD,Bool.not_true,Bool.false_eq_true,if_false];rw[hK];clear hK K;refine aG λK hK=>?_
  simp only[aK,aF,aq];refine Rn.run (oF (k:=M.length) (ns:=[]) (vs:=[]) (by simp) rfl (by decide)) ?_
  rw[hK];clear hK K;rw[show (M++[DO.ins "Keeper" [] []]).set M.length (.ins "Keeper" (putN "kept" []) (bO "kept" (aA R W) [] []))=M++[.ins "Keeper" ["kept"] [aA R W]] by simp[putN,bO]]
  refine aG λK hK=>?_
  simp only[aK,aF,aq,mt];refine Rn.run (oF (k:=M.length) (ns:=["kept"]) (vs:=[aA R W]) (by simp) rfl (by decide)) ?_
  rw[hK];clear hK K;rw[show (M++[DO.ins "Keeper" ["kept"] [aA R W]]).set M.length (.ins "Keeper" (putN "marks" ["kept"]) (bO "marks" (.tup []) ["kept"] [aA R W]))=M++[.ins "Keeper" ["kept", "marks"] [aA R W,.tup []]] by simp[show putN "marks" ["kept"]=(["kept", "marks"]:List Str) from by decide,show bO "marks" (D.tup []) ["kept"] [aA R W]=[aA R W,.tup []] from rfl]]
  refine aG λK hK=>?_
  simp only[aK,aF,aq];refine Rn.eE (by simp) ?_
  have o3:((M++[DO.ins "Keeper" ["kept", "marks"] [aA R W,.tup []]])++[DO.lst []])[M.length]?=some (.ins "Keeper" ["kept", "marks"] [aA R W,.tup []]):=by rw[S9 (by simp)];simp
  refine Rn.run (oF o3 rfl (by decide)) ?_
  rw[hK];clear hK K o3;have e3:(((M++[DO.ins "Keeper" ["kept", "marks"] [aA R W,.tup []]])++[DO.lst []]).set M.length (.ins "Keeper" (putN "deeds" ["kept", "marks"]) (bO "deeds" (.ref (M++[DO.ins "Keeper" ["kept", "marks"] [aA R W,.tup []]]).length) ["kept", "marks"] [aA R W,.tup []])))=M++[DO.ins "Keeper" ["kept", "marks", "deeds"] [aA R W,.tup [],.ref (M.length+1)],.lst []]:=by rw[U5,Wr _ _ (Td _),Nat.sub_self];simp[show putN "deeds" ["kept", "marks"]=(["kept", "marks", "deeds"]:List Str) from by decide,show ∀x:D,bO "deeds" x ["kept", "marks"] [aA R W,.tup []]=[aA R W,.tup [],x] from λx=>rfl]
  rw[e3];clear e3;refine aG λK hK=>?_
  simp only[aK,aF,aq,ip,QF wk hW];refine Rn.eE (by simp) ?_
  have o4:((M++[DO.ins "Keeper" ["kept", "marks", "deeds"] [aA R W,.tup [],.ref (M.length+1)],.lst []])++[DO.lst [nM (bR R 0)]])[M.length]?=some (.ins "Keeper" ["kept", "marks", "deeds"] [aA R W,.tup [],.ref (M.length+1)]):=by rw[S9 (by simp)];simp
  refine Rn.run (oF o4 rfl (by decide)) ?_
  rw[hK];clear hK K o4;have e4:(((M++[DO.ins "Keeper" ["kept", "marks", "deeds"] [aA R W,.tup [],.ref (M.length+1)],.lst []])++[DO.lst [nM (bR R 0)]]).set M.length (.ins "Keeper" (putN "powers" ["kept", "marks", "deeds"]) (bO "powers" (.ref (M++[DO.ins "Keeper" ["kept", "marks", "deeds"] [aA R W,.tup [],.ref (M.length+1)],.lst []]).length) ["kept", "marks", "deeds"] [aA R W,.tup [],.ref (M.length+1)])))=M++[DO.ins "Keeper" ["kept", "marks", "deeds", "powers"] [aA R W,.tup [],.ref (M.length+1),.ref (M.length+2)],.lst [],.lst [nM (bR R 0)]]:=by rw[U5,Wr _ _ (Td _),Nat.sub_self];simp[show putN "powers" ["kept", "marks", "deeds"]=(["kept", "marks", "deeds", "powers"]:List Str) from by decide,show ∀x y:D,bO "powers" x ["kept", "marks", "deeds"] [aA R W,.tup [],y]=[aA R W,.tup [],y,x] from λx y=>rfl]
  rw[e4];clear e4;simp only[aK,aF,aq];refine Rn.run (oF (k:=M.length) (ns:=["kept", "marks", "deeds", "powers"]) (vs:=[aA R W,.tup [],.ref (M.length+1),.ref (M.length+2)]) (by simp) rfl (by decide)) ?_
  have e5:((M++[DO.ins "Keeper" ["kept", "marks", "deeds", "powers"] [aA R W,.tup [],.ref (M.length+1),.ref (M.length+2)],.lst [],.lst [nM (bR R 0)]]).set M.length (.ins "Keeper" (putN "made" ["kept", "marks", "deeds", "powers"]) (bO "made" (.int 0) ["kept", "marks", "deeds", "powers"] [aA R W,.tup [],.ref (M.length+1),.ref (M.length+2)])))=M++[DO.ins "Keeper" bM [aA R W,.tup [],.ref (M.length+1),.ref (M.length+2),.int 0],.lst [],.lst [nM (bR R 0)]]:=by rw[Wr _ _ (Td _),Nat.sub_self];simp[show putN "made" ["kept", "marks", "deeds", "powers"]=bM from by decide,show ∀x y z:D,bO "made" x ["kept", "marks", "deeds", "powers"] [aA R W,.tup [],y,z]=[aA R W,.tup [],y,z,x] from λx y z=>rfl]
  rw[e5];clear e5;have q1:(M++[DO.ins "Keeper" bM [aA R W,.tup [],.ref (M.length+1),.ref (M.length+2),.int 0],.lst [],.lst [nM (bR R 0)]])[M.length]?=some (.ins "Keeper" bM [aA R W,.tup [],.ref (M.length+1),.ref (M.length+2),.int 0]):=by rw[TJ (Td _),Nat.sub_self];rfl
  have q2:(M++[DO.ins "Keeper" bM [aA R W,.tup [],.ref (M.length+1),.ref (M.length+2),.int 0],.lst [],.lst [nM (bR R 0)]])[M.length+2]?=some (.lst [nM (bR R 0)]):=by rw[TJ (by omega),show M.length+2-M.length=2 by omega];rfl
  refine Rn.pure ⟨⟨_,rfl⟩,True.intro,⟨⟨0,q1⟩,?_,⟨0,by omega,q2⟩,by omega,by omega⟩,⟨by simp,λq hq=>S9 hq⟩,q1,by omega,q2⟩
  rw[TJ (by omega),show M.length+1-M.length=1 by omega];rfl
 unfold xY Hu;refine Rn.run (a:=.ref M.length) (M':=M++[.ins "Keeper" [] []]) rfl ?_;refine Rn.bind body λr M' hr=>?_
 obtain⟨rfl,a,b,c⟩:=hr;exact Rn.pure ⟨rfl,a,b,c⟩
def dB(k W:Nat)(R:Ro)(M:Mo):Prop:=∃a b c d:D,M[k]?=some (.ins "Keeper" bM [aA R W,a,b,c,d])
noncomputable def Dt:=aL 1 2 (pL xY)
def Mw{k d p n W:Nat}{S:KS}{M:Mo}(h:Kpr k d p W S M)(o:KOk n W S)(hW:W<2^60)(hl:S.ds.length<1000):Rn (Dt [.ref k]) M λr M'=>∃k2 d2 p2,r=.ref k2/\M.length<=k2/\Kpr k2 d2 p2 W S M'/\Kc k2 d2 p2 W S 0 0 M'/\Gw M M':=by
 obtain⟨c,ho⟩:=h.obj;have wk:=o.R.1;unfold Dt pL jO;dsimp only;refine Rn.call rfl ?_;have st:aP 2 [.ref k]=[some (.ref k),none]:=rfl;rw[st];refine aG λK hK=>?_
 simp only[aK,aF,aq];refine Rn.bindRd (aA S.R W) (bh ho rfl) ?_;refine Rn.bind (qz wk hW M) λr M1 hr=>?_
 obtain⟨rfl,h2,g1,kc⟩:=hr;rw[hK];clear hK K;have h1:=h.gw g1;obtain⟨c1,ho1⟩:=h1.obj;have ho2:=kc.obj;have pw2:=kc.pw;clear kc;have k2l:=(S5.mp ho2).1;have kl:=(S5.mp ho).1;have dl:=(S5.mp h.dd).1;refine aG λK hK=>?_
 simp only[bQ,aK,aF,aq];refine Rn.bindRd (bF W S.ms) (bh ho1 rfl) ?_;refine Rn.run (kO ho2 rfl) ?_;rw[hK];clear hK K;have p2:(M1.set M.length (.ins "Keeper" (putN "marks" bM) (bO "marks" (bF W S.ms) bM [aA S.R W,bF W [],.ref (M.length+1),.ref (M.length+2),nD 0])))[M.length]?=some (.ins "Keeper" bM [aA S.R W,bF W S.ms,.ref (M.length+1),.ref (M.length+2),nD 0]):=Th k2l;have w2:(M1.set M.length (.ins "Keeper" (putN "marks" bM) (bO "marks" (bF W S.ms) bM [aA S.R W,bF W [],.ref (M.length+1),.ref (M.length+2),nD 0])))[M.length+2]?=some (.lst [nM (bR S.R 0)]):=by rw[Tc (by omega)];exact pw2
 have g2:Gw M (M1.set M.length (.ins "Keeper" (putN "marks" bM) (bO "marks" (bF W S.ms) bM [aA S.R W,bF W [],.ref (M.length+1),.ref (M.length+2),nD 0]))):=⟨by have:=g1.le;simp;omega,λq hq=>by rw[Tc (by omega)];exact g1.keep q hq⟩
 show Rn _ (M1.set M.length (.ins "Keeper" (putN "marks" bM) (bO "marks" (bF W S.ms) bM [aA S.R W,bF W [],.ref (M.length+1),.ref (M.length+2),nD 0]))) _;revert p2 g2 w2;generalize M1.set M.length (.ins "Keeper" (putN "marks" bM) (bO "marks" (bF W S.ms) bM [aA S.R W,bF W [],.ref (M.length+1),.ref (M.length+2),nD 0]))=M2;intro p2 w2 g2;clear ho1 ho2 h1 h2 k2l c1;have k2l:=(S5.mp p2).1;refine aG λK hK=>?_
 simp only[bQ,aK,aF,aq];refine Rn.bindRd (.ref d) (bh (g2.at ho) rfl) ?_;refine Rn.bindRd (S.ds.map (lO W)) (by show gW (.ref d) M2=_;simp only[gW,bj,g2.at h.dd]) ?_
 have sz:(S.ds.map (lO W)).length<1000000:=by rw[Te];omega
 refine Rn.eE (by omega) ?_
 have p3:(M2++[DO.lst (S.ds.map (lO W))])[M.length]?=some (.ins "Keeper" bM [aA S.R W,bF W S.ms,.ref (M.length+1),.ref (M.length+2),nD 0]):=by rw[S9 k2l];exact p2
 refine Rn.run (kO p3 rfl) ?_;rw[hK];clear hK K;simp only[bQ,aK,aF,aq];have wl:=(S5.mp w2).1;have q1:((M2++[DO.lst (S.ds.map (lO W))]).set M.length (.ins "Keeper" (putN "deeds" bM) (bO "deeds" (.ref M2.length) bM [aA S.R W,bF W S.ms,.ref (M.length+1),.ref (M.length+2),nD 0])))[M.length]?=some (.ins "Keeper" bM [aA S.R W,bF W S.ms,.ref M2.length,.ref (M.length+2),nD 0]):=by rw[Th (by simp;omega)];rfl
 have q2:((M2++[DO.lst (S.ds.map (lO W))]).set M.length (.ins "Keeper" (putN "deeds" bM) (bO "deeds" (.ref M2.length) bM [aA S.R W,bF W S.ms,.ref (M.length+1),.ref (M.length+2),nD 0])))[M.length+2]?=some (.lst [nM (bR S.R 0)]):=by rw[Tc (by omega),S9 wl];exact w2
 refine Rn.pure ⟨_,rfl,M.length,M2.length,M.length+2,rfl,Td _,⟨⟨0,q1⟩,?_,⟨0,by omega,q2⟩,by omega,by omega⟩,⟨q1,by omega,q2⟩,⟨by have:=g2.le;simp;omega,λq hq=>?_⟩⟩
 ·rw[Tc (by omega)];simp
 ·rw[Tc (by omega),S9 (by have:=g2.le;omega)]
  exact g2.keep q hq
theorem vU{β:Type}{ft:ao->DM Bool}{fe:ao->DM D}{rest:ao}(c1 c2:β->D)(p:β->Bool)(e:β->D):∀ (bs:List β) (y z:Option D) (l:List D),l.length + bs.length<=1000000->
  (∀b∈bs,ft (some (c1 b)::some (c2 b)::rest)=pure (p b))->(∀b∈bs,p b=true->fe (some (c1 b)::some (c2 b)::rest)=pure (e b))->
  ∃δ',bC (gT 2 (cF (gN 0) (cF (gN 1) iI))) ft (cC fe) (bs.map λb=>.tup [c1 b,c2 b]) (y::z::rest) l=pure (δ',l++(bs.filter p).map e)
 |[],y,z,l,_,_,_=>⟨_,by simp[bC];rfl⟩
 | b::bs,y,z,l,hl,h1,h2=>by
   have c:=h1 b (by simp)
   have hl':l.length+(bs.length+1)<=1000000:=by simpa using hl
   have lt:l.length<sizeLine:=by show l.length<2^24;omega
   cases hp:p b with
   |true=>
     have d:=h2 b (by simp) hp
     obtain⟨δ',q⟩:=vU (rest:=rest) c1 c2 p e bs (some (c1 b)) (some (c2 b)) (l++[e b]) (by simp;omega) (λb hb=>h1 b (by simp[hb])) (λb hb=>h2 b (by simp[hb]))
     exact⟨δ',by simp[bC,cC,c,d,lt,q,hp]⟩
   |false=>
     obtain⟨δ',q⟩:=vU (rest:=rest) c1 c2 p e bs (some (c1 b)) (some (c2 b)) l (by omega) (λb hb=>h1 b (by simp[hb])) (λb hb=>h2 b (by simp[hb]))
     exact⟨δ',by simp[bC,c,q,hp]⟩
noncomputable def wV:=aL 2 8 (sY yj)
def QR(l:List Nat):xR [nT l]=some (.fix ((List.range l.length).map λj=>.tup [nD j,nD (ga l j)])):=by
 show some (Itn.fix (mH 0 (l.map nD)))=_;congr 2;apply List.ext_getElem?;intro i;rw[rR];by_cases h:i<l.length
 ·rw[TV,Tg h,TV,VB h,Uq];simp[lU h,nD]
 ·rw[Vt (by simp;omega),Vt (by simp;omega)];rfl
def Lg{p:Nat}{R:Ro}{W:Nat}{M:Mo}(hp:gq p M)(wk:WK R W)(hW:W<=12):Rn (wV [.ref p,nM R]) M λr M'=>∃ q:Dd,r=q.D/\q.ok R.length/\gq p M'/\Sb p M M':=by
 have n1:=wk.n1;have n25:=wk.n25;unfold wV sY mK;dsimp only;refine Rn.call rfl ?_;have st:aP 8 [.ref p,nM R]=[some (.ref p),some (nM R),none,none,none,none,none,none]:=rfl;rw[st];refine aG λK hK=>?_
 simp only[aK,CW,aF,aq,nW];refine Rn.bind (dg (m:=12) hp (by decide) (by decide)) λd1 M1 hd=>?_
 obtain⟨w,hw,rfl,hp1,s1⟩:=hd;simp only[bQ,au];rw[hK];clear hK K;refine fV λK hK hR=>?_
 have e6:(rd (vf (nD w) (.int 6)):DM D)=pure (.bl (decide (w<6))):=nY w 6;simp only[aK,aF,aq,e6,aQ];by_cases c:w<6
 ·simp only [c,decide_true,if_true];refine Rn.bind (Q1:=λr M'=>∃q:Dd,r=.rt q.D/\q.ok R.length/\gq p M'/\Sb p M M') ?_ λr M' hr=>?_
  rotate_left
  ·obtain⟨q,rfl,hq⟩:=hr;rw[hR];exact Rn.pure ⟨_,rfl,q,rfl,hq⟩
  clear hK hR K;refine aG λK hK=>?_
  simp only[aK,aF,aq];refine Rn.bind (dg (m:=R.length) hp1 (by omega) (by omega)) λd2 M2 hd=>?_
  obtain⟨x,hx,rfl,hp2,s2⟩:=hd;rw[hK];clear hK K;have rl:=wk.row _ (gr_mem hx);refine aG λK hK=>?_
  simp only[bQ,aK,aF,aq,jr hx,QR];have gtz:∀j:Nat,(rd (xq (nD j) (.int 0)):DM D)=pure (.bl (decide (0<j))):=λj=>vC j 0
  obtain⟨y',cp⟩:=vU (ft:=λδ=>opt δ[1]?.join>>=λa=>rd (xq a (.int 0))>>=lH) (fe:=ug 0) (rest:=[]) (λj:Nat=>nD j) (λj=>nD (ga (gr R x) j)) (λj=>decide (0<ga (gr R x) j)) (λj=>nD j) (List.range (gr R x).length) none none [] (by simp;omega) (λb hb=>by simp[gtz]) (λb hb t=>by simp)
  have cpe:b8 2 [] [some (.ref p),some (nM R),some (nD w),some (nD R.length),some (nD x),none,none,none]=[none,none]:=rfl;simp only[lA,List.length_cons,List.length_nil,cpe];rw[cp];have sne:((List.range (gr R x).length).filter λj=>decide (0<ga (gr R x) j))≠[]:=λz=>by
   have s0:(gr R x).sum=0:=by
    rw[<-Kz];refine uF λj hj=>?_
    have:=List.filter_eq_nil_iff.mp z j (Uh.mpr hj);simpa using this
   have:=wk.sum _ (gr_mem hx);have:=wk.w1;omega
  have slt:∀j∈(List.range (gr R x).length).filter λj=>decide (0<ga (gr R x) j),j<R.length:=λj hj=>by have:=Uh.mp (Vr.mp hj).1;omega
  have sl:((List.range (gr R x).length).filter λj=>decide (0<ga (gr R x) j)).length<=25:=by
   have:=VR (λj=>decide (0<ga (gr R x) j)) (List.range (gr R x).length)
   rw[Uy]at this;omega
  rw[show ([]:List D)++(((List.range (gr R x).length).filter λj=>decide (0<ga (gr R x) j)).map λj=>nD j)=((List.range (gr R x).length).filter λj=>decide (0<ga (gr R x) j)).map nD from rfl]
  clear cp;revert sne slt sl;generalize ((List.range (gr R x).length).filter λj=>decide (0<ga (gr R x) j))=so
  intro sne slt sl;rw[show (dM (pure (y',so.map nD)):DM (ao×List D))=pure (y',so.map nD) from rfl,au]
  simp only[n6,au];rw[hK];clear hK K;refine aG λK hK=>?_
  have ln:(rd (dX [.lst (so.map nD)]):DM D)=pure (nD so.length):=by simp[nD]
  simp only[bQ,aK,aF,aq];refine Rn.bind (dg (m:=6) hp2 (by decide) (by decide)) λd3 M3 hd=>?_
  obtain⟨u,hu,rfl,hp3,s3⟩:=hd;have gu:(rd (xq (nD u) (.int 0)):DM D)=pure (.bl (decide (0<u))):=vC u 0;simp only[gu,au,aQ];refine Rn.bind (Q1:=λr M'=>∃y:Nat,y<R.length/\r=nD y/\gq p M'/\Sb p M3 M') ?_ λr M4 hr=>?_
  ·by_cases cu:0<u
   ·simp only[cu,decide_true,if_true,ln,au];refine Rn.bind (dg (m:=so.length) hp3 (Xc.mpr sne) (by omega)) λd4 M4 hd=>?_
    obtain⟨v,hv,rfl,hp4,s4⟩:=hd;rw[zU hv];exact Rn.pure ⟨_,slt _ (uX hv),rfl,hp4,s4⟩
   ·simp only[cu,decide_false,Bool.false_eq_true,if_false];refine (dg (m:=R.length) hp3 (by omega) (by omega)).mono λr M4 hr=>?_
    obtain⟨v,hv,rfl,hp4,s4⟩:=hr;exact⟨v,hv,rfl,hp4,s4⟩
  obtain⟨y,hy,rfl,hp4,s4⟩:=hr;rw[hK];clear hK K;have yl:y<(gr R x).length:=by omega
  have mx:∃v:Nat,1<=v/\v<=W+1/\(rd (xV [.int 1,nD (ga (gr R x) y)]):DM D)=pure (nD v):=by
   have le:=wk.at_le (gr_mem hx) y;unfold nD;rw[N8];by_cases h:(1:Int)<(ga (gr R x) y:Int)
   ·exact⟨ga (gr R x) y,by omega,by omega,by rw[S7 h]⟩
   ·exact⟨1,by omega,by omega,by rw[Tq h];rfl⟩
  obtain⟨v,v1,v2,ev⟩:=mx;refine aG λK hK=>?_
  simp only[bQ,aK,aF,aq,jr hx,sE yl,ev];refine Rn.bind (dg (m:=v) hp4 (by omega) (by omega)) λd5 M5 hd=>?_
  obtain⟨a,ha,rfl,hp5,s5⟩:=hd;rw[Gd,au];refine Rn.bind (dg (m:=8) hp5 (by decide) (by decide)) λd6 M6 hd=>?_
  obtain⟨b,hb,rfl,hp6,s6⟩:=hd;have eb:(rd (cI (nD b) (.int 0)):DM D)=pure (.bl (decide (b=0))):=fO b 0;rw[eb,au,zj,au];have aN:∀a b:Nat,(rd (cU (nD a) (nD b)):DM D)=pure (nD (a+b)):=λa b=>jC a b
  rw[aN,au,hK];clear hK K;simp only[bQ,aK,aF,aq];refine Rn.bind (dg (m:=R.length) hp6 (by omega) (by omega)) λd7 M7 hd=>?_
  obtain⟨z,hz,rfl,hp7,s7⟩:=hd;rw[dD (by simp),au]
  exact Rn.pure ⟨.mv x y z _,rfl,⟨hx,hy,hz,by omega⟩,hp7,s1.trans (s2.trans (s3.trans (s4.trans (s5.trans (s6.trans s7)))))⟩
 ·simp only [c,decide_false,Bool.false_eq_true,if_false,au];rw[hK];clear hK hR K;have ml:(gB [.str "mark",.str "back",.str "undo",.str "mark",.str "back",.str "undo"]:DM D)=pure (.lst [.str "mark",.str "back",.str "undo",.str "mark",.str "back",.str "undo"]):=cX (by simp)
  have sb:(rd (q9 (nD w) (.int 6)):DM D)=pure (nD (w-6)):=vG (b:=6) (by omega)
  have mt:∀x:D,(fY [x]:DM D)=pure (.tup [x]):=λx=>dD (by simp)
  simp only[aK,aF,aq,ml,sb];have fin:∀(i:Nat) (q:Dd),w-6=i->q.ok R.length->([.str "mark",.str "back",.str "undo",.str "mark",.str "back",.str "undo"]:List D)[i]?=some (.str (match q with | .mv ..=>"move" | .mark=>"mark" | .back=>"back" | .undo=>"undo"))->(∀x y z m,q≠.mv x y z m)->
    Rn ((rd (cg (.lst [.str "mark",.str "back",.str "undo",.str "mark",.str "back",.str "undo"]) (nD (w-6))):DM D)>>=λa=>fY [a]>>=λa=>pure (Fl.rt a)) M1 λr M'=>∃d,r=Fl.rt d/\∃q:Dd,d=q.D/\q.ok R.length/\gq p M'/\Sb p M M':=λi q hi hq he hn=>by
   have e:(rd (cg (.lst [.str "mark",.str "back",.str "undo",.str "mark",.str "back",.str "undo"]) (nD i)):DM D)=pure _:=I8 (i:=i) he;rw[hi,e,au,mt,au];refine Rn.pure ⟨_,rfl,q,?_,hq,hp1,s1⟩;cases q with
   |mv x y z m=>exact absurd rfl (hn x y z m)
   |mark=>rfl
   |back=>rfl
   |undo=>rfl
  have w6:w-6<6:=by omega
  rcases WP (w-6) 1 with h | h
  ·exact fin 0 .mark (by omega) True.intro rfl (by simp)
  rcases WP (w-6) 2 with h2 | h2
  ·exact fin 1 .back (by omega) True.intro rfl (by simp)
  rcases WP (w-6) 3 with h3 | h3
  ·exact fin 2 .undo (by omega) True.intro rfl (by simp)
  rcases WP (w-6) 4 with h4 | h4
  ·exact fin 3 .mark (by omega) True.intro rfl (by simp)
  rcases WP (w-6) 5 with h5 | h5
  ·exact fin 4 .back (by omega) True.intro rfl (by simp)
  ·exact fin 5 .undo (by omega) True.intro rfl (by simp)
noncomputable def pq(q:Ro×List Ro):D:=.tup [nM q.1,.tup (q.2.map nM)]
def dC(S:KS):List (Ro×List Ro):=S.ds++[(S.R,S.ms)]
noncomputable def cG(S:KS):D:=.lst ((dC S).map pq)
def Dd.w:Dd->Str
 |.mv _ _ _ _=>"move"
 |.mark=>"mark"
 |.back=>"back"
 |.undo=>"undo"
def Dd.r:Dd->Str
 |.mv _ _ _ _=>"move"
 |.mark=>"mark"
 |.back=>"mark"
 |.undo=>"deed"
def q0(q:Dd):(rd (cg q.D (.int 0)):DM D)=pure (.str q.w):=by cases q<;>rfl
def G4(l:List D)(x:D):(rd (cg (.lst (l++[x])) (.int (-1))):DM D)=pure x:=bY λM=>by
 show atI (l++[x]) (-1)=some x;unfold atI;have:ixN (l++[x]).length (-1)=some l.length:=by
  unfold ixN;rw[Tq (by omega),S7 (by simp;omega)]
  congr 1;simp;omega
 rw[this];simp
def lB(S:KS):(rd (cg (cG S) (.int (-1))):DM D)=pure (pq (S.R,S.ms)):=by unfold cG dC;rw[Ue];exact G4 _ _
def JP{k:Nat}(hk:k<=50){l:List D}(h:∀ d∈l,Nm k d):(rd (gC (.tup l) (.tup [])):DM D)=pure (.bl (!decide (l=[]))):=bY λM=>by
 obtain⟨ps,b1,b2,b3,b4⟩:=vg h;show (eqP _ _).map _=_;unfold eqP;simp only[toPy,b1,dH,Option.map_some];rw[S7 (by simp[PyData.canLay0,b2,PyData.depth,PyData.canLayAll0];omega)]
 cases l with
 |nil=>cases b1;rfl
 | cons d l=>
   cases ps with
   |nil=>obtain⟨q,e,_⟩:=h d (.head _);simp only[dH,e]at b1;split at b1<;>cases b1
   |cons _ _=>simp[PyData.eqv,PyData.eqvAll]
def nH(S:KS):(dC S).length=S.ds.length+1:=by simp[dC]
noncomputable def Dl:=aL 2 9 uG
def Lj{n W:Nat}{S:KS}{q:Dd}(o:KOk n W S)(hq:q.ok n)(hl:S.ds.length<1000)(hm:S.ms.length<1000)(M:Mo):
  Rn (Dl [cG S,q.D]) M λr M'=>Gw M M'/\((∃S',Stp S q S'/\r=cG S')\/(Ref S q/\r=.tup [.str q.r])):=by
 obtain⟨⟨wk,rn⟩,oms,ods⟩:=o;unfold Dl uG o7;dsimp only;refine Rn.call rfl ?_;have st:aP 9 [cG S,q.D]=[some (cG S),some q.D,none,none,none,none,none,none,none]:=rfl;rw[st];have ng:(rd (qG (.int 1)):DM D)=pure (.int (-1)):=rfl;have ai:(sW (.int (-1)):DM (Option Int))=pure (some (-1)):=rfl;have mt:∀x:D,(fY [x]:DM D)=pure (.tup [x]):=λx=>dD (by simp)
 have mt2:∀x y:D,(fY [x,y]:DM D)=pure (.tup [x,y]):=λx y=>dD (by simp)
 have ml:∀x:D,(gB [x]:DM D)=pure (.lst [x]):=λx=>cX (by simp)
 have pl:∀a:Ro×List Ro,(rd (cU (cG S) (.lst [pq a])):DM D)=pure (.lst ((dC S++[a]).map pq)):=λa=>by unfold cG;rw[wC (by rw[Te,nH];simp;omega),Ue];rfl
 have tg:gT 2 (cF (gN 2) (cF (gN 3) iI)) (pq (S.R,S.ms)) [some (cG S),some q.D,none,none,none,none,none,none,none]=pure [some (cG S),some q.D,some (nM S.R),some (.tup (S.ms.map nM)),none,none,none,none,none]:=by unfold pq;simp[gT,cF,iI]
 refine aG λK hK=>?_
 simp only[aK,aF,aq,ng,lB,tg];rw[hK];clear hK K tg;refine fV λK hK hR=>?_
 simp only[aK,aF,aq,q0,fX,aQ];cases q with
 | undo=>
   simp only[Dd.w,decide_true,if_true];clear hK;have ln:(rd (dX [cG S]):DM D)=pure (nD (S.ds.length+1)):=bY λM=>by show (some (D.int _))=_;rw[Te,nH];rfl
   have gt:(rd (xq (nD (S.ds.length+1)) (.int 1)):DM D)=pure (.bl (decide (1<S.ds.length+1))):=vC _ 1;simp only[ln,gt,au,aQ];obtain⟨R,ms,ds⟩:=S;rcases List.eq_nil_or_concat ds with rfl | ⟨a,b,rfl⟩
   ·simp only[List.length_nil,Nat.zero_add,show decide (1<1)=false from by decide,Bool.false_eq_true,if_false,mt,au]
    rw[hR];exact Rn.pure ⟨_,rfl,⟨Td _,λv v=>rfl⟩,.inr ⟨.undo,rfl⟩⟩
   ·rw[List.concat_eq_append];obtain⟨R',ms'⟩:=b;have sl:(rd (qZ none (some (-1)) (cG ⟨R,ms,a++[(R',ms')]⟩)):DM D)=pure (cG ⟨R',ms',a⟩):=bY λM=>by unfold cG dC;dsimp only;rw[Ue];show some (D.lst (cutD _ none (some (-1))))=_;rw[Us,WN,tX]
    rw[List.concat_eq_append]at *;simp only[show decide (1<(a++[(R',ms')]).length+1)=true from decide_eq_true (by simp),if_true,ng,ai,sl,au,aq]
    rw[hR];exact Rn.pure ⟨_,rfl,⟨Td _,λv v=>rfl⟩,.inl ⟨_,.undo,rfl⟩⟩
 |mark=>
   simp only[show decide (Dd.mark.w = "undo")=false from by decide,Bool.false_eq_true,if_false,au]
   rw[hK];clear hK hR K;refine fV λK hK hR=>?_
   simp only[aK,aF,aq,q0,fX,aQ,Dd.w,decide_true,if_true,mt,mt2,ml];rw[nR _ _ (by rw[Te];simp;omega),au]
   rw[show D.tup [nM S.R,D.tup (S.ms.map nM++[nM S.R])]=pq (S.R,S.ms++[S.R]) by unfold pq;rw[Ue];rfl,pl,au,hR]
   exact Rn.pure ⟨_,rfl,⟨Td _,λv v=>rfl⟩,.inl ⟨⟨S.R,S.ms++[S.R],S.ds++[(S.R,S.ms)]⟩,.mark,rfl⟩⟩
 | back=>
   simp only[show decide (Dd.back.w = "undo")=false from by decide,Bool.false_eq_true,if_false,au]
   rw[hK];clear hK hR K;refine aG λK hK=>?_
   simp only[aK,aF,aq,q0,fX,aQ,show decide (Dd.back.w = "mark")=false from by decide,Bool.false_eq_true,if_false]
   rw[hK];clear hK K;refine fV λK hK hR=>?_
   have mt0:(fY []:DM D)=pure (.tup []):=dD (by simp)
   have nn:(rd (gC (.tup (S.ms.map nM)) (.tup [])):DM D)=pure (.bl (!decide (S.ms.map nM=[]))):=JP (k:=2) (by omega) λd hd=>by obtain⟨R,_,rfl⟩:=Uj.mp hd;exact Iu (k:=0) R
   simp only[aK,aF,aq,q0,fX,aQ,Dd.w,decide_true,if_true,mt0,nn];clear hK;obtain⟨R,ms,ds⟩:=S;rcases List.eq_nil_or_concat ms with rfl | ⟨a,b,rfl⟩
   ·simp only[List.map_nil,decide_true,Bool.not_true,Bool.false_eq_true,if_false,mt,au];rw[hR];exact Rn.pure ⟨_,rfl,⟨Td _,λv v=>rfl⟩,.inr ⟨.back,rfl⟩⟩
   ·simp only[List.concat_eq_append]at *;have sl:(rd (qZ none (some (-1)) (.tup ((a++[b]).map nM))):DM D)=pure (.tup (a.map nM)):=bY λM=>by rw[Ue];show some (D.tup (cutD _ none (some (-1))))=_;rw[Us,WN,tX]
    have la:(rd (cg (.tup ((a++[b]).map nM)) (.int (-1))):DM D)=pure (nM b):=by rw[Ue];exact Az _ _
    simp only[show (!decide ((a++[b]).map nM=[]))=true by simp,if_true,ng,ai,sl,la,au,aq,mt2,ml]
    rw[show D.tup [nM b,D.tup (a.map nM)]=pq (b,a) from rfl,pl,au,hR]
    exact Rn.pure ⟨_,rfl,⟨Td _,λv v=>rfl⟩,.inl ⟨⟨b,a,ds++[(R,a++[b])]⟩,.back,rfl⟩⟩
 | mv x y z m=>
   obtain⟨hx,hy,hz,h1⟩:=hq;have n25:=wk.n25;have rl:=wk.row _ (gr_mem (R:=S.R) (i:=x) (by omega))
   simp only[show decide ((Dd.mv x y z m).w = "undo")=false from decide_eq_false (show ¬ ("move":Str) = "undo" by decide),Bool.false_eq_true,if_false,au]
   rw[hK];clear hK hR K;refine aG λK hK=>?_
   simp only[aK,aF,aq,q0,fX,aQ,show decide ((Dd.mv x y z m).w = "mark")=false from decide_eq_false (show ¬ ("move":Str) = "mark" by decide),Bool.false_eq_true,if_false]
   rw[hK];clear hK K;refine aG λK hK=>?_
   simp only[aK,aF,aq,q0,fX,aQ,show decide ((Dd.mv x y z m).w = "back")=false from decide_eq_false (show ¬ ("move":Str) = "back" by decide),Bool.false_eq_true,if_false]
   rw[hK];clear hK K;refine aG λK hK=>?_
   have sl:(rd (qZ (some 1) none (Dd.mv x y z m).D):DM D)=pure (.tup [nD x,nD y,nD z,nD m]):=rfl;have a1':(sW (.int 1):DM (Option Int))=pure (some 1):=rfl;have tg:gT 4 (cF (gN 4) (cF (gN 5) (cF (gN 6) (cF (gN 7) iI)))) (.tup [nD x,nD y,nD z,nD m]) [some (cG S),some (Dd.mv x y z m).D,some (nM S.R),some (.tup (S.ms.map nM)),none,none,none,none,none]=pure [some (cG S),some (Dd.mv x y z m).D,some (nM S.R),some (.tup (S.ms.map nM)),some (nD x),some (nD y),some (nD z),some (nD m),none]:=by simp[gT,cF,iI]
   simp only[aK,aF,aq,a1',sl,tg];rw[hK];clear hK K;refine fV λK hK hR=>?_
   have e1:(rd (cI (nD y) (nD z)):DM D)=pure (.bl (decide (y=z))):=fO y z;have e2:(rd (vf (nD (ga (gr S.R x) y)) (nD m)):DM D)=pure (.bl (decide (ga (gr S.R x) y<m))):=nY _ _;simp only[aK,aF,aq,e1,aQ];have hx':x<S.R.length:=by omega
   by_cases h1:y=z
   ·subst h1;simp only[decide_true,if_true,mt,au,aQ];rw[hR];exact Rn.pure ⟨_,rfl,⟨Td _,λv v=>rfl⟩,.inr ⟨.mv (.inl rfl),rfl⟩⟩
   by_cases h2:ga (gr S.R x) y<m
   ·simp only[decide_eq_false h1,Bool.false_eq_true,if_false,jr hx',sE (show y<(gr S.R x).length by omega),e2,decide_eq_true h2,if_true,mt,au,aq,aQ]
    rw[hR];exact Rn.pure ⟨_,rfl,⟨Td _,λv v=>rfl⟩,.inr ⟨.mv (.inr h2),rfl⟩⟩
   simp only[decide_eq_false h1,Bool.false_eq_true,if_false,jr hx',sE (show y<(gr S.R x).length by omega),e2,decide_eq_false h2,au,aq,aQ,Bool.false_eq_true,if_false]
   rw[hK];clear hK hR K;replace h2:m<=ga (gr S.R x) y:=by omega
   refine aG λK hK=>?_
   simp only[aK,aF,aq,jr hx'];refine Rn.bindRd ((gr S.R x).map nD) rfl ?_;refine Rn.eE (by simp;omega) ?_
   rw[hK];clear hK K;have r0:(M++[DO.lst ((gr S.R x).map nD)])[M.length]?=some (.lst ((gr S.R x).map nD)):=by simp
   have yl:y<(gr S.R x).length:=by omega
   have zl:z<((gr S.R x).set y (ga (gr S.R x) y-m)).length:=by rw[Ur];omega
   refine aG λK hK=>?_
   simp only[bQ,aK,aF,aq];refine Rn.bindRd (nD (ga (gr S.R x) y)) (rO (i:=y) r0 (by rw[TV,Tg yl,lU yl];rfl)) ?_
   rw[show (rd (q9 (nD (ga (gr S.R x) y)) (nD m)):DM D)=pure (nD (ga (gr S.R x) y-m)) from vG h2,au]
   refine Rn.run (jk r0 (by rw[Te];exact yl)) ?_
   rw[hK,<-Wu];clear hK K;have r1:((M++[DO.lst ((gr S.R x).map nD)]).set M.length (.lst (((gr S.R x).set y (ga (gr S.R x) y-m)).map nD)))[M.length]?=some (.lst (((gr S.R x).set y (ga (gr S.R x) y-m)).map nD)):=Th (by simp)
   refine aG λK hK=>?_
   simp only[bQ,aK,aF,aq];refine Rn.bindRd (nD (ga ((gr S.R x).set y (ga (gr S.R x) y-m)) z)) (rO (i:=z) r1 (by rw[TV,Tg zl,lU zl];rfl)) ?_
   rw[jC,au];refine Rn.run (jk r1 (by rw[Te];exact zl)) ?_
   rw[hK,<-Wu];clear hK K;have r2:(((M++[DO.lst ((gr S.R x).map nD)]).set M.length (.lst (((gr S.R x).set y (ga (gr S.R x) y-m)).map nD))).set M.length (.lst ((iY (gr S.R x) y z m).map nD)))[M.length]?=some (.lst ((iY (gr S.R x) y z m).map nD)):=Th (by simp)
   have g2:Gw M (((M++[DO.lst ((gr S.R x).map nD)]).set M.length (.lst (((gr S.R x).set y (ga (gr S.R x) y-m)).map nD))).set M.length (.lst ((iY (gr S.R x) y z m).map nD))):=⟨by simp,λq hq=>by rw[Tc (by omega),Tc (by omega),S9 hq]⟩
   show Rn _ (((M++[DO.lst ((gr S.R x).map nD)]).set M.length (.lst (((gr S.R x).set y (ga (gr S.R x) y-m)).map nD))).set M.length (.lst ((iY (gr S.R x) y z m).map nD))) _;revert r2 g2;generalize ((M++[DO.lst ((gr S.R x).map nD)]).set M.length (.lst (((gr S.R x).set y (ga (gr S.R x) y-m)).map nD))).set M.length (.lst ((iY (gr S.R x) y z m).map nD))=M2;intro r2 g2;have s1:(rd (qZ none (some (x:Int)) (nM S.R)):DM D)=pure (.tup ((S.R.take x).map nT)):=bY λM=>by
    show some (D.tup (cutD (S.R.map nT) none (some (x:Int))))=_;have e:cutD (S.R.map nT) none (some (x:Int))=(S.R.take x).map nT:=by unfold cutD;rw[HT.sIx_none,HT.sIx_nat,List.drop_zero,Nat.sub_zero,Te,Wt (by omega),List.map_take]
    rw[e]
   have s2:(rd (qZ (some ((x+1:Nat):Int)) none (nM S.R)):DM D)=pure (.tup ((S.R.drop (x+1)).map nT)):=bY λM=>by
    show some (D.tup (cutD (S.R.map nT) (some ((x+1:Nat):Int)) none))=_;have e:cutD (S.R.map nT) (some ((x+1:Nat):Int)) none=(S.R.drop (x+1)).map nT:=by
     unfold cutD;rw[HT.sIx_none,HT.sIx_nat,Te,Wt (by omega),List.map_drop]
     exact VL (by simp)
    rw[e]
   have tp:oG [.ref M.length] M2=some (nT (iY (gr S.R x) y z m)):=by show (gW (.ref M.length) M2).map D.tup=_;simp only[gW,bj,r2];rfl
   have ax:(sW (nD x):DM (Option Int))=pure (some (x:Int)):=rfl;have a1:(rd (cU (nD x) (.int 1)):DM D)=pure (nD (x+1)):=sy x;have ax1:(sW (nD (x+1)):DM (Option Int))=pure (some ((x+1:Nat):Int)):=rfl;simp only[aK,aF,aq,ax,s1];refine Rn.bindRd _ tp ?_;simp only[mt,au,a1,ax1,s2];have tl:(S.R.take x).length<=25:=by rw[Vb];omega
   have dl:(S.R.drop (x+1)).length<=25:=by rw[Vn];omega
   rw[nR _ _ (by simp;omega),au,nR _ _ (by simp;omega),au]
   have em:D.tup ((S.R.take x).map nT++[nT (iY (gr S.R x) y z m)]++(S.R.drop (x+1)).map nT)=nM (lX S.R x y z m):=by rw[Jd];congr 1;unfold lX;rw[List.set_eq_take_append_cons_drop,S7 hx'];simp
   rw[em,mt2,au,ml,au];rw[show D.tup [nM (lX S.R x y z m),D.tup (S.ms.map nM)]=pq (lX S.R x y z m,S.ms) from rfl,pl]
   exact Rn.pure ⟨_,rfl,g2,.inl ⟨⟨lX S.R x y z m,S.ms,S.ds++[(S.R,S.ms)]⟩,.mv h1 h2,rfl⟩⟩
def oE{f g:ao->DM Fl}{δ δ':ao}(h:f δ=pure (.nx δ')):m5 f g δ=g δ':=by unfold m5;rw[h];rfl
noncomputable def yV:Str->D:=λc=>.tup [.str (if c = "NoMove" then "move" else if c = "NoMark" then "mark" else "deed")]
def JF(y:Addr):cV y "NoMove" (aP 4 [.exn y])=pure (.rt (.tup [.str "move"])):=by
 have st:aP 4 [.exn y]=[some (.exn y),none,none,none]:=rfl;rw[st];have ex:uT (.exn y)=some y:=rfl;have hi:∀k:D,(rd (lu oH y "NoMove" [.exn y,k]):DM D)=rd (lu oH 0 "NoMove" [.exn 0,k]):=λk=>by funext M;simp only[rd,lu,uT,if_true]
 have m4:fY [.ty "LookupError",.ty "TypeError",.ty "ArithmeticError",.ty "RuntimeError"]=pure (.tup [.ty "LookupError",.ty "TypeError",.ty "ArithmeticError",.ty "RuntimeError"]):=by funext M;rfl
 have ms:∀(m:List D) (w z:Option D) (f g:ao->DM Fl) (m':List D),f [some (.exn y),some (.lst m),w,z]=pure (.nx [some (.exn y),some (.lst m'),w,z])->m5 f g [some (.exn y),some (.lst m),w,z]=g [some (.exn y),some (.lst m'),w,z]:=λx x x x x x h=>oE h
 let F:List D:=List.replicate 4 (.bl false)
 let A:List D:=[.bl false,.bl false,.bl true,.bl false]
 let B:List D:=[.bl false,.bl false,.bl false,.bl false]
 unfold cV fM;dsimp only;refine (oE (δ':=[some (.exn y),some (.lst F),none,none]) ?_).trans ((ms _ _ _ _ _ (F++F) ?_).trans ((ms _ _ _ _ _ (F++F++F) ?_).trans ((ms _ _ _ _ _ (F++F++F++A) ?_).trans ((ms _ _ _ _ _ (F++F++F++A++B) ?_).trans ((ms _ _ _ _ _ (F++F++F++A++B) ?_).trans ?_)))))
 all_goals simp only[bQ,aK,aF,aq,hi,m4]
 all_goals first | (funext M;rfl) | skip
def JD(y:Addr):cV y "NoMark" (aP 4 [.exn y])=pure (.rt (.tup [.str "mark"])):=by
 have st:aP 4 [.exn y]=[some (.exn y),none,none,none]:=rfl;rw[st];have ex:uT (.exn y)=some y:=rfl;have hi:∀k:D,(rd (lu oH y "NoMark" [.exn y,k]):DM D)=rd (lu oH 0 "NoMark" [.exn 0,k]):=λk=>by funext M;simp only[rd,lu,uT,if_true]
 have m4:fY [.ty "LookupError",.ty "TypeError",.ty "ArithmeticError",.ty "RuntimeError"]=pure (.tup [.ty "LookupError",.ty "TypeError",.ty "ArithmeticError",.ty "RuntimeError"]):=by funext M;rfl
 have ms:∀(m:List D) (w z:Option D) (f g:ao->DM Fl) (m':List D),f [some (.exn y),some (.lst m),w,z]=pure (.nx [some (.exn y),some (.lst m'),w,z])->m5 f g [some (.exn y),some (.lst m),w,z]=g [some (.exn y),some (.lst m'),w,z]:=λx x x x x x h=>oE h
 let F:List D:=List.replicate 4 (.bl false)
 let A:List D:=[.bl false,.bl false,.bl false,.bl true]
 let B:List D:=[.bl false,.bl false,.bl false,.bl false]
 unfold cV fM;dsimp only;refine (oE (δ':=[some (.exn y),some (.lst F),none,none]) ?_).trans ((ms _ _ _ _ _ (F++F) ?_).trans ((ms _ _ _ _ _ (F++F++F) ?_).trans ((ms _ _ _ _ _ (F++F++F++A) ?_).trans ((ms _ _ _ _ _ (F++F++F++A++B) ?_).trans ((ms _ _ _ _ _ (F++F++F++A++B) ?_).trans ?_)))))
 all_goals simp only[bQ,aK,aF,aq,hi,m4]
 all_goals first | (funext M;rfl) | skip
def JC(y:Addr):cV y "NoDeed" (aP 4 [.exn y])=pure (.rt (.tup [.str "deed"])):=by
 have st:aP 4 [.exn y]=[some (.exn y),none,none,none]:=rfl;rw[st];have ex:uT (.exn y)=some y:=rfl;have hi:∀k:D,(rd (lu oH y "NoDeed" [.exn y,k]):DM D)=rd (lu oH 0 "NoDeed" [.exn 0,k]):=λk=>by funext M;simp only[rd,lu,uT,if_true]
 have m4:fY [.ty "LookupError",.ty "TypeError",.ty "ArithmeticError",.ty "RuntimeError"]=pure (.tup [.ty "LookupError",.ty "TypeError",.ty "ArithmeticError",.ty "RuntimeError"]):=by funext M;rfl
 have ms:∀(m:List D) (w z:Option D) (f g:ao->DM Fl) (m':List D),f [some (.exn y),some (.lst m),w,z]=pure (.nx [some (.exn y),some (.lst m'),w,z])->m5 f g [some (.exn y),some (.lst m),w,z]=g [some (.exn y),some (.lst m'),w,z]:=λx x x x x x h=>oE h
 let F:List D:=List.replicate 4 (.bl false)
 let A:List D:=[.bl false,.bl false,.bl false,.bl false]
 let B:List D:=[.bl true,.bl false,.bl false,.bl false]
 unfold cV fM;dsimp only;refine (oE (δ':=[some (.exn y),some (.lst F),none,none]) ?_).trans ((ms _ _ _ _ _ (F++F) ?_).trans ((ms _ _ _ _ _ (F++F++F) ?_).trans ((ms _ _ _ _ _ (F++F++F++A) ?_).trans ((ms _ _ _ _ _ (F++F++F++A++B) ?_).trans ((ms _ _ _ _ _ (F++F++F++A++B) ?_).trans ?_)))))
 all_goals simp only[bQ,aK,aF,aq,hi,m4]
 all_goals first | (funext M;rfl) | skip
def Pa(y:Addr)(c:Str)(hc:c∈mq):cV y c (aP 4 [.exn y])=pure (.rt (yV c)):=by
 have h:c = "NoMove"\/c = "NoMark"\/c = "NoDeed":=by simpa[mq] using hc
 rcases h with rfl | rfl | rfl
 ·exact JF y
 ·exact JD y
 ·exact JC y
noncomputable def yz:=xQ 2 (mD yV)
def Oj{th:DM D}{M M':Mo}{c:Str}(hc:c∈mq)(h:Xn th M c M'):Rn (yz th) M λd M''=>d=yV c/\M''=M':=by
 refine⟨_,M',?_,rfl,rfl⟩;have hb:∀f:D->DM D,(th>>=f) M=some (.exc c,M'):=λf=>by show DM.bind th f M=_;unfold DM.bind;rw[h]
 have hb2:∀(f:D->DM D) (g:D->DM Fl),((th>>=f)>>=g) M=some (.exc c,M'):=λf g=>by show DM.bind (th>>=f) g M=_;unfold DM.bind;rw[hb f]
 unfold yz xQ mD jq;dsimp only;have hT:∀(fb:ao->DM Fl) (fh:Str->ao->DM Fl) (δ:ao),fb δ M=some (.exc c,M')->rm mq 2 1 fb fh δ M=(dM (fh c ((List.replicate 2 none).set 1 (some (.exn 0))))>>=HB 1) M':=λfb fh δ h=>by unfold rm;rw[h];simp[hc]
 show DM.bind (rm _ _ _ _ _ _) _ M=_;unfold DM.bind;rw[hT _ _ _ (hb2 _ _)];rfl
def Ke{th:DM D}{M:Mo}{P:D->Mo->Prop}(h:Rn th M P):Rn (yz th) M λd M'=>∃d0,d=.tup [.str "told",d0]/\P d0 M':=by
 obtain⟨d0,M',e,p⟩:=h;refine⟨_,M',?_,d0,rfl,p⟩;have hb2:∀(f:D->DM D) (g:D->DM Fl) (r:R Fl×Mo),(f d0>>=g) M'=some r->((th>>=f)>>=g) M=some r:=λf g r h=>by show DM.bind (DM.bind th f) g M=_;unfold DM.bind;rw[e];exact h
 unfold yz xQ mD jq;dsimp only;have hT:∀(fb:ao->DM Fl) (fh:Str->ao->DM Fl) (δ:ao) (r:Fl),fb δ M=some (.ok r,M')->rm mq 2 1 fb fh δ M=some (.ok r,M'):=λfb fh δ r h=>by unfold rm;rw[h]
 show DM.bind (rm _ _ _ _ _ _) _ M=_;unfold DM.bind;rw[hT _ _ _ (.rt (.tup [.str "told",d0])) (hb2 _ _ _ rfl)];rfl
noncomputable def wY:=aL 3 5 (tH Dl yh yz)
def zG{k:Nat}{s:Str}(h:PyData.strOk s=true):Nm k (.str s):=⟨.str s,rfl,by simp only[PyData.canLay0];exact h,Vh _,by simp[PyData.eqv]⟩
def Nk{k:Nat}:Nm k .non:=⟨.none,rfl,rfl,Vh _,by simp[PyData.eqv]⟩
def CQ{k:Nat}(b:Bool):Nm k (.bl b):=⟨.bool b,rfl,rfl,Vh _,by simp[PyData.eqv]⟩
def ue{k:Nat}{l:List D}(hk:k<=50)(h:Nm k (.tup l)):(rd (cI (.tup l) (.tup l)):DM D)=pure (.bl true):=bY λM=>by obtain⟨p,a1,a2,a3,a4⟩:=h;show (eqP _ _).map _=_;unfold eqP;simp only[a1];rw[S7 (by simp[a2];omega),a4];rfl
def ud{k:Nat}{l:List D}(hk:k<=50)(h:Nm k (.lst l)):(rd (cI (.lst l) (.lst l)):DM D)=pure (.bl true):=bY λM=>by obtain⟨p,a1,a2,a3,a4⟩:=h;show (eqP _ _).map _=_;unfold eqP;simp only[a1];rw[S7 (by simp[a2];omega),a4];rfl
def Od(q:Dd)(S:KS)(h:Ref S q):(rd (cI (yV q.c) (.tup [.str q.r])):DM D)=pure (.bl true):=by
 have e:yV q.c=.tup [.str q.r]:=by cases h<;>rfl
 rw[e];exact ue (k:=1) (by omega) (qI λd hd=>by rw[Tt.mp hd];exact zG (by cases h<;>(simp only[Dd.r];decide +kernel)))
def Ol{k d p n W:Nat}{S:KS}{q:Dd}{M:Mo}(h:Kpr k d p W S M)(o:KOk n W S)(hW:W<2 ^ 60)(hl:S.ds.length<900)(hm:S.ms.length<900)(hq:q.ok n):
  Rn (wY [.ref k,cG S,q.D]) M λr M'=>∃S' p',(Stp S q S'\/(Ref S q/\S'=S))/\r=cG S'/\Kpr k d p' W S' M'/\Op k d p M p' M':=by
 unfold wY tH mR;dsimp only;refine Rn.call rfl ?_;have st:aP 5 [.ref k,cG S,q.D]=[some (.ref k),some (cG S),some q.D,none,none]:=rfl;rw[st];refine aG λK hK=>?_
 simp only[aK,aF,aq];refine Rn.bind (Lj o hq (by omega) (by omega) M) λr M1 hr=>?_
 obtain⟨g,hr⟩:=hr;rw[hK];clear hK K;have h1:=h.gw g;have mt2:∀x y:D,(fY [x,y]:DM D)=pure (.tup [x,y]):=λx y=>dD (by simp)
 rcases hr with ⟨S',hs,rfl⟩ | ⟨hs,rfl⟩
 ·refine aG λK hK=>?_
  simp only[bQ,aK,aF,aq];refine Rn.bind (Ke (Li h1 o hW (by omega) (by omega) hq hs)) λr M2 hr=>?_
  obtain⟨d0,rfl,rfl,p',hk,oo⟩:=hr;rw[hK];clear hK K;refine aG λK hK=>?_
  have ii:(rd (eV [cG S',.ty "tuple"]):DM D)=pure (.bl false):=rfl;simp only[bQ,aK,aF,aq,ii,jD,Bool.false_eq_true,if_false];rw[hK];clear hK K;have ee:(rd (cI (.tup [.str "told",.non]) (.tup [.str "told",.non])):DM D)=pure (.bl true):=ue (k:=1) (by omega) (qI λd hd=>by
   rcases T3.mp hd with rfl | hd
   ·exact zG (by decide +kernel)
   ·rw[Tt.mp hd];exact Nk)
  simp only[bQ,aK,aF,aq,mt2,ee,aQ,if_true];exact Rn.pure ⟨_,rfl,S',p',.inl hs,rfl,hk,g.op.trans oo⟩
 ·refine aG λK hK=>?_
  simp only[bQ,aK,aF,aq];refine Rn.bind (Oj (by cases hs<;>simp[Dd.c,mq]) (O4 h1 o hq hs)) λr M2 hr=>?_
  obtain⟨rfl,rfl⟩:=hr;rw[hK];clear hK K;refine fV λK hK hR=>?_
  have ii:(rd (eV [.tup [.str q.r],.ty "tuple"]):DM D)=pure (.bl true):=rfl;simp only[bQ,aK,aF,aq,ii,jD,if_true,Od q S hs,aQ];rw[hR];exact Rn.pure ⟨_,rfl,S,p,.inr ⟨hs,rfl⟩,rfl,h1,g.op⟩
def jW(a b:Str):(a++b).length=a.length+b.length:=by show (a.cps++b.cps).size=_;simp[Str.length]
def sJ{a b:Str}(h1:PyData.strOk a=true)(h2:PyData.strOk b=true):PyData.strOk (a++b)=true:=by unfold PyData.strOk at *;show (a.cps++b.cps).all _=true;rw[Array.all_append,h1,h2];rfl
def tS(n:Nat):Str:=Str.ofString (toString ((n:Nat):Int))
def xX:∀n<100,PyData.strOk (tS n)=true/\(tS n).length≠0/\(tS n).length<=5:=by decide +kernel
def pU(n m:Nat):Str:=((((Str.empty++"Keeper(")++tS n)++" places, ")++tS m)++" deeds)"
def cl1:(Str.ofString "Keeper(").length=7:=by decide +kernel
def cl2:(Str.ofString " places, ").length=9:=by decide +kernel
def Ry:(Str.ofString " deeds)").length=7:=by decide +kernel
def Ei:(Str.empty).length=0:=by decide +kernel
def Mx{n m:Nat}(hn:n<100)(hm:m<100):PyData.strOk (pU n m)=true:=by unfold pU;exact sJ (sJ (sJ (sJ (by decide +kernel) (xX n hn).1) (by decide +kernel)) (xX m hm).1) (by decide +kernel)
def RG{n:Nat}(hn:n<100):((n:Int)).natAbs.log2<1920:=by
 show n.log2<1920;by_cases h:n=0
 ·subst h;decide
 ·exact (Nat.log2_lt h).mpr (Tj hn (T7 (show 100<=2^7 by decide) (Nat.pow_le_pow_right (by decide) (by decide))))
def IW{n:Nat}(hn:n<100):(rd (Cu (nD n)):DM D)=pure (.str (tS n)):=bY λM=>by unfold Cu nD;dsimp only;rw[S7 (RG hn)];rfl
def RN{a b:Str}(h1:a.length≠0)(h2:b.length≠0)(h3:a.length+b.length<=10000):(rd (KH (.str a) (.str b)):DM D)=pure (.str (a++b)):=bY λM=>by unfold KH;dsimp only;rw[S7 ⟨h1,h2,by rw[jW];show _<=2^24;omega⟩]
def Rn.join{f:ao->DM D}{fs:List (ao->DM D)}{δ:ao}{acc a:Str}{M:Mo}{Q:D->Mo->Prop}(h:Rn (f δ) M λr M'=>r=.str a/\M'=M)(hl:acc.length+a.length<=10000)(k:Rn (lV fs δ (acc++a)) M Q):Rn (lV (f::fs) δ acc) M Q:=by
 show Rn (f δ>>=λx=>opt (strOf x)>>=λa=>if (acc++a).length<=sizeLine then lV fs δ (acc++a) else stuck) M Q
 refine Rn.bind h λr M' hr=>?_
 obtain⟨rfl,rfl⟩:=hr;rw[show (opt (strOf (.str a)):DM Str)=pure a from rfl,au,S7 (by rw[jW];show _<=2^24;omega)]
 exact k
noncomputable def pJ:=aL 1 1 (jY sU)
def Mv{k d p W:Nat}{S:KS}{M:Mo}(h:Kpr k d p W S M)(h2:S.R.length<=25)(h3:S.ds.length<100):Rn (pJ [.ref k]) M λr M'=>r=.str (pU S.R.length S.ds.length)/\M'=M:=by
 obtain⟨c,ho⟩:=h.obj;unfold pJ jY gb;dsimp only;refine Rn.call rfl ?_;have st:aP 1 [.ref k]=[some (.ref k)]:=rfl;rw[st];have a1:=xX S.R.length (by omega)
 have a2:=xX S.ds.length (by omega)
 have ld:dX [.ref d] M=some (nD S.ds.length):=by have:=h.dd;simp[dX,bj,this,nD]
 refine Rn.bind (Q1:=λr M'=>r=.str (pU S.R.length S.ds.length)/\M'=M) ?_ λr M' hr=>?_
 ·refine Rn.join (a := "Keeper(") (Rn.pure ⟨rfl,rfl⟩) (by rw[Ei,cl1];omega) ?_
  refine Rn.join (a:=tS S.R.length) ?_ (by rw[jW,Ei,cl1];omega) ?_
  ·simp only[aK,aF,aq];refine Rn.bindRd (aA S.R W) (bh ho rfl) ?_;rw[Bp h2,au,IW (by omega)]
   exact Rn.pure ⟨rfl,rfl⟩
  refine Rn.join (a := " places, ") (Rn.pure ⟨rfl,rfl⟩) (by rw[jW,jW,Ei,cl1,cl2];omega) ?_
  refine Rn.join (a:=tS S.ds.length) ?_ (by rw[jW,jW,jW,Ei,cl1,cl2];omega) ?_
  ·simp only[aK,aF,aq];refine Rn.bindRd (.ref d) (bh ho rfl) ?_;refine Rn.bindRd (nD S.ds.length) ld ?_;rw[IW (by omega)]
   exact Rn.pure ⟨rfl,rfl⟩
  refine Rn.join (a := " deeds)") (Rn.pure ⟨rfl,rfl⟩) (by rw[jW,jW,jW,jW,Ei,cl1,cl2,Ry];omega) ?_
  exact Rn.pure ⟨rfl,rfl⟩
 ·obtain⟨rfl,rfl⟩:=hr;exact Rn.pure ⟨_,rfl,rfl,rfl⟩
def Oh{k d p W:Nat}{S:KS}{M:Mo}(h:Kpr k d p W S M)(h2:S.R.length<=25)(h3:S.ds.length<100):Rn (vH "Keeper" pJ [.ref k]) M λr M'=>r=.str (pU S.R.length S.ds.length)/\M'=M:=by
 obtain⟨c,ho⟩:=h.obj;have e:vH "Keeper" pJ [.ref k] M=(pJ [.ref k]>>=yJ) M:=by show jw _ _ M=_;unfold jw;rw[S7 (zf ho)]
 have r:Rn (pJ [.ref k]>>=yJ) M λr M'=>r=.str (pU S.R.length S.ds.length)/\M'=M:=by
  refine Rn.bind (Mv h h2 h3) λr M' hr=>?_
  obtain⟨rfl,rfl⟩:=hr;exact Rn.pure ⟨rfl,rfl⟩
 obtain⟨a,M',e1,e2⟩:=r;exact⟨a,M',e.trans e1,e2⟩
noncomputable def dU:=aL 2 2 (iB cY)
def dB.ins{k W:Nat}{R:Ro}{M:Mo}(h:dB k W R M):oY "Keeper" k M=true:=by obtain⟨a,b,c,d,e⟩:=h;exact zf e
def zm{k k2 W W2:Nat}{R R2:Ro}{M:Mo}(h:dB k W R M)(h2:dB k2 W2 R2 M)(hl:R.length<=1000000):Rn (dU [.ref k,.ref k2]) M λr M'=>r=.bl (decide (R=R2))/\M'=M:=by
 have i2:=h2.ins;obtain⟨a,b,c,d,e⟩:=h;obtain⟨a2,b2,c2,d2,e2⟩:=h2;unfold dU iB fB;dsimp only;refine Rn.call rfl ?_;have st:aP 2 [.ref k,.ref k2]=[some (.ref k),some (.ref k2)]:=rfl;rw[st];simp only[aK,aF,aq];refine Rn.bindRd (.bl true) (by unfold kJ;dsimp only;rw[S7 rfl,S7 (show bD "Keeper" (.ref k2) M=true from i2)]) ?_
 simp only[aQ,au,if_true,aq];refine Rn.bindRd (aA R W) (bh e rfl) ?_;refine Rn.bindRd (aA R2 W2) (bh e2 rfl) ?_;rw[Lq hl,au];exact Rn.pure ⟨_,rfl,rfl,rfl⟩
def jm{k W:Nat}{R:Ro}{M:Mo}{y:D}(h:dB k W R M)(h1:bD "Keeper" y M=false)(h2:(tyOf y M).isSome=true\/eX "Walk" y=true):Rn (dU [.ref k,y]) M λr M'=>r=.bl false/\M'=M:=by
 obtain⟨a,b,c,d,e⟩:=h;unfold dU iB fB;dsimp only;refine Rn.call rfl ?_;have st:aP 2 [.ref k,y]=[some (.ref k),some y]:=rfl;rw[st];simp only[aK,aF,aq];refine Rn.bindRd (.bl false) (by unfold kJ;dsimp only;rw[S7 rfl,Tq (by simp[h1]),S7 h2]) ?_
 simp only[aQ,au,Bool.false_eq_true,if_false,aq];exact Rn.pure ⟨_,rfl,rfl,rfl⟩
noncomputable def jF:=aL 3 3 (iD dU cY)
def Rn.at_{m m':DM D}{M:Mo}{Q:D->Mo->Prop}(h:Rn m' M Q)(e:m M=m' M):Rn m M Q:=by obtain⟨a,M',e1,q⟩:=h;exact⟨a,M',e.trans e1,q⟩
def fH{b:Bool}{m:DM D}{M:Mo}(h:Rn m M λr M'=>r=.bl b/\M'=M):Rn (m>>=dI) M λr M'=>r=.bl b/\M'=M:=Rn.bind h λr M' hr=>by obtain⟨rfl,rfl⟩:=hr;exact Rn.pure ⟨rfl,rfl⟩
def qH{b:Bool}{m:DM D}{M:Mo}(h:Rn m M λr M'=>r=.bl b/\M'=M):Rn (m>>=jf) M λr M'=>r=.bl (!b)/\M'=M:=Rn.bind h λr M' hr=>by obtain⟨rfl,rfl⟩:=hr;exact Rn.pure ⟨rfl,rfl⟩
variable{k k2 W W2:Nat}{R R2:Ro}{M:Mo}
def Ij(h:dB k W R M)(h2:dB k2 W2 R2 M)(hl:R.length<=1000000):Rn (jz "Keeper" dU "Walk" cY (.ref k) (.ref k2)) M λr M'=>r=.bl (decide (R=R2))/\M'=M:=
 Rn.at_ (fH (zm h h2 hl)) (by unfold jz;rw[S7 (show bD "Keeper" (.ref k) M=true from h.ins),S7 (.inl (show bD "Keeper" (.ref k2) M=true from h2.ins))])
def Ir(h:dB k W R M)(h2:dB k2 W2 R2 M)(hl:R.length<=1000000):Rn (jA "Keeper" dU "Walk" cY (.ref k) (.ref k2)) M λr M'=>r=.bl (!decide (R=R2))/\M'=M:=
 Rn.at_ (qH (zm h h2 hl)) (by unfold jA;rw[S7 (show bD "Keeper" (.ref k) M=true from h.ins),S7 (.inl (show bD "Keeper" (.ref k2) M=true from h2.ins))])
def Ph(h:dB k W R M)(h2:dB k2 W2 R2 M)(hl:R2.length<=1000000)(hne:k2≠k):Rn (Ey "Keeper" dU "Walk" cY (.ref k) (.lst [.non,.ref k2])) M λr M'=>r=.bl (decide (R2=R))/\M'=M:=by
 show Rn (dW "Keeper" dU "Walk" cY k .non>>=λr=>match r with
  |.bl true=>pure (.bl true)
  |.bl false=>dW "Keeper" dU "Walk" cY k (.ref k2)
  |_=>stuck) M _
 refine Rn.bind (Q1:=λr M'=>r=.bl false/\M'=M) (Rn.at_ (fH (jm h (y:=.non) rfl (.inl rfl))) (by unfold dW;rw[S7 h.ins,Tq (by rw[show bD "Keeper" .non M=false from rfl];simp),S7 (show iu .non M=true from rfl)])) λr M' hr=>?_
 obtain⟨rfl,rfl⟩:=hr;refine Rn.at_ (fH (zm h2 h hl)) ?_;dsimp only;unfold dW;rw[S7 h.ins,S7 (show bD "Keeper" (.ref k2) M'=true from h2.ins)]
 simp[hne]
variable{k k2 W W2:Nat}{R R2:Ro}{M:Mo}
def xT(h:dB k W R M)(h2:dB k2 W2 R2 M)(hl:R.length<=1000000)(hl2:R2.length<=1000000)(hne:k2≠k){b:Bool}(hb:b=decide (R=R2)):Rn (jF [.ref k,.ref k2,.bl b]) M λr M'=>r=.bl true/\M'=M:=by
 have hb2:decide (R2=R)=b:=by rw[hb];by_cases z:R=R2<;>simp[z,eq_comm]
 unfold jF iD fL;dsimp only;refine Rn.call rfl ?_;have st:aP 3 [.ref k,.ref k2,.bl b]=[some (.ref k),some (.ref k2),some (.bl b)]:=rfl;rw[st];have ml2:∀x y:D,(gB [x,y]:DM D)=pure (.lst [x,y]):=λx y=>cX (by simp)
 have ml5:∀x y z u v:D,(gB [x,y,z,u,v]:DM D)=pure (.lst [x,y,z,u,v]):=λx y z u v=>cX (by simp)
 have ml1:∀x:D,(gB [x]:DM D)=pure (.lst [x]):=λx=>cX (by simp)
 simp only[aK,aF,aq,ml2];refine Rn.bind (Ij h h2 hl) λr M' hr=>?_
 obtain⟨rfl,rfl⟩:=hr;refine Rn.bind (Ij h2 h hl2) λr M' hr=>?_
 obtain⟨rfl,rfl⟩:=hr;refine Rn.bind (Ph h h2 hl2 hne) λr M' hr=>?_
 obtain⟨rfl,rfl⟩:=hr;refine Rn.bind (Ir h h2 hl) λr M' hr=>?_
 obtain⟨rfl,rfl⟩:=hr;rw[aQ,au];refine Rn.bind (Ir h2 h hl2) λr M' hr=>?_
 obtain⟨rfl,rfl⟩:=hr;have mu:(rd (λM=>Option.map D.lst (mF (.lst [.bl b]) (.int 5) M)):DM D)=pure (.lst [.bl b,.bl b,.bl b,.bl b,.bl b]):=rfl
 rw[aQ,au];simp only[Bool.not_not,ml5,ml1,hb2,<-hb,au,mu];rw[ud (k:=1) (by omega) (zF λd hd=>by simp only[List.mem_cons,List.not_mem_nil,or_false,or_self]at hd;rw[hd];exact CQ b),au]
 exact Rn.pure ⟨_,rfl,rfl,rfl⟩
variable{k W:Nat}{R:Ro}{M:Mo}{y:D}
set_option tactic.hygienic true in
def oV(h:iu y M=true):(tyOf y M).isSome=true:=by
 unfold iu at h;split at h
 ·rename_i t e;rw[e];rfl
 ·cases h
def O6(h:dB k W R M)(h1:bD "Keeper" y M=false)(h2:iu y M=true):Rn (jz "Keeper" dU "Walk" cY (.ref k) y) M λr M'=>r=.bl false/\M'=M:=
 Rn.at_ (fH (jm h h1 (.inl (oV h2)))) (by unfold jz;rw[S7 (show bD "Keeper" (.ref k) M=true from h.ins),S7 (.inr (.inl (oV h2)))])
def O5(h:dB k W R M)(h1:bD "Keeper" y M=false)(h2:iu y M=true):Rn (jz "Keeper" dU "Walk" cY y (.ref k)) M λr M'=>r=.bl false/\M'=M:=
 Rn.at_ (fH (jm h h1 (.inl (oV h2)))) (by unfold jz;rw[Tq (by simp[h1]),S7 (show bD "Keeper" (.ref k) M=true from h.ins),S7 h2])
def Py(h:dB k W R M)(h1:bD "Keeper" y M=false)(h2:iu y M=true):Rn (jA "Keeper" dU "Walk" cY (.ref k) y) M λr M'=>r=.bl (!false)/\M'=M:=
 Rn.at_ (qH (jm h h1 (.inl (oV h2)))) (by unfold jA;rw[S7 (show bD "Keeper" (.ref k) M=true from h.ins),S7 (.inr (.inl (oV h2)))])
def Px(h:dB k W R M)(h1:bD "Keeper" y M=false)(h2:iu y M=true):Rn (jA "Keeper" dU "Walk" cY y (.ref k)) M λr M'=>r=.bl (!false)/\M'=M:=
 Rn.at_ (qH (jm h h1 (.inl (oV h2)))) (by unfold jA;rw[Tq (by simp[h1]),S7 (show bD "Keeper" (.ref k) M=true from h.ins),S7 h2])
def Pg(h:dB k W R M)(h1:bD "Keeper" y M=false)(h2:iu y M=true):Rn (Ey "Keeper" dU "Walk" cY (.ref k) (.lst [.non,y])) M λr M'=>r=.bl false/\M'=M:=by
 show Rn (dW "Keeper" dU "Walk" cY k .non>>=λr=>match r with
  |.bl true=>pure (.bl true)
  |.bl false=>dW "Keeper" dU "Walk" cY k y
  |_=>stuck) M _
 refine Rn.bind (Q1:=λr M'=>r=.bl false/\M'=M) (Rn.at_ (fH (jm h (y:=.non) rfl (.inl rfl))) (by unfold dW;rw[S7 h.ins,Tq (by rw[show bD "Keeper" .non M=false from rfl];simp),S7 (show iu .non M=true from rfl)])) λr M' hr=>?_
 obtain⟨rfl,rfl⟩:=hr;refine Rn.at_ (fH (jm h h1 (.inl (oV h2)))) ?_;dsimp only;unfold dW;rw[S7 h.ins,Tq (by simp[h1]),S7 h2]
def rQ(h:dB k W R M)(h1:bD "Keeper" y M=false)(h2:iu y M=true):Rn (jF [.ref k,y,.bl false]) M λr M'=>r=.bl true/\M'=M:=by
 unfold jF iD fL;dsimp only;refine Rn.call rfl ?_;have st:aP 3 [.ref k,y,.bl false]=[some (.ref k),some y,some (.bl false)]:=rfl;rw[st];have ml2:∀x y:D,(gB [x,y]:DM D)=pure (.lst [x,y]):=λx y=>cX (by simp)
 have ml5:∀x y z u v:D,(gB [x,y,z,u,v]:DM D)=pure (.lst [x,y,z,u,v]):=λx y z u v=>cX (by simp)
 have ml1:∀x:D,(gB [x]:DM D)=pure (.lst [x]):=λx=>cX (by simp)
 simp only[aK,aF,aq,ml2];refine Rn.bind (O6 h h1 h2) λr M' hr=>?_
 obtain⟨rfl,rfl⟩:=hr;refine Rn.bind (O5 h h1 h2) λr M' hr=>?_
 obtain⟨rfl,rfl⟩:=hr;refine Rn.bind (Pg h h1 h2) λr M' hr=>?_
 obtain⟨rfl,rfl⟩:=hr;refine Rn.bind (Py h h1 h2) λr M' hr=>?_
 obtain⟨rfl,rfl⟩:=hr;rw[aQ,au];refine Rn.bind (Px h h1 h2) λr M' hr=>?_
 obtain⟨rfl,rfl⟩:=hr;have mu:(rd (λM=>Option.map D.lst (mF (.lst [.bl false]) (.int 5) M)):DM D)=pure (.lst [.bl false,.bl false,.bl false,.bl false,.bl false]):=rfl
 rw[aQ,au];simp only[Bool.not_not,ml5,ml1,au,mu];rw[ud (k:=1) (by omega) (zF λd hd=>by simp only[List.mem_cons,List.not_mem_nil,or_false,or_self]at hd;rw[hd];exact CQ false),au]
 exact Rn.pure ⟨_,rfl,rfl,rfl⟩
variable{k W W2:Nat}{R R2:Ro}{M:Mo}
def Cr(h:dB k W R M):Rn (cY [aA R2 W2,.ref k]) M λr M'=>r=.bl false/\M'=M:=by
 unfold cY jK jQ;dsimp only;refine Rn.call rfl ?_;have st:aP 2 [aA R2 W2,.ref k]=[some (aA R2 W2),some (.ref k)]:=rfl;rw[st];simp only[aK,aF,aq];refine Rn.bindRd (.bl false) (by unfold kJ;dsimp only;rw[Tq (by decide),S7 rfl,Tq (by simp[eX]),S7 (.inr (show bD "Keeper" (.ref k) M=true from h.ins))]) ?_
 simp only[aQ,au,Bool.false_eq_true,if_false,aq];exact Rn.pure ⟨_,rfl,rfl,rfl⟩
def ow:eX "Walk" (aA R2 W2)=true:=by simp[eX,aA]
def iw:bD "Keeper" (aA R2 W2) M=false:=rfl
def dw:iu (aA R2 W2) M=false:=rfl
def O7(h:dB k W R M):Rn (jz "Keeper" dU "Walk" cY (.ref k) (aA R2 W2)) M λr M'=>r=.bl false/\M'=M:=
 Rn.at_ (fH (jm h iw (.inr ow))) (by unfold jz;rw[S7 (show bD "Keeper" (.ref k) M=true from h.ins),S7 (.inr (.inr ow))])
def O8(h:dB k W R M):Rn (jz "Keeper" dU "Walk" cY (aA R2 W2) (.ref k)) M λr M'=>r=.bl false/\M'=M:=
 Rn.at_ (fH (Cr (R2:=R2) (W2:=W2) h)) (by unfold jz;rw[Tq (by simp[iw]),S7 (show bD "Keeper" (.ref k) M=true from h.ins),Tq (by simp[dw]),S7 ow])
def Pz(h:dB k W R M):Rn (jA "Keeper" dU "Walk" cY (.ref k) (aA R2 W2)) M λr M'=>r=.bl (!false)/\M'=M:=
 Rn.at_ (qH (jm h iw (.inr ow))) (by unfold jA;rw[S7 (show bD "Keeper" (.ref k) M=true from h.ins),S7 (.inr (.inr ow))])
def PB(h:dB k W R M):Rn (jA "Keeper" dU "Walk" cY (aA R2 W2) (.ref k)) M λr M'=>r=.bl (!false)/\M'=M:=
 Rn.at_ (qH (Cr (R2:=R2) (W2:=W2) h)) (by unfold jA;rw[Tq (by simp[iw]),S7 (show bD "Keeper" (.ref k) M=true from h.ins),Tq (by simp[dw]),S7 ow])
def Pj(h:dB k W R M):Rn (Ey "Keeper" dU "Walk" cY (.ref k) (.lst [.non,aA R2 W2])) M λr M'=>r=.bl false/\M'=M:=by
 show Rn (dW "Keeper" dU "Walk" cY k .non>>=λr=>match r with
  |.bl true=>pure (.bl true)
  |.bl false=>dW "Keeper" dU "Walk" cY k (aA R2 W2)
  |_=>stuck) M _
 refine Rn.bind (Q1:=λr M'=>r=.bl false/\M'=M) (Rn.at_ (fH (jm h (y:=.non) rfl (.inl rfl))) (by unfold dW;rw[S7 h.ins,Tq (by rw[show bD "Keeper" .non M=false from rfl];simp),S7 (show iu .non M=true from rfl)])) λr M' hr=>?_
 obtain⟨rfl,rfl⟩:=hr;refine Rn.at_ (fH (Cr (R2:=R2) (W2:=W2) h)) ?_;dsimp only;unfold dW;rw[S7 h.ins,Tq (by simp[iw]),Tq (by simp[dw])]
 simp[aA]
def Pn(h:dB k W R M):Rn (jF [.ref k,aA R2 W2,.bl false]) M λr M'=>r=.bl true/\M'=M:=by
 unfold jF iD fL;dsimp only;refine Rn.call rfl ?_;have st:aP 3 [.ref k,aA R2 W2,.bl false]=[some (.ref k),some (aA R2 W2),some (.bl false)]:=rfl;rw[st];have ml2:∀x y:D,(gB [x,y]:DM D)=pure (.lst [x,y]):=λx y=>cX (by simp)
 have ml5:∀x y z u v:D,(gB [x,y,z,u,v]:DM D)=pure (.lst [x,y,z,u,v]):=λx y z u v=>cX (by simp)
 have ml1:∀x:D,(gB [x]:DM D)=pure (.lst [x]):=λx=>cX (by simp)
 simp only[aK,aF,aq,ml2];refine Rn.bind (O7 h) λr M' hr=>?_
 obtain⟨rfl,rfl⟩:=hr;refine Rn.bind (O8 h) λr M' hr=>?_
 obtain⟨rfl,rfl⟩:=hr;refine Rn.bind (Pj h) λr M' hr=>?_
 obtain⟨rfl,rfl⟩:=hr;refine Rn.bind (Pz h) λr M' hr=>?_
 obtain⟨rfl,rfl⟩:=hr;rw[aQ,au];refine Rn.bind (PB h) λr M' hr=>?_
 obtain⟨rfl,rfl⟩:=hr;have mu:(rd (λM=>Option.map D.lst (mF (.lst [.bl false]) (.int 5) M)):DM D)=pure (.lst [.bl false,.bl false,.bl false,.bl false,.bl false]):=rfl
 rw[aQ,au];simp only[Bool.not_not,ml5,ml1,au,mu];rw[ud (k:=1) (by omega) (zF λd hd=>by simp only[List.mem_cons,List.not_mem_nil,or_false,or_self]at hd;rw[hd];exact CQ false),au]
 exact Rn.pure ⟨_,rfl,rfl,rfl⟩
structure Lw(pe k d n W:Nat)(S:KS)(M0 M:Mo):Prop where
 pen:gq pe M
 kp:∃p,Kpr k d p W S M
 ok:KOk n W S
 ord:pe<k/\W<=12
 low:∀q,q<k->q≠pe->M[q]?=M0[q]?
variable{pe k d n W:Nat}{S:KS}{M0 M M':Mo}
def Lw.kl(h:Lw pe k d n W S M0 M):k<M.length:=by obtain⟨p,kp⟩:=h.kp;obtain⟨c,e⟩:=kp.obj;exact (S5.mp e).1
theorem Lw.on(h:Lw pe k d n W S M0 M)(hp:gq pe M')(s:Sb pe M M'):Lw pe k d n W S M0 M':=by have kl:=h.kl;obtain⟨p,kp⟩:=h.kp;have:=h.ord;have:=kp.kd;have:=kp.dp;exact⟨hp,⟨p,kp.on s (by omega) (by omega) (by omega)⟩,h.ok,h.ord,λq hq hn=>(s.keep q hn (by omega)).trans (h.low q hq hn)⟩
def Lw.op(h:Lw pe k d n W S M0 M){p p':Nat}(hk:Kpr k d p W S M){S':KS}(hk':Kpr k d p' W S' M')(o:Op k d p M p' M')(ok:KOk n W S'):Lw pe k d n W S' M0 M':=by
 have kl:=h.kl;have:=h.ord;have:=hk.kd;have:=hk.dp;refine⟨?_,⟨p',hk'⟩,ok,h.ord,λq hq hn=>(o.keep q (by omega) (by omega) (by omega) (by omega)).trans (h.low q hq hn)⟩
 obtain⟨a,b,c,hc,e⟩:=h.pen;exact⟨a,b,c,hc,(o.keep pe h.pen.lt (by omega) (by omega) (by omega)).trans e⟩
def Lw.gw(h:Lw pe k d n W S M0 M)(g:Gw M M'):Lw pe k d n W S M0 M':=h.on (by obtain⟨a,b,c,hc,e⟩:=h.pen;exact⟨a,b,c,hc,g.at e⟩) ⟨g.le,λq z hq=>g.keep q hq⟩
def Lw.deed(h:Lw pe k d n W S M0 M):Rn (wV [.ref pe,nM S.R]) M λr M'=>∃q:Dd,r=q.D/\q.ok n/\Lw pe k d n W S M0 M':=by
 have hW:=h.ord.2;refine (Lg h.pen h.ok.R.1 hW).mono λr M' hr=>?_
 obtain⟨q,e,hq,hp,s⟩:=hr;exact⟨q,e,by rw[<-h.ok.R.2];exact hq,h.on hp s⟩
def Lw.step(h:Lw pe k d n W S M0 M){q:Dd}(hq:q.ok n)(hl:S.ds.length<80)(hm:S.ms.length<80):Rn (wY [.ref k,cG S,q.D]) M λr M'=>∃S',(Stp S q S'\/(Ref S q/\S'=S))/\r=cG S'/\Lw pe k d n W S' M0 M':=by
 obtain⟨p,kp⟩:=h.kp;have hW:=h.ord.2;refine (Ol kp h.ok (by omega) (by omega) (by omega) hq).mono λr M' hr=>?_
 obtain⟨S',p',hs,e,hk,o⟩:=hr;refine⟨S',hs,e,h.op kp hk o ?_⟩;rcases hs with hs | ⟨_,rfl⟩
 ·exact hs.ok h.ok hq
 ·exact h.ok
def Lw.ins(h:Lw pe k d n W S M0 M){m:Str}(hm:bM.contains m=false):jM "Keeper" m (.ref k) M=some ():=by obtain⟨p,kp⟩:=h.kp;obtain⟨c,ho⟩:=kp.obj;exact cL ho hm
def Kpr.twn{p:Nat}(h:Kpr k d p W S M):dB k W S.R M:=by obtain⟨c,ho⟩:=h.obj;exact⟨_,_,_,_,ho⟩
theorem Lw.twn(h:Lw pe k d n W S M0 M):dB k W S.R M:=by obtain⟨p,kp⟩:=h.kp;exact kp.twn
def Lw.walk(h:Lw pe k d n W S M0 M):Rn (wW [.ref k]) M λr M'=>r=aA S.R W/\M'=M:=by obtain⟨p,kp⟩:=h.kp;exact Mz kp
def Lw.repr(h:Lw pe k d n W S M0 M)(hl:S.ds.length<100):Rn (vH "Keeper" pJ [.ref k]) M λr M'=>r=.str (pU n S.ds.length)/\M'=M:=by obtain⟨p,kp⟩:=h.kp;rw[<-h.ok.R.2];exact Oh kp h.ok.R.1.n25 hl
structure Bd(b:Nat)(S:KS):Prop where
 ds:S.ds.length<=b
 ms:S.ms.length<=b
 all:∀q∈S.ds,q.2.length<=b
def Bd.step{b:Nat}{S S':KS}{q:Dd}(h:Bd b S)(hs:Stp S q S'):Bd (b + 1) S':=by
 obtain⟨h1,h2,h3⟩:=h;have ap:∀(ds:List (Ro×List Ro)) (R:Ro) (ms:List Ro),(∀q∈ds,q.2.length<=b)->ms.length<=b->∀q∈ds++[(R,ms)],q.2.length<=b+1:=λds R ms h1 h2 q hq=>by
  rcases T6.mp hq with hq | hq
  ·exact U6 (h1 q hq)
  ·rw[Tt.mp hq];exact U6 h2
 cases hs with
 |mv _ _=>exact⟨by simpa using h1,U6 h2,ap _ _ _ h3 h2⟩
 |mark=>exact⟨by simpa using h1,by simpa using h2,ap _ _ _ h3 h2⟩
 |back=>exact⟨by simpa using h1,by simp at h2;dsimp only;omega,ap _ _ _ h3 h2⟩
 |undo=>have:=h3 _ (TQ _ (Tt.mpr rfl));exact⟨by simp at h1;dsimp only;omega,U6 this,λq hq=>U6 (h3 q (Ud _ hq))⟩
def Bd.up{b:Nat}(h:Bd b S):Bd (b+1) S:=⟨U6 h.ds,U6 h.ms,λq hq=>U6 (h.all q hq)⟩
theorem Bd.undo{b:Nat}{S S':KS}(h:Bd b S)(hs:Stp S .undo S'):Bd b S'/\S'.ds.length=S.ds.length - 1:=by
 obtain⟨h1,h2,h3⟩:=h;cases hs with
 |undo=>have:=h3 _ (TQ _ (Tt.mpr rfl));exact⟨⟨by simp at h1;dsimp only;omega,this,λq hq=>h3 q (Ud _ hq)⟩,by simp⟩
set_option tactic.hygienic true in
def pF{S S':KS}{q:Dd}(hs:Stp S q S'):(dC S').head?=(dC S).head?:=by
 cases hs with
 |mv _ _=>rename_i R ms ds x y z m _ _;cases ds<;>simp[dC]
 |mark=>rename_i R ms ds;cases ds<;>simp[dC]
 |back=>rename_i R R' ms ds;cases ds<;>simp[dC]
 |undo=>rename_i R R' ms ms' ds;cases ds<;>simp[dC]
def vy(S:KS):(rd (isD (cG S) .non):DM D)=pure (.bl false):=rfl
def FZ{S:KS}{a:Ro×List Ro}(h:(dC S).head?=some a):(rd (cg (cG S) (.int 0)):DM D)=pure (pq a):=bY λM=>by
 show atI ((dC S).map pq) 0=_;revert h;cases dC S with
 |nil=>intro h;cases h
 |cons x l=>intro h;cases h;simp[atI,ixN]
def Bd.weak{b b':Nat}(h:Bd b S)(hb:b<=b'):Bd b' S:=⟨T7 h.ds hb,T7 h.ms hb,λq hq=>T7 (h.all q hq) hb⟩
def zM{S':KS}{a:Ro×List Ro}(h:(dC S').head?=some a)(h0:S'.ds=[]):S'=⟨a.1,a.2,[]⟩:=by obtain⟨R,ms,ds⟩:=S';dsimp only at h0;subst h0;simp[dC]at h;rw[<-h]
noncomputable def Dr:=aL 1 1 jZ
def u9{p c j:Nat}(h:Kc k d p W S c j M):Rn (Dr [.ref k]) M λr M'=>r=nD c/\M'=M:=by unfold Dr jZ gf;dsimp only;refine Rn.call rfl ?_;have st:aP 1 [.ref k]=[some (.ref k)]:=rfl;rw[st];simp only[aK,aF,aq];refine Rn.bindRd (nD c) (bh h.obj rfl) ?_;exact Rn.pure ⟨_,rfl,rfl,rfl⟩
def Kpr.kc{p:Nat}(h:Kpr k d p W S M):∃c j,Kc k d p W S c j M:=by obtain⟨c,ho⟩:=h.obj;obtain⟨j,hj,e⟩:=h.pw;exact⟨c,j,ho,hj,e⟩
noncomputable def Dz:=aL 3 7 (j8 jF wV Do Dr wW pJ Dt wY)
def eq_str{s t:Str}(h:s=t):(rd (gC (.str s) (.str t)):DM D)=pure (.bl false):=by subst h;have:(rd (gC (.str s) (.str s)):DM D)=pure (.bl (!decide (s=s))):=rfl;rw[this,Tz rfl];rfl
def Pu(R:Ro)(h:R.length<=25):(rd (gC (nM R) (nM R)):DM D)=pure (.bl false):=by
 have:=Er R R (by omega)
 rw[Tz rfl]at this;exact this
def Oq{pe k d n W:Nat}{S:KS}{M0 M:Mo}(h:Lw pe k d n W S M0 M)(b:Bd 10 S):Rn (Dz [.ref pe,.ref k,cG S]) M λr M'=>r=.bl true/\Lw pe k d n W S M0 M':=by
 have b1:=b.ds;have b2:=b.ms;unfold Dz j8 gh;dsimp only;refine Rn.call rfl ?_;have st:aP 7 [.ref pe,.ref k,cG S]=[some (.ref pe),some (.ref k),some (cG S),none,none,none,none]:=rfl;rw[st];obtain⟨p,kp⟩:=h.kp;obtain⟨hpk,hW⟩:=h.ord;have wk:=h.ok.R.1;have n25:=wk.n25;have n1:=wk.n1;have rn:=h.ok.R.2;have mt3:∀x y z:D,(fY [x,y,z]:DM D)=pure (.tup [x,y,z]):=λx y z=>dD (by simp)
 have ng:(rd (qG (.int 1)):DM D)=pure (.int (-1)):=rfl;have i0:∀S:KS,(rd (cg (pq (S.R,S.ms)) (.int 0)):DM D)=pure (nM S.R):=λw=>rfl
 have e8:ph [.int 8]=some (.fix ((List.range 8).map nD)):=eF (n:=8) (by omega)
 obtain⟨c0,j0,kc0⟩:=kp.kc
 -- the keeper's own powers
 refine aG λK hK=>?_
 simp only[aK,aF,aq];refine Rn.bindRd () (h.ins (by decide)) ?_
 refine Rn.bind (Ez (t:=5) (x:=0) kp kc0 h.ok hW (by omega) (by omega)) λr M1 ⟨_,kp1,o1,j1,kc1⟩=>?_
 have h1:=h.op kp kp1 o1 h.ok;rw[hK];clear hK K kc0 o1 kp;generalize c0+(5-j0)=c1 at kc1
 -- a twin
 refine aG λK hK=>?_
 simp only[bQ,aK,CW,aF,aq];refine Rn.bindRd () (h1.ins (by decide)) ?_
 refine Rn.bind (Mw kp1 h.ok (by omega) (by omega)) λr M2 ⟨k2,d2,p2,e,le2,kp2,kc2,g2⟩=>?_
 subst e;have h2:=h1.gw g2;have kd1:=kp1.kd;have dp1:=kp1.dp;have pl1:=kp1.lt;have dl1:=(S5.mp kp1.dd).1;have kpM2:=kp1.gw g2;have kcM2:Kc k d p W S c1 j1 M2:=⟨g2.at kc1.obj,kc1.jle,g2.at kc1.pw⟩;refine Rn.bind (h2.repr (by omega)) λr M2 hr=>?_
 obtain⟨rfl,rfl⟩:=hr;refine Rn.bindRd () (h2.ins (by decide)) ?_
 refine Rn.bind h2.walk λr M2 hr=>?_
 obtain⟨rfl,rfl⟩:=hr;simp only[cD,au];refine Rn.bindRd () (h2.ins (by decide)) ?_
 refine Rn.bind (u9 kcM2) λr M2 hr=>?_
 obtain⟨rfl,rfl⟩:=hr;simp only[bQ,mt3,au];rw[hK];clear hK K;have t2:Lw pe k2 d2 n W S M2 M2:=⟨h2.pen,⟨p2,kp2⟩,h.ok,⟨by have:=h1.kl;omega,hW⟩,λw w w=>rfl⟩
 refine aG λK hK=>?_
 simp only[bQ,aK,aF,aq];refine Rn.bind (xT h2.twn t2.twn (by omega) (by omega) (by omega) (b:=true) (by simp)) λr M2 hr=>?_
 obtain⟨rfl,rfl⟩:=hr;simp only[jD,Bool.not_true,Bool.false_eq_true,if_false,au,aq];refine Rn.bind (t2.repr (by omega)) λr M2 hr=>?_
 obtain⟨rfl,rfl⟩:=hr;refine Rn.bind (h2.repr (by omega)) λr M2 hr=>?_
 obtain⟨rfl,rfl⟩:=hr;rw[eq_str rfl];simp only[aQ,au,aq,Bool.false_eq_true,if_false];refine Rn.bindRd () (t2.ins (by decide)) ?_
 refine Rn.bind (u9 kc2) λr M2 hr=>?_
 obtain⟨rfl,rfl⟩:=hr;have z0:(rd (gC (nD 0) (.int 0)):DM D)=pure (.bl false):=rfl;simp only[z0,aQ,au,Bool.false_eq_true,if_false];rw[hK];clear hK K
 -- the twin reckons anew
 refine aG λK hK=>?_
 simp only[aK,aF,aq];refine Rn.bindRd () (t2.ins (by decide)) ?_
 refine Rn.bind (Ez (t:=2) (x:=0) kp2 kc2 h.ok hW (by omega) (by omega)) λr M3 ⟨_,kp3,o3,j3,kc3⟩=>?_
 have t3:=t2.op kp2 kp3 o3 h.ok;rw[hK];clear hK K o3 kc2;refine aG λK hK=>?_
 simp only[aK,aF,aq];refine Rn.bindRd () (t3.ins (by decide)) ?_
 refine Rn.bind (u9 kc3) λr M3 hr=>?_
 obtain⟨rfl,rfl⟩:=hr;have z2:(rd (gC (nD (0+(2-0))) (.int 2)):DM D)=pure (.bl false):=rfl;simp only[z2,aQ,au,Bool.false_eq_true,if_false];rw[hK];clear hK K kc3 kp3 kp2;refine aG λK hK=>?_
 simp only[bQ,aK,aF,aq];rw[hK];clear hK K
 -- eight deeds
 have hd0:∃a,(dC S).head?=some a:=by
  cases hp:dC S with
  |nil=>have:=nH S;rw[hp]at this;simp at this
  |cons a l=>exact⟨a,rfl⟩
 obtain⟨a0,hd0⟩:=hd0;generalize hq:D.tup [.str (pU n S.ds.length),nM S.R,nD c1]=kept;refine aG λK hK=>?_
 simp only[aK,aF,aq,e8,fF];refine Rn.bind (du (λi δ M'=>∃S' z6,δ=[some (.ref pe),some (.ref k),some (cG S),some (.ref k2),some kept,some (cG S'),z6]/\Lw pe k2 d2 n W S' M2 M'/\Bd (10+i) S'/\(dC S').head?=some a0) _ 0 _ _ ⟨_,_,rfl,t3,b,hd0⟩ (λi d δ M4 hi hI=>?_)) (λrr M4 hI=>?_)
 ·clear hK K;obtain⟨S1,z6,rfl,lw,bd,hd⟩:=hI;rw[Uq]at *;obtain⟨hi8,rfl⟩:=sG hi;have b3:=bd.ds;have b4:=bd.ms;rw[o8,au];refine aG λK hK=>?_
  simp only[bQ,aK,aF,aq,ng,lB,i0];refine Rn.bind lw.deed λr M5 ⟨q,e,hq,lw5⟩=>?_
  subst e;refine Rn.bind (lw5.step hq (by omega) (by omega)) λr M6 ⟨S',hs,e,lw6⟩=>?_
  subst e;rw[hK];clear hK K;have bd':Bd (10+(i+1)) S':=by
   rcases hs with hs | ⟨_,rfl⟩
   ·exact bd.step hs
   ·exact bd.up
  have hd':(dC S').head?=some a0:=by
   rcases hs with hs | ⟨_,rfl⟩
   ·rw[pF hs,hd]
   ·exact hd
  have w25:=lw6.ok.R.1.n25;simp only[bQ,aK,aF,aq,vy,aQ,Bool.false_eq_true,if_false];refine Rn.bindRd () (lw6.ins (by decide)) ?_
  refine Rn.bind lw6.walk λr M7 hr=>?_
  obtain⟨rfl,rfl⟩:=hr;simp only[cD,au,ng,lB,i0,Pu _ w25,aQ,Bool.false_eq_true,if_false];exact Rn.pure ⟨_,rfl,_,_,rfl,lw6,bd',hd'⟩
 obtain⟨δ',rfl,S4,z6,rfl,lw,bd,hd⟩:=hI;rw[hK];clear hK K;rw[Uq,Te,Uy]at bd;have b3:=bd.ds
 -- all undone
 have lp:(rd (dX [cG S4]):DM D)=pure (nD (S4.ds.length+1)):=bY λM=>by show (some (D.int _))=_;rw[Te,nH];rfl
 have eL:ph [nD (S4.ds.length+1)]=some (.fix ((List.range (S4.ds.length+1)).map nD)):=eF (by omega)
 have mtu:(fY [.str "undo"]:DM D)=pure Dd.undo.D:=dD (by simp)
 refine aG λK hK=>?_
 simp only[aK,aF,aq,lp,eL,fF];refine Rn.bind (du (λi δ M'=>∃S' z6,δ=[some (.ref pe),some (.ref k),some (cG S),some (.ref k2),some kept,some (cG S'),z6]/\Lw pe k2 d2 n W S' M2 M'/\Bd 30 S'/\(dC S').head?=some a0/\S'.ds.length=S4.ds.length-i) _ 0 _ _ ⟨_,_,rfl,lw,bd.weak (by omega),hd,rfl⟩ (λi d δ M5 hi hI=>?_)) (λrr M5 hI=>?_)
 ·clear hK K;obtain⟨S1,z6,rfl,lw1,bd1,hd1,ln1⟩:=hI;rw[Uq]at *;obtain⟨hi30,rfl⟩:=sG hi;have b1:=bd1.ds;have b2:=bd1.ms;rw[o8,au];refine aG λK hK=>?_
  simp only[bQ,aK,aF,aq,mtu];refine Rn.bind (lw1.step (q:=.undo) True.intro (by omega) (by omega)) λr M6 ⟨S',hs,e,lw6⟩=>?_
  subst e;rw[hK];clear hK K;have bd':Bd 30 S'/\S'.ds.length=S4.ds.length-(i+1):=by
   rcases hs with hs | ⟨hr,rfl⟩
   ·obtain⟨a,b⟩:=bd1.undo hs;exact⟨a,by omega⟩
   ·cases hr;simp at ln1 ⊢
    exact⟨bd1,by omega⟩
  obtain⟨bd',ln'⟩:=bd';have hd':(dC S').head?=some a0:=by
   rcases hs with hs | ⟨_,rfl⟩
   ·rw[pF hs,hd1]
   ·exact hd1
  simp only[bQ,aK,aF,aq,vy,aQ,Bool.false_eq_true,if_false];exact Rn.pure ⟨_,rfl,_,_,rfl,lw6,bd',hd',ln'⟩
 obtain⟨δ',rfl,S1,z6',rfl,lw1,bd1,hd1,ln1⟩:=hI;rw[hK];clear hK K;rw[Uq,Te,Uy]at ln1;have es:=zM hd1 (W4.mp (by omega))
 -- the keeper stands as it stood
 have lo:=lw1.low;have kpe:k≠pe:=by omega
 have kp5:Kpr k d p W S M5:=by obtain⟨c,e1⟩:=kpM2.obj;obtain⟨j,hj,e2⟩:=kpM2.pw;exact⟨⟨c,(lo k (by omega) (by omega)).trans e1⟩,(lo d (by omega) (by omega)).trans kpM2.dd,⟨j,hj,(lo p (by omega) (by omega)).trans e2⟩,kpM2.kd,kpM2.dp⟩
 have kc5:Kc k d p W S c1 j1 M5:=⟨(lo k (by omega) (by omega)).trans kcM2.obj,kcM2.jle,(lo p (by omega) (by omega)).trans kcM2.pw⟩
 have h5:Lw pe k d n W S M0 M5:=⟨lw1.pen,⟨p,kp5⟩,h.ok,h.ord,λq hq hn=>(lo q (by omega) hn).trans (h2.low q hq hn)⟩
 simp only[aK,aF,aq];refine Rn.bind (h5.repr (by omega)) λr M6 hr=>?_
 obtain⟨rfl,rfl⟩:=hr;refine Rn.bindRd () (h5.ins (by decide)) ?_
 refine Rn.bind h5.walk λr M6 hr=>?_
 obtain⟨rfl,rfl⟩:=hr;simp only[cD,au];refine Rn.bindRd () (h5.ins (by decide)) ?_
 refine Rn.bind (u9 kc5) λr M6 hr=>?_
 obtain⟨rfl,rfl⟩:=hr;have eq:(rd (cI (.tup [.str (pU n S.ds.length),nM S.R,nD c1]) kept):DM D)=pure (.bl true):=by
  rw[<-hq];refine ue (k:=4) (by omega) (qI (k:=3) λd hd=>?_)
  rcases T3.mp hd with rfl | hd
  ·exact zG (Mx (by omega) (by omega))
  rcases T3.mp hd with rfl | hd
  ·exact Iu (k:=1) _
  ·rw[Tt.mp hd];exact Ft _
 simp only[mt3,eq,aQ,au,if_true,aq];refine Rn.bindRd () (lw1.ins (m := "walk") (by decide)) ?_
 refine Rn.bind lw1.walk λr M6 hr=>?_
 obtain⟨rfl,rfl⟩:=hr;have w25:=lw1.ok.R.1.n25;have eb:(rd (cI (nM S1.R) (nM S1.R)):DM D)=pure (.bl true):=by
  have:=QB S1.R S1.R (by omega)
  rw[Tz rfl]at this;exact this
 have pf:(rd (cg (cG S) (.int 0)):DM D)=pure (pq a0):=FZ hd0;have pa:(rd (cg (pq a0) (.int 0)):DM D)=pure (nM a0.1):=rfl;have er:a0.1=S1.R:=by rw[es]
 simp only[cD,au,pf,pa,er,eb];exact Rn.pure ⟨_,rfl,rfl,h5⟩
def dbl(R:Ro):Ro:=R.map λl=>l.map (2 * ·)
theorem WK.dbl{R:Ro}{W:Nat}(wk:WK R W):WK (dbl R) (2*W):=by
 unfold K.dbl;refine⟨by rw[Te];exact wk.n1,by rw[Te];exact wk.n25,λr hr=>?_,λr hr=>?_,by have:=wk.w1;omega⟩
 ·obtain⟨l,hl,rfl⟩:=Uj.mp hr;rw[Te,Te,wk.row l hl]
 ·obtain⟨l,hl,rfl⟩:=Uj.mp hr;rw[BR,wk.sum l hl]
def Le{R:Ro}{W:Nat}(wk:WK R W):¬ R=dbl R:=λe=>by
 have a:=wk.dbl.sum _ (by rw[<-e];exact wk.head)
 have b:=wk.sum _ wk.head;have:=wk.w1;omega
def Jr(l:List Nat)(hl:l.length<=25){x:Option D}{rest:ao}:dM (bC (gN 0) (λz=>Pure.pure true) (cC λδ=>opt (δ[0]?.join)>>=λa=>rd (qF (.int 2) a)) (l.map nD) (x::rest) [])=Pure.pure (fj x (l.map nD)::rest,(l.map (2 * ·)).map nD):=by
 have:=K7 (ft:=λz=>Pure.pure true) (fe:=λδ=>opt (δ[0]?.join)>>=λa=>rd (qF (.int 2) a)) (x:=x) (rest:=rest) (l:=l) (λz=>true) (2 * ·) (by omega) (λz z=>rfl) λn hn z=>by simp only[List.getElem?_cons_zero,Option.join_some,nZ,au];exact Ob (a:=2) (by omega)
 rw[this,V9.mpr (λz z=>rfl)]
noncomputable def GR:=aL 1 11 (Ig xZ yt yx wV jF uC xY pJ wW wY Dz)
def Kv(cs:List Int)(i:Nat)(δ:ao)(M:Mo):Prop:=∃x1 x2 x3 x4 x5 x6 x7 x8 x9 xa,δ=[some (.scr cs),x1,x2,x3,x4,x5,x6,x7,x8,x9,xa]
def JK(cs:List Int)(hcs:cs.length<=100000):Rn (GR [.scr cs]) [] λd z=>d=.bl true:=by
 unfold GR Ig CV;dsimp only;refine Rn.call rfl ?_;have st:aP 11 [D.scr cs]=[some (.scr cs),none,none,none,none,none,none,none,none,none,none]:=rfl;rw[st];obtain⟨c0,ec⟩:=K4 cs 0;have ec':xZ [.scr cs,.int 0]=pure (.int c0):=ec;have l1:∀x:D,gB [x]=pure (.lst [x]):=λx=>cX (by simp)
 have cl:(cutD (cs.map D.int) (some 1) (some 3)).length<=100000:=by unfold cutD;rw[Vb,Vn,Te];omega
 have ci:∀d∈[.int c0]++cutD (cs.map D.int) (some 1) (some 3),∃c:Int,d=.int c:=λd hd=>by
  rcases T6.mp hd with h | h
  ·exact⟨c0,Tt.mp h⟩
  ·unfold cutD at h;obtain⟨c,_,rfl⟩:=Uj.mp (List.mem_of_mem_drop (List.mem_of_mem_take h));exact⟨c,rfl⟩
 have ad:=wC (a:=[.int c0]) (b:=cutD (cs.map D.int) (some 1) (some 3)) (by simp;omega)
 have a1:(sW (.int 1):DM (Option Int))=pure (some 1):=rfl;have a3:(sW (.int 3):DM (Option Int))=pure (some 3):=rfl;have e10:ph [.int 10]=some (.fix ((List.range 10).map nD)):=eF (n:=10) (by omega)
 refine aG λK hK=>?_
 simp[ec',l1,Qm];rw[a1,au,a3,au,ad];simp only[au,Gf,fF,nZ,List.map_cons,List.map_nil];clear ad cl;generalize [.int c0]++cutD (cs.map D.int) (some 1) (some 3)=cl at ci;refine Rn.bind (du (Kv cs) cl 0 _ _ ⟨_,_,_,_,_,_,_,_,_,_,rfl⟩ (λj d δ M hj hI=>?_)) (λr M hI=>?_)
 rotate_left
 ·obtain⟨δ',rfl,_⟩:=hI;rw[hK];exact Rn.pure rfl
 clear hK K;obtain⟨c,rfl⟩:=ci d (T5 hj);obtain⟨x1,x2,x3,x4,x5,x6,x7,x8,x9,xa,rfl⟩:=hI;generalize 0+j+1=nx;have fin:∀δ' M',(∃x1 x2 x3 x4 x5 x6 x7 x8 x9 xa,δ'=[some (.scr cs),x1,x2,x3,x4,x5,x6,x7,x8,x9,xa])->∃δ'',Fl.nx δ'=Fl.nx δ''/\Kv cs nx δ'' M':=λδ' M' h=>⟨δ',rfl,h⟩
 have mt0:(fY []:DM D)=pure (.tup []):=dD (by simp)
 have mt2:∀x y:D,(fY [x,y]:DM D)=pure (.tup [x,y]):=λx y=>dD (by simp)
 have l7:∀a b c d e f g:D,gB [a,b,c,d,e,f,g]=pure (.lst [a,b,c,d,e,f,g]):=λz z z z z z z=>cX (by simp)
 have ng:(rd (qG (.int 1)):DM D)=pure (.int (-1)):=rfl;have i0:∀S:KS,(rd (cg (pq (S.R,S.ms)) (.int 0)):DM D)=pure (nM S.R):=λz=>rfl
 rw[o8,au];refine aG λK hK=>?_
 simp only[bQ,aK,aq];refine Rn.bind (JW c M) λd M0 ⟨e,hp⟩=>?_
 subst e;revert hp;generalize M.length=pe;intro hp
 try simp only[bQ,au]
 rw[hK];clear hK K;refine aG λK hK=>?_
 simp only[aK,aF,aq];refine Rn.bind (Kd (tp:=5) hp (by decide) (by decide)) λd M1 ⟨R0,W,e,wk,h5,hW,hp1,_⟩=>?_
 subst e;have n25:=wk.n25
 try simp only[bQ,au]
 rw[hK];clear hK K;refine aG λK hK=>?_
 simp only[bQ,aK,CW,aF,aq,rB wk];refine Rn.bind (qz wk (by omega) M1) λd M2 ⟨e,hk,g,_⟩=>?_
 subst e;simp only[bQ,mt0,mt2,l1,au];have pa0:D.lst [D.tup [nM R0,D.tup []]]=cG ⟨R0,[],[]⟩:=rfl;have pl1:=hp1.lt;have ini:Lw pe M1.length (M1.length+1) R0.length W ⟨R0,[],[]⟩ M2 M2:=by
  refine⟨?_,⟨_,hk⟩,⟨⟨wk,rfl⟩,λR h=>by (cases h),λq h=>by (cases h)⟩,⟨pl1,hW⟩,λz z z=>rfl⟩
  obtain⟨a,b,c,hc,e⟩:=hp1;exact⟨a,b,c,hc,g.at e⟩
 rw[pa0,hK];clear hK K g hk pl1 hp1 hp;have bd0:Bd 0 ⟨R0,[],[]⟩:=⟨Td _,Td _,λq h=>by (cases h)⟩
 have hd0:(dC ⟨R0,[],[]⟩).head?=some (R0,[]):=rfl;revert ini;generalize M1.length=k;generalize M2=MB;intro ini
 -- ten deeds
 refine aG λK hK=>?_
 simp only[aK,aF,aq,e10,fF];refine Rn.bind (du (λi δ M'=>∃S z6,δ=[some (.scr cs),some (.int c),some (.ref pe),some (nM R0),some (.ref k),some (cG S),z6,x7,x8,x9,xa]/\Lw pe k (k+1) R0.length W S MB M'/\Bd i S/\(dC S).head?=some (R0,[])) _ 0 _ _ ⟨_,_,rfl,ini,bd0,hd0⟩ (λi d δ M4 hi hI=>?_)) (λrr M4 hI=>?_)
 ·clear hK K;obtain⟨S,z6,rfl,lw,bd,hd⟩:=hI;rw[Uq]at *;obtain⟨hi30,rfl⟩:=sG hi;have b1:=bd.ds;have b2:=bd.ms;rw[o8,au];refine aG λK hK=>?_
  simp only[bQ,aK,aF,aq,ng,lB,i0];refine Rn.bind lw.deed λr M5 ⟨q,e,hq,lw5⟩=>?_
  subst e;refine Rn.bind (lw5.step hq (by omega) (by omega)) λr M6 ⟨S',hs,e,lw6⟩=>?_
  subst e;rw[hK];clear hK K;have bd':Bd (i+1) S':=by
   rcases hs with hs | ⟨_,rfl⟩
   ·exact bd.step hs
   ·exact bd.up
  have hd':(dC S').head?=some (R0,[]):=by
   rcases hs with hs | ⟨_,rfl⟩
   ·rw[pF hs,hd]
   ·exact hd
  simp only[bQ,aK,aF,aq,vy,aQ,Bool.false_eq_true,if_false];exact Rn.pure ⟨_,rfl,_,_,rfl,lw6,bd',hd'⟩
 obtain⟨δ',rfl,S,z6,rfl,lw,bd,hd⟩:=hI;rw[hK];clear hK K ini bd0 hd0;rw[Uq,Te,Uy]at bd;have b1:=bd.ds;have wkS:=lw.ok.R.1;have s25:=wkS.n25;refine aG λK hK=>?_
 simp only[bQ,aK,aF,aq,ng,lB,i0];rw[hK];clear hK K
 -- a keeper anew,and the twin
 refine aG λK hK=>?_
 simp only[bQ,aK,aF,aq,rB wkS];refine Rn.bind (qz wkS (by omega) M4) λd M5 ⟨e,hk5,g5,_⟩=>?_
 subst e;have lw5:=lw.gw g5;have kl4:=lw.kl;refine Rn.bind (xT lw5.twn hk5.twn (by omega) (by show S.R.length<=1000000;omega) (by omega) (b:=true) (by simp)) λr M6 hr=>?_
 obtain⟨rfl,rfl⟩:=hr;simp only[jD,Bool.not_true,Bool.false_eq_true,Bool.true_eq_false,if_false,au,aq];refine Rn.bind (Oq lw5 bd) λr M7 ⟨e,lw7⟩=>?_
 subst e;simp only[jD,aQ,Bool.not_true,Bool.false_eq_true,if_false,au];rw[hK];clear hK K hk5 g5 lw5 kl4 lw
 -- strange things
 refine aG λK hK=>?_
 simp only[bQ,aK,aF,aq];refine Rn.bindRd () (lw7.ins (by decide)) ?_
 refine Rn.bind lw7.walk λr M7 hr=>?_
 obtain⟨rfl,rfl⟩:=hr;refine Rn.bind (lw7.repr (by omega)) λr M7 hr=>?_
 obtain⟨rfl,rfl⟩:=hr;simp only[l1,l7,au];rw[hK];clear hK K;refine aG λK hK=>?_
 simp only[bQ,aK,aF,aq,b8,dm,List.length_cons,List.length_nil,List.replicate_succ,List.replicate_zero,List.cons_append,List.nil_append,List.map_nil,List.map_cons,Option.getD_some];have ast:w5 (nM S.R)=some (.fix (S.R.map nT)):=rfl;have asr:∀l:List Nat,w5 (nT l)=some (.fix (l.map nD)):=λz=>rfl
 simp only[ast,nZ,au,lA];rw[rJ (as:=S.R) nT (λl=>nT (l.map (2 * ·))) (by omega) (λl hl=>by
  simp only[List.getElem?_cons_zero,Option.join_some,nZ,au,asr,lA,aq];rw[Jr l (by rw[wkS.row l hl];exact s25)]
  simp only[au,n6,zX];rfl)]
 simp only[au,n6,zX];have ed:D.tup (S.R.map λl=>nT (l.map (2 * ·)))=nM (dbl S.R):=by unfold nM dbl;rw[U0];rfl
 rw[ed,rB wkS.dbl,au];refine Rn.bind (qz wkS.dbl (by omega) M7) λd M8 ⟨e,hk8,g8,_⟩=>?_
 subst e;have lw8:=lw7.gw g8;have kl7:=lw7.kl
 try simp only[bQ]
 rw[hK];clear hK K;refine aG λK hK=>?_
 have ad:(rd (cU (.lst [.non,.int 0,nM S.R,aA S.R W,.str (pU R0.length S.ds.length),.lst [.ref k],.dic [] []]) (.lst [.ref M7.length])):DM D)=pure (.lst [.non,.int 0,nM S.R,aA S.R W,.str (pU R0.length S.ds.length),.lst [.ref k],.dic [] [],.ref M7.length]):=wC (by simp)
 simp only[bQ,aK,aF,aq,l1,ad,Gf,fF];refine Rn.bind (du (λi δ M'=>(∃za,δ=[some (.scr cs),some (.int c),some (.ref pe),some (nM R0),some (.ref k),some (cG S),z6,some (nM S.R),some (.lst [.non,.int 0,nM S.R,aA S.R W,.str (pU R0.length S.ds.length),.lst [.ref k],.dic [] []]),some (.ref M7.length),za])/\M'=M8) _ 0 _ _ ⟨⟨_,rfl⟩,rfl⟩ (λi d δ M9 hi hI=>?_)) (λrr M9 hI=>?_)
 ·clear hK K;obtain⟨⟨za,rfl⟩,rfl⟩:=hI;rw[o8,au];simp only[bQ,aK,aF,aq];have hm:=T5 hi;have one:Rn (jF [.ref k,d,.bl false]) M9 λr M'=>r=.bl true/\M'=M9:=by
   simp only[List.mem_cons,List.not_mem_nil,or_false]at hm;rcases hm with rfl | rfl | rfl | rfl | rfl | rfl | rfl | rfl
   ·exact rQ lw8.twn rfl rfl
   ·exact rQ lw8.twn rfl rfl
   ·exact rQ lw8.twn rfl rfl
   ·exact Pn lw8.twn
   ·exact rQ lw8.twn rfl rfl
   ·exact rQ lw8.twn rfl rfl
   ·exact rQ lw8.twn rfl rfl
   ·exact xT lw8.twn hk8.twn (by omega) (by show (dbl S.R).length<=1000000;unfold dbl;rw[Te];omega) (by omega) (b:=false) (by rw[Um (Le wkS)])
  refine Rn.bind one λr M' hr=>?_
  obtain⟨rfl,rfl⟩:=hr;simp only[jD,Bool.not_true,Bool.false_eq_true,if_false,au];exact Rn.pure ⟨_,rfl,⟨_,rfl⟩,rfl⟩
 obtain⟨δ',rfl,⟨za,rfl⟩,rfl⟩:=hI;rw[hK];clear hK K ad
 -- all undone
 have lp:(rd (dX [cG S]):DM D)=pure (nD (S.ds.length+1)):=bY λM=>by show (some (D.int _))=_;rw[Te,nH];rfl
 have sb:(rd (q9 (nD (S.ds.length+1)) (.int 1)):DM D)=pure (nD S.ds.length):=vG (b:=1) (by omega)
 have eL:ph [nD S.ds.length]=some (.fix ((List.range S.ds.length).map nD)):=eF (by omega)
 have mtu:(fY [.str "undo"]:DM D)=pure Dd.undo.D:=dD (by simp)
 refine aG λK hK=>?_
 simp only[aK,aF,aq,lp,sb,eL,fF];refine Rn.bind (du (λi δ M'=>∃S' y6 y7 y8 y9 ya,δ=[some (.scr cs),some (.int c),some (.ref pe),some (nM R0),some (.ref k),some (cG S'),y6,y7,y8,y9,ya]/\Lw pe k (k+1) R0.length W S' MB M'/\Bd 10 S'/\(dC S').head?=some (R0,[])/\S'.ds.length=S.ds.length-i) _ 0 _ _ ⟨_,_,_,_,_,_,rfl,lw8,bd,hd,rfl⟩ (λi d δ M5 hi hI=>?_)) (λrr M5 hI=>?_)
 ·clear hK K;obtain⟨S1,y6,y7,y8,y9,ya,rfl,lw1,bd1,hd1,ln1⟩:=hI;rw[Uq]at *;obtain⟨hi30,rfl⟩:=sG hi;have b1:=bd1.ds;have b2:=bd1.ms;rw[o8,au];refine aG λK hK=>?_
  simp only[bQ,aK,aF,aq,mtu];refine Rn.bind (lw1.step (q:=.undo) True.intro (by omega) (by omega)) λr M6 ⟨S',hs,e,lw6⟩=>?_
  subst e;rw[hK];clear hK K;have bd':Bd 10 S'/\S'.ds.length=S.ds.length-(i+1):=by
   rcases hs with hs | ⟨hr,rfl⟩
   ·obtain⟨a,b⟩:=bd1.undo hs;exact⟨a,by omega⟩
   ·cases hr;simp at ln1 ⊢
    exact⟨bd1,by omega⟩
  obtain⟨bd',ln'⟩:=bd';have hd':(dC S').head?=some (R0,[]):=by
   rcases hs with hs | ⟨_,rfl⟩
   ·rw[pF hs,hd1]
   ·exact hd1
  simp only[bQ,aK,aF,aq,vy,aQ,Bool.false_eq_true,if_false];exact Rn.pure ⟨_,rfl,_,_,_,_,_,_,rfl,lw6,bd',hd',ln'⟩
 obtain⟨δ',rfl,S1,y6,y7,y8,y9,ya,rfl,lw1,bd1,hd1,ln1⟩:=hI;rw[hK];clear hK K;rw[Uq,Te,Uy]at ln1;have es:=zM hd1 (W4.mp (by omega))
 simp only[bQ,aK,aF,aq,rB wk];refine Rn.bind (qz wk (by omega) M5) λd M6 ⟨e,hk6,g6,_⟩=>?_
 subst e;have lw6:=lw1.gw g6;have kl5:=lw1.kl;have e1:S1.R=R0:=by rw[es]
 refine Rn.bind (xT lw6.twn hk6.twn (by rw[e1];omega) (by show R0.length<=1000000;omega) (by omega) (b:=true) (by rw[e1];simp)) λr M7 hr=>?_
 obtain⟨rfl,rfl⟩:=hr;simp only[jD,Bool.not_true,Bool.false_eq_true,if_false,au];exact Rn.pure (fin _ _ ⟨_,_,_,_,_,_,_,_,_,_,rfl⟩)
def Iv(K:PySem.W.Frag):Bool:=K.all λp=>!(p.2.cls==.type "list")
def Np{K:PySem.W.Frag}(h:Iv K=true){a:Addr}{o:Obj}(e:K.lookup a=some o):o.cls≠.type "list":=by
 have:∀ (l:List (Addr×Obj)),(l.all λp=>!(p.2.cls == .type "list"))=true->l.lookup a=some o->o.cls≠.type "list":=by
  intro l;induction l with
  |nil=>intro _ e;cases e
  | cons p l ih=>
    intro h e;rw[List.all_cons,V3]at h;rw[Vc]at e;split at e
    ·cases e;intro z;rw[z]at h;exact absurd h.1 (by decide)
    ·exact ih h.2 e
 exact this K h e
structure Cls(K:PySem.W.Frag)(mg:Str->Option Value)(CE_NoMove CE_NoMark CE_NoDeed CE0 CC_Keeper CC_Walk:Addr)(tg_MOST_PLACES tg_MOST_STEPS:Tok):Prop where
 t:XTab K mg mq CE0
 m_FadeError:mg "FadeError"=some (.ref CE0)
 fk:∀c∈mq,∀C,mg c=some (.ref C)->FlK K mg oH c C
 mL:∀x∈oH,∃C,mg x=some (.ref C)
 m_MOST_PLACES:mg "MOST_PLACES"=some (.int 25 tg_MOST_PLACES)
 m_MOST_STEPS:mg "MOST_STEPS"=some (.int 100 tg_MOST_STEPS)
 o_Keeper:OCls K mg "Keeper" CC_Keeper ["kept", "marks", "deeds", "powers", "made", "__bool__"]
 k_Keeper:PySem.W.makesIn K CC_Keeper=true/\PySem.W.keepIn K (.ref CC_Keeper)=true
 q_Keeper:OwnC K mg "Keeper"
 o_Walk:OCls K mg "Walk" CC_Walk ["rows", "whole"]
 k_Walk:PySem.W.makesIn K CC_Walk=true/\PySem.W.keepIn K (.ref CC_Walk)=true
 q_Walk:OwnC K mg "Walk"
 s_Keeper:StoN K mg "Keeper"
 v_Keeper_Walk:TwoC K mg "Keeper" "Walk"
 nl:Iv K=true
def K5{K:PySem.W.Frag}{h:Heap}{mg:Str->Option Value}(X:K.In h)(G:h.Ns mainGlobals mg){CE_NoMove CE_NoMark CE_NoDeed CE0 CC_Keeper CC_Walk:Addr}{tg_MOST_PLACES tg_MOST_STEPS:Tok}
  (cE0:PySem.W.nsIn K mainGlobals "FadeError"=some (some (.ref CE0)))
  (c_NoMove:PySem.W.nsIn K mainGlobals "NoMove"=some (some (.ref CE_NoMove)))
  (c_NoMark:PySem.W.nsIn K mainGlobals "NoMark"=some (some (.ref CE_NoMark)))
  (c_NoDeed:PySem.W.nsIn K mainGlobals "NoDeed"=some (some (.ref CE_NoDeed)))
  (eE0:PySem.W.excIn K CE0 rA "ValueError.__new__"=true)
  (e_NoMove:PySem.W.excIn K CE_NoMove rA "ValueError.__new__"=true)
  (s_NoMove:PySem.W.mroIn K CE_NoMove (.ref CE0)=some true)
  (x1_NoMove:PySem.W.findIn K (.ref CE_NoMove) "__getattribute__"=some (some (.builtin "BaseException.__getattribute__")))
  (x2_NoMove:PySem.W.findIn K (.ref CE_NoMove) "__getattr__"=some none)
  (x3_NoMove:PySem.W.findIn K (.ref CE_NoMove) "__class__"=some (some (.builtin "object.__class__")))
  (x4_NoMove:PySem.W.mroIn K CE_NoMove (.type "object")=some true)
  (x5_NoMove:PySem.W.mroIn K CE_NoMove (.type "BaseException")=some true)
  (e_NoMark:PySem.W.excIn K CE_NoMark rA "ValueError.__new__"=true)
  (s_NoMark:PySem.W.mroIn K CE_NoMark (.ref CE0)=some true)
  (x1_NoMark:PySem.W.findIn K (.ref CE_NoMark) "__getattribute__"=some (some (.builtin "BaseException.__getattribute__")))
  (x2_NoMark:PySem.W.findIn K (.ref CE_NoMark) "__getattr__"=some none)
  (x3_NoMark:PySem.W.findIn K (.ref CE_NoMark) "__class__"=some (some (.builtin "object.__class__")))
  (x4_NoMark:PySem.W.mroIn K CE_NoMark (.type "object")=some true)
  (x5_NoMark:PySem.W.mroIn K CE_NoMark (.type "BaseException")=some true)
  (e_NoDeed:PySem.W.excIn K CE_NoDeed rA "ValueError.__new__"=true)
  (s_NoDeed:PySem.W.mroIn K CE_NoDeed (.ref CE0)=some true)
  (x1_NoDeed:PySem.W.findIn K (.ref CE_NoDeed) "__getattribute__"=some (some (.builtin "BaseException.__getattribute__")))
  (x2_NoDeed:PySem.W.findIn K (.ref CE_NoDeed) "__getattr__"=some none)
  (x3_NoDeed:PySem.W.findIn K (.ref CE_NoDeed) "__class__"=some (some (.builtin "object.__class__")))
  (x4_NoDeed:PySem.W.mroIn K CE_NoDeed (.type "object")=some true)
  (x5_NoDeed:PySem.W.mroIn K CE_NoDeed (.type "BaseException")=some true)
  (v_NoMove_NoMove:PySem.W.kitOne K (.ref CE_NoMove) (.ref CE_NoMove)=some true)
  (v_NoMove_NoMark:PySem.W.kitOne K (.ref CE_NoMove) (.ref CE_NoMark)=some false)
  (v_NoMove_NoDeed:PySem.W.kitOne K (.ref CE_NoMove) (.ref CE_NoDeed)=some false)
  (v_NoMark_NoMove:PySem.W.kitOne K (.ref CE_NoMark) (.ref CE_NoMove)=some false)
  (v_NoMark_NoMark:PySem.W.kitOne K (.ref CE_NoMark) (.ref CE_NoMark)=some true)
  (v_NoMark_NoDeed:PySem.W.kitOne K (.ref CE_NoMark) (.ref CE_NoDeed)=some false)
  (v_NoDeed_NoMove:PySem.W.kitOne K (.ref CE_NoDeed) (.ref CE_NoMove)=some false)
  (v_NoDeed_NoMark:PySem.W.kitOne K (.ref CE_NoDeed) (.ref CE_NoMark)=some false)
  (v_NoDeed_NoDeed:PySem.W.kitOne K (.ref CE_NoDeed) (.ref CE_NoDeed)=some true)
  (fv_NoMove:PySem.W.kitOne K (.ref CE_NoMove) (.type "ValueError")=some true)
  (fo_NoMove:PySem.W.kitAny K (.ref CE_NoMove) (wA.map Value.type)=some false)
  (nk_NoMove:sV K CE_NoMove "NoMove" oH)
  (fv_NoMark:PySem.W.kitOne K (.ref CE_NoMark) (.type "ValueError")=some true)
  (fo_NoMark:PySem.W.kitAny K (.ref CE_NoMark) (wA.map Value.type)=some false)
  (nk_NoMark:sV K CE_NoMark "NoMark" oH)
  (fv_NoDeed:PySem.W.kitOne K (.ref CE_NoDeed) (.type "ValueError")=some true)
  (fo_NoDeed:PySem.W.kitAny K (.ref CE_NoDeed) (wA.map Value.type)=some false)
  (nk_NoDeed:sV K CE_NoDeed "NoDeed" oH)
  (g_MOST_PLACES:PySem.W.nsIn K mainGlobals "MOST_PLACES"=some (some (.int 25 tg_MOST_PLACES)))
  (g_MOST_STEPS:PySem.W.nsIn K mainGlobals "MOST_STEPS"=some (some (.int 100 tg_MOST_STEPS)))
  (cm_Keeper:PySem.W.nsIn K mainGlobals "Keeper"=some (some (.ref CC_Keeper)))
  (pg_Keeper:PySem.W.plainGet K CC_Keeper Str.empty=true)
  (hd_Keeper:PySem.W.hasDictIn K CC_Keeper=true)
  (po_Keeper:PySem.W.plainOver K CC_Keeper=true)
  (sa_Keeper:PySem.W.findIn K (.ref CC_Keeper) "__setattr__"=some (some (.builtin "object.__setattr__")))
  (mk_Keeper:PySem.W.makesIn K CC_Keeper=true)
  (kc_Keeper:PySem.W.keepIn K (.ref CC_Keeper)=true)
  (qn_Keeper:PySem.W.findIn K (.ref CC_Keeper) "__ne__"=some (some (.builtin "object.__ne__")))
  (qm_Keeper:PySem.W.mroIn K CC_Keeper (.type "object")=some true)
  (qc_Keeper:PySem.W.findIn K (.ref CC_Keeper) "__class__"=some (some (.builtin "object.__class__")))
  (qg_Keeper:PySem.W.specialIn K (.builtin "object.__class__") "__get__"=some (some (.builtin "getset_descriptor.__get__")))
  (qt_Keeper:PySem.W.takesIn K (.builtin "object.__class__")=some true)
  (qi_Keeper:((PySem.W.clsIn K CC_Keeper).isSome&&PySem.W.typeIn K (.ref CC_Keeper)==some (.type "type"))=true)
  (nf_Keeper_kept:PySem.W.findIn K (.ref CC_Keeper) "kept"=some none)
  (nf_Keeper_marks:PySem.W.findIn K (.ref CC_Keeper) "marks"=some none)
  (nf_Keeper_deeds:PySem.W.findIn K (.ref CC_Keeper) "deeds"=some none)
  (nf_Keeper_powers:PySem.W.findIn K (.ref CC_Keeper) "powers"=some none)
  (nf_Keeper_made:PySem.W.findIn K (.ref CC_Keeper) "made"=some none)
  (nf_Keeper___bool__:PySem.W.findIn K (.ref CC_Keeper) "__bool__"=some none)
  (cm_Walk:PySem.W.nsIn K mainGlobals "Walk"=some (some (.ref CC_Walk)))
  (pg_Walk:PySem.W.plainGet K CC_Walk Str.empty=true)
  (hd_Walk:PySem.W.hasDictIn K CC_Walk=true)
  (po_Walk:PySem.W.plainOver K CC_Walk=true)
  (sa_Walk:PySem.W.findIn K (.ref CC_Walk) "__setattr__"=some (some (.builtin "object.__setattr__")))
  (mk_Walk:PySem.W.makesIn K CC_Walk=true)
  (kc_Walk:PySem.W.keepIn K (.ref CC_Walk)=true)
  (qn_Walk:PySem.W.findIn K (.ref CC_Walk) "__ne__"=some (some (.builtin "object.__ne__")))
  (qm_Walk:PySem.W.mroIn K CC_Walk (.type "object")=some true)
  (qc_Walk:PySem.W.findIn K (.ref CC_Walk) "__class__"=some (some (.builtin "object.__class__")))
  (qg_Walk:PySem.W.specialIn K (.builtin "object.__class__") "__get__"=some (some (.builtin "getset_descriptor.__get__")))
  (qt_Walk:PySem.W.takesIn K (.builtin "object.__class__")=some true)
  (qi_Walk:((PySem.W.clsIn K CC_Walk).isSome&&PySem.W.typeIn K (.ref CC_Walk)==some (.type "type"))=true)
  (nf_Walk_rows:PySem.W.findIn K (.ref CC_Walk) "rows"=some none)
  (nf_Walk_whole:PySem.W.findIn K (.ref CC_Walk) "whole"=some none)
  (sn_Keeper_NoneType:PySem.W.subIn K (.ref CC_Keeper) (.type "NoneType")=some false)
  (sn_Keeper_int:PySem.W.subIn K (.ref CC_Keeper) (.type "int")=some false)
  (sn_Keeper_str:PySem.W.subIn K (.ref CC_Keeper) (.type "str")=some false)
  (sn_Keeper_list:PySem.W.subIn K (.ref CC_Keeper) (.type "list")=some false)
  (sn_Keeper_tuple:PySem.W.subIn K (.ref CC_Keeper) (.type "tuple")=some false)
  (sn_Keeper_dict:PySem.W.subIn K (.ref CC_Keeper) (.type "dict")=some false)
  (tw1_Keeper_Walk:PySem.W.subIn K (.ref CC_Keeper) (.ref CC_Walk)=some false)
  (tw2_Keeper_Walk:PySem.W.subIn K (.ref CC_Walk) (.ref CC_Keeper)=some false)
  (tw3_Keeper_Walk:(CC_Walk==CC_Keeper)=false)
  (nl:Iv K=true)
  : Cls K mg CE_NoMove CE_NoMark CE_NoDeed CE0 CC_Keeper CC_Walk tg_MOST_PLACES tg_MOST_STEPS:=by
 have m_NoMove:=Uo X G c_NoMove;have m_NoMark:=Uo X G c_NoMark;have m_NoDeed:=Uo X G c_NoDeed;have nof_Keeper:∀f∈(["kept", "marks", "deeds", "powers", "made", "__bool__"]:List Str),NoAttr K CC_Keeper f:=by
  intro f hf;simp only[List.mem_cons,List.not_mem_nil,or_false]at hf;rcases hf with rfl | rfl | rfl | rfl | rfl | rfl
  ·exact nf_Keeper_kept
  ·exact nf_Keeper_marks
  ·exact nf_Keeper_deeds
  ·exact nf_Keeper_powers
  ·exact nf_Keeper_made
  ·exact nf_Keeper___bool__
 have nof_Walk:∀f∈(["rows", "whole"]:List Str),NoAttr K CC_Walk f:=by
  intro f hf;simp only[List.mem_cons,List.not_mem_nil,or_false]at hf;rcases hf with rfl | rfl
  ·exact nf_Walk_rows
  ·exact nf_Walk_whole
 refine⟨⟨λa ha=>?_,λa ha b hb C D hC hD=>?_⟩,Uo X G cE0,λc hc C hC=>?_,λx hx=>let ⟨d,e,_⟩:=nk_NoMove.at hx;⟨d,Uo X G e⟩,Uo X G g_MOST_PLACES,Uo X G g_MOST_STEPS,⟨Uo X G cm_Keeper,⟨pg_Keeper,hd_Keeper,po_Keeper,sa_Keeper⟩,nof_Keeper⟩,⟨mk_Keeper,kc_Keeper⟩,⟨CC_Keeper,Uo X G cm_Keeper,qn_Keeper,qm_Keeper,qc_Keeper,qg_Keeper,qt_Keeper,qi_Keeper,⟨pg_Keeper,hd_Keeper,po_Keeper,sa_Keeper⟩⟩,⟨Uo X G cm_Walk,⟨pg_Walk,hd_Walk,po_Walk,sa_Walk⟩,nof_Walk⟩,⟨mk_Walk,kc_Walk⟩,⟨CC_Walk,Uo X G cm_Walk,qn_Walk,qm_Walk,qc_Walk,qg_Walk,qt_Walk,qi_Walk,⟨pg_Walk,hd_Walk,po_Walk,sa_Walk⟩⟩,⟨CC_Keeper,Uo X G cm_Keeper,λT hT=>by simp only[tK,List.mem_cons,List.not_mem_nil,or_false]at hT;rcases hT with rfl | rfl | rfl | rfl | rfl | rfl<;>assumption⟩,⟨CC_Keeper,CC_Walk,Uo X G cm_Keeper,Uo X G cm_Walk,tw1_Keeper_Walk,tw2_Keeper_Walk,by simpa using tw3_Keeper_Walk⟩,nl⟩
 ·simp only[List.mem_cons,List.not_mem_nil,or_false]at ha;rcases ha with rfl | rfl | rfl
  ·exact⟨CE_NoMove,⟨m_NoMove,e_NoMove⟩,⟨x1_NoMove,x2_NoMove,x3_NoMove,x4_NoMove,x5_NoMove⟩,⟨e_NoMove,eE0,s_NoMove⟩⟩
  ·exact⟨CE_NoMark,⟨m_NoMark,e_NoMark⟩,⟨x1_NoMark,x2_NoMark,x3_NoMark,x4_NoMark,x5_NoMark⟩,⟨e_NoMark,eE0,s_NoMark⟩⟩
  ·exact⟨CE_NoDeed,⟨m_NoDeed,e_NoDeed⟩,⟨x1_NoDeed,x2_NoDeed,x3_NoDeed,x4_NoDeed,x5_NoDeed⟩,⟨e_NoDeed,eE0,s_NoDeed⟩⟩
 ·simp only[List.mem_cons,List.not_mem_nil,or_false]at ha hb;rcases ha with rfl | rfl | rfl<;>rcases hb with rfl | rfl | rfl
  ·rw[m_NoMove]at hC;rw[m_NoMove]at hD;cases hC;cases hD;exact v_NoMove_NoMove
  ·rw[m_NoMove]at hC;rw[m_NoMark]at hD;cases hC;cases hD;exact v_NoMove_NoMark
  ·rw[m_NoMove]at hC;rw[m_NoDeed]at hD;cases hC;cases hD;exact v_NoMove_NoDeed
  ·rw[m_NoMark]at hC;rw[m_NoMove]at hD;cases hC;cases hD;exact v_NoMark_NoMove
  ·rw[m_NoMark]at hC;rw[m_NoMark]at hD;cases hC;cases hD;exact v_NoMark_NoMark
  ·rw[m_NoMark]at hC;rw[m_NoDeed]at hD;cases hC;cases hD;exact v_NoMark_NoDeed
  ·rw[m_NoDeed]at hC;rw[m_NoMove]at hD;cases hC;cases hD;exact v_NoDeed_NoMove
  ·rw[m_NoDeed]at hC;rw[m_NoMark]at hD;cases hC;cases hD;exact v_NoDeed_NoMark
  ·rw[m_NoDeed]at hC;rw[m_NoDeed]at hD;cases hC;cases hD;exact v_NoDeed_NoDeed
 ·simp only[List.mem_cons,List.not_mem_nil,or_false]at hc;rcases hc with rfl | rfl | rfl
  ·rw[m_NoMove]at hC;cases hC;exact yW X G nk_NoMove ⟨x1_NoMove,x2_NoMove,x3_NoMove,x4_NoMove,x5_NoMove⟩ fv_NoMove fo_NoMove
  ·rw[m_NoMark]at hC;cases hC;exact yW X G nk_NoMark ⟨x1_NoMark,x2_NoMark,x3_NoMark,x4_NoMark,x5_NoMark⟩ fv_NoMark fo_NoMark
  ·rw[m_NoDeed]at hC;cases hC;exact yW X G nk_NoDeed ⟨x1_NoDeed,x2_NoDeed,x3_NoDeed,x4_NoDeed,x5_NoDeed⟩ fv_NoDeed fo_NoDeed
def spLaw(ts:List (Addr×Addr)):Sp:=λvs H Q z=>∃(a:Addr) (ns:List Int),vs=[.ref a]/\Rd H a (.lst (ns.map V.int))/\ns.length<=63/\(∀q∈ts,H q.2=some (.tbl #[]))/\∀H',Q (.bl true) H'
def Qp{mg:Str->Option Value}{ts:List (Addr×Addr)}{vs:List V}{H:Hp}{Q:VK}{E:XK}(h:spLaw ts vs H Q E):iU mg GR vs H Q E/\∀q∈ts,H q.2=some (.tbl #[]):=by
 obtain⟨a,ns,rfl,rd,hl,ht,q⟩:=h;obtain⟨d,M',e,ed⟩:=JK ns (by omega)
 refine⟨⟨⟨[],[]⟩,[],[.scr ns],.cons (.scr (λz=>by rcases z with z | z<;>cases z) rd) .nil,⟨rfl,List.nodup_nil,λn a o h=>by simp at h,λa h=>by cases h⟩,_,e,λρ' H' b x j c=>?_⟩,ht⟩
 subst ed;cases c;exact q H'
def all_mk{P:Program}{w:World}{K:PySem.W.Frag}{mg:Mg}{fa c_ P_:Addr}{CE_NoMove CE_NoMark CE_NoDeed CE0 CC_Keeper CC_Walk:Addr}{tg_MOST_PLACES tg_MOST_STEPS:Tok}(hfa:mg "law"=some (.ref fa)){h:Heap}(X:K.In h)(G:h.Ns mainGlobals mg)(ht_:PySem.W.tabIn K "_law_step"=some (c_,P_))(t0:TD K "is_whole" pD)(t1:TD K "are_weights" jU)(t2:TD K "are_rows" pB)(t3:TD K "is_place" pC)(t4:TD K "is_lot" ut)(t5:TD K "refuse_no_lot" iT)(t6:TD K "can_be_walked" iR)(t7:TD K "refuse_no_steps" gm)(t8:MethAt K CC_Walk "__len__" "Walk.__len__" dR)(t9:TD K "refuse_no_place" gk)(t10:TD K "lot_at" uv)(t11:TD K "stepped" qL)(t12:MethAt K CC_Walk "__init__" "Walk.__init__" iM)(t13:MethAt K CC_Walk "__eq__" "Walk.__eq__" eN)(t14:MethAt K CC_Walk "after" "Walk.after" iQ)(t15:MethAt K CC_Walk "power" "Walk.power" fQ)(t16:TD K "refuse_less" jV)(t17:TD K "refuse_no_move" ig)(t18:TD K "moved" wF)(t19:MethAt K CC_Keeper "__init__" "Keeper.__init__" gj)(t20:MethAt K CC_Keeper "__eq__" "Keeper.__eq__" fD)(t21:MethAt K CC_Keeper "__repr__" "Keeper.__repr__" cR)(t22:MethAt K CC_Keeper "change" "Keeper.change" dq)(t23:MethAt K CC_Keeper "do" "Keeper.do" eU)(t24:MethAt K CC_Keeper "move" "Keeper.move" gQ)(t25:MethAt K CC_Keeper "mark" "Keeper.mark" gP)(t26:MethAt K CC_Keeper "back" "Keeper.back" gO)(t27:MethAt K CC_Keeper "undo" "Keeper.undo" gU)(t28:MethAt K CC_Keeper "walk" "Keeper.walk" eG)(t29:MethAt K CC_Keeper "power_after" "Keeper.power_after" cT)(t30:MethAt K CC_Keeper "after" "Keeper.after" fW)(t31:MethAt K CC_Keeper "reckoned" "Keeper.reckoned" dF)(t32:MethAt K CC_Keeper "twin" "Keeper.twin" gR)(t33:TD K "_law_cell_at" ji)(t34:TD K "_law_next" mY)(t35:TD K "_law_pen_of" jT)(t36:TD K "_law_draw" mW)(t37:TD K "_law_rows" mZ)(t38:TD K "_law_deed" mU)(t39:TD K "_law_due" pA)(t40:TD K "_law_done" mV)(t41:TD K "_law_equal" lD)(t42:TD K "_law_flags" fU)(t43:TD K "_law_said" gD)(t44:TD K "_law_step" jt)(t45:TD K "_law_twin_right" dG)(t46:TD K "law" xW)(z0:TB K "ArithmeticError")(z1:TB K "LookupError")(z2:TB K "RuntimeError")(z3:TB K "TypeError")(z4:TB K "ValueError")(z5:TB K "all")(z6:TB K "any")(z7:TB K "bool")(z8:TB K "enumerate")(z9:TB K "int")(z10:TB K "isinstance")(z11:TB K "len")(z12:TB K "list")(z13:TB K "max")(z14:TB K "range")(z15:TB K "repr")(z16:TB K "sum")(z17:TB K "tuple")(z18:TB K "zip")(Z:Cls K mg CE_NoMove CE_NoMark CE_NoDeed CE0 CC_Keeper CC_Walk tg_MOST_PLACES tg_MOST_STEPS):
  ∃fd:FuncData,(∀(s:Shared) (v:Value),BindsTo s fd ⟨[v],[]⟩ [("_law_script",v)])/\∀base:Heap,K.In base->base.Ns mainGlobals mg->(∀q∈[(c_,P_)],TabD mg base q.1 q.2)->FnOk P w K mg base (bJ P w) 18 fa fd ["_law_script"] (spLaw [(c_,P_)]):=by
 obtain⟨f,fd,F,m⟩:=(t46 X G).ex;have e:=hfa.symm.trans m;cases e;refine⟨fd,?_,λbase z z TD_=>?_⟩
 ·obtain⟨oc,od,kV,doc,pm,an,cdv,ct,osl,rfl,_⟩:=F.ex;exact λs v=>.of_eq rfl
 have yz0:=TY X G z0;have yz1:=TY X G z1;have yz2:=TY X G z2;have yz3:=TY X G z3;have yz4:=TY X G z4;have yz5:=TY X G z5;have yz6:=TY X G z6;have yz7:=TY X G z7;have yz8:=TY X G z8;have yz9:=TY X G z9;have yz10:=TY X G z10;have yz11:=TY X G z11;have yz12:=TY X G z12;have yz13:=TY X G z13;have yz14:=TY X G z14;have yz15:=TY X G z15;have yz16:=TY X G z16;have yz17:=TY X G z17;have yz18:=TY X G z18;have D0:DefD P w K mg base _ _ _ p8:=okd (t0 X G) Ar ((vB).2 yz7 yz9 yz10);have D1:DefD P w K mg base _ _ _ wU:=okd (t1 X G) wL ((pW p8).2 D0 yz5 yz10 yz11 yz17);have D2:DefD P w K mg base _ _ _ Dj:=okd (t2 X G) Ao ((vz wU).2 D1 yz5 yz10 yz11 yz17);have D3:DefD P w K mg base _ _ _ Dn:=okd (t3 X G) Aq ((vA p8).2 D0);have D4:DefD P w K mg base _ _ _ Dm:=okd (t4 X G) Gq ((zQ wU).2 D1 Z.m_MOST_PLACES yz6 yz10 yz11 yz17);have D5:DefD P w K mg base _ _ _ Dy:=okd (t5 X G) uz ((mj Dm).2 D4);have D6:DefD P w K mg base _ _ _ Dk:=okd (t6 X G) lE ((lZ Dj).2 D2 Z.m_MOST_PLACES yz5 yz10 yz11 yz16 yz17);have D7:DefD P w K mg base _ _ _ Frs:=okd (t7 X G) qY ((km p8).2 D0 Z.m_MOST_STEPS);have M8:MethD P w K mg base _ "Walk" _ _ _ _ sU:=iJ t8 Z.o_Walk.at_ Z.o_Walk.cls vJ ((nJ).2 Z.o_Walk yz11);have D9:DefD P w K mg base _ _ _ qb:=okd (t9 X G) qX ((kj Dn sU).2 D3 M8 yz11);have D10:DefD P w K mg base _ _ _ Du:=okd (t10 X G) Gs ((zR).2 yz14 yz17);have D11:DefD P w K mg base _ _ _ yC:=okd (t11 X G) De ((xG).2 yz11 yz14 yz16 yz17 yz18);have M12:MethD P w K mg base _ "Walk" _ _ _ _ Fin:=iJ t12 Z.o_Walk.at_ Z.o_Walk.cls uy ((lY Dk).2 D6 Z.o_Walk yz16);have W_Walk:ClsD P w K mg base _ "Walk" uC:=QK M12 (λz z z z z z us hl=>match us,hl with | [_,_],_=>rfl) (λC hC=>by have q:=hC.symm.trans Z.o_Walk.at_;cases q;exact Z.k_Walk) Ox
 have M13:MethD P w K mg base _ "Walk" _ _ _ _ cY:=iJ t13 Z.o_Walk.at_ Z.o_Walk.cls wK ((jQ).2 Z.o_Walk.at_ Z.o_Walk Z.q_Keeper Z.q_Walk Z.v_Keeper_Walk yz10);have M14:MethD P w K mg base _ "Walk" _ _ _ _ Di:=iJ t14 Z.o_Walk.at_ Z.o_Walk.cls pY ((lC Dy Frs yC).2 D5 D7 D11 Z.o_Walk yz11 yz14);have M15:MethD P w K mg base _ "Walk" _ _ _ _ wX:=iJ t15 Z.o_Walk.at_ Z.o_Walk.cls pZ ((qK Du Di).2 D10 M14 Z.o_Walk yz11 yz14 yz17);have D16:DefD P w K mg base _ _ _ yu:=okd (t16 X G) wM ((pX p8).2 D0);have D17:DefD P w K mg base _ _ _ yw:=okd (t17 X G) kI ((ie qb yu).2 D9 D16) (λz z z z z z us hl=>match us,hl with | [_,_,_,_,_],_=>rfl)
 have D18:DefD P w K mg base _ _ _ yr:=okd (t18 X G) Aa ((su uC).2 W_Walk Z.t Z.o_Walk yz12 yz17) (λz z z z z z us hl=>match us,hl with | [_,_,_,_,_],_=>rfl)
 have M19:MethD P w K mg base _ "Keeper" _ _ _ _ Ia:=iJ t19 Z.o_Keeper.at_ Z.o_Keeper.cls qM ((f9 wX).2 M15 Z.o_Walk.at_ Z.o_Keeper Z.q_Walk yz10);have W_Keeper:ClsD P w K mg base _ "Keeper" xY:=QJ M19 (λz z z z z z us hl=>match us,hl with | [_,_],_=>rfl) (λC hC=>by have q:=hC.symm.trans Z.o_Keeper.at_;cases q;exact Z.k_Keeper)
 have M20:MethD P w K mg base _ "Keeper" _ _ _ _ dU:=iJ t20 Z.o_Keeper.at_ Z.o_Keeper.cls uw ((fB cY).2 M13 Z.o_Keeper.at_ Z.o_Keeper Z.q_Keeper Z.q_Walk Z.v_Keeper_Walk yz10);have M21:MethD P w K mg base _ "Keeper" _ _ _ _ pJ:=iJ t21 Z.o_Keeper.at_ Z.o_Keeper.cls qN ((gb sU).2 M8 Z.o_Keeper yz11);have M22:MethD P w K mg base _ "Keeper" _ _ _ _ yo:=iJ t22 Z.o_Keeper.at_ Z.o_Keeper.cls ux ((iK wX).2 M15 Z.o_Keeper);have M23:MethD P w K mg base _ "Keeper" _ _ _ _ uD:=iJ t23 Z.o_Keeper.at_ Z.o_Keeper.cls zY ((mJ yo).2 M22 Z.o_Keeper);have M24:MethD P w K mg base _ "Keeper" _ _ _ _ yp:=iJ t24 Z.o_Keeper.at_ Z.o_Keeper.cls wI ((gJ yw yr uD).2 D17 D18 M23 Z.o_Keeper);have M25:MethD P w K mg base _ "Keeper" _ _ _ _ Dq:=iJ t25 Z.o_Keeper.at_ Z.o_Keeper.cls wH ((jN uD).2 M23 Z.o_Keeper);have M26:MethD P w K mg base _ "Keeper" _ _ _ _ ym:=iJ t26 Z.o_Keeper.at_ Z.o_Keeper.cls wG ((gH uD).2 M23 Z.t Z.o_Keeper yz11);have M27:MethD P w K mg base _ "Keeper" _ _ _ _ yq:=iJ t27 Z.o_Keeper.at_ Z.o_Keeper.cls ou ((gM yo).2 M22 Z.t Z.o_Keeper yz11);have M28:MethD P w K mg base _ "Keeper" _ _ _ _ wW:=iJ t28 Z.o_Keeper.at_ Z.o_Keeper.cls wJ ((jP).2 Z.o_Keeper);have M29:MethD P w K mg base _ "Keeper" _ _ _ _ Dw:=iJ t29 Z.o_Keeper.at_ Z.o_Keeper.cls iz ((dY 10 yC).2 D11 Z.o_Keeper Z.o_Walk yz11 yz17);have M30:MethD P w K mg base _ "Keeper" _ _ _ _ Do:=iJ t30 Z.o_Keeper.at_ Z.o_Keeper.cls vI ((jg qb Frs Dw).2 D9 D7 M29 Z.o_Keeper);have M31:MethD P w K mg base _ "Keeper" _ _ _ _ Dr:=iJ t31 Z.o_Keeper.at_ Z.o_Keeper.cls qO ((gf).2 Z.o_Keeper);have M32:MethD P w K mg base _ "Keeper" _ _ _ _ Dt:=iJ t32 Z.o_Keeper.at_ Z.o_Keeper.cls oh ((jO xY).2 W_Keeper Z.o_Keeper yz12);have D33:DefD P w K mg base _ _ _ xZ:=okd (t33 X G) vK ((nQ).2 yz11);have D34:DefD P w K mg base _ _ _ Dv:=okd (t34 X G) qR ((tM).2 );have D35:DefD P w K mg base _ _ _ yt:=okd (t35 X G) oA ((jR).2 yz9 yz13);have D36:DefD P w K mg base _ _ _ yj:=okd (t36 X G) qQ ((mO Dv).2 D34);have D37:DefD P w K mg base _ _ _ yx:=okd (t37 X G) qT ((mQ yj).2 D36 yz9 yz11 yz12 yz14 yz17);have D38:DefD P w K mg base _ _ _ wV:=okd (t38 X G) qP ((mK yj).2 D36 yz8 yz9 yz11 yz13);have D39:DefD P w K mg base _ _ _ Dl:=okd (t39 X G) tO ((o7).2 yz11 yz12 yz17);have D40:DefD P w K mg base _ _ _ yh:=okd (t40 X G) zZ ((jo yp Dq ym yq).2 M24 M25 M26 M27);have D41:DefD P w K mg base _ _ _ jF:=okd (t41 X G) xM ((fL dU cY).2 M20 M13 Z.q_Keeper Z.q_Walk Z.s_Keeper Z.v_Keeper_Walk);have FG:FlgD P w K mg base 0 _ mq yV:=RJ (t42 X G) p6 Z.fk Pa λhr FK ho h0 hn hf=>(fM).2 Z.mL yz0 yz1 yz2 yz3 yz4 yz10 hr FK ho h0 hn hf
 have H43:HrdD P w K mg base _ _ yz:=RK (k:=13) (t43 X G) qU λhr ht=>(jq yV).2 Z.t Z.m_FadeError FG (by decide) ht hr
 have T44:DefT P w K mg base _ _ _ P_ wY:=RL (t44 X G) qW X G ht_ λhP hc hr=>(mR Dl yh yz).2 D39 D40 yz10 yz17 H43 (TD_ _ (.head _)) hc hP hr
 have T45:DefT P w K mg base _ _ _ P_ Dz:=RM (t45 X G) jE λhP hr=>(gh jF wV Do Dr wW pJ Dt wY).2 D41 D38 M30 M31 M28 M21 M32 Z.o_Walk yz11 yz14 yz15 T44 hP hr
 exact ((QT (P:=P) (w:=w) (base:=base) (ts:=[(c_,P_)]) F Gr λcdv A outer s H E ht hr=>(CV xZ yt yx wV jF uC xY pJ wW wY Dz).2 D33 D35 D37 D38 D41 W_Walk W_Keeper M21 M28 yz11 yz14 yz15 yz17 T44 ⟨_,ht _ (.head _)⟩ T45 ⟨_,ht _ (.head _)⟩ hr).imp λvs H Q E h=>Qp h).mono (by decide)
def walk{l:PySem.W.OpenLaw}{q:Program}{loose:List Str}{XP:(Str->Option Value)->Heap->Prop}{YP:World->Heap->Prop}{d:DefRec}{K:Params->PySem.W.Frag}{c_ P_:Addr}(hn:l.most=some 63)(hdf:d.params.defaults=[])
  (hY:∀(w:World) (h:Heap),YP w h->(K w.params).In h) (hnl:∀w:World,Iv (K w.params)=true) (h1:((PyProof.Rows.recsOf q).find? (λe=>e.name==("_law_step":Str))).isSome=true) (h2:∀w:World,PySem.W.tabIn (K w.params) "_law_step"=some (c_,P_)) (h3:∀w:World,(K w.params).lookup P_=none)
  (F:∀(w:World) (mg:Str->Option Value) (fa:Addr) (h:Heap),(K w.params).In h->h.Ns mainGlobals mg->mg d.name=some (.ref fa)->
    ∃fd:FuncData,(∀(s:Shared) (u:Value),BindsTo s fd ⟨[u],[]⟩ [("_law_script",u)])/\∀base:Heap,(K w.params).In base->base.Ns mainGlobals mg->(∀q∈[(c_,P_)],TabD mg base q.1 q.2)->FnOk l.prog w (K w.params) mg base (bJ l.prog w) 18 fa fd ["_law_script"] (spLaw [(c_,P_)])) :
  PySem.W.WalkO q loose XP YP l.row.toRowW d [] (λf vs=>PySem.call f vs):=
 L2.HY (n:=63) (k:=18) (x := "_law_script") (CX:=λw=>bJ l.prog w) (sp:=spLaw) (tn:=[("_law_step",c_,P_)]) hn (by decide) hdf ⟨rfl,by decide,by decide,rfl⟩ hY (λw a o e=>Np (hnl w) e) (λt ht=>by rw[Tt.mp ht];exact h1) (λw t ht=>by rw[Tt.mp ht];exact h2 w) (λw t ht=>by rw[Tt.mp ht];exact h3 w) F (λy a ns hl hS hH=>⟨a,ns,rfl,hS,hl,hH,λy=>rfl⟩) λy y y y y z=>by obtain⟨_,_,_,_,_,_,_,_,_,_,_,_,_,q⟩:=z;exact q.elim
end K
open PySem PySem.W PyProof.Rows
set_option maxRecDepth 100000 in
set_option maxHeartbeats 0 in
theorem PySem.Challenge.cw_fadewalk_k89_keepers_compared_and_twins_holds : PySem.Challenge.rw_fadewalk_k89_keepers_compared_and_twins.Holds := by
 w_on;refine T.cut ?_
 k_fill
 refine' K.walk (l:=PySem.Challenge.rw_fadewalk_k89_keepers_compared_and_twins) rfl rfl (λw h Y=>PySem.W.km_in_of Y) ?nl9 ?h1 ?h2 ?h3 ?F
 case h2=>
  intro w
  refine' L2.Gy ?qa ?ql ?qc ?qd ?qe
  case qa=>k_is
  case ql=>k_is
  case qc=>exact rfl
  case qd=>k_is
  case qe=>exact rfl
 case nl9=>intro w;first | k_is | kernel_rfl
 case h1=>decide +kernel
 case h3=>intro w;first | k_is | kernel_rfl
 case F=>
  intro w mg fa h KX G hmg
  refine' K.all_mk hmg KX G ?ht ?t0 ?t1 ?t2 ?t3 ?t4 ?t5 ?t6 ?t7 ?t8 ?t9 ?t10 ?t11 ?t12 ?t13 ?t14 ?t15 ?t16 ?t17 ?t18 ?t19 ?t20 ?t21 ?t22 ?t23 ?t24 ?t25 ?t26 ?t27 ?t28 ?t29 ?t30 ?t31 ?t32 ?t33 ?t34 ?t35 ?t36 ?t37 ?t38 ?t39 ?t40 ?t41 ?t42 ?t43 ?t44 ?t45 ?t46 ?z0 ?z1 ?z2 ?z3 ?z4 ?z5 ?z6 ?z7 ?z8 ?z9 ?z10 ?z11 ?z12 ?z13 ?z14 ?z15 ?z16 ?z17 ?z18 (K.K5 KX G ?cE0 ?c_NoMove ?c_NoMark ?c_NoDeed ?eE0 ?e_NoMove ?s_NoMove ?x1_NoMove ?x2_NoMove ?x3_NoMove ?x4_NoMove ?x5_NoMove ?e_NoMark ?s_NoMark ?x1_NoMark ?x2_NoMark ?x3_NoMark ?x4_NoMark ?x5_NoMark ?e_NoDeed ?s_NoDeed ?x1_NoDeed ?x2_NoDeed ?x3_NoDeed ?x4_NoDeed ?x5_NoDeed ?v_NoMove_NoMove ?v_NoMove_NoMark ?v_NoMove_NoDeed ?v_NoMark_NoMove ?v_NoMark_NoMark ?v_NoMark_NoDeed ?v_NoDeed_NoMove ?v_NoDeed_NoMark ?v_NoDeed_NoDeed ?fv_NoMove ?fo_NoMove ?nk_NoMove ?fv_NoMark ?fo_NoMark ?nk_NoMark ?fv_NoDeed ?fo_NoDeed ?nk_NoDeed ?g_MOST_PLACES ?g_MOST_STEPS ?cm_Keeper ?pg_Keeper ?hd_Keeper ?po_Keeper ?sa_Keeper ?mk_Keeper ?kc_Keeper ?qn_Keeper ?qm_Keeper ?qc_Keeper ?qg_Keeper ?qt_Keeper ?qi_Keeper ?nf_Keeper_kept ?nf_Keeper_marks ?nf_Keeper_deeds ?nf_Keeper_powers ?nf_Keeper_made ?nf_Keeper___bool__ ?cm_Walk ?pg_Walk ?hd_Walk ?po_Walk ?sa_Walk ?mk_Walk ?kc_Walk ?qn_Walk ?qm_Walk ?qc_Walk ?qg_Walk ?qt_Walk ?qi_Walk ?nf_Walk_rows ?nf_Walk_whole ?sn_Keeper_NoneType ?sn_Keeper_int ?sn_Keeper_str ?sn_Keeper_list ?sn_Keeper_tuple ?sn_Keeper_dict ?tw1_Keeper_Walk ?tw2_Keeper_Walk ?tw3_Keeper_Walk ?nl)
  case ht=>
   refine' L2.Gy ?qa ?ql ?qc ?qd ?qe
   case qa=>k_is
   case ql=>k_is
   case qc=>exact rfl
   case qd=>k_is
   case qe=>exact rfl
  case cm_Keeper | cm_Walk=>k_is
  case cE0 | c_NoMove | c_NoMark | c_NoDeed | eE0 | e_NoMove | s_NoMove | x1_NoMove | x2_NoMove | x3_NoMove | x4_NoMove | x5_NoMove | e_NoMark | s_NoMark | x1_NoMark | x2_NoMark | x3_NoMark | x4_NoMark | x5_NoMark | e_NoDeed | s_NoDeed | x1_NoDeed | x2_NoDeed | x3_NoDeed | x4_NoDeed | x5_NoDeed | v_NoMove_NoMove | v_NoMove_NoMark | v_NoMove_NoDeed | v_NoMark_NoMove | v_NoMark_NoMark | v_NoMark_NoDeed | v_NoDeed_NoMove | v_NoDeed_NoMark | v_NoDeed_NoDeed | fv_NoMove | fo_NoMove | fv_NoMark | fo_NoMark | fv_NoDeed | fo_NoDeed | g_MOST_PLACES | g_MOST_STEPS | pg_Keeper | hd_Keeper | po_Keeper | sa_Keeper | mk_Keeper | kc_Keeper | qn_Keeper | qm_Keeper | qc_Keeper | qg_Keeper | qt_Keeper | qi_Keeper | nf_Keeper_kept | nf_Keeper_marks | nf_Keeper_deeds | nf_Keeper_powers | nf_Keeper_made | nf_Keeper___bool__ | pg_Walk | hd_Walk | po_Walk | sa_Walk | mk_Walk | kc_Walk | qn_Walk | qm_Walk | qc_Walk | qg_Walk | qt_Walk | qi_Walk | nf_Walk_rows | nf_Walk_whole | sn_Keeper_NoneType | sn_Keeper_int | sn_Keeper_str | sn_Keeper_list | sn_Keeper_tuple | sn_Keeper_dict | tw1_Keeper_Walk | tw2_Keeper_Walk | tw3_Keeper_Walk | nl=>first | k_is | k_exc | kernel_rfl
  case nk_NoMove=>
   refine' (L3.aJ false ?_ ?_ rfl (L3.aJ false ?_ ?_ rfl (L3.aJ false ?_ ?_ rfl (L3.aJ false ?_ ?_ rfl (L3.aJ false ?_ ?_ rfl (L3.aJ false ?_ ?_ rfl (L3.aJ false ?_ ?_ rfl (L3.aJ true ?_ ?_ rfl (L3.aJ false ?_ ?_ rfl (L3.aJ false ?_ ?_ rfl (L3.aJ false ?_ ?_ rfl (L3.aJ false ?_ ?_ rfl (L3.aJ false ?_ ?_ rfl (L3.aJ false ?_ ?_ rfl (L3.aJ false ?_ ?_ rfl (L3.aJ false ?_ ?_ rfl (L3.aJ false ?_ ?_ rfl (L3.aJ false ?_ ?_ rfl (L3.aJ false ?_ ?_ rfl (L3.aJ false ?_ ?_ rfl True.intro))))))))))))))))))))
   all_goals try (first | k_is | k_exc | kernel_rfl)
  case nk_NoMark=>
   refine' (L3.aJ false ?_ ?_ rfl (L3.aJ false ?_ ?_ rfl (L3.aJ false ?_ ?_ rfl (L3.aJ false ?_ ?_ rfl (L3.aJ false ?_ ?_ rfl (L3.aJ false ?_ ?_ rfl (L3.aJ true ?_ ?_ rfl (L3.aJ false ?_ ?_ rfl (L3.aJ false ?_ ?_ rfl (L3.aJ false ?_ ?_ rfl (L3.aJ false ?_ ?_ rfl (L3.aJ false ?_ ?_ rfl (L3.aJ false ?_ ?_ rfl (L3.aJ false ?_ ?_ rfl (L3.aJ false ?_ ?_ rfl (L3.aJ false ?_ ?_ rfl (L3.aJ false ?_ ?_ rfl (L3.aJ false ?_ ?_ rfl (L3.aJ false ?_ ?_ rfl (L3.aJ false ?_ ?_ rfl True.intro))))))))))))))))))))
   all_goals try (first | k_is | k_exc | kernel_rfl)
  case nk_NoDeed=>
   refine' (L3.aJ false ?_ ?_ rfl (L3.aJ false ?_ ?_ rfl (L3.aJ true ?_ ?_ rfl (L3.aJ false ?_ ?_ rfl (L3.aJ false ?_ ?_ rfl (L3.aJ false ?_ ?_ rfl (L3.aJ false ?_ ?_ rfl (L3.aJ false ?_ ?_ rfl (L3.aJ false ?_ ?_ rfl (L3.aJ false ?_ ?_ rfl (L3.aJ false ?_ ?_ rfl (L3.aJ false ?_ ?_ rfl (L3.aJ false ?_ ?_ rfl (L3.aJ false ?_ ?_ rfl (L3.aJ false ?_ ?_ rfl (L3.aJ false ?_ ?_ rfl (L3.aJ false ?_ ?_ rfl (L3.aJ false ?_ ?_ rfl (L3.aJ false ?_ ?_ rfl (L3.aJ false ?_ ?_ rfl True.intro))))))))))))))))))))
   all_goals try (first | k_is | k_exc | kernel_rfl)
  case t8 | t12 | t13 | t14 | t15 | t19 | t20 | t21 | t22 | t23 | t24 | t25 | t26 | t27 | t28 | t29 | t30 | t31 | t32=>apply L2.Ff<;>k_is
  case t0 | t1 | t2 | t3 | t4 | t5 | t6 | t7 | t9 | t10 | t11 | t16 | t17 | t18 | t33 | t34 | t35 | t36 | t37 | t38 | t39 | t40 | t41 | t42 | t43 | t44 | t45 | t46=>apply L3.Qu<;>k_is
  case z0 | z1 | z2 | z3 | z4 | z5 | z6 | z7 | z8 | z9 | z10 | z11 | z12 | z13 | z14 | z15 | z16 | z17 | z18=>delta L3.TB;k_is
