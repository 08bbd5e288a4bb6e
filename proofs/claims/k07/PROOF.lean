import PyProof.Rows.All
import Wide.All
import OpenK.AllK
import Wide.FinOn
import Lean
import PyProof.EqAt
import PyProof.EqKinds
import PyProof.TupleCall
import PyProof.ReprRoads
import PyProof.P3Eq
import PyProof.NeData
import PyProof.ReprLen
import PyProof.Rows.RegStrFacts
import PyProof.StationsW
import OpenK.KOwn
import PyProof.Rows.Catch
import PyProof.Rows.Own
import PyProof.RulesAs
import PyProof.ExcBaseAll.ValueError
import PyProof.NsDelKeeps
import OpenK.KMake
import PyProof.ExcArgsOwn
import PyProof.ExcAttrAll.ValueError
import PyProof.CompFree
import PyProof.CompMap
import PyProof.ConsumeWalk
import PyProof.SumWalk
import PyProof.Rows.TupIter
import PyProof.Rows.SumGenD
import PyProof.FString
import PyProof.Rows.FStr
import PyProof.Rows.RuleIs
import PyProof.FactsAll.tuple_iterator_1
import PyProof.FactsAll.tuple_2
import PyProof.FactsAll.list_3
import PyProof.Cells
import PyProof.ZipIter
import PyProof.EnumMake
import PyProof.EnumFor
import PyProof.ListRange
import PyProof.TupleOfSeq
import PyProof.AttrMissHeap
import KE.KDictOf
import KE.KItemsList
import KE.KDictLaws
import PyProof.DictRoadsH
import PyProof.DictValues
import PyProof.DictItemsLoops
import PyProof.DictWalks
import PyProof.Rows.SetFrom
import PyProof.Rows.SortShell
import PyProof.CollectWalk
import PyProof.FactsAll.set_1
import PyProof.Rows.SortWalk
import PyProof.FactsAll.set_2
import KE.KDictSum
import PyProof.Rows.Range3
import PyProof.Conv_bool
import KE.KRevIter
import PyProof.FactsAll.range_2
import KE.KSortTup
import PyProof.WalkInts
import PyProof.TupleKey
import PyProof.IsRules
import KE.KTupSum
import PyProof.SeqI3
import PyProof.Conv_int_bool
import PyProof.ListOps
import PyProof.CallStr
import PyProof.StrOps
import PyProof.ExcInit
import PyProof.InstStoreFacts
import OpenK.KCls
import PySem.Challenge.RW_fadewalk_k07_walks_made_of_walks
section
open PySem PySem.Spec PySem.W PySem.Calls PyProof.Rows
def Ug:=@wpAny_bind
def Uh:=@Heap.get?_push_of_some
def Ui:=@wpAny_pure
def Uj:=@List.getElem?_eq_some_iff
def Uk:=@Heap.lt_size
def Ul:=@Heap.get?_push_size
def Um:=@Nat.lt_of_lt_of_le
def Uo:=@Option.some.inj
def Up:=@Option.map_eq_some_iff
def Uq:=@List.getElem?_eq_getElem
def Ur:=@Nat.le_refl
def Us:=@wpAny_mono
def Ut:=@Nat.ne_of_lt
def Uu:=@List.getElem?_append_left
def Uv:=@if_pos
def Uw:=@List.mem_cons
def Ux:=@if_neg
def Uy:=@List.size_toArray
def Uz:=@List.length_append
def UG:=@List.getElem?_map
def UJ:=@List.mem_append_right
def UL:=@Nat.le_trans
def UT:=@Option.bind_eq_some_iff
def UV:=@List.length_map
def UW:=@List.mem_cons_self
def U0:=@Bool.false_ne_true
def U3:=@List.getElem?_set_self
def U4:=@Heap.size_push
def U5:=@List.getElem?_eq_none_iff
def U6:=@PySem.W.mg_none_of
def U7:=@List.mem_singleton
def U8:=@decide_eq_true
def U9:=@List.getD_eq_getElem?_getD
def Va:=@Bool.eq_iff_iff
def Vb:=@wpAny_callSpecial?_slot
def Vc:=@wpAny_field
def Vd:=@wpAny_newObj_type
def Ve:=@Heap.get?_update_other
def Vf:=@PassesOwn.leaving
def Vg:=@wpAny_call_entry
def Vh:=@List.mem_of_getElem?
def Vi:=@List.getElem?_append_right
def Vj:=@List.mem_cons_of_mem
def Vk:=@List.mem_map
def Vl:=@List.getElem?_set_ne
def Vm:=@decide_eq_false
def Vn:=@List.length_cons
def Vo:=@List.map_cons
def Vp:=@List.mem_append_left
def Vq:=@Nat.zero_add
def Vr:=@List.mem_append
def Vs:=@List.getElem?_range
def Vt:=@wpAny_standAt
def Vu:=@wpAny_setField
def Vv:=@List.mem_range
def Vw:=@wpAny_holding
def Vx:=@List.length_set
def Vy:=@PySem.mem_of_lookup
def Vz:=@List.length_replicate
def VB:=@List.getElem?_eq_none
def VD:=@PyProof.Rows.callWith_type1
def VF:=@Heap.get?_update_self
def VG:=@wpAny_loadPart_at
def VH:=@PySem.W.kia_one
def VJ:=@List.map_map
def VL:=@Nat.lt_succ_self
def VM:=@Array.getElem?_eq_getElem
def VN:=@of_decide_eq_true
def VP:=@Nat.not_lt
def VR:=@List.getElem?_replicate
def V0:=@List.lookup_cons
def V1:=@Nat.lt_irrefl
def V2:=@codeAny_mono
def V3:=@Int.toNat_natCast
def V4:=@List.append_assoc
def V5:=@Array.length_toList
def V6:=@List.append_nil
def V7:=@List.getElem_mem
def V8:=@PySem.W.mg_of
def V9:=@PySem.W.looks_findIn
def Wa:=@wpAny_seqItems
def Wb:=@beq_iff_eq
def Wc:=@PySem.F.plainAttrs_list
def Wd:=@wpAny_truthy_bool
def We:=@wpAny_pyIter_list
def Wf:=@wpAny_setEntries_of
def Wg:=@List.replicate_succ
def Wh:=@Heap.SameBut.update
def Wi:=@List.map_congr_left
def Wj:=@wpAny_attempt
def Wk:=@wpAny_rule
def Wl:=@Nat.lt_of_le_of_lt
def Wm:=@List.pairwise_cons
def Wn:=@PyProof.Rows.slot_tuple_getitem
def Wo:=@Nat.pow_le_pow_right
def Wq:=@codeAny_call_builtin
def Wr:=@List.mem_iff_getElem
def Ws:=@decide_eq_true_eq
def Wt:=@List.length_range
def Wu:=@beq_eq_false_iff_ne
def Wv:=@Nat.mul_le_mul
def Ww:=@wpAny_askSetting
def Wx:=@Bool.and_eq_true
def Wy:=@wpAny_Call_Name_kw
def Wz:=@Nat.ne_of_gt
def WD:=@PyProof.Rows.F.plain_set_update_loop
def WF:=@Nat.eq_zero_or_pos
def WL:=@assignInOrder_cons
def WM:=@Obj.data_mapFields
def WN:=@Obj.isFreed_of_fields
def WP:=@codeAny_builtin
def WQ:=@wpAny_passesOwn
def WR:=@Array.getElem?_eq_some_iff
def WT:=@wpAny_setState_of
def WW:=@List.flatten_cons
def WX:=@Around.under_plainId
def WY:=@wpAny_call
def W0:=@Option.isSome_iff_exists
def W2:=@List.length_take
def W3:=@plainObj_wpAny_Assign_Attribute
def W4:=@List.length_eq_zero_iff
def W5:=@List.sum_cons
def W6:=@List.nodup_cons
def W7:=@pushCells_keeps
def W8:=@PyProof.Rows.callWith_builtin1
def W9:=@Nat.zero_le
def Xa:=@PySem.W.methodCall_KW
def Xb:=@joinParts_cons
def Xd:=@wpAny_fieldsOf
def Xe:=@ReprK.of_reads
def Xf:=@F.slot_enumerate_next
def Xg:=@Nat.mul_comm
def Xh:=@List.mem_iff_getElem?
def Xi:=@Nat.succ_mul
def Xj:=@List.all_eq_true
def Xk:=@List.length_drop
def Xl:=@F.args_object_init_3
def Xm:=@List.any_eq_true
def Xn:=@PySem.F.excBase_ValueError
def Xo:=@Calls.Name_function_global
def Xp:=@Array.getElem?_eq_none_iff
def Xq:=@strLen_append
def Xr:=@Nat.le_succ
def Xu:=@Heap.get?_update_ne
def Xv:=@PySem.W.hideAll_get
def Xw:=@wpAny_isSubtype_exc
def Xx:=@slot_tupleiter_next
def Xy:=@List.filterMap_cons
def Xz:=@PySem.W.looks_clsIn
def XC:=@List.filter_eq_self
def XD:=@wpAny_execs_nil
def XF:=@codeAny_of_tree
def XH:=@List.map_append
def XJ:=@List.drop_eq_getElem_cons
def XM:=@PySem.W.of_hideAll
def XN:=@PySem.F.type_list_append
def XQ:=@List.contains_cons
def XR:=@PySem.F.args_tuple_add_2
def XS:=@Nat.le_of_lt
def XX:=@AutoSeq1.wpAny_loadPart'
def X3:=@PySem.W.callWith_K
def X4:=@PySem.F.slot_list_append
def X5:=@Code.quiet_builtin
def X6:=@PyProof.Rows.F.entry_set_update_loop
def X7:=@wpAny_typeOf
def X8:=@iter_tuple
def Yb:=@call_meets
def Yc:=@wpAny_bindName
def Yd:=@PySem.F.entry_tuple_add
def Ye:=@Nat.lt_succ_of_lt
def Yg:=@List.nodup_append
def Yh:=@fits_of_scanBound
def Yi:=@List.ext_getElem?
def Yj:=@PySem.F.slot_tuple_add
def Yk:=@PySem.W.cellsFrom_some
def Yl:=@sizeLine_eq
def Ym:=@wpAny_isInstance
def Yn:=@F.typeCall_zip_2
def Yo:=@Array.getElem?_toList
def Yp:=@List.contains_iff_mem
def Yq:=@F.newCall_zip_2
def Yr:=@Int.emod_nonneg
def Ys:=@callType_new
def Yt:=@List.range_succ
def Yu:=@List.mem_filter
def Yv:=@List.foldl_cons
def Yw:=@F.entry_zip_new
def Yx:=@List.of_mem_zip
def Yy:=@Calls.spliced_cons
def Yz:=@plainId_quiet
def YB:=@Nat.lt_trichotomy
def YC:=@Calls.spliced_nil
def YD:=@wpAny_pyIter_slot
def YF:=@Calls.call_function_entry
def YG:=@List.pairwise_iff_getElem
def YH:=@Nat.lt_trans
def YJ:=@wpAny_comprehension_free
def YK:=@IsTup.new
def YL:=@List.pairwise_lt_range
def YM:=@List.take_of_length_le
def YQ:=@Nat.mod_lt
def YS:=@List.map_nil
end
set_option Elab.async false
set_option maxRecDepth 100000
set_option maxHeartbeats 8000000
namespace T
open PySem PySem.W PyProof.Rows
/-- the top's run over a tree -/
noncomputable def runT(p:Program)(w:World)(m:Nat)(a:Option Value):Nat->SharedT->Thread->Option SharedT
 | 0,_,_=>none
 | n + 1,s,t=>match through t with
   | true=>some s
   | false=>match stepOk m a t with
     | false=>none
     | true=>match stepT (denote treeTable) p w s t with
       | some r=>runT p w m a n r.1 r.2
       | none=>none
theorem run_of{p:Program}{w:World}{m:Nat}{a:Option Value}:∀ {n:Nat}{s s':SharedT}{t:Thread},runT p w m a n s t=some s'->topRun treeTable p w m a n s.abs t=some s'.abs
 | 0,_,_,_,h=>by cases h
 | n + 1,s,s',t,h=>by
   unfold runT at h;unfold topRun;cases ht:through t with
   | true=>rw [ht]at h;cases h;rfl
   | false=>
     rw [ht]at h;cases hk:stepOk m a t with
     | false=>rw [hk]at h;cases h
     | true=>
       rw [hk]at h;cases hs:stepT (denote treeTable) p w s t with
       | none=>rw [hs]at h;cases h
       | some r=>obtain ⟨s2,t2⟩:=r;rw [hs]at h;rw [stepT_spec hs];exact run_of h
noncomputable def grow:List Obj->Nat->BT->BT
 | [],_,t=>t
 | o::l,n,t=>grow l (n + 1) (t.ins n o)
noncomputable def bootT(B:Heap)(os:OsState):SharedT:=⟨grow B.objs.toList 0 .nil,B.objs.size,B.life,#[],boot_drawn,boot_toks,os⟩
noncomputable def bootA(w:World)(os:OsState):Shared:=⟨boot_heap w.params,#[],boot_drawn,boot_toks,os⟩
def boot_abs(w:World)(os:OsState):(bootT (boot_heap w.params) os).abs=bootA w os:=by kernel_rfl
def boot_ns(w:World):((boot_heap w.params).isNs mainGlobals && (#[]:Array GenState).size == 0)=true:=by kernel_rfl
noncomputable def chk{α:Type}(p q:Program)(loose:List Str)(Xt:Shared->Bool)(Yf:Shared->α)(N:Nat)(B:Heap)(w:World)(os:OsState):=
 (runT p w B.objs.size (B.nsMap mainGlobals "__annotations__") N (bootT B os) (topStub p)).map λs=>
   (staticsOk (importedModules p.main.body) B s.abs.heap && namesBound p s.abs.heap && gensDone s.abs && laidKept B s.abs.heap,openSeen q loose (importedModules p.main.body) Xt true s.abs,Yf s.abs)
def left{α:Type}{p q:Program}{loose:List Str}{Xt:Shared->Bool}{Yf:Shared->α}{Ya:World->α}{N:Nat}(e:opening p=plainProg p.main.scope.names)(hN:Nat.ble 600 N=true)(f:∀ s,fenceModules? p s=some s)
  (h:∀ (w:World) (os:OsState),chk p q loose Xt Yf N (boot_heap w.params) w os=some (true,openGood q loose,Ya w)):LeftO p q loose Xt Yf Ya N:=λw=>by
 obtain ⟨⟨hh,gs,d,k,os⟩,e1,e2⟩:=Up.mp (boot_open (N:=N) e hN f w);obtain ⟨rfl,rfl,rfl,rfl⟩:hh=boot_heap w.params/\gs=#[]/\d=boot_drawn/\k=boot_toks:=by simpa using e2
 obtain ⟨s,r1,r2⟩:=Up.mp (h w os);have r:=run_of r1;rw [boot_abs]at r;obtain ⟨l1,l2,l3⟩:_/\_/\_:=by simpa only [Prod.mk.injEq] using r2
 unfold openEnds topFrom;rw [e1];show (match (boot_heap w.params).isNs mainGlobals && (#[]:Array GenState).size == 0 with | true=>_ | false=>_:Option Shared).map _=_
 rw [boot_ns];show ((topRun treeTable p w (boot_heap w.params).objs.size _ N (bootA w os) (topStub p)).bind _).map _=_;rw [r];show (match staticsOk (importedModules p.main.body) (boot_heap w.params) s.abs.heap && namesBound p s.abs.heap && gensDone s.abs && laidKept (boot_heap w.params) s.abs.heap with | true=>_ | false=>_:Option Shared).map _=_
 rw [l1];show some (openSeen q loose (importedModules p.main.body) Xt true s.abs,Yf s.abs)=some _;rw [l2,l3]
noncomputable def tp(i:Nat):Stmt:=PySem.Challenge.pw_fadewalk_k07_walks_made_of_walks.main.body.getD i (.Pass ⟨0,0,0,0⟩)
noncomputable def view:Program:={ PySem.Challenge.pw_fadewalk_k07_walks_made_of_walks with main:={ PySem.Challenge.pw_fadewalk_k07_walks_made_of_walks.main with body:=[tp 0,tp 2,tp 3,tp 4,tp 5,tp 6,tp 7,tp 8,tp 9,tp 11,tp 12,tp 14,tp 15,tp 16,tp 17,tp 18,tp 20,tp 21,tp 22,tp 23,tp 24,tp 25,tp 27,tp 28,tp 30,tp 31,tp 33,tp 34,tp 35,tp 36,tp 37,tp 38,tp 39,tp 40,tp 41,tp 42,tp 43,tp 44,tp 45,tp 46,tp 47,tp 48,tp 49] } }
noncomputable def loos:List Str:=["Walk", "lazy"]
noncomputable def lvs:List (Str×WData):=[]
noncomputable def lhs(B:Heap)(as ts:List Addr)(w:World)(os:OsState):=chk PySem.Challenge.pw_fadewalk_k07_walks_made_of_walks view loos (λs=>xlAt view lvs s && recOk (RowW.records (OpenRow.toRowW (OpenLaw.row PySem.Challenge.rw_fadewalk_k07_walks_made_of_walks))) s) (λs=>(as.map s.heap.get?,ts.map s.heap.get?)) 6428 B w os
noncomputable def rhs(K:Params->Frag)(ts:List Addr)(w:World):=some (true,openGood view loos,((K w.params).map λp=>some p.2,ts.map λ_=>some (tabObj #[])))
end T
noncomputable def PySem.W.Fast.tw1396970019764828615:PySem.Program:=PySem.Challenge.pw_fadewalk_k07_walks_made_of_walks
def PySem.W.Fast.te1396970019764828615:PySem.Challenge.pw_fadewalk_k07_walks_made_of_walks=PySem.W.Fast.tw1396970019764828615:=rfl
namespace T
open PySem PySem.W PyProof.Rows
lay_quick T.lhs T.rhs
def hook{K:Params->Frag}{as:List Addr}{e:∀ P,as=(K P).map (·.1)}{ts:List Addr}(h:∀ (w:World) (os:OsState),PySem.W.Fast.tw12313586583820656202 (boot_heap w.params) as ts w os=PySem.W.Fast.tw7420988445182104193 K ts w):
  LeftO PySem.Challenge.pw_fadewalk_k07_walks_made_of_walks view loos (λs=>xlAt view lvs s && recOk (RowW.records (OpenRow.toRowW (OpenLaw.row PySem.Challenge.rw_fadewalk_k07_walks_made_of_walks))) s) (Hook.obs (kmHook K as e ts)) (Hook.val (kmHook K as e ts)) 6428:=
 left rfl (by decide) (λ_=>rfl) λw os=>by show lhs (boot_heap w.params) as ts w os=rhs K ts w;rw [PySem.W.Fast.te12313586583820656202,PySem.W.Fast.te7420988445182104193];exact h w os
local macro_rules
 | `(tactic| o_head $H)=>`(tactic| (
   refine PySem.W.holds_open (q:=T.view) (loose:=T.loos)
    (Xt:=λs=>PySem.W.xlAt T.view T.lvs s && PySem.W.recOk (PySem.W.RowW.records (PySem.W.OpenRow.toRowW (PySem.W.OpenLaw.row PySem.Challenge.rw_fadewalk_k07_walks_made_of_walks))) s)
    (XP:=PySem.W.XL T.view T.lvs) (Yf:=PySem.W.Hook.obs $H) (Ya:=PySem.W.Hook.val $H)
    (YP:=PySem.W.Hook.says $H) (N:=6428) ?hl (PySem.W.Hook.of $H) (PySem.W.Hook.keeps $H)
    (λs e=>PySem.W.xl_of s (Bool.and_eq_true_iff.mp e).1) PySem.W.XL.keeps rfl rfl rfl
    (λs e=>PySem.W.recFacts_of (Bool.and_eq_true_iff.mp e).2) rfl
    (by first | assumption | decide +kernel) (by decide +kernel)
    ⟨rfl,rfl,rfl,rfl,rfl,by decide +kernel⟩ ?hw ?hc;(case hl=>exact T.hook (λw os=>by kernel_rfl))))
open_top cut for PySem.Challenge.rw_fadewalk_k07_walks_made_of_walks
end T
set_option linter.all false
set_option tactic.hygienic false
set_option bootstrap.genMatcherCode false
namespace L2
open PySem PySem.Spec PyProof.Rows
abbrev Key:=Sum Int Str
def keyIs:Key->Value->Bool
 |.inl k,v=>Value.isInt k v
 |.inr x,v=>Value.isStrOf x v
def keyH(w:World):Key->Int
 |.inl k=>hashInt k
 |.inr x=>hashStr w x
def keyIs_shape:∀ {k:Key}{v:Value},keyIs k v=true->(∃ i t,k=Sum.inl i/\v=Value.int i t)\/(∃ x t,k=Sum.inr x/\v=Value.str x t)
 |.inl i,v,h=>by obtain⟨t,e⟩:=Value.isInt_shape (k:=i) (v:=v) h;exact .inl ⟨i,t,rfl,e⟩
 |.inr x,v,h=>by obtain⟨t,e⟩:=Value.isStrOf_shape (x:=x) (v:=v) h;exact .inr ⟨x,t,rfl,e⟩
def key_ll(a b:Int):decide ((Sum.inl a:Key)=Sum.inl b)=(a==b):=by
 by_cases e:a=b
 ·subst e;simp
 ·have h:¬ (Sum.inl a:Key)=Sum.inl b:=λq=>e (Sum.inl.inj q)
  rw[Vm h];exact (Wu.mpr e).symm
def key_rr(a b:Str):decide ((Sum.inr a:Key)=Sum.inr b)=decide (a=b):=by
 by_cases e:a=b
 ·subst e;simp
 ·have h:¬ (Sum.inr a:Key)=Sum.inr b:=λq=>e (Sum.inr.inj q)
  rw[Vm h,Vm e]
def key_lr(a:Int)(b:Str):decide ((Sum.inl a:Key)=Sum.inr b)=false:=Vm (λq=>nomatch q)
def key_rl(a:Str)(b:Int):decide ((Sum.inr a:Key)=Sum.inl b)=false:=Vm (λq=>nomatch q)
def mixKind(prog:Program)(w:World):PySem.KeyKind prog w Key where
 is:=keyIs
 hash:=keyH w
 inj:=λv a b ha hb=>by
  rcases keyIs_shape ha with ⟨i,t,rfl,rfl⟩ | ⟨x,t,rfl,rfl⟩
  ·rcases keyIs_shape hb with ⟨j,u,rfl,e⟩ | ⟨y,u,rfl,e⟩
   ·injection e with e1 _;rw[e1]
   ·exact nomatch e
  ·rcases keyIs_shape hb with ⟨j,u,rfl,e⟩ | ⟨y,u,rfl,e⟩
   ·exact nomatch e
   ·injection e with e1 _;rw[e1]
 byValue:=λk v h=>by rcases keyIs_shape h with ⟨i,t,rfl,rfl⟩ | ⟨x,t,rfl,rfl⟩<;>rfl
 pyHash:=λhv h=>by
  rcases keyIs_shape hv with ⟨i,t,rfl,rfl⟩ | ⟨x,t,rfl,rfl⟩
  ·exact wpAny_pyHash_int h
  ·exact wpAny_pyHash_str h
 eqBool:=λhu hv h=>by
  rcases keyIs_shape hu with ⟨i,t,rfl,rfl⟩ | ⟨x,t,rfl,rfl⟩
  ·rcases keyIs_shape hv with ⟨j,u,rfl,rfl⟩ | ⟨y,u,rfl,rfl⟩
   ·rw[key_ll]at h;exact wpAny_eqBool_int h
   ·rw[key_lr]at h;exact SeqAt.EqAt.int_str i t y u _ _ _ _ h
  ·rcases keyIs_shape hv with ⟨j,u,rfl,rfl⟩ | ⟨y,u,rfl,rfl⟩
   ·rw[key_rl]at h;exact SeqAt.EqAt.str_int x t j u _ _ _ _ h
   ·rw[key_rr]at h;exact wpAny_eqBool_str h
 «strs»:=λk x t v h=>by
  rcases keyIs_shape h with ⟨i,u,rfl,e⟩ | ⟨y,u,rfl,e⟩
  ·exact nomatch e
  ·injection e with e1 _
   subst e1;cases v<;>rfl
open PySem PySem.Spec PyProof.Rows
inductive V where
 |non | bl (b:Bool) | int (i:Int) | str (x:Str) | byt (b:Array UInt8) | flt (b:UInt64) | ref (a:Addr) | ty (n:String)
 deriving DecidableEq
def RelV:V->Value->Prop
 |.non,u=>u=Value.none
 |.bl b,u=>u=Value.bool b
 |.int i,u=>∃t,u=Value.int i t
 |.str x,u=>∃t,u=Value.str x t
 |.byt b,u=>∃t,u=Value.bytes b t
 |.flt b,u=>∃t,u=Value.float b t
 |.ref a,u=>u=Value.ref a
 |.ty n,u=>u=Value.type n
abbrev Vals:List V->List Value->Prop:=Paired RelV
theorem Vals.length(r:Vals xs us):xs.length=us.length:=Paired.length r
theorem Vals.get:∀ {xs:List V}{us:List Value}{i:Nat}{x:V},Vals xs us->xs[i]?=some x->∃ u,us[i]?=some u/\RelV x u
 |_,_,_,_,.nil,e=>by simp at e
 |_,_,0,_,.cons r _,e=>by simp at e;subst e;exact⟨_,rfl,r⟩
 |_,_,i+1,x,.cons _ t,e=>by
   obtain⟨u,h1,h2⟩:=Vals.get (i:=i) (x:=x) t (by simpa using e)
   exact⟨u,by simpa using h1,h2⟩
theorem Vals.set(r:RelV x u):∀{xs:List V}{us:List Value} (i:Nat),Vals xs us->Vals (xs.set i x) (us.set i u)
 |_,_,_,.nil=>.nil
 |_,_,0,.cons _ t=>.cons r t
 |_,_,i+1,.cons q t=>.cons q (Vals.set r i t)
theorem Vals.append:∀{xs ys:List V}{us ws:List Value},Vals xs us->Vals ys ws->Vals (xs++ys) (us++ws)
 |_,_,_,_,.nil,s=>s
 |_,_,_,_,.cons r t,s=>.cons r (Vals.append t s)
theorem Vals.take:∀{xs:List V}{us:List Value} (n:Nat),Vals xs us->Vals (xs.take n) (us.take n)
 |_,_,0,_=>.nil
 |_,_,_+1,.nil=>.nil
 |_,_,n+1,.cons r t=>.cons r (Vals.take n t)
theorem Vals.drop:∀{xs:List V}{us:List Value} (n:Nat),Vals xs us->Vals (xs.drop n) (us.drop n)
 |_,_,0,r=>r
 |_,_,_+1,.nil=>.nil
 |_,_,n+1,.cons _ t=>Vals.drop n t
def Vals.none_of:∀{xs:List V}{us:List Value}{i:Nat},Vals xs us->xs[i]?=none->us[i]?=none:=λ{xs us i} r e=>by have h1:=r.length;have h2:xs.length<=i:=U5.mp e;exact U5.mpr (by lia)
def RelO:Option V->Option Value->Prop
 |some v,some u=>RelV v u
 |none,none=>True
 |_,_=>False
def KV{κ:Type}:List (κ×V)->List (κ×Value)->Prop:=Paired λ(p:κ×V) (q:κ×Value)=>p.1=q.1/\RelV p.2 q.2
def kV:Key->V
 |.inl i=>.int i
 |.inr x=>.str x
inductive HO where
 /-- a list -/
 |lst (xs:List V)
 /-- a tuple (never changes) -/
 |tup (xs:List V)
 /-- a dict whose keys are ints and texts;one whose keys are tuples of ints and texts (the empty one is both) -/
 |dK (kvs:List (Key×V)) | dT (kvs:List (List Key×V))
 /-- a set of ints: its members,its size -/
 |set (S:Int->Bool) (n:Nat)
 /-- an instance of the class at C,its dict at dx,its attributes -/
 |ins (C dx:Addr) (fs:List (Str×V))
 /-- the dict of the instance at x -/
 |own (x:Addr)
 /-- the dict of an exception -/
 |xd (fs:List (Str×V))
 /-- a bound method,f of x -/
 |met (f x:Addr)
 /-- a range object lo,lo+1,.. below hi -/
 |rng (lo hi:Int)
 /-- a thing that is known to the object (the script;a dict while a loop walks it): read,never written while it is so -/
 |frz (o:Obj) (u:HO)
 /-- a code object's table -/
 |tbl (ps:Array Value)
 /-- any other thing,by what is true of its one object (a def of one's own: SetO a S n:=HO.ext λh=>..) -/
 |ext (φ:Heap->Prop)
abbrev Hp:=Addr->Option HO
def upd(H:Hp)(a:Addr)(o:HO):Hp:=λb=>if b=a then some o else H b
def upd_same{H:Hp}{a:Addr}{o:HO}:upd H a o a=some o:=by unfold upd;rw[Uv rfl]
def upd_ne{H:Hp}{a b:Addr}{o:HO}(h:b≠a):upd H a o b=H b:=by unfold upd;rw[Ux h]
def upd_upd:upd (upd H a o) a u=upd H a u:=by funext b;unfold upd;split<;>rfl
def ne_of_none{H:Hp}{a b:Addr}{o:HO}(h:H a=some o)(h':H b=none):a≠b:=by intro e;subst e;rw[h]at h';cases h'
def RecAt(H:Hp)(v:Value):Prop:=∃c o fs q t,v=.ref c/\H c=some (.frz o (.own c))/\o.data=.fields fs/\fs[1]?=some (.str q t)
section
variable(P:Program)(w:World)
def ObjOk(H:Hp)(h:Heap)(a:Addr):HO->Prop
 |.lst xs=>xs.length<=sizeLine/\∃(its:List Value) (n:Nat),Vals xs its/\h.get? a=some { cls:=.type "list",data:=.seq its.toArray n }
 |.tup xs=>xs.length<=sizeLine/\∃its:List Value,Vals xs its/\IsTup h a its.toArray
 |.dK kvs=>kvs.length<=sizeLine/\(a==sysModules)=false/\∃vs,KV kvs vs/\h.DictOf (mixKind P w) a vs
 |.dT kvs=>kvs.length<=sizeLine/\(a==sysModules)=false/\∃xs:List (List Key×Addr×Value),
   Paired (λ(p:List Key×V) (q:List Key×Addr×Value)=>p.1=q.1/\H q.2.1=some (.tup (p.1.map kV))/\RelV p.2 q.2.2) kvs xs /\
   ∃o es ep,h.get? a=some o/\o.ExactDict/\o.data=.dict es ep/\es.toList=xs.map (entryOfKey (tupleKind (mixKind P w)))/\(xs.map (·.1)).Nodup
 |.set S n=>h.SetOf (intKind P w) a S n
 |.ins C dx fs=>H dx=some (.own a)/\fs.length<=1000/\dx≠a/\h.get? a=some (PySem.W.instObj C dx) /\
   ∃mA,h.Ns1 dx mA/\(∀f,RelO (fs.lookup f) (mA f))/\PySem.Within mA (fs.map (·.1))
 |.own _=>∃o,h.get? a=some o
 |.xd fs=>∃mA,h.Ns1 a mA/\∀f,RelO (fs.lookup f) (mA f)
 |.rng lo hi=>∃t u v,h.get? a=some { cls:=.type "range",data:=.fields #[.int lo t,.int hi u,.int 1 v] }
 |.frz o u=>h.get? a=some o/\ObjOk H h a u
 |.tbl _=>∃ps:Array Value,h.get? a=some { cls:=.none,data:=.fields ps }/\TriplesOk ps.toList/\∀pos cv,codeAmong pos ps.toList=some cv->RecAt H cv
 |.met f x=>h.get? a=some (PySem.W.methodObj (.ref f) (.ref x))
 |.ext φ=>φ h/\(∃o,h.get? a=some o)/\∀h1 h2:Heap,φ h1->(∀o,h1.get? a=some o->h2.get? a=some o)->φ h2
def HOk(H:Hp)(h:Heap):Prop:=∀a o,H a=some o->ObjOk P w H h a o
end
section
variable{P:Program}{w:World}{H H':Hp}{h h':Heap}{a:Addr}{o:HO}
theorem ObjOk.lt(x:ObjOk P w H h a o):a<h.objs.size:=by
 cases o with
 |lst xs=>obtain⟨_,_,_,_,e⟩:=x;exact Uk e
 |tup xs=>obtain⟨_,_,_,p⟩:=x;exact p.lt
 |dK kvs=>obtain⟨_,_,_,_,o,_,_,e,_⟩:=x;exact Uk e
 |dT kvs=>obtain⟨_,_,_,_,o,_,_,e,_⟩:=x;exact Uk e
 |set S n=>obtain⟨o,_,_,_,e,_⟩:=x;exact Uk e
 |ins C dx fs=>obtain⟨_,_,_,e,_⟩:=x;exact Uk e
 |own y=>obtain⟨_,e⟩:=x;exact Uk e
 |xd fs=>obtain⟨_,⟨_,_,_,e,_⟩,_⟩:=x;exact Uk e
 |rng lo hi=>obtain⟨_,_,_,e⟩:=x;exact Uk e
 |frz ob u=>obtain⟨e,_⟩:=x;exact Uk e
 |tbl ps=>obtain⟨_,e,_⟩:=x;exact Uk e
 |met f y=>exact Uk (show h.get? a=some _ from x)
 |ext φ=>obtain⟨_,⟨_,e⟩,_⟩:=x;exact Uk e
theorem Paired.mapP:∀{l₁:List α}{l₂:List β},Paired F l₁ l₂->(∀a b,F a b->G a b)->Paired G l₁ l₂
 |_,_,.nil,_=>.nil
 |_,_,.cons r t,f=>.cons (f _ _ r) (Paired.mapP t f)
def ObjOk.stay(x:ObjOk P w H h a o)(k:∀ b u,(b=a\/H b=some (.own a))->h.get? b=some u->h'.get? b=some u)
  (ho:∀b,H b=some (.own a)->H' b=some (.own a)) (ht:∀b xs,H b=some (.tup xs)->H' b=some (.tup xs)) (hf:∀b o,H b=some (.frz o (.own b))->H' b=some (.frz o (.own b)):=by exact λs s q=>q):ObjOk P w H' h' a o:=by
 induction o with
 |lst xs=>obtain⟨z,its,n,r,e⟩:=x;exact⟨z,its,n,r,k _ _ (.inl rfl) e⟩
 |tup xs=>obtain⟨z,its,r,ob,e,c⟩:=x;exact⟨z,its,r,ob,k _ _ (.inl rfl) e,c⟩
 |dK kvs=>obtain⟨z,y,vs,r,ob,es,ep,e,c⟩:=x;exact⟨z,y,vs,r,ob,es,ep,k _ _ (.inl rfl) e,c⟩
 |dT kvs=>obtain⟨z,y,xs,r,ob,es,ep,e,c⟩:=x;exact⟨z,y,xs,Paired.mapP r λp q z=>⟨z.1,ht _ _ z.2.1,z.2.2⟩,ob,es,ep,k _ _ (.inl rfl) e,c⟩
 |set S n=>obtain⟨ob,es,ep,t,e,c⟩:=x;exact⟨ob,es,ep,t,k _ _ (.inl rfl) e,c⟩
 |ins C dx fs=>obtain⟨d,z,ne,e,mA,⟨od,es,ep,e2,c⟩,r⟩:=x;exact⟨ho _ d,z,ne,k _ _ (.inl rfl) e,mA,⟨od,es,ep,k _ _ (.inr d) e2,c⟩,r⟩
 |own y=>obtain⟨ob,e⟩:=x;exact⟨ob,k _ _ (.inl rfl) e⟩
 |xd fs=>obtain⟨mA,⟨od,es,ep,e,c⟩,r⟩:=x;exact⟨mA,⟨od,es,ep,k _ _ (.inl rfl) e,c⟩,r⟩
 |rng lo hi=>obtain⟨t,u,v,e⟩:=x;exact⟨t,u,v,k _ _ (.inl rfl) e⟩
 |frz ob u ih=>obtain⟨e,q⟩:=x;exact⟨k _ _ (.inl rfl) e,ih q⟩
 |tbl ps=>obtain⟨ps',e,z,r⟩:=x;exact⟨ps',k a _ (.inl rfl) e,z,λpos cv q=>let ⟨c,o,fs,q',t,g1,g2,g3⟩:=r pos cv q;⟨c,o,fs,q',t,g1,hf c o g2,g3⟩⟩
 |met f y=>have e:h.get? a=some (PySem.W.methodObj (.ref f) (.ref y)):=x;show h'.get? a=some (PySem.W.methodObj (.ref f) (.ref y));exact k a _ (.inl rfl) e
 |ext φ=>obtain⟨p,⟨o,e⟩,st⟩:=x;exact⟨st _ _ p λo q=>k _ _ (.inl rfl) q,⟨o,k _ _ (.inl rfl) e⟩,st⟩
theorem HOk.lt(x:HOk P w H h)(e:H a=some o):a<h.objs.size:=(x a o e).lt
def HOk.fresh(x:HOk P w H h)(e:h.objs.size<=a):H a=none:=by
 cases q:H a with
 |none=>rfl
 |some u=>exact absurd (Um (x.lt q) e) (V1 _)
def HOk.kept(x:HOk P w H h)(k:∀b u,h.get? b=some u->h'.get? b=some u):HOk P w H h':=λa o e=>
 (x a o e).stay (λb u z q=>k b u q) (λz q=>q) λz z q=>q
def HOk.laid(x:HOk P w H h)(k:∀b u,h.get? b=some u->h'.get? b=some u)(hp:h.objs.size<=a)(new:ObjOk P w (upd H a o) h' a o):HOk P w (upd H a o) h':=λb u e=>by
 have hn:=x.fresh hp;by_cases hb:b=a
 ·subst hb;rw[upd_same]at e;cases e;exact new
 ·rw[upd_ne hb]at e;exact (x b u e).stay (λc v z q=>k c v q) (λc q=>by rw[upd_ne (ne_of_none q hn)];exact q) (λc xs q=>by rw[upd_ne (ne_of_none q hn)];exact q) λc o q=>by rw[upd_ne (ne_of_none q hn)];exact q
end
def Rd(H:Hp)(a:Addr)(u:HO):Prop:=H a=some u\/∃o,H a=some (.frz o u)
def Rd.ok(r:Rd H a u)(x:HOk P w H h):ObjOk P w H h a u:=by
 rcases r with r | ⟨o,r⟩
 ·exact x a u r
 ·obtain⟨_,q⟩:=x a _ r;exact q
def Mut:Option HO->Prop
 |some (.lst _)=>True
 |some (.dK _)=>True
 |some (.dT _)=>True
 |some (.set _ _)=>True
 |some (.ins _ _ _)=>True
 |some (.ext _)=>True
 |_=>False
section
variable{P:Program}{w:World}{H:Hp}{h h':Heap}{x e:Addr}{o':HO}
def HOk.write(ok:HOk P w H h)(mu:Mut (H x))(he:e=x\/H e=some (.own x))(k:∀ b u,b≠e->h.get? b=some u->h'.get? b=some u)(heo:∃ u,h'.get? e=some u)
  (new:ObjOk P w (upd H x o') h' x o'):HOk P w (upd H x o') h':=λb u q=>by
 have nown:∀c y,H c=some (.own y)->c≠x:=λc y r z=>by subst z;rw[r]at mu;exact mu
 have ntup:∀c xs,H c=some (.tup xs)->c≠x:=λc xs r z=>by subst z;rw[r]at mu;exact mu
 have nfrz:∀c o u,H c=some (.frz o u)->c≠x:=λc o u r z=>by subst z;rw[r]at mu;exact mu
 by_cases hb:b=x
 ·subst hb;rw[upd_same]at q;cases q;exact new
 ·rw [upd_ne hb]at q;by_cases hbe:b=e
  ·have q':H b=some (.own x):=by
    rcases he with z | z
    ·exact absurd (hbe.trans z) hb
    ·rw[hbe];exact z
   rw[q]at q';cases q';obtain⟨v,hv⟩:=heo;exact⟨v,by rw[hbe];exact hv⟩
  ·refine (ok b u q).stay (λc v hc r=>k c v ?_ r) (λc r=>by rw[upd_ne (nown c b r)];exact r) (λc xs r=>by rw[upd_ne (ntup c xs r)];exact r) λc o r=>by rw[upd_ne (nfrz c o _ r)];exact r
   rcases hc with rfl | hc
   ·exact hbe
   ·rintro rfl;rcases he with z | z
    ·exact nown c b hc z
    ·rw[hc]at z;cases z;exact hb rfl
end
structure Un(fs ex:List Addr)(H H':Hp)(h h':Heap):Prop where
 keep:∀b o,h.get? b=some o->H b=none->b∉fs->b∉ex->h'.get? b=some o
 slot:∀b o,h.get? b=some o->H b=none->b∈fs->b∉ex->∃sl,h'.get? b=some { o with slots:=sl }
 free:∀b o,h.get? b=some o->H b=none->b∉ex->H' b=none
 there:∀b o,h.get? b=some o->b∉ex->∃o',h'.get? b=some o'
 tups:∀b xs,H b=some (.tup xs)->H' b=some (.tup xs)
 frzs:∀b o u,H b=some (.frz o u)->H' b=some (.frz o u)
 tbls:∀b ps,H b=some (.tbl ps)->∃more,H' b=some (.tbl (ps++more))
section
variable{fs fs' ex ex':List Addr}{H H1 H2:Hp}{h h1 h2 h':Heap}{a x e:Addr}{o:HO}
def Un.any(u:Un fs ex H H1 h h1)(q:h.get? b=some ob)(n:H b=none)(hx:b∉ex):∃sl,h1.get? b=some { ob with slots:=sl }:=by
 by_cases hb:b∈fs
 ·exact u.slot b ob q n hb hx
 ·exact⟨ob.slots,u.keep b ob q n hb hx⟩
def Un.trans(a:Un fs ex H H1 h h1)(b:Un fs ex H1 H2 h1 h2):Un fs ex H H2 h h2 where
 keep:=λc ob q n hc hx=>b.keep c ob (a.keep c ob q n hc hx) (a.free c ob q n hx) hc hx
 slot:=λc ob q n hc hx=>by obtain⟨sl,e1⟩:=a.slot c ob q n hc hx;obtain⟨sl',e2⟩:=b.slot c _ e1 (a.free c ob q n hx) hc hx;exact⟨sl',e2⟩
 free:=λc ob q n hx=>by obtain⟨o',e1⟩:=a.there c ob q hx;exact b.free c o' e1 (a.free c ob q n hx) hx
 there:=λc ob q hx=>by obtain⟨o',e1⟩:=a.there c ob q hx;exact b.there c o' e1 hx
 tups:=λc xs q=>b.tups c xs (a.tups c xs q)
 frzs:=λc ob xs q=>b.frzs c ob xs (a.frzs c ob xs q)
 tbls:=λc ps q=>by obtain⟨m1,e1⟩:=a.tbls c ps q;obtain⟨m2,e2⟩:=b.tbls c _ e1;exact⟨m1++m2,by rw[e2,Array.append_assoc]⟩
def Un.kept(k:∀b u,h.get? b=some u->h'.get? b=some u):Un fs ex H H h h':=
 ⟨λb ob q z z z=>k b ob q,λb ob q z z z=>⟨ob.slots,k b ob q⟩,λz z z n z=>n,λb ob q z=>⟨ob,k b ob q⟩,λz z q=>q,λz z z q=>q,λz ps q=>⟨#[],by rw[q];simp⟩⟩
def Un.refl:Un fs ex H H h h:=Un.kept λz z q=>q
def Un.laid(k:∀b u,h.get? b=some u->h'.get? b=some u)(hp:h.objs.size<=a)(hn:H a=none):Un fs ex H (upd H a o) h h' where
 keep:=λb u q z z z=>k b u q
 slot:=λb u q z z z=>⟨u.slots,k b u q⟩
 free:=λb u q n z=>by rw[upd_ne (Ut (Um (Uk q) hp))];exact n
 there:=λb u q z=>⟨u,k b u q⟩
 tups:=λb xs q=>by rw[upd_ne (ne_of_none q hn)];exact q
 frzs:=λb u xs q=>by rw[upd_ne (ne_of_none q hn)];exact q
 tbls:=λb ps q=>⟨#[],by rw[upd_ne (ne_of_none q hn),q];simp⟩
def Un.write(mu:Mut (H x))(he:e=x\/H e=some (.own x))(k:∀b u,b≠e->h.get? b=some u->h'.get? b=some u)(heo:∃u,h'.get? e=some u):Un fs ex H (upd H x o) h h':=by
 have hx:∀b,H b=none->b≠x:=λb n z=>by subst z;rw[n]at mu;exact mu
 have hb:∀b,H b=none->b≠e:=λb n z=>by
  subst z;rcases he with r | r
  ·exact hx b n r
  ·rw[n]at r;cases r
 have hm:∀b u,H b=some u->¬ Mut (some u)->b≠x:=λb u q nm z=>by subst z;rw[q]at mu;exact nm mu
 refine⟨λb u q n y y=>k b u (hb b n) q,λb u q n y y=>⟨u.slots,k b u (hb b n) q⟩,λb u q n y=>by rw[upd_ne (hx b n)];exact n,λb u q y=>?_,
  λb xs q=>by rw[upd_ne (hm b _ q λz=>z)];exact q,λb u xs q=>by rw[upd_ne (hm b _ q λz=>z)];exact q,λb ps q=>⟨#[],by rw[upd_ne (hm b _ q λz=>z),q];simp⟩⟩
 by_cases hbe:b=e
 ·subst hbe;exact heo
 ·exact⟨u,k b u hbe q⟩
end
def trk(h:Heap)(H:Hp):List Addr:=(List.range h.objs.size).filter λa=>(H a).isSome
def hidT(h:Heap)(H:Hp):Heap:=PySem.W.hideAll h (trk h H)
def hidT_size(h:Heap)(H:Hp):(hidT h H).objs.size=h.objs.size:=PySem.W.hideAll_size _ _
def hidT_get(e:h.get? b=some o)(n:H b=none):(hidT h H).get? b=some o:=
 Xv _ e λhm=>by have q:(H b).isSome=true:=(Yu.mp hm).2;rw[n]at q;simp at q
def of_hidT(e:(hidT h H).get? b=some o):h.get? b=some o/\H b=none:=by
 have e':h.get? b=some o:=XM (trk h H) e;refine⟨e',?_⟩;cases q:H b with
 |none=>rfl
 |some x=>
   have hm:b∈trk h H:=Yu.mpr ⟨Vv.mpr (Uk e'),by simp[q]⟩
   have z:(hidT h H).get? b=none:=PySem.W.hideAll_none (trk h H) hm;rw[z]at e;cases e
def allNews(g h:Heap)(L:Addr):List (Addr×Obj):=(List.range h.objs.size).filterMap λa=>if a=L\/(g.get? a).isSome=true then none else (h.get? a).map λo=>(a,o)
def rest(g h:Heap)(L d:Addr):List (Addr×Obj):=(allNews g h L).filter λp=>decide (p.1≠d)
open PySem PySem.Spec PyProof.Rows
structure Mod(K:PySem.W.Frag)(mg:Str->Option Value)(base:Heap):Prop where
 kin:K.In base
 glob:base.Ns mainGlobals mg
 blt:∃mb,base.Ns builtinsNs mb/\∀x:Str,x≠"__name__"->mb x=bootBuiltins x
 nolimit:base.NoLimit
structure Cx where
 prog:Program
 w:World
 K:PySem.W.Frag
 mg:Str->Option Value
 base:Heap
 A:Around
 N:List Str
 s₀:Shared
 H₀:Hp
 env:Env
 outer:List Env
 stack:List Env
 ex:List Addr
 fn:Str->Bool
 calm:Bool
 pn:List (Addr×Obj)
 xe:Value->Shared->Prop
def frs(l:List Env):List Addr:=l.filterMap (·.frame)
abbrev Cx.fs(X:Cx):List Addr:=frs X.outer
def Vis(sc:Scope)(x:Str):Prop:=sc.names.lookup x=some .local\/sc.names.lookup x=some .cell\/sc.names.lookup x=some .free
def Loc(sc:Scope)(x:Str):Prop:=sc.names.lookup x=some .local\/sc.names.lookup x=some .cell
def Look(env:Env)(h:Heap)(m:Str->Option Value)(x:Str)(u:Value):Prop:=
 (env.kindOf x=some .local/\m x=some u)\/((env.kindOf x=some .cell\/env.kindOf x=some .free)/\∃c,env.cells.lookup x=some c/\h.IsCell c (some u))
structure Cx.Ok(X:Cx):Prop where
 mod:Mod X.K X.mg X.base
 kind:X.env.scope.kind=.function
 glob:X.env.globals=mainGlobals
 blt:X.env.builtins=builtinsNs
 above:X.s₀.heap.objs.size<=X.env.locals
 inj:∀x y c,X.env.cells.lookup x=some c->X.env.cells.lookup y=some c->x=y
 has:∀x,(X.env.kindOf x=some .cell\/X.env.kindOf x=some .free)->∃c,X.env.cells.lookup x=some c
 cab:∀x c,X.fn x=true->X.env.cells.lookup x=some c->X.s₀.heap.objs.size<=c
 hd:X.calm=true->X.A.handled=none
 frames:X.A.frames=some X.stack
 stk:X.stack=X.outer\/(X.stack=X.env::X.outer/\X.env.frame=some X.env.locals)
 exf:∀b∈X.ex,b≠X.env.locals/\∀x c,X.env.cells.lookup x=some c->c≠b
 bs:∀b o,X.base.get? b=some o->X.s₀.heap.get? b=some o/\X.H₀ b=none
 bsz:X.base.objs.size<=X.s₀.heap.objs.size
 noex:∀b o,X.base.get? b=some o->b∉X.ex
 exfs:∀b∈X.ex,b∉X.fs
 funs:X.s₀.heap.FunFrames X.base X.outer
 frf:∀b∈X.fs,X.H₀ b=none
structure Inv(X:Cx)(YT:List (Addr×Obj))(σ:List (Option V))(H:Hp)(s:Shared):Prop where
 ok:X.Ok
 os:s.os=X.s₀.os
 bare:AllBare s.gens
 base:Un X.fs X.ex X.H₀ H X.s₀.heap s.heap
 loc:∃m,s.heap.Ns X.env.locals m/\∀(i:Nat) (x:Str) (v:V),X.N[i]?=some x->σ[i]?=some (some v)->Vis X.env.scope x->∃u,RelV v u/\Look X.env s.heap m x u
 cell:∀x c,X.env.cells.lookup x=some c->∃v,s.heap.IsCell c v
 free:H X.env.locals=none
 freeC:∀x c,X.env.cells.lookup x=some c->H c=none
 pin:∀p∈X.pn++YT,s.heap.get? p.1=some p.2/\H p.1=none/\p.1≠X.env.locals/\p.1∉X.fs/\∀v,p.2.data≠.cell v
 hok:HOk X.prog X.w H s.heap
 len:σ.length=X.N.length
section
variable{X:Cx}{YT:List (Addr×Obj)}{σ:List (Option V)}{H H':Hp}{s:Shared}{h':Heap}
def Cx.Ok.nofr(ok:X.Ok)(e:X.base.get? b=some o):b∉X.fs:=λhb=>by have:=(ok.funs.mem hb).1;rw[e]at this;cases this
theorem Inv.bs(I:Inv X YT σ H s):∀b o,X.base.get? b=some o->s.heap.get? b=some o/\H b=none:=λb o e=>
 ⟨I.base.keep b o (I.ok.bs b o e).1 (I.ok.bs b o e).2 (I.ok.nofr e) (I.ok.noex b o e),I.base.free b o (I.ok.bs b o e).1 (I.ok.bs b o e).2 (I.ok.noex b o e)⟩
def Inv.bk(I:Inv X YT σ H s):∀b o,X.base.get? b=some o->s.heap.get? b=some o:=λb o e=>(I.bs b o e).1
theorem Inv.mod(I:Inv X YT σ H s):Mod X.K X.mg X.base:=I.ok.mod
def Inv.kIn(I:Inv X YT σ H s):X.K.In s.heap:=I.ok.mod.kin.keeps I.bk
def Inv.fr(I:Inv X YT σ H s):∃m,Fr X.base X.env.locals s.heap m:=
 let ⟨m,hn,_⟩:=I.loc
 ⟨m,hn,I.bk,UL I.ok.bsz I.ok.above⟩
theorem Inv.lt(I:Inv X YT σ H s):X.env.locals<s.heap.objs.size:=let ⟨_,hn,_⟩:=I.loc;hn.lt
def Inv.sz(I:Inv X YT σ H s):X.s₀.heap.objs.size<=s.heap.objs.size:=UL I.ok.above (XS I.lt)
def Inv.nofs(I:Inv X YT σ H s)(h:s.heap.objs.size<=a):a∉X.fs:=λhb=>by obtain⟨_,o,ho,_⟩:=I.ok.funs.mem hb;exact absurd (Um (Uk ho) (UL I.sz h)) (V1 _)
def Inv.cne(I:Inv X YT σ H s):∀x c,X.env.cells.lookup x=some c->c≠X.env.locals:=λx c e z=>by obtain⟨v,o,ho,hd⟩:=I.cell x c e;obtain⟨m,⟨o',es,ep,ho',hd',_⟩,_⟩:=I.loc;rw[z,ho']at ho;cases ho;rw[hd']at hd;cases hd
theorem Inv.funs(I:Inv X YT σ H s):s.heap.FunFrames X.base X.outer:=by
 have all:∀ (l:List Env),(∀ b∈frs l,b∈X.fs)->X.s₀.heap.FunFrames X.base l->s.heap.FunFrames X.base l:=by
  intro l;induction l with
  |nil=>intro _ _;trivial
  |cons env r ih=>
    intro hs hl;obtain⟨hk,⟨L,o,hf,hn,ho,hd⟩,hr⟩:=hl;have hL:L∈X.fs:=hs L (by unfold frs;rw[Xy,hf];exact UW)
    obtain⟨sl,e⟩:=I.base.slot L o ho (I.ok.frf L hL) hL λz=>I.ok.exfs L z hL
    exact⟨hk,⟨L,_,hf,hn,e,hd⟩,ih (λb hb=>hs b (by unfold frs;rw[Xy,hf];exact Vj _ hb)) hr⟩
 exact all X.outer (λy hb=>hb) I.ok.funs
theorem Inv.stack(I:Inv X YT σ H s):s.heap.FunFrames X.base X.stack:=by
 rcases I.ok.stk with e | ⟨e,hf⟩
 ·rw[e];exact I.funs
 ·rw[e];obtain⟨m,hn,_⟩:=I.loc;refine .cons (by rw[I.ok.kind];decide) hf hn ?_ I.funs
  exact Heap.get?_none_of_le (UL I.ok.bsz I.ok.above)
def Inv.stkSub(I:Inv X YT σ H s):∀b∈frs X.stack,b∈X.env.locals::X.fs:=λb hb=>by
 rcases I.ok.stk with e | ⟨e,hf⟩
 ·rw[e]at hb;exact Vj _ hb
 ·rw[e]at hb;unfold frs at hb;rw[Xy,hf]at hb;exact hb
def Inv.stkFree(I:Inv X YT σ H s):∀b∈frs X.stack,H b=none:=λb hb=>by
 rcases Uw.mp (I.stkSub b hb) with e | hb
 ·rw[e];exact I.free
 ·obtain⟨_,o,ho,_⟩:=I.ok.funs.mem hb;exact I.base.free b o ho (I.ok.frf b hb) λz=>I.ok.exfs b z hb
def Inv.step{g':Array GenState}{t':Nat}{ch:List Addr}(I:Inv X YT σ H s)
  (hch:∀b∈ch,(b∈X.ex\/X.s₀.heap.objs.size<=b)/\b≠X.env.locals/\(∀x c,X.env.cells.lookup x=some c->c≠b)/\∀p∈X.pn++YT,p.1≠b)
  (keep:∀b o,b≠X.env.locals->b∉X.fs->b∉ch->s.heap.get? b=some o->H b=none->h'.get? b=some o)
  (slot:∀b o,b≠X.env.locals->b∈X.fs->b∉ch->s.heap.get? b=some o->H b=none->∃sl,h'.get? b=some { o with slots:=sl }) (free:∀b o,b∉ch->s.heap.get? b=some o->H b=none->H' b=none)
  (there:∀b o,b∉ch->s.heap.get? b=some o->∃o',h'.get? b=some o')
  (tups:∀b xs,H b=some (.tup xs)->H' b=some (.tup xs)) (frzs:∀b o u,H b=some (.frz o u)->H' b=some (.frz o u)) (tbls:∀b ps,H b=some (.tbl ps)->∃more,H' b=some (.tbl (ps++more)))
  (ns:∀m,s.heap.Ns X.env.locals m->h'.Ns X.env.locals m) (hok:HOk X.prog X.w H' h') (hg:AllBare g') :
  Inv X YT σ H' { s with heap:=h',gens:=g',drawn:=d',toks:=t' }:=by
 have neL:∀b o,X.s₀.heap.get? b=some o->b≠X.env.locals:=λb o e=>Ut (Um (Uk e) I.ok.above)
 have neC:∀b o,X.s₀.heap.get? b=some o->b∉X.ex->b∉ch:=λb o e hx hb=>by
  rcases (hch b hb).1 with z | z
  ·exact hx z
  ·exact absurd (Um (Uk e) z) (V1 _)
 have cellK:∀x c,X.env.cells.lookup x=some c->∀v,s.heap.IsCell c v->h'.IsCell c v:=λx c e v ⟨o,ho,hd⟩=>by
  have nch:c∉ch:=λz=>(hch c z).2.2.1 x c e rfl
  by_cases hc:c∈X.fs
  ·obtain⟨sl,q⟩:=slot c o (I.cne x c e) hc nch ho (I.freeC x c e);exact⟨_,q,hd⟩
  ·exact⟨o,keep c o (I.cne x c e) hc nch ho (I.freeC x c e),hd⟩
 refine⟨I.ok,I.os,hg,⟨λb o e n hb hx=>?_,λb o e n hb hx=>?_,λb o e n hx=>?_,λb o e hx=>?_,λb xs e=>tups b xs (I.base.tups b xs e),λb o xs e=>frzs b o xs (I.base.frzs b o xs e),λb ps e=>?_⟩,?_,λx c e=>?_,?_,λx c e=>?_,λp hp=>?_,hok,I.len⟩
 ·exact keep b o (neL b o e) hb (neC b o e hx) (I.base.keep b o e n hb hx) (I.base.free b o e n hx)
 ·obtain⟨sl,e1⟩:=I.base.slot b o e n hb hx;obtain⟨sl',e2⟩:=slot b _ (neL b o e) hb (neC b o e hx) e1 (I.base.free b o e n hx);exact⟨sl',e2⟩
 ·obtain⟨o',e1⟩:=I.base.there b o e hx;exact free b o' (neC b o e hx) e1 (I.base.free b o e n hx)
 ·obtain⟨o',e1⟩:=I.base.there b o e hx;exact there b o' (neC b o e hx) e1
 ·obtain⟨m1,e1⟩:=I.base.tbls b ps e;obtain⟨m2,e2⟩:=tbls b _ e1;exact⟨m1++m2,by rw[e2,Array.append_assoc]⟩
 ·obtain⟨m,hn,hl⟩:=I.loc;refine⟨m,ns m hn,λi x v e1 e2 e3=>?_⟩
  obtain⟨u,r,l⟩:=hl i x v e1 e2 e3;refine⟨u,r,?_⟩;rcases l with l | ⟨k,c,e,z⟩
  ·exact .inl l
  ·exact .inr ⟨k,c,e,cellK x c e _ z⟩
 ·obtain⟨v,z⟩:=I.cell x c e;exact⟨v,cellK x c e v z⟩
 ·obtain⟨m,⟨o,_,_,ho,_⟩,_⟩:=I.loc;exact free _ o (λz=>(hch _ z).2.1 rfl) ho I.free
 ·obtain⟨v,o,ho,hd⟩:=I.cell x c e;exact free c o (λz=>(hch c z).2.2.1 x c e rfl) ho (I.freeC x c e)
 ·obtain⟨e,n,ne,nf,d⟩:=I.pin p hp;have nch:p.1∉ch:=λz=>(hch p.1 z).2.2.2 p hp rfl
  exact⟨keep p.1 p.2 ne nf nch e n,free p.1 p.2 nch e n,ne,nf,d⟩
def Inv.un{t':Nat}(I:Inv X YT σ H s)(u:Un X.fs [] H H' s.heap h')(hok:HOk X.prog X.w H' h'):Inv X YT σ H' { s with heap:=h',toks:=t' }:=by
 obtain⟨m,⟨o,es,ep,ho,r⟩,_⟩:=id I.loc;obtain⟨sl,hL⟩:=u.any ho I.free (by simp)
 exact I.step (g':=s.gens) (d':=s.drawn) (ch:=[]) (λy z=>nomatch z) (λb o y hb y e n=>u.keep b o e n hb (by simp)) (λb o y hb y e n=>u.slot b o e n hb (by simp)) (λb o y e n=>u.free b o e n (by simp)) (λb o y e=>u.there b o e (by simp)) u.tups u.frzs u.tbls (λm' hm=>by obtain⟨o',es',ep',ho',r'⟩:=hm;rw[ho]at ho';cases ho';exact⟨_,es',ep',hL,r'⟩) hok I.bare
def Inv.call{g':Array GenState}{t':Nat}{ch:List Addr}(I:Inv X YT σ H s)(u:Un (frs X.stack) ch H H' s.heap h')(hok:HOk X.prog X.w H' h')(hg:AllBare g')
  (hch:∀b∈ch,(b∈X.ex\/X.s₀.heap.objs.size<=b)/\b≠X.env.locals/\(∀x c,X.env.cells.lookup x=some c->c≠b)/\∀p∈X.pn++YT,p.1≠b) :
  Inv X YT σ H' { s with heap:=h',gens:=g',drawn:=d',toks:=t' }:=by
 obtain⟨m,⟨o,es,ep,ho,r⟩,_⟩:=id I.loc;obtain⟨sl,hL⟩:=u.any ho I.free λz=>(hch _ z).2.1 rfl
 exact I.step (ch:=ch) hch (λb o hL hb hc e n=>u.keep b o e n (λz=>(Uw.mp (I.stkSub b z)).elim hL hb) hc) (λb o y y hc e n=>u.any e n hc) (λb o hc e n=>u.free b o e n hc) (λb o hc e=>u.there b o e hc) u.tups u.frzs u.tbls (λm' hm=>by obtain⟨o',es',ep',ho',r'⟩:=hm;rw[ho]at ho';cases ho';exact⟨_,es',ep',hL,r'⟩) hok hg
def Inv.turned{t':Nat}(I:Inv X YT σ H s)(k:∀b o,b≠it->s.heap.get? b=some o->h'.get? b=some o)(hn:H it=none)(hL:it≠X.env.locals)
  (h1:it∈X.ex\/X.s₀.heap.objs.size<=it) (h2:∀x c,X.env.cells.lookup x=some c->c≠it) (h3:∀p∈X.pn++YT,p.1≠it):Inv X YT σ H { s with heap:=h',toks:=t' }:=by
 have nit:∀b u,H b=some u->b≠it:=λb u e z=>by rw[z,hn]at e;cases e
 refine I.step (g':=s.gens) (d':=s.drawn) (ch:=[it]) (λb hb=>?_) (λb o y y hc e y=>k b o (λz=>hc (by simp[z])) e) (λb o y y hc e y=>⟨o.slots,k b o (λz=>hc (by simp[z])) e⟩) (λy y y y n=>n)
  (λb o hc e=>⟨o,k b o (λz=>hc (by simp[z])) e⟩) (λy y e=>e) (λy y y e=>e) (λb ps e=>⟨#[],by rw[e];simp⟩) (λm hm=>?_) (λb u e=>?_) I.bare
 ·have e:b=it:=by simpa using hb
  subst e;exact⟨h1,hL,h2,h3⟩
 ·obtain⟨o,es,ep,ho,r⟩:=hm;exact⟨o,es,ep,k _ o (Ne.symm hL) ho,r⟩
 ·refine (I.hok b u e).stay (λc v hc q=>k c v ?_ q) (λy q=>q) λy y q=>q
  rcases hc with z | z
  ·rw[z];exact nit b u e
  ·exact nit c _ z
def Inv.tok(I:Inv X YT σ H s)(t:Nat):Inv X YT σ H { s with toks:=t }:=I.un (h':=s.heap) (t':=t) Un.refl I.hok
theorem Inv.kept(I:Inv X YT σ H s)(k:∀b u,s.heap.get? b=some u->h'.get? b=some u):Inv X YT σ H { s with heap:=h',toks:=t' }:=I.un (Un.kept k) (I.hok.kept k)
theorem Inv.laid(I:Inv X YT σ H s)(k:∀b u,s.heap.get? b=some u->h'.get? b=some u)(hp:s.heap.objs.size<=a)(new:ObjOk X.prog X.w (upd H a o) h' a o):
  Inv X YT σ (upd H a o) { s with heap:=h',toks:=t' }:=I.un (Un.laid k hp (I.hok.fresh hp)) (I.hok.laid k hp new)
theorem Inv.write(I:Inv X YT σ H s)(mu:Mut (H x))(he:e=x\/H e=some (.own x))(k:∀b u,b≠e->s.heap.get? b=some u->h'.get? b=some u)(heo:∃u,h'.get? e=some u)
  (new:ObjOk X.prog X.w (upd H x o) h' x o):Inv X YT σ (upd H x o) { s with heap:=h',toks:=t' }:=I.un (Un.write mu he k heo) (I.hok.write mu he k heo new)
def Inv.weak(I:Inv X YT σ H s)(hl:σ'.length=σ.length)(w:∀(i:Nat) v,σ'[i]?=some (some v)->σ[i]?=some (some v)):Inv X YT σ' H s:=
 ⟨I.ok,I.os,I.bare,I.base,let ⟨m,hn,hl'⟩:=I.loc;⟨m,hn,λi x v e1 e2 e3=>hl' i x v e1 (w i v e2) e3⟩,I.cell,I.free,I.freeC,I.pin,I.hok,hl.trans I.len⟩
def Inv.pins_of(I:Inv X YT σ H s)(h:∀p∈pins',s.heap.get? p.1=some p.2/\H p.1=none/\p.1≠X.env.locals/\p.1∉X.fs/\∀v,p.2.data≠.cell v):Inv X pins' σ H s:=
 ⟨I.ok,I.os,I.bare,I.base,I.loc,I.cell,I.free,I.freeC,λp hp=>(Vr.mp hp).elim (λz=>I.pin p (Vp _ z)) (h p),I.hok,I.len⟩
def nodup_ix{N:List Str}(hN:N.Nodup){i j:Nat}(a:N[i]?=some x)(b:N[j]?=some x):i=j:=by obtain⟨h1,e1⟩:=Uj.mp a;obtain⟨h2,e2⟩:=Uj.mp b;exact (List.getElem_inj hN).mp (e1.trans e2.symm)
def store_ok2{E:Value->Shared->Prop}{i:Nat}{Q:Unit->Shared->Prop}(I:Inv X YT σ H s)(hN:X.N.Nodup)(hi:X.N[i]?=some x)(hx:Loc X.env.scope x)(r:RelV v u)
  (h:∀s',Inv X YT (σ.set i (some v)) H s'->(∃a,Heap.SameBut a s.heap s'.heap/\(a=X.env.locals\/X.env.cells.lookup x=some a))->Q () s') (hf:X.fn x=true\/X.env.scope.names.lookup x=some .local:=by first | exact .inl rfl | exact .inr rfl | assumption):wpAny M A (storeName X.env x u) Q E s:=by
 obtain⟨m,hn,hl⟩:=id I.loc;have hcls:(X.env.scope.kind==.class || (X.env.scope.kind==.module&&X.env.locals != X.env.globals))=false:=by rw[I.ok.kind];rfl
 have hiσ:i<σ.length:=by rw[I.len];exact (Uj.mp hi).1
 have cne:=I.cne;have tracked:∀{a:Addr}{h':Heap},(∃o,s.heap.get? a=some o/\H a=none)->Heap.SameBut a s.heap h'->HOk X.prog X.w H h':=λ{a h'} ha hs b ob e=>by
  obtain⟨_,_,hfree⟩:=ha;refine (I.hok b ob e).stay (λc w' hc q=>(hs.2 c ?_).trans q) (λt q=>q) λt t q=>q
  rintro rfl;rcases hc with rfl | hc
  ·rw[hfree]at e;cases e
  ·rw[hfree]at hc;cases hc
 rcases hx with hk | hk
 ·refine wpAny_storeName_local hk hn (λh' hn' hs=>?_) hcls
  obtain⟨oL,_,_,hoL,_⟩:=id hn;refine h _ ⟨I.ok,I.os,I.bare,⟨λb o e n hb hx=>?_,λb o e n hb hx=>?_,I.base.free,λb o e hx=>?_,I.base.tups,I.base.frzs,I.base.tbls⟩,⟨_,hn',λj y v' e1 e2 e3=>?_⟩,λy c e=>?_,I.free,I.freeC,λp hp=>?_,tracked ⟨oL,hoL,I.free⟩ hs,by simpa using I.len⟩ ⟨_,hs,.inl rfl⟩
  ·exact (hs.2 b (Ut (Um (Uk e) I.ok.above))).trans (I.base.keep b o e n hb hx)
  ·obtain⟨sl,e1⟩:=I.base.slot b o e n hb hx;exact⟨sl,(hs.2 b (Ut (Um (Uk e) I.ok.above))).trans e1⟩
  ·obtain⟨o',e1⟩:=I.base.there b o e hx;exact⟨o',(hs.2 b (Ut (Um (Uk e) I.ok.above))).trans e1⟩
  ·by_cases hj:j=i
   ·subst hj;rw[hi]at e1;cases e1;rw[U3 hiσ]at e2;cases e2;exact⟨u,r,.inl ⟨hk,by simp⟩⟩
   ·rw[Vl (Ne.symm hj)]at e2;obtain⟨u',r',q⟩:=hl j y v' e1 e2 e3;refine⟨u',r',?_⟩;rcases q with ⟨k,e⟩ | ⟨k,c,e,z⟩
    ·refine .inl ⟨k,?_⟩;have:y≠x:=λe=>hj (nodup_ix hN e1 (e ▸ hi))
     simp[this,e]
    ·exact .inr ⟨k,c,e,z.sameBut hs (cne y c e)⟩
  ·obtain⟨w',z⟩:=I.cell y c e;exact⟨w',z.sameBut hs (cne y c e)⟩
  ·obtain⟨e,n,ne,nf,d⟩:=I.pin p hp;exact⟨(hs.2 p.1 ne).trans e,n,ne,nf,d⟩
 ·have hfn:X.fn x=true:=by
   rcases hf with z | z
   ·exact z
   ·rw[z]at hk;cases hk
  obtain⟨c,hc⟩:=I.ok.has x (.inl hk);obtain⟨w',z⟩:=I.cell x c hc;refine wpAny_storeName_cell I.ok.kind hk hc z (λh' hc' hs=>?_)
  obtain⟨oc,hoc,hocd⟩:=id z;refine h { s with heap:=h' } ⟨I.ok,I.os,I.bare,⟨λb o e n hb hx=>?_,λb o e n hb hx=>?_,I.base.free,λb o e hx=>?_,I.base.tups,I.base.frzs,I.base.tbls⟩,⟨m,hn.sameBut hs (Ne.symm (cne x c hc)),λj y v' e1 e2 e3=>?_⟩,λy c' e=>?_,I.free,I.freeC,λp hp=>?_,tracked ⟨oc,hoc,I.freeC x c hc⟩ hs,by simpa using I.len⟩ ⟨c,hs,.inr hc⟩
  ·exact (hs.2 b (Ut (Um (Uk e) (I.ok.cab x c hfn hc)))).trans (I.base.keep b o e n hb hx)
  ·obtain⟨sl,e1⟩:=I.base.slot b o e n hb hx;exact⟨sl,(hs.2 b (Ut (Um (Uk e) (I.ok.cab x c hfn hc)))).trans e1⟩
  ·obtain⟨o',e1⟩:=I.base.there b o e hx;exact⟨o',(hs.2 b (Ut (Um (Uk e) (I.ok.cab x c hfn hc)))).trans e1⟩
  ·by_cases hj:j=i
   ·subst hj;rw[hi]at e1;cases e1;rw[U3 hiσ]at e2;cases e2;exact⟨u,r,.inr ⟨.inl hk,c,hc,hc'⟩⟩
   ·rw[Vl (Ne.symm hj)]at e2;obtain⟨u',r',q⟩:=hl j y v' e1 e2 e3;refine⟨u',r',?_⟩;rcases q with q | ⟨k,c',e,z'⟩
    ·exact .inl q
    ·refine .inr ⟨k,c',e,z'.sameBut hs ?_⟩;rintro rfl;exact hj (nodup_ix hN e1 (I.ok.inj _ _ _ e hc ▸ hi))
  ·by_cases hcc:c'=c
   ·subst hcc;exact⟨_,hc'⟩
   ·obtain⟨w2,z2⟩:=I.cell y c' e;exact⟨w2,z2.sameBut hs hcc⟩
  ·obtain⟨e,n,ne,nf,d⟩:=I.pin p hp;refine⟨(hs.2 p.1 ?_).trans e,n,ne,nf,d⟩;intro q;rw[q,hoc]at e;have q':oc=p.2:=Uo e;exact d w' (by rw[<-q'];exact hocd)
def store_ok(I:Inv X YT σ H s)(hN:X.N.Nodup)(hi:X.N[i]?=some x)(hx:Loc X.env.scope x)(r:RelV v u)
  (h:∀s',Inv X YT (σ.set i (some v)) H s'->Q () s') (hf:X.fn x=true\/X.env.scope.names.lookup x=some .local:=by first | exact .inl rfl | exact .inr rfl | assumption):wpAny M A (storeName X.env x u) Q E s:=
 store_ok2 I hN hi hx r (λs' I' z=>h s' I') hf
def Inv.call'(I:Inv X YT σ H s)(ho:s'.os=s.os)(u:Un (frs X.stack) ch H H' s.heap s'.heap)(hok:HOk X.prog X.w H' s'.heap)(hg:AllBare s'.gens)
  (hch:∀b∈ch,(b∈X.ex\/X.s₀.heap.objs.size<=b)/\b≠X.env.locals/\(∀x c,X.env.cells.lookup x=some c->c≠b)/\∀p∈X.pn++YT,p.1≠b):Inv X YT σ H' s':=by
 obtain⟨h',g',d',t',o'⟩:=s';have e:o'=s.os:=ho;subst e;exact I.call (g':=g') (t':=t') (d':=d') u hok hg hch
end
abbrev XK:=Value->Option Addr->Hp->Prop
abbrev St:=List (Option V)
abbrev VK:=V->Hp->Prop
abbrev TE:=St->Hp->VK->Prop
abbrev TT:=St->Hp->(Bool->Hp->Prop)->Prop
abbrev TA:=St->Hp->(List V->Hp->Prop)->Prop
structure Ends where
 nx:St->Hp->Prop
 rt:VK
 bk:St->Hp->Prop:=λ_ _=>False
 ct:St->Hp->Prop:=λ_ _=>False
abbrev TS:=Ends->St->Hp->Prop
def EP(X:Cx)(YT:List (Addr×Obj))(σ:St)(Q:VK)(u:Value)(s':Shared):Prop:=∃v H',Inv X YT σ H' s'/\RelV v u/\Q v H'
def TP(X:Cx)(YT:List (Addr×Obj))(σ:St)(Q:Bool->Hp->Prop)(b:Bool)(s':Shared):Prop:=∃H',Inv X YT σ H' s'/\Q b H'
def AP(X:Cx)(YT:List (Addr×Obj))(σ:St)(Q:List V->Hp->Prop)(us:List Value)(s':Shared):Prop:=∃vs H',Inv X YT σ H' s'/\Vals vs us/\Q vs H'
def SP(X:Cx)(YT:List (Addr×Obj))(D:Ends)(f:Flow)(s':Shared):Prop:=
 match f with
 |.next=>∃σ' H',Inv X YT σ' H' s'/\D.nx σ' H'
 |.brk=>∃σ' H',Inv X YT σ' H' s'/\D.bk σ' H'
 |.cont=>∃σ' H',Inv X YT σ' H' s'/\D.ct σ' H'
 |.ret u=>∃v σ' H',Inv X YT σ' H' s'/\RelV v u/\D.rt v H'
def PE(X:Cx)(e:Expr)(t:TE):Prop:=
 ∀(YT:List (Addr×Obj)) (s:Shared) (σ:St) (H:Hp) (Q:VK),Inv X YT σ H s->t σ H Q->wpAny (model X.prog X.w) X.A (eval e X.env) (EP X YT σ Q) X.xe s
def PT(X:Cx)(e:Expr)(t:TT):Prop:=
 ∀(YT:List (Addr×Obj)) (s:Shared) (σ:St) (H:Hp) (Q:Bool->Hp->Prop),Inv X YT σ H s->t σ H Q->wpAny (model X.prog X.w) X.A (isTrue e X.env (eval e X.env)) (TP X YT σ Q) X.xe s
def PW(X:Cx)(e:Expr)(t:TT):Prop:=
 ∀(whole:Sem Value) (YT:List (Addr×Obj)) (s:Shared) (σ:St) (H:Hp) (Q:Bool->Hp->Prop),Inv X YT σ H s->t σ H Q->wpAny (model X.prog X.w) X.A (isTrue e X.env whole) (TP X YT σ Q) X.xe s
def PW.pt(h:PW X e t):PT X e t:=h _
def PA(X:Cx)(es:List Expr)(t:TA):Prop:=
 ∀(pos:Pos) (YT:List (Addr×Obj)) (s:Shared) (σ:St) (H:Hp) (Q:List V->Hp->Prop),Inv X YT σ H s->t σ H Q->wpAny (model X.prog X.w) X.A (spliced (backTo pos (starEach es X.env))) (AP X YT σ Q) X.xe s
def PS(X:Cx)(st:Stmt)(t:TS):Prop:=
 ∀(YT:List (Addr×Obj)) (s:Shared) (σ:St) (H:Hp) (D:Ends),Inv X YT σ H s->t D σ H->wpAny (model X.prog X.w) X.A (exec st X.env) (SP X YT D) X.xe s
def PSs(X:Cx)(st:List Stmt)(t:TS):Prop:=
 ∀(YT:List (Addr×Obj)) (s:Shared) (σ:St) (H:Hp) (D:Ends),Inv X YT σ H s->t D σ H->wpAny (model X.prog X.w) X.A (execs st X.env) (SP X YT D) X.xe s
def thn(h:wpAny M A t Q E s)(hQ:∀a s,Q a s->Q' a s):wpAny M A t Q' E s:=Us h hQ λz z x=>x
open PySem PySem.Spec PyProof.Rows
section
variable{X:Cx}
def bin(ha:PE X a ta)(hb:PE X b tb){YT:List (Addr×Obj)}{R:V->V->Hp->Prop}(I:Inv X YT σ H s)(h:ta σ H λx H1=>tb σ H1 λy H2=>R x y H2)
  {α:Type}{Q:α->Shared->Prop}{f:Value->Value->Sem α}
  (hf:∀v u s2 x y H2,Inv X YT σ H2 s2->RelV x v->RelV y u->R x y H2->wpAny (model X.prog X.w) X.A (f v u) Q X.xe s2) :
  wpAny (model X.prog X.w) X.A (eval a X.env) (λv s₁=>wpAny (model X.prog X.w) X.A (eval b X.env) (λu s₂=>wpAny (model X.prog X.w) X.A (f v u) Q X.xe s₂) X.xe s₁) X.xe s:=by
 refine thn (ha YT s σ H _ I h) λv s1 ⟨x,H1,I1,r1,q1⟩=>?_
 refine thn (hb YT s1 σ H1 _ I1 q1) λu s2 ⟨y,H2,I2,r2,q2⟩=>?_
 exact hf v u s2 x y H2 I2 r1 r2 q2
def tVar(i:Nat):TE:=λσ H Q=>∃v,σ[i]?=some (some v)/\Q v H
def tC(v:V):TE:=λz H Q=>Q v H
def pe_var(hN:X.N[i]?=some x)(hv:Vis X.env.scope x)(hd:(x==("__debug__":Str))=false:=by decide)(hcd:(x==("__classdict__":Str))=false:=by decide):PE X (.Name x pos) (tVar i):=by
 intro YT s σ H Q I h;obtain⟨v,e,h⟩:=h;obtain⟨m,hn,hl⟩:=I.loc;obtain⟨u,r,l⟩:=hl i x v hN e hv;have fin:EP X YT σ Q u s:=⟨v,H,I,r,h⟩;rcases l with ⟨hk,hm⟩ | ⟨hk,c,hc,hcell⟩
 ·exact wpAny_Name (wpAny_loadName_local I.ok.kind hk hn hm fin) hd
 ·rcases hk with hk | hk
  ·exact wpAny_Name (wpAny_loadName_cell I.ok.kind hk hc hcell fin) hd
  ·exact wpAny_Name (wpAny_loadName_free I.ok.kind hk hc hcell fin hcd) hd
def pe_int{i j pos}:PE X (.Constant (.int i) j pos) (tC (.int i)):=λz z z H z I h=>wpAny_Constant_int ⟨.int i,H,I.tok _,⟨_,rfl⟩,h⟩
def pe_bl{b j pos}:PE X (.Constant (.bool b) j pos) (tC (.bl b)):=λz z z H z I h=>Constant_bool ⟨.bl b,H,I,rfl,h⟩
def pe_non{j pos}:PE X (.Constant .none j pos) (tC .non):=λz z z H z I h=>Constant_none ⟨.non,H,I,rfl,h⟩
def pe_str{x j pos}:PE X (.Constant (.str x) j pos) (tC (.str x)):=λz z z H z I h=>Calls.Constant_str ⟨.str x,H,I.tok _,⟨_,rfl⟩,h⟩
def Gl(X:Cx)(x:Str):Prop:=X.env.kindOf x=some .globalImplicit
def ld_glob(I:Inv X YT σ H s)(hg:Gl X x)(hm:X.mg x=some u)(h:Q u s)
  (hd:(x==("__debug__":Str))=false:=by decide):wpAny (model X.prog X.w) X.A (eval (.Name x pos) X.env) Q E s:=
 Xo I.ok.kind hg (Calls.loadGlobal_global (by rw[I.ok.glob];exact I.mod.glob.keeps I.bk) hm h) hd
def ld_blt(I:Inv X YT σ H s)(hg:Gl X x)(hm:X.mg x=none)(hv:bootBuiltins x=some u)(h:Q u s)
  (hn:x≠"__name__":=by decide) (hd:(x==("__debug__":Str))=false:=by decide):wpAny (model X.prog X.w) X.A (eval (.Name x pos) X.env) Q E s:=by
 obtain⟨mb,h1,h2⟩:=I.mod.blt;exact Xo I.ok.kind hg (Calls.loadGlobal_builtin (by rw[I.ok.glob];exact I.mod.glob.keeps I.bk) hm (by rw[I.ok.blt];exact h1.keeps I.bk) ((h2 x hn).trans hv) h) hd
def pe_glob(hg:Gl X x)(hm:X.mg x=some u)(r:RelV v u)(hd:(x==("__debug__":Str))=false:=by decide):PE X (.Name x pos) (tC v):=
 λz z z H z I h=>ld_glob I hg hm ⟨v,H,I,r,h⟩ hd
def pe_bltn(hg:Gl X x)(hm:X.mg x=none)(hv:bootBuiltins x=some u)(r:RelV v u)(hn:x≠"__name__":=by decide)(hd:(x==("__debug__":Str))=false:=by decide):PE X (.Name x pos) (tC v):=
 λz z z H z I h=>ld_blt I hg hm hv ⟨v,H,I,r,h⟩ hn hd
variable{a b:Expr}{ta tb:TE}{pos:Pos}
variable{tA tB':TT}{rest:List Expr}
def tAnd(t u:TT):TT:=λσ H Q=>t σ H λc H1=>if c=true then u σ H1 Q else Q false H1
def tOr(t u:TT):TT:=λσ H Q=>t σ H λc H1=>if c=true then Q true H1 else u σ H1 Q
def tNot(t:TT):TT:=λσ H Q=>t σ H λc H1=>Q (!c) H1
def pw_and1(ha:PT X a tA):PW X (.BoolOp .And [a] pos) tA:=by
 intro wh YT s σ H Q I h;refine isTrue_and (thn (ha YT s σ H Q I h) λc s1 e=>?_)
 cases c with
 |true=>exact isTrue_and_nil e
 |false=>exact e
def pw_or1(ha:PT X a tA):PW X (.BoolOp .Or [a] pos) tA:=by
 intro wh YT s σ H Q I h;refine isTrue_or (thn (ha YT s σ H Q I h) λc s1 e=>?_)
 cases c with
 |false=>exact isTrue_or_nil e
 |true=>exact e
def pw_and(ha:PT X a tA)(hb:PW X (.BoolOp .And (b::rest) pos) tB'):PW X (.BoolOp .And (a::b::rest) pos) (tAnd tA tB'):=by
 intro wh YT s σ H Q I h;refine isTrue_and (thn (ha YT s σ H _ I h) λc s1 ⟨H1,I1,q1⟩=>?_)
 cases c with
 |true=>exact hb wh YT s1 σ H1 Q I1 q1
 |false=>exact⟨H1,I1,q1⟩
def pw_or(ha:PT X a tA)(hb:PW X (.BoolOp .Or (b::rest) pos) tB'):PW X (.BoolOp .Or (a::b::rest) pos) (tOr tA tB'):=by
 intro wh YT s σ H Q I h;refine isTrue_or (thn (ha YT s σ H _ I h) λc s1 ⟨H1,I1,q1⟩=>?_)
 cases c with
 |true=>exact⟨H1,I1,q1⟩
 |false=>exact hb wh YT s1 σ H1 Q I1 q1
def pt_not(ha:PT X a tA):PT X (.UnaryOp .Not a pos) (tNot tA):=by intro YT s σ H Q I h;exact isTrue_not (ha YT s σ H (λc H1=>Q (!c) H1) I h)
def tAndV(ta tb:TE):TE:=λσ H Q=>ta σ H λx H1=>∃c,x=.bl c/\if c=true then tb σ H1 Q else Q (.bl false) H1
def tNotV(ta:TE):TE:=λσ H Q=>ta σ H λx H1=>∃c,x=.bl c/\Q (.bl (!c)) H1
def pe_one{op}(h:PE X a t):PE X (.BoolOp op [a] pos) t:=λYT s σ H Q I hw=>BoolOp_one (h YT s σ H Q I hw)
def pe_and(ha:PE X a ta)(hb:PE X (.BoolOp .And (b::rest) pos) tb):PE X (.BoolOp .And (a::b::rest) pos) (tAndV ta tb):=by
 intro YT s σ H Q I h;refine BoolOp_and (thn (ha YT s σ H _ I h) λv s1 ⟨x,H1,I1,r1,q1⟩=>?_)
 obtain⟨c,rfl,q1⟩:=q1;cases r1;refine Wd ?_;cases c with
 |true=>exact hb YT s1 σ H1 Q I1 q1
 |false=>exact⟨.bl false,H1,I1,rfl,q1⟩
def pe_not(ha:PE X a ta):PE X (.UnaryOp .Not a pos) (tNotV ta):=by
 intro YT s σ H Q I h;refine UnaryOp_ (thn (ha YT s σ H _ I h) λv s1 ⟨x,H1,I1,r1,q1⟩=>?_)
 obtain⟨c,rfl,q1⟩:=q1;cases r1;exact not_of (Wd ⟨.bl (!c),H1,I1,rfl,q1⟩)
def tIf(t:TT)(ta tb:TE):TE:=λσ H Q=>t σ H λc H1=>if c=true then ta σ H1 Q else tb σ H1 Q
def pe_ifExp(hc:PT X c tA)(ha:PE X a ta)(hb:PE X b tb):PE X (.IfExp c a b pos) (tIf tA ta tb):=by
 intro YT s σ H Q I h;refine wpAny_IfExp (thn (hc YT s σ H _ I h) λd s1 ⟨H1,I1,q1⟩=>?_)
 cases d with
 |true=>exact ha YT s1 σ H1 Q I1 q1
 |false=>exact hb YT s1 σ H1 Q I1 q1
end
open PySem PySem.Spec PyProof.Rows
def SqL(K:PySem.W.Frag)(H:Hp)(a:Addr)(xs:List V):Prop:=
 Rd H a (.lst xs) \/
  ∃(o:Obj) (its:Array Value) (n:Nat),K.lookup a=some o/\o.cls=.type "list"/\o.dict=none/\o.data=.seq its n/\its.size<=sizeLine/\Vals xs its.toList
def SqT(K:PySem.W.Frag)(H:Hp)(a:Addr)(xs:List V):Prop:=
 Rd H a (.tup xs) \/
  ∃(o:Obj) (its:Array Value) (n:Nat),K.lookup a=some o/\o.cls=.type "tuple"/\o.data=.seq its n/\its.size<=sizeLine/\Vals xs its.toList
def absV:Value->Option V
 |.none=>some .non
 |.bool b=>some (.bl b)
 |.int i _=>some (.int i)
 |.str x _=>some (.str x)
 |.bytes b _=>some (.byt b)
 |.float b _=>some (.flt b)
 |.ref a=>some (.ref a)
 |.type n=>some (.ty n)
 |_=>none
def RelV.abs(r:RelV x u):absV u=some x:=by
 cases x with
 |non=>cases r;rfl
 |bl _=>cases r;rfl
 |int _=>obtain⟨t,rfl⟩:=r;rfl
 |str _=>obtain⟨t,rfl⟩:=r;rfl
 |byt _=>obtain⟨t,rfl⟩:=r;rfl
 |flt _=>obtain⟨t,rfl⟩:=r;rfl
 |ref _=>cases r;rfl
 |ty _=>cases r;rfl
def RelV.inj(r:RelV x u)(q:RelV y u):x=y:=Uo (r.abs.symm.trans q.abs)
theorem Vals.inj:∀{xs ys:List V}{us:List Value},Vals xs us->Vals ys us->xs=ys
 |_,_,_,.nil,.nil=>rfl
 |_,_,_,.cons r t,.cons r' t'=>by rw[r.inj r',Vals.inj t t']
section
variable{X:Cx}{YT:List (Addr×Obj)}{σ:St}{H:Hp}{s:Shared}{a:Addr}{xs ys:List V}
def SqL.of{K:PySem.W.Frag}(h:H a=some (.lst xs)):SqL K H a xs:=.inl (.inl h)
def SqT.of{K:PySem.W.Frag}(h:H a=some (.tup xs)):SqT K H a xs:=.inl (.inl h)
def Inv.list(I:Inv X YT σ H s)(h:SqL X.K H a xs):∃its:List Value,Vals xs its/\PlainL s.heap a its.toArray/\xs.length<=sizeLine:=by
 rcases h with h | ⟨o,its,n,hk,hc,hd,hs,hz,r⟩
 ·obtain⟨z,its,n,r,e⟩:=h.ok I.hok;exact⟨its,r,⟨_,n,e,rfl,rfl,rfl⟩,z⟩
 ·refine⟨its.toList,r,⟨o,n,I.kIn a o hk,hc,hd,by simpa using hs⟩,?_⟩
  have e:=r.length;simp only[Array.length_toList]at e
  lia
def Inv.tuple(I:Inv X YT σ H s)(h:SqT X.K H a xs):∃its:List Value,Vals xs its/\IsTup s.heap a its.toArray/\xs.length<=sizeLine:=by
 rcases h with h | ⟨o,its,n,hk,hc,hs,hz,r⟩
 ·obtain⟨z,its,r,p⟩:=h.ok I.hok;exact⟨its,r,p,z⟩
 ·refine⟨its.toList,r,⟨o,I.kIn a o hk,hc,n,by simpa using hs⟩,?_⟩
  have e:=r.length;simp only[Array.length_toList]at e
  lia
def Inv.list_inj(I:Inv X YT σ H s)(h:SqL X.K H a xs)(h':SqL X.K H a ys):xs=ys:=by
 obtain⟨its,r,⟨o,n,e,_,_,d⟩,_⟩:=I.list h;obtain⟨its',r',⟨o',n',e',_,_,d'⟩,_⟩:=I.list h';rw[e]at e';cases e';rw[d]at d';injection d' with d1 _
 have:its=its':=by simpa using congrArg Array.toList d1
 subst this;exact r.inj r'
def Inv.tuple_inj(I:Inv X YT σ H s)(h:SqT X.K H a xs)(h':SqT X.K H a ys):xs=ys:=by
 obtain⟨its,r,⟨o,e,_,n,d⟩,_⟩:=I.tuple h;obtain⟨its',r',⟨o',e',_,n',d'⟩,_⟩:=I.tuple h';rw[e]at e';cases e';rw[d]at d';injection d' with d1 _
 have:its=its':=by simpa using congrArg Array.toList d1
 subst this;exact r.inj r'
end
section
variable{X:Cx}{st:Stmt}{rest:List Stmt}{t u:TS}{e:Expr}{te:TE}{pos:Pos}
def tNext:TS:=λD σ H=>D.nx σ H
def tSeq(t u:TS):TS:=λD σ H=>t { D with nx:=u D } σ H
def pss_nil:PSs X [] tNext:=λ_ _ σ H _ I h=>XD ⟨σ,H,I,h⟩
def pss_cons(h1:PS X st t)(h2:PSs X rest u):PSs X (st::rest) (tSeq t u):=by
 intro YT s σ H D I h;refine wpAny_execs_cons (thn (h1 YT s σ H { D with nx:=u D } I h) λf s1 q=>?_)
 cases f with
 |next=>obtain⟨σ',H',I',q⟩:=q;exact h2 YT s1 σ' H' D I' q
 |ret v=>exact q
 |brk=>exact q
 |cont=>exact q
def pss_one(h1:PS X st t):PSs X [st] t:=by
 intro YT s σ H D I h;refine wpAny_execs_cons (thn (h1 YT s σ H D I h) λf s1 q=>?_)
 cases f with
 |next=>exact XD q
 |ret v=>exact q
 |brk=>exact q
 |cont=>exact q
def Inv.quiet(I:Inv X YT σ H s):interactive X.env=false:=by simp[interactive,I.ok.kind]
def tDrop(te:TE):TS:=λD σ H=>te σ H λz H1=>D.nx σ H1
def ps_expr(he:PE X e te)(hs:swapsWith e none pos.line X.env=pure false:=by rfl):PS X (.Expr e pos) (tDrop te):=by intro YT s σ H D I h;exact wpAny_Expr_any (thn (he YT s σ H _ I h) λv s1 ⟨x,H1,I1,r1,q1⟩=>⟨σ,H1,I1,q1⟩) I.quiet hs
def tRet(te:TE):TS:=λD σ H=>te σ H D.rt
def ps_ret(he:PE X e te):PS X (.Return (some e) pos) (tRet te):=by intro YT s σ H D I h;exact wpAny_Return_some (thn (he YT s σ H _ I h) λv s1 ⟨x,H1,I1,r1,q1⟩=>⟨x,σ,H1,I1,r1,q1⟩)
def tIfS(c:TT)(t u:TS):TS:=λD σ H=>c σ H λb H1=>if b=true then t D σ H1 else u D σ H1
def ps_if(hc:PT X c tc)(ha:PSs X a t)(hb:PSs X b u):PS X (.If c a b pos) (tIfS tc t u):=by
 intro YT s σ H D I h;refine wpAny_If (thn (hc YT s σ H _ I h) λd s1 ⟨H1,I1,q1⟩=>?_)
 cases d with
 |true=>exact ha YT s1 σ H1 D I1 q1
 |false=>exact hb YT s1 σ H1 D I1 q1
end
abbrev TG:=V->St->Hp->(St->Hp->Prop)->Prop
abbrev TGs:=List V->St->Hp->(St->Hp->Prop)->Prop
def PG(X:Cx)(target:Expr)(t:TG):Prop:=
 ∀(YT:List (Addr×Obj)) (s:Shared) (σ:St) (H:Hp) (v:V) (u:Value) (Q:St->Hp->Prop),Inv X YT σ H s->RelV v u->t v σ H Q->
   wpAny (model X.prog X.w) X.A (assign target X.env u) (λz s'=>∃σ' H',Inv X YT σ' H' s'/\Q σ' H') X.xe s
def PGs(X:Cx)(ts:List Expr)(t:TGs):Prop:=
 ∀(YT:List (Addr×Obj)) (s:Shared) (σ:St) (H:Hp) (vs:List V) (us:List Value) (Q:St->Hp->Prop),Inv X YT σ H s->Vals vs us->t vs σ H Q->
   wpAny (model X.prog X.w) X.A (assignInOrder ((assignEach ts X.env).map (·.2)) us) (λz s'=>∃σ' H',Inv X YT σ' H' s'/\Q σ' H') X.xe s
abbrev TSet:=V->V->V->Hp->(Hp->Prop)->Prop
def PSet(X:Cx)(t:TSet):Prop:=
 ∀(YT:List (Addr×Obj)) (s:Shared) (σ:St) (H:Hp) (o i v:V) (ov iv u:Value) (Q:Hp->Prop),Inv X YT σ H s->RelV o ov->RelV i iv->RelV v u->t o i v H Q->
   wpAny (model X.prog X.w) X.A (setItem ov iv u) (λz s'=>∃H',Inv X YT σ H' s'/\Q H') X.xe s
abbrev TIp:=V->V->Hp->VK->Prop
def PIp(X:Cx)(op:Operator)(t:TIp):Prop:=
 ∀(YT:List (Addr×Obj)) (s:Shared) (σ:St) (H:Hp) (x y:V) (v u:Value) (Q:VK),Inv X YT σ H s->RelV x v->RelV y u->t x y H Q->
   wpAny (model X.prog X.w) X.A (inplaceOp op v u) (EP X YT σ Q) X.xe s
section
variable{X:Cx}{pos:Pos}
def gName(i:Nat):TG:=λv σ H Q=>Q (σ.set i (some v)) H
def pg_name(hN:X.N.Nodup)(hi:X.N[i]?=some x)(hx:Loc X.env.scope x)(hf:X.fn x=true\/X.env.scope.names.lookup x=some .local:=by first | exact .inl rfl | exact .inr rfl | assumption):PG X (.Name x pos) (gName i):=by intro YT s σ H v u Q I r h;exact wpAny_assign_Name (store_ok I hN hi hx r (λs' I'=>⟨_,H,I',h⟩) hf)
def gNil:TGs:=λvs σ H Q=>vs=[]/\Q σ H
def gCons(t:TG)(u:TGs):TGs:=λvs σ H Q=>∃v r,vs=v::r/\t v σ H λσ' H'=>u r σ' H' Q
def pgs_nil:PGs X [] gNil:=by intro YT s σ H vs us Q I r h;obtain⟨e,h⟩:=h;subst e;cases r;exact assignInOrder_nil ⟨σ,H,I,h⟩
def pgs_cons(h1:PG X e t)(h2:PGs X es u)
  (hs:(assignEach (e::es) X.env).map (·.2)=assign e X.env::(assignEach es X.env).map (·.2):=by rfl):PGs X (e::es) (gCons t u):=by
 intro YT s σ H vs us Q I r h;obtain⟨v,vr,e1,h⟩:=h;subst e1;cases r with
 |cons r rr=>
   rw[hs];refine WL (thn (h1 YT s σ H _ _ _ I r h) λ_ s1 ⟨σ1,H1,I1,q1⟩=>?_)
   exact h2 YT s1 σ1 H1 _ _ Q I1 rr q1
def gTup(K:PySem.W.Frag)(n:Nat)(t:TGs):TG:=λv σ H Q=>∃a xs,v=.ref a/\SqT K H a xs/\xs.length=n/\t xs σ H Q
def pg_tup(hc:X.calm=true)(h:PGs X es t)
  (hn:(assignEach es X.env).length=n:=by rfl) (hst:(assignEach es X.env).findIdx? (·.1)=none:=by rfl):PG X (.Tuple es k pos) (gTup X.K n t):=by
 intro YT s σ H v u Q I r hw;obtain⟨a,xs,e1,hq,hl,hw⟩:=hw;subst e1;cases r;obtain⟨its,rv,ht,hz⟩:=I.tuple hq;refine assign_Tuple_tuple (I.ok.hd hc) ht (by simp[hn,<-hl,rv.length]) hst λh' hx=>?_
 have I1:Inv X YT σ H { s with heap:=h' }:=I.kept (t':=s.toks) λb o e=>hx b o (Ut (Uk e)) e
 exact h YT _ σ H xs _ Q I1 (by simpa using rv) hw
def gSub(to ti:TE)(t:TSet):TG:=λv σ H Q=>to σ H λo H1=>ti σ H1 λi H2=>t o i v H2 λH3=>Q σ H3
def pg_sub(ho:PE X o to)(hi:PE X i ti)(hs:PSet X t)
  (ha:∀v,assign (.Subscript o i pos) X.env v=(do
    let ov <-holding [v] (eval o X.env)
    let iv <-holding [v,ov] (eval i X.env)
    standAt pos
    holding [v,ov,iv] (setItem ov iv v)
    release [v,ov,iv] []):=by intro _;rfl):PG X (.Subscript o i pos) (gSub to ti t):=by
 intro YT s σ H v u Q I r h;rw[ha];refine Ug (Vw (thn (ho YT s σ H _ I h) λov s1 ⟨x,H1,I1,r1,q1⟩=>?_))
 refine Ug (Vw (thn (hi YT s1 σ H1 _ I1 q1) λiv s2 ⟨y,H2,I2,r2,q2⟩=>?_))
 refine Ug (Vt (Ug (Vw (thn (hs YT s2 σ H2 x y v ov iv u _ I2 r1 r2 r q2) λ_ s3 ⟨H3,I3,q3⟩=>?_))))
 exact wpAny_release ⟨σ,H3,I3,q3⟩
def tAsg(te:TE)(g:TG):TS:=λD σ H=>te σ H λx H1=>g x σ H1 D.nx
def ps_asg(he:PE X e te)(hg:PG X tg g)(hs:swapsWithSole [tg] e pos.line X.env=pure false:=by rfl)(hw:swappedStores [tg] e X.env=pure none:=by rfl)
  (h1:(assignEach [tg] X.env).map (·.2)=[assign tg X.env]:=by rfl):PS X (.Assign [tg] e pos) (tAsg te g):=by
 intro YT s σ H D I h;refine wpAny_Assign_stores (thn (he YT s σ H _ I h) λv s1 ⟨x,H1,I1,r1,q1⟩=>?_) hs hw
 rw[h1];exact thn (hg YT s1 σ H1 x v _ I1 r1 q1) λz s2 q=>q
def ps_set(hN:X.N.Nodup)(hi:X.N[i]?=some x)(hx:Loc X.env.scope x)(he:PE X e te)(hs:swapsWith e (some (.Name x pos')) pos.line X.env=pure false:=by rfl)(hf:X.fn x=true\/X.env.scope.names.lookup x=some .local:=by first | exact .inl rfl | exact .inr rfl | assumption):
  PS X (.Assign [.Name x pos'] e pos) (tAsg te (gName i)):=by
 intro YT s σ H D I h;refine wpAny_Assign_Name (thn (he YT s σ H _ I h) λv s1 ⟨y,H1,I1,r1,q1⟩=>?_) hs
 exact store_ok I1 hN hi hx r1 (λs2 I2=>⟨_,H1,I2,q1⟩) hf
def tPar(i j:Nat)(ta:TA):TS:=λD σ H=>ta σ H λvs H1=>∃v w,vs=[v,w]/\D.nx ((σ.set i (some v)).set j (some w)) H1
def ps_par{kt k2 pt2}(hc:X.calm=true)(hN:X.N.Nodup)(hi:X.N[i]?=some x)(hj:X.N[j]?=some y)(hij:i≠j)
  (hx:X.env.scope.names.lookup x=some .local) (hy:X.env.scope.names.lookup y=some .local) (ha:PA X [a,b] ta)
  (hw:swappedStores [.Tuple [.Name x px,.Name y py] kt pt] (.Tuple [a,b] k2 pt2) X.env=pure (some [x,y]))
  (hs:swapsWithSole [.Tuple [.Name x px,.Name y py] kt pt] (.Tuple [a,b] k2 pt2) pos.line X.env=pure false:=by rfl) :
  PS X (.Assign [.Tuple [.Name x px,.Name y py] kt pt] (.Tuple [a,b] k2 pt2) pos) (tPar i j ta):=by
 intro YT s σ H D I h;rw[exec_Assign_arm];refine Ug (Vt ?_);rw[hs];refine Ug (Ui ?_);rw[Ux (by decide)]
 refine Ug (Tuple_ (thn (ha _ YT s σ H _ I h) λus s1 ⟨vs,H1,I1,r1,q1⟩=>?_))
 obtain⟨v,w,e1,q1⟩:=q1;subst e1;obtain ⟨u1,u2,rfl,rv,rw'⟩:∃ u1 u2,us=[u1,u2]/\RelV v u1/\RelV w u2:=by
  cases r1 with
  | cons p q=>
    cases q with
    |cons p' q'=>cases q';exact⟨_,_,rfl,p,p'⟩
 refine Vd ?_ (by show 2<=sizeLine;decide)
 have I2:Inv X YT σ H1 { s1 with heap:=s1.heap.push { cls:=.type "tuple",data:=.seq [u1,u2].toArray } }:=I1.kept (t':=s1.toks) λb o e=>Uh _ e
 rw[hw];refine Ug (Ui ?_);show wpAny (model X.prog X.w) X.A (do rule "assign.swapped-stores";let items <-unpackItems (.ref s1.heap.objs.size) 2 none;assignInOrder [λv=>bindName X.env y v,λv=>bindName X.env x v] items.reverse;pure Flow.next) _ _ _
 refine Ug (Wk (Ug (unpackItems_tuple (items:=#[u1,u2]) (I.ok.hd hc) (YK s1.heap _) λh' hx'=>?_)))
 have I3:=I2.kept (h':=h') (t':=s1.toks) λb o e=>hx' b o (Ut (Uk e)) e
 show wpAny _ _ (assignInOrder [λv=>bindName X.env y v,λv=>bindName X.env x v] [u2,u1]>>=λz=>pure Flow.next) _ _ _
 refine Ug (WL (Yc (store_ok I3 hN hj (.inl hy) rw' (λs2 I4=>?_) (.inr hy))))
 refine WL (Yc (store_ok I4 hN hi (.inl hx) rv (λs3 I5=>assignInOrder_nil (Ui ?_)) (.inr hx)))
 rw[List.set_comm _ _ (Ne.symm hij)]at I5;exact⟨_,H1,I5,q1⟩
def tAugS(to ti te:TE)(tget:V->V->Hp->VK->Prop)(tip:TIp)(tset:TSet):TS:=λD σ H=>to σ H λo H1=>ti σ H1 λi H2=>tget o i H2 λx H3=>te σ H3 λy H4=>tip x y H4 λz H5=>tset o i z H5 λH6=>D.nx σ H6
def PGet(X:Cx)(t:V->V->Hp->VK->Prop):Prop:=
 ∀(YT:List (Addr×Obj)) (s:Shared) (σ:St) (H:Hp) (o i:V) (ov iv:Value) (Q:VK),Inv X YT σ H s->RelV o ov->RelV i iv->t o i H Q->
   wpAny (model X.prog X.w) X.A (getItem ov iv) (EP X YT σ Q) X.xe s
def ps_augS(ho:PE X o to)(hi:PE X i ti)(hg:PGet X tget)(he:PE X e te)(hp:PIp X op tip)(hs:PSet X tset)
  (ha:∀ov iv new,augStore i ov iv new=(do holding [new,ov,iv] (setItem ov iv new);release [new,ov,iv] [];pure .next):=by intros;rfl):PS X (.AugAssign (.Subscript o i tpos) op e pos) (tAugS to ti te tget tip tset):=by
 intro YT s σ H D I h;refine wpAny_AugAssign_SubscriptAny (thn (ho YT s σ H _ I h) λov s1 ⟨x1,H1,I1,r1,q1⟩=>?_) ha
 refine thn (hi YT s1 σ H1 _ I1 q1) λiv s2 ⟨x2,H2,I2,r2,q2⟩=>?_
 refine thn (hg YT s2 σ H2 x1 x2 ov iv _ I2 r1 r2 q2) λold s3 ⟨x3,H3,I3,r3,q3⟩=>?_
 refine thn (he YT s3 σ H3 _ I3 q3) λv s4 ⟨x4,H4,I4,r4,q4⟩=>?_
 refine thn (hp YT s4 σ H4 x3 x4 old v _ I4 r3 r4 q4) λnew s5 ⟨x5,H5,I5,r5,q5⟩=>?_
 exact thn (hs YT s5 σ H5 x1 x2 x5 ov iv new _ I5 r1 r2 r5 q5) λ_ s6 ⟨H6,I6,q6⟩=>⟨σ,H6,I6,q6⟩
end
section
variable{X:Cx}{pos:Pos}
def tWhile(c:TT)(tb:TS):TS:=λD σ H=>∃W:Nat->St->Hp->Prop,(∃m,W m σ H)/\∀m σ H,W m σ H->
 c σ H λb H1=>if b=true then ∃N:St->Hp->Prop,(∀σ' H',N σ' H'->∃m',m'<m/\W m' σ' H')/\tb { D with nx:=N,ct:=N,bk:=D.nx } σ H1 else D.nx σ H1
def ps_while(hp:PassesOwn (model X.prog X.w) X.A X.env X.xe)(hc:PT X c tc)(hb:PSs X body tb):PS X (.While c body [] pos) (tWhile tc tb):=by
 intro YT s σ H D I h;obtain⟨W,⟨m0,w0⟩,turn⟩:=h;refine wpAny_While (codeAny_whileLoop (λn s'=>∃σ' H',Inv X YT σ' H' s'/\W n σ' H') ?_ m0 ⟨σ,H,I,w0⟩)
 rintro n s1 ⟨σ1,H1,I1,w1⟩;refine WQ hp (thn (hc YT s1 σ1 H1 _ I1 (turn n σ1 H1 w1)) λb s2 ⟨H2,I2,q2⟩=>?_)
 cases b with
 | true=>
   obtain⟨N,hN,q2⟩:=q2;rw[Uv rfl];refine WQ hp (thn (hb YT s2 σ1 H2 _ I2 q2) λf s3 q3=>?_)
   cases f with
   |next=>obtain⟨σ3,H3,I3,n3⟩:=q3;obtain⟨m',hm,w3⟩:=hN σ3 H3 n3;exact⟨m',hm,σ3,H3,I3,w3⟩
   |cont=>obtain⟨σ3,H3,I3,n3⟩:=q3;obtain⟨m',hm,w3⟩:=hN σ3 H3 n3;exact⟨m',hm,σ3,H3,I3,w3⟩
   |brk=>exact q3
   |ret v=>exact q3
 |false=>rw[Ux U0];exact XD ⟨σ1,H2,I2,q2⟩
end
structure It where
 go:Nat->Hp->Prop
 yld:Nat->Hp->V->Hp->Prop
 stop:Nat->Hp->Prop
def FpOk(X:Cx)(YT:List (Addr×Obj))(H:Hp)(b:Addr):Prop:=
 H b=none/\b≠X.env.locals/\b∉X.fs/\(b∈X.ex\/X.s₀.heap.objs.size<=b)/\(∀x c,X.env.cells.lookup x=some c->c≠b)/\∀p∈X.pn++YT,p.1≠b
def Inv.fpOk(I:Inv X YT σ H s)(hb:s.heap.objs.size<=b)(hn:H' b=none):FpOk X YT H' b:=by
 refine⟨hn,Wz (Um I.lt hb),I.nofs hb,.inr (UL I.sz hb),λx c e z=>?_,λp hp z=>?_⟩
 ·obtain⟨v,q⟩:=I.cell x c e;exact absurd (Um q.lt (by rw[z];exact hb)) (V1 _)
 ·exact absurd (Um (Uk (I.pin p hp).1) (by rw[z];exact hb)) (V1 _)
structure Turn(P:Program)(w:World)(K:PySem.W.Frag)(tg:Expr)(J:It)(fp:List Addr)(it:Addr)(tn:Nat->Heap->Prop):Prop where
 mem:it∈fp
 obj:∀i h,tn i h->∀b∈fp,∃o,h.get? b=some o/\∀v,o.data≠.cell v
 keep:∀i h h',tn i h->(∀b∈fp,∀o,h.get? b=some o->h'.get? b=some o)->tn i h'
 item:∀(X:Cx),X.prog=P->X.w=w->X.K=K->X.calm=true->∀(i:Nat) (YT:List (Addr×Obj)) (s:Shared) (σ:St) (H:Hp) (E:Value->Shared->Prop),Inv X YT σ H s->(∀b∈fp,FpOk X YT H b)->tn i s.heap->J.go i H->
  wpAny (model P w) X.A (pyNext (.ref it)) (λr s1=>∃u,r=some u /\
   wpAny (model P w) X.A (letOwnedTupleGo tg (.ref it) u) (λ_ s2=>∃x H',Inv X YT σ H' s2/\RelV x u/\J.yld i H x H'/\tn (i+1) s2.heap/\∀b∈fp,H' b=none) E s1) E s
 done:∀(X:Cx),X.prog=P->X.w=w->X.K=K->X.calm=true->∀(i:Nat) (YT:List (Addr×Obj)) (s:Shared) (σ:St) (H:Hp) (E:Value->Shared->Prop),Inv X YT σ H s->(∀b∈fp,FpOk X YT H b)->tn i s.heap->J.stop i H->
  wpAny (model P w) X.A (pyNext (.ref it)) (λr s1=>r=none/\Inv X YT σ H s1) E s
 self:∀(A:Around) (i:Nat) (s:Shared) (Q:Value->Shared->Prop) (E:Value->Shared->Prop),tn i s.heap->Q (.ref it) s->wpAny (model P w) A (pyIter (.ref it)) Q E s
abbrev TI:=St->Hp->(It->Hp->Prop)->Prop
def PIE(X:Cx)(YT:List (Addr×Obj))(σ:St)(tg:Expr)(R:It->Hp->Prop)(itv:Value)(s2:Shared):Prop:=
 ∃(it:Addr) (fp:List Addr) (tn:Nat->Heap->Prop) (J:It) (H':Hp),itv=.ref it/\Inv X YT σ H' s2/\Turn X.prog X.w X.K tg J fp it tn/\tn 0 s2.heap/\(∀b∈fp,FpOk X YT H' b)/\R J H'
def PI(X:Cx)(tg iter:Expr)(wi:TI):Prop:=
 ∀(YT:List (Addr×Obj)) (s:Shared) (σ:St) (H:Hp) (R:It->Hp->Prop),Inv X YT σ H s->wi σ H R->
   wpAny (model X.prog X.w) X.A (eval iter X.env) (λv s1=>wpAny (model X.prog X.w) X.A (pyIter v) (PIE X YT σ tg R) X.xe s1) X.xe s
def go_of(ho:s.heap.get? it=some o)(hc:o.cls=.type n)(hd:o.data=.fields vs)
  (hn:["enumerate", "zip", "dict_itemiterator", "dict_reverseitemiterator", "odict_iterator", "itertools.zip_longest", "itertools.pairwise"].contains n=false) (hQ:Q () s):wpAny M A (letOwnedTupleGo tg (.ref it) u) Q E s:=by
 unfold letOwnedTupleGo;cases tg<;>first
  |exact Ui hQ
  | (cases u<;>first
      |exact Ui hQ
      | (refine wpAny_bind (wpAny_load ho ?_)
         rw[hc,hd];show wpAny M A (if (["enumerate", "zip", "dict_itemiterator", "dict_reverseitemiterator", "odict_iterator", "itertools.zip_longest", "itertools.pairwise"].contains n&&vs[0]?==some (rawInt _))=true then _ else _) Q E s
         rw[Ux (by intro h;rw[hn,Bool.false_and]at h;cases h)]
         exact Ui hQ))
def Itl(K:PySem.W.Frag)(a:Addr):It:=
 ⟨λi H=>∃xs x,SqL K H a xs/\xs[i]?=some x,λi H x H'=>H'=H/\∀xs,SqL K H a xs->xs[i]?=some x,λi H=>∃xs,SqL K H a xs/\xs.length<=i⟩
def Itt(K:PySem.W.Frag)(a:Addr):It:=
 ⟨λi H=>∃xs x,SqT K H a xs/\xs[i]?=some x,λi H x H'=>H'=H/\∀xs,SqT K H a xs->xs[i]?=some x,λi H=>∃xs,SqT K H a xs/\xs.length<=i⟩
def Itr(lo:Int)(n:Nat):It:=⟨λi z=>i<n,λi H x H'=>H'=H/\x=.int (lo+i),λi z=>n<=i⟩
def turn_list{P:Program}{w:World}{K:PySem.W.Frag}{tg:Expr}(a it:Addr):Turn P w K tg (Itl K a) [it] it (λi h=>h.IsListIter it a i) where
 mem:=by simp
 obj:=λi h st b hb=>by
  have e:b=it:=by simpa using hb
  subst e;obtain⟨o,e,c,d⟩:=st;exact⟨o,e,λv z=>by rw[d]at z;cases z⟩
 keep:=λi h h' st k=>st.at λo e=>k it (by simp) o e
 item:=by
  intro X hP hw hK hc i YT s σ H E I hf st hg;subst hP hw hK;obtain⟨xs,x,hq,hx⟩:=hg;obtain⟨its,rv,p,hz⟩:=I.list hq;obtain⟨u,hu,ru⟩:=rv.get hx;obtain⟨f0,f1,f2,f3,f4,f5⟩:=hf it (by simp)
  refine wpAny_pyNext_list_item st p.isList (x:=u) (by simpa using hu) λh' st' sb=>?_
  have I1:Inv X YT σ H { s with heap:=h' }:=I.turned (t':=s.toks) (λb o hb e=>(sb.2 b hb).trans e) f0 f1 f3 f4 f5
  obtain⟨o,e,c,d⟩:=id st';exact⟨u,rfl,go_of (s:={ s with heap:=h' }) e c d (by decide) ⟨x,H,I1,ru,⟨rfl,λys hy=>by rw[I.list_inj hy hq];exact hx⟩,st',λb hb=>(hf b hb).1⟩⟩
 done:=by
  intro X hP hw hK hc i YT s σ H E I hf st hg;subst hP hw hK;obtain⟨xs,hq,hx⟩:=hg;obtain⟨its,rv,p,hz⟩:=I.list hq;obtain⟨f0,f1,f2,f3,f4,f5⟩:=hf it (by simp)
  have hl:=rv.length;exact wpAny_pyNext_list_end (I.ok.hd hc) st p.isList (by simp;lia) λh' eb=>⟨rfl,I.turned (t':=s.toks) (λb o hb e=>eb b o hb e) f0 f1 f3 f4 f5⟩
 self:=λy y y y y st h=>wpAny_pyIter_listiter st h
def turn_tuple{P:Program}{w:World}{K:PySem.W.Frag}{tg:Expr}(a it:Addr):Turn P w K tg (Itt K a) [it] it (λi h=>h.IsTupleIter it a i) where
 mem:=by simp
 obj:=λi h st b hb=>by
  have e:b=it:=by simpa using hb
  subst e;obtain⟨o,e,c,d⟩:=st;exact⟨o,e,λv z=>by rw[d]at z;cases z⟩
 keep:=λi h h' st k=>st.at λo e=>k it (by simp) o e
 item:=by
  intro X hP hw hK hc i YT s σ H E I hf st hg;subst hP hw hK;obtain⟨xs,x,hq,hx⟩:=hg;obtain⟨its,rv,p,hz⟩:=I.tuple hq;obtain⟨u,hu,ru⟩:=rv.get hx;obtain⟨f0,f1,f2,f3,f4,f5⟩:=hf it (by simp)
  refine wpAny_pyNext_tuple_item st (show s.heap.IsTuple a its.toArray from p) (x:=u) (by simpa using hu) λh' st' sb=>?_
  have I1:Inv X YT σ H { s with heap:=h' }:=I.turned (t':=s.toks) (λb o hb e=>(sb.2 b hb).trans e) f0 f1 f3 f4 f5
  obtain⟨o,e,c,d⟩:=id st';exact⟨u,rfl,go_of (s:={ s with heap:=h' }) e c d (by decide) ⟨x,H,I1,ru,⟨rfl,λys hy=>by rw[I.tuple_inj hy hq];exact hx⟩,st',λb hb=>(hf b hb).1⟩⟩
 done:=by
  intro X hP hw hK hc i YT s σ H E I hf st hg;subst hP hw hK;obtain⟨xs,hq,hx⟩:=hg;obtain⟨its,rv,p,hz⟩:=I.tuple hq;obtain⟨f0,f1,f2,f3,f4,f5⟩:=hf it (by simp)
  have hl:=rv.length;exact wpAny_pyNext_tuple_end (I.ok.hd hc) st (show s.heap.IsTuple a its.toArray from p) (by simp;lia) λh' eb=>⟨rfl,I.turned (t':=s.toks) (λb o hb e=>eb b o hb e) f0 f1 f3 f4 f5⟩
 self:=λy y y y y st h=>wpAny_pyIter_tupleiter st h
def turn_range{P:Program}{w:World}{K:PySem.W.Frag}{tg:Expr}(it:Addr)(lo:Int)(n:Nat):Turn P w K tg (Itr lo n) [it] it (λi h=>IsRangeIter h it (lo + (i:Nat) * 1) ((n:Int) - (i:Nat)) 1) where
 mem:=by simp
 obj:=λi h st b hb=>by
  have e:b=it:=by simpa using hb
  subst e;exact⟨_,st,λv z=>by have z':Data.fields _=Data.cell v:=z;cases z'⟩
 keep:=λi h h' st k=>k it (by simp) _ st
 item:=by
  intro X hP hw hK hc i YT s σ H E I hf st hg;subst hP hw hK;obtain⟨f0,f1,f2,f3,f4,f5⟩:=hf it (by simp)
  have W:=Walks.range (prog:=X.prog) (w:=X.w) (I.ok.hd hc) it lo 1 n;refine W.item i s _ _ hg st λv h' tk hv st' kk=>?_
  obtain⟨t,rfl⟩:=hv;have I1:Inv X YT σ H { s with heap:=h',toks:=tk }:=I.turned (λb o hb e=>kk b o (by simpa using hb) e) f0 f1 f3 f4 f5
  refine⟨_,rfl,go_of (s:={ s with heap:=h',toks:=tk }) (n := "range_iterator") st' rfl rfl (by decide) ⟨.int (lo+i),H,I1,⟨t,?_⟩,⟨rfl,rfl⟩,st',λb hb=>(hf b hb).1⟩⟩
  rw[Int.mul_one]
 done:=by
  intro X hP hw hK hc i YT s σ H E I hf st hg;subst hP hw hK;obtain⟨f0,f1,f2,f3,f4,f5⟩:=hf it (by simp)
  exact wpAny_pyNext_range_end (I.ok.hd hc) st (by have:n<=i:=hg;lia) λh' eb=>⟨rfl,I.turned (t':=s.toks) (λb o hb e=>eb b o hb e) f0 f1 f3 f4 f5⟩
 self:=λy y y y y st h=>wpAny_pyIter_rangeiter st h
open PySem PySem.Spec PyProof.Rows
section
variable{X:Cx}{tg:Expr}
def iList(K:PySem.W.Frag)(tl:TE):TI:=λσ H R=>tl σ H λx H1=>∃a,x=.ref a/\(∃xs,SqL K H1 a xs)/\R (Itl K a) H1
def iTup(K:PySem.W.Frag)(tl:TE):TI:=λσ H R=>tl σ H λx H1=>∃a,x=.ref a/\(∃xs,SqT K H1 a xs)/\R (Itt K a) H1
def pi_list{l:Expr}{tl:TE}(hl:PE X l tl):PI X tg l (iList X.K tl):=by
 intro YT s σ H R I h;refine thn (hl YT s σ H _ I h) λv s1 ⟨x,H1,I1,r1,q1⟩=>?_
 obtain⟨a,e,⟨xs,hq⟩,q⟩:=q1;subst e;cases r1;obtain⟨its,rv,p,hz⟩:=I1.list hq;refine We p.isList ?_;refine⟨s1.heap.objs.size,[s1.heap.objs.size],_,_,H1,rfl,I1.kept (t':=s1.toks) λb o e=>Uh _ e,turn_list a _,⟨_,Ul _ rfl,rfl,rfl⟩,λb hb=>?_,q⟩
 have e:b=s1.heap.objs.size:=by simpa using hb
 subst e;exact I1.fpOk (Ur _) (I1.hok.fresh (Ur _))
def pi_tup{l:Expr}{tl:TE}(hl:PE X l tl):PI X tg l (iTup X.K tl):=by
 intro YT s σ H R I h;refine thn (hl YT s σ H _ I h) λv s1 ⟨x,H1,I1,r1,q1⟩=>?_
 obtain⟨a,e,⟨xs,hq⟩,q⟩:=q1;subst e;cases r1;obtain⟨its,rv,p,hz⟩:=I1.tuple hq;refine wpAny_pyIter_tuple (show s1.heap.IsTuple a its.toArray from p) ?_
 refine⟨s1.heap.objs.size,[s1.heap.objs.size],_,_,H1,rfl,I1.kept (t':=s1.toks) λb o e=>Uh _ e,turn_tuple a _,⟨_,Ul _ rfl,rfl,rfl⟩,λb hb=>?_,q⟩
 have e:b=s1.heap.objs.size:=by simpa using hb
 subst e;exact I1.fpOk (Ur _) (I1.hok.fresh (Ur _))
def range_it{YT:List (Addr×Obj)}{R:It->Hp->Prop}{E:Value->Shared->Prop}{lo hi:Int}{tk:Nat}(I:Inv X YT σ H s)(h1:-(2^62)<=lo)(h2:lo<2^62)(h3:-(2^62)<=hi)(h4:hi<2^62)
  (q:R (Itr lo (hi-lo).toNat) H):wpAny (model X.prog X.w) X.A (pyIter (.ref s.heap.objs.size)) (PIE X YT σ tg R) E { s with heap:=s.heap.push { cls:=.type "range",data:=.fields #[.int lo t,.int hi u,.int 1 v] },toks:=tk }:=by
 refine wpAny_pyIter_range (IsRange.new ..) (small_one h1 h2 h3 h4) ?_;have I1:Inv X YT σ H { s with heap:=s.heap.push { cls:=.type "range",data:=.fields #[.int lo t,.int hi u,.int 1 v] },toks:=tk }:=I.kept λb o e=>Uh _ e
 refine⟨(s.heap.push { cls:=.type "range",data:=.fields #[.int lo t,.int hi u,.int 1 v] }).objs.size,[(s.heap.push { cls:=.type "range",data:=.fields #[.int lo t,.int hi u,.int 1 v] }).objs.size],_,_,H,rfl,
  I1.kept (t':=tk) λb o e=>Uh _ e,turn_range _ lo (hi-lo).toNat,?_,λb hb=>?_,q⟩
 ·have e1:lo+((0:Nat):Int)*1=lo:=by simp
  have e2:(((hi-lo).toNat:Nat):Int)-((0:Nat):Int)=Builtin.Range.rangeSize lo hi 1:=by rw[rangeSize_one];split<;>lia
  show IsRangeIter _ _ (lo+((0:Nat):Int)*1) ((((hi-lo).toNat:Nat):Int)-((0:Nat):Int)) 1;rw[e1,e2];exact Ul _ rfl
 ·have e:b=(s.heap.push { cls:=.type "range",data:=.fields #[.int lo t,.int hi u,.int 1 v] }).objs.size:=by simpa using hb
  subst e;exact I1.fpOk (Ur _) (I1.hok.fresh (Ur _))
def iRng1(ta:TA):TI:=λσ H R=>ta σ H λvs H1=>∃j:Int,vs=[.int j]/\-(2^62)<=j/\j<2^62/\R (Itr 0 j.toNat) H1
def pi_range1(hg:Gl X "range")(hm:X.mg "range"=none)(ha:PA X [a] ta)(hs:starEach [a] X.env=[(false,eval a X.env)]:=by rfl):PI X tg (.Call (.Name "range" p) [a] [] pos) (iRng1 ta):=by
 intro YT s σ H R I h;refine Call_ (ld_blt I hg hm boot_range (VD (thn (ha pos YT s σ H _ I h) λus s1 ⟨vs,H1,I1,r1,q1⟩=>?_) hs rfl))
 obtain⟨j,e,q1,q2,q⟩:=q1;subst e;cases r1 with
 |cons r rr=>cases rr;obtain⟨t,rfl⟩:=r;exact call_range_1 (range_it I1 (by lia) (by lia) q1 q2 (by simpa using q))
def tFor(wi:TI)(g:TG)(tb:TS):TS:=λD σ H=>wi σ H λJ H1=>∃W:Nat->Nat->St->Hp->Prop,(∃m,W 0 m σ H1)/\∀i m σ H,W i m σ H->
 (J.stop i H/\D.nx σ H)\/(J.go i H/\∃N:St->Hp->Prop,(∀σ' H',N σ' H'->∃m',m'<m/\W (i+1) m' σ' H')/\∀x H',J.yld i H x H'->g x σ H' λσ2 H2=>tb { D with nx:=N,ct:=N,bk:=D.nx } σ2 H2)
def pinsAt(fp:List Addr)(h:Heap):List (Addr×Obj):=fp.filterMap λb=>(h.get? b).map λo=>(b,o)
def mem_pinsAt(hb:b∈fp)(e:h.get? b=some o):(b,o)∈pinsAt fp h:=List.mem_filterMap.mpr ⟨b,hb,by rw[e];rfl⟩
def of_pinsAt(hp:p∈pinsAt fp h):p.1∈fp/\h.get? p.1=some p.2:=by
 obtain⟨b,hb,e⟩:=List.mem_filterMap.mp hp;cases q:h.get? b with
 |none=>rw[q]at e;cases e
 |some o=>rw[q]at e;have e':(b,o)=p:=Uo e;subst e';exact⟨hb,q⟩
def Inv.pinned(I:Inv X YT σ H s)(hf:∀b∈fp,FpOk X YT H b)(ho:∀b∈fp,∃o,s.heap.get? b=some o/\∀v,o.data≠.cell v):Inv X (YT++pinsAt fp s.heap) σ H s:=
 I.pins_of λp hp=>(Vr.mp hp).elim (λz=>I.pin p (UJ _ z)) λz=>by obtain⟨hb,e⟩:=of_pinsAt z;obtain⟨f0,f1,f2,_⟩:=hf p.1 hb;obtain⟨o,e',d⟩:=ho p.1 hb;rw[e]at e';cases e';exact⟨e,f0,f1,f2,d⟩
def Inv.unpinned(I:Inv X (YT++pl) σ H s):Inv X YT σ H s:=I.pins_of λp hp=>I.pin p (UJ _ (Vp _ hp))
def ps_for(hp:PassesOwn (model X.prog X.w) X.A X.env X.xe)(hc:X.calm=true)(hi:PI X tg iter wi)(hg:PG X tg g)(hb:PSs X body tb)
  (hs:∀x,foldedSetIterable iter X.env x=pure x:=by intro _;rfl):PS X (.For tg iter body [] pos) (tFor wi g tb):=by
 intro YT s σ H D I h;refine wpAny_For (thn (hi YT s σ H _ I h) λv s1 h1=>thn h1 λitv s2 h2=>?_) hs
 obtain⟨it,fp,tn,J,H2,e,I2,T,st2,f2,W,⟨m0,w0⟩,turn⟩:=h2;subst e
 -- what stays true of the iterator's objects through the loop
 have stat:∀{H':Hp},(∀b∈fp,H' b=none)->∀b∈fp,FpOk X YT H' b:=λhn b hb=>⟨hn b hb,(f2 b hb).2⟩
 refine codeAny_forLoop_any (λn s'=>∃i σ' H',Inv X YT σ' H' s'/\tn i s'.heap/\(∀b∈fp,H' b=none)/\W i n σ' H') ?_ m0 ⟨0,σ,H2,I2,st2,λb hb=>(f2 b hb).1,w0⟩
 rintro n s3 ⟨i,σ3,H3,I3,st3,fr3,w3⟩;rcases turn i n σ3 H3 w3 with ⟨stop,qn⟩ | ⟨go,N,hN,step⟩
 ·refine WQ hp (thn (T.done X rfl rfl rfl hc i YT s3 σ3 H3 X.xe I3 (stat fr3) st3 stop) λr s4 ⟨hr,I4⟩=>?_)
  subst hr;exact XD ⟨σ3,H3,I4,qn⟩
 ·refine WQ hp (thn (T.item X rfl rfl rfl hc i YT s3 σ3 H3 X.xe I3 (stat fr3) st3 go) λr s4 ⟨u,hr,h4⟩=>?_)
  subst hr;refine WQ hp (thn h4 λ_ s5 ⟨x,H5,I5,r5,y5,st5,fr5⟩=>?_)
  have I5':=I5.pinned (stat fr5) (T.obj _ _ st5);refine WQ hp (thn (hg _ s5 σ3 H5 x u _ I5' r5 (step x H5 y5)) λ_ s6 ⟨σ6,H6,I6,q6⟩=>?_)
  refine WQ hp (thn (hb _ s6 σ6 H6 _ I6 q6) λf s7 q7=>?_)
  have again:∀{σ7:St}{H7:Hp},Inv X (YT++pinsAt fp s5.heap) σ7 H7 s7->N σ7 H7->∃m,m<n/\∃i σ' H',Inv X YT σ' H' s7/\tn i s7.heap/\(∀b∈fp,H' b=none)/\W i m σ' H':=λ{σ7 H7} I7 n7=>by
   obtain⟨m',hm,w7⟩:=hN σ7 H7 n7;refine⟨m',hm,i+1,σ7,H7,I7.unpinned,T.keep _ _ _ st5 λb hb o e=>(I7.pin (b,o) (UJ _ (UJ _ (mem_pinsAt hb e)))).1,λb hb=>?_,w7⟩
   obtain⟨o,e,d⟩:=T.obj _ _ st5 b hb;exact (I7.pin (b,o) (UJ _ (UJ _ (mem_pinsAt hb e)))).2.1
  cases f with
  |next=>obtain⟨σ7,H7,I7,n7⟩:=q7;exact again I7 n7
  |cont=>obtain⟨σ7,H7,I7,n7⟩:=q7;exact again I7 n7
  |brk=>obtain⟨σ7,H7,I7,q7⟩:=q7;exact⟨σ7,H7,I7.unpinned,q7⟩
  |ret v=>obtain⟨x7,σ7,H7,I7,r7,q7⟩:=q7;exact⟨x7,σ7,H7,I7.unpinned,r7,q7⟩
end
open PySem PySem.Spec PyProof.Rows
abbrev R2:=V->V->Hp->VK->Prop
def OpR(X:Cx)(f:Value->Value->Sem Value)(r:R2):Prop:=
 ∀(YT:List (Addr×Obj)) (s:Shared) (σ:St) (H:Hp) (x y:V) (v u:Value) (Q:VK),Inv X YT σ H s->RelV x v->RelV y u->r x y H Q->
   wpAny (model X.prog X.w) X.A (f v u) (EP X YT σ Q) X.xe s
def UnR(X:Cx)(f:Value->Sem Value)(r:V->Hp->VK->Prop):Prop:=
 ∀(YT:List (Addr×Obj)) (s:Shared) (σ:St) (H:Hp) (x:V) (v:Value) (Q:VK),Inv X YT σ H s->RelV x v->r x H Q->
   wpAny (model X.prog X.w) X.A (f v) (EP X YT σ Q) X.xe s
def CallR(X:Cx)(f:Value)(r:List V->Hp->VK->Prop):Prop:=
 ∀(YT:List (Addr×Obj)) (s:Shared) (σ:St) (H:Hp) (xs:List V) (us:List Value) (Q:VK),Inv X YT σ H s->Vals xs us->r xs H Q->
   wpAny (model X.prog X.w) X.A (call f us) (EP X YT σ Q) X.xe s
def TruR(X:Cx)(r:V->Hp->(Bool->Hp->Prop)->Prop):Prop:=
 ∀(YT:List (Addr×Obj)) (s:Shared) (σ:St) (H:Hp) (x:V) (v:Value) (Q:Bool->Hp->Prop),Inv X YT σ H s->RelV x v->r x H Q->
   wpAny (model X.prog X.w) X.A (truthy v) (TP X YT σ Q) X.xe s
def tOp(r:R2)(ta tb:TE):TE:=λσ H Q=>ta σ H λx H1=>tb σ H1 λy H2=>r x y H2 Q
def tUn(r:V->Hp->VK->Prop)(ta:TE):TE:=λσ H Q=>ta σ H λx H1=>r x H1 Q
def rI(C:Int->Int->Prop)(g:Int->Int->V):R2:=λx y H Q=>∃i j,x=.int i/\y=.int j/\C i j/\Q (g i j) H
def rI0(g:Int->Int->V):R2:=λx y H Q=>∃i j,x=.int i/\y=.int j/\Q (g i j) H
def rU(g:Int->V):V->Hp->VK->Prop:=λx H Q=>∃i,x=.int i/\Q (g i) H
section
variable{X:Cx}{a b c:Expr}{ta tb tc:TE}{pos:Pos}
def binT(ha:PE X a ta)(hb:PE X b tb){YT:List (Addr×Obj)}{R:V->V->Hp->Prop}(I:Inv X YT σ H s)
  (h:ta σ H λx H1=>tb σ H1 λy H2=>R x y H2) {Q:Value->Shared->Prop}{f:Value->Value->Sem Value}
  (hf:∀v u s2 x y H2,Inv X YT σ H2 s2->RelV x v->RelV y u->R x y H2->wpAny (model X.prog X.w) X.A (f v u) Q X.xe s2) :
  wpAny (model X.prog X.w) X.A (eval a X.env) (λv s₁=>wpAny (model X.prog X.w) X.A (eval b X.env) (λu s₂=>wpAny (model X.prog X.w) X.A (f v u) Q X.xe s₂) X.xe s₁) X.xe s:=by
 refine thn (ha YT s σ H _ I h) λv s1 ⟨x,H1,I1,r1,q1⟩=>?_
 refine thn (hb YT s1 σ H1 _ I1 q1) λu s2 ⟨y,H2,I2,r2,q2⟩=>?_
 exact hf v u s2 x y H2 I2 r1 r2 q2
def pe_op(ho:OpR X (binaryOp op) r)(ha:PE X a ta)(hb:PE X b tb):PE X (.BinOp a op b pos) (tOp r ta tb):=by intro YT s σ H Q I h;exact wpAny_BinOp (binT ha hb I h λv u s2 x y H2 I2 rx ry q=>ho YT s2 σ H2 x y v u Q I2 rx ry q)
def pe_un(ho:UnR X (unaryOp op) r)(ha:PE X a ta):PE X (.UnaryOp op a pos) (tUn r ta):=by intro YT s σ H Q I h;exact UnaryOp_ (thn (ha YT s σ H _ I h) λv s1 ⟨x,H1,I1,r1,q1⟩=>ho YT s1 σ H1 x v Q I1 r1 q1)
def opI{f:Value->Value->Sem Value}{C:Int->Int->Prop}{g:Int->Int->Int}
  (rule:∀(i j:Int) (t u:Tok) (s:Shared) (Q:Value->Shared->Prop) (E:Value->Shared->Prop),C i j->Q (.int (g i j) s.toks) { s with toks:=s.toks+1 }->wpAny (model X.prog X.w) X.A (f (.int i t) (.int j u)) Q E s) :
  OpR X f (rI C λi j=>.int (g i j)):=by
 intro YT s σ H x y v u Q I rx ry h;obtain⟨i,j,rfl,rfl,hc,q⟩:=h;obtain⟨t,rfl⟩:=rx;obtain⟨t',rfl⟩:=ry;exact rule i j t t' s _ _ hc ⟨.int (g i j),H,I.tok _,⟨_,rfl⟩,q⟩
def opI0{f:Value->Value->Sem Value}{g:Int->Int->Int}
  (rule:∀(i j:Int) (t u:Tok) (s:Shared) (Q:Value->Shared->Prop) (E:Value->Shared->Prop),Q (.int (g i j) s.toks) { s with toks:=s.toks+1 }->wpAny (model X.prog X.w) X.A (f (.int i t) (.int j u)) Q E s) :
  OpR X f (rI0 λi j=>.int (g i j)):=by
 intro YT s σ H x y v u Q I rx ry h;obtain⟨i,j,rfl,rfl,q⟩:=h;obtain⟨t,rfl⟩:=rx;obtain⟨t',rfl⟩:=ry;exact rule i j t t' s _ _ ⟨.int (g i j),H,I.tok _,⟨_,rfl⟩,q⟩
def opB0{f:Value->Value->Sem Value}{g:Int->Int->Bool}
  (rule:∀(i j:Int) (t u:Tok) (s:Shared) (Q:Value->Shared->Prop) (E:Value->Shared->Prop),Q (.bool (g i j)) s->wpAny (model X.prog X.w) X.A (f (.int i t) (.int j u)) Q E s) :
  OpR X f (rI0 λi j=>.bl (g i j)):=by
 intro YT s σ H x y v u Q I rx ry h;obtain⟨i,j,rfl,rfl,q⟩:=h;obtain⟨t,rfl⟩:=rx;obtain⟨t',rfl⟩:=ry;exact rule i j t t' s _ _ ⟨.bl (g i j),H,I,rfl,q⟩
def CPow(i j:Int):Prop:=0<=j/\j<=1000000/\i.natAbs<2^64
def op_add:OpR X (binaryOp .Add) (rI0 λi j=>.int (i+j)):=opI0 λz z z z z z z q=>add_int q
def op_sub:OpR X (binaryOp .Sub) (rI0 λi j=>.int (i-j)):=opI0 λz z z z z z z q=>sub_int q
def op_mod:OpR X (binaryOp .Mod) (rI (λz j=>0<j) λi j=>.int (i%j)):=opI λi j z z z z z hc q=>by have h1:(0:Int)<j:=hc;exact mod_int' (by lia) (by rw[Int.fmod_eq_emod_of_nonneg i (by lia)];exact q)
def op_pow:OpR X (binaryOp .Pow) (rI CPow λi j=>.int (i^j.toNat)):=opI λz z z z z z z hc q=>pow_int_small hc.1 hc.2.1 hc.2.2 q
def iop_add:OpR X (inplaceOp .Add) (rI0 λi j=>.int (i+j)):=opI0 λz z z z z z z q=>iadd_int q
def unI{f:Value->Sem Value}{g:Int->Int}
  (rule:∀(i:Int) (t:Tok) (s:Shared) (Q:Value->Shared->Prop) (E:Value->Shared->Prop),Q (.int (g i) s.toks) { s with toks:=s.toks+1 }->wpAny (model X.prog X.w) X.A (f (.int i t)) Q E s) :
  UnR X f (rU λi=>.int (g i)):=by
 intro YT s σ H x v Q I rx h;obtain⟨i,rfl,q⟩:=h;obtain⟨t,rfl⟩:=rx;exact rule i t s _ _ ⟨.int (g i),H,I.tok _,⟨_,rfl⟩,q⟩
def un_neg:UnR X (unaryOp .USub) (rU λi=>.int (-i)):=unI λz z z z z q=>neg_int q
end
def scal:V->V->Bool
 |.non,.non=>true | .non,.int _=>true | .int _,.non=>true | .non,.bl _=>true | .bl _,.non=>true | .non,.str _=>true | .str _,.non=>true
 |.int _,.int _=>true | .bl _,.bl _=>true | .str _,.str _=>true | .byt _,.byt _=>true
 |.int _,.str _=>true | .str _,.int _=>true | .bl _,.str _=>true | .str _,.bl _=>true
 |_,_=>false
def rEq:R2:=λx y H Q=>scal x y=true/\Q (.bl (decide (x=y))) H
def rNe:R2:=λx y H Q=>scal x y=true/\Q (.bl (!decide (x=y))) H
def dec_int:decide (V.int i=V.int j)=(i==j):=by rw[Va];simp
def dec_bl:decide (V.bl i=V.bl j)=(i==j):=by rw[Va];simp
def dec_str:decide (V.str i=V.str j)=(i==j):=by rw[Va];simp
def dec_byt:decide (V.byt i=V.byt j)=(i.toList==j.toList):=by rw[Va];cases i;cases j;simp
section
variable{X:Cx}{a b c:Expr}{ta tb tc:TE}{pos:Pos}
def fin_bl(I:Inv X YT σ H s)(q:Q (.bl k) H)(e:k=k'):EP X YT σ Q (.bool k') s:=by subst e;exact⟨.bl k,H,I,rfl,q⟩
def op_eq:OpR X (compareOp .Eq) rEq:=by
 intro YT s σ H x y v u Q I rx ry h;obtain⟨hs,q⟩:=h;cases x with
 |non=>
   cases rx;cases y with
   |non=>cases ry;exact PySem.EqNone.eq_none_none (fin_bl I q (by simp))
   |bl j=>cases ry;exact PySem.EqNone.eq_none_bool (fin_bl I q (by simp))
   |int j=>obtain⟨t',rfl⟩:=ry;exact PySem.EqNone.eq_none_int (fin_bl I q (by simp))
   |str j=>obtain⟨t',rfl⟩:=ry;exact PySem.EqNone.eq_none_str (fin_bl I q (by simp))
   |_=>exact absurd (show false=true from hs) U0
 |bl i=>
   cases rx;cases y with
   |non=>cases ry;exact PySem.EqNone.eq_bool_none (fin_bl I q (by simp))
   |bl j=>cases ry;exact eq_bool (fin_bl I q dec_bl)
   |str j=>obtain⟨t',rfl⟩:=ry;exact PySem.EqMixed.eq_bool_str (fin_bl I q (by simp))
   |_=>exact absurd (show false=true from hs) U0
 |int i=>
   obtain⟨t,rfl⟩:=rx;cases y with
   |non=>cases ry;exact PySem.EqNone.eq_int_none (fin_bl I q (by simp))
   |int j=>obtain⟨t',rfl⟩:=ry;exact eq_int (fin_bl I q dec_int)
   |str j=>obtain⟨t',rfl⟩:=ry;exact PySem.EqMixed.eq_int_str (fin_bl I q (by simp))
   |_=>exact absurd (show false=true from hs) U0
 |str i=>
   obtain⟨t,rfl⟩:=rx;cases y with
   |non=>cases ry;exact PySem.EqNone.eq_str_none (fin_bl I q (by simp))
   |bl j=>cases ry;exact PySem.EqMixed.eq_str_bool (fin_bl I q (by simp))
   |int j=>obtain⟨t',rfl⟩:=ry;exact PySem.EqMixed.eq_str_int (fin_bl I q (by simp))
   |str j=>obtain⟨t',rfl⟩:=ry;exact eq_str (fin_bl I q dec_str)
   |_=>exact absurd (show false=true from hs) U0
 |byt i=>
   obtain⟨t,rfl⟩:=rx;cases y with
   |byt j=>obtain⟨t',rfl⟩:=ry;exact PySem.W.eq_bytes (fin_bl I q dec_byt)
   |_=>exact absurd (show false=true from hs) U0
 |_=>cases y<;>exact absurd (show false=true from hs) U0
def op_ne:OpR X (compareOp .NotEq) rNe:=by
 intro YT s σ H x y v u Q I rx ry h;obtain⟨hs,q⟩:=h;cases x with
 |non=>
   cases rx;cases y with
   |non=>cases ry;exact PySem.EqNone.ne_none_none (fin_bl I q (by simp))
   |bl j=>cases ry;exact PySem.EqNone.ne_none_bool (fin_bl I q (by simp))
   |int j=>obtain⟨t',rfl⟩:=ry;exact PySem.EqNone.ne_none_int (fin_bl I q (by simp))
   |str j=>obtain⟨t',rfl⟩:=ry;exact PySem.EqNone.ne_none_str (fin_bl I q (by simp))
   |_=>exact absurd (show false=true from hs) U0
 |bl i=>
   cases rx;cases y with
   |non=>cases ry;exact PySem.EqNone.ne_bool_none (fin_bl I q (by simp))
   |bl j=>cases ry;exact ne_bool (fin_bl I q (congrArg not dec_bl))
   |str j=>obtain⟨t',rfl⟩:=ry;exact PySem.EqMixed.ne_bool_str (fin_bl I q (by simp))
   |_=>exact absurd (show false=true from hs) U0
 |int i=>
   obtain⟨t,rfl⟩:=rx;cases y with
   |non=>cases ry;exact PySem.EqNone.ne_int_none (fin_bl I q (by simp))
   |int j=>obtain⟨t',rfl⟩:=ry;exact ne_int (fin_bl I q (congrArg not dec_int))
   |str j=>obtain⟨t',rfl⟩:=ry;exact PySem.EqMixed.ne_int_str (fin_bl I q (by simp))
   |_=>exact absurd (show false=true from hs) U0
 |str i=>
   obtain⟨t,rfl⟩:=rx;cases y with
   |non=>cases ry;exact PySem.EqNone.ne_str_none (fin_bl I q (by simp))
   |bl j=>cases ry;exact PySem.EqMixed.ne_str_bool (fin_bl I q (by simp))
   |int j=>obtain⟨t',rfl⟩:=ry;exact PySem.EqMixed.ne_str_int (fin_bl I q (by simp))
   |str j=>obtain⟨t',rfl⟩:=ry;exact ne_str (fin_bl I q (congrArg not dec_str))
   |_=>exact absurd (show false=true from hs) U0
 |byt i=>
   obtain⟨t,rfl⟩:=rx;cases y with
   |byt j=>obtain⟨t',rfl⟩:=ry;exact PySem.W.ne_bytes (fin_bl I q (congrArg not dec_byt))
   |_=>exact absurd (show false=true from hs) U0
 |_=>cases y<;>exact absurd (show false=true from hs) U0
def op_lt:OpR X (compareOp .Lt) (rI0 λi j=>.bl (decide (i<j))):=opB0 λz z z z z z z q=>lt_int q
def op_le:OpR X (compareOp .LtE) (rI0 λi j=>.bl (decide (i<=j))):=opB0 λz z z z z z z q=>le_int q
def op_gt:OpR X (compareOp .Gt) (rI0 λi j=>.bl (decide (j<i))):=opB0 λz z z z z z z q=>gt_int q
def op_ge:OpR X (compareOp .GtE) (rI0 λi j=>.bl (decide (j<=i))):=opB0 λz z z z z z z q=>ge_int q
def OpR.or(h:OpR X f r)(h':OpR X f r'):OpR X f (λx y H Q=>r x y H Q\/r' x y H Q):=by
 intro YT s σ H x y v u Q I rx ry q;rcases q with q | q
 ·exact h YT s σ H x y v u Q I rx ry q
 ·exact h' YT s σ H x y v u Q I rx ry q
def nomark(b:Expr)(h:op≠.In:=by decide)(h2:op≠.NotIn:=by decide):behindInMarks op b=false:=by
 have e1:(op==CmpOp.In)=false:=by cases op<;>first | rfl | exact absurd rfl h
 have e2:(op==CmpOp.NotIn)=false:=by cases op<;>first | rfl | exact absurd rfl h2
 cases b<;>simp[behindInMarks,e1,e2]
def pe_cmpR(ho:OpR X (compareOp op) r)(ha:PE X a ta)(hb:PE X b tb)(hm:behindInMarks op b=false):PE X (.Compare a [op] [b] pos) (tOp r ta tb):=by intro YT s σ H Q I h;exact wpAny_Compare1 (binT ha hb I h λv u s2 x y H2 I2 rx ry q=>ho YT s2 σ H2 x y v u Q I2 rx ry q) hm
def tTest(t:TE):TT:=λσ H Q=>t σ H λx H'=>∃k,x=.bl k/\Q k H'
def pt_cmpR(ho:OpR X (compareOp op) r)(ha:PE X a ta)(hb:PE X b tb)(hm:behindInMarks op b=false):PT X (.Compare a [op] [b] pos) (tTest (tOp r ta tb)):=by
 intro YT s σ H Q I h;refine wpAny_isTrue_Compare1 (thn (ha YT s σ H _ I h) λv s1 ⟨x,H1,I1,r1,q1⟩=>thn (hb YT s1 σ H1 _ I1 q1) λu s2 ⟨y,H2,I2,r2,q2⟩=>
  thn (ho YT s2 σ H2 x y v u _ I2 r1 r2 q2) λc s3 ⟨z,H3,I3,r3,k,e,q3⟩=>?_) hm
 subst e;cases r3;exact Wd ⟨H3,I3,q3⟩
def tChain(r r':R2)(ta tb tc:TE):TE:=λσ H Q=>ta σ H λx H1=>tb σ H1 λy H2=>r x y H2 λz H3=>∃k,z=.bl k /\
 (if k=true then tc σ H3 λw' H4=>r' y w' H4 Q else Q (.bl false) H3)
def pe_chain(ho:OpR X (compareOp op) r)(ho':OpR X (compareOp op') r')(ha:PE X a ta)(hb:PE X b tb)(hc:PE X c tc)
  (hm:lastMarks [op,op'] [b,c]=false:=by with_unfolding_all rfl):PE X (.Compare a [op,op'] [b,c] pos) (tChain r r' ta tb tc):=by
 intro YT s σ H Q I h;refine Compare_chain (thn (ha YT s σ H _ I h) λv s1 ⟨x,H1,I1,r1,q1⟩=>chain_link (thn (hb YT s1 σ H1 _ I1 q1) λu s2 ⟨y,H2,I2,r2,q2⟩=>
  thn (ho YT s2 σ H2 x y v u _ I2 r1 r2 q2) λd s3 ⟨z,H3,I3,r3,k,e,q3⟩=>?_)) hm
 subst e;cases r3;refine Wd ?_;cases k with
 |false=>exact ite_ff ⟨.bl false,H3,I3,rfl,q3⟩
 |true=>exact ite_tt (chain_last (thn (hc YT s3 σ H3 _ I3 q3) λw' s4 ⟨z',H4,I4,r4,q4⟩=>ho' YT s4 σ H4 y z' u w' Q I4 r2 r4 q4))
def pt_chain(ho:OpR X (compareOp op) r)(ho':OpR X (compareOp op') r')(ha:PE X a ta)(hb:PE X b tb)(hc:PE X c tc)
  (hm:lastMarks [op,op'] [b,c]=false:=by with_unfolding_all rfl):PT X (.Compare a [op,op'] [b,c] pos) (tTest (tChain r r' ta tb tc)):=by
 intro YT s σ H Q I h;refine isTrue_chain (thn (ha YT s σ H _ I h) λv s1 ⟨x,H1,I1,r1,q1⟩=>test_link (thn (hb YT s1 σ H1 _ I1 q1) λu s2 ⟨y,H2,I2,r2,q2⟩=>
  thn (ho YT s2 σ H2 x y v u _ I2 r1 r2 q2) λd s3 ⟨z,H3,I3,r3,k,e,q3⟩=>?_)) hm
 subst e;cases r3;refine Wd ?_;cases k with
 |false=>obtain⟨k',e',q'⟩:=q3;cases e';exact ite_ff ⟨H3,I3,q'⟩
 |true=>
   refine ite_tt (test_last (thn (hc YT s3 σ H3 _ I3 q3) λw' s4 ⟨z',H4,I4,r4,q4⟩=>thn (ho' YT s4 σ H4 y z' u w' _ I4 r2 r4 q4) λd' s5 ⟨z2,H5,I5,r5,k2,e2,q5⟩=>?_))
   subst e2;cases r5;exact Wd ⟨H5,I5,q5⟩
def TruV(K:PySem.W.Frag)(x:V)(H:Hp)(k:Bool):Prop:=
 match x with
 |.non=>k=false
 |.bl b=>k=b
 |.int i=>k=(i != 0)
 |.str y=>y.length<=sizeLine/\k=((y.length:Int) != 0)
 |.byt y=>y.size<=sizeLine/\k=((y.size:Int) != 0)
 |.ref p=>(∃xs,SqL K H p xs/\k=!xs.isEmpty)\/(∃xs,SqT K H p xs/\k=!xs.isEmpty)\/∃kvs,H p=some (.dK kvs)/\k=!kvs.isEmpty
 |_=>False
def isEmpty_kv(r:KV kvs vs):(!vs.isEmpty)=!kvs.isEmpty:=by cases r<;>rfl
def isEmpty_of(r:Vals xs its):(!its.toArray.isEmpty)=!xs.isEmpty:=by cases r<;>simp
def line63:(sizeLine:Nat)<2^63:=by rw[Yl];decide
def tru_ok:TruR X (λx H Q=>∃ k,TruV X.K x H k/\Q k H):=by
 intro YT s σ H x v Q I rx h;obtain⟨k,e,q⟩:=h;have hl:=line63;have hs:sizeLine=16777216:=Yl;cases x with
 |non=>cases rx;have e':k=false:=e;subst e';exact truthy_none ⟨H,I,q⟩
 |bl b=>cases rx;have e':k=b:=e;subst e';exact Wd ⟨H,I,q⟩
 |int i=>obtain⟨t,rfl⟩:=rx;have e':k=(i != 0):=e;subst e';exact PySem.P.truthy_int ⟨H,I,q⟩
 |str y=>obtain⟨t,rfl⟩:=rx;obtain⟨hy,e'⟩:y.length<=sizeLine/\k=((y.length:Int) != 0):=e;subst e';exact PySem.P.truthy_str (by lia) ⟨H,I.tok _,q⟩
 |byt y=>obtain⟨t,rfl⟩:=rx;obtain⟨hy,e'⟩:y.size<=sizeLine/\k=((y.size:Int) != 0):=e;subst e';exact PySem.W.truthy_bytes (by lia) ⟨H,I.tok _,q⟩
 | ref p=>
   cases rx;have e':(∃xs,SqL X.K H p xs/\k=!xs.isEmpty)\/(∃xs,SqT X.K H p xs/\k=!xs.isEmpty)\/∃kvs,H p=some (.dK kvs)/\k=!kvs.isEmpty:=e;rcases e' with ⟨xs,hx,e'⟩ | ⟨xs,hx,e'⟩ | ⟨kvs,hx,e'⟩
   ·subst e';obtain⟨its,r,pl,hz⟩:=I.list hx;have hlen:=r.length;exact wpAny_truthy_list pl.isList (by simp only[List.size_toArray];lia) ⟨H,I.tok _,by rw[isEmpty_of r];exact q⟩
   ·subst e';obtain⟨its,r,pl,hz⟩:=I.tuple hx;have hlen:=r.length;exact truthy_tuple pl (by simp only[List.size_toArray];lia) ⟨H,I.tok _,by rw[isEmpty_of r];exact q⟩
   ·subst e';obtain⟨hz,hS,vs,r,m⟩:kvs.length<=sizeLine/\(p==sysModules)=false/\∃vs,KV kvs vs/\s.heap.DictOf (mixKind X.prog X.w) p vs:=I.hok p _ hx;have hlen:kvs.length=vs.length:=Paired.length r;exact wpAny_truthy_dict hS m (by lia) ⟨H,I.tok _,by rw[isEmpty_kv r];exact q⟩
 |_=>exact (show False from e).elim
def pt_truth(ha:PE X a ta)(he:∀whole,isTrue a X.env whole=(do let v <-whole;standAt a.pos;holding [v] (truthy v))):
  PT X a (λσ H Q=>ta σ H λx H'=>∃k,TruV X.K x H' k/\Q k H'):=by
 intro YT s σ H Q I h;exact isTrue_plain (thn (ha YT s σ H _ I h) λv s1 ⟨x,H1,I1,r1,q1⟩=>tru_ok YT s1 σ H1 x v Q I1 r1 q1) (he _)
def op_add_str:OpR X (binaryOp .Add) (λx y H Q=>∃i j,x=.str i/\y=.str j/\i.length+j.length<=sizeLine/\Q (.str (i++j)) H):=by intro YT s σ H x y v u Q I rx ry h;obtain⟨i,j,rfl,rfl,hz,q⟩:=h;obtain⟨t,rfl⟩:=rx;obtain⟨t',rfl⟩:=ry;exact add_str (λt' tk=>⟨.str (i++j),H,I.tok _,⟨_,rfl⟩,q⟩) hz
def vals1(r:Vals [x] us):∃u,us=[u]/\RelV x u:=by
 cases r with
 |cons r1 r2=>cases r2;exact⟨_,rfl,r1⟩
def vals2(r:Vals [x,y] us):∃ u w',us=[u,w']/\RelV x u/\RelV y w':=by
 cases r with
 |cons r1 r2=>
   cases r2 with
   |cons r3 r4=>cases r4;exact⟨_,_,rfl,r1,r3⟩
def call_abs:CallR X (.builtin "abs") (λxs H Q=>∃i,xs=[.int i]/\Q (.int (if i<0 then -i else i)) H):=by intro YT s σ H xs us Q I r h;obtain⟨i,rfl,q⟩:=h;obtain⟨u,rfl,t,rfl⟩:=vals1 r;exact call_abs_int λu tk=>⟨.int (if i<0 then -i else i),H,I.tok _,⟨_,rfl⟩,q⟩
def call_max2(hc:X.calm=true):CallR X (.builtin "max") (λxs H Q=>∃i j,xs=[.int i,.int j]/\Q (.int (if j > i then j else i)) H):=by
 intro YT s σ H xs us Q I r h;obtain⟨i,j,rfl,q⟩:=h;obtain⟨u,w',rfl,⟨t,rfl⟩,⟨t',rfl⟩⟩:=vals2 r;refine max_two_ints (I.ok.hd hc) λh' tk k=>⟨_,H,I.kept k,?_,q⟩
 by_cases hj:j > i
 ·rw[Uv hj,Uv hj];exact⟨_,rfl⟩
 ·rw[Ux hj,Ux hj];exact⟨_,rfl⟩
def call_min2(hc:X.calm=true):CallR X (.builtin "min") (λxs H Q=>∃i j,xs=[.int i,.int j]/\Q (.int (if j<i then j else i)) H):=by
 intro YT s σ H xs us Q I r h;obtain⟨i,j,rfl,q⟩:=h;obtain⟨u,w',rfl,⟨t,rfl⟩,⟨t',rfl⟩⟩:=vals2 r;refine min_two_ints (I.ok.hd hc) λh' tk k=>⟨_,H,I.kept k,?_,q⟩
 by_cases hj:j<i
 ·rw[Uv hj,Uv hj];exact⟨_,rfl⟩
 ·rw[Ux hj,Ux hj];exact⟨_,rfl⟩
end
open PySem PySem.Spec PyProof.Rows
structure ObjM(h:Heap)(x dx C:Addr)(mA:Str->Option Value):Prop where
 obj:h.get? x=some (PySem.W.instObj C dx)
 ns:h.Ns1 dx mA
 ne:dx≠x
set_option tactic.hygienic true in
def lookIn_ns{h:Heap}{dx:Addr}{mA:Str->Option Value}(n:h.Ns1 dx mA):∃ od,h.get? dx=some od/\∀ name,PySem.W.lookIn name od=some (mA name):=by
 obtain⟨o,es,ep,ho,hd,hk,_,hm⟩:=n;refine⟨o,ho,λname=>?_⟩
 have e:=hm name;unfold nsFind findBy at e;rw[<-Array.find?_toList]at e;unfold PySem.W.lookIn;rw[hd];dsimp only;split
 ·rename_i y q;rw[q]at e;exact congrArg some e
 ·rename_i q;rw[q]at e;have a:es.toList.any (·.refKey)=false:=by rw[List.any_eq_false];intro y hy;obtain⟨z,t,hkey⟩:=hk y (Array.mem_toList_iff.mp hy);simp[DictEntry.refKey,hkey]
  have a':¬ es.toList.any (·.refKey)=true:=by rw[a];exact U0
  rw[Ux a'];exact congrArg some e
def ObjM.look(I:ObjM h x dx C mA):∃od,PySem.W.InstAt h x (PySem.W.instObj C dx) C (some od)/\∀name,PySem.W.lookIn name od=some (mA name):=
 let ⟨od,ho,hl⟩:=lookIn_ns I.ns
 ⟨od,⟨I.obj,rfl,rfl,ho⟩,hl⟩
section
variable{prog:Program}{w:World}{A:Around}{E:Value->Shared->Prop}{s:Shared}{K:PySem.W.Frag}{x dx C f:Addr}{mA:Str->Option Value}{name:Str}{v:Value}
def get_map(X:K.In s.heap)(I:ObjM s.heap x dx C mA)(hg:PySem.W.plainGet K C name=true)(hh:PySem.W.hasDictIn K C=true)
  (ha:PySem.W.findIn K (.ref C) name=some none) (hv:mA name=some v) (hv':PySem.W.handedIn v=true) (h:Q v { s with toks:=s.toks+1 }) :
  wpAny (model prog w) A (getAttr (.ref x) name expr) Q E s:=by
 obtain⟨od,J,hl⟩:=I.look;exact PySem.W.get_value X J (PySem.W.plainGet_of hg).1 (PySem.W.findObj_own hh ha rfl (by rw[hl,hv])) hv' h
def get_meth(X:K.In s.heap)(I:ObjM s.heap x dx C mA)(hg:PySem.W.plainGet K C name=true)
  (hf:PySem.W.findIn K (.ref C) name=some (some (.ref f))) (ht:PySem.W.isFn K (.ref f)=true) (hv:mA name=none) (h:Q (.ref f,[.ref x]) s) :
  wpAny (model prog w) A (getMethod (.ref x) name pl) Q E s:=by
 obtain⟨od,J,hl⟩:=I.look;exact PySem.W.method_fn X J (PySem.W.plainGet_of hg).1 (PySem.W.plainGet_of hg).2 hf (Wb.mp ht) (by show (PySem.W.lookIn name od).map (·.isSome)=some false;rw[hl,hv];rfl) h
def set_map(X:K.In s.heap)(I:ObjM s.heap x dx C mA)
  (hs:PySem.W.findIn K (.ref C) "__setattr__"=some (some (.builtin "object.__setattr__"))) (hp:PySem.W.plainOver K C=true) (ht:PySem.W.takerIn K C name=some none) (hh:PySem.W.hasDictIn K C=true)
  (hw:PySem.Within mA ns) (hsz:ns.length<=sizeLine)
  (h:∀h',ObjM h' x dx C (λy=>if y=name then some v else mA y)->Heap.SameBut dx s.heap h'->Q () { s with heap:=h',toks:=s.toks+2 }) :
  wpAny (model prog w) A (setAttr (.ref x) name v) Q E s:=by
 obtain⟨od,J,hl⟩:=I.look;refine PySem.W.set_plain X J hs (PySem.W.osa_open (s:={ s with toks:=s.toks+1 }) (r:=none) X J hp ht λb=>?_)
 obtain⟨cd,hc,hd'⟩:=PySem.W.any_some hh;have hx:s.heap.get? x=some ⟨.ref C,some dx,.plain,#[]⟩:=I.obj;refine Ug (Ui (Ug (Ug (wpAny_loadPart hx (Ug (PySem.W.Looks.here (s:={ s with toks:=s.toks+1 }) (Xz X hc) ?_))))))
 rw[hd'];refine Ui (a:=some dx) (Ug (Ui (Ug ?_)));refine wpAny_nsSet1 (s:={ s with toks:=s.toks+1 }) I.ns λh' hn2 hs2=>?_
 obtain⟨oD,esD,epD,hoD,hdD,hcD⟩:=hn2.count (PySem.Within.cons name v hw);refine Ug (wpAny_lookBehind hoD (by rw[hdD];exact pastItsLine_dict (UL hcD (by rw[Vn];lia))) ?_)
 exact Ui (h _ ⟨(hs2.2 _ (Ne.symm I.ne)).trans I.obj,hn2,I.ne⟩ hs2)
def make_map(X:K.In s.heap)(hm:PySem.W.makesIn K C=true)
  (hi:PySem.W.findIn K (.ref C) "__init__"=some (some (.ref f))) (hf:PySem.W.typeIn K (.ref f)=some (.type "function"))
  (h:codeAny (model prog w) (A.under (.builtin "type.__call__" ⟨.ref C::vs,kw⟩)) (.call (.ref f) ⟨.ref (s.heap.objs.size+1)::vs,kw⟩) (PySem.W.InitBack (s.heap.objs.size+1) R)
    { s with heap:=(s.heap.push PySem.W.emptyDict).push (PySem.W.instObj C s.heap.objs.size) }) :
  codeAny (model prog w) A (.call (.ref C) ⟨vs,kw⟩) R s:=by
 obtain⟨hh,g,d,t,os⟩:=s;exact PySem.W.make_core (PySem.W.makes_of X hm) (V9 X hi) (λself=>PySem.W.bind_fn X self hf) (.inl rfl) h
end
def putF(f:Str)(v:V):List (Str×V)->List (Str×V)
 |[]=>[(f,v)]
 |(g,x)::r=>if g=f then (g,v)::r else (g,x)::putF f v r
theorem lookup_putF(f g:Str)(v:V):∀ fs:List (Str×V),(putF f v fs).lookup g=if g=f then some v else fs.lookup g
 | []=>by
   show List.lookup g [(f,v)]=_;by_cases h:g=f
   ·have hb:(g==f)=true:=Wb.mpr h;simp only[List.lookup,hb,if_pos h]
   ·have hb:(g==f)=false:=Wu.mpr h;simp only[List.lookup,hb,if_neg h]
 | (k,x)::r=>by
   have ih:=lookup_putF f g v r;rw[show putF f v ((k,x)::r)=(if k=f then (k,v)::r else (k,x)::putF f v r) from rfl]
   by_cases hk:k=f
   ·rw[Uv hk];by_cases h:g=k
    ·have hb:(g==k)=true:=Wb.mpr h;simp only[List.lookup,hb,if_pos (h.trans hk)]
    ·have hb:(g==k)=false:=Wu.mpr h;simp only[List.lookup,hb,if_neg (λe:g=f=>h (e.trans hk.symm))]
   ·rw[Ux hk];by_cases h:g=k
    ·have hb:(g==k)=true:=Wb.mpr h;simp only[List.lookup,hb,if_neg (λe:g=f=>hk (h.symm.trans e))]
    ·have hb:(g==k)=false:=Wu.mpr h;simp only[List.lookup,hb];exact ih
theorem keys_putF(f:Str)(v:V):∀ fs:List (Str×V),f∈(putF f v fs).map (·.1)/\∀ g,g∈fs.map (·.1)->g∈(putF f v fs).map (·.1)
 |[]=>⟨by simp[putF],λg h=>by simp at h⟩
 | (k,x)::r=>by
   obtain⟨i1,i2⟩:=keys_putF f v r;rw[show putF f v ((k,x)::r)=(if k=f then (k,v)::r else (k,x)::putF f v r) from rfl]
   by_cases hk:k=f
   ·rw[Uv hk];subst hk;exact⟨by simp,λg h=>by simpa using h⟩
   ·rw[Ux hk];refine⟨?_,λg h=>?_⟩
    ·rw[Vo];exact Vj _ i1
    ·rw[Vo]at h ⊢
     rcases Uw.mp h with e | e
     ·exact Uw.mpr (.inl e)
     ·exact Vj _ (i2 g e)
theorem length_putF(f:Str)(v:V):∀ fs:List (Str×V),(putF f v fs).length<=fs.length + 1
 |[]=>by simp[putF]
 |(k,x)::r=>by
   have ih:=length_putF f v r;rw[show putF f v ((k,x)::r)=(if k=f then (k,v)::r else (k,x)::putF f v r) from rfl]
   by_cases hk:k=f
   ·rw[Uv hk,Vn,Vn];lia
   ·rw[Ux hk,Vn,Vn];lia
def RelO.some_of(r:RelO (some v) o):∃u,o=some u/\RelV v u:=by
 cases o with
 |none=>exact (show False from r).elim
 |some u=>exact⟨u,rfl,r⟩
def RelO.none_of(r:RelO none o):o=none:=by
 cases o with
 |none=>rfl
 |some u=>exact (show False from r).elim
def handed_of(r:RelV v u):PySem.W.handedIn u=true:=by
 cases v with
 |non=>cases (show u=Value.none from r);rfl
 |bl b=>cases (show u=Value.bool b from r);rfl
 |int i=>obtain⟨t,e⟩:=(show ∃t,u=Value.int i t from r);cases e;rfl
 |str x=>obtain⟨t,e⟩:=(show ∃t,u=Value.str x t from r);cases e;rfl
 |byt b=>obtain⟨t,e⟩:=(show ∃t,u=Value.bytes b t from r);cases e;rfl
 |flt b=>obtain⟨t,e⟩:=(show ∃t,u=Value.float b t from r);cases e;rfl
 |ref a=>cases (show u=Value.ref a from r);rfl
 |ty n=>cases (show u=Value.type n from r);rfl
section
variable{P:Program}{w:World}{H H':Hp}{h h':Heap}{a C dx:Addr}{fs fs':List (Str×V)}
def ins_get(hok:HOk P w H h)(e:H a=some (.ins C dx fs)):∃mA,ObjM h a dx C mA/\(∀f,RelO (fs.lookup f) (mA f))/\PySem.Within mA (fs.map (·.1))/\fs.length<=1000/\H dx=some (.own a):=by
 obtain⟨d,z,ne,ob,mA,n,r,q⟩:=(show ObjOk P w H h a (.ins C dx fs) from hok a _ e)
 exact⟨mA,⟨ob,n,ne⟩,r,q,z,d⟩
end
structure Cls(K:PySem.W.Frag)(C:Addr):Prop where
 pg:PySem.W.plainGet K C Str.empty=true
 hd:PySem.W.hasDictIn K C=true
 po:PySem.W.plainOver K C=true
 sa:PySem.W.findIn K (.ref C) "__setattr__"=some (some (.builtin "object.__setattr__"))
def Cls.get{K:PySem.W.Frag}{C:Addr}(c:Cls K C)(f:Str):PySem.W.plainGet K C f=true:=c.pg
def NoAttr(K:PySem.W.Frag)(C:Addr)(f:Str):Prop:=PySem.W.findIn K (.ref C) f=some none
def NoAttr.taker{K:PySem.W.Frag}{C:Addr}{f:Str}(n:NoAttr K C f):PySem.W.takerIn K C f=some none:=by
 unfold PySem.W.takerIn;rw[show PySem.W.findIn K (.ref C) f=some none from n]
 rfl
structure Meth(K:PySem.W.Frag)(C:Addr)(m:Str)(f:Addr):Prop where
 at_:PySem.W.findIn K (.ref C) m=some (some (.ref f))
 fn:PySem.W.isFn K (.ref f)=true
 kp:PySem.W.keepIn K (.ref f)=true
section
variable{X:Cx}{YT:List (Addr×Obj)}{σ:St}{H:Hp}{s:Shared}{a C dx:Addr}{fs:List (Str×V)}{f:Str}{v:V}{A:Around}{E:Value->Shared->Prop}
def getattr_ok(I:Inv X YT σ H s)(e:H a=some (.ins C dx fs))(c:Cls X.K C)(n:NoAttr X.K C f)(l:fs.lookup f=some v)
  (h:∀u s',Inv X YT σ H s'->RelV v u->Q u s'):wpAny (model X.prog X.w) A (getAttr (.ref a) f b) Q E s:=by
 obtain⟨mA,O,r,_,_,_⟩:=ins_get I.hok e;obtain⟨u,hu,ru⟩:=RelO.some_of (v:=v) (o:=mA f) (by rw[<-l];exact r f)
 exact get_map I.kIn O (c.get f) c.hd n hu (handed_of ru) (h u _ (I.tok _) ru)
def getmeth_ok(I:Inv X YT σ H s)(e:H a=some (.ins C dx fs))(c:Cls X.K C)(k:Meth X.K C m g)(l:fs.lookup m=none)
  (h:Q (.ref g,[.ref a]) s):wpAny (model X.prog X.w) A (getMethod (.ref a) m pl) Q E s:=by
 obtain⟨mA,O,r,_,_,_⟩:=ins_get I.hok e;have hn:mA m=none:=RelO.none_of (by rw[<-l];exact r m)
 exact get_meth I.kIn O (c.get m) k.at_ k.fn hn h
def setattr_ok(I:Inv X YT σ H s)(e:H a=some (.ins C dx fs))(c:Cls X.K C)(n:NoAttr X.K C f)(hl:fs.length<1000)(ry:RelV y u)
  (h:∀s',Inv X YT σ (upd H a (.ins C dx (putF f y fs))) s'->Q () s'):wpAny (model X.prog X.w) A (setAttr (.ref a) f u) Q E s:=by
 obtain⟨mA,O,r,wi,_,ho⟩:=ins_get I.hok e;have hz:(fs.map (·.1)).length<=sizeLine:=by rw[UV,Yl];lia
 refine set_map I.kIn O c.sa c.po n.taker c.hd wi hz λh' O' sb=>h _ ?_
 have hd:∃o,h'.get? dx=some o:=let ⟨o,_,_,e',_⟩:=O'.ns;⟨o,e'⟩
 refine I.write (x:=a) (e:=dx) (by rw[e];exact True.intro) (.inr ho) (λb q hb z=>(sb.2 b hb).trans z) hd ?_
 refine⟨by rw[upd_ne O.ne];exact ho,?_,O.ne,O'.obj,_,O'.ns,λg=>?_,λg hg=>?_⟩
 ·have:=length_putF f y fs;lia
 ·show RelO ((putF f y fs).lookup g) (if g=f then some u else mA g)
  rw[lookup_putF];by_cases q:g=f
  ·rw[Uv q,Uv q];exact ry
  ·rw[Ux q,Ux q];exact r g
 ·by_cases q:g=f
  ·rw[q];exact (keys_putF f y fs).1
  ·refine (keys_putF f y fs).2 g (wi g λz=>hg ?_)
   show (if g=f then some u else mA g)=none
   rw[Ux q];exact z
def Inv.made(I:Inv X YT σ H s):Inv X YT σ (upd (upd H s.heap.objs.size (.own (s.heap.objs.size+1))) (s.heap.objs.size+1) (.ins C s.heap.objs.size []))
  { s with heap:=(s.heap.push PySem.W.emptyDict).push (PySem.W.instObj C s.heap.objs.size) }:=by
 have e1:(s.heap.push PySem.W.emptyDict).get? s.heap.objs.size=some PySem.W.emptyDict:=Ul s.heap rfl;have e2:((s.heap.push PySem.W.emptyDict).push (PySem.W.instObj C s.heap.objs.size)).get? (s.heap.objs.size+1)=some (PySem.W.instObj C s.heap.objs.size):=by
  have:=Ul (s.heap.push PySem.W.emptyDict) (o:=PySem.W.instObj C s.heap.objs.size) rfl
  rwa [U4]at this
 have e3:(s.heap.push PySem.W.emptyDict).Ns s.heap.objs.size (λz=>none):=⟨PySem.W.emptyDict,#[],_,e1,rfl,(λe he=>absurd he (by simp)),λz=>rfl⟩
 have I1:=I.laid (a:=s.heap.objs.size) (o:=.own (s.heap.objs.size+1)) (h':=s.heap.push PySem.W.emptyDict) (t':=s.toks) (λb u q=>Uh _ q) (Ur _) ⟨_,e1⟩
 refine I1.laid (a:=s.heap.objs.size+1) (o:=.ins C s.heap.objs.size []) (t':=s.toks) (λb u q=>Uh _ q) (Nat.le_of_eq (U4 _ _)) ?_
 have ne:s.heap.objs.size≠s.heap.objs.size+1:=Ut (VL _);refine⟨by rw[upd_ne ne,upd_same],W9 _,ne,e2,λz=>none,(Heap.Ns1.of_empty e3).at λo q=>Uh _ q,λz=>True.intro,λy hy=>absurd rfl hy⟩
def attr_of(hb:attributeBase e f env (eval e env)=eval e env)
  (h:wpAny (model prog w) A (eval e env) (λo s₁=>wpAny (model prog w) A (getAttr o f true) Q E s₁) E s):wpAny (model prog w) A (eval (.Attribute e f pos) env) Q E s:=
 Attribute_any_ h (by rw[arm_eval_Attribute,hb])
end
def tFld(K:PySem.W.Frag)(ta:TE)(f:Str):TE:=λσ H Q=>ta σ H λx H1=>∃a C dx fs v,x=.ref a/\H1 a=some (.ins C dx fs)/\Cls K C/\NoAttr K C f/\fs.lookup f=some v/\Q v H1
def sFld(K:PySem.W.Frag)(ta tv:TE)(f:Str):TS:=λD σ H=>tv σ H λy H1=>ta σ H1 λx H2=>∃a C dx fs,x=.ref a/\H2 a=some (.ins C dx fs)/\Cls K C/\NoAttr K C f/\fs.length<1000 /\
 D.nx σ (upd H2 a (.ins C dx (putF f y fs)))
section
variable{X:Cx}{o e value:Expr}{f:Str}{pos pos' tpos:Pos}{ta tv:TE}
def pe_fld(he:PE X e ta)(hb:attributeBase e f X.env (eval e X.env)=eval e X.env):PE X (.Attribute e f pos) (tFld X.K ta f):=by
 intro YT s σ H Q I h;refine attr_of hb (thn (he YT s σ H _ I h) λu s1 ⟨x,H1,I1,rx,a,C,dx,fs,v,ex,ea,c,n,l,q⟩=>?_)
 subst ex;obtain rfl:u=Value.ref a:=rx;exact getattr_ok I1 ea c n l λu' s2 I2 ru=>⟨v,H1,I2,ru,q⟩
def ps_fld(ha:PE X o ta)(hv:PE X value tv)(hs:swapsWith value (some (.Attribute o f pos')) pos.line X.env=pure false):PS X (.Assign [.Attribute o f pos'] value pos) (sFld X.K ta tv f):=by
 intro YT s σ H D I h;refine W3 (thn (hv YT s σ H _ I h) λu s1 ⟨y,H1,I1,ry,q⟩=>thn (ha YT s1 σ H1 _ I1 q) λov s2 ⟨x,H2,I2,rx,a,C,dx,fs,ex,ea,c,n,l,q2⟩=>?_) hs
 subst ex;obtain rfl:ov=Value.ref a:=rx;exact setattr_ok I2 ea c n l ry λs3 I3=>⟨σ,_,I3,q2⟩
def methcall_of(he:PE X e te)(I:Inv X YT σ H s)
  (h:te σ H λx H1=>∃a C dx fs g,x=.ref a/\H1 a=some (.ins C dx fs)/\Cls X.K C/\Meth X.K C m g/\fs.lookup m=none /\
    ∀s1,Inv X YT σ H1 s1->wpAny (model X.prog X.w) X.A (callWith pos (.ref g) [.ref a] (backTo pos (starEach args X.env)) (backToKw pos (keywordEach [] X.env))) Q X.xe s1)
  (ht:eval (.Call (.Attribute e m apos) args [] pos) X.env=(do
    let ov <-eval e X.env
    standAt apos.atName
    let (f,first) <-holding [ov] (getMethod ov m pl)
    callWith pos f first (backTo pos (starEach args X.env)) (backToKw pos (keywordEach [] X.env)))) :
  wpAny (model X.prog X.w) X.A (eval (.Call (.Attribute e m apos) args [] pos) X.env) Q X.xe s:=by
 refine Xa (pl:=pl) (thn (he YT s σ H _ I h) λu s1 ⟨x,H1,I1,rx,a,C,dx,fs,g,ex,ea,c,k,l,q⟩=>?_) ht
 subst ex;obtain rfl:u=Value.ref a:=rx;exact getmeth_ok I1 ea c k l (q s1 I1)
end
section
variable{X:Cx}{YT:List (Addr×Obj)}{σ:St}{H:Hp}{s:Shared}{A:Around}{E:Value->Shared->Prop}{Q:Value->Shared->Prop}{c:Value}{b:Bool}
inductive TyOf(K:PySem.W.Frag)(H:Hp):V->Value->Prop where
 |non:TyOf K H .non (.type "NoneType")
 |bl (x:Bool):TyOf K H (.bl x) (.type "bool")
 |int (i:Int):TyOf K H (.int i) (.type "int")
 |str (x:Str):TyOf K H (.str x) (.type "str")
 |flt (x:UInt64):TyOf K H (.flt x) (.type "float")
 |lst {a:Addr}{xs:List V} (e:H a=some (.lst xs)):TyOf K H (.ref a) (.type "list")
 |frz {a:Addr}{o:Obj}{xs:List V} (e:H a=some (.frz o (.lst xs))):TyOf K H (.ref a) (.type "list")
 |tup {a:Addr}{xs:List V} (e:H a=some (.tup xs)):TyOf K H (.ref a) (.type "tuple")
 |dK {a:Addr}{kvs:List (Key×V)} (e:H a=some (.dK kvs)):TyOf K H (.ref a) (.type "dict")
 |dT {a:Addr}{kvs:List (List Key×V)} (e:H a=some (.dT kvs)):TyOf K H (.ref a) (.type "dict")
 |ins {a C dx:Addr}{fs:List (Str×V)} (e:H a=some (.ins C dx fs)) (cl:Cls K C) (ha:PySem.W.findIn K (.ref C) "__class__"=some (some (.builtin "object.__class__")))
   (hn:PySem.W.specialIn K (.builtin "object.__class__") "__get__"=some (some (.builtin "getset_descriptor.__get__"))) (htk:PySem.W.takesIn K (.builtin "object.__class__")=some true)
   (hm:PySem.W.mroIn K C (.type "object")=some true):TyOf K H (.ref a) (.ref C)
def isinst_ok(I:Inv X YT σ H s)(rx:RelV x u)(ty:TyOf X.K H x t)(e:PySem.W.kitOne X.K t c=some b)(h:∀ tk,Q (.bool b) { s with toks:=tk }):
  wpAny (model X.prog X.w) A (call (.builtin "isinstance") [u,c]) Q E s:=by
 cases ty with
 |non=>cases (show u=Value.none from rx);exact VH PySem.W.kitx_none I.kIn True.intro e (λz=>nomatch z) h
 |bl y=>cases (show u=Value.bool y from rx);exact VH PySem.W.kitx_bool I.kIn True.intro e (λz=>nomatch z) h
 |int i=>obtain⟨t,q⟩:=(show ∃t,u=Value.int i t from rx);cases q;exact VH PySem.W.kitx_int I.kIn True.intro e (λz=>nomatch z) h
 |str y=>obtain⟨t,q⟩:=(show ∃t,u=Value.str y t from rx);cases q;exact VH PySem.W.kitx_str I.kIn True.intro e (λz=>nomatch z) h
 |flt y=>obtain⟨t,q⟩:=(show ∃t,u=Value.float y t from rx);cases q;exact VH PySem.W.kitx_float I.kIn True.intro e (λz=>nomatch z) h
 | @lst a xs ea=>
   cases (show u=Value.ref a from rx)
   obtain⟨_,_,n,_,h1⟩:=(show ObjOk X.prog X.w H s.heap a (.lst xs) from I.hok a _ ea)
   exact VH PySem.W.kitx_list I.kIn ⟨_,h1,rfl⟩ e (λz=>nomatch z) h
 | @frz a ob xs ea=>
   cases (show u=Value.ref a from rx)
   obtain⟨_,_,_,n,_,h1⟩:=(show ObjOk X.prog X.w H s.heap a (.frz ob (.lst xs)) from I.hok a _ ea)
   exact VH PySem.W.kitx_list I.kIn ⟨_,h1,rfl⟩ e (λz=>nomatch z) h
 | @tup a xs ea=>
   cases (show u=Value.ref a from rx)
   obtain⟨_,_,_,p⟩:=(show ObjOk X.prog X.w H s.heap a (.tup xs) from I.hok a _ ea)
   obtain⟨o,h1,h2,_⟩:=p;exact VH PySem.W.kitx_tuple I.kIn ⟨o,h1,h2⟩ e (λz=>nomatch z) h
 | @dK a kvs ea=>
   cases (show u=Value.ref a from rx)
   obtain⟨_,_,vs,_,p⟩:=(show ObjOk X.prog X.w H s.heap a (.dK kvs) from I.hok a _ ea)
   obtain⟨o,es,ep,h1,h2,_⟩:=p;exact VH PySem.W.kitx_dict I.kIn ⟨o,h1,h2.1⟩ e (λz=>nomatch z) h
 | @dT a kvs ea=>
   cases (show u=Value.ref a from rx)
   obtain⟨_,_,xs,_,o,es,ep,h1,h2,_⟩:=(show ObjOk X.prog X.w H s.heap a (.dT kvs) from I.hok a _ ea)
   exact VH PySem.W.kitx_dict I.kIn ⟨o,h1,h2.1⟩ e (λz=>nomatch z) h
 | @ins a C dx fs ea cl ha hn htk hm=>
   cases (show u=Value.ref a from rx)
   obtain⟨mA,O,_⟩:=ins_get I.hok ea;obtain⟨od,J,_⟩:=O.look;exact VH (PySem.W.kitx_own (cl.get _) cl.hd ha hn htk hm) I.kIn J e (λz=>nomatch z) h
end
open PySem PySem.Spec PyProof.Rows
structure Room(k:Nat)(A:Around):Prop where
 hd:A.handled=none
 dp:A.depth+3*k+5<recursionLimit
 un:A.units+16*k+200<cLine
 gd:A.guards=some []
def Room.mono(r:Room k A)(h:j<=k):Room j A:=⟨r.hd,by have:=r.dp;lia,by have:=r.un;lia,r.gd⟩
theorem Room.deeper(r:Room (k+1) A)(env:Env):Room k (A.deeper env):=
 ⟨r.hd,by have:=r.dp;show A.depth+1+3*k+5<_;lia,by have:=r.un;show A.units+3+16*k+200<_;lia,r.gd⟩
theorem Room.in1(r:Room (k+1) A):Room k A.in1:=
 ⟨r.hd,by have:=r.dp;show A.depth+3*k+5<_;lia,by have:=r.un;show A.units+1+16*k+200<_;lia,r.gd⟩
def make_depth{A:Around}{C:Addr}{us:List Value}{kw:List (Str×Value)}:(A.under (.builtin "type.__call__" ⟨.ref C::us,kw⟩)).depth=A.depth+1:=by
 first | rfl | simp[Around.under,Code.weight,Code.isCreation,Code.isGuard,Code.isCaller,Code.frames,Code.isFrame,guardIds]
def make_units{A:Around}{C:Addr}{us:List Value}{kw:List (Str×Value)}:(A.under (.builtin "type.__call__" ⟨.ref C::us,kw⟩)).units=A.units+1:=by
 first | rfl | simp[Around.under,Code.cUnits,Code.frames,Code.isFrame]
def yW{A:Around}{C:Addr}{us:List Value}{kw:List (Str×Value)}:(A.under (.builtin "type.__call__" ⟨.ref C::us,kw⟩)).guards=A.guards:=by simp[Around.under,Code.guards,Code.isGuard,guardIds,pushGuards]
def Room.make(r:Room (k+1) A)(C:Addr)(us:List Value)(kw:List (Str×Value)):Room k (A.under (.builtin "type.__call__" ⟨.ref C::us,kw⟩)):=
 ⟨r.hd,by have:=r.dp;rw[make_depth];lia,by have:=r.un;rw[make_units];lia,by first | (rw[yW];exact r.gd) | exact r.gd⟩
theorem Room.depth(r:Room k A):A.depth<recursionLimit:=by have:=r.dp;lia
theorem Room.units(r:Room k A):A.units+64<cLine:=by have:=r.un;lia
def tNil:TA:=λz H Q=>Q [] H
def tCons(ta:TE)(tr:TA):TA:=λσ H Q=>ta σ H λx H1=>tr σ H1 λxs H2=>Q (x::xs) H2
section
variable{X:Cx}{e:Expr}{es:List Expr}{te:TE}{t:TA}{pos:Pos}
def pa_nil:PA X [] tNil:=λz z z z H Q I h=>YC ⟨[],H,I,.nil,h⟩
def pa_cons(ha:PE X e te)(hr:PA X es t)(hs:starEach (e::es) X.env=(false,eval e X.env)::starEach es X.env:=by rfl):PA X (e::es) (tCons te t):=by
 intro pos YT s σ H Q I h;rw[hs];show wpAny _ _ (spliced ((false,eval e X.env)::backTo pos (starEach es X.env))) _ _ s;refine Yy (thn (ha YT s σ H _ I h) λu s1 ⟨x,H1,I1,r1,q1⟩=>?_)
 exact thn (hr pos YT s1 σ H1 _ I1 q1) λus s2 ⟨xs,H2,I2,r2,q2⟩=>⟨x::xs,H2,I2,.cons r1 r2,q2⟩
def tTup(t:TA):TE:=λσ H Q=>t σ H λxs H1=>xs.length<=sizeLine/\∀p,H1 p=none->Q (.ref p) (upd H1 p (.tup xs))
def tLst(t:TA):TE:=λσ H Q=>t σ H λxs H1=>xs.length<=sizeLine/\∀p,H1 p=none->Q (.ref p) (upd H1 p (.lst xs))
def pe_tup{x1}(h:PA X es t):PE X (.Tuple es x1 pos) (tTup t):=by
 intro YT s σ H Q I hq;refine wpAny_Tuple_spliced (thn (h pos YT s σ H _ I hq) λus s1 ⟨xs,H1,I1,r,z,q⟩=>⟨by rw[<-r.length];exact z,?_⟩)
 have hf:H1 s1.heap.objs.size=none:=I1.hok.fresh (Ur _);refine⟨.ref s1.heap.objs.size,upd H1 s1.heap.objs.size (.tup xs),I1.laid (t':=s1.toks) (λb u e=>Uh _ e) (Ur _) ?_,rfl,q _ hf⟩
 exact⟨z,us,r,⟨_,Ul _ rfl,rfl,_,rfl⟩⟩
def pe_lst(h:PA X es t):PE X (.List es pos) (tLst t):=by
 intro YT s σ H Q I hq;refine wpAny_List_spliced (thn (h pos YT s σ H _ I hq) λus s1 ⟨xs,H1,I1,r,z,q⟩=>⟨by rw[<-r.length];exact z,?_⟩)
 have hf:H1 s1.heap.objs.size=none:=I1.hok.fresh (Ur _);refine⟨.ref s1.heap.objs.size,upd H1 s1.heap.objs.size (.lst xs),I1.laid (t':=s1.toks) (λb u e=>Uh _ e) (Ur _) ?_,rfl,q _ hf⟩
 exact⟨z,us,0,r,Ul _ rfl⟩
end
abbrev Sp:=List V->Hp->VK->XK->Prop
abbrev CXT:=List Env->Hp->Shared->XK->Value->Shared->Prop
structure Env0(P:Program)(w:World)(K:PySem.W.Frag)(mg:Str->Option Value)(base:Heap)(A:Around)(outer:List Env)(s:Shared)(H:Hp):Prop where
 frames:A.frames=some outer
 mod:Mod K mg base
 bs:∀b o,base.get? b=some o->s.heap.get? b=some o/\H b=none
 bsz:base.objs.size<=s.heap.objs.size
 funs:s.heap.FunFrames base outer
 frf:∀b∈frs outer,H b=none
 hok:HOk P w H s.heap
 bare:AllBare s.gens
def CE(outer:List Env)(P:Program)(w:World)(H:Hp)(s:Shared)(Q:VK)(u:Value)(s':Shared):Prop:=
 ∃v H',s'.os=s.os/\AllBare s'.gens/\Un (frs outer) [] H H' s.heap s'.heap/\HOk P w H' s'.heap/\RelV v u/\Q v H'
def CR(CX:CXT)(outer:List Env)(P:Program)(w:World)(H:Hp)(s:Shared)(Q:VK)(E:XK)(r:Result)(s':Shared):Prop:=
 match r with
 |.ok (.ret u)=>CE outer P w H s Q u s'
 |.ok _=>False
 |.error e=>CX outer H s E e s'
structure FnOk(P:Program)(w:World)(K:PySem.W.Frag)(mg:Str->Option Value)(base:Heap)(CX:CXT)(k:Nat)(f:Addr)(fd:FuncData)(ps:List Str)(sp:Sp):Prop where
 len:∀vs H Q E,sp vs H Q E->vs.length=ps.length
 run:∀(A:Around) (outer:List Env) (s:Shared) (H:Hp) (args:Args) (us:List Value) (vs:List V) (Q:VK) (E:XK),Room k A->Env0 P w K mg base A outer s H->BindsTo s fd args (ps.zip us)->Vals vs us->sp vs H Q E->
  codeAny (model P w) A (.call (.ref f) args) (CR CX outer P w H s Q E) s
theorem FnOk.mono{P:Program}{w:World}{K:PySem.W.Frag}{mg:Str->Option Value}{base:Heap}{CX:CXT}{j k:Nat}{f:Addr}{fd:FuncData}{ps:List Str}{sp:Sp}(F:FnOk P w K mg base CX j f fd ps sp)(h:j<=k):
  FnOk P w K mg base CX k f fd ps sp:=⟨F.len,λA outer s H args us vs Q E hr=>F.run A outer s H args us vs Q E (hr.mono h)⟩
def FnOk.imp{P:Program}{w:World}{K:PySem.W.Frag}{mg:Str->Option Value}{base:Heap}{CX:CXT}{k:Nat}{f:Addr}{fd:FuncData}{ps:List Str}{sp sp':Sp}(F:FnOk P w K mg base CX k f fd ps sp)
  (h:∀vs H Q E,sp' vs H Q E->sp vs H Q E):FnOk P w K mg base CX k f fd ps sp':=
 ⟨λvs H Q E q=>F.len vs H Q E (h _ _ _ _ q),λA outer s H args us vs Q E hr he hb hv hs=>F.run A outer s H args us vs Q E hr he hb hv (h _ _ _ _ hs)⟩
def Env0.make{P:Program}{w:World}{K:PySem.W.Frag}{mg:Str->Option Value}{base:Heap}{A:Around}{outer:List Env}{s:Shared}{H:Hp}(e:Env0 P w K mg base A outer s H)(C:Addr)(us:List Value)(kw:List (Str×Value)):
  Env0 P w K mg base (A.under (.builtin "type.__call__" ⟨.ref C::us,kw⟩)) outer s H:=⟨by first | exact e.frames | (simpa[Around.under,Code.envs,Code.isFrame,pushEnvs] using e.frames),e.mod,e.bs,e.bsz,e.funs,e.frf,e.hok,e.bare⟩
section
variable{X:Cx}{YT:List (Addr×Obj)}{σ:St}{H:Hp}{s s':Shared}
def Inv.env0(I:Inv X YT σ H s):Env0 X.prog X.w X.K X.mg X.base X.A X.stack s H:=
 ⟨I.ok.frames,I.ok.mod,I.bs,UL I.ok.bsz I.sz,I.stack,I.stkFree,I.hok,I.bare⟩
def Inv.after(I:Inv X YT σ H s)(h:CE X.stack X.prog X.w H s Q u s'):EP X YT σ Q u s':=by obtain⟨v,H',os,bare,un,hok,r,q⟩:=h;obtain⟨hh,g,d,t,os'⟩:=s';obtain rfl:os'=s.os:=os;exact⟨v,H',I.call (h':=hh) (g':=g) (d':=d) (t':=t) (ch:=[]) un hok bare (λb z=>absurd z (by simp)),r,q⟩
end
def tCall(sp:Sp)(dvs:List V)(E:XK)(t:TA):TE:=λσ H Q=>t σ H λvs H1=>sp (vs++dvs) H1 Q E
def tMeth(C:Addr)(m:Str)(sp:Sp)(dvs:List V)(E:XK)(ta:TE)(t:TA):TE:=λσ H Q=>ta σ H λx H1=>∃a dx fs,x=.ref a/\H1 a=some (.ins C dx fs)/\fs.lookup m=none /\
 t σ H1 λvs H2=>sp (x::(vs++dvs)) H2 Q E
def tMake(C:Addr)(sp:Sp)(dvs:List V)(E:XK)(t:TA):TE:=λσ H Q=>t σ H λvs H1=>∀x dx,H1 x=none->H1 dx=none->dx≠x->
 sp (.ref x::(vs++dvs)) (upd (upd H1 dx (.own x)) x (.ins C dx [])) (λv H2=>v=.non/\Q (.ref x) H2) E
def Binds(K:PySem.W.Frag)(fd:FuncData)(ps:List Str)(ds:List Value):Prop:=
 ∀(s:Shared) (us:List Value),K.In s.heap->(us++ds).length=ps.length->BindsTo s fd ⟨us,[]⟩ (ps.zip (us++ds))
def Binds.all{K:PySem.W.Frag}{fd:FuncData}{ps:List Str}(h:∀us:List Value,us.length=ps.length->bindArgs fd ⟨us,[]⟩=pure (ps.zip us)):Binds K fd ps []:=λs us z hl=>by
 rw[V6]at hl ⊢
 exact .of_eq (h us hl)
def Passes(CX:CXT)(X:Cx)(E:XK):Prop:=∀(YT:List (Addr×Obj)) (σ:St) (H:Hp) (s:Shared) (e:Value) (s':Shared),Inv X YT σ H s->CX X.stack H s E e s'->X.xe e s'
section
variable{X:Cx}{CX:CXT}{k:Nat}{f C:Addr}{fd:FuncData}{ps:List Str}{sp:Sp}{dvs:List V}{ds:List Value}{E:XK}{x m:Str}{p pos apos:Pos}{e o:Expr}{es:List Expr}{ta:TE}{t:TA}
def run_fn(F:FnOk X.prog X.w X.K X.mg X.base CX k f fd ps sp)(hr:Room k X.A)(hb:Binds X.K fd ps ds)(hd:Vals dvs ds)(hx:Passes CX X E)
  (I:Inv X YT σ H s) (r:Vals vs us) (h:sp (vs++dvs) H Q E):wpAny (model X.prog X.w) X.A (call (.ref f) us) (EP X YT σ Q) X.xe s:=by
 have r2:Vals (vs++dvs) (us++ds):=r.append hd;have hl:(us++ds).length=ps.length:=by rw[<-r2.length];exact F.len _ _ _ _ h
 refine WY (V2 (F.run X.A X.stack s H ⟨us,[]⟩ (us++ds) (vs++dvs) Q E hr I.env0 (hb s us I.kIn hl) r2 h) λr s' hq=>?_)
 cases r with
 |error e=>exact hx YT σ H s e s' I hq
 |ok fl=>
   cases fl with
   |ret u=>exact I.after hq
   |next=>exact False.elim hq
   |brk=>exact False.elim hq
   |cont=>exact False.elim hq
def pe_call(F:FnOk X.prog X.w X.K X.mg X.base CX k f fd ps sp)(hr:Room k X.A)(hg:Gl X x)(hm:X.mg x=some (.ref f))(hk:PySem.W.keepIn X.K (.ref f)=true)(hb:Binds X.K fd ps ds)(hd:Vals dvs ds)(hx:Passes CX X E)
  (ha:PA X (e::es) t) (hdb:(x==("__debug__":Str))=false:=by decide) (he:starEach (e::es) X.env=(false,eval e X.env)::starEach es X.env:=by rfl) (hpl:(backTo pos (starEach es X.env)).any (·.1)=false:=by rfl) :
  PE X (.Call (.Name x p) (e::es) [] pos) (tCall sp dvs E t):=by
 intro YT s σ H Q I h;refine Wy (ld_glob I hg hm ?_ hdb);refine X3 (h₀:=X.base) I.ok.mod.kin hk (thn (ha pos YT s σ H _ I h) λus s1 ⟨vs,H1,I1,r,q⟩=>⟨I1.kIn,?_⟩) he hpl
 exact run_fn F hr hb hd hx I1 r q
def pe_meth(he:PE X o ta)(c:Cls X.K C)(hm:Meth X.K C m f)(F:FnOk X.prog X.w X.K X.mg X.base CX k f fd ps sp)(hr:Room k X.A)(hb:Binds X.K fd ps ds)(hd:Vals dvs ds)(hx:Passes CX X E)(ha:PA X (e::es) t)
  (hst:starEach (e::es) X.env=(false,eval e X.env)::starEach es X.env:=by rfl) (hpl:(backTo pos (starEach es X.env)).any (·.1)=false:=by rfl)
  (ht:eval (.Call (.Attribute o m apos) (e::es) [] pos) X.env=(do
    let ov <-eval o X.env
    standAt apos.atName
    let (f,first) <-holding [ov] (getMethod ov m pl)
    callWith pos f first (backTo pos (starEach (e::es) X.env)) (backToKw pos (keywordEach [] X.env))):=by rfl) :
  PE X (.Call (.Attribute o m apos) (e::es) [] pos) (tMeth C m sp dvs E ta t):=by
 intro YT s σ H Q I h;refine Xa (pl:=pl) (thn (he YT s σ H _ I h) λu s1 ⟨x,H1,I1,rx,a,dx,fs,ex,ea,l,q⟩=>?_) ht
 subst ex;obtain rfl:u=Value.ref a:=rx;refine getmeth_ok I1 ea c hm l ?_;refine X3 (first:=[.ref a]) (h₀:=X.base) I.ok.mod.kin hm.kp (thn (ha pos YT s1 σ H1 _ I1 q) λus s2 ⟨vs,H2,I2,r,q2⟩=>⟨I2.kIn,?_⟩) hst hpl
 exact run_fn (us:=.ref a::us) (vs:=.ref a::vs) F hr hb hd hx I2 (.cons rfl r) q2
structure Mk(K:PySem.W.Frag)(C f:Addr):Prop where
 makes:PySem.W.makesIn K C=true
 init:PySem.W.findIn K (.ref C) "__init__"=some (some (.ref f))
 fn:PySem.W.isFn K (.ref f)=true
 kp:PySem.W.keepIn K (.ref C)=true
def run_make(M:Mk X.K C f)(F:FnOk X.prog X.w X.K X.mg X.base CX k f fd ps sp)(hr:Room (k + 1) X.A)(hb:Binds X.K fd ps ds)(hd:Vals dvs ds)
  (hx:Passes CX X E) (I:Inv X YT σ H s) (r:Vals vs us)
  (h:∀x dx,H x=none->H dx=none->dx≠x->sp (.ref x::(vs++dvs)) (upd (upd H dx (.own x)) x (.ins C dx [])) (λv H2=>v=.non/\Q (.ref x) H2) E) :
  wpAny (model X.prog X.w) X.A (call (.ref C) us) (EP X YT σ Q) X.xe s:=by
 have hq:=h (s.heap.objs.size+1) s.heap.objs.size (I.hok.fresh (Xr _)) (I.hok.fresh (Ur _)) (Ut (VL _));have I2:=Inv.made (C:=C) I;have r2:Vals (V.ref (s.heap.objs.size+1)::(vs++dvs)) (Value.ref (s.heap.objs.size+1)::(us++ds)):=.cons rfl (r.append hd);have hl:(Value.ref (s.heap.objs.size+1)::us++ds).length=ps.length:=by have e:=r2.length;rw[F.len _ _ _ _ hq]at e;exact e.symm
 refine WY (make_map (f:=f) I.kIn M.makes M.init (Wb.mp M.fn) (V2 (F.run _ X.stack _ _ ⟨Value.ref (s.heap.objs.size+1)::us,[]⟩ (Value.ref (s.heap.objs.size+1)::(us++ds)) _ _ E (hr.make C us [])
  (I2.env0.make C us []) (hb _ (Value.ref (s.heap.objs.size+1)::us) I2.kIn hl) r2 hq) λr s' hq'=>?_))
 cases r with
 |error e=>exact hx YT σ _ _ e s' I2 hq'
 | ok fl=>
   cases fl with
   |ret u=>obtain⟨v,H',I3,rv,ev,q3⟩:=I2.after hq';subst ev;exact⟨rv,⟨V.ref (s.heap.objs.size+1),H',I3,rfl,q3⟩⟩
   |next=>exact False.elim hq'
   |brk=>exact False.elim hq'
   |cont=>exact False.elim hq'
def pe_make(M:Mk X.K C f)(F:FnOk X.prog X.w X.K X.mg X.base CX k f fd ps sp)(hr:Room (k+1) X.A)(hg:Gl X x)(hm:X.mg x=some (.ref C))(hb:Binds X.K fd ps ds)(hd:Vals dvs ds)(hx:Passes CX X E)
  (ha:PA X (e::es) t) (hdb:(x==("__debug__":Str))=false:=by decide) (he:starEach (e::es) X.env=(false,eval e X.env)::starEach es X.env:=by rfl) (hpl:(backTo pos (starEach es X.env)).any (·.1)=false:=by rfl) :
  PE X (.Call (.Name x p) (e::es) [] pos) (tMake C sp dvs E t):=by
 intro YT s σ H Q I h;refine Wy (ld_glob I hg hm ?_ hdb);refine X3 (h₀:=X.base) I.ok.mod.kin M.kp (thn (ha pos YT s σ H _ I h) λus s1 ⟨vs,H1,I1,r,q⟩=>⟨I1.kIn,?_⟩) he hpl
 exact run_make M F hr hb hd hx I1 r q
end
def PK(X:Cx)(kws:List Keyword)(t:TA):Prop:=
 ∀(pos:Pos) (YT:List (Addr×Obj)) (s:Shared) (σ:St) (H:Hp) (Q:List V->Hp->Prop),Inv X YT σ H s->t σ H Q->wpAny (model X.prog X.w) X.A (evalAll ((backToKw pos (keywordEach kws X.env)).map (·.2))) (AP X YT σ Q) X.xe s
section
variable{X:Cx}{CX:CXT}{k:Nat}{f C:Addr}{fd:FuncData}{ps ks:List Str}{sp:Sp}{E:XK}{x m:Str}{p pos apos kpos:Pos}{e o:Expr}{es:List Expr}{kws:List Keyword}{te ta:TE}{t tk:TA}{nm:Option Str}
def pk_nil:PK X [] tNil:=λz z z z H Q I h=>wpAny_evalAll_nil ⟨[],H,I,.nil,h⟩
def pk_cons(ha:PE X e te)(hr:PK X kws t):PK X (⟨nm,e,kpos⟩::kws) (tCons te t):=by
 intro pos YT s σ H Q I h;show wpAny _ _ (evalAll ((do let v <-eval e X.env;standAt pos;pure v)::(backToKw pos (keywordEach kws X.env)).map (·.2))) _ _ s
 refine wpAny_evalAll_cons (Ug (thn (ha YT s σ H _ I h) λu s1 ⟨x,H1,I1,r1,q1⟩=>Ug (Vt (Ui ?_))))
 exact thn (hr pos YT s1 σ H1 _ I1 q1) λus s2 ⟨xs,H2,I2,r2,q2⟩=>⟨x::xs,H2,I2,.cons r1 r2,q2⟩
structure KBinds(K:PySem.W.Frag)(fd:FuncData)(ps ks:List Str)(g:List Value->List Value->List Value)(gV:List V->List V->List V):Prop where
 to:∀(s:Shared) (us ws:List Value),K.In s.heap->(g us ws).length=ps.length->BindsTo s fd ⟨us,ks.zip ws⟩ (ps.zip (g us ws))
 rel:∀{vs:List V}{us:List Value}{zs:List V}{ws:List Value},Vals vs us->Vals zs ws->Vals (gV vs zs) (g us ws)
variable{g:List Value->List Value->List Value}{gV:List V->List V->List V}
def run_fnk(F:FnOk X.prog X.w X.K X.mg X.base CX k f fd ps sp)(hr:Room k X.A)(hb:KBinds X.K fd ps ks g gV)(hx:Passes CX X E)
  (I:Inv X YT σ H s) (r:Vals vs us) (rz:Vals zs ws) (h:sp (gV vs zs) H Q E):wpAny (model X.prog X.w) X.A (call (.ref f) us (ks.zip ws)) (EP X YT σ Q) X.xe s:=by
 have r2:=hb.rel r rz;have hl:(g us ws).length=ps.length:=by rw[<-r2.length];exact F.len _ _ _ _ h
 refine WY (V2 (F.run X.A X.stack s H ⟨us,ks.zip ws⟩ (g us ws) (gV vs zs) Q E hr I.env0 (hb.to s us ws I.kIn hl) r2 h) λr s' hq=>?_)
 cases r with
 |error e=>exact hx YT σ H s e s' I hq
 |ok fl=>
   cases fl with
   |ret u=>exact I.after hq
   |next=>exact False.elim hq
   |brk=>exact False.elim hq
   |cont=>exact False.elim hq
end
structure FnScope(N P:List Str)(sc:Scope):Prop where
 kind:sc.kind=.function
 co:sc.isCoroutine=false
 gen:sc.isGenerator=false
 nd:N.Nodup
 pre:N.take P.length=P
 par:∀x∈P,sc.names.lookup x=some .local\/sc.names.lookup x=some .cell
 nofree:∀y∈sc.names,y.2≠.free
theorem bindL_out{kindOf:Str->Option NameKind}:∀ {binds:List (Str×Value)}{m:Str->Option Value},(∀ v,(x,v)∉binds)->bindL kindOf binds m x=m x
 |[],_,_=>rfl
 | (n,v)::r,m,h=>by
   unfold bindL;rw[bindL_out λw hw=>h w (Vj _ hw)]
   split
   ·have:x≠n:=by rintro rfl;exact h v UW
    simp[this]
   ·rfl
theorem bindC_out{kindOf:Str->Option NameKind}:∀ {binds:List (Str×Value)}{m:Str->Option Value},(∀ v,(x,v)∉binds)->bindC kindOf binds m x=m x
 |[],_,_=>rfl
 | (n,v)::r,m,h=>by
   unfold bindC;rw[bindC_out λw hw=>h w (Vj _ hw)]
   split
   ·rfl
   ·have:x≠n:=by rintro rfl;exact h v UW
    simp[this]
theorem bindL_get{kindOf:Str->Option NameKind}:∀ {P:List Str}{vs:List Value}{i:Nat}{m:Str->Option Value},P.Nodup->P[i]?=some x->vs[i]?=some v->kindOf x=some .local->
  bindL kindOf (P.zip vs) m x=some v
 |[],_,_,_,_,h,_,_=>by simp at h
 |_::_,[],_,_,_,_,h,_=>by simp at h
 |p::P,w::vs,0,m,nd,h1,h2,hk=>by
   simp at h1 h2;subst h1;subst h2;show bindL kindOf ((p,w)::P.zip vs) m p=_;unfold bindL;rw[bindL_out λv hv=>(W6.mp nd).1 (Yx hv).1,Uv hk]
   simp
 |p::P,w::vs,i+1,m,nd,h1,h2,hk=>by show bindL kindOf ((p,w)::P.zip vs) m x=_;unfold bindL;exact bindL_get (i:=i) (W6.mp nd).2 (by simpa using h1) (by simpa using h2) hk
theorem bindC_get{kindOf:Str->Option NameKind}:∀ {P:List Str}{vs:List Value}{i:Nat}{m:Str->Option Value},P.Nodup->P[i]?=some x->vs[i]?=some v->kindOf x≠some .local->
  bindC kindOf (P.zip vs) m x=some v
 |[],_,_,_,_,h,_,_=>by simp at h
 |_::_,[],_,_,_,_,h,_=>by simp at h
 |p::P,w::vs,0,m,nd,h1,h2,hk=>by
   simp at h1 h2;subst h1;subst h2;show bindC kindOf ((p,w)::P.zip vs) m p=_;unfold bindC;rw[bindC_out λv hv=>(W6.mp nd).1 (Yx hv).1,Ux hk]
   simp
 |p::P,w::vs,i+1,m,nd,h1,h2,hk=>by show bindC kindOf ((p,w)::P.zip vs) m x=_;unfold bindC;exact bindC_get (i:=i) (W6.mp nd).2 (by simpa using h1) (by simpa using h2) hk
def start(N:List Str)(vs:List V):St:=vs.map some++List.replicate (N.length-vs.length) none
def cxOf(CX:CXT)(P:Program)(w:World)(K:PySem.W.Frag)(mg:Str->Option Value)(base:Heap)(N:List Str)(qual:Str)(scope:Scope)(f:Addr)(cd:Value)(A:Around)(outer:List Env)(s:Shared)(H:Hp)(E:XK):Cx where
 prog:=P
 w:=w
 K:=K
 mg:=mg
 base:=base
 A:=A.deeper (envOfC qual scope s.heap.objs.size f cd)
 N:=N
 s₀:=s
 H₀:=H
 env:=envOfC qual scope s.heap.objs.size f cd
 outer:=outer
 stack:=envOfC qual scope s.heap.objs.size f cd::outer
 ex:=[]
 calm:=true
 fn:=λz=>true
 pn:=[]
 xe:=λe s'=>wpAny (model P w) (A.deeper (envOfC qual scope s.heap.objs.size f cd)) (leaving (envOfC qual scope s.heap.objs.size f cd) e) (λz s''=>CX outer H s E e s'') (λe' s''=>CX outer H s E e' s'') s'
def cell_has{sc:Scope}{n:Nat}{x:Str}(h:sc.names.lookup x=some .cell):∃c,(cellsFrom n sc.names []).lookup x=some c:=by have q:=Yk sc.names n [] (.inl h);exact W0.mp q
def inv_start{CX:CXT}{P:Program}{w:World}{K:PySem.W.Frag}{mg:Str->Option Value}{base:Heap}{N ps:List Str}{qual:Str}{scope:Scope}{f:Addr}{cd:Value}{A:Around}{outer:List Env}{s s1:Shared}{H:Hp}{E:XK}{us:List Value}{vs:List V}
  (S:FnScope N ps scope) (hd:A.handled=none) (e0:Env0 P w K mg base A outer s H) (hl:vs.length=ps.length) (r:Vals vs us)
  (x:InCallC s s.heap.objs.size (bindL (envOfC qual scope s.heap.objs.size f cd).kindOf (ps.zip us) λt=>none) (cellsFrom (s.heap.objs.size+1) scope.names []) (bindC (envOfC qual scope s.heap.objs.size f cd).kindOf (ps.zip us) λt=>none) s1) :
  Inv (cxOf CX P w K mg base N qual scope f cd A outer s H E) [] (start N vs) H s1:=by
 have hpl:ps.length<=N.length:=by have:=congrArg List.length S.pre;rw[W2]at this;lia
 obtain⟨h1,tk,rfl,hk⟩:=x.done;have noA:∀b:Addr,b∉(cxOf CX P w K mg base N qual scope f cd A outer s H E).ex:=λb z=>absurd (show b∈([]:List Addr) from z) (by simp)
 refine⟨⟨e0.mod,S.kind,rfl,rfl,Ur _,λy z c h1 h2=>?_,λy hy=>?_,λy c t h=>?_,λt=>hd,Around.frames_deeper e0.frames,.inr ⟨rfl,rfl⟩,λb z=>absurd z (noA b),e0.bs,e0.bsz,λb t t=>noA b,λb z=>absurd z (noA b),e0.funs,e0.frf⟩,
  rfl,e0.bare,Un.kept hk,⟨_,x.toInCall.ns,λi y v h1 h2 h3=>?_⟩,λy c h=>⟨_,x.cell y c h⟩,e0.hok.fresh (Ur _),λy c h=>?_,λp hp=>absurd (show p∈([]:List (Addr×Obj)) from hp) (by simp),e0.hok.kept hk,?_⟩
 ·exact name_of_addr x.apart (Vy h1) (Vy h2)
 ·have hy:scope.names.lookup y=some .cell\/scope.names.lookup y=some .free:=hy;rcases hy with hy | hy
  ·exact cell_has hy
  ·exact absurd rfl (S.nofree _ (Vy hy))
 ·exact XS (x.above y c (Vy h))
 ·have hi:i<vs.length:=by
   unfold start at h2;by_cases hi:i<vs.length
   ·exact hi
   ·rw[Vi (by simpa using hi)]at h2
    rw[VR]at h2;split at h2<;>cases h2
  have ha:vs[i]?=some v:=by
   unfold start at h2;rw[Uu (by simpa using hi),UG]at h2
   cases e:vs[i]? with
   |none=>rw[e]at h2;cases h2
   |some a=>rw[e]at h2;cases h2;rfl
  obtain⟨u,hu,rv⟩:=r.get ha;have hp:ps[i]?=some y:=by rw[<-S.pre,List.getElem?_take_of_lt (by lia)];exact h1
  have ndP:ps.Nodup:=by rw[<-S.pre];exact S.nd.sublist (List.take_sublist _ _)
  refine⟨u,rv,?_⟩;rcases S.par y (Vh hp) with k | k
  ·exact .inl ⟨k,bindL_get ndP hp hu k⟩
  ·obtain⟨c,e⟩:=cell_has (n:=s.heap.objs.size+1) k;refine .inr ⟨.inl k,c,e,?_⟩;have q:=x.cell y c e;rw[bindC_get ndP hp hu (by show scope.names.lookup y≠_;rw[k];decide)]at q
   exact q
 ·exact e0.hok.fresh (XS (x.above y c (Vy h)))
 ·unfold start;show _=N.length;rw[Uz,UV,Vz]
  lia
def fn_of{CX:CXT}{P:Program}{w:World}{K:PySem.W.Frag}{mg:Str->Option Value}{base:Heap}{k:Nat}{f:Addr}{name qual:Str}{params:Arguments}{body:List Stmt}{scope:Scope}{dV kV doc pm cdv ct oc:Value}{an od:Option Addr}
  {osl:Array (Option Value)}{N ps:List Str}{sp:Sp} (lk:K.lookup f=some ⟨oc,od,.func (PySem.W.fnOf name qual params body scope dV kV doc pm an cdv ct),osl⟩) (hcd:PySem.W.codeIn K cdv qual=true) (S:FnScope N ps scope)
  (len:∀vs H Q E,sp vs H Q E->vs.length=ps.length)
  (hbody:∀(A:Around) (outer:List Env) (s:Shared) (H:Hp) (vs:List V) (Q:VK) (E:XK),Room k (A.deeper (envOfC qual scope s.heap.objs.size f cdv))->sp vs H Q E->
    ∃t,PSs (cxOf CX P w K mg base N qual scope f cdv A outer s H E) body t/\t { nx:=λz H'=>Q .non H',rt:=Q } (start N vs) H) :
  FnOk P w K mg base CX (k+1) f (PySem.W.fnOf name qual params body scope dV kV doc pm an cdv ct) ps sp:=by
 refine⟨len,λA outer s H args us vs Q E hr e0 hb r hsp=>?_⟩
 have hl:=len _ _ _ _ hsp;have KX:K.In s.heap:=e0.mod.kin.keeps λb o e=>(e0.bs b o e).1
 have lim:s.heap.NoLimit:=e0.mod.nolimit.keeps λb o e=>(e0.bs b o e).1
 have hkind:∀y∈ps.zip us,scope.names.lookup y.1=some .local\/(scope.names.lookup y.1=some .cell/\((cellsFrom (s.heap.objs.size+1) scope.names []).lookup y.1).isSome=true):=λ⟨n,v⟩ hy=>by
  rcases S.par n (Yx hy).1 with q | q
  ·exact .inl q
  ·exact .inr ⟨q,Yk _ _ _ (.inl q)⟩
 refine codeAny_call_function hr.depth (KX _ _ lk) rfl S.co S.gen rfl (PySem.W.codeRec_of KX hcd) (hb _ _ _ _ ?_);refine wpAny_newFunctionEnv_cells S.kind hkind λenv he s1 x=>?_
 subst he;refine⟨lim.keeps x.toInCall.keep,codeAny_func ?_⟩;obtain⟨t,ht,hq⟩:=hbody A outer s H vs Q E (hr.deeper _) hsp;have I:Inv (cxOf CX P w K mg base N qual scope f cdv A outer s H E) [] (start N vs) H s1:=inv_start S hr.hd e0 hl r x;refine Us (ht [] s1 (start N vs) H _ I hq) (λfl s' hs=>?_) λe s' hs=>hs
 have fin:∀{σ':St}{H':Hp}{v:V}{u:Value},Inv (cxOf CX P w K mg base N qual scope f cdv A outer s H E) [] σ' H' s'->RelV v u->Q v H'->CE outer P w H s Q u s':=
  λ{σ' H' v u} J rv q=>⟨v,H',J.os,J.bare,J.base,J.hok,rv,q⟩
 cases fl with
 |ret u=>obtain⟨v,σ',H',J,rv,q⟩:=hs;exact fin J rv q
 |next=>obtain⟨σ',H',J,q⟩:=hs;exact fin (v:=V.non) (u:=Value.none) J rfl q
 |brk=>obtain⟨_,_,_,q⟩:=hs;exact False.elim q
 |cont=>obtain⟨_,_,_,q⟩:=hs;exact False.elim q
open PySem PySem.Spec PyProof.Rows
section
variable{X:Cx}{x:Str}{p pos:Pos}{e:Expr}{es:List Expr}{t:TA}{id T:String}{r:List V->Hp->VK->Prop}
def tCB(r:List V->Hp->VK->Prop)(t:TA):TE:=λσ H Q=>t σ H λvs H1=>r vs H1 Q
def pe_callB(hc:CallR X (.builtin id) r)(hg:Gl X x)(hm:X.mg x=none)(hv:bootBuiltins x=some (.builtin id))(ha:PA X (e::es) t)(hn:x≠"__name__":=by decide)(hdb:(x==("__debug__":Str))=false:=by decide)
  (he:starEach (e::es) X.env=(false,eval e X.env)::starEach es X.env:=by rfl) (hpl:(backTo pos (starEach es X.env)).any (·.1)=false:=by rfl):PE X (.Call (.Name x p) (e::es) [] pos) (tCB r t):=by
 intro YT s σ H Q I h;refine Wy (ld_blt I hg hm hv ?_ hn hdb);exact W8 (thn (ha pos YT s σ H _ I h) λus s1 ⟨vs,H1,I1,r1,q1⟩=>hc YT s1 σ H1 vs us Q I1 r1 q1) he hpl
def pe_callTy(hc:CallR X (.type T) r)(hg:Gl X x)(hm:X.mg x=none)(hv:bootBuiltins x=some (.type T))(ha:PA X (e::es) t)(hn:x≠"__name__":=by decide)(hdb:(x==("__debug__":Str))=false:=by decide)
  (he:starEach (e::es) X.env=(false,eval e X.env)::starEach es X.env:=by rfl) (hpl:(backTo pos (starEach es X.env)).any (·.1)=false:=by rfl):PE X (.Call (.Name x p) (e::es) [] pos) (tCB r t):=by
 intro YT s σ H Q I h;refine Wy (ld_blt I hg hm hv ?_ hn hdb);exact VD (thn (ha pos YT s σ H _ I h) λus s1 ⟨vs,H1,I1,r1,q1⟩=>hc YT s1 σ H1 vs us Q I1 r1 q1) he hpl
end
end L2
namespace HT
open PySem PyProof.Rows
section
open PySem.SeqAt
open PySem.AutoSeq1 (wpAny_loadPart')
open PySem.MeetsSeq PySem.MeetsSeq2 PySem.MeetsSeq3
end
section
variable{prog:Program}{w:World}{A:Around}{E:Value->Shared->Prop}{s:Shared}
def cat_tup(ht:IsTup s.heap t vs.toArray)(hb:IsTup s.heap b ws.toArray)(hv:vs≠[])
  (h1:ws=[]->Q (.ref t) s) (h2:ws≠[]->Q (.ref s.heap.objs.size) { s with heap:=s.heap.push { cls:=.type "tuple",data:=.seq (vs++ws).toArray } })
  (hsz:vs.length+ws.length<=sizeLine):wpAny (model prog w) A (binaryOp .Add (.ref t) (.ref b)) Q E s:=by
 obtain⟨⟨cls,dd,data,sl⟩,ho,hc,n,hd⟩:=id ht;obtain⟨⟨cls2,dd2,data2,sl2⟩,ho2,hc2,n2,hd2⟩:=id hb;simp only at hc hd hc2 hd2;subst hc hd hc2 hd2;have e:vs.toArray++ws.toArray=(vs++ws).toArray:=by simp
 by_cases hw:ws=[]
 ·exact concat_meets ⟨_,ho,rfl⟩ ⟨_,ho2,rfl⟩ noFill_tuple_add seq_tuple_add Yj Yd (XR _ _)
   (tuple_addW1 t b vs.toArray ws.toArray n n2 dd dd2 sl sl2 (by simpa using hv) (by simp[hw])) ⟨ho,ho2,h1 hw⟩
 ·refine concat_meets ⟨_,ho,rfl⟩ ⟨_,ho2,rfl⟩ noFill_tuple_add seq_tuple_add Yj Yd (XR _ _)
   (tuple_addW2 t b vs.toArray ws.toArray n n2 dd dd2 sl sl2 (by simpa using hv) (by simpa using hw) (by rw[Uy,Uy];exact hsz)) ⟨ho,ho2,?_⟩
  rw[e];exact h2 hw
def sIx(n d:Nat):Option Int->Nat
 |none=>d
 |some v=>if v<0 then (v+(n:Int)).toNat else min v.toNat n
def sIx_none(n d:Nat):sIx n d none=d:=rfl
def sIx_nat(n d k:Nat):sIx n d (some (k:Int))=min k n:=by
 show (if (k:Int)<0 then ((k:Int)+(n:Int)).toNat else min (k:Int).toNat n)=min k n
 rw[Ux (by lia),V3]
def sIx_le(n d:Nat)(hd:d<=n)(o:Option Int):sIx n d o<=n:=by
 cases o with
 |none=>exact hd
 |some v=>
   show (if v<0 then (v+(n:Int)).toNat else min v.toNat n)<=n
   by_cases hv:v<0
   ·rw[Uv hv];lia
   ·rw[Ux hv];exact Nat.min_le_right _ _
def clip_eq(v:Int)(n d:Nat):(if v<0 then max (v+(n:Int)) 0 else min v (n:Int))=((sIx n d (some v):Nat):Int):=by
 show (if v<0 then max (v+(n:Int)) 0 else min v (n:Int))=(((if v<0 then (v+(n:Int)).toNat else min v.toNat n):Nat):Int)
 by_cases hv:v<0
 ·simp only[if_pos hv];lia
 ·simp only[if_neg hv];lia
def adjust_gen(lo hi:Option Int)(n:Nat):Builtin.Slice.sliceAdjust lo hi 1 (n:Int)=(((sIx n 0 lo:Nat):Int),((sIx n n hi:Nat):Int)):=by
 have h1:¬ ((1:Int)<0):=by lia
 unfold Builtin.Slice.sliceAdjust;simp only[h1,if_false];refine Prod.ext ?_ ?_
 ·cases lo with
  |none=>rfl
  |some v=>exact clip_eq v n 0
 ·cases hi with
  |none=>rfl
  |some v=>exact clip_eq v n n
def places_gen(i j:Nat):Builtin.Slice.slicePlaces (i:Int) (j:Int) 1=j-i:=by
 unfold Builtin.Slice.slicePlaces;have h1:(1:Int) > 0:=by lia
 simp only[h1,if_true,Int.ediv_one];split<;>lia
def slicePart_(p:IsPart v o)(h:Q o s):wpAny (model prog w) A (Builtin.Slice.slicePartIndex v) Q E s:=by
 cases p with
 |none=>exact slicePart_none h
 |int i t=>exact slicePart_int h
def sliceApplied_gen{lo hi:Option Int}{n:Nat}{Q:Int×Int×Nat->Shared->Prop}(hs:s.heap.IsSliceOf sl vl vu .none)(pl:IsPart vl lo)(pu:IsPart vu hi)
  (h:Q (((sIx n 0 lo:Nat):Int),1,sIx n n hi-sIx n 0 lo) s):wpAny (model prog w) A (Builtin.Slice.sliceApplied (.ref sl) (pure (n:Int))) Q E s:=by
 obtain⟨os,hos,hcs,hds⟩:=id hs;unfold Builtin.Slice.sliceApplied Builtin.Slice.sliceFields;refine Ug (Ug (Vc hos hds (x:=vl) rfl (Ug (Vc hos hds (x:=vu) rfl (Ug (Vc hos hds (x:=.none) rfl (Ui ?_)))))));refine Ug (slicePart_none ?_);show wpAny _ _ (if ((1:Int)==0)=true then _ else _) _ _ s
 rw[Ux (by decide)]
 refine Ug (slicePart_ pl (Ug (slicePart_ pu (Ug (Ui ?_)))));show wpAny _ _ (match Builtin.Slice.sliceAdjust lo hi 1 (n:Int) with | (lo,hi)=>pure (lo,(1:Int),Builtin.Slice.slicePlaces lo hi 1)) _ _ s
 rw[adjust_gen lo hi n];show wpAny _ _ (pure (((sIx n 0 lo:Nat):Int),(1:Int),Builtin.Slice.slicePlaces ((sIx n 0 lo:Nat):Int) ((sIx n n hi:Nat):Int) 1)) _ _ s;rw[places_gen];exact Ui h
def pick_gen(xs:Array Value)(i k:Nat):((List.range k).filterMap λ(m:Nat)=>xs[((i:Int)+(m:Int)*1).toNat]?).toArray=((xs.toList.drop i).take k).toArray:=by
 have e:(λ(m:Nat)=>xs[((i:Int)+(m:Int)*1).toNat]?)=λm=>xs[i+m]?:=by
  funext m;have:((i:Int)+(m:Int)*1).toNat=i+m:=by lia
  rw[this]
 rw[e];have:=pick_run xs i k;rw[List.filterMap_map]at this;have e2:((λx=>xs[x]?) ∘ λx=>i+x)=λm=>xs[i+m]?:=rfl
 rw[e2]at this;rw[this]
def getItem_tuple_cut{items:Array Value}{lo hi:Option Int}{Q:Value->Shared->Prop}(ht:IsTup s.heap t items)(hs:s.heap.IsSliceOf sl vl vu .none)(pl:IsPart vl lo)(pu:IsPart vu hi)
  (hw:¬ (sIx items.size 0 lo=0/\sIx items.size items.size hi=items.size))
  (h:Q (.ref s.heap.objs.size) { s with heap:=s.heap.push { cls:=.type "tuple",data:=.seq ((items.toList.drop (sIx items.size 0 lo)).take (sIx items.size items.size hi-sIx items.size 0 lo)).toArray } })
  (hsz:items.size<=sizeLine):wpAny (model prog w) A (getItem (.ref t) (.ref sl)) Q E s:=by
 have htake:sizeOk (.seq ((items.toList.drop (sIx items.size 0 lo)).take (sIx items.size items.size hi-sIx items.size 0 lo)).toArray):=by
  show ((items.toList.drop (sIx items.size 0 lo)).take (sIx items.size items.size hi-sIx items.size 0 lo)).toArray.size<=sizeLine;rw[Uy,W2,Xk,V5]
  lia
 have hj:sIx items.size items.size hi<=items.size:=sIx_le _ _ (Ur _) hi;obtain⟨os,hos,hcs,hds⟩:=id hs;have hTs:s.TypeIs (.ref sl) "slice":=⟨os,hos,hcs⟩;unfold getItem
 try with_reducible refine Vw ?_
 first | refine Ug (Ui ?_) | skip
 refine Ug (wpAny_sequenceKey ht.typeIs (by decide) ?_)
 refine Ug (Vb (name:=Str.ofString "__getitem__") ht.typeIs Wn
  (Vg Wn ht.typeIs entry_tuple_getitem ?_ (args_tuple_getitem _ _)))
 show wpAny _ _ (Builtin.Tuple.tupleItemsOf (.ref t)>>=_) _ _ s;refine Ug (tupleItemsOf_ ht ?_);refine Ug (X7 hTs ?_);rw[Uv (by decide)]
 refine Ug (sliceApplied_gen hs pl pu ?_);have hno:¬ ((((sIx items.size 0 lo:Nat):Int)==0&&(1:Int)==1&&(sIx items.size items.size hi-sIx items.size 0 lo)==items.size)=true):=by intro q;rw[Wx,Wx]at q;have q1:((sIx items.size 0 lo:Nat):Int)=0:=eq_of_beq q.1.1;have q2:sIx items.size items.size hi-sIx items.size 0 lo=items.size:=eq_of_beq q.2;exact hw ⟨by lia,by lia⟩
 show wpAny _ _ (if (((sIx items.size 0 lo:Nat):Int)==0&&(1:Int)==1&&(sIx items.size items.size hi-sIx items.size 0 lo)==items.size)=true then _ else _) _ _ s
 rw[Ux hno,pick_gen]
 first
  |exact Ug (m:=Builtin.Tuple.tupleExact _) (Vd (Ui ⟨_,rfl,Ui h⟩) htake)
  |exact Ug (m:=Builtin.Tuple.tupleExact _) (Vd (Ug (Ui (Ui ⟨_,rfl,Ui h⟩))) htake)
  |exact Ug (Ug (m:=Builtin.Tuple.tupleExact _) (Vd (Ui (Ui ⟨_,rfl,Ui h⟩)) htake))
  |exact Ug (Ug (m:=Builtin.Tuple.tupleExact _) (Vd (Ui ⟨_,rfl,Ui h⟩) htake))
end
end HT
namespace L2
open PySem PySem.Spec PyProof.Rows
abbrev TO:=St->Hp->(Option Int->Hp->Prop)->Prop
def PO(X:Cx)(e:Option Expr)(t:TO):Prop:=
 ∀(YT:List (Addr×Obj)) (s:Shared) (σ:St) (H:Hp) (Q:Option Int->Hp->Prop),Inv X YT σ H s->t σ H Q->
   wpAny (model X.prog X.w) X.A (evalPart e X.env) (λu s'=>∃o H',Inv X YT σ H' s'/\IsPart u o/\Q o H') X.xe s
def tNoPart:TO:=λz H Q=>Q none H
def tPart(t:TE):TO:=λσ H Q=>t σ H λx H1=>∃i,x=.int i/\Q (some i) H1
def intsAre_of:∀ {us:List Value},Vals (ns.map V.int) us->IntsAre us ns:=by
 induction ns with
 |nil=>intro us r;rw[YS]at r;cases r;exact .nil
 | cons n ns ih=>
   intro us r;rw[Vo]at r;cases r with
   |cons r1 r2=>obtain⟨t,e⟩:=r1;subst e;exact .cons n t (ih r2)
section
variable{X:Cx}{e:Expr}{te:TE}{lo hi:Option Expr}{tl th:TO}{pos p2:Pos}
def po_none:PO X none tNoPart:=by intro YT s σ H Q I h;rw[evalPart_none];exact Ui ⟨none,H,I,.none,h⟩
def po_some(h:PE X e te):PO X (some e) (tPart te):=by
 intro YT s σ H Q I hw;rw[evalPart_some];refine thn (h YT s σ H _ I hw) λu s1 ⟨x,H1,I1,r1,q1⟩=>?_
 obtain⟨i,rfl,q⟩:=q1;obtain⟨t,rfl⟩:=r1;exact⟨some i,H1,I1,.int i t,q⟩
def SlR(X:Cx)(r:V->Option Int->Option Int->Hp->VK->Prop):Prop:=
 ∀(YT:List (Addr×Obj)) (s:Shared) (σ:St) (H:Hp) (x:V) (v vl vu:Value) (lo hi:Option Int) (sl:Addr) (Q:VK),Inv X YT σ H s->RelV x v->s.heap.IsSliceOf sl vl vu .none->IsPart vl lo->IsPart vu hi->r x lo hi H Q->
   ∃T id,typeLookup (.type T) "__getitem__"=pure (some (.builtin id))/\s.TypeIs v T/\wpAny (model X.prog X.w) X.A (getItem v (.ref sl)) (EP X YT σ Q) X.xe s
def tSl(r:V->Option Int->Option Int->Hp->VK->Prop)(te:TE)(tl th:TO):TE:=λσ H Q=>te σ H λx H1=>tl σ H1 λl H2=>th σ H2 λu H3=>r x l u H3 Q
def pe_slice(hr:SlR X r)(he:PE X e te)(hl:PO X lo tl)(hu:PO X hi th):PE X (.Subscript e (.Slice lo hi none p2) pos) (tSl r te tl th):=by
 intro YT s σ H Q I h;refine Subscript_ (thn (he YT s σ H _ I h) λv s1 ⟨x,H1,I1,r1,q1⟩=>?_)
 refine wpAny_Slice (thn (hl YT s1 σ H1 _ I1 q1) λvl s2 ⟨l,H2,I2,pl,q2⟩=>thn (hu YT s2 σ H2 _ I2 q2) λvu s3 ⟨u,H3,I3,pu,q3⟩=>?_)
 rw[evalPart_none];refine Ui ?_;have I4:Inv X YT σ H3 { s3 with heap:=s3.heap.push { cls:=.type "slice",data:=.fields #[vl,vu,.none] } }:=I3.kept (t':=s3.toks) λb ob q=>Uh _ q
 obtain⟨T,id,hT,ht,hg⟩:=hr YT { s3 with heap:=s3.heap.push { cls:=.type "slice",data:=.fields #[vl,vu,.none] } } σ H3 x v vl vu l u s3.heap.objs.size Q I4 r1 (Heap.IsSliceOf.new ..) pl pu q3
 show wpAny (model X.prog X.w) X.A (subscriptTail e (.Slice lo hi none p2) v (.ref s3.heap.objs.size)) (EP X YT σ Q) X.xe { s3 with heap:=s3.heap.push { cls:=.type "slice",data:=.fields #[vl,vu,.none] } }
 exact tail_any (ops:=[.ref s3.heap.objs.size,v]) ht hT hg (by with_unfolding_all rfl)
def cutV(xs:List V)(lo hi:Option Int):List V:=(xs.drop (HT.sIx xs.length 0 lo)).take (HT.sIx xs.length xs.length hi-HT.sIx xs.length 0 lo)
def cutV_length(xs:List V)(lo hi:Option Int):(cutV xs lo hi).length<=xs.length:=by
 unfold cutV;rw[W2,Xk]
 lia
def rSlT(K:PySem.W.Frag):V->Option Int->Option Int->Hp->VK->Prop:=λx lo hi H Q=>∃a xs,x=.ref a/\SqT K H a xs /\
 ¬ (HT.sIx xs.length 0 lo=0/\HT.sIx xs.length xs.length hi=xs.length)/\∀p,H p=none->Q (.ref p) (upd H p (.tup (cutV xs lo hi)))
def sl_tup:SlR X (rSlT X.K):=by
 intro YT s σ H x v vl vu lo hi sl Q I rx hs pl pu h;obtain⟨a,xs,rfl,hx,hw,q⟩:=h;cases rx;obtain⟨its,r,ht,hz⟩:=I.tuple hx;have hlen:its.toArray.size=xs.length:=by rw[Uy];exact r.length.symm
 refine⟨"tuple",_,PyProof.Rows.slot_tuple_getitem.lookup,ht.typeIs,?_⟩;refine HT.getItem_tuple_cut ht hs pl pu (by rw[hlen];exact hw) ?_ (by rw[hlen];exact hz)
 rw[hlen];refine⟨.ref s.heap.objs.size,_,I.laid (t':=s.toks) (o:=.tup (cutV xs lo hi)) (λb ob q=>Uh _ q) (Ur _) ?_,rfl,q _ (I.hok.fresh (Ur _))⟩
 exact⟨UL (cutV_length xs lo hi) hz,_,(r.drop (HT.sIx xs.length 0 lo)).take (HT.sIx xs.length xs.length hi-HT.sIx xs.length 0 lo),YK _ _⟩
def rCatT(K:PySem.W.Frag):R2:=λx y H Q=>∃a b xs ys,x=.ref a/\y=.ref b/\SqT K H a xs/\SqT K H b ys/\xs≠[]/\xs.length+ys.length<=sizeLine /\
 (ys=[]->Q (.ref a) H)/\(ys≠[]->∀p,H p=none->Q (.ref p) (upd H p (.tup (xs++ys))))
def Vals.nil_iff(r:Vals xs us):us=[] ↔ xs=[]:=by
 cases r with
 |nil=>simp
 |cons _ _=>simp
def op_catT:OpR X (binaryOp .Add) (rCatT X.K):=by
 intro YT s σ H x y v u Q I rx ry h;obtain⟨a,b,xs,ys,rfl,rfl,ha,hb,hx,hz,q1,q2⟩:=h;cases rx;cases ry;obtain⟨its,r1,p1,_⟩:=I.tuple ha;obtain⟨its2,r2,p2,_⟩:=I.tuple hb;refine HT.cat_tup p1 p2 (λz=>hx (r1.nil_iff.mp z)) (λz=>⟨.ref a,H,I,rfl,q1 (r2.nil_iff.mp z)⟩) (λz=>?_) (by rw[<-r1.length,<-r2.length];exact hz)
 refine⟨.ref s.heap.objs.size,_,I.laid (t':=s.toks) (o:=.tup (xs++ys)) (λb ob q=>Uh _ q) (Ur _) ?_,rfl,q2 (λw=>z (r2.nil_iff.mpr w)) _ (I.hok.fresh (Ur _))⟩
 exact⟨by rw[Uz];exact hz,_,r1.append r2,YK _ _⟩
end
open PySem PySem.Spec PyProof.Rows
def ixN(n:Nat)(i:Int):Option Nat:=if 0<=i then (if i<n then some i.toNat else none) else if -(n:Int)<=i then some (i+n).toNat else none
def atI{α:Type}(xs:List α)(i:Int):Option α:=(ixN xs.length i).bind λj=>xs[j]?
def ixN_seq(h:ixN n i=some j):seqIndex? i n=some j/\j<n/\-(n:Int)<=i/\i<n:=by
 unfold ixN at h;by_cases h0:0<=i
 ·rw[Uv h0]at h;by_cases h1:i<n
  ·rw[Uv h1]at h;have e:i.toNat=j:=Uo h;exact⟨by rw[seqIndex_of h0 h1,e],by lia,by lia,h1⟩
  ·rw[Ux h1]at h;cases h
 ·rw[Ux h0]at h;by_cases h1:-(n:Int)<=i
  ·rw[Uv h1]at h;have e:(i+n).toNat=j:=Uo h;exact⟨by rw[seqIndex_neg (by lia) h1,e],by lia,h1,by lia⟩
  ·rw[Ux h1]at h;cases h
def atI_get(h:atI xs i=some v):∃ j,seqIndex? i xs.length=some j/\xs[j]?=some v/\j<xs.length/\-(xs.length:Int)<=i/\i<xs.length:=by
 unfold atI at h;cases e:ixN xs.length i with
 |none=>rw[e]at h;cases h
 |some j=>rw[e]at h;obtain⟨h1,h2,h3,h4⟩:=ixN_seq e;exact⟨j,h1,h,h2,h3,h4⟩
def PlainIx(b:Expr):Prop:=∀o i,subscripted b false o i=operate [o,i] (getItem o i)
def IxR(X:Cx)(r:R2):Prop:=
 ∀(value slice:Expr) (YT:List (Addr×Obj)) (s:Shared) (σ:St) (H:Hp) (x y:V) (v u:Value) (Q:VK),Inv X YT σ H s->RelV x v->RelV y u->r x y H Q->
   subscripted slice false v u=operate [v,u] (getItem v u)->wpAny (model X.prog X.w) X.A (subscriptTail value slice v u) (EP X YT σ Q) X.xe s
def MtR(X:Cx)(id:String)(r:V->List V->Hp->VK->Prop):Prop:=
 ∀(YT:List (Addr×Obj)) (s:Shared) (σ:St) (H:Hp) (x:V) (xs:List V) (v:Value) (us:List Value) (Q:VK),Inv X YT σ H s->RelV x v->Vals xs us->r x xs H Q->
   wpAny (model X.prog X.w) X.A (call (.builtin id) (v::us)) (EP X YT σ Q) X.xe s
section
variable{X:Cx}{a b:Expr}{ta tb:TE}{pos:Pos}
def pe_ix(hr:IxR X r)(ha:PE X a ta)(hb:PE X b tb)(hs:PlainIx b):PE X (.Subscript a b pos) (tOp r ta tb):=by intro YT s σ H Q I h;exact Subscript_ (binT ha hb I h λv u s2 x y H2 I2 rx ry q=>hr a b YT s2 σ H2 x y v u Q I2 rx ry q (hs _ _))
def rIxL(K:PySem.W.Frag):R2:=λx y H Q=>∃p xs i v,x=.ref p/\y=.int i/\SqL K H p xs/\atI xs i=some v/\Q v H
def rIxT(K:PySem.W.Frag):R2:=λx y H Q=>∃p xs i v,x=.ref p/\y=.int i/\SqT K H p xs/\atI xs i=some v/\Q v H
def ix_list:IxR X (rIxL X.K):=by
 intro value slice YT s σ H x y v u Q I rx ry h hs;obtain⟨p,xs,i,z,rfl,rfl,hq,he,q⟩:=h;cases rx;obtain⟨t,rfl⟩:=ry;obtain⟨its,r,pl,hz⟩:=I.list hq;obtain⟨j,h1,h2,h3,h4,h5⟩:=atI_get he;obtain⟨w,ew,rw'⟩:=r.get h2;have hl:=r.length;have hn:=line63;have fin:EP X YT σ Q w s:=⟨z,H,I,rw',q⟩;by_cases h0:0<=i
 ·have hj:i.toNat=j:=by rw[seqIndex_of h0 h5]at h1;exact Uo h1
  exact item_listR pl.isList h0 (by lia) (by rw[hj];simpa using ew) fin hs
 ·have hj:(i+(its.toArray.size:Int)).toNat=j:=by
   rw[seqIndex_neg (by lia) h4]at h1
   rw[Uy,<-hl];exact Uo h1
  exact subscriptTail_builtinR (x:=w) pl.isList.typeIs slot_list_getitem.lookup
   (wpAny_getItem_list_neg (Q:=λr s'=>r=w/\EP X YT σ Q r s') pl.isList (by lia) (by rw[Uy]<;>lia) (by lia) (by rw[hj];simpa using ew) ⟨rfl,fin⟩) hs
def ix_tup:IxR X (rIxT X.K):=by
 intro value slice YT s σ H x y v u Q I rx ry h hs;obtain⟨p,xs,i,z,rfl,rfl,hq,he,q⟩:=h;cases rx;obtain⟨t,rfl⟩:=ry;obtain⟨its,r,pl,hz⟩:=I.tuple hq;obtain⟨j,h1,h2,h3,h4,h5⟩:=atI_get he;obtain⟨w,ew,rw'⟩:=r.get h2;have hl:=r.length;have hn:=line63;have fin:EP X YT σ Q w s:=⟨z,H,I,rw',q⟩;exact subscriptTail_builtinR (x:=w) pl.typeIs slot_tuple_getitem.lookup
  (getItem_tuple (j:=j) (Q:=λr s'=>r=w/\EP X YT σ Q r s') pl (by lia) (by lia) (by rw[Uy,<-hl];exact h1) (by simpa using ew) ⟨rfl,fin⟩) hs
def mapSeq_set(its:List Value)(n j:Nat)(u:Value):Obj.mapSeq (·.setIfInBounds j u) { cls:=.type "list",data:=.seq its.toArray n }={ cls:=.type "list",data:=.seq (its.set j u).toArray n }:=by simp[Obj.mapSeq]
theorem Inv.lst(I:Inv X YT σ H s)(h:H p=some (.lst xs)):
  ∃(its:List Value) (n:Nat),Vals xs its/\s.heap.get? p=some { cls:=.type "list",data:=.seq its.toArray n }/\xs.length<=sizeLine:=by
 obtain⟨z,its,n,r,e⟩:=I.hok p _ h;exact⟨its,n,r,e,z⟩
def Inv.lstUpd{YT:List (Addr×Obj)}{xs ys:List V}{its its':List Value}{n n':Nat}{f:Obj->Obj}(I:Inv X YT σ H s)(h:H p=some (.lst xs))
  (ho:s.heap.get? p=some { cls:=.type "list",data:=.seq its.toArray n }) (hf:f { cls:=.type "list",data:=.seq its.toArray n }={ cls:=.type "list",data:=.seq its'.toArray n' }) (r:Vals ys its') (hz:ys.length<=sizeLine) (t:Nat) :
  Inv X YT σ (upd H p (.lst ys)) { s with heap:=s.heap.update p f,toks:=t }:=by
 have e:(s.heap.update p f).get? p=some { cls:=.type "list",data:=.seq its'.toArray n' }:=by rw[VF f ho (by rw[hf]<;>rfl),hf]
 refine I.write (x:=p) (e:=p) (by rw[h];trivial) (.inl rfl) (λb u hb q=>(Ve _ _ (Ne.symm hb)).trans q) ⟨_,e⟩ ?_
 exact⟨hz,its',n',r,e⟩
def rSetL:V->V->V->Hp->(Hp->Prop)->Prop:=λo i v H Q=>∃p xs k j,o=.ref p/\i=.int k/\H p=some (.lst xs)/\ixN xs.length k=some j/\Q (upd H p (.lst (xs.set j v)))
def set_list:PSet X rSetL:=by
 intro YT s σ H o i v ov iv u Q I ro ri rv h;obtain⟨p,xs,k,j,rfl,rfl,hp,hj,q⟩:=h;cases ro;obtain⟨t,rfl⟩:=ri;obtain⟨its,n,r,ho,hz⟩:=I.lst hp;obtain⟨h1,h2,h3,h4⟩:=ixN_seq hj;have hl:=r.length;have hn:=line63;have I':Inv X YT σ (upd H p (.lst (xs.set j v))) { s with heap:=s.heap.update p (Obj.mapSeq (·.setIfInBounds j u)) }:=
  I.lstUpd hp ho (mapSeq_set its n j u) (r.set rv j) (by rw[Vx];exact hz) s.toks
 by_cases h0:0<=k
 ·have hk:k.toNat=j:=by rw[seqIndex_of h0 h4]at h1;exact Uo h1
  exact PySem.W.ki_setAt ho h0 (by lia) (by rw[Uy,<-hl];exact h4) (by rw[hk];exact⟨_,I',q⟩)
 ·have hk:(k+(its.toArray.size:Int)).toNat=j:=by
   rw[seqIndex_neg (by lia) h3]at h1
   rw[Uy,<-hl];exact Uo h1
  exact PySem.W.ki_setBack ho (by lia) (by rw[Uy,<-hl];exact h3) (by lia) (by rw[hk];exact⟨_,I',q⟩)
def slice_bounds(lo hi:Option Int)(n:Nat):(sliceBounds lo hi none n).1=((HT.sIx n 0 lo:Nat):Int)/\(sliceBounds lo hi none n).2.1=((HT.sIx n n hi:Nat):Int)/\(sliceBounds lo hi none n).2.2=1:=by
 refine⟨?_,?_,rfl⟩
 ·cases lo with
  |none=>simp[sliceBounds,HT.sIx]
  |some i=>
    simp only[sliceBounds,HT.sIx,Option.getD_none,show (1:Int) > 0 by decide,if_true]
    by_cases h:i<0
    ·simp only[h,if_true]<;>lia
    ·simp only[h,if_false]<;>lia
 ·cases hi with
  |none=>simp[sliceBounds,HT.sIx]
  |some i=>
    simp only[sliceBounds,HT.sIx,Option.getD_none,show (1:Int) > 0 by decide,if_true]
    by_cases h:i<0
    ·simp only[h,if_true]<;>lia
    ·simp only[h,if_false]<;>lia
def slicePick_cut(its:List Value)(lo hi:Option Int):slicePick its.toArray lo hi none=((its.drop (HT.sIx its.length 0 lo)).take (HT.sIx its.length its.length hi-HT.sIx its.length 0 lo)).toArray:=by obtain⟨h1,h2,h3⟩:=slice_bounds lo hi its.toArray.size;unfold slicePick;rw[h1,h2,h3];simp only[sliceRange_one,pick_run,List.size_toArray]<;>rfl
def rSlL(K:PySem.W.Frag):V->Option Int->Option Int->Hp->VK->Prop:=λx lo hi H Q=>∃a xs,x=.ref a/\SqL K H a xs/\∀p,H p=none->Q (.ref p) (upd H p (.lst (cutV xs lo hi)))
def sl_list:SlR X (rSlL X.K):=by
 intro YT s σ H x v vl vu lo hi sl Q I rx hs pl pu h;obtain⟨a,xs,rfl,hx,q⟩:=h;cases rx;obtain⟨its,r,ht,hz⟩:=I.list hx;have hlen:=r.length;refine⟨"list",_,slot_list_getitem.lookup,ht.isList.typeIs,?_⟩;refine wpAny_getItem_list_slice ht.isList hs pl pu .none (by simp) ?_ (by rw[Uy]<;>lia)
 rw[slicePick_cut,<-hlen];refine⟨.ref s.heap.objs.size,_,I.laid (t':=s.toks) (o:=.lst (cutV xs lo hi)) (λb ob q=>Uh _ q) (Ur _) ?_,rfl,q _ (I.hok.fresh (Ur _))⟩
 exact⟨UL (cutV_length xs lo hi) hz,_,0,(r.drop (HT.sIx xs.length 0 lo)).take (HT.sIx xs.length xs.length hi-HT.sIx xs.length 0 lo),Ul _ rfl⟩
def call_len_seq:CallR X (.builtin "len") (λxs H Q=>∃p ys,xs=[.ref p]/\(SqL X.K H p ys\/SqT X.K H p ys)/\Q (.int ys.length) H):=by
 intro YT s σ H xs us Q I r h;obtain⟨p,ys,rfl,hq,q⟩:=h;obtain⟨u,rfl,rx⟩:=vals1 r;cases rx;have hn:=line63;rcases hq with hq | hq
 ·obtain⟨its,r',pl,hz⟩:=I.list hq;have hlen:=r'.length;exact Calls.call_len_list pl.isList (by simp only[List.size_toArray]<;>lia) ⟨.int ys.length,H,I.tok _,⟨s.toks+1,by rw[Uy,hlen]⟩,q⟩
 ·obtain⟨its,r',pl,hz⟩:=I.tuple hq;have hlen:=r'.length;exact len_tuple pl (by simp only[List.size_toArray]<;>lia) ⟨.int ys.length,H,I.tok _,⟨s.toks+1,by rw[Uy,hlen]⟩,q⟩
def call_len_str:CallR X (.builtin "len") (λxs H Q=>∃z,xs=[.str z]/\z.length<=sizeLine/\Q (.int z.length) H):=by intro YT s σ H xs us Q I r h;obtain⟨z,rfl,hz,q⟩:=h;obtain⟨u,rfl,t,rfl⟩:=vals1 r;have hn:=line63;exact len_str (by lia) ⟨.int z.length,H,I.tok _,⟨_,rfl⟩,q⟩
def CallR.or(h:CallR X f r)(h':CallR X f r'):CallR X f (λxs H Q=>r xs H Q\/r' xs H Q):=by
 intro YT s σ H xs us Q I rs q;rcases q with q | q
 ·exact h YT s σ H xs us Q I rs q
 ·exact h' YT s σ H xs us Q I rs q
def call_list_of:CallR X (.type "list") (λxs H Q=>∃ p ys,xs=[.ref p]/\(SqL X.K H p ys\/SqT X.K H p ys)/\∀ l,H l=none->Q (.ref l) (upd H l (.lst ys))):=by
 intro YT s σ H xs us Q I r h;obtain⟨p,ys,rfl,hq,q⟩:=h;obtain⟨u,rfl,rx⟩:=vals1 r;cases rx;have fin:∀(its:List Value),Vals ys its->ys.length<=sizeLine->∀(h':Heap) (c':Nat),(∀b o',s.heap.get? b=some o'->h'.get? b=some o')->
   h'.get? s.heap.objs.size=some { cls:=.type "list",dict:=none,data:=.seq its.toArray c',slots:=#[] }->EP X YT σ Q (.ref s.heap.objs.size) { s with heap:=h' }:=λits r' hz h' c' kp e=>
  ⟨.ref s.heap.objs.size,_,I.laid (t':=s.toks) kp (Ur _) (show ObjOk X.prog X.w _ h' _ (.lst ys) from⟨hz,its,c',r',e⟩),rfl,q _ (I.hok.fresh (Ur _))⟩
 rcases hq with hq | hq
 ·obtain⟨its,r',pl,hz⟩:=I.list hq;have hlen:=r'.length;obtain⟨o,ho,hc,n,hd⟩:=pl.isList;exact call_list_seq p (.inl rfl) ho hc hd (λh' c' kp e=>fin its r' hz h' c' kp e) (by simp only[List.size_toArray]<;>lia)
 ·obtain⟨its,r',pl,hz⟩:=I.tuple hq;have hlen:=r'.length;obtain⟨o,ho,hc,n,hd⟩:=pl;exact call_list_seq p (.inr rfl) ho hc hd (λh' c' kp e=>fin its r' hz h' c' kp e) (by simp only[List.size_toArray]<;>lia)
def call_tuple_of:CallR X (.type "tuple") (λxs H Q=>∃ p ys,xs=[.ref p]/\((SqL X.K H p ys/\∀ l,H l=none->Q (.ref l) (upd H l (.tup ys)))\/(SqT X.K H p ys/\Q (.ref p) H))):=by
 intro YT s σ H xs us Q I r h;obtain⟨p,ys,rfl,h⟩:=h;obtain⟨u,rfl,rx⟩:=vals1 r;cases rx;rcases h with ⟨hq,q⟩ | ⟨hq,q⟩
 ·obtain⟨its,r',pl,hz⟩:=I.list hq;have hlen:=r'.length;refine call_tuple_list pl.isList (λh' kp=>?_) (by simp only[List.size_toArray]<;>lia)
  have I1:Inv X YT σ H { s with heap:=h' }:=I.kept (t':=s.toks) kp
  have I2:Inv X YT σ (upd H h'.objs.size (.tup ys)) { s with heap:=h'.push { cls:=.type "tuple",data:=.seq its.toArray } }:=
   I1.laid (t':=s.toks) (λb o e=>Uh _ e) (Ur _) (show ObjOk X.prog X.w _ _ _ (.tup ys) from⟨hz,its,r',YK _ _⟩)
  exact⟨.ref h'.objs.size,_,I2,rfl,q _ (I1.hok.fresh (Ur _))⟩
 ·obtain⟨its,r',pl,hz⟩:=I.tuple hq;exact call_tuple_same pl ⟨.ref p,H,I,rfl,q⟩
def tyV(K:PySem.W.Frag)(T:String)(x:V)(H:Hp):Prop:=match x with
 |.str _=>T = "str"
 |.int _=>T = "int"
 |.ref p=>(T = "list"/\∃xs,SqL K H p xs)\/(T = "tuple"/\∃o,K.lookup p=some o/\o.cls=.type "tuple"/\o.dict=none) \/
   (T = "dict"/\((∃kvs,H p=some (.dK kvs))\/∃kvs,H p=some (.dT kvs)))\/(T = "set"/\∃S n,H p=some (.set S n))
 |_=>False
def tyV_is(I:Inv X YT σ H s)(r:RelV x v)(ty:tyV X.K T x H):
  s.TypeIs v T/\∀a,v=.ref a->∃ob,s.heap.get? a=some ob/\ob.dict=none:=by
 cases x with
 |str z=>
   obtain⟨t,rfl⟩:=r;cases (show T = "str" from ty)
   exact⟨typeIs_str s z t,λy e=>nomatch e⟩
 |int i=>
   obtain⟨t,rfl⟩:=r;cases (show T = "int" from ty)
   exact⟨typeIs_int s i t,λy e=>nomatch e⟩
 | ref p=>
   cases r;rcases ty with ⟨rfl,xs,hq⟩ | ⟨rfl,o,hk,hc,hd⟩ | ⟨rfl,hk⟩ | ⟨rfl,S,n,hk⟩
   ·obtain⟨its,_,pl,_⟩:=I.list hq;refine⟨pl.isList.typeIs,λa e=>?_⟩
    cases e;obtain⟨o,n,e,c,hd,_⟩:=pl;exact⟨o,e,hd⟩
   ·refine⟨⟨o,I.kIn p o hk,hc⟩,λa e=>?_⟩
    cases e;exact⟨o,I.kIn _ o hk,hd⟩
   ·have z:∃ o,s.heap.get? p=some o/\o.ExactDict:=by
     rcases hk with ⟨kvs,hk⟩ | ⟨kvs,hk⟩
     ·obtain⟨_,_,_,_,o,_,_,e,ex,_⟩:=I.hok p _ hk;exact⟨o,e,ex⟩
     ·obtain⟨_,_,_,_,o,_,_,e,ex,_⟩:=I.hok p _ hk;exact⟨o,e,ex⟩
    obtain⟨o,e,ex⟩:=z;refine⟨⟨o,e,ex.1⟩,λa e2=>?_⟩
    cases e2;exact⟨o,e,ex.2.1⟩
   ·obtain⟨o,_,_,_,e,ex,_⟩:=I.hok p _ hk;refine⟨⟨o,e,ex.1⟩,λa e2=>?_⟩
    cases e2;exact⟨o,e,ex.2.1⟩
 |_=>exact False.elim ty
def tBM(K:PySem.W.Frag)(T:String)(r:V->List V->Hp->VK->Prop)(to:TE)(t:TA):TE:=λσ H Q=>to σ H λx H1=>tyV K T x H1/\t σ H1 λxs H2=>r x xs H2 Q
variable{o e:Expr}{es:List Expr}{to:TE}{t:TA}{name:Str}{apos cpos:Pos}{T id:String}{r:V->List V->Hp->VK->Prop}
def pe_bm(pa:PlainAttrs T)(slot:Slot T name id)(hty:typeOf (.builtin id)=pure (.type "method_descriptor"))(hm:MtR X id r)(ho:PE X o to)(ha:PA X (e::es) t)
  (hbase:attributeBase o name X.env (eval o X.env)=eval o X.env:=by rfl)
  (hfew:((backTo cpos (starEach (e::es) X.env)).all (fun x=>!x.1)&&(backToKw cpos (keywordEach [] X.env)).all (fun x=>x.1.isSome)
   &&decide ((e::es).length+([]:List Keyword).length+(if ([]:List Keyword).isEmpty then 0 else 1)<30))=true:=by rfl)
  (hline:(apos.endLine==cpos.line)=true:=by rfl) (hs:starEach (e::es) X.env=(false,eval e X.env)::starEach es X.env:=by rfl) (hplain:(backTo cpos (starEach es X.env)).any (·.1)=false:=by rfl) :
  PE X (.Call (.Attribute o name apos) (e::es) [] cpos) (tBM X.K T r to t):=by
 intro YT s σ H Q I h;refine wpAny_Call_method_late hbase hfew hline rfl (thn (ho YT s σ H _ I h) λv s1 ⟨x,H1,I1,r1,ty,q1⟩=>?_)
 obtain⟨h1,h2⟩:=tyV_is I1 r1 ty;refine⟨T,id,pa,slot,hty,h1,h2,?_⟩;have hA:=ha cpos YT s1 σ H1 _ I1 q1;rw[hs]at hA ⊢
 refine Calls.callWith_builtin (by show (false || (backTo cpos (starEach es X.env)).any (·.1))=false;rw[hplain]<;>rfl) (Calls.evalArgs_plain ?_)
 exact thn hA λus s2 ⟨vs,H2,I2,r2,q2⟩=>hm YT s2 σ H2 x vs v us Q I2 r1 r2 q2
end
open PySem PySem.Spec PyProof.Rows
def MtM(X:Cx)(id:String)(r:V->List V->Hp->VK->Prop):Prop:=
 ∀(YT:List (Addr×Obj)) (s:Shared) (σ:St) (H:Hp) (x:V) (xs:List V) (v:Value) (us:List Value) (Q:VK),Inv X YT σ H s->RelV x v->Vals xs us->r x xs H Q->
   wpAny (model X.prog X.w) X.A (call (.builtin id) (v::us)) (EP X YT σ Q) X.xe s
def Vals.one:∀{x:V}{us:List Value},Vals [x] us->∃u,us=[u]/\RelV x u
 |_,_,.cons r .nil=>⟨_,rfl,r⟩
theorem Vals.eraseIdx:∀{xs:List V}{us:List Value} (i:Nat),Vals xs us->Vals (xs.eraseIdx i) (us.eraseIdx i)
 |_,_,_,.nil=>.nil
 |_,_,0,.cons _ t=>t
 |_,_,i+1,.cons r t=>.cons r (Vals.eraseIdx i t)
theorem Vals.rep(h:Vals xs us):∀ k:Nat,Vals (List.replicate k xs).flatten (List.replicate k us).flatten
 |0=>.nil
 |k+1=>by rw[Wg,Wg,WW,WW];exact Vals.append h (Vals.rep h k)
theorem len_erase:∀(l:List α) (i:Nat),(l.eraseIdx i).length<=l.length
 |[],_=>Ur _
 |_::_,0=>Xr _
 |_::r,i+1=>Nat.succ_le_succ (len_erase r i)
theorem foldl_rep(its:List Value):∀ (k:Nat) (acc:List Value),
  List.foldl (λx1 x2=>x1++x2) acc.toArray (List.replicate k its.toArray)=(acc++(List.replicate k its).flatten).toArray
 |0,acc=>by simp
 | k + 1,acc=>by
   have e:acc.toArray++its.toArray=(acc++its).toArray:=by simp
   have e2:(acc++its)++(List.replicate k its).flatten=acc++(List.replicate (k+1) its).flatten:=by rw[Wg,WW,V4]
   rw[<-e2,<-foldl_rep its k (acc++its),<-e,Wg,Yv]
section
variable{X:Cx}{YT:List (Addr×Obj)}{σ:St}{H:Hp}{s:Shared}{l b:Addr}{xs ys zs:List V}
def Inv.lset{its its':List Value}{n:Nat}{f:Array Value->Array Value}{t':Nat}(I:Inv X YT σ H s)(hH:H l=some (.lst xs))
  (e:s.heap.get? l=some { cls:=.type "list",data:=.seq its.toArray n }) (hf:f its.toArray=its'.toArray) (hv:Vals ys its') (hz:ys.length<=sizeLine) :
  Inv X YT σ (upd H l (.lst ys)) { s with heap:=s.heap.update l (Obj.mapSeq f),toks:=t' }:=by
 have q:=PySem.IsL.update e f;rw[hf]at q;refine I.write (x:=l) (e:=l) (by rw[hH];exact trivial) (.inl rfl) (λb' u hb hu=>(Ve s.heap (Obj.mapSeq f) (Ne.symm hb)).trans hu) ⟨_,q⟩ ?_
 exact⟨hz,its',_,hv,q⟩
def Inv.lnew(I:Inv X YT σ H s)(hv:Vals ys its)(hz:ys.length<=sizeLine):
  Inv X YT σ (upd H s.heap.objs.size (.lst ys)) { s with heap:=s.heap.push { cls:=.type "list",data:=.seq its.toArray },toks:=t' }:=
 I.laid (λz z q=>Uh _ q) (Ur _) ⟨hz,its,0,hv,Ul _ rfl⟩
theorem Inv.fresh(I:Inv X YT σ H s):H s.heap.objs.size=none:=I.hok.fresh (Ur _)
def Inv.lstM(I:Inv X YT σ H s)(hH:H l=some (.lst xs)):xs.length<=sizeLine/\∃(its:List Value) (n:Nat),Vals xs its/\xs.length=its.length/\s.heap.get? l=some { cls:=.type "list",data:=.seq its.toArray n }:=by obtain⟨z,its,n,r,e⟩:=I.hok l _ hH;exact⟨z,its,n,r,r.length,e⟩
def notLongL{n:Nat}(h:n<=sizeLine):Builtin.List.listTooLong n=false:=by unfold Builtin.List.listTooLong;exact Vm (by lia)
end
section
variable{X:Cx}
def rAppend:V->List V->Hp->VK->Prop:=λx vs H Q=>∃l xs y,x=.ref l/\vs=[y]/\H l=some (.lst xs)/\xs.length<sizeLine/\Q .non (upd H l (.lst (xs++[y])))
def mt_append:MtM X "list.append" rAppend:=by
 intro YT s σ H x vs v us Q I rx rv h;obtain⟨l,xs,y,rfl,rfl,hH,hz,q⟩:=h;cases rx;obtain⟨u,rfl,ru⟩:=rv.one;obtain⟨z,its,n,r,hl,e⟩:=I.lstM hH;refine Yb F.slot_list_append ⟨_,e,rfl⟩ F.entry_list_append (F.args_list_append_2 _ _) (PySem.list_append l its.toArray n u (by rw[Uy];lia)) ⟨e,?_⟩
 refine⟨.non,_,I.lset (its':=its++[u]) hH e (by simp) (r.append (.cons ru .nil)) ?_,rfl,q⟩
 rw[Uz,List.length_singleton]
 lia
def rExtend:V->List V->Hp->VK->Prop:=λx vs H Q=>∃l b xs zs,x=.ref l/\vs=[.ref b]/\H l=some (.lst xs)/\H b=some (.lst zs)/\xs.length+zs.length<=sizeLine/\Q .non (upd H l (.lst (xs++zs)))
def mt_extend:MtM X "list.extend" rExtend:=by
 intro YT s σ H x vs v us Q I rx rv h;obtain⟨l,b,xs,zs,rfl,rfl,hH,hB,hz,q⟩:=h;cases rx;obtain⟨u,rfl,ru⟩:=rv.one;cases ru;obtain⟨z,its,n,r,hl,e⟩:=I.lstM hH;obtain⟨z2,its2,n2,r2,hl2,e2⟩:=I.lstM hB;have hsz:its.toArray.size+its2.toArray.size<=sizeLine:=by rw[Uy,Uy];lia
 have hlong:¬ (!its.toArray.isEmpty&&Builtin.List.listTooLong (its.toArray.size+its2.toArray.size))=true:=by rw[notLongL hsz,Bool.and_false];exact U0
 refine Yb F.slot_list_extend ⟨_,e,rfl⟩ F.entry_list_extend (F.args_list_extend_2 _ _)
  (AutoSeq1.list_extend_list_list_0 l its.toArray n b its2.toArray n2 hlong (by rw[Uy];lia) (by lia)) ⟨e,e2,?_⟩
 refine⟨.non,_,I.lset (its':=its++its2) hH e (by simp) (r.append r2) ?_,rfl,q⟩
 rw[Uz]
 lia
def rPopAt:V->List V->Hp->VK->Prop:=λx vs H Q=>∃l xs i k y,x=.ref l/\vs=[.int i]/\H l=some (.lst xs)/\-(2^63)<=i/\i<2^63/\seqIndex? i xs.length=some k/\xs[k]?=some y/\Q y (upd H l (.lst (xs.eraseIdx k)))
def mt_popAt:MtM X "list.pop" rPopAt:=by
 intro YT s σ H x vs v us Q I rx rv h;obtain⟨l,xs,i,k,y,rfl,rfl,hH,h1,h2,hk,hy,q⟩:=h;cases rx;obtain⟨u,rfl,ru⟩:=rv.one;obtain⟨t,rfl⟩:=ru;obtain⟨z,its,n,r,hl,e⟩:=I.lstM hH;obtain⟨w,hw,rw'⟩:=r.get hy;refine Yb F.slot_list_pop ⟨_,e,rfl⟩ F.entry_list_pop (F.args_list_pop_2 _ _)
  (MeetsSeq.list_pop_at l its.toArray n i t k w (fitsIndex_both h1 h2) (by rw[Uy,<-hl];exact hk) (by rw[<-Yo];exact hw) (by rw[Uy];lia)) ⟨e,?_⟩
 refine⟨y,_,I.lset (its':=its.eraseIdx k) hH e ?_ (r.eraseIdx k) ?_,rw',q⟩
 ·show its.toArray.eraseIdxIfInBounds k=(its.eraseIdx k).toArray;rw[List.eraseIdxIfInBounds_toArray]
 ·have:=len_erase xs k
  lia
def rCat:R2:=λx y H Q=>∃l b xs zs,x=.ref l/\y=.ref b/\H l=some (.lst xs)/\H b=some (.lst zs)/\xs.length+zs.length<=sizeLine/\∀p,H p=none->Q (.ref p) (upd H p (.lst (xs++zs)))
def op_cat:OpR X (binaryOp .Add) rCat:=by
 intro YT s σ H x y v u Q I rx ry h;obtain⟨l,b,xs,zs,rfl,rfl,hH,hB,hz,q⟩:=h;cases rx;cases ry;obtain⟨z,its,n,r,hl,e⟩:=I.lstM hH;obtain⟨z2,its2,n2,r2,hl2,e2⟩:=I.lstM hB;refine PySem.P.add_list e e2 ?_ (by rw[Uy,Uy];lia)
 have ea:its.toArray++its2.toArray=(its++its2).toArray:=by simp
 rw[ea];exact⟨.ref _,_,I.lnew (t':=s.toks) (r.append r2) (by rw[Uz];lia),rfl,q _ I.fresh⟩
def rRep:R2:=λx y H Q=>∃l k xs,x=.ref l/\y=.int k/\H l=some (.lst xs)/\-(2^63)<=k/\k<2^63/\xs.length*k.toNat<=sizeLine /\
 ∀p,H p=none->Q (.ref p) (upd H p (.lst (List.replicate k.toNat xs).flatten))
def len_rep(xs:List α)(k:Nat):(List.replicate k xs).flatten.length=k*xs.length:=by
 induction k with
 |zero=>simp
 |succ k ih=>rw[Wg,WW,Uz,ih,Xi,Nat.add_comm]
def op_rep:OpR X (binaryOp .Mult) rRep:=by
 intro YT s σ H x y v u Q I rx ry h;obtain⟨l,k,xs,rfl,rfl,hH,h1,h2,hz,q⟩:=h;cases rx;obtain⟨t,rfl⟩:=ry;obtain⟨z,its,n,r,hl,e⟩:=I.lstM hH;have hlen:its.toArray.size*k.toNat<=sizeLine:=by rw[Uy,<-hl];exact hz
 have hcap:¬ its.toArray.size*k.toNat > (2^63-1) / 8:=by
  have:(sizeLine:Nat)<=(2^63-1) / 8:=by decide
  lia
 have hfit:¬ (!Builtin.List.listFitsIndex k)=true:=by rw[fitsIndex_both h1 h2];exact U0
 have hlong:¬ Builtin.List.listTooLong (its.toArray.size*k.toNat)=true:=by rw[notLongL hlen];exact U0
 have hnew:List.foldl (λx1 x2=>x1++x2) #[] (List.replicate (if its.toArray.isEmpty=true then 0 else k.toNat) its.toArray)=(List.replicate k.toNat its).flatten.toArray:=by
  have f0:∀m:Nat,List.foldl (λx1 x2=>x1++x2) #[] (List.replicate m its.toArray)=(List.replicate m its).flatten.toArray:=λm=>by have:=foldl_rep its m [];rw[List.nil_append]at this;exact this
  rw[f0];cases its with
  |nil=>simp
  |cons a r'=>rw[Ux (by simp)]
 refine wpAny_binaryOp_repeat_ref (T := "list") (U := "int") (by decide) ⟨_,e,rfl⟩ (λs'=>typeIs_int s' k t) noFill_list_mul F.fills_int_mul F.slot_int_rmul repeat_list F.slot_int_index.lookup
  (Yb F.slot_int_rmul (typeIs_int s k t) F.entry_int_rmul (F.args_int_rmul_2 _ _) (int___rmul___int_list k t l its.toArray n)
    ⟨e,rfl,⟨_,e,rfl⟩,Yb F.slot_list_mul ⟨_,e,rfl⟩ F.entry_list_mul (F.args_list_mul_2 _ _) (AutoListH.list___mul___list_int_3 l its.toArray n k t hfit hcap hlong) ⟨e,?_⟩⟩)
 rw[hnew];exact⟨.ref _,_,I.lnew (t':=s.toks) (r.rep k.toNat) (by rw[len_rep,Xg];exact hz),rfl,q _ I.fresh⟩
end
end L2
namespace Att
open PySem PySem.W PySem.Calls PyProof.Rows
def ints_of_wellAll:∀ (ns:List Int) (vs:List Value),WellAll P h vs (ns.map WData.int)->IntsAre vs ns:=by
 intro ns;induction ns with
 |nil=>intro vs w;rw[YS]at w;cases w;exact .nil
 | cons n ns ih=>
   intro vs w;rw[Vo]at w;cases w with
   |cons a b=>cases a;exact .cons _ _ (ih _ b)
def script_of{l:OpenLaw}{n:Nat}(hn:l.most=some n){P:Params}{h:Heap}{args:List WData}{vals:List Value}
  (hpre:l.row.toRowW.claim.pre args=true) (hwl:WellAll P h vals args) :
  ∃a vs ns,vals=[Value.ref a]/\args=[WData.list (ns.map WData.int)]/\h.get? a=some { cls:=.type "list",data:=.seq vs.toArray }/\IntsAre vs ns/\ns.length<=n:=by
 have hsh:WShape.hasAll [] args [.list .int]=true:=(pre_splitW hpre).1;have hc:l.pre.holds [] { args:=args }=true:=(pre_splitW hpre).2;obtain⟨d,r,rfl,h1,h2⟩:=hasAllW_cons hsh;obtain rfl:=hasAllW_nil h2;obtain⟨xs,rfl,h3⟩:=hasW_list h1;obtain⟨ns,rfl⟩:=items_int h3;have hlen:ns.length<=n:=by
  unfold OpenLaw.pre at hc;have h4:(WTm.not (.lt (.lit (.int (n:Int))) (.len (.arg 0)))).holds [] { args:=[.list (ns.map .int)] }=true:=by have h4:=(holds_andW hc).1;rw[hn]at h4;exact h4
  have h5:=condW_of h4 (w_not (w_lt w_lit (w_len_list (w_arg rfl))));rw[UV]at h5;refine Nat.le_of_not_lt λq=>?_
  have q':(n:Int)<((ns.length:Nat):Int):=by lia
  first
   |(rw[U8 q']at h5;exact absurd h5 (by decide))
   |(simp at h5;lia)
 cases hwl with
 |cons w1 w2=>
   cases w2;cases w1 with
   |list ho hall=>exact⟨_,_,ns,rfl,rfl,ho,ints_of_wellAll ns _ hall,hlen⟩
def post_true(l:OpenLaw)(args:List WData):l.row.toRowW.claim.post args (.bool true) args=true:=
 postW_of (r:=l.row.toRowW) (X:=(true==true))
  (show WShape.has [] (.bool true) .bool=true by first | rfl | decide | simp[WShape.has,WShape.arms,WShape.armsAll])
  (show (WTm.eq .res (.lit (.bool true))).value [] { args:=args,res:=some (.bool true),after:=args }=some (.bool (true==true)) from w_eq_bool (w_res rfl) w_lit) rfl
def attach_call{l:OpenLaw}{n:Nat}{q:Program}{loose:List Str}{XP:(Str->Option Value)->Heap->Prop}{YP:World->Heap->Prop}{d:DefRec}
  (hn:l.most=some n) (hdf:d.params.defaults=[])
  (call:∀(w:World) (s₀ s₁:Shared) (mg mb:Str->Option Value) (fa:Addr) (o:Obj) (pm cd doc:Value) (a:Addr) (vs:List Value) (ns:List Int),
    Ground q loose [] XP w s₀ mg mb s₁.heap->YP w s₁.heap->
    s₁.heap.get? fa=some o->o.data=.func (docDef d.name d.params d.body d.scope pm cd doc)->s₁.heap.CodeRec cd d.name->mg d.name=some (.ref fa)->
    s₁.heap.get? a=some { cls:=.type "list",data:=.seq vs.toArray }->IntsAre vs ns->ns.length<=n->s₁.gens=#[]->
    codeAny (model l.prog w) callerA (.call (.ref fa) ⟨[.ref a],[]⟩) (λr s'=>r=.ok (.ret (.bool true))/\OldK s₁.heap s'.heap/\s'.os=s₁.os/\AllBare s'.gens) s₁) :
  WalkO q loose XP YP l.row.toRowW d [] (λf vs=>PySem.call f vs):=by
 intro w s₀ s₁ mg mb G Y fa o pm cd doc dV kV ho hd hcd hD hmg hg args vals as hpre hlay hrd hwl hlo;obtain rfl:dV=.none:=Dflts.none hD hdf;obtain rfl:kV=.none:=Dflts.noKw hD;obtain⟨a,vs,ns,rfl,rfl,hobj,hints,hlen⟩:=script_of hn hpre hwl;refine enter_call (V2 (call w s₀ s₁ mg mb fa o pm cd doc a vs ns G Y ho (fd_plain hd) hcd hmg hobj hints hlen hg) λr s' hq=>?_)
 obtain⟨rfl,h2,h3,h4⟩:=hq;exact⟨.inl ⟨.bool true,.bool true,[],rfl,λz=>rfl,.bool true,post_true l _,λz=>⟨List.Pairwise.nil,λz hm=>(nomatch hm)⟩⟩,h2,h3,h4⟩
end Att
namespace L2
open PySem PySem.Spec PyProof.Rows
theorem vals_ints:∀{vs:List Value}{ns:List Int},IntsAre vs ns->Vals (ns.map V.int) vs
 |_,_,.nil=>.nil
 |_,_,.cons n t h=>.cons ⟨t,rfl⟩ (vals_ints h)
open PySem PySem.Spec PyProof.Rows
open PySem PySem.Spec PyProof.Rows
def inClass(s:Stmt)(j:Nat):Stmt:=match s with
 |.ClassDef _ _ _ body _ _ _ _ _ _ _=>body.getD j (.Pass ⟨0,0,0,0⟩)
 |_=>.Pass ⟨0,0,0,0⟩
def defArgs(s:Stmt):Arguments:=match s with
 |.FunctionDef _ a _ _ _ _ _ _ _ _=>a
 |_=>{ posonlyargs:=[],args:=[],vararg:=none,kwonlyargs:=[],kw_defaults:=[],kwarg:=none,defaults:=[] }
def defBody(s:Stmt):List Stmt:=match s with
 |.FunctionDef _ _ b _ _ _ _ _ _ _=>b
 |_=>[]
def defScope(s:Stmt):Scope:=match s with
 |.FunctionDef _ _ _ _ _ _ sc _ _ _=>sc
 |_=>{ kind:=.function,names:=[],isGenerator:=false,isCoroutine:=false }
abbrev E0:XK:=λ_ _ _=>False
structure Fun(K:PySem.W.Frag)(x qual:Str)(st:Stmt)(f:Addr)(fd:FuncData):Prop where
 ex:∃(oc:Value) (od:Option Addr) (kV doc pm:Value) (an:Option Addr) (cdv ct:Value) (osl:Array (Option Value)),
  fd=PySem.W.fnOf x qual (defArgs st) (defBody st) (defScope st) .none kV doc pm an cdv ct/\K.lookup f=some ⟨oc,od,.func fd,osl⟩/\PySem.W.codeIn K cdv qual=true
 kp:PySem.W.keepIn K (.ref f)=true
section
variable{P:Program}{w:World}{K:PySem.W.Frag}{mg:Str->Option Value}{base:Heap}
def Fun.binds{x qual:Str}{st:Stmt}{f:Addr}{fd:FuncData}{ps:List Str}(F:Fun K x qual st f fd)
  (h:∀(kV doc pm:Value) (an:Option Addr) (cdv ct:Value) (us:List Value),us.length=ps.length->bindArgs (PySem.W.fnOf x qual (defArgs st) (defBody st) (defScope st) .none kV doc pm an cdv ct) ⟨us,[]⟩=pure (ps.zip us)):Binds K fd ps []:=by
 obtain⟨oc,od,kV,doc,pm,an,cdv,ct,osl,rfl,lk,hcd⟩:=F.ex;exact .all (h kV doc pm an cdv ct)
def fun_mk{x qual:Str}{st:Stmt}{f:Addr}{oc:Value}{od an:Option Addr}{osl:Array (Option Value)}{kV doc pm cdv ct:Value}(l:K.lookup f=some ⟨oc,od,.func (PySem.W.fnOf x qual (defArgs st) (defBody st) (defScope st) .none kV doc pm an cdv ct),osl⟩)
  (c:PySem.W.codeIn K cdv qual=true) (k:PySem.W.keepIn K (.ref f)=true):Fun K x qual st f (PySem.W.fnOf x qual (defArgs st) (defBody st) (defScope st) .none kV doc pm an cdv ct):=⟨⟨oc,od,kV,doc,pm,an,cdv,ct,osl,rfl,l,c⟩,k⟩
end
def iteF{A B:Prop}(h:B):if false=true then A else B:=by rw[Ux U0];exact h
def iteT{A B:Prop}(h:A):if true=true then A else B:=by rw[Uv rfl];exact h
def Same(H H':Hp):Prop:=∀b o,H b=some o->H' b=some o
def Same.refl(H:Hp):Same H H:=λz z h=>h
mutual
inductive Rep(K:PySem.W.Frag)(H:Hp):V->PyData->Prop
 |non:Rep K H .non .none
 |bl (b:Bool):Rep K H (.bl b) (.bool b)
 |int (i:Int):Rep K H (.int i) (.int i)
 |str (x:Str):Rep K H (.str x) (.str x)
 |lst {a:Addr}{xs:List V}{ds:List PyData}:SqL K H a xs->Reps K H xs ds->Rep K H (.ref a) (.list ds)
 |tup {a:Addr}{xs:List V}{ds:List PyData}:SqT K H a xs->Reps K H xs ds->Rep K H (.ref a) (.tuple ds)
inductive Reps(K:PySem.W.Frag)(H:Hp):List V->List PyData->Prop
 |nil:Reps K H [] []
 |cons {v:V}{d:PyData}{vs:List V}{ds:List PyData}:Rep K H v d->Reps K H vs ds->Reps K H (v::vs) (d::ds)
end
section
variable{X:Cx}{YT:List (Addr×Obj)}{σ:St}{H:Hp}{s:Shared}
def Rep.reads(I:Inv X YT σ H s){v:V}{d:PyData}{u:Value}(h:Rep X.K H v d):RelV v u->∃ as,Reads s.heap u d as:=
 Rep.rec (motive_1:=λv d z=>∀ u,RelV v u->∃ as,Reads s.heap u d as) (motive_2:=λvs ds z=>∀ us,Vals vs us->∃ as,ReadsAll s.heap us ds as)
  (λu r=>by cases r;exact⟨_,.none⟩)
  (λb u r=>by cases r;exact⟨_,.bool b⟩)
  (λi u r=>by obtain⟨t,rfl⟩:=r;exact⟨_,.int i t⟩)
  (λi u r=>by obtain⟨t,rfl⟩:=r;exact⟨_,.str i t⟩)
  (λh hs ih u r=>by cases r;obtain⟨its,rv,⟨o,n,h1,h2,_,h3⟩,_⟩:=I.list h;obtain⟨as,ra⟩:=ih _ rv;exact⟨_,.list h1 h2 h3 ra⟩)
  (λh hs ih u r=>by cases r;obtain⟨its,rv,⟨o,h1,h2,n,h3⟩,_⟩:=I.tuple h;obtain⟨as,ra⟩:=ih _ rv;exact⟨_,.tuple h1 h2 h3 ra⟩)
  (λu r=>by cases r;exact⟨_,.nil⟩)
  (λh hs i1 i2 u r=>by
    cases r with
    |cons r1 r2=>obtain⟨a1,e1⟩:=i1 _ r1;obtain⟨a2,e2⟩:=i2 _ r2;exact⟨_,.cons e1 e2⟩)
  h u
end
def same_new{H:Hp}{p:Addr}(h:H p=none)(o:HO):Same H (upd H p o):=λb u q=>by rw[upd_ne (ne_of_none q h)];exact q
section
variable{X:Cx}
def Jw(K:PySem.W.Frag)(neg:Bool):R2:=λx y H Q=>∃da db,Rep K H x da/\Rep K H y db/\da.canLay0=true/\db.canLay0=true/\da.depth<=60/\Q (.bl (if neg then !PyData.eqv da db else PyData.eqv da db)) H
def O8(hu:X.A.units+64<cLine):OpR X (compareOp .Eq) (Jw X.K false):=by intro YT s σ H x y v u Q I rx ry h;obtain⟨da,db,ha,hb,la,lb,hd,q⟩:=h;obtain⟨as,ra⟩:=ha.reads I rx;obtain⟨bs,rb⟩:=hb.reads I ry;exact PySem.SeqAt.compareEq_reads ra rb la lb (by lia) ⟨.bl _,H,I,rfl,q⟩
def O9(hu:X.A.units+64<cLine):OpR X (compareOp .NotEq) (Jw X.K true):=by intro YT s σ H x y v u Q I rx ry h;obtain⟨da,db,ha,hb,la,lb,hd,q⟩:=h;obtain⟨as,ra⟩:=ha.reads I rx;obtain⟨bs,rb⟩:=hb.reads I ry;exact PySem.SeqAt.compareNe_reads ra rb la lb (by lia) ⟨.bl _,H,I,rfl,q⟩
def Qz(i j:Int):Prop:=IntMulOk i j
def Lj:OpR X (binaryOp .Mult) (rI Qz λi j=>.int (i*j)):=opI λz z z z z z z hc q=>mul_int q hc
def HH:CallR X (.builtin "isinstance") (λxs H Q=>∃x t c b,xs=[x,.ty c]/\TyOf X.K H x t/\PySem.W.kitOne X.K t (.type c)=some b/\Q (.bl b) H):=by intro YT s σ H xs us Q I r h;obtain⟨x,t,c,b,rfl,ty,e,q⟩:=h;obtain⟨u,w',rfl,r1,r2⟩:=vals2 r;cases r2;exact isinst_ok I r1 ty e λtk=>⟨.bl b,H,I.tok _,rfl,q⟩
end
open PySem PySem.Spec PyProof.Rows
structure DefAt(K:PySem.W.Frag)(mg:Str->Option Value)(x:Str)(st:Stmt):Prop where
 ex:∃f fd,Fun K x x st f fd/\mg x=some (.ref f)
def Ij{K:PySem.W.Frag}{h:Heap}{mg:Str->Option Value}{x:Str}{st:Stmt}{f:Addr}{oc:Value}{od an:Option Addr}{osl:Array (Option Value)}{kV doc pm cdv ct:Value}(X:K.In h)(G:h.Ns mainGlobals mg)
  (a:PySem.W.nsIn K mainGlobals x=some (some (.ref f))) (l:K.lookup f=some ⟨oc,od,.func (PySem.W.fnOf x x (defArgs st) (defBody st) (defScope st) .none kV doc pm an cdv ct),osl⟩) (c:PySem.W.codeIn K cdv x=true) (k:PySem.W.keepIn K (.ref f)=true):DefAt K mg x st:=
 ⟨f,_,fun_mk l c k,V8 X G a⟩
section
variable{X:Cx}{j k:Nat}{ps:List Str}{sp:Sp}{x:Str}{p pos:Pos}{e:Expr}{es:List Expr}{t:TA}
def R5{id:String}{r:List V->Hp->VK->Prop}(hc:CallR X (.builtin id) r)(hm:X.mg x=none)(ha:PA X (e::es) t)(hg:Gl X x:=by rfl)(hv:bootBuiltins x=some (.builtin id):=by decide +kernel)(hn:x≠"__name__":=by decide)(hdb:(x==("__debug__":Str))=false:=by decide)
  (he:starEach (e::es) X.env=(false,eval e X.env)::starEach es X.env:=by rfl) (hpl:(backTo pos (starEach es X.env)).any (·.1)=false:=by rfl) :
  PE X (.Call (.Name x p) (e::es) [] pos) (tCB r t):=pe_callB hc hg hm hv ha hn hdb he hpl
def Q0{T:String}(hm:X.mg x=none)(hg:Gl X x:=by rfl)(hv:bootBuiltins x=some (.type T):=by decide +kernel)(hn:x≠"__name__":=by decide)(hdb:(x==("__debug__":Str))=false:=by decide):PE X (.Name x pos) (tC (.ty T)):=
 pe_bltn hg hm hv rfl hn hdb
end
end L2
namespace L2
open PySem PySem.Spec PyProof.Rows
open PySem PySem.Spec PyProof.Rows
def ObjOk.there(x:ObjOk P w H h a o):∃u,h.get? a=some u:=by
 induction o with
 |lst xs=>obtain⟨_,_,_,_,e⟩:=x;exact⟨_,e⟩
 |tup xs=>obtain⟨_,_,_,o,e,_⟩:=x;exact⟨_,e⟩
 |dK kvs=>obtain⟨_,_,_,_,o,_,_,e,_⟩:=x;exact⟨_,e⟩
 |dT kvs=>obtain⟨_,_,_,_,o,_,_,e,_⟩:=x;exact⟨_,e⟩
 |set S n=>obtain⟨o,_,_,_,e,_⟩:=x;exact⟨_,e⟩
 |ins C dx fs=>obtain⟨_,_,_,e,_⟩:=x;exact⟨_,e⟩
 |own y=>exact x
 |xd fs=>obtain⟨_,⟨o,es,ep,e,_⟩,_⟩:=x;first | exact⟨_,e⟩ | exact⟨o,es⟩
 |met g y=>exact⟨_,x⟩
 |rng lo hi=>obtain⟨_,_,_,e⟩:=x;exact⟨_,e⟩
 |frz o u ih=>exact⟨_,x.1⟩
 |tbl ps=>obtain⟨_,e,_⟩:=x;exact⟨_,e⟩
 |ext φ=>exact x.2.1
end L2
namespace L2
open PySem PySem.Spec
def dct(h:Heap)(e:Addr):Option Addr:=(h.get? e).bind Obj.dict
def gM{h:Heap}{e:Addr}{o:Obj}(g:h.get? e=some o):dct h e=o.dict:=by unfold dct;rw[g];rfl
def K8(f:Array Value->Array Value)(o:Obj):(Obj.mapFields f o).dict=o.dict:=by obtain⟨c,d,t,sl⟩:=o;cases t<;>rfl
section
variable{M:Model}{A:Around}{E:Value->Shared->Prop}{s:Shared}{base:Heap}{env:Env}{outer l:List Env}{L e:Addr}
def Ex{oe:Obj}{vs:Array Value}{head a0:Value}{b:Bool}{Q:Unit->Shared->Prop}
  (fr:A.frames=some (env::outer)) (ff:s.heap.FunFrames base (env::outer)) (hf:env.frame=some L) (g:s.heap.get? e=some oe) (st:base.StaysIn s.heap) (en:base.get? e=none)
  (gd:oe.data=.fields vs) (sz:1<vs.size) (g0:vs[0]?=some a0) (k:∀h',Heap.NotedW base (env::outer) e oe.cls a0 (rawInt L) s.heap h'->dct h' e=oe.dict->Q () { s with heap:=h' }) :
  wpAny M A (do let a <-frameOf env;let pl <-entryPlaceOf L b;let b <-EntryCells.newEntry head a .none (rawInt L) .none pl;setField (.ref e) 1 b) Q E s:=by
 have nr:∀b o,s.heap.get? b=some o->(∀vs,o.data≠.fields vs)->b≠e:=λb o hb nf z=>by subst z;rw[g]at hb;cases hb;exact nf vs gd
 have ne:e∉(env::outer).filterMap (·.frame):=λhm=>by obtain⟨_,o,ho,nf⟩:=ff.mem hm;exact nr e o ho nf rfl
 refine Ug (wpAny_frameOf_fun fr ff hf λh1 so=>Ug (wpAny_entryPlaceOf λpl hp=>?_))
 unfold EntryCells.newEntry newFields;have g1:h1.get? e=some oe:=(so.2.1 e ne).trans g;have st1:base.StaysIn h1:=λb o q=>(so.2.1 b λhm=>by rw[(ff.mem hm).1]at q;cases q).trans (st b o q)
 refine Ug (Vd ?_ (hp.sizeOk5 _ _ _ _ _));generalize hT:({ cls:=.type "traceback",dict:=none,data:=.fields ([head,.ref L,.none,rawInt L,.none]++(if pl.isEmpty then List.replicate 6 Value.none else pl)).toArray }:Obj)=T
 have Td:T.data=.fields ([head,.ref L,.none,rawInt L,.none]++(if pl.isEmpty then List.replicate 6 Value.none else pl)).toArray:=by rw[<-hT]
 have nT:h1.objs.size≠e:=Wz (Uk g1);have kp:∀b o,b≠e->h1.get? b=some o->((h1.push T).update e (Obj.mapFields (·.setIfInBounds 1 (Value.ref h1.objs.size)))).get? b=some o:=λb o n q=>by rw[Ve _ _ (Ne.symm n)];exact Uh _ q
 have d3:=WM gd (·.setIfInBounds 1 (Value.ref h1.objs.size));have g3:=VF (Obj.mapFields (·.setIfInBounds 1 (Value.ref h1.objs.size))) (Uh T g1) (WN d3);have t3:((h1.push T).update e (Obj.mapFields (·.setIfInBounds 1 (Value.ref h1.objs.size)))).get? h1.objs.size=some T:=by rw[Ve _ _ (Ne.symm nT)];exact Ul h1 (WN Td)
 refine Vu (Uh T g1) gd sz (k _ ⟨λb o q=>kp b o (λz=>by subst z;rw[en]at q;cases q) (st1 b o q),ff.of_keeps λb o q nf=>?_,?_,λb o q nf=>?_⟩ ?_)
 ·obtain⟨sl,q1⟩:=so.2.2 b o q;exact⟨_,kp b _ (nr b o q nf) q1,rfl⟩
 ·refine⟨_,_,h1.objs.size,T,_,g3,⟨Obj.cls_mapFields _ _,by rw[Array.getElem?_setIfInBounds_ne (by decide)];exact g0⟩,d3,by simp[sz],st1.fresh,nT,t3,Td,?_⟩
  rcases hp with rfl | ⟨_,_,_,_,_,_,_,rfl⟩<;>simp
 ·obtain⟨sl,q1⟩:=so.2.2 b o q;exact⟨sl,kp b _ (nr b o q nf) q1⟩
 ·rw[gM g3,K8]
def BZ{cls a0:Value}{Q:Unit->Shared->Prop}(fr:A.frames=some (env::outer))(ff:s.heap.FunFrames base (env::outer))(hf:env.frame=some L)(st:base.StaysIn s.heap)(en:base.get? e=none)
  (t:(∃oe vs,s.heap.get? e=some oe/\oe.cls=cls/\oe.data=.fields vs/\vs[1]?=some .none/\vs[0]?=some a0)\/∃v,v≠rawInt L/\s.heap.TracedAtW base e cls a0 v)
  (k:∀h',Heap.NotedW base (env::outer) e cls a0 (rawInt L) s.heap h'->dct h' e=dct s.heap e->Q () { s with heap:=h' }):wpAny M A (noteFrame (.ref e) env) Q E s:=by
 unfold noteFrame;simp only[hf];rcases t with ⟨oe,vs,g,rfl,gd,g1,g0⟩ | ⟨v,nv,oe,vs,T,oT,ts,g,⟨rfl,g0⟩,gd,g1,n1,n2,gT,dT,g3⟩
 ·refine Ug (Vc g gd g1 ?_);rw[Ux (by decide)]
  exact Ex fr ff hf g st en gd (WR.mp g1).1 g0 λh' q d=>k h' q (d.trans (gM g).symm)
 ·have ot:∀b,b≠T->(s.heap.update T (Obj.mapFields (·.setIfInBounds 3 Value.none))).get? b=s.heap.get? b:=λb n=>Ve _ _ (Ne.symm n)
  have nr:∀b o,s.heap.get? b=some o->(∀vs,o.data≠.fields vs)->b≠T:=λb o hb nf z=>by subst z;rw[gT]at hb;cases hb;exact nf ts dT
  have gE:=(ot e (Ne.symm n2)).trans g;refine Ug (Vc g gd g1 ?_);rw[Uv (show (Value.ref T != Value.none)=true from by simp)]
  refine Ug (Vc gT dT g3 ?_);rw[Ux (show ¬ ((v==rawInt L)=true) from by simpa using nv)]
  refine Ug (Vu gT dT (WR.mp g3).1 ?_);exact Ex fr (ff.of_keeps λb o q nf=>⟨o,(ot b (nr b o q nf)).trans q,rfl⟩) hf gE (λb o q=>(ot b λz=>by subst z;rw[n1]at q;cases q).trans (st b o q)) en gd (WR.mp g1).1 g0
   λh' ⟨q1,q2,q3,q4⟩ d=>k h' ⟨q1,q2,q3,λb o q nf=>q4 b o ((ot b (nr b o q nf)).trans q) nf⟩ (d.trans (gM g).symm)
def uA{c a v:Value}{f:Option Addr}{Q:Unit->Shared->Prop}(t:s.heap.TracedAtW base e c a v)(ff:s.heap.FunFrames base l)(st:base.StaysIn s.heap)
  (k:∀h',base.StaysIn h'->h'.FunFrames base l->h'.TracedAtW base e c a (f.elim .none λf=>rawInt f)->s.heap.UpToSlots h'->dct h' e=dct s.heap e->Q () { s with heap:=h' }):wpAny M A (setFlight (.ref e) f) Q E s:=by
 obtain⟨oe,vs,tb,ob,us,g1,g2,g3,g4,g5,g6,g7,g8,g9⟩:=t;have hz:3<us.size:=(WR.mp g9).1;have ot:∀b,b≠tb->(s.heap.update tb (Obj.mapFields (·.setIfInBounds 3 (f.elim Value.none λf=>rawInt f)))).get? b=s.heap.get? b:=λb n=>Ve _ _ (Ne.symm n)
 have nr:∀b o,s.heap.get? b=some o->(∀vs,o.data≠.fields vs)->b≠tb:=λb o hb nf q=>by subst q;rw[g7]at hb;cases hb;exact nf us g8
 have gE:=(ot e (Ne.symm g6)).trans g1;unfold setFlight;refine Ug (Vc g1 g3 g4 ?_);rw[Uv (show (Value.ref tb != Value.none)=true from by simp)]
 exact Vu g7 g8 hz (k _ (λb o q=>(ot b λz=>by subst z;rw[g5]at q;cases q).trans (st b o q)) (ff.of_keeps λb o q nf=>⟨o,(ot b (nr b o q nf)).trans q,rfl⟩)
  ⟨oe,vs,tb,_,_,gE,g2,g3,g4,g5,g6,VF _ g7 (WN (WM g8 _)),WM g8 _,by simp[hz]⟩
  (λb o q nf=>⟨o.slots,(ot b (nr b o q nf)).trans q⟩) ((gM gE).trans (gM g1).symm))
def tE{cls a0:Value}{Q:Unit->Shared->Prop}(fr:A.frames=some (env::outer))(ff:s.heap.FunFrames base (env::outer))(hf:env.frame=some L)(st:base.StaysIn s.heap)(en:base.get? e=none)
  (t:(∃oe vs,s.heap.get? e=some oe/\oe.cls=cls/\oe.data=.fields vs/\vs[1]?=some .none/\vs[0]?=some a0)\/∃v,s.heap.TracedAtW base e cls a0 v)
  (k:∀h',Heap.FlyingW base outer e cls a0 h'->s.heap.UpToSlots h'->dct h' e=dct s.heap e->Q () { s with heap:=h' }):wpAny M A (leaving env (.ref e)) Q E s:=by
 have fin:∀h1,Heap.NotedW base (env::outer) e cls a0 (rawInt L) s.heap h1->dct h1 e=dct s.heap e->wpAny M A (setFlight (.ref e) none) Q E { s with heap:=h1 }:=λh1 n d=>by obtain⟨q1,q2,q3,q4⟩:=n;exact uA (s:={ s with heap:=h1 }) q3 q2 q1 λh' p1 p2 p3 p4 p5=>k h' ⟨p1,en,p2.2.2,p3⟩ (Heap.UpToSlots.trans (λb o hb nf=>q4 b o hb nf) p4) (p5.trans d)
 unfold leaving;rcases t with t | ⟨v,t⟩
 ·exact Ug (BZ fr ff hf st en (.inl t) fin)
 ·by_cases hv:v=rawInt L
  ·subst hv;exact Ug (wpAny_noteFrame_againW hf t (fin s.heap ⟨st,ff,t,λb o hb z=>⟨o.slots,hb⟩⟩ rfl))
  ·exact Ug (BZ fr ff hf st en (.inr ⟨v,hv,t⟩) fin)
def JS{cls a0:Value}{Q:Unit->Shared->Prop}(fr:A.frames=some (env::outer))(hf:env.frame=some L)(fl:Heap.FlyingW base (env::outer) e cls a0 s.heap)
  (k:∀h',Heap.HeldW base (env::outer) e cls a0 L h'->s.heap.UpToSlots h'->dct h' e=dct s.heap e->Q () { s with heap:=h' }):wpAny M A (noteFrame (.ref e) env) Q E s:=
 BZ fr fl.2.2.1 hf fl.1 fl.2.1 (.inr ⟨.none,by unfold rawInt;exact nofun,fl.2.2.2.at⟩) λh' ⟨q1,q2,q3,q4⟩ d=>k h' ⟨q1,fl.2.1,q2,q3⟩ (λb o hb nf=>q4 b o hb nf) d
def JR{cls a0 v:Value}{Q:Unit->Shared->Prop}(st:base.StaysIn s.heap)(en:base.get? e=none)(ff:s.heap.FunFrames base l)(t:s.heap.TracedAtW base e cls a0 v)
  (k:∀h',Heap.FlyingW base l e cls a0 h'->s.heap.UpToSlots h'->dct h' e=dct s.heap e->Q () { s with heap:=h' }):wpAny M A (setFlight (.ref e) none) Q E s:=
 uA t ff st λh' q1 q2 q3 q4 d=>k h' ⟨q1,en,q2,q3⟩ q4 d
end
end L2
namespace L2
open PySem PySem.Spec PyProof.Rows
def bD(P:Program)(w:World):CXT:=λouter H s E e s'=>
 ∃(x:Addr) (C a0:Value) (H':Hp) (B:Heap),e=.ref x∧s'.os=s.os∧AllBare s'.gens∧Un (frs outer) [] H H' s.heap s'.heap∧HOk P w H' s'.heap∧Heap.FlyingW B outer x C a0 s'.heap ∧
   (∀b,H' b≠none->∃o,B.get? b=some o)/\(∀b o,s.heap.get? b=some o->b∉frs outer->∃o',B.get? b=some o')/\E C (dct s'.heap x) H'
def qX{env:Env}{l:List Env}{L:Addr}(h:env.frame=some L):frs (env::l)=L::frs l:=by unfold frs;rw[Xy,h]
def lK{fs:List Addr}{H H':Hp}{h0 h h' B:Heap}(u:Un fs [] H H' h0 h)(hB:B.StaysIn h)(hB':B.StaysIn h')(up:h.UpToSlots h')
  (fr:∀b∈fs,∃o,h.get? b=some o/\∀vs,o.data≠.fields vs) (cov:∀b o,h0.get? b=some o->b∉fs->∃o',B.get? b=some o'):Un fs [] H H' h0 h' where
 keep b o e n hb hx:=by have h1:=u.keep b o e n hb hx;obtain⟨o',e'⟩:=cov b o e hb;have h2:=hB b o' e';rw[h1]at h2;cases h2;exact hB' b o e'
 slot b o e n hb hx:=by obtain⟨sl,h1⟩:=u.slot b o e n hb hx;obtain⟨o1,h2,nf⟩:=fr b hb;rw[h1]at h2;cases h2;obtain⟨sl2,h3⟩:=up b _ h1 nf;exact⟨sl2,h3⟩
 free:=u.free
 there b o e hx:=by
  by_cases hb:b∈fs
  ·obtain⟨o1,h2,nf⟩:=fr b hb;obtain⟨sl2,h3⟩:=up b _ h2 nf;exact⟨_,h3⟩
  ·obtain⟨o',e'⟩:=cov b o e hb;exact⟨o',hB' b o' e'⟩
 tups:=u.tups
 frzs:=u.frzs
 tbls:=u.tbls
def eY{P:Program}{w:World}{H':Hp}{h h' B:Heap}(ok:HOk P w H' h)(hB:B.StaysIn h)(hB':B.StaysIn h')(cov:∀ b,H' b≠none->∃ o,B.get? b=some o):HOk P w H' h':=λa o e=>
 (ok a o e).stay (λb u hb hu=>by
   have hn:H' b≠none:=by
    rcases hb with rfl | hb
    ·rw[e];simp
    ·rw[hb];simp
   obtain⟨o',e'⟩:=cov b hn;have:=hB b o' e';rw[hu]at this;cases this;exact hB' b u e') (λz h=>h) (λz z h=>h)
section
variable{P:Program}{w:World}{K:PySem.W.Frag}{mg:Str->Option Value}{base:Heap}{N:List Str}{qual:Str}{scope:Scope}{f:Addr}{cd:Value}{A:Around}{outer:List Env}{s:Shared}{H:Hp}{E:XK}
abbrev aH(P:Program)(w:World)(K:PySem.W.Frag)(mg:Str->Option Value)(base:Heap)(N:List Str)(qual:Str)(scope:Scope)(f:Addr)(cd:Value)(A:Around)(outer:List Env)(s:Shared)(H:Hp)(E:XK):Cx:=
 cxOf (bD P w) P w K mg base N qual scope f cd A outer s H E
def aJ:Passes (bD P w) (aH P w K mg base N qual scope f cd A outer s H E) E:=by
 intro YT σ H1 s1 e s' I hf;obtain⟨x,C,a0,H',B,rfl,os,bare,un,hok,fl,ci,cii,q⟩:=hf;have J:Inv (aH P w K mg base N qual scope f cd A outer s H E) YT σ H' s':=I.call' (ch:=[]) os un hok bare (λb z=>absurd z (by simp))
 have hfr:(aH P w K mg base N qual scope f cd A outer s H E).A.frames=some ((aH P w K mg base N qual scope f cd A outer s H E).env::outer):=I.ok.frames;have hfs:∀b∈frs outer,∃o,s'.heap.get? b=some o/\∀vs,o.data≠.fields vs:=λb hb=>(fl.2.2.1.2.2.mem hb).2
 have hfrm:(aH P w K mg base N qual scope f cd A outer s H E).env.frame=some (aH P w K mg base N qual scope f cd A outer s H E).env.locals:=rfl;have cov:∀b o,s.heap.get? b=some o->b∉frs outer->∃o',B.get? b=some o':=λb o e hb=>by
  obtain⟨o1,h1⟩:=I.base.there b o e (show b∉([]:List Addr) by simp)
  refine cii b o1 h1 ?_;show b∉frs ((aH P w K mg base N qual scope f cd A outer s H E).env::outer);rw[qX hfrm];intro hm;rcases Uw.mp hm with rfl | hm
  ·exact absurd (Uk e) (VP.mpr I.ok.above)
  ·exact hb hm
 show wpAny _ _ (leaving _ (.ref x)) _ _ s';refine tE hfr fl.2.2.1 rfl fl.1 fl.2.1 (.inr ⟨_,fl.2.2.2.at⟩) λh' fl' up d=>?_
 exact⟨x,C,a0,H',B,rfl,J.os,bare,lK J.base fl.1 fl'.1 up hfs cov,eY hok fl.1 fl'.1 ci,fl',ci,cov,by rw[d];exact q⟩
def G5{YT:List (Addr×Obj)}{σ:St}{H1:Hp}{s1:Shared}{e:Addr}{oe:Obj}{C a0:Value}{vs:Array Value}(I:Inv (aH P w K mg base N qual scope f cd A outer s H E) YT σ H1 s1)
  (g:s1.heap.get? e=some oe) (gc:oe.cls=C) (gd:oe.data=.fields vs) (g1:vs[1]?=some .none) (g0:vs[0]?=some a0) (hn:H1 e=none) (new:s.heap.get? e=none) (q:E C oe.dict H1):(aH P w K mg base N qual scope f cd A outer s H E).xe (.ref e) s1:=by
 subst gc;have hfr:(aH P w K mg base N qual scope f cd A outer s H E).A.frames=some ((aH P w K mg base N qual scope f cd A outer s H E).env::outer):=I.ok.frames;have hfrm:(aH P w K mg base N qual scope f cd A outer s H E).env.frame=some (aH P w K mg base N qual scope f cd A outer s H E).env.locals:=rfl;have ff:s1.heap.FunFrames base ((aH P w K mg base N qual scope f cd A outer s H E).env::outer):=I.stack;have hin:∀env∈((aH P w K mg base N qual scope f cd A outer s H E).env::outer),∀b,env.frame=some b->b∈e::frs ((aH P w K mg base N qual scope f cd A outer s H E).env::outer):=λenv he b hb=>.tail _ (List.mem_filterMap.mpr ⟨env,he,hb⟩)
 have hst:(PySem.W.hideAll s1.heap (e::frs ((aH P w K mg base N qual scope f cd A outer s H E).env::outer))).StaysIn s1.heap:=λb o q=>XM _ q
 have cov:∀b o,s.heap.get? b=some o->b∉frs outer->∃o',(PySem.W.hideAll s1.heap (e::frs ((aH P w K mg base N qual scope f cd A outer s H E).env::outer))).get? b=some o':=λb o z hb=>by
  obtain⟨o1,h1⟩:=I.base.there b o z (show b∉([]:List Addr) by simp)
  refine⟨o1,Xv _ h1 ?_⟩;rw[qX hfrm];intro hm;rcases Uw.mp hm with rfl | hm
  ·rw[new]at z;cases z
  ·rcases Uw.mp hm with rfl | hm
   ·exact absurd (Uk z) (VP.mpr I.ok.above)
   ·exact hb hm
 have ci:∀ b,H1 b≠none->∃ o,(PySem.W.hideAll s1.heap (e::frs ((aH P w K mg base N qual scope f cd A outer s H E).env::outer))).get? b=some o:=λb hb=>by
  cases hb':H1 b with
  |none=>exact absurd hb' hb
  | some o=>
    obtain⟨o',ho'⟩:=(I.hok b o hb').there;refine⟨o',Xv _ ho' λhm=>?_⟩
    rcases Uw.mp hm with rfl | hm
    ·exact hb hn
    ·have:=I.stkFree b hm;rw[hb']at this;cases this
 have hfs:∀b∈frs outer,∃o,s1.heap.get? b=some o/\∀vs,o.data≠.fields vs:=λb hb=>(ff.2.2.mem hb).2
 show wpAny _ _ (leaving _ (.ref e)) _ _ _;refine tE hfr (PySem.W.funFrames_hide ff hin) rfl hst (PySem.W.hideAll_none _ (.head _)) (.inl ⟨oe,vs,g,rfl,gd,g1,g0⟩) λh' fl' up d=>?_
 exact⟨e,_,a0,H1,_,rfl,I.os,I.bare,lK I.base hst fl'.1 up hfs cov,eY I.hok hst fl'.1 ci,fl',ci,cov,by rw[d,gM g];exact q⟩
def Qc{YT:List (Addr×Obj)}{σ:St}{H1:Hp}{s1:Shared}{h1:Heap}{e:Addr}{C:Value}{args:List Value}(I:Inv (aH P w K mg base N qual scope f cd A outer s H E) YT σ H1 s1)
  (hx:Heap.MadeExcOf s1.heap h1 e C args) (q:E C none H1):(aH P w K mg base N qual scope f cd A outer s H E).xe (.ref e) { s1 with heap:=h1 }:=by
 obtain⟨t,g,_,_⟩:=hx.there;have I1:Inv (aH P w K mg base N qual scope f cd A outer s H E) YT σ H1 { s1 with heap:=h1 }:=I.kept (t':=s1.toks) hx.keeps
 refine G5 I1 g rfl rfl rfl rfl ?_ ?_ q
 ·cases z:H1 e with
  |none=>rfl
  |some o=>obtain⟨o',q'⟩:=(I.hok e o z).there;rw[hx.new]at q';cases q'
 ·cases z:s.heap.get? e with
  |none=>rfl
  |some o=>
    obtain⟨o',q'⟩:=I.base.there e o z (show e∉([]:List Addr) by simp)
    rw[hx.new]at q';cases q'
end
abbrev dW:List Value:=[.type "ValueError",.type "Exception",.type "BaseException",.type "object"]
set_option tactic.hygienic true in
def uP{K:PySem.W.Frag}{h:Heap}{mg:Str->Option Value}{x:Str}{C:Addr}{bmB:List Value}{newId:String}(X:K.In h)(m:mg x=some (.ref C))(q:PySem.W.excIn K C bmB newId=true):OwnCls x C bmB newId mg h:=by
 refine⟨m,?_⟩;unfold PySem.W.excIn at q;split at q
 ·rename_i dd cd sl hobj;split at q
  ·rename_i C' tl a0 a1 a2 a3 n a5 hmro hslot
   (simp only[Bool.not_eq_true',Bool.and_eq_true,beq_iff_eq]at q)
   obtain⟨⟨⟨⟨⟨rfl,rfl⟩,hnd⟩,ht⟩,hns⟩,hin⟩:=q;obtain⟨c1,c2,c3,c4,c5,c6,c7,c8,c9,c10,c11⟩:=cd;dsimp only at hmro hnd hns hin;subst hmro hnd;have hslv:sl=#[a0,a1,a2,a3,some (.builtin n),a5]:=by obtain⟨l⟩:=sl;simp only at hslot;rw[hslot]
   subst hslv;exact⟨tl,c4,c1,c5,c2,c6,c7,c8,c9,c10,dd,a0,a1,a2,a3,a5,_,X _ _ hobj,.of_isNs (PySem.W.isNs_of_in X hns),PySem.W.nsMap_none_of_in X hns hin,PySem.W.tail_of_in X ht⟩
  ·cases q
 ·cases q
structure XCls(K:PySem.W.Frag)(mg:Str->Option Value)(x:Str)(C:Addr):Prop where
 at_:mg x=some (.ref C)
 exc:PySem.W.excIn K C dW "ValueError.__new__"=true
section
variable{P:Program}{w:World}{K:PySem.W.Frag}{mg:Str->Option Value}{base:Heap}{N:List Str}{qual:Str}{scope:Scope}{f:Addr}{cd:Value}{A:Around}{outer:List Env}{s:Shared}{H:Hp}{E:XK}
def Jr{x:Str}{C:Addr}{np cpos pos:Pos}{e:Expr}{te:TE}(hc:XCls K mg x C)(he:PE (aH P w K mg base N qual scope f cd A outer s H E) e te)
  (hg:Gl (aH P w K mg base N qual scope f cd A outer s H E) x:=by rfl) (hd:(x==("__debug__":Str))=false:=by decide)
  (hst:starEach [e] (aH P w K mg base N qual scope f cd A outer s H E).env=[(false,eval e (aH P w K mg base N qual scope f cd A outer s H E).env)]:=by rfl) :
  PS (aH P w K mg base N qual scope f cd A outer s H E) (.Raise (some (.Call (.Name x np) [e] [] cpos)) none pos) (λ_ σ H1=>te σ H1 λv H2=>[v].length=1/\E (.ref C) none H2):=by
 intro YT s1 σ H1 D I h;have O:=uP (newId := "ValueError.__new__") (bmB:=dW) (mg:=mg) (x:=x) I.ok.mod.kin hc.at_ hc.exc;obtain⟨tl,Nn,nm,q,bs,hdct,sn,sub,ab,col,dd,k0,k1,k2,k3,k5,mN,hC,hN,hni,T⟩:=O.obj;refine wpAny_Raise_call_subT (C:=C) (nm:=nm) (q:=q) (N:=Nn) (bs:=bs) (bm:=tl) (hdct:=hdct) (sn:=sn) (sub:=sub) (ab:=ab) (col:=col) (dd:=dd) (k0:=k0) (k1:=k1) (k2:=k2) (k3:=k3) (k5:=k5)
  Xn (mN:=mN) (T.hasType PySem.F.excBase_ValueError.hasBase) (I.ok.hd rfl) (by rw[hst];rfl) hni (ld_glob I hg hc.at_ ⟨rfl,?_⟩ hd)
 have hPA:=(pa_cons he pa_nil hst) cpos YT s1 σ H1 (λvs H2=>vs.length=1/\E (.ref C) none H2) I h
 rw[hst]at hPA ⊢
 refine Calls.evalArgs_plain (Us hPA (λvs s₂ h₂=>?_) λz z y=>y)
 obtain⟨ws,H2,I2,rv,l1,qE⟩:=h₂;have lv:vs.length=1:=by rw[<-rv.length];exact l1
 have kp:∀b o,base.get? b=some o->s₂.heap.get? b=some o:=I2.bk;exact⟨rfl,by rw[lv];decide,kp _ _ hC,hN.keeps kp,T.keeps kp,λh' e hm=>Qc I2 hm qE⟩
end
section
variable{X:Cx}{YT:List (Addr×Obj)}{σ:St}{H:Hp}{s:Shared}{h' B:Heap}
def Inv.land(I:Inv X YT σ H s)(hc:X.env.cells=[])(hex:X.ex=[])(hB:B.StaysIn s.heap)(hB':B.StaysIn h')(up:s.heap.UpToSlots h')
  (fr:∀b∈X.fs,∃o,s.heap.get? b=some o/\∀vs,o.data≠.fields vs) (ci:∀b,H b≠none->∃o,B.get? b=some o) (cov:∀b o,X.s₀.heap.get? b=some o->b∉X.fs->∃o',B.get? b=some o')
  (cp:∀p∈X.pn++YT,B.get? p.1=some p.2):Inv X YT σ H { s with heap:=h' }:=by
 have nc:∀x c,X.env.cells.lookup x=some c->False:=λx c e=>by rw[hc]at e;cases e
 obtain⟨m,hn,hl⟩:=I.loc;have ub:Un X.fs [] X.H₀ H X.s₀.heap s.heap:=by have:=I.base;rw[hex]at this;exact this
 refine⟨I.ok,I.os,I.bare,?_,⟨m,up.ns hn,λi x v h1 h2 h3=>?_⟩,λx c e=>(nc x c e).elim,I.free,λx c e=>(nc x c e).elim,λp hp=>?_,eY I.hok hB hB' ci,I.len⟩
 ·rw[hex];exact lK ub hB hB' up fr cov
 ·obtain⟨u,r,q⟩:=hl i x v h1 h2 h3;refine⟨u,r,?_⟩;rcases q with q | ⟨_,c,e,_⟩
  ·exact .inl q
  ·exact (nc x c e).elim
 ·obtain⟨e,n,ne,nf,d⟩:=I.pin p hp;exact⟨hB' _ _ (cp p hp),n,ne,nf,d⟩
def Inv.gone(I:Inv X YT σ H s)(hN:X.N.Nodup)(hi:X.N[i]?=some n)(hk:X.env.kindOf n=some .local)
  (h:∀s',Inv X YT (σ.set i none) H s'->Q () s'):wpAny M A (do bindName X.env n .none;unbindBehindTheSuite X.env n pos) Q E s:=by
 obtain⟨m,hn,hl⟩:=id I.loc;have hcls:(X.env.scope.kind==.class || (X.env.scope.kind==.module&&X.env.locals != X.env.globals))=false:=by rw[I.ok.kind];rfl
 have cne:=I.cne;obtain⟨oL,_,_,hoL,_⟩:=id hn;refine wpAny_nameGoes_keeps hk hn hcls λh' v hn' hs=>?_
 refine h _ ⟨I.ok,I.os,I.bare,⟨λb o e n hb hx=>?_,λb o e n hb hx=>?_,I.base.free,λb o e hx=>?_,I.base.tups,I.base.frzs,I.base.tbls⟩,⟨_,hn',λj y v' e1 e2 e3=>?_⟩,λy c e=>?_,I.free,I.freeC,λp hp=>?_,λb ob e=>?_,by simpa using I.len⟩
 ·exact (hs.2 b (Ut (Um (Uk e) I.ok.above))).trans (I.base.keep b o e n hb hx)
 ·obtain⟨sl,e1⟩:=I.base.slot b o e n hb hx;exact⟨sl,(hs.2 b (Ut (Um (Uk e) I.ok.above))).trans e1⟩
 ·obtain⟨o',e1⟩:=I.base.there b o e hx;exact⟨o',(hs.2 b (Ut (Um (Uk e) I.ok.above))).trans e1⟩
 ·have hj:j≠i:=λz=>by
   subst z;have hlt:j<σ.length:=by rw[I.len];exact (Uj.mp hi).1
   rw[U3 hlt]at e2;cases e2
  rw[Vl (Ne.symm hj)]at e2;obtain⟨u',r',q⟩:=hl j y v' e1 e2 e3;refine⟨u',r',?_⟩;rcases q with ⟨k,e⟩ | ⟨k,c,e,z⟩
  ·refine .inl ⟨k,?_⟩;have:y≠n:=λe=>hj (nodup_ix hN e1 (e ▸ hi))
   simp[this,e]
  ·exact .inr ⟨k,c,e,z.sameBut hs (cne y c e)⟩
 ·obtain⟨w',z⟩:=I.cell y c e;exact⟨w',z.sameBut hs (cne y c e)⟩
 ·obtain⟨e,n,ne,nf,d⟩:=I.pin p hp;exact⟨(hs.2 p.1 ne).trans e,n,ne,nf,d⟩
 ·refine (I.hok b ob e).stay (λc w' hc q=>(hs.2 c ?_).trans q) (λx q=>q) λx x q=>q
  rintro rfl;rcases hc with hc | hc
  ·rw[<-hc,I.free]at e;cases e
  ·rw[I.free]at hc;cases hc
end
def S5(X:Cx)(YT:List (Addr×Obj))(Eh:XK):Value->Shared->Prop:=λe s'=>
 ∃(σ':St) (H':Hp) (x:Addr) (C a0:Value) (B:Heap),e=.ref x∧Inv X YT σ' H' s'∧Heap.FlyingW B X.stack x C a0 s'.heap∧(∀b,H' b≠none->∃o,B.get? b=some o) ∧
   (∀b o,X.s₀.heap.get? b=some o->b∉X.fs->∃o',B.get? b=some o')/\(∀p∈X.pn++YT,B.get? p.1=some p.2)/\Eh C (dct s'.heap x) H'
abbrev Cx.tryC(X:Cx)(YT:List (Addr×Obj))(Eh:XK):Cx:={ X with pn:=X.pn++YT,xe:=S5 X YT Eh }
abbrev Cx.sui(X:Cx)(x:Addr)(oe:Obj):Cx:={ X with A:=X.A.mark (some (.ref x)),calm:=false,pn:=X.pn++[(x,oe)],xe:=λ_ _=>False }
section
variable{X:Cx}{YT:List (Addr×Obj)}{σ:St}{H:Hp}{s:Shared}{Eh:XK}{P:Program}{w:World}
def Inv.toTry(I:Inv X YT σ H s):Inv (X.tryC YT Eh) [] σ H s:=
 ⟨⟨I.ok.mod,I.ok.kind,I.ok.glob,I.ok.blt,I.ok.above,I.ok.inj,I.ok.has,I.ok.cab,I.ok.hd,I.ok.frames,I.ok.stk,I.ok.exf,I.ok.bs,I.ok.bsz,I.ok.noex,I.ok.exfs,I.ok.funs,I.ok.frf⟩,I.os,I.bare,I.base,I.loc,I.cell,I.free,I.freeC,λp hp=>I.pin p (by simpa using hp),I.hok,I.len⟩
def Inv.ofTry(I:Inv (X.tryC YT Eh) pins2 σ H s):Inv X YT σ H s:=
 ⟨⟨I.ok.mod,I.ok.kind,I.ok.glob,I.ok.blt,I.ok.above,I.ok.inj,I.ok.has,I.ok.cab,I.ok.hd,I.ok.frames,I.ok.stk,I.ok.exf,I.ok.bs,I.ok.bsz,I.ok.noex,I.ok.exfs,I.ok.funs,I.ok.frf⟩,I.os,I.bare,I.base,I.loc,I.cell,I.free,I.freeC,λp hp=>I.pin p (Vp _ hp),I.hok,I.len⟩
def Inv.toSui(I:Inv X YT σ H s)(h:s.heap.get? x=some oe/\H x=none/\x≠X.env.locals/\x∉X.fs/\∀ v,oe.data≠.cell v):Inv (X.sui x oe) YT σ H s:=
 ⟨⟨I.ok.mod,I.ok.kind,I.ok.glob,I.ok.blt,I.ok.above,I.ok.inj,I.ok.has,I.ok.cab,fun z=>(by cases z),I.ok.frames,I.ok.stk,I.ok.exf,I.ok.bs,I.ok.bsz,I.ok.noex,I.ok.exfs,I.ok.funs,I.ok.frf⟩,I.os,I.bare,I.base,I.loc,I.cell,I.free,I.freeC,fun p hp=>by
  rcases Vr.mp hp with hp | hp
  ·rcases Vr.mp hp with hp | hp
   ·exact I.pin p (Vp _ hp)
   ·cases U7.mp hp;exact h
  ·exact I.pin p (UJ _ hp),I.hok,I.len⟩
def Inv.ofSui(ok:X.Ok)(I:Inv (X.sui x oe) YT σ H s):Inv X YT σ H s:=
 ⟨ok,I.os,I.bare,I.base,I.loc,I.cell,I.free,I.freeC,fun p hp=>I.pin p (by
  rcases Vr.mp hp with hp | hp
  ·exact Vp _ (Vp _ hp)
  ·exact UJ _ hp),I.hok,I.len⟩
def QV(hex:X.ex=[])(hP:X.prog=P)(hw:X.w=w):Passes (bD P w) (X.tryC YT Eh) Eh:=by
 subst hP hw;intro pins2 σ H1 s1 e s' I hf;obtain⟨x,C,a0,H',B,rfl,os,bare,un,hok,fl,ci,cii,q⟩:=hf;have J:Inv (X.tryC YT Eh) pins2 σ H' s':=I.call' (ch:=[]) os un hok bare (λb z=>absurd z (by simp))
 have J':=J.ofTry;have cp:∀p∈X.pn++YT,B.get? p.1=some p.2:=λp hp=>by
  obtain⟨e1,n1,ne1,nf1,d1⟩:=I.ofTry.pin p hp;obtain⟨e2,_⟩:=J'.pin p hp;obtain⟨o',e3⟩:=cii p.1 p.2 e1 (λhm=>by
   rcases Uw.mp (I.ofTry.stkSub _ hm) with z | z
   ·exact ne1 z
   ·exact nf1 z)
  have:=fl.1 _ _ e3;rw[e2]at this;cases this;exact e3
 have cov:∀b o,X.s₀.heap.get? b=some o->b∉X.fs->∃o',B.get? b=some o':=λb o e hb=>by
  obtain⟨o1,h1⟩:=I.base.there b o e (by show b∉X.ex;rw[hex];simp)
  refine cii b o1 h1 λhm=>?_
  rcases Uw.mp (I.ofTry.stkSub _ hm) with z | z
  ·exact absurd (Uk e) (by rw[z];exact VP.mpr I.ok.above)
  ·exact hb z
 exact⟨σ,H',x,C,a0,B,rfl,J',fl,ci,cov,cp,q⟩
end
def cL(K:PySem.W.Frag)(C f:Addr):Bool:=(PySem.W.clsIn K C).any λcd=>match cd.mro with
 |.ref C'::tl=>C'==C&&!cd.hasDel&&PySem.W.tailIn K dW tl&&PySem.W.nsOkIn K cd.ns&&PySem.W.nsIn K cd.ns "__init__"==some (some (.ref f)) &&
   (match K.lookup C with
   |some o=>o.cls==.type "type"&&o.slots.toList.length==6&&o.slots.toList[4]?==some (some (.builtin "ValueError.__new__"))
   |none=>false)
 |_=>false
set_option tactic.hygienic true in
def Lh{K:PySem.W.Frag}{h:Heap}{N:Addr}{mg:Str->Option Value}{n:Str}{v:Value}(X:K.In h)(G:h.Ns N mg)(e:PySem.W.nsIn K N n=some (some v)):mg n=some v:=by
 obtain⟨o,es,ep,ho,hd,_,hf⟩:=G;unfold PySem.W.nsIn at e;split at e
 ·rename_i q;have:=X _ _ q;rw[ho]at this;cases this;cases hd;split at e
  ·rename_i he;cases e;rw[<-hf];unfold nsFind findBy;rw[<-Array.find?_toList,he];rfl
  ·split at e<;>cases e
 ·cases e
structure ClsI(h:Heap)(C f:Addr):Prop where
 obj:∃bm N nm q bs hdct sn sub ab col dd k0 k1 k2 k3 k5 mN,h.get? C=some (excClassObj nm q C N bs bm hdct sn sub ab col dd k0 k1 k2 k3 k5 "ValueError.__new__")/\h.Ns N mN/\mN "__init__"=some (.ref f)/\OwnTail h dW bm
set_option tactic.hygienic true in
def qO{K:PySem.W.Frag}{h:Heap}{C f:Addr}(X:K.In h)(q:cL K C f=true):ClsI h C f:=by
 unfold cL at q;obtain⟨cd,hc,q⟩:=PySem.W.any_some q;unfold PySem.W.clsIn at hc;split at hc
 ·rename_i c' dd cd' sl hobj;cases hc;split at q
  ·rename_i C' tl hmro;rw[hobj]at q;simp only[Bool.not_eq_true',Bool.and_eq_true,beq_iff_eq]at q;obtain⟨⟨⟨⟨⟨rfl,hnd⟩,ht⟩,hns⟩,hin⟩,⟨rfl,h6⟩,h4⟩:=q;obtain⟨c1,c2,c3,c4,c5,c6,c7,c8,c9,c10,c11⟩:=cd;dsimp only at hmro hnd hns hin h6 h4;subst hmro hnd;obtain⟨l⟩:=sl;dsimp only at h6 h4
   match l,h6,h4 with
   |[a0,a1,a2,a3,a4,a5],_,h4=>cases h4;exact⟨tl,c4,c1,c5,c2,c6,c7,c8,c9,c10,dd,a0,a1,a2,a3,a5,_,X _ _ hobj,.of_isNs (PySem.W.isNs_of_in X hns),Lh X (.of_isNs (PySem.W.isNs_of_in X hns)) hin,PySem.W.tail_of_in X ht⟩
  ·cases q
 ·cases hc
section
variable{M:Model}{A:Around}{E:Value->Shared->Prop}
variable{nm q:Str}{C N:Addr}{bs bm:List Value}{hdct:Bool}{sn:List Str}{sub:List Value}{ab:Bool}{col:Option Bool}{dd:Option Addr}{k0 k1 k2 k3 k5:Option Value}{newId:String}
variable{nm' q':Str}{C' N':Addr}{bs' bm':List Value}{hdct':Bool}{sn':List Str}{sub':List Value}{ab':Bool}{col':Option Bool}{dd':Option Addr}{j0 j1 j2 j3 j5:Option Value}{newId':String}
def uz{h:Heap}{g:Array GenState}{d:Drawn}{t:Nat}{os:OsState}{e:Addr}{oe:Obj}{Q:Bool->Shared->Prop}
  (hC:h.get? C=some (excClassObj nm q C N bs bm hdct sn sub ab col dd k0 k1 k2 k3 k5 newId)) (hC':h.get? C'=some (excClassObj nm' q' C' N' bs' bm' hdct' sn' sub' ab' col' dd' j0 j1 j2 j3 j5 newId')) (he:h.get? e=some oe) (hcls:oe.cls=.ref C)
  (hbase:bm'.contains (.type "BaseException")=true) (hsub:(Value.ref C::bm).contains (.ref C')=true)
  (hq:Q true ⟨h,g,d,t,os⟩):wpAny M A (excMatches (.ref e) (.ref C')) Q E ⟨h,g,d,t,os⟩:=by
 have hcB:(Value.ref C'::bm').contains (.type "BaseException")=true:=by rw[XQ,hbase,Bool.or_true]
 have f:=tc_notTuple;unfold excMatches
 repeat (first | (with_reducible refine VG he ?_;rw[hcls]) | with_reducible refine VG hC' ?_ | (with_reducible refine Xw hC' ?_;rw[hcB]) | (with_reducible refine Xw hC ?_;rw[hsub]) | wp_step)
 all_goals exact hq
end
structure Catches(K:PySem.W.Frag)(C F:Addr):Prop where
 exc:PySem.W.excIn K C dW "ValueError.__new__"=true\/∃f,cL K C f=true
 excF:PySem.W.excIn K F dW "ValueError.__new__"=true
 sub:PySem.W.mroIn K C (.ref F)=some true
set_option tactic.hygienic true in
def BP{K:PySem.W.Frag}{M:Model}{A:Around}{E:Value->Shared->Prop}{s:Shared}{C F e:Addr}{oe:Obj}{Q:Bool->Shared->Prop}(X:K.In s.heap)(c:Catches K C F)(he:s.heap.get? e=some oe)(hcls:oe.cls=.ref C)(hq:Q true s):
  wpAny M A (excMatches (.ref e) (.ref F)) Q E s:=by
 obtain⟨bm,N,nm,q,bs,hdct,sn,sub,ab,col,dd,k0,k1,k2,k3,k5,hC⟩:∃bm N nm q bs hdct sn sub ab col dd k0 k1 k2 k3 k5,s.heap.get? C=some (excClassObj nm q C N bs bm hdct sn sub ab col dd k0 k1 k2 k3 k5 "ValueError.__new__"):=by
  rcases c.exc with z | ⟨f,z⟩
  ·obtain⟨bm,N,nm,q,bs,hdct,sn,sub,ab,col,dd,k0,k1,k2,k3,k5,mN,hC,_⟩:=(uP (mg:=λy=>some (.ref C)) (x := "x") X rfl z).obj
   exact⟨_,_,_,_,_,_,_,_,_,_,_,_,_,_,_,_,hC⟩
  ·obtain⟨bm,N,nm,q,bs,hdct,sn,sub,ab,col,dd,k0,k1,k2,k3,k5,mN,hC,_⟩:=(qO X z).obj;exact⟨_,_,_,_,_,_,_,_,_,_,_,_,_,_,_,_,hC⟩
 obtain⟨bm',N',nm',q',bs',hdct',sn',sub',ab',col',dd',j0,j1,j2,j3,j5,mN',hC',hN',hni',T'⟩:=(uP (mg:=λy=>some (.ref F)) (x := "x") X rfl c.excF).obj
 have hsub:(Value.ref C::bm).contains (.ref F)=true:=by
  have h1:=c.sub;unfold PySem.W.mroIn at h1;obtain⟨cd,a,b⟩:=UT.mp h1;unfold PySem.W.clsIn at a;split at a
  ·rename_i c' d' cd' sl' ho;have:=X _ _ ho;rw[hC]at this;cases this;cases a;split at b
   ·cases b
   ·exact Uo b
  ·cases a
 obtain⟨hp,g,d,tk,os⟩:=s;exact uz hC hC' he hcls (T'.hasType PySem.F.excBase_ValueError.hasBase) hsub hq
def Sv(X:Cx)(i:Nat)(F:Addr)(Eh:XK)(tb:TS)(th:Addr->Obj->TS):TS:=λD σ H=>
 tb D σ H/\∀(x:Addr) (oe:Obj) (C:Value) (H1:Hp),oe.cls=C->(∃vs,oe.data=.fields vs)->Eh C oe.dict H1->(∃c,C=.ref c/\Catches X.K c F) /\
  th x oe { D with nx:=λσ' H'=>D.nx (σ'.set i none) H',bk:=λσ' H'=>D.bk (σ'.set i none) H',ct:=λσ' H'=>D.ct (σ'.set i none) H' } ((List.replicate X.N.length none).set i (some (.ref x))) H1
def Pq(hcalm:X.calm=true)(hcells:X.env.cells=[])(hex:X.ex=[])
  (hst:X.stack=X.env::X.outer) (hfr:X.env.frame=some X.env.locals) (hN:X.N.Nodup) (hi:X.N[i]?=some n) (hk:X.env.kindOf n=some .local) (hm:X.mg x=some (.ref F))
  (hb:∀YT,PSs (X.tryC YT Eh) body tb) (hs:∀y oe,PSs (X.sui y oe) (b₀::suite) (th y oe)) (hg:Gl X x:=by rfl) (hd:(x==("__debug__":Str))=false:=by decide) :
  PS X (.Try body [.ExceptHandler (some (.Name x np)) (some n) (b₀::suite) p1] [] [] pos) (Sv X i F Eh tb th):=by
 intro YT s σ H D I h;obtain⟨h1,h2⟩:=h;have RL:∀{f:Flow}{s':Shared},SP (X.tryC YT Eh) [] D f s'->SP X YT D f s':=λ{f s'} z=>by
  cases f with
  |next=>obtain⟨σ',H',J,q⟩:=z;exact⟨σ',H',J.ofTry,q⟩
  |brk=>obtain⟨σ',H',J,q⟩:=z;exact⟨σ',H',J.ofTry,q⟩
  |cont=>obtain⟨σ',H',J,q⟩:=z;exact⟨σ',H',J.ofTry,q⟩
  |ret u=>obtain⟨v,σ',H',J,r,q⟩:=z;exact⟨v,σ',H',J.ofTry,r,q⟩
 refine wpAny_Try_except (Us ((hb YT) [] s σ H D I.toTry h1) (λf s₁ hf=>?_) λe s₁ he=>?_)
 ·have hf':=RL hf;cases f with
  |next=>exact XD hf'
  |brk=>exact hf'
  |cont=>exact hf'
  |ret u=>exact hf'
 obtain⟨σ',H',y,C,a0,B,rfl,J,fl,ci,cov,cp,q⟩:=he;have hfrs:X.A.frames=some (X.env::X.outer):=by rw[I.ok.frames,hst]
 rw[hst]at fl;have fr:∀b∈X.fs,∃o,s₁.heap.get? b=some o/\∀vs,o.data≠.fields vs:=λb hb=>(fl.2.2.1.2.2.mem hb).2
 refine JS hfrs hfr fl λh₄ held up₄ d₄=>?_
 refine JR held.1 held.2.1 held.2.2.1 held.2.2.2 λh₅ fl₅ up₅ d₅=>?_
 have J₅:Inv X YT σ' H' { s₁ with heap:=h₅ }:=J.land hcells hex fl.1 fl₅.1 (up₄.trans up₅) fr ci cov cp
 obtain⟨ob,wb,hob,hobc,hobd,_⟩:=fl₅.first;refine wpAny_handleBy_cons (codeAny_handlers_test ?_) (by intro z;cases z)
 have K₅:∀{E:Value->Shared->Prop}{Q:Value->Shared->Prop},Q (.ref F) { s₁ with heap:=h₅ }->wpAny (model X.prog X.w) (X.A.mark (some (.ref y))) (eval (.Name x np) X.env) Q E { s₁ with heap:=h₅ }:=λhQ=>
  Xo I.ok.kind hg (by
   have g5:h₅.Ns X.env.globals X.mg:=by rw[I.ok.glob];exact I.ok.mod.glob.keeps J₅.bk
   exact Calls.loadGlobal_global g5 hm hQ) hd
 refine K₅ ?_;obtain⟨⟨c,hCc,cat⟩,_⟩:=h2 y ob C H' hobc ⟨_,hobd⟩ ((gM hob).symm.trans (d₅.trans d₄) ▸ q);subst hCc;refine BP J₅.kIn cat hob hobc ?_;refine codeAny_handlers_suite_as ?_;refine JR fl₅.1 fl₅.2.1 fl₅.2.2.1 fl₅.2.2.2.at λh₆ fl₆ up₆ d₆=>?_
 have fr₅:∀b∈X.fs,∃o,h₅.get? b=some o/\∀vs,o.data≠.fields vs:=λb hb=>(fl₅.2.2.1.2.2.mem hb).2
 have fr₆:∀b∈X.fs,∃o,h₆.get? b=some o/\∀vs,o.data≠.fields vs:=λb hb=>(fl₆.2.2.1.2.2.mem hb).2
 have J₆:Inv X YT σ' H' { s₁ with heap:=h₆ }:=J₅.land (s:={ s₁ with heap:=h₅ }) hcells hex fl₅.1 fl₆.1 up₆ fr₅ ci cov cp
 have J₇:Inv X YT (List.replicate X.N.length none) H' { s₁ with heap:=h₆ }:=J₆.weak (by rw[J₆.len];simp) λi v z=>by rw[VR]at z;split at z<;>cases z
 obtain⟨oe,ws,hoe,hoec,hoed,hoe0⟩:=fl₆.first;obtain⟨m,⟨oL,es,ep,hoL,hdL,_⟩,_⟩:=id J₇.loc;have ynL:y≠X.env.locals:=λz=>by rw[z]at hoe;rw[hoL]at hoe;cases hoe;rw[hdL]at hoed;cases hoed
 have ynf:y∉X.fs:=λz=>by obtain⟨o,ho,nf⟩:=fr₆ y z;rw[hoe]at ho;cases ho;exact nf _ hoed
 have yH:H' y=none:=by
  cases z:H' y with
  |none=>rfl
  |some o=>
    obtain⟨o',e'⟩:=ci y (by rw[z];simp)
    rw[fl.2.1]at e';cases e'
 refine store_ok2 (v:=.ref y) J₇ hN hi (.inl hk) rfl (λs' I' hsb=>?_) (.inr hk)
 obtain⟨a,hsb,ha⟩:=hsb;have ha':a=X.env.locals:=by
  rcases ha with ha | ha
  ·exact ha
  ·rw[hcells]at ha;cases ha
 subst ha';have hoe':s'.heap.get? y=some oe:=(hsb.2 y ynL).trans hoe;have IS:=I'.toSui (x:=y) (oe:=oe) ⟨hoe',yH,ynL,ynf,λv z=>by rw[hoed]at z;cases z⟩
 refine Us ((hs y oe) YT s' _ H' _ IS (h2 y oe (.ref c) H' hoec ⟨_,hoed⟩ ((gM hoe).symm.trans (d₆.trans (d₅.trans d₄)) ▸ q)).2) (λf s₃ hf=>?_) λt t z=>z.elim
 cases f with
 |next=>obtain⟨σ2,H2,J2,q2⟩:=hf;exact (J2.ofSui I.ok).gone hN hi hk λs4 J4=>⟨_,H2,J4,q2⟩
 |brk=>obtain⟨σ2,H2,J2,q2⟩:=hf;exact (J2.ofSui I.ok).gone hN hi hk λs4 J4=>⟨_,H2,J4,q2⟩
 |cont=>obtain⟨σ2,H2,J2,q2⟩:=hf;exact (J2.ofSui I.ok).gone hN hi hk λs4 J4=>⟨_,H2,J4,q2⟩
 |ret u=>obtain⟨v,σ2,H2,J2,r2,q2⟩:=hf;exact (J2.ofSui I.ok).gone hN hi hk λs4 J4=>⟨v,_,H2,J4,r2,q2⟩
structure XAt(K:PySem.W.Frag)(D:Addr):Prop where
 ga:PySem.W.findIn K (.ref D) "__getattribute__"=some (some (.builtin "BaseException.__getattribute__"))
 gn:PySem.W.findIn K (.ref D) "__getattr__"=some none
 gc:PySem.W.findIn K (.ref D) "__class__"=some (some (.builtin "object.__class__"))
 mo:PySem.W.mroIn K D (.type "object")=some true
 mb:PySem.W.mroIn K D (.type "BaseException")=some true
section
variable{prog:Program}{w:World}{A:Around}{E:Value->Shared->Prop}{h:Heap}{g:Array GenState}{d:Drawn}{t:Nat}{os:OsState}{x D:Addr}{oe:Obj}{K:PySem.W.Frag}
def Ey(hx:h.get? x=some oe)(hc:oe.cls=.ref D):PySem.W.Looks M h (typeOf (.ref x)) (.ref D):=hc ▸ (PySem.W.Looks.ld hx).andThen .now
open PySem.W Builtin.Getset_descriptor Builtin.ObjectAttr Builtin in
def Bl(X:K.In h)(hx:h.get? x=some oe)(hc:oe.cls=.ref D)(hm:mroIn K D (.type "object")=some true)
  (hR:R (.ok (.ret (.ref D))) ⟨h,g,d,t,os⟩):codeAny (model prog w) A (.call (.builtin "getset_descriptor.__get__") ⟨[.builtin "object.__class__",.ref x,tp],[]⟩) R ⟨h,g,d,t,os⟩:=by
 have Lty:=Ey (M:=model prog w) hx hc;have Lmr:=looks_mroIn (M:=model prog w) X hm;refine Wq KF.slot_gs.plain KF.entry_gs (KF.slot_gs.check _ _ _ _ _ _ _ _ KF.type_class (KF.args_gs _ _ _) ?_)
 (unfold Builtin.«getset_descriptor.__get__» descrGet;rw[dga_obj];refine Ug (Ui ?_))
 (unfold descrGetter descrCheckInstance descrNameAndClass isInstance;simp only[KF.owner_class];repeat lk)
 refine⟨X5 _ (by decide +kernel),WP KF.entry_class ?_⟩
 (unfold Builtin.«object.__class__» shownTypeOf;repeat lk)
 all_goals first | exact hR | assumption
def yS(X:K.In h)(T:XAt K D)(hx:h.get? x=some oe)(hc:oe.cls=.ref D)(hq:Q (.done (.ret (.ref D))) ⟨h,g,d,t,os⟩):
  wpAny (model prog w) A (Builtin.«object.__getattribute__» ⟨[.ref x,.str "__class__" tk],[]⟩) Q E ⟨h,g,d,t,os⟩:=by
 have tyc:(⟨h,g,d,t,os⟩:Shared).TypeIs (.builtin "object.__class__") "getset_descriptor":=F.typeOf_object_class;have u5:=F.typeOf_object_class;have u6:=F.slot_gs_get.lookup;have u7:=F.slot_gs_set.lookup;have Lc:=V9 (M:=model prog w) X T.gc
 repeat (any_goals (first | assumption | (with_reducible refine VG hx ?_;rw[hc]) | with_reducible refine Lc.at ?_ | wp_step))
 refine Bl X hx hc T.mo ?_
 repeat (any_goals (first | wp_step | assumption))
def wQ(X:K.In h)(T:XAt K D)(hx:h.get? x=some oe)(hc:oe.cls=.ref D)(hq:Q () ⟨h,g,d,t,os⟩):
  wpAny M A (checkBuiltinCall "BaseException.__getattribute__" ⟨[.ref x,nameV],[]⟩) Q E ⟨h,g,d,t,os⟩:=by
 have bk:builtinKind "BaseException.__getattribute__"=some .slot:=by decide +kernel
 have spl:splitId "BaseException.__getattribute__"=some ("BaseException", "__getattribute__"):=by decide +kernel
 have ha:=F.args_bexc_ga (.ref x) nameV;have Lb:=PySem.W.looks_mroIn (M:=M) X T.mb;simp only[checkBuiltinCall,bk,spl];refine Ug ?_
 ·unfold isInstance
  repeat (first | (with_reducible refine VG hx ?_;rw[hc]) | with_reducible refine Lb.at ?_ | wp_step)
  exact hq
def Bk(X:K.In h)(T:XAt K D)(hx:h.get? x=some oe)(hc:oe.cls=.ref D)(hq:R (.ok (.ret (.ref D))) ⟨h,g,d,t,os⟩):
  codeAny (model prog w) A (.call (.builtin "BaseException.__getattribute__") ⟨[.ref x,.str "__class__" tk],[]⟩) R ⟨h,g,d,t,os⟩:=
 Wq F.attrBase_ValueError.ga.plain F.entry_bexc_ga (wQ X T hx hc (yS X T hx hc hq))
def HQ{fill expr:Bool}{Q:Value->Shared->Prop}(X:K.In h)(T:XAt K D)(hx:h.get? x=some oe)(hc:oe.cls=.ref D)(hq:Q (.ref D) ⟨h,g,d,t,os⟩):
  wpAny (model prog w) A (getAttrBy (.ref x) (.str "__class__" tk) fill expr) Q E ⟨h,g,d,t,os⟩:=by
 have u3:=F.attrBase_ValueError.ga.bind (.ref x);have ex0:(expr&&onTheHeap (Value.builtin "BaseException.__getattribute__"))=false:=by cases expr<;>rfl
 have ex2:(Value.builtin "BaseException.__getattribute__"==Value.builtin "object.__getattribute__")=false:=by decide +kernel
 have ex1:(onTheHeap (Value.ref D)&&Value.builtin "BaseException.__getattribute__"==Value.builtin "object.__getattribute__")=false:=by rw[ex2];rfl
 have L1:=V9 (M:=model prog w) X T.ga;have L2:=V9 (M:=model prog w) X T.gn
 repeat (any_goals (first | assumption | (with_reducible refine VG hx ?_;rw[hc]) | with_reducible refine L1.at ?_ | with_reducible refine L2.at ?_ | wp_step))
 refine Bk X T hx hc ?_
 repeat (any_goals (first | wp_step | assumption))
def sI{Q:Option Value->Shared->Prop}(X:K.In h)(T:XAt K D)(hx:h.get? x=some oe)(hc:oe.cls=.ref D)(hq:Q (some (.ref D)) ⟨h,g,d,t+1,os⟩):
  wpAny (model prog w) A (getAttr? (.ref x) "__class__") Q E ⟨h,g,d,t,os⟩:=by
 unfold getAttr? getAttrBy?;refine Ug (wpAny_mkText (Ug (Wj (HQ X T hx hc ?_))))
 repeat (any_goals (first | wp_step | assumption))
end
set_option tactic.hygienic true in
def IV{K:PySem.W.Frag}{x D:Addr}{oe:Obj}(T:XAt K D)(hc:oe.cls=.ref D):
  PySem.W.KitX K (.ref x) (.ref D) (λh=>h.get? x=some oe) where
 ty:=λy y y I=>Ey I hc
 it:=λy y X y=>by
  have h1:=T.mo;unfold PySem.W.mroIn at h1;obtain⟨cd,a,b⟩:=UT.mp h1;unfold PySem.W.clsIn at a;split at a
  ·rename_i c' d' cd' sl' ho;intro A' Q' E' s' k q;unfold isType loadHead;exact Ug (wpAny_loadPart (k _ _ (X _ _ ho)) (Ui q))
  ·cases a
 ne:=λh tp dd its n sl X htp=>by
  have h1:=T.mo;unfold PySem.W.mroIn at h1;obtain⟨cd,a,b⟩:=UT.mp h1;refine Bool.eq_false_iff.mpr λq=>?_
  cases Value.ref.inj (Wb.mp q);unfold PySem.W.clsIn at a;split at a
  ·rename_i c' d' cd' sl' ho;have z:=(X _ _ ho).symm.trans htp;cases z
  ·cases a
 ca:=λ{_ _ _ _ _ s} X I k=>by obtain⟨h,g,d,t,os⟩:=s;exact sI X T I hc k
def Q4(K:PySem.W.Frag)(y:Addr)(oe:Obj):List V->Hp->VK->Prop:=λxs H Q=>∃(c:V) (cv:Value) (D:Addr) (b:Bool),xs=[.ref y,c]/\RelV c cv/\(cv=.type "ValueError"\/∃C,cv=.ref C)/\oe.cls=.ref D/\XAt K D/\PySem.W.kitOne K (.ref D) cv=some b/\Q (.bl b) H
def RelV.det(r:RelV c u)(q:RelV c v)(h:u=.type "ValueError"\/∃C,u=.ref C):v=u:=by
 cases c with
 |ref a=>cases r;cases q;rfl
 |ty n=>cases r;cases q;rfl
 |non=>cases r;rcases h with h | ⟨C,h⟩<;>cases h
 |bl b=>cases r;rcases h with h | ⟨C,h⟩<;>cases h
 |int i=>obtain⟨t,rfl⟩:=r;rcases h with h | ⟨C,h⟩<;>cases h
 |str i=>obtain⟨t,rfl⟩:=r;rcases h with h | ⟨C,h⟩<;>cases h
 |byt i=>obtain⟨t,rfl⟩:=r;rcases h with h | ⟨C,h⟩<;>cases h
 |flt i=>obtain⟨t,rfl⟩:=r;rcases h with h | ⟨C,h⟩<;>cases h
def DQ(hp:(y,oe)∈X.pn):CallR X (.builtin "isinstance") (Q4 X.K y oe):=by intro YT s σ H xs us Q I r h;obtain⟨c,cv,D,b,rfl,rc,hk,hc,T,e,q⟩:=h;obtain⟨u,w',rfl,r1,r2⟩:=vals2 r;cases r1;have:w'=cv:=RelV.det rc r2 hk;subst this;exact VH (IV T hc) I.kIn (I.pin (y,oe) (Vp _ hp)).1 e (λz=>nomatch z) λtk=>⟨.bl b,H,I.tok _,rfl,q⟩
def Ph(h:X.mg x=some (.ref C))(hg:Gl X x:=by rfl)(hd:(x==("__debug__":Str))=false:=by decide):PE X (.Name x pos) (tC (.ref C)):=pe_glob hg h rfl hd
def pick(js:List Nat)(σ:St):St:=js.map λj=>(σ[j]?).getD none
def yN(u:Un fs ex H H' h0 h)(hs:Heap.SameBut C h h')(hC:h0.objs.size<=C):Un fs ex H H' h0 h' where
 keep b o e n hb hx:=(hs.2 b (Ut (Um (Uk e) hC))).trans (u.keep b o e n hb hx)
 slot b o e n hb hx:=by obtain⟨sl,e1⟩:=u.slot b o e n hb hx;exact⟨sl,(hs.2 b (Ut (Um (Uk e) hC))).trans e1⟩
 free:=u.free
 there b o e hx:=by obtain⟨o',e1⟩:=u.there b o e hx;exact⟨o',(hs.2 b (Ut (Um (Uk e) hC))).trans e1⟩
 tups:=u.tups
 frzs:=u.frzs
 tbls:=u.tbls
def uD(ok:HOk P w H h)(hs:Heap.SameBut C h h')(hC:H C=none):HOk P w H h':=λb ob e=>
 (ok b ob e).stay (λc w' hc q=>(hs.2 c (by
   rintro rfl;rcases hc with hc | hc
   ·rw[<-hc,hC]at e;cases e
   ·rw[hC]at hc;cases hc)).trans q) (λz q=>q) λz z q=>q
structure DefC(P:Program)(w:World)(K:PySem.W.Frag)(mg:Str->Option Value)(base:Heap)(k:Nat)(x:Str)(ps:List Str)(sp:Sp):Prop where
 ex:∃f fd,FnOk P w K mg base (bD P w) k f fd ps sp/\Binds K fd ps []/\PySem.W.keepIn K (.ref f)=true/\mg x=some (.ref f)
section
variable{P:Program}{w:World}{K:PySem.W.Frag}{mg:Str->Option Value}{base:Heap}{k:Nat}{x:Str}{N ps:List Str}{sp:Sp}{st:Stmt}
def Tg(F:Fun K x x st f fd)(S:FnScope N ps (defScope st))(len:∀ vs H Q E,sp vs H Q E->vs.length=ps.length)
  (hbody:∀(cdv:Value) (A:Around) (outer:List Env) (s:Shared) (H:Hp) (vs:List V) (Q:VK) (E:XK),Room k (A.deeper (envOfC x (defScope st) s.heap.objs.size f cdv))->sp vs H Q E->
    ∃t,PSs (aH P w K mg base N x (defScope st) f cdv A outer s H E) (defBody st) t/\t { nx:=λz H'=>Q .non H',rt:=Q } (start N vs) H):FnOk P w K mg base (bD P w) (k+1) f fd ps sp:=by
 obtain⟨oc,od,kV,doc,pm,an,cdv,ct,osl,rfl,l,c⟩:=F.ex;exact fn_of l c S len (hbody cdv)
def DefAt.okE(D:DefAt K mg x st)(S:FnScope N ps (defScope st))(hb:∀ (kV doc pm:Value) (an:Option Addr) (cdv ct:Value) (us:List Value),us.length=ps.length->bindArgs (PySem.W.fnOf x x (defArgs st) (defBody st) (defScope st) .none kV doc pm an cdv ct) ⟨us,[]⟩=pure (ps.zip us))
  (len:∀vs H Q E,sp vs H Q E->vs.length=ps.length)
  (hbody:∀(f:Addr) (cdv:Value) (A:Around) (outer:List Env) (s:Shared) (H:Hp) (vs:List V) (Q:VK) (E:XK),Room k (A.deeper (envOfC x (defScope st) s.heap.objs.size f cdv))->sp vs H Q E->
    ∃t,PSs (aH P w K mg base N x (defScope st) f cdv A outer s H E) (defBody st) t/\t { nx:=λz H'=>Q .non H',rt:=Q } (start N vs) H):DefC P w K mg base (k+1) x ps sp:=by
 obtain⟨f,fd,F,m⟩:=D.ex;exact⟨f,fd,Tg F S len (hbody f),F.binds hb,F.kp,m⟩
end
def tM:Passes (bD P w) X E0:=λz z z z z z z h=>by obtain⟨_,_,_,_,_,_,_,_,_,_,_,_,_,q⟩:=h;exact q.elim
section
variable{X:Cx}{j k:Nat}{ps:List Str}{sp:Sp}{x:Str}{p pos:Pos}{e:Expr}{es:List Expr}{t:TA}{E:XK}
def Ji(D:DefC X.prog X.w X.K X.mg X.base j x ps sp)(hr:Room k X.A)(hx:Passes (bD X.prog X.w) X E)(ha:PA X (e::es) t)(hjk:j<=k:=by decide)(hg:Gl X x:=by rfl)(hdb:(x==("__debug__":Str))=false:=by decide)
  (he:starEach (e::es) X.env=(false,eval e X.env)::starEach es X.env:=by rfl) (hpl:(backTo pos (starEach es X.env)).any (·.1)=false:=by rfl) :
  PE X (.Call (.Name x p) (e::es) [] pos) (tCall sp [] E t):=by
 obtain⟨f,fd,F,b,kp,m⟩:=D.ex;exact pe_call F (hr.mono hjk) hg m kp b .nil hx ha hdb he hpl
end
end L2
namespace HT
open PySem PySem.Spec PyProof.Rows PySem.W
section
variable{prog:Program}{w:World}{A:Around}{E:Value->Shared->Prop}{s:Shared}
def HJ{vs ws:List Value}{Q:Value->Shared->Prop}(ht:IsTup s.heap t vs.toArray)(hb:IsTup s.heap b ws.toArray)(hv:vs=[])
  (h1:Q (.ref b) s):wpAny (model prog w) A (binaryOp .Add (.ref t) (.ref b)) Q E s:=by
 obtain⟨⟨cls,dd,data,sl⟩,ho,hc,n,hd⟩:=id ht;obtain⟨⟨cls2,dd2,data2,sl2⟩,ho2,hc2,n2,hd2⟩:=id hb;simp only at hc hd hc2 hd2;subst hc hd hc2 hd2;exact concat_meets ⟨_,ho,rfl⟩ ⟨_,ho2,rfl⟩ noFill_tuple_add seq_tuple_add Yj Yd (XR _ _)
   (tuple_addW0 t b vs.toArray ws.toArray n n2 dd dd2 sl sl2 (by simp[hv])) ⟨ho,ho2,h1⟩
def pY{items:Array Value}{lo hi:Option Int}{Q:Value->Shared->Prop}(ht:IsTup s.heap t items)(hs:s.heap.IsSliceOf sl vl vu .none)(pl:IsPart vl lo)(pu:IsPart vu hi)
  (hw:sIx items.size 0 lo=0/\sIx items.size items.size hi=items.size) (h:Q (.ref t) s):wpAny (model prog w) A (getItem (.ref t) (.ref sl)) Q E s:=by
 obtain⟨os,hos,hcs,hds⟩:=id hs;obtain⟨ot,hot,hct,nt,hdt⟩:=id ht;have hTs:s.TypeIs (.ref sl) "slice":=⟨os,hos,hcs⟩;have hTt:s.TypeIs (.ref t) "tuple":=⟨ot,hot,hct⟩;unfold getItem
 try with_reducible refine Vw ?_
 first | refine Ug (Ui ?_) | skip
 refine Ug (wpAny_sequenceKey ht.typeIs (by decide) ?_)
 refine Ug (Vb (name:=Str.ofString "__getitem__") ht.typeIs Wn
  (Vg Wn ht.typeIs entry_tuple_getitem ?_ (args_tuple_getitem _ _)))
 show wpAny _ _ (Builtin.Tuple.tupleItemsOf (.ref t)>>=_) _ _ s;refine Ug (tupleItemsOf_ ht ?_);refine Ug (X7 hTs ?_);rw[Uv (by decide)]
 refine Ug (sliceApplied_gen hs pl pu ?_);have hno:((((sIx items.size 0 lo:Nat):Int)==0&&(1:Int)==1&&(sIx items.size items.size hi-sIx items.size 0 lo)==items.size)=true):=by rw[hw.1,hw.2];simp
 show wpAny _ _ (if (((sIx items.size 0 lo:Nat):Int)==0&&(1:Int)==1&&(sIx items.size items.size hi-sIx items.size 0 lo)==items.size)=true then _ else _) _ _ s
 rw[Uv hno];unfold Builtin.Tuple.tupleIsExact;refine Ug ?_;refine Ug (X7 hTt (Ui ?_));rw[Uv (by decide)]
 exact Ug (Wk (Ui ⟨_,rfl,Ui h⟩))
end
end HT
namespace L2
open PySem PySem.Spec PyProof.Rows
section
variable{X:Cx}
def HY{xs:List V}{lo hi:Option Int}(h:HT.sIx xs.length 0 lo=0/\HT.sIx xs.length xs.length hi=xs.length):cutV xs lo hi=xs:=by unfold cutV;rw[h.1,h.2];simp
def R8:V->Option Int->Option Int->Hp->VK->Prop:=λx lo hi H Q=>∃a xs,x=.ref a/\H a=some (.tup xs)/\∀p H',Same H H'->H' p=some (.tup (cutV xs lo hi))->Q (.ref p) H'
def Mi:SlR X R8:=by
 intro YT s σ H x v vl vu lo hi sl Q I rx hs pl pu h;obtain⟨a,xs,rfl,hx,q⟩:=h;by_cases hw:HT.sIx xs.length 0 lo=0/\HT.sIx xs.length xs.length hi=xs.length
 ·cases rx;obtain⟨its,r,ht,hz⟩:=I.tuple (SqT.of hx);have hlen:its.toArray.size=xs.length:=by rw[Uy];exact r.length.symm
  refine⟨"tuple",_,PyProof.Rows.slot_tuple_getitem.lookup,ht.typeIs,?_⟩;refine HT.pY ht hs pl pu (by rw[hlen];exact hw) ⟨.ref a,H,I,rfl,q a H (Same.refl _) (by rw[HY hw];exact hx)⟩
 ·exact sl_tup (X:=X) YT s σ H _ v vl vu lo hi sl Q I rx hs pl pu ⟨a,xs,rfl,SqT.of hx,hw,λp hp=>q p _ (same_new hp _) upd_same⟩
def Q3:R2:=λx y H Q=>∃a b xs ys,x=.ref a/\y=.ref b/\H a=some (.tup xs)/\H b=some (.tup ys)/\xs.length+ys.length<=sizeLine/\∀p H',Same H H'->H' p=some (.tup (xs++ys))->Q (.ref p) H'
def Li:OpR X (binaryOp .Add) Q3:=by
 intro YT s σ H x y v u Q I rx ry h;obtain⟨a,b,xs,ys,rfl,rfl,ha,hb,hz,q⟩:=h;by_cases hx:xs=[]
 ·cases rx;cases ry;obtain⟨its,r1,p1,_⟩:=I.tuple (SqT.of ha);obtain⟨its2,r2,p2,_⟩:=I.tuple (SqT.of hb);exact HT.HJ p1 p2 (r1.nil_iff.mpr hx) ⟨.ref b,H,I,rfl,q b H (Same.refl _) (by rw[hx,List.nil_append];exact hb)⟩
 ·exact op_catT (X:=X) YT s σ H _ _ v u Q I rx ry ⟨a,b,xs,ys,rfl,rfl,SqT.of ha,SqT.of hb,hx,hz,λe=>q a H (Same.refl _) (by rw[e,V6];exact ha),λz p hp=>q p _ (same_new hp _) upd_same⟩
end
mutual
inductive RepF(H:Hp):Bool->V->PyData->Prop
 |non {f:Bool}:RepF H f .non .none
 |bl {f:Bool} (b:Bool):RepF H f (.bl b) (.bool b)
 |int {f:Bool} (i:Int):RepF H f (.int i) (.int i)
 |str {f:Bool} (x:Str):RepF H f (.str x) (.str x)
 |lst {f:Bool}{a:Addr}{xs:List V}{ds:List PyData}:H a=some (.lst xs)->RepsF H f xs ds->RepF H f (.ref a) (.list ds)
 |tup {f:Bool}{a:Addr}{xs:List V}{ds:List PyData}:H a=some (.tup xs)->RepsF H f xs ds->RepF H f (.ref a) (.tuple ds)
 |d0 {a:Addr}:H a=some (.dK [])->RepF H false (.ref a) (.dict [])
 |d1 {a:Addr}{i j:Int}:H a=some (.dK [(.inl i,.int j)])->RepF H false (.ref a) (.dict [(.int i,.int j)])
inductive RepsF(H:Hp):Bool->List V->List PyData->Prop
 |nil {f:Bool}:RepsF H f [] []
 |cons {f:Bool}{v:V}{d:PyData}{vs:List V}{ds:List PyData}:RepF H f v d->RepsF H f vs ds->RepsF H f (v::vs) (d::ds)
end
section
variable{X:Cx}{YT:List (Addr×Obj)}{σ:St}{H:Hp}{s:Shared}
def K9{P:Program}{w:World}{i:Int}{v:Value}(h:(mixKind P w).is (.inl i) v=true):∃ t,v=.int i t:=by
 cases v with
 | int a t=>
   have e:decide (i=a)=true\/decide (a=i)=true\/(a==i)=true\/(i==a)=true:=by
    first | exact .inl h | exact .inr (.inl h) | exact .inr (.inr (.inl h)) | exact .inr (.inr (.inr h))
   have:a=i:=by rcases e with e | e | e | e<;>simp at e<;>lia
   exact⟨t,by rw[this]⟩
 |_=>first | cases h | (simp[mixKind]at h)
def Ci(I:Inv X YT σ H s){a:Addr}(h:H a=some (.dK [])):∃as,Reads s.heap (.ref a) (.dict []) as/\sysModules∉as:=by
 obtain⟨_,hd,vs,r0,⟨o,es,ep,h1,h2,h3,h4,h5,h6⟩⟩:([]:List (Key×V)).length<=sizeLine/\(a==sysModules)=false/\∃vs,KV [] vs/\s.heap.DictOf (mixKind X.prog X.w) a vs:=I.hok a _ h;cases r0;have he:es.toList=[]:=by cases hx:es.toList with
  |nil=>rfl
  |cons e es'=>rw[hx]at h5;cases h5
 refine⟨_,.dict (kvs:=[]) h1 h2.1 h3 (by rw[he];exact .nil) (by rw[he];exact .nil),?_⟩
 simp only[List.append_nil,List.mem_singleton];exact λz=>(Wu.mp hd) z.symm
set_option tactic.hygienic true in
def Cj(I:Inv X YT σ H s){a:Addr}{i j:Int}(h:H a=some (.dK [(.inl i,.int j)])):∃ as,Reads s.heap (.ref a) (.dict [(.int i,.int j)]) as/\sysModules∉as:=by
 obtain⟨_,hd,vs,r0,⟨o,es,ep,h1,h2,h3,h4,h5,h6⟩⟩:([(Sum.inl i,V.int j)]:List (Key×V)).length<=sizeLine/\(a==sysModules)=false/\∃vs,KV [(Sum.inl i,V.int j)] vs/\s.heap.DictOf (mixKind X.prog X.w) a vs:=I.hok a _ h;cases r0 with
 | @cons p q ps qs hq t=>
   cases t;obtain⟨e1,tv,e2⟩:=hq;obtain⟨q1,q2⟩:=q;dsimp only at e1 e2;subst e1 e2;generalize hx:es.toList=el at h5;cases h5 with
   |cons g1 g2 g3=>
     cases g3;rename_i e;obtain⟨tk,ek⟩:=K9 g1;dsimp only at g2;refine⟨_,.dict (kvs:=[(.int i,.int j)]) h1 h2.1 h3 (as:=[]++[]) (bs:=[]++[]) (by rw[hx];exact .cons (by show Reads _ e.key _ _;rw[ek];exact .int i tk) .nil) (by rw[hx];exact .cons (by show Reads _ e.val _ _;rw[g2];exact .int j tv) .nil),?_⟩
     simp only[List.append_nil,List.mem_singleton];exact λz=>(Wu.mp hd) z.symm
def RepsF.reads(I:Inv X YT σ H s){f:Bool}{vs:List V}{ds:List PyData}{us:List Value}(h:RepsF H f vs ds):Vals vs us->∃ as,ReadsAll s.heap us ds as:=
 RepsF.rec (motive_1:=λf v d z=>∀ u,RelV v u->∃ as,Reads s.heap u d as) (motive_2:=λf vs ds z=>∀ us,Vals vs us->∃ as,ReadsAll s.heap us ds as)
  (λu r=>by cases r;exact⟨_,.none⟩)
  (λb u r=>by cases r;exact⟨_,.bool b⟩)
  (λi u r=>by obtain⟨t,rfl⟩:=r;exact⟨_,.int i t⟩)
  (λi u r=>by obtain⟨t,rfl⟩:=r;exact⟨_,.str i t⟩)
  (λh hs ih u r=>by cases r;obtain⟨its,rv,⟨o,n,h1,h2,_,h3⟩,_⟩:=I.list (SqL.of h);obtain⟨as,ra⟩:=ih _ rv;exact⟨_,.list h1 h2 h3 ra⟩)
  (λh hs ih u r=>by cases r;obtain⟨its,rv,⟨o,h1,h2,n,h3⟩,_⟩:=I.tuple (SqT.of h);obtain⟨as,ra⟩:=ih _ rv;exact⟨_,.tuple h1 h2 h3 ra⟩)
  (λh u r=>by cases r;obtain⟨as,ra,_⟩:=Ci I h;exact⟨as,ra⟩)
  (λh u r=>by cases r;obtain⟨as,ra,_⟩:=Cj I h;exact⟨as,ra⟩)
  (λu r=>by cases r;exact⟨_,.nil⟩)
  (λh hs i1 i2 u r=>by
    cases r with
    |cons r1 r2=>obtain⟨a1,e1⟩:=i1 _ r1;obtain⟨a2,e2⟩:=i2 _ r2;exact⟨_,.cons e1 e2⟩)
  h us
def ww{a:Addr}{d:PyData}{as bs:List Addr}{n:Nat}(r:Reads s.heap (.ref a) d as)(hd:d.depth=n+1)(hb:ReadAtMost s.heap n bs):a∉bs/\ReadAtMost s.heap d.depth (a::bs):=
 ⟨not_mem_of_deeper r (by lia) hb,hd ▸ ReadAtMost.cons r (by lia) hb⟩
def RepsF.k(I:Inv X YT σ H s){f:Bool}{vs:List V}{ds:List PyData}{us:List Value}(h:RepsF H f vs ds):Vals vs us->PyData.showableAll ds=true->(∀ t∈PyData.shownAll ds,t.length<=sizeLine)->∃ bs,ReadAtMost s.heap (PyData.depthAll ds) bs/\ReprAllK X.prog X.w bs s.heap (PyData.depthAll ds) us (PyData.shownAll ds):=
 RepsF.rec (motive_1:=λf v d q=>∀ u,RelV v u->d.showable=true->d.shown.length<=sizeLine->∃ bs,ReadAtMost s.heap d.depth bs/\ReprK X.prog X.w bs s.heap d.depth u d.shown) (motive_2:=λf vs ds q=>∀ us,Vals vs us->PyData.showableAll ds=true->(∀ t∈PyData.shownAll ds,t.length<=sizeLine)->∃ bs,ReadAtMost s.heap (PyData.depthAll ds) bs/\ReprAllK X.prog X.w bs s.heap (PyData.depthAll ds) us (PyData.shownAll ds))
  (λu r hs hz=>by cases r;exact Xe .none hs (λz=>by simp[PyData.hasDict]at z) hz)
  (λb u r hs hz=>by cases r;exact Xe (.bool b) hs (λz=>by simp[PyData.hasDict]at z) hz)
  (λi u r hs hz=>by obtain⟨t,rfl⟩:=r;exact Xe (.int i t) hs (λz=>by simp[PyData.hasDict]at z) hz)
  (λi u r hs hz=>by obtain⟨t,rfl⟩:=r;exact Xe (.str i t) hs (λz=>by simp[PyData.hasDict]at z) hz)
  (λ{_ _ _ xs} h hs ih u r hs' hz=>by
    cases r;obtain⟨its,rv,⟨o,n,h1,h2,_,h3⟩,_⟩:=I.list (SqL.of h);obtain⟨as,ra⟩:=RepsF.reads I hs rv;have hz':(listText (PyData.shownAll xs)).length<=sizeLine:=by simpa only[PyData.shown] using hz
    obtain⟨bs,hb,hk⟩:=ih _ rv (by simpa only[PyData.showable] using hs') λt ht=>UL (listText_mem_le ht) hz'
    obtain⟨hn,hc⟩:=ww (.list h1 h2 h3 ra) (by simp only[PyData.depth]) hb
    refine⟨_,hc,?_⟩;simp only[PyData.depth,PyData.shown];cases its with
    |nil=>cases ra;simp only[PyData.shownAll,listText_nil];exact ReprK.listEmpty h1 h2 h3
    |cons x l=>exact ReprK.list h1 h2 h3 hn (by simpa using hk.length_eq) λi y e=>hk.item i y (by simpa using e))
  (λ{_ _ _ xs} h hs ih u r hs' hz=>by
    cases r;obtain⟨its,rv,⟨o,h1,h2,n,h3⟩,_⟩:=I.tuple (SqT.of h);obtain⟨as,ra⟩:=RepsF.reads I hs rv;have hz':(tupleText (PyData.shownAll xs)).length<=sizeLine:=by simpa only[PyData.shown] using hz
    obtain⟨bs,hb,hk⟩:=ih _ rv (by simpa only[PyData.showable] using hs') λt ht=>UL (tupleText_mem_le ht) hz'
    obtain⟨hn,hc⟩:=ww (.tuple h1 h2 h3 ra) (by simp only[PyData.depth]) hb
    refine⟨_,hc,?_⟩;simp only[PyData.depth,PyData.shown];exact ReprK.tuple h1 h2 h3 hn hk)
  (λh u r hs hz=>by cases r;obtain⟨as,ra,n⟩:=Ci I h;exact Xe ra hs (λq=>n) hz)
  (λh u r hs hz=>by cases r;obtain⟨as,ra,n⟩:=Cj I h;exact Xe ra hs (λq=>n) hz)
  (λus r q q=>by cases r;exact⟨[],(λq h=>nomatch h),by simp only[PyData.shownAll];exact .nil⟩)
  (λ{_ _ d _ ds} h hs i1 i2 us r hs' hz=>by
    cases r with
    |cons r1 r2=>
      have hh:d.showable=true/\PyData.showableAll ds=true:=by simpa[PyData.showableAll] using hs'
      obtain⟨b1,q1,k1⟩:=i1 _ r1 hh.1 (hz _ (by simp only[PyData.shownAll];exact .head _))
      obtain⟨b2,q2,k2⟩:=i2 _ r2 hh.2 λt ht=>hz t (by simp only[PyData.shownAll];exact .tail _ ht)
      simp only[PyData.depthAll,PyData.shownAll];exact⟨b1++b2,(q1.mono (Nat.le_max_left _ _)).append (q2.mono (Nat.le_max_right _ _)),.cons ((k1.more λb hb=>Vp _ hb).level_le (Nat.le_max_left _ _)) (k2.more_le (λb hb=>UJ _ hb) (Nat.le_max_right _ _))⟩)
  h us
end
def RepF.toRep{K:PySem.W.Frag}{H:Hp}{v:V}{d:PyData}(h:RepF H true v d):Rep K H v d:=
 RepF.rec (motive_1:=λf v d z=>f=true->Rep K H v d) (motive_2:=λf vs ds z=>f=true->Reps K H vs ds) (λz=>.non) (λb z=>.bl b) (λb z=>.int b) (λb z=>.str b) (λh z i e=>.lst (SqL.of h) (i e)) (λh z i e=>.tup (SqT.of h) (i e)) (λz e=>nomatch e) (λz e=>nomatch e) (λz=>.nil) (λz z i j e=>.cons (i e) (j e)) h rfl
mutual
def cX:PyData->Nat
 |.none | .bool _=>5
 |.int _=>1921
 |.str x=>(reprText x).length
 |.list xs | .tuple xs=>fL xs+3
 |.dict _=>8000
def fL:List PyData->Nat
 |[]=>0
 |x::xs=>cX x+2+fL xs
end
theorem iC:∀xs:List PyData,(PyData.shownAll xs).length=xs.length
 |[]=>by simp only[PyData.shownAll,List.length_nil]
 |x::xs=>by simp only[PyData.shownAll,List.length_cons,iC xs]
def Cy{H:Hp}{f:Bool}{v:V}{d:PyData}(h:RepF H f v d):d.showable=true->d.shown.length<=cX d:=
 RepF.rec (motive_1:=λz z d z=>d.showable=true->d.shown.length<=cX d) (motive_2:=λz z xs z=>PyData.showableAll xs=true->((PyData.shownAll xs).map (·.length)).sum + 2 * xs.length<=fL xs)
  (λz=>by simp only[PyData.shown,cX];decide +kernel)
  (λb z=>by cases b<;>simp only[PyData.shown,cX]<;>decide +kernel)
  (λi h=>by
    have h':i.natAbs.log2<1920:=by simpa[PyData.showable] using h
    simp only[PyData.shown,cX];exact int_text_len_1921 h')
  (λx z=>by simp only[PyData.shown,cX];exact Ur _)
  (λ{_ _ _ xs} _ hs ih h=>by
    have:=ih (by simpa only[PyData.showable] using h)
    have l:=listText_len_le (PyData.shownAll xs);rw[iC]at l;simp only[PyData.shown,cX]
    lia)
  (λ{_ _ _ xs} _ hs ih h=>by
    have:=ih (by simpa only[PyData.showable] using h)
    have l:=tupleText_len_le (PyData.shownAll xs);rw[iC]at l;simp only[PyData.shown,cX]
    lia)
  (λz z=>by simp only[PyData.shown,PyData.shownKv,cX];decide +kernel)
  (λ{_ i j} _ h=>by
    have h':i.natAbs.log2<1920/\j.natAbs.log2<1920:=by simpa[PyData.showable,PyData.showableKv] using h
    have l1:=int_text_len_1921 h'.1;have l2:=int_text_len_1921 h'.2;have l:=dictText_len_le (PyData.shownKv [(.int i,.int j)]);simp only[PyData.shown,cX];refine UL l ?_;simp only[PyData.shownKv,PyData.shown,List.map_cons,List.map_nil,List.sum_cons,List.sum_nil,List.length_cons,List.length_nil,strLen_append];have l3:(Str.ofString ": ").length=2:=by decide +kernel
    have l3':(": ":Str).length=2:=by decide +kernel
    lia)
  (λz=>by simp only[PyData.shownAll,List.map_nil,List.sum_nil,List.length_nil,fL];lia)
  (λ{_ _ x _ xs} hx hs i1 i2 h=>by
    have h':x.showable=true/\PyData.showableAll xs=true:=by simpa[PyData.showableAll] using h
    have a:=i1 h'.1;have b:=i2 h'.2;simp only[PyData.shownAll,List.map_cons,List.sum_cons,List.length_cons,fL]
    lia)
  h
section
variable{X:Cx}
def Pz:List V->Hp->VK->Prop:=λxs H Q=>∃f v d,xs=[v]/\RepF H f v d/\d.showable=true/\d.depth<=60/\cX d<=sizeLine/\Q (.str d.shown) H
def Bj(hg:X.A.guards=some [])(hu:X.A.units + 64<cLine):CallR X (.builtin "repr") Pz:=by
 intro YT s σ H xs us Q I r h;obtain⟨f,v,d,rfl,rd,ho,hd,hz,q⟩:=h;have hz':=UL (Cy rd ho) hz;obtain⟨u,rfl,ru⟩:=vals1 r;cases rd with
 |non=>cases ru;exact P.repr_of_none ⟨.str _,H,I.tok _,⟨_,rfl⟩,(by simpa only[PyData.shown] using q)⟩
 |bl b=>cases ru;exact P.repr_of_bool ⟨.str _,H,I.tok _,⟨_,rfl⟩,(by simpa only[PyData.shown] using q)⟩
 |int i=>obtain⟨t,rfl⟩:=ru;exact P.repr_of_int (by simpa[PyData.showable] using ho) ⟨.str _,H,I.tok _,⟨_,rfl⟩,(by simpa only[PyData.shown] using q)⟩
 |str x=>obtain⟨t,rfl⟩:=ru;exact P.repr_of_str ⟨.str _,H,I.tok _,⟨_,rfl⟩,(by simpa only[PyData.shown] using q)⟩ (by simpa only[PyData.shown] using hz')
 | lst h hs=>
   cases ru;obtain⟨its,rv,⟨o,n,h1,h2,_,h3⟩,_⟩:=I.list (SqL.of h);obtain⟨as,ra⟩:=RepsF.reads I hs rv;simp only[PyData.shown]at hz' q;obtain⟨bs,hb,hk⟩:=RepsF.k I hs rv (by simpa only[PyData.showable] using ho) λt ht=>UL (listText_mem_le ht) hz'
   simp only[PyData.depth]at hd;refine call_repr_slot (by lia) ⟨_,h1,h2⟩ F.slot_list_repr.toG ?_
   cases its with
   |nil=>cases ra;simp only[PyData.shownAll,listText_nil]at q;exact call_list_repr_empty ⟨o,h1,h2⟩ h1 h3 ⟨_,_,rfl,.str _,H,I.kept λz z e=>e,⟨_,rfl⟩,q⟩
   |cons x l=>exact call_list_reprK h1 h2 h3 (ww (.list h1 h2 h3 ra) (by simp only[PyData.depth]) hb).1 (by simpa using hk.length_eq) (λi y e=>hk.item i y (by simpa using e)) hg (λb z=>Clear.nil b) (by show X.A.units+1+_<_;lia) (λz z e=>e) (λh' u tk hk=>⟨_,_,rfl,.str _,H,I.kept hk,⟨_,rfl⟩,q⟩) hz'
 |tup h hs=>
   cases ru;obtain⟨its,rv,⟨o,h1,h2,n,h3⟩,_⟩:=I.tuple (SqT.of h);obtain⟨as,ra⟩:=RepsF.reads I hs rv;simp only[PyData.shown]at hz' q;obtain⟨bs,hb,hk⟩:=RepsF.k I hs rv (by simpa only[PyData.showable] using ho) λt ht=>UL (tupleText_mem_le ht) hz'
   simp only[PyData.depth]at hd;refine call_repr_slot (by lia) ⟨_,h1,h2⟩ F.slot_tuple_repr ?_
   exact call_tuple_reprK h1 h2 h3 (ww (.tuple h1 h2 h3 ra) (by simp only[PyData.depth]) hb).1 hk hg (λb z=>Clear.nil b) (by show X.A.units+1+_<_;lia) (λz z e=>e) (λh' u tk hk=>⟨_,_,rfl,.str _,H,I.kept hk,⟨_,rfl⟩,q⟩) hz'
 |d0 h=>obtain⟨as,ra,nn⟩:=Ci I h;cases ru;exact repr_of_reads' ra ho (λz=>nn) hg (by lia) (λz z e=>e) (λh' u tk hk=>⟨.str _,H,I.kept hk,⟨_,rfl⟩,q⟩) hz'
 |d1 h=>obtain⟨as,ra,nn⟩:=Cj I h;cases ru;exact repr_of_reads' ra ho (λz=>nn) hg (by lia) (λz z e=>e) (λh' u tk hk=>⟨.str _,H,I.kept hk,⟨_,rfl⟩,q⟩) hz'
end
def R6(hc:CallR X (.type T) r)(hm:X.mg x=none)(ha:PA X (e::es) t)(hg:Gl X x:=by rfl)(hv:bootBuiltins x=some (.type T):=by decide +kernel)(hn:x≠"__name__":=by decide)(hdb:(x==("__debug__":Str))=false:=by decide)
  (he:starEach (e::es) X.env=(false,eval e X.env)::starEach es X.env:=by rfl) (hpl:(backTo pos (starEach es X.env)).any (·.1)=false:=by rfl) :
  PE X (.Call (.Name x p) (e::es) [] pos) (tCB r t):=pe_callTy hc hg hm hv ha hn hdb he hpl
def notStar:Expr->Bool
 |.Starred _ _=>false
 |_=>true
def bu(h:notStar e=true):starEach (e::es) env=(false,eval e env)::starEach es env:=by cases e<;>first | rfl | cases h
def Pb(ha:PE X e te)(hr:PA X es t)(hs:notStar e=true:=by rfl):PA X (e::es) (tCons te t):=pa_cons ha hr (bu hs)
structure QI(X:Cx)(tg l:Expr)(wi:TI):Prop where
 h:PI X tg l wi
structure QA(X:Cx)(es:List Expr)(t:TA):Prop where
 h:PA X es t
def Py:QA X [] tNil:=⟨pa_nil⟩
def R7(ha:PE X e te)(hr:QA X es t)(hs:notStar e=true:=by rfl):QA X (e::es) (tCons te t):=⟨Pb ha hr.h hs⟩
section
variable{X:Cx}{j k:Nat}{ps:List Str}{sp:Sp}{x:Str}{p pos:Pos}{e:Expr}{es:List Expr}{t:TA}{E:XK}
def Lp{x1}(h:QA X es t):PE X (.Tuple es x1 pos) (tTup t):=pe_tup h.h
def zO(h:QA X es t):PE X (.List es pos) (tLst t):=pe_lst h.h
def Gs(D:DefC X.prog X.w X.K X.mg X.base j x ps sp)(hr:Room k X.A)(hx:Passes (bD X.prog X.w) X E)(ha:QA X (e::es) t)(hjk:j<=k:=by decide)(hg:Gl X x:=by rfl)(hdb:(x==("__debug__":Str))=false:=by decide)
  (he:notStar e=true:=by rfl) (hpl:(backTo pos (starEach es X.env)).any (·.1)=false:=by rfl) :
  PE X (.Call (.Name x p) (e::es) [] pos) (tCall sp [] E t):=Ji D hr hx ha.h hjk hg hdb (bu he) hpl
def QW{id:String}{r:List V->Hp->VK->Prop}(hc:CallR X (.builtin id) r)(hm:X.mg x=none)(ha:QA X (e::es) t)(hg:Gl X x:=by rfl)(hv:bootBuiltins x=some (.builtin id):=by decide +kernel)(hn:x≠"__name__":=by decide)(hdb:(x==("__debug__":Str))=false:=by decide)
  (he:notStar e=true:=by rfl) (hpl:(backTo pos (starEach es X.env)).any (·.1)=false:=by rfl) :
  PE X (.Call (.Name x p) (e::es) [] pos) (tCB r t):=R5 hc hm ha.h hg hv hn hdb (bu he) hpl
def QZ(hc:CallR X (.type T) r)(hm:X.mg x=none)(ha:QA X (e::es) t)(hg:Gl X x:=by rfl)(hv:bootBuiltins x=some (.type T):=by decide +kernel)(hn:x≠"__name__":=by decide)(hdb:(x==("__debug__":Str))=false:=by decide)
  (he:notStar e=true:=by rfl) (hpl:(backTo pos (starEach es X.env)).any (·.1)=false:=by rfl) :
  PE X (.Call (.Name x p) (e::es) [] pos) (tCB r t):=R6 hc hm ha.h hg hv hn hdb (bu he) hpl
def Pg{T name id:String}{r:V->List V->Hp->VK->Prop}{o:Expr}{to:TE}{apos cpos:Pos}(pa:PlainAttrs T)(slot:Slot T name id)(hty:typeOf (.builtin id)=pure (.type "method_descriptor"))(hm:MtR X id r)(ho:PE X o to)(ha:QA X (e::es) t)
  (hbase:attributeBase o name X.env (eval o X.env)=eval o X.env:=by rfl)
  (hfew:((backTo cpos (starEach (e::es) X.env)).all (fun x=>!x.1)&&(backToKw cpos (keywordEach [] X.env)).all (fun x=>x.1.isSome)
   &&decide ((e::es).length+([]:List Keyword).length+(if ([]:List Keyword).isEmpty then 0 else 1)<30))=true:=by rfl)
  (hline:(apos.endLine==cpos.line)=true:=by rfl) (hs:notStar e=true:=by rfl) (hplain:(backTo cpos (starEach es X.env)).any (·.1)=false:=by rfl) :
  PE X (.Call (.Attribute o name apos) (e::es) [] cpos) (tBM X.K T r to t):=pe_bm pa slot hty hm ho ha.h hbase hfew hline (bu hs) hplain
def Ca(hg:Gl X "range")(hm:X.mg "range"=none)(ha:QA X [a] ta)(hs:notStar a=true:=by rfl):QI X tg (.Call (.Name "range" p) [a] [] pos) (iRng1 ta):=⟨pi_range1 hg hm ha.h (bu hs)⟩
end
open Classical in
noncomputable def hid(L:Addr->Prop)(H:Hp):Hp:=λb=>if L b then none else H b
def wI{α:Type}(P:α->Prop):List α->Prop
 |[]=>True
 |a::l=>P a/\wI P l
theorem lN:∀ {l:List α},wI P l->∀ a∈l,P a
 |[],_,_,h=>nomatch h
 |b::l,h,a,hm=>by
   rcases Uw.mp hm with rfl | hm
   ·exact h.1
   ·exact lN h.2 a hm
set_option tactic.hygienic true in
theorem mem_of_lookup:∀ {l:List (Str×β)},l.lookup y=some c->(y,c)∈l
 |[],h=>by cases h
 | (z,d)::l,h=>by
   rw[V0]at h;split at h
   ·rename_i e;have e':y=z:=by simpa using e
    cases h;rw[e'];exact UW ..
   ·exact Vj _ (mem_of_lookup h)
def jF{cl cells:List (Str×Addr)}(h:wI (λp=>cells.lookup p.1=some p.2) cl):∀y c,cl.lookup y=some c->cells.lookup y=some c:=λy c e=>lN h (y,c) (mem_of_lookup e)
def Iz:NameKind->Bool
 |.cell | .free=>true
 |_=>false
def jh{names:List (Str×NameKind)}{cl:List (Str×Addr)}(h:(names.all λp=>!Iz p.2 || (cl.lookup p.1).isSome)=true):∀y,(names.lookup y=some .cell\/names.lookup y=some .free)->∃c,cl.lookup y=some c:=λy e=>by
 have hh:=Xj.mp h;rcases e with e | e
 ·have:=hh _ (mem_of_lookup e);simp only[Iz,Bool.not_true,Bool.false_or]at this;exact W0.mp this
 ·have:=hh _ (mem_of_lookup e);simp only[Iz,Bool.not_true,Bool.false_or]at this;exact W0.mp this
def jg{js:List Nat}{fr:List Str}{P:Nat->Str->Prop}(h:wI (λp:Nat×Str=>P p.1 p.2) (js.zip fr)):∀(k j:Nat) (y:Str),js[k]?=some j->fr[k]?=some y->P j y:=λk j y h1 h2=>by refine lN h (j,y) (Xh.mpr ⟨k,?_⟩);rw[List.getElem?_zip_eq_some];exact⟨h1,h2⟩
section
variable{X:Cx}
def Il:entryFor table "tuple_iterator.__iter__"=some Builtin.«dict_keyiterator.__iter__»:=
 entryFor_alias (id' := "dict_keyiterator.__iter__") (by kernel_rfl) rfl (by decide +kernel) (by kernel_rfl)
def uH(hit:IsTupIter s.heap it t i)(h:Q (.ref it) s):
  wpAny (model prog w) A (pyIter (.ref it)) Q E s:=by
 refine YD hit.typeIs F.slot_tuple_iterator_iter (Vg F.slot_tuple_iterator_iter hit.typeIs Il ?_ (F.args_tuple_iterator_iter_1 _));show wpAny _ _ (ret (.ref it)) _ _ s;exact Ui ⟨_,rfl, "tuple_iterator",_,hit.typeIs,slot_tupleiter_next.lookup,h⟩
def Ht(hh:A.handled=none)(I ax:Addr)(hne:ax≠I)(items:Array Value):
  Walks prog w A I [I,ax] [I] items.size (λi v=>items[i]?=some v) (λi h=>IsTupIter h I ax i/\IsTup h ax items) where
 sub:=λb hb=>by simp at hb;simp[hb]
 frame:=λi h h' st hk=>by obtain⟨⟨o,e1,e2⟩,⟨o',f1,f2⟩⟩:=st;exact⟨⟨o,hk I (by simp) o e1,e2⟩,⟨o',hk ax (by simp) o' f1,f2⟩⟩
 item:=λi s Q E hi st hQ=>by
  refine next_tuple_item st.1 st.2 (x:=items[i]) (by simp[hi]) λh' hit' hs'=>?_
  exact hQ _ h' s.toks (by simp[hi]) ⟨hit',st.2.extBut hs'.extBut hne⟩ λb o hb e=>hs'.extBut b o (λh=>hb (by simp[h])) e
 done:=λs Q E st hQ=>next_tuple_end hh st.1 st.2 (by simp) λh' he'=>hQ h' s.toks λb o hb e=>he' b o (λh=>hb (by simp[h])) e
 self:=λz z z z st hQ=>uH st.1 hQ
def gh:V->Bool
 |.bl b=>b
 |.int i=>i != 0
 |_=>false
def scS:V->Bool
 |.bl _=>true
 |.int _=>true
 |_=>false
def Hq(h:scS v=true)(r:RelV v u)(q:Q (gh v) s):wpAny (model prog w) A (truthy u) Q E s:=by
 cases v with
 |bl b=>cases r;exact Wd q
 |int i=>obtain⟨t,rfl⟩:=r;exact PyProof.Rows.truthy_int q
 |_=>cases h
def range_all{xs:List V}{tr:Nat->Bool}(h:∀(i:Nat) (x:V),xs[i]?=some x->tr i=gh x):(List.range xs.length).all tr=xs.all gh:=by
 rw[Va,Xj,Xj];constructor
 ·intro q x hx;obtain⟨i,hi,e⟩:=Wr.mp hx;have:=q i (Vv.mpr hi);rw[h i x (by rw[Uq hi,e])]at this
  exact this
 ·intro q i hi;have hi':=Vv.mp hi;rw[h i xs[i] (Uq hi')];exact q _ (V7 hi')
def range_any{xs:List V}{tr:Nat->Bool}(h:∀(i:Nat) (x:V),xs[i]?=some x->tr i=gh x):(List.range xs.length).any tr=xs.any gh:=by
 rw[Va,Xm,Xm];constructor
 ·rintro⟨i,hi,e⟩;have hi':=Vv.mp hi;rw[h i xs[i] (Uq hi')]at e;exact⟨_,V7 hi',e⟩
 ·rintro⟨x,hx,e⟩;obtain⟨i,hi,ex⟩:=Wr.mp hx;refine⟨i,Vv.mpr hi,?_⟩;rw[h i x (by rw[Uq hi,ex])]
  exact e
def Ka{xs:List V}{its:List Value}(rv:Vals xs its)(hs:∀x∈xs,scS x=true):TruthOf prog w A (λi v=>its.toArray[i]?=some v) (λi=>gh (xs[i]?.getD .non)):=by
 intro i v s Q E hP hQ;have e:its[i]?=some v:=by simpa using hP
 have hl:=rv.length;have hi:i<xs.length:=by rw[hl];exact (Uj.mp e).1
 obtain⟨u,e2,r⟩:=rv.get (Uq hi);rw[e]at e2;cases e2;refine Hq (hs _ (V7 hi)) r ?_;have hQ':Q (gh (xs[i]?.getD V.non)) s:=hQ;rw[Uq hi]at hQ';exact hQ'
def HD(hh:X.A.handled=none):CallR X (.builtin "all") (λvs H Q=>∃l xs,vs=[.ref l]/\H l=some (.lst xs)/\(∀x∈xs,scS x=true)/\Q (.bl (xs.all gh)) H):=by
 intro YT s σ H vs us Q I r h;obtain⟨l,xs,rfl,hH,hs,q⟩:=h;obtain⟨u,rfl,ru⟩:=vals1 r;cases ru;obtain⟨its,rv,p,hz⟩:=I.list (SqL.of (K:=X.K) hH);have hl:l<s.heap.objs.size:=by obtain⟨o,n,e,_⟩:=p;exact Uk e
 refine call_all_walk (We p.isList ?_);refine⟨s.heap.objs.size,[s.heap.objs.size,l],[s.heap.objs.size],its.toArray.size,λi v=>its.toArray[i]?=some v,λi h=>h.IsListIter s.heap.objs.size l i/\h.IsList l its.toArray,λi=>gh (xs[i]?.getD .non),rfl,Walks.list (A:=X.A.in1) hh s.heap.objs.size l (Ut hl) its.toArray,⟨⟨_,Ul _ rfl,rfl,rfl⟩,p.isList.at λo e=>Uh _ e⟩,Ka rv hs,λh' tk hk=>?_⟩
 refine⟨.bl (xs.all gh),H,I.kept λb o e=>hk b o (λz=>?_) (Uh _ e),?_,q⟩
 ·have:b=s.heap.objs.size:=by simpa using z
  exact absurd (Uk e) (by rw[this];exact V1 _)
 ·rw[show its.toArray.size=xs.length by rw[Uy];exact rv.length.symm]
  show Value.bool _=Value.bool _;rw[range_all λi x e=>by rw[e];rfl]
def HF(hh:X.A.handled=none):CallR X (.builtin "any") (λvs H Q=>∃l xs,vs=[.ref l]/\H l=some (.tup xs)/\(∀x∈xs,scS x=true)/\Q (.bl (xs.any gh)) H):=by
 intro YT s σ H vs us Q I r h;obtain⟨l,xs,rfl,hH,hs,q⟩:=h;obtain⟨u,rfl,ru⟩:=vals1 r;cases ru;obtain⟨its,rv,p,hz⟩:=I.tuple (SqT.of (K:=X.K) hH);have hl:l<s.heap.objs.size:=by obtain⟨o,e,_⟩:=p;exact Uk e
 refine call_any_walk (X8 p ?_);refine⟨s.heap.objs.size,[s.heap.objs.size,l],[s.heap.objs.size],its.toArray.size,λi v=>its.toArray[i]?=some v,λi h=>IsTupIter h s.heap.objs.size l i/\IsTup h l its.toArray,λi=>gh (xs[i]?.getD .non),rfl,Ht (A:=X.A.in1) hh s.heap.objs.size l (Ut hl) its.toArray,⟨⟨_,Ul _ rfl,rfl,rfl⟩,?_⟩,Ka rv hs,λh' tk hk=>?_⟩
 ·obtain⟨o',f1,f2⟩:=p;exact⟨o',Uh _ f1,f2⟩
 refine⟨.bl (xs.any gh),H,I.kept λb o e=>hk b o (λz=>?_) (Uh _ e),?_,q⟩
 ·have:b=s.heap.objs.size:=by simpa using z
  exact absurd (Uk e) (by rw[this];exact V1 _)
 ·rw[show its.toArray.size=xs.length by rw[Uy];exact rv.length.symm]
  show Value.bool _=Value.bool _;rw[range_any λi x e=>by rw[e];rfl]
def Su(tv:TE):TE:=λσ H Q=>tv σ H λx H1=>∃i:Int,x=.int i/\i.natAbs.log2<1920/\Q (.str (toString i)) H1
def Pj(he:PE X e tv):PE X (.FormattedValue e (-1) none pos) (Su tv):=by
 intro YT s σ H Q I h;refine FormattedValue_plain (thn (he YT s σ H _ I h) λv s1 ⟨x,H1,I1,r1,q1⟩=>?_)
 obtain⟨i,rfl,hl,q⟩:=q1;obtain⟨t,rfl⟩:=r1;exact wpAny_formatField_int hl ⟨.str _,H1,I1.tok _,⟨_,rfl⟩,q⟩
def Qp(ta tb tc:TE):TE:=λσ H Q=>ta σ H λx H1=>∃a:Str,x=.str a/\a.length<=sizeLine/\tb σ H1 λy H2=>∃b:Str,y=.str b/\a.length+b.length<=sizeLine/\tc σ H2 λz H3=>∃c:Str,z=.str c/\a.length+b.length+c.length<=sizeLine/\Q (.str (Str.empty++a++b++c)) H3
def Jk(ha:PE X a ta)(hb:PE X b tb)(hc:PE X c tc):PE X (.JoinedStr [a,b,c] pos) (Qp ta tb tc):=by
 intro YT s σ H Q I h;have el:∀y:Str,(Str.empty++y).length=y.length:=λy=>by rw[Xq];show 0+y.length=y.length;lia
 refine JoinedStr_many (Xb (thn (ha YT s σ H _ I h) λv s1 ⟨x,H1,I1,r1,q1⟩=>?_))
 obtain⟨sa,rfl,la,q1⟩:=q1;obtain⟨t,rfl⟩:=r1;refine⟨by rw[el];exact la,Xb (thn (hb YT s1 σ H1 _ I1 q1) λv s2 ⟨y,H2,I2,r2,q2⟩=>?_)⟩
 obtain⟨sb,rfl,lb,q2⟩:=q2;obtain⟨t2,rfl⟩:=r2;refine⟨by rw[Xq,el];exact lb,Xb (thn (hc YT s2 σ H2 _ I2 q2) λv s3 ⟨z,H3,I3,r3,q3⟩=>?_)⟩
 obtain⟨sc,rfl,lc,q3⟩:=q3;obtain⟨t3,rfl⟩:=r3;have l3:(Str.empty++sa++sb++sc).length<=sizeLine:=by rw[Xq,Xq,el];exact lc
 exact⟨l3,joinParts_nil ⟨.str _,H3,I3.tok _,⟨_,rfl⟩,q3⟩ l3⟩
theorem uZ:∀ {bs:List Bool}{its:List Value},Vals (bs.map V.bl) its->its=bs.map Value.bool
 |[],_,r=>by rw[YS]at r;cases r;rfl
 |b::bs,_,r=>by
   rw[Vo]at r;cases r with
   |cons r1 r2=>cases r1;rw[uZ r2];rfl
def eqB(b:Bool):Value->Bool
 |.bool c=>c==b
 |_=>false
theorem vy(b:Bool):∀bs:List Bool,(bs.map Value.bool).countP (eqB b)=bs.countP (·== b)
 |[]=>rfl
 |c::bs=>by rw[Vo,List.countP_cons,List.countP_cons,vy b bs];rfl
def Ja:MtM X "list.count" (λx vs H Q=>∃(l:Addr) (bs:List Bool) (b:Bool),x=.ref l/\vs=[.bl b]/\H l=some (.lst (bs.map V.bl))/\Q (.int (bs.countP (·== b):Nat)) H):=by
 intro YT s σ H x vs v us Q I rx rv h;obtain⟨l,bs,b,rfl,rfl,hH,q⟩:=h;cases rx;obtain⟨u,rfl,ru⟩:=rv.one;cases ru;obtain⟨z,its,n,r,hl,e⟩:=I.lstM hH;have ei:=uZ r;subst ei;refine Yb F.slot_list_count ⟨_,e,rfl⟩ F.entry_list_count (F.args_list_count_2 _ _) (PySem.SeqAt.list_countAt l (bs.map Value.bool).toArray n none #[] (.bool b) (eqB b)) ⟨e,λy hy=>?_,?_⟩
 ·have hy':y∈bs.map Value.bool:=by simpa using hy
  obtain⟨c,_,rfl⟩:=Vk.mp hy';exact PySem.SeqAt.EqAt.bool_bool c b
 ·refine⟨.int _,H,I.tok _,⟨s.toks,?_⟩,q⟩;show Value.int (((bs.map Value.bool).toArray.toList.countP (eqB b):Nat):Int) _=_;rw[show (bs.map Value.bool).toArray.toList=bs.map Value.bool from rfl,vy]
def Jb:MtM X "list.index" (λx vs H Q=>∃(l:Addr) (bs:List Bool) (b:Bool) (j:Nat),x=.ref l/\vs=[.bl b]/\H l=some (.lst (bs.map V.bl))/\bs[j]?=some b/\(∀m c,m<j->bs[m]?=some c->(c==b)=false)/\j<1000/\Q (.int (j:Nat)) H):=by
 intro YT s σ H x vs v us Q I rx rv h;obtain⟨l,bs,b,j,rfl,rfl,hH,hj,hno,h1,q⟩:=h;cases rx;obtain⟨u,rfl,ru⟩:=rv.one;cases ru;obtain⟨z,its,n,r,hl,e⟩:=I.lstM hH;have ei:=uZ r;subst ei;obtain⟨lt,ej⟩:=Uj.mp hj;have lt':j<(bs.map Value.bool).toArray.size:=by simpa using lt
 refine Yb F.slot_list_index ⟨_,e,rfl⟩ F.entry_list_index (F.args_list_index_2 _ _) (PySem.SeqAt.list_indexAt l (bs.map Value.bool).toArray n none #[] (.bool b) (eqB b) j lt' (by lia) ?_ ?_) ⟨e,λy hy=>?_,?_⟩
 ·simp[eqB,ej]
 ·intro m hm lm;have hm':m<bs.length:=by simpa using hm
  have:=hno m bs[m] lm (Uq hm');simpa[eqB] using this
 ·have hy':y∈bs.map Value.bool:=by simpa using hy
  obtain⟨c,_,rfl⟩:=Vk.mp hy';exact PySem.SeqAt.EqAt.bool_bool c b
 ·exact⟨.int _,H,I.tok _,⟨_,rfl⟩,q⟩
def QX(h:X.mg x=some (.int i t))(hg:Gl X x:=by rfl)(hd:(x==("__debug__":Str))=false:=by decide):PE X (.Name x pos) (tC (.int i)):=pe_glob hg h ⟨t,rfl⟩ hd
end
structure MethAt(K:PySem.W.Frag)(C:Addr)(x qual:Str)(st:Stmt):Prop where
 ex:∃f fd,Fun K x qual st f fd/\PySem.W.findIn K (.ref C) x=some (some (.ref f))/\PySem.W.isFn K (.ref f)=true
structure MethC(P:Program)(w:World)(K:PySem.W.Frag)(mg:Str->Option Value)(base:Heap)(k:Nat)(C:Addr)(x:Str)(ps:List Str)(sp:Sp):Prop where
 ex:∃f fd,FnOk P w K mg base (bD P w) k f fd ps sp/\Binds K fd ps []/\PySem.W.keepIn K (.ref f)=true/\PySem.W.findIn K (.ref C) x=some (some (.ref f))/\PySem.W.isFn K (.ref f)=true
def Gh{K:PySem.W.Frag}{C:Addr}{x qual:Str}{st:Stmt}{f:Addr}{oc:Value}{od an:Option Addr}{osl:Array (Option Value)}{kV doc pm cdv ct:Value}
  (a:PySem.W.findIn K (.ref C) x=some (some (.ref f))) (n:PySem.W.isFn K (.ref f)=true) (l:K.lookup f=some ⟨oc,od,.func (PySem.W.fnOf x qual (defArgs st) (defBody st) (defScope st) .none kV doc pm an cdv ct),osl⟩) (c:PySem.W.codeIn K cdv qual=true) (k:PySem.W.keepIn K (.ref f)=true):MethAt K C x qual st:=
 ⟨f,_,fun_mk l c k,a,n⟩
section
variable{P:Program}{w:World}{K:PySem.W.Frag}{mg:Str->Option Value}{base:Heap}{k:Nat}{C:Addr}{x qual:Str}{N ps:List Str}{sp:Sp}{st:Stmt}
def Nz(F:Fun K x qual st f fd)(S:FnScope N ps (defScope st))(len:∀ vs H Q E,sp vs H Q E->vs.length=ps.length)
  (hbody:∀(cdv:Value) (A:Around) (outer:List Env) (s:Shared) (H:Hp) (vs:List V) (Q:VK) (E:XK),Room k (A.deeper (envOfC qual (defScope st) s.heap.objs.size f cdv))->sp vs H Q E->
    ∃t,PSs (aH P w K mg base N qual (defScope st) f cdv A outer s H E) (defBody st) t/\t { nx:=λz H'=>Q .non H',rt:=Q } (start N vs) H):FnOk P w K mg base (bD P w) (k+1) f fd ps sp:=by
 obtain⟨oc,od,kV,doc,pm,an,cdv,ct,osl,rfl,l,c⟩:=F.ex;exact fn_of l c S len (hbody cdv)
def MethAt.okE(D:MethAt K C x qual st)(S:FnScope N ps (defScope st))(hb:∀ (kV doc pm:Value) (an:Option Addr) (cdv ct:Value) (us:List Value),us.length=ps.length->bindArgs (PySem.W.fnOf x qual (defArgs st) (defBody st) (defScope st) .none kV doc pm an cdv ct) ⟨us,[]⟩=pure (ps.zip us))
  (len:∀vs H Q E,sp vs H Q E->vs.length=ps.length)
  (hbody:∀(f:Addr) (cdv:Value) (A:Around) (outer:List Env) (s:Shared) (H:Hp) (vs:List V) (Q:VK) (E:XK),Room k (A.deeper (envOfC qual (defScope st) s.heap.objs.size f cdv))->sp vs H Q E->
    ∃t,PSs (aH P w K mg base N qual (defScope st) f cdv A outer s H E) (defBody st) t/\t { nx:=λz H'=>Q .non H',rt:=Q } (start N vs) H):MethC P w K mg base (k+1) C x ps sp:=by
 obtain⟨f,fd,F,a,n⟩:=D.ex;exact⟨f,fd,Nz F S len (hbody f),F.binds hb,F.kp,a,n⟩
end
section
variable{X:Cx}{j k:Nat}{C:Addr}{ps:List Str}{sp:Sp}{x:Str}{p pos:Pos}{e:Expr}{es:List Expr}{t:TA}{E:XK}
def Jl(D:MethC X.prog X.w X.K X.mg X.base j C "__init__" ps sp)(mk:PySem.W.makesIn X.K C=true)(kc:PySem.W.keepIn X.K (.ref C)=true)(hm:X.mg x=some (.ref C))(hr:Room k X.A)(hx:Passes (bD X.prog X.w) X E)(ha:QA X (e::es) t)(hjk:j+1<=k:=by decide)(hg:Gl X x:=by rfl)(hdb:(x==("__debug__":Str))=false:=by decide)
  (he:notStar e=true:=by rfl) (hpl:(backTo pos (starEach es X.env)).any (·.1)=false:=by rfl) :
  PE X (.Call (.Name x p) (e::es) [] pos) (tMake C sp [] E t):=by
 obtain⟨f,fd,F,b,kp,a,n⟩:=D.ex;exact pe_make ⟨mk,a,n,kc⟩ F (hr.mono hjk) hg hm b .nil hx ha.h hdb (bu he) hpl
end
open PySem PySem.Spec PyProof.Rows
section
variable{X:Cx}{CX:CXT}{k:Nat}{f C:Addr}{fd:FuncData}{ps:List Str}{sp:Sp}{E:XK}
def LC(F:FnOk X.prog X.w X.K X.mg X.base CX k f fd ps sp)(hr:Room k X.A.in1)(hb:Binds X.K fd ps [])(hx:Passes CX X E)
  (I:Inv X YT σ H s) (r:Vals vs us) (h:sp vs H Q E):wpAny (model X.prog X.w) X.A.in1 (call (.ref f) us) (EP X YT σ Q) X.xe s:=by
 have hl:(us++[]).length=ps.length:=by rw[V6,<-r.length];exact F.len _ _ _ _ h
 have hl':us.length=ps.length:=by rw[V6]at hl;exact hl
 have bb:=hb s us I.kIn hl;rw[V6]at bb;refine WY (V2 (F.run X.A.in1 X.stack s H ⟨us,[]⟩ us vs Q E hr ⟨(show X.A.in1.frames=some X.stack from I.ok.frames),I.ok.mod,I.bs,UL I.ok.bsz I.sz,I.stack,I.stkFree,I.hok,I.bare⟩ bb r h) λr s' hq=>?_)
 cases r with
 |error e=>exact hx YT σ H s e s' I hq
 |ok fl=>
   cases fl with
   |ret u=>exact I.after hq
   |next=>exact False.elim hq
   |brk=>exact False.elim hq
   |cont=>exact False.elim hq
def DR(D:MethC X.prog X.w X.K X.mg X.base j C "__len__" ps sp)(hr:Room (j+1) X.A)(hx:Passes (bD X.prog X.w) X E):
  CallR X (.builtin "len") (λvs H Q=>∃x dx fs,vs=[.ref x]/\H x=some (.ins C dx fs)/\sp [.ref x] H (λv H2=>∃n:Int,v=.int n/\(0<=n/\n<2^63)/\Q (.int n) H2) E):=by
 intro YT s σ H vs us Q I r h;obtain⟨x,dx,fs,rfl,hx',q⟩:=h;obtain⟨f,fd,F,b,kp,a,n⟩:=D.ex;obtain⟨u,rfl,ru⟩:=vals1 r;cases ru;obtain⟨mA,O,_⟩:=ins_get I.hok hx';obtain⟨od,IA,_⟩:=O.look;refine YF PySem.kind_len PySem.plain_len PySem.entry_len (PySem.args_len1 _) ?_;unfold Builtin.«len»
 refine Ug (m:=oneArg "len" _) (Ui ?_);refine Ug (m:=callSpecial? (.ref x) (Str.ofString "__len__")) (PySem.W.special_fn I.kIn IA a (Wb.mp n) (Us (LC (vs:=[.ref x]) F hr.in1 b hx I (.cons rfl .nil) q) (λw' s' hw=>?_) λz z y=>y))
 obtain⟨v,H2,I2,rv,m,rfl,⟨h0,h1⟩,qq⟩:=hw;obtain⟨t,rfl⟩:=rv;refine Ug (Vw (Ui ?_));refine Ug (wpAny_letGo ?_);show wpAny _ _ (if m<0 then _ else _) _ _ _
 rw[Ux (by lia)]
 show wpAny _ _ (if m ≥ 2^63 then _ else _) _ _ _
 rw[Ux (by lia)]
 exact Ug (wpAny_mkInt (Ui ⟨_,rfl,.int m,H2,I2.tok _,⟨_,rfl⟩,qq⟩))
end
theorem bY:∀ (names:List (Str×NameKind)) (n:Nat) (acc:List (Str×Addr)),cellsFrom n names acc=cellsFrom n names []++acc
 |[],_,_=>rfl
 |(name,kind)::r,n,acc=>by
   unfold cellsFrom;split
   ·rw[bY r (n+1) ((name,n)::acc),bY r (n+1) [(name,n)],V4];rfl
   ·exact bY r n acc
def vL
  (hQ:Q (newEnv scope s.heap.objs.size globals (cellsFrom (s.heap.objs.size+1) scope.names cl) qual none .none (some env) builtinsNs) { s with heap:=pushCells (s.heap.push { cls:=.type "dict",data:=.dict #[] }) scope.names }) :
  wpAny M A (newFunctionEnv scope globals cl [] qual none .none (some env)) Q E s:=by
 simp only[newFunctionEnv,Option.isSome_some,if_true];refine Ug (wpAny_alloc ?_);refine Ug (wpAny_layCells _ (λname kind cells=>by cases hkc:kind==NameKind.cell<;>simp[hkc]) _ _ _ _ ?_)
 rw[show ({ s with heap:=s.heap.push { cls:=.type "dict",data:=.dict #[] } }:Shared).heap.objs.size=s.heap.objs.size+1 from U4 ..]
 refine Ug ?_;rw[List.forIn_nil];exact Ui (Ui hQ)
abbrev Cx.aO(X:Cx)(YT:List (Addr×Obj))(scope:Scope)(cs:List (Str×Addr))(Nc:List Str)(fp:List Addr)(C:Addr)(s₂:Shared)(H₂:Hp):Cx where
 prog:=X.prog
 w:=X.w
 K:=X.K
 mg:=X.mg
 base:=X.base
 A:=X.A
 N:=Nc
 s₀:=s₂
 H₀:=H₂
 env:=compEnvC scope cs C X.env
 outer:=X.stack
 stack:=X.stack
 ex:=fp
 fn:=λy=>scope.names.lookup y==some .cell
 calm:=X.calm
 pn:=X.pn++YT
 xe:=λ_ _=>False
structure CompG(X:Cx)(scope:Scope)(cl:List (Str×Addr))(own:List Str)(js:List Nat)(fr:List Str):Prop where
 kind:scope.kind=.function
 names:∀y∈scope.names,y.2=.local->scope.names.lookup y.1=some .local
 clos:closureFor scope X.env=pure cl
 sub:∀y c,cl.lookup y=some c->X.env.cells.lookup y=some c
 has:∀(m:Nat) y,((relabel scope X.env).names.lookup y=some .cell\/(relabel scope X.env).names.lookup y=some .free)->∃c,(cellsFrom m scope.names cl).lookup y=some c
 nd:(own++fr).Nodup
 len:js.length=fr.length
 newc:∀(m:Nat) y c,(cellsFrom m scope.names []).lookup y=some c->scope.names.lookup y=some .cell
 oldc:∀y c,cl.lookup y=some c->scope.names.lookup y≠some .cell
 fre:∀(k j:Nat) (y:Str),js[k]?=some j->fr[k]?=some y->X.N[j]?=some y/\(X.env.scope.names.lookup y=some .cell\/X.env.scope.names.lookup y=some .free)/\((relabel scope X.env).names.lookup y=some .cell\/(relabel scope X.env).names.lookup y=some .free)/\∃c,cl.lookup y=some c
theorem mq:∀ {l m:List (Str×α)},(l++m).lookup y=some c->l.lookup y=some c\/(l.lookup y=none/\m.lookup y=some c)
 |[],_,h=>.inr ⟨rfl,h⟩
 |(k,v)::r,m,h=>by
   rw[List.cons_append,V0]at h;rw[V0];split at h
   ·exact .inl h
   ·exact mq h
theorem jT:∀ {l m:List (Str×α)},l.lookup y=none->(l++m).lookup y=m.lookup y
 |[],_,_=>rfl
 |(k,v)::r,m,h=>by
   rw[V0]at h;rw[List.cons_append,V0];split at h
   ·cases h
   ·exact jT h
section
variable{X:Cx}{YT:List (Addr×Obj)}{σ:St}{H:Hp}{s:Shared}{scope:Scope}{cl:List (Str×Addr)}{own:List Str}{js:List Nat}{fr:List Str}{fp:List Addr}{C m:Addr}
def HR{hh:Heap}(T:CompG X scope cl own js fr)(I:Inv X YT σ H s)(f:∀ b∈fp,FpOk X YT H b)(hlt:∀ b∈fp,b<s.heap.objs.size)(hC:s.heap.objs.size<=C)(hm:m=hh.objs.size)(hms:s.heap.objs.size<=m):
  (X.aO YT scope (cellsFrom m scope.names cl) (own++fr) fp C s H).Ok:=by
 have ok:CellsOk (pushCells hh scope.names) m (cellsFrom m scope.names []):=by
  have:=cellsFrom_ok scope.names hh m [] ⟨λx x hm=>(nomatch hm),List.Pairwise.nil⟩ (by rw[hm];exact Ur _)
  rw[<-hm]at this;exact this
 have hold:∀y c,cl.lookup y=some c->c<s.heap.objs.size:=λy c e=>by obtain⟨v,q⟩:=I.cell y c (T.sub _ _ e);exact q.lt
 have spl:∀y c,(cellsFrom m scope.names cl).lookup y=some c->(m<=c/\(cellsFrom m scope.names []).lookup y=some c)\/(cl.lookup y=some c/\c<s.heap.objs.size):=λy c e=>by
  rw[bY]at e;rcases mq e with z | ⟨_,z⟩
  ·exact .inl ⟨(ok.empty _ _ (Vy z)).2,z⟩
  ·exact .inr ⟨z,hold _ _ z⟩
 refine⟨I.ok.mod,T.kind,I.ok.glob,I.ok.blt,hC,λy z c h1 h2=>?_,λy h=>T.has m y h,λy c h1 h2=>?_,I.ok.hd,I.ok.frames,.inl rfl,λb hb=>⟨Ut (Um (hlt b hb) hC),λy c h=>?_⟩,λb o e=>I.bs b o e,UL I.ok.bsz I.sz,λb o e hb=>?_,λb hb hm'=>?_,I.stack,I.stkFree⟩
 ·rcases spl _ _ h1 with ⟨a1,a2⟩ | ⟨a1,a2⟩
  ·rcases spl _ _ h2 with ⟨b1,b2⟩ | ⟨b1,b2⟩
   ·exact name_of_addr ok.apart (Vy a2) (Vy b2)
   ·exact absurd (Um b2 hms) (VP.mpr a1)
  ·rcases spl _ _ h2 with ⟨b1,b2⟩ | ⟨b1,b2⟩
   ·exact absurd (Um a2 hms) (VP.mpr b1)
   ·exact I.ok.inj y z c (T.sub _ _ a1) (T.sub _ _ b1)
 ·rcases spl _ _ h2 with ⟨a1,a2⟩ | ⟨a1,a2⟩
  ·exact UL hms a1
  ·exact absurd (by simpa using h1) (T.oldc _ _ a1)
 ·rcases spl _ _ h with ⟨a1,a2⟩ | ⟨a1,a2⟩
  ·exact λz=>absurd (Um (hlt b hb) hms) (VP.mpr (z ▸ a1))
  ·exact (f b hb).2.2.2.2.1 y c (T.sub _ _ a1)
 ·rcases (f b hb).2.2.2.1 with z | z
  ·exact I.ok.noex b o e z
  ·exact absurd (Um (Uk e) I.ok.bsz) (VP.mpr z)
 ·rcases Uw.mp (I.stkSub b hm') with z | z
  ·exact (f b hb).2.1 z
  ·exact (f b hb).2.2.1 z
def sJ(T:CompG X scope cl own js fr)(I:Inv X YT σ H s)(f:∀ b∈fp,FpOk X YT H b)(hlt:∀ b∈fp,b<s.heap.objs.size)
  (k:∀b o,s.heap.get? b=some o->h'.get? b=some o) (ha:s.heap.objs.size<=acc) (hC:s.heap.objs.size<=C) (hne:C≠acc) (hm:m=hh.objs.size) (hms:s.heap.objs.size<=m) (hCm:C<m) (ham:acc<m) (hh':h'=pushCells hh scope.names) (ob:ObjOk X.prog X.w (upd H acc ho) h' acc ho) (ns:h'.Ns C mm) :
  Inv (X.aO YT scope (cellsFrom m scope.names cl) (own++fr) fp C s H) [] (List.replicate own.length none++pick js σ) (upd H acc ho) { s with heap:=h',toks:=t' }:=by
 have ok:CellsOk (pushCells hh scope.names) m (cellsFrom m scope.names []):=by
  have:=cellsFrom_ok scope.names hh m [] ⟨λx x hm=>(nomatch hm),List.Pairwise.nil⟩ (by rw[hm];exact Ur _)
  rw[<-hm]at this;exact this
 have hold:∀y c,cl.lookup y=some c->c<s.heap.objs.size:=λy c e=>by obtain⟨v,q⟩:=I.cell y c (T.sub _ _ e);exact q.lt
 have spl:∀y c,(cellsFrom m scope.names cl).lookup y=some c->(m<=c/\h'.IsCell c none)\/(cl.lookup y=some c/\c<s.heap.objs.size):=λy c e=>by
  rw[bY]at e;rcases mq e with z | ⟨_,z⟩
  ·have:=ok.empty _ _ (Vy z);exact .inl ⟨this.2,by rw[hh'];exact this.1⟩
  ·exact .inr ⟨z,hold _ _ z⟩
 have hn:H acc=none:=I.hok.fresh ha;have fC:H C=none:=I.hok.fresh hC;refine⟨HR T I f hlt hC hm hms,rfl,I.bare,Un.laid k ha hn,⟨mm,ns,λi y v h1 h2 h3=>?_⟩,λy c e=>?_,by show upd H acc _ C=none;rw[upd_ne hne];exact fC,λy c e=>?_,λp hp=>?_,I.hok.laid k ha ob,?_⟩
 ·have h1:(own++fr)[i]?=some y:=h1;by_cases hi:i<own.length
  ·rw[Uu (by rw[Vz];exact hi),VR]at h2
   split at h2<;>cases h2
  ·rw [List.getElem?_append_right (by lia)] at h1
   rw[Vi (by rw[Vz];lia),Vz]at h2
   unfold pick at h2;rw[UG]at h2;cases hj:js[i-own.length]? with
   |none=>rw[hj]at h2;cases h2
   | some j=>
     rw[hj]at h2;have h2s:(σ[j]?).getD none=some v:=Uo h2;have h2'':σ[j]?=some (some v):=by
      cases z:σ[j]? with
      |none=>rw[z]at h2s;cases h2s
      |some w=>rw[z]at h2s;exact congrArg some h2s
     obtain⟨g1,g2,g3,c,gc⟩:=T.fre _ j y hj h1;obtain⟨mX,_,hl⟩:=I.loc;have vis:Vis X.env.scope y:=g2.elim (λz=>.inr (.inl z)) λz=>.inr (.inr z)
     obtain⟨u,r,q⟩:=hl j y v g1 h2'' vis;refine⟨u,r,.inr ⟨g3,c,?_,?_⟩⟩
     ·show (cellsFrom m scope.names cl).lookup y=some c;rw[bY];cases z:(cellsFrom m scope.names []).lookup y with
      |none=>rw[jT z];exact gc
      |some c'=>exact absurd (T.newc m y c' z) (T.oldc y c gc)
     ·have hc':=T.sub _ _ gc;rcases q with ⟨q,_⟩ | ⟨_,c2,e2,z⟩
      ·have q:X.env.scope.names.lookup y=some .local:=q;rcases g2 with g2 | g2<;>(rw[g2]at q;cases q)
      ·rw[hc']at e2;cases e2;exact z.keeps k
 ·rcases spl y c e with ⟨_,z⟩ | ⟨z,_⟩
  ·exact⟨_,z⟩
  ·obtain⟨v,q⟩:=I.cell y c (T.sub _ _ z);exact⟨v,q.keeps k⟩
 ·rcases spl y c e with ⟨z,_⟩ | ⟨z,lt⟩
  ·show upd H acc _ c=none;rw[upd_ne (λ(q:c=acc)=>absurd ham (VP.mpr (q ▸ z)))]
   exact I.hok.fresh (UL hms z)
  ·show upd H acc _ c=none;rw[upd_ne (λ(q:c=acc)=>absurd lt (VP.mpr (q ▸ ha)))]
   exact I.freeC y c (T.sub _ _ z)
 ·have hp':p∈X.pn++YT:=by simpa using hp
  obtain⟨e,n,ne,nf,d⟩:=I.pin p hp';refine⟨k _ _ e,?_,Ut (Um (Uk e) hC),λhm=>?_,d⟩
  ·show upd H acc _ p.1=none;rw[upd_ne (λz=>absurd (Uk e) (by rw[z];exact VP.mpr ha))]
   exact n
  ·rcases Uw.mp (I.stkSub _ hm) with z | z
   ·exact ne z
   ·exact nf z
 ·show (List.replicate own.length none++pick js σ).length=(own++fr).length;unfold pick;rw[Uz,Vz,UV,Uz,T.len]
def Eg(T:CompG X scope cl own js fr)(I:Inv X YT σ H s)(f:∀b∈fp,FpOk X YT H b)(hlt:∀b∈fp,b<s.heap.objs.size)
  (k:∀b o,s.heap.get? b=some o->h'.get? b=some o) (ha:s.heap.objs.size<=acc) (hC:s.heap.objs.size<=C) (hne:C≠acc) (hm:m=hh.objs.size) (hms:s.heap.objs.size<=m) (hCm:C<m) (ham:acc<m) (hh':h'=pushCells hh scope.names)
  (new:∃n,h'.get? acc=some { cls:=.type "list",data:=.seq #[] n }) (ns:h'.Ns C mm) :
  Inv (X.aO YT scope (cellsFrom m scope.names cl) (own++fr) fp C s H) [] (List.replicate own.length none++pick js σ) (upd H acc (.lst [])) { s with heap:=h',toks:=t' }:=by
 obtain⟨n,e⟩:=new;exact sJ T I f hlt k ha hC hne hm hms hCm ham hh' (ho:=.lst []) ⟨W9 _,[],n,.nil,e⟩ ns
end
section
variable{prog:Program}{w:World}{A:Around}{R:Result->Shared->Prop}{s:Shared}
def pX(ifs:List Expr)(env:Env):Sem Bool:=forIn ifs true λc r=>if r=true then do let ok <-isTrue c env (eval c env);pure (ForInStep.yield ok) else pure (ForInStep.yield r)
def turnOf(g:Comprehension)(bodyK:Sem Fin->Sem Fin)(c:Code)(it:Value)(env:Env):Sem Fin:=do
 standAt g.iter.pos
 match <-pyNext it with
 |none=>pure (.done .next)
 |some v=>
   letOwnedTupleGo g.target it v
   assign g.target env v
   let ok <-pX g.ifs env
   if ok then bodyK (again c) else again c
def jP(elt:Expr)(acc:Value)(env:Env)(k:Sem Fin):Sem Fin:=do
 (do let _ <-call (.builtin "list.append") [acc,<-eval elt env])
 k
def sY(e:Expr)(i1:Expr)(acc:Value)(env:Env)(k:Sem Fin):Sem Fin:=do
 let x <-eval i1 env
 standAt i1.pos
 let x <-foldedSetIterable i1 env x
 let _ <-runOwn (.compStart e 1 (<-holding [x] (pyIter x)) acc env) env
 k
def CT(elt target iter:Expr)(ifs:List Expr)(scope:Scope)(pos:Pos)(it acc:Value)(env:Env):
  compTurn (.ListComp elt [⟨target,iter,ifs,0⟩] scope pos) 0 it acc env=turnOf ⟨target,iter,ifs,0⟩ (jP elt acc env) (.compLoop (.ListComp elt [⟨target,iter,ifs,0⟩] scope pos) 0 it acc env) it env:=rfl
def Qx(elt t0 i0 t1 i1:Expr)(f0 f1:List Expr)(scope:Scope)(pos:Pos)(it acc:Value)(env:Env):
  compTurn (.ListComp elt [⟨t0,i0,f0,0⟩,⟨t1,i1,f1,0⟩] scope pos) 1 it acc env=turnOf ⟨t1,i1,f1,0⟩ (jP elt acc env) (.compLoop (.ListComp elt [⟨t0,i0,f0,0⟩,⟨t1,i1,f1,0⟩] scope pos) 1 it acc env) it env:=rfl
def Qw(elt t0 i0 t1 i1:Expr)(f0 f1:List Expr)(scope:Scope)(pos:Pos)(it acc:Value)(env:Env):
  compTurn (.ListComp elt [⟨t0,i0,f0,0⟩,⟨t1,i1,f1,0⟩] scope pos) 0 it acc env=turnOf ⟨t0,i0,f0,0⟩ (sY (.ListComp elt [⟨t0,i0,f0,0⟩,⟨t1,i1,f1,0⟩] scope pos) i1 acc env) (.compLoop (.ListComp elt [⟨t0,i0,f0,0⟩,⟨t1,i1,f1,0⟩] scope pos) 0 it acc env) it env:=rfl
def jG(prog:Program)(w:World)(A:Around)(bodyK:Sem Fin->Sem Fin)(W:(Shared->Prop)->Shared->Prop):Prop:=
 ∀(k:Sem Fin) (Q:Fin->Shared->Prop) (E:Value->Shared->Prop) (s:Shared),W (λs'=>wpAny (model prog w) A k Q E s') s->wpAny (model prog w) A (bodyK k) Q E s
def xg:jG prog w A (jP elt acc env) (λP s=>wpAny (model prog w) A (eval elt env) (λx s1=>wpAny (model prog w) A (call (.builtin "list.append") [acc,x]) (λy s2=>P s2) (λy y=>False) s1) (λy y=>False) s):=by intro k Q E s h;unfold jP;exact Ug (Ug (Us h (λx s1 h1=>Ug (Us h1 (λy s2 h2=>Ui h2) λy y z=>z.elim)) λy y z=>z.elim))
def KN(hs:∀ x,foldedSetIterable i1 env x=pure x):jG prog w A (sY e i1 acc env) (λP s=>wpAny (model prog w) A (eval i1 env) (λx s1=>wpAny (model prog w) A (pyIter x) (λit s2=>
  codeAny (model prog w) A (.compStart e 1 it acc env) (λr s3=>match r with
   |.ok _=>P s3
   |.error _=>False) s2) (λy y=>False) s1) (λy y=>False) s):=by
 intro k Q E s h;unfold sY;refine Ug (Us h (λx s1 h1=>Ug (Vt (Ug (wpAny_of_eq (hs x) (Ug (Vw (Us h1 (λit s2 h2=>?_) λy y z=>z.elim))))))) λy y z=>z.elim)
 refine Ug (wpAny_runOwn (V2 h2 λr s3 h3=>?_))
 cases r with
 |ok f=>exact h3
 |error x=>exact h3.elim
def Dl(e:Expr):Prop:=(∃a b c d,e=.ListComp a b c d)\/∃a b c d,e=.SetComp a b c d
def I8(I:Nat->Shared->Prop)
  (hturn:compTurn e depth it acc env=turnOf g bodyK (.compLoop e depth it acc env) it env) (hW:jG prog w A bodyK W)
  (turn:∀ n s,I n s->wpAny (model prog w) A (pyNext it) (λr s₁=>match r with
    |none=>R (.ok .next) s₁
    |some v=>wpAny (model prog w) A (letOwnedTupleGo g.target it v) (λz s₂=>wpAny (model prog w) A (assign g.target env v) (λz s₃=>
      wpAny (model prog w) A (pX g.ifs env) (λok s₄=>if ok=true then W (λs₅=>∃m,m<n/\I m s₅) s₄ else ∃m,m<n/\I m s₄) (λz z=>False) s₃) (λz z=>False) s₂) (λz z=>False) s₁) (λz z=>False) s)
  (hmono:∀P P' s,(∀s,P s->P' s)->W P s->W P' s)
  (n:Nat) (h:I n s) (he:Dl e):codeAny (model prog w) A (.compLoop e depth it acc env) R s:=by
 refine codeAny_loop (by rcases he with ⟨_,_,_,_,rfl⟩ | ⟨_,_,_,_,rfl⟩<;>rfl) I (λn s hI=>?_) n h
 suffices q:wpAny (model prog w) A ((compTurn e depth it acc env).onRaise (λx=>do noteFrame x env;theTreesLotGoes x)) (λfin s'=>match fin with
   |.done f=>R (.ok f) s'
   |.again c'=>c'=Code.compLoop e depth it acc env/\∃m,m<n/\I m s') (λe s'=>R (.error e) s') s by
  rcases he with ⟨_,_,_,_,rfl⟩ | ⟨_,_,_,_,rfl⟩<;>exact q
 refine wpAny_noted ?_;rw[hturn];unfold turnOf;refine Ug (Vt (Ug (Us (turn n s hI) (λr s₁ h₁=>?_) λz z h'=>h'.elim)))
 cases r with
 |none=>exact Ui h₁
 | some v=>
   refine Ug (Us h₁ (λz s₂ h₂=>Ug (Us h₂ (λz s₃ h₃=>Ug (Us h₃ (λok s₄ h₄=>?_) λz z h'=>h'.elim)) λz z h'=>h'.elim)) λz z h'=>h'.elim)
   cases ok with
   |false=>have h₄:∃m,m<n/\I m s₄:=h₄;exact Ui ⟨rfl,h₄⟩
   |true=>
     have h₄:W (λs₅=>∃m,m<n/\I m s₅) s₄:=h₄
     exact hW _ _ _ _ (hmono _ _ _ (λs₅ h₅=>Ui ⟨rfl,h₅⟩) h₄)
def ph(hg:(clausesOf e)[depth]?=some g)(ha:g.is_async=0)
  (h0:codeAny (model prog w) A (.compLoop e depth it acc env) R s)
  (h:wpAny (model prog w) A (pyIter it) (λit' s'=>codeAny (model prog w) A (.compLoop e depth it' acc env) R s') (λz z=>False) s) (he:Dl e) :
  codeAny (model prog w) A (.compStart e depth it acc env) R s:=by
 refine XF ?_
 suffices q:wpAny (model prog w) A ((compStart e depth it acc env).onRaise (λx=>do noteFrame x env;standAt theWindowsPlace)) (λfin s'=>match fin with
   |.done f=>R (.ok f) s'
   |.again c'=>c'.quiet=true/\codeAny (model prog w) A c' R s') (λe s'=>R (.error e) s') s by
  rcases he with ⟨_,_,_,_,rfl⟩ | ⟨_,_,_,_,rfl⟩<;>exact q
 refine wpAny_notedAt ?_;unfold compStart;have e1:(((clausesOf e)[depth]?).elim false (·.is_async != 0))=false:=by rw[hg];show (g.is_async != 0)=false;rw[ha];rfl
 rw[e1];simp only[Bool.false_eq_true,if_false,pure_bind];refine Ug (Ww (wpAny_ite ?_));split
 ·first
   |exact Ug (Ui (Ui (And.intro rfl h0)))
   |exact Ui (And.intro rfl h0)
 ·refine Ug (Wk ?_);rw[hg];exact Ug (Vt (Ug (Us h (λit' s' h'=>Ui (And.intro rfl h')) λz z x=>x.elim)))
end
structure Trav(B:Heap)(l:List Env)(e:Addr)(c a v:Value)(h:Heap):Prop where
 st:B.StaysIn h
 en:B.get? e=none
 ff:h.FunFrames B l
 tr:h.TracedAtW B e c a v
section
variable{M:Model}{A:Around}{E:Value->Shared->Prop}{s:Shared}{B:Heap}{l outer:List Env}{e L:Addr}{c a v:Value}{env:Env}
def Trav.mark(T:Trav B l e c a v s.heap)(f:Option Addr)(k:∀h',Trav B l e c a (f.elim .none λf=>rawInt f) h'->s.heap.UpToSlots h'->dct h' e=dct s.heap e->Q () { s with heap:=h' }):
  wpAny M A (setFlight (.ref e) f) Q E s:=uA T.tr T.ff T.st λh' q1 q2 q3 q4 d=>k h' ⟨q1,T.en,q2,q3⟩ q4 d
def Trav.leaves(T:Trav B (env::outer) e c a v s.heap)(hfr:A.frames=some (env::outer))(hf:env.frame=some L)(k:∀h',Heap.FlyingW B outer e c a h'->s.heap.UpToSlots h'->dct h' e=dct s.heap e->Q () { s with heap:=h' }):
  wpAny M A (leaving env (.ref e)) Q E s:=tE hfr T.ff hf T.st T.en (.inr ⟨v,T.tr⟩) k
def Trav.but(T:Trav B l e c a v h)(hs:Heap.SameBut C h h')(hC:B.get? C=some o):Trav (PySem.W.hideAll B [C]) l e c a v h':=by
 have un:∀b,B.get? b=none->(PySem.W.hideAll B [C]).get? b=none:=λb hb=>by
  cases z:(PySem.W.hideAll B [C]).get? b with
  |none=>rfl
  |some o'=>rw[XM _ z]at hb;cases hb
 have ne:∀b,B.get? b=none->b≠C:=λb hb z=>by subst z;rw[hC]at hb;cases hb
 have hid:(PySem.W.hideAll B [C]).get? C=none:=PySem.W.hideAll_none _ (.head _);obtain⟨st,en,ff,oe,vs,tb,ob,us,g1,g2,g3,g4,g5,g6,g7,g8,g9⟩:=T;refine⟨λb o q=>?_,un _ en,?_,oe,vs,tb,ob,us,(hs.2 e (ne e en)).trans g1,g2,g3,g4,un _ g5,g6,(hs.2 tb (ne tb g5)).trans g7,g8,g9⟩
 ·have nb:b≠C:=λz=>by subst z;rw[hid]at q;cases q
  exact (hs.2 b nb).trans (st b o (XM _ q))
 ·clear g1 g2 g3 g4 g5 g6 g7 g8 g9;induction l with
  |nil=>trivial
  |cons env rest ih=>obtain⟨hk,⟨L,o,hf,hn,ho,hd⟩,hr⟩:=ff;exact⟨hk,⟨L,o,hf,un _ hn,(hs.2 L (ne L hn)).trans ho,hd⟩,ih hr⟩
theorem Trav.passOn(T:Trav B l e c a v s.heap)(k:∀v' h',Trav B l e c a v' h'->s.heap.UpToSlots h'->dct h' e=dct s.heap e->E (.ref e) { s with heap:=h' }):
  wpAny M A (passOn what (.ref e) env:Sem Value) (λz z=>False) E s:=by
 obtain⟨oe,vs,tb,ob,us,g1,g2,g3,g4,_⟩:=id T.tr;unfold PySem.passOn;refine Ug (Vc g1 g3 g4 ?_);have hn:¬ ((Value.ref tb==Value.none)=true):=by simp
 rw[Ux hn];exact Ug (T.mark env.frame λh' T' up d=>wpAny_throw (k _ h' T' up d))
def yO(u:Un fs ex H H' h0 h)(hB:B.StaysIn h)(hB':B.StaysIn h')(up:h.UpToSlots h')
  (fr:∀b∈fs,∃o,h.get? b=some o/\∀vs,o.data≠.fields vs) (cov:∀b o,h0.get? b=some o->b∉fs->b∉ex->∃o',B.get? b=some o'):Un fs ex H H' h0 h' where
 keep b o e n hb hx:=by have h1:=u.keep b o e n hb hx;obtain⟨o',e'⟩:=cov b o e hb hx;have h2:=hB b o' e';rw[h1]at h2;cases h2;exact hB' b o e'
 slot b o e n hb hx:=by obtain⟨sl,h1⟩:=u.slot b o e n hb hx;obtain⟨o1,h2,nf⟩:=fr b hb;rw[h1]at h2;cases h2;obtain⟨sl2,h3⟩:=up b _ h1 nf;exact⟨sl2,h3⟩
 free:=u.free
 there b o e hx:=by
  by_cases hb:b∈fs
  ·obtain⟨o1,h2,nf⟩:=fr b hb;obtain⟨sl2,h3⟩:=up b _ h2 nf;exact⟨_,h3⟩
  ·obtain⟨o',e'⟩:=cov b o e hb hx;exact⟨o',hB' b o' e'⟩
 tups:=u.tups
 frzs:=u.frzs
 tbls:=u.tbls
def Un.wide(u:Un fs [] H H' h h'):Un fs ex H H' h h' where
 keep b o e n hb _:=u.keep b o e n hb (by simp)
 slot b o e n hb _:=u.slot b o e n hb (by simp)
 free b o e n _:=u.free b o e n (by simp)
 there b o e _:=u.there b o e (by simp)
 tups:=u.tups
 frzs:=u.frzs
 tbls:=u.tbls
end
abbrev Cx.withX(Y:Cx)(xe:Value->Shared->Prop):Cx:={ Y with xe:=xe }
def Inv.toX(I:Inv Y YT σ H s):Inv (Y.withX xe) YT σ H s:=
 ⟨⟨I.ok.mod,I.ok.kind,I.ok.glob,I.ok.blt,I.ok.above,I.ok.inj,I.ok.has,I.ok.cab,I.ok.hd,I.ok.frames,I.ok.stk,I.ok.exf,I.ok.bs,I.ok.bsz,I.ok.noex,I.ok.exfs,I.ok.funs,I.ok.frf⟩,I.os,I.bare,I.base,I.loc,I.cell,I.free,I.freeC,I.pin,I.hok,I.len⟩
def Inv.ofX(I:Inv (Y.withX xe) YT σ H s):Inv Y YT σ H s:=
 ⟨⟨I.ok.mod,I.ok.kind,I.ok.glob,I.ok.blt,I.ok.above,I.ok.inj,I.ok.has,I.ok.cab,I.ok.hd,I.ok.frames,I.ok.stk,I.ok.exf,I.ok.bs,I.ok.bsz,I.ok.noex,I.ok.exfs,I.ok.funs,I.ok.frf⟩,I.os,I.bare,I.base,I.loc,I.cell,I.free,I.freeC,I.pin,I.hok,I.len⟩
def RX(Y:Cx)(Eh:XK):Value->Shared->Prop:=λe s'=>∃YT σ H s,Inv Y YT σ H s/\bD Y.prog Y.w Y.stack H s Eh e s'
def J1{Y:Cx}{Eh:XK}:Passes (bD Y.prog Y.w) (Y.withX (RX Y Eh)) Eh:=λYT σ H s e s' I hf=>⟨YT,σ,H,s,I.ofX,hf⟩
section
variable{P:Program}{w:World}{K:PySem.W.Frag}{mg:Str->Option Value}{base:Heap}{N:List Str}{qual:Str}{scope:Scope}{f:Addr}{cd:Value}{A:Around}{outer:List Env}{s:Shared}{H:Hp}{E:XK}
def Bm
  (I2:Inv (aH P w K mg base N qual scope f cd A outer s H E) YT σ H2 s2) (f2:∀b∈fp,FpOk (aH P w K mg base N qual scope f cd A outer s H E) YT H2 b) (hC:s2.heap.objs.size<=C)
  (I4:Inv ((aH P w K mg base N qual scope f cd A outer s H E).aO YT sc cs Nc fp C s2 H2) pins4 σ4 H4 s4) (hf:bD P w (aH P w K mg base N qual scope f cd A outer s H E).stack H4 s4 E e s') :
  wpAny (model P w) (aH P w K mg base N qual scope f cd A outer s H E).A (noteFrame e ((aH P w K mg base N qual scope f cd A outer s H E).aO YT sc cs Nc fp C s2 H2).env)
   (λy s5=>compPost (model P w) (aH P w K mg base N qual scope f cd A outer s H E).A (aH P w K mg base N qual scope f cd A outer s H E).xe none Q acc C (.error e) s5) (λy y=>False) s':=by
 obtain⟨x,cl,a0,H',B,rfl,os,bare,un,hok,fl,ci,cii,q⟩:=hf;have hfr:(aH P w K mg base N qual scope f cd A outer s H E).A.frames=some ((aH P w K mg base N qual scope f cd A outer s H E).env::outer):=I2.ok.frames;have hfrm:(aH P w K mg base N qual scope f cd A outer s H E).env.frame=some (aH P w K mg base N qual scope f cd A outer s H E).env.locals:=rfl;obtain⟨m4,hn4,_⟩:=id I4.loc;have hn4:s4.heap.Ns C m4:=hn4;obtain⟨oC,es,ep,hoC,hdC,rC⟩:=id hn4;have hCf:C∉frs (aH P w K mg base N qual scope f cd A outer s H E).stack:=λhm=>by
  rcases Uw.mp (I2.stkSub _ hm) with z | z
  ·exact absurd I2.lt (by rw[<-z];exact VP.mpr hC)
  ·exact I2.nofs hC z
 have h4C:H4 C=none:=I4.free;have h'C:H' C=none:=un.free C oC hoC h4C (by simp)
 have e'C:s'.heap.get? C=some oC:=un.keep C oC hoC h4C hCf (by simp)
 obtain⟨oB,hB⟩:=cii C oC hoC hCf;have cov4:∀b o,s2.heap.get? b=some o->b∉frs (aH P w K mg base N qual scope f cd A outer s H E).stack->b∉fp->∃o',B.get? b=some o':=λb o e hb hx=>by obtain⟨o1,h1⟩:=I4.base.there b o e hx;exact cii b o1 h1 hb
 have u':Un (frs (aH P w K mg base N qual scope f cd A outer s H E).stack) fp H2 H' s2.heap s'.heap:=Un.trans I4.base un.wide;have fs':∀(h:Heap) (B:Heap),h.FunFrames B ((aH P w K mg base N qual scope f cd A outer s H E).env::outer)->∀b∈frs (aH P w K mg base N qual scope f cd A outer s H E).stack,∃o,h.get? b=some o/\∀vs,o.data≠.fields vs:=λh B ff b hb=>(ff.mem hb).2
 have fl':Heap.FlyingW B ((aH P w K mg base N qual scope f cd A outer s H E).env::outer) x cl a0 s'.heap:=fl;show wpAny (model P w) _ (noteFrame (.ref x) (aH P w K mg base N qual scope f cd A outer s H E).env) _ _ s';refine JS hfr hfrm fl' λh5 held up5 d5=>?_
 have hen:B.get? x=none:=fl.2.1;have T5:Trav B ((aH P w K mg base N qual scope f cd A outer s H E).env::outer) x cl a0 (rawInt (aH P w K mg base N qual scope f cd A outer s H E).env.locals) h5:=⟨held.1,held.2.1,held.2.2.1,held.2.2.2⟩;have u5:=yO u' fl.1 T5.st up5 (fs' _ _ fl.2.2.1) cov4;have ok5:=eY hok fl.1 T5.st ci;have n5:h5.Ns C m4:=up5.ns ⟨oC,es,ep,e'C,hdC,rC⟩;refine⟨m4,n5,λh6 hsb cenv y=>?_⟩
 have u6:=yN u5 hsb hC;have ok6:=uD ok5 hsb h'C;have T6:=T5.but hsb hB;have bid:∀b o,B.get? b=some o->b≠C->(PySem.W.hideAll B [C]).get? b=some o:=λb o e n=>Xv _ e (by simpa using n)
 have ci6:∀b,H' b≠none->∃o,(PySem.W.hideAll B [C]).get? b=some o:=λb hb=>by obtain⟨o,e⟩:=ci b hb;exact⟨o,bid b o e λz=>hb (z ▸ h'C)⟩
 have cov6:∀b o,s2.heap.get? b=some o->b∉frs (aH P w K mg base N qual scope f cd A outer s H E).stack->b∉fp->∃o',(PySem.W.hideAll B [C]).get? b=some o':=λb o e hb hx=>by obtain⟨o',e'⟩:=cov4 b o e hb hx;exact⟨o',bid b o' e' (Ut (Um (Uk e) hC))⟩
 refine T6.passOn (s:={ s' with heap:=h6 }) λv7 h7 T7 up7 d7=>?_
 have u7:=yO u6 T6.st T7.st up7 (fs' _ _ T6.ff) cov6;have ok7:=eY ok6 T6.st T7.st ci6;have J7:Inv (aH P w K mg base N qual scope f cd A outer s H E) YT σ H' { s' with heap:=h7 }:=I2.call' (s':={ s' with heap:=h7 }) (ch:=fp) (os.trans I4.os) u7 ok7 bare (λb hb=>by obtain⟨_,g2,g3,g4,g5,g6⟩:=f2 b hb;exact⟨g4,g2,g5,g6⟩)
 have cov7:∀b o,s.heap.get? b=some o->b∉frs outer->∃o',(PySem.W.hideAll B [C]).get? b=some o':=λb o e hb=>by
  obtain⟨o1,h1⟩:=I2.base.there b o e (show b∉([]:List Addr) by simp)
  refine cov6 b o1 h1 (λhm=>?_) λhx=>?_
  ·rcases Uw.mp (I2.stkSub _ hm) with z | z
   ·exact absurd (Uk e) (by rw[z];exact VP.mpr I2.ok.above)
   ·exact hb z
  ·obtain⟨_,g2,g3,g4,_⟩:=f2 b hx;rcases g4 with g4 | g4
   ·cases g4
   ·exact absurd (Uk e) (VP.mpr g4)
 show wpAny _ _ (leaving _ (.ref x)) _ _ _;refine T7.leaves (s:={ s' with heap:=h7 }) hfr hfrm λh8 fl8 up8 d8=>?_
 exact⟨x,cl,a0,H',_,rfl,J7.os,bare,lK J7.base T7.st fl8.1 up8 (λb hb=>(T7.ff.2.2.mem hb).2) cov7,eY ok7 T7.st fl8.1 ci6,fl8,ci6,cov7,by rw[show dct h8 x=dct s'.heap x from d8.trans (d7.trans ((congrArg (·.bind Obj.dict) (hsb.2 x λz=>by rw[z,hB]at hen;cases hen)).trans d5))];exact q⟩
end
section
variable{prog:Program}{w:World}{A:Around}{E:Value->Shared->Prop}{s:Shared}
def BX(hi:IsTupIter s.heap ia t k)(ht:IsTup s.heap t its)(hy:its[k]?=some y)
  (hQ:∀h',IsTupIter h' ia t (k+1)->Heap.SameBut ia s.heap h'->Q y { s with heap:=h' }):wpAny (model prog w) A (Builtin.SmallTypes.nextOf (.ref ia)) Q E s:=by
 obtain⟨oi,hoi,hci,hdi⟩:=id hi;obtain⟨ot,hot,_,nt,hdt⟩:=ht;unfold Builtin.SmallTypes.nextOf;refine Ug (Vb (name:=Str.ofString "__next__") hi.typeIs Xx (Vg Xx hi.typeIs entry_tupleiter_next ?_ (args_tupleiter_next _)));show wpAny _ _ (field (.ref ia) 0>>=_) _ _ s;refine Ug (Vc hoi hdi (x:=.ref t) rfl ?_);show wpAny _ _ (if (Value.ref t==Value.none)=true then _ else _) _ _ s
 rw[Ux (λz:(Value.ref t==Value.none)=true=>U0 z)]
 show wpAny _ _ (field (.ref ia) 1>>=_) _ _ s;refine Ug (Vc hoi hdi (x:=.int k 0) rfl ?_);show wpAny _ _ (seqItems? (.ref t)>>=_) _ _ s;refine Ug (Wa hot hdt ?_);simp only[Int.toNat_natCast,hy];refine Ug (Vu hoi hdi (by simp) (Ui ⟨y,rfl,Ui (hQ _ ⟨_,VF _ hoi (WN (WM hdi _)),(Obj.cls_mapFields ..).trans hci,?_⟩ (Wh ..))⟩))
 rw[WM hdi];simp[rawInt]
def yX(hh:A.handled=none)(hi:IsTupIter s.heap ia t k)(ht:IsTup s.heap t its)(hy:its[k]?=none)
  (hE:∀h' e,Heap.ExtBut ia s.heap h'->(∃o,h'.get? e=some o/\o.cls=.type "StopIteration")->E (.ref e) { s with heap:=h' }):wpAny (model prog w) A (Builtin.SmallTypes.nextOf (.ref ia)) Q E s:=by
 obtain⟨oi,hoi,hci,hdi⟩:=id hi;obtain⟨ot,hot,_,nt,hdt⟩:=ht;unfold Builtin.SmallTypes.nextOf;refine Ug (Vb (name:=Str.ofString "__next__") hi.typeIs Xx (Vg Xx hi.typeIs entry_tupleiter_next ?_ (args_tupleiter_next _)));show wpAny _ _ (field (.ref ia) 0>>=_) _ _ s;refine Ug (Vc hoi hdi (x:=.ref t) rfl ?_);show wpAny _ _ (if (Value.ref t==Value.none)=true then _ else _) _ _ s
 rw[Ux (λz:(Value.ref t==Value.none)=true=>U0 z)]
 show wpAny _ _ (field (.ref ia) 1>>=_) _ _ s;refine Ug (Vc hoi hdi (x:=.int k 0) rfl ?_);show wpAny _ _ (seqItems? (.ref t)>>=_) _ _ s;refine Ug (Wa hot hdt ?_);simp only[Int.toNat_natCast,hy];refine Ug (Wk (Ug (Vu hoi hdi (by simp) ?_)))
 show wpAny _ _ (newExc (.type "StopIteration") ([]:List Value)>>=λy=>_) _ _ _
 refine Ug ?_;simp only[newExc,newTuple];refine Ug (Vd ?_ (by size_fits:_))
 refine Ug (m:=firstArgMember _ _) (wpAny_of_eq (a:=Value.none) (by first | rfl | simp only[firstArgMember]) ?_)
 refine Vd ?_ (by size_fits:_)
 simp only[raiseNew];refine Ug (wpAny_handled ?_)
 first | rw[hh] | rw[show A.in1.handled=none from hh]
 refine Ug (Ui (wpAny_throw (hE _ _ (((Wh ..).extBut.push _).push _) ⟨_,Ul _ rfl,rfl⟩)))
end
structure SubIt(P:Program)(w:World)(i l:Addr)(its:Array Value)(st:Nat->Heap->Prop):Prop where
 obj:∀k h,st k h->(∃o,h.get? i=some o/\∀v,o.data≠.cell v)/\∃o,h.get? l=some o
 keep:∀k h h',st k h->(∀o,h.get? i=some o->h'.get? i=some o)->(∀o,h.get? l=some o->h'.get? l=some o)->st k h'
 item:∀(A:Around) k (s:Shared) x (Q:Value->Shared->Prop) (E:Value->Shared->Prop),st k s.heap->its[k]?=some x->(∀h',st (k+1) h'->Heap.SameBut i s.heap h'->Q x { s with heap:=h' })->wpAny (model P w) A (Builtin.SmallTypes.nextOf (.ref i)) Q E s
 done:∀(A:Around) k (s:Shared) (Q:Value->Shared->Prop) (E:Value->Shared->Prop),A.handled=none->st k s.heap->its[k]?=none->(∀h' e,Heap.ExtBut i s.heap h'->(∃o,h'.get? e=some o/\o.cls=.type "StopIteration")->E (.ref e) { s with heap:=h' })->wpAny (model P w) A (Builtin.SmallTypes.nextOf (.ref i)) Q E s
def Mq(hne:l≠i)(its:Array Value):SubIt P w i l its (λk h=>IsTupIter h i l k/\IsTup h l its) where
 obj:=λk h ⟨⟨o,e,_,d⟩,⟨o',e',_⟩⟩=>⟨⟨o,e,λv z=>by rw[d]at z;cases z⟩,o',e'⟩
 keep:=λk h h' ⟨⟨o,e,r⟩,⟨o',e',r'⟩⟩ k1 k2=>⟨⟨o,k1 _ e,r⟩,⟨o',k2 _ e',r'⟩⟩
 item:=λA k s x Q E st hx hQ=>BX st.1 st.2 hx λh' h1 h2=>hQ h' ⟨h1,st.2.extBut h2.extBut hne⟩ h2
 done:=λA k s Q E hh st hx hE=>yX hh st.1 st.2 hx hE
def Mp(hne:l≠i)(its:Array Value):SubIt P w i l its (λk h=>h.IsListIter i l k/\h.IsList l its) where
 obj:=λk h ⟨⟨o,e,_,d⟩,⟨o',e',_⟩⟩=>⟨⟨o,e,λv z=>by rw[d]at z;cases z⟩,o',e'⟩
 keep:=λk h h' ⟨⟨o,e,r⟩,⟨o',e',r'⟩⟩ k1 k2=>⟨⟨o,k1 _ e,r⟩,⟨o',k2 _ e',r'⟩⟩
 item:=λA k s x Q E st hx hQ=>wpAny_nextOf_list_item st.1 st.2 hx λh' h1 h2=>hQ h' ⟨h1,st.2.extBut h2.extBut hne⟩ h2
 done:=λA k s Q E hh st hx hE=>wpAny_nextOf_list_end hh st.1 st.2 hx hE
section
variable{P:Program}{w:World}{A:Around}{E:Value->Shared->Prop}{s:Shared}{z TI TO i1 i2 l1 l2:Addr}{xs ys:Array Value}{st1 st2:Nat->Heap->Prop}
def Hw{k:Nat}{Q:Value->Shared->Prop}(D:ZipApart z TI TO i1 i2 l1 l2)(S1:SubIt P w i1 l1 xs st1)(S2:SubIt P w i2 l2 ys st2)
  (hz:IsZip s.heap z TI TO .none) (hTI:IsPair s.heap TI (.ref i1) (.ref i2)) (hTO:IsPair s.heap TO a b) (h1:st1 k s.heap) (h2:st2 k s.heap) (hx:xs[k]?=some x) (hy:ys[k]?=some y)
  (hQ:∀h',IsZip h' z TI TO (rawInt s.heap.objs.size)->IsPair h' TO x y->st1 (k+1) h'->st2 (k+1) h'->IsPair h' s.heap.objs.size x y->h'.objs.size=s.heap.objs.size+1->(∀c o,c≠z->c≠TO->c≠i1->c≠i2->s.heap.get? c=some o->h'.get? c=some o)->Q (.ref s.heap.objs.size) { s with heap:=h' }) :
  wpAny (model P w) A (Builtin.«zip.__next__» ⟨[.ref z],[]⟩) (λfin s'=>∃v,fin=.done (.ret v)/\Q v s') E s:=by
 show wpAny _ _ (field (.ref z) 2>>=λu=>_) _ _ _
 refine Ug (Vc hz rfl (x:=.bool false) rfl (show _ from ?_))
 show wpAny _ _ (field (.ref z) 3>>=λu=>_) _ _ _
 refine Ug (Vc hz rfl (x:=.ref TI) rfl (show _ from ?_))
 refine Ug (Wa hTI rfl (show _ from ?_))
 show wpAny _ _ (Builtin.SmallTypes.ownedTupleIsFree (.ref z)>>=λu=>_) _ _ _
 refine Ug ?_;unfold Builtin.SmallTypes.ownedTupleIsFree;refine Ug (Vc hz rfl (x:=.none) rfl (Ui (show _ from ?_)))
 simp only[if_true];refine Ug (Wk (show _ from ?_))
 refine Ug (Vc hz rfl (x:=.ref TO) rfl (show _ from ?_))
 refine Ug (wpAny_setField_rec hz (by simp) λg1 hz1 e1=>?_)
 replace hz1:IsZip g1 z TI TO .ellipsis:=hz1;have n1:=(S1.obj _ _ h1).2;refine Ug ?_;simp only[List.zipIdx_cons,List.zipIdx_nil,List.forIn_cons,List.forIn_nil];refine Ug (Ug (wpAny_onRaise (show _ from ?_)))
 show wpAny _ _ (Builtin.SmallTypes.nextOf (.ref i1)>>=λu=>_) _ _ _
 refine Ug (S1.item _ k _ x _ _ (S1.keep _ _ _ h1 (λo q=>e1.extBut _ _ D.i1z q) λo q=>e1.extBut _ _ D.l1z q) hx λg2 h12 e2=>Ui ?_)
 have hTO2:IsPair g2 TO a b:=e2.extBut _ _ D.TOi1 (e1.extBut _ _ D.TOz hTO);refine Ug (Wa hTO2 rfl (show _ from ?_))
 refine Ug (wpAny_updateSeq_pair hTO2 λg3 hTO3 e3=>?_)
 replace hTO3:IsPair g3 TO x b:=hTO3;refine Ug (wpAny_letGo (Ui (show _ from ?_)))
 refine Ug (Ug (wpAny_onRaise (show _ from ?_)))
 show wpAny _ _ (Builtin.SmallTypes.nextOf (.ref i2)>>=λu=>_) _ _ _
 refine Ug (S2.item _ k _ y _ _ (S2.keep _ _ _ h2 (λo q=>e3.extBut _ _ D.TOi2.symm (e2.extBut _ _ D.i12.symm (e1.extBut _ _ D.i2z q))) λo q=>e3.extBut _ _ D.l2TO (e2.extBut _ _ D.l2i1 (e1.extBut _ _ D.l2z q))) hy λg4 h24 e4=>Ui ?_)
 have hTO4:IsPair g4 TO x b:=e4.extBut _ _ D.TOi2 hTO3;refine Ug (Wa hTO4 rfl (show _ from ?_))
 refine Ug (wpAny_updateSeq_pair hTO4 λg5 hTO5 e5=>?_)
 replace hTO5:IsPair g5 TO x y:=hTO5;refine Ug (wpAny_letGo (Ui (Ui (show _ from ?_))))
 refine Ug (Wa hTO5 rfl (show _ from ?_))
 refine Ug (wpAny_newTuple (show _ from ?_))
 have hsz:g5.objs.size=s.heap.objs.size:=by rw[e5.1,e4.1,e3.1,e2.1,e1.1]
 have hz5:IsZip g5 z TI TO .ellipsis:=e5.extBut _ _ D.TOz.symm (e4.extBut _ _ D.i2z.symm (e3.extBut _ _ D.TOz.symm (e2.extBut _ _ D.i1z.symm hz1)));have hk5:∀c o,c≠z->c≠TO->c≠i1->c≠i2->s.heap.get? c=some o->g5.get? c=some o:=λc o c1 c2 c3 c4 q=>e5.extBut _ _ c2 (e4.extBut _ _ c4 (e3.extBut _ _ c2 (e2.extBut _ _ c3 (e1.extBut _ _ c1 q))))
 have h15:st1 (k+1) g5:=S1.keep _ _ _ h12 (λo q=>e5.extBut _ _ D.TOi1.symm (e4.extBut _ _ D.i12 (e3.extBut _ _ D.TOi1.symm q))) λo q=>e5.extBut _ _ D.l1TO (e4.extBut _ _ D.l1i2 (e3.extBut _ _ D.l1TO q))
 have h25:st2 (k+1) g5:=S2.keep _ _ _ h24 (λo q=>e5.extBut _ _ D.TOi2.symm q) λo q=>e5.extBut _ _ D.l2TO q
 have hzlt:z<g5.objs.size:=Uk hz5;show wpAny _ _ (Builtin.SmallTypes.ownedTupleHandOut (.ref z) (.ref g5.objs.size)>>=λu=>_) _ _ _
 refine Ug ?_;unfold Builtin.SmallTypes.ownedTupleHandOut;have hz6:IsZip (g5.push { cls:=.type "tuple",data:=.seq #[x,y] }) z TI TO .ellipsis:=Uh _ hz5;refine Ug (wpAny_setField_rec hz6 (by simp) λg7 hz7 e7=>?_)
 replace hz7:IsZip g7 z TI TO (rawInt g5.objs.size):=hz7;refine wpAny_setField_rec hz7 (by simp) λg8 hz8 e8=>?_
 replace hz8:IsZip g8 z TI TO (rawInt g5.objs.size):=hz8;have up:∀c o,c≠z->g5.get? c=some o->g8.get? c=some o:=λc o c1 q=>e8.extBut _ _ c1 (e7.extBut _ _ c1 (Uh _ q))
 have hT8:IsPair g8 g5.objs.size x y:=e8.extBut _ _ (Wz hzlt) (e7.extBut _ _ (Wz hzlt) (Ul _ rfl));have sz8:g8.objs.size=g5.objs.size+1:=by rw[e8.1,e7.1,U4]
 rw[hsz]at hz8 hT8 sz8;refine Ui ⟨_,rfl,?_⟩;show Q (.ref g5.objs.size) _;rw[hsz];exact hQ g8 hz8 (up _ _ D.TOz hTO5) (S1.keep _ _ _ h15 (λo q=>up _ o D.i1z q) λo q=>up _ o D.l1z q) (S2.keep _ _ _ h25 (λo q=>up _ o D.i2z q) λo q=>up _ o D.l2z q) hT8 sz8 λc o c1 c2 c3 c4 q=>up c o c1 (hk5 c o c1 c2 c3 c4 q)
def JG(hh:A.handled=none)(D:ZipApart z TI TO i1 i2 l1 l2)(S1:SubIt P w i1 l1 xs st1)(S2:SubIt P w i2 l2 ys st2)
  (hz:IsZip s.heap z TI TO .none) (hTI:IsPair s.heap TI (.ref i1) (.ref i2)) (hTO:IsPair s.heap TO a b) (h1:st1 k s.heap) (h2:st2 k s.heap) (hend:xs[k]?=none\/ys[k]?=none)
  (hE:∀h' e,(∀c o,c≠z->c≠TO->c≠i1->c≠i2->s.heap.get? c=some o->h'.get? c=some o)->(∃o,h'.get? e=some o/\o.cls=.type "StopIteration")->E (.ref e) { s with heap:=h' }) :
  wpAny (model P w) A (Builtin.«zip.__next__» ⟨[.ref z],[]⟩) Q E s:=by
 show wpAny _ _ (field (.ref z) 2>>=λy=>_) _ _ _
 refine Ug (Vc hz rfl (x:=.bool false) rfl (show _ from ?_))
 show wpAny _ _ (field (.ref z) 3>>=λy=>_) _ _ _
 refine Ug (Vc hz rfl (x:=.ref TI) rfl (show _ from ?_))
 refine Ug (Wa hTI rfl (show _ from ?_))
 show wpAny _ _ (Builtin.SmallTypes.ownedTupleIsFree (.ref z)>>=λy=>_) _ _ _
 refine Ug ?_;unfold Builtin.SmallTypes.ownedTupleIsFree;refine Ug (Vc hz rfl (x:=.none) rfl (Ui (show _ from ?_)))
 simp only[if_true];refine Ug (Wk (show _ from ?_))
 refine Ug (Vc hz rfl (x:=.ref TO) rfl (show _ from ?_))
 refine Ug (wpAny_setField_rec hz (by simp) λg1 hz1 e1=>?_)
 replace hz1:IsZip g1 z TI TO .ellipsis:=hz1;refine Ug ?_;simp only[List.zipIdx_cons,List.zipIdx_nil,List.forIn_cons,List.forIn_nil];refine Ug (Ug (wpAny_onRaise (show _ from ?_)))
 show wpAny _ _ (Builtin.SmallTypes.nextOf (.ref i1)>>=λy=>_) _ _ _
 have h11:st1 k g1:=S1.keep _ _ _ h1 (λo q=>e1.extBut _ _ D.i1z q) λo q=>e1.extBut _ _ D.l1z q
 cases hx:xs[k]? with
 |none=>
   refine Ug (S1.done _ k _ _ _ hh h11 hx λg2 e e2 he=>?_)
   obtain⟨oe,hoe,hce⟩:=he;have hz2:IsZip g2 z TI TO .ellipsis:=e2 _ _ D.i1z.symm hz1;have hez:e≠z:=λq=>by subst q;rw[hz2]at hoe;cases hoe;simp at hce
   refine wpAny_setField_rec hz2 (by simp) λg3 y e3=>hE g3 e (λc o c1 y c3 y q=>e3.extBut _ _ c1 (e2 _ _ c3 (e1.extBut _ _ c1 q))) ⟨oe,e3.extBut _ _ hez hoe,hce⟩
 |some x=>
   have hy:ys[k]?=none:=by rcases hend with q | q;rw[hx]at q;cases q;exact q
   refine Ug (S1.item _ k _ x _ _ h11 hx λg2 h12 e2=>Ui ?_)
   have hTO2:IsPair g2 TO a b:=e2.extBut _ _ D.TOi1 (e1.extBut _ _ D.TOz hTO);refine Ug (Wa hTO2 rfl (show _ from ?_))
   refine Ug (wpAny_updateSeq_pair hTO2 λg3 hTO3 e3=>?_)
   refine Ug (wpAny_letGo (Ui (show _ from ?_)))
   refine Ug (Ug (wpAny_onRaise (show _ from ?_)))
   show wpAny _ _ (Builtin.SmallTypes.nextOf (.ref i2)>>=λy=>_) _ _ _
   refine Ug (S2.done _ k _ _ _ hh (S2.keep _ _ _ h2 (λo q=>e3.extBut _ _ D.TOi2.symm (e2.extBut _ _ D.i12.symm (e1.extBut _ _ D.i2z q))) λo q=>e3.extBut _ _ D.l2TO (e2.extBut _ _ D.l2i1 (e1.extBut _ _ D.l2z q))) hy λg4 e e4 he=>?_)
   obtain⟨oe,hoe,hce⟩:=he;have hz4:IsZip g4 z TI TO .ellipsis:=e4 _ _ D.i2z.symm (e3.extBut _ _ D.TOz.symm (e2.extBut _ _ D.i1z.symm hz1));have hez:e≠z:=λq=>by subst q;rw[hz4]at hoe;cases hoe;simp at hce
   refine wpAny_setField_rec hz4 (by simp) λg5 y e5=>hE g5 e (λc o c1 c2 c3 c4 q=>e5.extBut _ _ c1 (e4 _ _ c4 (e3.extBut _ _ c2 (e2.extBut _ _ c3 (e1.extBut _ _ c1 q))))) ⟨oe,e5.extBut _ _ hez hoe,hce⟩
end
abbrev pA(h:Heap)(T1:String)(l1:Addr):Heap:=h.push { cls:=.type T1,data:=.fields #[.ref l1,.int 0 0] }
abbrev Kh(h:Heap)(T1 T2:String)(l1 l2:Addr):Heap:=(pA h T1 l1).push { cls:=.type T2,data:=.fields #[.ref l2,.int 0 0] }
abbrev Kl(h:Heap)(T1 T2:String)(l1 l2:Addr):Heap:=(Kh h T1 T2 l1 l2).push { cls:=.type "tuple",data:=.seq #[.ref h.objs.size,.ref (pA h T1 l1).objs.size] }
abbrev qJ(h:Heap)(T1 T2:String)(l1 l2:Addr):Heap:=(Kl h T1 T2 l1 l2).push { cls:=.type "tuple",data:=.seq #[.none,.none] }
abbrev lM(h:Heap)(T1 T2:String)(l1 l2:Addr):Heap:=(qJ h T1 T2 l1 l2).push { cls:=.type "zip",data:=.fields #[.none,.bool false,.bool false,.ref (Kh h T1 T2 l1 l2).objs.size,.ref (Kl h T1 T2 l1 l2).objs.size] }
def xV(l1 l2:Addr)(xs ys:Array Value):
  Meets (Builtin.«zip.__new__» ⟨[.type "zip",.ref l1,.ref l2],[]⟩) (λz R s=>IsTup s.heap l1 xs/\IsTup s.heap l2 ys/\R (.ok (.ret (.ref (qJ s.heap "tuple_iterator" "tuple_iterator" l1 l2).objs.size))) { s with heap:=lM s.heap "tuple_iterator" "tuple_iterator" l1 l2 }):=
 .of_wp λprog w A R s h=>by
  obtain⟨hp,gn,dr,tk,os⟩:=s;obtain⟨k1,k2,h⟩:=h;have hsub:=sub_zip;have K1:IsTup (Shared.heap ⟨hp,gn,dr,tk,os⟩) l1 xs:=k1;have K2:IsTup (Shared.heap ⟨hp.push { cls:=.type "tuple_iterator",data:=.fields #[.ref l1,.int 0 0] },gn,dr,tk,os⟩) l2 ys:=k2.push _
  wp_walk using X8 K1,X8 K2
  exact⟨_,rfl,h⟩
def xT(l1 l2:Addr)(xs ys:Array Value):
  Meets (Builtin.«zip.__new__» ⟨[.type "zip",.ref l1,.ref l2],[]⟩) (λz R s=>s.heap.IsList l1 xs/\IsTup s.heap l2 ys/\R (.ok (.ret (.ref (qJ s.heap "list_iterator" "tuple_iterator" l1 l2).objs.size))) { s with heap:=lM s.heap "list_iterator" "tuple_iterator" l1 l2 }):=
 .of_wp λprog w A R s h=>by
  obtain⟨hp,gn,dr,tk,os⟩:=s;obtain⟨k1,k2,h⟩:=h;have hsub:=sub_zip;have K1:Heap.IsList (Shared.heap ⟨hp,gn,dr,tk,os⟩) l1 xs:=k1;have K2:IsTup (Shared.heap ⟨hp.push { cls:=.type "list_iterator",data:=.fields #[.ref l1,.int 0 0] },gn,dr,tk,os⟩) l2 ys:=k2.push _
  wp_walk using We K1,X8 K2
  exact⟨_,rfl,h⟩
def xU(l1 l2:Addr)(xs ys:Array Value):
  Meets (Builtin.«zip.__new__» ⟨[.type "zip",.ref l1,.ref l2],[]⟩) (λz R s=>IsTup s.heap l1 xs/\s.heap.IsList l2 ys/\R (.ok (.ret (.ref (qJ s.heap "tuple_iterator" "list_iterator" l1 l2).objs.size))) { s with heap:=lM s.heap "tuple_iterator" "list_iterator" l1 l2 }):=
 .of_wp λprog w A R s h=>by
  obtain⟨hp,gn,dr,tk,os⟩:=s;obtain⟨k1,k2,h⟩:=h;have hsub:=sub_zip;have K1:IsTup (Shared.heap ⟨hp,gn,dr,tk,os⟩) l1 xs:=k1;have K2:Heap.IsList (Shared.heap ⟨hp.push { cls:=.type "tuple_iterator",data:=.fields #[.ref l1,.int 0 0] },gn,dr,tk,os⟩) l2 ys:=Heap.IsList.push k2 _
  wp_walk using X8 K1,We K2
  exact⟨_,rfl,h⟩
def xR(l1 l2:Addr)(xs ys:Array Value):
  Meets (Builtin.«zip.__new__» ⟨[.type "zip",.ref l1,.ref l2],[]⟩) (λz R s=>s.heap.IsList l1 xs/\s.heap.IsList l2 ys/\R (.ok (.ret (.ref (qJ s.heap "list_iterator" "list_iterator" l1 l2).objs.size))) { s with heap:=lM s.heap "list_iterator" "list_iterator" l1 l2 }):=
 .of_wp λprog w A R s h=>by
  obtain⟨hp,gn,dr,tk,os⟩:=s;obtain⟨k1,k2,h⟩:=h;have hsub:=sub_zip;have K1:Heap.IsList (Shared.heap ⟨hp,gn,dr,tk,os⟩) l1 xs:=k1;have K2:Heap.IsList (Shared.heap ⟨hp.push { cls:=.type "list_iterator",data:=.fields #[.ref l1,.int 0 0] },gn,dr,tk,os⟩) l2 ys:=Heap.IsList.push k2 _
  wp_walk using We K1,We K2
  exact⟨_,rfl,h⟩
def eO(b:Bool)(h:Heap)(l:Addr)(xs:Array Value):Prop:=if b then IsTup h l xs else h.IsList l xs
def pD(b:Bool)(i l:Addr)(xs:Array Value)(k:Nat)(h:Heap):Prop:=(if b then IsTupIter h i l k else h.IsListIter i l k)/\eO b h l xs
def iV(b:Bool)(hne:l≠i)(its:Array Value):SubIt P w i l its (pD b i l its):=by
 cases b with
 |true=>exact Mq hne its
 |false=>exact Mp hne its
def eO.lt(q:eO b h l xs):l<h.objs.size:=by
 cases b with
 |true=>obtain⟨o,e,_⟩:=(show IsTup h l xs from q);exact Uk e
 |false=>obtain⟨o,e,_⟩:=(show h.IsList l xs from q);exact Uk e
def eO.keep(q:eO b h l xs)(k:∀o,h.get? l=some o->h'.get? l=some o):eO b h' l xs:=by
 cases b with
 |true=>obtain⟨o,e,r⟩:=(show IsTup h l xs from q);exact⟨o,k _ e,r⟩
 |false=>obtain⟨o,e,r⟩:=(show h.IsList l xs from q);exact⟨o,k _ e,r⟩
section
variable{P:Program}{w:World}{A:Around}{E:Value->Shared->Prop}{s:Shared}{l1 l2:Addr}{xs ys:Array Value}
def Eb(k1:eO b1 s.heap l1 xs)(k2:eO b2 s.heap l2 ys)
  (h:∀h',IsZip h' (s.heap.objs.size+4) (s.heap.objs.size+2) (s.heap.objs.size+3) .none->IsPair h' (s.heap.objs.size+2) (.ref s.heap.objs.size) (.ref (s.heap.objs.size+1))->IsPair h' (s.heap.objs.size+3) .none .none->
    pD b1 s.heap.objs.size l1 xs 0 h'->pD b2 (s.heap.objs.size+1) l2 ys 0 h'->h'.objs.size=s.heap.objs.size+5->(∀c o,s.heap.get? c=some o->h'.get? c=some o)->Q (.ref (s.heap.objs.size+4)) { s with heap:=h' }) :
  wpAny (model P w) A (call (.type "zip") [.ref l1,.ref l2]) Q E s:=by
 have fin:∀T1 T2,(∀h' k,h'.get? s.heap.objs.size=some { cls:=.type T1,data:=.fields #[.ref l1,.int 0 0] }->eO b1 h' l1 xs->k=0->pD b1 s.heap.objs.size l1 xs k h')->
   (∀h' k,h'.get? (s.heap.objs.size+1)=some { cls:=.type T2,data:=.fields #[.ref l2,.int 0 0] }->eO b2 h' l2 ys->k=0->pD b2 (s.heap.objs.size+1) l2 ys k h')->
   s.TypeIs (.ref (qJ s.heap T1 T2 l1 l2).objs.size) "zip"\/True->Q (.ref (qJ s.heap T1 T2 l1 l2).objs.size) { s with heap:=lM s.heap T1 T2 l1 l2 }/\({ s with heap:=lM s.heap T1 T2 l1 l2 }:Shared).TypeIs (.ref (qJ s.heap T1 T2 l1 l2).objs.size) "zip":=by
  intro T1 T2 f1 f2 _;have z1:(pA s.heap T1 l1).objs.size=s.heap.objs.size+1:=U4 ..
  have z2:(Kh s.heap T1 T2 l1 l2).objs.size=s.heap.objs.size+2:=by rw[U4,z1]
  have z3:(Kl s.heap T1 T2 l1 l2).objs.size=s.heap.objs.size+3:=by rw[U4,z2]
  have z4:(qJ s.heap T1 T2 l1 l2).objs.size=s.heap.objs.size+4:=by rw[U4,z3]
  have z5:(lM s.heap T1 T2 l1 l2).objs.size=s.heap.objs.size+5:=by rw[U4,z4]
  have up:∀c o,s.heap.get? c=some o->(lM s.heap T1 T2 l1 l2).get? c=some o:=λc o q=>Uh _ (Uh _ (Uh _ (Uh _ (Uh _ q))))
  have q5:(lM s.heap T1 T2 l1 l2).get? (qJ s.heap T1 T2 l1 l2).objs.size=some _:=Ul _ rfl;have q4:(lM s.heap T1 T2 l1 l2).get? (Kl s.heap T1 T2 l1 l2).objs.size=some _:=Uh _ (Ul _ rfl);have q3:(lM s.heap T1 T2 l1 l2).get? (Kh s.heap T1 T2 l1 l2).objs.size=some _:=Uh _ (Uh _ (Ul _ rfl));have q2:(lM s.heap T1 T2 l1 l2).get? (pA s.heap T1 l1).objs.size=some _:=Uh _ (Uh _ (Uh _ (Ul _ rfl)));have q1:(lM s.heap T1 T2 l1 l2).get? s.heap.objs.size=some _:=Uh _ (Uh _ (Uh _ (Uh _ (Ul _ rfl))));rw[z2,z3,z4]at q5;rw[z1,z2]at q3;rw[z3]at q4;rw[z1]at q2;rw[z4];exact⟨h _ q5 q3 q4 (f1 _ 0 q1 (k1.keep λo q=>up _ _ q) rfl) (f2 _ 0 q2 (k2.keep λo q=>up _ _ q) rfl) z5 up,_,q5,rfl⟩
 cases b1 with
 | true=>cases b2 with
   |true=>
     refine Ys F.called_zip (by decide) (Yn _ _) (Yq _ _) (λobj=>Xl obj _ _) Yw (xV l1 l2 xs ys) ⟨k1,k2,?_⟩
     obtain⟨a1,a2⟩:=fin "tuple_iterator" "tuple_iterator" (λh' k q q' e=>by subst e;exact⟨⟨_,q,rfl,rfl⟩,q'⟩) (λh' k q q' e=>by subst e;exact⟨⟨_,q,rfl,rfl⟩,q'⟩) (.inr trivial)
     exact⟨a2,a1⟩
   |false=>
     refine Ys F.called_zip (by decide) (Yn _ _) (Yq _ _) (λobj=>Xl obj _ _) Yw (xU l1 l2 xs ys) ⟨k1,k2,?_⟩
     obtain⟨a1,a2⟩:=fin "tuple_iterator" "list_iterator" (λh' k q q' e=>by subst e;exact⟨⟨_,q,rfl,rfl⟩,q'⟩) (λh' k q q' e=>by subst e;exact⟨⟨_,q,rfl,rfl⟩,q'⟩) (.inr trivial)
     exact⟨a2,a1⟩
 | false=>cases b2 with
   |true=>
     refine Ys F.called_zip (by decide) (Yn _ _) (Yq _ _) (λobj=>Xl obj _ _) Yw (xT l1 l2 xs ys) ⟨k1,k2,?_⟩
     obtain⟨a1,a2⟩:=fin "list_iterator" "tuple_iterator" (λh' k q q' e=>by subst e;exact⟨⟨_,q,rfl,rfl⟩,q'⟩) (λh' k q q' e=>by subst e;exact⟨⟨_,q,rfl,rfl⟩,q'⟩) (.inr trivial)
     exact⟨a2,a1⟩
   |false=>
     refine Ys F.called_zip (by decide) (Yn _ _) (Yq _ _) (λobj=>Xl obj _ _) Yw (xR l1 l2 xs ys) ⟨k1,k2,?_⟩
     obtain⟨a1,a2⟩:=fin "list_iterator" "list_iterator" (λh' k q q' e=>by subst e;exact⟨⟨_,q,rfl,rfl⟩,q'⟩) (λh' k q q' e=>by subst e;exact⟨⟨_,q,rfl,rfl⟩,q'⟩) (.inr trivial)
     exact⟨a2,a1⟩
end
section
variable{X:Cx}{YT:List (Addr×Obj)}{σ:St}{H:Hp}{s:Shared}{h':Heap}
def Inv.turnedL{t':Nat}{ch:List Addr}(I:Inv X YT σ H s)(k:∀b o,b∉ch->s.heap.get? b=some o->h'.get? b=some o)(hf:∀b∈ch,FpOk X YT H b)(hL:∀b∈ch,b≠X.env.locals):Inv X YT σ H { s with heap:=h',toks:=t' }:=by
 have nit:∀b u,H b=some u->b∉ch:=λb u e z=>by have:=(hf b z).1;rw[e]at this;cases this
 refine I.step (g':=s.gens) (d':=s.drawn) (ch:=ch) (λb hb=>?_) (λb o y y hc e y=>k b o hc e) (λb o y y hc e y=>⟨o.slots,k b o hc e⟩) (λy y y y n=>n)
  (λb o hc e=>⟨o,k b o hc e⟩) (λy y e=>e) (λy y y e=>e) (λb ps e=>⟨#[],by rw[e];simp⟩) (λm hm=>?_) (λb u e=>?_) I.bare
 ·obtain⟨_,f1,_,f3,f4,f5⟩:=hf b hb;exact⟨f3,f1,f4,f5⟩
 ·obtain⟨o,es,ep,ho,r⟩:=hm;exact⟨o,es,ep,k _ o (λz=>(hL _ z) rfl) ho,r⟩
 ·refine (I.hok b u e).stay (λc v hc q=>k c v ?_ q) (λy q=>q) λy y q=>q
  rcases hc with z | z
  ·rw[z];exact nit b u e
  ·exact nit c _ z
def Inv.turnedLay{t':Nat}{ch:List Addr}{p:Addr}{o:HO}(I:Inv X YT σ H s)(k:∀ b o,b∉ch->s.heap.get? b=some o->h'.get? b=some o)(hf:∀ b∈ch,FpOk X YT H b)(hp:s.heap.objs.size<=p)(new:ObjOk X.prog X.w (upd H p o) h' p o):Inv X YT σ (upd H p o) { s with heap:=h',toks:=t' }:=by
 have nit:∀b u,H b=some u->b∉ch:=λb u e z=>by have:=(hf b z).1;rw[e]at this;cases this
 have hn:H p=none:=I.hok.fresh hp;have tr:∀b u,H b=some u->upd H p o b=some u:=λb u e=>by rw[upd_ne (ne_of_none e hn)];exact e
 refine I.step (g':=s.gens) (d':=s.drawn) (ch:=ch) (λb hb=>?_) (λb o x x hc e x=>k b o hc e) (λb o x x hc e x=>⟨o.slots,k b o hc e⟩) (λb u x e n=>by rw[upd_ne (Ut (Um (Uk e) hp))];exact n)
  (λb o hc e=>⟨o,k b o hc e⟩) (λb xs e=>tr b _ e) (λb x x e=>tr b _ e) (λb ps e=>⟨#[],by rw[tr b _ e];simp⟩) (λm hm=>?_) (λb u e=>?_) I.bare
 ·obtain⟨_,f1,_,f3,f4,f5⟩:=hf b hb;exact⟨f3,f1,f4,f5⟩
 ·obtain⟨o,es,ep,ho,r⟩:=hm;exact⟨o,es,ep,k _ o (λz=>(hf _ z).2.1 rfl) ho,r⟩
 ·by_cases z:b=p
  ·subst z;rw[upd_same]at e;cases e;exact new
  ·rw[upd_ne z]at e;refine (I.hok b u e).stay (λc v hc q=>k c v ?_ q) (λc q=>tr c _ q) (λc xs q=>tr c _ q) λc o q=>tr c _ q
   rcases hc with y | y
   ·rw[y];exact nit b u e
   ·exact nit c _ y
end
def lq(b:Bool)(K:PySem.W.Frag)(H:Hp)(l:Addr)(xs:List V):Prop:=if b then SqT K H l xs else SqL K H l xs
def Inv.seqS{X:Cx}{YT:List (Addr×Obj)}{σ:St}{H:Hp}{s:Shared}{b:Bool}{l:Addr}{xs:List V}(I:Inv X YT σ H s)(h:lq b X.K H l xs):∃its:List Value,Vals xs its/\eO b s.heap l its.toArray/\xs.length<=sizeLine:=by
 cases b with
 |true=>obtain⟨its,r,p,z⟩:=I.tuple (show SqT X.K H l xs from h);exact⟨its,r,p,z⟩
 |false=>obtain⟨its,r,p,z⟩:=I.list (show SqL X.K H l xs from h);exact⟨its,r,p.isList,z⟩
def Inv.seqS_inj{X:Cx}{YT:List (Addr×Obj)}{σ:St}{H:Hp}{s:Shared}{b:Bool}{l:Addr}{xs ys:List V}(I:Inv X YT σ H s)(h:lq b X.K H l xs)(q:lq b X.K H l ys):xs=ys:=by
 cases b with
 |true=>exact I.tuple_inj (show SqT X.K H l xs from h) q
 |false=>exact I.list_inj (show SqL X.K H l xs from h) q
def dm(b:Bool)(i l:Addr)(k:Nat)(h:Heap):Prop:=if b then IsTupIter h i l k else h.IsListIter i l k
def dm.keep{b:Bool}{i l:Addr}{k:Nat}{h h':Heap}(q:dm b i l k h)(kk:∀o,h.get? i=some o->h'.get? i=some o):dm b i l k h':=by
 cases b with
 |true=>obtain⟨o,e,r⟩:=(show IsTupIter h i l k from q);exact⟨o,kk _ e,r⟩
 |false=>obtain⟨o,e,r⟩:=(show h.IsListIter i l k from q);exact⟨o,kk _ e,r⟩
def dm.obj{b:Bool}{i l:Addr}{k:Nat}{h:Heap}(q:dm b i l k h):∃o,h.get? i=some o/\∀v,o.data≠.cell v:=by
 cases b with
 |true=>obtain⟨o,e,_,d⟩:=(show IsTupIter h i l k from q);exact⟨o,e,λv z=>by rw[d]at z;cases z⟩
 |false=>obtain⟨o,e,_,d⟩:=(show h.IsListIter i l k from q);exact⟨o,e,λv z=>by rw[d]at z;cases z⟩
def RC(K:PySem.W.Frag)(b1 b2:Bool)(l1 l2:Addr):It:=
 ⟨fun i H=>∃xs ys x y,lq b1 K H l1 xs∧lq b2 K H l2 ys∧xs[i]?=some x∧ys[i]?=some y,
  λi H v H'=>∃p,H p=none/\v=.ref p/\∀xs ys,lq b1 K H l1 xs->lq b2 K H l2 ys->∃x y,xs[i]?=some x/\ys[i]?=some y/\H'=upd H p (.tup [x,y]),
  λi H=>∃xs ys,lq b1 K H l1 xs/\lq b2 K H l2 ys/\(xs[i]?=none\/ys[i]?=none)⟩
def qy{P:Program}{w:World}{A:Around}{E:Value->Shared->Prop}{s:Shared}{z TI TO:Addr}{f0:Value}{Q:Option Value->Shared->Prop}(hz:IsZip s.heap z TI TO f0)
  (h:wpAny (model P w) A.in1 (Builtin.«zip.__next__» ⟨[.ref z],[]⟩) (λfin s'=>∃v,fin=.done (.ret v)/\Q (some v) s') (λe s'=>∃o ea,e=.ref ea/\s'.heap.get? ea=some o/\o.cls=.type "StopIteration"/\Q none s') s):wpAny (model P w) A (pyNext (.ref z)) Q E s:=by
 have hT:s.TypeIs (.ref z) "zip":=⟨_,hz,rfl⟩;unfold pyNext;refine Ug (Wj (Vb (name:=Str.ofString "__next__") hT F.slot_zip_next (Vg F.slot_zip_next hT F.entry_zip_next (Us h (λfin s' q=>?_) λe s' q=>?_) (F.args_zip_next_1 _))))
 ·obtain⟨v,rfl,q⟩:=q;exact⟨v,rfl,Ui q⟩
 ·obtain⟨o,ea,rfl,ho,hc,q⟩:=q;exact Ug (Ym (T := "StopIteration") (b:=true) ⟨o,ho,hc⟩ isSubtype_stop (Ui q))
def JB{P:Program}{w:World}{K:PySem.W.Frag}{elts:List Expr}{x1}{tp:Pos}{b1 b2:Bool}{z TI TO i1 i2 l1 l2:Addr}(D:ZipApart z TI TO i1 i2 l1 l2):
  Turn P w K (.Tuple elts x1 tp) (RC K b1 b2 l1 l2) [z,TI,TO,i1,i2] z (λi h=>IsZip h z TI TO .none/\IsPair h TI (.ref i1) (.ref i2)/\(∃a b,IsPair h TO a b)/\dm b1 i1 l1 i h/\dm b2 i2 l2 i h) where
 mem:=by simp
 obj:=λi h st b hb=>by
  obtain⟨hz,hTI,⟨a,c,hTO⟩,h1,h2⟩:=st;simp only[List.mem_cons,List.mem_nil_iff,or_false]at hb;rcases hb with rfl | rfl | rfl | rfl | rfl
  ·exact⟨_,hz,λv q=>by cases q⟩
  ·exact⟨_,hTI,λv q=>by cases q⟩
  ·exact⟨_,hTO,λv q=>by cases q⟩
  ·exact h1.obj
  ·exact h2.obj
 keep:=λi h h' st k=>by obtain⟨hz,hTI,⟨a,c,hTO⟩,h1,h2⟩:=st;exact⟨k z (by simp) _ hz,k TI (by simp) _ hTI,⟨a,c,k TO (by simp) _ hTO⟩,h1.keep λo q=>k i1 (by simp) o q,h2.keep λo q=>k i2 (by simp) o q⟩
 item:=by
  intro X hP hw hK hc i YT s σ H E I hf st hg;subst hP hw hK;obtain⟨hz,hTI,⟨a,c,hTO⟩,h1,h2⟩:=st;obtain⟨xs,ys,x,y,s1,s2,hx,hy⟩:=hg;obtain⟨its1,r1,q1,_⟩:=I.seqS s1;obtain⟨its2,r2,q2,_⟩:=I.seqS s2;obtain⟨u1,e1,ru1⟩:=r1.get hx;obtain⟨u2,e2,ru2⟩:=r2.get hy;refine qy hz (Us (Hw D (iV b1 D.l1i1 its1.toArray) (iV b2 D.l2i2 its2.toArray) hz hTI hTO ⟨h1,q1⟩ ⟨h2,q2⟩ (by simpa using e1) (by simpa using e2) (Q:=λv s'=>∃h',v=.ref s.heap.objs.size/\s'={ s with heap:=h' }/\IsZip h' z TI TO (rawInt s.heap.objs.size)/\IsPair h' TO u1 u2/\dm b1 i1 l1 (i+1) h'/\dm b2 i2 l2 (i+1) h'/\IsPair h' s.heap.objs.size u1 u2/\(∀c o,c≠z->c≠TO->c≠i1->c≠i2->s.heap.get? c=some o->h'.get? c=some o)) (E:=λu u=>False)
   λh' a1 a2 a3 a4 a5 a6 a7=>⟨h',rfl,rfl,a1,a2,a3.1,a4.1,a5,a7⟩) (λfin s' q=>?_) λu u q=>q.elim)
  obtain⟨v,rfl,h',rfl,rfl,a1,a2,a3,a4,a5,a7⟩:=q;refine⟨_,rfl,_,rfl,wpAny_letOwnedTupleGo_zip a1 λh2' hz' hs'=>?_⟩
  have lt:z<s.heap.objs.size:=Uk hz;have kk:∀b o,b∉[z,TI,TO,i1,i2]->s.heap.get? b=some o->h2'.get? b=some o:=λb o hb q=>hs'.extBut _ _ (λe=>hb (by simp[e])) (a7 b o (λe=>hb (by simp[e])) (λe=>hb (by simp[e])) (λe=>hb (by simp[e])) (λe=>hb (by simp[e])) q)
  have fresh:H s.heap.objs.size=none:=I.hok.fresh (Ur _);have I1:Inv X YT σ H { s with heap:=h2',toks:=s.toks }:=I.turnedL kk hf (λb hb=>(hf b hb).2.1)
  have pr:IsPair h2' s.heap.objs.size u1 u2:=hs'.extBut _ _ (Wz lt) a5;have nw:ObjOk X.prog X.w (upd H s.heap.objs.size (.tup [x,y])) h2' s.heap.objs.size (.tup [x,y]):=⟨by show 2<=sizeLine;decide,[u1,u2],.cons ru1 (.cons ru2 .nil),⟨_,pr,rfl,_,rfl⟩⟩
  have nfp:∀b∈[z,TI,TO,i1,i2],b≠s.heap.objs.size:=λb hb e=>by
   obtain⟨o,ho,_⟩:∃o,s.heap.get? b=some o/\True:=by
    simp only[List.mem_cons,List.mem_nil_iff,or_false]at hb;rcases hb with rfl | rfl | rfl | rfl | rfl
    ·exact⟨_,hz,trivial⟩
    ·exact⟨_,hTI,trivial⟩
    ·exact⟨_,hTO,trivial⟩
    ·obtain⟨o,q,_⟩:=h1.obj;exact⟨o,q,trivial⟩
    ·obtain⟨o,q,_⟩:=h2.obj;exact⟨o,q,trivial⟩
   exact absurd (Uk ho) (by rw[e];exact V1 _)
  refine⟨.ref s.heap.objs.size,upd H s.heap.objs.size (.tup [x,y]),?_,rfl,⟨_,fresh,rfl,λxs' ys' q1' q2'=>⟨x,y,by rw[I.seqS_inj q1' s1];exact hx,by rw[I.seqS_inj q2' s2];exact hy,rfl⟩⟩,⟨hz',?_,⟨u1,u2,hs'.extBut _ _ D.TOz a2⟩,a3.keep λo q=>hs'.extBut _ _ D.i1z q,a4.keep λo q=>hs'.extBut _ _ D.i2z q⟩,λb hb=>by rw[upd_ne (nfp b hb)];exact (hf b hb).1⟩
  ·exact I.turnedLay (t':=s.toks) kk hf (Ur _) nw
  ·exact hs'.extBut _ _ D.TIz (a7 _ _ D.TIz D.TITO D.TIi1 D.TIi2 hTI)
 done:=by
  intro X hP hw hK hc i YT s σ H E I hf st hg;subst hP hw hK;obtain⟨hz,hTI,⟨a,c,hTO⟩,h1,h2⟩:=st;obtain⟨xs,ys,s1,s2,hend⟩:=hg;obtain⟨its1,r1,q1,_⟩:=I.seqS s1;obtain⟨its2,r2,q2,_⟩:=I.seqS s2;have hend':its1.toArray[i]?=none\/its2.toArray[i]?=none:=hend.imp (λq=>by simpa using r1.none_of q) λq=>by simpa using r2.none_of q
  refine qy hz (JG (show X.A.in1.handled=none from I.ok.hd hc) D (iV b1 D.l1i1 its1.toArray) (iV b2 D.l2i2 its2.toArray) hz hTI hTO ⟨h1,q1⟩ ⟨h2,q2⟩ hend' λh' e kk he=>?_)
  obtain⟨o,ho,hco⟩:=he;exact⟨o,e,rfl,ho,hco,rfl,I.turnedL (t':=s.toks) (λb o hb q=>kk b o (λe=>hb (by simp[e])) (λe=>hb (by simp[e])) (λe=>hb (by simp[e])) (λe=>hb (by simp[e])) q) hf (λb hb=>(hf b hb).2.1)⟩
 self:=λu u u u u st h=>wpAny_pyIter_zip st.1 h
set_option tactic.hygienic true in
def xQ(l:Addr)(xs:Array Value):
  Meets (Builtin.«enumerate.__new__» ⟨[.type "enumerate",.ref l],[]⟩) (λz R s=>IsTup s.heap l xs /\
   R (.ok (.ret (.ref (pA s.heap "tuple_iterator" l).objs.size))) { s with heap:=(pA s.heap "tuple_iterator" l).push { cls:=.type "enumerate",data:=.fields #[.none,.bool false,.ref s.heap.objs.size,rawInt 0,.none,.none] } }):=
 .of_wp λprog w A R s h=>by
  obtain⟨hp,gn,dr,tk,os⟩:=s;obtain⟨k1,h⟩:=h;have hsub:=sub_enumerate;have K1:IsTup (Shared.heap ⟨hp,gn,dr,tk,os⟩) l xs:=k1;obtain⟨ot,hot,r⟩:=id K1
  wp_walk using XX hot
  refine wpAny_stack_any λsk=>Ui ?_
  split
  ·rename_i c _ _ _ _ _;cases (c==Value.type "enumerate")<;>(wp_walk using XX hot,X8 K1;exact⟨_,rfl,h⟩)
  ·wp_walk using XX hot,X8 K1
   exact⟨_,rfl,h⟩
section
variable{P:Program}{w:World}{A:Around}{E:Value->Shared->Prop}{s:Shared}{e it l:Addr}{xs:Array Value}{st:Nat->Heap->Prop}
def Bd(k1:eO b s.heap l xs)
  (h:∀h',IsEnum h' (s.heap.objs.size+1) s.heap.objs.size 0 .none->pD b s.heap.objs.size l xs 0 h'->h'.objs.size=s.heap.objs.size+2->(∀c o,s.heap.get? c=some o->h'.get? c=some o)->Q (.ref (s.heap.objs.size+1)) { s with heap:=h' }) :
  wpAny (model P w) A (call (.type "enumerate") [.ref l]) Q E s:=by
 cases b with
 |false=>exact call_enumerate_list (show s.heap.IsList l xs from k1) λh' a1 a2 a3 a4=>h h' a1 ⟨a2,k1.keep λo q=>a4 _ _ q⟩ a3 a4
 |true=>
   refine Ys F.called_enumerate (by decide) (F.typeCall_enumerate_1 _) (F.newCall_enumerate_1 _) (λobj=>F.args_object_init_2 obj _) F.entry_enumerate_new (xQ l xs) ⟨k1,?_⟩
   have z1:(pA s.heap "tuple_iterator" l).objs.size=s.heap.objs.size+1:=U4 ..
   have up:∀c o,s.heap.get? c=some o->((pA s.heap "tuple_iterator" l).push { cls:=.type "enumerate",data:=.fields #[.none,.bool false,.ref s.heap.objs.size,rawInt 0,.none,.none] }).get? c=some o:=λc o q=>Uh _ (Uh _ q)
   have q2:((pA s.heap "tuple_iterator" l).push { cls:=.type "enumerate",data:=.fields #[.none,.bool false,.ref s.heap.objs.size,rawInt 0,.none,.none] }).get? (pA s.heap "tuple_iterator" l).objs.size=some _:=Ul _ rfl;have q1:((pA s.heap "tuple_iterator" l).push { cls:=.type "enumerate",data:=.fields #[.none,.bool false,.ref s.heap.objs.size,rawInt 0,.none,.none] }).get? s.heap.objs.size=some _:=Uh _ (Ul _ rfl);show _/\_;rw[z1]at q2 ⊢
   exact⟨⟨_,q2,rfl⟩,h _ q2 ⟨⟨_,q1,rfl,rfl⟩,k1.keep λo q=>up _ _ q⟩ (by rw[U4,z1]) up⟩
def Bp{i:Nat}{Q:Value->Shared->Prop}(S:SubIt P w it l xs st)(ne:e≠it)(nl:l≠e)(he:IsEnum s.heap e it i old)(h0:st i s.heap)(hx:xs[i]?=some x)
  (hQ:∀h',IsEnumOut h' e it ((i:Int)+1) x s.heap.objs.size->st (i+1) h'->IsPair h' s.heap.objs.size (.int i s.toks) x->h'.objs.size=s.heap.objs.size+1->
    (∀c o,c≠e->c≠it->s.heap.get? c=some o->h'.get? c=some o)->Q (.ref s.heap.objs.size) { s with heap:=h',toks:=s.toks+1 }) :
  wpAny (model P w) A (Builtin.«enumerate.__next__» ⟨[.ref e],[]⟩) (λfin s'=>∃v,fin=.done (.ret v)/\Q v s') E s:=by
 obtain⟨hp,gn,dr,tk,os⟩:=s;show wpAny _ _ (field (.ref e) 2>>=λz=>_) _ _ _
 refine Ug (Vc he rfl (x:=.ref it) rfl (show _ from ?_))
 refine Ug (S.item _ i _ x _ _ h0 hx λg1 n1 e1=>(show _ from ?_))
 replace e1:Heap.SameBut it hp g1:=e1;have c1:IsEnum g1 e it i old:=e1.extBut _ _ ne he;show wpAny _ _ (field (.ref e) 3>>=λz=>_) _ _ ⟨g1,gn,dr,tk,os⟩
 refine Ug (Vc c1 rfl (x:=rawInt i) rfl (show _ from ?_))
 show wpAny _ _ (field (.ref e) 4>>=λz=>_) _ _ ⟨g1,gn,dr,tk,os⟩
 refine Ug (Vc c1 rfl (x:=.none) rfl (show _ from ?_))
 show wpAny _ _ (mkInt i>>=λz=>_) _ _ ⟨g1,gn,dr,tk,os⟩
 refine Ug (wpAny_mkInt (show _ from ?_))
 show wpAny _ _ (setField (.ref e) 3 (rawInt ((i:Int)+1))>>=λz=>_) _ _ ⟨g1,gn,dr,tk+1,os⟩
 refine Ug (wpAny_setField_rec c1 (by simp) λg2 c2 e2=>?_)
 replace e2:Heap.SameBut e g1 g2:=e2;replace c2:IsEnum g2 e it ((i:Int)+1) old:=c2;show wpAny _ _ (setField (.ref e) 4 .none>>=λz=>_) _ _ ⟨g2,gn,dr,tk+1,os⟩
 refine Ug (wpAny_setField_rec c2 (by simp) λg3 c3 e3=>?_)
 replace e3:Heap.SameBut e g2 g3:=e3;replace c3:IsEnum g3 e it ((i:Int)+1) old:=c3;show wpAny _ _ (newTuple [.int i tk,x]>>=λz=>_) _ _ ⟨g3,gn,dr,tk+1,os⟩
 refine Ug (wpAny_newTuple (show _ from ?_))
 have c4:IsEnum (g3.push { cls:=.type "tuple",data:=.seq #[.int i tk,x] }) e it ((i:Int)+1) old:=Uh _ c3;have sz:g3.objs.size=hp.objs.size:=by rw[e3.1,e2.1,e1.1]
 have el:e<hp.objs.size:=Uk he;have t4:IsPair (g3.push { cls:=.type "tuple",data:=.seq #[.int i tk,x] }) hp.objs.size (.int i tk) x:=by rw[<-sz];exact Ul _ rfl
 have z4:(g3.push { cls:=.type "tuple",data:=.seq #[.int i tk,x] }).objs.size=hp.objs.size+1:=by rw[U4,sz]
 have k4:∀c o,c≠e->c≠it->hp.get? c=some o->(g3.push { cls:=.type "tuple",data:=.seq #[.int i tk,x] }).get? c=some o:=λc o a1 a2 q=>Uh _ (e3.extBut _ _ a1 (e2.extBut _ _ a1 (e1.extBut _ _ a2 q)))
 have n4:st (i+1) (g3.push { cls:=.type "tuple",data:=.seq #[.int i tk,x] }):=S.keep _ _ _ n1 (λo q=>Uh _ (e3.extBut _ _ ne.symm (e2.extBut _ _ ne.symm q))) λo q=>Uh _ (e3.extBut _ _ nl (e2.extBut _ _ nl q))
 revert c4 t4 z4 k4 n4;generalize g3.push { cls:=.type "tuple",data:=.seq #[.int i tk,x] }=g4;intro c4 t4 z4 k4 n4;show wpAny _ _ (Builtin.SmallTypes.ownedTupleIsFree (.ref e)>>=λz=>_) _ _ ⟨g4,gn,dr,tk+1,os⟩
 rw[sz];refine Ug ?_;unfold Builtin.SmallTypes.ownedTupleIsFree;refine Ug (Vc c4 rfl (x:=.none) rfl (Ui (show _ from ?_)))
 simp only[if_true];refine Ug (Wk (show _ from ?_))
 refine Ug (Vc c4 rfl (x:=old) rfl (show _ from ?_))
 refine Ug (wpAny_setField_rec c4 (by simp) λg5 c5 e5=>?_)
 replace e5:Heap.SameBut e g4 g5:=e5;replace c5:IsEnum g5 e it ((i:Int)+1) x:=c5;show wpAny _ _ (Builtin.SmallTypes.ownedTupleHandOut (.ref e) (.ref hp.objs.size)>>=λz=>_) _ _ ⟨g5,gn,dr,tk+1,os⟩
 refine Ug ?_;unfold Builtin.SmallTypes.ownedTupleHandOut;refine Ug (wpAny_setField_rec c5 (by simp) λg6 c6 e6=>?_)
 replace e6:Heap.SameBut e g5 g6:=e6;replace c6:IsEnumOut g6 e it ((i:Int)+1) x hp.objs.size:=c6;refine wpAny_setField_rec c6 (by simp) λg7 c7 e7=>?_
 replace e7:Heap.SameBut e g6 g7:=e7;replace c7:IsEnumOut g7 e it ((i:Int)+1) x hp.objs.size:=c7;have up:∀c o,c≠e->g4.get? c=some o->g7.get? c=some o:=λc o a1 q=>e7.extBut _ _ a1 (e6.extBut _ _ a1 (e5.extBut _ _ a1 q))
 refine Ug (wpAny_letGo (Ui ⟨_,rfl,hQ g7 c7 ?_ (up _ _ (Wz el) t4) (by rw[e7.1,e6.1,e5.1,z4]) λc o a1 a2 q=>up _ _ a1 (k4 _ _ a1 a2 q)⟩))
 exact S.keep _ _ _ n4 (λo q=>up _ _ ne.symm q) λo q=>up _ _ nl q
def yj{i:Nat}{Q:Option Value->Shared->Prop}(S:SubIt P w it l xs st)(ne:e≠it)(nl:l≠e)(he:IsEnum s.heap e it i old)(h0:st i s.heap)(hx:xs[i]?=some x)
  (hQ:∀h',IsEnumOut h' e it ((i:Int)+1) x s.heap.objs.size->st (i+1) h'->IsPair h' s.heap.objs.size (.int i s.toks) x->h'.objs.size=s.heap.objs.size+1->
    (∀c o,c≠e->c≠it->s.heap.get? c=some o->h'.get? c=some o)->Q (some (.ref s.heap.objs.size)) { s with heap:=h',toks:=s.toks+1 }):wpAny (model P w) A (pyNext (.ref e)) Q E s:=by
 have T:s.TypeIs (.ref e) "enumerate":=⟨_,he,rfl⟩;unfold pyNext;exact Ug (Wj (Vb (name:=Str.ofString "__next__") T Xf (Vg Xf T F.entry_enumerate_next (Bp S ne nl he h0 hx λh' a b c d k=>Ui (hQ h' a b c d k)) (F.args_enumerate_next_1 _))))
def yh{i:Nat}{Q:Option Value->Shared->Prop}(hh:A.handled=none)(S:SubIt P w it l xs st)(he:IsEnum s.heap e it i old)(h0:st i s.heap)(hx:xs[i]?=none)
  (hQ:∀h',Heap.ExtBut it s.heap h'->Q none { s with heap:=h' }):wpAny (model P w) A (pyNext (.ref e)) Q E s:=by
 have T:s.TypeIs (.ref e) "enumerate":=⟨_,he,rfl⟩;unfold pyNext;refine Ug (Wj (Vb (name:=Str.ofString "__next__") T Xf (Vg Xf T F.entry_enumerate_next (show _ from ?_) (F.args_enumerate_next_1 _))))
 show wpAny _ _ (field (.ref e) 2>>=λz=>_) _ _ _
 refine Ug (Vc he rfl (x:=.ref it) rfl (show _ from ?_))
 refine Ug (S.done _ i _ _ _ (show A.in1.handled=none from hh) h0 hx λh' y e1 hy=>?_)
 obtain⟨o,ho,hc⟩:=hy;exact Ug (Ym (T := "StopIteration") (b:=true) ⟨o,ho,hc⟩ isSubtype_stop (Ui (hQ _ e1)))
end
def RB(K:PySem.W.Frag)(b:Bool)(l:Addr):It:=
 ⟨fun i H=>∃xs x,lq b K H l xs∧xs[i]?=some x,
  λi H v H'=>∃p,H p=none/\v=.ref p/\∀xs,lq b K H l xs->∃x,xs[i]?=some x/\H'=upd H p (.tup [.int (i:Int),x]),
  λi H=>∃xs,lq b K H l xs/\xs[i]?=none⟩
def Hr{P:Program}{w:World}{K:PySem.W.Frag}{elts:List Expr}{x1}{tp:Pos}{b:Bool}{e it l:Addr}(ne:e≠it)(nl:l≠e)(ni:l≠it):
  Turn P w K (.Tuple elts x1 tp) (RB K b l) [e,it] e (λi h=>(∃old,IsEnum h e it i old)/\dm b it l i h) where
 mem:=by simp
 obj:=λi h st c hc=>by
  obtain⟨⟨old,he⟩,h1⟩:=st;simp only[List.mem_cons,List.mem_nil_iff,or_false]at hc;rcases hc with rfl | rfl
  ·exact⟨_,he,λv q=>by cases q⟩
  ·exact h1.obj
 keep:=λi h h' st k=>by obtain⟨⟨old,he⟩,h1⟩:=st;exact⟨⟨old,k e (by simp) _ he⟩,h1.keep λo q=>k it (by simp) o q⟩
 item:=by
  intro X hP hw hK hc i YT s σ H E I hf st hg;subst hP hw hK;obtain⟨⟨old,he⟩,h1⟩:=st;obtain⟨xs,x,s1,hx⟩:=hg;obtain⟨its1,r1,q1,_⟩:=I.seqS s1;obtain⟨u1,e1,ru1⟩:=r1.get hx;refine yj (iV b ni its1.toArray) ne nl he ⟨h1,q1⟩ (by simpa using e1) λh' a1 a2 a3 a4 a5=>⟨_,rfl,wpAny_letOwnedTupleGo_enum a1 λh2' he' hs'=>?_⟩
  have lt:e<s.heap.objs.size:=Uk he;have kk:∀c o,c∉[e,it]->s.heap.get? c=some o->h2'.get? c=some o:=λc o hb q=>hs'.extBut _ _ (λz=>hb (by simp[z])) (a5 c o (λz=>hb (by simp[z])) (λz=>hb (by simp[z])) q)
  have fresh:H s.heap.objs.size=none:=I.hok.fresh (Ur _);have pr:IsPair h2' s.heap.objs.size (.int i s.toks) u1:=hs'.extBut _ _ (Wz lt) a3;have nw:ObjOk X.prog X.w (upd H s.heap.objs.size (.tup [.int (i:Int),x])) h2' s.heap.objs.size (.tup [.int (i:Int),x]):=⟨by show 2<=sizeLine;decide,[.int i s.toks,u1],.cons ⟨_,rfl⟩ (.cons ru1 .nil),⟨_,pr,rfl,_,rfl⟩⟩
  have nfp:∀c∈[e,it],c≠s.heap.objs.size:=λc hc z=>by
   obtain⟨o,ho⟩:∃o,s.heap.get? c=some o:=by
    simp only[List.mem_cons,List.mem_nil_iff,or_false]at hc;rcases hc with rfl | rfl
    ·exact⟨_,he⟩
    ·obtain⟨o,q,_⟩:=h1.obj;exact⟨o,q⟩
   exact absurd (Uk ho) (by rw[z];exact V1 _)
  refine⟨.ref s.heap.objs.size,upd H s.heap.objs.size (.tup [.int (i:Int),x]),?_,rfl,⟨_,fresh,rfl,λxs' q1'=>⟨x,by rw[I.seqS_inj q1' s1];exact hx,rfl⟩⟩,⟨⟨_,he'⟩,(show dm b it l (i+1) h' from a2.1).keep λo q=>hs'.extBut _ _ ne.symm q⟩,λc hc=>by rw[upd_ne (nfp c hc)];exact (hf c hc).1⟩
  exact I.turnedLay (t':=s.toks+1) kk hf (Ur _) nw
 done:=by
  intro X hP hw hK hc i YT s σ H E I hf st hg;subst hP hw hK;obtain⟨⟨old,he⟩,h1⟩:=st;obtain⟨xs,s1,hend⟩:=hg;obtain⟨its1,r1,q1,_⟩:=I.seqS s1;refine yh (I.ok.hd hc) (iV b ni its1.toArray) he ⟨h1,q1⟩ (by simpa using r1.none_of hend) λh' e1=>?_
  exact⟨rfl,I.turnedL (t':=s.toks) (λc o hb q=>e1 _ _ (λz=>hb (by simp[z])) q) hf (λc hc=>(hf c hc).2.1)⟩
 self:=λy y y y y st h=>by obtain⟨⟨old,he⟩,_⟩:=st;exact wpAny_pyIter_enum he h
def Bc:bootBuiltins "list"=some (.type "list"):=by decide +kernel
theorem vO:∀ (vs:List Value) (k:Nat),(∀ (j:Nat) v,vs[j]?=some v->∃ t,v=.int ((k + j:Nat):Int) t)->Vals ((List.range' k vs.length).map λi:Nat=>V.int (i:Int)) vs
 |[],k,_=>.nil
 | v::vs,k,h=>by
   have h0:=h 0 v rfl;have ih:=vO vs (k+1) λj u e=>by
    have:=h (j+1) u (by simpa using e)
    rw[show k+1+j=k+(j+1) by lia];exact this
   rw[Vn,List.range'_succ,Vo];exact .cons h0 ih
section
variable{X:Cx}
def Rq(ta:TA):TE:=λσ H Q=>ta σ H λvs H1=>∃j:Int,vs=[.int j]/\j<=2^20/\-(2^62)<=j/\∀l,H1 l=none->Q (.ref l) (upd H1 l (.lst ((List.range j.toNat).map λi:Nat=>V.int (i:Int))))
def Gu(hc:X.calm=true)(hgL:Gl X "list")(hmL:X.mg "list"=none)(hg:Gl X "range")(hm:X.mg "range"=none)(ha:PA X [a] ta)(hs:notStar a=true:=by rfl):
  PE X (.Call (.Name "list" p1) [.Call (.Name "range" p2) [a] [] pos2] [] pos1) (Rq ta):=by
 intro YT s σ H Q I h;have hst:starEach [Expr.Call (.Name "range" p2) [a] [] pos2] X.env=(false,eval (.Call (.Name "range" p2) [a] [] pos2) X.env)::starEach [] X.env:=bu rfl;refine Call_ (ld_blt I hgL hmL Bc (VD ?_ hst rfl));rw[hst];show wpAny _ _ (spliced ((false,eval (.Call (.Name "range" p2) [a] [] pos2) X.env)::[])) _ _ s;refine Yy ?_;refine Call_ (ld_blt I hg hm boot_range (VD (thn (ha pos2 YT s σ H _ I h) λus s1 ⟨vs,H1,I1,r1,q1⟩=>?_) (bu hs) rfl))
 obtain⟨j,e,q1,q2,q⟩:=q1;subst e;cases r1 with
 | cons r rr=>
   cases rr;obtain⟨t,rfl⟩:=r;refine call_range_1 ?_;refine YC ?_;have rs:Builtin.Range.rangeSize 0 j 1=((j.toNat:Nat):Int):=by rw[rangeSize_one];split<;>lia
   refine call_list_range (n:=j.toNat) (I1.ok.hd hc) (IsRange.new ..) (small_one (by lia) (by lia) q2 (by lia)) rs (by lia) λh' tk acc c k1 k2 k3=>?_
   have vl:Vals ((List.range j.toNat).map λi:Nat=>V.int (i:Int)) acc.toList:=by
    have:=vO acc.toList 0 λi v e=>by
     obtain⟨t,rfl⟩:=k3.2 i v (by simpa using e)
     exact⟨t,by congr 1;lia⟩
    rw[List.range_eq_range'];rw[show acc.toList.length=j.toNat by simpa using k3.1]at this
    exact this
   refine⟨.ref _,upd H1 _ (.lst ((List.range j.toNat).map λi:Nat=>V.int (i:Int))),?_,rfl,q _ (I1.hok.fresh ?_)⟩
   ·refine I1.turnedLay (ch:=[]) (t':=tk) (λb o z e=>k1 b o (Uh _ e)) (λb hb=>nomatch hb) ?_ ⟨?_,acc.toList,c,vl,k2⟩
    ·rw[U4];lia
    ·rw[UV,Wt];show _<=2^24;lia
   ·rw[U4];lia
end
end L2
namespace L2
open PySem PySem.Spec PyProof.Rows
open PySem.AutoSeq1 (wpAny_loadPart')
open PySem PySem.Spec PyProof.Rows
end L2
namespace L2
open PySem PySem.Spec PyProof.Rows
end L2
namespace L2
open PySem PySem.Spec
end L2
namespace L2
open PySem PySem.Spec PyProof.Rows
abbrev NT:=Int×List Int
def QT(k:NT):Int:=reduceHash (Builtin.Tuple.tupleHashOf [hashInt k.1,reduceHash (Builtin.Tuple.tupleHashOf (k.2.map hashInt))])
def R4(x:NT×Addr×Addr):DictEntry:=⟨QT x.1,.ref x.2.1,.ref x.2.2⟩
def Tq(d:Addr)(xs:List (NT×Addr×Addr)):HO:=.ext λh=>(∃o es ep,h.get? d=some o/\o.ExactDict/\o.data=.dict es ep/\es.toList=xs.map R4)/\(d==sysModules)=false/\xs.length<=sizeLine
end L2
namespace LS
open PySem
def lg(xs:Array Nat):Prop:=xs.toList.Pairwise (·< ·)
def lg.lt{xs:Array Nat}(h:lg xs){a b:Nat}(hab:a<b)(hb:b<xs.size):xs[a]<xs[b]:=by
 have:=YG.mp h a b (by simpa using YH hab hb) (by simpa using hb) hab
 simpa using this
structure Bel(xs:Array Nat)(j r:Nat):Prop where
 le:r<=xs.size
 lo:∀k (hk:k<xs.size),k<r->xs[k]<j
 hi:∀k (hk:k<xs.size),r<=k->j<=xs[k]
theorem qL{xs:Array Nat}{j:Nat}(h:lg xs):∀ (fuel lo hi:Nat),hi - lo<=fuel->lo<=hi->hi<=xs.size->(∀ k (hk:k<xs.size),k<lo->xs[k]<j)->(∀ k (hk:k<xs.size),hi<=k->j<=xs[k])->Bel xs j (SetTable.below.go xs j fuel lo hi)
 |0,lo,hi,hf,hl,hs,h1,h2=>by
   unfold SetTable.below.go;have:lo=hi:=by lia
   subst this;exact⟨hs,h1,h2⟩
 | fuel + 1,lo,hi,hf,hl,hs,h1,h2=>by
   unfold SetTable.below.go;by_cases c:lo<hi
   ·rw[Uv c];dsimp only;have hm:(lo+hi) / 2<hi:=by lia
    have hm':lo<=(lo+hi) / 2:=by lia
    generalize (lo+hi) / 2=mid at hm hm';have hms:mid<xs.size:=by lia
    have e:xs.getD mid j=xs[mid]:=by rw[Array.getD_eq_getD_getElem?,VM hms];rfl
    rw[e];by_cases c2:xs[mid]<j
    ·rw[Uv c2];refine qL h fuel (mid+1) hi (by lia) (by lia) hs (λk hk hkm=>?_) h2
     by_cases q:k=mid
     ·subst q;exact c2
     ·have:=h.lt (show k<mid by lia) hms;lia
    ·rw[Ux c2];refine qL h fuel lo mid (by lia) hm' (by lia) h1 (λk hk hkm=>?_)
     by_cases q:k=mid
     ·subst q;lia
     ·have:=h.lt (show mid<k by lia) hk;lia
   ·rw[Ux c];have:lo=hi:=by lia
    subst this;exact⟨hs,h1,h2⟩
def jN{xs:Array Nat}(h:lg xs)(j:Nat):Bel xs j (SetTable.below xs j):=by unfold SetTable.below;exact qL h xs.size 0 xs.size (by lia) (by lia) (Ur _) (λk hk z=>by lia) (λk hk z=>by lia)
def below_at{xs:Array Nat}(h:lg xs){i:Nat}(hi:i<xs.size):SetTable.below xs xs[i]=i:=by
 have b:=jN h xs[i];generalize SetTable.below xs xs[i]=r at b;rcases YB r i with c | c | c
 ·have:=b.hi r (by lia) (Ur _)
  have:=h.lt c hi
  lia
 ·exact c
 ·have:=b.lo i hi c
  lia
def Ba{xs:Array Nat}(h:lg xs):SetTable.below xs 0=0:=by
 have b:=jN h 0;generalize SetTable.below xs 0=r at b;rcases WF r with c | c
 ·exact c
 ·have:=b.le;have:=b.lo 0 (by lia) c
  lia
def Az{xs:Array Nat}(h:lg xs){i:Nat}(hi:i<xs.size):SetTable.below xs (xs[i]+1)=i+1:=by
 have b:=jN h (xs[i]+1);generalize SetTable.below xs (xs[i]+1)=r at b;have ble:=b.le;rcases YB r (i+1) with c | c | c
 ·have:=b.hi i hi (by lia)
  lia
 ·exact c
 ·have l:=b.lo (i+1) (by lia) c
  have:=h.lt (show i<i+1 by lia) (show i+1<xs.size by lia)
  lia
def Bt{xs:Array Nat}(h:lg xs){j:Nat}(hj:j∉xs.toList):lg (SetTable.insertAt xs (SetTable.below xs j) j):=by
 have b:=jN h j;unfold lg;rw[SetTable.toList_insertAt];generalize SetTable.below xs j=r at b;have h':(xs.toList.take r++xs.toList.drop r).Pairwise (·< ·):=by rw[List.take_append_drop];exact h
 rw[List.pairwise_append]at h' ⊢
 refine⟨h'.1,Wm.mpr ⟨λx hx=>?_,h'.2.1⟩,λx hx y hy=>?_⟩
 ·obtain⟨k,hk,rfl⟩:=Wr.mp hx;rw[Xk,V5]at hk;rw[List.getElem_drop];have:=b.hi (r+k) (by lia) (by lia)
  have ne:xs.toList[r+k]'(by simp;lia)≠j:=λz=>hj (z ▸ V7 _)
  simp at this ne ⊢
  lia
 ·have lt:x<j:=by
   obtain⟨k,hk,rfl⟩:=Wr.mp hx;rw[W2,V5]at hk;rw[List.getElem_take];have:=b.lo k (by lia) (by lia)
   simpa using this
  rcases Uw.mp hy with rfl | hy
  ·exact lt
  ·exact h'.2.2 x hx y hy
structure TI(L:Bool)(t:SetTable):Prop where
 ris:lg t.place
 dum:t.dummies=#[]
 led:t.led=L
theorem TI.fresh{L:Bool}(f m:Nat):TI L (.fresh f m L):=⟨List.Pairwise.nil,rfl,rfl⟩
theorem TI.standIn{L:Bool}{t:SetTable}(h:TI L t)(n:Nat):TI L (t.standIn n):=⟨by
 unfold lg SetTable.standIn;rw[show (Array.range n).toList=List.range n by simp]
 exact YL,rfl,h.led⟩
theorem TI.orStandIn{L:Bool}{t:SetTable}(h:TI L t)(n:Nat):TI L (t.orStandIn n):=by
 unfold SetTable.orStandIn;split
 ·exact h
 ·exact h.standIn n
def CG{L:Bool}{t:SetTable}(h:TI L t){j:Nat}(e:t.slot j=.empty):j∉t.place.toList:=λhj=>by
 obtain⟨k,hk,rfl⟩:=Wr.mp hj;have hk':k<t.place.size:=by simpa using hk
 have b:=below_at h.ris hk';unfold SetTable.slot at e;simp only[Array.getElem_toList]at e;rw[b]at e;simp[Array.getElem?_eq_getElem hk']at e
def Cz{L:Bool}{t:SetTable}(h:TI L t)(j:Nat):t.slot j≠.dummy:=λe=>by
 unfold SetTable.slot SetTable.has at e;rw[h.dum]at e;dsimp only at e;split at e
 ·cases e
 ·simp at e
set_option tactic.hygienic true in
theorem qx{L:Bool}{t:SetTable}(ti:TI L t){ha:Nat->Int}{h:Int}{j:Nat}{d:Option Nat}:∀ (fuel:Nat) (p:SetTable.Probe),p.dummy=none->SetTable.probe.go t ha h fuel p=some (.empty j d)->t.slot j=.empty/\d=none
 |0,p,_,e=>by unfold SetTable.probe.go at e;cases e
 | fuel + 1,p,hp,e=>by
   unfold SetTable.probe.go at e;split at e
   ·rename_i hs;cases e;exact⟨hs,hp⟩
   ·rename_i hs;exact absurd hs (Cz ti _)
   ·split at e
    ·cases e
    ·refine qx ti fuel _ ?_ e;unfold SetTable.advance;split<;>exact hp
set_option tactic.hygienic true in
def FZ{L:Bool}{t:SetTable}(h:TI L t)(es:Array (Int×Value))(hs:Int)(x:Value):TI L (layNew t es hs x).2.1:=by
 unfold layNew;split
 ·rename_i slot wd e;unfold SetTable.freeSlot SetTable.probe at e;split at e
  ·rename_i j d em;obtain⟨h1,h2⟩:=qx h _ _ rfl em;subst h2;cases e;dsimp only;refine TI.orStandIn (t:=(t.put (none.getD j)).1) (TI.mk ?_ ?_ h.led) _
   ·exact Bt h.ris (CG h h1)
   ·show (if SetTable.has t.dummies _ then _ else _)=_
    rw[h.dum];split
    ·rename_i c;unfold SetTable.has at c;simp at c
    ·rfl
  ·cases e
 ·exact h.standIn _
def K3{L:Bool}{mask finger moves:Nat}{plain:Bool}{hs:Array Int}{r:SetTable×Array Nat}(e:SetTable.laid mask finger moves L plain hs=some r):TI L r.1:=by
 unfold SetTable.laid at e;obtain⟨owner,_,e2⟩:=UT.mp e;cases e2;refine⟨?_,rfl,rfl⟩;unfold lg;dsimp only;rw[List.pairwise_map];refine List.Pairwise.filterMap (R:=λ(a b:Nat)=>a<b) _ (λa b hab x hx y hy=>?_) YL
 obtain⟨_,_,rfl⟩:=Up.mp hx;obtain⟨_,_,rfl⟩:=Up.mp hy;exact hab
set_option tactic.hygienic true in
def Jx{L:Bool}{t:SetTable}(h:TI L t)(es:Array (Int×Value))(n:Nat):TI L (relayAll t es n).2.1:=by
 unfold relayAll;split
 ·rename_i t' order e;dsimp only;split
  ·unfold SetTable.relaid at e;rw[h.led]at e;exact K3 e
  ·exact h.standIn _
 ·exact h.standIn _
end LS
namespace LS
open PySem PySem.Spec PyProof.Rows
def vInt:Value->Int
 |.int i _=>i
 |_=>0
def iR(l:List (Int×Value)):List Int:=l.map λe=>vInt e.2
abbrev bf(es:Array (Int×Value))(ep:Nat)(t:SetTable):Obj:={ cls:=.type "set",dict:=none,data:=.set es ep t }
structure SetG(prog:Program)(w:World)(L:Bool)(h:Heap)(a:Addr)(ks:List Int):Prop where
 ex:∃es ep t,h.get? a=some (bf es ep t)/\ElemsOf (intKind prog w) es.toList/\(iR es.toList).Perm ks/\t.fits es.size=true/\TI L t/\es.size<scanBound
def Fv(h:(intKind prog w).is k v=true):∃t,v=.int k t:=by have h':Value.isInt k v=true:=h;cases v<;>simp[Value.isInt]at h';subst h';exact⟨_,rfl⟩
def w6(h:ElemsOf (intKind prog w) l)(he:e∈l):∃t,e.2=.int (vInt e.2) t:=by obtain⟨⟨k,hk,_⟩,_⟩:=h e he;obtain⟨t,q⟩:=Fv hk;rw[q];exact⟨t,rfl⟩
def find_key(h:ElemsOf (intKind prog w) l)(k:Int):(l.findIdx? λe=>(intKind prog w).is k e.2).isSome=decide (k∈iR l):=by
 rw[Va,Ws,List.findIdx?_isSome,Xm];unfold iR;rw[Vk];constructor
 ·rintro⟨e,he,q⟩;obtain⟨t,e2⟩:=Fv q;exact⟨e,he,by rw[e2];rfl⟩
 ·rintro⟨e,he,rfl⟩;obtain⟨t,q⟩:=w6 h he;refine⟨e,he,?_⟩;rw[q];exact intKind_is _ _ _ _
section
variable{prog:Program}{w:World}{A:Around}{E:Value->Shared->Prop}{s:Shared}{L:Bool}
def Af{h:Heap}{a:Addr}{es es1:Array (Int×Value)}{ep:Nat}{t t1:SetTable}(ho:h.get? a=some (bf es ep t)):(h.update a (Obj.putSet es1 t1)).get? a=some (bf es1 (ep+1) t1):=by
 have q:=VF (Obj.putSet es1 t1) ho (by rw[putSet_of es1 t1 rfl];rfl)
 rw[putSet_of es1 t1 rfl]at q;exact q
def Hm{g:Bool->Sem Unit}(hg:∀ (b:Bool) (s1:Shared) (R:Unit->Shared->Prop),R () s1->wpAny (model prog w) A (g b) R E s1){a:Addr}{es es1:Array (Int×Value)}{ep:Nat}{t t2:SetTable}{ks:List Int}{wd:Bool}
  (ho:s.heap.get? a=some (bf es ep t)) (hel:ElemsOf (intKind prog w) es1.toList) (hp:(iR es1.toList).Perm ks) (hb:es1.size<scanBound) (hf:t2.fits es1.size=true) (ti:TI L t2) {R:Option Bool->Shared->Prop}
  (h:∀h',Heap.SameBut a s.heap h'->SetG prog w L h' a ks->R (some true) { s with heap:=h' }) :
  wpAny (model prog w) A (do
    storeSet a es1 t2
    if (!wd && t2.tooFull)=true then do
        g (relayAll t2 es1 (SetTable.grown es1.size)).2.2
        storeSet a (relayAll t2 es1 (SetTable.grown es1.size)).1 (relayAll t2 es1 (SetTable.grown es1.size)).2.1
        pure (some true)
     else pure (some true)) R E s:=by
 refine Ug (wpAny_storeSet_of ho rfl ?_ (Yh hb));have o1:=Af (es1:=es1) (t1:=t2) ho;have b1:=Wh s.heap a (Obj.putSet es1 t2);split
 ·have p2:=relayAll_perm t2 es1 (SetTable.grown es1.size);have f2:=relayAll_fits t2 es1 (SetTable.grown es1.size);have ti2:=Jx ti es1 (SetTable.grown es1.size);revert p2 f2 ti2;generalize relayAll t2 es1 (SetTable.grown es1.size)=Z;obtain⟨es2,t3,gv⟩:=Z;dsimp only;intro p2 f2 ti2;have sz:es2.size=es1.size:=by rw[<-V5,p2.length_eq,V5]
  refine Ug (hg _ _ _ (Ug (wpAny_storeSet_of o1 rfl ?_ (Yh (by rw[sz];exact hb)))))
  refine Ui (h _ (b1.trans (Wh _ a _)) ⟨es2,_,t3,Af o1,hel.perm p2,(p2.map _).trans hp,f2,ti2,by rw[sz];exact hb⟩)
 ·exact Ui (h _ b1 ⟨es1,_,t2,o1,hel,hp,hf,ti,hb⟩)
def add_int(hS:SetG prog w L s.heap a ks)(room:ks.length + 1<scanBound)
  (h:∀h' b,Heap.SameBut a s.heap h'->SetG prog w L h' a (if k∈ks then ks else ks++[k])->Q b { s with heap:=h' }):wpAny (model prog w) A (setAddHashed a (.int k tk) ((intKind prog w).hash k)) Q E s:=by
 obtain⟨es,ep,t,ho,hel,hp,hf,ti,hb⟩:=hS.ex;have kk:(intKind prog w).is k (.int k tk)=true:=intKind_is _ _ _ _;have len:es.size=ks.length:=by have:=hp.length_eq;unfold iR at this;rw[UV,V5]at this;exact this
 unfold setAddHashed setAddHashedIn;refine Vw (Ug (WT ho rfl hf ?_));dsimp only;rw[byScan_of (knd:=intKind prog w) (x:=.int k tk) rfl hb hel,Uv rfl];unfold setAddByScan;refine Ug (Ug (Wk (Ug (wpAny_setScan_of kk ho rfl hf hel ?_))));have fk:=find_key hel k;have mk:k∈iR es.toList ↔ k∈ks:=hp.mem_iff;cases hr:List.findIdx? (λe=>(intKind prog w).is k e.2) es.toList with
 |some j=>
   rw[hr]at fk;have hk:k∈ks:=mk.mp (VN fk.symm);have q:=h s.heap false (Heap.SameBut.refl a s.heap) (by rw[Uv hk];exact hS)
   have e:s={ s with heap:=s.heap }:=by cases s;rfl
   rw[e];exact Ui (Ui q)
 | none=>
   rw[hr]at fk;have hk:k∉ks:=λz=>by have:=of_decide_eq_false fk.symm;exact this (mk.mpr z)
   rw[Ux hk]at h;dsimp only;have p1:=layNew_perm t es ((intKind prog w).hash k) (.int k tk);have f1:=layNew_fits t es ((intKind prog w).hash k) (.int k tk);have ti1:=FZ ti es ((intKind prog w).hash k) (.int k tk);revert p1 f1 ti1;generalize layNew t es ((intKind prog w).hash k) (.int k tk)=Z;obtain⟨es1,t1,wd,gv⟩:=Z;dsimp only;intro p1 f1 ti1;rw[Array.toList_push]at p1;have el1:ElemsOf (intKind prog w) es1.toList:=(hel.push kk rfl).perm p1;have pk:(iR es1.toList).Perm (ks++[k]):=by refine (p1.map _).trans ?_;rw[XH];exact hp.append_right _
   have b1:es1.size<scanBound:=by rw[<-V5,p1.length_eq,Uz,V5,len];exact room
   have gw:∀(b:Bool) (s1:Shared) (R:Unit->Shared->Prop),R () s1->wpAny (model prog w) A (match b with | true=>rule "set.scan.the-table-gave-way" | false=>pure ()) R E s1:=λb s1 R hq=>by
    cases b
    ·exact Ui hq
    ·exact Wk hq
   refine Ug (gw gv _ _ ?_);split
   ·refine Ug ?_;rw[hashByValue_scannable 8 (x:=.int k tk) rfl];refine Ui ?_;simp only[plainKind,↓reduceIte];refine Hm ?_ ho el1 pk b1 f1 ti1 ?_
    ·intro b s1 R hq;cases b
     ·exact Ui hq
     ·exact Wk hq
    ·intro h' sb g;exact Ui (h h' true sb g)
   ·refine Ug (Ui ?_);simp only[↓reduceIte];refine Hm ?_ ho el1 pk b1 f1 ti1 ?_
    ·intro b s1 R hq;cases b
     ·exact Ui hq
     ·exact Wk hq
    ·intro h' sb g;exact Ui (h h' true sb g)
end
def bN:Slot "set_iterator" "__next__" "set_iterator.__next__":=.of (owner := "set_iterator") (n := "__next__") (by rw[typeLookup_type,builtinLookup_eq_fast];kernel_rfl) (by decide +kernel) (by decide +kernel) (by decide +kernel) (by first | exact .inl (by decide +kernel) | exact .inr (by decide +kernel)) (by rw[isSubtype_type];kernel_rfl)
def Ac:Slot "set_iterator" "__iter__" "set_iterator.__iter__":=.of (owner := "set_iterator") (n := "__iter__") (by rw[typeLookup_type,builtinLookup_eq_fast];kernel_rfl) (by decide +kernel) (by decide +kernel) (by decide +kernel) (by first | exact .inl (by decide +kernel) | exact .inr (by decide +kernel)) (by rw[isSubtype_type];kernel_rfl)
def gD:entryFor table "set_iterator.__next__"=some Builtin.«set_iterator.__next__»:=entryFor_of_fast (by kernel_rfl)
def Ik:entryFor table "set_iterator.__iter__"=some Builtin.«dict_keyiterator.__iter__»:=entryFor_alias (id' := "dict_keyiterator.__iter__") (by kernel_rfl) rfl (by decide +kernel) (by kernel_rfl)
def vQ:entryFor table "set.__iter__"=some Builtin.«frozenset.__iter__»:=entryFor_alias (id' := "frozenset.__iter__") (by kernel_rfl) rfl (by decide +kernel) (by kernel_rfl)
def iU(a:Value):argsOk "set_iterator.__next__" ⟨[a],[]⟩:=by unfold argsOk;kernel_rfl
def Km(a:Value):argsOk "set_iterator.__iter__" ⟨[a],[]⟩:=by unfold argsOk;kernel_rfl
set_option tactic.hygienic true in
theorem zP(next:Nat->Nat):∀ (fuel k:Nat) (left:List α) (out:Array α),left.length=fuel->(pickOrder.go next fuel k left out).toList.Perm (out.toList++left)
 |0,k,left,out,h=>by have:left=[]:=W4.mp h;subst this;unfold pickOrder.go;simp
 | fuel + 1,k,left,out,h=>by
   unfold pickOrder.go;have hm:next k%left.length<left.length:=YQ _ (by lia)
   generalize next k%left.length=m at hm
   rw[Uq hm];dsimp only;refine (zP next fuel (k+1) (left.eraseIdx m) (out.push left[m]) (by rw[List.length_eraseIdx,Uv hm];lia)).trans ?_
   rw[Array.toList_push,V4];refine List.Perm.append_left _ ?_;have:∀ (l:List α) (t:Nat) (ht:t<l.length),(l[t]::l.eraseIdx t).Perm l:=by
    intro l;induction l with
    |nil=>intro t ht;exact absurd ht (by simp)
    |cons a l ih=>
      intro t ht;cases t with
      |zero=>exact .refl _
      |succ t=>exact (List.Perm.swap a _ _).trans ((ih t (by simpa using ht)).cons a)
   exact this left m hm
set_option tactic.hygienic true in
def Gv(next:Nat->Nat)(xs:Array α):(pickOrder next xs).toList.Perm xs.toList:=by unfold pickOrder;exact (zP next xs.size 0 xs.toList #[] (by simp)).trans (by simp)
section
variable{prog:Program}{w:World}{A:Around}{E:Value->Shared->Prop}{s:Shared}
def vU(hn:n≠0)(h:∀i d',i<n->Q i { s with drawn:=d' }):wpAny (model prog w) A (choose src n) Q E s:=λΓ p hΓ=>⟨hn,h _ _ (YQ _ (by lia))⟩
theorem vA:∀ (n:Nat) (xs:List Nat) {s:Shared}{Q:List Nat->Shared->Prop},xs.length=n->(∀ ys d',ys.Perm xs->Q ys { s with drawn:=d' })->wpAny (model prog w) A (drawOrder n xs) Q E s
 |0,xs,s,Q,h,q=>by have:xs=[]:=W4.mp h;subst this;unfold drawOrder;exact Ui (q [] s.drawn (.refl _))
 |n+1,[],s,Q,h,q=>by cases h
 | n + 1,x::xs,s,Q,h,q=>by
   unfold drawOrder;refine Ug (vU (by simp) λi d' hi=>?_)
   rw[Uq hi];dsimp only;refine Ug (vA n ((x::xs).eraseIdx i) (by rw[List.length_eraseIdx,Uv hi];simp at h ⊢;lia) λys d2 p=>Ui (q _ d2 ?_))
   refine (p.cons _).trans ?_;have:∀ (l:List Nat) (t:Nat) (ht:t<l.length),(l[t]::l.eraseIdx t).Perm l:=by
    intro l;induction l with
    |nil=>intro t ht;exact absurd ht (by simp)
    |cons a l ih=>
      intro t ht;cases t with
      |zero=>exact .refl _
      |succ t=>exact (List.Perm.swap a _ _).trans ((ih t (by simpa using ht)).cons a)
   exact this _ i hi
end
abbrev jQ(vs:Array Value):Obj:={ cls:=.type "set_iterator",data:=.fields vs }
abbrev bQ(w:World):Bool:=w.params.followText "set-order"
def nW(w:World)(h:Heap)(I a tp:Addr)(es:Array (Int×Value))(ep:Nat)(t:SetTable)(ord:List Value)(i:Nat):Prop:=
 (bQ w=true/\h.get? I=some (jQ #[.int 0 0,.int i 0,.ref a,.int es.size 0,.int ep 0])/\ord=(pickOrder (w.params.setOrder a ep) es).toList.map (·.2))
 \/ (bQ w=false/\(!t.plain&&decide (es.size > 1))=false/\∃sl:Nat,h.get? I=some (jQ #[.int sl 0,.int i 0,.ref a,.int es.size 0,.int ep 0])/\SetTable.below t.place sl=i/\ord=es.toList.map (·.2))
 \/ (bQ w=false/\(!t.plain&&decide (es.size > 1))=true/\∃ps,tp≠I/\h.get? I=some (jQ #[.ref tp,.int i 0,.ref a,.int es.size 0,.int ep 0])/\h.get? tp=some { cls:=.type "tuple",data:=.seq ((ps:List Nat).map λ(p:Nat)=>rawInt (p:Int)).toArray }/\ps.Perm (List.range es.size)/\ord=ps.map (λp=>(es.getD p (0,.none)).2))
section
variable{prog:Program}{w:World}{A:Around}{E:Value->Shared->Prop}{s:Shared}{I a tp:Addr}{es:Array (Int×Value)}{ep:Nat}{t:SetTable}{ord:List Value}{i:Nat}
def gW{h:Heap}{vs:Array Value}{k:Nat}{v:Value}(e:h.get? I=some (jQ vs)):(h.update I (Obj.mapFields (·.setIfInBounds k v))).get? I=some (jQ (vs.setIfInBounds k v)):=by have q:=VF (Obj.mapFields (·.setIfInBounds k v)) e (WN (WM rfl _));rw[q];rfl
def Gn(hb:bQ w=true)(ho:s.heap.get? a=some (bf es ep t))(hf:t.fits es.size=true){sl:Nat}{Q:Option (Value×Nat)->Shared->Prop}(q:Q (((pickOrder (w.params.setOrder a ep) es)[i]?).map λe=>(e.2,sl)) s):
  wpAny (model prog w) A (setNext a sl i ep) Q E s:=by
 unfold setNext setsByText;refine Ug (WT ho rfl hf ?_);refine Ug (Ug (Ww (Ui ?_)));have hb':(model prog w).w.params.followText "set-order"=true:=hb;rw[Uv hb'];simp only[bne_self_eq_false,Bool.false_eq_true,↓reduceIte];unfold setWalk setsByText;refine Ug (Ug (WT ho rfl hf ?_));refine Ug (Ug (Ww (Ui ?_)));rw[Uv hb'];exact Ug (Ww (Ui (Ui q)))
def Gp(hb:bQ w=false)(hd:(!t.plain && decide (es.size > 1))=false)(ti:TI (!bQ w) t)(ho:s.heap.get? a=some (bf es ep t))(hf:t.fits es.size=true){sl:Nat}{Q:Option (Value×Nat)->Shared->Prop}
  (q:Q (match es[SetTable.below t.place sl]?,t.place[SetTable.below t.place sl]? with
    |some (_,x),some j=>some (x,j+1)
    |_,_=>none) s):wpAny (model prog w) A (setNext a sl i ep) Q E s:=by
 unfold setNext setsByText;refine Ug (WT ho rfl hf ?_);refine Ug (Ug (Ww (Ui ?_)));have hb':¬ (model prog w).w.params.followText "set-order"=true:=by rw[show (model prog w).w.params.followText "set-order"=bQ w from rfl,hb];decide
 rw[Ux hb'];have hl:t.led=true:=by rw[ti.led,hb];rfl
 show wpAny _ _ (if (!t.plain&&decide (es.size > 1))=true then _ else _) _ _ _
 rw[hd,Ux (by decide)]
 refine Ug ?_;show wpAny _ _ (if (!t.led&&!es.isEmpty)=true then _ else _) _ _ _
 rw[hl];exact Ui (Ui q)
def next_item(ho:s.heap.get? a=some (bf es ep t))(hf:t.fits es.size=true)(ti:TI (!bQ w) t)(hne:a≠I)(c:nW w s.heap I a tp es ep t ord i)(hi:i<ord.length){Q:Option Value->Shared->Prop}
  (q:∀h',Heap.SameBut I s.heap h'->nW w h' I a tp es ep t ord (i+1)->Q (some ord[i]) { s with heap:=h' }):wpAny (model prog w) A (pyNext (.ref I)) Q E s:=by
 have ho':∀(k:Nat) (v:Value),(s.heap.update I (Obj.mapFields (·.setIfInBounds k v))).get? a=some (bf es ep t):=λk v=>by rw[Ve _ _ (λz=>hne z.symm)];exact ho
 have sz:(((es.size:Nat):Int) != ((es.size:Nat):Int))=false:=bne_self_eq_false _;have sb2:∀(v1 v2:Value) (k1 k2:Nat),Heap.SameBut I s.heap ((s.heap.update I (Obj.mapFields (·.setIfInBounds k1 v1))).update I (Obj.mapFields (·.setIfInBounds k2 v2))):=λv1 v2 k1 k2=>(Wh _ I _).trans (Wh _ I _)
 rcases c with ⟨hb,hI,e⟩ | ⟨hb,hd,sl,hI,hs,e⟩ | ⟨hb,hd,ps,htp,hI,hT,hp,e⟩
 ·have ty:s.TypeIs (.ref I) "set_iterator":=⟨_,hI,rfl⟩;unfold pyNext;refine Ug (Wj (Vb (name:=Str.ofString "__next__") ty bN (Vg bN ty gD ?_ (iU _))));unfold Builtin.«set_iterator.__next__» slotArgs;refine Ug (Ui ?_);refine Ug (Xd hI rfl ?_);dsimp only;refine Ug (Wf ho rfl hf ?_);rw[sz,Ux (by decide)]
  refine Ug (Gn hb ho hf ?_);have hi':i<(pickOrder (w.params.setOrder a ep) es).size:=by rw[e]at hi;simpa using hi
  have oi:ord[i]=((pickOrder (w.params.setOrder a ep) es)[i]).2:=by subst e;simp
  rw[show ((i:Int)).toNat=i from V3 i,VM hi']
  dsimp only[Option.map_some];refine Ug (Vu hI rfl (by simp) ?_)
  refine Ug (Vu (gW hI) rfl (by simp) ?_)
  refine Ui ⟨_,rfl,Ui ?_⟩;rw[<-oi];refine q _ (sb2 _ _ _ _) (.inl ⟨hb,?_,e⟩);rw[gW (gW hI)];simp[rawInt]
 ·have ty:s.TypeIs (.ref I) "set_iterator":=⟨_,hI,rfl⟩;unfold pyNext;refine Ug (Wj (Vb (name:=Str.ofString "__next__") ty bN (Vg bN ty gD ?_ (iU _))));unfold Builtin.«set_iterator.__next__» slotArgs;refine Ug (Ui ?_);refine Ug (Xd hI rfl ?_);dsimp only;refine Ug (Wf ho rfl hf ?_);rw[sz,Ux (by decide)]
  refine Ug (Gp hb hd ti ho hf ?_);have hi':i<es.size:=by rw[e]at hi;simpa using hi
  have hps:t.place.size=es.size:=by simp only[SetTable.fits,Bool.and_eq_true,beq_iff_eq]at hf;exact hf.1
  have hi2:i<t.place.size:=by rw[hps];exact hi'
  have oi:ord[i]=(es[i]).2:=by subst e;simp
  rw[show ((sl:Int)).toNat=sl from V3 sl,hs,VM hi',VM hi2]
  dsimp only;refine Ug (Vu hI rfl (by simp) ?_)
  refine Ug (Vu (gW hI) rfl (by simp) ?_)
  refine Ui ⟨_,rfl,Ui ?_⟩;rw[<-oi];refine q _ (sb2 _ _ _ _) (.inr (.inl ⟨hb,hd,t.place[i]+1,?_,Az ti.ris hi2,e⟩));rw[gW (gW hI)];simp[rawInt]
 ·have ty:s.TypeIs (.ref I) "set_iterator":=⟨_,hI,rfl⟩;have hpl:ps.length=es.size:=by rw[hp.length_eq,Wt]
  have hi':i<ps.length:=by rw[e]at hi;simpa using hi
  have hpi:ps[i]<es.size:=Vv.mp (hp.mem_iff.mp (V7 hi'));unfold pyNext;refine Ug (Wj (Vb (name:=Str.ofString "__next__") ty bN (Vg bN ty gD ?_ (iU _))));unfold Builtin.«set_iterator.__next__» slotArgs;refine Ug (Ui ?_);refine Ug (Xd hI rfl ?_);dsimp only;refine Ug (Wf ho rfl hf ?_);rw[sz,Ux (by decide)]
  refine Ug (Wa hT rfl ?_);have g:((ps.map λ(p:Nat)=>rawInt (p:Int)).toArray)[i]?=some (rawInt (ps[i]:Int)):=by simp[hi']
  rw[show ((i:Int)).toNat=i from V3 i]
  dsimp only;rw[g];dsimp only[rawInt];unfold setNextDrawn;refine Ug (Ug (WT ho rfl hf ?_));simp only[bne_self_eq_false,Bool.false_eq_true,↓reduceIte,Int.toNat_natCast];rw[VM hpi];dsimp only;refine Ui ?_;refine Ug (Vu hI rfl (by simp) ?_)
  refine Ui ⟨_,rfl,Ui ?_⟩;have oi:ord[i]=(es[ps[i]]).2:=by subst e;simp[hpi]
  rw[<-oi];refine q _ (Wh _ I _) (.inr (.inr ⟨hb,hd,ps,htp,?_,?_,hp,e⟩))
  ·rw[gW hI];simp
  ·rw[Ve _ _ (λz=>htp z.symm)];exact hT
end
section
variable{prog:Program}{w:World}{A:Around}{E:Value->Shared->Prop}{s:Shared}{I a tp:Addr}{es:Array (Int×Value)}{ep:Nat}{t:SetTable}{ord:List Value}{i:Nat}
def rJ(hh:A.handled=none){R:Fin->Shared->Prop}{Q:Option Value->Shared->Prop}(q:∀h',(∀b o,s.heap.get? b=some o->h'.get? b=some o)->Q none { s with heap:=h' }):
  wpAny (model prog w) A.in1 (do raiseNew (<-newExc (.type "StopIteration") [])) R (λe s'=>wpAny (model prog w) A (do if <-isInstance e (.type "StopIteration") then pure none else throw e) Q E s') s:=by
 refine Ug ?_;simp only[newExc,newTuple];refine Ug (Vd ?_ (by size_fits))
 refine Ug (m:=firstArgMember _ _) (wpAny_of_eq (a:=.none) (by first | rfl | (simp only[firstArgMember];rfl)) (Vd ?_ (by size_fits)))
 simp only[raiseNew];refine Ug (wpAny_handled ?_);have h1:A.in1.handled=none:=hh;rw[h1];refine Ug (Ui (wpAny_throw ?_));refine Ug (Ym (T := "StopIteration") (b:=true) ⟨_,Ul _ rfl,rfl⟩ isSubtype_stop ?_);exact Ui (q _ λb o e=>Uh _ (Uh _ e))
def next_end(hh:A.handled=none)(ho:s.heap.get? a=some (bf es ep t))(hf:t.fits es.size=true)(ti:TI (!bQ w) t)(c:nW w s.heap I a tp es ep t ord ord.length){Q:Option Value->Shared->Prop}
  (q:∀h',(∀b o,b≠I->s.heap.get? b=some o->h'.get? b=some o)->Q none { s with heap:=h' }):wpAny (model prog w) A (pyNext (.ref I)) Q E s:=by
 have sz:(((es.size:Nat):Int) != ((es.size:Nat):Int))=false:=bne_self_eq_false _;have k1:∀(v1:Value) (k1:Nat) b o,b≠I->s.heap.get? b=some o->(s.heap.update I (Obj.mapFields (·.setIfInBounds k1 v1))).get? b=some o:=λv1 k1 b o hb e=>by rw[Ve _ _ (λz=>hb z.symm)];exact e
 rcases c with ⟨hb,hI,e⟩ | ⟨hb,hd,sl,hI,hs,e⟩ | ⟨hb,hd,ps,htp,hI,hT,hp,e⟩
 ·have ty:s.TypeIs (.ref I) "set_iterator":=⟨_,hI,rfl⟩;unfold pyNext;refine Ug (Wj (Vb (name:=Str.ofString "__next__") ty bN (Vg bN ty gD ?_ (iU _))));unfold Builtin.«set_iterator.__next__» slotArgs;refine Ug (Ui (Ug (Xd hI rfl ?_)));dsimp only;refine Ug (Wf ho rfl hf ?_);rw[sz,Ux (by decide)]
  refine Ug (Gn hb ho hf ?_);have hi':(pickOrder (w.params.setOrder a ep) es)[((ord.length:Int)).toNat]?=none:=by rw[V3,Xp,e];simp
  rw[hi'];dsimp only[Option.map_none];refine Ug (Vu hI rfl (by simp) ?_)
  exact rJ hh λh' k=>q h' λb o hb e=>k b o (k1 _ _ b o hb e)
 ·have ty:s.TypeIs (.ref I) "set_iterator":=⟨_,hI,rfl⟩;unfold pyNext;refine Ug (Wj (Vb (name:=Str.ofString "__next__") ty bN (Vg bN ty gD ?_ (iU _))));unfold Builtin.«set_iterator.__next__» slotArgs;refine Ug (Ui (Ug (Xd hI rfl ?_)));dsimp only;refine Ug (Wf ho rfl hf ?_);rw[sz,Ux (by decide)]
  refine Ug (Gp hb hd ti ho hf ?_);have hi':es[ord.length]?=none:=by rw[Xp,e];simp
  rw[show ((sl:Int)).toNat=sl from V3 sl,hs,hi']
  dsimp only;refine Ug (Vu hI rfl (by simp) ?_)
  exact rJ hh λh' k=>q h' λb o hb e=>k b o (k1 _ _ b o hb e)
 ·have ty:s.TypeIs (.ref I) "set_iterator":=⟨_,hI,rfl⟩;unfold pyNext;refine Ug (Wj (Vb (name:=Str.ofString "__next__") ty bN (Vg bN ty gD ?_ (iU _))));unfold Builtin.«set_iterator.__next__» slotArgs;refine Ug (Ui (Ug (Xd hI rfl ?_)));dsimp only;refine Ug (Wf ho rfl hf ?_);rw[sz,Ux (by decide)]
  refine Ug (Wa hT rfl ?_);have g:((ps.map λ(p:Nat)=>rawInt (p:Int)).toArray)[((ord.length:Int)).toNat]?=none:=by rw[V3,Xp,e];simp
  dsimp only;rw[g];dsimp only;refine Ug (Vu hI rfl (by simp) ?_)
  refine Ug (Vu (gW hI) rfl (by simp) ?_)
  refine rJ hh λh' k=>q h' λb o hb e=>k b o ?_
  rw[Ve _ _ (λz=>hb z.symm)]
  exact k1 _ _ b o hb e
def IK(ho:s.heap.get? a=some (bf es ep t))(hf:t.fits es.size=true)(ti:TI (!bQ w) t)(hb:es.size<scanBound)
  (q:∀h' d' I tp ord,s.heap.objs.size<=I->(∀b o,s.heap.get? b=some o->h'.get? b=some o)->I<h'.objs.size->(tp=a\/(s.heap.objs.size<=tp/\tp<h'.objs.size))->nW w h' I a tp es ep t ord 0->ord.Perm (es.toList.map (·.2))->Q (.ref I) { s with heap:=h',drawn:=d' }):wpAny (model prog w) A (pyIter (.ref a)) Q E s:=by
 have ty:s.TypeIs (.ref a) "set":=⟨_,ho,rfl⟩;refine YD ty F.slot_set_iter (Vg F.slot_set_iter ty vQ ?_ (F.args_set_iter_1 _));unfold Builtin.«frozenset.__iter__» Builtin.Frozenset.slot0 slotArgs Builtin.Frozenset.addrOf Builtin.Frozenset.sizeOf setDrawn setsByText;simp only[List.isEmpty_nil,Bool.not_true,Bool.false_eq_true,↓reduceIte,bind_assoc,List.length_nil,bne_self_eq_false];refine Ug (Ui (Ug (Ui ?_)));refine Ug (Wf ho rfl hf (Ug (Ui ?_)));refine Ug (WT ho rfl hf ?_);refine Ug (Ww (Ug (Ui (Ug (Ui ?_)))));show wpAny _ _ (if (!bQ w&&(!t.plain&&decide (es.size > 1)))=true then _ else _) _ _ _
 by_cases hc:(!bQ w&&(!t.plain&&decide (es.size > 1)))=true
 ·rw[Uv hc];rw[Wx]at hc;have hB:bQ w=false:=by simpa using hc.1
  refine Ug (vA es.size (List.range es.size) (by simp) λps d' hp=>?_)
  have pl:ps.length=es.size:=by rw[hp.length_eq,Wt]
  simp only[newTuple,newFields];refine Ug (Vd ?_ (by show _<=sizeLine;have:=Yh hb;simp;lia))
  have ho1:=Uh { cls:=.type "tuple",data:=.seq ((ps.map λ(i:Nat)=>rawInt (i:Int)).toArray) } ho
  refine Ug (wpAny_setEpoch_of ho1 rfl hf ?_);refine Ug (Vd (Ui ⟨_,rfl, "set_iterator",_,⟨_,Ul _ rfl,rfl⟩,bN.lookup,?_⟩) (by show _<=_;simp[sizeLine_eq]))
  refine q _ d' _ s.heap.objs.size (ps.map (λp=>(es.getD p (0,.none)).2)) (by dsimp only;simp only[Heap.size_push];lia) (λb o e=>Uh _ (Uh _ e)) (by dsimp only;simp only[Heap.size_push];lia) (.inr ⟨Ur _,by dsimp only;simp only[Heap.size_push];exact Ye (VL _)⟩) (.inr (.inr ⟨hB,hc.2,ps,?_,Ul _ rfl,Uh _ (Ul _ rfl),hp,rfl⟩)) ?_
  ·dsimp only;simp only[Heap.size_push];exact Ut (VL _)
  ·refine (hp.map _).trans (List.Perm.of_eq ?_);apply Yi;intro k;by_cases hk:k<es.size
   ·simp[hk,Array.getD]
   ·rw[VB (by simp;lia),VB (by simp;lia)]
 ·rw [Ux hc];refine Ug (Ui ?_);simp only[newFields];refine Ug (wpAny_setEpoch_of ho rfl hf ?_);refine Ug (Vd (Ui ⟨_,rfl, "set_iterator",_,⟨_,Ul _ rfl,rfl⟩,bN.lookup,?_⟩) (by show _<=_;simp[sizeLine_eq]))
  have fin:∀ord,nW w (s.heap.push (jQ #[.int 0 0,.int 0 0,.ref a,.int es.size 0,.int ep 0])) s.heap.objs.size a a es ep t ord 0->ord.Perm (es.toList.map (·.2))->Q (.ref s.heap.objs.size) { s with heap:=s.heap.push (jQ #[.int 0 0,.int 0 0,.ref a,.int es.size 0,.int ep 0]) }:=λord c p=>
   q _ s.drawn s.heap.objs.size a ord (Ur _) (λb o e=>Uh _ e) (by rw[U4];lia) (.inl rfl) c p
  cases hB:bQ w with
  |true=>exact fin _ (.inl ⟨hB,Ul _ rfl,rfl⟩) ((Gv _ es).map _)
  |false=>
    rw[hB]at hc;have hd:(!t.plain&&decide (es.size > 1))=false:=by simpa using hc
    exact fin _ (.inr (.inl ⟨hB,hd,0,Ul _ rfl,Ba ti.ris,rfl⟩)) (.refl _)
def nW.at(c:nW w h I a tp es ep t ord i)(k1:∀o,h.get? I=some o->h'.get? I=some o)(k2:∀o,h.get? tp=some o->h'.get? tp=some o):nW w h' I a tp es ep t ord i:=by
 rcases c with ⟨hb,hI,e⟩ | ⟨hb,hd,sl,hI,hs,e⟩ | ⟨hb,hd,ps,htp,hI,hT,hp,e⟩
 ·exact .inl ⟨hb,k1 _ hI,e⟩
 ·exact .inr (.inl ⟨hb,hd,sl,k1 _ hI,hs,e⟩)
 ·exact .inr (.inr ⟨hb,hd,ps,htp,k1 _ hI,k2 _ hT,hp,e⟩)
def nW.ty(c:nW w h I a tp es ep t ord i):∃vs,h.get? I=some (jQ vs):=by rcases c with ⟨hb,hI,e⟩ | ⟨hb,hd,sl,hI,hs,e⟩ | ⟨hb,hd,ps,htp,hI,hT,hp,e⟩<;>exact⟨_,hI⟩
def Hs(hh:A.handled=none)(hf:t.fits es.size=true)(ti:TI (!bQ w) t)(hne:a≠I):
  Walks prog w A I [I,a,tp] [I] ord.length (λi v=>ord[i]?=some v) (λi h=>h.get? a=some (bf es ep t)/\nW w h I a tp es ep t ord i) where
 sub:=λb hb=>by simp at hb;simp[hb]
 frame:=λz z z st hk=>⟨hk a (by simp) _ st.1,st.2.at (λo e=>hk I (by simp) o e) λo e=>hk tp (by simp) o e⟩
 item:=λi s Q E hi st hQ=>next_item st.1 hf ti hne st.2 hi λh' sb c=>hQ _ h' s.toks (by simp[hi]) ⟨sb.extBut a _ hne st.1,c⟩ λb o hb e=>sb.extBut b o (λh=>hb (by simp[h])) e
 done:=λs Q E st hQ=>next_end hh st.1 hf ti st.2 λh' k=>hQ h' s.toks λb o hb e=>k b o (λh=>hb (by simp[h])) e
 self:=λi s Q E st hQ=>by obtain⟨vs,hI⟩:=st.2.ty;have ty:s.TypeIs (.ref I) "set_iterator":=⟨_,hI,rfl⟩;exact YD ty Ac (Vg Ac ty Ik (Ui ⟨_,rfl, "set_iterator",_,ty,bN.lookup,hQ⟩) (Km _))
end
def SetG.at(g:SetG prog w L h a ks)(k:∀o,h.get? a=some o->h'.get? a=some o):SetG prog w L h' a ks:=by obtain⟨es,ep,t,ho,r⟩:=g.ex;exact⟨es,ep,t,k _ ho,r⟩
def rH(ks:List Int)(k:Int):(if k∈ks then ks else ks++[k])=step_dedup ks k:=by
 unfold step_dedup;by_cases h:k∈ks
 ·rw[Uv h,Uv (Xm.mpr ⟨k,h,by simp⟩)]
 ·rw[Ux h,Ux (λz=>by obtain⟨x,hx,e⟩:=Xm.mp z;exact h (by rw[<-Wb.mp e];exact hx))]
section
variable{prog:Program}{w:World}{A:Around}{R:Result->Shared->Prop}{I:Addr}{fp wr:List Addr}{G:Array GenState->Array GenState->Prop}{n:Nat}{P:Nat->Value->Prop}{St:Nat->Shared->Prop}{L:Bool}
def QQ(W:WalksS prog w A.in1 I fp wr G n P St)(S:Addr)(hSf:S∉fp)(Sp:Nat->Heap->Prop)(keep:∀ i h h',Sp i h->(∀ b o,b∉wr->h.get? b=some o->h'.get? b=some o)->Sp i h')
  (add:∀i v s Q E,i<n->P i v->Sp i s.heap->(∀h' tk b,s.toks<=tk->Heap.SameBut S s.heap h'->Sp (i+1) h'->Q b { s with heap:=h',toks:=tk })->wpAny (model prog w) A.in1 (setAdd S v) Q E s):∀(k i:Nat) (s:Shared),n-i=k->i<=n->St i s->Sp i s.heap->
  (∀s',Moved (S::wr) G s s'->Sp n s'.heap->R (.ok (.ret .none)) s')->codeAny (model prog w) A (.builtin "set.update.loop" ⟨[.ref S,.ref I],[]⟩) R s:=by
 have sub:∀b∈wr,b∈S::wr:=λb hb=>.tail _ hb
 intro k;induction k with
 |zero=>
   intro i s hk hi hst g hR;obtain rfl:i=n:=by lia
   refine WP X6 ?_;rw[WX WD _];refine Ug (m:=pyNext (.ref I)) (W.done s _ _ hst λs' hm=>?_)
   exact Ui (hR s' (hm.mono sub) (keep _ _ _ g λb o hb e=>hm.heap b o hb e))
 | succ k ih=>
   intro i s hk hi hst g hR;have lt:i<n:=by lia
   refine WP X6 ?_;rw[WX WD _];refine Ug (m:=pyNext (.ref I)) (W.item i s _ _ lt hst λv s' hP hst' hm=>?_)
   refine Ug (m:=holding [v] (setAdd S v)) (Vw (add i v s' _ _ lt hP (keep _ _ _ g λb o hb e=>hm.heap b o hb e) λh' tk b ht sb g2=>?_))
   refine Ui ⟨Yz WD _,ih (i+1) _ (by lia) lt (W.frame _ s' _ _ hst' ht λc hc o e=>?_) g2 λs2 hm2 g3=>?_⟩
   ·rw[sb.2 c (λz=>hSf (z ▸ hc))];exact e
   ·refine hR s2 (Moved.trans W.gtrans ((hm.mono sub).then_heap ht λc o hc e=>?_) hm2) g3
    rw[sb.2 c (λz=>hc (z ▸ UW))];exact e
def RQ(hv:∃t,v=.int (val i) t)(hb:i+1<scanBound)(g:SetG prog w L s.heap S (firstMet val i))(q:∀h' tk b,s.toks<=tk->Heap.SameBut S s.heap h'->SetG prog w L h' S (firstMet val (i+1))->Q b { s with heap:=h',toks:=tk }):wpAny (model prog w) A (setAdd S v) Q E s:=by
 obtain⟨t,rfl⟩:=hv;unfold setAdd;refine Vw (Ug ((intKind prog w).pyHash (k:=val i) (intKind_is _ _ _ _) ?_));refine add_int (s:={ s with toks:=s.toks+1 }) g (by have:=firstMet_length_le val i;lia) λh' b sb g2=>?_
 rw[rH,<-firstMet_succ]at g2;exact q h' _ b (Xr _) sb g2
end
section
variable{prog:Program}{w:World}{A:Around}{E:Value->Shared->Prop}{s:Shared}
def Lg(v:Value)(h:Q (.ref s.heap.objs.size) { s with heap:=s.heap.push (bf #[] 0 (.fresh 0 0 (!bQ w))) }):
  codeAny (model prog w) A (.call (.builtin "set.__new__") ⟨[.type "set",v],[]⟩) (wants Q E) s:=by
 refine XF (Ug (m:=checkBuiltinCall "set.__new__" ⟨[.type "set",v],[]⟩) (wpAny_of_eq (F.newCall_set_1 v) (Ui ⟨Yz F.plain_set_new _,WP F.entry_set_new ?_⟩)));rw[WX F.plain_set_new _];unfold Builtin.«set.__new__» Builtin.Frozenset.newClass;have hsub:=sub_set_self;obtain⟨hp,g,d,tk,os⟩:=s;dsimp only
 wp_walk
 refine Ww (Ui ?_);dsimp only;simp only[newObj];exact Ug (wpAny_alloc (Ui (Ui h)))
def Hf{Sf:Heap->Prop}{Q:Value->Shared->Prop}
  (hin:Shared.TypeIs { s with heap:=s.heap.push (bf #[] 0 (.fresh 0 0 (!bQ w))) } (.ref s.heap.objs.size) "set"->codeAny (model prog w) A.in1 (.call (.builtin "set.__init__") ⟨[.ref s.heap.objs.size]++[.ref l],[]⟩) (wants (λr s2=>r=.none/\∃h' tk,s2={ s with heap:=h',toks:=tk }/\Sf h'/\(∀b o,b<s.heap.objs.size->s.heap.get? b=some o->h'.get? b=some o)) E) { s with heap:=s.heap.push (bf #[] 0 (.fresh 0 0 (!bQ w))) })
  (h:∀(h':Heap) (tk:Nat),Sf h'->(∀b o,b<s.heap.objs.size->s.heap.get? b=some o->h'.get? b=some o)->Q (.ref s.heap.objs.size) { s with heap:=h',toks:=tk }) :
  wpAny (model prog w) A (call (.type "set") [.ref l]) Q E s:=by
 obtain⟨c,tl,hmro⟩:=F.called_set.mro;have hmade:=F.called_set.made;have hsub:=F.called_set.sub;refine WY (XF (Ui ⟨X5 _ (by decide +kernel),WP F.entry_type_call ?_⟩))
 rw[Around.under_plain (weight_type_call_type "set" [.ref l] []) rfl];have h1:=F.called_set.notType;have h2:=F.called_set.canCreate;have hct:=F.typeCall_set_1 (.ref l)
 repeat (any_goals (first | assumption | wp_step))
 refine V2 (Lg (.ref l) (E:=E) (Q:=λobj s1=>obj=.ref s.heap.objs.size/\s1={ s with heap:=s.heap.push (bf #[] 0 (.fresh 0 0 (!bQ w))) }) ⟨rfl,rfl⟩) λr s1 hr=>?_
 cases r with
 |error e=>exact hr
 | ok fl=>
   cases fl with
   | ret obj=>
     obtain⟨rfl,rfl⟩:=hr;have hS:(s.heap.push (bf #[] 0 (.fresh 0 0 (!bQ w)))).get? s.heap.objs.size=some (bf #[] 0 (.fresh 0 0 (!bQ w))):=Ul _ rfl;have hT:Shared.TypeIs { s with heap:=s.heap.push (bf #[] 0 (.fresh 0 0 (!bQ w))) } (.ref s.heap.objs.size) "set":=⟨_,hS,rfl⟩
     have hli:=F.called_set.init.lookup;have hbi:=F.called_set.init.bind (.ref s.heap.objs.size)
     repeat (any_goals (first | assumption | wp_step))
     refine V2 (hin hT) λr2 s2 hr2=>?_
     cases r2 with
     |error e=>exact hr2
     | ok fl2=>
       cases fl2 with
       |ret r=>
         obtain⟨rfl,h',tk,rfl,hS',hk'⟩:=hr2
         repeat (any_goals (first | assumption | wp_step))
         exact h _ _ hS' hk'
       |_=>exact hr2.elim
   |_=>exact hr.elim
def DY{items:Array Value}{Sp:Nat->Heap->Prop}{Q:Value->Shared->Prop}(hh:A.handled=none)(hl:s.heap.IsList l items)
  (h0:∀h',h'.get? s.heap.objs.size=some (bf #[] 0 (.fresh 0 0 (!bQ w)))->(∀b o,b<s.heap.objs.size->s.heap.get? b=some o->h'.get? b=some o)->Sp 0 h') (keep:∀i h h',Sp i h->(∀b o,b∉[s.heap.objs.size+1]->h.get? b=some o->h'.get? b=some o)->Sp i h')
  (add:∀A' i v s1 Q E,A'.units<=A.units+7->i<items.size->items[i]?=some v->Sp i s1.heap->(∀h' tk b,s1.toks<=tk->Heap.SameBut s.heap.objs.size s1.heap h'->Sp (i+1) h'->Q b { s1 with heap:=h',toks:=tk })->wpAny (model prog w) A' (setAdd s.heap.objs.size v) Q E s1)
  (h:∀(h':Heap) (tk:Nat),Sp items.size h'->(∀b o,b<s.heap.objs.size->s.heap.get? b=some o->h'.get? b=some o)->Q (.ref s.heap.objs.size) { s with heap:=h',toks:=tk }) :
  wpAny (model prog w) A (call (.type "set") [.ref l]) Q E s:=by
 refine Hf (Sf:=Sp items.size) (λhT=>Wq F.called_set.init.plain F.entry_set_init (check_set_init_1 hT ?_)) h
 have hS:(s.heap.push (bf #[] 0 (.fresh 0 0 (!bQ w)))).get? s.heap.objs.size=some (bf #[] 0 (.fresh 0 0 (!bQ w))):=Ul _ rfl;obtain⟨ol,hol,hcl,nl,hdl⟩:=hl;obtain⟨ocls,odict,odata,oslots⟩:=ol;simp only at hcl hdl;subst hcl;subst hdl;have hol':(s.heap.push (bf #[] 0 (.fresh 0 0 (!bQ w)))).get? l=some { cls:=.type "list",dict:=odict,data:=.seq items nl,slots:=oslots }:=Uh _ hol;have hsls:=F.sub_list_set;have hslf:=F.sub_list_frozenset;have hne:(Value.type "list"==Value.type "dict")=false:=by decide
 have hl1:(s.heap.push (bf #[] 0 (.fresh 0 0 (!bQ w)))).IsList l items:=⟨_,hol',rfl,nl,rfl⟩;unfold Builtin.«set.__init__» noKeywords Builtin.Frozenset.updateFrom;generalize hPI:pyIter=PI
 wp_walk
 subst hPI;refine We hl1 (Ug (wpAny_runValue ?_));have hlS:l<s.heap.objs.size:=Uk hol;have hh3:A.in1.in1.in1.handled=none:=by simp[hh]
 have hneI:l≠(s.heap.push (bf #[] 0 (.fresh 0 0 (!bQ w)))).objs.size:=by rw[U4];exact Ut (Ye hlS)
 have hSf:s.heap.objs.size∉[(s.heap.push (bf #[] 0 (.fresh 0 0 (!bQ w)))).objs.size,l]:=by rw[U4];simp only[List.mem_cons,List.mem_singleton,List.not_mem_nil,or_false,not_or];exact⟨Ut (VL _),Wz hlS⟩
 refine QQ ((Walks.list hh3 _ l hneI items).toS) s.heap.objs.size hSf Sp (λi h h' g k=>keep i h h' g (by rw[U4]at k;exact k)) (λi v s1 Q E lt hP g q=>add _ i v s1 Q E (by show _<=_;simp) lt hP g q) (items.size-0) 0 _ (by lia) (W9 _) ⟨⟨_,Ul _ rfl,rfl,rfl⟩,(hl1.push _)⟩ (h0 _ (Uh _ hS) λb o z e=>Uh _ (Uh _ e)) λs' hm hS'=>?_
 obtain⟨h',g',d',tk',os'⟩:=s';have eg:g'=s.gens:=hm.gens;have ed:d'=s.drawn:=hm.drawn;have eo:os'=s.os:=hm.os;subst eg;subst ed;subst eo;refine Ui (Ui ⟨rfl,h',tk',rfl,hS',λb o hb e=>?_⟩)
 have hb2:b≠(s.heap.push (bf #[] 0 (.fresh 0 0 (!bQ w)))).objs.size:=by rw[U4];exact Ut (Ye hb)
 exact hm.heap b o (by simp only[List.mem_cons,List.mem_singleton,List.not_mem_nil,or_false,not_or];exact⟨Ut hb,hb2⟩) (Uh _ (Uh _ e))
def DX{items:Array Value}{ns:List Int}{Q:Value->Shared->Prop}(hh:A.handled=none)(hl:s.heap.IsList l items)(hi:IntsAre items.toList ns)(hb:items.size+1<scanBound)
  (h:∀(h':Heap) (tk:Nat),SetG prog w (!bQ w) h' s.heap.objs.size (firstMet (λi=>ns.getD i 0) items.size)->(∀b o,b<s.heap.objs.size->s.heap.get? b=some o->h'.get? b=some o)->Q (.ref s.heap.objs.size) { s with heap:=h',toks:=tk }) :
  wpAny (model prog w) A (call (.type "set") [.ref l]) Q E s:=by
 refine DY (Sp:=λi h=>SetG prog w (!bQ w) h s.heap.objs.size (firstMet (λi=>ns.getD i 0) i)) hh hl (λh' e z=>⟨#[],0,_,e,(λe he=>by simp at he),.refl _,rfl,TI.fresh 0 0,by decide⟩) (λz z z g k=>g.at λo e=>k _ o (by simp) e) (λA' i v s1 Q E z lt hP g q=>RQ (IntsAre.int_at hi i v (by rw[Yo];exact hP)) (by lia) g q) h
end
theorem ints_of:∀ {l:List (Int×Value)},ElemsOf (intKind prog w) l->IntsAre (l.map (·.2)) (iR l)
 |[],_=>.nil
 |e::l,h=>by
   obtain⟨t,q⟩:=w6 h (UW (a:=e) (l:=l));show IntsAre (e.2::l.map (·.2)) (vInt e.2::iR l);have ih:=ints_of (prog:=prog) (w:=w) (l:=l) λx hx=>h x (.tail _ hx)
   rw[q];exact .cons _ _ ih
def Fo(h:IntsAre vs ns)(p:vs'.Perm vs):∃ ns',IntsAre vs' ns'/\ns'.Perm ns:=by
 have key:∀ {vs:List Value}{ns:List Int},IntsAre vs ns->ns=vs.map vInt/\∀ v∈vs,∃ t,v=.int (vInt v) t:=λ{vs ns} h=>by
  induction h with
  |nil=>exact⟨rfl,λv hv=>by cases hv⟩
  |cons n t hr ih=>
    refine⟨by rw[Vo,<-ih.1];rfl,λv hv=>?_⟩
    rcases Uw.mp hv with rfl | hv
    ·exact⟨t,rfl⟩
    ·exact ih.2 v hv
 obtain⟨e,k⟩:=key h;have back:∀ (l:List Value),(∀ v∈l,∃ t,v=.int (vInt v) t)->IntsAre l (l.map vInt):=by
  intro l;induction l with
  |nil=>intro _;exact .nil
  |cons v l ih=>
    intro hl;obtain⟨t,q⟩:=hl v (UW);have r:=ih λx hx=>hl x (.tail _ hx)
    rw[Vo];generalize vInt v=i at q ⊢
    subst q;exact .cons _ _ r
 refine⟨vs'.map vInt,back vs' λv hv=>k v (p.mem_iff.mp hv),?_⟩
 rw[e];exact p.map _
def JW(h:b+1<=a):a≠b:=by lia
section
variable{prog:Program}{w:World}{A:Around}{E:Value->Shared->Prop}{s:Shared}
def Ir(ho:s.heap.get? a=some (bf es ep t))(q:Q false s):wpAny (model prog w) A (Builtin.List.listLengthHint (.ref a)) Q E s:=by
 have ty:s.TypeIs (.ref a) "set":=⟨_,ho,rfl⟩;unfold Builtin.List.listLengthHint;refine Ug (wpAny_specialOf ty F.slot_set_len.lookup ?_);have sp:splitId "set.__len__"=some ("set", "__len__"):=by decide +kernel
 dsimp only;rw[sp];dsimp only;refine Ug (Ym (b:=true) ty sub_set_self ?_);refine Ug (X7 ty ?_);exact Ui q
def wU(hh:A.handled=none)(ho:s.heap.get? a=some (bf es ep t))(hf:t.fits es.size=true)(ti:TI (!bQ w) t)(hb:es.size<scanBound)(h:∀ h' tk d' vs,vs.Perm (es.toList.map (·.2))->s.heap.objs.size<=h'.objs.size->(∀ b o,s.heap.get? b=some o->h'.get? b=some o)->Q vs { s with heap:=h',toks:=tk,drawn:=d' }):wpAny (model prog w) A (collect (.ref a)) Q E s:=by
 unfold collect;refine Ug (wpAny_runValue (WP F.entry_proto_collect ?_));rw[WX F.plain_proto_collect _];refine Ug (m:=newList []) (Vd (Ui ⟨Yz F.plain_list_iadd _,WP F.entry_list_iadd ?_⟩));rw[WX F.plain_list_iadd _];have ha:a<s.heap.objs.size:=Uk ho;have ne:s.heap.objs.size≠a:=λz=>by rw[z]at ha;exact V1 _ ha
 have sr:Builtin.List.listSameRef (.ref s.heap.objs.size) (.ref a)=false:=by simp[Builtin.List.listSameRef,ne]
 have lst0:(s.heap.push (seqObj "list" #[] 0)).get? s.heap.objs.size=some (seqObj "list" #[] 0):=Ul _ rfl;have ho1:(s.heap.push (seqObj "list" #[] 0)).get? a=some (bf es ep t):=Uh _ ho;show wpAny _ A.in1 (Builtin.List.listExtendWith (.ref s.heap.objs.size) (.ref a) (.ref s.heap.objs.size)) _ _ { s with heap:=s.heap.push (seqObj "list" #[] 0) }
 unfold Builtin.List.listExtendWith;refine Ug (X7 (T := "set") ⟨_,ho1,rfl⟩ ?_);rw[Ux (by rw[sr];decide)]
 refine Ug (IK (s:={ s with heap:=s.heap.push (seqObj "list" #[] 0) }) ho1 hf ti hb λh1 d1 I tp ord hI k1 hI1 htp c po=>?_)
 have ho2:=k1 a _ ho1;have lst1:=k1 _ _ lst0;have szI:s.heap.objs.size+1<=I:=by have:(s.heap.push (seqObj "list" #[] 0)).objs.size<=I:=hI;rw[U4]at this;exact this
 refine Ug (Vw (Ir ho2 ?_));dsimp only;refine Ug (m:=rule _) (Wk ?_);unfold Builtin.List.listTouch;refine Ug (Ug (listUpdate_at lst1 rfl ?_ (by simp) (by simp)))
 have lst2:=get?_update_seq lst1 (λx:Array Value=>x.push .none)
 refine listUpdate_at lst2 rfl ?_ (by simp[sizeLine_eq]) (by simp)
 have lst3:=get?_update_seq lst2 (λx:Array Value=>x.pop)
 have up:∀b o,b≠s.heap.objs.size->h1.get? b=some o->((h1.update s.heap.objs.size (Obj.mapSeq λx=>x.push .none)).update s.heap.objs.size (Obj.mapSeq λx=>x.pop)).get? b=some o:=λb o hb e=>by rw[Xu _ _ _ _ hb,Xu _ _ _ _ hb];exact e
 have O6:I≠s.heap.objs.size:=JW szI;have netp:tp≠s.heap.objs.size:=by
  rcases htp with z | ⟨z,_⟩
  ·rw[z];exact λq=>ne q.symm
  ·have:s.heap.objs.size+1<=tp:=by have:(s.heap.push (seqObj "list" #[] 0)).objs.size<=tp:=z;rw[U4]at this;exact this
   exact JW this
 have hne:a≠I:=Ut (YH ha szI);have hh1:A.in1.in1.handled=none:=by simp[hh]
 have W:=(Hs (prog:=prog) (w:=w) (A:=A.in1) (I:=I) (a:=a) (tp:=tp) (es:=es) (ep:=ep) (t:=t) (ord:=ord) (by simp[hh]) hf ti hne).toS
 have ol:ord.length=es.size:=by rw[po.length_eq];simp
 refine Ui ⟨Yz F.plain_extend_loop _,codeAny_extend_loopS W (by rw[ol];exact Yh hb) s.heap.objs.size (by simp;exact⟨λz=>O6 z.symm,ne,λz=>netp z.symm⟩) _ ord.length 0 _ #[] _ rfl (W9 _) ⟨up a _ (λq=>ne q.symm) ho2,c.at (λo e=>up I o O6 e) λo e=>up tp o netp e⟩ lst3 (ItemsOf.nil _) λs' acc c' hm hS' hacc=>?_⟩
 refine Ug (m:=load s.heap.objs.size) (wpAny_load hS' ?_);have ea:acc.toList=ord:=by
  apply Yi;intro k;by_cases hk:k<acc.size
  ·have:=hacc.2 k acc[k] (by rw[VM hk])
   rw[this,Yo,VM hk]
  ·rw[VB (by simp;lia),VB (by have:=hacc.1;lia)]
 obtain⟨h2,g2,d2,tk2,os2⟩:=s';have eg:g2=s.gens:=hm.gens;have ed:d2=d1:=hm.drawn;have eo:os2=s.os:=hm.os;subst eg ed eo;refine Ui (h h2 tk2 d2 acc.toList (by rw[ea];exact po) (XS (Uk hS')) λb o e=>?_)
 have lt:b<s.heap.objs.size:=Uk e;refine hm.heap b o (by simp;exact⟨Ut lt,Ut (YH lt szI)⟩) (up b o (Ut lt) (k1 b o (Uh _ e)))
def yU(hh:A.handled=none)(g:SetG prog w (!bQ w) s.heap a ks)(h:∀h' tk d' vs ns,IntsAre vs ns->ns.Perm ks->s.heap.objs.size<=h'.objs.size->(∀b o,s.heap.get? b=some o->h'.get? b=some o)->Q vs { s with heap:=h',toks:=tk,drawn:=d' }):wpAny (model prog w) A (collect (.ref a)) Q E s:=by
 obtain⟨es,ep,t,ho,hel,hp,hf,ti,hb⟩:=g.ex;refine wU hh ho hf ti hb λh' tk d' vs po hz hk=>?_
 obtain⟨ns,hi,hpn⟩:=Fo (ints_of hel) po;exact h h' tk d' vs ns hi (hpn.trans hp) hz hk
def CJ(hh:A.handled=none)(g:SetG prog w (!bQ w) s.heap a ks)(h64:ks.length<64)
  (h:∀h' tk d' p n vs ns,s.heap.objs.size<=p->h'.get? p=some (seqObj "list" (vs:List Value).toArray n)->IntsAre vs ns->ns.Perm ks->ns.Pairwise (·<= ·)->(∀b o,s.heap.get? b=some o->h'.get? b=some o)->Q (.ref p) { s with heap:=h',toks:=tk,drawn:=d' }) :
  wpAny (model prog w) A (call (.builtin "sorted") [.ref a]) Q E s:=by
 refine YF kind_sorted plain_sorted entry_sorted (args_sorted1 _) ?_;unfold Builtin.«sorted»
 refine Ug (m:=checkCount "sorted" 1 1 _) (Ui ?_);refine Ug (yU (by simp[hh]) g λh1 tk1 d1 vs ns hi hp sz k1=>?_)
 have vl:vs.length=ns.length:=IntsAre.length hi;have nl:ns.length=ks.length:=hp.length_eq;have zl:vs.toArray.size<=sizeLine:=by rw[Uy,Yl];lia
 refine Ug (wpAny_newList ?_ zl);have oL:(h1.push (seqObj "list" vs.toArray 0)).get? h1.objs.size=some (seqObj "list" vs.toArray 0):=Ul _ rfl;refine Ug (Vw (Vg slot_list_sort ⟨_,oL,rfl⟩ entry_list_sort (list_sort_tree oL hi (by lia) λout ns' a1 a2 a3=>⟨_,rfl,?_⟩) (args_list_sort _)))
 obtain⟨e,he⟩:=sortedHeap_at (out:=out) oL;refine Ui ⟨_,rfl,h _ _ _ h1.objs.size e out.toList ns' sz (by simpa using he) a1 (a2.trans hp) a3 λb o eb=>?_⟩
 have lt:=Uk (k1 b o eb);rw[sortedHeap_old (Ut lt) (by rw[size_push'];exact Ye lt)]
 exact Uh _ (k1 b o eb)
end
end LS
namespace L2
open PySem PySem.Spec PyProof.Rows LS
def lX(x:Int):List Int->List Int
 |[]=>[x]
 |y::r=>if x<=y then x::y::r else y::lX x r
theorem oN(x:Int):∀ l:List Int,(lX x l).Perm (x::l)
 |[]=>.refl _
 |y::r=>by
   unfold lX;split
   ·exact .refl _
   ·exact ((oN x r).cons y).trans (.swap x y r)
set_option tactic.hygienic true in
theorem vD(x:Int):∀ {l:List Int},l.Pairwise (·<= ·)->(lX x l).Pairwise (·<= ·)
 |[],_=>by simp[lX]
 | y::r,h=>by
   unfold lX;split
   ·rename_i c;refine Wm.mpr ⟨λz hz=>?_,h⟩
    rcases Uw.mp hz with rfl | hz
    ·exact c
    ·exact Int.le_trans c ((Wm.mp h).1 z hz)
   ·rename_i c;have h':=Wm.mp h;refine Wm.mpr ⟨λz hz=>?_,vD x h'.2⟩
    rcases Uw.mp ((oN x r).mem_iff.mp hz) with rfl | hz
    ·lia
    ·exact h'.1 z hz
def fH(ns:List Int):List Int:=(ns.foldl step_dedup []).foldr lX []
theorem fD:∀ l:List Int,(l.foldr lX []).Perm l/\(l.foldr lX []).Pairwise (·<= ·)
 |[]=>⟨.refl _,by simp⟩
 |x::l=>by obtain⟨a,b⟩:=fD l;exact⟨(oN x _).trans (a.cons x),vD x b⟩
theorem qI:∀ {a b:List Int},a.Perm b->a.Pairwise (·<= ·)->b.Pairwise (·<= ·)->a=b
 |[],b,p,_,_=>p.nil_eq
 |x::a,[],p,_,_=>by have:=p.length_eq;simp at this
 | x::a,y::b,p,ha,hb=>by
   have h1:=Wm.mp ha;have h2:=Wm.mp hb;have xy:x=y:=by
    have m1:x∈y::b:=p.mem_iff.mp (UW);have m2:y∈x::a:=p.mem_iff.mpr (UW);rcases Uw.mp m1 with e | m1
    ·exact e
    ·rcases Uw.mp m2 with e | m2
     ·exact e.symm
     ·exact Int.le_antisymm (h1.1 y m2) (h2.1 x m1)
   subst xy;rw[qI (List.Perm.cons_inv p) h1.2 h2.2]
def Ad(ns:List Int):(fH ns).length<=ns.length:=by unfold fH;rw[(fD _).1.length_eq];exact foldl_step_dedup_nil_length_le ns
def xq(ns:List Int):firstMet (λi=>ns.getD i 0) ns.length=ns.foldl step_dedup []:=by
 unfold firstMet;congr 1;apply Yi;intro k;by_cases hk:k<ns.length
 ·simp[hk]
 ·rw[VB (by simp;lia),VB (by lia)]
theorem vH:∀ {ns:List Int}{us:List Value},Vals (ns.map V.int) us->IntsAre us ns
 |[],_,.nil=>.nil
 |n::ns,_,.cons r rr=>by obtain⟨t,rfl⟩:=r;exact .cons n t (vH rr)
def wO:bootBuiltins "sorted"=some (.builtin "sorted"):=by decide +kernel
def Dy:bootBuiltins "set"=some (.type "set"):=by decide +kernel
end L2
namespace LS
open PySem PySem.Spec PyProof.Rows
end LS
namespace L2
open PySem PySem.Spec PyProof.Rows LS
end L2
namespace L2
open PySem PySem.Spec PyProof.Rows
end L2
namespace L2
open PySem PySem.Spec PyProof.Rows LS
end L2
namespace L2
open PySem PySem.Spec PyProof.Rows
set_option tactic.hygienic true in
def Aw(l:List Value)(h:TriplesOk l)(q:codeAmong pos (l++[rawInt a,rawInt b,c])=some cv):codeAmong pos l=some cv\/cv=c:=by
 fun_induction TriplesOk l with
 |case1=>
   simp only[List.nil_append,codeAmong,rawInt]at q;split at q
   ·exact .inr (Uo q).symm
   ·cases q
 |case2 a' t b' u x rest ih=>
   simp only[List.cons_append,codeAmong]at q ⊢
   split at q
   ·rename_i hc;rw[Uv hc];exact .inl q
   ·rename_i hc;rw[Ux hc];exact ih h q
 |case3 l h1 h2=>exact h.elim
def RecAt.mono(r:RecAt H v)(f:∀b o,H b=some (.frz o (.own b))->H' b=some (.frz o (.own b))):RecAt H' v:=
 let ⟨c,o,fs,q,t,g1,g2,g3⟩:=r;⟨c,o,fs,q,t,g1,f c o g2,g3⟩
def RecAt.rec_(r:RecAt H v)(ok:HOk P w H h):∃q,h.CodeRec v q:=by obtain⟨c,o,fs,q,t,g1,g2,g3,g4⟩:=r;exact⟨q,c,o,fs,t,g1,(ok c _ g2).1,g3,g4⟩
abbrev tu(qual:Str)(params:Arguments)(body:Expr)(scope:Scope)(cl:List (Str×Addr))(pm cv ctv:Value):Obj:=
 { cls:=.type "function",data:=.func (PySem.W.kla_fn "<lambda>" qual params body scope cl pm cv ctv) }
def pB(H:Hp)(g:Addr)(params:Arguments)(body:Expr)(scope:Scope)(cl:List (Str×Addr)):Prop:=
 ∃qual pm cv ctv,H g=some (.frz (tu qual params body scope cl pm cv ctv) (.own g))/\RecAt H cv
theorem pB.mono(r:pB H g params body scope cl)(f:∀b o,H b=some (.frz o (.own b))->H' b=some (.frz o (.own b))):pB H' g params body scope cl:=
 let ⟨qual,pm,cv,ctv,g1,g2⟩:=r;⟨qual,pm,cv,ctv,f g _ g1,g2.mono f⟩
def Qq(P:Addr)(params:Arguments)(body:Expr)(scope:Scope)(cl:List (Str×Addr)):TE:=λz H Q=>
 (∃ps,H P=some (.tbl ps))/\∀g H1,H g=none->Same H H1->pB H1 g params body scope cl->Q (.ref g) H1
def Pk(hcd:X.env.code=.ref c)(C:PySem.W.CodeHd X.base c P)(hP:mainGlobals≠P)(B:X.base.BuiltinsAt X.mg P)
  (hcl:closureFor scope X.env=pure cl) (hdef:defaultsOf params X.env=([],[]):=by rfl):PE X (.Lambda params body scope pos) (Qq P params body scope cl):=by
 intro YT s σ H Q I h;obtain⟨⟨ps0,hT⟩,q⟩:=h;obtain⟨ps,hP',tr,rc⟩:=I.hok P _ hT;refine PySem.W.kla_eval hdef ?_;have hg:s.heap.Ns mainGlobals X.mg:=I.ok.mod.glob.keeps I.bk;have hb:s.heap.BuiltinsAt X.mg P:=let ⟨bm,o,a1,a2,a3,a4,a5,r⟩:=B;⟨bm,o,a1,a2,a3,a4,I.bk _ _ a5,r⟩
 cases hq:codeAmong pos ps.toList with
 | none=>
   refine PySem.W.kla_makeFunction hcl I.ok.glob hg hcd (C.keeps I.bk) hP' tr hq hP hb λc' ctv h' tk hx hge hlt hrec htb=>?_
   obtain⟨c2,oc,vs,t,e2,hoc,hd,hv⟩:=hrec;cases e2;have fc:H c'=none:=I.hok.fresh hge;have fg:H h'.objs.size=none:=I.hok.fresh (UL hge (XS hlt));have ncg:c'≠h'.objs.size:=Ut hlt;let fo:Obj:=tu (X.env.qual++"<lambda>") params body scope cl ((X.mg "__name__").getD .none) (.ref c') ctv
   let H1:Hp:=upd (upd H c' (.frz oc (.own c'))) h'.objs.size (.frz fo (.own h'.objs.size))
   have S:Same H H1:=λb o e=>by show upd (upd H c' _) h'.objs.size _ b=_;rw[upd_ne (ne_of_none e fg),upd_ne (ne_of_none e fc)];exact e
   have kp:∀b o,b≠P->s.heap.get? b=some o->(h'.push fo).get? b=some o:=λb o hb e=>Uh _ (hx b o hb e)
   have nP:∀b,H b=none->b≠P:=λb n z=>by rw[z,hT]at n;cases n
   have g1:H1 h'.objs.size=some (.frz fo (.own h'.objs.size)):=upd_same;have c1:H1 c'=some (.frz oc (.own c')):=by show upd (upd H c' _) h'.objs.size _ c'=_;rw[upd_ne ncg];exact upd_same
   have r1:RecAt H1 (.ref c'):=⟨c',oc,vs,_,t,rfl,c1,hd,hv⟩;have un:Un X.fs [] H H1 s.heap (h'.push fo):=by
    refine⟨λb o e n x x=>kp b o (nP b n) e,λb o e n x x=>⟨o.slots,kp b o (nP b n) e⟩,λb o e n x=>?_,λb o e x=>?_,λb xs e=>S _ _ e,λb o u e=>S _ _ e,λb ps e=>⟨#[],by rw[S _ _ e];simp⟩⟩
    ·have l:=Uk e;show upd (upd H c' _) h'.objs.size _ b=_;rw[upd_ne (Ut (YH (Um l hge) hlt)),upd_ne (Ut (Um l hge))];exact n
    ·by_cases hb':b=P
     ·subst hb';exact⟨_,Uh _ htb⟩
     ·exact⟨o,kp b o hb' e⟩
   have hok:HOk X.prog X.w H1 (h'.push fo):=λb u e=>by
    by_cases bg:b=h'.objs.size
    ·subst bg;rw[g1]at e;cases e;exact⟨Ul _ rfl,_,Ul _ rfl⟩
    by_cases bc:b=c'
    ·subst bc;rw[c1]at e;cases e;exact⟨Uh _ hoc,_,Uh _ hoc⟩
    have e':H b=some u:=by have e:upd (upd H c' _) h'.objs.size _ b=some u:=e;rw[upd_ne bg,upd_ne bc]at e;exact e
    by_cases bP:b=P
    ·subst bP;rw[hT]at e';cases e';refine⟨_,Uh _ htb,?_,λpos' cv' z=>?_⟩
     ·rw[Array.toList_append];exact TriplesOk_snoc _ _ _ _ tr
     ·rw[Array.toList_append]at z;rcases Aw _ tr z with z | z
      ·exact (rc _ _ z).mono λb o e=>S _ _ e
      ·rw[z];exact r1
    ·refine (I.hok b u e').stay (λd v hd' q'=>kp d v ?_ q') (λd z=>S _ _ z) (λd xs z=>S _ _ z) λd o z=>S _ _ z
     rcases hd' with z | z
     ·rw[z];exact bP
     ·intro y;rw[y,hT]at z;cases z
   exact⟨.ref h'.objs.size,H1,I.un (t':=tk) un hok,rfl,q _ H1 fg S ⟨_,_,_,_,g1,r1⟩⟩
 |some cv=>
   have rcv:=rc _ _ hq;refine PySem.W.kla_makeFunctionHit hcl I.ok.glob hg hcd (C.keeps I.bk) hP' tr hq hb λctv h' tk hk hsz=>?_
   have fg:H h'.objs.size=none:=I.hok.fresh hsz;have S:Same H (upd H h'.objs.size (.frz (tu (X.env.qual++"<lambda>") params body scope cl ((X.mg "__name__").getD .none) cv ctv) (.own h'.objs.size))):=same_new fg _;refine⟨.ref h'.objs.size,_,I.laid (t':=tk) (o:=.frz (tu (X.env.qual++"<lambda>") params body scope cl ((X.mg "__name__").getD .none) cv ctv) (.own h'.objs.size)) (λb u e=>Uh _ (hk b u e)) hsz ⟨Ul _ rfl,_,Ul _ rfl⟩,rfl,q _ _ fg S ⟨_,_,_,_,upd_same,rcv.mono λb o e=>S _ _ e⟩⟩
def m8(P:Program)(w:World)(K:PySem.W.Frag)(mg:Str->Option Value)(base:Heap)(N:List Str)(qual:Str)(scope:Scope)(g:Addr)(cd:Value)(cl:List (Str×Addr))(A:Around)(outer:List Env)(s:Shared)(H:Hp)(E:XK):Cx where
 prog:=P
 w:=w
 K:=K
 mg:=mg
 base:=base
 A:=A.deeper (PySem.W.envX qual scope s.heap.objs.size g cd cl)
 N:=N
 s₀:=s
 H₀:=H
 env:=PySem.W.envX qual scope s.heap.objs.size g cd cl
 outer:=outer
 stack:=PySem.W.envX qual scope s.heap.objs.size g cd cl::outer
 ex:=[]
 calm:=true
 fn:=λz=>false
 pn:=[]
 xe:=λe s'=>wpAny (model P w) (A.deeper (PySem.W.envX qual scope s.heap.objs.size g cd cl)) (leaving (PySem.W.envX qual scope s.heap.objs.size g cd cl) e) (λz s''=>bD P w outer H s E e s'') (λe' s''=>bD P w outer H s E e' s'') s'
structure LamOk(scope:Scope)(cl:List (Str×Addr))(fr:List Str):Prop where
 kind:scope.kind=.function
 co:scope.isCoroutine=false
 gen:scope.isGenerator=false
 cell:∀y∈scope.names,y.2≠.cell
 nd:fr.Nodup
 has:∀y,(scope.names.lookup y=some .cell\/scope.names.lookup y=some .free)->∃c,cl.lookup y=some c
 fre:∀y∈fr,scope.names.lookup y=some .free
structure CellsAt(cl:List (Str×Addr))(fr:List Str)(σ:St)(H:Hp)(h:Heap):Prop where
 inj:∀x y c,cl.lookup x=some c->cl.lookup y=some c->x=y
 cell:∀x c,cl.lookup x=some c->∃v,h.IsCell c v
 free:∀x c,cl.lookup x=some c->H c=none
 val:∀(i:Nat) x v,fr[i]?=some x->σ[i]?=some (some v)->∃u c,RelV v u/\cl.lookup x=some c/\h.IsCell c (some u)
 len:σ.length=fr.length
section
variable{P:Program}{w:World}{K:PySem.W.Frag}{mg:Str->Option Value}{base:Heap}{A:Around}{outer:List Env}{s:Shared}{H:Hp}{E:XK}{Q:VK}{k:Nat}{g:Addr}{params:Arguments}{body:Expr}{scope:Scope}{cl:List (Str×Addr)}{fr:List Str}{σ:St}
def KQ(T:LamOk scope cl fr)(e0:Env0 P w K mg base A outer s H)(hd:A.handled=none)(C:CellsAt cl fr σ H s.heap)(hns:h1.Ns s.heap.objs.size m)(hk:∀b o,s.heap.get? b=some o->h1.get? b=some o):
  Inv (m8 P w K mg base fr qual scope g cd cl A outer s H E) [] σ H { s with heap:=h1,toks:=tk }:=by
 have noA:∀b:Addr,b∉(m8 P w K mg base fr qual scope g cd cl A outer s H E).ex:=λb z=>absurd (show b∈([]:List Addr) from z) (by simp)
 refine⟨⟨e0.mod,T.kind,rfl,rfl,Ur _,C.inj,T.has,λy c z x=>absurd (show false=true from z) U0,λx=>hd,Around.frames_deeper e0.frames,.inr ⟨rfl,rfl⟩,λb z=>absurd z (noA b),e0.bs,e0.bsz,λb x x=>noA b,λb z=>absurd z (noA b),e0.funs,e0.frf⟩,
  rfl,e0.bare,Un.kept hk,⟨m,hns,λi y v h1 h2 h3=>?_⟩,λy c h=>?_,e0.hok.fresh (Ur _),λy c h=>C.free y c h,λp hp=>absurd (show p∈([]:List (Addr×Obj)) from hp) (by simp),e0.hok.kept hk,C.len⟩
 ·obtain⟨u,c,r,e,z⟩:=C.val i y v h1 h2;exact⟨u,r,.inr ⟨.inr (T.fre y (Vh h1)),c,e,z.keeps hk⟩⟩
 ·obtain⟨v,z⟩:=C.cell y c h;exact⟨v,z.keeps hk⟩
def LK(T:LamOk scope cl fr)(e0:Env0 P w K mg base A outer s H)(hr:Room (k+1) A)(L:pB H g params body scope cl)(C:CellsAt cl fr σ H s.heap)
  (hbind:∀qual pm cv ctv,bindArgs (PySem.W.kla_fn "<lambda>" qual params body scope cl pm cv ctv) ⟨[],[]⟩=pure [])
  (hbody:∀qual cd,Room k (A.deeper (PySem.W.envX qual scope s.heap.objs.size g cd cl))->∃t,PE (m8 P w K mg base fr qual scope g cd cl A outer s H E) body t/\t σ H Q) :
  codeAny (model P w) A (.call (.ref g) ⟨[],[]⟩) (CR (bD P w) outer P w H s Q E) s:=by
 obtain⟨qual,pm,cv,ctv,hg,rc⟩:=L;obtain⟨q,hcd⟩:=rc.rec_ e0.hok;obtain⟨ho,_⟩:=e0.hok g _ hg;have lim:s.heap.NoLimit:=e0.mod.nolimit.keeps λb o e=>(e0.bs b o e).1
 obtain⟨c,oc,vs,tq,hc,hoc,hdc,hq⟩:=hcd;subst hc;refine XF ?_;show wpAny _ A.in1 (callAny (.ref g) ⟨[],[]⟩) _ _ s;simp only[callAny];refine Ug (wpAny_load ho ?_);simp only[callFunction,T.co,T.gen];refine Ug (m:=field (.ref c) 1) (Vc hoc hdc hq (Ug (Ui ?_)));rw[hbind];refine Ug (Ui (Ug (wpAny_newFunctionEnv T.cell (λx hx=>by cases hx) (λh1 hns hsb=>?_) T.kind)))
 have hk:∀b o,s.heap.get? b=some o->h1.get? b=some o:=λb o e=>hsb.extBut b o (Ut (Uk e)) (Uh _ e)
 refine Ug (wpAny_enterFrame (lim.keeps hk) hr.depth (Ui (And.intro rfl ?_)));show codeAny _ _ (.expr body (PySem.W.envX q scope s.heap.objs.size g (.ref c) cl)) _ _;obtain⟨t,ht,hq⟩:=hbody q (.ref c) (hr.deeper _);have I:Inv (m8 P w K mg base fr q scope g (.ref c) cl A outer s H E) [] σ H { s with heap:=h1,toks:=s.toks+([]:List (Str×Value)).length }:=KQ T e0 hr.hd C hns hk
 refine PySem.W.kla_codeExpr (Us (ht [] _ σ H _ I hq) (λu s' hs=>?_) λe s' hs=>hs)
 obtain⟨v,H',J,rv,q⟩:=hs;exact⟨v,H',J.os,J.bare,J.base,J.hok,rv,q⟩
def pQ:Passes (bD P w) (m8 P w K mg base N qual scope g cd cl A outer s H E) E:=by
 intro YT σ H1 s1 e s' I hf;obtain⟨x,C,a0,H',B,rfl,os,bare,un,hok,fl,ci,cii,q⟩:=hf;have J:Inv (m8 P w K mg base N qual scope g cd cl A outer s H E) YT σ H' s':=I.call' (ch:=[]) os un hok bare (λb z=>absurd z (by simp))
 have hfr:(m8 P w K mg base N qual scope g cd cl A outer s H E).A.frames=some ((m8 P w K mg base N qual scope g cd cl A outer s H E).env::outer):=I.ok.frames;have hfs:∀b∈frs outer,∃o,s'.heap.get? b=some o/\∀vs,o.data≠.fields vs:=λb hb=>(fl.2.2.1.2.2.mem hb).2
 have hfrm:(m8 P w K mg base N qual scope g cd cl A outer s H E).env.frame=some (m8 P w K mg base N qual scope g cd cl A outer s H E).env.locals:=rfl;have cov:∀b o,s.heap.get? b=some o->b∉frs outer->∃o',B.get? b=some o':=λb o e hb=>by
  obtain⟨o1,h1⟩:=I.base.there b o e (show b∉([]:List Addr) by simp)
  refine cii b o1 h1 ?_;show b∉frs ((m8 P w K mg base N qual scope g cd cl A outer s H E).env::outer);rw[qX hfrm];intro hm;rcases Uw.mp hm with rfl | hm
  ·exact absurd (Uk e) (VP.mpr I.ok.above)
  ·exact hb hm
 show wpAny _ _ (leaving _ (.ref x)) _ _ s';refine tE hfr fl.2.2.1 rfl fl.1 fl.2.1 (.inr ⟨_,fl.2.2.2.at⟩) λh' fl' up d=>?_
 exact⟨x,C,a0,H',B,rfl,J.os,bare,lK J.base fl.1 fl'.1 up hfs cov,eY hok fl.1 fl'.1 ci,fl',ci,cov,by rw[d];exact q⟩
def Lz{x:Str}{st:Stmt}{f:Addr}{fd:FuncData}{N ps:List Str}{us:List Value}{vs:List V}(F:Fun K x x st f fd)(S:FnScope N ps (defScope st))(e0:Env0 P w K mg base A outer s H)(hr:Room (k + 1) A)
  (hb:∀(kV doc pm:Value) (an:Option Addr) (cdv ct:Value),bindArgs (PySem.W.fnOf x x (defArgs st) (defBody st) (defScope st) .none kV doc pm an cdv ct) ⟨us,[]⟩=pure (ps.zip us)) (hl:vs.length=ps.length) (r:Vals vs us)
  (hbody:∀cdv,Room k (A.deeper (envOfC x (defScope st) s.heap.objs.size f cdv))->∃t,PSs (aH P w K mg base N x (defScope st) f cdv A outer s H E) (defBody st) t/\t { nx:=λz H'=>Q .non H',rt:=Q } (start N vs) H) :
  codeAny (model P w) A (.call (.ref f) ⟨us,[]⟩) (CR (bD P w) outer P w H s Q E) s:=by
 obtain⟨oc,od,kV,doc,pm,an,cdv,ct,osl,rfl,lk,hcd⟩:=F.ex;have KX:K.In s.heap:=e0.mod.kin.keeps λb o e=>(e0.bs b o e).1
 have lim:s.heap.NoLimit:=e0.mod.nolimit.keeps λb o e=>(e0.bs b o e).1
 have hkind:∀y∈ps.zip us,(defScope st).names.lookup y.1=some .local\/((defScope st).names.lookup y.1=some .cell/\((cellsFrom (s.heap.objs.size+1) (defScope st).names []).lookup y.1).isSome=true):=λ⟨n,v⟩ hy=>by
  rcases S.par n (Yx hy).1 with q | q
  ·exact .inl q
  ·exact .inr ⟨q,Yk _ _ _ (.inl q)⟩
 refine codeAny_call_function hr.depth (KX _ _ lk) rfl S.co S.gen rfl (PySem.W.codeRec_of KX hcd) ?_;rw[hb];refine Ui (wpAny_newFunctionEnv_cells S.kind hkind λenv he s1 x=>?_)
 subst he;refine⟨lim.keeps x.toInCall.keep,codeAny_func ?_⟩;obtain⟨t,ht,hq⟩:=hbody cdv (hr.deeper _);have I:=inv_start (CX:=bD P w) (E:=E) S hr.hd e0 hl r x;refine Us (ht [] s1 (start N vs) H _ I hq) (λfl s' hs=>?_) λe s' hs=>hs
 cases fl with
 |ret u=>obtain⟨v,σ',H',J,rv,q⟩:=hs;exact⟨v,H',J.os,J.bare,J.base,J.hok,rv,q⟩
 |next=>obtain⟨σ',H',J,q⟩:=hs;exact⟨V.non,H',J.os,J.bare,J.base,J.hok,(rfl:RelV .non Value.none),q⟩
 |brk=>obtain⟨_,_,_,q⟩:=hs;exact False.elim q
 |cont=>obtain⟨_,_,_,q⟩:=hs;exact False.elim q
end
structure TabD(mg:Str->Option Value)(base:Heap)(c P:Addr):Prop where
 hd:PySem.W.CodeHd base c P
 ne:mainGlobals≠P
 bl:base.BuiltinsAt mg P
def FW{P:Program}{w:World}{K:PySem.W.Frag}{mg mb:Str->Option Value}{CX:CXT}{k:Nat}{fa a:Addr}{fd:FuncData}{x:Str}{sp:Sp}{s₁:Shared}{vs:List Value}{ns:List Int}{tabs:List (Addr×Addr)}
  (KX:K.In s₁.heap) (hns:s₁.heap.Ns mainGlobals mg) (hb:s₁.heap.Ns builtinsNs mb) (hbb:∀x:Str,x≠"__name__"->mb x=bootBuiltins x) (hlim:s₁.heap.NoLimit) (hg:s₁.gens=#[])
  (ha:s₁.heap.get? a=some { cls:=.type "list",data:=.seq vs.toArray }) (hi:IntsAre vs ns) (hl:ns.length<=sizeLine) (hr:Room k callerA) (hT:PySem.W.TabsAt tabs s₁.heap) (hKT:∀q∈tabs,K.lookup q.2=none) (hKA:K.lookup a=none)
  (hB:∃bm ob,mg "__builtins__"=some (.ref bm)/\bm≠builtinsNs/\s₁.heap.get? bm=some ob/\ob.cls=.type "module"/\ob.dict=some builtinsNs/\ob.data=.plain)
  (F:∀base:Heap,K.In base->base.Ns mainGlobals mg->(∀q∈tabs,TabD mg base q.1 q.2)->FnOk P w K mg base CX k fa fd [x] sp) (hbind:∀(s:Shared) (u:Value),BindsTo s fd ⟨[u],[]⟩ [(x,u)])
  (hsp:∀H:Hp,Rd H a (.lst (ns.map V.int))->(∀q∈tabs,H q.2=some (.tbl #[]))->sp [.ref a] H (λv t=>v=.bl true) λt t t=>False)
  (hCX:∀H e s',CX [] H s₁ (λt t t=>False) e s'->False) :
  codeAny (model P w) callerA (.call (.ref fa) ⟨[.ref a],[]⟩) (λr s'=>r=.ok (.ret (.bool true))/\OldK s₁.heap s'.heap/\s'.os=s₁.os/\AllBare s'.gens) s₁:=by
 have rv:=vals_ints hi;have lenV:=hi.length;let lo:Obj:={ cls:=.type "list",data:=.seq vs.toArray }
 let H:Hp:=λb=>if b∈tabs.map (·.2) then some (.tbl #[]) else if b=a then some (.frz lo (.lst (ns.map V.int))) else none
 have tabO:∀b,b∈tabs.map (·.2)->s₁.heap.get? b=some (PySem.W.tabObj #[]):=λb hb'=>by obtain⟨q,hq,rfl⟩:=Vk.mp hb';exact (hT q hq).2
 have naT:a∉tabs.map (·.2):=λz=>by have:=tabO a z;rw[ha]at this;cases this
 have H1:∀b,b∈tabs.map (·.2)->H b=some (.tbl #[]):=λb z=>Uv z
 have H2:H a=some (.frz lo (.lst (ns.map V.int))):=(Ux naT).trans (Uv rfl);have H3:∀b,b∉tabs.map (·.2)->b≠a->H b=none:=λb h1 h2=>(Ux h1).trans (Ux h2)
 have free:∀{b:Addr}{o:Obj},s₁.heap.get? b=some o->o≠PySem.W.tabObj #[]->o≠lo->H b=none:=λ{b o} e h1 h2=>H3 b (λz=>h1 (by have:=tabO b z;rw[e]at this;exact Uo this)) (λz=>h2 (by subst z;rw[ha]at e;exact (Uo e).symm))
 have hok:HOk P w H s₁.heap:=λb u e=>by
  by_cases z:b∈tabs.map (·.2)
  ·rw[H1 b z]at e;cases e;exact⟨#[],tabO b z,trivial,λpos cv q=>by cases q⟩
  by_cases y:b=a
  ·subst y;rw[H2]at e;cases e;exact⟨ha,by rw[UV];exact hl,vs,_,rv,ha⟩
  ·rw[H3 b z y]at e;cases e
 have base_of:∀{b:Addr}{o:Obj},s₁.heap.get? b=some o->o≠PySem.W.tabObj #[]->o≠lo->(hidT s₁.heap H).get? b=some o:=λe h1 h2=>hidT_get e (free e h1 h2)
 have nsK:∀{b:Addr}{m:Str->Option Value},s₁.heap.Ns b m->(hidT s₁.heap H).Ns b m:=λ{b m} ⟨o,es,ep,e,d,r⟩=>⟨o,es,ep,base_of e (λz=>by rw[z]at d;cases d) (λz=>by rw[z]at d;cases d),d,r⟩
 have hKb:K.In (hidT s₁.heap H):=λb o e=>hidT_get (KX b o e) (H3 b (λz=>by obtain⟨q,hq,rfl⟩:=Vk.mp z;rw[hKT q hq]at e;cases e) λz=>by rw[z,hKA]at e;cases e)
 have hM:Mod K mg (hidT s₁.heap H):=⟨hKb,nsK hns,⟨mb,nsK hb,hbb⟩,let ⟨mc,h1,h2⟩:=hlim;⟨mc,nsK h1,h2⟩⟩
 have e0:Env0 P w K mg (hidT s₁.heap H) callerA [] s₁ H:=⟨rfl,hM,λb o e=>of_hidT e,Nat.le_of_eq (hidT_size _ _),trivial,λb hb=>absurd (show b∈([]:List Addr) from hb) (by simp),hok,.of_eq hg⟩
 have hTD:∀ q∈tabs,TabD mg (hidT s₁.heap H) q.1 q.2:=λq hq=>by
  obtain⟨o,vs',file,tf,flags,tg,inF,text,tt,e1,r1,r⟩:=(hT q hq).1;have eP:=(hT q hq).2;refine⟨⟨o,vs',file,tf,flags,tg,inF,text,tt,base_of e1 (λz=>by rw[z]at r1;cases r1) (λz=>by rw[z]at r1;simp[lo]at r1),r1,r⟩,λz=>?_,?_⟩
  ·obtain⟨o',es,ep,e,d,_⟩:=hns;rw[z,eP]at e;cases e;cases d
  ·obtain⟨bm,ob,b1,b2,b3,b4,b5,b6⟩:=hB;refine⟨bm,ob,b1,b2,λz=>?_,λz=>?_,base_of b3 (λz=>by rw[z]at b4;cases b4) (λz=>by rw[z]at b4;simp[lo]at b4),b4,b5,b6⟩
   ·obtain⟨o',es,ep,e,d,_⟩:=hns;rw[z,e]at b3;cases b3;rw[d]at b6;cases b6
   ·rw[z,eP]at b3;cases b3;cases b4
 refine V2 ((F _ hKb (nsK hns) hTD).run callerA [] s₁ H ⟨[.ref a],[]⟩ [.ref a] [.ref a] _ _ hr e0 (hbind s₁ (.ref a)) (.cons rfl .nil) (hsp H (.inr ⟨_,H2⟩) λq hq=>H1 _ (List.mem_map_of_mem hq))) λr s' h=>?_
 cases r with
 |error e=>exact (hCX H e s' h).elim
 | ok fl=>
   cases fl with
   |next=>exact False.elim h
   |brk=>exact False.elim h
   |cont=>exact False.elim h
   | ret u=>
     obtain⟨v,H',os,bare,un,hok',r',q⟩:=h;have q':v=.bl true:=q;subst q';obtain rfl:u=Value.bool true:=r';have kept:∀b o,s₁.heap.get? b=some o->b∉tabs.map (·.2)->s'.heap.get? b=some o:=λb o e z=>by
      by_cases y:b=a
      ·subst y;have z2:=un.frzs b lo _ H2;obtain⟨e2,_⟩:=hok' b _ z2;rw[ha]at e;cases e;exact e2
      ·exact un.keep b o e (H3 b z y) (by intro z;exact absurd (show b∈([]:List Addr) from z) (by simp)) (by simp)
     have grown:∀b,b∈tabs.map (·.2)->∃ps,s'.heap.get? b=some (PySem.W.tabObj ps):=λb z=>by obtain⟨m,e⟩:=un.tbls b _ (H1 b z);obtain⟨ps,e2,_⟩:=hok' b _ e;exact⟨ps,e2⟩
     refine⟨rfl,⟨λb o e=>?_,λb o e=>?_⟩,os,bare⟩
     ·by_cases z:b∈tabs.map (·.2)
      ·obtain⟨ps,e2⟩:=grown b z;obtain⟨q,hq,rfl⟩:=Vk.mp z;have e3:=(hT q hq).2;rw[e]at e3;cases Uo e3;exact .inr (.inl ⟨((hT q hq).1.tab (hT q hq).2).isCodeTable,rfl,#[],ps,rfl,by rw[Array.empty_append];exact e2⟩)
      ·exact .inl (kept b o e z)
     ·by_cases z:b∈tabs.map (·.2)
      ·obtain⟨ps,e2⟩:=grown b z;exact⟨_,e2⟩
      ·exact⟨o,kept b o e z⟩
def Fun.codeC{K:PySem.W.Frag}{mg:Str->Option Value}{x:Str}{st:Stmt}{f:Addr}{fd:FuncData}{c P:Addr}{h:Heap}(F:Fun K x x st f fd)(X:K.In h)(G:h.Ns mainGlobals mg)(m:mg x=some (.ref f))(ht:PySem.W.tabIn K x=some (c,P)):fd.code=.ref c:=by obtain⟨oc,od,kV,doc,pm,an,cdv,ct,osl,e,lk,_⟩:=F.ex;exact PySem.W.law_code X G ht m (X _ _ lk) rfl
def JF{l:PySem.W.OpenLaw}{n k:Nat}{q:Program}{loose:List Str}{XP:(Str->Option Value)->Heap->Prop}{YP:World->Heap->Prop}{d:DefRec}{K:Params->PySem.W.Frag}{CX:World->CXT}{sp:List (Addr×Addr)->Sp}{x:Str}{tn:List (Str×Addr×Addr)}
  (hn:l.most=some n) (hn2:n<=sizeLine) (hdf:d.params.defaults=[]) (hr:Room k callerA)
  (hY:∀(w:World) (h:Heap),YP w h->(K w.params).In h) (hnl:∀(w:World) (a:Addr) (o:Obj),(K w.params).lookup a=some o->o.cls≠.type "list")
  (h1:∀t∈tn,((recsOf q).find? (λe=>e.name==t.1)).isSome=true) (h2:∀(w:World),∀t∈tn,PySem.W.tabIn (K w.params) t.1=some t.2) (h3:∀(w:World),∀t∈tn,(K w.params).lookup t.2.2=none)
  (F:∀ (w:World) (mg:Str->Option Value) (fa:Addr) (h:Heap),(K w.params).In h->h.Ns mainGlobals mg->mg d.name=some (.ref fa)->
    ∃fd:FuncData,(∀(s:Shared) (u:Value),BindsTo s fd ⟨[u],[]⟩ [(x,u)]) /\
      ∀base:Heap,(K w.params).In base->base.Ns mainGlobals mg->(∀q∈tn.map (·.2),TabD mg base q.1 q.2)->FnOk l.prog w (K w.params) mg base (CX w) k fa fd [x] (sp (tn.map (·.2))))
  (hsp:∀(H:Hp) (a:Addr) (ns:List Int),ns.length<=n->Rd H a (.lst (ns.map V.int))->(∀q∈tn.map (·.2),H q.2=some (.tbl #[]))->sp (tn.map (·.2)) [.ref a] H (λv y=>v=.bl true) λy y y=>False)
  (hCX:∀(w:World) (H:Hp) (s:Shared) (e:Value) (s':Shared),CX w [] H s (λy y y=>False) e s'->False) :
  PySem.W.WalkO q loose XP YP l.row.toRowW d [] (λf vs=>PySem.call f vs):=by
 refine Att.attach_call hn hdf λw s₀ s₁ mg mb fa o pm cd doc a vs ns G Y ho hd hcd hmg hobj hints hlen hg=>?_
 have KX:=hY w _ Y;obtain⟨fd,hb,hF⟩:=F w mg fa _ KX G.T.g hmg;have hKA:(K w.params).lookup a=none:=by
  cases z:(K w.params).lookup a with
  |none=>rfl
  |some oa=>have e:=KX a oa z;rw[hobj]at e;cases e;exact absurd rfl (hnl w a _ z)
 have hT:PySem.W.TabsAt (tn.map (·.2)) s₁.heap:=λq hq=>by obtain⟨t,ht,rfl⟩:=Vk.mp hq;obtain⟨d',hd'⟩:=W0.mp (h1 t ht);exact PySem.W.tab_of G.T KX hd' (h2 w t ht)
 exact FW KX G.T.g G.T.b G.T.builtins G.T.nolimit hg hobj hints (UL hlen hn2) hr hT (λq hq=>by obtain⟨t,ht,rfl⟩:=Vk.mp hq;exact h3 w t ht) hKA G.T.bmain hF hb (λH hS hH=>hsp H a ns hlen hS hH) λH e s'=>hCX w H s₁ e s'
open PySem PySem.Spec PyProof.Rows
def Hl{K:PySem.W.Frag}{x:Str}{f c P:Addr}{oc occ:Value}{od ocd:Option Addr}{osl ocs:Array (Option Value)}{fd:FuncData}{vs:Array Value}(a:PySem.W.nsIn K mainGlobals x=some (some (.ref f)))(l:K.lookup f=some ⟨oc,od,.func fd,osl⟩)(hc:fd.code=.ref c)
  (l2:K.lookup c=some ⟨occ,ocd,.fields vs,ocs⟩) (h11:vs[11]?=some (.ref P)):PySem.W.tabIn K x=some (c,P):=by
 unfold PySem.W.tabIn;rw[a];simp only[l,hc,l2,h11]
end L2
namespace L2
open PySem PySem.Spec PyProof.Rows
open PySem PySem.Spec PyProof.Rows
open PySem PySem.Spec PyProof.Rows
end L2
namespace L2
open PySem PySem.Spec PyProof.Rows LS
section
variable{X:Cx}
def Qu(ta:TA):TE:=λσ H Q=>ta σ H λvs H1=>∃p ns,vs=[.ref p]/\H1 p=some (.lst (ns.map V.int))/\(ns.length<=2000/\(ns.foldl step_dedup []).length<=60)/\∀l,H1 l=none->Q (.ref l) (upd H1 l (.lst ((fH ns).map V.int)))
def Jo(hc:X.calm=true)(hgL:Gl X "sorted")(hmL:X.mg "sorted"=none)(hg:Gl X "set")(hm:X.mg "set"=none)(ha:PA X [a] ta)(hs:notStar a=true:=by rfl):
  PE X (.Call (.Name "sorted" p1) [.Call (.Name "set" p2) [a] [] pos2] [] pos1) (Qu ta):=by
 intro YT s σ H Q I h;have hst:starEach [Expr.Call (.Name "set" p2) [a] [] pos2] X.env=(false,eval (.Call (.Name "set" p2) [a] [] pos2) X.env)::starEach [] X.env:=bu rfl;refine Call_ (ld_blt I hgL hmL wO (W8 ?_ hst rfl));rw[hst];show wpAny _ _ (spliced ((false,eval (.Call (.Name "set" p2) [a] [] pos2) X.env)::[])) _ _ s;refine Yy ?_;refine Call_ (ld_blt I hg hm Dy (VD (thn (ha pos2 YT s σ H _ I h) λus s1 ⟨vs,H1,I1,r1,q1⟩=>?_) (bu hs) rfl))
 obtain⟨p,ns,e,hp,hl,q⟩:=q1;subst e;cases r1 with
 | cons r rr=>
   cases rr;cases r;obtain⟨_,its,n,vl,ho⟩:=I1.hok p _ hp;have ia:=vH vl;have il:its.length=ns.length:=IntsAre.length ia;have hd:=I1.ok.hd hc;refine DX (items:=its.toArray) (ns:=ns) hd ⟨_,ho,rfl,n,rfl⟩ (by simpa using ia) (by simp[scanBound];have:=hl.1;lia) λh1 tk1 g k1=>?_
   refine YC ?_;rw[show its.toArray.size=ns.length from by rw[Uy];exact il,xq]at g
   have sl:=hl.2;refine CJ (s:={ s1 with heap:=h1,toks:=tk1 }) hd g (by lia) λh2 tk2 d2 l m ws ms hge hol ims pm so k2=>?_
   have sz:s1.heap.objs.size<=l:=by obtain⟨es,ep,t,hs1,_⟩:=g.ex;exact UL (XS (Uk hs1)) hge
   have em:ms=fH ns:=qI (pm.trans (fD _).1.symm) so (fD _).2;have kk:∀b o,s1.heap.get? b=some o->h2.get? b=some o:=λb o e=>k2 b o (k1 b o (Uk e) e)
   have zl:((fH ns).map V.int).length<=sizeLine:=by
    rw[UV];have:=Ad ns;have:=hl.1;show _<=2^24
    lia
   have I2:=I1.call (h':=h2) (t':=tk2) (d':=d2) (g':=s1.gens) (ch:=[]) (Un.laid kk sz (I1.hok.fresh sz)) (I1.hok.laid (o:=.lst ((fH ns).map V.int)) kk sz ⟨zl,ws,m,by rw[<-em];exact vals_ints ims,hol⟩) I1.bare (λy z=>nomatch z)
   exact⟨.ref l,upd H1 l (.lst ((fH ns).map V.int)),I2,rfl,q l (I1.hok.fresh sz)⟩
end
end L2
namespace L2
open PySem PySem.Spec PyProof.Rows
end L2
namespace LB
open PySem PySem.W PyProof.Rows
end LB
namespace LB
open PySem PySem.W PySem.Calls PyProof.Rows
end LB
namespace L2
open PySem PySem.Spec PyProof.Rows LS LB
end L2
namespace LB
open PySem PySem.W PySem.Calls PyProof.Rows
end LB
namespace L2
open PySem PySem.Spec PyProof.Rows LS LB
end L2
namespace LB
open PySem PySem.Spec L2
open PyProof.Rows hiding St
open Sem (wp)
end LB
namespace LA
open PySem LS
end LA
namespace LA
open PySem LS PyProof.Rows
end LA
namespace L2
open PySem PySem.Spec PyProof.Rows LS LA LB
end L2
namespace LA
open PySem PySem.Spec PyProof.Rows LS LB
end LA
namespace L2
open PySem PySem.Spec PyProof.Rows LS LA LB
end L2
namespace LA
open PySem PySem.Spec PyProof.Rows LS
end LA
namespace L2
open PySem PySem.Spec PyProof.Rows LS
end L2
namespace L3
open PySem PySem.Spec L2
open PyProof.Rows hiding St
inductive D where
 |non | bl (b:Bool) | int (i:Int) | str (x:Str)
 |tup (l:List D) | lst (l:List D)
 |dic (ks:List Key) (vs:List D)
 |obj (c:Str) (ns:List Str) (vs:List D)
 |scr (ns:List Int)
 |ref (n:Nat)
 |cls (c:Str) | ty (t:String)
 |exn (a:Addr) | exf (a d:Addr) (fs:List (Str×Int))
instance:Inhabited D:=⟨.non⟩
inductive DO where
 |lst (l:List D)
 |dic (ks:List Key) (vs:List D)
 |ins (c:Str) (ns:List Str) (vs:List D)
 |pdc (ks:List NT) (vs:List D)
abbrev Mo:=List DO
structure Xc where
 nm:Str
 fs:List (Str×Int):=[]
inductive R(α:Type) where
 |ok (a:α) | exc (c:Xc)
def DM(α:Type):=Mo->Option (R α×Mo)
@[reducible] def DM.pure{α:Type}(a:α):DM α:=λM=>some (.ok a,M)
def DM.bind{α β:Type}(m:DM α)(f:α->DM β):DM β:=λM=>match m M with
 |none=>none
 |some (.exc c,M')=>some (.exc c,M')
 |some (.ok a,M')=>f a M'
instance:Monad DM where
 pure:=DM.pure
 bind:=DM.bind
def rd{α:Type}(f:Mo->Option α):DM α:=λM=>(f M).map λa=>(.ok a,M)
def opt{α:Type}(o:Option α):DM α:=λM=>o.map λa=>(.ok a,M)
def stuck{α:Type}:DM α:=λz=>none
def raise{α:Type}(c:Str):DM α:=λM=>some (.exc ⟨c,[]⟩,M)
abbrev aa:=List (Option D)
structure Rh where
 st:List Addr
 vo:List Addr
instance:Membership Addr Rh:=⟨λρ a=>a∈ρ.st\/a∈ρ.vo⟩
def Rh.put(ρ:Rh)(p:Addr):Rh:=⟨ρ.st++[p],ρ.vo⟩
def Rh.hold(ρ:Rh)(p:Addr):Rh:=⟨ρ.st,p::ρ.vo⟩
mutual
inductive Cv(mg:Str->Option Value)(ρ:Rh)(H:Hp):V->D->Prop
 |non:Cv mg ρ H .non .non
 |bl (b:Bool):Cv mg ρ H (.bl b) (.bl b)
 |int (i:Int):Cv mg ρ H (.int i) (.int i)
 |str (x:Str):Cv mg ρ H (.str x) (.str x)
 |tup {a:Addr}{xs:List V}{ds:List D}:a∉ρ->H a=some (.tup xs)->Cvs mg ρ H xs ds->Cv mg ρ H (.ref a) (.tup ds)
 |lst {a:Addr}{xs:List V}{ds:List D}:a∉ρ->H a=some (.lst xs)->Cvs mg ρ H xs ds->Cv mg ρ H (.ref a) (.lst ds)
 |dic {a:Addr}{ks:List Key}{xs:List V}{ds:List D}:a∉ρ->H a=some (.dK (ks.zip xs))->ks.length=xs.length->Cvs mg ρ H xs ds->Cv mg ρ H (.ref a) (.dic ks ds)
 |obj {a C dx:Addr}{c:Str}{ns:List Str}{xs:List V}{ds:List D}:a∉ρ->mg c=some (.ref C)->H a=some (.ins C dx (ns.zip xs))->ns.length=xs.length->Cvs mg ρ H xs ds->Cv mg ρ H (.ref a) (.obj c ns ds)
 |scr {a:Addr}{ns:List Int}:a∉ρ->Rd H a (.lst (ns.map V.int))->Cv mg ρ H (.ref a) (.scr ns)
 |ref {n:Nat}{a:Addr}:ρ.st[n]?=some a->Cv mg ρ H (.ref a) (.ref n)
 |cls {c:Str}{C:Addr}:mg c=some (.ref C)->Cv mg ρ H (.ref C) (.cls c)
 |ty (t:String):Cv mg ρ H (.ty t) (.ty t)
 |exn (a:Addr):Cv mg ρ H (.ref a) (.exn a)
 |exf {a d:Addr}{fs:List (Str×Int)}:d∉ρ->H d=some (.xd (fs.map λp=>(p.1,.int p.2)))->Cv mg ρ H (.ref a) (.exf a d fs)
inductive Cvs(mg:Str->Option Value)(ρ:Rh)(H:Hp):List V->List D->Prop
 |nil:Cvs mg ρ H [] []
 |cons {v:V}{d:D}{vs:List V}{ds:List D}:Cv mg ρ H v d->Cvs mg ρ H vs ds->Cvs mg ρ H (v::vs) (d::ds)
end
structure Ext(ρ:Rh)(H:Hp)(ρ':Rh)(H':Hp):Prop where
 pre:∃τ,ρ'.st=ρ.st++τ
 vo:ρ'.vo=ρ.vo
 new:∀a,a∈ρ'.st->a∉ρ.st->H a=none
 keep:∀a o,H a=some o->a∉ρ.st->H' a=some o
def Ext.refl:Ext ρ H ρ H:=⟨⟨[],by simp⟩,rfl,λa h n=>absurd h n,λz z h z=>h⟩
def Ext.keeps(e:Ext ρ H ρ' H')(h:H a=some o)(n:a∉ρ):H' a=some o:=e.keep a o h λz=>n (.inl z)
def Ext.out1(e:Ext ρ H ρ' H')(h:H a=some o)(n:a∉ρ.st):a∉ρ'.st:=λz=>by have:=e.new a z n;rw[h]at this;cases this
def Ext.out(e:Ext ρ H ρ' H')(h:H a=some o)(n:a∉ρ):a∉ρ':=λz=>by
 rcases z with z | z
 ·exact e.out1 h (λy=>n (.inl y)) z
 ·rw[e.vo]at z;exact n (.inr z)
theorem Ext.trans(e:Ext ρ H ρ1 H1)(f:Ext ρ1 H1 ρ2 H2):Ext ρ H ρ2 H2:=by
 refine⟨?_,f.vo.trans e.vo,λa h n=>?_,λa o h n=>f.keep a o (e.keep a o h n) (e.out1 h n)⟩
 ·obtain⟨τ,h1⟩:=e.pre;obtain⟨υ,h2⟩:=f.pre;exact⟨τ++υ,by rw[h2,h1,V4]⟩
 ·by_cases z:a∈ρ1.st
  ·exact e.new a z n
  ·cases q:H a with
   |none=>rfl
   |some o=>have:=f.new a h z;rw[e.keep a o q n]at this;cases this
def Ext.at(e:Ext ρ H ρ' H'){n:Nat}(h:ρ.st[n]?=some a):ρ'.st[n]?=some a:=by obtain⟨τ,h1⟩:=e.pre;rw[h1,Uu (Uj.mp h).1];exact h
def Rh.nhold{ρ:Rh}{a p:Addr}(h:a∉ρ)(n:a≠p):a∉ρ.hold p:=λz=>by
 rcases z with z | z
 ·exact h (.inl z)
 ·rcases Uw.mp z with z | z
  ·exact n z
  ·exact h (.inr z)
section
variable{mg:Str->Option Value}{ρ ρ':Rh}{H H':Hp}
def Cvs.ind{P:List V->List D->Prop}{vs:List V}{ds:List D}(h:Cvs mg ρ H vs ds)(n:P [] [])(c:∀{v d vs ds},Cv mg ρ H v d->Cvs mg ρ H vs ds->P vs ds->P (v::vs) (d::ds)):P vs ds:=
 Cvs.rec (motive_1:=λz z z=>True) (motive_2:=λvs ds z=>P vs ds) ⟨⟩ (λz=>⟨⟩) (λz=>⟨⟩) (λz=>⟨⟩) (λz z z z=>⟨⟩) (λz z z z=>⟨⟩) (λz z z z z=>⟨⟩) (λz z z z z z=>⟨⟩) (λz z=>⟨⟩) (λz=>⟨⟩) (λz=>⟨⟩) (λz=>⟨⟩) (λz=>⟨⟩) (λz z=>⟨⟩) n (λa t z i=>c a t i) h
def Cvs.gen(at_:∀(n:Nat) a,ρ.st[n]?=some a->ρ'.st[n]?=some a)(kp:∀a o,H a=some o->a∉ρ->(∀φ,o≠.ext φ)->a∉ρ'/\H' a=some o){vs:List V}{ds:List D}(h:Cvs mg ρ H vs ds):Cvs mg ρ' H' vs ds:=
 Cvs.rec (motive_1:=λv d z=>Cv mg ρ' H' v d) (motive_2:=λvs ds z=>Cvs mg ρ' H' vs ds) .non .bl .int .str (λn h z c=>.tup (kp _ _ h n nofun).1 (kp _ _ h n nofun).2 c) (λn h z c=>.lst (kp _ _ h n nofun).1 (kp _ _ h n nofun).2 c) (λn h l z c=>.dic (kp _ _ h n nofun).1 (kp _ _ h n nofun).2 l c) (λn m h l z c=>.obj (kp _ _ h n nofun).1 m (kp _ _ h n nofun).2 l c)
  (λn h=>h.elim (λh=>.scr (kp _ _ h n nofun).1 (.inl (kp _ _ h n nofun).2)) λ⟨_,h⟩=>.scr (kp _ _ h n nofun).1 (.inr ⟨_,(kp _ _ h n nofun).2⟩)) (λh=>.ref (at_ _ _ h)) .cls .ty .exn (λn h=>.exf (kp _ _ h n nofun).1 (kp _ _ h n nofun).2) .nil (λz z=>.cons) h
def Cvs.hd{v:V}{d:D}{vs:List V}{ds:List D}(h:Cvs mg ρ H (v::vs) (d::ds)):Cv mg ρ H v d:=by cases h;assumption
theorem Cv.gen(at_:∀(n:Nat) a,ρ.st[n]?=some a->ρ'.st[n]?=some a)(kp:∀a o,H a=some o->a∉ρ->(∀φ,o≠.ext φ)->a∉ρ'/\H' a=some o){v:V}{d:D}(h:Cv mg ρ H v d):Cv mg ρ' H' v d:=(Cvs.gen at_ kp (.cons h .nil)).hd
def Cv.mono(e:Ext ρ H ρ' H'){v:V}{d:D}(h:Cv mg ρ H v d):Cv mg ρ' H' v d:=h.gen (λz z=>e.at) λz z h n z=>⟨e.out h n,e.keeps h n⟩
def Cvs.mono(e:Ext ρ H ρ' H'){v:List V}{d:List D}(h:Cvs mg ρ H v d):Cvs mg ρ' H' v d:=h.gen (λz z=>e.at) λz z h n z=>⟨e.out h n,e.keeps h n⟩
def Cvs.len{vs:List V}{ds:List D}(h:Cvs mg ρ H vs ds):vs.length=ds.length:=h.ind (P:=λvs ds=>vs.length=ds.length) rfl λz z=>congrArg (·+ 1)
def Cvs.append{vs us:List V}{ds es:List D}(h:Cvs mg ρ H vs ds)(h2:Cvs mg ρ H us es):Cvs mg ρ H (vs++us) (ds++es):=h.ind (P:=λvs ds=>Cvs mg ρ H (vs++us) (ds++es)) h2 λa z=>.cons a
theorem Cvs.take{vs:List V}{ds:List D}(n:Nat)(h:Cvs mg ρ H vs ds):Cvs mg ρ H (vs.take n) (ds.take n):=h.ind (P:=λvs ds=>∀n,Cvs mg ρ H (vs.take n) (ds.take n)) (λn=>by rw[List.take_nil,List.take_nil];exact .nil) (λa z i n=>by cases n with | zero=>exact .nil | succ n=>exact .cons a (i n)) n
theorem Cvs.drop{vs:List V}{ds:List D}(n:Nat)(h:Cvs mg ρ H vs ds):Cvs mg ρ H (vs.drop n) (ds.drop n):=h.ind (P:=λvs ds=>∀n,Cvs mg ρ H (vs.drop n) (ds.drop n)) (λn=>by rw[List.drop_nil,List.drop_nil];exact .nil) (λa t i n=>by cases n with | zero=>exact .cons a t | succ n=>exact i n) n
def Cvs.get{vs:List V}{ds:List D}{i:Nat}{d:D}(h:Cvs mg ρ H vs ds):ds[i]?=some d->∃v,vs[i]?=some v/\Cv mg ρ H v d:=h.ind (P:=λvs ds=>∀i,ds[i]?=some d->∃v,vs[i]?=some v/\Cv mg ρ H v d) (λz e=>by cases e) (λ{v _ _ _} a _ r i=>by cases i with | zero=>exact λe=>⟨v,rfl,Uo e ▸ a⟩ | succ n=>exact r n) i
theorem Cvs.set{v:V}{d:D}(h:Cv mg ρ H v d){vs:List V}{ds:List D}(i:Nat)(c:Cvs mg ρ H vs ds):Cvs mg ρ H (vs.set i v) (ds.set i d):=c.ind (P:=λvs ds=>∀i,Cvs mg ρ H (vs.set i v) (ds.set i d)) (λz=>.nil) (λa t r i=>by cases i with | zero=>exact .cons h t | succ n=>exact .cons a (r n)) i
theorem Cvs.ints:∀ns:List Int,Cvs mg ρ H (ns.map V.int) (ns.map D.int)
 |[]=>.nil
 |n::ns=>.cons (.int n) (Cvs.ints ns)
def Pn(k:NT):D:=.tup [.int k.1,.tup (k.2.map D.int)]
def mW(mg:Str->Option Value)(ρ:Rh)(H:Hp)(a:Addr):DO->Prop
 |.lst l=>∃xs,H a=some (.lst xs)/\Cvs mg ρ H xs l
 |.dic ks l=>∃xs,H a=some (.dK (ks.zip xs))/\ks.length=xs.length/\Cvs mg ρ H xs l
 |.ins c ns l=>∃C dx xs,mg c=some (.ref C)/\H a=some (.ins C dx (ns.zip xs))/\ns.length=xs.length/\Cvs mg ρ H xs l
 |.pdc ks l=>∃xs,H a=some (Tq a xs)/\xs.map (·.1)=ks/\ks.Nodup/\Cvs mg ρ H (xs.map λx=>.ref x.2.1) (ks.map Pn)/\Cvs mg ρ H (xs.map λx=>.ref x.2.2) l
theorem mW.some{a:Addr}{o:DO}(h:mW mg ρ H a o):∃u,H a=some u:=by
 cases o with
 |lst l=>obtain⟨xs,h,_⟩:=h;exact⟨_,h⟩
 |dic ks l=>obtain⟨xs,h,_⟩:=h;exact⟨_,h⟩
 |ins c ns l=>obtain⟨C,dx,xs,_,h,_⟩:=h;exact⟨_,h⟩
 |pdc ks l=>obtain⟨xs,h,_⟩:=h;exact⟨_,h⟩
theorem mW.mono{a:Addr}{o:DO}(e:Ext ρ H ρ' H')(k:H' a=H a)(h:mW mg ρ H a o):mW mg ρ' H' a o:=by
 cases o with
 |lst l=>obtain⟨xs,h,c⟩:=h;exact⟨xs,k.trans h,c.mono e⟩
 |dic ks l=>obtain⟨xs,h,q,c⟩:=h;exact⟨xs,k.trans h,q,c.mono e⟩
 |ins c ns l=>obtain⟨C,dx,xs,m,h,q,c⟩:=h;exact⟨C,dx,xs,m,k.trans h,q,c.mono e⟩
 |pdc ks l=>obtain⟨xs,h,q,n,c,d⟩:=h;exact⟨xs,k.trans h,q,n,c.mono e,d.mono e⟩
structure J(mg:Str->Option Value)(ρ:Rh)(M:Mo)(H:Hp):Prop where
 len:ρ.st.length=M.length
 nd:ρ.st.Nodup
 obj:∀(n:Nat) a o,ρ.st[n]?=some a->M[n]?=some o->mW mg ρ H a o
 vol:∀a,a∈ρ.vo->a∉ρ.st/\∃xs,H a=some (.lst xs)
theorem J.some{M:Mo}(j:J mg ρ M H){a:Addr}(h:a∈ρ):∃u,H a=some u:=by
 rcases h with h | h
 ·obtain⟨n,hn⟩:=Xh.mp h;have lt:n<M.length:=by rw[<-j.len];exact (Uj.mp hn).1
  exact (j.obj n a M[n] hn (Uq lt)).some
 ·obtain⟨_,xs,e⟩:=j.vol a h;exact⟨_,e⟩
def J.fresh{M:Mo}(j:J mg ρ M H){p:Addr}(h:H p=none):p∉ρ:=λz=>by obtain⟨u,e⟩:=j.some z;rw[h]at e;cases e
def J.inj{M:Mo}(j:J mg ρ M H){n m:Nat}{a:Addr}(h:ρ.st[n]?=Option.some a)(k:ρ.st[m]?=Option.some a):n=m:=by
 obtain⟨h1,e1⟩:=Uj.mp h;obtain⟨h2,e2⟩:=Uj.mp k;have q:∀i k (hi:i<ρ.st.length) (hk:k<ρ.st.length),i<k->ρ.st[i]≠ρ.st[k]:=λi k hi hk lt=>YG.mp j.nd i k hi hk lt
 rcases YB n m with z | z | z
 ·exact absurd (e1.trans e2.symm) (q n m h1 h2 z)
 ·exact z
 ·exact absurd (e2.trans e1.symm) (q m n h2 h1 z)
def Ext.lay{p:Addr}{o:HO}(h:H p=none):Ext ρ H ρ (upd H p o):=⟨⟨[],by simp⟩,rfl,λa h n=>absurd h n,λa o e z=>by rw[upd_ne (ne_of_none e h)];exact e⟩
def Ext.same(S:Same H H'):Ext ρ H ρ H':=⟨⟨[],by simp⟩,rfl,λa h n=>absurd h n,λa o e z=>S _ _ e⟩
theorem J.same{M:Mo}(j:J mg ρ M H)(S:Same H H'):J mg ρ M H':=⟨j.len,j.nd,λn a o h k=>by have c:=j.obj n a o h k;obtain⟨u,e⟩:=c.some;exact c.mono (Ext.same S) (by rw[e,S _ _ e]),λa h=>let ⟨x,xs,e⟩:=j.vol a h;⟨x,xs,S _ _ e⟩⟩
def J.lay{M:Mo}(j:J mg ρ M H){p:Addr}(o:HO)(h:H p=none):J mg ρ M (upd H p o):=j.same (same_new h o)
theorem Ext.put{p:Addr}{o:HO}(h:H p=none):Ext ρ H (ρ.put p) (upd H p o):=⟨⟨[p],rfl⟩,rfl,λa ha n=>by
 rcases Vr.mp ha with z | z
 ·exact absurd z n
 ·rw[U7.mp z];exact h,λa o e y=>by rw[upd_ne (ne_of_none e h)];exact e⟩
theorem J.put{M:Mo}(j:J mg ρ M H){p:Addr}{o:HO}{u:DO}(h:H p=none)(c:mW mg (ρ.put p) (upd H p o) p u):J mg (ρ.put p) (M++[u]) (upd H p o):=by
 have np:p∉ρ.st:=λz=>j.fresh h (.inl z)
 refine⟨?_,?_,λn a w h1 h2=>?_,λa ha=>?_⟩
 ·show (ρ.st++[p]).length=_;rw[Uz,Uz,j.len];rfl
 ·show (ρ.st++[p]).Nodup;rw[Yg];exact⟨j.nd,by simp,λx hx y hy e=>by rw[U7.mp hy]at e;exact np (e ▸ hx)⟩
 ·have h1:(ρ.st++[p])[n]?=Option.some a:=h1;by_cases hn:n<ρ.st.length
  ·rw[Uu hn]at h1;rw[Uu (by rw[<-j.len];exact hn)]at h2
   have c:=j.obj n a w h1 h2;exact c.mono (Ext.put h) (upd_ne λ(z:a=p)=>np (z ▸ Vh h1))
  ·have hl:n<(ρ.st++[p]).length:=(Uj.mp h1).1;rw[Uz]at hl;have e:n=ρ.st.length:=by have:[p].length=1:=rfl;lia
   subst e;rw[Vi (Ur _)]at h1;rw[j.len,Vi (Ur _)]at h2;simp at h1 h2;subst h1 h2;exact c
 ·obtain⟨x,xs,e⟩:=j.vol a ha;have ne:a≠p:=ne_of_none e h;refine⟨λz=>?_,xs,by rw[upd_ne ne];exact e⟩
  rcases Vr.mp z with z | z
  ·exact x z
  ·exact ne (U7.mp z)
theorem Ext.upd{p:Addr}{o:HO}(h:p∈ρ.st):Ext ρ H ρ (L2.upd H p o):=⟨⟨[],by simp⟩,rfl,λa h n=>absurd h n,λa u e n=>by rw[upd_ne (λ(z:a=p)=>n (z ▸ h))];exact e⟩
theorem J.upd{M:Mo}(j:J mg ρ M H){n:Nat}{p:Addr}{o:HO}{u:DO}(h:ρ.st[n]?=Option.some p)(c:mW mg ρ (L2.upd H p o) p u):J mg ρ (M.set n u) (L2.upd H p o):=by
 refine⟨by rw[Vx];exact j.len,j.nd,λm a w h1 h2=>?_,λa ha=>?_⟩
 ·by_cases e:m=n
  ·subst e;rw[h]at h1;cases h1;have lt:m<M.length:=by rw[<-j.len];exact (Uj.mp h).1
   rw[U3 lt]at h2;cases h2;exact c
  ·rw[Vl (λz=>e z.symm)]at h2
   have ne:a≠p:=λz=>by subst z;exact e (j.inj h1 h)
   exact (j.obj m a w h1 h2).mono (Ext.upd (Vh h)) (by rw[upd_ne ne])
 ·obtain⟨x,xs,e⟩:=j.vol a ha;exact⟨x,xs,by rw[upd_ne (λ(z:a=p)=>x (z ▸ Vh h))];exact e⟩
def Ms{p a:Addr}{o:HO}(hp:p∈ρ.vo)(n:a∉ρ):L2.upd H p o a=H a:=upd_ne λz=>n (by rw[z];exact .inr hp)
def Cvs.hold{p:Addr}{o:HO}(hp:p∈ρ.vo){v:List V}{d:List D}(h:Cvs mg ρ H v d):Cvs mg ρ (L2.upd H p o) v d:=h.gen (λz z h=>h) λz z h n z=>⟨n,(Ms hp n).trans h⟩
def Cvs.less{ρ1:Rh}(hs:ρ1.st=ρ.st)(hv:∀a,a∈ρ1.vo->a∈ρ.vo){v:List V}{d:List D}(h:Cvs mg ρ H v d):Cvs mg ρ1 H v d:=h.gen (λx x h=>hs ▸ h) λx x h n x=>⟨λz=>n (z.elim (λy=>.inl (hs ▸ y)) λy=>.inr (hv _ y)),h⟩
def Cvs.more{p:Addr}(hp:H p=none){v:List V}{d:List D}(h:Cvs mg ρ H v d):Cvs mg (ρ.hold p) H v d:=h.gen (ρ:=ρ) (ρ':=ρ.hold p) (λz z h=>h) λz z h n z=>⟨Rh.nhold n (ne_of_none h hp),h⟩
def mW.map{ρ1:Rh}{H1:Hp}{a:Addr}{o:DO}(k:H1 a=H a)(f:∀vs ds,Cvs mg ρ H vs ds->Cvs mg ρ1 H1 vs ds)(h:mW mg ρ H a o):mW mg ρ1 H1 a o:=by
 cases o with
 |lst l=>obtain⟨xs,h,c⟩:=h;exact⟨xs,k.trans h,f _ _ c⟩
 |dic ks l=>obtain⟨xs,h,q,c⟩:=h;exact⟨xs,k.trans h,q,f _ _ c⟩
 |ins c ns l=>obtain⟨C,dx,xs,m,h,q,c⟩:=h;exact⟨C,dx,xs,m,k.trans h,q,f _ _ c⟩
 |pdc ks l=>obtain⟨xs,h,q,n,c,d⟩:=h;exact⟨xs,k.trans h,q,n,f _ _ c,f _ _ d⟩
def J.begin{M:Mo}(j:J mg ρ M H){p:Addr}(hp:H p=none):J mg (ρ.hold p) M (L2.upd H p (.lst [])):=by
 have np:p∉ρ.st:=λz=>j.fresh hp (.inl z)
 refine⟨j.len,j.nd,λn a o h1 h2=>?_,λa ha=>?_⟩
 ·exact (j.obj n a o h1 h2).map (upd_ne λ(z:a=p)=>np (z ▸ Vh h1)) λvs ds c=>(c.more hp).hold (.head _)
 ·rcases Uw.mp ha with rfl | ha
  ·exact⟨np,[],upd_same⟩
  ·obtain⟨x,xs,e⟩:=j.vol a ha;exact⟨x,xs,by rw[upd_ne (ne_of_none e hp)];exact e⟩
def J.grow{M:Mo}(j:J mg ρ M H){p:Addr}{ys:List V}(hp:p∈ρ.vo):J mg ρ M (L2.upd H p (.lst ys)):=by
 refine⟨j.len,j.nd,λn a o h1 h2=>?_,λa ha=>?_⟩
 ·exact (j.obj n a o h1 h2).map (upd_ne λ(z:a=p)=>(j.vol p hp).1 (z ▸ Vh h1)) λvs ds c=>c.hold hp
 ·by_cases z:a=p
  ·subst z;exact⟨(j.vol a ha).1,ys,upd_same⟩
  ·obtain⟨x,xs,e⟩:=j.vol a ha;exact⟨x,xs,by rw[upd_ne z];exact e⟩
def J.done{M:Mo}{p:Addr}{ρ1:Rh}(j:J mg ρ1 M H)(hv:ρ1.vo=p::ρ.vo):J mg ⟨ρ1.st,ρ.vo⟩ M H:=by
 refine⟨j.len,j.nd,λn a o h1 h2=>?_,λa ha=>?_⟩
 ·exact mW.map (ρ:=ρ1) rfl (λvs ds c=>Cvs.less (ρ:=ρ1) (ρ1:=⟨ρ1.st,ρ.vo⟩) rfl (λa ha=>by rw[hv];exact .tail _ ha) c) (j.obj n a o h1 h2)
 ·obtain⟨x,y⟩:=j.vol a (by rw[hv];exact .tail _ ha)
  exact⟨x,y⟩
end
structure Kp(ρ:Rh)(H:Hp)(ρ':Rh)(H':Hp):Prop where
 pre:∃τ,ρ'.st=ρ.st++τ
 keep:∀a o,H a=some o->a∉ρ->(∀φ,o≠.ext φ)->a∉ρ'/\H' a=some o
def Ext.kp{ρ ρ':Rh}{H H':Hp}(e:Ext ρ H ρ' H'):Kp ρ H ρ' H':=⟨e.pre,λa o h n z=>⟨e.out h n,e.keeps h n⟩⟩
def Kp.trans{ρ ρ1 ρ2:Rh}{H H1 H2:Hp}(a:Kp ρ H ρ1 H1)(b:Kp ρ1 H1 ρ2 H2):Kp ρ H ρ2 H2:=by
 refine⟨?_,λc o h n ne=>let ⟨x,y⟩:=a.keep c o h n ne;b.keep c o y x ne⟩
 obtain⟨τ,h1⟩:=a.pre;obtain⟨υ,h2⟩:=b.pre;exact⟨τ++υ,by rw[h2,h1,V4]⟩
def Kp.at{ρ ρ':Rh}{H H':Hp}(e:Kp ρ H ρ' H'){n:Nat}{a:Addr}(h:ρ.st[n]?=some a):ρ'.st[n]?=some a:=by obtain⟨τ,h1⟩:=e.pre;rw[h1,Uu (Uj.mp h).1];exact h
section
variable{mg:Str->Option Value}{ρ ρ':Rh}{H H':Hp}
def Cv.kp(e:Kp ρ H ρ' H'){v:V}{d:D}(h:Cv mg ρ H v d):Cv mg ρ' H' v d:=h.gen (λz z=>e.at) e.keep
def Cvs.kp(e:Kp ρ H ρ' H'){v:List V}{d:List D}(h:Cvs mg ρ H v d):Cvs mg ρ' H' v d:=h.gen (λz z=>e.at) e.keep
end
def vd(c:Xc)(ρ:Rh)(o:Option Addr)(H:Hp):Prop:=match c.fs with
 |[]=>o=none
 |fs=>∃d,o=some d/\d∉ρ/\H d=some (.xd (fs.map λp=>(p.1,.int p.2)))
def vd.out{c:Xc}{ρ ρ':Rh}{o:Option Addr}{H:Hp}(h:vd c ρ' o H)(s:∀{a:Addr},a∉ρ'->a∉ρ):vd c ρ o H:=by
 unfold vd at *;split at h
 ·exact h
 ·obtain⟨d,e,n,q⟩:=h;exact⟨d,e,s n,q⟩
def Aq(mg:Str->Option Value)(ρ:Rh)(H:Hp){α β:Type}(rel:Rh->Hp->β->α->Prop)(Q:β->Hp->Prop)(E:XK):R α×Mo->Prop
 |(.ok a,M')=>∀ρ' H' b,Ext ρ H ρ' H'->J mg ρ' M' H'->rel ρ' H' b a->Q b H'
 |(.exc c,M')=>∀ρ' H' C,Ext ρ H ρ' H'->J mg ρ' M' H'->mg c.nm=some (.ref C)->∀o,vd c ρ' o H'->E (.ref C) o H'
def Go(mg:Str->Option Value)(E:XK){α β:Type}(rel:Rh->Hp->β->α->Prop)(Q:β->Hp->Prop)(ρ:Rh)(H:Hp)(m:DM α)(M:Mo):Prop:=∃r,m M=some r/\Aq mg ρ H rel Q E r
section
variable{mg:Str->Option Value}{ρ ρ':Rh}{H H':Hp}{E:XK}{α β γ δ':Type}{rel:Rh->Hp->β->α->Prop}{rel':Rh->Hp->δ'->γ->Prop}{Q:δ'->Hp->Prop}{Q':β->Hp->Prop}
def Aq.mono{r:R α×Mo}(e:Ext ρ H ρ' H')(h:Aq mg ρ H rel Q' E r):Aq mg ρ' H' rel Q' E r:=by
 obtain⟨r,M'⟩:=r;cases r with
 |ok a=>exact λρ2 H2 b e2 j c=>h ρ2 H2 b (e.trans e2) j c
 |exc c=>exact λρ2 H2 C e2 j m=>h ρ2 H2 C (e.trans e2) j m
set_option tactic.hygienic true in
theorem Go.bind{m:DM α}{k:α->DM γ}{M:Mo}(g:Go mg E rel' Q ρ H (m>>=k) M)
  (f:∀ρ1 H1 M1 b a,Ext ρ H ρ1 H1->J mg ρ1 M1 H1->rel ρ1 H1 b a->Go mg E rel' Q ρ1 H1 (k a) M1->Q' b H1):Go mg E rel Q' ρ H m M:=by
 obtain⟨r,e,p⟩:=g;have e:DM.bind m k M=some r:=e;unfold DM.bind at e;split at e
 ·cases e
 ·rename_i c M' em;cases e;exact⟨_,em,p⟩
 ·rename_i a M' em;exact⟨_,em,λρ1 H1 b x j c=>f ρ1 H1 M' b a x j c ⟨r,e,p.mono x⟩⟩
theorem Go.rd{f:Mo->Option α}{M:Mo}(g:Go mg E rel Q' ρ H (rd f) M):∃a,f M=some a/\∀ρ' H' b,Ext ρ H ρ' H'->J mg ρ' M H'->rel ρ' H' b a->Q' b H':=by obtain⟨r,e,p⟩:=g;obtain⟨a,e1,rfl⟩:=Up.mp e;exact⟨a,e1,p⟩
theorem Go.opt{o:Option α}{M:Mo}(g:Go mg E rel Q' ρ H (opt o) M):∃a,o=some a/\∀ρ' H' b,Ext ρ H ρ' H'->J mg ρ' M H'->rel ρ' H' b a->Q' b H':=by obtain⟨r,e,p⟩:=g;obtain⟨a,e1,rfl⟩:=Up.mp e;exact⟨a,e1,p⟩
theorem Go.pure{a:α}{M:Mo}(g:Go mg E rel Q' ρ H (pure a) M):∀ρ' H' b,Ext ρ H ρ' H'->J mg ρ' M H'->rel ρ' H' b a->Q' b H':=by obtain⟨r,e,p⟩:=g;have e:some (R.ok a,M)=some r:=e;cases e;exact p
end
structure Ev(mg:Str->Option Value)(ρ:Rh)(H:Hp)(σ:St)(δ:aa):Prop where
 len:σ.length=δ.length
 val:∀(i:Nat) d,δ[i]?=some (some d)->∃v,σ[i]?=some (some v)/\Cv mg ρ H v d
theorem Ev.mono{mg:Str->Option Value}{ρ ρ':Rh}{H H':Hp}{σ:St}{δ:aa}(e:Ext ρ H ρ' H')(h:Ev mg ρ H σ δ):Ev mg ρ' H' σ δ:=
 ⟨h.len,λi d q=>let ⟨v,a,b⟩:=h.val i d q;⟨v,a,b.mono e⟩⟩
theorem Ev.kp{mg:Str->Option Value}{ρ ρ':Rh}{H H':Hp}{σ:St}{δ:aa}(e:Kp ρ H ρ' H')(h:Ev mg ρ H σ δ):Ev mg ρ' H' σ δ:=
 ⟨h.len,λi d q=>let ⟨v,a,b⟩:=h.val i d q;⟨v,a,b.kp e⟩⟩
theorem Ev.set{mg:Str->Option Value}{ρ:Rh}{H:Hp}{σ:St}{δ:aa}{i:Nat}{v:V}{d:D}(h:Ev mg ρ H σ δ)(c:Cv mg ρ H v d):Ev mg ρ H (σ.set i (some v)) (δ.set i (some d)):=by
 refine⟨by rw[Vx,Vx,h.len],λj x q=>?_⟩
 by_cases e:j=i
 ·subst e;have hj:j<(δ.set j (some d)).length:=(Uj.mp q).1;rw[Vx]at hj;rw[U3 hj]at q;cases q;exact⟨v,U3 (by rw[h.len];exact hj),c⟩
 ·rw[Vl (λz=>e z.symm)]at q ⊢
  exact h.val j x q
def tD(mg:Str->Option Value)(E:XK){α β:Type}(rel:Rh->Hp->β->α->Prop)(f:aa->DM α):St->Hp->(β->Hp->Prop)->Prop:=λσ H Q=>
 ∃ρ δ M,Ev mg ρ H σ δ/\J mg ρ M H/\Go mg E rel Q ρ H (f δ) M
def Bv(_:Rh)(_:Hp)(b a:Bool):Prop:=b=a
structure DE(X:Cx)(E:XK)(e:Expr)(f:aa->DM D):Prop where
 h:PE X e (tD X.mg E (Cv X.mg) f)
structure DA(X:Cx)(E:XK)(es:List Expr)(f:aa->DM (List D)):Prop where
 h:QA X es (tD X.mg E (Cvs X.mg) f)
structure DT(X:Cx)(E:XK)(e:Expr)(f:aa->DM Bool):Prop where
 h:PT X e (tD X.mg E Bv f)
def PE.mono{X:Cx}{e:Expr}{t t':TE}(h:PE X e t)(f:∀σ H Q,t' σ H Q->t σ H Q):PE X e t':=λYT s σ H Q I q=>h YT s σ H Q I (f σ H Q q)
def PT.mono{X:Cx}{e:Expr}{t t':TT}(h:PT X e t)(f:∀σ H Q,t' σ H Q->t σ H Q):PT X e t':=λYT s σ H Q I q=>h YT s σ H Q I (f σ H Q q)
def PA.mono{X:Cx}{e:List Expr}{t t':TA}(h:PA X e t)(f:∀σ H Q,t' σ H Q->t σ H Q):PA X e t':=λp YT s σ H Q I q=>h p YT s σ H Q I (f σ H Q q)
mutual
def toPy:D->Option PyData
 |.non=>some .none
 |.bl b=>some (.bool b)
 |.int i=>some (.int i)
 |.str x=>some (.str x)
 |.tup l=>(eQ l).map .tuple
 |.lst l=>(eQ l).map .list
 |_=>none
def eQ:List D->Option (List PyData)
 |[]=>some []
 |d::l=>match toPy d,eQ l with
   |some p,some ps=>some (p::ps)
   |_,_=>none
end
mutual
def j8:D->Option PyData
 |.non=>some .none
 |.bl b=>some (.bool b)
 |.int i=>some (.int i)
 |.str x=>some (.str x)
 |.tup l=>(gY l).map .tuple
 |.lst l=>(gY l).map .list
 |.dic [] []=>some (.dict [])
 |.dic [.inl i] [.int j]=>some (.dict [(.int i,.int j)])
 |_=>none
def gY:List D->Option (List PyData)
 |[]=>some []
 |d::l=>match j8 d,gY l with
   |some p,some ps=>some (p::ps)
   |_,_=>none
end
section
variable{mg:Str->Option Value}{ρ:Rh}{H:Hp}
def nO{α:Type}{p:α}{P:Prop}(e:none=some p):P:=nomatch e
def Hn{ks:List Key}{ds:List D}{p:PyData}(e:j8 (.dic ks ds)=some p):(ks=[]/\ds=[]/\.dict []=p)\/∃i j,ks=[.inl i]/\ds=[.int j]/\.dict [(.int i,.int j)]=p:=by
 match ks,ds,e with
 |[],[],e=>exact .inl ⟨rfl,rfl,Uo e⟩
 |[.inl i],[.int j],e=>exact .inr ⟨i,j,rfl,rfl,Uo e⟩
def Cvs.repF{vs:List V}{ds:List D}{ps:List PyData}(h:Cvs mg ρ H vs ds):eQ ds=some ps->RepsF H true vs ps:=
 Cvs.rec (motive_1:=λv d z=>∀ p,toPy d=some p->RepF H true v p) (motive_2:=λvs ds z=>∀ ps,eQ ds=some ps->RepsF H true vs ps)
  (λz e=>Uo e ▸ .non) (λb z e=>Uo e ▸ .bl b) (λb z e=>Uo e ▸ .int b) (λb z e=>Uo e ▸ .str b)
  (λz h z c z e=>by obtain⟨ps,e1,e2⟩:=Up.mp e;exact e2 ▸ .tup h (c _ e1)) (λz h z c z e=>by obtain⟨ps,e1,e2⟩:=Up.mp e;exact e2 ▸ .lst h (c _ e1))
  (λz z z z z z e=>nO e) (λz z z z z z z e=>nO e) (λz z z e=>nO e) (λz z e=>nO e) (λz z e=>nO e) (λz z e=>nO e) (λz z e=>nO e) (λz z z e=>nO e)
  (λz e=>Uo e ▸ .nil) (λ{_ d _ l} _ _ i j _ e=>by
    revert e;show (match toPy d,eQ l with | some p,some ps=>some (p::ps) | _,_=>none)=_->_
    cases h1:toPy d with
    |none=>exact λe=>nO e
    |some p=>cases h2:eQ l with
      |none=>exact λe=>nO e
      |some q=>exact λe=>Uo e ▸ .cons (i _ h1) (j _ h2)) h ps
theorem Cv.repF{v:V}{d:D}{p:PyData}(h:Cv mg ρ H v d)(e:toPy d=some p):RepF H true v p:=by
 have z:eQ [d]=some [p]:=by
  show (match toPy d,some [] with | some p,some ps=>some (p::ps) | _,_=>none)=_
  rw[e]
 cases Cvs.repF (.cons h .nil) z;assumption
def Cvs.repD{vs:List V}{ds:List D}{ps:List PyData}(h:Cvs mg ρ H vs ds):gY ds=some ps->RepsF H false vs ps:=
 Cvs.rec (motive_1:=λv d y=>∀ p,j8 d=some p->RepF H false v p) (motive_2:=λvs ds y=>∀ ps,gY ds=some ps->RepsF H false vs ps)
  (λy e=>Uo e ▸ .non) (λb y e=>Uo e ▸ .bl b) (λb y e=>Uo e ▸ .int b) (λb y e=>Uo e ▸ .str b)
  (λy h y c y e=>by obtain⟨ps,e1,e2⟩:=Up.mp e;exact e2 ▸ .tup h (c _ e1)) (λy h y c y e=>by obtain⟨ps,e1,e2⟩:=Up.mp e;exact e2 ▸ .lst h (c _ e1))
  (λy h y c y y e=>by
    rcases Hn e with ⟨rfl,rfl,z⟩ | ⟨i,j,rfl,rfl,z⟩
    ·cases c;exact z ▸ .d0 h
    ·cases c with
     |cons c1 c2=>cases c2;cases c1;exact z ▸ .d1 h) (λy y y y y y y e=>nO e) (λy y y e=>nO e) (λy y e=>nO e) (λy y e=>nO e) (λy y e=>nO e) (λy y e=>nO e) (λy y y e=>nO e)
  (λy e=>Uo e ▸ .nil) (λ{_ d _ l} _ _ i j _ e=>by
    revert e;show (match j8 d,gY l with | some p,some ps=>some (p::ps) | _,_=>none)=_->_
    cases h1:j8 d with
    |none=>exact λe=>nO e
    |some p=>cases h2:gY l with
      |none=>exact λe=>nO e
      |some q=>exact λe=>Uo e ▸ .cons (i _ h1) (j _ h2)) h ps
theorem Cv.repD{v:V}{d:D}{p:PyData}(h:Cv mg ρ H v d)(e:j8 d=some p):RepF H false v p:=by
 have z:gY [d]=some [p]:=by
  show (match j8 d,some [] with | some p,some ps=>some (p::ps) | _,_=>none)=_
  rw[e]
 cases Cvs.repD (.cons h .nil) z;assumption
end
section
variable{X:Cx}{E:XK}{a b c:Expr}{fa fb fc:aa->DM D}{pos:Pos}
def aY(i:Nat)(δ:aa):DM D:=opt ((δ[i]?).join)
def aj(i:Nat){x:Str}(hN:X.N[i]?=some x:=by rfl)(hv:Vis X.env.scope x:=by first | exact Or.inl rfl | exact Or.inr (Or.inl rfl) | exact Or.inr (Or.inr rfl))(hd:(x==("__debug__":Str))=false:=by decide)
  (hcd:(x==("__classdict__":Str))=false:=by decide):DE X E (.Name x pos) (aY i):=⟨PE.mono (pe_var (i:=i) hN hv hd hcd) λσ H Q h=>by
 obtain⟨ρ,δ,M,ev,j,g⟩:=h;obtain⟨d,e,q⟩:=g.opt;have e':δ[i]?=some (some d):=by
  cases z:δ[i]? with
  |none=>rw[z]at e;cases e
  |some o=>rw[z]at e;exact congrArg some e
 obtain⟨v,h1,h2⟩:=ev.val i d e';exact⟨v,h1,q ρ H v .refl j h2⟩⟩
def eV{e:Expr}{v:V}{d:D}(h:PE X e (tC v))(hc:∀ρ H,Cv X.mg ρ H v d):DE X E e (λz=>pure d):=⟨PE.mono h λσ H Q h=>by obtain⟨ρ,δ,M,ev,j,g⟩:=h;exact g.pure ρ H v .refl j (hc _ _)⟩
def au{i j}:DE X E (.Constant (.int i) j pos) (λz=>pure (.int i)):=eV pe_int λz z=>.int i
def dJ{i j}:DE X E (.Constant (.bool i) j pos) (λz=>pure (.bl i)):=eV pe_bl λz z=>.bl i
def En{j}:DE X E (.Constant .none j pos) (λz=>pure .non):=eV pe_non λz z=>.non
def cB{x j}:DE X E (.Constant (.str x) j pos) (λz=>pure (.str x)):=eV pe_str λz z=>.str x
def pG{x:Str}{i:Int}{t:Tok}(h:X.mg x=some (.int i t))(hg:Gl X x:=by rfl)(hd:(x==("__debug__":Str))=false:=by decide):DE X E (.Name x pos) (λz=>pure (.int i)):=eV (QX h hg hd) λz z=>.int i
def oH{x:Str}{C:Addr}(h:X.mg x=some (.ref C))(hg:Gl X x:=by rfl)(hd:(x==("__debug__":Str))=false:=by decide):DE X E (.Name x pos) (λz=>pure (.cls x)):=eV (Ph h hg hd) λz z=>.cls h
def jO{x:Str}{T:String}(hm:X.mg x=none)(hg:Gl X x:=by rfl)(hv:bootBuiltins x=some (.type T):=by decide +kernel)(hn:x≠"__name__":=by decide)(hdb:(x==("__debug__":Str))=false:=by decide):DE X E (.Name x pos) (λz=>pure (.ty T)):=
 eV (Q0 hm hg hv hn hdb) λz z=>.ty T
def rD(mg:Str->Option Value)(E:XK)(g:D->D->DM D):R2:=λx y H Q=>∃ρ M dx dy,J mg ρ M H/\Cv mg ρ H x dx/\Cv mg ρ H y dy/\Go mg E (Cv mg) Q ρ H (g dx dy) M
def cg(X:Cx)(E:XK)(f:Value->Value->Sem Value)(g:D->D->DM D):Prop:=OpR X f (rD X.mg E g)
def zA{g:D->D->DM D}{r:R2}(hr:∀x y H Q,rD X.mg E g x y H Q->r x y H Q){σ:L2.St}{H:Hp}{Q:VK}(h:tD X.mg E (Cv X.mg) (λδ=>fa δ>>=λx=>fb δ>>=λy=>g x y) σ H Q):
  tOp r (tD X.mg E (Cv X.mg) fa) (tD X.mg E (Cv X.mg) fb) σ H Q:=by
 obtain⟨ρ,δ,M,ev,j,g1⟩:=h;exact⟨ρ,δ,M,ev,j,g1.bind λρ1 H1 M1 x dx e1 j1 c1 g2=>⟨ρ1,δ,M1,ev.mono e1,j1,g2.bind λρ2 H2 M2 y dy e2 j2 c2 g3=>hr _ _ _ _ ⟨ρ2,M2,dx,dy,j2,c1.mono e2,c2,g3⟩⟩⟩
def aQ{op:Operator}{g:D->D->DM D}(ho:cg X E (binaryOp op) g)(ha:DE X E a fa)(hb:DE X E b fb):DE X E (.BinOp a op b pos) (λδ=>fa δ>>=λx=>fb δ>>=λy=>g x y):=
 ⟨PE.mono (pe_op ho ha.h hb.h) λσ H Q h=>zA (λw w w w z=>z) h⟩
def gO{op:CmpOp}{g:D->D->DM D}(ho:cg X E (compareOp op) g)(ha:DE X E a fa)(hb:DE X E b fb)(hm:behindInMarks op b=false:=by first | exact nomark _ | rfl):DE X E (.Compare a [op] [b] pos) (λδ=>fa δ>>=λx=>fb δ>>=λy=>g x y):=
 ⟨PE.mono (pe_cmpR ho ha.h hb.h hm) λσ H Q h=>zA (λw w w w z=>z) h⟩
def fu:D->DM Bool
 |.bl b=>pure b
 |_=>stuck
theorem Go.fu{mg:Str->Option Value}{ρ:Rh}{H:Hp}{d:D}{M:Mo}{Q:Bool->Hp->Prop}(g:Go mg E Bv Q ρ H (fu d) M):∃k,d=.bl k/\∀ρ' H',Ext ρ H ρ' H'->J mg ρ' M H'->Q k H':=by
 cases d with
 |bl k=>exact⟨k,rfl,λρ' H' e j=>(show Go mg E Bv Q ρ H (Pure.pure k) M from g).pure ρ' H' k e j rfl⟩
 |_=>obtain⟨r,e,_⟩:=g;cases e
def dt_of{e:Expr}{f:aa->DM D}{t:TE}(h:PT X e (tTest t))(ht:∀σ H Q,tD X.mg E (Cv X.mg) f σ H Q->t σ H Q):DT X E e (λδ=>f δ>>=fu):=⟨PT.mono h λσ H Q h=>by
 obtain⟨ρ,δ,M,ev,j,g1⟩:=h;refine ht _ _ _ ⟨ρ,δ,M,ev,j,g1.bind λρ1 H1 M1 x dx e1 j1 c1 g2=>?_⟩
 obtain⟨k,rfl,q⟩:=Go.fu g2;cases c1;exact⟨k,rfl,q ρ1 H1 .refl j1⟩⟩
def bx{op:CmpOp}{g:D->D->DM D}(ho:cg X E (compareOp op) g)(ha:DE X E a fa)(hb:DE X E b fb)(hm:behindInMarks op b=false:=by first | exact nomark _ | rfl):DT X E (.Compare a [op] [b] pos) (λδ=>(fa δ>>=λx=>fb δ>>=λy=>g x y)>>=fu):=
 dt_of (pt_cmpR ho ha.h hb.h hm) λσ H Q h=>zA (λw w w w z=>z) h
def RK{g g':D->D->DM D}{σ:L2.St}{H:Hp}{Q:VK}(h:tD X.mg E (Cv X.mg) (λδ=>fa δ >>= λx=>fb δ >>= λy=>g x y >>= λz=>fu z >>= λk=>if k then fc δ >>= λw=>g' y w else pure (.bl false)) σ H Q):
  tChain (rD X.mg E g) (rD X.mg E g') (tD X.mg E (Cv X.mg) fa) (tD X.mg E (Cv X.mg) fb) (tD X.mg E (Cv X.mg) fc) σ H Q:=by
 obtain⟨ρ,δ,M,ev,j,g1⟩:=h;refine⟨ρ,δ,M,ev,j,g1.bind λρ1 H1 M1 x dx e1 j1 c1 g2=>⟨ρ1,δ,M1,ev.mono e1,j1,g2.bind λρ2 H2 M2 y dy e2 j2 c2 g3=>⟨ρ2,M2,dx,dy,j2,c1.mono e2,c2,g3.bind λρ3 H3 M3 z dz e3 j3 c3 g4=>?_⟩⟩⟩
 have g5:=g4.bind (rel:=Bv) (Q':=λk H4=>dz=.bl k/\∃ρ4 M4,Ext ρ3 H3 ρ4 H4/\J X.mg ρ4 M4 H4/\Go X.mg E (Cv X.mg) Q ρ4 H4 (if k then fc δ>>=λw=>g' dy w else pure (.bl false)) M4)
 have key:∃k,dz=.bl k/\Go X.mg E (Cv X.mg) Q ρ3 H3 (if k then fc δ>>=λw=>g' dy w else pure (.bl false)) M3:=by
  cases dz with
  |bl k=>exact⟨k,rfl,g4⟩
  |_=>obtain⟨r,e,_⟩:=g4;cases e
 obtain⟨k,rfl,g6⟩:=key;cases c3;refine⟨k,rfl,?_⟩;cases k with
 |false=>exact iteF (g6.pure ρ3 H3 _ .refl j3 (.bl false))
 |true=>
   have g6:Go X.mg E (Cv X.mg) Q ρ3 H3 (fc δ>>=λw=>g' dy w) M3:=g6
   exact iteT ⟨ρ3,δ,M3,((ev.mono e1).mono e2).mono e3,j3,g6.bind λρ4 H4 M4 w dw e4 j4 c4 g7=>⟨ρ4,M4,dy,dw,j4,(c2.mono e3).mono e4,c4,g7⟩⟩
def H9{op op':CmpOp}{g g':D->D->DM D}(ho:cg X E (compareOp op) g)(ho':cg X E (compareOp op') g')(ha:DE X E a fa)(hb:DE X E b fb)(hc:DE X E c fc)(hm:lastMarks [op,op'] [b,c]=false:=by with_unfolding_all rfl):
  DE X E (.Compare a [op,op'] [b,c] pos) (λδ=>fa δ>>=λx=>fb δ>>=λy=>g x y>>=λz=>fu z>>=λk=>if k then fc δ>>=λw=>g' y w else pure (.bl false)):=
 ⟨PE.mono (pe_chain ho ho' ha.h hb.h hc.h hm) λσ H Q h=>RK h⟩
def qU{op op':CmpOp}{g g':D->D->DM D}(ho:cg X E (compareOp op) g)(ho':cg X E (compareOp op') g')(ha:DE X E a fa)(hb:DE X E b fb)(hc:DE X E c fc)(hm:lastMarks [op,op'] [b,c]=false:=by with_unfolding_all rfl):
  DT X E (.Compare a [op,op'] [b,c] pos) (λδ=>(fa δ>>=λx=>fb δ>>=λy=>g x y>>=λz=>fu z>>=λk=>if k then fc δ>>=λw=>g' y w else pure (.bl false))>>=fu):=
 dt_of (pt_chain ho ho' ha.h hb.h hc.h hm) λσ H Q h=>RK h
def mV:D->Mo->Option Bool
 |.non,_=>some false
 |.bl b,_=>some b
 |.int i,_=>some (i != 0)
 |.str y,_=>if y.length<=sizeLine then some ((y.length:Int) != 0) else none
 |.tup l,_=>some (!l.isEmpty)
 |.lst l,_=>some (!l.isEmpty)
 |.scr l,_=>some (!l.isEmpty)
 |.dic ks _,_=>some (!ks.isEmpty)
 |.ref n,M=>match M[n]? with
   |some (.lst l)=>some (!l.isEmpty)
   |some (.dic ks _)=>some (!ks.isEmpty)
   |_=>none
 |_,_=>none
def vP{α β:Type}{ks:List α}{xs:List β}(h:ks.length=xs.length):(ks.zip xs).isEmpty=ks.isEmpty:=by
 cases ks with
 |nil=>simp
 |cons k ks=>cases xs with
   |nil=>simp at h
   |cons x xs=>rfl
def Cvs.empty{mg:Str->Option Value}{ρ:Rh}{H:Hp}{vs:List V}{ds:List D}(c:Cvs mg ρ H vs ds):vs.isEmpty=ds.isEmpty:=by cases c<;>rfl
set_option tactic.hygienic true in
def Qv{K:PySem.W.Frag}{mg:Str->Option Value}{ρ:Rh}{H:Hp}{M:Mo}{x:V}{d:D}{k:Bool}(j:J mg ρ M H)(h:Cv mg ρ H x d)(e:mV d M=some k):TruV K x H k:=by
 cases h with
 |non=>cases e;rfl
 |bl b=>cases e;rfl
 |int i=>cases e;rfl
 |str y=>
   unfold mV at e;dsimp only at e;split at e
   ·cases e;exact⟨‹_›,rfl⟩
   ·cases e
 |tup n h c=>cases e;exact .inr (.inl ⟨_,SqT.of h,by rw[c.empty]⟩)
 |lst n h c=>cases e;exact .inl ⟨_,SqL.of h,by rw[c.empty]⟩
 |scr n h=>cases e;exact .inl ⟨_,.inl h,by simp⟩
 |dic n h l c=>cases e;exact .inr (.inr ⟨_,h,by rw[vP l]⟩)
 | ref q=>
   rename_i n a;unfold mV at e;dsimp only at e;split at e
   ·rename_i l hl;cases e;obtain⟨xs,h,c⟩:=j.obj n a _ q hl;exact .inl ⟨_,SqL.of h,by rw[c.empty]⟩
   ·rename_i ks l hl;cases e;obtain⟨xs,h,z,c⟩:=j.obj n a _ q hl;exact .inr (.inr ⟨_,h,by rw[vP z]⟩)
   ·cases e
 |obj=>cases e
 |cls=>cases e
 |ty=>cases e
 |exn=>cases e
 |exf=>cases e
def bM(ha:DE X E a fa)(he:∀whole,isTrue a X.env whole=(do let v <-whole;standAt a.pos;holding [v] (truthy v))):DT X E a (λδ=>fa δ>>=λx=>rd (mV x)):=⟨PT.mono (pt_truth ha.h he) λσ H Q h=>by
 obtain⟨ρ,δ,M,ev,j,g1⟩:=h;refine⟨ρ,δ,M,ev,j,g1.bind λρ1 H1 M1 x dx e1 j1 c1 g2=>?_⟩
 obtain⟨k,e,q⟩:=g2.rd;exact⟨k,Qv j1 c1 e,q ρ1 H1 k .refl j1 rfl⟩⟩
variable{ta tb:aa->DM Bool}
def cT(ha:DT X E a ta):DT X E (.UnaryOp .Not a pos) (λδ=>ta δ>>=λk=>pure (!k)):=⟨PT.mono (pt_not ha.h) λσ H Q h=>by
 obtain⟨ρ,δ,M,ev,j,g1⟩:=h;refine⟨ρ,δ,M,ev,j,g1.bind λρ1 H1 M1 x dx e1 j1 c1 g2=>?_⟩
 have c1:x=dx:=c1;subst c1;exact g2.pure ρ1 H1 _ .refl j1 rfl⟩
structure DW(X:Cx)(E:XK)(e:Expr)(f:aa->DM Bool):Prop where
 h:PW X e (tD X.mg E Bv f)
def PW.mono{e:Expr}{t t':TT}(h:PW X e t)(f:∀σ H Q,t' σ H Q->t σ H Q):PW X e t':=λw YT s σ H Q I q=>h w YT s σ H Q I (f σ H Q q)
def DW.dt{e:Expr}(h:DW X E e ta):DT X E e ta:=⟨PW.pt h.h⟩
def KD(ha:DT X E a ta):DW X E (.BoolOp .And [a] pos) ta:=⟨pw_and1 ha.h⟩
def gQ(ha:DT X E a ta):DW X E (.BoolOp .Or [a] pos) ta:=⟨pw_or1 ha.h⟩
variable{rest:List Expr}
def Nm(ha:DT X E a ta)(hb:DW X E (.BoolOp .And (b::rest) pos) tb):DW X E (.BoolOp .And (a::b::rest) pos) (λδ=>ta δ>>=λk=>if k then tb δ else pure false):=⟨PW.mono (pw_and ha.h hb.h) λσ H Q h=>by
 obtain⟨ρ,δ,M,ev,j,g1⟩:=h;refine⟨ρ,δ,M,ev,j,g1.bind λρ1 H1 M1 x dx e1 j1 c1 g2=>?_⟩
 have c1:x=dx:=c1;subst c1;cases x with
 |true=>exact iteT ⟨ρ1,δ,M1,ev.mono e1,j1,g2⟩
 |false=>exact iteF (Go.pure (a:=false) g2 ρ1 H1 _ .refl j1 rfl)⟩
def iM(ha:DT X E a ta)(hb:DW X E (.BoolOp .Or (b::rest) pos) tb):DW X E (.BoolOp .Or (a::b::rest) pos) (λδ=>ta δ>>=λk=>if k then pure true else tb δ):=⟨PW.mono (pw_or ha.h hb.h) λσ H Q h=>by
 obtain⟨ρ,δ,M,ev,j,g1⟩:=h;refine⟨ρ,δ,M,ev,j,g1.bind λρ1 H1 M1 x dx e1 j1 c1 g2=>?_⟩
 have c1:x=dx:=c1;subst c1;cases x with
 |false=>exact iteF ⟨ρ1,δ,M1,ev.mono e1,j1,g2⟩
 |true=>exact iteT (Go.pure (a:=true) g2 ρ1 H1 _ .refl j1 rfl)⟩
def jc{op:BoolOp}(ha:DE X E a fa):DE X E (.BoolOp op [a] pos) fa:=⟨pe_one ha.h⟩
def Go.isB{mg:Str->Option Value}{ρ:Rh}{H:Hp}{α β:Type}{rel:Rh->Hp->β->α->Prop}{Q:β->Hp->Prop}{d:D}{M:Mo}{f:Bool->DM α}(g:Go mg E rel Q ρ H (L3.fu d>>=f) M):∃k,d=.bl k/\Go mg E rel Q ρ H (f k) M:=by
 cases d with
 |bl k=>exact⟨k,rfl,g⟩
 |_=>obtain⟨r,e,_⟩:=g;cases e
def fM(ha:DE X E a fa)(hb:DE X E (.BoolOp .And (b::rest) pos) fb):DE X E (.BoolOp .And (a::b::rest) pos) (λδ=>fa δ>>=λx=>fu x>>=λk=>if k then fb δ else pure (.bl false)):=⟨PE.mono (pe_and ha.h hb.h) λσ H Q h=>by
 obtain⟨ρ,δ,M,ev,j,g1⟩:=h;refine⟨ρ,δ,M,ev,j,g1.bind λρ1 H1 M1 x dx e1 j1 c1 g2=>?_⟩
 obtain⟨k,rfl,g3⟩:=Go.isB g2;cases c1;refine⟨k,rfl,?_⟩;cases k with
 |true=>exact iteT ⟨ρ1,δ,M1,ev.mono e1,j1,g3⟩
 |false=>exact iteF (Go.pure (a:=D.bl false) g3 ρ1 H1 _ .refl j1 (.bl false))⟩
def Eo(ha:DE X E a fa):DE X E (.UnaryOp .Not a pos) (λδ=>fa δ>>=λx=>fu x>>=λk=>pure (.bl (!k))):=⟨PE.mono (pe_not ha.h) λσ H Q h=>by
 obtain⟨ρ,δ,M,ev,j,g1⟩:=h;refine⟨ρ,δ,M,ev,j,g1.bind λρ1 H1 M1 x dx e1 j1 c1 g2=>?_⟩
 obtain⟨k,rfl,g3⟩:=Go.isB g2;cases c1;exact⟨k,rfl,g3.pure ρ1 H1 _ .refl j1 (.bl _)⟩⟩
def pH(hc:DT X E c ta)(ha:DE X E a fa)(hb:DE X E b fb):DE X E (.IfExp c a b pos) (λδ=>ta δ>>=λk=>if k then fa δ else fb δ):=⟨PE.mono (pe_ifExp hc.h ha.h hb.h) λσ H Q h=>by
 obtain⟨ρ,δ,M,ev,j,g1⟩:=h;refine⟨ρ,δ,M,ev,j,g1.bind λρ1 H1 M1 x dx e1 j1 c1 g2=>?_⟩
 have c1:x=dx:=c1;subst c1;cases x with
 |true=>exact iteT ⟨ρ1,δ,M1,ev.mono e1,j1,g2⟩
 |false=>exact iteF ⟨ρ1,δ,M1,ev.mono e1,j1,g2⟩⟩
def ao:DA X E [] (λz=>pure []):=⟨⟨PA.mono Py.h λσ H Q h=>by obtain⟨ρ,δ,M,ev,j,g⟩:=h;exact g.pure ρ H [] .refl j .nil⟩⟩
def ak{es:List Expr}{fs:aa->DM (List D)}(ha:DE X E a fa)(hr:DA X E es fs)(hs:notStar a=true:=by rfl):DA X E (a::es) (λδ=>fa δ>>=λx=>fs δ>>=λxs=>pure (x::xs)):=⟨⟨PA.mono (R7 ha.h hr.h hs).h λσ H Q h=>by obtain⟨ρ,δ,M,ev,j,g1⟩:=h;exact⟨ρ,δ,M,ev,j,g1.bind λρ1 H1 M1 x dx e1 j1 c1 g2=>⟨ρ1,δ,M1,ev.mono e1,j1,g2.bind λρ2 H2 M2 xs dxs e2 j2 c2 g3=>g3.pure ρ2 H2 _ .refl j2 (.cons (c1.mono e2) c2)⟩⟩⟩⟩
def gf{α:Type}(l:List α):Bool:=decide (l.length<=sizeLine)
def qu(l:List D):DM D:=opt (if gf l then some (.tup l) else none)
def jl(l:List D):DM D:=opt (if gf l then some (.lst l) else none)
def cU(l:List D):DM D:=λM=>if gf l then some (.ok (.ref M.length),M++[.lst l]) else none
set_option tactic.hygienic true in
def tL{l:List D}{d e:D}(h:(if gf l then some d else none)=some e):l.length<=sizeLine/\d=e:=by
 split at h
 ·cases h;exact⟨VN ‹_›,rfl⟩
 ·cases h
variable{es:List Expr}{fs:aa->DM (List D)}
def gP{x1}(h:DA X E es fs):DE X E (.Tuple es x1 pos) (λδ=>fs δ>>=qu):=⟨PE.mono (Lp h.h) λσ H Q h=>by
 obtain⟨ρ,δ,M,ev,j,g1⟩:=h;refine⟨ρ,δ,M,ev,j,g1.bind λρ1 H1 M1 xs dxs e1 j1 c1 g2=>?_⟩
 obtain⟨d,e,q⟩:=Go.opt g2;obtain⟨hz,rfl⟩:=tL e;exact⟨by rw[c1.len];exact hz,λp hp=>q ρ1 _ _ (.lay hp) (j1.lay _ hp) (.tup (j1.fresh hp) upd_same (c1.mono (.lay hp)))⟩⟩
def dZ(h:DA X E es fs):DE X E (.List es pos) (λδ=>fs δ>>=jl):=⟨PE.mono (zO h.h) λσ H Q h=>by
 obtain⟨ρ,δ,M,ev,j,g1⟩:=h;refine⟨ρ,δ,M,ev,j,g1.bind λρ1 H1 M1 xs dxs e1 j1 c1 g2=>?_⟩
 obtain⟨d,e,q⟩:=Go.opt g2;obtain⟨hz,rfl⟩:=tL e;exact⟨by rw[c1.len];exact hz,λp hp=>q ρ1 _ _ (.lay hp) (j1.lay _ hp) (.lst (j1.fresh hp) upd_same (c1.mono (.lay hp)))⟩⟩
set_option tactic.hygienic true in
theorem Go.cU{mg:Str->Option Value}{ρ:Rh}{H:Hp}{M:Mo}{Q:VK}{l:List D}{xs:List V}{p:Addr}(g:Go mg E (Cv mg) Q ρ H (cU l) M)(j:J mg ρ M H)(c:Cvs mg ρ H xs l)(hp:H p=none):l.length<=sizeLine/\Q (.ref p) (upd H p (.lst xs)):=by
 obtain⟨r,e,q⟩:=g;unfold L3.cU at e;split at e
 ·cases e;refine⟨VN ‹_›,?_⟩;have x:Ext ρ H (ρ.put p) (upd H p (.lst xs)):=.put hp;refine q _ _ _ x (j.put hp ⟨xs,upd_same,c.mono x⟩) (.ref ?_);show (ρ.st++[p])[_]?=_;rw[<-j.len];simp
 ·cases e
set_option tactic.hygienic true in
def Go.mkR_len{mg:Str->Option Value}{ρ:Rh}{H:Hp}{M:Mo}{Q:VK}{l:List D}(g:Go mg E (Cv mg) Q ρ H (L3.cU l) M):l.length<=sizeLine:=by
 obtain⟨r,e,q⟩:=g;unfold L3.cU at e;split at e
 ·exact VN ‹_›
 ·cases e
def lz(h:DA X E es fs):DE X E (.List es pos) (λδ=>fs δ>>=cU):=⟨PE.mono (zO h.h) λσ H Q h=>by
 obtain⟨ρ,δ,M,ev,j,g1⟩:=h;refine⟨ρ,δ,M,ev,j,g1.bind λρ1 H1 M1 xs dxs e1 j1 c1 g2=>?_⟩
 exact⟨by rw[c1.len];exact g2.mkR_len,λp hp=>(g2.cU j1 c1 hp).2⟩⟩
end
section
variable{X:Cx}{E:XK}{mg:Str->Option Value}{ρ:Rh}{H:Hp}{M:Mo}
def Go.rdb(g:Go mg E rel Q ρ H (L3.rd f>>=k) M):∃a,f M=some a/\Go mg E rel Q ρ H (k a) M:=by
 obtain⟨r,e,p⟩:=g;have e:DM.bind _ _ M=some r:=e;unfold DM.bind L3.rd at e;cases h:f M with
 |none=>rw[h]at e;cases e
 |some a=>rw[h]at e;exact⟨a,rfl,r,e,p⟩
def cg.of{f:Value->Value->Sem Value}{g:D->D->Mo->Option D}(hr:OpR X f r)
  (h:∀x y H Q ρ M dx dy d,J X.mg ρ M H->Cv X.mg ρ H x dx->Cv X.mg ρ H y dy->g dx dy M=some d->(∀ρ' H' v,Ext ρ H ρ' H'->J X.mg ρ' M H'->Cv X.mg ρ' H' v d->Q v H')->r x y H Q):cg X E f (λx y=>rd (g x y)):=by
 intro YT s σ H x y v u Q I rx ry q;obtain⟨ρ,M,dx,dy,j,cx,cy,go⟩:=q;obtain⟨d,e,p⟩:=go.rd;exact hr YT s σ H x y v u Q I rx ry (h x y H Q ρ M dx dy d j cx cy e p)
def aR:D->Mo->Option (List D)
 |.lst l,_=>some l
 |.ref n,M=>match M[n]? with
   |some (.lst l)=>some l
   |_=>none
 |_,_=>none
set_option tactic.hygienic true in
def cC(j:J mg ρ M H){l:List D}(c:Cv mg ρ H x d)(e:aR d M=some l):∃ a xs,x=.ref a/\H a=some (.lst xs)/\Cvs mg ρ H xs l:=by
 cases c with
 |lst n h c=>cases e;exact⟨_,_,rfl,h,c⟩
 | ref q=>
   unfold aR at e;dsimp only at e;split at e
   ·rename_i l' hl;cases e;obtain⟨xs,h,c⟩:=j.obj _ _ _ q hl;exact⟨_,_,rfl,h,c⟩
   ·cases e
 |_=>cases e
def J.notup(j:J mg ρ M H)(h:H p=Option.some (HO.tup xs)):p∉ρ:=λz=>by
 rcases z with z | z
 rotate_left
 ·obtain⟨_,ys,e⟩:=j.vol p z;rw[h]at e;cases e
 obtain⟨n,hn⟩:=Xh.mp z;have lt:n<M.length:=by rw[<-j.len];exact (Uj.mp hn).1
 have c:=j.obj n p M[n] hn (Uq lt);cases hm:M[n] with
 |lst l=>rw[hm]at c;obtain⟨xs,e,_⟩:=c;rw[h]at e;cases e
 |dic ks l=>rw[hm]at c;obtain⟨xs,e,_⟩:=c;rw[h]at e;cases e
 |ins c' ns l=>rw[hm]at c;obtain⟨_,_,_,_,e,_⟩:=c;rw[h]at e;cases e
 |pdc ks l=>rw[hm]at c;obtain⟨xs,e,_⟩:=c;rw[h]at e;cases e
def Sw(l:List D):Option D:=if gf l then some (.tup l) else none
def Ov(l:List D):Option D:=if gf l then some (.lst l) else none
def iW:D->D->Mo->Option D
 |.int i,.int j,_=>some (.int (i+j))
 |.str a,.str b,_=>if a.length+b.length<=sizeLine then some (.str (a++b)) else none
 |.tup l,.tup m,_=>Sw (l++m)
 |x,y,M=>match aR x M,aR y M with
   |some l,some m=>Ov (l++m)
   |_,_=>none
set_option tactic.hygienic true in
def Hz(h:iW x y M=some d):(∃ i j,x=.int i/\y=.int j/\d=.int (i + j))\/(∃ a b,x=.str a/\y=.str b/\a.length + b.length<=sizeLine/\d=.str (a++b))\/(∃ l m,x=.tup l/\y=.tup m/\l.length + m.length<=sizeLine/\d=.tup (l++m)) \/
  ∃l m,aR x M=some l/\aR y M=some m/\l.length+m.length<=sizeLine/\d=.lst (l++m):=by
 unfold iW at h;split at h
 ·cases h;exact .inl ⟨_,_,rfl,rfl,rfl⟩
 ·split at h
  ·cases h;exact .inr (.inl ⟨_,_,rfl,rfl,‹_›,rfl⟩)
  ·cases h
 ·obtain⟨hz,rfl⟩:=tL h;rw[Uz]at hz;exact .inr (.inr (.inl ⟨_,_,rfl,rfl,hz,rfl⟩))
 ·split at h
  ·rename_i l m h1 h2;obtain⟨hz,rfl⟩:=tL h;rw[Uz]at hz;exact .inr (.inr (.inr ⟨l,m,h1,h2,hz,rfl⟩))
  ·cases h
def cM:cg X E (binaryOp .Add) (λx y=>rd (iW x y)):=by
 refine cg.of (op_add.or (op_add_str.or (Li.or op_cat))) λx y H Q ρ M dx dy d j cx cy e q=>?_
 rcases Hz e with ⟨i,k,rfl,rfl,rfl⟩ | ⟨i,k,rfl,rfl,hz,rfl⟩ | ⟨l,m,rfl,rfl,hz,rfl⟩ | ⟨l,m,h1,h2,hz,rfl⟩
 ·cases cx;cases cy;exact .inl ⟨_,_,rfl,rfl,q ρ H _ .refl j (.int _)⟩
 ·cases cx;cases cy;exact .inr (.inl ⟨_,_,rfl,rfl,hz,q ρ H _ .refl j (.str _)⟩)
 ·cases cx with | tup n1 a1 c1=>cases cy with | tup n2 a2 c2=>
  refine .inr (.inr (.inl ⟨_,_,_,_,rfl,rfl,a1,a2,by rw[c1.len,c2.len];exact hz,λp H' S hp=>?_⟩))
  exact q ρ H' _ (.same S) (j.same S) (.tup ((j.same S).notup hp) hp ((c1.append c2).mono (.same S)))
 ·obtain⟨a1,x1,rfl,a2,c1⟩:=cC j cx h1;obtain⟨b1,y1,rfl,b2,c2⟩:=cC j cy h2;refine .inr (.inr (.inr ⟨_,_,_,_,rfl,rfl,a2,b2,by rw[c1.len,c2.len];exact hz,λp hp=>?_⟩))
  exact q ρ _ _ (.lay hp) (j.lay _ hp) (.lst (j.fresh hp) upd_same ((c1.append c2).mono (.lay hp)))
def cF(C:Int->Int->Bool)(g:Int->Int->D):D->D->Mo->Option D
 |.int i,.int j,_=>if C i j then some (g i j) else none
 |_,_,_=>none
set_option tactic.hygienic true in
def uF(h:cF C g x y M=some d):∃i j,x=.int i/\y=.int j/\C i j=true/\d=g i j:=by
 unfold cF at h;split at h
 ·split at h
  ·cases h;exact⟨_,_,rfl,rfl,‹_›,rfl⟩
  ·cases h
 ·cases h
def pO{f:Value->Value->Sem Value}{C:Int->Int->Bool}{g:Int->Int->Int}{P:Int->Int->Prop}(hr:OpR X f (rI P λi j=>.int (g i j)))(hc:∀i j,C i j=true->P i j):cg X E f (λx y=>rd (cF C (λi j=>.int (g i j)) x y)):=
 cg.of hr λx y H Q ρ M dx dy d j cx cy e q=>by obtain⟨i,k,rfl,rfl,hh,rfl⟩:=uF e;cases cx;cases cy;exact⟨_,_,rfl,rfl,hc _ _ hh,q ρ H _ .refl j (.int _)⟩
def xX{f:Value->Value->Sem Value}{g:Int->Int->Int}(hr:OpR X f (rI0 λi j=>.int (g i j))):cg X E f (λx y=>rd (cF (λz z=>true) (λi j=>.int (g i j)) x y)):=
 cg.of hr λx y H Q ρ M dx dy d j cx cy e q=>by obtain⟨i,k,rfl,rfl,hh,rfl⟩:=uF e;cases cx;cases cy;exact⟨_,_,rfl,rfl,q ρ H _ .refl j (.int _)⟩
def pN{f:Value->Value->Sem Value}{g:Int->Int->Bool}(hr:OpR X f (rI0 λi j=>.bl (g i j))):cg X E f (λx y=>rd (cF (λz z=>true) (λi j=>.bl (g i j)) x y)):=
 cg.of hr λx y H Q ρ M dx dy d j cx cy e q=>by obtain⟨i,k,rfl,rfl,hh,rfl⟩:=uF e;cases cx;cases cy;exact⟨_,_,rfl,rfl,q ρ H _ .refl j (.bl _)⟩
abbrev Jy:D->D->Mo->Option D:=cF (λ_ _=>true) λi j=>.int (i-j)
def zN:cg X E (binaryOp .Sub) (λx y=>rd (Jy x y)):=xX op_sub
def gH(i j:Int):Bool:=!(decide (Builtin.Int.intBits i > shortFactorBits)&&decide (Builtin.Int.intBits j > shortFactorBits)&&Builtin.Int.intTooBig (Builtin.Int.intBits i+Builtin.Int.intBits j))
def gH.ok(h:gH i j=true):IntMulOk i j:=λz=>by unfold gH at h;rw[z]at h;cases h
abbrev cG:D->D->Mo->Option D:=cF gH λi j=>.int (i*j)
def bJ:cg X E (binaryOp .Mult) (λx y=>rd (cG x y)):=pO Lj λi j h=>gH.ok h
def pI(i j:Int):Bool:=decide (0<j)&&!Builtin.divisionGoesByPylong i j
def Jd:OpR X (binaryOp .FloorDiv) (rI (λi j=>pI i j=true) λi j=>.int (i / j)):=opI λi j z z z z z hc q=>by
 unfold pI at hc;have h0:0<j:=by have:=(Wx _ _).mp hc;exact VN this.1
 have h1:Builtin.divisionGoesByPylong i j=false:=by have:=(Wx _ _).mp hc;simpa using this.2
 have e:i.fdiv j=i / j:=Int.fdiv_eq_ediv_of_nonneg i (Int.le_of_lt h0);exact floordiv_int (Int.ne_of_gt h0) (by rw[e];exact q) (.inl h1)
abbrev lV:D->D->Mo->Option D:=cF pI λi j=>.int (i / j)
def jm:cg X E (binaryOp .FloorDiv) (λx y=>rd (lV x y)):=pO Jd λi j h=>h
abbrev gF:D->D->Mo->Option D:=cF (λ_ j=>decide (0<j)) λi j=>.int (i%j)
def dR:cg X E (binaryOp .Mod) (λx y=>rd (gF x y)):=pO op_mod λi j h=>VN h
def J3(i j:Int):Bool:=decide (0<=j/\j<=1000000/\i.natAbs<2^64)
abbrev Jq:D->D->Mo->Option D:=cF J3 λi j=>.int (i^j.toNat)
def zM:cg X E (binaryOp .Pow) (λx y=>rd (Jq x y)):=pO op_pow λi j h=>VN (p:=0<=j/\j<=1000000/\i.natAbs<2^64) h
abbrev JT:D->D->Mo->Option D:=cF (λ_ _=>true) λi j=>.bl (decide (i<j))
abbrev qt:D->D->Mo->Option D:=cF (λ_ _=>true) λi j=>.bl (decide (i<=j))
abbrev xK:D->D->Mo->Option D:=cF (λ_ _=>true) λi j=>.bl (decide (j<i))
abbrev xJ:D->D->Mo->Option D:=cF (λ_ _=>true) λi j=>.bl (decide (j<=i))
def tK:cg X E (compareOp .Lt) (λx y=>rd (JT x y)):=pN op_lt
def fU:cg X E (compareOp .LtE) (λx y=>rd (qt x y)):=pN op_le
def Gq:cg X E (compareOp .Gt) (λx y=>rd (xK x y)):=pN op_gt
def oU:cg X E (compareOp .GtE) (λx y=>rd (xJ x y)):=pN op_ge
def eqP(x y:D):Option Bool:=match toPy x,toPy y with
 |some p,some q=>if p.canLay0&&q.canLay0&&decide (p.depth<=60) then some (PyData.eqv p q) else none
 |_,_=>none
def eqB:D->D->Option Bool
 |.str a,.str b=>some (decide (a=b))
 |x,y=>eqP x y
def eE(x y:D)(_:Mo):Option D:=(eqB x y).map .bl
def iH(x y:D)(_:Mo):Option D:=(eqB x y).map λb=>.bl (!b)
set_option tactic.hygienic true in
def Nr(h:eqP x y=some b):∃ p q,toPy x=some p/\toPy y=some q/\p.canLay0=true/\q.canLay0=true/\p.depth<=60/\b=PyData.eqv p q:=by
 unfold eqP at h;split at h
 ·rename_i p q h1 h2;split at h
  ·rename_i hc;cases h;simp only[Bool.and_eq_true,decide_eq_true_eq]at hc;exact⟨p,q,h1,h2,hc.1.1,hc.1.2,hc.2,rfl⟩
  ·cases h
 ·cases h
def Np(h:eqB x y=some b):(∃a c,x=.str a/\y=.str c/\b=decide (a=c))\/eqP x y=some b:=by
 unfold eqB at h;split at h
 ·cases h;exact .inl ⟨_,_,rfl,rfl,rfl⟩
 ·exact .inr h
def Mm:decide (V.str a=V.str c)=decide (a=c):=by rw[Va];simp
def zL(h1:OpR X f (λx y H Q=>scal x y=true/\Q (.bl (n ^^ decide (x=y))) H))(h2:OpR X f (Jw X.K n)):cg X E f (λx y=>rd λz=>(eqB x y).map λb=>.bl (n ^^ b)):=by
 intro YT s σ H x y v u Q I rx ry q;obtain⟨ρ,M,dx,dy,j,cx,cy,g⟩:=q;obtain⟨d,e,q⟩:=Go.rd g;obtain⟨b,hb,rfl⟩:=Up.mp e;rcases Np hb with ⟨a,c,rfl,rfl,rfl⟩ | hb
 ·cases cx;cases cy;refine h1 YT s σ H _ _ v u Q I rx ry ⟨rfl,?_⟩;rw[Mm];exact q ρ H _ .refl j (.bl _)
 ·obtain⟨p,p',k1,k2,h3,h4,h5,rfl⟩:=Nr hb;refine h2 YT s σ H x y v u Q I rx ry ⟨p,p',(cx.repF k1).toRep,(cy.repF k2).toRep,h3,h4,h5,?_⟩;have:=q ρ H _ .refl j (.bl _);cases n
  ·simpa using this
  ·simpa using this
def dN(hu:X.A.units+64<cLine):cg X E (compareOp .Eq) (λx y=>rd (eE x y)):=by
 have h:=zL (X:=X) (E:=E) (n:=false) (f:=compareOp .Eq) (λYT s σ H x y v u Q I rx ry q=>op_eq (X:=X) YT s σ H x y v u Q I rx ry ⟨q.1,by simpa using q.2⟩) (O8 hu)
 have e:(λx y=>(rd (eE x y):DM D))=λx y=>rd λz=>(eqB x y).map λb=>.bl (false ^^ b):=by funext x y;show rd _=rd _;congr 1;funext M;simp only[eE,Bool.false_xor,Bool.true_xor]
 rw[e];exact h
def cu(hu:X.A.units+64<cLine):cg X E (compareOp .NotEq) (λx y=>rd (iH x y)):=by
 have h:=zL (X:=X) (E:=E) (n:=true) (f:=compareOp .NotEq) (λYT s σ H x y v u Q I rx ry q=>op_ne (X:=X) YT s σ H x y v u Q I rx ry ⟨q.1,by simpa using q.2⟩) (O9 hu)
 have e:(λx y=>(rd (iH x y):DM D))=λx y=>rd λz=>(eqB x y).map λb=>.bl (true ^^ b):=by funext x y;show rd _=rd _;congr 1;funext M;simp only[iH,Bool.false_xor,Bool.true_xor]
 rw[e];exact h
theorem Cvs.rep(c:Cv mg ρ H v d):∀n,Cvs mg ρ H (List.replicate n v) (List.replicate n d)
 |0=>.nil
 |n+1=>.cons c (Cvs.rep c n)
def Ck(l:List D)(k:Int):Option (List D):=if decide (-(2^63)<=k/\k<2^63/\l.length*k.toNat<=sizeLine) then some (List.replicate k.toNat l).flatten else none
theorem Cvs.reps{vs:List V}{ds:List D}(c:Cvs mg ρ H vs ds):∀n,Cvs mg ρ H (List.replicate n vs).flatten (List.replicate n ds).flatten
 |0=>.nil
 |n+1=>by rw[Wg,Wg,WW,WW];exact c.append (Cvs.reps c n)
def xW(x y:D)(M:Mo):Option (List D):=match aR x M,y with
 |some l,.int k=>Ck l k
 |_,_=>none
set_option tactic.hygienic true in
def Lf{l:List D}(h:xW x y M=some l):∃ m k,aR x M=some m/\y=.int k/\(-(2 ^ 63)<=k/\k<2 ^ 63/\m.length * k.toNat<=sizeLine)/\l=(List.replicate k.toNat m).flatten:=by
 unfold xW at h;split at h
 ·rename_i m k h1;unfold Ck at h;split at h
  ·rename_i hk;cases h;exact⟨m,k,h1,rfl,VN hk,rfl⟩
  ·cases h
 ·cases h
def O1(x y:D):DM D:=rd (xW x y)>>=cU
def Lk:cg X E (binaryOp .Mult) O1:=by intro YT s σ H x y v u Q I rx ry q;obtain⟨ρ,M,dx,dy,j,cx,cy,go⟩:=q;obtain⟨l,e1,g⟩:=Go.rdb go;obtain⟨m,k,h1,rfl,⟨h2,h3,h4⟩,rfl⟩:=Lf e1;obtain⟨a,xs,rfl,ha,c⟩:=cC j cx h1;cases cy;exact op_rep (X:=X) YT s σ H _ _ v u Q I rx ry ⟨_,_,_,rfl,rfl,ha,h2,h3,by rw[c.len];exact h4,λp hp=>(g.cU j (Cvs.reps c _) hp).2⟩
def BW:D->Mo->Option D
 |.int i,_=>some (.int (-i))
 |_,_=>none
def Em(ha:DE X E a fa):DE X E (.UnaryOp .USub a pos) (λδ=>fa δ>>=λx=>rd (BW x)):=⟨PE.mono (pe_un un_neg ha.h) λσ H Q h=>by
 obtain⟨ρ,δ,M,ev,j,g1⟩:=h;refine⟨ρ,δ,M,ev,j,g1.bind λρ1 H1 M1 x dx e1 j1 c1 g2=>?_⟩
 obtain⟨d,e,q⟩:=g2.rd;unfold BW at e;split at e
 ·cases e;cases c1;exact⟨_,rfl,q ρ1 H1 _ .refl j1 (.int _)⟩
 ·cases e⟩
theorem Cvs.at(c:Cvs mg ρ H vs ds)(h:atI ds i=some d):∃v,atI vs i=some v/\Cv mg ρ H v d:=by
 unfold atI at h ⊢
 rw[c.len];obtain⟨n,hn,e⟩:=UT.mp h;obtain⟨v,e2,cv⟩:=c.get e;exact⟨v,by rw[hn];exact e2,cv⟩
def gk:D->D->Mo->Option D
 |.tup l,.int i,_=>atI l i
 |.scr l,.int i,_=>(atI l i).map .int
 |x,.int i,M=>(aR x M).bind λl=>atI l i
 |_,_,_=>none
def RD(X:Cx)(E:XK)(g:D->D->DM D):Prop:=IxR X (rD X.mg E g)
set_option tactic.hygienic true in
def eZ:RD X E (λx y=>rd (gk x y)):=by
 intro value slice YT s σ H x y v u Q I rx ry q hs;obtain⟨ρ,M,dx,dy,j,cx,cy,go⟩:=q;obtain⟨d,e,p⟩:=go.rd;unfold gk at e;split at e
 ·cases cy;cases cx with | tup n a c=>
  obtain⟨w,e2,cw⟩:=c.at e;exact ix_tup (X:=X) value slice YT s σ H _ _ v u Q I rx ry ⟨_,_,_,_,rfl,rfl,SqT.of a,e2,p ρ H _ .refl j cw⟩ hs
 ·rename_i l i;cases cy;cases cx with | scr n a=>
  obtain⟨z,e1,rfl⟩:=Up.mp e;have e2:atI (l.map V.int) i=some (V.int z):=by
   unfold atI at e1 ⊢
   rw[UV];obtain⟨n,hn,e⟩:=UT.mp e1;rw[hn];show (List.map V.int _)[n]?=_;rw[UG,e];rfl
  exact ix_list (X:=X) value slice YT s σ H _ _ v u Q I rx ry ⟨_,_,_,_,rfl,rfl,.inl a,e2,p ρ H _ .refl j (.int z)⟩ hs
 ·cases cy;obtain⟨l,h1,e1⟩:=UT.mp e;obtain⟨a,xs,rfl,ha,c⟩:=cC j cx h1;obtain⟨w,e2,cw⟩:=c.at e1;exact ix_list (X:=X) value slice YT s σ H _ _ v u Q I rx ry ⟨_,_,_,_,rfl,rfl,SqL.of ha,e2,p ρ H _ .refl j cw⟩ hs
 ·cases e
def cP(hi:RD X E g)(ha:DE X E a fa)(hb:DE X E b fb)(hs:PlainIx b:=by exact λw w=>rfl):DE X E (.Subscript a b pos) (λδ=>fa δ>>=λx=>fb δ>>=λy=>g x y):=
 ⟨PE.mono (pe_ix hi ha.h hb.h hs) λσ H Q h=>zA (λw w w w z=>z) h⟩
def RG:D->DM (Option Int)
 |.int i=>pure (some i)
 |_=>stuck
def cutD(xs:List D)(lo hi:Option Int):List D:=(xs.drop (HT.sIx xs.length 0 lo)).take (HT.sIx xs.length xs.length hi-HT.sIx xs.length 0 lo)
def Cvs.cut(c:Cvs mg ρ H vs ds)(lo hi:Option Int):Cvs mg ρ H (cutV vs lo hi) (cutD ds lo hi):=by unfold cutV cutD;rw[c.len];exact (c.drop _).take _
structure DP(X:Cx)(E:XK)(e:Option Expr)(f:aa->DM (Option Int)):Prop where
 h:PO X e (tD X.mg E (λ_ _ (b a:Option Int)=>b=a) f)
def PO.mono(h:PO X e t)(f:∀σ H Q,t' σ H Q->t σ H Q):PO X e t':=λYT s σ H Q I q=>h YT s σ H Q I (f σ H Q q)
def Kw:DP X E none (λz=>pure none):=⟨PO.mono po_none λσ H Q h=>by obtain⟨ρ,δ,M,ev,j,g⟩:=h;exact g.pure ρ H none .refl j rfl⟩
def Ky(ha:DE X E a fa):DP X E (some a) (λδ=>fa δ>>=RG):=⟨PO.mono (po_some ha.h) λσ H Q h=>by
 obtain⟨ρ,δ,M,ev,j,g1⟩:=h;refine⟨ρ,δ,M,ev,j,g1.bind λρ1 H1 M1 x dx e1 j1 c1 g2=>?_⟩
 cases dx with
 |int i=>cases c1;exact⟨i,rfl,Go.pure (a:=some i) g2 ρ1 H1 _ .refl j1 rfl⟩
 |_=>obtain⟨r,e,_⟩:=g2;cases e⟩
def Hj(lo hi:Option Int):D->Mo->Option D
 |.tup l,_=>some (.tup (cutD l lo hi))
 |x,M=>(aR x M).map λl=>.lst (cutD l lo hi)
def Ss:SlR X (λx lo hi H Q=>∃ρ M dx d,J X.mg ρ M H/\Cv X.mg ρ H x dx/\Hj lo hi dx M=some d/\∀ρ' H' v,Ext ρ H ρ' H'->J X.mg ρ' M H'->Cv X.mg ρ' H' v d->Q v H'):=by
 intro YT s σ H x v vl vu lo hi sl Q I rx hs pl pu h;obtain⟨ρ,M,dx,d,j,c,e,q⟩:=h;unfold Hj at e;split at e
 ·cases e;cases c with | tup n a c=>
  refine Mi (X:=X) YT s σ H _ v vl vu lo hi sl Q I rx hs pl pu ⟨_,_,rfl,a,λp H' S hp=>?_⟩
  exact q ρ H' _ (.same S) (j.same S) (.tup ((j.same S).notup hp) hp ((c.cut lo hi).mono (.same S)))
 ·obtain⟨l,h1,rfl⟩:=Up.mp e;obtain⟨a,xs,rfl,ha,c⟩:=cC j c h1;refine sl_list (X:=X) YT s σ H _ v vl vu lo hi sl Q I rx hs pl pu ⟨_,_,rfl,SqL.of ha,λp hp=>?_⟩
  exact q ρ _ _ (.lay hp) (j.lay _ hp) (.lst (j.fresh hp) upd_same ((c.cut lo hi).mono (.lay hp)))
def Ii{fa:aa->DM D}{lo hi:Option Expr}{fl fh:aa->DM (Option Int)}(ha:DE X E a fa)(hl:DP X E lo fl)(hh:DP X E hi fh):
  DE X E (.Subscript a (.Slice lo hi none p2) pos) (λδ=>fa δ>>=λx=>fl δ>>=λl=>fh δ>>=λh=>rd (Hj l h x)):=⟨PE.mono (pe_slice Ss ha.h hl.h hh.h) λσ H Q h=>by
 obtain⟨ρ,δ,M,ev,j,g1⟩:=h;refine⟨ρ,δ,M,ev,j,g1.bind λρ1 H1 M1 x dx e1 j1 c1 g2=>⟨ρ1,δ,M1,ev.mono e1,j1,g2.bind λρ2 H2 M2 l dl e2 j2 c2 g3=>⟨ρ2,δ,M2,(ev.mono e1).mono e2,j2,g3.bind λρ3 H3 M3 h dh e3 j3 c3 g4=>?_⟩⟩⟩
 have c2:l=dl:=c2;have c3:h=dh:=c3;subst c2 c3;obtain⟨d,e,q⟩:=g4.rd;exact⟨ρ3,M3,dx,d,j3,(c1.mono e2).mono e3,e,q⟩⟩
end
inductive Fl where
 |nx (δ:aa) | rt (d:D) | bk (δ:aa) | ct (δ:aa)
def pC(mg:Str->Option Value)(ρ:Rh)(H:Hp)(D:Ends)(E:XK):R Fl×Mo->Prop
 |(.ok (.nx δ'),M')=>∀ρ' H' σ',Ext ρ H ρ' H'->J mg ρ' M' H'->Ev mg ρ' H' σ' δ'->D.nx σ' H'
 |(.ok (.bk δ'),M')=>∀ρ' H' σ',Ext ρ H ρ' H'->J mg ρ' M' H'->Ev mg ρ' H' σ' δ'->D.bk σ' H'
 |(.ok (.ct δ'),M')=>∀ρ' H' σ',Ext ρ H ρ' H'->J mg ρ' M' H'->Ev mg ρ' H' σ' δ'->D.ct σ' H'
 |(.ok (.rt d),M')=>∀ρ' H' v,Ext ρ H ρ' H'->J mg ρ' M' H'->Cv mg ρ' H' v d->D.rt v H'
 |(.exc c,M')=>∀ρ' H' C,Ext ρ H ρ' H'->J mg ρ' M' H'->mg c.nm=some (.ref C)->∀o,vd c ρ' o H'->E (.ref C) o H'
def bh(mg:Str->Option Value)(E:XK)(D:Ends)(ρ:Rh)(H:Hp)(m:DM Fl)(M:Mo):Prop:=∃r,m M=some r/\pC mg ρ H D E r
section
variable{mg:Str->Option Value}{ρ ρ':Rh}{H H':Hp}{E:XK}{α β:Type}{rel:Rh->Hp->β->α->Prop}{D D':Ends}{Q':β->Hp->Prop}{M:Mo}
def pC.mono(e:Ext ρ H ρ' H')(h:pC mg ρ H D E r):pC mg ρ' H' D E r:=by
 obtain⟨r,M'⟩:=r;cases r with
 |ok a=>cases a<;>exact λρ2 H2 b e2 j c=>h ρ2 H2 b (e.trans e2) j c
 |exc c=>exact λρ2 H2 C e2 j m=>h ρ2 H2 C (e.trans e2) j m
set_option tactic.hygienic true in
theorem bh.bind(g:bh mg E D ρ H (m>>=k) M)
  (f:∀ρ1 H1 M1 b a,Ext ρ H ρ1 H1->J mg ρ1 M1 H1->rel ρ1 H1 b a->bh mg E D ρ1 H1 (k a) M1->Q' b H1):Go mg E rel Q' ρ H m M:=by
 obtain⟨r,e,p⟩:=g;have e:DM.bind m k M=some r:=e;unfold DM.bind at e;split at e
 ·cases e
 ·rename_i c M' em;cases e;exact⟨_,em,p⟩
 ·rename_i a M' em;exact⟨_,em,λρ1 H1 b x j c=>f ρ1 H1 M' b a x j c ⟨r,e,p.mono x⟩⟩
theorem bh.pure(g:bh mg E D ρ H (pure a) M):pC mg ρ H D E (.ok a,M):=by obtain⟨r,e,p⟩:=g;have e:some (R.ok a,M)=some r:=e;cases e;exact p
def jE(f g:aa->DM Fl):aa->DM Fl:=λδ=>f δ>>=λr=>match r with
 |.nx δ'=>g δ'
 |r=>Pure.pure r
set_option tactic.hygienic true in
def bh.seq(g:bh mg E D ρ H (f>>=k) M)
  (hn:∀δ' ρ1 H1 M1 σ1,Ext ρ H ρ1 H1->J mg ρ1 M1 H1->Ev mg ρ1 H1 σ1 δ'->bh mg E D ρ1 H1 (k (.nx δ')) M1->D'.nx σ1 H1)
  (hb:∀δ' ρ1 H1 M1 σ1,Ext ρ H ρ1 H1->J mg ρ1 M1 H1->Ev mg ρ1 H1 σ1 δ'->bh mg E D ρ1 H1 (k (.bk δ')) M1->D'.bk σ1 H1)
  (hc:∀δ' ρ1 H1 M1 σ1,Ext ρ H ρ1 H1->J mg ρ1 M1 H1->Ev mg ρ1 H1 σ1 δ'->bh mg E D ρ1 H1 (k (.ct δ')) M1->D'.ct σ1 H1)
  (hr:∀d ρ1 H1 M1 v,Ext ρ H ρ1 H1->J mg ρ1 M1 H1->Cv mg ρ1 H1 v d->bh mg E D ρ1 H1 (k (.rt d)) M1->D'.rt v H1):bh mg E D' ρ H f M:=by
 obtain⟨r,e,p⟩:=g;have e:DM.bind f k M=some r:=e;unfold DM.bind at e;split at e
 ·cases e
 ·rename_i c M' em;cases e;exact⟨_,em,p⟩
 ·rename_i a M' em;refine⟨_,em,?_⟩;cases a with
  |nx δ'=>exact λρ1 H1 b x j c=>hn δ' ρ1 H1 M' b x j c ⟨r,e,p.mono x⟩
  |bk δ'=>exact λρ1 H1 b x j c=>hb δ' ρ1 H1 M' b x j c ⟨r,e,p.mono x⟩
  |ct δ'=>exact λρ1 H1 b x j c=>hc δ' ρ1 H1 M' b x j c ⟨r,e,p.mono x⟩
  |rt d=>exact λρ1 H1 b x j c=>hr d ρ1 H1 M' b x j c ⟨r,e,p.mono x⟩
end
def tS(mg:Str->Option Value)(E:XK)(f:aa->DM Fl):TS:=λD σ H=>∃ρ δ M,Ev mg ρ H σ δ/\J mg ρ M H/\bh mg E D ρ H (f δ) M
structure DS(X:Cx)(E:XK)(st:Stmt)(f:aa->DM Fl):Prop where
 h:PS X st (tS X.mg E f)
structure DSs(X:Cx)(E:XK)(st:List Stmt)(f:aa->DM Fl):Prop where
 h:PSs X st (tS X.mg E f)
def PS.mono(h:PS X e t)(f:∀D σ H,t' D σ H->t D σ H):PS X e t':=λYT s σ H D I q=>h YT s σ H D I (f D σ H q)
def PSs.mono(h:PSs X e t)(f:∀D σ H,t' D σ H->t D σ H):PSs X e t':=λYT s σ H D I q=>h YT s σ H D I (f D σ H q)
section
variable{X:Cx}{E:XK}{st:Stmt}{rest:List Stmt}{f g:aa->DM Fl}{e:Expr}{fe:aa->DM D}{pos:Pos}
def bz:DSs X E [] (λδ=>pure (.nx δ)):=⟨PSs.mono pss_nil λD σ H h=>by obtain⟨ρ,δ,M,ev,j,g⟩:=h;exact g.pure ρ H σ .refl j ev⟩
def aA(h:DS X E st f):DSs X E [st] f:=⟨pss_one h.h⟩
def aq(h1:DS X E st f)(h2:DSs X E rest g):DSs X E (st::rest) (jE f g):=⟨PSs.mono (pss_cons h1.h h2.h) λD σ H h=>by
 obtain⟨ρ,δ,M,ev,j,g1⟩:=h;refine⟨ρ,δ,M,ev,j,g1.seq (λδ' ρ1 H1 M1 σ1 e1 j1 ev1 g2=>⟨ρ1,δ',M1,ev1,j1,g2⟩) (λδ' ρ1 H1 M1 σ1 e1 j1 ev1 g2=>?_) (λδ' ρ1 H1 M1 σ1 e1 j1 ev1 g2=>?_) (λd ρ1 H1 M1 v e1 j1 c1 g2=>?_)⟩
 ·exact bh.pure g2 ρ1 H1 σ1 .refl j1 ev1
 ·exact bh.pure g2 ρ1 H1 σ1 .refl j1 ev1
 ·exact bh.pure g2 ρ1 H1 v .refl j1 c1⟩
def aL(he:DE X E e fe):DS X E (.Return (some e) pos) (λδ=>fe δ>>=λd=>pure (.rt d)):=⟨PS.mono (L2.ps_ret he.h) λD σ H h=>by obtain⟨ρ,δ,M,ev,j,g1⟩:=h;exact⟨ρ,δ,M,ev,j,g1.bind λρ1 H1 M1 v d e1 j1 c1 g2=>g2.pure ρ1 H1 v .refl j1 c1⟩⟩
def gC(he:DE X E e fe)(hs:swapsWith e none pos.line X.env=pure false:=by rfl):DS X E (.Expr e pos) (λδ=>fe δ>>=λz=>pure (.nx δ)):=⟨PS.mono (ps_expr he.h hs) λD σ H h=>by obtain⟨ρ,δ,M,ev,j,g1⟩:=h;exact⟨ρ,δ,M,ev,j,g1.bind λρ1 H1 M1 v d e1 j1 c1 g2=>g2.pure ρ1 H1 σ .refl j1 (ev.mono e1)⟩⟩
def aX(hN:X.N.Nodup)(hi:X.N[i]?=some x)(hx:Loc X.env.scope x)(he:DE X E e fe)(hs:swapsWith e (some (.Name x pos')) pos.line X.env=pure false:=by rfl)(hf:X.fn x=true\/X.env.scope.names.lookup x=some .local:=by first | exact .inl rfl | exact .inr rfl | assumption):
  DS X E (.Assign [.Name x pos'] e pos) (λδ=>fe δ>>=λd=>pure (.nx (δ.set i (some d)))):=⟨PS.mono (ps_set hN hi hx he.h hs hf) λD σ H h=>by
 obtain⟨ρ,δ,M,ev,j,g1⟩:=h;exact⟨ρ,δ,M,ev,j,g1.bind λρ1 H1 M1 v d e1 j1 c1 g2=>g2.pure ρ1 H1 _ .refl j1 ((ev.mono e1).set c1)⟩⟩
def bO(hc:DT X E c tc)(ha:DSs X E a f)(hb:DSs X E b g):DS X E (.If c a b pos) (λδ=>tc δ>>=λk=>if k then f δ else g δ):=⟨PS.mono (L2.ps_if hc.h ha.h hb.h) λD σ H h=>by
 obtain⟨ρ,δ,M,ev,j,g1⟩:=h;refine⟨ρ,δ,M,ev,j,g1.bind λρ1 H1 M1 x dx e1 j1 c1 g2=>?_⟩
 have c1:x=dx:=c1;subst c1;cases x with
 |true=>exact iteT ⟨ρ1,δ,M1,ev.mono e1,j1,g2⟩
 |false=>exact iteF ⟨ρ1,δ,M1,ev.mono e1,j1,g2⟩⟩
def tG(mg:Str->Option Value)(E:XK)(fg:D->aa->DM aa):TG:=λv σ H Q=>∃ρ δ M d,Ev mg ρ H σ δ/\J mg ρ M H/\Cv mg ρ H v d/\Go mg E (Ev mg) Q ρ H (fg d δ) M
def TJ(mg:Str->Option Value)(E:XK)(fg:List D->aa->DM aa):TGs:=λvs σ H Q=>∃ρ δ M ds,Ev mg ρ H σ δ/\J mg ρ M H/\Cvs mg ρ H vs ds/\Go mg E (Ev mg) Q ρ H (fg ds δ) M
structure DG(X:Cx)(E:XK)(tg:Expr)(fg:D->aa->DM aa):Prop where
 h:PG X tg (tG X.mg E fg)
structure DGs(X:Cx)(E:XK)(tg:List Expr)(fg:List D->aa->DM aa):Prop where
 h:PGs X tg (TJ X.mg E fg)
def PG.mono(h:PG X tg t)(f:∀v σ H Q,t' v σ H Q->t v σ H Q):PG X tg t':=λYT s σ H v u Q I r q=>h YT s σ H v u Q I r (f v σ H Q q)
def PGs.mono(h:PGs X tg t)(f:∀v σ H Q,t' v σ H Q->t v σ H Q):PGs X tg t':=λYT s σ H v u Q I r q=>h YT s σ H v u Q I r (f v σ H Q q)
def gN(i:Nat):D->aa->DM aa:=λd δ=>pure (δ.set i (some d))
def aB(hN:X.N.Nodup)(hi:X.N[i]?=some x)(hx:Loc X.env.scope x)(hf:X.fn x=true\/X.env.scope.names.lookup x=some .local:=by first | exact .inl rfl | exact .inr rfl | assumption):DG X E (.Name x pos) (gN i):=
 ⟨PG.mono (pg_name hN hi hx hf) fun v σ H Q h=>by obtain⟨ρ,δ,M,d,ev,j,c,g1⟩:=h;exact Go.pure g1 ρ H _ .refl j (ev.set c)⟩
def fQ:List D->aa->DM aa
 |[],δ=>pure δ
 |_,_=>stuck
def bK(f:D->aa->DM aa)(fs:List D->aa->DM aa):List D->aa->DM aa
 |d::l,δ=>f d δ>>=λδ'=>fs l δ'
 |_,_=>stuck
def dM:DGs X E [] fQ:=⟨PGs.mono pgs_nil λvs σ H Q h=>by
 obtain⟨ρ,δ,M,ds,ev,j,c,g1⟩:=h;cases c with
 |nil=>exact⟨rfl,Go.pure (a:=δ) g1 ρ H σ .refl j ev⟩
 |cons _ _=>obtain⟨r,e,_⟩:=g1;cases e⟩
def bw(h1:DG X E e fg)(h2:DGs X E es fgs)(hs:(assignEach (e::es) X.env).map (·.2)=assign e X.env::(assignEach es X.env).map (·.2):=by rfl):DGs X E (e::es) (bK fg fgs):=
 ⟨PGs.mono (pgs_cons h1.h h2.h hs) fun vs σ H Q h=>by
  obtain⟨ρ,δ,M,ds,ev,j,c,g1⟩:=h;cases c with
  |nil=>obtain⟨r,e,_⟩:=g1;cases e
  |cons c1 c2=>
    have g1:Go X.mg E (Ev X.mg) Q ρ H (fg _ δ>>=λδ'=>fgs _ δ') M:=g1
    exact⟨_,_,rfl,ρ,δ,M,_,ev,j,c1,g1.bind λρ1 H1 M1 σ1 δ1 e1 j1 ev1 g2=>⟨ρ1,δ1,M1,_,ev1,j1,c2.mono e1,g2⟩⟩⟩
def gT(n:Nat)(fs:List D->aa->DM aa):D->aa->DM aa
 |.tup l,δ=>if l.length=n then fs l δ else stuck
 |_,_=>stuck
set_option tactic.hygienic true in
def fO(hc:X.calm=true)(h:DGs X E es fgs)(hn:(assignEach es X.env).length=n:=by rfl)(hst:(assignEach es X.env).findIdx? (·.1)=none:=by rfl):DG X E (.Tuple es k pos) (gT n fgs):=
 ⟨PG.mono (pg_tup hc h.h hn hst) fun v σ H Q h=>by
  obtain⟨ρ,δ,M,d,ev,j,c,g1⟩:=h;cases c with
  | tup nx a c=>
    have g1:Go X.mg E (Ev X.mg) Q ρ H (if _ then _ else _) M:=g1
    split at g1
    ·rename_i hl;exact⟨_,_,rfl,SqT.of a,by rw[c.len];exact hl,ρ,δ,M,_,ev,j,c,g1⟩
    ·obtain⟨r,e,_⟩:=g1;cases e
  |_=>obtain⟨r,e,_⟩:=g1;cases e⟩
def yG:D->D->D->DM Unit
 | .ref n,.int k,v=>λM=>match M[n]? with
   |some (.lst l)=>match ixN l.length k with
     |some j=>some (.ok (),M.set n (.lst (l.set j v)))
     |none=>none
   |_=>none
 |_,_,_=>stuck
def J5(mg:Str->Option Value)(E:XK)(gs:D->D->D->DM Unit):TSet:=λo i v H Q=>∃ρ M dO di dv,J mg ρ M H/\Cv mg ρ H o dO/\Cv mg ρ H i di/\Cv mg ρ H v dv/\Go mg E (λ_ _ (_:Unit) (_:Unit)=>True) (λz H'=>Q H') ρ H (gs dO di dv) M
set_option tactic.hygienic true in
def wj:PSet X (J5 X.mg E yG):=by
 intro YT s σ H o i v ov iv u Q I ro ri rv h;obtain⟨ρ,M,dO,di,dv,j,co,ci,cv,r,e,p⟩:=h;cases co with
 | ref hn=>
   cases ci with
   | int k=>
     rename_i n a;have e:(match M[n]? with
      |some (.lst l)=>match ixN l.length k with
        |some j=>some (R.ok (),M.set n (.lst (l.set j dv)))
        |none=>none
      |_=>none)=some r:=e
     split at e
     ·rename_i l hl;split at e
      ·rename_i q hq;cases e;obtain⟨xs,hx,c⟩:=j.obj _ _ _ hn hl;have x:Ext ρ H ρ (upd H a (.lst (xs.set q v))):=.upd (Vh hn);exact set_list (X:=X) YT s σ H _ _ v ov iv u Q I ro ri rv ⟨_,_,_,q,rfl,rfl,hx,by rw[c.len];exact hq,p ρ _ () x (j.upd hn ⟨_,upd_same,(c.set cv q).mono x⟩) trivial⟩
      ·cases e
     ·cases e
   |_=>cases e
 |_=>cases e
def wZ(ho:DE X E o fo)(hi:DE X E i fi)(hs:PSet X (J5 X.mg E gs))
  (ha:∀v,assign (.Subscript o i pos) X.env v=(do
    let ov <-holding [v] (eval o X.env)
    let iv <-holding [v,ov] (eval i X.env)
    standAt pos
    holding [v,ov,iv] (setItem ov iv v)
    release [v,ov,iv] []):=by intro _;rfl):DG X E (.Subscript o i pos) (λd δ=>fo δ>>=λo=>fi δ>>=λi=>gs o i d>>=λz=>pure δ):=
 ⟨PG.mono (pg_sub ho.h hi.h hs ha) fun v σ H Q h=>by obtain⟨ρ,δ,M,d,ev,j,c,g1⟩:=h;exact⟨ρ,δ,M,ev,j,g1.bind λρ1 H1 M1 x dx e1 j1 c1 g2=>⟨ρ1,δ,M1,ev.mono e1,j1,g2.bind λρ2 H2 M2 y dy e2 j2 c2 g3=>⟨ρ2,M2,dx,dy,d,j2,c1.mono e2,c2,(c.mono e1).mono e2,g3.bind λρ3 H3 M3 _ _ e3 j3 _ g4=>g4.pure ρ3 H3 σ .refl j3 (((ev.mono e1).mono e2).mono e3)⟩⟩⟩⟩
def je(he:DE X E e fe)(hg:DG X E tg fg)(hs:swapsWithSole [tg] e pos.line X.env=pure false:=by rfl)(hw:swappedStores [tg] e X.env=pure none:=by rfl)
  (h1:(assignEach [tg] X.env).map (·.2)=[assign tg X.env]:=by rfl):DS X E (.Assign [tg] e pos) (λδ=>fe δ>>=λd=>fg d δ>>=λδ'=>pure (.nx δ')):=⟨PS.mono (ps_asg he.h hg.h hs hw h1) λD σ H h=>by
 obtain⟨ρ,δ,M,ev,j,g1⟩:=h;exact⟨ρ,δ,M,ev,j,g1.bind λρ1 H1 M1 v d e1 j1 c1 g2=>⟨ρ1,δ,M1,d,ev.mono e1,j1,c1,g2.bind λρ2 H2 M2 σ2 δ2 e2 j2 ev2 g3=>g3.pure ρ2 H2 σ2 .refl j2 ev2⟩⟩⟩
def q8(i j:Nat)(fa:aa->DM (List D)):aa->DM Fl:=λδ=>fa δ>>=λl=>match l with
 |[v,w]=>pure (.nx ((δ.set i (some v)).set j (some w)))
 |_=>stuck
def sU{kt k2 pt2}(hc:X.calm=true)(hN:X.N.Nodup)(hi:X.N[i]?=some x)(hj:X.N[j]?=some y)(hij:i≠j)
  (hx:X.env.scope.names.lookup x=some .local) (hy:X.env.scope.names.lookup y=some .local) (ha:DA X E [a,b] fa)
  (hw:swappedStores [.Tuple [.Name x px,.Name y py] kt pt] (.Tuple [a,b] k2 pt2) X.env=pure (some [x,y]))
  (hs:swapsWithSole [.Tuple [.Name x px,.Name y py] kt pt] (.Tuple [a,b] k2 pt2) pos.line X.env=pure false:=by rfl) :
  DS X E (.Assign [.Tuple [.Name x px,.Name y py] kt pt] (.Tuple [a,b] k2 pt2) pos) (q8 i j fa):=⟨PS.mono (ps_par hc hN hi hj hij hx hy ha.h.h hw hs) λD σ H h=>by
 obtain⟨ρ,δ,M,ev,j,g1⟩:=h;refine⟨ρ,δ,M,ev,j,bh.bind g1 λρ1 H1 M1 v d e1 j1 c1 g2=>?_⟩
 cases c1 with
 |nil=>obtain⟨r,e,_⟩:=g2;cases e
 | cons c1 c2=>cases c2 with
   |nil=>obtain⟨r,e,_⟩:=g2;cases e
   |cons c2 c3=>cases c3 with
     |nil=>exact⟨_,_,rfl,bh.pure (a:=.nx _) g2 ρ1 H1 _ .refl j1 (((ev.mono e1).set c1).set c2)⟩
     |cons _ _=>obtain⟨r,e,_⟩:=g2;cases e⟩
def Je:cg X E (inplaceOp .Add) (λx y=>rd (cF (λz z=>true) (λi j=>.int (i+j)) x y)):=xX iop_add
end
inductive Itn where
 |fix (l:List D) | dyn (n:Nat)
def Itn.next:Itn->Nat->Mo->Option (Option D)
 |.fix l,i,_=>some l[i]?
 |.dyn n,i,M=>match M[n]? with
   |some (.lst l)=>some l[i]?
   |_=>none
set_option tactic.hygienic true in
structure ItOk(mg:Str->Option Value)(ρ:Rh)(H:Hp)(Jt:It)(it:Itn):Prop where
 item:∀(i:Nat) ρ' H' M' d,Kp ρ H ρ' H'->J mg ρ' M' H'->it.next i M'=some (some d)->Jt.go i H'/\∀x H2,Jt.yld i H' x H2->Ext ρ' H' ρ' H2/\J mg ρ' M' H2/\Cv mg ρ' H2 x d
 stop:∀(i:Nat) ρ' H' M',Kp ρ H ρ' H'->J mg ρ' M' H'->it.next i M'=some none->Jt.stop i H'
def tI(mg:Str->Option Value)(E:XK)(fi:aa->DM Itn):TI:=λσ H R=>tD mg E (ItOk mg) fi σ H R
structure DI(X:Cx)(E:XK)(tg it:Expr)(fi:aa->DM Itn):Prop where
 h:PI X tg it (tI X.mg E fi)
def PI.mono(h:PI X tg e t)(f:∀σ H Q,t' σ H Q->t σ H Q):PI X tg e t':=λYT s σ H Q I q=>h YT s σ H Q I (f σ H Q q)
def Oa{K:PySem.W.Frag}{mg:Str->Option Value}{ρ:Rh}{H:Hp}{a:Addr}{xs:List V}{ds:List D}(n:a∉ρ)(h:H a=some (.lst xs))(c:Cvs mg ρ H xs ds):ItOk mg ρ H (Itl K a) (.fix ds) where
 item:=λi ρ' H' M' d e j q=>by
  have hq:ds[i]?=some d:=Uo q;obtain⟨v,hv,cv⟩:=c.get hq;have h':=(e.keep _ _ h n nofun).2
  refine⟨⟨xs,v,SqL.of h',hv⟩,λx H2 y=>?_⟩
  obtain⟨rfl,y⟩:=y;have:=y xs (SqL.of h');rw[hv]at this;cases this;exact⟨.refl,j,cv.kp e⟩
 stop:=λi ρ' H' M' e j q=>by have hq:ds[i]?=none:=Uo q;exact⟨xs,SqL.of (e.keep _ _ h n nofun).2,by rw[c.len];exact U5.mp hq⟩
def Oc{K:PySem.W.Frag}{mg:Str->Option Value}{ρ:Rh}{H:Hp}{a:Addr}{xs:List V}{ds:List D}(n:a∉ρ)(h:H a=some (.tup xs))(c:Cvs mg ρ H xs ds):ItOk mg ρ H (Itt K a) (.fix ds) where
 item:=λi ρ' H' M' d e j q=>by
  have hq:ds[i]?=some d:=Uo q;obtain⟨v,hv,cv⟩:=c.get hq;have h':=(e.keep _ _ h n nofun).2
  refine⟨⟨xs,v,SqT.of h',hv⟩,λx H2 y=>?_⟩
  obtain⟨rfl,y⟩:=y;have:=y xs (SqT.of h');rw[hv]at this;cases this;exact⟨.refl,j,cv.kp e⟩
 stop:=λi ρ' H' M' e j q=>by have hq:ds[i]?=none:=Uo q;exact⟨xs,SqT.of (e.keep _ _ h n nofun).2,by rw[c.len];exact U5.mp hq⟩
set_option tactic.hygienic true in
def N8{K:PySem.W.Frag}{mg:Str->Option Value}{ρ:Rh}{H:Hp}{a:Addr}{n:Nat}(h:ρ.st[n]?=some a):ItOk mg ρ H (Itl K a) (.dyn n) where
 item:=λi ρ' H' M' d e j q=>by
  have h':=e.at h;unfold Itn.next at q;dsimp only at q;split at q
  ·rename_i l hl;obtain⟨xs,hx,c⟩:=j.obj n a _ h' hl;have hq:l[i]?=some d:=Uo q;obtain⟨v,hv,cv⟩:=c.get hq;refine⟨⟨xs,v,SqL.of hx,hv⟩,λx H2 y=>?_⟩
   obtain⟨rfl,y⟩:=y;have:=y xs (SqL.of hx);rw[hv]at this;cases this;exact⟨.refl,j,cv⟩
  ·cases q
 stop:=λi ρ' H' M' e j q=>by
  have h':=e.at h;unfold Itn.next at q;dsimp only at q;split at q
  ·rename_i l hl;obtain⟨xs,hx,c⟩:=j.obj n a _ h' hl;have hq:l[i]?=none:=Uo q;exact⟨xs,SqL.of hx,by rw[c.len];exact U5.mp hq⟩
  ·cases q
def rm(lo:Int)(n:Nat):List D:=(List.range n).map λi=>.int (lo+(i:Nat))
def zX{lo:Int}{n i:Nat}:(rm lo n)[i]?=if i<n then some (.int (lo+(i:Nat))) else none:=by
 unfold rm;rw[UG];by_cases h:i<n
 ·rw[Uv h,Vs h];rfl
 ·rw[Ux h,U5.mpr (by simp;lia)];rfl
set_option tactic.hygienic true in
def Ob{mg:Str->Option Value}{lo:Int}{n:Nat}:ItOk mg ρ H (Itr lo n) (.fix (rm lo n)) where
 item:=λi ρ' H' M' d e j q=>by
  have hq:(rm lo n)[i]?=some d:=Uo q;rw[zX]at hq;split at hq
  ·rename_i h;cases hq;refine⟨h,λx H2 y=>?_⟩
   obtain⟨rfl,rfl⟩:=y;exact⟨.refl,j,.int _⟩
  ·cases hq
 stop:=λi ρ' H' M' e j q=>by
  have hq:(rm lo n)[i]?=none:=Uo q;rw[zX]at hq;split at hq
  ·cases hq
  ·rename_i h;exact VP.mp h
section
variable{X:Cx}{E:XK}{tg:Expr}
def Cp(i:Int):Bool:=decide (-(2^62)<=i/\i<2^62)
def o4:List D->Option Itn
 |[.int j]=>if Cp j then some (.fix (rm 0 j.toNat)) else none
 |_=>none
set_option tactic.hygienic true in
def bF(hg:Gl X "range")(hm:X.mg "range"=none)(ha:DA X E [a] fa)(hs:notStar a=true:=by rfl):DI X E tg (.Call (.Name "range" p) [a] [] pos) (λδ=>fa δ >>= λl=>opt (o4 l)):=
 ⟨PI.mono (Ca hg hm ha.h hs).h fun σ H R h=>by
  obtain⟨ρ,δ,M,ev,j,g1⟩:=h;refine⟨ρ,δ,M,ev,j,g1.bind λρ1 H1 M1 x dx e1 j1 c1 g2=>?_⟩
  obtain⟨it,e,q⟩:=g2.opt;unfold o4 at e;split at e
  ·split at e
   ·rename_i hk;cases e;cases c1 with | cons c1 c2=>
    cases c2;cases c1;have hk:=VN hk;exact⟨_,rfl,hk.1,hk.2,q ρ1 H1 _ .refl j1 Ob⟩
   ·cases e
  ·cases e⟩
def rY:D->Option Itn
 |.tup l=>some (.fix l)
 |_=>none
def Dr:D->Mo->Option Itn
 |.lst l,_=>some (.fix l)
 |.ref n,M=>match M[n]? with
   |some (.lst _)=>some (.dyn n)
   |_=>none
 |_,_=>none
def bA(hl:DE X E l fl):DI X E tg l (λδ=>fl δ>>=λd=>opt (rY d)):=⟨PI.mono (pi_tup hl.h) λσ H R h=>by
 obtain⟨ρ,δ,M,ev,j,g1⟩:=h;refine⟨ρ,δ,M,ev,j,g1.bind λρ1 H1 M1 x dx e1 j1 c1 g2=>?_⟩
 obtain⟨it,e,q⟩:=g2.opt;unfold rY at e;split at e
 ·cases e;cases c1 with | tup n a c=>
  exact⟨_,rfl,⟨_,SqT.of a⟩,q ρ1 H1 _ .refl j1 (Oc n a c)⟩
 ·cases e⟩
set_option tactic.hygienic true in
def oJ(hl:DE X E l fl):DI X E tg l (λδ=>fl δ >>= λd=>rd (Dr d)):=⟨PI.mono (pi_list hl.h) λσ H R h=>by
 obtain⟨ρ,δ,M,ev,j,g1⟩:=h;refine⟨ρ,δ,M,ev,j,g1.bind λρ1 H1 M1 x dx e1 j1 c1 g2=>?_⟩
 obtain⟨it,e,q⟩:=g2.rd;unfold Dr at e;split at e
 ·cases e;cases c1 with | lst n a c=>
  exact⟨_,rfl,⟨_,SqL.of a⟩,q ρ1 H1 _ .refl j1 (Oa n a c)⟩
 ·split at e
  ·rename_i l' hl';cases e;cases c1 with | ref hn=>
   obtain⟨xs,hx,_⟩:=j1.obj _ _ _ hn hl';exact⟨_,rfl,⟨xs,SqL.of hx⟩,q ρ1 H1 _ .refl j1 (N8 hn)⟩
  ·cases e
 ·cases e⟩
end
def forL(tg:D->aa->DM aa)(fb:aa->DM Fl):List D->aa->DM Fl
 |[],δ=>pure (.nx δ)
 |d::l,δ=>tg d δ>>=λδ1=>fb δ1>>=λr=>match r with
   |.nx δ2=>forL tg fb l δ2
   |.ct δ2=>forL tg fb l δ2
   |.bk δ2=>pure (.nx δ2)
   |.rt d=>pure (.rt d)
def xu(tg:D->aa->DM aa)(fb:aa->DM Fl)(n:Nat):Nat->Nat->aa->DM Fl
 |0,_,_=>stuck
 | k + 1,i,δ=>rd (Itn.next (.dyn n) i) >>= λo=>match o with
   |none=>pure (.nx δ)
   |some d=>tg d δ>>=λδ1=>fb δ1>>=λr=>match r with
     |.nx δ2=>xu tg fb n k (i+1) δ2
     |.ct δ2=>xu tg fb n k (i+1) δ2
     |.bk δ2=>pure (.nx δ2)
     |.rt d=>pure (.rt d)
def jf(N:Nat)(tg:D->aa->DM aa)(fb:aa->DM Fl):Itn->aa->DM Fl
 |.fix l=>forL tg fb l
 |.dyn n=>xu tg fb n N 0
def bh.rdb{mg:Str->Option Value}{E:XK}{D:Ends}{ρ:Rh}{H:Hp}{M:Mo}{γ:Type}{f:Mo->Option γ}{k:γ->DM Fl}(g:bh mg E D ρ H (L3.rd f>>=k) M):∃a,f M=some a/\bh mg E D ρ H (k a) M:=by
 obtain⟨r,e,p⟩:=g;have e:DM.bind _ _ M=some r:=e;unfold DM.bind L3.rd at e;cases h:f M with
 |none=>rw[h]at e;cases e
 |some a=>rw[h]at e;exact⟨a,rfl,r,e,p⟩
def xx{X:Cx}{E:XK}{fg:D->aa->DM aa}{fb:aa->DM Fl}{D:Ends}{σ:L2.St}{H H':Hp}{ρ:Rh}{δ:aa}{M:Mo}{x:V}{d:L3.D}{N:L2.St->Hp->Prop}{again:aa->DM Fl}
  (ev:Ev X.mg ρ H σ δ) (e1:Ext ρ H ρ H') (j1:J X.mg ρ M H') (c1:Cv X.mg ρ H' x d) (ht:bh X.mg E D ρ H (fg d δ>>=λδ1=>fb δ1>>=λr=>match r with
    |.nx δ2=>again δ2
    |.ct δ2=>again δ2
    |.bk δ2=>pure (.nx δ2)
    |.rt d=>pure (.rt d)) M) (hN:∀ρ2 δ2 M2 σ2 H2,Ext ρ H ρ2 H2->Ev X.mg ρ2 H2 σ2 δ2->J X.mg ρ2 M2 H2->bh X.mg E D ρ2 H2 (again δ2) M2->N σ2 H2) :
  tG X.mg E fg x σ H' λσ2 H2=>tS X.mg E fb { D with nx:=N,ct:=N,bk:=D.nx } σ2 H2:=by
 obtain⟨r,er,p⟩:=ht;have ht':bh X.mg E D ρ H' _ M:=⟨r,er,p.mono e1⟩;refine⟨ρ,δ,M,d,ev.mono e1,j1,c1,bh.bind ht' λρ2 H2 M2 σ2 δ2 e2 j2 ev2 g2=>⟨ρ2,δ2,M2,ev2,j2,g2.seq (λδ' ρ3 H3 M3 σ3 e3 j3 ev3 g3=>?_) (λδ' ρ3 H3 M3 σ3 e3 j3 ev3 g3=>?_) (λδ' ρ3 H3 M3 σ3 e3 j3 ev3 g3=>?_) (λd' ρ3 H3 M3 v e3 j3 c3 g3=>?_)⟩⟩
 ·exact hN ρ3 δ' M3 σ3 H3 ((e1.trans e2).trans e3) ev3 j3 g3
 ·exact bh.pure (a:=.nx δ') g3 ρ3 H3 σ3 .refl j3 ev3
 ·exact hN ρ3 δ' M3 σ3 H3 ((e1.trans e2).trans e3) ev3 j3 g3
 ·exact bh.pure (a:=.rt d') g3 ρ3 H3 v .refl j3 c3
def bR{body:List Stmt}{fi:aa->DM Itn}{fg:D->aa->DM aa}{fb:aa->DM Fl}(N:Nat)(hp:PassesOwn (model X.prog X.w) X.A X.env X.xe)(hc:X.calm=true)(hi:DI X E tg iter fi)(hg:DG X E tg fg)(hb:DSs X E body fb)
  (hs:∀x,foldedSetIterable iter X.env x=pure x:=by intro _;rfl):DS X E (.For tg iter body [] pos) (λδ=>fi δ>>=λit=>jf N fg fb it δ):=⟨PS.mono (ps_for hp hc hi.h hg.h hb.h hs) λD σ H h=>by
 obtain⟨ρ,δ,M,ev,j,g1⟩:=h;refine⟨ρ,δ,M,ev,j,g1.bind λρ1 H1 M1 Jt it e1 j1 iok g2=>?_⟩
 cases it with
 | fix l=>
   refine⟨λi m σ H=>∃ρ' δ' M',Ext ρ1 H1 ρ' H/\Ev X.mg ρ' H σ δ'/\J X.mg ρ' M' H/\m=(l.drop i).length/\bh X.mg E D ρ' H (forL fg fb (l.drop i) δ') M',⟨_,ρ1,δ,M1,.refl,ev.mono e1,j1,rfl,g2⟩,?_⟩
   rintro i m σ2 H2 ⟨ρ2,δ2,M2,e2,ev2,j2,rfl,g3⟩;cases hd:l[i]? with
   |none=>have hl:l.drop i=[]:=List.drop_eq_nil_of_le (U5.mp hd);rw[hl]at g3;exact .inl ⟨iok.stop i ρ2 H2 M2 e2.kp j2 (congrArg some hd),bh.pure (a:=.nx δ2) g3 ρ2 H2 σ2 .refl j2 ev2⟩
   |some d=>
     obtain⟨hi',hd'⟩:=Uj.mp hd;have hl:l.drop i=d::l.drop (i+1):=by rw[<-hd'];exact XJ hi'
     obtain⟨go,yl⟩:=iok.item i ρ2 H2 M2 d e2.kp j2 (congrArg some hd);rw[hl]at g3;refine .inr ⟨go,λσ' H'=>∃ρ' δ' M',Ext ρ1 H1 ρ' H'/\Ev X.mg ρ' H' σ' δ'/\J X.mg ρ' M' H'/\bh X.mg E D ρ' H' (forL fg fb (l.drop (i+1)) δ') M',λσ' H' ⟨ρ',δ',M',a1,a2,a3,a4⟩=>⟨_,by rw[Xk,Xk];lia,ρ',δ',M',a1,a2,a3,rfl,a4⟩,λx H' y=>?_⟩
     obtain⟨x1,x2,x3⟩:=yl x H' y;exact xx ev2 x1 x2 x3 g3 λρ3 δ3 M3 σ3 H3 f1 f2 f3 f4=>⟨ρ3,δ3,M3,e2.trans f1,f2,f3,f4⟩
 | dyn n=>
   refine⟨λi m σ H=>∃ρ' δ' M',Ext ρ1 H1 ρ' H/\Ev X.mg ρ' H σ δ'/\J X.mg ρ' M' H/\bh X.mg E D ρ' H (xu fg fb n m i δ') M',⟨N,ρ1,δ,M1,.refl,ev.mono e1,j1,g2⟩,?_⟩
   rintro i m σ2 H2 ⟨ρ2,δ2,M2,e2,ev2,j2,g3⟩;cases m with
   |zero=>obtain⟨r,e,_⟩:=g3;cases e
   | succ m=>
     obtain⟨o,eo,g4⟩:=bh.rdb g3;cases o with
     |none=>exact .inl ⟨iok.stop i ρ2 H2 M2 e2.kp j2 eo,bh.pure (a:=.nx δ2) g4 ρ2 H2 σ2 .refl j2 ev2⟩
     |some d=>
       obtain⟨go,yl⟩:=iok.item i ρ2 H2 M2 d e2.kp j2 eo;refine .inr ⟨go,λσ' H'=>∃ρ' δ' M',Ext ρ1 H1 ρ' H'/\Ev X.mg ρ' H' σ' δ'/\J X.mg ρ' M' H'/\bh X.mg E D ρ' H' (xu fg fb n m (i+1) δ') M',λσ' H' z=>⟨m,VL _,z⟩,λx H' y=>?_⟩
       obtain⟨x1,x2,x3⟩:=yl x H' y;exact xx ev2 x1 x2 x3 g4 λρ3 δ3 M3 σ3 H3 f1 f2 f3 f4=>⟨ρ3,δ3,M3,e2.trans f1,f2,f3,f4⟩⟩
def gZ(c:aa->DM Bool)(fb:aa->DM Fl):Nat->aa->DM Fl
 |0,_=>stuck
 | k + 1,δ=>c δ >>= λb=>if b then (fb δ >>= λr=>match r with
     |.nx δ2=>gZ c fb k δ2
     |.ct δ2=>gZ c fb k δ2
     |.bk δ2=>pure (.nx δ2)
     |.rt d=>pure (.rt d)) else pure (.nx δ)
def w5(N:Nat)(hp:PassesOwn (model X.prog X.w) X.A X.env X.xe)(hc:DT X E c fc)(hb:DSs X E body fb):DS X E (.While c body [] pos) (gZ fc fb N):=⟨PS.mono (L2.ps_while hp hc.h hb.h) λD σ H h=>by
 obtain⟨ρ,δ,M,ev,j,g1⟩:=h;refine⟨λm σ H=>∃ρ' δ' M',Ev X.mg ρ' H σ δ'/\J X.mg ρ' M' H/\bh X.mg E D ρ' H (gZ fc fb m δ') M',⟨N,ρ,δ,M,ev,j,g1⟩,?_⟩
 rintro m σ2 H2 ⟨ρ2,δ2,M2,ev2,j2,g3⟩;cases m with
 |zero=>obtain⟨r,e,_⟩:=g3;cases e
 | succ m=>
   refine⟨ρ2,δ2,M2,ev2,j2,bh.bind g3 λρ3 H3 M3 b b' e3 j3 cb g4=>?_⟩
   have cb:b=b':=cb;subst cb;cases b with
   |true=>
     refine iteT ⟨λσ' H'=>∃ρ' δ' M',Ev X.mg ρ' H' σ' δ'/\J X.mg ρ' M' H'/\bh X.mg E D ρ' H' (gZ fc fb m δ') M',λσ' H' z=>⟨m,VL _,z⟩,ρ3,δ2,M3,ev2.mono e3,j3,?_⟩
     refine bh.seq g4 (λδ' ρ4 H4 M4 σ4 e4 j4 ev4 g5=>⟨ρ4,δ',M4,ev4,j4,g5⟩) (λδ' ρ4 H4 M4 σ4 e4 j4 ev4 g5=>?_) (λδ' ρ4 H4 M4 σ4 e4 j4 ev4 g5=>⟨ρ4,δ',M4,ev4,j4,g5⟩) (λd' ρ4 H4 M4 v e4 j4 c4 g5=>?_)
     ·exact bh.pure (a:=.nx δ') g5 ρ4 H4 σ4 .refl j4 ev4
     ·exact bh.pure (a:=.rt d') g5 ρ4 H4 v .refl j4 c4
   |false=>exact iteF (bh.pure (a:=.nx δ2) g4 ρ3 H3 σ2 .refl j3 (ev2.mono e3))⟩
def yJ(mg:Str->Option Value)(F:List D->DM D):Sp:=λvs H Q E=>∃ρ M ds,Cvs mg ρ H vs ds/\J mg ρ M H/\Go mg E (Cv mg) Q ρ H (F ds) M
structure DefD(P:Program)(w:World)(K:PySem.W.Frag)(mg:Str->Option Value)(base:Heap)(k:Nat)(x:Str)(ps:List Str)(F:List D->DM D):Prop where
 h:DefC P w K mg base k x ps (yJ mg F)
def b7(n:Nat)(ds:List D):aa:=ds.map some++List.replicate (n-ds.length) none
def aG(p n:Nat)(fb:aa->DM Fl)(ds:List D):DM D:=if ds.length=p then fb (b7 n ds)>>=λr=>match r with
 |.nx _=>pure .non
 |.rt d=>pure d
 |_=>stuck else stuck
def eX(c:Cvs mg ρ H vs ds):Ev mg ρ H (L2.start N vs) (b7 N.length ds):=by
 unfold L2.start b7;refine⟨by simp[c.len],λi d q=>?_⟩
 by_cases hi:i<ds.length
 ·rw[Uu (by rw[UV];exact hi),UG]at q
  obtain⟨d',h1,h2⟩:=Up.mp q;cases h2;obtain⟨v,hv,cv⟩:=c.get h1;exact⟨v,by rw[Uu (by rw[UV,c.len];exact hi),UG,hv];rfl,cv⟩
 ·rw[Vi (by rw[UV];lia),VR]at q
  split at q<;>cases q
section
variable{P:Program}{w:World}{K:PySem.W.Frag}{mg:Str->Option Value}{base:Heap}{k:Nat}{x:Str}{N ps:List Str}{st:Stmt}
set_option tactic.hygienic true in
theorem bh.aG(g:Go mg E (Cv mg) Q ρ H (L3.aG p n fb ds) M):ds.length=p/\bh mg E { nx:=λz H'=>Q .non H',rt:=Q } ρ H (fb (b7 n ds)) M:=by
 obtain⟨r,e,p⟩:=g;unfold L3.aG at e;split at e;rotate_left
 ·cases e
 rename_i hl;refine⟨hl,?_⟩;have e:DM.bind _ _ M=some r:=e;unfold DM.bind at e;split at e
 ·cases e
 ·rename_i c M' em;cases e;exact⟨_,em,p⟩
 ·rename_i a M' em;refine⟨_,em,?_⟩;cases a with
  |nx δ'=>cases e;exact λρ1 H1 b x j c=>p ρ1 H1 .non x j .non
  |rt d=>cases e;exact λρ1 H1 b x j c=>p ρ1 H1 b x j c
  |bk δ'=>cases e
  |ct δ'=>cases e
def DefAt.okD(D:DefAt K mg x st)(S:FnScope N ps (defScope st))(hb:∀ (kV doc pm:Value) (an:Option Addr) (cdv ct:Value) (us:List Value),us.length=ps.length->bindArgs (PySem.W.fnOf x x (defArgs st) (defBody st) (defScope st) .none kV doc pm an cdv ct) ⟨us,[]⟩=pure (ps.zip us))
  (hbody:∀(f:Addr) (cdv:Value) (A:Around) (outer:List Env) (s:Shared) (H:Hp) (E:XK),Room k (A.deeper (envOfC x (defScope st) s.heap.objs.size f cdv))->
    DSs (aH P w K mg base N x (defScope st) f cdv A outer s H E) E (defBody st) fb):DefD P w K mg base (k+1) x ps (aG ps.length N.length fb):=⟨by
 refine D.okE S hb (λvs H Q E h=>?_) λf cdv A outer s H vs Q E hr h=>?_
 ·obtain⟨ρ,M,ds,c,j,g⟩:=h;rw[c.len];exact (bh.aG g).1
 obtain⟨ρ,M,ds,c,j,g⟩:=h;exact⟨_,(hbody f cdv A outer s H E hr).h,ρ,_,M,eX c,j,(bh.aG g).2⟩⟩
def DefAt.okN{F:List D->DM D}{fb:Nat->aa->DM Fl}(D:DefAt K mg x st)(S:FnScope N ps (defScope st))(hb:∀ (kV doc pm:Value) (an:Option Addr) (cdv ct:Value) (us:List Value),us.length=ps.length->bindArgs (PySem.W.fnOf x x (defArgs st) (defBody st) (defScope st) .none kV doc pm an cdv ct) ⟨us,[]⟩=pure (ps.zip us))
  (hf:∀ds M r,F ds M=some r->∃n,aG ps.length N.length (fb n) ds M=some r)
  (hbody:∀(n:Nat) (f:Addr) (cdv:Value) (A:Around) (outer:List Env) (s:Shared) (H:Hp) (E:XK),Room k (A.deeper (envOfC x (defScope st) s.heap.objs.size f cdv))->
    DSs (aH P w K mg base N x (defScope st) f cdv A outer s H E) E (defBody st) (fb n)):DefD P w K mg base (k+1) x ps F:=⟨by
 refine D.okE S hb (λvs H Q E h=>?_) λf cdv A outer s H vs Q E hr h=>?_
 ·obtain⟨ρ,M,ds,c,j,r,e,p⟩:=h;obtain⟨n,e2⟩:=hf ds M r e;rw[c.len];exact (bh.aG ⟨r,e2,p⟩).1
 obtain⟨ρ,M,ds,c,j,r,e,p⟩:=h;obtain⟨n,e2⟩:=hf ds M r e;exact⟨_,(hbody n f cdv A outer s H E hr).h,ρ,_,M,eX c,j,(bh.aG ⟨r,e2,p⟩).2⟩⟩
end
mutual
inductive Fz(M:Mo)(k:Nat):D->D->Prop
 |non:Fz M k .non .non
 |bl (b:Bool):Fz M k (.bl b) (.bl b)
 |int (i:Int):Fz M k (.int i) (.int i)
 |str (x:Str):Fz M k (.str x) (.str x)
 |tup {l l':List D}:Fzs M k l l'->Fz M k (.tup l) (.tup l')
 |lst {l l':List D}:Fzs M k l l'->Fz M k (.lst l) (.lst l')
 |dic {ks:List Key}{l l':List D}:Fzs M k l l'->Fz M k (.dic ks l) (.dic ks l')
 |obj {c:Str}{ns:List Str}{l l':List D}:Fzs M k l l'->Fz M k (.obj c ns l) (.obj c ns l')
 |scr (ns:List Int):Fz M k (.scr ns) (.scr ns)
 |old {n:Nat}:n<k->Fz M k (.ref n) (.ref n)
 |new {n:Nat}{l l':List D}:k<=n->M[n]?=some (.lst l)->Fzs M k l l'->Fz M k (.ref n) (.lst l')
 |cls (c:Str):Fz M k (.cls c) (.cls c)
 |ty (c:String):Fz M k (.ty c) (.ty c)
 |exn (a:Addr):Fz M k (.exn a) (.exn a)
 |exf (a d:Addr) (fs:List (Str×Int)):Fz M k (.exf a d fs) (.exf a d fs)
inductive Fzs(M:Mo)(k:Nat):List D->List D->Prop
 |nil:Fzs M k [] []
 |cons {d d':D}{l l':List D}:Fz M k d d'->Fzs M k l l'->Fzs M k (d::l) (d'::l')
end
def S6(M:Mo)(k:Nat):DO->DO->Prop
 |.lst l,.lst l'=>Fzs M k l l'
 |.dic ks l,.dic ks' l'=>ks=ks'/\Fzs M k l l'
 |.ins c ns l,.ins c' ns' l'=>c=c'/\ns=ns'/\Fzs M k l l'
 |.pdc ks l,.pdc ks' l'=>ks=ks'/\Fzs M k l l'
 |_,_=>False
theorem zy{M:Mo}{k:Nat}:∀l:List Int,Fzs M k (l.map D.int) (l.map D.int)
 |[]=>.nil
 |i::l=>.cons (.int i) (zy l)
theorem JN{M:Mo}{k:Nat}:∀ks:List NT,Fzs M k (ks.map Pn) (ks.map Pn)
 |[]=>.nil
 |p::l=>.cons (.tup (.cons (.int _) (.cons (.tup (zy _)) .nil))) (JN l)
def Rz(M':Mo)(k:Nat)(M1:Mo):Prop:=M1.length=k/\∀(n:Nat) o,M1[n]?=some o->∃o',M'[n]?=some o'/\S6 M' k o' o
section
variable{mg:Str->Option Value}{ρ ρ':Rh}{H:Hp}{M:Mo}{k:Nat}
structure Sub(ρ ρ':Rh)(k:Nat):Prop where
 st:∃τ,ρ'.st=ρ.st++τ
 vo:ρ'.vo=ρ.vo
 len:ρ.st.length=k
def Sub.out(s:Sub ρ ρ' k){a:Addr}(h:a∉ρ'):a∉ρ:=λz=>by
 obtain⟨τ,e⟩:=s.st;rcases z with z | z
 ·exact h (.inl (by rw[e];exact Vp _ z))
 ·exact h (.inr (by rw[s.vo];exact z))
def SX(mg:Str->Option Value)(ρ:Rh)(H:Hp)(v:V)(d:D):Prop:=D.casesOn (motive_1:=λz=>Prop) d (v=.non) (λb=>v=.bl b) (λi=>v=.int i) (λx=>v=.str x) (λds=>∃a xs,v=.ref a/\a∉ρ/\H a=some (.tup xs)/\Cvs mg ρ H xs ds) (λds=>∃a xs,v=.ref a/\a∉ρ/\H a=some (.lst xs)/\Cvs mg ρ H xs ds)
 (λks ds=>∃a xs,v=.ref a/\a∉ρ/\H a=some (.dK (ks.zip xs))/\ks.length=xs.length/\Cvs mg ρ H xs ds) (λc ns ds=>∃a C dx xs,v=.ref a/\a∉ρ/\mg c=some (.ref C)/\H a=some (.ins C dx (ns.zip xs))/\ns.length=xs.length/\Cvs mg ρ H xs ds)
 (λns=>∃a,v=.ref a/\a∉ρ/\Rd H a (.lst (ns.map V.int))) (λn=>∃a,v=.ref a/\ρ.st[n]?=some a) (λc=>∃C,v=.ref C/\mg c=some (.ref C)) (λt=>v=.ty t) (λa=>v=.ref a) (λa d fs=>v=.ref a/\d∉ρ/\H d=some (.xd (fs.map λp=>(p.1,.int p.2))))
set_option tactic.hygienic true in
def Cv.inv{v:V}{d:D}(h:Cv mg ρ H v d):SX mg ρ H v d:=by
 cases h
 case non=>exact rfl
 case bl=>exact rfl
 case int=>exact rfl
 case str=>exact rfl
 case tup n h c=>exact⟨_,_,rfl,n,h,c⟩
 case lst n h c=>exact⟨_,_,rfl,n,h,c⟩
 case dic n h l c=>exact⟨_,_,rfl,n,h,l,c⟩
 case obj n m h l c=>exact⟨_,_,_,_,rfl,n,m,h,l,c⟩
 case scr n h=>exact⟨_,rfl,n,h⟩
 case ref h=>exact⟨_,rfl,h⟩
 case cls h=>exact⟨_,rfl,h⟩
 case ty=>exact rfl
 case exn=>exact rfl
 case exf n h=>exact⟨rfl,n,h⟩
def Cvs.inv{v:V}{d:D}{vs:List V}{l:List D}(h:Cvs mg ρ H vs (d::l)):∃v vs',vs=v::vs'/\Cv mg ρ H v d/\Cvs mg ρ H vs' l:=by cases h with | cons a b=>exact⟨_,_,rfl,a,b⟩
def Cvs.inv0{vs:List V}(h:Cvs mg ρ H vs []):vs=[]:=by cases h;rfl
def Cvs.freeze(s:Sub ρ ρ' k)(j:J mg ρ' M H){d d':List D}{v:List V}(f:Fzs M k d d'):Cvs mg ρ' H v d->Cvs mg ρ H v d':=
 Fzs.rec (motive_1:=λd d' y=>∀ v,Cv mg ρ' H v d->Cv mg ρ H v d') (motive_2:=λd d' y=>∀ v,Cvs mg ρ' H v d->Cvs mg ρ H v d')
  (λy c=>Eq.symm (a:=_) (Cv.inv c) ▸ .non) (λb y c=>Eq.symm (a:=_) (Cv.inv c) ▸ .bl b) (λb y c=>Eq.symm (a:=_) (Cv.inv c) ▸ .int b) (λb y c=>Eq.symm (a:=_) (Cv.inv c) ▸ .str b)
  (λy f v c=>let ⟨_,_,e,n,h,c⟩:=Cv.inv c;e ▸ .tup (s.out n) h (f _ c))
  (λy f v c=>let ⟨_,_,e,n,h,c⟩:=Cv.inv c;e ▸ .lst (s.out n) h (f _ c))
  (λy f v c=>let ⟨_,_,e,n,h,l,c⟩:=Cv.inv c;e ▸ .dic (s.out n) h l (f _ c))
  (λy f v c=>let ⟨_,_,_,_,e,n,m,h,l,c⟩:=Cv.inv c;e ▸ .obj (s.out n) m h l (f _ c))
  (λy v c=>let ⟨_,e,n,h⟩:=Cv.inv c;e ▸ .scr (s.out n) h)
  (λhn v c=>by
    obtain⟨a,rfl,h⟩:=Cv.inv c;obtain⟨τ,e⟩:=s.st;rw[e,Uu (by rw[s.len];exact hn)]at h
    exact .ref h)
  (λhn hm y f v c=>by
    obtain⟨a,rfl,h⟩:=Cv.inv c;obtain⟨xs,hx,c⟩:=j.obj _ _ _ h hm;refine .lst (λz=>?_) hx (f _ c)
    rcases z with z | z
    ·obtain⟨m,hm'⟩:=Xh.mp z;obtain⟨τ,e⟩:=s.st;have hl:=(Uj.mp hm').1;have h2:ρ'.st[m]?=some a:=by rw[e,Uu hl];exact hm'
     exact VP.mpr hn (j.inj h h2 ▸ s.len ▸ hl)
    ·exact (j.vol a (by rw[s.vo];exact z)).1 (Vh h))
  (λy v c=>let ⟨_,e,h⟩:=Cv.inv c;e ▸ .cls h) (λb y c=>Eq.symm (a:=_) (Cv.inv c) ▸ .ty b) (λb y c=>Eq.symm (a:=_) (Cv.inv c) ▸ .exn b) (λy y y v c=>let ⟨e,n,h⟩:=Cv.inv c;Eq.symm (a:=_) e ▸ .exf (s.out n) h)
  (λv c=>Cvs.inv0 c ▸ .nil) (λy y f g v c=>let ⟨_,_,e,a,b⟩:=Cvs.inv (v:=.non) c;e ▸ .cons (f _ a) (g _ b)) f v
theorem J.freeze{M1:Mo}(s:Sub ρ ρ' k)(j:J mg ρ' M H)(hk:ρ.st.length=M1.length)(f:Rz M k M1):J mg ρ M1 H:=by
 obtain⟨τ,e⟩:=s.st;refine⟨hk,?_,λn a o h1 h2=>?_,λa ha=>?_⟩
 ·have:=j.nd;rw[e]at this;exact (Yg.mp this).1
 ·obtain ⟨o',h3,fo⟩:=f.2 n o h2;have hl:=(Uj.mp h1).1;have c:=j.obj n a o' (by rw[e,Uu hl];exact h1) h3
  cases o' with
  |lst l=>cases o with
    |lst l'=>obtain⟨xs,hx,c⟩:=c;exact⟨xs,hx,Cvs.freeze s j fo c⟩
    |dic _ _=>exact (show False from fo).elim
    |ins _ _ _=>exact (show False from fo).elim
    |pdc _ _=>exact (show False from fo).elim
  |dic ks l=>cases o with
    |lst l'=>exact (show False from fo).elim
    |dic ks' l'=>obtain⟨xs,hx,q,c⟩:=c;obtain⟨rfl,fo⟩:=fo;exact⟨xs,hx,q,Cvs.freeze s j fo c⟩
    |ins _ _ _=>exact (show False from fo).elim
    |pdc _ _=>exact (show False from fo).elim
  |ins c' ns l=>cases o with
    |lst l'=>exact (show False from fo).elim
    |dic _ _=>exact (show False from fo).elim
    |ins c'' ns' l'=>obtain⟨C,dx,xs,m,hx,q,c⟩:=c;obtain⟨rfl,rfl,fo⟩:=fo;exact⟨C,dx,xs,m,hx,q,Cvs.freeze s j fo c⟩
    |pdc _ _=>exact (show False from fo).elim
  |pdc ks l=>cases o with
    |lst l'=>exact (show False from fo).elim
    |dic _ _=>exact (show False from fo).elim
    |ins _ _ _=>exact (show False from fo).elim
    |pdc ks' l'=>obtain⟨xs,hx,q,n,c,d⟩:=c;obtain⟨rfl,fo⟩:=fo;exact⟨xs,hx,q,n,Cvs.freeze s j (JN ks) c,Cvs.freeze s j fo d⟩
 ·obtain⟨x,xs,h⟩:=j.vol a (by rw[s.vo];exact ha)
  exact⟨λz=>x (by rw[e];exact Vp _ z),xs,h⟩
end
section
variable{X:Cx}{E:XK}{j k:Nat}{ps:List Str}{F:List D->DM D}{x:Str}{p pos:Pos}{e:Expr}{es:List Expr}{fs:aa->DM (List D)}
def aD(D:DefD X.prog X.w X.K X.mg X.base j x ps F)(hr:Room k X.A)(hx:Passes (bD X.prog X.w) X E)(ha:DA X E (e::es) fs)(hjk:j<=k:=by decide)(hg:Gl X x:=by rfl)(hdb:(x==("__debug__":Str))=false:=by decide)
  (he:notStar e=true:=by rfl) (hpl:(backTo pos (starEach es X.env)).any (·.1)=false:=by rfl) :
  DE X E (.Call (.Name x p) (e::es) [] pos) (λδ=>fs δ>>=F):=⟨PE.mono (Gs D.h hr hx ha.h hjk hg hdb he hpl) λσ H Q h=>by
 obtain⟨ρ,δ,M,ev,j,g1⟩:=h;refine⟨ρ,δ,M,ev,j,g1.bind λρ1 H1 M1 xs dxs e1 j1 c1 g2=>?_⟩
 rw[V6];exact⟨ρ1,M1,dxs,c1,j1,g2⟩⟩
def rC(mg:Str->Option Value)(E:XK)(g:List D->DM D):List V->Hp->VK->Prop:=λvs H Q=>∃ρ M ds,J mg ρ M H/\Cvs mg ρ H vs ds/\Go mg E (Cv mg) Q ρ H (g ds) M
def CallD(X:Cx)(E:XK)(f:Value)(g:List D->DM D):Prop:=CallR X f (rC X.mg E g)
def aU{id:String}{g:List D->DM D}(hc:CallD X E (.builtin id) g)(hm:X.mg x=none)(ha:DA X E (e::es) fs)(hg:Gl X x:=by rfl)(hv:bootBuiltins x=some (.builtin id):=by decide +kernel)(hn:x≠"__name__":=by decide)(hdb:(x==("__debug__":Str))=false:=by decide)
  (he:notStar e=true:=by rfl) (hpl:(backTo pos (starEach es X.env)).any (·.1)=false:=by rfl) :
  DE X E (.Call (.Name x p) (e::es) [] pos) (λδ=>fs δ>>=g):=⟨PE.mono (QW hc hm ha.h hg hv hn hdb he hpl) λσ H Q h=>by
 obtain⟨ρ,δ,M,ev,j,g1⟩:=h;exact⟨ρ,δ,M,ev,j,g1.bind λρ1 H1 M1 xs dxs e1 j1 c1 g2=>⟨ρ1,M1,dxs,j1,c1,g2⟩⟩⟩
def b8{T:String}{g:List D->DM D}(hc:CallD X E (.type T) g)(hm:X.mg x=none)(ha:DA X E (e::es) fs)(hg:Gl X x:=by rfl)(hv:bootBuiltins x=some (.type T):=by decide +kernel)(hn:x≠"__name__":=by decide)(hdb:(x==("__debug__":Str))=false:=by decide)
  (he:notStar e=true:=by rfl) (hpl:(backTo pos (starEach es X.env)).any (·.1)=false:=by rfl) :
  DE X E (.Call (.Name x p) (e::es) [] pos) (λδ=>fs δ>>=g):=⟨PE.mono (QZ hc hm ha.h hg hv hn hdb he hpl) λσ H Q h=>by
 obtain⟨ρ,δ,M,ev,j,g1⟩:=h;exact⟨ρ,δ,M,ev,j,g1.bind λρ1 H1 M1 xs dxs e1 j1 c1 g2=>⟨ρ1,M1,dxs,j1,c1,g2⟩⟩⟩
def CallD.of{f:Value}{r:List V->Hp->VK->Prop}{g:List D->Mo->Option D}(hr:CallR X f r)
  (h:∀vs H Q ρ M ds d,J X.mg ρ M H->Cvs X.mg ρ H vs ds->g ds M=some d->(∀ρ' H' v,Ext ρ H ρ' H'->J X.mg ρ' M H'->Cv X.mg ρ' H' v d->Q v H')->r vs H Q):CallD X E f (λl=>rd (g l)):=by
 intro YT s σ H vs us Q I rs q;obtain⟨ρ,M,ds,j,c,go⟩:=q;obtain⟨d,e,p⟩:=go.rd;exact hr YT s σ H vs us Q I rs (h vs H Q ρ M ds d j c e p)
end
section
variable{X:Cx}{E:XK}{mg:Str->Option Value}{ρ:Rh}{H:Hp}{M:Mo}
def Cvs.one(c:Cvs mg ρ H vs [d]):∃v,vs=[v]/\Cv mg ρ H v d:=by
 cases c with
 |cons c c2=>cases c2;exact⟨_,rfl,c⟩
def Cvs.two(c:Cvs mg ρ H vs [d,e]):∃ v w,vs=[v,w]/\Cv mg ρ H v d/\Cv mg ρ H w e:=by
 cases c with
 |cons c c2=>obtain⟨w,rfl,k⟩:=c2.one;exact⟨_,_,rfl,c,k⟩
def kj:List D->Mo->Option D
 |[.tup l],_=>some (.int l.length)
 |[.scr l],_=>some (.int l.length)
 |[.str x],_=>if x.length<=sizeLine then some (.int x.length) else none
 |[d],M=>(aR d M).map λl=>.int l.length
 |_,_=>none
set_option tactic.hygienic true in
def call_lenD:CallD X E (.builtin "len") (λl=>rd (kj l)):=CallD.of (call_len_seq.or call_len_str) λvs H Q ρ M ds d j c e q=>by
 unfold kj at e;split at e
 ·cases e;obtain⟨v,rfl,k⟩:=c.one;replace c:=k;cases c with | tup n a c=>
  exact .inl ⟨_,_,rfl,.inr (SqT.of a),by rw[c.len];exact q ρ H _ .refl j (.int _)⟩
 ·cases e;obtain⟨v,rfl,k⟩:=c.one;replace c:=k;cases c with | scr n a=>
  exact .inl ⟨_,_,rfl,.inl (.inl a),by rw[UV];exact q ρ H _ .refl j (.int _)⟩
 ·split at e
  ·cases e;obtain⟨v,rfl,k⟩:=c.one;replace c:=k;cases c;exact .inr ⟨_,rfl,‹_›,q ρ H _ .refl j (.int _)⟩
  ·cases e
 ·obtain⟨l,h1,rfl⟩:=Up.mp e;obtain⟨v,rfl,k⟩:=c.one;replace c:=k;obtain⟨a,xs,rfl,ha,c⟩:=cC j c h1;exact .inl ⟨_,_,rfl,.inl (SqL.of ha),by rw[c.len];exact q ρ H _ .refl j (.int _)⟩
 ·cases e
def ut:List D->Mo->Option D
 |[.int i],_=>some (.int (if i<0 then -i else i))
 |_,_=>none
def vp:CallD X E (.builtin "abs") (λl=>rd (ut l)):=CallD.of call_abs λvs H Q ρ M ds d j c e q=>by
 unfold ut at e;split at e
 ·cases e;obtain⟨v,rfl,k⟩:=c.one;replace c:=k;cases c;exact⟨_,rfl,q ρ H _ .refl j (.int _)⟩
 ·cases e
def BR:List D->Mo->Option D
 |[.int i,.int j],_=>some (.int (if j > i then j else i))
 |_,_=>none
def BV:List D->Mo->Option D
 |[.int i,.int j],_=>some (.int (if j<i then j else i))
 |_,_=>none
def Bg(hc:X.calm=true):CallD X E (.builtin "max") (λl=>rd (BR l)):=CallD.of (call_max2 hc) λvs H Q ρ M ds d j c e q=>by
 unfold BR at e;split at e
 ·cases e;obtain⟨v,w,rfl,k,c2⟩:=c.two;replace c:=k;cases c;cases c2;exact⟨_,_,rfl,q ρ H _ .refl j (.int _)⟩
 ·cases e
def Bh(hc:X.calm=true):CallD X E (.builtin "min") (λl=>rd (BV l)):=CallD.of (call_min2 hc) λvs H Q ρ M ds d j c e q=>by
 unfold BV at e;split at e
 ·cases e;obtain⟨v,w,rfl,k,c2⟩:=c.two;replace c:=k;cases c;cases c2;exact⟨_,_,rfl,q ρ H _ .refl j (.int _)⟩
 ·cases e
def mQ:D->Mo->Option (List D)
 |.tup l,_=>some l
 |d,M=>aR d M
def Hb(j:J mg ρ M H)(c:Cv mg ρ H x d)(e:mQ d M=some l):∃a xs,x=.ref a/\(H a=some (.lst xs)\/H a=some (.tup xs))/\Cvs mg ρ H xs l:=by
 unfold mQ at e;split at e
 ·cases e;cases c with | tup n a c=>exact⟨_,_,rfl,.inr a,c⟩
 ·obtain⟨a,xs,rfl,ha,c⟩:=cC j c e;exact⟨a,xs,rfl,.inl ha,c⟩
def intsOf:List D->Option (List Int)
 |[]=>some []
 |.int i::l=>(intsOf l).map (i::·)
 |_=>none
theorem ints_of:∀ {xs:List V}{l:List D}{ns:List Int},Cvs mg ρ H xs l->intsOf l=some ns->xs=ns.map V.int
 |_,_,_,.nil,e=>by cases e;rfl
 | _,_,_,.cons (d:=d) c cs,e=>by
   cases d with
   |int i=>obtain⟨ms,h1,rfl⟩:=Up.mp e;cases c;rw[ints_of cs h1];rfl
   |_=>cases e
def Ea(hh:X.A.handled=none):CallR X (.builtin "sum") (λvs H Q=>∃ (l:Addr) (ns:List Int),vs=[.ref l]/\(H l=some (.lst (ns.map V.int))\/H l=some (.tup (ns.map V.int)))/\Q (.int ns.sum) H):=by
 intro YT s σ H vs us Q I r h;obtain⟨l,ns,rfl,hH,q⟩:=h;obtain⟨u,rfl,ru⟩:=vals1 r;cases ru;have fin:∀(its:List Value),IntsAre its ns->∃xs,its.toArray=intItems xs/\preSum (numAt xs) xs.size=ns.sum:=λits hi=>by
  obtain⟨xs,hx⟩:=hi.allInts.items;have hn:numsOf its.toArray.toList=ns:=by rw[show its.toArray.toList=its from rfl,hi.numsOf]
  rw[hx]at hn;rw[PySem.nums_intItems]at hn;exact⟨xs,hx,by rw[PySem.preSum_eq,YM (by simp),hn]⟩
 rcases hH with hH | hH
 ·obtain ⟨its,rv,p,hz⟩:=I.list (SqL.of (K:=X.K) hH);obtain⟨xs,hx,hs⟩:=fin its (intsAre_of rv);have hl:=p.isList;rw[hx]at hl;obtain⟨o,ho,hc,n,hd⟩:=id hl;have hne:l≠s.heap.objs.size:=Ut (Uk ho);have hsz:(intItems xs).size=xs.size:=by simp[intItems]
  have W:=(Walks.list (prog:=X.prog) (w:=X.w) (A:=X.A.in1) hh s.heap.objs.size l hne (intItems xs)).toS;rw[hsz]at W;refine call_sum_walkAnyS (We hl ?_);refine⟨s.heap.objs.size,_,_,_,_,_,_,numAt xs,rfl,W,⟨⟨_,Ul _ rfl,rfl,rfl⟩,hl.at λo e=>Uh _ e⟩,λb hb=>?_,λi v hP=>intItems_at hP,λs' t' hm=>?_⟩
  ·rcases Uw.mp hb with rfl | hb
   ·exact Uk (Ul _ rfl)
   ·obtain rfl:=U7.mp hb;exact Uk (Uh _ ho)
  ·obtain⟨h',g',d',tk',os'⟩:=s';have e1:g'=s.gens:=hm.gens;have e2:d'=s.drawn:=hm.drawn;have e3:os'=s.os:=hm.os;subst e1 e2 e3;refine⟨.int ns.sum,H,I.kept (h':=h') (t':=tk') λb o e=>hm.heap b o (λhb=>absurd (Uk e) ((U7.mp hb) ▸ V1 _)) (Uh _ e),⟨t',?_⟩,q⟩
   rw[<-hs]
 ·obtain⟨its,rv,p,hz⟩:=I.tuple (SqT.of (K:=X.K) hH);obtain⟨xs,hx,hs⟩:=fin its (intsAre_of rv);rw[hx]at p;exact PySem.W.ktm_sumG hh (show s.heap.IsTuple l _ from p) λh' tk t' hk=>⟨.int ns.sum,H,I.kept hk,⟨t',by rw[<-hs]⟩,q⟩
def yK:List D->Mo->Option D
 |[d],M=>(mQ d M).bind λl=>(intsOf l).map λns=>.int ns.sum
 |_,_=>none
def fB(hh:X.A.handled=none):CallD X E (.builtin "sum") (λl=>rd (yK l)):=CallD.of (Ea hh) λvs H Q ρ M ds d j c e q=>by
 unfold yK at e;split at e
 ·obtain⟨l,h1,e1⟩:=UT.mp e;obtain⟨ns,h2,rfl⟩:=Up.mp e1;obtain⟨v,rfl,k⟩:=c.one;replace c:=k;obtain⟨a,xs,rfl,ha,c⟩:=Hb j c h1;have:=ints_of c h2;subst this;exact⟨_,ns,rfl,ha,q ρ H _ .refl j (.int _)⟩
 ·cases e
def Jz:D->Option Bool
 |.bl b=>some b
 |.int i=>some (i != 0)
 |_=>none
def gj:List D->Option (List Bool)
 |[]=>some []
 |d::l=>match Jz d,gj l with
   |some b,some bs=>some (b::bs)
   |_,_=>none
set_option tactic.hygienic true in
theorem uX:∀ {xs:List V}{l:List D}{bs:List Bool},Cvs mg ρ H xs l->gj l=some bs->(∀ x∈xs,scS x=true)/\xs.map gh=bs
 |_,_,_,.nil,e=>by cases e;exact⟨(λx hx=>nomatch hx),rfl⟩
 | _,_,_,.cons (d:=d) (ds:=ds) (vs:=vs) c cs,e=>by
   unfold gj at e;split at e
   ·rename_i b bs h1 h2;cases e;obtain⟨a1,a2⟩:=uX cs h2;cases c with
    |bl b'=>cases h1;exact⟨λx hx=>by rcases Uw.mp hx with rfl | hx;rfl;exact a1 x hx,by rw[Vo,a2];rfl⟩
    |int b'=>cases h1;exact⟨λx hx=>by rcases Uw.mp hx with rfl | hx;rfl;exact a1 x hx,by rw[Vo,a2];rfl⟩
    |_=>cases h1
   ·cases e
def uv:List D->Mo->Option D
 |[d],M=>(aR d M).bind λl=>(gj l).map λbs=>.bl (bs.all id)
 |_,_=>none
def Ax:List D->Mo->Option D
 |[.tup l],_=>(gj l).map λbs=>.bl (bs.any id)
 |_,_=>none
def oF(hh:X.A.handled=none):CallD X E (.builtin "all") (λl=>rd (uv l)):=CallD.of (HD hh) λvs H Q ρ M ds d j c e q=>by
 unfold uv at e;split at e
 ·obtain⟨l,h1,e1⟩:=UT.mp e;obtain⟨ns,h2,rfl⟩:=Up.mp e1;obtain⟨v,rfl,k⟩:=c.one;replace c:=k;obtain⟨a,xs,rfl,ha,c⟩:=cC j c h1;obtain⟨t1,t2⟩:=uX c h2;subst t2;exact⟨_,xs,rfl,ha,t1,by have z:=q ρ H _ .refl j (.bl _);rw[List.all_map]at z;exact z⟩
 ·cases e
def Dz(hh:X.A.handled=none):CallD X E (.builtin "any") (λl=>rd (Ax l)):=CallD.of (HF hh) λvs H Q ρ M ds d j c e q=>by
 unfold Ax at e;split at e
 ·obtain⟨ns,h2,rfl⟩:=Up.mp e;obtain⟨v,rfl,k⟩:=c.one;replace c:=k;cases c with | tup n ha c=>
  obtain⟨t1,t2⟩:=uX c h2;subst t2;exact⟨_,_,rfl,ha,t1,by have z:=q ρ H _ .refl j (.bl _);rw[List.any_map]at z;exact z⟩
 ·cases e
def pq:List D->Mo->Option D
 |[d],M=>(mQ d M).map .tup
 |_,_=>none
def aN:CallD X E (.type "tuple") (λl=>rd (pq l)):=CallD.of call_tuple_of λvs H Q ρ M ds d j c e q=>by
 unfold pq at e;split at e
 ·obtain⟨l,h1,rfl⟩:=Up.mp e;obtain⟨v,rfl,k⟩:=c.one;replace c:=k;unfold mQ at h1;split at h1
  ·cases h1;cases c with | tup n a c=>
   exact⟨_,_,rfl,.inr ⟨SqT.of a,q ρ H _ .refl j (.tup n a c)⟩⟩
  ·obtain⟨a,xs,rfl,ha,c⟩:=cC j c h1;exact⟨_,_,rfl,.inl ⟨SqL.of ha,λp hp=>q ρ _ _ (.lay hp) (j.lay _ hp) (.tup (j.fresh hp) upd_same (c.mono (.lay hp)))⟩⟩
 ·cases e
def By:List D->Mo->Option (List D)
 |[d],M=>mQ d M
 |_,_=>none
def Bf:CallD X E (.type "list") (λl=>rd (By l)>>=cU):=by
 intro YT s σ H vs us Q I rs q;obtain⟨ρ,M,ds,j,c,go⟩:=q;obtain⟨l,e1,g⟩:=Go.rdb go;unfold By at e1;split at e1
 ·obtain⟨v,rfl,k⟩:=c.one;replace c:=k;obtain⟨a,xs,rfl,ha,c⟩:=Hb j c e1;exact call_list_of (X:=X) YT s σ H _ us Q I rs ⟨_,_,rfl,ha.imp SqL.of SqT.of,λp hp=>(g.cU j c hp).2⟩
 ·cases e1
def Jv(d:D):Option PyData:=match toPy d with
 |some p=>some p
 |none=>j8 d
def vY:List D->Mo->Option D
 |[d],_=>(Jv d).bind λp=>if p.showable&&decide (p.depth<=60)&&decide (cX p<=sizeLine) then some (.str p.shown) else none
 |_,_=>none
set_option tactic.hygienic true in
def cA(hg:X.A.guards=some [])(hu:X.A.units + 64<cLine):CallD X E (.builtin "repr") (λl=>rd (vY l)):=CallD.of (Bj hg hu) λvs H Q ρ M ds d j c e q=>by
 unfold vY at e;split at e
 ·obtain ⟨p,h1,e1⟩:=UT.mp e;split at e1
  ·rename_i hk;cases e1;simp only[Bool.and_eq_true,decide_eq_true_eq]at hk;obtain⟨v,rfl,k⟩:=c.one;replace c:=k;have key:∃f,RepF H f v p:=by
    unfold Jv at h1;split at h1
    ·rename_i h2;cases h1;exact⟨true,c.repF h2⟩
    ·exact⟨false,c.repD h1⟩
   obtain⟨f,rp⟩:=key;exact⟨f,_,p,rfl,rp,hk.1.1,hk.1.2,hk.2,q ρ H _ .refl j (.str _)⟩
  ·cases e1
 ·cases e
def tyOf:D->Mo->Option String
 |.non,_=>some "NoneType"
 |.bl _,_=>some "bool"
 |.int _,_=>some "int"
 |.str _,_=>some "str"
 |.tup _,_=>some "tuple"
 |.lst _,_=>some "list"
 |.scr _,_=>some "list"
 |.dic _ _,_=>some "dict"
 |.ref n,M=>match M[n]? with
   |some (.lst _)=>some "list"
   |some (.dic _ _)=>some "dict"
   |_=>none
 |_,_=>none
set_option tactic.hygienic true in
def Rx{K:PySem.W.Frag}(j:J mg ρ M H){x:V}{d:D}{t:String}(c:Cv mg ρ H x d)(e:tyOf d M=some t):TyOf K H x (.type t):=by
 cases c with
 |non=>cases e;exact .non
 |bl b=>cases e;exact .bl b
 |int b=>cases e;exact .int b
 |str b=>cases e;exact .str b
 |tup n h c=>cases e;exact .tup h
 |lst n h c=>cases e;exact .lst h
 |dic n h l c=>cases e;exact .dK h
 |scr n h=>
   cases e;rcases h with h | ⟨o,h⟩
   ·exact .lst h
   ·exact .frz h
 | ref q=>
   unfold tyOf at e;dsimp only at e;split at e
   ·rename_i l hl;cases e;obtain⟨xs,h,_⟩:=j.obj _ _ _ q hl;exact .lst h
   ·rename_i ks l hl;cases e;obtain⟨xs,h,_⟩:=j.obj _ _ _ q hl;exact .dK h
   ·cases e
 |_=>cases e
def CP(t c:String):Bool:=t==c || (t=="bool"&&c=="int")
def tys:List String:=["NoneType", "bool", "int", "str", "tuple", "list", "dict"]
def kh:List D->Mo->Option D
 |[d,.ty c],M=>(tyOf d M).bind λt=>if tys.contains c then some (.bl (CP t c)) else none
 |_,_=>none
def JC(e:tyOf d M=some t):t∈tys:=by unfold tyOf at e;split at e<;>first | (cases e;decide) | (split at e<;>first | (cases e;decide) | cases e) | cases e
def Om{K:PySem.W.Frag}:∀t∈tys,∀c∈tys,PySem.W.kitOne K (.type t) (.type c)=some (CP t c):=by intro t ht c hc;simp only[tys,List.mem_cons,List.mem_nil_iff,or_false]at ht hc;rcases ht with rfl | rfl | rfl | rfl | rfl | rfl | rfl<;>rcases hc with rfl | rfl | rfl | rfl | rfl | rfl | rfl<;>rfl
set_option tactic.hygienic true in
def cO:CallD X E (.builtin "isinstance") (λl=>rd (kh l)):=CallD.of HH λvs H Q ρ M ds d j c e q=>by
 unfold kh at e;split at e
 ·obtain⟨t,h1,e1⟩:=UT.mp e;split at e1
  ·rename_i hk;cases e1;obtain⟨v,w,rfl,k,c2⟩:=c.two;replace c:=k;cases c2;exact⟨_,_,_,_,rfl,Rx j c h1,Om _ (JC h1) _ (Yp.mp hk),q ρ H _ .refl j (.bl _)⟩
  ·cases e1
 ·cases e
def Dm(X:Cx)(E:XK)(id:String)(g:D->List D->DM D):Prop:=MtR X id (λx vs H Q=>∃ρ M d ds,J X.mg ρ M H/\Cv X.mg ρ H x d/\Cvs X.mg ρ H vs ds/\Go X.mg E (Cv X.mg) Q ρ H (g d ds) M)
def Ay:D->List D->DM D
 |.ref n,[v]=>λM=>match M[n]? with
   |some (.lst l)=>if l.length<sizeLine then some (.ok .non,M.set n (.lst (l++[v]))) else none
   |_=>none
 |_,_=>stuck
set_option tactic.hygienic true in
def uK:Dm X E "list.append" Ay:=by
 intro YT s σ H x xs v us Q I rx rs q;obtain⟨ρ,M,d,ds,j,cx,cs,r,e,p⟩:=q;cases cx with
 | ref hn=>
   cases cs with
   |nil=>cases e
   | cons c cs=>cases cs with
     |cons _ _=>cases e
     | nil=>
       rename_i n a w dw;have e:(match M[n]? with
        |some (.lst l)=>if l.length<sizeLine then some (R.ok .non,M.set n (.lst (l++[dw]))) else none
        |_=>none)=some r:=e
       split at e
       ·rename_i l hl;split at e
        ·cases e;obtain⟨xs,hx,cl⟩:=j.obj _ _ _ hn hl;have x:Ext ρ H ρ (upd H a (.lst (xs++[w]))):=.upd (Vh hn);exact mt_append (X:=X) YT s σ H _ _ v us Q I rx rs ⟨_,_,_,rfl,rfl,hx,by rw[cl.len];assumption,p ρ _ .non x (j.upd hn ⟨_,upd_same,(cl.append (.cons c .nil)).mono x⟩) .non⟩
        ·cases e
       ·cases e
 |_=>cases e
def Jp:D->List D->DM D
 | .ref n,[.int i]=>λM=>match M[n]? with
   | some (.lst l)=>match ixN l.length i with
     |some k=>match l[k]? with
       |some d=>if decide (-(2^63)<=i/\i<2^63) then some (.ok d,M.set n (.lst (l.eraseIdx k))) else none
       |none=>none
     |none=>none
   |_=>none
 |_,_=>stuck
theorem Cvs.erase:∀{vs:List V}{ds:List D} (i:Nat),Cvs mg ρ H vs ds->Cvs mg ρ H (vs.eraseIdx i) (ds.eraseIdx i)
 |_,_,_,.nil=>.nil
 |_,_,0,.cons _ t=>t
 |_,_,i+1,.cons a t=>.cons a (Cvs.erase i t)
set_option tactic.hygienic true in
def Le:Dm X E "list.pop" Jp:=by
 intro YT s σ H x xs v us Q I rx rs q;obtain⟨ρ,M,d,ds,j,cx,cs,r,e,p⟩:=q;cases cx with
 | ref hn=>
   cases cs with
   |nil=>cases e
   | cons c cs=>cases cs with
     |cons _ _=>cases c<;>cases e
     | nil=>cases c with
       | int i=>
         rename_i n a;have e:(match M[n]? with
          | some (.lst l)=>match ixN l.length i with
            |some k=>match l[k]? with
              |some d=>if decide (-(2^63)<=i/\i<2^63) then some (R.ok d,M.set n (.lst (l.eraseIdx k))) else none
              |none=>none
            |none=>none
          |_=>none)=some r:=e
         split at e
         ·rename_i l hl;split at e
          ·rename_i k hk;split at e
           ·rename_i d hd;split at e
            ·rename_i hb;have hb:=VN hb;cases e;obtain⟨xs,hx,cl⟩:=j.obj _ _ _ hn hl;obtain⟨w,hw,cw⟩:=cl.get hd;have x:Ext ρ H ρ (upd H a (.lst (xs.eraseIdx k))):=.upd (Vh hn);exact mt_popAt (X:=X) YT s σ H _ _ v us Q I rx rs ⟨_,_,_,k,w,rfl,rfl,hx,hb.1,hb.2,by rw[cl.len];exact (ixN_seq hk).1,hw,p ρ _ w x (j.upd hn ⟨_,upd_same,(cl.erase k).mono x⟩) (cw.mono x)⟩
            ·cases e
           ·cases e
          ·cases e
         ·cases e
       |_=>cases e
 |_=>cases e
def pF{name id:String}{g:D->List D->DM D}{o e:Expr}{es:List Expr}{fo:aa->DM D}{fs:aa->DM (List D)}{apos cpos:Pos}(pa:PlainAttrs "list")(slot:Slot "list" name id)(hty:typeOf (.builtin id)=pure (.type "method_descriptor"))(hm:Dm X E id g)(ho:DE X E o fo)(ha:DA X E (e::es) fs)
  (hbase:attributeBase o name X.env (eval o X.env)=eval o X.env:=by rfl)
  (hfew:((backTo cpos (starEach (e::es) X.env)).all (fun x=>!x.1)&&(backToKw cpos (keywordEach [] X.env)).all (fun x=>x.1.isSome)
   &&decide ((e::es).length+([]:List Keyword).length+(if ([]:List Keyword).isEmpty then 0 else 1)<30))=true:=by rfl)
  (hline:(apos.endLine==cpos.line)=true:=by rfl) (hs:notStar e=true:=by rfl) (hplain:(backTo cpos (starEach es X.env)).any (·.1)=false:=by rfl) :
  DE X E (.Call (.Attribute o name apos) (e::es) [] cpos) (λδ=>fo δ>>=λx=>rd (λM=>aR x M)>>=λz=>fs δ>>=λxs=>g x xs):=⟨PE.mono (Pg pa slot hty hm ho.h ha.h hbase hfew hline hs hplain) λσ H Q h=>by
 obtain⟨ρ,δ,M,ev,j,g1⟩:=h;refine⟨ρ,δ,M,ev,j,g1.bind λρ1 H1 M1 x dx e1 j1 c1 g2=>?_⟩
 obtain⟨l,hl,g3⟩:=Go.rdb g2;obtain⟨a,xs,rfl,hx,cl⟩:=cC j1 c1 hl;exact⟨.inl ⟨rfl,_,SqL.of hx⟩,ρ1,δ,M1,ev.mono e1,j1,g3.bind λρ2 H2 M2 ys dys e2 j2 c2 g4=>⟨ρ2,M2,dx,dys,j2,c1.mono e2,c2,g4⟩⟩⟩
end
structure ExtB(acc:Addr)(ρ:Rh)(H:Hp)(ρ':Rh)(H':Hp):Prop where
 pre:∃τ,ρ'.st=ρ.st++τ
 vo:ρ'.vo=ρ.vo
 new:∀a,a∈ρ'.st->a∉ρ.st->H a=none
 keep:∀a o,H a=some o->a∉ρ.st->a≠acc->H' a=some o
 na:acc∉ρ'.st
section
variable{acc:Addr}{ρ ρ1 ρ2:Rh}{H H1 H2:Hp}
theorem ExtB.trans(e:ExtB acc ρ H ρ1 H1)(f:ExtB acc ρ1 H1 ρ2 H2):ExtB acc ρ H ρ2 H2:=by
 have out:∀a o,H a=some o->a∉ρ.st->a∉ρ1.st:=λa o h n z=>by have:=e.new a z n;rw[h]at this;cases this
 refine⟨?_,f.vo.trans e.vo,λa h n=>?_,λa o h n na=>f.keep a o (e.keep a o h n na) (out a o h n) na,f.na⟩
 ·obtain⟨τ,h1⟩:=e.pre;obtain⟨υ,h2⟩:=f.pre;exact⟨τ++υ,by rw[h2,h1,V4]⟩
 ·by_cases z:a∈ρ1.st
  ·exact e.new a z n
  ·cases q:H a with
   |none=>rfl
   |some o=>have:=f.new a h z;rw[e.keep a o q n (λy=>f.na (y ▸ h))]at this;cases this
def Ext.b(e:Ext ρ H ρ1 H1)(na:acc∉ρ1.st):ExtB acc ρ H ρ1 H1:=⟨e.pre,e.vo,e.new,λa o h n z=>e.keep a o h n,na⟩
def ExtB.kp(e:ExtB acc ρ H ρ1 H1)(h:acc∈ρ.vo):Kp ρ H ρ1 H1:=⟨e.pre,λa o q n y=>by
 have ne:a≠acc:=λz=>n (z ▸ .inr h)
 have ns:a∉ρ.st:=λz=>n (.inl z)
 refine⟨λz=>?_,e.keep a o q ns ne⟩
 rcases z with z | z
 ·have:=e.new a z ns;rw[q]at this;cases this
 ·rw[e.vo]at z;exact n (.inr z)⟩
theorem ExtB.refl(na:acc∉ρ.st):ExtB acc ρ H ρ H:=(Ext.refl).b na
def ExtB.grow(na:acc∉ρ.st):ExtB acc ρ H ρ (upd H acc (.lst ys)):=⟨⟨[],by simp⟩,rfl,λa h n=>absurd h n,λa o h z ne=>by rw[upd_ne ne];exact h,na⟩
end
abbrev ZK:=Addr->Rh->Hp->HO->List D->Prop
structure CstG(Z:ZK)(X:Cx)(YT:List (Addr×Obj))(acc:Addr)(ρ0:Rh)(H0:Hp)(δ:aa)(l:List D)(M:Mo)(fp:List Addr)(s:Shared):Prop where
 ex:∃σ H ρ o,Inv X YT σ H s/\ExtB acc ρ0 H0 ρ H/\J X.mg ρ M H/\Ev X.mg ρ H σ δ/\H acc=some o/\Z acc ρ H o l/\∀b∈fp,H b=none
def ZK.Ok(Z:ZK):Prop:=∀a ρ H ρ' H' o l,Z a ρ H o l->Ext ρ H ρ' H'->Z a ρ' H' o l
def ZL(mg:Str->Option Value):ZK:=λ_ ρ H o l=>∃ys,o=.lst ys/\Cvs mg ρ H ys l
def ZL.ok:(ZL mg).Ok:=λ_ _ _ _ _ _ _ ⟨ys,e,c⟩ x=>⟨ys,e,c.mono x⟩
abbrev Ry(X:Cx):=CstG (ZL X.mg) X
def aZ(fg:D->aa->DM aa)(ft:aa->DM Bool)(fb:aa->List D->DM (aa×List D)):List D->aa->List D->DM (aa×List D)
 |[],δ,l=>pure (δ,l)
 |d::ds,δ,l=>fg d δ>>=λδ1=>ft δ1>>=λb=>(if b then fb δ1 l else pure (δ1,l))>>=λp=>aZ fg ft fb ds p.1 p.2
def BJ(fg:D->aa->DM aa)(ft:aa->DM Bool)(fb:aa->List D->DM (aa×List D))(n:Nat):Nat->Nat->aa->List D->DM (aa×List D)
 |0,_,_,_=>stuck
 |k+1,i,δ,l=>rd (Itn.next (.dyn n) i)>>=λo=>match o with
   |none=>pure (δ,l)
   |some d=>fg d δ>>=λδ1=>ft δ1>>=λb=>(if b then fb δ1 l else pure (δ1,l))>>=λp=>BJ fg ft fb n k (i+1) p.1 p.2
def bW(fg:D->aa->DM aa)(ft:aa->DM Bool)(fb:aa->List D->DM (aa×List D)):Itn->aa->List D->DM (aa×List D)
 |.fix ds,δ,l=>aZ fg ft fb ds δ l
 |.dyn n,δ,l=>rd (λM=>aR (.ref n) M)>>=λm=>BJ fg ft fb n (m.length+1) 0 δ l
def bB(fe:aa->DM D)(δ:aa)(l:List D):DM (aa×List D):=fe δ>>=λd=>if l.length<sizeLine then pure (δ,l++[d]) else stuck
def Tf(X:Cx)(ifs:List Expr)(t:TT):Prop:=∀(YT:List (Addr×Obj)) (s:Shared) (σ:L2.St) (H:Hp) (Q:Bool->Hp->Prop),Inv X YT σ H s->t σ H Q->wpAny (model X.prog X.w) X.A (pX ifs X.env) (TP X YT σ Q) X.xe s
structure DTs(X:Cx)(E:XK)(ifs:List Expr)(f:aa->DM Bool):Prop where
 h:Tf X ifs (tD X.mg E Bv f)
def bC:DTs X E [] (λz=>pure true):=⟨λYT s σ H Q I h=>by obtain⟨ρ,δ,M,ev,j,g⟩:=h;exact Ui ⟨H,I,g.pure ρ H true .refl j rfl⟩⟩
def zu(hc:DT X E c f):DTs X E [c] f:=⟨λYT s σ H Q I h=>wpAny_tests_one (hc.h YT s σ H Q I h)⟩
set_option tactic.hygienic true in
def DM.bind_ok{α β:Type}{m:DM α}{k:α->DM β}{M M':Mo}{b:β}(h:(m>>=k) M=some (.ok b,M')):∃a M1,m M=some (.ok a,M1)/\k a M1=some (.ok b,M'):=by
 have h:DM.bind m k M=some (.ok b,M'):=h;unfold DM.bind at h;split at h
 ·cases h
 ·cases h
 ·rename_i a M1 e;exact⟨a,M1,e,h⟩
def vV(Z:ZK)(X:Cx)(acc:Addr)(W:(Shared->Prop)->Shared->Prop)(fb:aa->List D->DM (aa×List D))(ρ0:Rh)(H0:Hp):Prop:=
 ∀YT δ l M s δ' l' M',CstG Z X YT acc ρ0 H0 δ l M [] s->fb δ l M=some (.ok (δ',l'),M')->W (λs'=>CstG Z X YT acc ρ0 H0 δ' l' M' [] s') s
def BodyOk(X:Cx)(acc:Addr)(W:(Shared->Prop)->Shared->Prop)(fb:aa->List D->DM (aa×List D)):Prop:=
 ∀ρ0 H0,acc∈ρ0.vo->vV (ZL X.mg) X acc W fb ρ0 H0
def CstG.unpin(c:CstG Z X (YT++pl) acc ρ0 H0 δ l M [] s)(h:∀b∈fp,∃o,(b,o)∈pl):
  CstG Z X YT acc ρ0 H0 δ l M fp s/\∀p∈pl,s.heap.get? p.1=some p.2:=by
 obtain⟨σ,H,ρ,o,I,x,j,ev,ha,cl,_⟩:=c.ex;refine⟨⟨σ,H,ρ,o,I.unpinned,x,j,ev,ha,cl,λb hb=>?_⟩,λp hp=>(I.pin p (UJ _ (UJ _ hp))).1⟩
 obtain⟨o',ho⟩:=h b hb;exact (I.pin (b,o') (UJ _ (UJ _ ho))).2.1
def vh(fg:D->aa->DM aa)(ft:aa->DM Bool)(fb:aa->List D->DM (aa×List D))(δf:aa)(lf:List D)(Mf:Mo):Itn->Nat->Nat->aa->List D->Mo->Prop
 |.fix ds,n,i,δ,l,M=>n=ds.length-i/\aZ fg ft fb (ds.drop i) δ l M=some (.ok (δf,lf),Mf)
 |.dyn a,n,i,δ,l,M=>BJ fg ft fb a n i δ l M=some (.ok (δf,lf),Mf)
set_option tactic.hygienic true in
def vh.step{fg:D->aa->DM aa}{ft:aa->DM Bool}{fb:aa->List D->DM (aa×List D)}{δf δ:aa}{lf l:List D}{Mf M:Mo}{it:Itn}{n i:Nat}(h:vh fg ft fb δf lf Mf it n i δ l M):
  (it.next i M=some none/\δ=δf/\l=lf/\M=Mf)\/∃d δ1 M1 b M2 δ3 l3 M3 m,it.next i M=some (some d)/\fg d δ M=some (.ok δ1,M1)/\ft δ1 M1=some (.ok b,M2)/\(if b then fb δ1 l else pure (δ1,l)) M2=some (.ok (δ3,l3),M3)/\m<n/\vh fg ft fb δf lf Mf it m (i+1) δ3 l3 M3:=by
 cases it with
 | fix ds=>
   obtain⟨rfl,h⟩:=h;cases hd:ds[i]? with
   |none=>rw[List.drop_eq_nil_of_le (U5.mp hd)]at h;cases h;exact .inl ⟨congrArg some hd,rfl,rfl,rfl⟩
   |some d=>
     obtain⟨hi',hd'⟩:=Uj.mp hd;have hl:ds.drop i=d::ds.drop (i+1):=by rw[<-hd'];exact XJ hi'
     rw[hl]at h;obtain⟨δ1,M1,e1,h1⟩:=DM.bind_ok h;obtain⟨b,M2,e2,h2⟩:=DM.bind_ok h1;obtain⟨⟨δ3,l3⟩,M3,e3,h3⟩:=DM.bind_ok h2;exact .inr ⟨d,δ1,M1,b,M2,δ3,l3,M3,ds.length-(i+1),congrArg some hd,e1,e2,e3,by lia,rfl,h3⟩
 | dyn a=>
   cases n with
   |zero=>cases h
   | succ n=>
     obtain⟨o,M0,e0,h⟩:=DM.bind_ok h;obtain⟨o',q,z⟩:=Up.mp e0;cases z;cases o with
     |none=>cases h;exact .inl ⟨q,rfl,rfl,rfl⟩
     |some d=>obtain⟨δ1,M1,e1,h1⟩:=DM.bind_ok h;obtain⟨b,M2,e2,h2⟩:=DM.bind_ok h1;obtain⟨⟨δ3,l3⟩,M3,e3,h3⟩:=DM.bind_ok h2;exact .inr ⟨d,δ1,M1,b,M2,δ3,l3,M3,n,q,e1,e2,e3,VL _,h3⟩
def vh.start{fg:D->aa->DM aa}{ft:aa->DM Bool}{fb:aa->List D->DM (aa×List D)}{δf δ:aa}{lf l:List D}{Mf M:Mo}{it:Itn}(h:bW fg ft fb it δ l M=some (.ok (δf,lf),Mf)):∃ n,vh fg ft fb δf lf Mf it n 0 δ l M:=by
 cases it with
 |fix ds=>exact⟨_,rfl,h⟩
 |dyn a=>obtain⟨m,M0,e0,h⟩:=DM.bind_ok h;obtain⟨m',q,z⟩:=Up.mp e0;cases z;exact⟨_,h⟩
def Ge(hZ:Z.Ok)(hc:X.calm=true)(hxe:X.xe=λy y=>False){depth:Nat}{bodyK:Sem Fin->Sem Fin}{W:(Shared->Prop)->Shared->Prop}
  (hturn:compTurn e depth (.ref it) (.ref acc) X.env=turnOf g bodyK (.compLoop e depth (.ref it) (.ref acc) X.env) (.ref it) X.env) (hW:jG X.prog X.w X.A bodyK W) (hmono:∀P P' s,(∀s,P s->P' s)->W P s->W P' s)
  {fg:D->aa->DM aa}{ft:aa->DM Bool}{fb:aa->List D->DM (aa×List D)} (hg:DG X E0 g.target fg) (ht:DTs X E0 g.ifs ft) {fp:List Addr}{tn:Nat->Heap->Prop} (T:Turn X.prog X.w X.K g.target Jt fp it tn) (iok:ItOk X.mg ρi Hi Jt itn) (hb:vV Z X acc W fb ρ0 H0) (kp0:∀ρ H,ExtB acc ρ0 H0 ρ H->Kp ρi Hi ρ H) {YT:List (Addr×Obj)}
  (fok:∀H',(∀b∈fp,H' b=none)->∀b∈fp,FpOk X YT H' b) {l:List D} (st:CstG Z X YT acc ρ0 H0 δ l M fp s) (htn:tn 0 s.heap) {lf:List D} (hrun:bW fg ft fb itn δ l M=some (.ok (δf,lf),Mf))
  {R:Result->Shared->Prop} (he:Dl e) (hR:∀s',CstG Z X YT acc ρ0 H0 δf lf Mf fp s'->R (.ok .next) s') :
  codeAny (model X.prog X.w) X.A (.compLoop e depth (.ref it) (.ref acc) X.env) R s:=by
 obtain⟨n0,rem0⟩:=vh.start hrun;refine I8 (λn s=>∃i δ l M,vh fg ft fb δf lf Mf itn n i δ l M/\CstG Z X YT acc ρ0 H0 δ l M fp s/\tn i s.heap) hturn hW ?_ hmono n0 ⟨0,δ,l,M,rem0,st,htn⟩ he
 rintro n s ⟨i,δ,l,M,rem,st,htn⟩;obtain⟨σ,H,ρ,o,I,x,j,ev,ha,cl,fr⟩:=st.ex;have kp:=kp0 _ _ x;rcases rem.step with ⟨hd,rfl,rfl,rfl⟩ | ⟨d,δ1,M1,b,M2,δ3,l3,M3,m,hd,e1,e2,e3,hm,rem3⟩
 ·refine Us (T.done X rfl rfl rfl hc i YT s σ H _ I (fok H fr) htn (iok.stop i ρ H _ kp j hd)) (λr s1 h1=>?_) λy y z=>z
  obtain⟨rfl,I1⟩:=h1;exact hR s1 ⟨σ,H,ρ,o,I1,x,j,ev,ha,cl,fr⟩
 ·obtain ⟨go,yl⟩:=iok.item i ρ H M d kp j hd;refine Us (T.item X rfl rfl rfl hc i YT s σ H (λy y=>False) I (fok H fr) htn go) (λr s1 h1=>?_) λy y z=>z
  obtain⟨u,rfl,h1⟩:=h1;refine Us h1 (λy s2 h2=>?_) λy y z=>z
  obtain⟨xv,H5,I5,r5,y5,tn5,fr5⟩:=h2;obtain⟨x5,j5,c5⟩:=yl xv H5 y5;have I5':=I5.pinned (fok H5 fr5) (T.obj _ _ tn5);refine Us (hg.h _ s2 σ H5 xv u (λσ6 H6=>∃ρ6,Ext ρ H5 ρ6 H6/\J X.mg ρ6 M1 H6/\Ev X.mg ρ6 H6 σ6 δ1) I5' r5 ⟨ρ,δ,M,d,ev.mono x5,j5,c5,_,e1,λρ6 H6 σ6 a1 a2 a3=>⟨ρ6,a1,a2,a3⟩⟩) (λy s3 h3=>?_) λy y z=>by rw[hxe]at z;exact z
  obtain⟨σ6,H6,I6,ρ6,x6,j6,ev6⟩:=h3;refine Us (ht.h _ s3 σ6 H6 (λb' H7=>b'=b/\∃ρ7,Ext ρ6 H6 ρ7 H7/\J X.mg ρ7 M2 H7) I6 ⟨ρ6,δ1,M1,ev6,j6,_,e2,λρ7 H7 b' a1 a2 a3=>⟨a3,ρ7,a1,a2⟩⟩) (λok s4 h4=>?_) λy y z=>by rw[hxe]at z;exact z
  obtain⟨H7,I7,rfl,ρ7,x7,j7⟩:=h4;have nacc:acc∉ρ.st:=x.na;have na6:acc∉ρ6.st:=λz=>by have h5:=x5.keep acc _ ha nacc;have:=x6.new acc z nacc;rw[h5]at this;cases this
  have ha5:=x5.keep acc _ ha nacc;have ha6:=x6.keep acc _ ha5 nacc;have na7:acc∉ρ7.st:=λz=>by have:=x7.new acc z na6;rw[ha6]at this;cases this
  have ha7:=x7.keep acc _ ha6 na6;have xb:ExtB acc ρ0 H0 ρ7 H7:=((x.trans (x5.b nacc)).trans (x6.b na6)).trans (x7.b na7);have ct:CstG Z X (YT++pinsAt fp s2.heap) acc ρ0 H0 δ1 l M2 [] s4:=⟨σ6,H7,ρ7,o,I7,xb,j7,ev6.mono x7,ha7,hZ _ _ _ _ _ _ _ (hZ _ _ _ _ _ _ _ (hZ _ _ _ _ _ _ _ cl x5) x6) x7,λb hb=>nomatch hb⟩
  have fin:∀s5,CstG Z X (YT++pinsAt fp s2.heap) acc ρ0 H0 δ3 l3 M3 [] s5->∃m,m<n/\∃i δ l M,vh fg ft fb δf lf Mf itn m i δ l M/\CstG Z X YT acc ρ0 H0 δ l M fp s5/\tn i s5.heap:=λs5 c5=>by
   obtain⟨c6,pp⟩:=c5.unpin (fp:=fp) λb hb=>by obtain⟨o,eo,_⟩:=T.obj _ _ tn5 b hb;exact⟨o,mem_pinsAt hb eo⟩
   exact⟨m,hm,i+1,δ3,l3,M3,rem3,c6,T.keep _ _ _ tn5 λb hb o eo=>pp (b,o) (mem_pinsAt hb eo)⟩
  cases ok with
  |true=>exact iteT (hmono _ _ _ fin (hb _ δ1 l M2 s4 δ3 l3 M3 ct e3))
  |false=>cases e3;exact iteF (fin s4 ct)
set_option tactic.hygienic true in
def ux{X:Cx}(hxe:X.xe=λy y=>False){elt:Expr}{fe:aa->DM D}{acc:Addr}(he:DE X E0 elt fe):
  BodyOk X acc (λP s=>wpAny (model X.prog X.w) X.A (eval elt X.env) (λx s1=>wpAny (model X.prog X.w) X.A (call (.builtin "list.append") [.ref acc,x]) (λy s2=>P s2) (λy y=>False) s1) (λy y=>False) s) (bB fe):=by
 intro ρ0 H0 hacc YT δ l M s δ' l' M' ct e;obtain⟨d,M1,e1,e2⟩:=DM.bind_ok e;obtain⟨σ,H,ρ,o,I,x,j,ev,ha,⟨ys,rfl,cl⟩,_⟩:=ct.ex;split at e2;rotate_left
 ·cases e2
 rename_i hz;cases e2;refine Us (he.h YT s σ H (λv H1=>∃ρ1,Ext ρ H ρ1 H1/\J X.mg ρ1 M' H1/\Cv X.mg ρ1 H1 v d) I ⟨ρ,δ,M,ev,j,_,e1,λρ1 H1 v a1 a2 a3=>⟨ρ1,a1,a2,a3⟩⟩) (λu s1 h1=>?_) λy y z=>by rw[hxe]at z;exact z
 obtain⟨v,H1,I1,rv,ρ1,x1,j1,c1⟩:=h1;have nacc:acc∉ρ.st:=x.na;have ha1:=x1.keep acc _ ha nacc;have na1:acc∉ρ1.st:=λz=>by have:=x1.new acc z nacc;rw[ha]at this;cases this
 have hv1:acc∈ρ1.vo:=by rw[x1.vo,x.vo];exact hacc
 refine Us (mt_append (X:=X) YT s1 σ H1 (.ref acc) [v] (.ref acc) [u] (λy H'=>H'=upd H1 acc (.lst (ys++[v]))) I1 rfl (.cons rv .nil) ⟨_,ys,v,rfl,rfl,ha1,by rw[cl.len];exact hz,rfl⟩) (λy s2 h2=>?_) λy y z=>by rw[hxe]at z;exact z
 obtain⟨_,H2,I2,_,rfl⟩:=h2;exact⟨σ,_,ρ1,_,I2,(x.trans (x1.b na1)).trans (.grow na1),j1.grow hv1,(ev.mono x1).kp ((ExtB.grow na1).kp hv1),upd_same,⟨ys++[v],rfl,((cl.mono x1).append (.cons c1 .nil)).hold hv1⟩,λb hb=>nomatch hb⟩
def bU{α:Type}(m:DM α):DM α:=λM=>match m M with
 |some (.ok a,M')=>some (.ok a,M')
 |_=>none
set_option tactic.hygienic true in
def lE(h:bU m M=some r):∃a M',m M=some (.ok a,M')/\r=(.ok a,M'):=by
 unfold bU at h;split at h
 ·rename_i a M' e;cases h;exact⟨a,M',e,rfl⟩
 ·cases h
def aV(js:List Nat)(δ:aa):aa:=js.map λj=>(δ[j]?).getD none
def aP(k:Nat)(js:List Nat)(δ:aa):aa:=List.replicate k none++aV js δ
def uy(ev:Ev mg ρ H σ δ)(k:Nat)(js:List Nat):Ev mg ρ H (List.replicate k none++pick js σ) (aP k js δ):=by
 unfold aP pick aV;refine⟨by simp,λi d q=>?_⟩
 by_cases hi:i<k
 ·rw[Uu (by rw[Vz];exact hi),VR]at q
  split at q<;>cases q
 ·rw [Vi (by rw [Vz];lia),Vz,UG]at q ⊢
  cases hj:js[i-k]? with
  |none=>rw[hj]at q;cases q
  | some j=>
    rw[hj]at q;have q:(δ[j]?).getD none=some d:=Uo q;have q':δ[j]?=some (some d):=by
     cases z:δ[j]? with
     |none=>rw[z]at q;cases q
     |some o=>rw[z]at q;exact congrArg some q
    obtain⟨v,h1,h2⟩:=ev.val j d q';exact⟨v,by show some ((σ[j]?).getD none)=_;rw[h1];rfl,h2⟩
def lZ(hp:H p=none):Kp ρ H (ρ.hold p) (upd H p o):=⟨⟨[],by show ρ.st=_;simp⟩,λa u h n z=>⟨Rh.nhold n (ne_of_none h hp),by rw[upd_ne (ne_of_none h hp)];exact h⟩⟩
inductive Out where
 |val | sto
def Out.run:Out->List D->DM D
 |.val,l=>pure (.lst l)
 |.sto,l=>λM=>some (.ok (.ref M.length),M++[.lst l])
def Out.fin(o:Out)(hf:H2 acc=none)(hn:acc∉ρ1)(x:ExtB acc (ρ1.hold acc) (upd H2 acc (.lst [])) ρ4 H4)(j:J mg ρ4 M H4)(ha:H4 acc=some (.lst ys))(c:Cvs mg ρ4 H4 ys l)
  (g:Go mg E (Cv mg) Q ρ1 H2 (o.run l) M):Q (.ref acc) H4:=by
 have hv:ρ4.vo=acc::ρ1.vo:=x.vo;have na:acc∉ρ1.vo:=λz=>hn (.inr z)
 have nw:∀a,a∈ρ4.st->a∉ρ1.st->H2 a=none:=λa h n=>by
  have:=x.new a h n;by_cases z:a=acc
  ·rw[z,upd_same]at this;cases this
  ·rw[upd_ne z]at this;exact this
 have kp:∀a o,H2 a=some o->a∉ρ1.st->H4 a=some o:=λa o h n=>x.keep a o (by rw[upd_ne (ne_of_none h hf)];exact h) n (ne_of_none h hf)
 cases o with
 | val=>
   have e:Ext ρ1 H2 ⟨ρ4.st,ρ1.vo⟩ H4:=⟨x.pre,rfl,nw,kp⟩;have jd:J mg ⟨ρ4.st,ρ1.vo⟩ M H4:=J.done (ρ:=ρ1) j hv;have cd:Cvs mg ⟨ρ4.st,ρ1.vo⟩ H4 ys l:=Cvs.less (ρ:=ρ4) (ρ1:=⟨ρ4.st,ρ1.vo⟩) rfl (λa h=>by rw[hv];exact .tail _ h) c
   exact Go.pure (a:=D.lst l) g ⟨ρ4.st,ρ1.vo⟩ H4 (.ref acc) e jd (.lst (λz=>by
    rcases z with z | z
    ·exact x.na z
    ·exact na z) ha cd)
 | sto=>
   obtain⟨r,er,p⟩:=g;cases er;have k4:Kp ρ4 H4 ⟨ρ4.st++[acc],ρ1.vo⟩ H4:=⟨⟨[acc],rfl⟩,λa o h n v=>⟨λz=>by
    rcases z with z | z
    ·rcases Vr.mp z with z | z
     ·exact n (.inl z)
     ·exact n (.inr (by rw[hv,U7.mp z];exact .head _))
    ·exact n (.inr (by rw[hv];exact .tail _ z)),h⟩⟩
   have e:Ext ρ1 H2 ⟨ρ4.st++[acc],ρ1.vo⟩ H4:=by
    refine⟨?_,rfl,λa h n=>?_,kp⟩
    ·obtain⟨τ,h1⟩:=x.pre;exact⟨τ++[acc],by show ρ4.st++[acc]=_;rw[h1,V4];rfl⟩
    ·rcases Vr.mp h with z | z
     ·exact nw a z n
     ·rw[U7.mp z];exact hf
   have jd:J mg ⟨ρ4.st++[acc],ρ1.vo⟩ (M++[.lst l]) H4:=by
    refine⟨by show (ρ4.st++[acc]).length=_;rw[Uz,Uz,j.len];rfl,?_,λn a w h1 h2=>?_,λa h=>?_⟩
    ·show (ρ4.st++[acc]).Nodup;rw[Yg];exact⟨j.nd,by simp,λx' hx y hy e=>by rw[U7.mp hy]at e;exact x.na (e ▸ hx)⟩
    ·have h1:(ρ4.st++[acc])[n]?=some a:=h1;by_cases hl:n<ρ4.st.length
     ·rw[Uu hl]at h1;rw[Uu (by rw[<-j.len];exact hl)]at h2
      exact (j.obj n a w h1 h2).map rfl λvs ds c=>c.kp k4
     ·have hl':n<(ρ4.st++[acc]).length:=(Uj.mp h1).1;rw[Uz]at hl';have e:n=ρ4.st.length:=by have:[acc].length=1:=rfl;lia
      subst e;rw[Vi (Ur _)]at h1;rw[j.len,Vi (Ur _)]at h2;simp at h1 h2;subst h1 h2;exact⟨ys,ha,c.kp k4⟩
    ·have h:a∈ρ1.vo:=h;obtain⟨y1,y2⟩:=j.vol a (by rw[hv];exact .tail _ h)
     refine⟨λz=>?_,y2⟩
     rcases Vr.mp z with z | z
     ·exact y1 z
     ·exact na (U7.mp z ▸ h)
   refine p _ H4 (.ref acc) e jd (.ref ?_);show (ρ4.st++[acc])[_]?=_;rw[<-j.len];simp
structure Beg(X:Cx)(Z:ZK)(ob:Obj)(o0:Addr->HO)(g:Rh->Addr->Rh)(mk:Sem Value):Prop where
 ok:Z.Ok
 nw:∀(A:Around) (E:Value->Shared->Prop) (s:Shared) (Q:Value->Shared->Prop),Q (.ref s.heap.objs.size) { s with heap:=s.heap.push ob }->wpAny (model X.prog X.w) A mk Q E s
 hob:∀(H:Hp) (h:Heap) (a:Addr),h.get? a=some ob->ObjOk X.prog X.w H h a (o0 a)
 fr:ob.isFreed=false
 j:∀{ρ M H a},H a=none->J X.mg ρ M H->J X.mg (g ρ a) M (upd H a (o0 a))
 ev:∀{ρ H a σ δ},H a=none->Ev X.mg ρ H σ δ->Ev X.mg (g ρ a) (upd H a (o0 a)) σ δ
 kp:∀{ρ H a ρ' H'},H a=none->ExtB a (g ρ a) (upd H a (o0 a)) ρ' H'->Kp ρ H ρ' H'
 st:∀ρ a,(g ρ a).st=ρ.st
 z:∀ρ H a,Z a ρ H (o0 a) []
section
variable{X:Cx}{E:XK}{Z:ZK}{ob:Obj}{o0:Addr->HO}{gr:Rh->Addr->Rh}{mk:Sem Value}{scope:Scope}{cl:List (Str×Addr)}{own:List Str}{js:List Nat}{fr:List Str}{e t0 i0:Expr}{f0:List Expr}{gs:List Comprehension}{pos:Pos}{fi:aa->DM Itn}{fg:D->aa->DM aa}{ft:aa->DM Bool}{fb:aa->List D->DM (aa×List D)}
  {bodyK:Cx->Addr->Sem Fin->Sem Fin}{W:Cx->Addr->(Shared->Prop)->Shared->Prop}{α:Type}{Rv:Rh->Hp->V->α->Prop}{Q:VK}{fin:List D->DM α}{use:Option (Value->Sem Unit)}{Qs:Value->Shared->Prop}{YT:List (Addr×Obj)}{σ:L2.St}{H:Hp}{s:Shared}{ρ:Rh}{δ:aa}{M:Mo}
set_option tactic.hygienic true in
def vq(B:Beg X Z ob o0 gr mk)(he:Dl e)(hcl:clausesOf e=⟨t0,i0,f0,0⟩::gs)(hc:X.calm=true)(T:CompG X scope cl own js fr)(hi:DI X E t0 i0 fi)
  (hturn:∀(Y:Cx) it acc,compTurn e 0 (.ref it) (.ref acc) Y.env=turnOf ⟨t0,i0,f0,0⟩ (bodyK Y acc) (.compLoop e 0 (.ref it) (.ref acc) Y.env) (.ref it) Y.env)
  (hW:∀Y acc,jG Y.prog Y.w Y.A (bodyK Y acc) (W Y acc)) (hmono:∀Y acc P P' s,(∀s,P s->P' s)->W Y acc P s->W Y acc P' s)
  (hg:∀YT m fp C s₂ H₂,DG (X.aO YT scope (cellsFrom m scope.names cl) (own++fr) fp C s₂ H₂) E0 t0 fg) (ht:∀YT m fp C s₂ H₂,DTs (X.aO YT scope (cellsFrom m scope.names cl) (own++fr) fp C s₂ H₂) E0 f0 ft)
  (hb:∀YT m fp C s₂ H₂ acc ρ H0,vV Z (X.aO YT scope (cellsFrom m scope.names cl) (own++fr) fp C s₂ H₂) acc (W (X.aO YT scope (cellsFrom m scope.names cl) (own++fr) fp C s₂ H₂) acc) fb (gr ρ acc) H0)
  (hs:∀y,foldedSetIterable i0 X.env y=pure y) (I:Inv X YT σ H s) (ev:Ev X.mg ρ H σ δ) (j:J X.mg ρ M H) (g1:Go X.mg E Rv Q ρ H (fi δ>>=λit=>bU (bW fg ft fb it (aP own.length js δ) [])>>=λp=>fin p.2) M)
  (hfin:∀s2 H2 fp C m acc ρ1 lf Mf s',Inv X YT σ H2 s2->(∀b∈fp,FpOk X YT H2 b)->s2.heap.objs.size<=acc->s2.heap.objs.size<=C->H2 acc=none->acc∉ρ1->(∃δf,CstG Z (X.aO YT scope (cellsFrom m scope.names cl) (own++fr) fp C s2 H2) [] acc (gr ρ1 acc) (upd H2 acc (o0 acc)) δf lf Mf fp s')->Go X.mg E Rv Q ρ1 H2 (fin lf) Mf->
    compPost (model X.prog X.w) X.A X.xe use Qs (.ref acc) C (.ok .next) s') :
  wpAny (model X.prog X.w) X.A (comprehension e scope X.env pos mk false (eval i0 X.env) use) Qs X.xe s:=by
 refine YJ (cl:=cl) (use:=use) hcl hs T.clos T.kind T.names ?_;refine thn (hi.h YT s σ H (λJt H1=>∃ρ1 M1 it,Ext ρ H ρ1 H1/\J X.mg ρ1 M1 H1/\ItOk X.mg ρ1 H1 Jt it/\Go X.mg E Rv Q ρ1 H1 (bU (bW fg ft fb it (aP own.length js δ) [])>>=λp=>fin p.2) M1) I
  ⟨ρ,δ,M,ev,j,g1.bind λρ1 H1 M1 Jt it e1 j1 iok g2=>⟨ρ1,M1,it,e1,j1,iok,g2⟩⟩) λv s1 h1=>thn h1 λitv s2 h2=>?_
 obtain⟨it,fp,tn,Jt,H2,rfl,I2,Tn,st2,f2,ρ1,M1,itn,x1,j1,iok,g2⟩:=h2;have hrun:∃δf lf Mf,bW fg ft fb itn (aP own.length js δ) [] M1=some (.ok (δf,lf),Mf)/\Go X.mg E Rv Q ρ1 H2 (fin lf) Mf:=by
  obtain⟨r,e,p⟩:=g2;have e:DM.bind _ _ M1=some r:=e;unfold DM.bind at e;split at e
  ·cases e
  ·rename_i c M' em;obtain⟨a,M'',_,z⟩:=lE em;cases z
  ·rename_i a M' em;obtain⟨a',M'',e1,z⟩:=lE em;cases z;exact⟨a.1,a.2,M',e1,r,e,p⟩
 obtain⟨δf,lf,Mf,hrun,g3⟩:=hrun;refine B.nw _ _ _ _ (vL ?_);have hlt:∀b∈fp,b<s2.heap.objs.size:=λb hb=>by obtain⟨o,e,_⟩:=Tn.obj _ _ st2 b hb;exact Uk e
 dsimp only;generalize hP:s2.heap.push ob=hp1;have hCs:hp1.objs.size=s2.heap.objs.size+1:=by rw[<-hP,U4]
 have hCe:hp1.objs.size+1=(hp1.push { cls:=.type "dict",data:=.dict #[] }).objs.size:=by rw[U4]
 have hC:s2.heap.objs.size<=hp1.objs.size:=by lia
 have hne:hp1.objs.size≠s2.heap.objs.size:=by lia
 have old1:∀b o,s2.heap.get? b=some o->hp1.get? b=some o:=λb o e=>by rw[<-hP];exact Uh _ e
 have old:∀b o,s2.heap.get? b=some o->(pushCells (hp1.push { cls:=.type "dict",data:=.dict #[] }) scope.names).get? b=some o:=λb o e=>W7 _ _ _ _ (Uh _ (old1 b o e))
 have new:=W7 scope.names _ _ _ (Uh { cls:=.type "dict",data:=.dict #[] } (show hp1.get? s2.heap.objs.size=some ob by rw[<-hP];exact Ul _ B.fr))
 have ns:(pushCells (hp1.push { cls:=.type "dict",data:=.dict #[] }) scope.names).Ns hp1.objs.size λu=>none:=(Heap.Ns.new hp1 (.type "dict")).keeps (W7 _ _)
 have hfree:H2 s2.heap.objs.size=none:=I2.hok.fresh (Ur _);have IC:=sJ (t':=s2.toks) T I2 f2 hlt old (Ur _) hC hne hCe (UL hC (Xr _)) (VL _) (Nat.lt_succ_of_le hC) rfl (B.hob _ _ _ new) ns;have OK:=IC.ok;have fok:∀H',(∀b∈fp,H' b=none)->∀b∈fp,FpOk (X.aO YT scope (cellsFrom (hp1.objs.size+1) scope.names cl) (own++fr) fp hp1.objs.size s2 H2) [] H' b:=λH' hn b hb=>by
  obtain⟨_,g2,g3,g4,g5,g6⟩:=f2 b hb;refine⟨hn b hb,Ut (Um (hlt b hb) hC),λhm=>?_,.inl hb,(OK.exf b hb).2,λp hp=>g6 p (by simpa using hp)⟩
  rcases Uw.mp (I2.stkSub _ hm) with z | z
  ·exact g2 z
  ·exact g3 z
 have fp1:∀b∈fp,upd H2 s2.heap.objs.size (o0 s2.heap.objs.size) b=none:=λb hb=>by rw[upd_ne (Ut (hlt b hb))];exact (f2 b hb).1
 have nf:=j1.fresh hfree;have st:CstG Z (X.aO YT scope (cellsFrom (hp1.objs.size+1) scope.names cl) (own++fr) fp hp1.objs.size s2 H2) [] s2.heap.objs.size (gr ρ1 s2.heap.objs.size) (upd H2 s2.heap.objs.size (o0 s2.heap.objs.size)) (aP own.length js δ) [] M1 fp
   { s2 with heap:=pushCells (hp1.push { cls:=.type "dict",data:=.dict #[] }) scope.names,toks:=s2.toks }:=
  ⟨_,_,_,_,IC,.refl (λz=>nf (.inl (by rw[<-B.st ρ1];exact z))),B.j hfree j1,B.ev hfree (uy (ev.mono x1) _ _),upd_same,B.z _ _ _,fp1⟩
 have tn0:tn 0 (pushCells (hp1.push { cls:=.type "dict",data:=.dict #[] }) scope.names):=Tn.keep _ _ _ st2 (λb u o e=>old b o e)
 have loop:codeAny (model X.prog X.w) X.A (.compLoop e 0 (.ref it) (.ref s2.heap.objs.size) (compEnvC scope (cellsFrom (hp1.objs.size+1) scope.names cl) hp1.objs.size X.env))
   (compPost (model X.prog X.w) X.A X.xe use Qs (.ref s2.heap.objs.size) hp1.objs.size) { s2 with heap:=pushCells (hp1.push { cls:=.type "dict",data:=.dict #[] }) scope.names,toks:=s2.toks }:=
  Ge (X:=X.aO YT scope (cellsFrom (hp1.objs.size+1) scope.names cl) (own++fr) fp hp1.objs.size s2 H2) B.ok hc rfl (hturn _ _ _) (hW _ _) (hmono _ _) (hg ..) (ht ..) Tn iok (hb YT (hp1.objs.size+1) fp hp1.objs.size s2 H2 s2.heap.objs.size ρ1 _) (λu u x=>B.kp hfree x) fok st tn0 hrun he λs' c'=>hfin s2 H2 fp _ _ _ ρ1 lf Mf s' I2 f2 (Ur _) hC hfree nf ⟨_,c'⟩ g3
 show codeAny _ _ (.compStart _ 0 (.ref it) (.ref s2.heap.objs.size) (compEnvC scope (cellsFrom (hp1.objs.size+1) scope.names cl) hp1.objs.size X.env)) _ _;exact ph (by rw[hcl];rfl) rfl loop (Tn.self X.A 0 _ _ _ tn0 loop) he
def HW(B:Beg X Z ob o0 gr mk)(he:Dl e)(hcl:clausesOf e=⟨t0,i0,f0,0⟩::gs)(hc:X.calm=true)(T:CompG X scope cl own js fr)(hi:DI X E t0 i0 fi)
  (hturn:∀(Y:Cx) it acc,compTurn e 0 (.ref it) (.ref acc) Y.env=turnOf ⟨t0,i0,f0,0⟩ (bodyK Y acc) (.compLoop e 0 (.ref it) (.ref acc) Y.env) (.ref it) Y.env)
  (hW:∀Y acc,jG Y.prog Y.w Y.A (bodyK Y acc) (W Y acc)) (hmono:∀Y acc P P' s,(∀s,P s->P' s)->W Y acc P s->W Y acc P' s)
  (hg:∀YT m fp C s₂ H₂,DG (X.aO YT scope (cellsFrom m scope.names cl) (own++fr) fp C s₂ H₂) E0 t0 fg) (ht:∀YT m fp C s₂ H₂,DTs (X.aO YT scope (cellsFrom m scope.names cl) (own++fr) fp C s₂ H₂) E0 f0 ft)
  (hb:∀YT m fp C s₂ H₂ acc ρ H0,vV Z (X.aO YT scope (cellsFrom m scope.names cl) (own++fr) fp C s₂ H₂) acc (W (X.aO YT scope (cellsFrom m scope.names cl) (own++fr) fp C s₂ H₂) acc) fb (gr ρ acc) H0)
  (hs:∀y,foldedSetIterable i0 X.env y=pure y)
  (hq:∀(Q:VK) acc H2 ρ1 lf Mf H4 ρ4 o,H2 acc=none->acc∉ρ1->ExtB acc (gr ρ1 acc) (upd H2 acc (o0 acc)) ρ4 H4->J X.mg ρ4 Mf H4->H4 acc=some o->Z acc ρ4 H4 o lf->Go X.mg E Rv Q ρ1 H2 (fin lf) Mf->Q (.ref acc) H4)
  (ee:eval e X.env=comprehension e scope X.env pos mk false (eval i0 X.env) none) :
  PE X e (tD X.mg E Rv λδ=>fi δ>>=λit=>bU (bW fg ft fb it (aP own.length js δ) [])>>=λp=>fin p.2):=by
 intro YT s σ H Q I h;obtain⟨ρ,δ,M,ev,j,g1⟩:=h;rw[ee];refine vq B he hcl hc T hi hturn hW hmono hg ht hb hs I ev j g1 λs2 H2 fp C m acc ρ1 lf Mf s' I2 f2 hA hC hfree nf c' g3=>?_
 obtain⟨δf,c'⟩:=c';obtain⟨σ4,H4,ρ4,o,I4,x4,j4,ev4,ha4,z4,fr4⟩:=c'.ex;obtain⟨m4,hn4,_⟩:=I4.loc;refine⟨m4,hn4,λh' hsb'=>?_⟩
 have un:=yN I4.base hsb' hC;have ok4:=uD I4.hok hsb' I4.free;exact⟨.ref acc,H4,I2.call' (s':={ s' with heap:=h' }) (ch:=fp) (I4.os) un ok4 I4.bare (λb hb=>by obtain⟨_,g2,g3,g4,g5,g6⟩:=f2 b hb;exact⟨g4,g2,g5,g6⟩),rfl,hq Q acc H2 ρ1 lf Mf H4 ρ4 o hfree nf x4 j4 ha4 z4 g3⟩
end
theorem Beg.list:Beg X (ZL X.mg) { cls:=.type "list",dict:=none,data:=.seq ([]:List Value).toArray } (λy=>.lst []) Rh.hold (newList []) where
 ok:=ZL.ok
 nw:=λA E s Q q=>by unfold newList;exact Vd q
 hob:=λH h a e=>⟨W9 _,[],_,.nil,e⟩
 fr:=rfl
 j:=λh j=>j.begin h
 ev:=λh e=>e.kp (lZ h)
 kp:=λh x=>(lZ h).trans (x.kp (.head _))
 st:=λy y=>rfl
 z:=λy y y=>⟨[],rfl,.nil⟩
def wV{cl:List (Str×Addr)}{own:List Str}{js:List Nat}{fr:List Str}{f0:List Expr}{gs:List Comprehension}{fi:aa->DM Itn}{fg:D->aa->DM aa}{ft:aa->DM Bool}{fb:aa->List D->DM (aa×List D)}
  {bodyK:Cx->Addr->Sem Fin->Sem Fin}{W:Cx->Addr->(Shared->Prop)->Shared->Prop} (o:Out) (hc:X.calm=true) (T:CompG X scope cl own js fr) (hi:DI X E t0 i0 fi)
  (hturn:∀(Y:Cx) it acc,compTurn (.ListComp elt (⟨t0,i0,f0,0⟩::gs) scope pos) 0 (.ref it) (.ref acc) Y.env=turnOf ⟨t0,i0,f0,0⟩ (bodyK Y acc) (.compLoop (.ListComp elt (⟨t0,i0,f0,0⟩::gs) scope pos) 0 (.ref it) (.ref acc) Y.env) (.ref it) Y.env)
  (hW:∀Y acc,jG Y.prog Y.w Y.A (bodyK Y acc) (W Y acc)) (hmono:∀Y acc P P' s,(∀s,P s->P' s)->W Y acc P s->W Y acc P' s)
  (hg:∀YT m fp C s₂ H₂,DG (X.aO YT scope (cellsFrom m scope.names cl) (own++fr) fp C s₂ H₂) E0 t0 fg) (ht:∀YT m fp C s₂ H₂,DTs (X.aO YT scope (cellsFrom m scope.names cl) (own++fr) fp C s₂ H₂) E0 f0 ft)
  (hb:∀YT m fp C s₂ H₂ acc,BodyOk (X.aO YT scope (cellsFrom m scope.names cl) (own++fr) fp C s₂ H₂) acc (W (X.aO YT scope (cellsFrom m scope.names cl) (own++fr) fp C s₂ H₂) acc) fb)
  (hs:∀y,foldedSetIterable i0 X.env y=pure y:=by intro _;rfl) :
  DE X E (.ListComp elt (⟨t0,i0,f0,0⟩::gs) scope pos) (λδ=>fi δ>>=λit=>bU (bW fg ft fb it (aP own.length js δ) [])>>=λp=>o.run p.2):=
 ⟨HW Beg.list (.inl ⟨_,_,_,_,rfl⟩) rfl hc T hi hturn hW hmono hg ht (λz z z z z z z z z=>hb _ _ _ _ _ _ _ _ _ (.head _)) hs (λQ acc H2 ρ1 lf Mf H4 ρ4 o' hf nf x4 j4 ha4 ⟨ys,e,c⟩ g=>o.fin hf nf x4 j4 (e ▸ ha4) c g) (eval_ListComp ..)⟩
def bL{cl:List (Str×Addr)}{own:List Str}{js:List Nat}{fr:List Str}{f0:List Expr}{fi:aa->DM Itn}{fg:D->aa->DM aa}{ft:aa->DM Bool}{fe:aa->DM D}
  (o:Out) (hc:X.calm=true) (T:CompG X scope cl own js fr) (hi:DI X E t0 i0 fi)
  (hg:∀YT m fp C s₂ H₂,DG (X.aO YT scope (cellsFrom m scope.names cl) (own++fr) fp C s₂ H₂) E0 t0 fg) (ht:∀YT m fp C s₂ H₂,DTs (X.aO YT scope (cellsFrom m scope.names cl) (own++fr) fp C s₂ H₂) E0 f0 ft)
  (he:∀YT m fp C s₂ H₂,DE (X.aO YT scope (cellsFrom m scope.names cl) (own++fr) fp C s₂ H₂) E0 elt fe)
  (hs:∀y,foldedSetIterable i0 X.env y=pure y:=by intro _;rfl) :
  DE X E (.ListComp elt [⟨t0,i0,f0,0⟩] scope pos) (λδ=>fi δ>>=λit=>bU (bW fg ft (bB fe) it (aP own.length js δ) [])>>=λp=>o.run p.2):=
 wV (bodyK:=λY acc=>jP elt (.ref acc) Y.env) (W:=λY acc P s=>wpAny (model Y.prog Y.w) Y.A (eval elt Y.env) (λx s1=>wpAny (model Y.prog Y.w) Y.A (call (.builtin "list.append") [.ref acc,x]) (λv s2=>P s2) (λv v=>False) s1) (λv v=>False) s) o hc T hi
  (λY it acc=>CT ..) (λY acc=>xg) (λY acc P P' s hp h=>Us h (λx s1 h1=>Us h1 (λv s2 h2=>hp _ h2) λv v z=>z) λv v z=>z) hg ht (λYT m fp C s₂ H₂ acc=>ux rfl (he ..)) hs
def oM(fi:aa->DM Itn)(fg:D->aa->DM aa)(ft:aa->DM Bool)(fb:aa->List D->DM (aa×List D))(δ:aa)(l:List D):DM (aa×List D):=fi δ>>=λit=>bW fg ft fb it δ l
def Iu(hc:X.calm=true)(hxe:X.xe=λy y=>False)
  (hi:DI X E0 t1 i1 fi) (hg:DG X E0 t1 fg) (ht:DTs X E0 f1 ft) (he:DE X E0 elt fe) :
  BodyOk X acc (λP s=>wpAny (model X.prog X.w) X.A (eval i1 X.env) (λx s1=>wpAny (model X.prog X.w) X.A (pyIter x) (λit s2=>
   codeAny (model X.prog X.w) X.A (.compStart (.ListComp elt [⟨t0,i0,f0,0⟩,⟨t1,i1,f1,0⟩] scope pos) 1 it (.ref acc) X.env) (λr s3=>match r with
    |.ok _=>P s3
    |.error _=>False) s2) (λy y=>False) s1) (λy y=>False) s) (oM fi fg ft (bB fe)):=by
 intro ρ0 H0 hacc YT δ l M s δ' l' M' ct e;obtain⟨itn,M2,e1,e3⟩:=DM.bind_ok e;obtain⟨σ,H,ρ,_,I,x,j,ev,ha,⟨ys,rfl,cl⟩,_⟩:=ct.ex;refine Us (hi.h YT s σ H (λJt H1=>∃ρ1,Ext ρ H ρ1 H1/\J X.mg ρ1 M2 H1/\ItOk X.mg ρ1 H1 Jt itn) I ⟨ρ,δ,M,ev,j,_,e1,λρ1 H1 Jt a1 a2 a3=>⟨ρ1,a1,a2,a3⟩⟩) (λv s1 h1=>?_) λy y z=>by rw[hxe]at z;exact z
 refine Us h1 (λitv s2 h2=>?_) λy y z=>by rw[hxe]at z;exact z
 obtain⟨it,fp,tn,Jt,H2,rfl,I2,Tn,st2,f2,ρ1,x1,j1,iok⟩:=h2;have nacc:acc∉ρ.st:=x.na;have ha2:=x1.keep acc _ ha nacc;have na1:acc∉ρ1.st:=λz=>by have:=x1.new acc z nacc;rw[ha]at this;cases this
 have hv1:acc∈ρ1.vo:=by rw[x1.vo,x.vo];exact hacc
 have st:Ry X YT acc ρ1 H2 δ l M2 fp s2:=⟨σ,H2,ρ1,_,I2,.refl na1,j1,ev.mono x1,ha2,⟨ys,rfl,cl.mono x1⟩,λb hb=>(f2 b hb).1⟩
 have fok:∀H',(∀b∈fp,H' b=none)->∀b∈fp,FpOk X YT H' b:=λH' hn b hb=>⟨hn b hb,(f2 b hb).2⟩
 have loop:=Ge ZL.ok hc hxe (Qx elt t0 i0 t1 i1 f0 f1 scope pos (.ref it) (.ref acc) X.env) xg (λP P' s hp h=>Us h (λx s1 h1=>Us h1 (λy s2 h2=>hp _ h2) λy y z=>z) λy y z=>z) hg ht Tn iok (ux hxe he _ _ hv1) (λy y x=>x.kp hv1) fok st st2 e3
  (R:=λr s3=>match r with
    |.ok _=>Ry X YT acc ρ0 H0 δ' l' M' [] s3
    |.error _=>False) (.inl ⟨_,_,_,_,rfl⟩) λs' c'=>by
    obtain⟨σ4,H4,ρ4,o,I4,x4,j4,ev4,ha4,cl4,fr4⟩:=c'.ex;exact⟨σ4,H4,ρ4,o,I4,(x.trans (x1.b na1)).trans x4,j4,ev4,ha4,cl4,λb hb=>nomatch hb⟩
 exact ph rfl rfl loop (Tn.self X.A 0 _ _ _ st2 loop) (.inl ⟨_,_,_,_,rfl⟩)
def wY{cl:List (Str×Addr)}{own:List Str}{js:List Nat}{fr:List Str}{f0 f1:List Expr}{fi fi1:aa->DM Itn}{fg fg1:D->aa->DM aa}{ft ft1:aa->DM Bool}{fe:aa->DM D}
  (o:Out) (hc:X.calm=true) (T:CompG X scope cl own js fr) (hi:DI X E t0 i0 fi)
  (hg:∀YT m fp C s₂ H₂,DG (X.aO YT scope (cellsFrom m scope.names cl) (own++fr) fp C s₂ H₂) E0 t0 fg) (ht:∀YT m fp C s₂ H₂,DTs (X.aO YT scope (cellsFrom m scope.names cl) (own++fr) fp C s₂ H₂) E0 f0 ft)
  (hi1:∀YT m fp C s₂ H₂,DI (X.aO YT scope (cellsFrom m scope.names cl) (own++fr) fp C s₂ H₂) E0 t1 i1 fi1) (hg1:∀YT m fp C s₂ H₂,DG (X.aO YT scope (cellsFrom m scope.names cl) (own++fr) fp C s₂ H₂) E0 t1 fg1)
  (ht1:∀YT m fp C s₂ H₂,DTs (X.aO YT scope (cellsFrom m scope.names cl) (own++fr) fp C s₂ H₂) E0 f1 ft1) (he:∀YT m fp C s₂ H₂,DE (X.aO YT scope (cellsFrom m scope.names cl) (own++fr) fp C s₂ H₂) E0 elt fe)
  (hs:∀y,foldedSetIterable i0 X.env y=pure y:=by intro _;rfl) (hs1:∀(env:Env) y,foldedSetIterable i1 env y=pure y:=by intro _ _;rfl) :
  DE X E (.ListComp elt [⟨t0,i0,f0,0⟩,⟨t1,i1,f1,0⟩] scope pos) (λδ=>fi δ>>=λit=>bU (bW fg ft (oM fi1 fg1 ft1 (bB fe)) it (aP own.length js δ) [])>>=λp=>o.run p.2):=
 wV (bodyK:=λY acc=>sY (.ListComp elt [⟨t0,i0,f0,0⟩,⟨t1,i1,f1,0⟩] scope pos) i1 (.ref acc) Y.env) (W:=λY acc P s=>wpAny (model Y.prog Y.w) Y.A (eval i1 Y.env) (λx s1=>wpAny (model Y.prog Y.w) Y.A (pyIter x) (λit s2=>
   codeAny (model Y.prog Y.w) Y.A (.compStart (.ListComp elt [⟨t0,i0,f0,0⟩,⟨t1,i1,f1,0⟩] scope pos) 1 it (.ref acc) Y.env) (λr s3=>match r with
    |.ok _=>P s3
    |.error _=>False) s2) (λv v=>False) s1) (λv v=>False) s) o hc T hi
  (λY it acc=>Qw ..) (λY acc=>KN (hs1 _)) (λY acc P P' s hp h=>Us h (λx s1 h1=>Us h1 (λv s2 h2=>V2 h2 λr s3 h3=>by cases r with | ok f=>exact hp _ h3 | error x=>exact h3) λv v z=>z) λv v z=>z) hg ht (λYT m fp C s₂ H₂ acc=>Iu (X:=X.aO YT scope (cellsFrom m scope.names cl) (own++fr) fp C s₂ H₂) hc rfl (hi1 ..) (hg1 ..) (ht1 ..) (he ..)) hs
def boot_zip:bootBuiltins "zip"=some (.type "zip"):=by decide +kernel
def frz:D->Option (Bool×List D)
 |.tup l=>some (true,l)
 |.lst l=>some (false,l)
 |_=>none
def pairs:List D->List D->List D
 |x::xs,y::ys=>.tup [x,y]::pairs xs ys
 |_,_=>[]
def yR:List D->Option Itn
 |[x,y]=>match frz x,frz y with
   |some (_,l),some (_,m)=>some (.fix (pairs l m))
   |_,_=>none
 |_=>none
theorem pairs_at:∀ (l m:List D) (i:Nat),(pairs l m)[i]?=match l[i]?,m[i]? with
  |some x,some y=>some (.tup [x,y])
  |_,_=>none
 |[],m,i=>by simp[pairs]
 |x::xs,[],i=>by
   cases i with
   |zero=>simp[pairs]
   |succ i=>simp only[pairs,List.getElem?_nil,List.getElem?_cons_succ];cases xs[i]?<;>rfl
 |x::xs,y::ys,0=>by simp[pairs]
 |x::xs,y::ys,i+1=>by simp only[pairs,List.getElem?_cons_succ];exact pairs_at xs ys i
section
variable{mg:Str->Option Value}{ρ:Rh}{H:Hp}
def xF{K:PySem.W.Frag}{x:V}{d:D}{b:Bool}{l:List D}(c:Cv mg ρ H x d)(e:frz d=some (b,l)):∃a xs,x=.ref a/\a∉ρ/\H a=some (if b then .tup xs else .lst xs)/\Cvs mg ρ H xs l:=by
 cases c with
 |tup n h c=>cases e;exact⟨_,_,rfl,n,h,c⟩
 |lst n h c=>cases e;exact⟨_,_,rfl,n,h,c⟩
 |_=>cases e
def nQ{K:PySem.W.Frag}{b:Bool}{a:Addr}{xs:List V}(h:H a=some (if b then .tup xs else .lst xs)):lq b K H a xs:=by
 cases b with
 |true=>exact SqT.of h
 |false=>exact SqL.of h
def ne_if:∀φ,(if b=true then HO.tup xs else HO.lst ys)≠HO.ext φ:=by cases b<;>nofun
set_option tactic.hygienic true in
def Od{K:PySem.W.Frag}{b1 b2:Bool}{l1 l2:Addr}{xs ys:List V}{ds es:List D}(n1:l1∉ρ)(n2:l2∉ρ)(h1:H l1=some (if b1 then .tup xs else .lst xs))(h2:H l2=some (if b2 then .tup ys else .lst ys))(c1:Cvs mg ρ H xs ds)(c2:Cvs mg ρ H ys es):ItOk mg ρ H (RC K b1 b2 l1 l2) (.fix (pairs ds es)) where
 item:=λi ρ' H' M' d e j q=>by
  have hq:(pairs ds es)[i]?=some d:=Uo q;rw[pairs_at]at hq;split at hq
  ·rename_i dx dy e1 e2;cases hq;obtain⟨x,hx,cx⟩:=c1.get e1;obtain⟨y,hy,cy⟩:=c2.get e2;have k1:=(e.keep _ _ h1 n1 ne_if).2;have k2:=(e.keep _ _ h2 n2 ne_if).2;refine⟨⟨xs,ys,x,y,nQ k1,nQ k2,hx,hy⟩,λv H2 z=>?_⟩
   obtain⟨p,hp,rfl,z⟩:=z;obtain⟨x',y',hx',hy',rfl⟩:=z xs ys (nQ k1) (nQ k2);rw[hx]at hx';cases hx';rw[hy]at hy';cases hy';exact⟨.lay hp,j.lay _ hp,.tup (j.fresh hp) upd_same (.cons ((cx.kp e).mono (.lay hp)) (.cons ((cy.kp e).mono (.lay hp)) .nil))⟩
  ·cases hq
 stop:=λi ρ' H' M' e j q=>by
  have hq:(pairs ds es)[i]?=none:=Uo q;rw[pairs_at]at hq;refine⟨xs,ys,nQ (e.keep _ _ h1 n1 ne_if).2,nQ (e.keep _ _ h2 n2 ne_if).2,?_⟩;cases e1:ds[i]? with
  |none=>exact .inl (U5.mpr (by rw[c1.len];exact U5.mp e1))
  |some dx=>cases e2:es[i]? with
    |none=>exact .inr (U5.mpr (by rw[c2.len];exact U5.mp e2))
    |some dy=>rw[e1,e2]at hq;cases hq
end
set_option tactic.hygienic true in
def Er{X:Cx}{E:XK}{elts:List Expr}{kt:Nat}{tp:Pos}{a b:Expr}{fa:aa->DM (List D)}{p pos:Pos}(hg:Gl X "zip")(hm:X.mg "zip"=none)(ha:DA X E [a,b] fa)(hs:notStar a=true:=by rfl)(hs2:notStar b=true:=by rfl):
  DI X E (.Tuple elts kt tp) (.Call (.Name "zip" p) [a,b] [] pos) (λδ=>fa δ>>=λl=>opt (yR l)):=⟨by
 intro YT s σ H R I h;obtain⟨ρ,δ,M,ev,j,g1⟩:=h;refine Call_ (ld_blt I hg hm boot_zip (VD (thn (ha.h.h pos YT s σ H (λvs H1=>∃ρ1 M1 ds,Ext ρ H ρ1 H1/\J X.mg ρ1 M1 H1/\Cvs X.mg ρ1 H1 vs ds/\Go X.mg E (ItOk X.mg) R ρ1 H1 (opt (yR ds)) M1) I ⟨ρ,δ,M,ev,j,g1.bind λρ1 H1 M1 vs ds e1 j1 c1 g2=>⟨ρ1,M1,ds,e1,j1,c1,g2⟩⟩) λus s1 h1=>?_) (bu hs) (by rw[bu hs2];rfl)))
 obtain⟨vs,H1,I1,rv,ρ1,M1,ds,e1,j1,c1,g2⟩:=h1;obtain⟨itn,ei,q⟩:=g2.opt;unfold yR at ei;split at ei;rotate_left
 ·cases ei
 rename_i dx dy;split at ei;rotate_left
 ·cases ei
 rename_i b1 l b2 m f1 f2;cases ei;obtain⟨v1,v2,rfl,k1,k2⟩:=c1.two;obtain⟨a1,xs,rfl,n1,h1,cx⟩:=xF (K:=X.K) k1 f1;obtain⟨a2,ys,rfl,n2,h2,cy⟩:=xF (K:=X.K) k2 f2;obtain⟨u1,u2,rfl,r1,r2⟩:=vals2 rv;cases r1;cases r2;obtain⟨its1,w1,p1,_⟩:=I1.seqS (nQ (K:=X.K) h1);obtain⟨its2,w2,p2,_⟩:=I1.seqS (nQ (K:=X.K) h2);refine Eb p1 p2 λh' a1' a2' a3 a4 a5 a6 a7=>wpAny_pyIter_zip a1' ?_
 have lt1:@LT.lt Nat _ a1 s1.heap.objs.size:=p1.lt;have lt2:@LT.lt Nat _ a2 s1.heap.objs.size:=p2.lt;have D:ZipApart (s1.heap.objs.size+4) (s1.heap.objs.size+2) (s1.heap.objs.size+3) s1.heap.objs.size (s1.heap.objs.size+1) a1 a2:=by constructor<;>exact λ(h:@Eq Nat _ _)=>by have:=lt1;have:=lt2;lia
 have I2:Inv X YT σ H1 { s1 with heap:=h' }:=I1.kept (t':=s1.toks) a7
 refine⟨_,_,_,_,H1,rfl,I2,JB D,⟨a1',a2',⟨_,_,a3⟩,a4.1,a5.1⟩,λb hb=>?_,q ρ1 H1 _ .refl j1 (Od n1 n2 h1 h2 cx cy)⟩
 refine I1.fpOk ?_ (I1.hok.fresh ?_)<;>(simp only[List.mem_cons,List.mem_nil_iff,or_false]at hb;rcases hb with rfl | rfl | rfl | rfl | rfl<;>lia)⟩
def RM:List Str:=["TooMany", "NoText"]
structure XTab(K:PySem.W.Frag)(mg:Str->Option Value)(ns:List Str)(F:Addr):Prop where
 cls:∀a∈ns,∃C,mg a=some (.ref C)/\XAt K C/\Catches K C F
 own:∀a∈ns,RM.contains a=false->∀C,mg a=some (.ref C)->PySem.W.excIn K C dW "ValueError.__new__"=true
 kit:∀a∈ns,∀b∈ns,∀C D,mg a=some (.ref C)->mg b=some (.ref D)->PySem.W.kitOne K (.ref C) (.ref D)=some (a==b)
def qR{P:Program}{w:World}{K:PySem.W.Frag}{mg:Str->Option Value}{base:Heap}{N:List Str}{qual:Str}{scope:Scope}{f:Addr}{cd:Value}{A:Around}{outer:List Env}{s:Shared}{H:Hp}{E:XK}{ns:List Str}{F:Addr}{x:Str}{np cpos pos:Pos}{e:Expr}{fe:aa->DM D}
  (T:XTab K mg ns F) (hx:x∈ns) (he:DE (aH P w K mg base N qual scope f cd A outer s H E) E e fe)
  (hg:Gl (aH P w K mg base N qual scope f cd A outer s H E) x:=by rfl) (hd:(x==("__debug__":Str))=false:=by decide) (hxf:RM.contains x=false:=by decide +kernel)
  (hst:starEach [e] (aH P w K mg base N qual scope f cd A outer s H E).env=[(false,eval e (aH P w K mg base N qual scope f cd A outer s H E).env)]:=by rfl) :
  DS (aH P w K mg base N qual scope f cd A outer s H E) E (.Raise (some (.Call (.Name x np) [e] [] cpos)) none pos) (λδ=>fe δ>>=λz=>raise x):=by
 obtain⟨C,xm,_,_⟩:=T.cls x hx;have xc:XCls K mg x C:=⟨xm,T.own x hx hxf C xm⟩;refine⟨PS.mono (L2.Jr xc he.h hg hd hst) λD σ H h=>?_⟩
 obtain⟨ρ,δ,M,ev,j,g1⟩:=h;refine⟨ρ,δ,M,ev,j,g1.bind λρ1 H1 M1 v d e1 j1 c1 g2=>⟨rfl,?_⟩⟩
 obtain⟨r,er,p⟩:=g2;cases er;exact p ρ1 H1 C .refl j1 xc.at_ none rfl
def Ev.forget(h:Ev mg ρ H σ δ):Ev mg ρ H (σ.set i none) (δ.set i none):=by
 refine⟨by rw[Vx,Vx,h.len],λj x q=>?_⟩
 by_cases e:j=i
 ·subst e;have hj:j<(δ.set j none).length:=(Uj.mp q).1;rw[Vx]at hj;rw[U3 hj]at q;cases q
 ·rw[Vl (λz=>e z.symm)]at q ⊢
  exact h.val j x q
def Jf(i:Nat):Fl->DM Fl
 |.nx δ=>pure (.nx (δ.set i none))
 |.bk δ=>pure (.bk (δ.set i none))
 |.ct δ=>pure (.ct (δ.set i none))
 |.rt d=>pure (.rt d)
def Ue(ns:List Str)(n i:Nat)(fb:aa->DM Fl)(fh:Str->aa->DM Fl)(δ:aa):DM Fl:=λM=>match fb δ M with
 |some (.exc ⟨c,[]⟩,M')=>if ns.contains c then (bU (fh c ((List.replicate n none).set i (some (.exn 0))))>>=Jf i) M' else none
 |some (.exc _,_)=>none
 |r=>r
def Ub(ns:List Str)(c:Str):List D->Mo->Option D
 |[.exn _,.cls k],_=>if ns.contains k then some (.bl (c==k)) else none
 |_,_=>none
def JL(a:α)(f:α->DM β):((Pure.pure a:DM α)>>=f)=f a:=rfl
def Pa(a:α):(opt (some a):DM α)=Pure.pure a:=rfl
def Bb(m:DM α)(f:α->DM β)(g:β->DM γ):(m>>=f)>>=g=m>>=λa=>f a>>=g:=by
 funext M;show DM.bind (DM.bind m f) g M=DM.bind m (λa=>DM.bind (f a) g) M
 unfold DM.bind;cases m M with
 |none=>rfl
 |some r=>obtain⟨r,M'⟩:=r;cases r<;>rfl
section
variable{X:Cx}{E:XK}{a b c:Expr}{fa fb fc:aa->DM D}{pos:Pos}
def qW:D->Mo->Option D
 |.int i,_=>if i.natAbs.log2<1920 then some (.str (toString i)) else none
 |_,_=>none
set_option tactic.hygienic true in
def sO(ha:DE X E a fa):DE X E (.FormattedValue a (-1) none pos) (λδ=>fa δ >>= λx=>rd (qW x)):=⟨PE.mono (Pj ha.h) λσ H Q h=>by
 obtain⟨ρ,δ,M,ev,j,g1⟩:=h;refine⟨ρ,δ,M,ev,j,g1.bind λρ1 H1 M1 x dx e1 j1 c1 g2=>?_⟩
 obtain⟨d,e,q⟩:=g2.rd;unfold qW at e;split at e
 ·split at e
  ·cases e;cases c1;exact⟨_,rfl,‹_›,q ρ1 H1 _ .refl j1 (.str _)⟩
  ·cases e
 ·cases e⟩
def strOf:D->Option Str
 |.str x=>some x
 |_=>none
def Oj(fa fb fc:aa->DM D)(δ:aa):DM D:=fa δ>>=λx=>opt (strOf x)>>=λa=>(if a.length<=sizeLine then pure () else stuck)>>=λw=>fb δ>>=λy=>opt (strOf y)>>=λb=>(if a.length+b.length<=sizeLine then pure () else stuck)>>=λw=>fc δ>>=λz=>opt (strOf z)>>=λc=>if a.length+b.length+c.length<=sizeLine then pure (.str (Str.empty++a++b++c)) else stuck
theorem Go.strOf(g:Go mg E rel Q ρ H (L3.opt (L3.strOf d)>>=k) M):∃x,d=.str x/\Go mg E rel Q ρ H (k x) M:=by
 cases d with
 |str x=>exact⟨x,rfl,g⟩
 |_=>obtain⟨r,e,_⟩:=g;cases e
def Go.ite[Decidable p](g:Go mg E rel Q ρ H (if p then m else stuck) M):p/\Go mg E rel Q ρ H m M:=by
 by_cases h:p
 ·rw[Uv h]at g;exact⟨h,g⟩
 ·rw[Ux h]at g;obtain⟨r,e,_⟩:=g;cases e
def Go.iteB[Decidable p](g:Go mg E rel Q ρ H ((if p then (Pure.pure ():DM Unit) else stuck)>>=k) M):p/\Go mg E rel Q ρ H (k ()) M:=by
 by_cases h:p
 ·rw[Uv h]at g;exact⟨h,g⟩
 ·rw[Ux h]at g;obtain⟨r,e,_⟩:=g;cases e
def Ie(ha:DE X E a fa)(hb:DE X E b fb)(hc:DE X E c fc):DE X E (.JoinedStr [a,b,c] pos) (Oj fa fb fc):=⟨PE.mono (Jk ha.h hb.h hc.h) λσ H Q h=>by
 obtain⟨ρ,δ,M,ev,j,g1⟩:=h;refine⟨ρ,δ,M,ev,j,Go.bind g1 λρ1 H1 M1 x dx e1 j1 c1 g2=>?_⟩
 obtain⟨sa,rfl,g2⟩:=g2.strOf;obtain⟨h1,g2⟩:=g2.iteB;cases c1;refine⟨sa,rfl,h1,ρ1,δ,M1,ev.mono e1,j1,g2.bind λρ2 H2 M2 y dy e2 j2 c2 g3=>?_⟩
 obtain⟨sb,rfl,g3⟩:=g3.strOf;obtain⟨h2,g3⟩:=g3.iteB;cases c2;refine⟨sb,rfl,h2,ρ2,δ,M2,(ev.mono e1).mono e2,j2,g3.bind λρ3 H3 M3 z dz e3 j3 c3 g4=>?_⟩
 obtain⟨sc,rfl,g4⟩:=g4.strOf;obtain⟨h3,g4⟩:=g4.ite;cases c3;exact⟨sc,rfl,h3,g4.pure ρ3 H3 _ .refl j3 (.str _)⟩⟩
def boolsOf:List D->Option (List Bool)
 |[]=>some []
 |.bl b::l=>(boolsOf l).map (b::·)
 |_=>none
theorem qM:∀ {xs:List V}{l:List D}{bs:List Bool},Cvs mg ρ H xs l->boolsOf l=some bs->xs=bs.map V.bl
 |_,_,_,.nil,e=>by cases e;rfl
 | _,_,_,.cons (d:=d) c cs,e=>by
   cases d with
   |bl i=>obtain⟨ms,h1,rfl⟩:=Up.mp e;cases c;rw[qM cs h1];rfl
   |_=>cases e
def wW:D->List D->DM D
 |x,[.bl b]=>rd λM=>(aR x M).bind λl=>(boolsOf l).map λbs=>.int (bs.countP (·== b):Nat)
 |_,_=>stuck
def Gj:Dm X E "list.count" wW:=by
 intro YT s σ H x xs v us Q I rx rs q;obtain⟨ρ,M,d,ds,j,cx,cs,g⟩:=q;cases cs with
 |nil=>obtain⟨r,e,_⟩:=g;cases e
 | cons c cs=>cases cs with
   |cons _ _=>obtain⟨r,e,_⟩:=g;cases c<;>cases e
   | nil=>cases c with
     |bl b=>obtain⟨d',e,p⟩:=Go.rd g;obtain⟨l,h1,e1⟩:=UT.mp e;obtain⟨bs,h2,rfl⟩:=Up.mp e1;obtain⟨a,ys,rfl,ha,cl⟩:=cC j cx h1;have:=qM cl h2;subst this;exact Ja (X:=X) YT s σ H _ _ v us Q I rx rs ⟨a,bs,b,rfl,rfl,ha,p ρ H _ .refl j (.int _)⟩
     |_=>obtain⟨r,e,_⟩:=g;cases e
def findB(b:Bool):List Bool->Option Nat
 |[]=>none
 |c::l=>if c==b then some 0 else (findB b l).map (·+ 1)
set_option tactic.hygienic true in
theorem sW{b:Bool}:∀ {l:List Bool}{n:Nat},findB b l=some n->l[n]?=some b/\∀ m c,m<n->l[m]?=some c->(c == b)=false
 |[],n,h=>by cases h
 | c::l,n,h=>by
   unfold findB at h;split at h
   ·rename_i hc;cases h;exact⟨by rw[Wb.mp hc];rfl,λm c hm=>absurd hm (Nat.not_lt_zero _)⟩
   ·rename_i hc;obtain⟨k,h1,rfl⟩:=Up.mp h;obtain⟨a1,a2⟩:=sW h1;refine⟨by simpa using a1,λm c' hm e=>?_⟩
    cases m with
    |zero=>simp at e;subst e;simpa using hc
    |succ m=>exact a2 m c' (by lia) (by simpa using e)
def xN:D->List D->DM D
 |x,[.bl b]=>rd λM=>(aR x M).bind λl=>(boolsOf l).bind λbs=>(findB b bs).bind λn=>if n<1000 then some (.int (n:Nat)) else none
 |_,_=>stuck
set_option tactic.hygienic true in
def Gk:Dm X E "list.index" xN:=by
 intro YT s σ H x xs v us Q I rx rs q;obtain⟨ρ,M,d,ds,j,cx,cs,g⟩:=q;cases cs with
 |nil=>obtain⟨r,e,_⟩:=g;cases e
 | cons c cs=>cases cs with
   |cons _ _=>obtain⟨r,e,_⟩:=g;cases c<;>cases e
   | nil=>cases c with
     | bl b=>
       obtain⟨d',e,p⟩:=Go.rd g;obtain⟨l,h1,e1⟩:=UT.mp e;obtain⟨bs,h2,e2⟩:=UT.mp e1;obtain⟨n,h3,e3⟩:=UT.mp e2;split at e3
       ·rename_i hn;cases e3;obtain⟨a,ys,rfl,ha,cl⟩:=cC j cx h1;have:=qM cl h2;subst this;obtain⟨f1,f2⟩:=sW h3;exact Jb (X:=X) YT s σ H _ _ v us Q I rx rs ⟨a,bs,b,n,rfl,rfl,ha,f1,f2,hn,p ρ H _ .refl j (.int _)⟩
       ·cases e3
     |_=>obtain⟨r,e,_⟩:=g;cases e
end
set_option tactic.hygienic true in
theorem ig:∀ {names:List (Str×NameKind)}{m:Nat}{y:Str}{c:Addr},(y,c)∈cellsFrom m names []->(y,NameKind.cell)∈names
 |[],_,_,_,h=>nomatch h
 | (n,k)::r,m,y,c,h=>by
   unfold cellsFrom at h;split at h
   ·rename_i hk;rw[bY]at h;rcases Vr.mp h with z | z
    ·exact .tail _ (ig z)
    ·cases U7.mp z;have hk':k=.cell:=by cases k<;>first | rfl | cases hk
     rw[hk'];exact .head _
   ·exact .tail _ (ig h)
def isC:NameKind->Bool
 |.cell=>true
 |_=>false
def N7(h:isC k=true):k=.cell:=by cases k<;>first | rfl | cases h
set_option tactic.hygienic true in
def uM(h:(names.all λp=>!isC p.2 || (match names.lookup p.1 with | some k=>isC k | none=>false))=true):∀(m:Nat) y c,(cellsFrom m names []).lookup y=some c->names.lookup y=some .cell:=λm y c e=>by
 have hm:=ig (Vy e);have q:=Xj.mp h _ hm;simp only[isC,Bool.not_true,Bool.false_or]at q;split at q
 ·rename_i k hk;rw[hk,N7 q]
 ·cases q
def uO{cl:List (Str×Addr)}{names:List (Str×NameKind)}(h:wI (λp=>(match names.lookup p.1 with | some k=>isC k | none=>false)=false) cl):∀y c,cl.lookup y=some c->names.lookup y≠some .cell:=λy c e z=>by have:=lN h (y,c) (L2.mem_of_lookup e);simp only[z,isC]at this;cases this
end L3
namespace L3
open PySem PySem.Spec L2
@[simp] theorem aF(a:α)(f:α->DM β):((Pure.pure a:DM α)>>=f)=f a:=id rfl
@[simp] theorem aK(m:DM α)(f:α->DM β)(g:β->DM γ):(m>>=f)>>=g=m>>=λa=>f a>>=g:=Bb m f g
@[simp] theorem yC(a:α):(opt (some a):DM α)=Pure.pure a:=id rfl
@[simp] theorem T4(a:α):bU (Pure.pure a:DM α)=Pure.pure a:=id rfl
@[simp] theorem Sy(c:Str)(f:α->DM β):((raise c:DM α)>>=f)=raise c:=id rfl
def cH{α:Type}{f:Mo->Option α}{a:α}(h:∀M,f M=some a):(rd f:DM α)=Pure.pure a:=by funext M;show (f M).map _=_;rw[h M];rfl
@[simp] theorem Ce(f g:aa->DM Fl)(δ:aa):jE f g δ=f δ>>=λr=>match r with
 |.nx δ'=>g δ'
 |r=>Pure.pure r:=id rfl
@[simp] theorem bj(i:Nat)(δ:aa):aY i δ=opt ((δ[i]?).join):=id rfl
@[simp] theorem cQ(b:Bool):fu (.bl b)=Pure.pure b:=id rfl
@[simp] theorem GF(p n:Nat)(fb:aa->DM Fl)(ds:List D):aG p n fb ds=if ds.length=p then fb (b7 n ds)>>=λr=>match r with
 |.nx _=>Pure.pure .non
 |.rt d=>Pure.pure d
 |_=>stuck else stuck:=id rfl
@[simp] theorem SJ(n:Nat)(ds:List D):b7 n ds=ds.map some++List.replicate (n-ds.length) none:=id rfl
@[simp] theorem oZ(i:Nat)(d:D)(δ:aa):gN i d δ=Pure.pure (δ.set i (some d)):=id rfl
@[simp] theorem R9(n:Nat)(fs:List D->aa->DM aa)(l:List D)(δ:aa):gT n fs (.tup l) δ=if l.length=n then fs l δ else stuck:=id rfl
@[simp] theorem Q8(f:D->aa->DM aa)(fs:List D->aa->DM aa)(d:D)(l:List D)(δ:aa):bK f fs (d::l) δ=f d δ>>=λδ'=>fs l δ':=id rfl
@[simp] theorem Q9(δ:aa):fQ [] δ=Pure.pure δ:=id rfl
@[simp] theorem T8(i j:Nat)(fa:aa->DM (List D))(δ:aa):q8 i j fa δ=fa δ>>=λl=>match l with
 |[v,w]=>Pure.pure (.nx ((δ.set i (some v)).set j (some w)))
 |_=>stuck:=id rfl
@[simp] theorem Q6(i j:Int):(rd (iW (.int i) (.int j)):DM D)=Pure.pure (.int (i+j)):=id rfl
@[simp] theorem Ri(i j:Int):(rd (Jy (.int i) (.int j)):DM D)=Pure.pure (.int (i-j)):=id rfl
@[simp] theorem Sq(i j:Int):(rd (JT (.int i) (.int j)):DM D)=Pure.pure (.bl (decide (i<j))):=id rfl
@[simp] theorem Sh(i j:Int):(rd (qt (.int i) (.int j)):DM D)=Pure.pure (.bl (decide (i<=j))):=id rfl
@[simp] theorem Sg(i j:Int):(rd (xK (.int i) (.int j)):DM D)=Pure.pure (.bl (decide (j<i))):=id rfl
@[simp] theorem Sd(i j:Int):(rd (xJ (.int i) (.int j)):DM D)=Pure.pure (.bl (decide (j<=i))):=id rfl
@[simp] theorem T3(i:Int):(rd (BW (.int i)):DM D)=Pure.pure (.int (-i)):=id rfl
@[simp] theorem Q5(i:Int):(rd (ut [.int i]):DM D)=Pure.pure (.int (if i<0 then -i else i)):=id rfl
@[simp] theorem PP(i j:Int):(rd (BR [.int i,.int j]):DM D)=Pure.pure (.int (if j > i then j else i)):=id rfl
@[simp] theorem PQ(i j:Int):(rd (BV [.int i,.int j]):DM D)=Pure.pure (.int (if j<i then j else i)):=id rfl
def ud{i j:Int}(h:0<j):(rd (gF (.int i) (.int j)):DM D)=Pure.pure (.int (i%j)):=cH λM=>by simp[cF,h]
def mD{i j:Int}(h:gH i j=true):(rd (cG (.int i) (.int j)):DM D)=Pure.pure (.int (i*j)):=cH λM=>by simp[cF,h]
def GJ{i j:Int}(h:pI i j=true):(rd (lV (.int i) (.int j)):DM D)=Pure.pure (.int (i / j)):=cH λM=>by simp[cF,h]
def Rg{i j:Int}(h:J3 i j=true):(rd (Jq (.int i) (.int j)):DM D)=Pure.pure (.int (i^j.toNat)):=cH λM=>by simp[cF,h]
set_option tactic.hygienic true in
def bits_le(h:i.natAbs<2^n):Builtin.Int.intBits i<=n:=by
 unfold Builtin.Int.intBits;split
 ·exact W9 _
 ·rename_i h0;have:i.natAbs≠0:=by intro z;apply h0;simp;lia
  exact (Nat.log2_lt this).mpr h
def uL(h:i.natAbs<2^64):gH i j=true:=by
 unfold gH;have:¬ (Builtin.Int.intBits i > shortFactorBits):=by have:=bits_le h;unfold shortFactorBits;lia
 simp[this]
def pM(h:j.natAbs<2^64):gH i j=true:=by
 unfold gH;have:¬ (Builtin.Int.intBits j > shortFactorBits):=by have:=bits_le h;unfold shortFactorBits;lia
 simp[this]
def zq(h0:0<j)(h:j.natAbs<2^1000):pI i j=true:=by
 unfold pI;have a:Builtin.divisionGoesByPylong i j=false:=by
  unfold Builtin.divisionGoesByPylong;have hj:j.natAbs≠0:=by lia
  have hl:j.natAbs.log2<1000:=(Nat.log2_lt hj).mpr h;have h0':(j==0)=false:=by simp;lia
  simp only[h0'];have:¬ (j.natAbs.log2 / 30+1 > 300):=by lia
  simp[this]
 simp[a,h0]
def PX{a b:Nat}(h:a<2^64):(rd (cG (.int (a:Int)) (.int (b:Int))):DM D)=Pure.pure (.int ((a*b:Nat):Int)):=by rw[mD (uL (by simpa using h)),Int.natCast_mul]
def yx{a b:Nat}(h0:0<b):(rd (gF (.int (a:Int)) (.int (b:Int))):DM D)=Pure.pure (.int ((a%b:Nat):Int)):=by rw[ud (by lia),Int.natCast_emod]
def nD(n:Nat):D:=.int (n:Int)
def nT(l:List Nat):D:=.tup (l.map nD)
def oh{α:Type}{l:List α}{i:Nat}{a:α}(h:l[i]?=some a):atI l (i:Int)=some a:=by
 have hi:=(Uj.mp h).1;unfold atI ixN;rw[Uv (by lia),Uv (by lia)]
 simpa using h
def J6{l:List D}{i:Nat}{a:D}(h:l[i]?=some a):(rd (gk (.tup l) (.int (i:Int))):DM D)=Pure.pure a:=cH λM=>oh h
def tZ{l:List D}{i:Nat}{a:D}(h:l[i]?=some a):(rd (gk (.lst l) (.int (i:Int))):DM D)=Pure.pure a:=cH λM=>oh h
def Rc{l:List Nat}{i:Nat}{a:Nat}(h:l[i]?=some a):(rd (gk (nT l) (.int (i:Int))):DM D)=Pure.pure (nD a):=J6 (by simp[h])
@[simp] theorem Tu(l:List D):(rd (kj [.tup l]):DM D)=Pure.pure (.int (l.length:Int)):=id rfl
@[simp] theorem Tt(l:List D):(rd (kj [.lst l]):DM D)=Pure.pure (.int (l.length:Int)):=id rfl
@[simp] theorem PN(l:List Int):(rd (kj [.scr l]):DM D)=Pure.pure (.int (l.length:Int)):=id rfl
@[simp] theorem Tw(l:List D):(rd (pq [.lst l]):DM D)=Pure.pure (.tup l):=id rfl
@[simp] theorem Tz(l:List D):(rd (pq [.tup l]):DM D)=Pure.pure (.tup l):=id rfl
theorem oO:∀l:List Nat,intsOf (l.map nD)=some (l.map λn:Nat=>(n:Int))
 |[]=>rfl
 |i::l=>by simp[intsOf,nD];exact oO l
theorem rK:∀l:List Nat,(l.map λn:Nat=>(n:Int)).sum=((l.sum:Nat):Int)
 |[]=>rfl
 |i::l=>by simp[rK l]
@[simp] theorem Qa(l:List Nat):(rd (yK [nT l]):DM D)=Pure.pure (nD l.sum):=cH λM=>by show (intsOf (l.map nD)).map _=_;rw[oO];simp[nD,rK]
@[simp] theorem G3(l:List Nat):(rd (yK [.lst (l.map nD)]):DM D)=Pure.pure (nD l.sum):=cH λM=>by show (intsOf (l.map nD)).map _=_;rw[oO];simp[nD,rK]
@[simp] theorem yD{n:Nat}(h:n<2^62):o4 [.int (n:Int)]=some (.fix ((List.range n).map nD)):=by
 have:Cp (n:Int)=true:=by unfold Cp;exact U8 ⟨by lia,by lia⟩
 simp[o4,this,rm,nD]
@[simp] theorem TQ(l:List D):rY (.tup l)=some (.fix l):=id rfl
def uc(h:l.length<=1000000):qu l=Pure.pure (.tup l):=by
 have:gf l=true:=by unfold gf;exact U8 (by show l.length<=2^24;lia)
 simp[qu,this]
def jZ(h:l.length<=1000000):jl l=Pure.pure (.lst l):=by
 have:gf l=true:=by unfold gf;exact U8 (by show l.length<=2^24;lia)
 simp[jl,this]
@[simp] theorem zU(fg:D->aa->DM aa)(ft:aa->DM Bool)(fb:aa->List D->DM (aa×List D))(ds:List D)(δ:aa)(l:List D):bW fg ft fb (.fix ds) δ l=aZ fg ft fb ds δ l:=id rfl
theorem qZ(S:aa->Prop)(en:D->aa)(p:D->Bool)(e:D->D):∀ (ds:List D) (δ:aa) (l:List D),S δ->l.length + ds.length<=1000000->
  (∀d∈ds,∀δ,S δ->fg d δ=Pure.pure (en d)/\S (en d))->(∀d∈ds,ft (en d)=Pure.pure (p d))->(∀d∈ds,p d=true->fe (en d)=Pure.pure (e d))->∃δ',aZ fg ft (bB fe) ds δ l=Pure.pure (δ',l++(ds.filter p).map e)
 |[],δ,l,_,_,_,_,_=>⟨δ,by simp[aZ]⟩
 | d::ds,δ,l,s,hl,h0,h1,h2=>by
   have a:=h0 d (UW ..) δ s;have b:=h1 d (UW ..);have hl':l.length+(ds.length+1)<=1000000:=by simpa using hl
   have lt:l.length<sizeLine:=by show l.length<2^24;lia
   have ih:=λl' hl'=>qZ S en p e ds (en d) l' a.2 hl' (λx hx=>h0 x (Vj _ hx)) (λx hx=>h1 x (Vj _ hx)) (λx hx=>h2 x (Vj _ hx))
   by_cases hp:p d=true
   ·have c:=h2 d (UW ..) hp;obtain⟨δ',q⟩:=ih (l++[e d]) (by simp;lia)
    refine⟨δ',?_⟩;simp[aZ,a.1,b,hp,bB,c,lt,q]
   ·obtain⟨δ',q⟩:=ih l (by lia)
    refine⟨δ',?_⟩;simp[aZ,a.1,b,hp,q]
@[simp] theorem GZ(l:List D):Out.run .val l=Pure.pure (.lst l):=id rfl
def QF{ft:aa->DM Bool}{fe:aa->DM D}{x:Option D}{rest:aa}{ds:List D}(p:D->Bool)(e:D->D)(hl:ds.length<=1000000)(h1:∀d∈ds,ft (some d::rest)=Pure.pure (p d))(h2:∀d∈ds,p d=true->fe (some d::rest)=Pure.pure (e d)){β:Type}{k:aa×List D->DM β}{k':List D->DM β}(hk:∀q,k q=k' q.2):
  (bU (aZ (gN 0) ft (bB fe) ds (x::rest) [])>>=k)=k' ((ds.filter p).map e):=by
 obtain⟨δ',q⟩:=qZ (fg:=gN 0) (ft:=ft) (fe:=fe) (λδ=>∃x,δ=x::rest) (λd=>some d::rest) p e ds (x::rest) [] ⟨x,rfl⟩ (by simpa using hl) (λd _ δ ⟨x,h⟩=>⟨by subst h;rfl,_,rfl⟩) h1 h2
 rw[q];simp[hk]
@[simp] theorem Sx(m:DM α):(m>>=λa=>(Pure.pure a:DM α))=m:=by
 funext M;show DM.bind m _ M=m M;unfold DM.bind;cases m M with
 |none=>rfl
 |some r=>obtain⟨r,M'⟩:=r;cases r<;>rfl
def mj:Option D->List D->Option D
 |x,[]=>x
 |_,d::ds=>mj (some d) ds
def pL:Option D->Option D->List D->List D->aa
 |x,y,a::as,b::bs=>pL (some a) (some b) as bs
 |x,y,_,_=>[x,y]
theorem oK:∀ (as bs:List Int),PyData.eqvAll (as.map .int) (bs.map .int)=decide (as=bs)
 |[],[]=>by simp[PyData.eqvAll]
 |[],b::bs=>by simp[PyData.eqvAll]
 |a::as,[]=>by simp[PyData.eqvAll]
 |a::as,b::bs=>by rw[Vo,Vo];simp only[PyData.eqvAll,PyData.eqv,oK as bs];by_cases h:a=b<;>by_cases h2:as=bs<;>simp[h,h2]
theorem mU:∀l:List Int,eQ (l.map D.int)=some (l.map PyData.int)
 |[]=>rfl
 |i::l=>by simp[eQ,toPy,mU l]
theorem lay_ints:∀l:List Int,PyData.canLayAll0 (l.map PyData.int)=true
 |[]=>rfl
 |i::l=>by simp[PyData.canLayAll0,PyData.canLay0,lay_ints l]
theorem lU:∀ l:List Int,PyData.depthAll (l.map PyData.int)<=1
 |[]=>by simp[PyData.depthAll]
 |i::l=>by
   have:=lU l;simp only[List.map_cons,PyData.depthAll,PyData.depth]
   lia
@[simp] theorem Q7(i j:Int):(rd (eE (.int i) (.int j)):DM D)=Pure.pure (.bl (decide (i=j))):=cH λM=>by simp[eE,eqB,eqP,toPy,PyData.canLay0,PyData.depth,PyData.eqv];rw[Va];simp
@[simp] theorem Rf(i j:Int):(rd (iH (.int i) (.int j)):DM D)=Pure.pure (.bl (!decide (i=j))):=cH λM=>by simp[iH,eqB,eqP,toPy,PyData.canLay0,PyData.depth,PyData.eqv];rw[Va];simp
@[simp] theorem TX(i j:Str):(rd (eE (.str i) (.str j)):DM D)=Pure.pure (.bl (decide (i=j))):=id rfl
@[simp] theorem vX(i j:Str):(rd (iH (.str i) (.str j)):DM D)=Pure.pure (.bl (!decide (i=j))):=id rfl
def xj(a b:List Int):eqB (.tup (a.map D.int)) (.tup (b.map D.int))=some (decide (a=b)):=by
 have:=lU a;have h:∀n,n<=1->1+n<=60:=λn h=>by lia
 simp only[eqB,eqP,toPy,mU,Option.map_some,PyData.canLay0,lay_ints,PyData.depth,PyData.eqv,oK];simp
 lia
def lD(l:List Nat):nT l=.tup ((l.map λn:Nat=>(n:Int)).map D.int):=by simp[nT,nD,Function.comp_def]
def qN{a b:List Nat}:(a.map λn:Nat=>(n:Int))=(b.map λn:Nat=>(n:Int)) ↔ a=b:=List.map_inj_right λx y (h:(x:Int)=(y:Int))=>by lia
@[simp] theorem TV(a b:List Nat):(rd (eE (nT a) (nT b)):DM D)=Pure.pure (.bl (decide (a=b))):=cH λM=>by rw[lD,lD,eE,xj];simp[qN]
@[simp] theorem TY(a b:List Nat):(rd (iH (nT a) (nT b)):DM D)=Pure.pure (.bl (!decide (a=b))):=cH λM=>by rw[lD,lD,iH,xj];simp[qN]
theorem Aj:∀l:List Bool,gj (l.map D.bl)=some l
 |[]=>rfl
 |b::l=>by simp[gj,Jz,Aj l]
@[simp] theorem GD(l:List Bool):(rd (uv [.lst (l.map D.bl)]):DM D)=Pure.pure (.bl (l.all id)):=cH λM=>by simp[uv,aR,Aj]
theorem Ho:∀ l:List Nat,gj (l.map nD)=some (l.map λn=>n != 0)
 |[]=>rfl
 |b::l=>by simp only[List.map_cons,gj,Ho l,nD,Jz];congr 2;rw[Va];simp
@[simp] theorem Tr(l:List Nat):(rd (Ax [nT l]):DM D)=Pure.pure (.bl (l.any (·!= 0))):=cH λM=>by simp[Ax,nT,Ho,List.any_map]
theorem zg:∀ l:List Nat,l.any (·!= 0)=decide (0<l.sum)
 |[]=>rfl
 |a::l=>by
   rw[List.any_cons,zg l,Va];simp only[Bool.or_eq_true,bne_iff_ne,decide_eq_true_eq,ne_eq];rw[W5]
   lia
def tY(h:∀M,tyOf d M=some t)(hc:tys.contains c=true):(rd (kh [d,.ty c]):DM D)=Pure.pure (.bl (CP t c)):=cH λM=>by simp only[kh,h M,Option.bind_some,hc,if_true]
@[simp] theorem G4(b:Bool):(rd (mV (.bl b)):DM Bool)=Pure.pure b:=id rfl
def mR(d:D):Prop:=∃s,(rd (vY [d]):DM D)=Pure.pure (.str s)
def pW(h:toPy d=some p)(h1:p.showable=true)(h2:p.depth<=60)(h3:cX p<=sizeLine):mR d:=⟨p.shown,cH λM=>by simp[vY,Jv,h,h1,h2,h3]⟩
def Hh{l:List Int}(h:∀ i∈l,i.natAbs<2 ^ 1000):PyData.showableAll (l.map PyData.int)=true:=by
 induction l with
 |nil=>rfl
 | cons i l ih=>
   have h0:=h i (by simp)
   have:i.natAbs.log2<1920:=by
    rcases WF i.natAbs with z | z
    ·rw[z];decide
    ·exact Um ((Nat.log2_lt (by lia)).mpr h0) (by decide)
   simp[PyData.showableAll,PyData.showable,this,ih λi hi=>h i (by simp[hi])]
theorem wN:∀l:List Int,fL (l.map PyData.int)=1923*l.length
 |[]=>rfl
 |i::l=>by simp only[List.map_cons,fL,cX,wN l,List.length_cons];lia
@[simp] theorem TF(l m:List D):yR [.tup l,.tup m]=some (.fix (pairs l m)):=id rfl
def Rn{α:Type}(m:DM α)(M:Mo)(Q:α->Mo->Prop):Prop:=∃a M',m M=some (.ok a,M')/\Q a M'
theorem Rn.bind(h:Rn m M Q1)(k:∀a M',Q1 a M'->Rn (f a) M' Q):Rn (m>>=f) M Q:=by obtain⟨a,M',e,q⟩:=h;obtain⟨b,M2,e2,q2⟩:=k a M' q;refine⟨b,M2,?_,q2⟩;show DM.bind m f M=_;unfold DM.bind;rw[e];exact e2
theorem Rn.pure(q:Q a M):Rn (Pure.pure a) M Q:=⟨a,M,rfl,q⟩
def Rn.mono{α:Type}{m:DM α}{Q R:α->Mo->Prop}(h:Rn m M Q)(k:∀a M',Q a M'->R a M'):Rn m M R:=by obtain⟨a,M',e,q⟩:=h;exact⟨a,M',e,k a M' q⟩
theorem Rn.rd(h:f M=some a)(q:Q a M):Rn (L3.rd f) M Q:=⟨a,M,by unfold L3.rd;rw[h];rfl,q⟩
def Rn.bindRd(a:α)(h:f M=some a)(q:Rn (k a) M Q):Rn (L3.rd f>>=k) M Q:=Rn.bind (Rn.rd h (Q:=λb M'=>b=a/\M'=M) ⟨rfl,rfl⟩) (λb M' ⟨e1,e2⟩=>by rw[e1,e2];exact q)
def Rn.call(hp:ds.length=p)(h:Rn (fb (b7 n ds)) M λr M'=>∃d,r=.rt d/\Q d M'):Rn (aG p n fb ds) M Q:=by
 unfold aG;rw[Uv hp];refine Rn.bind h λr M' ⟨d,e,q⟩=>?_
 subst e;exact Rn.pure q
structure Sb(p:Nat)(M M':Mo):Prop where
 le:M.length<=M'.length
 keep:∀q,q≠p->q<M.length->M'[q]?=M[q]?
theorem Sb.trans(h:Sb p M M1)(k:Sb p M1 M2):Sb p M M2:=⟨UL h.le k.le,λq hq hl=>(k.keep q hq (Um hl h.le)).trans (h.keep q hq hl)⟩
theorem Sb.set:Sb p M (M.set p o):=⟨by simp,λq hq hl=>Vl (λz=>hq z.symm)⟩
def Sb.push:Sb p M (M++[o]):=⟨by simp,λq hq hl=>Uu hl⟩
def Sb.at(h:Sb p M M')(hq:q≠p)(e:M[q]?=some o):M'[q]?=some o:=(h.keep q hq (Uj.mp e).1).trans e
def Sb.new(h:M'.length=M.length\/M.length<=M'.length)(hq:M.length<=q)(k:Sb q M' M2)(h1:Sb p M M'):Sb p M M2:=⟨UL h1.le k.le,λr hr hl=>(k.keep r (by lia) (Um hl h1.le)).trans (h1.keep r hr hl)⟩
def dY(p:Nat)(M:Mo):Prop:=∃v:Nat,M[p]?=some (.lst [nD v])
def dY.lt(h:dY p M):p<M.length:=by obtain⟨v,e⟩:=h;exact (Uj.mp e).1
def dY.sb(h:dY p M)(s:Sb q M M')(hq:p≠q):dY p M':=by obtain⟨v,e⟩:=h;exact⟨v,s.at hq e⟩
def Ld(h:l.length<=1000000):cU l M=some (.ok (.ref M.length),M++[.lst l]):=by
 have:gf l=true:=by unfold gf;exact U8 (by show l.length<=2^24;lia)
 unfold cU;rw[Uv this]
theorem Rn.cU(h:l.length<=1000000)(q:Rn (k (.ref M.length)) (M++[.lst l]) Q):Rn (L3.cU l>>=k) M Q:=Rn.bind ⟨_,_,Ld h,(⟨rfl,rfl⟩:D.ref M.length=.ref M.length/\M++[.lst l]=M++[.lst l])⟩ (Q1:=λa M'=>a=.ref M.length/\M'=M++[.lst l]) (λa M' ⟨e1,e2⟩=>by rw[e1,e2];exact q)
def Og{n:Nat}{l:List D}{i:Nat}(h:M[n]?=some (.lst l))(hi:l[i]?=some a):gk (.ref n) (.int (i:Int)) M=some a:=by show (aR (.ref n) M).bind _=_;simp only[aR,h,Option.bind_some];exact oh hi
def FN(h:i<n):ixN n (i:Int)=some i:=by unfold ixN;rw[Uv (by lia),Uv (by lia)];simp
def pU{n:Nat}{l:List D}{i:Nat}(h:M[n]?=some (.lst l))(hi:i<l.length):yG (.ref n) (.int (i:Int)) v M=some (.ok (),M.set n (.lst (l.set i v))):=by delta yG;dsimp only;rw[h];dsimp only;rw[FN hi]
def uw(h:M[n]?=some (.lst l))(hl:l.length<1000000):Ay (.ref n) [v] M=some (.ok .non,M.set n (.lst (l++[v]))):=by
 have:l.length<sizeLine:=by show l.length<2^24;lia
 delta Ay;dsimp only;rw[h];dsimp only;rw[Uv this]
def Rn.run(h:m M=some (.ok a,M'))(q:Rn (k a) M' Q):Rn (m>>=k) M Q:=Rn.bind (Q1:=λb M2=>b=a/\M2=M') ⟨a,M',h,rfl,rfl⟩ (λb M2 ⟨e1,e2⟩=>by rw[e1,e2];exact q)
theorem cj(I:Nat->aa->Mo->Prop):∀ (ds:List D) (i:Nat) (δ:aa) (M:Mo),I i δ M->(∀ j d δ M,ds[j]?=some d->I (i + j) δ M->Rn (tg d δ >>= fb) M λr M'=>∃ δ',r=.nx δ'/\I (i + j + 1) δ' M')->Rn (forL tg fb ds δ) M λr M'=>∃ δ',r=.nx δ'/\I (i + ds.length) δ' M'
 |[],i,δ,M,h,_=>Rn.pure ⟨δ,rfl,h⟩
 | d::ds,i,δ,M,h,st=>by
   have s:=st 0 d δ M rfl h;have e:forL tg fb (d::ds) δ=(tg d δ>>=fb)>>=λr=>match r with
    |.nx δ2=>forL tg fb ds δ2
    |.ct δ2=>forL tg fb ds δ2
    |.bk δ2=>Pure.pure (.nx δ2)
    |.rt d=>Pure.pure (.rt d):=by rw[aK];rfl
   rw[e];refine Rn.bind s λr M' ⟨δ',e,h'⟩=>?_
   subst e;have ih:=cj I ds (i+1) δ' M' h' (λj d δ M hj hI=>by
    have:=st (j+1) d δ M (by simpa using hj) (by rw[show i+(j+1)=i+1+j by lia];exact hI)
    rw[show i+1+j+1=i+(j+1)+1 by lia];exact this)
   rw[show i+(d::ds).length=i+1+ds.length by simp;lia]
   exact ih
section
variable{X:Cx}{E:XK}
def Ff:PGet X (λx y H Q=>∃p xs i v,x=.ref p/\y=.int i/\0<=i/\SqL X.K H p xs/\atI xs i=some v/\Q v H):=by
 intro YT s σ H x y ov iv Q I rx ry h;obtain⟨p,xs,i,z,rfl,rfl,h0,hq,he,q⟩:=h;cases rx;obtain⟨t,rfl⟩:=ry;obtain⟨its,r,pl,hz⟩:=I.list hq;obtain⟨j,h1,h2,h3,h4,h5⟩:=atI_get he;obtain⟨w,ew,rw'⟩:=r.get h2;have hl:=r.length;have hn:=line63;have fin:EP X YT σ Q w s:=⟨z,H,I,rw',q⟩;have hj:i.toNat=j:=by rw[seqIndex_of h0 h5]at h1;exact Uo h1
 exact wpAny_getItem_list pl.isList h0 (by lia) (by rw[hj];simpa using ew) fin
def JQ:D->D->Mo->Option D
 |x,.int i,M=>if 0<=i then (aR x M).bind λl=>atI l i else none
 |_,_,_=>none
set_option tactic.hygienic true in
def QM:PGet X (rD X.mg E (λx y=>rd (JQ x y))):=by
 intro YT s σ H x y ov iv Q I rx ry h;obtain⟨ρ,M,dx,dy,j,cx,cy,go⟩:=h;obtain⟨d,e,p⟩:=go.rd;unfold JQ at e;split at e
 ·cases cy;split at e
  ·rename_i h0;obtain⟨l,h1,e1⟩:=UT.mp e;obtain⟨a,xs,rfl,ha,c⟩:=cC j cx h1;obtain⟨w,e2,cw⟩:=c.at e1;exact Ff (X:=X) YT s σ H _ _ ov iv Q I rx ry ⟨_,_,_,_,rfl,rfl,h0,SqL.of ha,e2,p ρ H _ .refl j cw⟩
  ·cases e
 ·cases e
def Kz(ho:DE X E o fo)(hi:DE X E i fi)(hop:cg X E (inplaceOp op) gop)(he:DE X E e fe)
  (ha:∀ov iv new,augStore i ov iv new=(do holding [new,ov,iv] (setItem ov iv new);release [new,ov,iv] [];pure .next):=by intros;rfl) :
  DS X E (.AugAssign (.Subscript o i tpos) op e pos) (λδ=>fo δ>>=λa=>fi δ>>=λk=>rd (JQ a k)>>=λx=>fe δ>>=λy=>gop x y>>=λz=>yG a k z>>=λw=>pure (.nx δ)):=
 ⟨PS.mono (ps_augS (tip:=rD X.mg E gop) ho.h hi.h (QM (E:=E)) he.h hop (wj (E:=E)) ha) fun D σ H h=>by
  obtain⟨ρ,δ,M,ev,j,g1⟩:=h;refine⟨ρ,δ,M,ev,j,g1.bind λρ1 H1 M1 a da e1 j1 c1 g2=>⟨ρ1,δ,M1,ev.mono e1,j1,g2.bind λρ2 H2 M2 k dk e2 j2 c2 g3=>⟨ρ2,M2,da,dk,j2,c1.mono e2,c2,g3.bind λρ3 H3 M3 x dx e3 j3 c3 g4=>?_⟩⟩⟩
  have ev3:=((ev.mono e1).mono e2).mono e3;refine⟨ρ3,δ,M3,ev3,j3,g4.bind λρ4 H4 M4 y dy e4 j4 c4 g5=>⟨ρ4,M4,dx,dy,j4,c3.mono e4,c4,g5.bind λρ5 H5 M5 z dz e5 j5 c5 g6=>?_⟩⟩
  refine⟨ρ5,M5,da,dk,dz,j5,(((c1.mono e2).mono e3).mono e4).mono e5,((c2.mono e3).mono e4).mono e5,c5,g6.bind λρ6 H6 M6 _ _ e6 j6 _ g7=>?_⟩
  exact g7.pure ρ6 H6 σ .refl j6 (((ev3.mono e4).mono e5).mono e6)⟩
end
end L3
namespace L3
open PySem PySem.Spec L2
open PyProof.Rows hiding St
def Dw:bootBuiltins "enumerate"=some (.type "enumerate"):=by decide +kernel
def ik(i:Nat):List D->List D
 |[]=>[]
 |x::xs=>.tup [.int (i:Int),x]::ik (i+1) xs
def pJ:List D->Option Itn
 |[x]=>(frz x).map λp=>.fix (ik 0 p.2)
 |_=>none
theorem uN:∀ (l:List D) (k i:Nat),(ik k l)[i]?=(l[i]?).map λx=>.tup [.int ((k + i:Nat):Int),x]
 |[],k,i=>by simp[ik]
 |x::xs,k,0=>by simp[ik]
 |x::xs,k,i+1=>by simp only[ik,List.getElem?_cons_succ,uN xs (k+1) i];rw[show k+1+i=k+(i+1) by lia]
def KR{mg:Str->Option Value}{ρ:Rh}{H:Hp}{K:PySem.W.Frag}{b:Bool}{l:Addr}{xs:List V}{ds:List D}(n1:l∉ρ)(h1:H l=some (if b then .tup xs else .lst xs))(c1:Cvs mg ρ H xs ds):ItOk mg ρ H (RB K b l) (.fix (ik 0 ds)) where
 item:=λi ρ' H' M' d e j q=>by
  have hq:(ik 0 ds)[i]?=some d:=Uo q;rw[uN]at hq;obtain⟨dx,e1,rfl⟩:=Up.mp hq;obtain⟨x,hx,cx⟩:=c1.get e1;have k1:=(e.keep _ _ h1 n1 ne_if).2;refine⟨⟨xs,x,nQ k1,hx⟩,λv H2 z=>?_⟩
  obtain⟨p,hp,rfl,z⟩:=z;obtain⟨x',hx',rfl⟩:=z xs (nQ k1);rw[hx]at hx';cases hx';rw[Vq];exact⟨.lay hp,j.lay _ hp,.tup (j.fresh hp) upd_same (.cons (.int _) (.cons ((cx.kp e).mono (.lay hp)) .nil))⟩
 stop:=λi ρ' H' M' e j q=>by have hq:(ik 0 ds)[i]?=none:=Uo q;rw[uN,Option.map_eq_none_iff]at hq;exact⟨xs,nQ (e.keep _ _ h1 n1 ne_if).2,U5.mpr (by rw[c1.len];exact U5.mp hq)⟩
def zp(hg:Gl X "enumerate")(hm:X.mg "enumerate"=none)(ha:DA X E [a] fa)(hs:notStar a=true:=by rfl):
  DI X E (.Tuple elts kt tp) (.Call (.Name "enumerate" p) [a] [] pos) (λδ=>fa δ>>=λl=>opt (pJ l)):=⟨by
 intro YT s σ H R I h;obtain⟨ρ,δ,M,ev,j,g1⟩:=h;refine Call_ (ld_blt I hg hm Dw (VD (thn (ha.h.h pos YT s σ H (λvs H1=>∃ρ1 M1 ds,Ext ρ H ρ1 H1/\J X.mg ρ1 M1 H1/\Cvs X.mg ρ1 H1 vs ds/\Go X.mg E (ItOk X.mg) R ρ1 H1 (opt (pJ ds)) M1) I ⟨ρ,δ,M,ev,j,g1.bind λρ1 H1 M1 vs ds e1 j1 c1 g2=>⟨ρ1,M1,ds,e1,j1,c1,g2⟩⟩) λus s1 h1=>?_) (bu hs) (by rfl)))
 obtain⟨vs,H1,I1,rv,ρ1,M1,ds,e1,j1,c1,g2⟩:=h1;obtain⟨itn,ei,q⟩:=g2.opt;unfold pJ at ei;split at ei;rotate_left
 ·cases ei
 obtain⟨⟨b,l⟩,f1,rfl⟩:=Up.mp ei;cases c1 with
 |cons k1 c1=>
 cases c1;obtain⟨a1,xs,rfl,n1,h1,cx⟩:=xF (K:=X.K) k1 f1;cases rv with
 |cons r1 rv=>
 cases rv;cases r1;obtain⟨its1,w1,p1,_⟩:=I1.seqS (nQ (K:=X.K) h1);refine Bd p1 λh' a1' a2' a3 a4=>wpAny_pyIter_enum a1' ?_
 have lt1:@LT.lt Nat _ a1 s1.heap.objs.size:=p1.lt;have I2:Inv X YT σ H1 { s1 with heap:=h' }:=I1.kept (t':=s1.toks) a4
 refine⟨_,_,_,_,H1,rfl,I2,Hr (b:=b) (e:=s1.heap.objs.size+1) (it:=s1.heap.objs.size) (l:=a1) (λ(h:@Eq Nat _ _)=>by lia) (λ(h:@Eq Nat _ _)=>by lia) (λ(h:@Eq Nat _ _)=>by lia),⟨⟨_,a1'⟩,a2'.1⟩,λb hb=>?_,q ρ1 H1 _ .refl j1 (KR n1 h1 cx)⟩
 refine I1.fpOk ?_ (I1.hok.fresh ?_)<;>(simp only[List.mem_cons,List.mem_nil_iff,or_false]at hb;rcases hb with rfl | rfl<;>lia)⟩
def HS{i:Nat}{cl:List (Str×Addr)}{own:List Str}{js:List Nat}{fr:List Str}{f0:List Expr}{gs:List Comprehension}{fi:aa->DM Itn}{fg:D->aa->DM aa}{ft:aa->DM Bool}{fb:aa->List D->DM (aa×List D)}
  {bodyK:Cx->Addr->Sem Fin->Sem Fin}{W:Cx->Addr->(Shared->Prop)->Shared->Prop} (o:Out) (hN:X.N.Nodup) (hi0:X.N[i]?=some x) (hx:Loc X.env.scope x) (hc:X.calm=true) (T:CompG X scope cl own js fr) (hi:DI X E t0 i0 fi)
  (hturn:∀(Y:Cx) it acc,compTurn (.ListComp elt (⟨t0,i0,f0,0⟩::gs) scope pos) 0 (.ref it) (.ref acc) Y.env=turnOf ⟨t0,i0,f0,0⟩ (bodyK Y acc) (.compLoop (.ListComp elt (⟨t0,i0,f0,0⟩::gs) scope pos) 0 (.ref it) (.ref acc) Y.env) (.ref it) Y.env)
  (hW:∀Y acc,jG Y.prog Y.w Y.A (bodyK Y acc) (W Y acc)) (hmono:∀Y acc P P' s,(∀s,P s->P' s)->W Y acc P s->W Y acc P' s)
  (hg:∀YT m fp C s₂ H₂,DG (X.aO YT scope (cellsFrom m scope.names cl) (own++fr) fp C s₂ H₂) E0 t0 fg) (ht:∀YT m fp C s₂ H₂,DTs (X.aO YT scope (cellsFrom m scope.names cl) (own++fr) fp C s₂ H₂) E0 f0 ft)
  (hb:∀YT m fp C s₂ H₂ acc,BodyOk (X.aO YT scope (cellsFrom m scope.names cl) (own++fr) fp C s₂ H₂) acc (W (X.aO YT scope (cellsFrom m scope.names cl) (own++fr) fp C s₂ H₂) acc) fb)
  (hsw:swapsWith (.ListComp elt (⟨t0,i0,f0,0⟩::gs) scope pos) (some (.Name x px)) spos.line X.env=pure true:=by rfl)
  (hs:∀y,foldedSetIterable i0 X.env y=pure y:=by intro _;rfl) (hf:X.fn x=true\/X.env.scope.names.lookup x=some .local:=by first | exact .inl rfl | exact .inr rfl | assumption) :
  DS X E (.Assign [.Name x px] (.ListComp elt (⟨t0,i0,f0,0⟩::gs) scope pos) spos) (λδ=>(fi δ>>=λit=>bU (bW fg ft fb it (aP own.length js δ) [])>>=λp=>o.run p.2)>>=λd=>pure (.nx (δ.set i (some d)))):=⟨by
 intro YT s σ H D I h;obtain⟨ρ,δ,M,ev,j,g0⟩:=h;let Q:VK:=λv H'=>D.nx (σ.set i (some v)) H'
 have g1:Go X.mg E (Cv X.mg) Q ρ H (fi δ>>=λit=>bU (bW fg ft fb it (aP own.length js δ) [])>>=λp=>o.run p.2) M:=g0.bind λρ1 H1 M1 v d e1 j1 c1 g2=>g2.pure ρ1 H1 _ .refl j1 ((ev.mono e1).set c1)
 rw[exec_Assign_Name_used _ _ _ _ hsw];refine Ug (Vt (Ug ?_));show wpAny _ _ (do let _ <-comprehension (.ListComp elt (⟨t0,i0,f0,0⟩::gs) scope pos) scope X.env _ (newList []) false (eval i0 X.env) (some (assign (.Name x px) X.env))) _ _ s
 refine Ug (Us (vq Beg.list (use:=some (assign (.Name x px) X.env)) (Qs:=λu s'=>∃v H',Inv X YT (σ.set i (some v)) H' s'/\Q v H') (.inl ⟨_,_,_,_,rfl⟩) rfl hc T hi hturn hW hmono hg ht (λu u u u u u u u u=>hb _ _ _ _ _ _ _ _ _ (.head _)) hs I ev j g1 λs2 H2 fp C m acc ρ1 lf Mf s' I2 f2 hA hC hfree nf c' g3=>?_) (λ_ s' ⟨v,H',I',q'⟩=>Ui (Ui ⟨_,H',I',q'⟩)) λu u e=>e)
 obtain⟨δf,c'⟩:=c';obtain⟨σ4,H4,ρ4,_,I4,x4,j4,ev4,ha4,⟨ys,rfl,cl4⟩,fr4⟩:=c'.ex;obtain⟨m4,hn4,_⟩:=I4.loc;have hsb0:Heap.SameBut C s'.heap s'.heap:=⟨rfl,λu u=>rfl⟩
 have IO:Inv X YT σ H4 s':=I2.call' (s':=s') (ch:=fp) (I4.os) (yN I4.base hsb0 hC) (uD I4.hok hsb0 I4.free) I4.bare (λb hb=>by obtain⟨_,g2,g3,g4,g5,g6⟩:=f2 b hb;exact⟨g4,g2,g5,g6⟩)
 obtain⟨fC1,fC2,fC3,fC4,fC5,fC6⟩:=I2.fpOk hC I4.free;show wpAny _ _ (assign (.Name x px) X.env (.ref acc)) _ _ s';refine wpAny_assign_Name (store_ok2 IO hN hi0 hx (v:=.ref acc) rfl (λs'' I'' hsb=>?_) hf)
 obtain⟨a,sb,ha⟩:=hsb;have nC:C≠a:=by
  rcases ha with z | z
  ·rw[z];exact fC2
  ·exact λe=>fC5 x a z e.symm
 exact⟨m4,hn4.sameBut sb nC,λh' hsb'=>⟨.ref acc,H4,I''.turned (it:=C) (t':=s''.toks) (λb o hb e=>hsb'.extBut b o hb e) fC1 fC2 fC4 (λy c e=>fC5 y c e) fC6,o.fin hfree nf x4 j4 ha4 cl4 g3⟩⟩⟩
def qQ{i:Nat}{cl:List (Str×Addr)}{own:List Str}{js:List Nat}{fr:List Str}{f0:List Expr}{fi:aa->DM Itn}{fg:D->aa->DM aa}{ft:aa->DM Bool}{fe:aa->DM D}
  (o:Out) (hN:X.N.Nodup) (hi0:X.N[i]?=some x) (hx:Loc X.env.scope x) (hc:X.calm=true) (T:CompG X scope cl own js fr) (hi:DI X E t0 i0 fi)
  (hg:∀YT m fp C s₂ H₂,DG (X.aO YT scope (cellsFrom m scope.names cl) (own++fr) fp C s₂ H₂) E0 t0 fg) (ht:∀YT m fp C s₂ H₂,DTs (X.aO YT scope (cellsFrom m scope.names cl) (own++fr) fp C s₂ H₂) E0 f0 ft)
  (he:∀YT m fp C s₂ H₂,DE (X.aO YT scope (cellsFrom m scope.names cl) (own++fr) fp C s₂ H₂) E0 elt fe)
  (hsw:swapsWith (.ListComp elt [⟨t0,i0,f0,0⟩] scope pos) (some (.Name x px)) spos.line X.env=pure true:=by rfl)
  (hs:∀y,foldedSetIterable i0 X.env y=pure y:=by intro _;rfl) (hf:X.fn x=true\/X.env.scope.names.lookup x=some .local:=by first | exact .inl rfl | exact .inr rfl | assumption) :
  DS X E (.Assign [.Name x px] (.ListComp elt [⟨t0,i0,f0,0⟩] scope pos) spos) (λδ=>(fi δ>>=λit=>bU (bW fg ft (bB fe) it (aP own.length js δ) [])>>=λp=>o.run p.2)>>=λd=>pure (.nx (δ.set i (some d)))):=
 HS (bodyK:=λY acc=>jP elt (.ref acc) Y.env) (W:=λY acc P s=>wpAny (model Y.prog Y.w) Y.A (eval elt Y.env) (λx s1=>wpAny (model Y.prog Y.w) Y.A (call (.builtin "list.append") [.ref acc,x]) (λv s2=>P s2) (λv v=>False) s1) (λv v=>False) s) o hN hi0 hx hc T hi
  (λY it acc=>CT ..) (λY acc=>xg) (λY acc P P' s hp h=>Us h (λx s1 h1=>Us h1 (λv s2 h2=>hp _ h2) λv v z=>z) λv v z=>z) hg ht (λYT m fp C s₂ H₂ acc=>ux rfl (he ..)) hsw hs hf
end L3
namespace L3
open PySem PySem.Spec L2
structure OCls(K:PySem.W.Frag)(mg:Str->Option Value)(c:Str)(C:Addr)(fs:List Str):Prop where
 at_:mg c=some (.ref C)
 cls:L2.Cls K C
 no:∀f∈fs,NoAttr K C f
theorem jk:∀ {ns:List Str}{xs:List V}{ds:List D}{d:D},Cvs mg ρ H xs ds->(ns.zip ds).lookup f=some d->∃ v,(ns.zip xs).lookup f=some v/\Cv mg ρ H v d
 |[],_,_,_,_,e=>by simp at e
 |n::ns,_,_,_,.nil,e=>by simp at e
 |n::ns,_,_,d,.cons (v:=v) c cs,e=>by
   rw[List.zip_cons_cons,V0]at e ⊢
   split at e
   ·cases e;exact⟨v,rfl,c⟩
   ·exact jk cs e
def j9(c f:Str):D->Mo->Option D
 |.obj k ns vs,_=>if k=c then (ns.zip vs).lookup f else none
 |.ref n,M=>match M[n]? with
   |some (.ins k ns vs)=>if k=c then (ns.zip vs).lookup f else none
   |_=>none
 |_,_=>none
set_option tactic.hygienic true in
def cR(O:OCls K mg c C fs)(hf:f∈fs)(he:DE X E e fe)
  (hb:attributeBase e f X.env (eval e X.env)=eval e X.env:=by rfl) (hK:X.K=K:=by rfl) (hM:X.mg=mg:=by rfl):DE X E (.Attribute e f pos) (λδ=>fe δ>>=λx=>rd (j9 c f x)):=by
 subst hK hM;refine⟨PE.mono (pe_fld he.h hb) λσ H Q h=>?_⟩
 obtain⟨ρ,δ,M,ev,j,g1⟩:=h;refine⟨ρ,δ,M,ev,j,g1.bind λρ1 H1 M1 x dx e1 j1 c1 g2=>?_⟩
 obtain⟨d,ed,q⟩:=g2.rd;unfold j9 at ed;split at ed
 ·split at ed
  ·rename_i hk;subst hk;cases c1 with
   |obj n m h l cs=>obtain⟨v,hv,cv⟩:=jk cs ed;rw[O.at_]at m;cases m;exact⟨_,_,_,_,v,rfl,h,O.cls,O.no f hf,hv,q ρ1 H1 _ .refl j1 cv⟩
  ·cases ed
 ·split at ed
  ·split at ed
   ·rename_i hm hk;subst hk;cases c1 with
    |ref hn=>obtain⟨C',dx',xs,m,h,l,cs⟩:=j1.obj _ _ _ hn hm;obtain⟨v,hv,cv⟩:=jk cs ed;rw[O.at_]at m;cases m;exact⟨_,_,_,_,v,rfl,h,O.cls,O.no f hf,hv,q ρ1 H1 _ .refl j1 cv⟩
   ·cases ed
  ·cases ed
 ·cases ed
def BL:List D->Mo->Option (List D)
 |[.int j],_=>if -(2^62)<=j/\j<=2^20 then some ((List.range j.toNat).map nD) else none
 |_,_=>none
theorem zm:∀l:List Nat,Cvs mg ρ H (l.map λi:Nat=>V.int (i:Int)) (l.map nD)
 |[]=>.nil
 |n::l=>.cons (.int _) (zm l)
section
variable{X:Cx}{E:XK}{a:Expr}{fa:aa->DM (List D)}{p1 p2 pos1 pos2:Pos}
set_option tactic.hygienic true in
def El(hc:X.calm=true)(hmL:X.mg "list"=none)(hm:X.mg "range"=none)(ha:DA X E [a] fa)(hgL:Gl X "list":=by rfl)(hg:Gl X "range":=by rfl)(hs:notStar a=true:=by rfl):
  DE X E (.Call (.Name "list" p1) [.Call (.Name "range" p2) [a] [] pos2] [] pos1) (λδ=>fa δ>>=λl=>rd (λM=>(BL l M).map D.lst)):=⟨PE.mono (Gu hc hgL hmL hg hm ha.h.h hs) λσ H Q h=>by
 obtain⟨ρ,δ,M,ev,j,g1⟩:=h;refine⟨ρ,δ,M,ev,j,g1.bind λρ1 H1 M1 xs ds e1 j1 c1 g2=>?_⟩
 obtain⟨d,ed,q⟩:=g2.rd;obtain⟨l,el,rfl⟩:=Up.mp ed;unfold BL at el;split at el
 ·split at el
  ·rename_i hb;cases el;obtain⟨v,rfl,k⟩:=c1.one;cases k;exact⟨_,rfl,hb.2,hb.1,λp hp=>q ρ1 _ _ (.lay hp) (j1.lay _ hp) (.lst (j1.fresh hp) upd_same (zm _))⟩
  ·cases el
 ·cases el⟩
end
section
variable{X:Cx}{E:XK}
def Bu:List D->Mo->Option D
 |[.bl b],_=>some (.int (if b then 1 else 0))
 |_,_=>none
def DN:CallR X (.type "int") (λxs H Q=>∃ b,xs=[.bl b]/\Q (.int (if b then 1 else 0)) H):=by
 intro YT s σ H xs us Q I rs h;obtain⟨b,rfl,q⟩:=h;cases rs with
 |cons r rr=>cases rr;cases r;exact call_int_bool ⟨.int (if b then 1 else 0),H,I.tok _,⟨_,rfl⟩,q⟩
def Be:CallD X E (.type "int") (λl=>rd (Bu l)):=CallD.of DN λvs H Q ρ M ds d j c e q=>by
 unfold Bu at e;split at e
 ·cases e;obtain⟨v,rfl,k⟩:=c.one;cases k;exact⟨_,rfl,q ρ H _ .refl j (.int _)⟩
 ·cases e
end
theorem jU(I:Nat->aa->List D->Mo->Prop):∀ (ds:List D) (i:Nat) (δ:aa) (l:List D) (M:Mo),I i δ l M->
  (∀j d δ l M,ds[j]?=some d->I (i+j) δ l M->Rn (fg d δ>>=λδ1=>ft δ1>>=λb=>if b then fb δ1 l else Pure.pure (δ1,l)) M λp M'=>I (i+j+1) p.1 p.2 M')->Rn (aZ fg ft fb ds δ l) M λp M'=>I (i+ds.length) p.1 p.2 M'
 |[],i,δ,l,M,h,_=>Rn.pure h
 | d::ds,i,δ,l,M,h,st=>by
   have s:=st 0 d δ l M rfl h;have e:aZ fg ft fb (d::ds) δ l=(fg d δ>>=λδ1=>ft δ1>>=λb=>if b then fb δ1 l else Pure.pure (δ1,l))>>=λp=>aZ fg ft fb ds p.1 p.2:=by
    rw[aK];show (fg d δ>>=λδ1=>ft δ1>>=λb=>(if b then fb δ1 l else Pure.pure (δ1,l))>>=λp=>aZ fg ft fb ds p.1 p.2)=_
    congr 1;funext δ1;rw[aK]
   rw[e];refine Rn.bind s λp M' h'=>?_
   have ih:=jU I ds (i+1) p.1 p.2 M' h' (λj d δ l M hj hI=>by
    have:=st (j+1) d δ l M (by simpa using hj) (by rw[show i+(j+1)=i+1+j by lia];exact hI)
    rw[show i+1+j+1=i+(j+1)+1 by lia];exact this)
   rw[show i+(d::ds).length=i+1+ds.length by simp;lia]
   exact ih
def wF(h:Rn m M Q):Rn (bU m) M Q:=by obtain⟨a,M',e,q⟩:=h;exact⟨a,M',by unfold bU;rw[e],q⟩
def KY{n:Nat}{l:List D}{i:Nat}(h:M[n]?=some (.lst l))(hi:l[i]?=some a):JQ (.ref n) (.int (i:Int)) M=some a:=by
 show (if (0:Int)<=(i:Int) then (aR (.ref n) M).bind _ else none)=_
 rw[Uv (by lia)]
 simp only[aR,h,Option.bind_some];exact oh hi
def Jc(hn:n<=1000)(q:Rn (k (.ref M.length)) (M++[.lst ((List.replicate n 0).map nD)]) Q):Rn (O1 (.lst [.int 0]) (nD n)>>=k) M Q:=by
 have e:xW (.lst [.int 0]) (nD n) M=some ((List.replicate n 0).map nD):=by
  show Ck [.int 0] (n:Int)=_;unfold Ck;rw[Uv (U8 ⟨by lia,by lia,by show _<=2^24;simp;lia⟩)]
  congr 1;simp[List.flatten_replicate_singleton,nD]
 show Rn ((rd (xW (.lst [.int 0]) (nD n))>>=cU)>>=k) M Q;rw[aK];refine Rn.bindRd _ e ?_;exact Rn.cU (by simp;lia) q
end L3
namespace L3
open PySem PySem.Spec L2
open PyProof.Rows hiding St
def putN(f:Str):List Str->List Str
 |[]=>[f]
 |g::r=>if g=f then g::r else g::putN f r
def jn{α:Type}(f:Str)(v:α):List Str->List α->List α
 |[],_=>[v]
 |g::r,x::xs=>if g=f then v::xs else x::jn f v r xs
 |_::_,[]=>[]
theorem xY(f:Str)(v:V):∀ (ns:List Str) (xs:List V),ns.length=xs.length->putF f v (ns.zip xs)=(putN f ns).zip (jn f v ns xs)
 |[],[],_=>rfl
 |g::r,x::xs,h=>by
   show putF f v ((g,x)::r.zip xs)=_;unfold putF putN jn;by_cases e:g=f
   ·rw[Uv e,Uv e,Uv e];rfl
   ·rw[Ux e,Ux e,Ux e,xY f v r xs (by simpa using h)];rfl
theorem xZ(f:Str)(v:α):∀ (ns:List Str) (xs:List α),ns.length=xs.length->(putN f ns).length=(jn f v ns xs).length
 |[],[],_=>rfl
 |g::r,x::xs,h=>by
   unfold putN jn;by_cases e:g=f
   ·rw[Uv e,Uv e];simpa using h
   ·rw[Ux e,Ux e,Vn,Vn,xZ f v r xs (by simpa using h)]
theorem Cvs.put(c:Cv mg ρ H v d):∀ (ns:List Str) {xs:List V}{ds:List D},Cvs mg ρ H xs ds->Cvs mg ρ H (jn f v ns xs) (jn f d ns ds)
 |[],_,_,_=>.cons c .nil
 |g::r,_,_,.nil=>.nil
 |g::r,_,_,.cons h t=>by
   unfold jn;by_cases e:g=f
   ·rw[Uv e,Uv e];exact .cons c t
   ·rw[Ux e,Ux e];exact .cons h (Cvs.put c r t)
def wu(c f:Str)(o d:D):DM Unit:=λM=>match o with
 |.ref n=>match M[n]? with
   |some (.ins k ns vs)=>if k=c/\ns.length=vs.length/\ns.length<1000 then some (.ok (),M.set n (.ins k (putN f ns) (jn f d ns vs))) else none
   |_=>none
 |_=>none
section
variable{X:Cx}{E:XK}
set_option tactic.hygienic true in
def Es{K:PySem.W.Frag}{mg:Str->Option Value}{c f:Str}{C:Addr}{fs:List Str}{o value:Expr}{fo fv:aa->DM D}{pos pos':Pos}(O:OCls K mg c C fs)(hf:f∈fs)(ho:DE X E o fo)(hv:DE X E value fv)
  (hs:swapsWith value (some (.Attribute o f pos')) pos.line X.env=pure false:=by rfl) (hK:X.K=K:=by rfl) (hM:X.mg=mg:=by rfl) :
  DS X E (.Assign [.Attribute o f pos'] value pos) (λδ=>fv δ>>=λd=>fo δ>>=λo=>wu c f o d>>=λz=>pure (.nx δ)):=by
 subst hK hM;refine⟨PS.mono (ps_fld ho.h hv.h hs) λD σ H h=>?_⟩
 obtain⟨ρ,δ,M,ev,j,g1⟩:=h;refine⟨ρ,δ,M,ev,j,g1.bind λρ1 H1 M1 y dy e1 j1 c1 g2=>⟨ρ1,δ,M1,ev.mono e1,j1,g2.bind λρ2 H2 M2 x dx e2 j2 c2 g3=>?_⟩⟩
 obtain⟨r,e,p⟩:=g3;have e:DM.bind _ _ M2=some r:=e;unfold DM.bind wu at e;cases dx with
 | ref n=>
   dsimp only at e;cases c2 with | ref hn=>
   rename_i a;cases hm:M2[n]? with
   |none=>rw[hm]at e;cases e
   | some u=>
     rw[hm]at e;cases u with
     |lst l=>cases e
     |dic ks l=>cases e
     |pdc ks l=>cases e
     | ins k ns vs=>
       dsimp only at e;split at e
       ·cases e
       ·rename_i he;split at he<;>cases he
       ·rename_i he;split at he
        ·rename_i hk;obtain⟨rfl,hl,hz⟩:=hk;cases he;cases e;obtain⟨C',dx',xs,m,hx,l,cs⟩:=j2.obj _ _ _ hn hm;rw[O.at_]at m;cases m;have c1':=c1.mono e2;have x:Ext ρ2 H2 ρ2 (upd H2 a (.ins C dx' (putF f y (ns.zip xs)))):=.upd (Vh hn);refine⟨a,C,dx',_,rfl,hx,O.cls,O.no f hf,?_,?_⟩
         ·rw[List.length_zip];lia
         refine p ρ2 _ σ x (j2.upd hn ?_) (((ev.mono e1).mono e2).mono x);refine⟨C,dx',jn f y ns xs,O.at_,by rw[upd_same,xY f y ns xs l],xZ f y ns xs l,?_⟩
         exact (Cvs.put c1' ns cs).mono x
        ·cases he
 |_=>cases e
end
structure MethD(P:Program)(w:World)(K:PySem.W.Frag)(mg:Str->Option Value)(base:Heap)(k:Nat)(c x qual:Str)(st:Stmt)(ps:List Str)(F:List D->DM D):Prop where
 ex:∃C f fd,mg c=some (.ref C)/\FnOk P w K mg base (bD P w) k f fd ps (yJ mg F)/\Fun K x qual st f fd/\PySem.W.findIn K (.ref C) x=some (some (.ref f))/\PySem.W.isFn K (.ref f)=true/\L2.Cls K C
structure DefF(P:Program)(w:World)(K:PySem.W.Frag)(mg:Str->Option Value)(base:Heap)(k:Nat)(x:Str)(ps:List Str)(ds:List D)(F:List D->DM D):Prop where
 ex:∃f fd vs us,FnOk P w K mg base (bD P w) k f fd ps (yJ mg F)/\PySem.W.keepIn K (.ref f)=true/\mg x=some (.ref f)/\Binds K fd ps us/\Vals vs us/\∀ρ H,Cvs mg ρ H vs ds
section
variable{P:Program}{w:World}{K:PySem.W.Frag}{mg:Str->Option Value}{base:Heap}{k:Nat}{C:Addr}{c x qual:Str}{N ps:List Str}{st:Stmt}{fb:aa->DM Fl}{f:Addr}{fd:FuncData}{is:List Int}
def RZ(F:Fun K x qual st f fd)(S:FnScope N ps (defScope st))
  (hbody:∀(f:Addr) (cdv:Value) (A:Around) (outer:List Env) (s:Shared) (H:Hp) (E:XK),Room k (A.deeper (envOfC qual (defScope st) s.heap.objs.size f cdv))->
    DSs (aH P w K mg base N qual (defScope st) f cdv A outer s H E) E (defBody st) fb):FnOk P w K mg base (bD P w) (k+1) f fd ps (yJ mg (aG ps.length N.length fb)):=by
 refine Nz F S (λvs H Q E h=>?_) λcdv A outer s H vs Q E hr h=>?_
 ·obtain⟨ρ,M,ds,c,j,g⟩:=h;rw[c.len];exact (bh.aG g).1
 obtain⟨ρ,M,ds,c,j,g⟩:=h;exact⟨_,(hbody f cdv A outer s H E hr).h,ρ,_,M,eX c,j,(bh.aG g).2⟩
def MethAt.okD(T:MethAt K C x qual st)(m:mg c=some (.ref C))(cl:L2.Cls K C)(S:FnScope N ps (defScope st))
  (hbody:∀(f:Addr) (cdv:Value) (A:Around) (outer:List Env) (s:Shared) (H:Hp) (E:XK),Room k (A.deeper (envOfC qual (defScope st) s.heap.objs.size f cdv))->
    DSs (aH P w K mg base N qual (defScope st) f cdv A outer s H E) E (defBody st) fb):MethD P w K mg base (k+1) c x qual st ps (aG ps.length N.length fb):=by
 obtain⟨f,fd,F,a,n⟩:=T.ex;exact⟨C,f,fd,m,RZ F S hbody,F,a,n,cl⟩
def Ng(is:List Int):Cvs mg ρ H (is.map V.int) (is.map D.int):=Cvs.ints is
def sH(n:Nat)(hn:ps.length=n+ds.length)(h:∀(S:PySem.Setting) (us:List Value),us.length=n->PySem.W.peek K S (bindArgs fd ⟨us,[]⟩)=some (ps.zip (us++ds))):Binds K fd ps ds:=λs us X hl=>
 PySem.W.kp_binds X λS=>h S us (by rw[Uz]at hl;lia)
def JD:Vals ([i].map V.int) [.int i t]:=.cons ⟨t,rfl⟩ .nil
end
def uE(c m:Str):D->Mo->Option Unit
 |.obj k ns _,_=>if k=c/\ns.contains m=false then some () else none
 |.ref n,M=>match M[n]? with
   |some (.ins k ns _)=>if k=c/\ns.contains m=false then some () else none
   |_=>none
 |_,_=>none
theorem rN:∀ (ns:List Str) (xs:List α),ns.contains m=false->(ns.zip xs).lookup m=none
 |[],_,_=>rfl
 |n::ns,[],_=>rfl
 |n::ns,x::xs,h=>by rw[XQ,Bool.or_eq_false_iff]at h;rw[List.zip_cons_cons,V0,h.1];exact rN ns xs h.2
set_option tactic.hygienic true in
def zE(mc:mg c=some (.ref C))(j:J mg ρ M H)(cv:Cv mg ρ H v d)(e:uE c m d M=some u):∃ a dx fs,v=.ref a/\H a=some (.ins C dx fs)/\fs.lookup m=none:=by
 unfold uE at e;split at e
 ·split at e
  ·rename_i hk;obtain⟨rfl,hn⟩:=hk;cases cv with
   |obj n m' h l cs=>rw[mc]at m';cases m';exact⟨_,_,_,rfl,h,rN _ _ hn⟩
  ·cases e
 ·split at e
  ·rename_i hm;split at e
   ·rename_i hk;obtain⟨rfl,hn⟩:=hk;cases cv with
    |ref h=>obtain⟨C',dx',xs,m',hx,l,cs⟩:=j.obj _ _ _ h hm;rw[mc]at m';cases m';exact⟨_,_,_,rfl,hx,rN _ _ hn⟩
   ·cases e
  ·cases e
 ·cases e
structure DKw(X:Cx)(E:XK)(kws:List Keyword)(f:aa->DM (List D)):Prop where
 h:PK X kws (tD X.mg E (Cvs X.mg) f)
def PK.mono(h:PK X e t)(f:∀σ H Q,t' σ H Q->t σ H Q):PK X e t':=λp YT s σ H Q I q=>h p YT s σ H Q I (f σ H Q q)
section
variable{X:Cx}{E:XK}{j k:Nat}{ps:List Str}{F:List D->DM D}{c m x qual:Str}{st:Stmt}{p pos apos kpos:Pos}{a e o:Expr}{es:List Expr}{fa fo:aa->DM D}{fs fk:aa->DM (List D)}{kws:List Keyword}{nm:Option Str}{ks:List Str}
def Nk:DKw X E [] (λz=>pure []):=⟨PK.mono pk_nil λσ H Q h=>by obtain⟨ρ,δ,M,ev,j,g⟩:=h;exact g.pure ρ H [] .refl j .nil⟩
def RV(ha:DE X E a fa)(hr:DKw X E kws fs):DKw X E (⟨nm,a,kpos⟩::kws) (λδ=>fa δ>>=λx=>fs δ>>=λxs=>pure (x::xs)):=⟨PK.mono (pk_cons ha.h hr.h) λσ H Q h=>by obtain⟨ρ,δ,M,ev,j,g1⟩:=h;exact⟨ρ,δ,M,ev,j,g1.bind λρ1 H1 M1 x dx e1 j1 c1 g2=>⟨ρ1,δ,M1,ev.mono e1,j1,g2.bind λρ2 H2 M2 xs dxs e2 j2 c2 g3=>g3.pure ρ2 H2 _ .refl j2 (.cons (c1.mono e2) c2)⟩⟩⟩
def gK{α:Type}(n:Nat)(us ws:List α):List α:=if ws.length=n then us++ws else []
set_option tactic.hygienic true in
def Ol{K:PySem.W.Frag}{f:Addr}{fd:FuncData}(B:Fun K x qual st f fd)(h0:0<ps.length)
  (hb:∀(kV doc pm:Value) (an:Option Addr) (cdv ct:Value) (us ws:List Value),ws.length=ks.length->us.length+ks.length=ps.length->bindArgs (PySem.W.fnOf x qual (defArgs st) (defBody st) (defScope st) .none kV doc pm an cdv ct) ⟨us,ks.zip ws⟩=pure (ps.zip (us++ws))):KBinds K fd ps ks (gK ks.length) (gK ks.length):=by
 obtain⟨oc,od,kV,doc,pm,an,cdv,ct,osl,rfl,lk,hcd⟩:=B.ex;refine⟨λs us ws z hl=>?_,λr r'=>?_⟩
 ·unfold gK at hl ⊢
  split at hl
  ·rename_i hw;rw[Uv hw];rw[Uz]at hl;exact .of_eq (hb kV doc pm an cdv ct us ws hw (by lia))
  ·simp at hl;lia
 ·unfold gK;rw[r'.length];split
  ·exact r.append r'
  ·exact .nil
def H8(T:DefF X.prog X.w X.K X.mg X.base j x ps ds F)(hr:Room k X.A)(hx:Passes (bD X.prog X.w) X E)(ha:DA X E (e::es) fs)
  (hjk:j<=k:=by decide) (hg:Gl X x:=by rfl) (hdb:(x==("__debug__":Str))=false:=by decide) (he:notStar e=true:=by rfl) (hpl:(backTo pos (starEach es X.env)).any (·.1)=false:=by rfl) :
  DE X E (.Call (.Name x p) (e::es) [] pos) (λδ=>fs δ>>=λl=>F (l++ds)):=by
 obtain⟨f,fd,vs,us,G,kp,m,b,v,cd⟩:=T.ex;refine⟨PE.mono (pe_call G (hr.mono hjk) hg m kp b v hx ha.h.h hdb (bu he) hpl) λσ H Q h=>?_⟩
 obtain⟨ρ,δ,M,ev,j,g1⟩:=h;exact⟨ρ,δ,M,ev,j,g1.bind λρ1 H1 M1 xs dxs e1 j1 c1 g2=>⟨ρ1,M1,dxs++ds,c1.append (cd _ _),j1,g2⟩⟩
def Ku(T:MethD X.prog X.w X.K X.mg X.base j c m qual st ps F)(hr:Room k X.A)(hx:Passes (bD X.prog X.w) X E)(ho:DE X E o fo)(ha:DA X E (e::es) fs)
  (hb:∀(kV doc pm:Value) (an:Option Addr) (cdv ct:Value) (us:List Value),us.length=ps.length->bindArgs (PySem.W.fnOf m qual (defArgs st) (defBody st) (defScope st) .none kV doc pm an cdv ct) ⟨us,[]⟩=pure (ps.zip us))
  (hjk:j<=k:=by decide) (he:notStar e=true:=by rfl) (hpl:(backTo pos (starEach es X.env)).any (·.1)=false:=by rfl)
  (ht:eval (.Call (.Attribute o m apos) (e::es) [] pos) X.env=(do
    let ov <-eval o X.env
    standAt apos.atName
    let (f,first) <-holding [ov] (getMethod ov m pl)
    callWith pos f first (backTo pos (starEach (e::es) X.env)) (backToKw pos (keywordEach [] X.env))):=by rfl) :
  DE X E (.Call (.Attribute o m apos) (e::es) [] pos) (λδ=>fo δ>>=λx=>rd (uE c m x)>>=λz=>fs δ>>=λds=>F (x::ds)):=by
 obtain⟨C,f,fd,mc,G,B,a,n,cl⟩:=T.ex;refine⟨PE.mono (pe_meth (pl:=pl) ho.h cl ⟨a,n,B.kp⟩ G (hr.mono hjk) (B.binds hb) .nil hx ha.h.h (bu he) hpl ht) λσ H Q h=>?_⟩
 obtain⟨ρ,δ,M,ev,j,g1⟩:=h;refine⟨ρ,δ,M,ev,j,g1.bind λρ1 H1 M1 x dx e1 j1 c1 g2=>?_⟩
 obtain⟨u,eu,g3⟩:=Go.rdb g2;obtain⟨a',dx',fs',ex,hx',hl'⟩:=zE mc j1 c1 eu;refine⟨a',dx',fs',ex,hx',hl',ρ1,δ,M1,ev.mono e1,j1,g3.bind λρ2 H2 M2 xs dxs e2 j2 c2 g4=>?_⟩
 rw[V6];exact⟨ρ2,M2,dx::dxs,.cons (c1.mono e2) c2,j2,g4⟩
def Qt(C:Addr)(m:Str)(sp:Sp)(gV:List V->List V->List V)(E:XK)(ta:TE)(t tk:TA):TE:=λσ H Q=>ta σ H λx H1=>∃a dx fs,x=.ref a/\H1 a=some (.ins C dx fs)/\fs.lookup m=none /\
 t σ H1 λvs H2=>tk σ H2 λzs H3=>sp (gV (x::vs) zs) H3 Q E
def Jm(he:PE X o ta)(cl:L2.Cls X.K C)(hm:Meth X.K C m f)(G:FnOk X.prog X.w X.K X.mg X.base CX k f fd ps sp)(hr:Room k X.A)(hb:KBinds X.K fd ps ks g gV)(hx:Passes CX X E)(ha:PA X (e::es) t)(hkw:PK X kws tk)
  (hall:(backToKw pos (keywordEach kws X.env)).all (·.1.isSome)=true) (hks:(backToKw pos (keywordEach kws X.env)).filterMap (·.1)=ks)
  (hst:starEach (e::es) X.env=(false,eval e X.env)::starEach es X.env) (hpl:((backTo pos (starEach (e::es) X.env)).any (·.1) || (backToKw pos (keywordEach kws X.env)).any (·.1.isNone))=false)
  (ht:eval (.Call (.Attribute o m apos) (e::es) kws pos) X.env=(do
    let ov <-eval o X.env
    standAt apos.atName
    let (f,first) <-holding [ov] (getMethod ov m pl)
    callWith pos f first (backTo pos (starEach (e::es) X.env)) (backToKw pos (keywordEach kws X.env)))) :
  PE X (.Call (.Attribute o m apos) (e::es) kws pos) (Qt C m sp gV E ta t tk):=by
 intro YT s σ H Q I h;refine Xa (pl:=pl) (thn (he YT s σ H _ I h) λu s1 ⟨x,H1,I1,rx,a,dx,fs,ex,ea,l,q⟩=>?_) ht
 subst ex;obtain rfl:u=Value.ref a:=rx;refine getmeth_ok I1 ea cl hm l ?_;refine PySem.W.callWith_KW (first:=[.ref a]) (h₀:=X.base) I.ok.mod.kin hm.kp hall (thn (ha pos YT s1 σ H1 _ I1 q) λus s2 ⟨vs,H2,I2,r,q2⟩=>?_) hpl hst
 refine thn (hkw pos YT s2 σ H2 _ I2 q2) λws s3 ⟨zs,H3,I3,rz,q3⟩=>⟨I3.kIn,?_⟩
 rw[hks];exact run_fnk (us:=.ref a::us) (vs:=.ref a::vs) G hr hb hx I3 (.cons rfl r) rz q3
set_option tactic.hygienic true in
def Ih{pl:Sem Bool}(T:MethD X.prog X.w X.K X.mg X.base j c m qual st ps F)(hr:Room k X.A)(hx:Passes (bD X.prog X.w) X E)(ho:DE X E o fo)(ha:DA X E (e::es) fs)(hkw:DKw X E kws fk)
  (hb:∀(kV doc pm:Value) (an:Option Addr) (cdv ct:Value) (us ws:List Value),ws.length=ks.length->us.length+ks.length=ps.length->bindArgs (PySem.W.fnOf m qual (defArgs st) (defBody st) (defScope st) .none kV doc pm an cdv ct) ⟨us,ks.zip ws⟩=pure (ps.zip (us++ws)))
  (hjk:j<=k:=by decide) (h0:0<ps.length:=by decide) (hall:(backToKw pos (keywordEach kws X.env)).all (·.1.isSome)=true:=by rfl) (hks:(backToKw pos (keywordEach kws X.env)).filterMap (·.1)=ks:=by rfl)
  (he:notStar e=true:=by rfl) (hpl:((backTo pos (starEach (e::es) X.env)).any (·.1) || (backToKw pos (keywordEach kws X.env)).any (·.1.isNone))=false:=by rfl)
  (ht:eval (.Call (.Attribute o m apos) (e::es) kws pos) X.env=(do
    let ov <-eval o X.env
    standAt apos.atName
    let (f,first) <-holding [ov] (getMethod ov m pl)
    callWith pos f first (backTo pos (starEach (e::es) X.env)) (backToKw pos (keywordEach kws X.env))):=by rfl) :
  DE X E (.Call (.Attribute o m apos) (e::es) kws pos) (λδ=>fo δ>>=λx=>rd (uE c m x)>>=λz=>fs δ>>=λds=>fk δ>>=λdk=>if dk.length=ks.length then F (x::(ds++dk)) else stuck):=by
 obtain⟨C,f,fd,mc,G,B,a,n,cl⟩:=T.ex;refine⟨PE.mono (Jm (pl:=pl) ho.h cl ⟨a,n,B.kp⟩ G (hr.mono hjk) (Ol B h0 hb) hx ha.h.h hkw.h hall hks (bu he) hpl ht) λσ H Q h=>?_⟩
 obtain⟨ρ,δ,M,ev,j,g1⟩:=h;refine⟨ρ,δ,M,ev,j,g1.bind λρ1 H1 M1 x dx e1 j1 c1 g2=>?_⟩
 obtain⟨u,eu,g3⟩:=Go.rdb g2;obtain⟨a',dx',fs',ex,hx',hl'⟩:=zE mc j1 c1 eu;refine⟨a',dx',fs',ex,hx',hl',ρ1,δ,M1,ev.mono e1,j1,g3.bind λρ2 H2 M2 xs dxs e2 j2 c2 g4=>⟨ρ2,δ,M2,(ev.mono e1).mono e2,j2,g4.bind λρ3 H3 M3 zs dzs e3 j3 c3 g5=>?_⟩⟩
 split at g5
 ·rename_i hl;unfold gK;rw[Uv (by rw[c3.len];exact hl)]
  exact⟨ρ3,M3,dx::(dxs++dzs),.cons ((c1.mono e2).mono e3) ((c2.mono e3).append c3),j3,g5⟩
 ·obtain⟨r,e,_⟩:=g5;cases e
end
structure ClsD(P:Program)(w:World)(K:PySem.W.Frag)(mg:Str->Option Value)(base:Heap)(k:Nat)(c:Str)(F:List D->DM D):Prop where
 ex:∃C ps sp,MethC P w K mg base k C "__init__" ps sp/\PySem.W.makesIn K C=true/\PySem.W.keepIn K (.ref C)=true/\mg c=some (.ref C) /\
  ∀ρ M H vs ds Q E,Cvs mg ρ H vs ds->J mg ρ M H->Go mg E (Cv mg) Q ρ H (F ds) M->∀x dx,H x=none->H dx=none->dx≠x->sp (.ref x::vs) (upd (upd H dx (.own x)) x (.ins C dx [])) (λv H2=>v=.non/\Q (.ref x) H2) E
def gB(T:ClsD X.prog X.w X.K X.mg X.base j c F)(hr:Room k X.A)(hx:Passes (bD X.prog X.w) X E)(ha:DA X E (e::es) fs)(hjk:j+1<=k:=by decide)(hg:Gl X c:=by rfl)(hdb:(c==("__debug__":Str))=false:=by decide)
  (he:notStar e=true:=by rfl) (hpl:(backTo pos (starEach es X.env)).any (·.1)=false:=by rfl) :
  DE X E (.Call (.Name c p) (e::es) [] pos) (λδ=>fs δ>>=F):=by
 obtain⟨C,ps,sp,G,mk,kc,m,h⟩:=T.ex;refine⟨PE.mono (Jl G mk kc m hr hx ha.h hjk hg hdb he hpl) λσ H Q z=>?_⟩
 obtain⟨ρ,δ,M,ev,j,g1⟩:=z;refine⟨ρ,δ,M,ev,j,g1.bind λρ1 H1 M1 xs dxs e1 j1 c1 g2=>λx dx h1 h2 h3=>?_⟩
 rw[V6];exact h ρ1 M1 H1 xs dxs Q E c1 j1 g2 x dx h1 h2 h3
def RL(c:Str):DM D:=λM=>some (.ok (.ref M.length),M++[.ins c [] []])
section
variable{mg:Str->Option Value}{ρ:Rh}{H:Hp}{k:Nat}{M':Mo}
def Cvs.fz(hk:ρ.st.length=k){vs:List V}{ds:List D}(h:Cvs mg ρ H vs ds):Fzs M' k ds ds:=
 Cvs.rec (motive_1:=λz d z=>Fz M' k d d) (motive_2:=λz ds z=>Fzs M' k ds ds) .non .bl .int .str (λz z z=>.tup) (λz z z=>.lst) (λz z z z=>.dic) (λz z z z z=>.obj) (λz z=>.scr _) (λh=>.old (hk ▸ (Uj.mp h).1)) (λz=>.cls _) .ty .exn (λz z=>.exf _ _ _) .nil (λz z=>.cons) h
theorem Cv.fz(hk:ρ.st.length=k){v:V}{d:D}(h:Cv mg ρ H v d):Fz M' k d d:=by cases Cvs.fz hk (.cons h .nil);assumption
def Cvs.fz_mem(hk:ρ.st.length=k){vs:List V}{ds:List D}(h:Cvs mg ρ H vs ds):∀d∈ds,Fz M' k d d:=h.ind (P:=λz ds=>∀d∈ds,Fz M' k d d) nofun λa z i d h=>(Uw.mp h).elim (λe=>e ▸ a.fz hk) (i d)
theorem Fd:∀{ds:List D},(∀d∈ds,Fz M' k d d)->Fzs M' k ds ds
 |[],_=>.nil
 |d::ds,h=>.cons (h d (by simp)) (Fd λe he=>h e (by simp[he]))
theorem J.fz(j:J mg ρ M H):Rz (M++[o]) M.length M:=by
 refine⟨rfl,λn u h=>?_⟩
 have hn:=(Uj.mp h).1;refine⟨u,by rw[Uu hn];exact h,?_⟩
 have hl:n<ρ.st.length:=by rw[j.len];exact hn
 have c:=j.obj n ρ.st[n] u (Uq hl) h;cases u with
 |lst l=>obtain⟨xs,_,c⟩:=c;exact c.fz j.len
 |dic ks l=>obtain⟨xs,_,_,c⟩:=c;exact⟨rfl,c.fz j.len⟩
 |ins cc ns l=>obtain⟨C,dx,xs,_,_,_,c⟩:=c;exact⟨rfl,rfl,c.fz j.len⟩
 |pdc ks l=>obtain⟨xs,_,_,_,_,c⟩:=c;exact⟨rfl,c.fz j.len⟩
end
def Mw(c:Str)(Fi:List D->DM D)(ds:List D)(M:Mo)(r':R D×Mo):Prop:=
 (∃ns vs,Fi (.ref M.length::ds) (M++[.ins c [] []])=some (.ok .non,M++[.ins c ns vs])/\(∀d∈vs,d∈ds\/∃i,d=.int i)/\r'=(.ok (.obj c ns vs),M)) \/
 (∃e o,Fi (.ref M.length::ds) (M++[.ins c [] []])=some (.exc e,M++[o])/\r'=(.exc e,M))
def RT{P:Program}{w:World}{K:PySem.W.Frag}{mg:Str->Option Value}{base:Heap}{k:Nat}{c qual:Str}{st:Stmt}{ps:List Str}{Fi F':List D->DM D}(T:MethD P w K mg base k c "__init__" qual st ps Fi)
  (hb:∀(kV doc pm:Value) (an:Option Addr) (cdv ct:Value) (us:List Value),us.length=ps.length->bindArgs (PySem.W.fnOf "__init__" qual (defArgs st) (defBody st) (defScope st) .none kV doc pm an cdv ct) ⟨us,[]⟩=pure (ps.zip us))
  (hm:∀C,mg c=some (.ref C)->PySem.W.makesIn K C=true/\PySem.W.keepIn K (.ref C)=true) (hf:∀ds M r',F' ds M=some r'->Mw c Fi ds M r'):ClsD P w K mg base k c F':=by
 obtain⟨C,f,fd,mc,G,B,a,n,cl⟩:=T.ex;refine⟨C,ps,_,⟨f,fd,G,B.binds hb,B.kp,a,n⟩,(hm C mc).1,(hm C mc).2,mc,λρ M H vs ds Q E cv j g x dx hx hdx hne=>?_⟩
 obtain⟨r',e,p⟩:=g;have hx':upd H dx (.own x) x=none:=by rw[upd_ne (λz=>hne z.symm)];exact hx
 have x1:Ext ρ H ρ (upd H dx (.own x)):=.lay hdx;have j1:=j.lay (.own x) hdx;have x2:Ext ρ (upd H dx (.own x)) (ρ.put x) (upd (upd H dx (.own x)) x (.ins C dx [])):=.put hx';have j2:J mg (ρ.put x) (M++[.ins c [] []]) (upd (upd H dx (.own x)) x (.ins C dx [])):=j1.put hx' ⟨C,dx,[],mc,upd_same,rfl,.nil⟩;have hput:(ρ.put x).st[M.length]?=some x:=by show (ρ.st++[x])[M.length]?=some x;rw[<-j.len,Vi (Ur _)];simp
 refine⟨ρ.put x,M++[.ins c [] []],.ref M.length::ds,.cons (.ref hput) (cv.mono (x1.trans x2)),j2,?_⟩;have sb:∀{ρ2 H2},Ext (ρ.put x) (upd (upd H dx (.own x)) x (.ins C dx [])) ρ2 H2->Sub ρ ρ2 M.length:=λ{ρ2 H2} y=>by obtain⟨τ,ht⟩:=y.pre;exact⟨⟨[x]++τ,by rw[ht];show (ρ.st++[x])++τ=_;simp⟩,y.vo,j.len⟩
 have ex:∀{ρ2 H2},Ext (ρ.put x) (upd (upd H dx (.own x)) x (.ins C dx [])) ρ2 H2->Ext ρ H ρ H2:=λ{ρ2 H2} y=>⟨⟨[],by simp⟩,rfl,λa h n=>absurd h n,λb o hb hn=>y.keep b o (by
  have nx:b≠x:=ne_of_none hb hx;have ndx:b≠dx:=ne_of_none hb hdx;rw[upd_ne nx,upd_ne ndx];exact hb) (λz=>by
  rcases Vr.mp z with z | z
  ·exact hn z
  ·exact ne_of_none hb hx (U7.mp z))⟩
 rcases hf ds M r' e with ⟨ns,vs',e2,hv,rfl⟩ | ⟨er,o,e2,rfl⟩
 ·refine⟨_,e2,λρ2 H2 b y j3 cb=>?_⟩
  cases cb;refine⟨rfl,p ρ H2 (.ref x) (ex y) (j3.freeze (sb y) j.len j.fz) ?_⟩;have h3:ρ2.st[M.length]?=some x:=y.at hput;obtain⟨C',dx',xs,m',hx3,l,cs⟩:=j3.obj M.length x (.ins c ns vs') h3 (by simp)
  refine .obj (j.fresh hx) m' hx3 l (Cvs.freeze (sb y) j3 (Fd λd hd=>?_) cs)
  rcases hv d hd with h | ⟨i,rfl⟩
  ·exact cv.fz_mem j.len d h
  ·exact .int i
 ·refine⟨_,e2,λρ2 H2 C2 y j3 m2 o qo=>?_⟩
  exact p ρ H2 C2 (ex y) (j3.freeze (sb y) j.len j.fz) m2 o (qo.out (sb y).out)
end L3
namespace L3
open PySem PySem.Spec L2 LS
def CN:List D->Mo->Option (List D)
 |[d],M=>(aR d M).bind λl=>(intsOf l).bind λns=>if ns.length<=60 then some ((fH ns).map D.int) else none
 |_,_=>none
theorem vG:∀ {l:List D}{ns:List Int},intsOf l=some ns->l=ns.map D.int
 |[],ns,e=>by cases e;rfl
 | d::l,ns,e=>by
   cases d with
   |int i=>simp only[intsOf,Option.map_eq_some_iff]at e;obtain⟨ms,h,rfl⟩:=e;rw[vG h];rfl
   |_=>simp[intsOf]at e
theorem wX:∀ {ns:List Int}{xs:List V},Cvs mg ρ H xs (ns.map D.int)->xs=ns.map V.int
 |[],_,.nil=>rfl
 |n::ns,_,.cons a t=>by cases a;rw[wX t];rfl
section
variable{X:Cx}{E:XK}{a:Expr}{fa:aa->DM (List D)}{p1 p2 pos1 pos2:Pos}
set_option tactic.hygienic true in
def Kv(hc:X.calm=true)(hmL:X.mg "sorted"=none)(hm:X.mg "set"=none)(ha:DA X E [a] fa)(hgL:Gl X "sorted":=by rfl)(hg:Gl X "set":=by rfl)(hs:notStar a=true:=by rfl):
  DE X E (.Call (.Name "sorted" p1) [.Call (.Name "set" p2) [a] [] pos2] [] pos1) (λδ=>fa δ>>=λl=>rd (λM=>(CN l M).map D.lst)):=⟨PE.mono (Jo hc hgL hmL hg hm ha.h.h hs) λσ H Q h=>by
 obtain⟨ρ,δ,M,ev,j,g1⟩:=h;refine⟨ρ,δ,M,ev,j,g1.bind λρ1 H1 M1 xs ds e1 j1 c1 g2=>?_⟩
 obtain⟨d,ed,q⟩:=g2.rd;obtain⟨l,el,rfl⟩:=Up.mp ed;unfold CN at el;split at el
 ·rename_i d0;obtain⟨l0,h0,el⟩:=UT.mp el;obtain⟨ns,h1,el⟩:=UT.mp el;split at el
  ·rename_i hn;cases el;have e0:=vG h1;subst e0;obtain⟨v,rfl,k⟩:=c1.one;have fin:∀p,H1 p=some (.lst (ns.map V.int))->∃p' ns',[V.ref p]=[.ref p']/\H1 p'=some (.lst (ns'.map V.int))/\(ns'.length<=2000/\(ns'.foldl PyProof.Rows.step_dedup []).length<=60)/\∀l,H1 l=none->Q (.ref l) (upd H1 l (.lst ((fH ns').map V.int))):=λp hp=>
    ⟨p,ns,rfl,hp,⟨by lia,UL (PyProof.Rows.foldl_step_dedup_nil_length_le ns) hn⟩,λl hl=>q ρ1 _ _ (.lay hl) (j1.lay _ hl) (.lst (j1.fresh hl) upd_same (Cvs.ints _))⟩
   obtain⟨p,xs,rfl,hx,c⟩:=cC j1 k h0;exact fin p (by rw[hx,wX c])
  ·cases el
 ·cases el⟩
end
end L3
namespace L3
open PySem PySem.Spec L2
def uI(h:l.length=1):∃a,l=[a]:=match l,h with | [a],_=>⟨a,rfl⟩
def Bw(h:l.length=2):∃a b,l=[a,b]:=match l,h with | [a,b],_=>⟨a,b,rfl⟩
def IW(h:l.length=3):∃a b c,l=[a,b,c]:=match l,h with | [a,b,c],_=>⟨a,b,c,rfl⟩
def Oo(h:l.length=4):∃a b c d,l=[a,b,c,d]:=match l,h with | [a,b,c,d],_=>⟨a,b,c,d,rfl⟩
def wR:D->DM D
 |.int n=>if 0<=n/\n<2^63 then pure (.int n) else stuck
 |_=>stuck
def Bx(c:Str)(F:List D->DM D):List D->DM D
 |[.obj k ns vs]=>if k=c then F [.obj k ns vs]>>=wR else stuck
 |l=>rd (kj l)
set_option tactic.hygienic true in
def oG(T:MethD X.prog X.w X.K X.mg X.base j c "__len__" qual st ps F)(hr:Room k X.A)(hx:Passes (bD X.prog X.w) X E)
  (hb:∀(kV doc pm:Value) (an:Option Addr) (cdv ct:Value) (us:List Value),us.length=ps.length->bindArgs (PySem.W.fnOf "__len__" qual (defArgs st) (defBody st) (defScope st) .none kV doc pm an cdv ct) ⟨us,[]⟩=pure (ps.zip us))
  (hjk:j+1<=k:=by decide):CallD X E (.builtin "len") (Bx c F):=by
 obtain⟨C,f,fd,mc,G,B,a,n,cl⟩:=T.ex;have MC:MethC X.prog X.w X.K X.mg X.base j C "__len__" ps (yJ X.mg F):=⟨f,fd,G,B.binds hb,B.kp,a,n⟩;intro YT s σ H vs us Q I rs q;obtain⟨ρ,M,ds,j,cv,go⟩:=q;unfold Bx at go;split at go
 ·rename_i k' ns ws;split at go
  ·rename_i hk;subst hk;obtain⟨v,rfl,kv⟩:=cv.one;cases kv with
   | obj hn m hh hl cs=>
     rw[mc]at m;cases m;refine DR MC (hr.mono hjk) hx YT s σ H _ us Q I rs ⟨_,_,_,rfl,hh,ρ,M,_,cv,j,go.bind λρ1 H1 M1 b d e1 j1 c1 g2=>?_⟩
     unfold wR at g2;split at g2
     ·split at g2
      ·rename_i hn2;cases c1;exact⟨_,rfl,hn2,g2.pure ρ1 H1 _ .refl j1 (.int _)⟩
      ·obtain⟨r,e,_⟩:=g2;cases e
     ·obtain⟨r,e,_⟩:=g2;cases e
  ·obtain⟨r,e,_⟩:=go;cases e
 ·exact call_lenD YT s σ H vs us Q I rs ⟨ρ,M,_,j,cv,go⟩
end L3
namespace L2
open PySem PySem.Spec PyProof.Rows
def Qo(ta tb:TE):TE:=λσ H Q=>ta σ H λx H1=>∃a:Str,x=.str a/\a.length<=sizeLine/\tb σ H1 λy H2=>∃b:Str,y=.str b/\a.length+b.length<=sizeLine/\Q (.str (Str.empty++a++b)) H2
def Jj(ha:PE X a ta)(hb:PE X b tb):PE X (.JoinedStr [a,b] pos) (Qo ta tb):=by
 intro YT s σ H Q I h;have el:∀y:Str,(Str.empty++y).length=y.length:=λy=>by rw[Xq];show 0+y.length=y.length;lia
 refine JoinedStr_many (Xb (thn (ha YT s σ H _ I h) λv s1 ⟨x,H1,I1,r1,q1⟩=>?_))
 obtain⟨sa,rfl,la,q1⟩:=q1;obtain⟨t,rfl⟩:=r1;refine⟨by rw[el];exact la,Xb (thn (hb YT s1 σ H1 _ I1 q1) λv s2 ⟨y,H2,I2,r2,q2⟩=>?_)⟩
 obtain⟨sb,rfl,lb,q2⟩:=q2;obtain⟨t2,rfl⟩:=r2;have l2:(Str.empty++sa++sb).length<=sizeLine:=by rw[Xq,el];exact lb
 exact⟨l2,joinParts_nil ⟨.str _,H2,I2.tok _,⟨_,rfl⟩,q2⟩ l2⟩
end L2
namespace L3
open PySem PySem.Spec L2
def Oi(fa fb:aa->DM D)(δ:aa):DM D:=fa δ>>=λx=>opt (strOf x)>>=λa=>(if a.length<=sizeLine then pure () else stuck)>>=λz=>fb δ>>=λy=>opt (strOf y)>>=λb=>if a.length+b.length<=sizeLine then pure (.str (Str.empty++a++b)) else stuck
def Ib(ha:DE X E a fa)(hb:DE X E b fb):DE X E (.JoinedStr [a,b] pos) (Oi fa fb):=⟨PE.mono (Jj ha.h hb.h) λσ H Q h=>by
 obtain⟨ρ,δ,M,ev,j,g1⟩:=h;refine⟨ρ,δ,M,ev,j,Go.bind g1 λρ1 H1 M1 x dx e1 j1 c1 g2=>?_⟩
 obtain⟨sa,rfl,g2⟩:=g2.strOf;obtain⟨h1,g2⟩:=g2.iteB;cases c1;refine⟨sa,rfl,h1,ρ1,δ,M1,ev.mono e1,j1,g2.bind λρ2 H2 M2 y dy e2 j2 c2 g3=>?_⟩
 obtain⟨sb,rfl,g3⟩:=g3.strOf;obtain⟨h2,g3⟩:=g3.ite;cases c2;exact⟨sb,rfl,h2,g3.pure ρ2 H2 _ .refl j2 (.str _)⟩⟩
end L3
namespace L2
open PySem PySem.Spec PyProof.Rows
def Rr(i j k:Nat)(ta:TA):TS:=λD σ H=>ta σ H λvs H1=>∃v w z,vs=[v,w,z]/\D.nx (((σ.set i (some v)).set j (some w)).set k (some z)) H1
def Ls{kt k2 pt2}(hc:X.calm=true)(hN:X.N.Nodup)(hi:X.N[i]?=some x)(hj:X.N[j]?=some y)(hk:X.N[k]?=some z)(hij:i≠j)(hik:i≠k)(hjk:j≠k)
  (hx:X.env.scope.names.lookup x=some .local) (hy:X.env.scope.names.lookup y=some .local) (hz:X.env.scope.names.lookup z=some .local) (ha:PA X [a,b,c] ta)
  (hw:swappedStores [.Tuple [.Name x px,.Name y py,.Name z pz] kt pt] (.Tuple [a,b,c] k2 pt2) X.env=pure (some [x,y,z]))
  (hs:swapsWithSole [.Tuple [.Name x px,.Name y py,.Name z pz] kt pt] (.Tuple [a,b,c] k2 pt2) pos.line X.env=pure false:=by rfl) :
  PS X (.Assign [.Tuple [.Name x px,.Name y py,.Name z pz] kt pt] (.Tuple [a,b,c] k2 pt2) pos) (Rr i j k ta):=by
 intro YT s σ H D I h;rw[exec_Assign_arm];refine Ug (Vt ?_);rw[hs];refine Ug (Ui ?_);rw[Ux (by decide)]
 refine Ug (Tuple_ (thn (ha _ YT s σ H _ I h) λus s1 ⟨vs,H1,I1,r1,q1⟩=>?_))
 obtain⟨v,w,w3,e1,q1⟩:=q1;subst e1;obtain ⟨u1,u2,u3,rfl,rv,rw',rz⟩:∃ u1 u2 u3,us=[u1,u2,u3]/\RelV v u1/\RelV w u2/\RelV w3 u3:=by
  cases r1 with
  | cons p q=>
    cases q with
    | cons p' q'=>
      cases q' with
      |cons p2 q2=>cases q2;exact⟨_,_,_,rfl,p,p',p2⟩
 refine Vd ?_ (by show 3<=sizeLine;decide)
 have I2:Inv X YT σ H1 { s1 with heap:=s1.heap.push { cls:=.type "tuple",data:=.seq [u1,u2,u3].toArray } }:=I1.kept (t':=s1.toks) λb o e=>Uh _ e
 rw[hw];refine Ug (Ui ?_);show wpAny (model X.prog X.w) X.A (do rule "assign.swapped-stores";let items <-unpackItems (.ref s1.heap.objs.size) 3 none;assignInOrder [λv=>bindName X.env z v,λv=>bindName X.env y v,λv=>bindName X.env x v] items.reverse;pure Flow.next) _ _ _
 refine Ug (Wk (Ug (unpackItems_tuple (items:=#[u1,u2,u3]) (I.ok.hd hc) (YK s1.heap _) λh' hx'=>?_)))
 have I3:=I2.kept (h':=h') (t':=s1.toks) λb o e=>hx' b o (Ut (Uk e)) e
 show wpAny _ _ (assignInOrder [λv=>bindName X.env z v,λv=>bindName X.env y v,λv=>bindName X.env x v] [u3,u2,u1]>>=λu=>pure Flow.next) _ _ _
 refine Ug (WL (Yc (store_ok I3 hN hk (.inl hz) rz (λs2 I4=>?_) (.inr hz))))
 refine WL (Yc (store_ok I4 hN hj (.inl hy) rw' (λs3 I5=>?_) (.inr hy)))
 refine WL (Yc (store_ok I5 hN hi (.inl hx) rv (λs4 I6=>assignInOrder_nil (Ui ?_)) (.inr hx)))
 have e:((σ.set k (some w3)).set j (some w)).set i (some v)=((σ.set i (some v)).set j (some w)).set k (some w3):=by rw[List.set_comm _ _ (Ne.symm hjk),List.set_comm _ _ (Ne.symm hik),List.set_comm _ _ (Ne.symm hij)]
 rw[e]at I6;exact⟨_,H1,I6,q1⟩
end L2
namespace L3
open PySem PySem.Spec L2
def J0(i j k:Nat)(fa:aa->DM (List D)):aa->DM Fl:=λδ=>fa δ>>=λl=>match l with
 |[v,w,z]=>pure (.nx (((δ.set i (some v)).set j (some w)).set k (some z)))
 |_=>stuck
@[simp] theorem Tv(i j k:Nat)(fa:aa->DM (List D))(δ:aa):J0 i j k fa δ=fa δ>>=λl=>match l with
 |[v,w,z]=>Pure.pure (.nx (((δ.set i (some v)).set j (some w)).set k (some z)))
 |_=>stuck:=id rfl
def KC{kt k2 pt2}(hc:X.calm=true)(hN:X.N.Nodup)(hi:X.N[i]?=some x)(hj:X.N[j]?=some y)(hk:X.N[k]?=some z)(hij:i≠j)(hik:i≠k)(hjk:j≠k)
  (hx:X.env.scope.names.lookup x=some .local) (hy:X.env.scope.names.lookup y=some .local) (hz:X.env.scope.names.lookup z=some .local) (ha:DA X E [a,b,c] fa)
  (hw:swappedStores [.Tuple [.Name x px,.Name y py,.Name z pz] kt pt] (.Tuple [a,b,c] k2 pt2) X.env=pure (some [x,y,z]))
  (hs:swapsWithSole [.Tuple [.Name x px,.Name y py,.Name z pz] kt pt] (.Tuple [a,b,c] k2 pt2) pos.line X.env=pure false:=by rfl) :
  DS X E (.Assign [.Tuple [.Name x px,.Name y py,.Name z pz] kt pt] (.Tuple [a,b,c] k2 pt2) pos) (J0 i j k fa):=⟨PS.mono (Ls hc hN hi hj hk hij hik hjk hx hy hz ha.h.h hw hs) λD σ H h=>by
 obtain⟨ρ,δ,M,ev,j,g1⟩:=h;refine⟨ρ,δ,M,ev,j,bh.bind g1 λρ1 H1 M1 v d e1 j1 c1 g2=>?_⟩
 cases c1 with
 |nil=>obtain⟨r,e,_⟩:=g2;cases e
 | cons c1 c2=>cases c2 with
   |nil=>obtain⟨r,e,_⟩:=g2;cases e
   | cons c2 c3=>cases c3 with
     |nil=>obtain⟨r,e,_⟩:=g2;cases e
     |cons c3 c4=>cases c4 with
       |nil=>exact⟨_,_,_,rfl,bh.pure (a:=.nx _) g2 ρ1 H1 _ .refl j1 ((((ev.mono e1).set c1).set c2).set c3)⟩
       |cons _ _=>obtain⟨r,e,_⟩:=g2;cases e⟩
end L3
namespace N10
theorem Ah(c:Nat):∀(f:List Nat),(f.map (c * ·)).sum=c*f.sum
 |[]=>rfl
 |a::f=>by simp only[List.map_cons,List.sum_cons,Ah c f,Nat.mul_add]
def pl(a b:Nat):Nat×Nat:=(a / Nat.gcd a b,b / Nat.gcd a b)
def R1(l:List Nat):Nat:=l.foldl Nat.gcd 0
theorem vB:∀ (ms:List Nat) (g:Nat),ms.foldl Nat.gcd g ∣ g/\∀ m∈ms,ms.foldl Nat.gcd g ∣ m
 |[],g=>⟨Nat.dvd_refl _,by simp⟩
 |m::ms,g=>by
   have:=vB ms (Nat.gcd g m);rw[Yv];refine⟨Nat.dvd_trans this.1 (Nat.gcd_dvd_left _ _),λx hx=>?_⟩
   rcases Uw.mp hx with rfl | hx
   ·exact Nat.dvd_trans this.1 (Nat.gcd_dvd_right _ _)
   ·exact this.2 x hx
def lst(l:List Nat):List Nat:=l.map (·/ R1 l)
def S:Nat->(Nat->Nat)->Nat
 |0,_=>0
 |n+1,f=>S n f+f n
def up(f:Nat->Nat)(x v:Nat):Nat->Nat:=λi=>if i=x then v else f i
def Ak(f:Nat->Nat)(x v:Nat):up f x v x=v:=by simp[up]
def CV(h:i≠x):up f x v i=f i:=by simp[up,h]
theorem dI:∀ {n:Nat},(∀ i,i<n->f i=g i)->S n f=S n g
 |0,_=>rfl
 |n+1,h=>by show S n f+f n=S n g+g n;rw[dI λi hi=>h i (by lia),h n (by lia)]
theorem Hy:∀ {n:Nat},x<n->S n (up f x v) + f x=S n f + v
 | n + 1,h=>by
   show S n (up f x v)+up f x v n+f x=S n f+f n+v;by_cases e:x=n
   ·subst e;rw[Ak,dI (g:=f) λi hi=>CV (by lia)];lia
   ·have:=Hy (f:=f) (v:=v) (n:=n) (x:=x) (by lia)
    rw[CV (Ne.symm e)];lia
theorem rW:∀ {n:Nat},(∀ i,i<n->f i=0)->S n f=0
 |0,_=>rfl
 |n+1,h=>by show S n f+f n=0;rw[rW λi hi=>h i (by lia),h n (by lia)]
theorem Ar(f g:Nat->Nat):∀ n:Nat,S n (λi=>f i + g i)=S n f + S n g
 |0=>rfl
 |n+1=>by show S n _+(f n+g n)=(S n f+f n)+(S n g+g n);rw[Ar f g n];lia
theorem rT(f:Nat->Nat):∀ n:Nat,((List.range n).map f).sum=S n f
 |0=>rfl
 |n+1=>by
   rw[Yt,XH,List.sum_append,rT f n];show S n f+(f n+0)=S n f+f n
   lia
structure G where
 A:Nat->Nat->Nat
 L:Nat->Nat
 W:Nat->Nat
end N10
namespace L3
open PySem PySem.Spec L2
def nM(R:List (List Nat)):D:=.tup (R.map nT)
def ga(l:List Nat)(i:Nat):Nat:=l.getD i 0
def gr(R:List (List Nat))(i:Nat):List Nat:=R.getD i []
def NB(h:i<l.length):ga l i∈l:=by unfold ga;rw[U9,Uq h];exact V7 _
def gr_mem{R:List (List Nat)}{i:Nat}(h:i<R.length):gr R i∈R:=by unfold gr;rw[U9,Uq h];exact V7 _
def sX(h:l.length<=i):ga l i=0:=by unfold ga;rw[U9,VB h];rfl
def iQ(h:i<l.length):ga l i=l[i]:=by unfold ga;rw[U9,Uq h];rfl
def JP{R:List (List Nat)}{i:Nat}(h:i<R.length):gr R i=R[i]:=by unfold gr;rw[U9,Uq h];rfl
def O3(h:nD a=nD b):a=b:=by
 have:=D.int.inj h
 lia
def O5(h:nT a=nT b):a=b:=(List.map_inj_right λz z=>O3).mp (D.tup.inj h)
def O4(h:nM a=nM b):a=b:=(List.map_inj_right λz z=>O5).mp (D.tup.inj h)
theorem Gb{α:Type}{ft:aa->DM Bool}{fe:aa->DM D}{rest:aa}(enc:α->D)(p:α->Bool)(e:α->D):∀ (as:List α) (x:Option D) (l:List D),l.length + as.length<=1000000->(∀ a∈as,ft (some (enc a)::rest)=Pure.pure (p a))->(∀ a∈as,p a=true->fe (some (enc a)::rest)=Pure.pure (e a))->
  aZ (gN 0) ft (bB fe) (as.map enc) (x::rest) l=Pure.pure (mj x (as.map enc)::rest,l++(as.filter p).map e)
 |[],x,l,_,_,_=>by simp[aZ,mj]
 | d::ds,x,l,hl,h1,h2=>by
   have b:=h1 d (UW ..);have hl':l.length+(ds.length+1)<=1000000:=by simpa using hl
   have lt:l.length<sizeLine:=by show l.length<2^24;lia
   have ih:=λl' hl'=>Gb (rest:=rest) enc p e ds (some (enc d)) l' hl' (λx hx=>h1 x (Vj _ hx)) (λx hx=>h2 x (Vj _ hx))
   by_cases hp:p d=true
   ·have c:=h2 d (UW ..) hp;have q:=ih (l++[e d]) (by simp;lia)
    simp[aZ,b,hp,bB,c,lt,q,mj]
   ·have q:=ih l (by lia)
    simp[aZ,b,hp,q,mj]
def aO{α:Type}{ft:aa->DM Bool}{fe:aa->DM D}{x:Option D}{rest:aa}{as:List α}(enc:α->D)(p:α->Bool)(e:α->D)(hl:as.length<=1000000)(h1:∀a∈as,ft (some (enc a)::rest)=Pure.pure (p a))(h2:∀a∈as,p a=true->fe (some (enc a)::rest)=Pure.pure (e a)):
  bU (aZ (gN 0) ft (bB fe) (as.map enc) (x::rest) [])=Pure.pure (mj x (as.map enc)::rest,(as.filter p).map e):=by
 rw[Gb enc p e as x [] (by simpa using hl) h1 h2];simp
def cI{α:Type}{fe:aa->DM D}{x:Option D}{rest:aa}{as:List α}(enc:α->D)(e:α->D)(hl:as.length<=1000000)(h2:∀a∈as,fe (some (enc a)::rest)=Pure.pure (e a)):
  bU (aZ (gN 0) (λz=>Pure.pure true) (bB fe) (as.map enc) (x::rest) [])=Pure.pure (mj x (as.map enc)::rest,as.map e):=by
 rw[aO enc (λz=>true) e hl (λz z=>rfl) λa ha z=>h2 a ha,XC.mpr (λz z=>rfl)]
theorem Gd{α β:Type}{fe:aa->DM D}{rest:aa}(enc:α->D)(enc':β->D)(e:α->β->D):∀ (as:List α) (bs:List β) (x y:Option D) (l:List D),l.length + as.length<=1000000->(∀ a∈as,∀ b∈bs,fe (some (enc a)::some (enc' b)::rest)=Pure.pure (e a b))->
  aZ (gT 2 (bK (gN 0) (bK (gN 1) fQ))) (λz=>Pure.pure true) (bB fe) (pairs (as.map enc) (bs.map enc')) (x::y::rest) l=Pure.pure (pL x y (as.map enc) (bs.map enc')++rest,l++List.zipWith e as bs)
 |[],bs,x,y,l,_,_=>by simp[aZ,pL,pairs]
 |a::as,[],x,y,l,_,_=>by simp[aZ,pL,pairs]
 |a::as,b::bs,x,y,l,hl,h=>by
   have c:=h a (by simp) b (by simp)
   have hl':l.length+(as.length+1)<=1000000:=by simpa using hl
   have lt:l.length<sizeLine:=by show l.length<2^24;lia
   have ih:=Gd (rest:=rest) enc enc' e as bs (some (enc a)) (some (enc' b)) (l++[e a b]) (by simp;lia) (λa ha b hb=>h a (by simp[ha]) b (by simp[hb]))
   simp[aZ,pairs,bB,c,lt,ih,pL]
def Ef{α β:Type}{fe:aa->DM D}{x y:Option D}{rest:aa}{as:List α}{bs:List β}(enc:α->D)(enc':β->D)(e:α->β->D)(hl:as.length<=1000000)(h:∀a∈as,∀b∈bs,fe (some (enc a)::some (enc' b)::rest)=Pure.pure (e a b)):
  bU (aZ (gT 2 (bK (gN 0) (bK (gN 1) fQ))) (λz=>Pure.pure true) (bB fe) (pairs (as.map enc) (bs.map enc')) (x::y::rest) [])=Pure.pure (pL x y (as.map enc) (bs.map enc')++rest,List.zipWith e as bs):=by
 rw[Gd enc enc' e as bs x y [] (by simpa using hl) h];simp
def yt(h0:0<b)(h:b<2^1000):(rd (lV (nD a) (nD b)):DM D)=Pure.pure (nD (a / b)):=by unfold nD;rw[GJ (zq (by lia) (by simpa using h)),Int.natCast_ediv]
def dC(h:b<2^64):(rd (cG (nD a) (nD b)):DM D)=Pure.pure (nD (a*b)):=by unfold nD;rw[mD (pM (by simpa using h)),Int.natCast_mul]
def oY(a b:Nat):(rd (iW (nD a) (nD b)):DM D)=Pure.pure (nD (a+b)):=by unfold nD;rw[Q6,Int.natCast_add]
def zT(a:Nat):(rd (iW (nD a) (.int 1)):DM D)=Pure.pure (nD (a+1)):=oY a 1
def PB(a:Nat):(rd (iW (.int 1) (nD a)):DM D)=Pure.pure (nD (a+1)):=by rw[Nat.add_comm];exact oY 1 a
def P0(h:b<=a):(rd (Jy (nD a) (nD b)):DM D)=Pure.pure (nD (a-b)):=by
 unfold nD;rw[Ri];have:(a:Int)-(b:Int)=((a-b:Nat):Int):=by lia
 rw[this]
def dB(a b:Nat):(rd (eE (nD a) (nD b)):DM D)=Pure.pure (.bl (decide (a=b))):=by
 unfold nD;rw[Q7];have:decide ((a:Int)=(b:Int))=decide (a=b):=by rw[Va,Ws,Ws];lia
 rw[this]
def ue(a b:Nat):(rd (iH (nD a) (nD b)):DM D)=Pure.pure (.bl (!decide (a=b))):=by
 unfold nD;rw[Rf];have:decide ((a:Int)=(b:Int))=decide (a=b):=by rw[Va,Ws,Ws];lia
 rw[this]
def GR(a b:Nat):(rd (JT (nD a) (nD b)):DM D)=Pure.pure (.bl (decide (a<b))):=by
 unfold nD;rw[Sq];have:decide ((a:Int)<(b:Int))=decide (a<b):=by rw[Va];simp
 rw[this]
def jw(a b:Nat):(rd (qt (nD a) (nD b)):DM D)=Pure.pure (.bl (decide (a<=b))):=by
 unfold nD;rw[Sh];have:decide ((a:Int)<=(b:Int))=decide (a<=b):=by rw[Va];simp
 rw[this]
def tX(a b:Nat):(rd (xK (nD a) (nD b)):DM D)=Pure.pure (.bl (decide (b<a))):=by
 unfold nD;rw[Sg];have:decide ((b:Int)<(a:Int))=decide (b<a):=by rw[Va];simp
 rw[this]
def PL(a b:Nat):(rd (xJ (nD a) (nD b)):DM D)=Pure.pure (.bl (decide (b<=a))):=by
 unfold nD;rw[Sd];have:decide ((b:Int)<=(a:Int))=decide (b<=a):=by rw[Va];simp
 rw[this]
def zV(h:0<b):(rd (gF (nD a) (nD b)):DM D)=Pure.pure (nD (a%b)):=yx h
def Lx(a b:Bool):(rd (eE (.bl a) (.bl b)):DM D)=Pure.pure (.bl (a==b)):=cH λM=>by simp[eE,L3.eqB,eqP,toPy,PyData.canLay0,PyData.depth,PyData.eqv]
def yu(l:List Nat):(rd (kj [nT l]):DM D)=Pure.pure (nD l.length):=by simp[nT,nD]
def eN(R:List (List Nat)):(rd (kj [nM R]):DM D)=Pure.pure (nD R.length):=by simp[nM,nD]
def Ra(l:List D):(rd (kh [.tup l,.ty "tuple"]):DM D)=Pure.pure (.bl true):=tY (t := "tuple") (λz=>rfl) (by decide)
def GK(R:List (List Nat)):(rd (kh [nM R,.ty "tuple"]):DM D)=Pure.pure (.bl true):=Ra _
def dD(h:n<2^62):o4 [nD n]=some (.fix ((List.range n).map nD)):=yD h
def eG(l:List Nat):rY (nT l)=some (.fix (l.map nD)):=rfl
def cV(R:List (List Nat)):rY (nM R)=some (.fix (R.map nT)):=rfl
def yr(l:List D):(rd (Dr (.lst l)):DM Itn)=Pure.pure (.fix l):=rfl
def zW(l:List Nat)(R:List (List Nat)):yR [nT l,nM R]=some (.fix (pairs (l.map nD) (R.map nT))):=rfl
def J8(h:i<l.length):(rd (gk (nT l) (nD i)):DM D)=Pure.pure (nD (ga l i)):=Rc (by unfold ga;rw[U9,Uq h];rfl)
def Rb{R:List (List Nat)}{i:Nat}(h:i<R.length):(rd (gk (nM R) (nD i)):DM D)=Pure.pure (nT (gr R i)):=J6 (by unfold gr;rw[UG,U9,Uq h];rfl)
def GQ{R:List (List Nat)}(h:0<R.length):(rd (gk (nM R) (.int 0)):DM D)=Pure.pure (nT (gr R 0)):=Rb h
theorem rM:∀ R:List (List Nat),eQ (R.map nT)=some (R.map λl=>PyData.tuple (l.map λn:Nat=>PyData.int (n:Int)))
 |[]=>rfl
 | l::R=>by
   have e:toPy (nT l)=some (PyData.tuple (l.map λn:Nat=>PyData.int (n:Int))):=by rw[lD];simp only[toPy,mU,Option.map_some];rw[VJ];rfl
   simp only[List.map_cons,eQ,e,rM R]
theorem qP:∀ R:List (List Nat),PyData.depthAll (R.map λl=>PyData.tuple (l.map λn:Nat=>PyData.int (n:Int)))<=2
 |[]=>by simp[PyData.depthAll]
 |l::R=>by
   have:=qP R;have h:=lU (l.map λn:Nat=>(n:Int))
   rw[VJ]at h;have h':PyData.depthAll (l.map λn:Nat=>PyData.int (n:Int))<=1:=h
   simp only[List.map_cons,PyData.depthAll,PyData.depth]
   lia
def Mh{R:List (List Nat)}(h:∀ l∈R,∀ n∈l,n<2 ^ 1000):PyData.showableAll (R.map λl=>PyData.tuple (l.map λn:Nat=>PyData.int (n:Int)))=true:=by
 induction R with
 |nil=>rfl
 | cons l R ih=>
   have hl:=Hh (l:=l.map λn:Nat=>(n:Int)) (λi hi=>by
    obtain⟨n,hn,rfl⟩:=Vk.mp hi;have:=h l (by simp) n hn
    rw[Int.natAbs_natCast];exact this)
   rw[VJ]at hl;have hl':PyData.showableAll (l.map λn:Nat=>PyData.int (n:Int))=true:=hl
   simp[PyData.showableAll,PyData.showable,hl',ih λm hm=>h m (by simp[hm])]
theorem Dv:∀ {R:List (List Nat)},(∀ l∈R,l.length<=c)->fL (R.map λl=>PyData.tuple (l.map λn:Nat=>PyData.int (n:Int)))<=(1923 * c + 100) * R.length
 |[],_=>by simp[fL]
 |l::R,h=>by
   have ih:=Dv (R:=R) λm hm=>h m (by simp[hm])
   have b:=wN (l.map λn:Nat=>(n:Int))
   rw[VJ,UV]at b;have b':fL (l.map λn:Nat=>PyData.int (n:Int))=1923*l.length:=b
   have hl:=h l (by simp)
   have m:1923*l.length<=1923*c:=Nat.mul_le_mul_left _ hl;simp only[List.map_cons,fL,cX,b',List.length_cons];rw[Nat.mul_add]
   lia
def LQ{R:List (List Nat)}(h:∀l∈R,∀n∈l,n<2^1000)(hl:∀l∈R,l.length<=30)(hR:R.length<=30):mR (nM R):=by
 have d:=qP R;have b:=Dv hl;have:(1923*30+100)*R.length<=(1923*30+100)*30:=Nat.mul_le_mul_left _ hR;refine pW (p:=.tuple (R.map λl=>PyData.tuple (l.map λn:Nat=>PyData.int (n:Int)))) (by unfold nM;simp[toPy,rM]) (by simp only[PyData.showable];exact Mh h) (by simp only[PyData.depth];lia) ?_
 simp only[cX];show _<=2^24
 lia
def Nq(a b:List (List Nat))(ha:a.length<=1000000):(rd (iH (nM a) (nM b)):DM D)=Pure.pure (.bl (!decide (a=b))):=cH λM=>by
 have d:=qP a;have key:∀ a b:List (List Nat),PyData.eqvAll (a.map λl=>PyData.tuple (l.map λn:Nat=>PyData.int (n:Int))) (b.map λl=>PyData.tuple (l.map λn:Nat=>PyData.int (n:Int)))=decide (a=b):=by
  intro a;induction a with
  |nil=>intro b;cases b<;>simp[PyData.eqvAll]
  | cons x a ih=>
    intro b;cases b with
    |nil=>simp[PyData.eqvAll]
    | cons y b=>
      have e:=oK (x.map λn:Nat=>(n:Int)) (y.map λn:Nat=>(n:Int))
      rw[VJ,VJ]at e;have e':PyData.eqvAll (x.map λn:Nat=>PyData.int (n:Int)) (y.map λn:Nat=>PyData.int (n:Int))=decide (x=y):=by refine Eq.trans e ?_;rw[Va,Ws,Ws];exact qN
      simp only[List.map_cons,PyData.eqvAll,PyData.eqv,e',ih b];by_cases h:x=y<;>by_cases h2:a=b<;>simp[h,h2]
 have lay:∀ a:List (List Nat),PyData.canLayAll0 (a.map λl=>PyData.tuple (l.map λn:Nat=>PyData.int (n:Int)))=true:=by
  intro a;induction a with
  |nil=>rfl
  |cons x a ih=>
    have e:=lay_ints (x.map λn:Nat=>(n:Int))
    rw[VJ]at e;have e':PyData.canLayAll0 (x.map λn:Nat=>PyData.int (n:Int))=true:=e
    simp[PyData.canLayAll0,PyData.canLay0,e',ih]
 unfold nM;simp only[iH,L3.eqB,eqP,toPy,rM,Option.map_some,PyData.canLay0,lay,PyData.depth,PyData.eqv,key];simp
 lia
end L3
namespace LS
open PySem PySem.Spec PyProof.Rows PyProof
end LS
namespace L2
open PySem PySem.Spec PyProof.Rows
variable{X:Cx}{pos:Pos}
end L2
namespace L3
open PySem PySem.Spec PyProof.Rows L2
variable{X:Cx}{E:XK}{pos:Pos}
def gL(n:Nat)(fs:List D->aa->DM aa):D->aa->DM aa
 |.lst l,δ=>if l.length=n then fs l δ else stuck
 |_,_=>stuck
@[simp] theorem Ud(n:Nat)(fs:List D->aa->DM aa)(l:List D)(δ:aa):gL n fs (.lst l) δ=if l.length=n then fs l δ else stuck:=id rfl
def qT{X:Cx}{E:XK}{st:Stmt}:DS X E st (λz=>stuck):=⟨by intro YT s σ H D I h;obtain⟨ρ,δ,M,ev,j,g1⟩:=h;obtain⟨r,e,_⟩:=g1;cases e⟩
structure DefAtP(K:PySem.W.Frag)(mg:Str->Option Value)(x:Str)(st:Stmt)(ps:List Str):Prop where
 ex:∃(f:Addr) (oc:Value) (od:Option Addr) (dV kV doc pm:Value) (an:Option Addr) (cdv ct:Value) (osl:Array (Option Value)),
  K.lookup f=some ⟨oc,od,.func (PySem.W.fnOf x x (defArgs st) (defBody st) (defScope st) dV kV doc pm an cdv ct),osl⟩/\PySem.W.codeIn K cdv x=true/\PySem.W.keepIn K (.ref f)=true/\mg x=some (.ref f)/\Binds K (PySem.W.fnOf x x (defArgs st) (defBody st) (defScope st) dV kV doc pm an cdv ct) ps []
def Ep{K:PySem.W.Frag}{h:Heap}{mg:Str->Option Value}{x:Str}{st:Stmt}{f:Addr}{oc:Value}{od an:Option Addr}{osl:Array (Option Value)}{dV kV doc pm cdv ct:Value}{ps:List Str}(n:Nat)(X:K.In h)(G:h.Ns mainGlobals mg)
  (a:PySem.W.nsIn K mainGlobals x=some (some (.ref f))) (l:K.lookup f=some ⟨oc,od,.func (PySem.W.fnOf x x (defArgs st) (defBody st) (defScope st) dV kV doc pm an cdv ct),osl⟩) (c:PySem.W.codeIn K cdv x=true) (k:PySem.W.keepIn K (.ref f)=true)
  (b:∀(S:PySem.Setting) (us:List Value),us.length=n->PySem.W.peek K S (bindArgs (PySem.W.fnOf x x (defArgs st) (defBody st) (defScope st) dV kV doc pm an cdv ct) ⟨us,[]⟩)=some (ps.zip (us++[]))) (hn:ps.length=n+0:=by rfl):DefAtP K mg x st ps:=
 ⟨f,oc,od,dV,kV,doc,pm,an,cdv,ct,osl,l,c,k,V8 X G a,sH (ds:=[]) n hn b⟩
section
variable{P:Program}{w:World}{K:PySem.W.Frag}{mg:Str->Option Value}{base:Heap}{k:Nat}{x:Str}{N ps:List Str}{st:Stmt}{fb:aa->DM Fl}
def DefAtP.okD(T:DefAtP K mg x st ps)(S:FnScope N ps (defScope st))
  (hbody:∀(f:Addr) (cdv:Value) (A:Around) (outer:List Env) (s:Shared) (H:Hp) (E:XK),Room k (A.deeper (envOfC x (defScope st) s.heap.objs.size f cdv))->
    DSs (aH P w K mg base N x (defScope st) f cdv A outer s H E) E (defBody st) fb):DefD P w K mg base (k+1) x ps (aG ps.length N.length fb):=⟨by
 obtain⟨f,oc,od,dV,kV,doc,pm,an,cdv,ct,osl,lk,hcd,kp,m,hb⟩:=T.ex;refine⟨f,_,fn_of lk hcd S (λvs H Q E h=>?_) λA outer s H vs Q E hr h=>?_,hb,kp,m⟩
 ·obtain⟨ρ,M,ds,c,j,g⟩:=h;rw[c.len];exact (bh.aG g).1
 ·obtain⟨ρ,M,ds,c,j,g⟩:=h;exact⟨_,(hbody f cdv A outer s H E hr).h,ρ,_,M,eX c,j,(bh.aG g).2⟩⟩
end
end L3
namespace L3
open PySem PySem.Spec L2
abbrev Mg:=Str->Option Value
abbrev Fn:=List D->DM D
abbrev Nn(mg:Mg)(x:Str):Prop:=mg x=none
abbrev Gi(mg:Mg)(x:Str)(i:Int)(t:Tok):Prop:=mg x=some (.int i t)
abbrev Gc(mg:Mg)(x:Str)(C:Addr):Prop:=mg x=some (.ref C)
abbrev Rm(k:Nat)(A:Around)(q:Str)(st:Stmt)(s:Shared)(f:Addr)(cdv:Value):Prop:=Room k (A.deeper (PyProof.Rows.envOfC q (defScope st) s.heap.objs.size f cdv))
abbrev Ds(P:Program)(w:World)(K:PySem.W.Frag)(mg:Mg)(base:Heap)(N:List Str)(q:Str)(st:Stmt)(f:Addr)(cdv:Value)(A:Around)(outer:List Env)(s:Shared)(H:Hp)(E:XK)(b:aa->DM Fl):Prop:=
 DSs (aH P w K mg base N q (defScope st) f cdv A outer s H E) E (defBody st) b
def Cu(a:sc.kind=.function)(b:sc.isCoroutine=false)(c:sc.isGenerator=false)(p:N.take P.length=P)(d:(decide N.Nodup&&(decide (∀x∈P,sc.names.lookup x=some .local\/sc.names.lookup x=some .cell)&&decide (∀y∈sc.names,y.2≠.free)))=true):FnScope N P sc:=by simp only[Bool.and_eq_true,decide_eq_true_eq]at d;exact⟨a,b,c,d.1,p,d.2.1,d.2.2⟩
def u1(h:n+64<cLine):n+1<cLine:=by lia
end L3
namespace L3
open PySem L2
end L3
namespace L3
open PySem PySem.Spec L2 LB
end L3
namespace L3
open PySem L2
end L3
namespace L3
open PySem PySem.Spec L2 LA LB
open PyProof.Rows hiding St
end L3
namespace L3
open PySem PySem.Spec L2 LA LB LS
open PyProof.Rows hiding St
end L3
namespace L2
open PySem PySem.Spec PyProof.Rows LS LA LB
end L2
namespace L3
open PySem PySem.Spec L2 LA LB
end L3
namespace L3
open PySem PySem.Spec L2
open PyProof.Rows hiding St
def BK{R:Result->Shared->Prop}{gens:List Comprehension}{depth:Nat}
  (hturn:compTurn (.ListComp elt gens scope pos) depth it acc env=turnOf g (jP elt acc env) (.compLoop (.ListComp elt gens scope pos) depth it acc env) it env)
  (turn:wpAny (model prog w) A (pyNext it) (λr s₁=>∃v,r=some v/\wpAny (model prog w) A (letOwnedTupleGo g.target it v) (λy s₂=>wpAny (model prog w) A (assign g.target env v) (λy s₃=>
    wpAny (model prog w) A (pX g.ifs env) (λok s₄=>ok=true/\wpAny (model prog w) A (eval elt env) (λy y=>False) (λx s'=>wpAny (model prog w) A (noteFrame x env) (λy s''=>R (.error x) s'') (λy y=>False) s') s₄) (λy y=>False) s₃) (λy y=>False) s₂) (λy y=>False) s₁) (λy y=>False) s) :
  codeAny (model prog w) A (.compLoop (.ListComp elt gens scope pos) depth it acc env) R s:=by
 refine codeAny_loop rfl (λn s'=>s'=s) (λn s' hI=>?_) 0 rfl
 subst hI;show wpAny _ A ((compTurn (.ListComp elt gens scope pos) depth it acc env).onRaise (λx=>do noteFrame x env;theTreesLotGoes x)) _ _ s'
 refine wpAny_noted ?_;rw[hturn];unfold turnOf;refine Ug (Vt (Ug (Us turn (λr s₁ h₁=>?_) λy y h'=>h'.elim)))
 obtain⟨v,rfl,h₁⟩:=h₁;refine Ug (Us h₁ (λy s₂ h₂=>Ug (Us h₂ (λy s₃ h₃=>Ug (Us h₃ (λok s₄ h₄=>?_) λy y h'=>h'.elim)) λy y h'=>h'.elim)) λy y h'=>h'.elim)
 obtain⟨rfl,h₄⟩:=h₄;rw[Uv rfl];unfold jP;exact Ug (Ug (Us h₄ (λy y z=>z.elim) λx s5 h5=>Us h5 (λy y z=>z) λy y z=>z.elim))
def gU(fg:D->aa->DM aa)(ft:aa->DM Bool)(fe:aa->DM D)(it:Itn)(δ:aa):DM Unit:=λM=>match it.next 0 M with
 |some (some d)=>(bU (fg d δ)>>=λδ1=>bU (ft δ1)>>=λb=>if b then fe δ1>>=λz=>pure () else pure ()) M
 |_=>some (.ok (),M)
def iK(o:Out)(fg:D->aa->DM aa)(ft:aa->DM Bool)(fe:aa->DM D)(it:Itn)(δ:aa):DM D:=λM=>match gU fg ft fe it δ M with
 |some (.exc c,M')=>some (.exc c,M')
 |_=>(bU (bW fg ft (bB fe) it δ [])>>=λp=>o.run p.2) M
def Nj(h:∀Eh,DE (Y.withX (RX Y Eh)) Eh elt fe)(hx:Y.xe=λy y=>False):DE Y E0 elt fe:=⟨by
 intro YT s σ H Q I q;refine Us ((h E0).h YT s σ H Q I.toX q) (λv s1 h1=>?_) λe s1 h1=>?_
 ·obtain⟨v',H',J,r,q'⟩:=h1;exact⟨v',H',J.ofX,r,q'⟩
 ·obtain⟨_,_,_,_,_,_,_,_,_,_,_,_,_,_,_,_,_,_,z⟩:=h1;exact z.elim⟩
set_option tactic.hygienic true in
def oR(h:(bU m>>=k) M=some (.exc c,M')):∃a M1,m M=some (.ok a,M1)/\k a M1=some (.exc c,M'):=by
 have h:DM.bind (bU m) k M=some (.exc c,M'):=h;unfold DM.bind at h;split at h
 ·cases h
 ·rename_i em;obtain⟨_,_,_,z⟩:=lE em;cases z
 ·rename_i a M1 em;obtain⟨a',M2,e1,z⟩:=lE em;cases z;exact⟨a,M1,e1,h⟩
set_option tactic.hygienic true in
def Bq(h:gU fg ft fe it δ M=some (.exc c,M')):
  ∃d δ1 M1 M2,it.next 0 M=some (some d)/\fg d δ M=some (.ok δ1,M1)/\ft δ1 M1=some (.ok true,M2)/\fe δ1 M2=some (.exc c,M'):=by
 unfold gU at h;split at h
 ·rename_i d hd;obtain⟨δ1,M1,e1,h⟩:=oR h;obtain⟨b,M2,e2,h⟩:=oR h;cases b with
  |false=>cases h
  |true=>
    refine⟨d,δ1,M1,M2,hd,e1,e2,?_⟩;have h:DM.bind (fe δ1) _ M2=some (.exc c,M'):=h;unfold DM.bind at h;split at h
    ·cases h
    ·rename_i em;cases h;exact em
    ·cases h
 ·cases h
def KH(hf:H2 acc=none)(hn:acc∉ρ1)(x:ExtB acc (ρ1.hold acc) (upd H2 acc (.lst [])) ρ4 H4)(j:J mg ρ4 M H4):
  Ext ρ1 H2 ⟨ρ4.st,ρ1.vo⟩ H4/\J mg ⟨ρ4.st,ρ1.vo⟩ M H4:=by
 have hv:ρ4.vo=acc::ρ1.vo:=x.vo;have nw:∀a,a∈ρ4.st->a∉ρ1.st->H2 a=none:=λa h n=>by
  have:=x.new a h n;by_cases z:a=acc
  ·rw[z,upd_same]at this;cases this
  ·rw[upd_ne z]at this;exact this
 have kp:∀a o,H2 a=some o->a∉ρ1.st->H4 a=some o:=λa o h n=>x.keep a o (by rw[upd_ne (ne_of_none h hf)];exact h) n (ne_of_none h hf)
 exact⟨⟨x.pre,rfl,nw,kp⟩,J.done (ρ:=ρ1) j hv⟩
section
variable{P:Program}{w:World}{K:PySem.W.Frag}{mg:Str->Option Value}{base:Heap}{N:List Str}{qual:Str}{scope0:Scope}{f:Addr}{cd:Value}{A:Around}{outer:List Env}{s₀:Shared}{H₀:Hp}{E:XK}
set_option tactic.hygienic true in
def Ia
  (o:Out) (hc:(aH P w K mg base N qual scope0 f cd A outer s₀ H₀ E).calm=true) (T:CompG (aH P w K mg base N qual scope0 f cd A outer s₀ H₀ E) scope cl own js fr) (hi:DI (aH P w K mg base N qual scope0 f cd A outer s₀ H₀ E) E t0 i0 fi)
  (hg:∀YT m fp C s₂ H₂,DG ((aH P w K mg base N qual scope0 f cd A outer s₀ H₀ E).aO YT scope (cellsFrom m scope.names cl) (own++fr) fp C s₂ H₂) E0 t0 fg) (ht:∀YT m fp C s₂ H₂,DTs ((aH P w K mg base N qual scope0 f cd A outer s₀ H₀ E).aO YT scope (cellsFrom m scope.names cl) (own++fr) fp C s₂ H₂) E0 f0 ft)
  (he:∀YT m fp C s₂ H₂ Eh,DE (((aH P w K mg base N qual scope0 f cd A outer s₀ H₀ E).aO YT scope (cellsFrom m scope.names cl) (own++fr) fp C s₂ H₂).withX (RX ((aH P w K mg base N qual scope0 f cd A outer s₀ H₀ E).aO YT scope (cellsFrom m scope.names cl) (own++fr) fp C s₂ H₂) Eh)) Eh elt fe)
  (hs:∀y,foldedSetIterable i0 (aH P w K mg base N qual scope0 f cd A outer s₀ H₀ E).env y=pure y:=by intro _;rfl) :
  DE (aH P w K mg base N qual scope0 f cd A outer s₀ H₀ E) E (.ListComp elt [⟨t0,i0,f0,0⟩] scope pos) (λδ=>fi δ>>=λit=>iK o fg ft fe it (aP own.length js δ)):=⟨by
 generalize hX:aH P w K mg base N qual scope0 f cd A outer s₀ H₀ E=X at *;intro YT s σ H Q I h;obtain⟨ρ,δ,M,ev,j,r,e,p⟩:=h;by_cases hx:∃it M1 c M',fi δ M=some (.ok it,M1)/\gU fg ft fe it (aP own.length js δ) M1=some (.exc c,M');rotate_left
 ·refine (bL (fe:=fe) o hc T hi hg ht (λYT m fp C s₂ H₂=>Nj (λEh=>he YT m fp C s₂ H₂ Eh) rfl) hs).h YT s σ H Q I ⟨ρ,δ,M,ev,j,r,?_,p⟩
  have e:DM.bind _ _ M=some r:=e;show DM.bind _ _ M=some r;unfold DM.bind at e ⊢
  split at e
  ·cases e
  ·exact e
  ·rename_i it M1 em;show (bU (bW fg ft (bB fe) it (aP own.length js δ) [])>>=λp=>o.run p.2) M1=some r
   have e:iK o fg ft fe it (aP own.length js δ) M1=some r:=e;unfold iK at e;split at e
   ·rename_i c M' ex;exact absurd ⟨it,M1,c,M',em,ex⟩ hx
   ·exact e
 obtain⟨itn,M1,c,M',efi,ex⟩:=hx;have hr:r=(.exc c,M'):=by have e:DM.bind _ _ M=some r:=e;unfold DM.bind at e;rw[efi]at e;have e:iK o fg ft fe itn (aP own.length js δ) M1=some r:=e;unfold iK at e;rw[ex]at e;cases e;rfl
 subst hr;have p:∀ρ' H' C,Ext ρ H ρ' H'->J X.mg ρ' M' H'->X.mg c.nm=some (.ref C)->∀o,vd c ρ' o H'->E (.ref C) o H':=p;obtain⟨d,δ1,Ma,Mb,hd,e1,e2,e3⟩:=Bq ex;rw[eval_ListComp];refine YJ (cl:=cl) (use:=none) rfl hs T.clos T.kind T.names ?_;refine thn (hi.h YT s σ H (λJt H1=>∃ρ1,Ext ρ H ρ1 H1/\J X.mg ρ1 M1 H1/\ItOk X.mg ρ1 H1 Jt itn) I
  ⟨ρ,δ,M,ev,j,_,efi,λρ1 H1 Jt a1 a2 a3=>⟨ρ1,a1,a2,a3⟩⟩) λv s1 h1=>thn h1 λitv s2 h2=>?_
 obtain⟨it,fp,tn,Jt,H2,rfl,I2,Tn,st2,f2,ρ1,x1,j1,iok⟩:=h2;unfold newList;refine Vd (vL ?_);have hlt:∀b∈fp,b<s2.heap.objs.size:=λb hb=>by obtain⟨o,e,_⟩:=Tn.obj _ _ st2 b hb;exact Uk e
 dsimp only;generalize hP:s2.heap.push { cls:=.type "list",dict:=none,data:=.seq ([]:List Value).toArray }=hp1;have hCs:hp1.objs.size=s2.heap.objs.size+1:=by rw[<-hP,U4]
 have hCe:hp1.objs.size+1=(hp1.push { cls:=.type "dict",data:=.dict #[] }).objs.size:=by rw[U4]
 have hC:s2.heap.objs.size<=hp1.objs.size:=by lia
 have hne:hp1.objs.size≠s2.heap.objs.size:=by lia
 have old1:∀b o,s2.heap.get? b=some o->hp1.get? b=some o:=λb o e=>by rw[<-hP];exact Uh _ e
 have old:∀b o,s2.heap.get? b=some o->(pushCells (hp1.push { cls:=.type "dict",data:=.dict #[] }) scope.names).get? b=some o:=λb o e=>W7 _ _ _ _ (Uh _ (old1 b o e))
 have new:∃n,(pushCells (hp1.push { cls:=.type "dict",data:=.dict #[] }) scope.names).get? s2.heap.objs.size=some { cls:=.type "list",data:=.seq #[] n }:=⟨_,W7 _ _ _ _ (Uh _ (by rw[<-hP];exact Ul _ rfl))⟩
 have ns:(pushCells (hp1.push { cls:=.type "dict",data:=.dict #[] }) scope.names).Ns hp1.objs.size λx=>none:=(Heap.Ns.new hp1 (.type "dict")).keeps (W7 _ _)
 have hfree:H2 s2.heap.objs.size=none:=I2.hok.fresh (Ur _);have IC:=Eg (t':=s2.toks) T I2 f2 hlt old (Ur _) hC hne hCe (UL hC (Xr _)) (VL _) (Nat.lt_succ_of_le hC) rfl new ns;have OK:=IC.ok;have fok:∀H',(∀b∈fp,H' b=none)->∀b∈fp,FpOk (X.aO YT scope (cellsFrom (hp1.objs.size+1) scope.names cl) (own++fr) fp hp1.objs.size s2 H2) [] H' b:=λH' hn b hb=>by
  obtain⟨_,g2,g3,g4,g5,g6⟩:=f2 b hb;refine⟨hn b hb,Ut (Um (hlt b hb) hC),λhm=>?_,.inl hb,(OK.exf b hb).2,λp hp=>g6 p (by simpa using hp)⟩
  rcases Uw.mp (I2.stkSub _ hm) with z | z
  ·exact g2 z
  ·exact g3 z
 have fp1:∀b∈fp,upd H2 s2.heap.objs.size (.lst []) b=none:=λb hb=>by rw[upd_ne (Ut (hlt b hb))];exact (f2 b hb).1
 have jb:=j1.begin hfree;have nf:=j1.fresh hfree;have evc:=(uy (ev.mono x1) own.length js).kp (lZ (o:=.lst []) hfree);have tn0:tn 0 (pushCells (hp1.push { cls:=.type "dict",data:=.dict #[] }) scope.names):=Tn.keep _ _ _ st2 (λb x o e=>old b o e)
 have loop:codeAny (model X.prog X.w) X.A (.compLoop (.ListComp elt [⟨t0,i0,f0,0⟩] scope pos) 0 (.ref it) (.ref s2.heap.objs.size) (compEnvC scope (cellsFrom (hp1.objs.size + 1) scope.names cl) hp1.objs.size X.env))
   (compPost (model X.prog X.w) X.A X.xe none (EP X YT σ Q) (.ref s2.heap.objs.size) hp1.objs.size) { s2 with heap:=pushCells (hp1.push { cls:=.type "dict",data:=.dict #[] }) scope.names,toks:=s2.toks }:=by
  refine BK (CT ..) ?_;obtain⟨go,yl⟩:=iok.item 0 _ _ M1 d (lZ hfree) jb hd;refine Us (Tn.item (X.aO YT scope (cellsFrom (hp1.objs.size+1) scope.names cl) (own++fr) fp hp1.objs.size s2 H2) rfl rfl rfl hc 0 [] _ _ _ (λx x=>False) IC (fok _ fp1) tn0 go) (λr s1 h1=>?_) λx x z=>z
  obtain⟨u,rfl,h1⟩:=h1;refine⟨u,rfl,Us h1 (λx s3 h3=>?_) λx x z=>z⟩
  obtain⟨xv,H5,I5,r5,y5,tn5,fr5⟩:=h3;obtain⟨x5,j5,c5⟩:=yl xv H5 y5;refine Us ((hg ..).h _ s3 _ H5 xv u (λσ6 H6=>∃ρ6,Ext _ H5 ρ6 H6/\J X.mg ρ6 Ma H6/\Ev X.mg ρ6 H6 σ6 δ1) I5 r5 ⟨_,_,M1,d,evc.mono x5,j5,c5,_,e1,λρ6 H6 σ6 a1 a2 a3=>⟨ρ6,a1,a2,a3⟩⟩) (λx s4 h4=>?_) λx x z=>z
  obtain⟨σ6,H6,I6,ρ6,x6,j6,ev6⟩:=h4;refine Us ((ht ..).h _ s4 σ6 H6 (λb' H7=>b'=true/\∃ρ7,Ext ρ6 H6 ρ7 H7/\J X.mg ρ7 Mb H7) I6 ⟨ρ6,δ1,Ma,ev6,j6,_,e2,λρ7 H7 b' a1 a2 a3=>⟨a3,ρ7,a1,a2⟩⟩) (λok s5 h5=>?_) λx x z=>z
  obtain⟨H7,I7,rfl,ρ7,x7,j7⟩:=h5;refine⟨rfl,?_⟩;have nacc:s2.heap.objs.size∉(ρ1.hold s2.heap.objs.size).st:=λz=>nf (.inl z)
  have ha:upd H2 s2.heap.objs.size (.lst []) s2.heap.objs.size=some (.lst []):=upd_same;have na6:s2.heap.objs.size∉ρ6.st:=λz=>by have h5:=x5.keep _ _ ha nacc;have:=x6.new _ z nacc;rw[h5]at this;cases this
  have ha5:=x5.keep _ _ ha nacc;have ha6:=x6.keep _ _ ha5 nacc;have na7:s2.heap.objs.size∉ρ7.st:=λz=>by have:=x7.new _ z na6;rw[ha6]at this;cases this
  have ha7:=x7.keep _ _ ha6 na6;have xb:=((x5.b nacc).trans (x6.b na6)).trans (x7.b na7);refine Us ((he YT _ fp _ s2 H2 E).h _ s5 σ6 H7 (λx x=>False) I7.toX ⟨ρ7,δ1,Mb,ev6.mono x7,j7,_,e3,λρ' H' C' a1 a2 a3=>?_⟩) (λv s6 h6=>?_) λe6 s6 h6=>?_
  ·have na':s2.heap.objs.size∉ρ'.st:=λz=>by have:=a1.new _ z na7;rw[ha7]at this;cases this
   obtain⟨xo,jo⟩:=KH hfree nf (xb.trans (a1.b na')) a2;have hv:ρ'.vo=s2.heap.objs.size::ρ1.vo:=(xb.trans (a1.b na')).vo;exact λo q=>p _ H' C' (x1.trans xo) jo a3 o (q.out λn z=>n (z.elim .inl λz=>.inr (by rw[hv];exact .tail _ z)))
  ·obtain⟨_,_,_,_,z⟩:=h6;exact z.elim
  ·obtain⟨pins4,σ4,H4,s4',I4,hf⟩:=h6;subst hX;exact Bm I2 f2 hC I4 hf
 show codeAny _ _ (.compStart _ 0 (.ref it) (.ref s2.heap.objs.size) (compEnvC scope (cellsFrom (hp1.objs.size+1) scope.names cl) hp1.objs.size X.env)) _ _;exact ph rfl rfl loop (Tn.self X.A 0 _ _ _ tn0 loop) (.inl ⟨_,_,_,_,rfl⟩)⟩
end
end L3
namespace L3
open PySem PySem.Spec PyProof.Rows L2
abbrev TB(K:PySem.W.Frag)(x:Str):Prop:=PySem.W.nsIn K mainGlobals x=some none
def TD(K:PySem.W.Frag)(x:Str)(st:Stmt):Prop:=∀{h:Heap}{mg:Mg},K.In h->h.Ns mainGlobals mg->DefAt K mg x st
section
variable{K:PySem.W.Frag}{x:Str}{st:Stmt}{f:Addr}{oc:Value}{od an:Option Addr}{osl:Array (Option Value)}{kV doc pm cdv ct:Value}
def Rt(a:PySem.W.nsIn K mainGlobals x=some (some (.ref f)))(l:K.lookup f=some ⟨oc,od,.func (PySem.W.fnOf x x (defArgs st) (defBody st) (defScope st) .none kV doc pm an cdv ct),osl⟩)(c:PySem.W.codeIn K cdv x=true)(k:PySem.W.keepIn K (.ref f)=true):TD K x st:=
 λX G=>Ij X G a l c k
end
section
variable{P:Program}{w:World}{K:PySem.W.Frag}{mg:Mg}{base:Heap}{k:Nat}{C:Addr}{c x qual:Str}{N ps:List Str}{st:Stmt}{fb:aa->DM Fl}{is:List Int}
def okd(T:DefAt K mg x st)(S:FnScope N ps (defScope st))(hbody:∀{f cdv A outer s H E},Rm k A x st s f cdv->Ds P w K mg base N x st f cdv A outer s H E fb)
  (hb:∀(kV doc pm:Value) (an:Option Addr) (cdv ct:Value) (us:List Value),us.length=ps.length->bindArgs (PySem.W.fnOf x x (defArgs st) (defBody st) (defScope st) .none kV doc pm an cdv ct) ⟨us,[]⟩=pure (ps.zip us):=by intro _ _ _ _ _ _ us hl;first | (obtain⟨_,rfl⟩:=uI hl;rfl) | (obtain⟨_,_,rfl⟩:=Bw hl;rfl) | (obtain⟨_,_,_,rfl⟩:=IW hl;rfl) | (obtain⟨_,_,_,_,rfl⟩:=Oo hl;rfl)) :
  DefD P w K mg base (k+1) x ps (aG ps.length N.length fb):=L3.DefAt.okD T S hb λz z z z z z z=>hbody
def okn(fb:Nat->aa->DM Fl)(T:DefAt K mg x st)(S:FnScope N ps (defScope st))(hf:∀ds M r,F ds M=some r->∃n,aG ps.length N.length (fb n) ds M=some r)(hbody:∀n {f cdv A outer s H E},Rm k A x st s f cdv->Ds P w K mg base N x st f cdv A outer s H E (fb n))
  (hb:∀(kV doc pm:Value) (an:Option Addr) (cdv ct:Value) (us:List Value),us.length=ps.length->bindArgs (PySem.W.fnOf x x (defArgs st) (defBody st) (defScope st) .none kV doc pm an cdv ct) ⟨us,[]⟩=pure (ps.zip us):=by intro _ _ _ _ _ _ us hl;first | (obtain⟨_,rfl⟩:=uI hl;rfl) | (obtain⟨_,_,rfl⟩:=Bw hl;rfl) | (obtain⟨_,_,_,rfl⟩:=IW hl;rfl) | (obtain⟨_,_,_,_,rfl⟩:=Oo hl;rfl)) :
  DefD P w K mg base (k+1) x ps F:=L3.DefAt.okN T S hb hf λn z z z z z z z=>hbody n
def JZ(T:MethAt K C x qual st)(m:mg c=some (.ref C))(cl:L2.Cls K C)(S:FnScope N ps (defScope st))(hbody:∀{f cdv A outer s H E},Rm k A qual st s f cdv->Ds P w K mg base N qual st f cdv A outer s H E fb):MethD P w K mg base (k+1) c x qual st ps (aG ps.length N.length fb):=L3.MethAt.okD T m cl S λz z z z z z z=>hbody
end
end L3
namespace LA
open PySem PySem.W PySem.Calls LS PyProof.Rows LB
end LA
namespace L2
open PySem PySem.Spec PyProof.Rows LS LA LB
end L2
namespace L3
open PySem PySem.Spec L2 LA LB LS
open PyProof.Rows hiding St
end L3
namespace L3
open PySem PySem.Spec L2
open PyProof.Rows hiding St
end L3
namespace L3
open PySem PySem.Spec L2 LB
end L3
namespace L3
open PySem PySem.Spec L2
open PyProof.Rows hiding St
section
variable{X:Cx}{E:XK}{a:Expr}{fa:aa->DM D}{fs:aa->DM (List D)}{pos p1 p2 p3 p4:Pos}
def nb(b:Bool):Int:=if b=true then 1 else 0
end
end L3
namespace L2
open PySem PySem.Spec PyProof.Rows LS
end L2
namespace L3
open PySem PySem.Spec L2
def Ua:D->DM D
 |.bl b=>pure (.bl b)
 |_=>stuck
def R3:D->DM D
 |.bl b=>pure (.bl (!b))
 |_=>stuck
def CW{α:Type}(p:Mo->Bool)(m:DM α):DM α:=λM=>if p M=true then m M else none
end L3
namespace L3
open PySem PySem.Spec L2 PyProof.Rows
end L3
namespace L3
open PySem PySem.Spec L2
open PyProof.Rows hiding St
structure ThD(P:Program)(w:World)(K:PySem.W.Frag)(mg:Str->Option Value)(base:Heap)(k:Nat)(outer:List Env)(s:Shared)(H:Hp)(ρ:Rh)(g:Addr)(th:DM D):Prop where
 fn:∀(s2:Shared) (H2:Hp),Un (frs outer) [] H H2 s.heap s2.heap->HOk P w H2 s2.heap->PySem.W.FnAt g s2.heap
 run:∀(A2:Around) (outer2:List Env) (s2:Shared) (H2:Hp) (ρ2:Rh) (M2:Mo) (Q:VK) (E:XK),Room k A2->Env0 P w K mg base A2 outer2 s2 H2->Un (frs outer) [] H H2 s.heap s2.heap->Ext ρ H ρ2 H2->J mg ρ2 M2 H2->
  Go mg E (Cv mg) Q ρ2 H2 th M2->codeAny (model P w) A2 (.call (.ref g) ⟨[],[]⟩) (CR (bD P w) outer2 P w H2 s2 Q E) s2
def Mu(i:Nat)(g:Addr)(ρ₀:Rh)(H₀:Hp):L2.St->Rh->Hp->Prop:=λσ ρ H=>σ[i]?=some (some (.ref g))/\Ext ρ₀ H₀ ρ H
abbrev AT:=L2.St->Rh->Hp->Prop
def tA(An:AT)(mg:Str->Option Value)(E:XK)(f:aa->DM D):TE:=λσ H Q=>∃ρ δ M,An σ ρ H/\Ev mg ρ H σ δ/\J mg ρ M H/\Go mg E (Cv mg) Q ρ H (f δ) M
def J9(An:AT)(mg:Str->Option Value)(E:XK)(f:aa->DM Fl):TS:=λD σ H=>∃ρ δ M,An σ ρ H/\Ev mg ρ H σ δ/\J mg ρ M H/\bh mg E D ρ H (f δ) M
structure AE(X:Cx)(E:XK)(An:AT)(e:Expr)(f:aa->DM D):Prop where
 h:PE X e (tA An X.mg E f)
structure AS(X:Cx)(E:XK)(An:AT)(st:Stmt)(f:aa->DM Fl):Prop where
 h:PS X st (J9 An X.mg E f)
structure ASs(X:Cx)(E:XK)(An:AT)(st:List Stmt)(f:aa->DM Fl):Prop where
 h:PSs X st (J9 An X.mg E f)
section
variable{X:Cx}{E:XK}{An:AT}{e:Expr}{fe:aa->DM D}{pos:Pos}{st:Stmt}{rest:List Stmt}{f g:aa->DM Fl}
def HB{k i:Nat}{y:Str}{p:Pos}{g:Addr}{th:DM D}{ρ₀:Rh}(hr:Room k X.A)(hx:Passes (bD X.prog X.w) X E)(hT:ThD X.prog X.w X.K X.mg X.base k X.outer X.s₀ X.H₀ ρ₀ g th)(hex:X.ex=[]:=by rfl)(hN:X.N[i]?=some y:=by rfl)
  (hv:Vis X.env.scope y:=by exact Or.inl rfl) (hd:(y==("__debug__":Str))=false:=by decide) (hcd:(y==("__classdict__":Str))=false:=by decide) :
  AE X E (Mu i g ρ₀ X.H₀) (.Call (.Name y p) [] [] pos) (λz=>th):=⟨by
 intro YT s σ H Q I h;obtain⟨ρ,δ,M,⟨hσ,ex⟩,ev,j,go⟩:=h;refine Wy ?_;refine thn (pe_var hN hv hd hcd YT s σ H (λv H1=>v=.ref g/\H1=H) I ⟨.ref g,hσ,rfl,rfl⟩) λu s1 h1=>?_
 obtain⟨v,H1,I1,r,rfl,rfl⟩:=h1;obtain rfl:u=Value.ref g:=r;have un:Un (frs X.outer) [] X.H₀ H1 X.s₀.heap s1.heap:=by have:=I1.base;rw[hex]at this;exact this
 refine PySem.W.callWith_F0 (hT.fn s1 H1 un I1.hok) ?_;refine WY (V2 (hT.run X.A X.stack s1 H1 ρ M Q E hr I1.env0 un ex j go) λr s' hq=>?_)
 cases r with
 |error e=>exact hx YT σ H1 s1 e s' I1 hq
 |ok fl=>
   cases fl with
   |ret u=>exact I1.after hq
   |next=>exact False.elim hq
   |brk=>exact False.elim hq
   |cont=>exact False.elim hq⟩
def MN(he:AE X E An e fe):AS X E An (.Return (some e) pos) (λδ=>fe δ>>=λd=>pure (.rt d)):=⟨PS.mono (L2.ps_ret he.h) λD σ H h=>by obtain⟨ρ,δ,M,an,ev,j,g1⟩:=h;exact⟨ρ,δ,M,an,ev,j,g1.bind λρ1 H1 M1 v d e1 j1 c1 g2=>g2.pure ρ1 H1 v .refl j1 c1⟩⟩
def zj(h:AS X E An st f):ASs X E An [st] f:=⟨pss_one h.h⟩
end
structure HrdD(P:Program)(w:World)(K:PySem.W.Frag)(mg:Str->Option Value)(base:Heap)(k:Nat)(x:Str)(Fh:DM D->DM D):Prop where
 ex:∃f,mg x=some (.ref f)/\PySem.W.keepIn K (.ref f)=true/\∀(A:Around) (outer:List Env) (s:Shared) (H:Hp) (ρ:Rh) (M:Mo) (g:Addr) (th:DM D) (Q:VK) (E:XK),Room (k+1) A->Env0 P w K mg base A outer s H->
  ThD P w K mg base k outer s H ρ g th->J mg ρ M H->Go mg E (Cv mg) Q ρ H (Fh th) M->codeAny (model P w) A (.call (.ref f) ⟨[.ref g],[]⟩) (CR (bD P w) outer P w H s Q E) s
def vW(n:Nat)(fb:DM D->aa->DM Fl)(th:DM D):DM D:=fb th (List.replicate n none)>>=λr=>match r with
 |.nx _=>pure .non
 |.rt d=>pure d
 |_=>stuck
section
variable{P:Program}{w:World}{K:PySem.W.Frag}{mg:Str->Option Value}{base:Heap}{k:Nat}{x y:Str}{N:List Str}{st:Stmt}
set_option tactic.hygienic true in
def Ti(T:DefAt K mg x st)(S:FnScope N [y] (defScope st))
  (hbody:∀{f cdv A outer s H E ρ g th},Room k (A.deeper (envOfC x (defScope st) s.heap.objs.size f cdv))->ThD P w K mg base k outer s H ρ g th->
    ASs (aH P w K mg base N x (defScope st) f cdv A outer s H E) E (Mu 0 g ρ H) (defBody st) (fb th))
  (hb:∀(kV doc pm:Value) (an:Option Addr) (cdv ct u:Value),bindArgs (PySem.W.fnOf x x (defArgs st) (defBody st) (defScope st) .none kV doc pm an cdv ct) ⟨[u],[]⟩=pure ([y].zip [u]):=by intros;rfl):HrdD P w K mg base k x (vW N.length fb):=by
 obtain⟨f,fd,F,m⟩:=T.ex;refine⟨f,m,F.kp,λA outer s H ρ M g th Q E hr e0 hth j go=>?_⟩
 have hN:1<=N.length:=by have:=congrArg List.length S.pre;rw[W2]at this;simp at this;lia
 refine Lz (us:=[.ref g]) (vs:=[.ref g]) F S e0 hr (λz z z z z z=>hb _ _ _ _ _ _ _) rfl (.cons rfl .nil) λcdv hr'=>⟨_,(hbody hr' hth).h,ρ,List.replicate N.length none,M,⟨rfl,.refl⟩,⟨?_,λi d q=>?_⟩,j,?_⟩
 ·unfold L2.start;simp;lia
 ·rw[VR]at q;split at q<;>cases q
 ·obtain⟨r,e,p⟩:=go;have e:DM.bind _ _ M=some r:=e;unfold DM.bind at e;split at e
  ·cases e
  ·rename_i c M' em;cases e;exact⟨_,em,p⟩
  ·rename_i a M' em;refine⟨_,em,?_⟩;cases a with
   |nx δ'=>cases e;exact λρ1 H1 b x j c=>p ρ1 H1 .non x j .non
   |rt d=>cases e;exact λρ1 H1 b x j c=>p ρ1 H1 b x j c
   |bk δ'=>cases e
   |ct δ'=>cases e
end
structure LamC(X:Cx)(scope:Scope)(cl:List (Str×Addr))(js:List Nat)(fr:List Str):Prop where
 ok:LamOk scope cl fr
 clos:closureFor scope X.env=pure cl
 sub:∀y c,cl.lookup y=some c->X.env.cells.lookup y=some c
 len:js.length=fr.length
 fre:∀(k j:Nat) (y:Str),js[k]?=some j->fr[k]?=some y->X.N[j]?=some y/\X.env.scope.names.lookup y=some .cell/\∃c,cl.lookup y=some c
def HN{X:Cx}{scope:Scope}{cl:List (Str×Addr)}{js:List Nat}{fr:List Str}{YT:List (Addr×Obj)}{σ:L2.St}{H H2:Hp}{s s2:Shared}(T:LamC X scope cl js fr)(hfn:∀ x,X.fn x=true)(I:Inv X YT σ H s)(un:Un (frs X.stack) [] H H2 s.heap s2.heap):CellsAt cl fr (pick js σ) H2 s2.heap:=by
 have out:∀y c,cl.lookup y=some c->c∉frs X.stack:=λy c e hm=>by
  rcases Uw.mp (I.stkSub c hm) with z | z
  ·exact I.cne y c (T.sub _ _ e) z
  ·obtain⟨_,o,ho,_⟩:=I.ok.funs.mem z;exact absurd (Uk ho) (VP.mpr (I.ok.cab y c (hfn y) (T.sub _ _ e)))
 have kp:∀y c v,cl.lookup y=some c->s.heap.IsCell c v->s2.heap.IsCell c v:=λy c v e ⟨o,ho,hd⟩=>⟨o,un.keep c o ho (I.freeC y c (T.sub _ _ e)) (out y c e) (by simp),hd⟩
 refine⟨λx y c h1 h2=>I.ok.inj x y c (T.sub _ _ h1) (T.sub _ _ h2),λx c e=>?_,λx c e=>?_,λi x v h1 h2=>?_,?_⟩
 ·obtain⟨v,z⟩:=I.cell x c (T.sub _ _ e);exact⟨v,kp x c v e z⟩
 ·obtain⟨v,o,ho,_⟩:=I.cell x c (T.sub _ _ e);exact un.free c o ho (I.freeC x c (T.sub _ _ e)) (by simp)
 ·unfold pick at h2;rw[UG]at h2;cases hj:js[i]? with
  |none=>rw[hj]at h2;cases h2
  | some j=>
    rw[hj]at h2;have h2s:(σ[j]?).getD none=some v:=Uo h2;have h2':σ[j]?=some (some v):=by
     cases z:σ[j]? with
     |none=>rw[z]at h2s;cases h2s
     |some w=>rw[z]at h2s;exact congrArg some h2s
    obtain⟨g1,g2,c,g3⟩:=T.fre i j x hj h1;obtain⟨mX,_,hl⟩:=I.loc;obtain⟨u,r,q⟩:=hl j x v g1 h2' (.inr (.inl g2));refine⟨u,c,r,g3,kp x c _ g3 ?_⟩;rcases q with ⟨q,_⟩ | ⟨_,c2,e2,z⟩
    ·have:X.env.scope.names.lookup x=some .local:=q;rw[g2]at this;cases this
    ·rw[T.sub _ _ g3]at e2;cases e2;exact z
 ·unfold pick;rw[UV];exact T.len
def sS(js:List Nat)(fr:List Str)(Hd:HrdD X.prog X.w X.K X.mg X.base (k + 1) fx Fh)(hr:Room j X.A)(hx:Passes (bD X.prog X.w) X E)
  (T:TabD X.mg X.base c P) (hcd:X.env.code=.ref c) (hP:∃ps,X.H₀ P=some (.tbl ps))
  (hbody:∀{qual g cd A outer s H E},Room k (A.deeper (PySem.W.envX qual scope s.heap.objs.size g cd cl))->DE (m8 X.prog X.w X.K X.mg X.base fr qual scope g cd cl A outer s H E) E body tb) (L:LamC X scope cl js fr) (hjk:k+2<=j:=by decide) (hfn:∀x,X.fn x=true:=by intros;rfl)
  (hdef:defaultsOf params X.env=([],[]):=by rfl) (hbind:∀qual pm cv ctv,bindArgs (PySem.W.kla_fn "<lambda>" qual params body scope cl pm cv ctv) ⟨[],[]⟩=pure []:=by intros;rfl) (hg:Gl X fx:=by rfl) (hdb:(fx==("__debug__":Str))=false:=by decide) :
  DE X E (.Call (.Name fx p) [.Lambda params body scope lpos] [] pos) (λδ=>Fh (tb (aV js δ))):=⟨by
 obtain⟨f,hm,hkp,run⟩:=Hd.ex;intro YT s σ H Q I h;obtain⟨ρ,δ,M,ev,jj,go⟩:=h;refine Wy (ld_glob I hg hm ?_ hdb);obtain⟨ps0,hP0⟩:=hP;obtain⟨more,hPt⟩:=I.base.tbls P ps0 hP0;have pl:PE X (.Lambda params body scope lpos) (Qq P params body scope cl):=Pk hcd T.hd T.ne T.bl L.clos hdef;refine X3 (h₀:=X.base) I.ok.mod.kin hkp (thn (Pb pl pa_nil rfl pos YT s σ H (λvs H1=>∃g,vs=[.ref g]/\H g=none/\Same H H1/\pB H1 g params body scope cl) I ⟨⟨_,hPt⟩,λg H1 a b c=>⟨g,rfl,a,b,c⟩⟩) λus s1 h1=>?_) (bu rfl) rfl
 obtain⟨vs,H1,I1,r,g,rfl,hgn,S,La⟩:=h1;refine⟨I1.kIn,?_⟩;obtain⟨u,rfl,ru⟩:∃u,us=[u]/\RelV (.ref g) u:=by
  cases r with
  |cons r1 r2=>cases r2;exact⟨_,rfl,r1⟩
 obtain rfl:u=Value.ref g:=ru;have x1:Ext ρ H ρ H1:=.same S;have go1:Go X.mg E (Cv X.mg) Q ρ H1 (Fh (tb (aV js δ))) M:=let ⟨r,e,p⟩:=go;⟨r,e,p.mono x1⟩
 have th:ThD X.prog X.w X.K X.mg X.base (k+1) X.stack s1 H1 ρ g (tb (aV js δ)):=by
  refine⟨λs2 H2 un ok=>?_,λA2 outer2 s2 H2 ρ2 M2 Q2 E2 hr2 e2 un ex2 j2 zA=>?_⟩
  ·obtain⟨qual,pm,cv,ctv,hgl,_⟩:=La;exact⟨_,_,_,_,(ok g _ (un.frzs g _ _ hgl)).1⟩
  ·refine LK L.ok e2 hr2 (La.mono λb o e=>un.frzs b o _ e) (HN L hfn I1 un) hbind λqual cd hr3=>⟨_,(hbody hr3).h,ρ2,aV js δ,M2,?_,j2,zA⟩
   have:=uy ((ev.mono x1).mono ex2) 0 js;show Ev X.mg ρ2 H2 (pick js σ) (aV js δ);simpa[aP] using this
 refine WY (V2 (run X.A X.stack s1 H1 ρ M g _ Q E (hr.mono hjk) I1.env0 th (jj.same S) go1) λr s' hq=>?_)
 cases r with
 |error e=>exact hx YT σ H1 s1 e s' I1 hq
 |ok fl=>
   cases fl with
   |ret u=>exact I1.after hq
   |next=>exact False.elim hq
   |brk=>exact False.elim hq
   |cont=>exact False.elim hq⟩
open PySem PySem.Spec L2
open PyProof.Rows hiding St
def R0{P:Program}{w:World}{K:PySem.W.Frag}{mg:Str->Option Value}{base:Heap}{k:Nat}{x:Str}{N ps:List Str}{st:Stmt}{fb:aa->DM Fl}{f c:Addr}{fd:FuncData}{ts:List (Addr×Addr)}(F:Fun K x x st f fd)(S:FnScope N ps (defScope st))(hc:fd.code=.ref c)
  (hbody:∀(A:Around) (outer:List Env) (s:Shared) (H:Hp) (E:XK),(∀q∈ts,H q.2=some (.tbl #[]))->Room k (A.deeper (envOfC x (defScope st) s.heap.objs.size f (.ref c)))->
    DSs (aH P w K mg base N x (defScope st) f (.ref c) A outer s H E) E (defBody st) fb):FnOk P w K mg base (bD P w) (k+1) f fd ps (λvs H Q E=>yJ mg (aG ps.length N.length fb) vs H Q E/\∀q∈ts,H q.2=some (.tbl #[])):=by
 obtain⟨oc,od,kV,doc,pm,an,cdv,ct,osl,rfl,lk,cd⟩:=F.ex;obtain rfl:cdv=.ref c:=hc;refine fn_of lk cd S (λvs H Q E h=>?_) λA outer s H vs Q E hr h=>?_
 ·obtain⟨⟨ρ,M,ds,c,j,g⟩,_⟩:=h;rw[c.len];exact (bh.aG g).1
 obtain⟨⟨ρ,M,ds,c,j,g⟩,ht⟩:=h;exact⟨_,(hbody A outer s H E ht hr).h,ρ,_,M,eX c,j,(bh.aG g).2⟩
end L3
namespace L2
open PySem PySem.Spec PyProof.Rows LS
end L2
namespace L3
open PySem PySem.Spec L2
open PyProof.Rows hiding St
open PySem PySem.Spec L2
open PyProof.Rows hiding St
end L3
namespace L3
open PySem PySem.Spec L2
open PyProof.Rows hiding St
end L3
namespace L3
open PySem PySem.Spec PyProof.Rows L2
end L3
namespace L3
open PySem PySem.Spec L2 LA LB LS
open PyProof.Rows hiding St
end L3
namespace L3
open PySem PySem.Spec L2
open PyProof.Rows hiding St
variable{X:Cx}{E:XK}
end L3
namespace L3
open PySem PySem.Spec PyProof.Rows L2
structure DefAtG(K:PySem.W.Frag)(mg:Str->Option Value)(x:Str)(st:Stmt)(ps:List Str)(is:List Int):Prop where
 ex:∃(f:Addr) (oc:Value) (od:Option Addr) (dV kV doc pm:Value) (an:Option Addr) (cdv ct:Value) (osl:Array (Option Value)) (us:List Value),
  K.lookup f=some ⟨oc,od,.func (PySem.W.fnOf x x (defArgs st) (defBody st) (defScope st) dV kV doc pm an cdv ct),osl⟩/\PySem.W.codeIn K cdv x=true/\PySem.W.keepIn K (.ref f)=true/\mg x=some (.ref f)/\Binds K (PySem.W.fnOf x x (defArgs st) (defBody st) (defScope st) dV kV doc pm an cdv ct) ps us/\Vals (is.map V.int) us
structure TG(K:PySem.W.Frag)(x:Str)(st:Stmt)(ps:List Str)(is:List Int):Prop where
 ex:∀{h:Heap}{mg:Mg},K.In h->h.Ns mainGlobals mg->DefAtG K mg x st ps is
def Ru{K:PySem.W.Frag}{x:Str}{st:Stmt}{f:Addr}{oc:Value}{od an:Option Addr}{osl:Array (Option Value)}{dV kV doc pm cdv ct:Value}(n:Nat){ps:List Str}{i j:Int}{t u:Tok}(hn:ps.length=n+2)
  (a:PySem.W.nsIn K mainGlobals x=some (some (.ref f))) (l:K.lookup f=some ⟨oc,od,.func (PySem.W.fnOf x x (defArgs st) (defBody st) (defScope st) dV kV doc pm an cdv ct),osl⟩) (c:PySem.W.codeIn K cdv x=true) (k:PySem.W.keepIn K (.ref f)=true)
  (b:∀(S:PySem.Setting) (us:List Value),us.length=n->PySem.W.peek K S (bindArgs (PySem.W.fnOf x x (defArgs st) (defBody st) (defScope st) dV kV doc pm an cdv ct) ⟨us,[]⟩)=some (ps.zip (us++[.int i t,.int j u]))):TG K x st ps [i,j]:=
 ⟨λX G=>⟨f,oc,od,dV,kV,doc,pm,an,cdv,ct,osl,_,l,c,k,V8 X G a,sH (ds:=[.int i t,.int j u]) n hn b,.cons ⟨t,rfl⟩ JD⟩⟩
def Tj{P:Program}{w:World}{K:PySem.W.Frag}{mg:Mg}{base:Heap}{k:Nat}{x:Str}{N ps:List Str}{st:Stmt}{fb:aa->DM Fl}{is:List Int}(T:DefAtG K mg x st ps is)(S:FnScope N ps (defScope st))(hbody:∀{f cdv A outer s H E},Rm k A x st s f cdv->Ds P w K mg base N x st f cdv A outer s H E fb):DefF P w K mg base (k+1) x ps (is.map D.int) (aG ps.length N.length fb):=by
 obtain⟨f,oc,od,dV,kV,doc,pm,an,cdv,ct,osl,us,lk,hcd,kp,m,hb,v⟩:=T.ex;refine⟨f,_,_,us,fn_of lk hcd S (λvs H Q E h=>?_) λA outer s H vs Q E hr h=>?_,kp,m,hb,v,λρ H=>Ng is⟩
 ·obtain⟨ρ,M,ds,c,j,g⟩:=h;rw[c.len];exact (bh.aG g).1
 ·obtain⟨ρ,M,ds,c,j,g⟩:=h;exact⟨_,(hbody hr).h,ρ,_,M,eX c,j,(bh.aG g).2⟩
end L3
namespace L3
open PySem PySem.Spec L2
open PyProof.Rows hiding St
end L3
namespace L3
open PySem PySem.Spec L2
end L3
namespace L2
open PySem PySem.Spec PyProof.Rows
end L2
namespace L3
open PySem PySem.Spec L2
end L3
namespace L3
open PySem PySem.Spec L2
open PyProof.Rows hiding St
end L3
namespace L2
open PySem PySem.Spec PyProof.Rows
end L2
namespace L3
open PySem PySem.Spec L2
end L3
namespace L2
open PySem PySem.Spec PyProof.Rows
end L2
namespace L3
open PySem PySem.Spec L2
end L3
namespace L3
open PySem PySem.Spec L2 LB
open PyProof.Rows hiding St
end L3
namespace L2
open PySem PySem.Spec PyProof.Rows
end L2
namespace L3
open PySem PySem.Spec L2
end L3
namespace L2
open PySem PySem.Spec PyProof.Rows
end L2
namespace L3
open PySem PySem.Spec L2
open PyProof.Rows hiding St
def T9(ns:List Str)(n:Nat)(fb fh:aa->DM Fl)(δ:aa):DM Fl:=λM=>match fb δ M with
 |some (.exc ⟨c,[]⟩,M')=>if ns.contains c then bU (fh (List.replicate n none)) M' else none
 |some (.exc _,_)=>none
 |r=>r
def Iv(c:Str)(n:Nat)(M:Mo):Bool:=match M[n]? with
 |some (.ins k _ _)=>k==c
 |_=>false
section
variable{X:Cx}{E:XK}{j k:Nat}{c qual:Str}{st:Stmt}{ps:List Str}{F:List D->DM D}
def Uc(c:Str)(F:List D->DM D):List D->DM D
 |[.ref n]=>CW (Iv c n) (F [.ref n]>>=wR)
 |_=>stuck
def O6(c:Str)(F:List D->DM D):D->D->DM D
 |.ref n,.ref m=>CW (Iv c n) (CW (Iv c m) (F [.ref n,.ref m]>>=R3))
 |_,_=>stuck
end
def lY:List (aa->DM D)->aa->Str->DM D
 |[],_,acc=>pure (.str acc)
 |f::fs,δ,acc=>f δ>>=λx=>opt (strOf x)>>=λa=>if (acc++a).length<=sizeLine then lY fs δ (acc++a) else stuck
inductive Djs(X:Cx)(E:XK):List Expr->List (aa->DM D)->Prop
 |nil:Djs X E [] []
 |cons {e:Expr}{f:aa->DM D}{es:List Expr}{fs:List (aa->DM D)}:DE X E e f->Djs X E es fs->Djs X E (e::es) (f::fs)
section
variable{X:Cx}{E:XK}
def joins{es:List Expr}{fs:List (aa->DM D)}(h:Djs X E es fs):∀ (acc:Str) (YT:List (Addr×Obj)) (s:Shared) (σ:L2.St) (H:Hp) (Q:VK),acc.length<=sizeLine->Inv X YT σ H s->tD X.mg E (Cv X.mg) (λδ=>lY fs δ acc) σ H Q->
  wpAny (model X.prog X.w) X.A (joinParts acc (evalEach es X.env)) (EP X YT σ Q) X.xe s:=by
 induction h with
 |nil=>intro acc YT s σ H Q ha I g;obtain⟨ρ,δ,M,ev,j,g⟩:=g;exact joinParts_nilE (joinParts_nil ⟨.str acc,H,I.tok _,⟨_,rfl⟩,Go.pure g ρ H _ .refl j (.str acc)⟩ ha)
 | @cons e f es fs d ds ih=>
   intro acc YT s σ H Q ha I g;obtain⟨ρ,δ,M,ev,j,g⟩:=g;have g:Go X.mg E (Cv X.mg) Q ρ H (f δ>>=λx=>opt (strOf x)>>=λa=>if (acc++a).length<=sizeLine then lY fs δ (acc++a) else stuck) M:=g
   refine joinParts_consE (Xb (thn (d.h YT s σ H (λx H1=>∃a:Str,x=.str a/\(acc++a).length<=sizeLine/\tD X.mg E (Cv X.mg) (λδ=>lY fs δ (acc++a)) σ H1 Q) I ⟨ρ,δ,M,ev,j,g.bind λρ1 H1 M1 x dx e1 j1 c1 g2=>?_⟩) λv s1 hv=>?_))
   ·obtain⟨a,rfl,g2⟩:=g2.strOf;obtain⟨h1,g2⟩:=g2.ite;cases c1;exact⟨a,rfl,h1,ρ1,δ,M1,ev.mono e1,j1,g2⟩
   ·obtain⟨x,H1,I1,r1,a,rfl,la,g1⟩:=hv;obtain⟨t,rfl⟩:=r1;exact⟨la,ih (acc++a) YT s1 σ H1 Q la I1 g1⟩
def Ig{a b:Expr}{es:List Expr}{fs:List (aa->DM D)}{pos:Pos}(h:Djs X E (a::b::es) fs):DE X E (.JoinedStr (a::b::es) pos) (λδ=>lY fs δ Str.empty):=⟨λYT s σ H Q I g=>JoinedStr_many (joins h Str.empty YT s σ H Q (by show 0<=_;lia) I g)⟩
variable{j k:Nat}{c qual:Str}{st:Stmt}{ps:List Str}{F:List D->DM D}
end
end L3
namespace L3
open PySem PySem.Spec L2
def u3{n:Nat}(h:n+64<cLine):n+3<cLine:=by lia
end L3
namespace L3
open PySem PySem.Spec L2
open PyProof.Rows hiding St
end L3
namespace L2
open PySem PySem.Spec PyProof.Rows
section
variable{prog:Program}{w:World}{A:Around}{E:Value->Shared->Prop}{h:Heap}{g:Array GenState}{d:Drawn}{t:Nat}{os:OsState}
variable{nm q:Str}{C N:Addr}{bs bm bmB:List Value}{hdct:Bool}{sn:List Str}{sub:List Value}{ab:Bool}{col:Option Bool}{dd:Option Addr}{k0 k1 k2 k3 k5:Option Value}{B newId initId:String}
def uY(F:ExcBaseFacts B newId initId bmB)(T:OwnTail h bmB bm){mN:Str->Option Value}{rest:List Value}{fI:Addr}{oI:Obj}{Q:Fin->Shared->Prop}
  (hC:h.get? C=some (excClassObj nm q C N bs bm hdct sn sub ab col dd k0 k1 k2 k3 k5 newId)) (hn:h.Ns N mN) (hi:mN "__init__"=some (.ref fI)) (hf:h.get? fI=some oI) (hfc:oI.cls=.type "function") (hl:rest.length<=sizeLine)
  (hq:∀h' e,Heap.MadeExcOf h h' e (.ref C) rest->h.objs.size<=e->wpAny (model prog w) A (call (.ref fI) (.ref e::rest)) (λr s'=>r=.none/\Q (.done (.ret (.ref e))) s') E ⟨h',g,d,t,os⟩) :
  wpAny (model prog w) A (Builtin.«type.__call__» ⟨.ref C::rest,[]⟩) Q E ⟨h,g,d,t,os⟩:=by
 repeat (first | with_reducible refine VG hC ?_ | with_reducible refine wpAny_madeBy_exc hC ?_ | wp_step)
 refine codeAny_call_builtin_code (X5 _ F.quiet) (wpAny_check_new_subT F T hC ?_);refine codeAny_exc_new_subT F T hC ?_ hl;have kp:∀b o,h.get? b=some o->((h.push { cls:=.type "tuple",data:=.seq rest.toArray }).push { cls:=.ref C,data:=.fields #[.ref h.objs.size,.none,.none,.none,.bool false,.none] }).get? b=some o:=
  λb o e=>Uh _ (Uh _ e)
 have ge:((h.push { cls:=.type "tuple",data:=.seq rest.toArray }).push { cls:=.ref C,data:=.fields #[.ref h.objs.size,.none,.none,.none,.bool false,.none] }).get? (h.objs.size+1)=some
   { cls:=.ref C,data:=.fields #[.ref h.objs.size,.none,.none,.none,.bool false,.none] }:=by heap_get
 have cc:(Value.ref C::bm).contains (.ref C)=true:=by simp
 show wpAny _ _ _ _ _ _;unfold isInstance
 repeat (first | with_reducible refine VG ge ?_ | (with_reducible refine Xw (kp _ _ hC) ?_;rw[cc]) | wp_step)
 show wpAny _ _ (typeLookup (.ref C) _) _ _ _;refine wpAny_typeLookup_tail (kp _ _ hC) (hn.keeps kp) (T.keeps kp) F.mroIs F.init.lookup ?_;rw[hi];refine Vw (Ug ?_);unfold bindSpecial;refine Ug (X7 (T := "function") ⟨_,kp _ _ hf,hfc⟩ ?_);rw[Uv (by decide)]
 refine Ui (Ug (Us (hq _ (h.objs.size+1) ⟨kp,Heap.get?_none_of_le (Xr _),h.objs.size,ge,Heap.get?_none_of_le (Ur _),Uh _ (Heap.get?_push_at rfl rfl)⟩ (Xr _)) (λr s' hr=>?_) λz z x=>x))
 obtain⟨rfl,hQ⟩:=hr
 wp_walk
 exact hQ
def DK(F:ExcBaseFacts B newId initId bmB)(T:OwnTail h bmB bm){mN:Str->Option Value}{rest:List Value}{fI:Addr}{oI:Obj}{Q:Value->Shared->Prop}
  (hC:h.get? C=some (excClassObj nm q C N bs bm hdct sn sub ab col dd k0 k1 k2 k3 k5 newId)) (hn:h.Ns N mN) (hi:mN "__init__"=some (.ref fI)) (hf:h.get? fI=some oI) (hfc:oI.cls=.type "function") (hl:rest.length<=sizeLine)
  (hq:∀h' e,Heap.MadeExcOf h h' e (.ref C) rest->h.objs.size<=e->wpAny (model prog w) (A.under (.builtin "type.__call__" ⟨.ref C::rest,[]⟩)) (call (.ref fI) (.ref e::rest)) (λr s'=>r=.none/\Q (.ref e) s') E ⟨h',g,d,t,os⟩) :
  wpAny (model prog w) A (call (.ref C) rest) Q E ⟨h,g,d,t,os⟩:=by
 have f1:=tc_lookup;have f2:=tc_bind (.ref C);have hT:(⟨h,g,d,t,os⟩:Shared).TypeIs (.ref C) "type":=⟨_,hC,rfl⟩;refine WY (XF ?_);show wpAny _ _ (callAny (.ref C) _) _ _ _
 repeat (any_goals (first | assumption | with_reducible refine VG hC ?_ | wp_step))
 exact⟨rfl,codeAny_call_builtin_at (X5 _ (by decide +kernel)) entry_typeCall (wpAny_check_type_call_sub hC (uY F T hC hn hi hf hfc hl λh' e hm hs=>hq h' e hm hs))⟩
end
section
variable{prog:Program}{w:World}{A:Around}{E:Value->Shared->Prop}{env:Env}
variable{nm q:Str}{C N:Addr}{bs bm bmB:List Value}{hdct:Bool}{sn:List Str}{sub:List Value}{ab:Bool}{col:Option Bool}{dd:Option Addr}{k0 k1 k2 k3 k5:Option Value}{newId:String}
def jx{s:Shared}{x:Sem Value}{Q:Flow->Shared->Prop}(hb:bm.contains (.type "BaseException")=true)(hh:A.handled=none)
  (h:wpAny (model prog w) A x (λv s₁=>∃e oe,v=.ref e/\s₁.heap.get? C=some (excClassObj nm q C N bs bm hdct sn sub ab col dd k0 k1 k2 k3 k5 newId)/\s₁.heap.get? e=some oe/\oe.cls=.ref C/\(∃vs,oe.data=.fields vs/\vs[1]?=some .none)/\E (.ref e) s₁) E s) :
  wpAny (model prog w) A (raiseStmt env (some x) none) Q E s:=by
 have hB:(Value.ref C::bm).contains (.type "BaseException")=true:=by rw[XQ,hb,Bool.or_true]
 unfold raiseStmt;refine Ug (Us h (λv s₁ h₁=>?_) λz z x=>x)
 obtain⟨e,⟨oc,od,ot,sl⟩,rfl,hC,he,hc,⟨vs,hd,h1⟩,hE⟩:=h₁;dsimp only at hc hd;subst hc hd;obtain⟨hp,g,d,tk,os⟩:=s₁
 repeat (first | with_reducible refine VG he ?_ | with_reducible refine VG hC ?_ | (with_reducible refine Xw hC ?_;rw[hB]) | rw[h1] | wp_step)
 exact wpAny_raiseNew_none hh hE
def Cg{initId:String}{B:String}{s:Shared}{fI:Addr}{oI:Obj}{mN:Str->Option Value}{x:Str}{np cpos pos:Pos}{args:List Expr}{Q:Flow->Shared->Prop}(F:ExcBaseFacts B newId initId bmB)
  (hb:bm.contains (.type "BaseException")=true) (hh:A.handled=none) (hp:(backTo cpos (starEach args env)).any (·.1)=false) (hi:mN "__init__"=some (.ref fI)) (hfc:oI.cls=.type "function")
  (h:wpAny (model prog w) A (eval (.Name x np) env) (λf s₁=>f=.ref C/\wpAny (model prog w) A (evalArgs (.ref C) true (backTo cpos (starEach args env)) [])
    (λa s₂=>a.kw=[]/\a.pos.length<=sizeLine/\s₂.heap.get? C=some (excClassObj nm q C N bs bm hdct sn sub ab col dd k0 k1 k2 k3 k5 newId)/\s₂.heap.Ns N mN/\OwnTail s₂.heap bmB bm/\s₂.heap.get? fI=some oI /\
      ∀h' e,Heap.MadeExcOf s₂.heap h' e (.ref C) a.pos->s₂.heap.objs.size<=e->wpAny (model prog w) (A.under (.builtin "type.__call__" ⟨.ref C::a.pos,[]⟩)) (call (.ref fI) (.ref e::a.pos)) (λr s'=>r=.none /\
        ∃oe,s'.heap.get? C=some (excClassObj nm q C N bs bm hdct sn sub ab col dd k0 k1 k2 k3 k5 newId)/\s'.heap.get? e=some oe/\oe.cls=.ref C/\(∃vs,oe.data=.fields vs/\vs[1]?=some .none)/\E (.ref e) s') E { s₂ with heap:=h' }) E s₁) E s) :
  wpAny (model prog w) A (exec (.Raise (some (.Call (.Name x np) args [] cpos)) none pos) env) Q E s:=by
 rw[arm_exec_Raise]
 first
  |refine Ug (Vt (jx (C:=C) (nm:=nm) (q:=q) (N:=N) (bs:=bs) (bm:=bm) (hdct:=hdct) (sn:=sn) (sub:=sub) (ab:=ab) (col:=col) (dd:=dd) (k0:=k0) (k1:=k1) (k2:=k2) (k3:=k3) (k5:=k5) (newId:=newId) hb hh (Ug (Us (wpAny_Call_ofName (Us h (λf s₁ h₁=>?_) λz z x=>x)) (λv s₃ h₃=>Ug (Vt (Ui h₃))) λz z x=>x))))
  |(simp only[evalOpt,Option.map];refine Ug (Vt (jx (C:=C) (nm:=nm) (q:=q) (N:=N) (bs:=bs) (bm:=bm) (hdct:=hdct) (sn:=sn) (sub:=sub) (ab:=ab) (col:=col) (dd:=dd) (k0:=k0) (k1:=k1) (k2:=k2) (k3:=k3) (k5:=k5) (newId:=newId) hb hh (Ug (Us (wpAny_Call_ofName (Us h (λf s₁ h₁=>?_) λz z x=>x)) (λv s₃ h₃=>Ug (Vt (Ui h₃))) λz z x=>x)))))
  |(refine Ug (Vt (jx (C:=C) (nm:=nm) (q:=q) (N:=N) (bs:=bs) (bm:=bm) (hdct:=hdct) (sn:=sn) (sub:=sub) (ab:=ab) (col:=col) (dd:=dd) (k0:=k0) (k1:=k1) (k2:=k2) (k3:=k3) (k5:=k5) (newId:=newId) hb hh ?_));refine Ug (Us (wpAny_Call_ofName (Us h (λf s₁ h₁=>?_) λz z x=>x)) (λv s₃ h₃=>Ug (Vt (Ui h₃))) λz z x=>x))
 obtain⟨rfl,h₁⟩:=h₁;unfold callWith;refine Ug (Vw (Us h₁ (λa s₂ h₂=>Ug (Vt ?_)) λz z x=>x))
 obtain⟨apos,akw⟩:=a;obtain⟨hkw,hlen,hC,hn,T,hf,h₂⟩:=h₂;obtain rfl:akw=[]:=hkw;obtain⟨hp',g,d,tk,os⟩:=s₂;simp only[hp];refine Ug (wpAny_keeperOf_exc hC ?_);refine Ug (DK F T hC hn hi hf hfc hlen λh' e hm hs=>Us (h₂ h' e hm hs) (λr s' hr=>?_) λz z x=>x)
 obtain⟨rfl,oe,k1,k2,k3,k4,k5⟩:=hr;exact⟨rfl,Ug (Vw (wpAny_point (Ui ⟨e,oe,rfl,k1,k2,k3,k4,k5⟩)))⟩
end
end L2
namespace L2
open PySem PySem.Spec PyProof.Rows PySem.Builtin PySem.Builtin.ObjectAttr
section
variable{prog:Program}{w:World}{A:Around}{E:Value->Shared->Prop}{K:PySem.W.Frag}{h:Heap}{g:Array GenState}{d:Drawn}{t:Nat}{os:OsState}{x C dx:Addr}{cd:ClassData}{o:Obj}{vs:Array Value}{name:Str}{v:Value}{tk:Tok}{b:Bool}
def Gr{Q:Fin->Shared->Prop}(X:K.In h)(hc:PySem.W.clsIn K C=some cd)(hd:cd.hasDict=true)(hx:h.get? x=some o)(ho:o.cls=.ref C)(hv:o.data=.fields vs)(hn:o.dict=none)
  (k:∀h' tk',h'.get? x=some { o with dict:=some h.objs.size }->h'.Ns1 h.objs.size (λy=>if y=name then some v else none)->(∀b u,b≠x->h.get? b=some u->h'.get? b=some u)->Q (.done (.ret .none)) ⟨h',g,d,tk',os⟩) :
  wpAny (model prog w) A (storeInOwnDict (.ref x) (.ref C) (.str name tk) name v b) Q E ⟨h,g,d,t,os⟩:=by
 obtain⟨oc,od,ot,sl⟩:=o;dsimp only at ho hv hn;subst ho hv hn;have nx:x≠h.objs.size:=Ut (Uk hx);refine Ug (Ui (Ug (Ug (wpAny_loadPart hx (Ug ((Xz X hc).here ?_))))));rw[hd];have h1:(h.push { cls:=.type "dict",data:=.dict #[] }).get? x=some { cls:=.ref C,dict:=none,data:=.fields vs,slots:=sl }:=Uh _ hx;refine Ug (wpAny_alloc' (Ug (wpAny_update' h1 (Ui ?_))));have gd:((h.push { cls:=.type "dict",data:=.dict #[] }).update x λo=>{ cls:=o.cls,dict:=some h.objs.size,data:=o.data,slots:=o.slots }).get? h.objs.size=some { cls:=.type "dict",data:=.dict #[] }:=
  (Xu _ _ _ _ nx.symm).trans (Heap.get?_push_at rfl rfl)
 have ns:((h.push { cls:=.type "dict",data:=.dict #[] }).update x λo=>{ cls:=o.cls,dict:=some h.objs.size,data:=o.data,slots:=o.slots }).Ns h.objs.size (λz=>none):=⟨_,#[],_,gd,rfl,λe he=>absurd he (by simp),λz=>rfl⟩
 show wpAny _ _ (storeInDict h.objs.size (.str name tk) name v) _ _ _;unfold storeInDict newKeyGuard;refine Ug (Ui (Ug (wpAny_nsSet1 (Heap.Ns1.of_empty ns) λh' n' hs=>?_)))
 obtain⟨oD,esD,epD,hoD,hdD,hcD⟩:=n'.count (Within.cons name v Within.nil);refine Ug (wpAny_lookBehind hoD (by rw[hdD];exact pastItsLine_dict (UL hcD (by rw[Vn,List.length_nil,Yl];lia))) ?_)
 wp_walk
 refine k h' _ ?_ n' λb u nb q=>?_
 ·exact (hs.2 x nx).trans (VF _ h1 rfl)
 ·exact (hs.2 b (Ut (Uk q))).trans ((Xu _ _ _ _ nb).trans (Uh _ q))
def Jg{Q:Fin->Shared->Prop}{mA:Str->Option Value}{ns:List Str}(X:K.In h)(hc:PySem.W.clsIn K C=some cd)(hd:cd.hasDict=true)(hx:h.get? x=some o)(ho:o.cls=.ref C)(hv:o.data=.fields vs)(hn:o.dict=some dx)(hm:h.Ns1 dx mA)(hw:Within mA ns)(hz:ns.length<=1000)
  (k:∀h' tk',h'.Ns1 dx (λy=>if y=name then some v else mA y)->(∀b u,b≠dx->h.get? b=some u->h'.get? b=some u)->Q (.done (.ret .none)) ⟨h',g,d,tk',os⟩) :
  wpAny (model prog w) A (storeInOwnDict (.ref x) (.ref C) (.str name tk) name v b) Q E ⟨h,g,d,t,os⟩:=by
 obtain⟨oc,od,ot,sl⟩:=o;dsimp only at ho hv hn;subst ho hv hn;refine Ug (Ui (Ug (Ug (wpAny_loadPart hx (Ug ((Xz X hc).here ?_))))));rw[hd];refine Ui (a:=some dx) (Ug (Ui ?_));show wpAny _ _ (storeInDict dx (.str name tk) name v) _ _ _;unfold storeInDict newKeyGuard;refine Ug (Ui (Ug (wpAny_nsSet1 hm λh' n' hs=>?_)))
 obtain⟨oD,esD,epD,hoD,hdD,hcD⟩:=n'.count (Within.cons name v hw);refine Ug (wpAny_lookBehind hoD (by rw[hdD];exact pastItsLine_dict (UL hcD (by rw[Vn,Yl];lia))) ?_)
 wp_walk
 exact k h' _ n' λb u nb q=>(hs.2 b nb).trans q
def pP:List Value->Bool
 |.ref _::r=>pP r
 |l=>l==dW
theorem yE(self:Value):∀{l:List Value},pP l=true->refuseLoop self "__setattr__" l=pure ()
 |.ref c::r,e=>by rw[refuseLoop_ref];exact yE self e
 |[],e=>by cases e
 |.type n::r,e=>by rw[show Value.type n::r=dW from Wb.mp e];exact PySem.F.store_ValueError.passes self
 |.none::r,e | .bool _::r,e | .int _ _::r,e | .float _ _::r,e | .str _ _::r,e | .builtin _::r,e=>by cases (Wb.mp (show (_==dW)=true from e))
theorem Kc:∀{l:List Value},pP l=true->l.contains (.type "object")=true
 |.ref c::r,e=>by rw[XQ,Kc (l:=r) e,Bool.or_true]
 |[],e=>by cases e
 |.type n::r,e=>by rw[show Value.type n::r=dW from Wb.mp e];decide
 |.none::r,e | .bool _::r,e | .int _ _::r,e | .float _ _::r,e | .str _ _::r,e | .builtin _::r,e=>by cases (Wb.mp (show (_==dW)=true from e))
structure SetX(K:PySem.W.Frag)(C:Addr)(name:Str):Prop where
 cd:∃cd,PySem.W.clsIn K C=some cd/\pP cd.mro=true/\cd.hasDict=true
 set:PySem.W.findIn K (.ref C) "__setattr__"=some (some (.builtin "object.__setattr__"))
 no:PySem.W.findIn K (.ref C) name=some none
def Al{s:Shared}{Q:Unit->Shared->Prop}{od:Option Obj}(X:K.In s.heap)(S:SetX K C name)(I:PySem.W.InstAt s.heap x o C od)
  (k:∀cd b tk,PySem.W.clsIn K C=some cd->cd.hasDict=true->wpAny (model prog w) A.in1 (storeInOwnDict (.ref x) (.ref C) (.str name tk) name v b) (λfin s'=>fin=.done (.ret .none)/\Q () s') (λy y=>False) { s with toks:=s.toks+1 }) :
  wpAny (model prog w) A (setAttr (.ref x) name v) Q E s:=by
 obtain⟨cd,hc,ho,hd⟩:=S.cd;have SF:=PySem.F.store_object;refine PySem.W.set_plain X I S.set ?_;have ne:cd.mro.isEmpty=false:=by cases q:cd.mro with | nil=>rw[q]at ho;cases ho | cons _ _=>rfl
 have sub:PySem.W.Looks (model prog w) s.heap (isInstance (.ref x) (.type "object")) true:=I.type.andThen (PySem.W.looks_mroIn X (by unfold PySem.W.mroIn;rw[hc,Option.bind_some,Ux (by rw[ne];decide),Kc ho]))
 refine Wq SF.slot.plain SF.entry (@PySem.W.check_slot (model prog w) _ _ { s with toks:=s.toks+1 } "object.__setattr__" "object" "__setattr__" (.ref x) [.str name s.toks,v] [] _ SF.kind SF.split sub (SF.args (.ref x) (.str name s.toks) v) ?_)
 have hm:PySem.W.Looks (model prog w) s.heap (mroOf (.ref C)) cd.mro:=(Xz X hc).andThen .now;rw[PySem.W.osa_eq,refuse_eq];refine Ug (Ug (I.type.here (s:={ s with toks:=s.toks+1 }) (Ug (hm.here (s:={ s with toks:=s.toks+1 }) ?_))))
 rw[yE _ ho];refine Ui (Ug (I.type.here (s:={ s with toks:=s.toks+1 }) (Ug ((V9 X S.no).here (s:={ s with toks:=s.toks+1 }) (Ug ?_)))))
 refine Ui (a:=(none:Option Value)) ?_;refine Us (k cd _ _ hc hd) (λfin s' z=>?_) λy y z=>z.elim
 obtain⟨rfl,q⟩:=z;exact q
end
end L2
namespace L2
open PySem PySem.Spec PyProof.Rows
section
variable{prog:Program}{w:World}{A:Around}{E:Value->Shared->Prop}{s:Shared}{e C f:Addr}{oe:Obj}{vs:Array Value}{rest:List Value}
def Du{t0:Addr}{Q:Value->Shared->Prop}(c:ClsI s.heap C f)(he:s.heap.get? e=some { cls:=.ref C,data:=.fields #[.ref t0,.none,.none,.none,.bool false,.none] })
  (k:∀h' t tk,h'.get? e=some { cls:=.ref C,data:=.fields #[.ref t,.none,.none,.none,.bool false,.none] }->(∀b u,b≠e->s.heap.get? b=some u->h'.get? b=some u)->Q .none { s with heap:=h',toks:=tk }) (hl:rest.length<=sizeLine) :
  wpAny (model prog w) A (call (.builtin "ValueError.__init__") (.ref e::rest)) Q E s:=by
 obtain⟨bm,N,nm,q,bs,hdct,sn,sub,ab,col,dd,k0,k1,k2,k3,k5,mN,hC,hN,hi,T⟩:=c.obj;obtain⟨h,g,d,t,os⟩:=s;dsimp only at he hC hN T;have F:=Xn;refine WY (Wq F.init.plain F.initEntry (wpAny_check_init_subT F T hC he rfl ?_));have he':(h.push { cls:=.type "tuple",data:=.seq rest.toArray }).get? e=some { cls:=.ref C,data:=.fields #[.ref t0,.none,.none,.none,.bool false,.none] }:=Uh _ he
 wp_walk
 refine k _ h.objs.size _ ?_ λb u nb q=>?_
 ·exact VF _ he' rfl
 ·exact (Ve _ _ (Ne.symm nb)).trans (Uh _ q)
end
end L2
namespace L2
open PySem PySem.Spec PyProof.Rows PySem.Builtin PySem.Builtin.ObjectAttr
def dX(C e:Addr)(dd:Option Addr)(h:Heap):Prop:=∃t,h.get? e=some { cls:=.ref C,dict:=dd,data:=.fields #[.ref t,.none,.none,.none,.bool false,.none] }
def jH(a:Addr)(fs:List (Str×V))(h:Heap):Prop:=∃mA,h.Ns1 a mA/\(∀f,RelO (fs.lookup f) (mA f))/\PySem.Within mA (fs.map (·.1))
section
variable{P:Program}{w:World}{H:Hp}{h:Heap}{C e a:Addr}{dd:Option Addr}{fs:List (Str×V)}
def xn(q:dX C e dd h):ObjOk P w H h e (.ext (dX C e dd)):=⟨q,let ⟨_,g⟩:=q;⟨_,g⟩,λ_ _ ⟨t,g⟩ k=>⟨t,k _ g⟩⟩
def Hu(q:jH a fs h):ObjOk P w H h a (.ext (jH a fs)):=
 ⟨q,let ⟨_,⟨_,_,_,g,_⟩,_⟩:=q;⟨_,g⟩,λ_ _ ⟨mA,⟨o,es,ep,g,c⟩,r⟩ k=>⟨mA,⟨o,es,ep,k _ g,c⟩,r⟩⟩
end
section
variable{X:Cx}{YT:List (Addr×Obj)}{σ:St}{H:Hp}{s:Shared}{C e a f:Addr}{A:Around}{E:Value->Shared->Prop}{fs:List (Str×V)}{n:Str}{v:V}{u:Value}
set_option tactic.hygienic true in
def Fp(I:Inv X YT σ H s)(hf:cL X.K C f=true)(he:H e=some (.ext (dX C e none))){rest:List Value}(hl:rest.length<=sizeLine){Q:Value->Shared->Prop}(k:∀s',Inv X YT σ H s'->Q .none s'):
  wpAny (model X.prog X.w) A (call (.builtin "ValueError.__init__") (.ref e::rest)) Q E s:=by
 obtain⟨⟨t,g⟩,_,_⟩:=I.hok e _ he;refine L2.Du (qO I.kIn hf) g (λh' t tk g' kp=>k _ ?_) hl
 have:=I.write (x:=e) (e:=e) (o:=.ext (dX C e none)) (h':=h') (t':=tk) (by rw[he];trivial) (.inl rfl) kp ⟨_,g'⟩ (xn ⟨t,g'⟩)
 have eH:upd H e (.ext (dX C e none))=H:=by
  funext b;unfold upd;split
  ·rename_i z;rw[z,he]
  ·rfl
 rw[eH]at this;exact this
def Fq(I:Inv X YT σ H s)(S:SetX X.K C n)(he:H e=some (.ext (dX C e none)))(r:RelV v u){Q:Unit->Shared->Prop}
  (k:∀s' D,H D=none->D≠e->Inv X YT σ (upd (upd H e (.ext (dX C e (some D)))) D (.ext (jH D [(n,v)]))) s'->Q () s'):wpAny (model X.prog X.w) A (setAttr (.ref e) n u) Q E s:=by
 obtain⟨⟨t,g⟩,_,_⟩:=I.hok e _ he;have kin:=I.kIn;refine Al (o:={ cls:=.ref C,data:=.fields #[.ref t,.none,.none,.none,.bool false,.none] }) (od:=none) kin S ⟨g,rfl,rfl,trivial⟩ λcd b tk hc hd=>?_
 obtain⟨h,gg,d,tk0,os⟩:=s;refine Gr kin hc hd g rfl rfl rfl λh' tk' ge ns kp=>⟨rfl,?_⟩
 have lt:e<h.objs.size:=Uk g;have ne:h.objs.size≠e:=Wz lt;have g1:(h.update e λo=>{ o with dict:=some h.objs.size }).get? e=some { cls:=.ref C,dict:=some h.objs.size,data:=.fields #[.ref t,.none,.none,.none,.bool false,.none] }:=VF _ g rfl
 have k1:∀b u,b≠e->h.get? b=some u->(h.update e λo=>{ o with dict:=some h.objs.size }).get? b=some u:=λb u nb q=>(Ve _ _ (Ne.symm nb)).trans q
 have I1:=I.write (x:=e) (e:=e) (o:=.ext (dX C e (some h.objs.size))) (t':=tk') (by rw[he];trivial) (.inl rfl) k1 ⟨_,g1⟩ (xn ⟨t,g1⟩)
 have sz:(h.update e λo=>{ o with dict:=some h.objs.size }).objs.size=h.objs.size:=Heap.size_update ..
 have k2:∀b u,(h.update e λo=>{ o with dict:=some h.objs.size }).get? b=some u->h'.get? b=some u:=λb u q=>by
  by_cases hb:b=e
  ·subst hb;rw[g1]at q;cases q;exact ge
  ·exact kp b u hb ((Ve _ _ (Ne.symm hb)).symm.trans q)
 have q:jH h.objs.size [(n,v)] h':=⟨_,ns,λf=>by
  by_cases hf:f=n
  ·subst hf;simp[List.lookup,RelO,r]
  ·have hb:(f==n)=false:=by simpa using hf
   simp[List.lookup,hf,hb,RelO],Within.cons n u Within.nil⟩
 exact k _ _ (I.hok.fresh (Ur _)) ne (I1.laid (a:=h.objs.size) (t':=tk') k2 (Nat.le_of_eq sz) (Hu q))
def Iw(I:Inv X YT σ H s)(S:SetX X.K C n)(he:H e=some (.ext (dX C e (some a))))(ha:H a=some (.ext (jH a fs)))(ne:a≠e)(hl:fs.length<=900)(r:RelV v u){Q:Unit->Shared->Prop}
  (k:∀s',Inv X YT σ (upd H a (.ext (jH a ((n,v)::fs)))) s'->Q () s'):wpAny (model X.prog X.w) A (setAttr (.ref e) n u) Q E s:=by
 obtain⟨⟨t,g⟩,_,_⟩:=I.hok e _ he;obtain⟨⟨mA,ns,lk,hw⟩,⟨od,god⟩,_⟩:=I.hok a _ ha;have kin:=I.kIn;refine Al (o:={ cls:=.ref C,dict:=some a,data:=.fields #[.ref t,.none,.none,.none,.bool false,.none] }) (od:=some od) kin S ⟨g,rfl,rfl,god⟩ λcd b tk hc hd=>?_
 obtain⟨h,gg,d,tk0,os⟩:=s;refine Jg kin hc hd g rfl rfl rfl ns hw (by rw[UV];lia) λh' tk' ns' kp=>⟨rfl,?_⟩
 have q:jH a ((n,v)::fs) h':=⟨_,ns',λf=>by
  by_cases hf:f=n
  ·subst hf;simp[List.lookup,RelO,r]
  ·have hb:(f==n)=false:=by simpa using hf
   simp only[List.lookup,hf,hb,if_false];exact lk f,Within.cons n u hw⟩
 obtain⟨o',g'⟩:∃u,h'.get? a=some u:=let ⟨_,⟨_,_,_,g,_⟩,_⟩:=q;⟨_,g⟩
 exact k _ (I.write (x:=a) (e:=a) (t':=tk') (by rw[ha];trivial) (.inl rfl) kp ⟨_,g'⟩ (Hu q))
end
end L2
namespace L2
open PySem PySem.Spec PyProof.Rows
section
variable{X:Cx}{o value e:Expr}{es:List Expr}{ta tv:TE}{t:TA}{n x:Str}{Fa:Addr}{np apos pos pos':Pos}{pl:Sem Bool}
def Gz(ha:PE X o ta)(hv:PE X value tv)(hs:swapsWith value (some (.Attribute o n pos')) pos.line X.env=pure false:=by rfl):
  PS X (.Assign [.Attribute o n pos'] value pos) (λD σ H=>tv σ H λy H1=>ta σ H1 λx H2=>∃e C,x=.ref e/\SetX X.K C n/\H2 e=some (.ext (dX C e none)) /\
   ∀a,H2 a=none->a≠e->D.nx σ (upd (upd H2 e (.ext (dX C e (some a)))) a (.ext (jH a [(n,y)])))):=by
 intro YT s σ H D I h;refine W3 (thn (hv YT s σ H _ I h) λu s1 ⟨y,H1,I1,ry,q⟩=>thn (ha YT s1 σ H1 _ I1 q) λov s2 ⟨x,H2,I2,rx,e,C,ex,S,he,q2⟩=>?_) hs
 subst ex;obtain rfl:ov=Value.ref e:=rx;exact Fq I2 S he ry λs3 a ha na I3=>⟨σ,_,I3,q2 a ha na⟩
def Js(ha:PE X o ta)(hv:PE X value tv)(hs:swapsWith value (some (.Attribute o n pos')) pos.line X.env=pure false:=by rfl):
  PS X (.Assign [.Attribute o n pos'] value pos) (λD σ H=>tv σ H λy H1=>ta σ H1 λx H2=>∃e C a fs,x=.ref e/\SetX X.K C n/\H2 e=some (.ext (dX C e (some a)))/\H2 a=some (.ext (jH a fs))/\a≠e/\fs.length<=900 /\
   D.nx σ (upd H2 a (.ext (jH a ((n,y)::fs))))):=by
 intro YT s σ H D I h;refine W3 (thn (hv YT s σ H _ I h) λu s1 ⟨y,H1,I1,ry,q⟩=>thn (ha YT s1 σ H1 _ I1 q) λov s2 ⟨x,H2,I2,rx,e,C,a,fs,ex,S,he,hf,na,hl,q2⟩=>?_) hs
 subst ex;obtain rfl:ov=Value.ref e:=rx;exact Iw I2 S he hf na hl ry λs3 I3=>⟨σ,_,I3,q2⟩
def Ln(hm:X.mg x=some (.ref Fa))(hr:PySem.W.readsIn X.K Fa (.type "type")=true)(hc:PySem.W.findCls X.K (.ref Fa) (.type "type") "__init__"=some (.val (.builtin "ValueError.__init__")))
  (hsp:PySem.W.specialIn X.K (.ref Fa) "__getattribute__"=some (some (.builtin "type.__getattribute__"))) (ha:PA X (e::es) t) (hst:starEach (e::es) X.env=(false,eval e X.env)::starEach es X.env) (hpl:(backTo pos (starEach es X.env)).any (·.1)=false)
  (hg:Gl X x:=by rfl) (hd:(x==("__debug__":Str))=false:=by decide)
  (ht:eval (.Call (.Attribute (.Name x np) "__init__" apos) (e::es) [] pos) X.env=(do
    let ov <-eval (.Name x np) X.env
    standAt apos.atName
    let (f,first) <-holding [ov] (getMethod ov "__init__" pl)
    callWith pos f first (backTo pos (starEach (e::es) X.env)) (backToKw pos (keywordEach [] X.env))):=by rfl) :
  PE X (.Call (.Attribute (.Name x np) "__init__" apos) (e::es) [] pos) (λσ H Q=>t σ H λvs H1=>∃y rest C f,vs=.ref y::rest/\cL X.K C f=true/\H1 y=some (.ext (dX C y none))/\rest.length<=sizeLine/\Q .non H1):=by
 intro YT s σ H Q I h;refine Xa (pl:=pl) (ld_glob I hg hm ?_ hd) ht;refine PySem.W.method_cls I.kIn hsp (PySem.W.cls_value I.kIn hr hc rfl ?_);have I':Inv X YT σ H { s with toks:=s.toks+1 }:=I.tok _
 refine W8 (thn (ha pos YT _ σ H _ I' h) λus s1 ⟨vs,H1,I1,r1,y,rest,C,f,e1,hi,hy,hl,q⟩=>?_) hst hpl
 subst e1;cases r1 with
 |cons ry rr=>obtain rfl:=ry;exact Fp I1 hi hy (by rw[<-rr.length];exact hl) λs2 I2=>⟨.non,H1,I2,rfl,q⟩
end
def eU(H:Hp)(e d:Addr)(fs:List (Str×V)):Hp:=λb=>if b=e then none else if b=d then some (.xd fs) else H b
section
variable{X:Cx}{YT:List (Addr×Obj)}{σ:St}{H:Hp}{s:Shared}{C e d:Addr}{fs:List (Str×V)}
def Ao:eU H e d fs e=none:=by unfold eU;rw[Uv rfl]
def Am(n:d≠e):eU H e d fs d=some (.xd fs):=by unfold eU;rw[Ux n,Uv rfl]
def u9{b:Addr}(n:b≠e)(m:b≠d):eU H e d fs b=H b:=by unfold eU;rw[Ux n,Ux m]
set_option tactic.hygienic true in
def Ft(I:Inv X YT σ H s)(he:H e=some (.ext (dX C e (some d))))(hd:H d=some (.ext (jH d fs)))(ne:d≠e):Inv X YT σ (eU H e d fs) s:=by
 have old:∀{b o},H b=some o->(∀φ,o≠.ext φ)->eU H e d fs b=some o:=λ{b o} q n=>by
  rw[u9,q]
  ·rintro rfl;rw[he]at q;cases q;exact n _ rfl
  ·rintro rfl;rw[hd]at q;cases q;exact n _ rfl
 have non:∀{b},H b=none->eU H e d fs b=none:=λ{b} q=>by
  unfold eU;split
  ·rfl
  ·split
   ·rename_i z;rw[z,hd]at q;cases q
   ·exact q
 refine⟨I.ok,I.os,I.bare,⟨I.base.keep,I.base.slot,λb o g n hx=>?_,I.base.there,λb xs q=>old (I.base.tups b xs q) nofun,λb o u q=>old (I.base.frzs b o u q) nofun,λb ps q=>?_⟩,I.loc,I.cell,non I.free,λx c q=>non (I.freeC x c q),λp hp=>?_,λb o q=>?_,I.len⟩
 ·exact non (I.base.free b o g n hx)
 ·obtain⟨m,z⟩:=I.base.tbls b ps q;exact⟨m,old z nofun⟩
 ·obtain⟨a,n,r⟩:=I.pin p hp;exact⟨a,non n,r⟩
 ·by_cases be:b=e
  ·rw[be,Ao]at q;cases q
  ·by_cases bd:b=d
   ·rw[bd,Am ne]at q;cases q;subst bd;obtain⟨⟨mA,n,l,_⟩,_⟩:=I.hok b _ hd;exact⟨mA,n,l⟩
   ·rw[u9 be bd]at q;exact (I.hok b o q).stay (λy y y z=>z) (λc z=>old z nofun) (λc xs z=>old z nofun) λc o z=>old z nofun
end
section
variable{P:Program}{w:World}{K:PySem.W.Frag}{mg:Str->Option Value}{base:Heap}{N:List Str}{qual:Str}{scope:Scope}{f0:Addr}{cd:Value}{A:Around}{outer:List Env}{s:Shared}{H:Hp}{E:XK}
def Mr(C:Addr)(sp:Sp)(t:TA)(E:XK):TS:=λ_ σ H=>t σ H λvs H1=>vs.length<=sizeLine/\∀y,H1 y=none->
 sp (.ref y::vs) (upd H1 y (.ext (dX C y none))) (λv H2=>v=.non/\∃d fs,H2 y=some (.ext (dX C y (some d)))/\H2 d=some (.ext (jH d fs))/\d≠y/\E (.ref C) (some d) (eU H2 y d fs)) E0
def Gy{k:Nat}{fd:FuncData}{ps:List Str}{sp:Sp}{x:Str}{C f:Addr}{np cpos pos:Pos}{e:Expr}{es:List Expr}{t:TA}(hm:mg x=some (.ref C))(hi:cL K C f=true)(hf:∃ o,K.lookup f=some o/\o.cls=.type "function")
  (F:FnOk P w K mg base (bD P w) k f fd ps sp) (hb:Binds K fd ps []) (hr:Room (k+1) (aH P w K mg base N qual scope f0 cd A outer s H E).A)
  (ha:PA (aH P w K mg base N qual scope f0 cd A outer s H E) (e::es) t) (hpl:(backTo cpos (starEach (e::es) (aH P w K mg base N qual scope f0 cd A outer s H E).env)).any (·.1)=false)
  (hst:starEach (e::es) (aH P w K mg base N qual scope f0 cd A outer s H E).env=(false,eval e (aH P w K mg base N qual scope f0 cd A outer s H E).env)::starEach es (aH P w K mg base N qual scope f0 cd A outer s H E).env)
  (hg:Gl (aH P w K mg base N qual scope f0 cd A outer s H E) x:=by rfl) (hd:(x==("__debug__":Str))=false:=by decide) :
  PS (aH P w K mg base N qual scope f0 cd A outer s H E) (.Raise (some (.Call (.Name x np) (e::es) [] cpos)) none pos) (Mr C sp t E):=by
 intro YT s1 σ H1 D I h;obtain⟨bm,Nn,nm,q,bs,hdct,sn,sub,ab,col,dd,k0,k1,k2,k3,k5,mN,hC,hN,hini,T⟩:=(qO I.ok.mod.kin hi).obj;obtain⟨oI,hlk,hfc⟩:=hf;refine Cg (C:=C) (nm:=nm) (q:=q) (N:=Nn) (bs:=bs) (bm:=bm) (hdct:=hdct) (sn:=sn) (sub:=sub) (ab:=ab) (col:=col) (dd:=dd) (k0:=k0) (k1:=k1) (k2:=k2) (k3:=k3) (k5:=k5) (mN:=mN) (fI:=f) (oI:=oI)
  Xn (T.hasType PySem.F.excBase_ValueError.hasBase) (I.ok.hd rfl) hpl hini hfc (ld_glob I hg hm ⟨rfl,?_⟩ hd)
 have hPA:=ha cpos YT s1 σ H1 _ I h;rw[hst]at hPA ⊢
 refine Calls.evalArgs_plain (Us hPA (λus s₂ h₂=>?_) λp p y=>y)
 obtain⟨vs,H2,I2,rv,l1,run⟩:=h₂;have lv:us.length<=sizeLine:=by rw[<-rv.length];exact l1
 have kp:∀b o,base.get? b=some o->s₂.heap.get? b=some o:=I2.bk;refine⟨rfl,lv,kp _ _ hC,hN.keeps kp,T.keeps kp,I2.kIn _ _ hlk,λh' y hx hs=>?_⟩
 obtain⟨t0,gy,_,_⟩:=hx.there;have I3:Inv (aH P w K mg base N qual scope f0 cd A outer s H E) YT σ (upd H2 y (.ext (dX C y none))) { s₂ with heap:=h' }:=I2.laid (t':=s₂.toks) hx.keeps hs (xn ⟨t0,gy⟩)
 have hq:=run y (I2.hok.fresh hs);have r2:Vals (V.ref y::vs) (Value.ref y::us):=.cons rfl rv;have hl:(Value.ref y::us).length=ps.length:=by rw[<-r2.length];exact F.len _ _ _ _ hq
 have bb:=hb { s₂ with heap:=h' } (Value.ref y::us) I3.kIn (by rw[V6];exact hl)
 rw[V6]at bb;refine WY (V2 (F.run _ (aH P w K mg base N qual scope f0 cd A outer s H E).stack { s₂ with heap:=h' } _ ⟨Value.ref y::us,[]⟩ (Value.ref y::us) _ _ E0 (by exact hr.make C us []) (by exact I3.env0.make C us []) bb r2 hq) λr s' hq'=>?_)
 cases r with
 |error e=>obtain⟨_,_,_,_,_,_,_,_,_,_,_,_,_,z⟩:=hq';exact z.elim
 | ok fl=>
   cases fl with
   | ret u=>
     obtain⟨v,H',I4,ru,rfl,d,fs,hy,hdd,nd,qE⟩:=I3.after hq';obtain⟨⟨t1,g1⟩,_,_⟩:=I4.hok y _ hy;have I5:=Ft I4 hy hdd nd;refine⟨ru,_,I4.bk _ _ hC,g1,rfl,⟨_,rfl,rfl⟩,G5 I5 g1 rfl rfl rfl rfl Ao ?_ qE⟩;cases z:s.heap.get? y with
     |none=>rfl
     |some o=>
       obtain⟨o',q'⟩:=I2.base.there y o z (show y∉([]:List Addr) by simp)
       rw[hx.new]at q';cases q'
   |next=>exact False.elim hq'
   |brk=>exact False.elim hq'
   |cont=>exact False.elim hq'
end
section
variable{prog:Program}{w:World}{A:Around}{E:Value->Shared->Prop}{h:Heap}{g:Array GenState}{d:Drawn}{t:Nat}{os:OsState}{x D:Addr}{oe:Obj}{od:Option Obj}{K:PySem.W.Frag}{n:Str}{v:Value}
def Ez{tk:Tok}{Q:Fin->Shared->Prop}(X:K.In h)(I:PySem.W.InstAt h x oe D od)(hf:PySem.W.findObj K D od n=some (.value v))(hq:Q (.done (.ret v)) ⟨h,g,d,t,os⟩):
  wpAny (model prog w) A (Builtin.«object.__getattribute__» ⟨[.ref x,.str n tk],[]⟩) Q E ⟨h,g,d,t,os⟩:=by
 have L0:=I.type (M:=model prog w);have L1:=PySem.W.looks_find (M:=model prog w) X I hf;refine Ug (Ui (Ug (Ui (Ug (L0.at (Ug (L1.at ?_)))))));exact Ui hq
def Ip{tk:Tok}{R:Result->Shared->Prop}(X:K.In h)(T:XAt K D)(I:PySem.W.InstAt h x oe D od)(hf:PySem.W.findObj K D od n=some (.value v))(hq:R (.ok (.ret v)) ⟨h,g,d,t,os⟩):
  codeAny (model prog w) A (.call (.builtin "BaseException.__getattribute__") ⟨[.ref x,.str n tk],[]⟩) R ⟨h,g,d,t,os⟩:=
 Wq F.attrBase_ValueError.ga.plain F.entry_bexc_ga (wQ X T I.at_ I.cls (Ez X I hf hq))
def Ny{tk:Tok}{fill expr:Bool}{Q:Value->Shared->Prop}(X:K.In h)(T:XAt K D)(I:PySem.W.InstAt h x oe D od)(hf:PySem.W.findObj K D od n=some (.value v))(hh:PySem.W.handedIn v=true)(hq:Q v ⟨h,g,d,t,os⟩):
  wpAny (model prog w) A (getAttrBy (.ref x) (.str n tk) fill expr) Q E ⟨h,g,d,t,os⟩:=by
 have hx:=I.at_;have hc:=I.cls;have u3:=F.attrBase_ValueError.ga.bind (.ref x);have ex0:(expr&&onTheHeap (Value.builtin "BaseException.__getattribute__"))=false:=by cases expr<;>rfl
 have ex2:(Value.builtin "BaseException.__getattribute__"==Value.builtin "object.__getattribute__")=false:=by decide +kernel
 have ex1:(onTheHeap (Value.ref D)&&Value.builtin "BaseException.__getattribute__"==Value.builtin "object.__getattribute__")=false:=by rw[ex2];rfl
 have L1:=V9 (M:=model prog w) X T.ga;have L2:=V9 (M:=model prog w) X T.gn
 repeat (any_goals (first | assumption | (with_reducible refine VG hx ?_;rw[hc]) | with_reducible refine L1.at ?_ | with_reducible refine L2.at ?_ | wp_step))
 refine Ip X T I hf ?_
 repeat (any_goals (first | wp_step | assumption))
 show wpAny _ _ (handedOut v) _ _ _;rw[PySem.W.handedOut_of hh];exact Ui hq
def Io{expr:Bool}{Q:Value->Shared->Prop}(X:K.In h)(T:XAt K D)(I:PySem.W.InstAt h x oe D od)(hf:PySem.W.findObj K D od n=some (.value v))(hh:PySem.W.handedIn v=true)(hq:Q v ⟨h,g,d,t+1,os⟩):
  wpAny (model prog w) A (getAttr (.ref x) n expr) Q E ⟨h,g,d,t,os⟩:=by
 unfold getAttr;refine Ug (wpAny_mkText (Ny X T I hf hh hq))
end
def Lq{X:Cx}{e:Expr}{te:TE}{pos:Pos}{y C dd:Addr}{oe:Obj}{n:Str}(hp:(y,oe)∈X.pn)(ho:oe.cls=.ref C)(T:XAt X.K C)(S:SetX X.K C n)(hod:oe.dict=some dd)(hf:∃vs,oe.data=.fields vs)(he:PE X e te)
  (hb:attributeBase e n X.env (eval e X.env)=eval e X.env:=by rfl):PE X (.Attribute e n pos) (λσ H Q=>te σ H λx H1=>∃fs v,x=.ref y/\H1 dd=some (.xd fs)/\fs.lookup n=some v/\Q v H1):=by
 intro YT s σ H Q I h;refine attr_of hb (thn (he YT s σ H _ I h) λu s1 ⟨x,H1,I1,rx,fs,v,ex,hd,l,q⟩=>?_)
 subst ex;obtain rfl:u=Value.ref y:=rx;obtain⟨mA,N,r⟩:=I1.hok dd _ hd;obtain⟨u,hu,ru⟩:=RelO.some_of (v:=v) (o:=mA n) (by rw[<-l];exact r n)
 obtain⟨od,hod2,hl⟩:∃od,s1.heap.get? dd=some od/\PySem.W.lookIn n od=some (some u):=by obtain⟨od,ho,hl⟩:=lookIn_ns N;exact⟨od,ho,by rw[hl,hu]⟩
 obtain⟨vs,hv⟩:=hf;have J:PySem.W.InstAt s1.heap y oe C (some od):=⟨(I1.pin (y,oe) (Vp _ hp)).1,ho,by unfold PySem.W.notCls;rw[hv],by rw[hod];exact hod2⟩
 obtain⟨cd,hc,_,hdi⟩:=S.cd;obtain⟨hh,gg,dw,tk,os⟩:=s1;exact Io I1.kIn T J (PySem.W.findObj_own (by unfold PySem.W.hasDictIn;rw[hc];exact hdi) S.no rfl hl) (handed_of ru) ⟨v,H1,I1.tok _,ru,q⟩
end L2
namespace L3
open PySem PySem.Spec L2
open PyProof.Rows hiding St
def CK(C:Addr)(n1 n2:Str):Sp:=λvs H Q z=>∃y a b,vs=[.ref y,.int a,.int b]/\a.natAbs<1000/\b.natAbs<1000/\H y=some (.ext (dX C y none)) /\
 ∀ρ1 H1 d,Ext ⟨[],[]⟩ H ρ1 H1->H1 d=none->d≠y->Q .non (upd (upd H1 y (.ext (dX C y (some d)))) d (.ext (jH d [(n2,.int b),(n1,.int a)])))
section
variable{X:Cx}{C f Fa:Addr}{n1 n2 x:Str}{e:Expr}{es:List Expr}{fs:aa->DM (List D)}{o1 v1 o2 v2:Expr}{np apos pos p2 q1 q2 r1 r2:Pos}
def j0{mg:Str->Option Value}{H:Hp}:J mg ⟨[],[]⟩ [] H:=⟨rfl,List.nodup_nil,λn a o h=>by simp at h,λa h=>by cases h⟩
def GC(hm:X.mg x=some (.ref Fa))(hr:PySem.W.readsIn X.K Fa (.type "type")=true)(hc:PySem.W.findCls X.K (.ref Fa) (.type "type") "__init__"=some (.val (.builtin "ValueError.__init__")))
  (hsp:PySem.W.specialIn X.K (.ref Fa) "__getattribute__"=some (some (.builtin "type.__getattribute__"))) (hi:cL X.K C f=true) (S1:SetX X.K C n1) (S2:SetX X.K C n2)
  (ha:DA X E0 (e::es) fs) (h1:PE X o1 (tVar 0)) (g1:PE X v1 (tVar 1)) (h2:PE X o2 (tVar 0)) (g2:PE X v2 (tVar 2))
  (hF:∀y a b,a.natAbs<1000->b.natAbs<1000->∃r M1,fs (b7 X.N.length [.exn y,.int a,.int b]) []=some (.ok [.exn y,.str r],M1))
  (hst:starEach (e::es) X.env=(false,eval e X.env)::starEach es X.env:=by rfl) (hpl:(backTo pos (starEach es X.env)).any (·.1)=false:=by rfl)
  (hg:Gl X x:=by rfl) (hd:(x==("__debug__":Str))=false:=by decide)
  (ht:∃pl:Sem Bool,eval (.Call (.Attribute (.Name x np) "__init__" apos) (e::es) [] pos) X.env=(do
    let ov <-eval (.Name x np) X.env
    standAt apos.atName
    let (f,first) <-holding [ov] (getMethod ov "__init__" pl)
    callWith pos f first (backTo pos (starEach (e::es) X.env)) (backToKw pos (keywordEach [] X.env))):=by exact⟨_,rfl⟩)
  (s0:swapsWith (.Call (.Attribute (.Name x np) "__init__" apos) (e::es) [] pos) none p2.line X.env=pure false:=by rfl) (s1:swapsWith v1 (some (.Attribute o1 n1 q1)) r1.line X.env=pure false:=by rfl) (s2:swapsWith v2 (some (.Attribute o2 n2 q2)) r2.line X.env=pure false:=by rfl)
  {H:Hp}{vs:List V}{Q:VK}{E:XK} (hs:CK C n1 n2 vs H Q E) (hN:3<=X.N.length) :
  ∃t,PSs X [.Expr (.Call (.Attribute (.Name x np) "__init__" apos) (e::es) [] pos) p2,.Assign [.Attribute o1 n1 q1] v1 r1,.Assign [.Attribute o2 n2 q2] v2 r2] t/\t { nx:=λz H'=>Q .non H',rt:=Q } (L2.start X.N vs) H:=by
 obtain⟨pl,ht⟩:=ht;obtain⟨y,a,b,rfl,la,lb,hy,k⟩:=hs;obtain⟨r,M1,hF⟩:=hF y a b la lb;refine⟨_,pss_cons (ps_expr (Ln (pl:=pl) hm hr hc hsp (ha.h.h) hst hpl hg hd ht) s0) (pss_cons (Gz h1 g1 s1) (pss_one (Js h2 g2 s2))),?_⟩;refine⟨⟨[],[]⟩,b7 X.N.length [.exn y,.int a,.int b],[],eX (.cons (.exn y) (.cons (.int a) (.cons (.int b) .nil))),j0,_,hF,λρ1 H1 us x1 _ cs=>?_⟩
 cases cs with
 |cons c1 c2=>
   cases c1;have hy1:H1 y=some (.ext (dX C y none)):=x1.keep _ _ hy (by simp)
   refine⟨y,_,C,f,rfl,hi,hy1,by rw[c2.len];show 1<=2^24;decide,.int a,rfl,.ref y,rfl,y,C,rfl,S1,hy1,λd hd ne=>⟨.int b,rfl,.ref y,rfl,y,C,d,[(n1,.int a)],rfl,S2,?_,upd_same,ne,by show 1<=900;decide,?_⟩⟩
   ·rw[upd_ne ne.symm,upd_same]
   ·rw[upd_upd];exact k ρ1 H1 d x1 hd ne
end
def lH{α:Type}(c:Xc):DM α:=λM=>some (.exc c,M)
def Cr(x n1 n2:Str):List D->DM Fl
 |[.int a,.int b]=>if a.natAbs<1000/\b.natAbs<1000 then lH ⟨x,[(n2,b),(n1,a)]⟩ else stuck
 |_=>stuck
set_option tactic.hygienic true in
def Et{P:Program}{w:World}{K:PySem.W.Frag}{mg:Str->Option Value}{base:Heap}{N:List Str}{qual:Str}{scope:Scope}{f0:Addr}{cd:Value}{A:Around}{outer:List Env}{s:Shared}{H:Hp}{E:XK}
  {k:Nat}{fd:FuncData}{x n1 n2:Str}{C f:Addr}{np cpos pos:Pos}{e:Expr}{es:List Expr}{fs:aa->DM (List D)} (hm:mg x=some (.ref C)) (hi:cL K C f=true) (hf:∃o,K.lookup f=some o/\o.cls=.type "function")
  {ps:List Str} (F:FnOk P w K mg base (bD P w) k f fd ps (CK C n1 n2)) (hb:Binds K fd ps []) (hr:Room (k+1) (aH P w K mg base N qual scope f0 cd A outer s H E).A)
  (ha:DA (aH P w K mg base N qual scope f0 cd A outer s H E) E (e::es) fs) (hpl:(backTo cpos (starEach (e::es) (aH P w K mg base N qual scope f0 cd A outer s H E).env)).any (·.1)=false:=by rfl)
  (hst:starEach (e::es) (aH P w K mg base N qual scope f0 cd A outer s H E).env=(false,eval e (aH P w K mg base N qual scope f0 cd A outer s H E).env)::starEach es (aH P w K mg base N qual scope f0 cd A outer s H E).env:=by rfl)
  (hg:Gl (aH P w K mg base N qual scope f0 cd A outer s H E) x:=by rfl) (hd:(x==("__debug__":Str))=false:=by decide) :
  DS (aH P w K mg base N qual scope f0 cd A outer s H E) E (.Raise (some (.Call (.Name x np) (e::es) [] cpos)) none pos) (λδ=>fs δ>>=Cr x n1 n2):=by
 refine⟨PS.mono (Gy hm hi hf F hb hr ha.h.h hpl hst hg hd) λD σ H1 h=>?_⟩
 obtain⟨ρ,δ,M,ev,j,g1⟩:=h;refine⟨ρ,δ,M,ev,j,g1.bind λρ1 H2 M1 vs ds e1 j1 c1 g2=>?_⟩
 obtain⟨r,er,p⟩:=g2;unfold Cr at er;split at er;rotate_left
 ·cases er
 rename_i a b;split at er;rotate_left
 ·cases er
 rename_i hab;cases er;cases c1 with
 |cons ca cb=>
 cases ca;cases cb with
 |cons cb cn=>
 cases cb;cases cn;refine⟨by show 2<=2^24;decide,λy hy=>⟨y,a,b,rfl,hab.1,hab.2,upd_same,λρa H3 d xa hd ne=>⟨rfl,d,_,?_,upd_same,ne,?_⟩⟩⟩
 ·rw[upd_ne ne.symm,upd_same]
 ·have sm:∀c o,H2 c=some o->eU (upd (upd H3 y (.ext (dX C y (some d)))) d (.ext (jH d [(n2,.int b),(n1,.int a)]))) y d [(n2,.int b),(n1,.int a)] c=some o:=λc o q=>by
   have cy:c≠y:=ne_of_none q hy;have q3:H3 c=some o:=xa.keep c o (by rw[upd_ne cy];exact q) (by simp)
   have cd:c≠d:=ne_of_none q3 hd;rw[u9 cy cd,upd_ne cd,upd_ne cy];exact q3
  have dn:d∉ρ1:=λz=>by
   obtain⟨u,hu⟩:=j1.some z;have dy:d≠y:=ne;have:=xa.keep d u (by rw[upd_ne dy];exact hu) (by simp)
   rw[hd]at this;cases this
  exact p ρ1 _ C ⟨⟨[],by simp⟩,rfl,λa h n=>absurd h n,λc o q v=>sm c o q⟩ (j1.same sm) hm (some d) ⟨d,rfl,dn,Am ne⟩
structure XIni(P:Program)(w:World)(K:PySem.W.Frag)(mg:Str->Option Value)(base:Heap)(k:Nat)(x n1 n2:Str):Prop where
 ex:∃C f fd ps,mg x=some (.ref C)/\cL K C f=true/\(∃o,K.lookup f=some o/\o.cls=.type "function")/\FnOk P w K mg base (bD P w) k f fd ps (CK C n1 n2)/\Binds K fd ps []
def Eu{P:Program}{w:World}{K:PySem.W.Frag}{mg:Str->Option Value}{base:Heap}{N:List Str}{qual:Str}{scope:Scope}{f0:Addr}{cd:Value}{A:Around}{outer:List Env}{s:Shared}{H:Hp}{E:XK}
  {k j:Nat}{x n1 n2:Str}{np cpos pos:Pos}{e:Expr}{es:List Expr}{fs:aa->DM (List D)} (T:XIni P w K mg base k x n1 n2) (hr:Room j (aH P w K mg base N qual scope f0 cd A outer s H E).A)
  (ha:DA (aH P w K mg base N qual scope f0 cd A outer s H E) E (e::es) fs) (hjk:k+1<=j:=by decide) (hpl:(backTo cpos (starEach (e::es) (aH P w K mg base N qual scope f0 cd A outer s H E).env)).any (·.1)=false:=by rfl)
  (hst:starEach (e::es) (aH P w K mg base N qual scope f0 cd A outer s H E).env=(false,eval e (aH P w K mg base N qual scope f0 cd A outer s H E).env)::starEach es (aH P w K mg base N qual scope f0 cd A outer s H E).env:=by rfl)
  (hg:Gl (aH P w K mg base N qual scope f0 cd A outer s H E) x:=by rfl) (hd:(x==("__debug__":Str))=false:=by decide) :
  DS (aH P w K mg base N qual scope f0 cd A outer s H E) E (.Raise (some (.Call (.Name x np) (e::es) [] cpos)) none pos) (λδ=>fs δ>>=Cr x n1 n2):=by
 obtain⟨C,f,fd,ps,hm,hi,hf,F,hb⟩:=T.ex;exact Et hm hi hf F hb (hr.mono hjk) ha hpl hst hg hd
def Mt{P:Program}{w:World}{K:PySem.W.Frag}{mg:Str->Option Value}{base:Heap}{k:Nat}{C f:Addr}{x n1 n2 qual:Str}{N ps:List Str}{st:Stmt}(hm:mg x=some (.ref C))(T:MethAt K C "__init__" qual st)(hf:PySem.W.findIn K (.ref C) "__init__"=some (some (.ref f)))(hi:cL K C f=true)
  (S:FnScope N ps (defScope st)) (hb:∀(kV doc pm:Value) (an:Option Addr) (cdv ct:Value) (us:List Value),us.length=ps.length->bindArgs (PySem.W.fnOf "__init__" qual (defArgs st) (defBody st) (defScope st) .none kV doc pm an cdv ct) ⟨us,[]⟩=pure (ps.zip us))
  (hp:ps.length=3)
  (hbody:∀(f:Addr) (cdv:Value) (A:Around) (outer:List Env) (s:Shared) (H:Hp) (vs:List V) (Q:VK) (E:XK),Room k (A.deeper (envOfC qual (defScope st) s.heap.objs.size f cdv))->CK C n1 n2 vs H Q E->
    ∃t,PSs (aH P w K mg base N qual (defScope st) f cdv A outer s H E) (defBody st) t/\t { nx:=λz H'=>Q .non H',rt:=Q } (L2.start N vs) H):XIni P w K mg base (k+1) x n1 n2:=by
 obtain⟨f',fd,F,b,_,h1,h2⟩:=(T.okE (P:=P) (w:=w) (mg:=mg) (base:=base) (k:=k) S hb (λvs H Q E h=>by obtain⟨y,a,b,rfl,_⟩:=h;exact hp.symm) hbody).ex
 rw[hf]at h1;cases h1;obtain⟨o,h3,h4⟩:=Up.mp (show (K.lookup f).map (·.cls)=some (.type "function") from Wb.mp h2)
 exact⟨⟨C,f,fd,ps,hm,hi,⟨o,h3,h4⟩,F,b⟩⟩
theorem xP{δ:aa}{M:Mo}:∀ {fs:List (aa->DM D)},(∀ f∈fs,∃ a:Str,f δ M=some (.ok (.str a),M)/\a.length<=100)->∀ acc:Str,acc.length + 100 * fs.length<=sizeLine->∃ r,lY fs δ acc M=some (.ok (.str r),M)
 |[],_,acc,_=>⟨acc,rfl⟩
 |f::fs,h,acc,hl=>by
   obtain⟨a,e,la⟩:=h f (UW ..);have q:(acc++a).length=acc.length+a.length:=Array.size_append ..
   rw[Vn]at hl;obtain⟨r,er⟩:=xP (fs:=fs) (λf hf=>h f (Vj _ hf)) (acc++a) (by lia)
   refine⟨r,?_⟩;show DM.bind (f δ) _ M=_;unfold DM.bind;rw[e];show (if (acc++a).length<=sizeLine then lY fs δ (acc++a) else stuck) M=_
   rw[Uv (by lia)]
   exact er
def vI{a:Int}(h:a.natAbs<1000):(Str.ofString (toString a)).length<=8:=by
 have q:∀n:Fin 1000,(Str.ofString (toString (Int.ofNat n.val))).length<=8/\(Str.ofString (toString (-(Int.ofNat n.val)))).length<=8:=by decide +kernel
 rcases Int.natAbs_eq a with e | e
 ·rw[e];exact (q ⟨a.natAbs,h⟩).1
 ·rw[e];exact (q ⟨a.natAbs,h⟩).2
def Ga{a:Int}(h:a.natAbs<1000):a.natAbs.log2<1920:=Wl (Nat.log2_le_self _) (by lia)
def Fb{δ:aa}{a:Int}(i:Nat)(hi:δ[i]?=some (some (.int a)))(h:a.natAbs<1000):(aY i δ>>=λx=>rd (qW x)) []=some (.ok (.str (toString a)),[]):=by show DM.bind (aY i δ) _ []=_;unfold aY;rw[hi];show rd (qW (.int a)) []=_;simp[rd,qW,Ga h]
def Ni{f g:DM D}{M:Mo}{a b:D}(h1:f M=some (.ok a,M))(h2:g M=some (.ok b,M)):(f>>=λx=>(g>>=λy=>(pure []:DM (List D))>>=λl=>pure (y::l))>>=λl=>pure (x::l)) M=some (.ok [a,b],M):=by show DM.bind f _ M=_;unfold DM.bind;rw[h1];show DM.bind (DM.bind g _) _ M=_;unfold DM.bind;rw[h2];rfl
structure XfD(K:PySem.W.Frag)(mg:Str->Option Value)(c:Str)(ns:List Str):Prop where
 ex:∃C,mg c=some (.ref C)/\∀n∈ns,SetX K C n
def Qm:List (Str×Int)->D
 |[]=>.exn 0
 |f::fs=>.exf 0 0 (f::fs)
def CQ(ns:List Str)(n i:Nat)(fb:aa->DM Fl)(fh:Str->aa->DM Fl)(δ:aa):DM Fl:=λM=>match fb δ M with
 |some (.exc c,M')=>if ns.contains c.nm then (bU (fh c.nm ((List.replicate n none).set i (some (Qm c.fs))))>>=Jf i) M' else none
 |r=>r
def Im:D->Option Addr
 |.exn a=>some a
 |.exf a _ _=>some a
 |_=>none
def uG(ns:List Str)(c k:Str):Mo->Option D:=λz=>if ns.contains k then some (.bl (c==k)) else none
def cY(ns:List Str)(y:Option Addr)(c:Str):List D->Mo->Option D
 |[x,.cls k],M=>match Im x with
   |some a=>if y.all (·== a) then uG ns c k M else none
   |none=>none
 |_,_=>none
def Fw(ns:List Str)(c k:Str):cY ns none c [.exn 0,.cls k]=uG ns c k:=rfl
def Fx(ns:List Str)(c k:Str)(fs):cY ns none c [.exf 0 0 fs,.cls k]=uG ns c k:=rfl
def Fy(ns:List Str)(c k:Str)(y:Addr):cY ns (some y) c [.exn y,.cls k]=uG ns c k:=by funext M;simp[cY,Im]
def FJ(ns:List Str)(c k:Str)(y d:Addr)(fs):cY ns (some y) c [.exf y d fs,.cls k]=uG ns c k:=by funext M;simp[cY,Im]
def Hv(cx n c:Str)(fs:List (Str×Int)):Mo->Option D:=λz=>if c==cx then (fs.lookup n).map .int else none
def nR(cx n:Str)(yd:Option (Addr×Option Addr))(c:Str):D->Mo->Option D
 |.exf a d fs,M=>if yd.all (λp=>p.1==a&&p.2==some d) then Hv cx n c fs M else none
 |_,_=>none
def Kd(cx n c:Str):nR cx n none c (.exn 0)=λz=>none:=rfl
def Ke(cx n c:Str)(fs):nR cx n none c (.exf 0 0 fs)=Hv cx n c fs:=rfl
def Kf(cx n c:Str)(y:Addr)(yd):nR cx n yd c (.exn y)=λz=>none:=rfl
def Kg(cx n c:Str)(y d:Addr)(fs):nR cx n (some (y,some d)) c (.exf y d fs)=Hv cx n c fs:=by funext M;simp[nR]
set_option tactic.hygienic true in
def gJ{X:Cx}{E:XK}{K:PySem.W.Frag}{mg:Str->Option Value}{ns:List Str}{F y C:Addr}{oe:Obj}{c:Str}(T:XTab K mg ns F)(hc:c∈ns)(hm:mg c=some (.ref C))(ho:oe.cls=.ref C)(xa:XAt K C)(hp:(y,oe)∈X.pn)(hK:X.K=K:=by rfl)(hM:X.mg=mg:=by rfl):CallD X E (.builtin "isinstance") (λl=>rd (cY ns (some y) c l)):=by
 subst hK hM;exact CallD.of (DQ hp) λvs H Q ρ M ds d j cs e q=>by
  unfold cY at e;split at e
  ·rename_i x k;split at e
   ·rename_i a ha;split at e
    ·rename_i hy;unfold uG at e;split at e
     ·rename_i hk;cases e;obtain⟨v,w,rfl,k1,k2⟩:=cs.two;have hy':y=a:=by simpa using hy
      subst hy';obtain rfl:v=.ref y:=by
       cases x with
       |exn b=>cases ha;cases k1;rfl
       |exf b d fs=>cases ha;cases k1;rfl
       |_=>cases ha
      cases k2 with | cls h=>
      exact⟨_,_,C,_,rfl,rfl,.inr ⟨_,rfl⟩,ho,xa,T.kit c hc _ (Yp.mp hk) _ _ hm h,q ρ H _ .refl j (.bl _)⟩
     ·cases e
    ·cases e
   ·cases e
  ·cases e
section
variable{X:Cx}{E:XK}{An:AT}{e:Expr}{fe:aa->DM D}{pos:Pos}
def Jh{te:TE}{n:Str}(he:PE X e te)(hb:attributeBase e n X.env (eval e X.env)=eval e X.env):PE X (.Attribute e n pos) (λσ H _=>te σ H λy y=>False):=by intro YT s σ H Q I h;exact attr_of hb (thn (he YT s σ H _ I h) λu s1 ⟨_,_,_,_,z⟩=>z.elim)
set_option tactic.hygienic true in
theorem vJ{n:Str}{i:Int}:∀ {fs:List (Str×Int)},fs.lookup n=some i->(fs.map λp=>(p.1,V.int p.2)).lookup n=some (.int i)
 |[],h=>by cases h
 |(a,b)::fs,h=>by
   rw[Vo,V0];rw[V0]at h;split at h
   ·rename_i z;rw[z];cases h;rfl
   ·rename_i z;rw[z];exact vJ h
set_option tactic.hygienic true in
def JM{K:PySem.W.Frag}{mg:Str->Option Value}{cx n c:Str}{ns:List Str}{y C:Addr}{oe:Obj}(T:XfD K mg cx ns)(hn:n∈ns)(hm:mg c=some (.ref C))(ho:oe.cls=.ref C)(xa:XAt K C)(hf:∃ vs,oe.data=.fields vs)(hp:(y,oe)∈X.pn)(he:DE X E e fe)
  (hb:attributeBase e n X.env (eval e X.env)=eval e X.env:=by rfl) (hK:X.K=K:=by rfl) (hM:X.mg=mg:=by rfl):DE X E (.Attribute e n pos) (λδ=>fe δ>>=λx=>rd (nR cx n (some (y,oe.dict)) c x)):=by
 subst hK hM;by_cases hq:c=cx/\∃dd,oe.dict=some dd
 ·obtain ⟨rfl,dd,hd⟩:=hq;obtain⟨C',m',S⟩:=T.ex;rw[hm]at m';cases m';rw[hd];refine⟨PE.mono (Lq hp ho xa (S n hn) hd hf he.h hb) λσ H Q h=>?_⟩
  obtain⟨ρ,δ,M,ev,j,g1⟩:=h;refine⟨ρ,δ,M,ev,j,g1.bind λρ1 H1 M1 x dx e1 j1 c1 g2=>?_⟩
  obtain⟨d,ed,q⟩:=g2.rd;unfold nR at ed;split at ed
  ·split at ed
   ·rename_i a d' fs hy;simp only[Option.all_some,Bool.and_eq_true,beq_iff_eq,Option.some.injEq]at hy;obtain⟨rfl,rfl⟩:=hy;unfold Hv at ed;rw[Uv (by simp)]at ed
    obtain⟨i,hi,rfl⟩:=Up.mp ed;cases c1 with
    |exf nd hx=>exact⟨_,.int i,rfl,hx,vJ hi,q ρ1 H1 _ .refl j1 (.int i)⟩
   ·cases ed
  ·cases ed
 ·refine ⟨PE.mono (Jh he.h hb) λσ H Q h=>?_⟩
  obtain⟨ρ,δ,M,ev,j,g1⟩:=h;refine⟨ρ,δ,M,ev,j,g1.bind λρ1 H1 M1 x dx e1 j1 c1 g2=>?_⟩
  obtain⟨d,ed,q⟩:=g2.rd;unfold nR at ed;split at ed
  ·split at ed
   ·rename_i a d' fs hy;simp only[Option.all_some,Bool.and_eq_true,beq_iff_eq]at hy;unfold Hv at ed;split at ed
    ·rename_i hc;exact hq ⟨by simpa using hc,_,hy.2⟩
    ·cases ed
   ·cases ed
  ·cases ed
set_option tactic.hygienic true in
def Mz{K:PySem.W.Frag}{mg:Str->Option Value}{c f:Str}{C:Addr}{fs:List Str}(O:OCls K mg c C fs)(hf:f∈fs)(he:AE X E An e fe)
  (hb:attributeBase e f X.env (eval e X.env)=eval e X.env:=by rfl) (hK:X.K=K:=by rfl) (hM:X.mg=mg:=by rfl):AE X E An (.Attribute e f pos) (λδ=>fe δ>>=λx=>rd (j9 c f x)):=by
 subst hK hM;refine⟨PE.mono (pe_fld he.h hb) λσ H Q h=>?_⟩
 obtain⟨ρ,δ,M,an,ev,j,g1⟩:=h;refine⟨ρ,δ,M,an,ev,j,g1.bind λρ1 H1 M1 x dx e1 j1 c1 g2=>?_⟩
 obtain⟨d,ed,q⟩:=g2.rd;unfold j9 at ed;split at ed
 ·split at ed
  ·rename_i hk;subst hk;cases c1 with
   |obj n m h l cs=>obtain⟨v,hv,cv⟩:=jk cs ed;rw[O.at_]at m;cases m;exact⟨_,_,_,_,v,rfl,h,O.cls,O.no f hf,hv,q ρ1 H1 _ .refl j1 cv⟩
  ·cases ed
 ·split at ed
  ·split at ed
   ·rename_i hm hk;subst hk;cases c1 with
    |ref hn=>obtain⟨C',dx',xs,m,h,l,cs⟩:=j1.obj _ _ _ hn hm;obtain⟨v,hv,cv⟩:=jk cs ed;rw[O.at_]at m;cases m;exact⟨_,_,_,_,v,rfl,h,O.cls,O.no f hf,hv,q ρ1 H1 _ .refl j1 cv⟩
   ·cases ed
  ·cases ed
 ·cases ed
end
set_option tactic.hygienic true in
def Ko{X:Cx}{E:XK}{An:AT}(nl:Nat){ns:List Str}{fb:aa->DM Fl}{fh:Str->aa->DM Fl}{fy:Addr->Option Addr->Str->aa->DM Fl}{x n:Str}{F:Addr}{i:Nat}{body suite:List Stmt}{b₀:Stmt}{np p1 pos:Pos}(T:XTab X.K X.mg ns F)(hcalm:X.calm=true)(hcells:X.env.cells=[])(hex:X.ex=[])
  (hst:X.stack=X.env::X.outer) (hfr:X.env.frame=some X.env.locals) (hN:X.N.Nodup) (hi:X.N[i]?=some n) (hk:X.env.kindOf n=some .local) (hm:X.mg x=some (.ref F))
  (hb:∀YT Eh,ASs (X.tryC YT Eh) Eh An body fb) (hs:∀c C y oe,c∈ns->X.mg c=some (.ref C)->oe.cls=.ref C->XAt X.K C->(∃vs,oe.data=.fields vs)->DSs (X.sui y oe) E0 (b₀::suite) (fy y oe.dict c))
  (hy:∀y c M r,fh c ((List.replicate nl none).set i (some (.exn 0))) M=some r->fy y none c ((List.replicate nl none).set i (some (.exn y))) M=some r)
  (hz:∀y d c fs M r,fh c ((List.replicate nl none).set i (some (.exf 0 0 fs))) M=some r->fy y (some d) c ((List.replicate nl none).set i (some (.exf y d fs))) M=some r)
  (hnl:X.N.length=nl:=by rfl) (hg:Gl X x:=by rfl) (hd:(x==("__debug__":Str))=false:=by decide) :
  AS X E An (.Try body [.ExceptHandler (some (.Name x np)) (some n) (b₀::suite) p1] [] [] pos) (CQ ns nl i fb fh):=⟨by
 subst hnl;intro YT s σ H D I h;obtain⟨ρ,δ,M,an,ev,j,g1⟩:=h;let Eh:XK:=λC' o H'=>∃c C ρ' M' r,c.nm∈ns/\C'=.ref C/\vd c ρ' o H'/\X.mg c.nm=some (.ref C)/\J X.mg ρ' M' H'/\(bU (fh c.nm ((List.replicate X.N.length none).set i (some (Qm c.fs))))>>=Jf i) M'=some r/\pC X.mg ρ' H' D E r
 have key:J9 An X.mg Eh fb D σ H:=by
  obtain⟨r,e,p⟩:=g1;unfold CQ at e;split at e
  ·rename_i c M' em;split at e;rotate_left
   ·cases e
   rename_i hc;refine⟨ρ,δ,M,an,ev,j,_,em,λρ' H' C x' j' m o q=>⟨c,C,ρ',M',r,Yp.mp hc,rfl,q,m,j',e,p.mono x'⟩⟩
  ·rename_i em;refine⟨ρ,δ,M,an,ev,j,r,e,?_⟩;obtain⟨r,M'⟩:=r;cases r with
   |ok a=>cases a<;>exact p
   |exc c=>exact absurd e (em c M')
 refine L2.Pq (Eh:=Eh) (tb:=J9 An X.mg Eh fb) (th:=λy oe D σ H=>(∃vs,oe.data=.fields vs)/\∃c C,c∈ns/\X.mg c=some (.ref C)/\oe.cls=.ref C/\XAt X.K C/\tS X.mg E0 (fy y oe.dict c) D σ H) hcalm hcells hex hst hfr hN hi hk hm (λYT=>(hb YT Eh).h) (λy oe pins' s' σ' H' D' I' q=>?_) hg hd YT s σ H D I ⟨key,?_⟩
 ·obtain⟨hf,c,C,hc,m,ho,xa,q⟩:=q;exact (hs c C y oe hc m ho xa hf).h pins' s' σ' H' D' I' q
 ·rintro y oe C' H1 hcl hf ⟨c,C,ρ',M',r,hc,rfl,xf,m,j',e,p⟩;obtain⟨C2,xc,xa,ca⟩:=T.cls c.nm hc;have:C2=C:=by have:=xc;rw[m]at this;cases this;rfl
  subst this;obtain ⟨sl,csl,hsl⟩:∃ sl,Cv X.mg ρ' H1 (.ref y) sl/\∀ M r,fh c.nm ((List.replicate X.N.length none).set i (some (Qm c.fs))) M=some r->fy y oe.dict c.nm ((List.replicate X.N.length none).set i (some sl)) M=some r:=by
   obtain⟨nm,fs⟩:=c;cases fs with
   |nil=>have xf:oe.dict=none:=xf;rw[xf];exact⟨.exn y,.exn y,λM r h=>hy y nm M r h⟩
   |cons f fs=>obtain⟨d,h1,h2,h3⟩:=xf;rw[h1];exact⟨.exf y d (f::fs),.exf h2 h3,λM r h=>hz y d nm (f::fs) M r h⟩
  refine⟨⟨C2,rfl,ca⟩,hf,c.nm,C2,hc,m,hcl,xa,ρ',(List.replicate X.N.length none).set i (some sl),M',?_,j',?_⟩
  ·refine ⟨by simp,λk d q=>?_⟩
   by_cases hk':k=i
   ·subst hk';have hl:k<(List.replicate X.N.length (none:Option L3.D)).length:=by have:=(Uj.mp q).1;rw[Vx]at this;exact this
    rw[U3 hl]at q;cases q;refine⟨.ref y,U3 ?_,csl⟩;rw[Vz]at hl ⊢;exact hl
   ·rw[Vl (λz=>hk' z.symm),VR]at q
    split at q<;>cases q
  ·have e:DM.bind _ _ M'=some r:=e;unfold DM.bind at e;split at e
   ·cases e
   ·rename_i em;obtain⟨_,_,_,z⟩:=lE em;cases z
   ·rename_i a M'' em0;obtain⟨a',M3,em,z⟩:=lE em0;cases z;refine⟨_,hsl _ _ em,?_⟩;cases a with
    |nx δ2=>cases e;exact λρ2 H2 σ2 a1 a2 a3=>p ρ2 H2 (σ2.set i none) a1 a2 a3.forget
    |bk δ2=>cases e;exact λρ2 H2 σ2 a1 a2 a3=>p ρ2 H2 (σ2.set i none) a1 a2 a3.forget
    |ct δ2=>cases e;exact λρ2 H2 σ2 a1 a2 a3=>p ρ2 H2 (σ2.set i none) a1 a2 a3.forget
    |rt d=>cases e;exact λρ2 H2 v a1 a2 a3=>p ρ2 H2 v a1 a2 a3⟩
structure TP(K:PySem.W.Frag)(x:Str)(st:Stmt)(ps:List Str):Prop where
 ex:∀{h:Heap}{mg:Mg},K.In h->h.Ns mainGlobals mg->DefAtP K mg x st ps
def Rw{K:PySem.W.Frag}{x:Str}{st:Stmt}{f:Addr}{oc:Value}{od an:Option Addr}{osl:Array (Option Value)}{dV kV doc pm cdv ct:Value}{ps:List Str}(n:Nat)(hn:ps.length=n+0)
  (a:PySem.W.nsIn K mainGlobals x=some (some (.ref f))) (l:K.lookup f=some ⟨oc,od,.func (PySem.W.fnOf x x (defArgs st) (defBody st) (defScope st) dV kV doc pm an cdv ct),osl⟩) (c:PySem.W.codeIn K cdv x=true) (k:PySem.W.keepIn K (.ref f)=true)
  (b:∀(S:PySem.Setting) (us:List Value),us.length=n->PySem.W.peek K S (bindArgs (PySem.W.fnOf x x (defArgs st) (defBody st) (defScope st) dV kV doc pm an cdv ct) ⟨us,[]⟩)=some (ps.zip (us++[]))):TP K x st ps:=
 ⟨λX G=>Ep n X G a l c k b hn⟩
def Tp{P:Program}{w:World}{K:PySem.W.Frag}{mg:Mg}{base:Heap}{k:Nat}{x:Str}{N ps:List Str}{st:Stmt}{fb:aa->DM Fl}(T:DefAtP K mg x st ps)(S:FnScope N ps (defScope st))(hbody:∀{f cdv A outer s H E},Rm k A x st s f cdv->Ds P w K mg base N x st f cdv A outer s H E fb):DefD P w K mg base (k+1) x ps (aG ps.length N.length fb):=
 T.okD S λz z z z z z z hr=>hbody hr
def Ab{K:PySem.W.Frag}{C:Addr}{n:Str}(a:((PySem.W.clsIn K C).any λcd=>pP cd.mro&&cd.hasDict)=true)(b:PySem.W.findIn K (.ref C) "__setattr__"=some (some (.builtin "object.__setattr__")))(c:PySem.W.findIn K (.ref C) n=some none):SetX K C n:=by obtain⟨cd,h1,h2⟩:=PySem.W.any_some a;rw[Wx]at h2;exact⟨⟨cd,h1,h2⟩,b,c⟩
end L3
namespace N10
theorem wH(c:Nat)(f:Nat->Nat):∀ n:Nat,S n (λy=>c * f y)=c * S n f
 |0=>rfl
 |n+1=>by
   show S n (λy=>c*f y)+c*f n=c*(S n f+f n)
   rw[wH c f n,Nat.mul_add]
def Dn(c:Nat)(f:Nat->Nat)(n:Nat):S n (λy=>f y*c)=S n f*c:=by rw[Xg,<-wH];exact dI λi z=>Xg _ _
end N10
namespace K
open PySem L2 L3
def fG(l:List Str)(h:l.Nodup:=by decide):l.Nodup:=h
local macro_rules | `(tactic| trivial)=>`(tactic| refine⟨rfl,by decide +kernel,rfl,jF ?_,λm_=>jh rfl,by decide,rfl,uM rfl,uO ?_,jg ?_⟩<;>((repeat' apply And.intro)<;>first | exact True.intro | rfl | exact Or.inl rfl | exact Or.inr rfl | exact⟨_,rfl⟩))
def top(i:Nat):Stmt:=PySem.Challenge.pw_fadewalk_k07_walks_made_of_walks.main.body.getD i (.Pass ⟨0,0,0,0⟩)
abbrev iJ:List Str:=["NoSteps", "NoNumber", "TooMany", "NoPlace"]
abbrev Qd(k:Nat)(N:List Str)(x:Str)(st:Stmt)(Y:Program->World->PySem.W.Frag->Mg->Heap->Prop->Prop):={b:aa->DM Fl // ∀{P w K mg base f cdv A outer s H E},Y P w K mg base (Rm k A x st s f cdv->Ds P w K mg base N x st f cdv A outer s H E b)}
abbrev Qe(k:Nat)(N:List Str)(x:Str)(st:Stmt)(Y:(Nat->Str->List Str->Fn->Prop)->(Str->Prop)->Prop->Prop):=Qd k N x st λP w K m o=>Y (DefD P w K m o) (Nn m)
abbrev Sc(N ps:List Str)(st:Stmt):=FnScope N ps (defScope st)
def bV{N P:List Str}{sc:Scope}(a:sc.kind=.function:=by exact rfl)(b:sc.isCoroutine=false:=by exact rfl)(c:sc.isGenerator=false:=by exact rfl)(p:N.take P.length=P:=by exact rfl)(d:(decide N.Nodup&&(decide (∀x∈P,sc.names.lookup x=some .local\/sc.names.lookup x=some .cell)&&decide (∀y∈sc.names,y.2≠.free)))=true:=by decide +kernel):FnScope N P sc:=Cu a b c p d
def qp{X:Cx}{E:XK}{scope:Scope}{cl:List (Str×Addr)}{elt i0:Expr}{p0 pos:Pos}{fi:aa->DM Itn}{fe:aa->DM D}(x:Str)(js:List Nat)(fr:List Str)(hi:DI X E (.Name x p0) i0 fi)
  (he:∀{YT m fp C s₂ H₂},DE (X.aO YT scope (cellsFrom m scope.names cl) ([x]++fr) fp C s₂ H₂) E0 elt fe) (T:CompG X scope cl [x] js fr:=by trivial) (hc:X.calm=true:=by exact rfl)
  (nd:([x]++fr).Nodup:=by decide) (hl:∀m C Z,(compEnvC scope (cellsFrom m scope.names cl) C Z).scope.names.lookup x=some .local:=by intros;exact rfl)
  (hs:∀y,foldedSetIterable i0 X.env y=pure y:=by intro _;rfl) :
  DE X E (.ListComp elt [⟨.Name x p0,i0,[],0⟩] scope pos) (λδ=>fi δ>>=λit=>bU (bW (gN 0) (λz=>pure true) (bB fe) it (aP [x].length js δ) [])>>=λp=>Out.val.run p.2):=
 bL (own:=[x]) .val hc T hi (λz z z z z z=>aB (i:=0) nd rfl (Or.inl (hl ..)) (Or.inr (hl ..))) (λz z z z z z=>bC) (λz z z z z z=>he) hs
section
variable(N:Nat)(v0 v1 v2 v3 v4 v5 v6 v7 v8 v9 v10 v11 v12 v13 v14 v15 v16 v17 v18 v19:Fn)
abbrev mL:Stmt:=top 11
def za:Sc ["thing"] ["thing"] mL:=bV
@[simp] noncomputable def tU:Qe 0 ["thing"] "is_whole" mL λD n Z=>n "bool"->n "int"->n "isinstance"->Z:=
 ⟨_,λya yb yc hr=>(aA (aL (fM (aU cO yc (ak (aj 0) (ak (jO (T := "int") yb) ao))) (jc (Eo (aU cO yc (ak (aj 0) (ak (jO (T := "bool") ya) ao))))))))⟩
noncomputable def sy:=(tU).1
abbrev dH:Stmt:=top 12
def gm:Sc ["one", "other"] ["one", "other"] dH:=bV
@[simp] noncomputable def dq:Qe 0 ["one", "other"] "greatest_divider" dH fun _ _ Z=>Z:=
 ⟨_,fun  hr=>have nd:=gm.nd;(aq (w5 N PassesOwn.leaving (bM (aj 1) (fun _=>rfl)) (aA (sU (i:=0) (j:=1) rfl nd rfl rfl (by decide) rfl rfl (ak (aj 1) (ak (aQ dR (aj 0) (aj 1)) ao)) rfl)))
  (aA (aL (aj 0))))⟩
noncomputable def cz(N:Nat):aa->DM Fl:=(dq N).1
abbrev iz:Stmt:=top 15
def uU:Sc ["thing", "many"] ["thing", "many"] iz:=bV
@[simp] noncomputable def nj:Qe 1 ["thing", "many"] "are_weights" iz fun D n Z=>D 1 "is_whole" ["thing"] v0->n "all"->n "isinstance"->n "len"->n "tuple"->Z:=
 ⟨_,fun ya yb yc yd ye hr=>(aq (bO (DW.dt (iM (cT (bM (aU cO yc (ak (aj 0) (ak (jO (T := "tuple") ye) ao))) (fun _=>rfl))) (gQ (bx (cu hr.units) (aU call_lenD yd (ak (aj 0) ao)) (aj 1)))))
  (aA (aL dJ))
  bz)
  (aA (aL (aU (oF hr.hd) yb (ak (qp "weight" [] [] (bA (aj 0)) (fM (aD ya hr tM (ak (aj 0) ao)) (jc (gO oU (aj 0) au)))) ao)))))⟩
noncomputable def m6:=(nj v0).1
abbrev mK:Stmt:=top 16
def yZ:Sc ["thing", "many"] ["thing", "many"] mK:=bV
@[simp] noncomputable def tR:Qe 2 ["thing", "many"] "are_rows" mK fun D n Z=>D 2 "are_weights" ["thing", "many"] v0->n "all"->n "isinstance"->n "len"->n "tuple"->Z:=
 ⟨_,fun ya yb yc yd ye hr=>(aq (bO (DW.dt (iM (cT (bM (aU cO yc (ak (aj 0) (ak (jO (T := "tuple") ye) ao))) (fun _=>rfl))) (gQ (bx (cu hr.units) (aU call_lenD yd (ak (aj 0) ao)) (aj 1)))))
  (aA (aL dJ))
  bz)
  (aA (aL (aU (oF hr.hd) yb (ak (qp "row" [1] ["many"] (bA (aj 0)) (aD ya hr tM (ak (aj 0) (ak (aj 1) ao)))) ao)))))⟩
noncomputable def su:=(tR v0).1
abbrev rB:Stmt:=top 17
def G8:Sc ["thing"] ["thing"] rB:=bV
@[simp] noncomputable def yp:Qd 2 ["thing"] "is_lot" rB fun P w K m o Z=>∀{t_MOST_PLACES},DefD P w K m o 2 "are_weights" ["thing", "many"] v0->Gi m "MOST_PLACES" 25 t_MOST_PLACES->Nn m "any"->Nn m "isinstance"->Nn m "len"->Nn m "tuple"->Z:=
 ⟨_,fun ya yb yc yd ye yf hr=>(aq (bO (DW.dt (iM (cT (bM (aU cO yd (ak (aj 0) (ak (jO (T := "tuple") yf) ao))) (fun _=>rfl))) (gQ (cT (qU fU fU au (aU call_lenD ye (ak (aj 0) ao)) (pG yb))))))
  (aA (aL dJ))
  bz)
  (aA (aL (fM (aD ya hr aJ (ak (aj 0) (ak (aU call_lenD ye (ak (aj 0) ao)) ao))) (jc (aU (Dz hr.hd) yc (ak (aj 0) ao)))))))⟩
noncomputable def wL:=(yp v0).1
abbrev f9:Stmt:=top 18
def rG:Sc ["thing"] ["thing"] f9:=bV
@[simp] noncomputable def jY:Qe 3 ["thing"] "refuse_no_lot" f9 fun D n Z=>D 3 "is_lot" ["thing"] v0->Z:=
 ⟨_,fun ya hr=>(aA (bO (cT (bM (aD ya hr aJ (ak (aj 0) ao)) (fun _=>rfl)))
  (aA qT)
  bz))⟩
noncomputable def jM:=(jY v0).1
abbrev fZ:Stmt:=top 21
def jD:Sc ["thing", "whole"] ["thing"] fZ:=bV
@[simp] noncomputable def jX:Qd 3 ["thing", "whole"] "can_be_walked" fZ fun P w K m o Z=>∀{t_MOST_PLACES},DefD P w K m o 3 "are_rows" ["thing", "many"] v0->Gi m "MOST_PLACES" 25 t_MOST_PLACES->Nn m "all"->Nn m "isinstance"->Nn m "len"->Nn m "sum"->Nn m "tuple"->Z:=
 ⟨_,fun ya yb yc yd ye yf yg hr=>have nd:=jD.nd;(aq (bO (DW.dt (iM (cT (bM (aU cO yd (ak (aj 0) (ak (jO (T := "tuple") yg) ao))) (fun _=>rfl))) (iM (cT (qU fU fU au (aU call_lenD ye (ak (aj 0) ao)) (pG yb))) (gQ (cT (bM (aD ya hr aJ (ak (aj 0) (ak (aU call_lenD ye (ak (aj 0) ao)) ao))) (fun _=>rfl)))))))
  (aA (aL dJ))
  bz)
  (aq (aX (i:=1) nd rfl (Or.inr rfl) (aU (fB hr.hd) yf (ak (cP eZ (aj 0) au) ao)))
  (aA (aL (fM (gO oU (aj 1) au) (jc (aU (oF hr.hd) yc (ak (qp "row" [1] ["whole"] (bA (aj 0)) (gO (dN hr.units) (aU (fB hr.hd) yf (ak (aj 0) ao)) (aj 1))) ao))))))))⟩
noncomputable def jL:=(jX v0).1
abbrev dU:Stmt:=top 22
def o9:Sc ["thing"] ["thing"] dU:=bV
@[simp] noncomputable def iI:Qd 1 ["thing"] "refuse_no_steps" dU fun P w K m o Z=>∀{F0 t_MOST_STEPS},DefD P w K m o 1 "is_whole" ["thing"] v0->XTab K m iJ F0->Gi m "MOST_STEPS" 100 t_MOST_STEPS->Z:=
 ⟨_,fun ya yb yc hr=>(aA (bO (DW.dt (iM (cT (bM (aD ya hr aJ (ak (aj 0) ao)) (fun _=>rfl))) (gQ (cT (qU fU fU au (aj 0) (pG yc))))))
  (aA (qR yb (by decide) (Ib cB (sO (pG yc)))))
  bz))⟩
noncomputable def iG:=(iI v0).1
abbrev rE:Stmt:=top 23
def Ha:Sc ["place", "many"] ["place", "many"] rE:=bV
@[simp] noncomputable def yq:Qe 0 ["place", "many"] "lot_at" rE λD n Z=>n "range"->n "tuple"->Z:=
 ⟨_,λya yb hr=>(aA (aL (b8 (T := "tuple") aN yb (ak (qp "at" [0] ["place"] (bF rfl ya (ak (aj 1) ao)) (pH (bx (dN hr.units) (aj 0) (aj 1)) au au)) ao))))⟩
noncomputable def wM:=(yq).1
abbrev o5:Stmt:=top 24
def Cw:Sc ["rows", "lot"] ["rows", "lot"] o5:=bV
@[simp] noncomputable def vM:Qe 0 ["rows", "lot"] "stepped" o5 λD n Z=>n "len"->n "range"->n "sum"->n "tuple"->n "zip"->Z:=
 ⟨_,λya yb yc yd ye hr=>(aA (aL (b8 (T := "tuple") aN yd (ak (bL (own:=["place"]) (js:=[1,0]) (fr:=["lot", "rows"]) .val rfl (by trivial) (bF rfl yb (ak (aU call_lenD ya (ak (aj 1) ao)) ao)) (λz z z z z z=>(aB (i:=0) (fG ["place", "lot", "rows"]) rfl (Or.inr rfl))) (λz z z z z z=>bC) (λz z z z z z=>(aU (fB hr.hd) yc (ak (bL (own:=["weight", "row"]) (js:=[0]) (fr:=["place"]) .val rfl (by trivial) (Er rfl ye (ak (aj 1) (ak (aj 2) ao))) (λz z z z z z=>(fO (n:=2) rfl (bw (aB (i:=0) (fG ["weight", "row", "place"]) rfl (Or.inl rfl)) (bw (aB (i:=1) (fG ["weight", "row", "place"]) rfl (Or.inl rfl)) dM)))) (λz z z z z z=>bC) (λz z z z z z=>(aQ bJ (aj 0) (cP eZ (aj 1) (aj 2))))) ao)))) ao))))⟩
noncomputable def vm:=(vM).1
abbrev fV:Stmt:=inClass (top 25) 0
def rF:Sc ["self", "rows"] ["self", "rows"] fV:=bV
@[simp] noncomputable def jV:Qd 4 ["self", "rows"] "Walk.__init__" fV fun P w K m o Z=>∀{C_Walk},DefD P w K m o 4 "can_be_walked" ["thing"] v0->OCls K m "Walk" C_Walk ["rows", "whole"]->Nn m "sum"->Z:=
 ⟨_,fun ya yb yc hr=>(aq (bO (cT (bM (aD ya hr aJ (ak (aj 1) ao)) (fun _=>rfl)))
  (aA qT)
  bz)
  (aq (Es yb (by decide) (aj 0) (aj 1))
  (aA (Es yb (by decide) (aj 0) (aU (fB hr.hd) yc (ak (cP eZ (aj 1) au) ao))))))⟩
noncomputable def jJ:=(jV v0).1
abbrev cN:Stmt:=inClass (top 25) 1
def ug:Sc ["self"] ["self"] cN:=bV
@[simp] noncomputable def lF:Qd 0 ["self"] "Walk.__len__" cN λP w K m o Z=>∀{C_Walk},OCls K m "Walk" C_Walk ["rows", "whole"]->Nn m "len"->Z:=
 ⟨_,λya yb hr=>(aA (aL (aU call_lenD yb (ak (cR ya (by decide) (aj 0)) ao))))⟩
noncomputable def lu:=(lF).1
abbrev fW:Stmt:=inClass (top 25) 4
def nu:Sc ["self", "lot", "steps", "step"] ["self", "lot", "steps"] fW:=bV
@[simp] noncomputable def jq:Qd 4 ["self", "lot", "steps", "step"] "Walk.after" fW fun P w K m o Z=>∀{C_Walk},DefD P w K m o 4 "refuse_no_lot" ["thing"] v0->DefD P w K m o 2 "refuse_no_steps" ["thing"] v1->DefD P w K m o 1 "stepped" ["rows", "lot"] v2->OCls K m "Walk" C_Walk ["rows", "whole"]->Nn m "len"->Nn m "range"->Z:=
 ⟨_,fun ya yb yc yd ye yf hr=>have nd:=nu.nd;(aq (gC (aD ya hr aJ (ak (aj 1) ao)))
  (aq (bO (bx (cu hr.units) (aU call_lenD ye (ak (aj 1) ao)) (aU call_lenD ye (ak (cR yd (by decide) (aj 0)) ao)))
  (aA qT)
  bz)
  (aq (gC (aD yb hr aJ (ak (aj 2) ao)))
  (aq (bR 0 Vf rfl (bF rfl yf (ak (aj 2) ao)) (aB (i:=3) nd rfl (Or.inl rfl))
  (aA (aX (i:=1) nd rfl (Or.inl rfl) (aD yc hr aJ (ak (cR yd (by decide) (aj 0)) (ak (aj 1) ao))))))
  (aA (aL (aj 1)))))))⟩
noncomputable def iY:=(jq v0 v1 v2).1
abbrev fX:Stmt:=inClass (top 25) 5
def nA:Sc ["self", "steps", "many"] ["self", "steps"] fX:=bV
@[simp] noncomputable def oV:Qd 5 ["self", "steps", "many"] "Walk.power" fX fun P w K m o Z=>∀{C_Walk},DefD P w K m o 1 "lot_at" ["place", "many"] v0->MethD P w K m o 5 "Walk" "after" "Walk.after" fW ["self", "lot", "steps"] v1->OCls K m "Walk" C_Walk ["rows", "whole"]->Nn m "len"->Nn m "range"->Nn m "tuple"->Z:=
 ⟨_,fun ya yb yc yd ye yf hr=>have nd:=nA.nd;(aq (aX (i:=2) nd rfl (Or.inr rfl) (aU call_lenD yd (ak (cR yc (by decide) (aj 0)) ao)))
  (aA (aL (b8 (T := "tuple") aN yf (ak (Ia (own:=["place"]) (js:=[0,2,1]) (fr:=["self", "many", "steps"]) .val rfl (by trivial) (bF rfl ye (ak (aj 2) ao)) (λz z z z z z=>(aB (i:=0) (fG ["place", "self", "many", "steps"]) rfl (Or.inl rfl))) (λz z z z z z=>bC) (λpins_ m_ fp_ C_ s_ H_ Eh_=>(Ih (ks:=["steps"]) yb hr J1 (aj 1) (ak (aD ya hr J1 (ak (aj 0) (ak (aj 2) ao))) ao) (RV (aj 3) Nk) (λz z z z z z us ws h1 h2=>by obtain⟨_,rfl⟩:=uI h1;obtain⟨_,_,rfl⟩:=Bw (show us.length=2 by simpa using h2);rfl)))) ao)))))⟩
noncomputable def iZ:=(oV v0 v1).1
abbrev iB:Stmt:=top 27
def uW:Sc ["thing", "low"] ["thing", "low"] iB:=bV
@[simp] noncomputable def nq:Qd 1 ["thing", "low"] "refuse_less" iB fun P w K m o Z=>∀{F0},DefD P w K m o 1 "is_whole" ["thing"] v0->XTab K m iJ F0->Z:=
 ⟨_,fun ya yb hr=>(aA (bO (DW.dt (iM (cT (bM (aD ya hr aJ (ak (aj 0) ao)) (fun _=>rfl))) (gQ (bx tK (aj 0) (aj 1)))))
  (aA (qR yb (by decide) (Ie cB (sO (aj 1)) cB)))
  bz))⟩
noncomputable def m7:=(nq v0).1
abbrev mO:Stmt:=top 28
def qH:Sc ["walk", "divider", "row", "weight"] ["walk"] mO:=bV
@[simp] noncomputable def tW:Qd 6 ["walk", "divider", "row", "weight"] "plainest" mO fun P w K m o Z=>∀{C_Walk},DefD P w K m o 1 "greatest_divider" ["one", "other"] v0->ClsD P w K m o 5 "Walk" v1->OCls K m "Walk" C_Walk ["rows", "whole"]->Nn m "tuple"->Z:=
 ⟨_,fun ya yb yc yd hr=>have nd:=qH.nd;(aq (aX (i:=1) nd rfl (Or.inr rfl) au)
  (aq (bR 0 Vf rfl (bA (cR yc (by decide) (aj 0))) (aB (i:=2) nd rfl (Or.inl rfl))
  (aA (bR 0 Vf rfl (bA (aj 2)) (aB (i:=3) nd rfl (Or.inl rfl))
  (aA (aX (i:=1) nd rfl (Or.inr rfl) (aD ya hr aJ (ak (aj 1) (ak (aj 3) ao))))))))
  (aA (aL (gB yb hr aJ (ak (b8 (T := "tuple") aN yd (ak (bL (own:=["row"]) (js:=[1]) (fr:=["divider"]) .val rfl (by trivial) (bA (cR yc (by decide) (aj 0))) (λz z z z z z=>(aB (i:=0) (fG ["row", "divider"]) rfl (Or.inl rfl))) (λz z z z z z=>bC) (λz z z z z z=>(b8 (T := "tuple") aN yd (ak (qp "weight" [1] ["divider"] (bA (aj 0)) (aQ jm (aj 0) (aj 1))) ao)))) ao)) ao))))))⟩
noncomputable def sG:=(tW v0 v1).1
abbrev uf:Stmt:=top 29
def uV:Sc ["walk", "stay", "go", "rows", "place"] ["walk", "stay", "go"] uf:=bV
@[simp] noncomputable def tV:Qd 6 ["walk", "stay", "go", "rows", "place"] "lazy" uf fun P w K m o Z=>∀{C_Walk},DefD P w K m o 2 "refuse_less" ["thing", "low"] v0->ClsD P w K m o 5 "Walk" v1->MethD P w K m o 1 "Walk" "__len__" "Walk.__len__" cN ["self"] v2->OCls K m "Walk" C_Walk ["rows", "whole"]->Nn m "len"->Nn m "range"->Nn m "tuple"->Z:=
 ⟨_,fun ya yb yc yd ye yf yg hr=>have nd:=uV.nd;(aq (gC (aD ya hr aJ (ak (aj 1) (ak au ao))))
  (aq (gC (aD ya hr aJ (ak (aj 2) (ak au ao))))
  (aq (qQ (i:=3) (own:=["row"]) (js:=[2]) (fr:=["go"]) .val nd rfl (Or.inl rfl) rfl (by trivial) (bA (cR yd (by decide) (aj 0))) (λz z z z z z=>(aB (i:=0) (fG ["row", "go"]) rfl (Or.inl rfl))) (λz z z z z z=>bC) (λz z z z z z=>(bL (own:=["weight"]) (js:=[1]) (fr:=["go"]) .sto rfl (by trivial) (bA (aj 0)) (λz z z z z z=>(aB (i:=0) (fG ["weight", "go"]) rfl (Or.inl rfl))) (λz z z z z z=>bC) (λz z z z z z=>(aQ bJ (aj 0) (aj 1))))))
  (aq (bR 0 Vf rfl (bF rfl yf (ak (aU (oG yc hr aJ (λz z z z z z us hl=>by obtain⟨_,rfl⟩:=uI hl;rfl)) ye (ak (aj 0) ao)) ao)) (aB (i:=4) nd rfl (Or.inl rfl))
  (aA (Kz (cP eZ (aj 3) (aj 4)) (aj 4) Je (aQ bJ (aj 1) (cR yd (by decide) (aj 0))))))
  (aA (aL (gB yb hr aJ (ak (b8 (T := "tuple") aN yg (ak (qp "row" [] [] (oJ (aj 3)) (b8 (T := "tuple") aN yg (ak (aj 0) ao))) ao)) ao))))))))⟩
noncomputable def sE:=(tV v0 v1 v2).1
abbrev rA:Stmt:=top 30
def G7:Sc ["walk", "steps"] ["walk", "steps"] rA:=bV
@[simp] noncomputable def yo:Qd 6 ["walk", "steps"] "folded" rA fun P w K m o Z=>∀{F0},ClsD P w K m o 5 "Walk" v0->MethD P w K m o 6 "Walk" "power" "Walk.power" fX ["self", "steps"] v1->XTab K m iJ F0->Z:=
 ⟨_,fun ya yb yc hr=>(aq (bO (bx (dN hr.units) (aj 1) au)
  (aA (qR yc (by decide) cB))
  bz)
  (aA (aL (gB ya hr aJ (ak (Ku yb hr aJ (aj 0) (ak (aj 1) ao) (λz z z z z z us hl=>by obtain⟨_,_,rfl⟩:=Bw hl;rfl)) ao)))))⟩
noncomputable def lQ:=(yo v0 v1).1
abbrev rn:Stmt:=top 31
def vN:Sc ["one", "other", "many"] ["one", "other"] rn:=bV
@[simp] noncomputable def ym:Qd 6 ["one", "other", "many"] "beside" rn fun P w K m o Z=>∀{t_MOST_PLACES C_Walk},ClsD P w K m o 5 "Walk" v0->MethD P w K m o 1 "Walk" "__len__" "Walk.__len__" cN ["self"] v1->Gi m "MOST_PLACES" 25 t_MOST_PLACES->OCls K m "Walk" C_Walk ["rows", "whole"]->XIni P w K m o 1 "TooMany" "many" "most"->Nn m "len"->Nn m "tuple"->Z:=
 ⟨_,fun ya yb yc yd ye yf yg hr=>have nd:=vN.nd;(aq (aX (i:=2) nd rfl (Or.inl rfl) (aQ bJ (aU (oG yb hr aJ (fun _ _ _ _ _ _ us hl=>by obtain⟨_,rfl⟩:=uI hl;rfl)) yf (ak (aj 0) ao)) (aU (oG yb hr aJ (fun _ _ _ _ _ _ us hl=>by obtain⟨_,rfl⟩:=uI hl;rfl)) yf (ak (aj 1) ao))))
  (aq (bO (bx Gq (aj 2) (pG yc))
  (aA (Eu ye hr (ak (aj 2) (ak (pG yc) ao))))
  bz)
  (aA (aL (gB ya hr aJ (ak (b8 (T := "tuple") aN yg (ak (wY (own:=["row", "beyond"]) (js:=[1]) (fr:=["other"]) .val rfl (by trivial) (bA (cR yd (by decide) (aj 0))) (λz z z z z z=>(aB (i:=0) (fG ["row", "beyond", "other"]) rfl (Or.inl rfl))) (λz z z z z z=>bC) (λz z z z z z=>(bA (cR yd (by decide) (aj 2)))) (λz z z z z z=>(aB (i:=1) (fG ["row", "beyond", "other"]) rfl (Or.inr rfl))) (λz z z z z z=>bC) (λz z z z z z=>(b8 (T := "tuple") aN yg (ak (wY (own:=["weight", "further"]) (js:=[1]) (fr:=["beyond"]) .val rfl (by trivial) (bA (aj 0)) (λz z z z z z=>(aB (i:=0) (fG ["weight", "further", "beyond"]) rfl (Or.inl rfl))) (λz z z z z z=>bC) (λz z z z z z=>(bA (aj 2))) (λz z z z z z=>(aB (i:=1) (fG ["weight", "further", "beyond"]) rfl (Or.inl rfl))) (λz z z z z z=>bC) (λz z z z z z=>(aQ bJ (aj 0) (aj 1)))) ao)))) ao)) ao))))))⟩
noncomputable def qK:=(ym v0 v1).1
abbrev gG:Stmt:=top 33
def uh:Sc ["_law_script", "_law_k"] ["_law_script", "_law_k"] gG:=bV
@[simp] noncomputable def lG:Qe 0 ["_law_script", "_law_k"] "_law_cell_at" gG fun D n Z=>n "len"->Z:=
 ⟨_,fun ya hr=>(aq (bO (bx tK (aj 1) (aU call_lenD ya (ak (aj 0) ao)))
  (aA (aL (cP eZ (aj 0) (aj 1))))
  bz)
  (aA (aL au)))⟩
noncomputable def gA:=(lG).1
abbrev mH:Stmt:=top 34
def qF:Sc ["_law_cell", "_law_number", "_law_j", "_law_more"] ["_law_cell"] mH:=bV
@[simp] noncomputable def tO:Qe 0 ["_law_cell", "_law_number", "_law_j", "_law_more"] "_law_pot" mH fun D n Z=>n "range"->Z:=
 ⟨_,fun ya hr=>have nd:=qF.nd;(aq (bO (bx oU (aj 0) (aQ zM au au))
  (aA (aL (lz (ak (aQ zN (aj 0) (aQ zM au au)) ao))))
  bz)
  (aq (aX (i:=1) nd rfl (Or.inl rfl) au)
  (aq (bR 0 Vf rfl (bF rfl ya (ak au ao)) (aB (i:=2) nd rfl (Or.inl rfl))
  (aq (aX (i:=3) nd rfl (Or.inl rfl) (aQ dR (aQ bJ (aQ cM (aQ cM (aQ dR (aj 0) au) (aQ bJ au (aj 2))) au) au) au))
  (aq (aX (i:=3) nd rfl (Or.inl rfl) (aQ dR (aQ cM (aQ cM (aQ bJ (aj 3) (aj 3)) (aQ bJ au (aj 2))) au) au))
  (aA (aX (i:=1) nd rfl (Or.inl rfl) (aQ cM (aQ bJ (aj 1) au) (aj 3)))))))
  (aA (aL (lz (ak (aj 1) ao)))))))⟩
noncomputable def lO:=(tO).1
abbrev kZ:Stmt:=top 35
def o8:Sc ["_law_pot_here", "_law_far", "_law_found"] ["_law_pot_here", "_law_far"] kZ:=bV
@[simp] noncomputable def qC:Qe 0 ["_law_pot_here", "_law_far", "_law_found"] "_law_take" kZ fun _ _ Z=>Z:=
 ⟨_,fun  hr=>have nd:=o8.nd;(aq (aX (i:=2) nd rfl (Or.inl rfl) (aQ dR (cP eZ (aj 0) au) (aj 1)))
  (aq (je (aQ jm (cP eZ (aj 0) au) (aj 1)) (wZ (aj 0) au wj))
  (aA (aL (aj 2)))))⟩
noncomputable def qm:=(qC).1
abbrev jB:Stmt:=top 36
def vR:Sc ["_law_thing"] ["_law_thing"] jB:=bV
@[simp] noncomputable def oX:Qe 0 ["_law_thing"] "_law_whole" jB λD n Z=>n "bool"->n "int"->n "isinstance"->Z:=
 ⟨_,λya yb yc hr=>(aA (aL (fM (aU cO yc (ak (aj 0) (ak (jO (T := "int") yb) ao))) (jc (Eo (aU cO yc (ak (aj 0) (ak (jO (T := "bool") ya) ao))))))))⟩
noncomputable def wK:=(oX).1
abbrev iw:Stmt:=top 37
def uT:Sc ["_law_thing", "_law_low", "_law_high"] ["_law_thing", "_law_low", "_law_high"] iw:=bV
@[simp] noncomputable def m9:Qe 1 ["_law_thing", "_law_low", "_law_high"] "_law_within" iw λD n Z=>D 1 "_law_whole" ["_law_thing"] v0->Z:=
 ⟨_,λya hr=>(aA (aL (fM (aD ya hr aJ (ak (aj 0) ao)) (jc (H9 fU fU (aj 1) (aj 0) (aj 2))))))⟩
noncomputable def m5:=(m9 v0).1
abbrev jz:Stmt:=top 38
def nH:Sc ["_law_pot_here", "_law_some", "_law_left"] ["_law_pot_here", "_law_some"] jz:=bV
@[simp] noncomputable def ju:Qe 1 ["_law_pot_here", "_law_some", "_law_left"] "_law_mixed" jz fun D n Z=>D 1 "_law_take" ["_law_pot_here", "_law_far"] v0->n "len"->n "list"->Z:=
 ⟨_,fun ya yb yc hr=>have nd:=nH.nd;(aq (aX (i:=2) nd rfl (Or.inr rfl) (b8 (T := "list") Bf yc (ak (aj 1) ao)))
  (aA (aL (qp "_law_one" [2,0] ["_law_left", "_law_pot_here"] (oJ (aj 1)) (pF Wc PySem.F.slot_list_pop PySem.F.type_list_pop Le (aj 1) (ak (aD ya hr tM (ak (aj 2) (ak (aU call_lenD yb (ak (aj 1) ao)) ao))) ao))))))⟩
noncomputable def oA:=(ju v0).1
abbrev mF:Stmt:=top 39
def qD:Sc ["_law_one", "_law_other"] ["_law_one", "_law_other"] mF:=bV
@[simp] noncomputable def mC:Qe 0 ["_law_one", "_law_other"] "_law_gcd" mF fun D n Z=>n "abs"->Z:=
 ⟨_,fun ya hr=>have nd:=qD.nd;(aq (sU (i:=0) (j:=1) rfl nd rfl rfl (by decide) rfl rfl (ak (aU vp ya (ak (aj 0) ao)) (ak (aU vp ya (ak (aj 1) ao)) ao)) rfl)
  (aq (w5 N Vf (bx (cu hr.units) (aj 1) au) (aA (sU (i:=0) (j:=1) rfl nd rfl rfl (by decide) rfl rfl (ak (aj 1) (ak (aQ dR (aj 0) (aj 1)) ao)) rfl)))
  (aA (aL (aj 0)))))⟩
noncomputable def fJ(N:Nat):aa->DM Fl:=(mC N).1
abbrev mJ:Stmt:=top 40
def qG:Sc ["_law_pot_here", "_law_wide", "_law_whole_here", "_law_some", "_law_found", "_law_left", "_law_order", "_law_place", "_law_part"] ["_law_pot_here", "_law_wide", "_law_whole_here", "_law_some"] mJ:=bV
@[simp] noncomputable def tQ:Qe 2 ["_law_pot_here", "_law_wide", "_law_whole_here", "_law_some", "_law_found", "_law_left", "_law_order", "_law_place", "_law_part"] "_law_row" mJ fun D n Z=>D 2 "_law_mixed" ["_law_pot_here", "_law_some"] v0->D 1 "_law_take" ["_law_pot_here", "_law_far"] v1->n "tuple"->Z:=
 ⟨_,fun ya yb yc hr=>have nd:=qG.nd;(aq (KC (i:=4) (j:=5) (k:=6) rfl nd rfl rfl rfl (by decide) (by decide) (by decide) rfl rfl rfl (ak (aQ Lk (dZ (ak au ao)) (aj 1)) (ak (aj 2) (ak (aD ya hr aJ (ak (aj 0) (ak (aj 3) ao))) ao))) rfl)
  (aq (bR 0 Vf rfl (oJ (Ii (aj 6) (Ky au) Kw)) (aB (i:=7) nd rfl (Or.inl rfl))
  (aq (aX (i:=8) nd rfl (Or.inl rfl) (cP eZ (dZ (ak au (ak (aj 5) (ak (aD yb hr aJ (ak (aj 0) (ak (aQ cM (aj 5) au) ao))) ao)))) (aD yb hr aJ (ak (aj 0) (ak au ao)))))
  (aA (je (gP (ak (aj 8) (ak (aQ zN (aj 5) (aj 8)) ao))) (fO (n:=2) rfl (bw (wZ (aj 4) (aj 7) wj) (bw (aB (i:=5) nd rfl (Or.inl rfl)) dM)))))))
  (aq (je (aj 5) (wZ (aj 4) (cP eZ (aj 6) au) wj))
  (aA (aL (b8 (T := "tuple") aN yc (ak (aj 4) ao)))))))⟩
noncomputable def rZ:=(tQ v0 v1).1
abbrev kW:Stmt:=top 41
def o7:Sc ["_law_pot_here", "_law_top", "_law_wide", "_law_whole_here", "_law_kind", "_law_rows_here", "_law_x", "_law_some"] ["_law_pot_here", "_law_top"] kW:=bV
@[simp] noncomputable def kJ:Qe 3 ["_law_pot_here", "_law_top", "_law_wide", "_law_whole_here", "_law_kind", "_law_rows_here", "_law_x", "_law_some"] "_law_rows" kW fun D n Z=>D 1 "_law_take" ["_law_pot_here", "_law_far"] v0->D 3 "_law_row" ["_law_pot_here", "_law_wide", "_law_whole_here", "_law_some"] v1->n "list"->n "range"->n "set"->n "sorted"->n "tuple"->Z:=
 ⟨_,fun ya yb yc yd ye yf yg hr=>have nd:=o7.nd;(aq (je (gP (ak (aQ cM au (aD ya hr aJ (ak (aj 0) (ak (aj 1) ao)))) (ak (cP eZ (dZ (ak au (ak au (ak au (ak au (ak au ao)))))) (aD ya hr aJ (ak (aj 0) (ak au ao)))) ao))) (fO (n:=2) rfl (bw (aB (i:=2) nd rfl (Or.inr rfl)) (bw (aB (i:=3) nd rfl (Or.inl rfl)) dM))))
  (aq (sU (i:=4) (j:=5) rfl nd rfl rfl (by decide) rfl rfl (ak (aD ya hr aJ (ak (aj 0) (ak au ao))) (ak (lz ao) ao)) rfl)
  (aq (bR 0 Vf rfl (bF rfl yd (ak (aj 2) ao)) (aB (i:=6) nd rfl (Or.inr rfl))
  (aq (aX (i:=7) nd rfl (Or.inl rfl) (El rfl yc yd (ak (aj 2) ao)))
  (aq (bO (bx (dN hr.units) (aj 4) au)
  (aA (qQ (i:=7) (own:=["_law_y"]) (js:=[2,6]) (fr:=["_law_wide", "_law_x"]) .val nd rfl (Or.inl rfl) rfl (by trivial) (oJ (aj 7)) (λz z z z z z=>(aB (i:=0) (fG ["_law_y", "_law_wide", "_law_x"]) rfl (Or.inl rfl))) (λz z z z z z=>(zu (bx (dN hr.units) (gO tK (aj 0) (aQ jm (aj 1) au)) (gO tK (aj 2) (aQ jm (aj 1) au))))) (λz z z z z z=>(aj 0))))
  bz)
  (aq (bO (DW.dt (Nm (bx (dN hr.units) (aj 4) au) (KD (bx Gq (aj 2) au))))
  (aA (qQ (i:=7) (own:=["_law_y"]) (js:=[6]) (fr:=["_law_x"]) .val nd rfl (Or.inl rfl) rfl (by trivial) (oJ (aj 7)) (λz z z z z z=>(aB (i:=0) (fG ["_law_y", "_law_x"]) rfl (Or.inl rfl))) (λz z z z z z=>(zu (bx (cu hr.units) (aQ dR (aj 0) au) (aQ dR (aj 1) au)))) (λz z z z z z=>(aj 0))))
  bz)
  (aq (bO (bx (dN hr.units) (aj 4) au)
  (aA (aX (i:=7) nd rfl (Or.inl rfl) (Kv rfl yf ye (ak (dZ (ak (aj 6) (ak (aQ dR (aQ cM (aj 6) au) (aj 2)) ao))) ao))))
  bz)
  (aA (gC (pF Wc X4 XN uK (aj 5) (ak (aD yb hr aJ (ak (aj 0) (ak (aj 2) (ak (aj 3) (ak (aj 7) ao))))) ao)))))))))
  (aA (aL (b8 (T := "tuple") aN yg (ak (aj 5) ao)))))))⟩
noncomputable def qi:=(kJ v0 v1).1
abbrev kY:Stmt:=top 42
def yF:Sc ["_law_rows_here", "_law_weights"] ["_law_rows_here", "_law_weights"] kY:=bV
@[simp] noncomputable def qz:Qe 0 ["_law_rows_here", "_law_weights"] "_law_step" kY λD n Z=>n "len"->n "range"->n "sum"->n "tuple"->n "zip"->Z:=
 ⟨_,λya yb yc yd ye hr=>(aA (aL (b8 (T := "tuple") aN yd (ak (bL (own:=["_law_y"]) (js:=[1,0]) (fr:=["_law_weights", "_law_rows_here"]) .val rfl (by trivial) (bF rfl yb (ak (aU call_lenD ya (ak (aj 0) ao)) ao)) (λz z z z z z=>(aB (i:=0) (fG ["_law_y", "_law_weights", "_law_rows_here"]) rfl (Or.inr rfl))) (λz z z z z z=>bC) (λz z z z z z=>(aU (fB hr.hd) yc (ak (bL (own:=["_law_weight", "_law_row_here"]) (js:=[0]) (fr:=["_law_y"]) .val rfl (by trivial) (Er rfl ye (ak (aj 1) (ak (aj 2) ao))) (λz z z z z z=>(fO (n:=2) rfl (bw (aB (i:=0) (fG ["_law_weight", "_law_row_here", "_law_y"]) rfl (Or.inl rfl)) (bw (aB (i:=1) (fG ["_law_weight", "_law_row_here", "_law_y"]) rfl (Or.inl rfl)) dM)))) (λz z z z z z=>bC) (λz z z z z z=>(aQ bJ (aj 0) (cP eZ (aj 1) (aj 2))))) ao)))) ao))))⟩
noncomputable def qj:=(qz).1
abbrev jy:Stmt:=top 43
def nF:Sc ["_law_rows_here", "_law_weights", "_law_paces", "_law_turn"] ["_law_rows_here", "_law_weights", "_law_paces"] jy:=bV
@[simp] noncomputable def jr:Qe 1 ["_law_rows_here", "_law_weights", "_law_paces", "_law_turn"] "_law_after" jy fun D n Z=>D 1 "_law_step" ["_law_rows_here", "_law_weights"] v0->n "range"->Z:=
 ⟨_,fun ya yb hr=>have nd:=nF.nd;(aq (bR 0 PassesOwn.leaving rfl (bF rfl yb (ak (aj 2) ao)) (aB (i:=3) nd rfl (Or.inl rfl))
  (aA (aX (i:=1) nd rfl (Or.inl rfl) (aD ya hr aJ (ak (aj 0) (ak (aj 1) ao))))))
  (aA (aL (aj 1))))⟩
noncomputable def ou:=(jr v0).1
abbrev jA:Stmt:=top 44
def nJ:Sc ["_law_rows_here", "_law_paces", "_law_wide"] ["_law_rows_here", "_law_paces"] jA:=bV
@[simp] noncomputable def oW:Qe 2 ["_law_rows_here", "_law_paces", "_law_wide"] "_law_power" jA fun D n Z=>D 2 "_law_after" ["_law_rows_here", "_law_weights", "_law_paces"] v0->n "int"->n "len"->n "range"->n "tuple"->Z:=
 ⟨_,fun ya yb yc yd ye hr=>have nd:=nJ.nd;(aq (aX (i:=2) nd rfl (Or.inr rfl) (aU call_lenD yc (ak (aj 0) ao)))
  (aA (aL (b8 (T := "tuple") aN ye (ak (bL (own:=["_law_x"]) (js:=[0,2,1]) (fr:=["_law_rows_here", "_law_wide", "_law_paces"]) .val rfl (by trivial) (bF rfl yd (ak (aj 2) ao)) (λz z z z z z=>(aB (i:=0) (fG ["_law_x", "_law_rows_here", "_law_wide", "_law_paces"]) rfl (Or.inr rfl))) (λz z z z z z=>bC) (λz z z z z z=>(aD ya hr tM (ak (aj 1) (ak (b8 (T := "tuple") aN ye (ak (qp "_law_y" [0] ["_law_x"] (bF rfl yd (ak (aj 2) ao)) (b8 (T := "int") Be yb (ak (gO (dN hr.units) (aj 1) (aj 0)) ao))) ao)) (ak (aj 3) ao)))))) ao)))))⟩
noncomputable def oE:=(oW v0).1
abbrev fY:Stmt:=top 46
def jC:Sc ["_law_rows_here", "_law_by", "_law_row_here", "_law_weight"] ["_law_rows_here"] fY:=bV
@[simp] noncomputable def jW:Qe 1 ["_law_rows_here", "_law_by", "_law_row_here", "_law_weight"] "_law_plainest" fY fun D n Z=>D 1 "_law_gcd" ["_law_one", "_law_other"] v0->n "tuple"->Z:=
 ⟨_,fun ya yb hr=>have nd:=jC.nd;(aq (aX (i:=1) nd rfl (Or.inr rfl) au)
  (aq (bR 0 Vf rfl (bA (aj 0)) (aB (i:=2) nd rfl (Or.inl rfl))
  (aA (bR 0 Vf rfl (bA (aj 2)) (aB (i:=3) nd rfl (Or.inl rfl))
  (aA (aX (i:=1) nd rfl (Or.inr rfl) (aD ya hr aJ (ak (aj 1) (ak (aj 3) ao))))))))
  (aA (aL (b8 (T := "tuple") aN yb (ak (bL (own:=["_law_row_here"]) (js:=[1]) (fr:=["_law_by"]) .val rfl (by trivial) (bA (aj 0)) (λz z z z z z=>(aB (i:=0) (fG ["_law_row_here", "_law_by"]) rfl (Or.inl rfl))) (λz z z z z z=>bC) (λz z z z z z=>(b8 (T := "tuple") aN yb (ak (qp "_law_weight" [1] ["_law_by"] (bA (aj 0)) (aQ jm (aj 0) (aj 1))) ao)))) ao))))))⟩
noncomputable def jK:=(jW v0).1
abbrev kO:Stmt:=top 47
def o6:Sc ["_law_rows_here", "_law_stay", "_law_go", "_law_found", "_law_x", "_law_row_here"] ["_law_rows_here", "_law_stay", "_law_go"] kO:=bV
@[simp] noncomputable def kI:Qe 0 ["_law_rows_here", "_law_stay", "_law_go", "_law_found", "_law_x", "_law_row_here"] "_law_lazy" kO fun D n Z=>n "enumerate"->n "sum"->n "tuple"->Z:=
 ⟨_,fun ya yb yc hr=>have nd:=o6.nd;(aq (aX (i:=3) nd rfl (Or.inl rfl) (lz ao))
  (aq (bR 0 Vf rfl (zp rfl ya (ak (aj 0) ao)) (fO (n:=2) rfl (bw (aB (i:=4) nd rfl (Or.inr rfl)) (bw (aB (i:=5) nd rfl (Or.inr rfl)) dM)))
  (aA (gC (pF Wc X4 XN uK (aj 3) (ak (b8 (T := "tuple") aN yc (ak (bL (own:=["_law_y", "_law_w"]) (js:=[2,4,1,5]) (fr:=["_law_go", "_law_x", "_law_stay", "_law_row_here"]) .val rfl (by trivial) (zp rfl ya (ak (aj 5) ao)) (λz z z z z z=>(fO (n:=2) rfl (bw (aB (i:=0) (fG ["_law_y", "_law_w", "_law_go", "_law_x", "_law_stay", "_law_row_here"]) rfl (Or.inl rfl)) (bw (aB (i:=1) (fG ["_law_y", "_law_w", "_law_go", "_law_x", "_law_stay", "_law_row_here"]) rfl (Or.inl rfl)) dM)))) (λz z z z z z=>bC) (λz z z z z z=>(aQ cM (aQ bJ (aj 2) (aj 1)) (pH (bx (dN hr.units) (aj 3) (aj 0)) (aQ bJ (aj 4) (aU (fB hr.hd) yb (ak (aj 5) ao))) au)))) ao)) ao)))))
  (aA (aL (b8 (T := "tuple") aN yc (ak (aj 3) ao))))))⟩
noncomputable def qg:=(kI).1
abbrev iu:Stmt:=top 48
def lJ:Sc ["_law_one", "_law_other", "_law_found", "_law_row_here", "_law_more", "_law_line", "_law_weight"] ["_law_one", "_law_other"] iu:=bV
@[simp] noncomputable def ir:Qe 0 ["_law_one", "_law_other", "_law_found", "_law_row_here", "_law_more", "_law_line", "_law_weight"] "_law_beside" iu fun D n Z=>n "tuple"->Z:=
 ⟨_,fun ya hr=>have nd:=lJ.nd;(aq (aX (i:=2) nd rfl (Or.inl rfl) (lz ao))
  (aq (bR 0 Vf rfl (bA (aj 0)) (aB (i:=3) nd rfl (Or.inl rfl))
  (aA (bR 0 Vf rfl (bA (aj 1)) (aB (i:=4) nd rfl (Or.inl rfl))
  (aq (aX (i:=5) nd rfl (Or.inl rfl) (dZ ao))
  (aq (bR 0 Vf rfl (bA (aj 3)) (aB (i:=6) nd rfl (Or.inr rfl))
  (aA (aX (i:=5) nd rfl (Or.inl rfl) (aQ cM (aj 5) (qp "_law_near" [6] ["_law_weight"] (bA (aj 4)) (aQ bJ (aj 1) (aj 0)))))))
  (aA (gC (pF Wc X4 XN uK (aj 2) (ak (b8 (T := "tuple") aN ya (ak (aj 5) ao)) ao)))))))))
  (aA (aL (b8 (T := "tuple") aN ya (ak (aj 2) ao))))))⟩
noncomputable def mZ:=(ir).1
abbrev dF:Stmt:=inClass (top 9) 0
def nU:Sc ["self", "many", "most"] ["self", "many", "most"] dF:=bV
def cD{P:Program}{w:World}{K:PySem.W.Frag}{mg:Str->Option Value}{base:Heap}{C f Fa:Addr}(hm:mg "TooMany"=some (.ref C))(T:MethAt K C "__init__" "TooMany.__init__" dF)(hf:PySem.W.findIn K (.ref C) "__init__"=some (some (.ref f)))(hi:cL K C f=true)(hF:mg "FadeError"=some (.ref Fa))(hr:PySem.W.readsIn K Fa (.type "type")=true)(hc:PySem.W.findCls K (.ref Fa) (.type "type") "__init__"=some (.val (.builtin "ValueError.__init__")))(hsp:PySem.W.specialIn K (.ref Fa) "__getattribute__"=some (some (.builtin "type.__getattribute__")))(X:XfD K mg "TooMany" ["many", "most"]):XIni P w K mg base 1 "TooMany" "many" "most":=by
 obtain⟨C',hm',S⟩:=X.ex;rw[hm]at hm';cases hm';refine Mt (k:=0) hm T hf hi nU (λz z z z z z us hl=>by obtain⟨_,_,_,rfl⟩:=IW hl;rfl) rfl λf cdv A outer s H vs Q E hr' h=>?_
 exact GC hF hr hc hsp hi (S _ (by decide)) (S _ (by decide)) (ak (aj 0) (ak (Ig (.cons cB (.cons (sO (aj 1)) (.cons cB (.cons (sO (aj 2)) (.cons cB Djs.nil)))))) ao)) (L2.pe_var (i:=0) rfl (Or.inl rfl)) (L2.pe_var (i:=1) rfl (Or.inl rfl)) (L2.pe_var (i:=0) rfl (Or.inl rfl)) (L2.pe_var (i:=2) rfl (Or.inl rfl)) (λy a b ha hb=>by
  obtain⟨r,er⟩:=xP (δ:=b7 3 [.exn y,.int a,.int b]) (M:=[]) (fs:=[(λz=>pure (.str "there are ")),(λδ=>aY 1 δ>>=λx=>rd (qW x)),(λz=>pure (.str ", and ")),(λδ=>aY 2 δ>>=λx=>rd (qW x)),(λz=>pure (.str " at most are taken"))]) (by simp only[List.forall_mem_cons,List.not_mem_nil,false_implies,implies_true,and_true];refine⟨⟨_,rfl,by decide⟩,⟨_,Fb 1 (by rfl) ha,UL (vI ha) (by decide)⟩,⟨_,rfl,by decide⟩,⟨_,Fb 2 (by rfl) hb,UL (vI hb) (by decide)⟩,⟨_,rfl,by decide⟩⟩) Str.empty (by decide)
  exact⟨r,[],Ni rfl er⟩) (hs:=h) (hN:=by show 3<=3;decide)
end
def Oe{α β:Type}{c:Prop}[Decidable c]{x y:DM α}{k:α->DM β}:((if c then x else y)>>=k)=if c then x>>=k else y>>=k:=by split<;>rfl
abbrev dG:Stmt:=top 45
def nG:FnScope ["_law_call", "e", "_law_some"] ["_law_call"] (defScope dG):=Cu rfl rfl rfl rfl (by decide +kernel)
@[simp] noncomputable def jt:{b:DM D->aa->DM Fl // ∀{P w K mg base f cdv A outer s H E ρ g th k F0 C_NoNumber C_NoPlace C_NoSteps C_TooMany C_Walk} (XT:XTab K mg iJ F0) (m_NoNumber:Gc mg "NoNumber" C_NoNumber) (m_NoPlace:Gc mg "NoPlace" C_NoPlace) (m_NoSteps:Gc mg "NoSteps" C_NoSteps) (m_TooMany:Gc mg "TooMany" C_TooMany) (O_Walk:OCls K mg "Walk" C_Walk ["rows", "whole"]) (XF_TooMany:XfD K mg "TooMany" ["many", "most"]) (m_FadeError:Gc mg "FadeError" F0) (z_isinstance:Nn mg "isinstance") (hk:0≤k) (ht:ThD P w K mg base k outer s H ρ g th) (hq:Rm k A "_law_heard" dG s f cdv),ASs (aH P w K mg base ["_law_call", "e", "_law_some"] "_law_heard" (defScope dG) f cdv A outer s H E) E (Mu 0 g ρ H) (defBody dG) (b th)}:=
 ⟨_,fun XT m_NoNumber m_NoPlace m_NoSteps m_TooMany O_Walk XF_TooMany m_FadeError z_isinstance hk ht hq=>have hr:=Room.mono hq hk;have nd:=nG.nd;(zj (Ko 3 (fh:=fun c=>(jE (fun δ=>(fun δ=>(fun δ=>(fun δ=>(fun δ=>(aY 1) δ>>=fun x=>(fun δ=>(fun _=>pure (D.cls "NoNumber")) δ>>=fun x=>(fun _=>pure []) δ>>=fun xs=>pure (x::xs)) δ>>=fun xs=>pure (x::xs)) δ>>=fun l=>rd (cY iJ none c l)) δ>>=fun x=>(fun δ=>(fun δ=>(fun δ=>(aY 1) δ>>=fun x=>(fun δ=>(fun _=>pure (D.cls "NoSteps")) δ>>=fun x=>(fun _=>pure []) δ>>=fun xs=>pure (x::xs)) δ>>=fun xs=>pure (x::xs)) δ>>=fun l=>rd (cY iJ none c l)) δ>>=fun x=>(fun δ=>(fun δ=>(fun δ=>(aY 1) δ>>=fun x=>(fun δ=>(fun _=>pure (D.cls "TooMany")) δ>>=fun x=>(fun _=>pure []) δ>>=fun xs=>pure (x::xs)) δ>>=fun xs=>pure (x::xs)) δ>>=fun l=>rd (cY iJ none c l)) δ>>=fun x=>(fun δ=>(fun δ=>(fun δ=>(aY 1) δ>>=fun x=>(fun δ=>(fun _=>pure (D.cls "NoPlace")) δ>>=fun x=>(fun _=>pure []) δ>>=fun xs=>pure (x::xs)) δ>>=fun xs=>pure (x::xs)) δ>>=fun l=>rd (cY iJ none c l)) δ>>=fun x=>(fun _=>pure []) δ>>=fun xs=>pure (x::xs)) δ>>=fun xs=>pure (x::xs)) δ>>=fun xs=>pure (x::xs)) δ>>=fun xs=>pure (x::xs)) δ>>=jl) δ>>=fun d=>pure (Fl.nx (δ.set 2 (some d))))
  (jE (λδ=>(λδ=>(λδ=>(λδ=>(aY 2) δ>>=λx=>rd (λM=>aR x M)>>=λz=>(λδ=>(λz=>pure (D.bl true)) δ>>=λx=>(λz=>pure []) δ>>=λxs=>pure (x::xs)) δ>>=λxs=>wW x xs) δ>>=λx=>(λz=>pure (D.int 1)) δ>>=λy=>rd (iH x y)) δ>>=fu) δ>>=λk=>if k then (λδ=>(λz=>pure (D.str "other")) δ>>=λd=>pure (Fl.rt d)) δ else (λδ=>pure (Fl.nx δ)) δ)
  (λδ=>(λδ=>(λδ=>(λδ=>(λδ=>(aY 1) δ>>=λx=>(λδ=>(λz=>pure (D.cls "TooMany")) δ>>=λx=>(λz=>pure []) δ>>=λxs=>pure (x::xs)) δ>>=λxs=>pure (x::xs)) δ>>=λl=>rd (cY iJ none c l)) δ>>=λx=>rd (mV x)) δ>>=λk=>if k then (λδ=>(λδ=>(λz=>pure (D.str "many")) δ>>=λx=>(λδ=>(λδ=>(aY 1) δ>>=λx=>rd (nR "TooMany" "many" none c x)) δ>>=λx=>(λδ=>(λδ=>(aY 1) δ>>=λx=>rd (nR "TooMany" "most" none c x)) δ>>=λx=>(λz=>pure []) δ>>=λxs=>pure (x::xs)) δ>>=λxs=>pure (x::xs)) δ>>=λxs=>pure (x::xs)) δ>>=qu) δ else (λδ=>(λδ=>(λδ=>(λz=>pure (D.str "number")) δ>>=λx=>(λδ=>(λz=>pure (D.str "steps")) δ>>=λx=>(λz=>pure []) δ>>=λxs=>pure (x::xs)) δ>>=λxs=>pure (x::xs)) δ>>=jl) δ>>=λx=>(λδ=>(aY 2) δ>>=λx=>rd (λM=>aR x M)>>=λz=>(λδ=>(λz=>pure (D.bl true)) δ>>=λx=>(λz=>pure []) δ>>=λxs=>pure (x::xs)) δ>>=λxs=>xN x xs) δ>>=λy=>rd (gk x y)) δ) δ>>=λd=>pure (Fl.rt d))))) (fy:=λy od c=>(jE (λδ=>(λδ=>(λδ=>(λδ=>(λδ=>(aY 1) δ>>=λx=>(λδ=>(λz=>pure (D.cls "NoNumber")) δ>>=λx=>(λz=>pure []) δ>>=λxs=>pure (x::xs)) δ>>=λxs=>pure (x::xs)) δ>>=λl=>rd (cY iJ (some y) c l)) δ>>=λx=>(λδ=>(λδ=>(λδ=>(aY 1) δ>>=λx=>(λδ=>(λz=>pure (D.cls "NoSteps")) δ>>=λx=>(λz=>pure []) δ>>=λxs=>pure (x::xs)) δ>>=λxs=>pure (x::xs)) δ>>=λl=>rd (cY iJ (some y) c l)) δ>>=λx=>(λδ=>(λδ=>(λδ=>(aY 1) δ>>=λx=>(λδ=>(λz=>pure (D.cls "TooMany")) δ>>=λx=>(λz=>pure []) δ>>=λxs=>pure (x::xs)) δ>>=λxs=>pure (x::xs)) δ>>=λl=>rd (cY iJ (some y) c l)) δ>>=λx=>(λδ=>(λδ=>(λδ=>(aY 1) δ>>=λx=>(λδ=>(λz=>pure (D.cls "NoPlace")) δ>>=λx=>(λz=>pure []) δ>>=λxs=>pure (x::xs)) δ>>=λxs=>pure (x::xs)) δ>>=λl=>rd (cY iJ (some y) c l)) δ>>=λx=>(λz=>pure []) δ>>=λxs=>pure (x::xs)) δ>>=λxs=>pure (x::xs)) δ>>=λxs=>pure (x::xs)) δ>>=λxs=>pure (x::xs)) δ>>=jl) δ>>=λd=>pure (Fl.nx (δ.set 2 (some d))))
  (jE (λδ=>(λδ=>(λδ=>(λδ=>(aY 2) δ>>=λx=>rd (λM=>aR x M)>>=λz=>(λδ=>(λz=>pure (D.bl true)) δ>>=λx=>(λz=>pure []) δ>>=λxs=>pure (x::xs)) δ>>=λxs=>wW x xs) δ>>=λx=>(λz=>pure (D.int 1)) δ>>=λy=>rd (iH x y)) δ>>=fu) δ>>=λk=>if k then (λδ=>(λz=>pure (D.str "other")) δ>>=λd=>pure (Fl.rt d)) δ else (λδ=>pure (Fl.nx δ)) δ)
  (λδ=>(λδ=>(λδ=>(λδ=>(λδ=>(aY 1) δ>>=λx=>(λδ=>(λz=>pure (D.cls "TooMany")) δ>>=λx=>(λz=>pure []) δ>>=λxs=>pure (x::xs)) δ>>=λxs=>pure (x::xs)) δ>>=λl=>rd (cY iJ (some y) c l)) δ>>=λx=>rd (mV x)) δ>>=λk=>if k then (λδ=>(λδ=>(λz=>pure (D.str "many")) δ>>=λx=>(λδ=>(λδ=>(aY 1) δ>>=λx=>rd (nR "TooMany" "many" (some (y,od)) c x)) δ>>=λx=>(λδ=>(λδ=>(aY 1) δ>>=λx=>rd (nR "TooMany" "most" (some (y,od)) c x)) δ>>=λx=>(λz=>pure []) δ>>=λxs=>pure (x::xs)) δ>>=λxs=>pure (x::xs)) δ>>=λxs=>pure (x::xs)) δ>>=qu) δ else (λδ=>(λδ=>(λδ=>(λz=>pure (D.str "number")) δ>>=λx=>(λδ=>(λz=>pure (D.str "steps")) δ>>=λx=>(λz=>pure []) δ>>=λxs=>pure (x::xs)) δ>>=λxs=>pure (x::xs)) δ>>=jl) δ>>=λx=>(λδ=>(aY 2) δ>>=λx=>rd (λM=>aR x M)>>=λz=>(λδ=>(λz=>pure (D.bl true)) δ>>=λx=>(λz=>pure []) δ>>=λxs=>pure (x::xs)) δ>>=λxs=>xN x xs) δ>>=λy=>rd (gk x y)) δ) δ>>=λd=>pure (Fl.rt d))))) (i:=1) XT rfl rfl rfl rfl rfl nd rfl rfl m_FadeError (λpins_ Eh_=>(zj (MN (Mz O_Walk (by decide) (HB hq (QV rfl rfl rfl) ht)))))
  (λc C y oe hc_ hm_ ho_ xa_ hf_=>(aq (aX (i:=2) nd rfl (Or.inl rfl) (dZ (ak (aU (gJ XT hc_ hm_ ho_ xa_ (UJ _ UW)) z_isinstance (ak (aj 1) (ak (oH m_NoNumber) ao))) (ak (aU (gJ XT hc_ hm_ ho_ xa_ (UJ _ UW)) z_isinstance (ak (aj 1) (ak (oH m_NoSteps) ao))) (ak (aU (gJ XT hc_ hm_ ho_ xa_ (UJ _ UW)) z_isinstance (ak (aj 1) (ak (oH m_TooMany) ao))) (ak (aU (gJ XT hc_ hm_ ho_ xa_ (UJ _ UW)) z_isinstance (ak (aj 1) (ak (oH m_NoPlace) ao))) ao))))))
  (aq (bO (bx (cu hr.units) (pF Wc PySem.F.slot_list_count PySem.F.type_list_count Gj (aj 2) (ak dJ ao)) au)
  (aA (aL cB))
  bz)
  (aA (aL (pH (bM (aU (gJ XT hc_ hm_ ho_ xa_ (UJ _ UW)) z_isinstance (ak (aj 1) (ak (oH m_TooMany) ao))) (λz=>rfl)) (gP (ak cB (ak (JM XF_TooMany (by decide) hm_ ho_ xa_ hf_ (UJ _ UW) (aj 1)) (ak (JM XF_TooMany (by decide) hm_ ho_ xa_ hf_ (UJ _ UW) (aj 1)) ao)))) (cP eZ (dZ (ak cB (ak cB ao))) (pF Wc PySem.F.slot_list_index PySem.F.type_list_index Gk (aj 2) (ak dJ ao))))))))) (λy c M r h=>by rw[<-h];simp[jE,aY,Pa,Fw,Fx,Fy,FJ,Kd,Ke,Kf,Kg,JL,Bb,Oe]) (λy d c fs M r h=>by rw[<-h];simp[jE,aY,Pa,Fw,Fx,Fy,FJ,Kd,Ke,Kf,Kg,JL,Bb,Oe])))⟩
noncomputable def fK:DM D->aa->DM Fl:=(jt).1
abbrev vZ:Stmt:=top 49
def G9:FnScope ["_law_script", "_law_k", "_law_pot_here", "_law_turn", "_law_rows_here", "_law_more", "_law_by", "_law_great", "_law_walk", "_law_far", "_law_stay", "_law_go", "_law_some", "_law_good", "_law_due", "_law_wide"] ["_law_script"] (defScope vZ):=Cu rfl rfl rfl rfl (by decide +kernel)
local macro_rules | `(tactic| trivial)=>`(tactic| (repeat' apply And.intro)<;>first | exact True.intro | rfl | exact⟨_,rfl⟩ | exact Or.inl rfl)
@[simp] noncomputable def Cd(F__law_cell_at F__law_pot F__law_take F__law_rows F_plainest F__law_plainest F__law_whole F__law_lazy F_lazy F__law_within F__law_power F_folded F__law_beside F_beside F_Walk:Fn)(F__law_heard:DM D->DM D):{b // ∀{P w K mg base f cdv A outer s H E c_ P_ C_Walk} (D__law_cell_at:DefD P w K mg base 1 "_law_cell_at" ["_law_script", "_law_k"] F__law_cell_at) (D__law_pot:DefD P w K mg base 1 "_law_pot" ["_law_cell"] F__law_pot) (D__law_take:DefD P w K mg base 1 "_law_take" ["_law_pot_here", "_law_far"] F__law_take) (D__law_rows:DefD P w K mg base 4 "_law_rows" ["_law_pot_here", "_law_top"] F__law_rows) (D_plainest:DefD P w K mg base 7 "plainest" ["walk"] F_plainest) (D__law_plainest:DefD P w K mg base 2 "_law_plainest" ["_law_rows_here"] F__law_plainest) (D__law_whole:DefD P w K mg base 1 "_law_whole" ["_law_thing"] F__law_whole) (D__law_lazy:DefD P w K mg base 1 "_law_lazy" ["_law_rows_here", "_law_stay", "_law_go"] F__law_lazy) (D_lazy:DefD P w K mg base 7 "lazy" ["walk", "stay", "go"] F_lazy) (D__law_within:DefD P w K mg base 2 "_law_within" ["_law_thing", "_law_low", "_law_high"] F__law_within) (D__law_power:DefD P w K mg base 3 "_law_power" ["_law_rows_here", "_law_paces"] F__law_power) (D_folded:DefD P w K mg base 7 "folded" ["walk", "steps"] F_folded) (D__law_beside:DefD P w K mg base 1 "_law_beside" ["_law_one", "_law_other"] F__law_beside) (D_beside:DefD P w K mg base 7 "beside" ["one", "other"] F_beside) (W_Walk:ClsD P w K mg base 5 "Walk" F_Walk) (G_lazy:DefF P w K mg base 7 "lazy" ["walk", "stay", "go"] [D.int 1,D.int 1] F_lazy) (O_Walk:OCls K mg "Walk" C_Walk ["rows", "whole"]) (z_len:Nn mg "len") (z_max:Nn mg "max") (z_min:Nn mg "min") (z_range:Nn mg "range") (z_repr:Nn mg "repr") (z_tuple:Nn mg "tuple") (H__law_heard:HrdD P w K mg base (7+1) "_law_heard" F__law_heard) (TB:TabD mg base c_ P_) (hC:cdv=.ref c_) (hP:∃ps,H P_=some (.tbl ps)) (hr:Rm 9 A "law" vZ s f cdv),Ds P w K mg base ["_law_script", "_law_k", "_law_pot_here", "_law_turn", "_law_rows_here", "_law_more", "_law_by", "_law_great", "_law_walk", "_law_far", "_law_stay", "_law_go", "_law_some", "_law_good", "_law_due", "_law_wide"] "law" vZ f cdv A outer s H E b}:=
 ⟨_,fun D__law_cell_at D__law_pot D__law_take D__law_rows D_plainest D__law_plainest D__law_whole D__law_lazy D_lazy D__law_within D__law_power D_folded D__law_beside D_beside W_Walk G_lazy O_Walk z_len z_max z_min z_range z_repr z_tuple H__law_heard TB hC hP hr=>have nd:=G9.nd;(aq (bR 0 PassesOwn.leaving rfl (bF rfl z_range (ak (aU (Bg rfl) z_max (ak au (ak (aU (Bh rfl) z_min (ak (aU call_lenD z_len (ak (aj 0) ao)) (ak au ao))) ao))) ao)) (aB (i:=1) nd rfl (Or.inl rfl))
  (aq (aX (i:=2) nd rfl (Or.inl rfl) (aD D__law_pot hr aJ (ak (aD D__law_cell_at hr aJ (ak (aj 0) (ak (aj 1) ao))) ao)))
  (aA (bR 0 Vf rfl (bF rfl z_range (ak au ao)) (aB (i:=3) nd rfl (Or.inl rfl))
  (aq (je (gP (ak (aD D__law_rows hr aJ (ak (aj 2) (ak au ao))) (ak (aD D__law_rows hr aJ (ak (aj 2) (ak au ao))) (ak (aQ cM au (aD D__law_take hr aJ (ak (aj 2) (ak au ao)))) ao)))) (fO (n:=3) rfl (bw (aB (i:=4) nd rfl (Or.inl rfl)) (bw (aB (i:=5) nd rfl (Or.inr rfl)) (bw (aB (i:=6) nd rfl (Or.inr rfl)) dM)))))
  (aq (aX (i:=7) nd rfl (Or.inl rfl) (b8 (T := "tuple") aN z_tuple (ak (bL (own:=["_law_row_here"]) (js:=[6]) (fr:=["_law_by"]) .val rfl (by refine⟨rfl,by decide +kernel,rfl,jF ?_,λm_=>jh rfl,by decide,rfl,uM rfl,uO ?_,jg ?_⟩<;>((repeat' apply And.intro)<;>first | exact True.intro | rfl | exact Or.inl rfl | exact Or.inr rfl | exact⟨_,rfl⟩)) (bA (aj 4)) (λpins_ m_ fp_ C_ s_ H_=>(aB (i:=0) (show List.Nodup ((["_law_row_here"]:List Str)++(["_law_by"]:List Str)) by decide) rfl (Or.inl rfl))) (λpins_ m_ fp_ C_ s_ H_=>bC) (λpins_ m_ fp_ C_ s_ H_=>(b8 (T := "tuple") aN z_tuple (ak (bL (own:=["_law_weight"]) (js:=[1]) (fr:=["_law_by"]) .val rfl (by refine⟨rfl,by decide +kernel,rfl,jF ?_,λm_=>jh rfl,by decide,rfl,uM rfl,uO ?_,jg ?_⟩<;>((repeat' apply And.intro)<;>first | exact True.intro | rfl | exact Or.inl rfl | exact Or.inr rfl | exact⟨_,rfl⟩)) (bA (aj 0)) (λpins_ m_ fp_ C_ s_ H_=>(aB (i:=0) (show List.Nodup ((["_law_weight"]:List Str)++(["_law_by"]:List Str)) by decide) rfl (Or.inl rfl))) (λpins_ m_ fp_ C_ s_ H_=>bC) (λpins_ m_ fp_ C_ s_ H_=>(aQ bJ (aj 0) (aj 1)))) ao)))) ao)))
  (aq (je (gP (ak (gB W_Walk hr aJ (ak (aj 4) ao)) (ak (cP eZ (dZ (ak au (ak au (ak au (ak (aD D__law_take hr aJ (ak (aj 2) (ak au ao))) (ak au (ak En (ak dJ ao)))))))) (aD D__law_take hr aJ (ak (aj 2) (ak au ao)))) ao))) (fO (n:=2) rfl (bw (aB (i:=8) nd rfl (Or.inr rfl)) (bw (aB (i:=9) nd rfl (Or.inr rfl)) dM))))
  (aq (je (gP (ak (cP eZ (dZ (ak au (ak au (ak (aD D__law_take hr aJ (ak (aj 2) (ak au ao))) (ak (Em au) (ak En ao)))))) (aD D__law_take hr aJ (ak (aj 2) (ak au ao)))) (ak (cP eZ (dZ (ak au (ak au (ak au (ak dJ (ak (Em au) ao)))))) (aD D__law_take hr aJ (ak (aj 2) (ak au ao)))) ao))) (fO (n:=2) rfl (bw (aB (i:=10) nd rfl (Or.inr rfl)) (bw (aB (i:=11) nd rfl (Or.inr rfl)) dM))))
  (aq (bR 0 Vf rfl (bA (gP (ak (aj 4) (ak (aj 7) ao)))) (aB (i:=12) nd rfl (Or.inr rfl))
  (aA (bO (bx (cu hr.units) (aU (cA hr.gd hr.units) z_repr (ak (sS [12] ["_law_some"] H__law_heard hr aJ TB hC hP (λhr=>(aD D_plainest hr pQ (ak (gB W_Walk hr pQ (ak (aj 0) ao)) ao))) ⟨⟨rfl,rfl,rfl,by decide +kernel,by decide,jh rfl,by decide +kernel⟩,rfl,jF (by trivial),rfl,jg (by trivial)⟩) ao)) (aU (cA hr.gd hr.units) z_repr (ak (aD D__law_plainest hr aJ (ak (aj 12) ao)) ao)))
  (aA (aL dJ))
  bz)))
  (aq (aX (i:=13) nd rfl (Or.inl rfl) (fM (aD D__law_whole hr aJ (ak (aj 10) ao)) (fM (gO oU (aj 10) au) (fM (aD D__law_whole hr aJ (ak (aj 11) ao)) (jc (gO oU (aj 11) au))))))
  (aq (aX (i:=14) nd rfl (Or.inl rfl) (pH (bM (aj 13) (λz=>rfl)) (aD D__law_lazy hr aJ (ak (aj 4) (ak (aj 10) (ak (aj 11) ao)))) cB))
  (aq (bO (DW.dt (iM (bx (cu hr.units) (aU (cA hr.gd hr.units) z_repr (ak (sS [8,10,11] ["_law_walk", "_law_stay", "_law_go"] H__law_heard hr aJ TB hC hP (λhr=>(aD D_lazy hr pQ (ak (aj 0) (ak (aj 1) (ak (aj 2) ao))))) ⟨⟨rfl,rfl,rfl,by decide +kernel,by decide,jh rfl,by decide +kernel⟩,rfl,jF (by trivial),rfl,jg (by trivial)⟩) ao)) (aU (cA hr.gd hr.units) z_repr (ak (aj 14) ao))) (gQ (bx (cu hr.units) (cR O_Walk (by decide) (H8 G_lazy hr aJ (ak (aj 8) ao))) (aD D__law_lazy hr aJ (ak (aj 4) (ak au (ak au ao))))))))
  (aA (aL dJ))
  bz)
  (aq (aX (i:=14) nd rfl (Or.inl rfl) (pH (bM (aD D__law_within hr aJ (ak (aj 9) (ak au (ak au ao)))) (λz=>rfl)) (aD D__law_power hr aJ (ak (aj 4) (ak (aj 9) ao))) cB))
  (aq (bO (bx (cu hr.units) (aU (cA hr.gd hr.units) z_repr (ak (sS [8,9] ["_law_walk", "_law_far"] H__law_heard hr aJ TB hC hP (λhr=>(aD D_folded hr pQ (ak (aj 0) (ak (aj 1) ao)))) ⟨⟨rfl,rfl,rfl,by decide +kernel,by decide,jh rfl,by decide +kernel⟩,rfl,jF (by trivial),rfl,jg (by trivial)⟩) ao)) (aU (cA hr.gd hr.units) z_repr (ak (aj 14) ao)))
  (aA (aL dJ))
  bz)
  (aq (aX (i:=15) nd rfl (Or.inl rfl) (aQ bJ (aU call_lenD z_len (ak (aj 4) ao)) (aU call_lenD z_len (ak (aj 5) ao))))
  (aq (aX (i:=14) nd rfl (Or.inl rfl) (pH (bx fU (aj 15) au) (aD D__law_beside hr aJ (ak (aj 4) (ak (aj 5) ao))) (gP (ak cB (ak (aj 15) (ak au ao))))))
  (aA (bO (DW.dt (iM (bx (cu hr.units) (aU (cA hr.gd hr.units) z_repr (ak (sS [8,5] ["_law_walk", "_law_more"] H__law_heard hr aJ TB hC hP (λhr=>(aD D_beside hr pQ (ak (aj 0) (ak (gB W_Walk hr pQ (ak (aj 1) ao)) ao)))) ⟨⟨rfl,rfl,rfl,by decide +kernel,by decide,jh rfl,by decide +kernel⟩,rfl,jF (by trivial),rfl,jg (by trivial)⟩) ao)) (aU (cA hr.gd hr.units) z_repr (ak (aj 14) ao))) (gQ (bx (cu hr.units) (cR O_Walk (by decide) (aj 8)) (aj 4)))))
  (aA (aL dJ))
  bz))))))))))))))))))
  (aA (aL dJ)))⟩
noncomputable def JK(F__law_cell_at F__law_pot F__law_take F__law_rows F_plainest F__law_plainest F__law_whole F__law_lazy F_lazy F__law_within F__law_power F_folded F__law_beside F_beside F_Walk:Fn)(F__law_heard:DM D->DM D):aa->DM Fl:=(Cd F__law_cell_at F__law_pot F__law_take F__law_rows F_plainest F__law_plainest F__law_whole F__law_lazy F_lazy F__law_within F__law_power F_folded F__law_beside F_beside F_Walk F__law_heard).1
end K
set_option exponentiation.threshold 20000
namespace K
open PySem L2 L3 N10
noncomputable def rP:List D->DM D
 |[.int a,.int b]=>if 0<=a/\0<=b then pure (nD (Nat.gcd a.toNat b.toNat)) else stuck
 |_=>stuck
def NP(a b:Nat):rP [nD a,nD b]=pure (nD (Nat.gcd a b)):=by simp[rP,nD]
def zz{c:aa->DM Bool}{f:aa->DM Fl}(h1:∀ a b:Nat,c [some (nD a),some (nD b)]=pure (b != 0))(h2:∀ a b:Nat,0<b->f [some (nD a),some (nD b)]=pure (.nx [some (nD b),some (nD (a % b))])):
  ∀b a:Nat,∃n,gZ c f n [some (nD a),some (nD b)]=pure (.nx [some (nD (Nat.gcd a b)),some (nD 0)]):=by
 intro b;induction b using Nat.strongRecOn with
 | ind b ih=>
   intro a;rcases WF b with rfl | hb
   ·exact⟨1,by simp[gZ,h1]⟩
   ·obtain⟨n,hn⟩:=ih (a%b) (YQ _ hb) b;refine⟨n+1,?_⟩;have hb':(b != 0)=true:=by simp;lia
    simp only[gZ,h1,aF,hb',if_true,h2 a b hb,hn];rw[Nat.gcd_comm a b,Nat.gcd_rec b a,Nat.gcd_comm]
set_option tactic.hygienic true in
def QL:∀ ds M r,rP ds M=some r->∃ n,aG 2 2 (cz n) ds M=some r:=by
 intro ds M r h;unfold rP at h;split at h
 ·rename_i a b;split at h
  ·rename_i hab;obtain⟨x,rfl⟩:∃x:Nat,a=x:=⟨a.toNat,by lia⟩
   obtain⟨y,rfl⟩:∃y:Nat,b=y:=⟨b.toNat,by lia⟩
   have h1:∀a b:Nat,(λδ=>(aY 1) δ>>=λx=>rd (mV x)) [some (nD a),some (nD b)]=(pure (b != 0):DM Bool):=λa b=>by
    simp;refine cH λM=>?_
    show some ((b:Int) != 0)=_;congr 1;rw[Va];simp
   have h2:∀a b:Nat,0<b->(q8 0 1 (λδ=>(aY 1) δ>>=λx=>(λδ=>(λδ=>(aY 0) δ>>=λx=>(aY 1) δ>>=λy=>rd (gF x y)) δ>>=λx=>(λz=>pure []) δ>>=λxs=>pure (x::xs)) δ>>=λxs=>pure (x::xs))) [some (nD a),some (nD b)]=pure (.nx [some (nD b),some (nD (a%b))]):=λa b hb=>by
    have:=yx (a:=a) hb;simp[nD]at this ⊢
    simp[this]
   obtain⟨n,hn⟩:=zz (c:=(λδ=>(aY 1) δ>>=λx=>rd (mV x))) (f:=(q8 0 1 (λδ=>(aY 1) δ>>=λx=>(λδ=>(λδ=>(aY 0) δ>>=λx=>(aY 1) δ>>=λy=>rd (gF x y)) δ>>=λx=>(λz=>pure []) δ>>=λxs=>pure (x::xs)) δ>>=λxs=>pure (x::xs)))) h1 h2 y x
   refine⟨n,?_⟩;rw[<-h];have:aG 2 2 (cz n) [.int x,.int y]=pure (nD (Nat.gcd x y)):=by unfold cz dq;have e:b7 2 [D.int x,D.int y]=[some (nD x),some (nD y)]:=rfl;simp only[GF,e,Ce,hn];simp
   rw[this];simp
  ·cases h
 ·cases h
def bZ:(∀(α:Type) (a:α) (l:List α),(a::l)[0]?=some a)/\(∀(α:Type) (a:α) (l:List α) (i:Nat),(a::l)[i+1]?=l[i]?)/\(∀(α:Type) (x:Option α),(some x).join=x)/\(∀(α:Type) (a:α),(opt (some a):DM α)=pure a)/\∀(α β:Type) (a:α) (f:α->DM β),((pure a:DM α)>>=f)=f a:=⟨λz z z=>rfl,λz z z z=>rfl,λz z=>rfl,λz z=>yC _,λz z z z=>aF _ _⟩
def cZ:(∀(α:Type) (a b:α) (l:List α) (i:Nat),(a::l).set (i+1) b=a::l.set i b)/\∀(α:Type) (a b:α) (l:List α),(a::l).set 0 b=b::l:=⟨λz z z z z=>rfl,λz z z z=>rfl⟩
noncomputable def rQ:=aG 1 1 sy
noncomputable def vf:=aG 2 2 (m6 rQ)
noncomputable def Dd:=aG 1 1 (wL vf)
noncomputable def Di:=aG 1 1 (jM Dd)
def xO(n:Nat):rQ [nD n]=pure (.bl true):=by
 have a:(rd (kh [nD n,.ty "int"]):DM D)=pure (.bl true):=tY (t := "int") (λz=>rfl) (by decide)
 have b:(rd (kh [nD n,.ty "bool"]):DM D)=pure (.bl false):=tY (t := "int") (λz=>rfl) (by decide)
 simp[rQ,sy,a,b]
def Dt{l:List Nat}(hl:l.length<=1000):vf [nT l,.int (l.length:Int)]=pure (.bl true):=by
 have a:(rd (kh [nT l,.ty "tuple"]):DM D)=pure (.bl true):=tY (t := "tuple") (λz=>rfl) (by decide)
 have ln:(rd (kj [nT l]):DM D)=pure (.int (l.length:Int)):=by simp[nT]
 simp[vf,m6,a,ln,aP,aV];show (bU (aZ _ _ _ (l.map nD) _ _)>>=_)=_;rw[QF (λz=>true) (λz=>.bl true) (by simpa using UL hl (by decide)) (λz z=>rfl) (λd hd z=>?_) (k':=λl=>rd (uv [.lst l])) (λz=>rfl)]
 ·have:((l.map nD).filter (λz=>true)).map (λz=>D.bl true)=(l.map λz=>true).map D.bl:=by rw[XC.mpr (λz z=>rfl),VJ,VJ];rfl
  have q:(l.map λz=>true).all id=true:=by rw[Xj];intro x hx;obtain⟨_,_,rfl⟩:=Vk.mp hx;rfl
  rw[this,GD,q]
 ·obtain⟨n,_,rfl⟩:=Vk.mp hd;have:=xO n;unfold nD at this ⊢
  simp[this]
noncomputable def JH(l:List Nat):Prop:=1<=l.length/\l.length<=25/\0<l.sum
def NZ{l:List Nat}(h1:1<=l.length)(h2:l.length<=25):Dd [nT l]=pure (.bl (decide (0<l.sum))):=by
 have a:(rd (kh [nT l,.ty "tuple"]):DM D)=pure (.bl true):=tY (t := "tuple") (λz=>rfl) (by decide)
 have ln:(rd (kj [nT l]):DM D)=pure (.int (l.length:Int)):=by simp[nT]
 have e1:decide ((1:Int)<=(l.length:Int))=true:=U8 (by lia)
 have e2:decide ((l.length:Int)<=25)=true:=U8 (by lia)
 simp[Dd,wL,a,ln,e1,e2,Dt (l:=l) (by lia),zg]
def G6{l:List Nat}(h:JH l):Di [nT l]=pure .non:=by simp[Di,jM,NZ h.1 h.2.1,h.2.2]
theorem Ag:∀ {l:List Nat}{n:Nat},n∈l->n<=l.sum
 |a::l,n,h=>by
   rw[W5];rcases Uw.mp h with rfl | h
   ·lia
   ·have:=Ag h;lia
def PJ(a:Nat):(rd (ut [nD a]):DM D)=pure (nD a):=by unfold nD;rw[Q5,Ux (by lia)]
noncomputable def n8:=aG 2 3 qm
noncomputable def zc:=aG 1 4 lO
noncomputable def zb:=aG 2 2 gA
def cW{p:Nat}{M:Mo}{far:Int}(h:dY p M)(h0:0<far)(h1:far<2^64):Rn (n8 [.ref p,.int far]) M λd M'=>∃t:Nat,(t:Int)<far/\d=nD t/\dY p M'/\Sb p M M':=by
 obtain⟨v,e⟩:=h;have hp:=(Uj.mp e).1;have ix:gk (.ref p) (.int 0) M=some (nD v):=Og (i:=0) e rfl;have m1:(rd (gF (nD v) (.int far)):DM D)=pure (.int ((v:Int)%far)):=ud h0;have m2:(rd (lV (nD v) (.int far)):DM D)=pure (.int ((v:Int) / far)):=GJ (zq h0 (Um (by lia:far.natAbs<2^64) (by decide +kernel)))
 have st:yG (.ref p) (.int 0) (.int ((v:Int) / far)) M=some (.ok (),M.set p (.lst ([nD v].set 0 (.int ((v:Int) / far))))):=pU (i:=0) e (by simp)
 simp[n8,qm];refine Rn.bindRd _ ix ?_;rw[m1,aF];refine Rn.bindRd _ ix ?_;rw[m2,aF];refine Rn.run st ?_;have a1:=Yr (v:Int) (Int.ne_of_gt h0);have a2:=Int.emod_lt_of_pos (v:Int) h0;have a3:=Int.ediv_nonneg (a:=(v:Int)) (b:=far) (by lia) (by lia)
 refine Rn.pure ⟨((v:Int)%far).toNat,by lia,by unfold nD;rw[Int.toNat_of_nonneg a1],⟨((v:Int) / far).toNat,?_⟩,Sb.set⟩
 rw[U3 hp];unfold nD;simp
 lia
def Nb(cs:List Int)(k:Nat):∃ c:Int,zb [.scr cs,nD k]=pure (.int c):=by
 by_cases h:k<cs.length
 ·have e:decide ((k:Int)<(cs.length:Int))=true:=U8 (by lia)
  have ix:(rd (gk (.scr cs) (.int (k:Int))):DM D)=pure (.int cs[k]):=cH λM=>by show (atI cs (k:Int)).map _=_;rw[oh (Uq h)];rfl
  refine⟨cs[k],?_⟩;simp[zb,gA,nD,e,ix,h]
 ·have e:decide ((k:Int)<(cs.length:Int))=false:=Vm (by lia)
  refine⟨0,?_⟩;simp[zb,gA,nD,e,h]
theorem zR{c:D}{f:aa->DM Fl}(h:∀ (n j:Nat) (z:Option D),j<64->∃ n' m':Nat,f [some c,some (nD n),some (nD j),z]=pure (.nx [some c,some (nD n'),some (nD j),some (nD m')])):∀ (l:List Nat),(∀ j∈l,j<64)->∀ (n:Nat) y z,∃ (n':Nat) (y' z':Option D),forL (gN 2) f (l.map nD) [some c,some (nD n),y,z]=pure (.nx [some c,some (nD n'),y',z'])
 |[],_,n,y,z=>⟨n,y,z,rfl⟩
 |j::l,hl,n,y,z=>by
   obtain⟨n1,m1,e1⟩:=h n j z (hl j (by simp))
   obtain⟨n',y',z',e2⟩:=zR h l (λk hk=>hl k (by simp[hk])) n1 (some (nD j)) (some (nD m1))
   refine⟨n',y',z',?_⟩;simp[forL,e1,e2]
def Ju{c:D}{f:aa->DM Fl}{k:Fl->DM D}{l:List Nat}(hl:∀j∈l,j<64)(n:Nat)(y z:Option D)(h:∀(n j:Nat) (z:Option D),j<64->∃n' m':Nat,f [some c,some (nD n),some (nD j),z]=pure (.nx [some c,some (nD n'),some (nD j),some (nD m')]))(hk:∀(n':Nat) y' z',∃v:Nat,k (.nx [some c,some (nD n'),y',z'])=cU [nD v]):∃v:Nat,(forL (gN 2) f (l.map nD) [some c,some (nD n),y,z]>>=k)=cU [nD v]:=by obtain⟨n',y',z',e⟩:=zR h l hl n y z;obtain⟨v,q⟩:=hk n' y' z';exact⟨v,by rw[e,aF,q]⟩
def Pr(c:Int):∃v:Nat,zc [.int c]=cU [nD v]:=by
 have pw:(rd (Jq (.int 10) (.int 18)):DM D)=pure (.int 1000000000000000000):=by rw[Rg (by decide)];rfl
 by_cases h:(1000000000000000000:Int)<=c
 ·refine⟨(c-1000000000000000000).toNat,?_⟩;have e:(D.int (c-1000000000000000000))=nD (c-1000000000000000000).toNat:=by unfold nD;congr 1;lia
  simp[zc,lO,pw,h,e]
 ·have rg:o4 [.int 64]=some (.fix ((List.range 64).map nD)):=yD (n:=64) (by decide)
  simp[zc,lO,pw,h,rg,jf];refine Ju (l:=List.range 64) (by simp) 0 none none (λn j z hj=>?_) (λn' y' z'=>⟨n',by simp⟩)
  have p1:(rd (gF (.int c) (.int 2147483629)):DM D)=pure (.int (c%2147483629)):=ud (by decide)
  have p2:(rd (cG (.int 7919) (nD j)):DM D)=pure (.int (7919*(j:Int))):=mD (uL (by decide))
  have b1:=Yr c (b:=2147483629) (by decide)
  have b2:=Int.emod_lt_of_pos c (b:=2147483629) (by decide)
  have p3:(rd (cG (.int (c%2147483629+7919*(j:Int)+1)) (.int 48271)):DM D)=pure (.int ((c%2147483629+7919*(j:Int)+1)*48271)):=mD (pM (by decide))
  have p4:∀i:Int,(rd (gF (.int i) (.int 2147483647)):DM D)=pure (.int (i%2147483647)):=λi=>ud (by decide)
  simp[p1,p2,p3,p4];generalize ((c%2147483629+7919*(j:Int)+1)*48271)=X;have c1:=Yr X (b:=2147483647) (by decide)
  have c2:=Int.emod_lt_of_pos X (b:=2147483647) (by decide)
  generalize X%2147483647=Y at c1 c2;have p5:(rd (cG (.int Y) (.int Y)):DM D)=pure (.int (Y*Y)):=mD (pM (by lia))
  have p6:(rd (cG (.int 69621) (nD j)):DM D)=pure (.int (69621*(j:Int))):=mD (uL (by decide))
  have p7:∀i:Int,(rd (gF (.int i) (.int 2147483587)):DM D)=pure (.int (i%2147483587)):=λi=>ud (by decide)
  have p8:(rd (cG (nD n) (.int 2147483587)):DM D)=pure (.int ((n:Int)*2147483587)):=mD (pM (by decide))
  simp[p5,p6,p7,p8];generalize (Y*Y+69621*(j:Int)+7)=Z;have d1:=Yr Z (b:=2147483587) (by decide)
  generalize Z%2147483587=W at d1;refine⟨n*2147483587+W.toNat,W.toNat,?_⟩;have e1:D.int ((n:Int)*2147483587+W)=nD (n*2147483587+W.toNat):=by unfold nD;congr 1;lia
  have e2:D.int W=nD W.toNat:=by unfold nD;congr 1;lia
  rw[e1,e2]
def aM{f g:aa->DM Fl}{δ:aa}{M:Mo}{Q:Fl->Mo->Prop}(h:∀K:Fl->DM Fl,(∀δ',K (.nx δ')=g δ')->Rn (f δ>>=K) M Q):Rn (jE f g δ) M Q:=by
 have:=h (λr=>match r with | .nx δ'=>g δ' | r=>Pure.pure r) (λz=>rfl)
 exact this
def Lr{n t:Nat}{M:Mo}{l:List D}(h:M[n]?=some (.lst l))(ht:t<l.length)(hl:l.length<=1000000):Jp (.ref n) [nD t] M=some (.ok l[t],M.set n (.lst (l.eraseIdx t))):=by unfold nD;delta Jp;dsimp only;rw[h];dsimp only;rw[FN ht];dsimp only;rw[Uq ht];dsimp only;rw[Uv (U8 ⟨by lia,by lia⟩)]
theorem sV:∀ (L:List D) (t:Nat) (ht:t<L.length),(L[t]::L.eraseIdx t).Perm L
 |a::L,0,_=>.refl _
 |a::L,t+1,ht=>by
   have ht':t<L.length:=by simpa using ht
   have ih:=sV L t ht';show (L[t]::a::L.eraseIdx t).Perm (a::L);exact (List.Perm.swap a L[t] _).trans (ih.cons a)
noncomputable def Dg:=aG 2 3 (oA n8)
noncomputable def RP(p q:Nat)(M0:Mo)(ds:List D)(rest:aa)(i:Nat)(δ:aa)(l:List D)(M:Mo):Prop:=(∃z,δ=z::rest)/\dY p M/\(Sb p M0 M)/\∃L,M[q]?=some (.lst L)/\(l++L).Perm ds/\l.length=i
def O2{p:Nat}{M:Mo}{ds:List D}(h:dY p M)(hd:ds.length<=1000):Rn (Dg [.ref p,.lst ds]) M λd M'=>∃ l,d=.lst l/\l.Perm ds/\dY p M'/\Sb p M M':=by
 have ls:∀M,By [.lst ds] M=some ds:=λM=>rfl
 have al:(rd (Dr (.lst ds)):DM Itn)=pure (.fix ds):=rfl;unfold Dg oA ju;dsimp only;refine Rn.call rfl ?_;refine aM λK hK=>?_
 simp;refine Rn.bindRd _ (ls M) ?_;refine Rn.cU (by lia) ?_
 rw[hK];clear hK K;simp[al,aP,aV];have hp:=h.lt;refine Rn.bind (wF (jU (RP p M.length M ds [some (.ref M.length),some (.ref p)]) ds 0 _ _ _ ⟨⟨none,rfl⟩,h.sb (q:=M.length) Sb.push (by lia),Sb.push,ds,by simp,by simp,rfl⟩ (λj d δ l M1 hj hI=>?_))) λpr M2 hI=>?_
 ·obtain⟨⟨z,rfl⟩,hp1,sb1,L,hL,pm,hl⟩:=hI;have hj':=(Uj.mp hj).1;have ln:=pm.length_eq;rw[Uz]at ln;have lt:l.length<sizeLine:=by show _<2^24;lia
  simp[bB];refine Rn.bindRd L (by simp only[aR,hL]) ?_
  refine Rn.bindRd (.int (L.length:Int)) (by show (aR (.ref M.length) M1).map _=_;simp only[aR,hL];rfl) ?_
  refine Rn.bind (cW (far:=(L.length:Int)) hp1 (by lia) (by lia)) λd2 M3 ⟨t,g,e,hp3,s3⟩=>?_
  subst e;have ht:t<L.length:=by lia
  have hL3:=s3.at (q:=M.length) (by lia) hL
  refine Rn.run (Lr hL3 ht (by lia)) ?_
  simp only[lt,if_true];refine Rn.pure ⟨⟨_,rfl⟩,hp3.sb (q:=M.length) Sb.set (by lia),Sb.new (p:=p) (.inr (sb1.trans s3).le) (Ur _) Sb.set (sb1.trans s3),L.eraseIdx t,U3 (Uj.mp hL3).1,?_,by simp[hl]⟩
  refine List.Perm.trans ?_ pm;rw[V4];exact List.Perm.append_left _ (sV L t ht)
 ·obtain⟨_,hp2,sb2,L,hL,pm,hl⟩:=hI;have ln:=pm.length_eq;rw[Uz]at ln;have L0:L=[]:=by rw[<-W4];lia
  subst L0;exact Rn.pure ⟨_,rfl,_,rfl,by simpa using pm,hp2,sb2⟩
noncomputable def rO:List D->DM D
 |[.int a,.int b]=>if 0<=a/\0<=b then pure (nD (Nat.gcd a.toNat b.toNat)) else stuck
 |_=>stuck
def NK(a b:Nat):rO [nD a,nD b]=pure (nD (Nat.gcd a b)):=by simp[rO,nD]
set_option tactic.hygienic true in
def QK:∀ ds M r,rO ds M=some r->∃ n,aG 2 2 (fJ n) ds M=some r:=by
 intro ds M r h;unfold rO at h;split at h
 ·rename_i a b;split at h
  ·rename_i hab;obtain⟨x,rfl⟩:∃x:Nat,a=x:=⟨a.toNat,by lia⟩
   obtain⟨y,rfl⟩:∃y:Nat,b=y:=⟨b.toNat,by lia⟩
   have h1:∀a b:Nat,(λδ=>(λδ=>(aY 1) δ>>=λx=>(λz=>pure (D.int 0)) δ>>=λy=>rd (iH x y)) δ>>=fu) [some (nD a),some (nD b)]=(pure (b != 0):DM Bool):=λa b=>by simp[nD];congr 1
   have h2:∀a b:Nat,0<b->(q8 0 1 (λδ=>(aY 1) δ>>=λx=>(λδ=>(λδ=>(aY 0) δ>>=λx=>(aY 1) δ>>=λy=>rd (gF x y)) δ>>=λx=>(λz=>pure []) δ>>=λxs=>pure (x::xs)) δ>>=λxs=>pure (x::xs))) [some (nD a),some (nD b)]=pure (.nx [some (nD b),some (nD (a%b))]):=λa b hb=>by
    have:=yx (a:=a) hb;simp[nD]at this ⊢
    simp[this]
   obtain⟨n,hn⟩:=zz (c:=(λδ=>(λδ=>(aY 1) δ>>=λx=>(λz=>pure (D.int 0)) δ>>=λy=>rd (iH x y)) δ>>=fu)) (f:=(q8 0 1 (λδ=>(aY 1) δ>>=λx=>(λδ=>(λδ=>(aY 0) δ>>=λx=>(aY 1) δ>>=λy=>rd (gF x y)) δ>>=λx=>(λz=>pure []) δ>>=λxs=>pure (x::xs)) δ>>=λxs=>pure (x::xs)))) h1 h2 y x
   refine⟨n,?_⟩;rw[<-h];have:aG 2 2 (fJ n) [nD x,nD y]=pure (nD (Nat.gcd x y)):=by
    unfold fJ mC;have e:b7 2 [nD x,nD y]=[some (nD x),some (nD y)]:=rfl;have q:(q8 0 1 (λδ=>(λδ=>(λδ=>(aY 0) δ>>=λx=>(λz=>pure []) δ>>=λxs=>pure (x::xs)) δ>>=λl=>rd (ut l)) δ>>=λx=>(λδ=>(λδ=>(λδ=>(aY 1) δ>>=λx=>(λz=>pure []) δ>>=λxs=>pure (x::xs)) δ>>=λl=>rd (ut l)) δ>>=λx=>(λz=>pure []) δ>>=λxs=>pure (x::xs)) δ>>=λxs=>pure (x::xs))) [some (nD x),some (nD y)]=(pure (.nx [some (nD x),some (nD y)]):DM Fl):=by simp[PJ]
    rw[GF,e];show (if [nD x,nD y].length=2 then jE _ _ _>>=_ else stuck)=_
    rw[Ce];refine (Uv rfl).trans ?_;refine (congrArg (λm=>(m>>=_)>>=_) q).trans ?_
    rw[aF];show (jE _ _ _>>=_)=_;rw[Ce];refine (congrArg (λm=>(m>>=_)>>=_) hn).trans ?_
    simp
   have this':aG 2 2 (fJ n) [.int x,.int y]=pure (nD (Nat.gcd x y)):=this;rw[this'];simp
  ·cases h
 ·cases h
structure WK(R:List (List Nat))(W:Nat):Prop where
 n1:1<=R.length
 n25:R.length<=25
 row:∀r∈R,r.length=R.length
 sum:∀r∈R,r.sum=W
 w1:1<=W
def WK.head{R:List (List Nat)}{W:Nat}(h:WK R W):gr R 0∈R:=gr_mem (by have:=h.n1;lia)
noncomputable def CZ:=aG 2 2 (su vf)
noncomputable def Dc:=aG 1 2 (jL CZ)
def Kq{l:List Nat}{n:Nat}(h:l.length=n)(hl:n<=1000):vf [nT l,nD n]=pure (.bl true):=by subst h;exact Dt hl
def wJ(n:Nat):(rd (uv [.lst (List.replicate n (.bl true))]):DM D)=pure (.bl true):=by have:=GD (List.replicate n true);rw[List.map_replicate]at this;rw[this];simp
def vK{α:Type}(l:List α)(d:D):(l.map λz=>d)=List.replicate l.length d:=List.map_const' ..
def MK{R:List (List Nat)}{W:Nat}(h:WK R W):CZ [nM R,nD R.length]=pure (.bl true):=by
 have:=h.n25;simp[CZ,su,GK,eN,ue,cV,aP,aV];rw[cI nT (λz=>.bl true) (by lia) (λr hr=>by simp[Kq (h.row r hr) (by lia)])]
 rw[aF,vK,wJ]
def Nh{R:List (List Nat)}{W:Nat}(h:WK R W):Dc [nM R]=pure (.bl true):=by
 have h1:=h.n1;have h2:=h.n25;have e1:(rd (qt (.int 1) (nD R.length)):DM D)=pure (.bl true):=by rw[show D.int 1=nD 1 from rfl,jw,U8 h1]
 have e2:(rd (qt (nD R.length) (.int 25)):DM D)=pure (.bl true):=by rw[show D.int 25=nD 25 from rfl,jw,U8 h2]
 have e3:(rd (xJ (nD W) (.int 1)):DM D)=pure (.bl true):=by rw[show D.int 1=nD 1 from rfl,PL,U8 h.w1]
 have e4:∀r∈R,(rd (eE (nD r.sum) (nD W)):DM D)=pure (.bl true):=λr hr=>by rw[dB,h.sum r hr];simp
 simp[Dc,jL,GK,eN,e1,e2,MK h,GQ (R:=R) (by lia),h.sum _ h.head]
 simp[e3,cV,aP,aV];rw[cI nT (λz=>.bl true) (by lia) (λr hr=>by simp[e4 r hr])]
 rw[aF,vK,wJ]
noncomputable def aW(R:List (List Nat))(W:Nat):D:=.obj "Walk" ["rows", "whole"] [nM R,nD W]
noncomputable def Fin:=aG 2 2 (jJ Dc)
def zZ{M:Mo}{ns:List Str}{vs:List D}{f:Str}{d:D}(hl:ns.length=vs.length)(hz:ns.length<1000):wu "Walk" f (.ref M.length) d (M++[.ins "Walk" ns vs])=some (.ok (),M++[.ins "Walk" (putN f ns) (jn f d ns vs)]):=by
 unfold wu;simp[hl]
 lia
def N5{R:List (List Nat)}{W:Nat}(h:WK R W)(M:Mo):Fin (.ref M.length::[nM R]) (M++[.ins "Walk" [] []])=some (.ok .non,M++[.ins "Walk" ["rows", "whole"] [nM R,nD W]]):=by
 have h1:=h.n1;have go:Rn (Fin (.ref M.length::[nM R])) (M++[.ins "Walk" [] []]) λd M'=>d=.non/\M'=M++[.ins "Walk" ["rows", "whole"] [nM R,nD W]]:=by
  simp[Fin,jJ,Nh h,GQ (R:=R) (by lia)]
  refine Rn.run (zZ rfl (by decide)) ?_
  rw[h.sum _ h.head];refine Rn.run (zZ rfl (by decide)) ?_
  exact Rn.pure ⟨rfl,rfl⟩
 obtain⟨d,M',e,rfl,rfl⟩:=go;exact e
open Classical in
noncomputable def iD(ds:List D):DM D:=if h:∃p:List (List Nat)×Nat,WK p.1 p.2/\ds=[nM p.1] then pure (aW (choose h).1 (choose h).2) else stuck
def ie{R:List (List Nat)}{W:Nat}(h:WK R W):iD [nM R]=pure (aW R W):=by
 have q:∃p:List (List Nat)×Nat,WK p.1 p.2/\[nM R]=[nM p.1]:=⟨(R,W),h,rfl⟩;unfold iD;rw[dif_pos q];obtain⟨a,b⟩:=Classical.choose_spec q;generalize Classical.choose q=p at a b;have e:R=p.1:=O4 (by simpa using b)
 have w:W=p.2:=by have:=h.sum _ h.head;rw[<-this,e];exact a.sum _ a.head
 rw[<-e,<-w]
set_option tactic.hygienic true in
def Qy:∀ds M r',iD ds M=some r'->Mw "Walk" Fin ds M r':=by
 intro ds M r' e;unfold iD at e;split at e
 ·rename_i q;obtain⟨a,b⟩:=Classical.choose_spec q;generalize Classical.choose q=p at a b e;subst b;cases e;refine .inl ⟨["rows", "whole"],[nM p.1,nD p.2],N5 a M,λd hd=>?_,rfl⟩
  rcases Uw.mp hd with rfl | hd
  ·exact .inl (by simp)
  ·exact .inr ⟨p.2,by simpa[nD] using hd⟩
 ·cases e
def bH(R:List (List Nat))(W:Nat):(rd (j9 "Walk" "rows" (aW R W)):DM D)=pure (nM R):=cH λM=>by simp[j9,aW]
def EY(R:List (List Nat))(W:Nat):(rd (j9 "Walk" "whole" (aW R W)):DM D)=pure (nD W):=cH λM=>by
 have:((Str.ofString "whole")==(Str.ofString "rows"))=false:=by decide
 simp[j9,aW,List.lookup,this]
def sZ{m:Str}(h:(["rows", "whole"]:List Str).contains m=false)(R:List (List Nat))(W:Nat):(rd (uE "Walk" m (aW R W)):DM Unit)=pure ():=cH λM=>by unfold uE aW;dsimp only;rw[Uv ⟨rfl,h⟩]
noncomputable def Frs:=aG 1 1 (iG rQ)
def Qj{k:Nat}(h:k<=100):Frs [nD k]=pure .non:=by
 have e1:(rd (qt (.int 0) (nD k)):DM D)=pure (.bl true):=by rw[show D.int 0=nD 0 from rfl,jw,U8 (W9 _)]
 have e2:(rd (qt (nD k) (.int 100)):DM D)=pure (.bl true):=by rw[show D.int 100=nD 100 from rfl,jw,U8 h]
 simp[Frs,iG,xO,e1,e2]
noncomputable def unit(n x:Nat):List Nat:=(List.range n).map λi=>if i=x then 1 else 0
noncomputable def De:=aG 2 2 wM
def FQ{n x:Nat}(h:n<=1000):De [nD x,nD n]=pure (nT (unit n x)):=by
 simp[De,wM,dD (n:=n) (by lia),aP,aV]
 rw[cI nD (λi=>nD (if i=x then 1 else 0)) (by simp;lia) (λi hi=>by simp[dB];by_cases e:i=x<;>simp[e,nD])]
 simp[unit,nT,Function.comp_def]
noncomputable def dot(l:List Nat)(R:List (List Nat))(y:Nat):Nat:=(List.zipWith (λw r=>w*ga r y) l R).sum
noncomputable def stp(R:List (List Nat))(l:List Nat):List Nat:=(List.range R.length).map (dot l R)
noncomputable def jR{α:Type}(f:α->α):Nat->α->α
 |0,a=>a
 |n+1,a=>jR f n (f a)
theorem ji{α:Type}(f:α->α):∀ (n:Nat) (a:α),jR f (n + 1) a=f (jR f n a)
 |0,a=>rfl
 |n+1,a=>by show jR f (n+1) (f a)=_;rw[ji f n (f a)];rfl
def WK.le{R:List (List Nat)}{W:Nat}(h:WK R W){r:List Nat}(hr:r∈R){n:Nat}(hn:n∈r):n<=W:=by rw[<-h.sum r hr];exact Ag hn
def WK.at_le{R:List (List Nat)}{W:Nat}(h:WK R W){r:List Nat}(hr:r∈R)(y:Nat):ga r y<=W:=by
 by_cases hy:y<r.length
 ·exact h.le hr (NB hy)
 ·rw[sX (by lia)];exact W9 _
noncomputable def Dk:=aG 2 2 vm
def Gm(f:Nat->List Nat->Nat)(l:List Nat)(R:List (List Nat)):List.zipWith (λw r=>nD (f w r)) l R=(List.zipWith f l R).map nD:=by rw[List.map_zipWith]
def Ql{R:List (List Nat)}{W:Nat}{l:List Nat}(h:WK R W)(hW:W<2 ^ 60)(hl:l.length=R.length):Dk [nM R,nT l]=pure (nT (stp R l)):=by
 have h2:=h.n25;simp[Dk,vm,yu,dD (n:=l.length) (by lia),aP,aV]
 rw[cI nD (λy=>nD (dot l R y)) (by simp;lia) (λy hy=>?_)]
 ·simp[stp,hl,nT,Function.comp_def]
 ·have hy':y<R.length:=by rw[<-hl];exact Vv.mp hy
  simp[zW];rw[Ef nD nT (λw r=>nD (w*ga r y)) (by lia) (λw hw r hr=>by have:=h.at_le hr y;simp[J8 (l:=r) (i:=y) (by rw[h.row r hr];exact hy'),dC (a:=w) (b:=ga r y) (by lia)])]
  rw[Gm,aF,G3];rfl
def Mj(R:List (List Nat))(l:List Nat):(stp R l).length=R.length:=by simp[stp]
noncomputable def nZ:=aG 1 1 lu
def Ot(R:List (List Nat))(W:Nat):nZ [aW R W]=pure (nD R.length):=by simp[nZ,lu,bH,eN]
def lC{R:List (List Nat)}{W:Nat}(h:R.length<=25):Bx "Walk" nZ [aW R W]=pure (nD R.length):=by
 have e:Bx "Walk" nZ [aW R W]=(if ("Walk":Str) = "Walk" then nZ [aW R W]>>=wR else stuck):=rfl
 rw[e,Uv rfl,Ot,aF];have q:(0:Int)<=(R.length:Int)/\(R.length:Int)<2^63:=⟨by lia,by lia⟩
 unfold wR nD;dsimp only;rw[Uv q]
def uQ{m:DM D}{v:D}(h:∀M,Rn m M λd M'=>d=v/\M'=M):m=pure v:=by funext M;obtain⟨d,M',e,rfl,rfl⟩:=h M;exact e
def Mv:∀l:List Nat,S l.length (ga l)=l.sum:=λl=>by
 rw[<-rT];congr 1;apply Yi;intro k;by_cases hk:k<l.length
 ·rw[UG,Vs hk,Uq hk,Option.map_some,iQ hk]
 ·rw[VB (by simp;lia),VB (by lia)]
theorem Do(c:Nat)(f:Nat->Nat):∀ n:Nat,S n (λy=>c * f y)=c * S n f
 |0=>rfl
 |n+1=>by
   show S n (λy=>c*f y)+c*f n=c*(S n f+f n)
   rw[Do c f n,Nat.mul_add]
theorem zr{n W:Nat}:∀ (l:List Nat) (R:List (List Nat)),l.length=R.length->(∀ r∈R,r.length=n)->(∀ r∈R,r.sum=W)->S n (dot l R)=l.sum * W
 |[],[],_,_,_=>by rw[rW (f:=dot [] []) λz z=>rfl];simp
 | w::l,r::R,hl,h1,h2=>by
   have e:dot (w::l) (r::R)=λy=>w*ga r y+dot l R y:=by
    funext y;show (w*ga r y::List.zipWith (λw r=>w*ga r y) l R).sum=_
    rw[W5];rfl
   rw[e,Ar,Do,zr l R (by simpa using hl) (λr hr=>h1 r (by simp[hr])) (λr hr=>h2 r (by simp[hr])),W5,Nat.add_mul]
   have:=Mv r;rw[h1 r (by simp),h2 r (by simp)]at this
   rw[this]
def Ml{R:List (List Nat)}{W:Nat}{l:List Nat}(h:WK R W)(hl:l.length=R.length):(stp R l).sum=l.sum*W:=by unfold stp;rw[rT];exact zr l R hl h.row h.sum
def pK{R:List (List Nat)}{l:List Nat}(hl:l.length=R.length):∀k,(jR (stp R) k l).length=R.length
 |0=>hl
 |k+1=>by rw[ji,Mj]
theorem zF{R:List (List Nat)}{W:Nat}{l:List Nat}(h:WK R W)(hl:l.length=R.length):∀ k,(jR (stp R) k l).sum=l.sum * W ^ k
 |0=>by simp[jR]
 |k+1=>by rw[ji,Ml h (pK hl k),zF h hl k,Nat.pow_succ,Nat.mul_assoc]
def fj(n x:Nat):(unit n x).length=n:=by simp[unit]
def yQ{n x:Nat}(h:x<n):(unit n x).sum=1:=by
 unfold unit;rw[rT];have e:S n (λi=>if i=x then 1 else 0)=S n (up (λz=>0) x 1):=dI λi z=>rfl
 have:S n (up (λz=>0) x 1)+0=S n (λz=>0)+1:=Hy (f:=λz=>0) h
 rw[rW (f:=λz=>0) λz z=>rfl]at this
 lia
def yP{R:List (List Nat)}{W x:Nat}(h:WK R W)(hx:x<R.length):JH (unit R.length x):=⟨by rw[fj];exact h.n1,by rw[fj];exact h.n25,by rw[yQ hx];decide⟩
noncomputable def wz:=aG 3 4 (iY Di Frs Dk)
noncomputable def SM(M0:Mo)(w:D)(R:List (List Nat))(l:List Nat)(k:Nat)(i:Nat)(δ:aa)(M:Mo):Prop:=(∃z,δ=[some w,some (nT (jR (stp R) i l)),some (nD k),z])/\M=M0
def MJ{R:List (List Nat)}{W:Nat}{l:List Nat}{k:Nat}(h:WK R W)(hW:W<2^60)(hl:l.length=R.length)(hL:JH l)(hk:k<=100):wz [aW R W,nT l,nD k]=pure (nT (jR (stp R) k l)):=uQ λM=>by
 unfold wz iY jq;dsimp only;refine Rn.call rfl ?_;simp[G6 hL,yu,bH,eN,ue,hl,Qj hk,dD (n:=k) (by lia),jf]
 refine Rn.bind (cj (SM M (aW R W) R l k) _ 0 _ _ ⟨⟨none,rfl⟩,rfl⟩ (λj d δ M1 hj hI=>?_)) (λr M1 hI=>?_)
 ·obtain⟨⟨z,rfl⟩,rfl⟩:=hI;rw[Vq];simp[bH,Ql h hW (pK hl j)];exact Rn.pure ⟨_,rfl,⟨_,by rw[ji]⟩,rfl⟩
 ·obtain⟨δ',rfl,⟨z,rfl⟩,rfl⟩:=hI;simp;exact Rn.pure ⟨_,rfl,rfl,rfl⟩
noncomputable def km(R:List (List Nat))(k:Nat):List (List Nat):=(List.range R.length).map λx=>jR (stp R) k (unit R.length x)
noncomputable def wC:=aG 2 3 (iZ De wz)
def Gx{W k s:Nat}(hW:W<=12)(hk:k<=101)(hs:s<2^60):s*W^k<2^1000:=by
 have h1:W^k<=2^404:=UL (Nat.pow_le_pow_left (show W<=2^4 by lia) k) (by rw[<-Nat.pow_mul];exact Wo (by decide) (by lia))
 have h2:s*W^k<=2^60*2^404:=Wv (by lia) h1
 refine Wl h2 ?_;rw[<-Nat.pow_add];exact Nat.pow_lt_pow_right (by decide) (by decide)
def N6(b:Bool):(rd (Bu [.bl b]):DM D)=pure (nD (if b then 1 else 0)):=by cases b<;>rfl
def Ks{α:Type}{fe:aa->DM D}{x:Option D}{rest:aa}{as:List α}(enc:α->D)(e:α->D)(hl:as.length<=1000000)(h2:∀ a∈as,fe (some (enc a)::rest)=Pure.pure (e a)):
  iK .val (gN 0) (λz=>Pure.pure true) fe (.fix (as.map enc)) (x::rest)=(pure (.lst (as.map e)):DM D):=by
 funext M;unfold iK;have hf:gU (gN 0) (λz=>Pure.pure true) fe (.fix (as.map enc)) (x::rest) M=some (.ok (),M):=by
  unfold gU;cases as with
  |nil=>rfl
  |cons a as=>
    show (bU (gN 0 (enc a) (x::rest))>>=_) M=_;show DM.bind _ _ M=_;have:=h2 a (by simp)
    show ((fe (some (enc a)::rest)>>=λz=>pure ()):DM Unit) M=_
    rw[this];rfl
 rw[hf];show (bU (aZ (gN 0) (λz=>Pure.pure true) (bB fe) (as.map enc) (x::rest) [])>>=λp=>Out.run .val p.2) M=_
 rw[cI enc e hl h2];rfl
def yV{α:Type}{fe:aa->DM D}{x:Option D}{rest:aa}{a:α}{as:List α}{c:Str}(enc:α->D)(h2:fe (some (enc a)::rest)=raise c):
  iK .val (gN 0) (λz=>Pure.pure true) fe (.fix ((a::as).map enc)) (x::rest)=(raise c:DM D):=by
 funext M;unfold iK;have hf:gU (gN 0) (λz=>Pure.pure true) fe (.fix ((a::as).map enc)) (x::rest) M=some (.exc ⟨c,[]⟩,M):=by
  unfold gU;show ((fe (some (enc a)::rest)>>=λz=>pure ()):DM Unit) M=_
  rw[h2];rfl
 rw[hf];rfl
def Px{R:List (List Nat)}{W:Nat}{k:Nat}(h:WK R W)(hW:W<2^60)(hk:k<=100):wC [aW R W,nD k]=pure (nM (km R k)):=by
 have h2:=h.n25;simp[wC,iZ,bH,eN,dD (n:=R.length) (by lia),aP,aV]
 rw[Ks nD (λx=>nT (jR (stp R) k (unit R.length x))) (by simp;lia) (λx hx=>by have hx':=Vv.mp hx;simp[sZ (m := "after") (by decide),FQ (n:=R.length) (x:=x) (by lia),MJ h hW (fj _ _) (yP h hx') hk])]
 simp[km,nM,Function.comp_def]
def pR{α β:Type}(c:Str)(f:α->DM β):((raise c:DM α)>>=f)=raise c:=rfl
noncomputable def Df:=aG 2 2 qj
def Ou{R:List (List Nat)}{W:Nat}{l:List Nat}(h:WK R W)(hW:W<2 ^ 60)(hl:l.length=R.length):Df [nM R,nT l]=pure (nT (stp R l)):=by
 have h2:=h.n25;simp[Df,qj,eN,dD (n:=R.length) (by lia),aP,aV]
 rw[cI nD (λy=>nD (dot l R y)) (by simp;lia) (λy hy=>?_)]
 ·simp[stp,nT,Function.comp_def]
 ·have hy':y<R.length:=Vv.mp hy;simp[zW];rw[Ef nD nT (λw r=>nD (w*ga r y)) (by lia) (λw hw r hr=>by have:=h.at_le hr y;simp[J8 (l:=r) (i:=y) (by rw[h.row r hr];exact hy'),dC (a:=w) (b:=ga r y) (by lia)])]
  rw[Gm,aF,G3];rfl
noncomputable def wA:=aG 3 4 (ou Df)
noncomputable def S7(M0:Mo)(R:List (List Nat))(l:List Nat)(k:Nat)(i:Nat)(δ:aa)(M:Mo):Prop:=(∃z,δ=[some (nM R),some (nT (jR (stp R) i l)),some (nD k),z])/\M=M0
def Oq{R:List (List Nat)}{W:Nat}{l:List Nat}{k:Nat}(h:WK R W)(hW:W<2^60)(hl:l.length=R.length)(hk:k<=1000):wA [nM R,nT l,nD k]=pure (nT (jR (stp R) k l)):=uQ λM=>by
 unfold wA ou jr;dsimp only;refine Rn.call rfl ?_;simp[dD (n:=k) (by lia),jf]
 refine Rn.bind (cj (S7 M R l k) _ 0 _ _ ⟨⟨none,rfl⟩,rfl⟩ (λj d δ M1 hj hI=>?_)) (λr M1 hI=>?_)
 ·obtain⟨⟨z,rfl⟩,rfl⟩:=hI;rw[Vq];simp[Ou h hW (pK hl j)];exact Rn.pure ⟨_,rfl,⟨_,by rw[ji]⟩,rfl⟩
 ·obtain⟨δ',rfl,⟨z,rfl⟩,rfl⟩:=hI;simp;exact Rn.pure ⟨_,rfl,rfl,rfl⟩
noncomputable def ur:=aG 2 3 (oE wA)
def K6{R:List (List Nat)}{W:Nat}{k:Nat}(h:WK R W)(hW:W<2 ^ 60)(hk:k<=1000):ur [nM R,nD k]=pure (nM (km R k)):=by
 have h2:=h.n25;simp[ur,oE,eN,dD (n:=R.length) (by lia),aP,aV]
 rw[cI nD (λx=>nT (jR (stp R) k (unit R.length x))) (by simp;lia) (λx hx=>by
  simp[dD (n:=R.length) (by lia)]
  rw[cI nD (λi=>nD (if i=x then 1 else 0)) (by simp;lia) (λi hi=>by
   simp[dB,N6];by_cases e:x=i
   ·simp[e]
   ·simp[e,Ne.symm e])]
  have u:D.tup (List.map (λi=>nD (if i=x then 1 else 0)) (List.range R.length))=nT (unit R.length x):=by simp[unit,nT,Function.comp_def]
  rw[aF,u,Oq h hW (fj _ _) hk])]
 simp[km,nM,Function.comp_def]
def Aa{l:List Nat}{i v:Nat}(h:i<l.length):(l.set i v).sum + ga l i=l.sum + v:=by
 induction l generalizing i with
 |nil=>simp at h
 | cons a l ih=>
   cases i with
   |zero=>simp[ga];lia
   |succ i=>
     have:=ih (i:=i) (by simpa using h)
     rw[List.set_cons_succ,W5,W5];have e:ga (a::l) (i+1)=ga l i:=rfl;rw[e];lia
def Hc{l:List Nat}{i j v:Nat}(h:i≠j):ga (l.set i v) j=ga l j:=by unfold ga;rw[U9,U9,Vl h]
def Qf(n i:Nat):ga (List.replicate n 0) i=0:=by
 by_cases h:i<n
 ·rw[iQ (by simpa using h)];simp
 ·exact sX (by simp;lia)
noncomputable def Dj:=aG 4 9 (rZ Dg n8)
structure RowSt(M0:Mo)(p w W:Nat)(todo:List Nat)(left:Nat)(f:List Nat)(M:Mo):Prop where
 pot:dY p M
 sb:Sb p M0 M
 at_:M[M0.length]?=some (.lst (f.map nD))
 len:f.length=w
 sum:f.sum+left=W
 zero:∀i∈todo,ga f i=0
noncomputable def QB(M0:Mo)(p w W:Nat)(som:D)(o:List Nat)(rest:List Nat)(i:Nat)(δ:aa)(M:Mo):Prop:=∃(left:Nat) (f:List Nat) (z1 z2:Option D),δ=[some (.ref p),some (nD w),some (nD W),some som,some (.ref M0.length),some (nD left),some (.lst (o.map nD)),z1,z2]/\RowSt M0 p w W (o.getD 0 0::rest.drop i) left f M
def Qk{p w W:Nat}{M:Mo}{some':List Nat}(hp:dY p M)(hw:w<=25)(hW:W<2 ^ 60)(h0:some'≠[])(hn:some'.Nodup)(hlt:∀ i∈some',i<w)(sl:some'.length<=100):
  Rn (Dj [.ref p,nD w,nD W,.lst (some'.map nD)]) M λd M'=>∃r:List Nat,d=nT r/\r.length=w/\r.sum=W/\dY p M'/\Sb p M M':=by
 have hpl:=hp.lt;unfold Dj rZ;refine Rn.call rfl ?_;have m0:jl [.int 0]=pure (.lst [.int 0]):=jZ (by simp)
 refine aM λK hK=>?_
 simp[m0];refine Jc (by lia) ?_
 have hp1:dY p (M++[.lst ((List.replicate w 0).map nD)]):=hp.sb (q:=M.length) Sb.push (by lia)
 refine Rn.bind (O2 hp1 (by simp;lia)) λd M2 ⟨ml,ed,pm,hp2,s2⟩=>?_
 subst ed;obtain ⟨o,ho,el⟩:∃ o:List Nat,o.Perm some'/\ml=o.map nD:=by
  let u:D->Nat:=λd=>match d with | .int i=>i.toNat | _=>0
  have hu:∀n:Nat,u (nD n)=n:=λn=>by simp[u,nD]
  refine⟨ml.map u,?_,?_⟩
  ·have:=pm.map u;rw[VJ]at this;have e:some'.map (u ∘ nD)=some':=by
    conv=>rhs;rw[<-List.map_id some']
    exact Wi λn t=>hu n
   rwa [e]at this
  ·rw[VJ]
   conv=>lhs;rw[<-List.map_id ml]
   refine Wi λd hd=>?_
   obtain⟨n,_,rfl⟩:=Vk.mp (pm.mem_iff.mp hd);show nD n=nD (u (nD n));rw[hu]
 subst el;rw[hK];clear hK K;have ol:o.length=some'.length:=ho.length_eq;have on:o.Nodup:=ho.nodup_iff.mpr hn;have olt:∀i∈o,i<w:=λi hi=>hlt i (ho.mem_iff.mp hi)
 obtain⟨a,rest,rfl⟩:∃a rest,o=a::rest:=by
  cases o with
  |nil=>exact absurd (W4.mp (by simpa using ol.symm)) h0
  |cons a rest=>exact⟨a,rest,rfl⟩
 have st0:RowSt M p w W (a::rest) W (List.replicate w 0) M2:=by
  refine⟨hp2,⟨UL (by simp) s2.le,λq hq hl=>?_⟩,?_,by simp,by simp,λi t=>Qf w i⟩
  ·rw[s2.keep q hq (by simp;lia),Uu hl]
  ·refine s2.at (by lia) ?_
   rw[List.getElem?_concat_length]
 -- the others
 refine aM λK hK=>?_
 have sl1:(rd (Hj (some 1) none (.lst ((a::rest).map nD))):DM D)=pure (.lst (rest.map nD)):=cH λM=>by
  simp only[Hj,aR,Option.map_some];unfold cutD;rw[HT.sIx_none,show (some (1:Int))=some ((1:Nat):Int) from rfl,HT.sIx_nat]
  simp;exact YM (by simp)
 have as1:RG (.int 1)=pure (some 1):=rfl;simp only[bZ,bj,aK,as1,sl1,yr,jf];refine Rn.bind (cj (QB M p w W (.lst (some'.map nD)) (a::rest) rest) _ 0 _ _ ⟨W,List.replicate w 0,none,none,rfl,by simpa using st0⟩ (λj d δ M3 hj hI=>?_)) (λr M3 hI=>?_)
 ·obtain ⟨left,f,z1,z2,rfl,st⟩:=hI;rw[Vq]at st ⊢
  obtain⟨y,hy,ed⟩:∃y,rest[j]?=some y/\d=nD y:=by rw[UG]at hj;obtain⟨q,e1,e2⟩:=Up.mp hj;exact⟨q,e1,e2.symm⟩
  subst ed;have hjl:=(Uj.mp hy).1;have dj:rest.drop j=y::rest.drop (j+1):=by rw[XJ hjl,(Uj.mp hy).2]
  have yw:y<w:=olt y (by simp[List.mem_of_getElem? hy])
  have yz:ga f y=0:=st.zero y (by rw[dj];simp)
  have leW:left<=W:=by have:=st.sum;lia
  rw[oZ,aF];refine aM λK hK=>?_
  simp only[cZ,bZ,bj,aK,zT];refine Rn.bind (cW (far:=((left+1:Nat):Int)) st.pot (by lia) (by lia)) λd4 M4 ⟨t4,g4,e4,hp4,s4⟩=>?_
  subst e4;have ml3:jl [.int 0,nD left,nD t4]=pure (.lst ([0,left,t4].map nD)):=jZ (by simp)
  simp only[aF,ml3];refine Rn.bind (cW (far:=3) hp4 (by decide) (by decide)) λd5 M5 ⟨t5,g5,e5,hp5,s5⟩=>?_
  subst e5;have h5:t5<[0,left,t4].length:=by simp;lia
  have ix:(rd (gk (.lst ([0,left,t4].map nD)) (nD t5)):DM D)=pure (nD ([0,left,t4][t5])):=tZ (by rw[UG,Uq h5];rfl)
  have ple:[0,left,t4][t5]<=left:=by
   have:=V7 h5;generalize [0,left,t4][t5]=x at this;simp at this
   lia
  rw[ix];generalize [0,left,t4][t5]=part at ple;rw[aF,hK];clear hK K;have mk2:∀x y:D,qu [x,y]=pure (.tup [x,y]):=λx y=>uc (by simp)
  simp only[cZ,bZ,bj,aK,P0 ple,mk2,R9,List.length_cons,List.length_nil,if_true,Q8,Q9,oZ];have at5:M5[M.length]?=some (.lst (f.map nD)):=s5.at (by lia) (s4.at (by lia) st.at_)
  have sr:=pU (v:=nD part) at5 (i:=y) (by rw[UV,st.len];exact yw)
  rw[<-List.map_set]at sr;refine Rn.run sr ?_;refine Rn.pure ⟨_,rfl,left-part,f.set y part,_,_,rfl,?_⟩;have ss:=Aa (l:=f) (i:=y) (v:=part) (by rw[st.len];exact yw)
  refine⟨hp5.sb (q:=M.length) Sb.set (by lia),Sb.new (p:=p) (.inr (st.sb.trans (s4.trans s5)).le) (Ur _) Sb.set (st.sb.trans (s4.trans s5)),U3 (Uj.mp at5).1,by rw[Vx];exact st.len,by have:=st.sum;lia,λi hi=>?_⟩
  have iy:y≠i:=λz=>by
   subst z;have on':=W6.mp on;rcases Uw.mp hi with e | hi
   ·have e:y=a:=by simpa using e
    exact on'.1 (e ▸ Vh hy)
   ·have dn:(rest.drop j).Nodup:=on'.2.sublist (List.drop_sublist j rest);rw[dj]at dn;exact (W6.mp dn).1 hi
  rw[Hc iy];refine st.zero i ?_;rcases Uw.mp hi with e | hi
  ·rw[e];simp
  ·rw[dj];simp[hi]
 ·obtain⟨δ',rfl,left,f,z1,z2,rfl,st⟩:=hI;rw[hK];clear hK K;have aw:a<w:=olt a (by simp)
  have az:ga f a=0:=st.zero a (by simp)
  have ix0:(rd (gk (.lst ((a::rest).map nD)) (.int 0)):DM D)=pure (nD a):=tZ (i:=0) rfl;refine aM λK hK=>?_
  simp only[cZ,bZ,bj,aK,ix0];have sr:=pU (v:=nD left) st.at_ (i:=a) (by rw[UV,st.len];exact aw)
  rw[<-List.map_set]at sr;refine Rn.run sr ?_;rw[hK];clear hK K;have ss:=Aa (l:=f) (i:=a) (v:=left) (by rw[st.len];exact aw)
  simp only[cZ,bZ,bj,aK];refine Rn.bindRd (nT (f.set a left)) (by show (aR (.ref M.length) _).map _=_;simp only[aR,List.getElem?_set_self (List.getElem?_eq_some_iff.mp st.at_).1];rfl) ?_
  refine Rn.pure ⟨_,rfl,f.set a left,rfl,by rw[Vx];exact st.len,by have:=st.sum;lia,st.pot.sb (q:=M.length) Sb.set (by lia),Sb.new (p:=p) (.inr st.sb.le) (Ur _) Sb.set st.sb⟩
noncomputable def wD:=aG 2 8 (qi n8 Dj)
def Ae{ns:List Int}{x:Int}:x∈fH ns ↔ x∈ns:=by
 unfold fH;rw[(fD _).1.mem_iff];have:∀ (l acc:List Int),x∈l.foldl PyProof.Rows.step_dedup acc ↔ x∈acc\/x∈l:=by
  intro l;induction l with
  |nil=>intro acc;simp
  | cons a l ih=>
    intro acc;rw[Yv,ih,<-LS.rH];by_cases h:a∈acc
    ·rw [Uv h];constructor
     ·rintro (h1 | h1)
      ·exact .inl h1
      ·exact .inr (.tail _ h1)
     ·rintro (h1 | h1)
      ·exact .inl h1
      ·rcases Uw.mp h1 with rfl | h1
       ·exact .inl h
       ·exact .inr h1
    ·rw[Ux h,Vr,U7,Uw,or_assoc]
 rw[this];simp
def Hk(ns:List Int):(fH ns).Nodup:=by
 unfold fH;rw[(fD _).1.nodup_iff];have:∀ (l acc:List Int),acc.Nodup->(l.foldl PyProof.Rows.step_dedup acc).Nodup:=by
  intro l;induction l with
  |nil=>intro acc h;exact h
  | cons a l ih=>
    intro acc h;rw[Yv,<-LS.rH];by_cases q:a∈acc
    ·rw[Uv q];exact ih acc h
    ·rw[Ux q];refine ih _ (Yg.mpr ⟨h,by simp,λx hx y hy e=>?_⟩)
     rw[U7.mp hy]at e;exact q (e ▸ hx)
 exact this ns [] (by simp)
structure Som(w:Nat)(l:List Nat):Prop where
 ne:l≠[]
 nd:l.Nodup
 lt:∀i∈l,i<w
 len:l.length<=100
def iT{w:Nat}(hw:w<=25)(p:Nat->Bool){x:Nat}(hx:x<w)(h:p x=true):Som w ((List.range w).filter p):=by
 refine⟨λz=>?_,List.nodup_range.filter p,λi hi=>Vv.mp (Yu.mp hi).1,?_⟩
 ·have:x∈(List.range w).filter p:=Yu.mpr ⟨Vv.mpr hx,h⟩;rw[z]at this;cases this
 ·have:=List.length_filter_le p (List.range w);rw[Wt]at this
  lia
def Qn(w x:Nat)(hx:x<w):∃ l:List Nat,fH [(x:Int),(((x + 1) % w:Nat):Int)]=l.map (λn:Nat=>(n:Int))/\Som w l:=by
 have nn:∀i∈fH [(x:Int),(((x+1)%w:Nat):Int)],0<=i/\i<w:=λi hi=>by
  have:=Ae.mp hi;have hm:=YQ (x+1) (show w > 0 by lia)
  simp only[List.mem_cons,List.not_mem_nil,or_false]at this
  lia
 have e:(fH [(x:Int),(((x+1)%w:Nat):Int)])=((fH [(x:Int),(((x+1)%w:Nat):Int)]).map Int.toNat).map (λn:Nat=>(n:Int)):=by
  rw[VJ]
  conv=>lhs;rw[<-List.map_id (fH _)]
  exact Wi λi hi=>by
   have:=nn i hi;show i=((i.toNat:Nat):Int)
   lia
 refine⟨(fH [(x:Int),(((x+1)%w:Nat):Int)]).map Int.toNat,e,λz=>?_,?_,λi hi=>?_,?_⟩
 ·have:(x:Int)∈fH [(x:Int),(((x+1)%w:Nat):Int)]:=Ae.mpr (by simp)
  rw[List.map_eq_nil_iff]at z;rw[z]at this;cases this
 ·have:=Hk [(x:Int),(((x+1)%w:Nat):Int)];rw[e]at this;exact List.pairwise_map.mp this |>.imp λh z=>h (by rw[z])
 ·obtain⟨j,hj,rfl⟩:=Vk.mp hi;have:=nn j hj
  lia
 ·rw[UV];have:=Ad [(x:Int),(((x+1)%w:Nat):Int)];rw[Vn,List.length_singleton]at this
  lia
structure RowsSt(M0:Mo)(p w W:Nat)(R:List (List Nat))(i:Nat)(M:Mo):Prop where
 pot:dY p M
 sb:Sb p M0 M
 at_:M[M0.length]?=some (.lst (R.map nT))
 len:R.length=i
 row:∀r∈R,r.length=w/\r.sum=W
noncomputable def rR(M0 M1:Mo)(p tp w W kd:Nat)(i:Nat)(δ:aa)(M:Mo):Prop:=∃(R:List (List Nat)) (z1 z2:Option D),δ=[some (.ref p),some (nD tp),some (nD w),some (nD W),some (nD kd),some (.ref M1.length),z1,z2]/\RowsSt M1 p w W R i M
def zY{p tp:Nat}{M:Mo}(hp:dY p M)(h1:1<=tp)(h2:tp<=6):Rn (wD [.ref p,nD tp]) M λd M'=>∃ (R:List (List Nat)) (W:Nat),d=nM R/\WK R W/\R.length<=tp/\W<=12/\dY p M'/\Sb p M M':=by
 unfold wD qi kJ;dsimp only;refine Rn.call rfl ?_;have mk2:∀x y:D,qu [x,y]=pure (.tup [x,y]):=λx y=>uc (by simp)
 refine aM λK hK=>?_
 simp;refine Rn.bind (cW (far:=(tp:Int)) hp (by lia) (by lia)) λd2 M2 ⟨t2,g2,e2,hp2,s2⟩=>?_
 subst e2;have ml5:jl [.int 1,.int 2,.int 3,.int 6,.int 12]=pure (.lst ([1,2,3,6,12].map nD)):=jZ (by simp)
 rw[PB,aF,ml5,aF];refine Rn.bind (cW (far:=5) hp2 (by decide) (by decide)) λd3 M3 ⟨t3,g3,e3,hp3,s3⟩=>?_
 subst e3;have h3:t3<[1,2,3,6,12].length:=by simp;lia
 have ix:(rd (gk (.lst ([1,2,3,6,12].map nD)) (nD t3)):DM D)=pure (nD ([1,2,3,6,12][t3])):=tZ (by rw[UG,Uq h3];rfl)
 have hW:1<=[1,2,3,6,12][t3]/\[1,2,3,6,12][t3]<=12:=by
  have:=V7 h3;generalize [1,2,3,6,12][t3]=x at this;simp at this
  lia
 rw[ix];generalize [1,2,3,6,12][t3]=W at hW;obtain⟨hW1,hW2⟩:=hW;simp[mk2];rw[hK];clear hK K;have w1:1<=t2+1:=by lia
 have wt:t2+1<=tp:=by lia
 revert w1 wt;generalize t2+1=w;intro w1 wt
 -- the kind
 refine aM λK hK=>?_
 simp;refine Rn.bind (cW (far:=6) hp3 (by decide) (by decide)) λd4 M4 ⟨kd,g4,e4,hp4,s4⟩=>?_
 subst e4;refine Rn.cU (by simp) ?_
 rw[hK];clear hK K;have sb4:Sb p M M4:=s2.trans (s3.trans s4);have st0:RowsSt M4 p w W [] 0 (M4++[.lst []]):=⟨hp4.sb (q:=M4.length) Sb.push (by have:=hp4.lt;lia),Sb.push,by simp,rfl,λr hr=>by cases hr⟩
 have hp4l:=hp4.lt
 -- the rows
 refine aM λK hK=>?_
 simp only[bZ,bj,aK,dD (n:=w) (by lia),jf]
 refine Rn.bind (cj (rR M M4 p tp w W kd) _ 0 _ _ ⟨[],none,none,rfl,st0⟩ (λx d δ M5 hx hI=>?_)) (λr M5 hI=>?_)
 ·obtain ⟨R,z1,z2,rfl,st⟩:=hI;rw[Vq]at st ⊢
  have hx':x<w:=by have:=(Uj.mp hx).1;simpa using this
  have ed:d=nD x:=by rw[UG,Vs hx']at hx;exact (Uo hx).symm
  subst ed;rw[oZ,aF];have lr:(rd (λM=>(BL [nD w] M).map D.lst):DM D)=pure (.lst ((List.range w).map nD)):=cH λM=>by
   show (if -(2^62)<=(w:Int)/\(w:Int)<=2^20 then some ((List.range (w:Int).toNat).map nD) else none).map D.lst=_
   rw[Uv ⟨by lia,by lia⟩];simp
  refine aM λK hK=>?_
  simp only[cZ,bZ,bj,aK,lr];rw[hK];clear hK K;have som0:Som w (List.range w):=by
   have:=iT (by lia) (λu=>true) hx' rfl
   rwa [XC.mpr (λu u=>rfl)]at this
  -- halves
  have half:(rd (lV (nD w) (.int 2)):DM D)=pure (nD (w / 2)):=yt (b:=2) (by decide) (by decide +kernel)
  refine aM λK hK=>?_
  suffices H:∀l1:List Nat,Som w l1->(kd≠3->l1=List.range w)->Rn (K (.nx [some (.ref p),some (nD tp),some (nD w),some (nD W),some (nD kd),some (.ref M4.length),some (nD x),some (.lst (l1.map nD))])) M5 (λr M'=>∃δ',r=Fl.nx δ'/\rR M M4 p tp w W kd (x+1) δ' M') by
   by_cases h3:kd=3
   ·have e3:(rd (eE (nD kd) (.int 3)):DM D)=pure (.bl true):=by rw[show D.int 3=nD 3 from rfl,dB,h3];rfl
    simp only[cZ,bZ,bj,aK,e3,cQ,if_true,yr,zU,aP,aV,List.map_cons,List.map_nil,List.length_cons,List.length_nil,Nat.zero_add,Option.getD_some,List.replicate_succ,List.replicate_zero,List.cons_append,List.nil_append];rw[aO nD (λy=>decide (y<w / 2)==decide (x<w / 2)) nD (by simp;lia) (λy hy=>by simp[half,GR,Lx]) (λy hy u=>by simp)]
    simp only[cZ,aF,GZ];exact H _ (iT (by lia) _ hx' (by simp)) λz=>absurd h3 z
   ·have e3:(rd (eE (nD kd) (.int 3)):DM D)=pure (.bl false):=by rw[show D.int 3=nD 3 from rfl,dB,Vm h3]
    simp only[bZ,bj,aK,e3,cQ,Bool.false_eq_true,if_false];exact H _ som0 λu=>rfl
  intro l1 som1 k1;rw[hK];clear hK K;refine aM λK hK=>?_
  suffices H:∀ l2:List Nat,Som w l2->Rn (K (.nx [some (.ref p),some (nD tp),some (nD w),some (nD W),some (nD kd),some (.ref M4.length),some (nD x),some (.lst (l2.map nD))])) M5 (λr M'=>∃ δ',r=Fl.nx δ'/\rR M M4 p tp w W kd (x + 1) δ' M') by
   by_cases h4:kd=4
   ·have e4:(rd (eE (nD kd) (.int 4)):DM D)=pure (.bl true):=by rw[show D.int 4=nD 4 from rfl,dB,h4];rfl
    have l1e:=k1 (by lia)
    subst l1e;by_cases hw:1<w
    ·have eg:(rd (xK (nD w) (.int 1)):DM D)=pure (.bl true):=by rw[show D.int 1=nD 1 from rfl,tX,U8 hw]
     have md:∀y:Nat,(rd (gF (nD y) (.int 2)):DM D)=pure (nD (y%2)):=λy=>zV (b:=2) (by decide)
     simp only[cZ,bZ,bj,aK,e4,eg,cQ,if_true,yr,zU,aP,aV,List.map_cons,List.map_nil,List.length_cons,List.length_nil,Nat.zero_add,Option.getD_some,List.replicate_succ,List.replicate_zero,List.cons_append,List.nil_append];rw[aO nD (λy=>!decide (y%2=x%2)) nD (by simp;lia) (λy hy=>by simp[md,ue]) (λy hy u=>by simp)]
     simp only[cZ,aF,GZ];refine H _ ?_;by_cases q:x%2=0
     ·exact iT (by lia) _ (x:=1) hw (by simp;lia)
     ·exact iT (by lia) _ (x:=0) (by lia) (by simp;lia)
    ·have eg:(rd (xK (nD w) (.int 1)):DM D)=pure (.bl false):=by rw[show D.int 1=nD 1 from rfl,tX,Vm hw]
     simp only[bZ,bj,aK,e4,eg,cQ,if_true,Bool.false_eq_true,if_false];exact H _ som0
   ·have e4:(rd (eE (nD kd) (.int 4)):DM D)=pure (.bl false):=by rw[show D.int 4=nD 4 from rfl,dB,Vm h4]
    simp only[bZ,bj,aK,e4,cQ,Bool.false_eq_true,if_false];exact H _ som1
  intro l2 som2;rw[hK];clear hK K;refine aM λK hK=>?_
  suffices H:∀ l3:List Nat,Som w l3->Rn (K (.nx [some (.ref p),some (nD tp),some (nD w),some (nD W),some (nD kd),some (.ref M4.length),some (nD x),some (.lst (l3.map nD))])) M5 (λr M'=>∃ δ',r=Fl.nx δ'/\rR M M4 p tp w W kd (x + 1) δ' M') by
   by_cases h5:kd=5
   ·have e5:(rd (eE (nD kd) (.int 5)):DM D)=pure (.bl true):=by rw[show D.int 5=nD 5 from rfl,dB,h5];rfl
    obtain⟨l3,el,som3⟩:=Qn w x hx';have ml:jl [nD x,nD ((x+1)%w)]=pure (.lst [nD x,nD ((x+1)%w)]):=jZ (by simp)
    have sq:(rd (λM=>(CN [.lst [nD x,nD ((x+1)%w)]] M).map D.lst):DM D)=pure (.lst (l3.map nD)):=cH λM=>by
     have e1:intsOf [nD x,nD ((x+1)%w)]=some [(x:Int),(((x+1)%w:Nat):Int)]:=rfl;simp only[CN,aR,Option.bind_some,e1];rw[Uv (by simp),el,VJ]
     rfl
    simp only[cZ,bZ,bj,aK,e5,cQ,if_true,zT,zV (a:=x+1) (b:=w) (by lia),ml,sq]
    exact H l3 som3
   ·have e5:(rd (eE (nD kd) (.int 5)):DM D)=pure (.bl false):=by rw[show D.int 5=nD 5 from rfl,dB,Vm h5]
    simp only[bZ,bj,aK,e5,cQ,Bool.false_eq_true,if_false];exact H _ som2
  intro l3 som3;rw[hK];clear hK K;simp only[bZ,bj,aK];refine Rn.bindRd (R.map nT) (by simp only[aR,st.at_]) ?_
  refine Rn.bind (Qk st.pot (by lia) (by lia) som3.ne som3.nd som3.lt som3.len) λd6 M6 ⟨r,e6,rl,rs,hp6,s6⟩=>?_
  subst e6;have at6:M6[M4.length]?=some (.lst (R.map nT)):=s6.at (by lia) st.at_
  have ar:=uw (v:=nT r) at6 (by have:=st.len;simp;lia)
  refine Rn.run ar ?_;refine Rn.pure ⟨_,rfl,R++[r],_,_,rfl,hp6.sb (q:=M4.length) Sb.set (by lia),Sb.new (p:=p) (.inr (st.sb.trans s6).le) (Ur _) Sb.set (st.sb.trans s6),?_,by rw[Uz,st.len];rfl,λq hq=>?_⟩
  ·rw[U3 (Uj.mp at6).1];simp
  ·rcases Vr.mp hq with h | h
   ·exact st.row q h
   ·rw[U7.mp h];exact⟨rl,rs⟩
 ·obtain⟨δ',rfl,R,z1,z2,rfl,st⟩:=hI;rw[hK];clear hK K;rw[UV,Wt,Vq]at st;simp only[bZ,bj,aK];refine Rn.bindRd (nM R) (by show (aR (.ref M4.length) M5).map _=_;simp only[aR,st.at_];rfl) ?_
  refine Rn.pure ?_;refine⟨_,rfl,?_⟩;exact⟨R,rfl,W,⟨by rw[st.len];exact w1,by rw[st.len];lia,λr hr=>by rw[st.len];exact (st.row r hr).1,λr hr=>(st.row r hr).2,hW1⟩,by rw[st.len];exact wt,hW2,st.pot,sb4.trans st.sb⟩
def Nt{a b:List Nat}(hl:a.length=b.length)(h:∀i,i<a.length->ga a i=ga b i):a=b:=by
 apply List.ext_getElem hl;intro i h1 h2;have:=h i h1
 rwa [iQ h1,iQ h2]at this
def q9(R:List (List Nat))(k:Nat):(km R k).length=R.length:=by simp[km]
def Cm{n j:Nat}{d:D}(h:((List.range n).map nD)[j]?=some d):j<n/\d=nD j:=by
 have hj:j<n:=by have:=(Uj.mp h).1;simpa using this
 rw[UG,Vs hj]at h;exact⟨hj,(Uo h).symm⟩
def um{n:Nat}{a:List Nat}(ha:a.length=n):a.sum=S n (ga a):=by rw[<-ha,Mv]
def zQ{R:List (List Nat)}{W k:Nat}(wk:WK R W):∀l∈km R k,l.length=R.length/\l.sum=W^k:=λl hl=>by obtain⟨x,hx,rfl⟩:=Vk.mp hl;have hx':=Vv.mp hx;exact⟨pK (fj _ _) k,by rw[zF wk (fj _ _),yQ hx',Nat.one_mul]⟩
def Gf{a b:Nat}(h:a<2^b){c:Nat}(hc:b<=c):a<2^c:=Um h (Wo (by decide) hc)
noncomputable def dg:=aG 2 2 (m7 rQ)
def uR{x low:Nat}(h:low<=x):dg [nD x,nD low]=pure .non:=by
 have e:(rd (JT (nD x) (nD low)):DM D)=pure (.bl false):=by rw[GR,Vm (by lia)]
 simp[dg,m7,xO,e]
noncomputable def pZ:=aG 2 2 (lQ iD wC)
def WK.pow{R:List (List Nat)}{W t:Nat}(wk:WK R W):WK (km R t) (W^t):=
 ⟨by rw[q9];exact wk.n1,by rw[q9];exact wk.n25,λl hl=>by rw[q9];exact (zQ wk l hl).1,λl hl=>(zQ wk l hl).2,Nat.pow_pos wk.w1⟩
def Nx{R:List (List Nat)}{W t:Nat}(wk:WK R W)(hW:W<2^60)(h1:1<=t)(ht:t<=100):pZ [aW R W,nD t]=pure (aW (km R t) (W^t)):=by
 have e:(rd (eE (nD t) (.int 0)):DM D)=pure (.bl false):=by have:=dB t 0;rw[Vm (by lia)]at this;exact this
 simp[pZ,lQ,e,sZ (m := "power") (by decide),Px wk hW ht,ie wk.pow]
noncomputable def gR(R:List (List Nat)):Nat:=R.foldl (λg r=>r.foldl Nat.gcd g) 0
noncomputable def qw(R:List (List Nat)):List (List Nat):=R.map λr=>r.map (·/ gR R)
def Fe{R:List (List Nat)}:∀ r∈R,∀ n∈r,gR R ∣ n:=by
 have key:∀ (R:List (List Nat)) (g:Nat),R.foldl (λg r=>r.foldl Nat.gcd g) g ∣ g/\∀ r∈R,∀ n∈r,R.foldl (λg r=>r.foldl Nat.gcd g) g ∣ n:=by
  intro R;induction R with
  |nil=>exact λg=>⟨Nat.dvd_refl _,λr h=>absurd h (by simp)⟩
  |cons r R ih=>
    intro g;obtain⟨h1,h2⟩:=ih (r.foldl Nat.gcd g);obtain⟨k1,k2⟩:=vB r g;refine⟨Nat.dvd_trans h1 k1,λr' hr n hn=>?_⟩
    rcases Uw.mp hr with rfl | q
    ·exact Nat.dvd_trans h1 (k2 n hn)
    ·exact h2 r' q n hn
 exact (key R 0).2
theorem yM:∀{l:List Nat},(∀n∈l,n=0)->l.sum=0
 |[],_=>rfl
 |a::l,h=>by rw[W5,h a (by simp),yM λn hn=>h n (by simp[hn])]
def xG{R:List (List Nat)}{W:Nat}(wk:WK R W):0<gR R:=by
 rcases WF (gR R) with z | z
 ·have h:=wk.head;have e:=wk.sum _ h;have:(gr R 0).sum=0:=yM λn hn=>by have:=Fe _ h n hn;rw[z]at this;exact Nat.eq_zero_of_zero_dvd this
  have:=wk.w1
  lia
 ·exact z
def Ly{R:List (List Nat)}{r:List Nat}(hr:r∈R):r=(r.map (·/ gR R)).map (gR R * ·):=by
 rw[VJ]
 conv=>lhs;rw[<-List.map_id r]
 exact Wi λn hn=>(Nat.mul_div_cancel' (Fe r hr n hn)).symm
def WK.plain{R:List (List Nat)}{W:Nat}(wk:WK R W):WK (qw R) (W / gR R):=by
 have g0:=xG wk;have sm:∀r∈R,(r.map (·/ gR R)).sum*gR R=W:=λr hr=>by rw[Xg,<-Ah,<-Ly hr,wk.sum r hr]
 refine⟨by simp[qw];exact wk.n1,by simp[qw];exact wk.n25,λl hl=>?_,λl hl=>?_,?_⟩
 ·obtain⟨r,hr,rfl⟩:=Vk.mp hl;simp[qw,wk.row r hr]
 ·obtain⟨r,hr,rfl⟩:=Vk.mp hl;exact (Nat.div_eq_of_eq_mul_left g0 (sm r hr).symm).symm
 ·have:=sm _ wk.head;rw[<-this,Nat.mul_div_cancel _ g0];rcases WF ((gr R 0).map (·/ gR R)).sum with z | z
  ·rw[z]at this;have:=wk.w1;lia
  ·exact z
def fF{k:Nat}{tg:D->aa->DM aa}{fb:aa->DM Fl}{l:List D}{δ:aa}:jf k tg fb (.fix l) δ=forL tg fb l δ:=rfl
noncomputable def Dh:=aG 1 4 (sG rP iD)
theorem xH{f:aa->DM Fl}{x y:Option D}(h:∀ (g n:Nat),f [x,some (nD g),y,some (nD n)]=pure (.nx [x,some (nD (Nat.gcd g n)),y,some (nD n)])):∀ (l:List Nat) (g:Nat) z,∃ u,forL (gN 3) f (l.map nD) [x,some (nD g),y,z]=pure (.nx [x,some (nD (l.foldl Nat.gcd g)),y,u])
 |[],g,z=>⟨z,rfl⟩
 |n::l,g,z=>by obtain⟨u,hu⟩:=xH h l (Nat.gcd g n) (some (nD n));refine⟨u,?_⟩;simp[forL,h,hu]
theorem uB{f:aa->DM Fl}{x:Option D}(h:∀ (g:Nat) (r:List Nat) z,∃ u,f [x,some (nD g),some (nT r),z]=pure (.nx [x,some (nD (r.foldl Nat.gcd g)),some (nT r),u])):∀ (R:List (List Nat)) (g:Nat) y z,∃ u v,forL (gN 2) f (R.map nT) [x,some (nD g),y,z]=pure (.nx [x,some (nD (R.foldl (λg r=>r.foldl Nat.gcd g) g)),u,v])
 |[],g,y,z=>⟨y,z,rfl⟩
 |r::R,g,y,z=>by obtain⟨u1,h1⟩:=h g r z;obtain⟨u,v,hu⟩:=uB h R (r.foldl Nat.gcd g) (some (nT r)) u1;refine⟨u,v,?_⟩;simp[forL,h1,hu]
def Gw{R:List (List Nat)}{W:Nat}(wk:WK R W)(hW:W<2 ^ 60):Dh [aW R W]=pure (aW (qw R) (W / gR R)):=by
 have n2:=wk.n25;have g0:=xG wk;have gb:gR R<2^1000:=by
  have h:=wk.plain.w1;have:gR R<=W:=by
   rcases Nat.lt_or_ge W (gR R) with z | z
   ·rw[Nat.div_eq_of_lt z]at h;lia
   ·exact z
  exact Wl this (Um hW (Wo (by decide) (by decide)))
 obtain⟨u,v,hu⟩:=uB (x:=some (aW R W)) (f:=λδ=>opt δ[2]?.join>>=λd=>opt (rY d)>>=λit=>jf 0 (gN 3) (λδ=>opt δ[1]?.join>>=λa=>opt δ[3]?.join>>=λb=>rP [a,b]>>=λd=>pure (Fl.nx (δ.set 1 (some d)))) it δ) (λg r z=>by
  obtain⟨u,hu⟩:=xH (x:=some (aW R W)) (y:=some (nT r)) (f:=λδ=>opt δ[1]?.join>>=λa=>opt δ[3]?.join>>=λb=>rP [a,b]>>=λd=>pure (Fl.nx (δ.set 1 (some d)))) (λg n=>by simp[NP]) r g z
  exact⟨u,by simp[eG,fF,hu]⟩) R 0 none none
 simp[Dh,sG,bH,cV,fF];rw[show (D.int 0)=nD 0 from rfl,hu]
 simp[bH,cV,aP,aV];rw[cI nT (λr=>nT (r.map (·/ gR R))) (by lia) (λr hr=>by
  simp[eG,aP,aV];rw[cI nD (λn=>nD (n / gR R)) (by have:=wk.row r hr;lia) (λn hn=>by show (rd (lV (nD n) (nD (gR R))):DM D)=_;exact yt g0 gb)]
  simp[nT,Function.comp_def])]
 have e:D.tup (R.map λr=>nT (r.map (·/ gR R)))=nM (qw R):=by simp[nM,qw,Function.comp_def]
 simp[e,ie wk.plain]
theorem Fj{β:Type}{fe:aa->DM D}{A:Option D}{rest:aa}(enc:β->D)(e:β->D):∀ (bs:List β) (y:Option D) (l:List D),l.length + bs.length<=1000000->(∀ b∈bs,fe (A::some (enc b)::rest)=pure (e b))->
  ∃y',aZ (gN 1) (λz=>pure true) (bB fe) (bs.map enc) (A::y::rest) l=pure (A::y'::rest,l++bs.map e)
 |[],y,l,_,_=>⟨y,by simp[aZ]⟩
 |b::bs,y,l,hl,h=>by
   have c:=h b (by simp)
   have hl':l.length+(bs.length+1)<=1000000:=by simpa using hl
   have lt:l.length<sizeLine:=by show l.length<2^24;lia
   obtain⟨y',q⟩:=Fj (rest:=rest) enc e bs (some (enc b)) (l++[e b]) (by simp;lia) (λb hb=>h b (by simp[hb]))
   exact⟨y',by simp[aZ,bB,c,lt,q]⟩
theorem Ec{α β:Type}{fi:aa->DM Itn}{fe:aa->DM D}{rest:aa}(enc:α->D)(enc':β->D)(e:α->β->D)(bs:List β):∀ (as:List α) (x y:Option D) (l:List D),l.length + as.length * bs.length<=1000000->
  (∀a∈as,∀y,fi (some (enc a)::y::rest)=pure (.fix (bs.map enc')))->(∀a∈as,∀b∈bs,fe (some (enc a)::some (enc' b)::rest)=pure (e a b))->
  ∃δ',aZ (gN 0) (λz=>pure true) (oM fi (gN 1) (λz=>pure true) (bB fe)) (as.map enc) (x::y::rest) l=pure (δ',l++as.flatMap λa=>bs.map (e a))
 |[],x,y,l,_,_,_=>⟨x::y::rest,by simp[aZ]⟩
 |a::as,x,y,l,hl,h1,h2=>by
   have hl':l.length+(as.length*bs.length+bs.length)<=1000000:=by rw[<-Xi];simpa using hl
   obtain⟨y',q⟩:=Fj (A:=some (enc a)) (rest:=rest) enc' (e a) bs y l (by lia) (λb hb=>h2 a (by simp) b hb)
   obtain⟨δ',q'⟩:=Ec (rest:=rest) enc enc' e bs as (some (enc a)) y' (l++bs.map (e a)) (by simp;lia) (λa ha=>h1 a (by simp[ha])) (λa ha=>h2 a (by simp[ha]))
   exact⟨δ',by simp[aZ,oM,h1 a (by simp),bW,q,q']⟩
def Ed{α β γ:Type}{fi:aa->DM Itn}{fe:aa->DM D}{x y:Option D}{rest:aa}{as:List α}{k:aa×List D->DM γ}{r:DM γ}(enc:α->D)(enc':β->D)(e:α->β->D)(bs:List β)(hl:as.length*bs.length<=1000000)
  (h1:∀a∈as,∀y,fi (some (enc a)::y::rest)=pure (.fix (bs.map enc'))) (h2:∀a∈as,∀b∈bs,fe (some (enc a)::some (enc' b)::rest)=pure (e a b)) (hk:∀δ',k (δ',as.flatMap λa=>bs.map (e a))=r) :
  (bU (aZ (gN 0) (λz=>pure true) (oM fi (gN 1) (λz=>pure true) (bB fe)) (as.map enc) (x::y::rest) [])>>=k)=r:=by
 obtain⟨δ',q⟩:=Ec (x:=x) (y:=y) (l:=[]) (rest:=rest) enc enc' e bs as (by simpa using hl) h1 h2
 rw[q];simp[hk]
def lA{fg:D->aa->DM aa}{ft:aa->DM Bool}{fb:aa->List D->DM (aa×List D)}{ds:List D}{δ:aa}{l:List D}:bW fg ft fb (.fix ds) δ l=aZ fg ft fb ds δ l:=rfl
noncomputable def cross(a b:List Nat):List Nat:=a.flatMap λw=>b.map (w * ·)
noncomputable def kron(R Q:List (List Nat)):List (List Nat):=R.flatMap λr=>Q.map λq=>cross r q
theorem lW{α β:Type}{f:α->List β}{m:Nat}:∀ {l:List α},(∀ x∈l,(f x).length=m)->(l.flatMap f).length=l.length * m
 |[],_=>by simp
 |x::l,h=>by rw[List.flatMap_cons,Uz,h x (by simp),lW λy hy=>h y (by simp[hy]),Vn,Xi,Nat.add_comm]
theorem zx{α β:Type}{f:α->List β}{m j:Nat}(hj:j<m):∀ {l:List α} (i:Nat),(∀ x∈l,(f x).length=m)->(l.flatMap f)[i * m + j]?=l[i]?.bind λx=>(f x)[j]?
 |[],i,_=>by simp
 |x::l,0,h=>by
   rw[List.flatMap_cons,Nat.zero_mul,Vq,Uu (by rw[h x (by simp)];exact hj)]
   rfl
 |x::l,i+1,h=>by
   rw[List.flatMap_cons,Vi (by rw[h x (by simp),Xi];lia),h x (by simp)]
   have:(i+1)*m+j-m=i*m+j:=by rw[Xi];lia
   rw[this,zx hj i λy hy=>h y (by simp[hy])]
   rfl
def Br{l:List Nat}{i v:Nat}(h:l[i]?=some v):ga l i=v:=by unfold ga;rw[U9,h];rfl
def vz(a b:List Nat):(cross a b).length=a.length*b.length:=lW λz z=>by simp
def HX{a b:List Nat}{i j:Nat}(hi:i<a.length)(hj:j<b.length):ga (cross a b) (i*b.length+j)=ga a i*ga b j:=by
 refine Br ?_;rw[cross,zx hj i (λz z=>by simp),Uq hi,iQ hi,iQ hj]
 simp[hj]
def qY(R Q:List (List Nat)):(kron R Q).length=R.length*Q.length:=lW λz z=>by simp
theorem wG(f:Nat->Nat)(m:Nat):∀ k,S (m + k) f=S m f + S k (λj=>f (m + j))
 |0=>rfl
 |k+1=>by
   show S (m+k) f+f (m+k)=S m f+(S k (λj=>f (m+j))+f (m+k))
   rw[wG f m k,Nat.add_assoc]
theorem Dq(f:Nat->Nat)(m:Nat):∀ n,S (n * m) f=S n (λi=>S m (λj=>f (i * m + j)))
 |0=>by rw[Nat.zero_mul];rfl
 |n+1=>by rw[Xi,wG,Dq f m n];rfl
def QC(f g:Nat->Nat)(n m:Nat):S n f*S m g=S n (λi=>S m (λj=>f i*g j)):=by rw[<-Dn];exact dI λi z=>(wH _ _ _).symm
def Ek(a b:List Nat):(cross a b).sum=a.sum*b.sum:=by rw[um (vz a b),Dq,um (n:=a.length) rfl,um (n:=b.length) rfl,QC];exact dI λi hi=>dI λj hj=>HX hi hj
theorem WK.kron{R Q:List (List Nat)}{W V:Nat}(h1:WK R W)(h2:WK Q V)(h:R.length*Q.length<=25):WK (K.kron R Q) (W*V):=by
 have mem:∀l∈K.kron R Q,∃r∈R,∃q∈Q,l=cross r q:=λl hl=>by obtain⟨r,hr,hl⟩:=List.mem_flatMap.mp hl;obtain⟨q,hq,rfl⟩:=Vk.mp hl;exact⟨r,hr,q,hq,rfl⟩
 refine⟨by rw[qY];exact Nat.mul_pos h1.n1 h2.n1,by rw[qY];exact h,λl hl=>?_,λl hl=>?_,Nat.mul_pos h1.w1 h2.w1⟩
 ·obtain⟨r,hr,q,hq,rfl⟩:=mem l hl;rw[vz,qY,h1.row r hr,h2.row q hq]
 ·obtain⟨r,hr,q,hq,rfl⟩:=mem l hl;rw[Ek,h1.sum r hr,h2.sum q hq]
noncomputable def vg:=aG 2 3 (qK iD nZ)
def MT{R Q:List (List Nat)}{W V:Nat}(h1:WK R W)(h2:WK Q V)(hW:W<2 ^ 60)(h:R.length * Q.length<=25):vg [aW R W,aW Q V]=pure (aW (kron R Q) (W * V)):=by
 have a1:=h1.n25;have a2:=h2.n25;have m:(rd (cG (nD R.length) (nD Q.length)):DM D)=pure (nD (R.length*Q.length)):=dC (by lia)
 have g:(rd (xK (nD (R.length*Q.length)) (.int 25)):DM D)=pure (.bl false):=by have:=tX (R.length*Q.length) 25;rw[Vm (by lia)]at this;exact this
 simp[vg,qK,lC a1,lC a2,m,g,bH,cV,aP,aV,lA];refine Ed nT nT (λr q=>nT (cross r q)) Q (by lia) (λr hr y=>by simp[bH,cV]) (λr hr q hq=>?_) (λδ'=>?_)
 ·have l1:=h1.row r hr;have l2:=h2.row q hq;simp[eG,aP,aV,lA];refine Ed nD nD (λw v=>nD (w*v)) q (by rw[l1,l2];lia) (λw hw y=>by simp[eG]) (λw hw v hv=>?_) (λδ'=>?_)
  ·show (rd (cG (nD w) (nD v)):DM D)=_;have:=h1.le hr hw;exact PX (by lia)
  ·simp[cross,nT,List.map_flatMap,Function.comp_def]
 ·have e:D.tup (R.flatMap λr=>Q.map λq=>nT (cross r q))=nM (kron R Q):=by simp[nM,kron,List.map_flatMap,Function.comp_def]
  simp[e,ie (h1.kron h2 h)]
def Lw{a b:List D}(h:a.length+b.length<=1000000):(rd (iW (.lst a) (.lst b)):DM D)=pure (.lst (a++b)):=cH λM=>by
 have:gf (a++b)=true:=by unfold gf;exact U8 (by show (a++b).length<=2^24;rw[Uz];lia)
 simp[iW,aR,Ov,this]
def QD{n x:Nat}{f:Nat->Nat}(hx:x<n)(h:∀i,i<n->i≠x->f i=0):S n f=f x:=by
 have e:S n f=S n (up (λz=>0) x (f x)):=dI λi hi=>by
  by_cases q:i=x
  ·subst q;rw[Ak]
  ·rw[CV q,h i hi q]
 have:S n (up (λz=>0) x (f x))+0=S n (λz=>0)+f x:=Hy (f:=λz=>0) hx
 rw[rW (f:=λz=>0) λz z=>rfl]at this
 lia
def OD{c:Nat}{l:List Nat}{i:Nat}:ga (l.map (c * ·)) i=c*ga l i:=by
 by_cases h:i<l.length
 ·rw[iQ (by simpa using h),iQ h];simp
 ·rw[sX (by simpa using h),sX (by lia),Nat.mul_zero]
def Bs{R:List (List Nat)}{i:Nat}{v:List Nat}(h:R[i]?=some v):gr R i=v:=by unfold gr;rw[U9,h];rfl
structure LzS(M0 M:Mo)(n:Nat)(A:Nat->List Nat):Prop where
 len:M.length=M0.length+n
 keep:∀q,q<M0.length->M[q]?=M0[q]?
 row:∀x,x<n->M[M0.length+x]?=some (.lst ((A x).map nD))
noncomputable def Tc(M0:Mo)(R:List (List Nat))(go:Nat)(rest:aa)(i:Nat)(δ:aa)(l:List D)(M:Mo):Prop:=(∃z,δ=z::rest)/\l=(List.range i).map (λx=>D.ref (M0.length+x))/\LzS M0 M i (λx=>(gr R x).map (·* go))
def Cq{R:List (List Nat)}{j:Nat}{d:D}(h:(R.map nT)[j]?=some d):∃hj:j<R.length,d=nT (gr R j):=by
 have hj:j<R.length:=by have:=(Uj.mp h).1;simpa using this
 refine⟨hj,?_⟩;rw[UG,Uq hj]at h;rw[JP hj];exact (Uo h).symm
noncomputable def refs(b n:Nat):D:=.lst ((List.range n).map λx=>D.ref (b+x))
def KZ{b n x:Nat}(h:x<n):(rd (gk (refs b n) (nD x)):DM D)=pure (.ref (b+x)):=tZ (by rw[UG,Vs h];rfl)
noncomputable def cJ(R:List (List Nat))(W stay go i x:Nat):List Nat:=if x<i then ((gr R x).map (·* go)).set x (ga (gr R x) x*go+stay*W) else (gr R x).map (·* go)
noncomputable def eF(R:List (List Nat))(W stay go:Nat):List (List Nat):=(List.range R.length).map (cJ R W stay go R.length)
noncomputable def Te(M0:Mo)(R:List (List Nat))(W stay go:Nat)(i:Nat)(δ:aa)(M:Mo):Prop:=(∃z,δ=[some (aW R W),some (nD stay),some (nD go),some (refs M0.length R.length),z])/\LzS M0 M R.length (cJ R W stay go i)
noncomputable def S9(M0:Mo)(f:Nat->List Nat)(i:Nat)(δ:aa)(l:List D)(M:Mo):Prop:=(∃z,δ=[z])/\l=(List.range i).map (λx=>nT (f x))/\M=M0
noncomputable def mY:=aG 3 5 (sE dg iD nZ)
def K7{c:Nat}{l:List Nat}{i:Nat}:ga (l.map (·* c)) i=ga l i*c:=by
 have:(l.map (·* c))=l.map (c * ·):=Wi λx z=>Xg _ _
 rw[this,OD,Xg]
def JV{R:List (List Nat)}{W:Nat}(wk:WK R W){stay go x:Nat}(hx:x<R.length)(y:Nat):ga (gr (eF R W stay go) x) y=ga (gr R x) y*go+(if y=x then stay*W else 0):=by
 have e:gr (eF R W stay go) x=cJ R W stay go R.length x:=by refine Bs ?_;unfold eF;rw[UG,Vs hx];rfl
 rw[e];unfold cJ;rw[Uv hx];have l:=wk.row _ (gr_mem hx);by_cases q:y=x
 ·subst q;rw[Uv rfl];refine Br ?_;rw[U3 (by simp;lia)]
 ·rw[Ux q,Hc (λz=>q z.symm),K7,Nat.add_zero]
def WK.lazy{R:List (List Nat)}{W:Nat}(wk:WK R W){stay go:Nat}(hg:1<=go):WK (eF R W stay go) (W * go + stay * W):=by
 have len:(eF R W stay go).length=R.length:=by simp[eF]
 have rl:∀x,x<R.length->(gr (eF R W stay go) x).length=R.length:=λx hx=>by
  have e:gr (eF R W stay go) x=cJ R W stay go R.length x:=by refine Bs ?_;unfold eF;rw[UG,Vs hx];rfl
  rw[e];unfold cJ;rw[Uv hx,Vx,UV,wk.row _ (gr_mem hx)]
 have mem:∀l∈eF R W stay go,∃x,x<R.length/\l=gr (eF R W stay go) x:=λl hl=>by obtain⟨x,hx,e⟩:=Wr.mp hl;rw[len]at hx;exact⟨x,hx,by rw[JP (by rw[len];exact hx),e]⟩
 refine⟨by rw[len];exact wk.n1,by rw[len];exact wk.n25,λl hl=>?_,λl hl=>?_,?_⟩
 ·obtain⟨x,hx,rfl⟩:=mem l hl;rw[len];exact rl x hx
 ·obtain⟨x,hx,rfl⟩:=mem l hl;rw[um (rl x hx),dI (λy z=>JV wk hx y),Ar,Dn,<-um (wk.row _ (gr_mem hx)),wk.sum _ (gr_mem hx),QD hx (λi hi q=>Ux q),Uv rfl]
 ·have:=Nat.mul_pos wk.w1 hg
  lia
def Mx(a b:Nat):(rd (cF (λz z=>true) (λi j=>D.int (i+j)) (nD a) (nD b)):DM D)=pure (nD (a+b)):=cH λM=>by simp[cF,nD]
def Gg{R:List (List Nat)}{W stay go:Nat}(M:Mo)(wk:WK R W)(hW:W<2 ^ 60)(hs:stay<2 ^ 60)(hg:1<=go)(hg2:go<2 ^ 60):Rn (mY [aW R W,nD stay,nD go]) M λd M'=>d=aW (eF R W stay go) (W * go + stay * W)/\∀ (j:Nat) (o:DO),M[j]?=some o->M'[j]?=some o:=by
 have n2:=wk.n25;unfold mY sE tV;dsimp only;refine Rn.call rfl ?_;have st:b7 5 [aW R W,nD stay,nD go]=[some (aW R W),some (nD stay),some (nD go),none,none]:=rfl;rw[st];have r0:dg [nD stay,.int 0]=pure .non:=uR (low:=0) (by lia)
 have r1:dg [nD go,.int 1]=pure .non:=uR (low:=1) hg;refine aM λK hK=>?_
 simp[r0];rw[hK];clear hK K;refine aM λK hK=>?_
 simp[r1];rw[hK];clear hK K;refine aM λK hK=>?_
 simp[bH,cV,aP,aV,lA];refine Rn.bind (wF (jU (Tc M R go [some (nD go)]) (R.map nT) 0 _ _ _ ⟨⟨none,rfl⟩,rfl,rfl,λw w=>rfl,λx h=>by lia⟩ (λj d δ l M1 hj hI=>?_))) λpr M2 hI=>?_
 ·obtain ⟨⟨z,rfl⟩,rfl,L⟩:=hI;rw[Vq]at *;obtain⟨hj',rfl⟩:=Cq hj;have rl:=wk.row _ (gr_mem hj');have cp:=cI (x:=none) (rest:=[some (nD go)]) (as:=gr R j) (fe:=λδ=>opt δ[0]?.join>>=λx=>opt δ[1]?.join>>=λy=>rd (cG x y)) nD (λv=>nD (v*go)) (by lia) (λv hv=>by show (rd (cG (nD v) (nD go)):DM D)=_;exact dC (by lia))
  have lt:j<sizeLine:=by show j<2^24;lia
  simp[bB,eG,lA,aP,aV,cp];refine Rn.run (show (Out.run Out.sto _) M1=some (.ok (.ref M1.length),M1++[.lst _]) from rfl) ?_
  simp only[lt,if_true];refine Rn.pure ⟨⟨_,rfl⟩,?_,by simp[L.len];lia,λq hq=>by rw[Uu (by have:=L.len;lia)];exact L.keep q hq,λx hx=>?_⟩
  ·show _++[D.ref M1.length]=_;rw[Yt,XH,L.len];simp
  ·by_cases e:x=j
   ·subst e;rw[show M.length+x=M1.length by rw[L.len],List.getElem?_concat_length]
    simp[Function.comp_def]
   ·rw[Uu (by have:=L.len;lia)]
    exact L.row x (by lia)
 obtain⟨_,e1,L⟩:=hI;rw[Vq,UV]at e1 L;have er:D.lst pr.2=refs M.length R.length:=by rw[e1];rfl
 rw[er,hK];clear hK K er e1;refine aM λK hK=>?_
 simp[lC n2,dD (n:=R.length) (by lia),fF]
 refine Rn.bind (cj (Te M R W stay go) _ 0 _ _ ⟨⟨none,rfl⟩,L.len,L.keep,λx hx=>by rw[L.row x hx];unfold cJ;rw[Ux (Nat.not_lt_zero _)]⟩ (λj d δ M3 hj hI=>?_)) (λr M3 hI=>?_)
 ·obtain⟨⟨z,rfl⟩,L⟩:=hI;obtain⟨hj',rfl⟩:=Cm hj;rw[Vq]at *;have hr:=L.row j hj';have rl:=wk.row _ (gr_mem hj');have ej:cJ R W stay go j j=(gr R j).map (·* go):=by unfold cJ;rw[Ux (V1 _)]
  rw[ej]at hr;have at_:(((gr R j).map (·* go)).map nD)[j]?=some (nD (ga (gr R j) j*go)):=by rw[UG,UG,Uq (by lia),iQ (by lia)];rfl
  have m1:(rd (cG (nD stay) (nD W)):DM D)=pure (nD (stay*W)):=dC (by lia)
  simp[KZ hj',EY,m1];refine Rn.bindRd _ (KY hr at_) ?_;simp only[Mx,aF];refine Rn.run (pU hr (i:=j) (by simp;lia)) ?_
  refine Rn.pure ⟨_,rfl,⟨_,rfl⟩,by rw[Vx];exact L.len,λq hq=>by rw[Vl (by lia)];exact L.keep q hq,λx hx=>?_⟩
  by_cases e:x=j
  ·subst e;rw[U3 (Uj.mp hr).1];unfold cJ;rw[Uv (VL _),List.map_set]
  ·rw[Vl (by lia),L.row x hx]
   unfold cJ;by_cases q:x<j
   ·rw[Uv q,Uv (by lia)]
   ·rw[Ux q,Ux (by lia)]
 ·obtain ⟨δ',rfl,⟨z,rfl⟩,L⟩:=hI;rw[Vq,UV,Wt]at L;rw[hK];clear hK K;have al:(rd (Dr (refs M.length R.length)):DM Itn)=pure (.fix ((List.range R.length).map λx=>D.ref (M.length+x))):=rfl
  simp[al,lA,aP,aV];refine Rn.bind (wF (jU (S9 M3 (cJ R W stay go R.length)) _ 0 _ _ _ ⟨⟨none,rfl⟩,rfl,rfl⟩ (λj d δ l M4 hj hI=>?_))) λpr M4 hI=>?_
  ·obtain⟨⟨z,rfl⟩,rfl,rfl⟩:=hI;have hj':j<R.length:=by have:=(Uj.mp hj).1;simpa using this
   rw[UG,Vs hj']at hj;have hd:=(Uo hj).symm;subst hd;have lt:j<sizeLine:=by show j<2^24;lia
   rw[Vq];simp[bB];refine Rn.bindRd (nT (cJ R W stay go R.length j)) (by have:=L.row j hj';simp[pq,mQ,aR,this,nT]) ?_
   simp only[lt,if_true];refine Rn.pure ⟨⟨_,rfl⟩,?_,rfl⟩;rw[Yt,XH];rfl
  ·obtain⟨_,e1,rfl⟩:=hI;have er:D.tup pr.2=nM (eF R W stay go):=by rw[e1];simp[nM,eF,Function.comp_def]
   rw[er,ie (wk.lazy hg)];simp only[aF];exact Rn.pure ⟨_,rfl,rfl,λj o e=>by rw[L.keep j (Uj.mp e).1];exact e⟩
def Kp(M M':Mo):Prop:=∀(j:Nat) (o:DO),M[j]?=some o->M'[j]?=some o
def Kp.app{M:Mo}{o:DO}:Kp M (M++[o]):=λj u e=>by rw[Uu (Uj.mp e).1];exact e
theorem Kp.set{M M':Mo}{n:Nat}{o:DO}(h:Kp M M')(hn:M.length<=n):Kp M (M'.set n o):=λj u e=>by have:=(Uj.mp e).1;rw[Vl (by lia)];exact h j u e
noncomputable def wB:=aG 1 4 (jK rO)
def zJ{R:List (List Nat)}{W:Nat}(wk:WK R W)(hW:W<2 ^ 60):wB [nM R]=pure (nM (qw R)):=by
 have n2:=wk.n25;have g0:=xG wk;have gb:gR R<2^1000:=by
  have h:=wk.plain.w1;have:gR R<=W:=by
   rcases Nat.lt_or_ge W (gR R) with z | z
   ·rw[Nat.div_eq_of_lt z]at h;lia
   ·exact z
  exact Wl this (Um hW (Wo (by decide) (by decide)))
 obtain⟨u,v,hu⟩:=uB (x:=some (nM R)) (f:=λδ=>opt δ[2]?.join>>=λd=>opt (rY d)>>=λit=>jf 0 (gN 3) (λδ=>opt δ[1]?.join>>=λa=>opt δ[3]?.join>>=λb=>rO [a,b]>>=λd=>pure (Fl.nx (δ.set 1 (some d)))) it δ) (λg r z=>by
  obtain⟨u,hu⟩:=xH (x:=some (nM R)) (y:=some (nT r)) (f:=λδ=>opt δ[1]?.join>>=λa=>opt δ[3]?.join>>=λb=>rO [a,b]>>=λd=>pure (Fl.nx (δ.set 1 (some d)))) (λg n=>by simp[NK]) r g z
  exact⟨u,by simp[eG,fF,hu]⟩) R 0 none none
 simp[wB,jK,cV,fF];rw[show (D.int 0)=nD 0 from rfl,hu]
 simp[cV,aP,aV];rw[cI nT (λr=>nT (r.map (·/ gR R))) (by lia) (λr hr=>by
  simp[eG,aP,aV];rw[cI nD (λn=>nD (n / gR R)) (by have:=wk.row r hr;lia) (λn hn=>by show (rd (lV (nD n) (nD (gR R))):DM D)=_;exact yt g0 gb)]
  simp[nT,Function.comp_def])]
 have e:D.tup (R.map λr=>nT (r.map (·/ gR R)))=nM (qw R):=by simp[nM,qw,Function.comp_def]
 simp[e]
def Ei{fe:aa->DM D}{rest:aa}{n:Nat}{h R:Nat->D}{x y:Option D}(hn:n<=1000)(hf:∀ j,j<n->fe (some (nD j)::some (h j)::rest)=pure (R j)){β:Type}{k:aa×List D->DM β}(k':List D->DM β)(hk:∀ q,k q=k' q.2):
  (bU (aZ (gT 2 (bK (gN 0) (bK (gN 1) fQ))) (λz=>pure true) (bB fe) ((List.range n).map λj=>.tup [nD j,h j]) (x::y::rest) [])>>=k)=k' ((List.range n).map R):=by
 let f1:D->D:=λd=>match d with | .tup [a,b]=>a | _=>.non
 let f2:D->D:=λd=>match d with | .tup [a,b]=>b | _=>.non
 let e:D->D:=λd=>match d with | .tup [.int i,_]=>R i.toNat | _=>.non
 obtain ⟨δ',q⟩:=qZ (fg:=gT 2 (bK (gN 0) (bK (gN 1) fQ))) (ft:=λz=>pure true) (fe:=fe) (λδ=>∃ x y,δ=x::y::rest) (λd=>some (f1 d)::some (f2 d)::rest) (λz=>true) e ((List.range n).map λj=>.tup [nD j,h j]) (x::y::rest) [] ⟨x,y,rfl⟩ (by simp;lia)
  (λd hd δ ⟨x,y,hδ⟩=>by
    obtain⟨j,_,rfl⟩:=Vk.mp hd;exact⟨by subst hδ;rfl,_,_,rfl⟩) (λd z=>rfl) (λd hd z=>by
    obtain⟨j,hj,rfl⟩:=Vk.mp hd;have:=hf j (Vv.mp hj);show fe (some (nD j)::some (h j)::rest)=pure (R (j:Int).toNat);rw[V3];exact this)
 have m:(((List.range n).map λj=>D.tup [nD j,h j]).filter λz=>true).map e=(List.range n).map R:=by
  rw[XC.mpr (λz z=>rfl),VJ]
  refine Wi λj z=>?_
  show R (j:Int).toNat=R j;rw[V3]
 rw[q,m];simp[hk]
def OJ{α:Type}(f:α->D)(l:List α)(d:α):l.map f=(List.range l.length).map λx=>f (l.getD x d):=by
 refine List.ext_getElem (by simp) λi h1 h2=>?_
 have:i<l.length:=by simpa using h1
 simp[List.getD_eq_getElem?_getD,List.getElem?_eq_getElem this]
theorem tH(h:Nat->D):∀ (n k:Nat),ik k ((List.range' k n).map h)=(List.range' k n).map λj=>.tup [nD j,h j]
 |0,k=>rfl
 |n+1,k=>by rw[List.range'_succ,Vo,Vo];show D.tup [.int (k:Int),h k]::ik (k+1) _=_;rw[tH h n (k+1)];rfl
def Ew{α:Type}(f:α->D)(l:List α)(d:α):pJ [.tup (l.map f)]=some (.fix ((List.range l.length).map λj=>.tup [nD j,f (l.getD j d)])):=by show some (Itn.fix (ik 0 (l.map f)))=_;rw[OJ f l d,List.range_eq_range',tH]
def QG(R:List (List Nat)):pJ [nM R]=some (.fix ((List.range R.length).map λj=>.tup [nD j,nT (gr R j)])):=Ew nT R []
def QH(l:List Nat):pJ [nT l]=some (.fix ((List.range l.length).map λj=>.tup [nD j,nD (ga l j)])):=Ew nD l 0
noncomputable def my(R:List (List Nat))(W s g x:Nat):List Nat:=(List.range R.length).map λy=>g*ga (gr R x) y+(if x=y then s*W else 0)
def I9{R:List (List Nat)}{W s g:Nat}(wk:WK R W):(List.range R.length).map (my R W s g)=eF R W s g:=by
 refine Wi λx hx=>?_
 have hx:=Vv.mp hx;have e:gr (eF R W s g) x=cJ R W s g R.length x:=Bs (by unfold eF;rw[UG,Vs hx];rfl)
 have rl:=wk.row _ (gr_mem hx);have l2:(cJ R W s g R.length x).length=R.length:=by unfold cJ;rw[Uv hx];simp[rl]
 refine Nt (by simp[my,l2]) λy hy=>?_
 have hy:y<R.length:=by simpa[my] using hy
 rw[<-e,JV wk hx];have:ga (my R W s g x) y=g*ga (gr R x) y+(if x=y then s*W else 0):=Br (by unfold my;rw[UG,Vs hy];rfl)
 rw[this,Xg];congr 1;by_cases z:x=y
 ·rw[Uv z,Uv z.symm]
 ·rw[Ux z,Ux (λq=>z q.symm)]
noncomputable def uq:=aG 3 6 qg
noncomputable def S8(M0:Mo)(R:List (List Nat))(W s g:Nat)(i:Nat)(δ:aa)(M:Mo):Prop:=(∃z1 z2,δ=[some (nM R),some (nD s),some (nD g),some (.ref M0.length),z1,z2])/\M[M0.length]?=some (.lst ((List.range i).map λx=>nT (my R W s g x)))/\Kp M0 M
def zG{R:List (List Nat)}{W s g:Nat}(M:Mo)(wk:WK R W)(hW:W<2 ^ 60)(hs:s<2 ^ 60)(hg:g<2 ^ 60):Rn (uq [nM R,nD s,nD g]) M λd M'=>d=nM (eF R W s g)/\Kp M M':=by
 have n2:=wk.n25;unfold uq qg kI;dsimp only;refine Rn.call rfl ?_;have st:b7 6 [nM R,nD s,nD g]=[some (nM R),some (nD s),some (nD g),none,none,none]:=rfl;rw[st];refine aM λK hK=>?_
 simp;refine Rn.cU (by simp) ?_
 rw[hK];clear hK K;refine aM λK hK=>?_
 simp[QG,fF];refine Rn.bind (cj (S8 M R W s g) _ 0 _ _ ⟨⟨none,none,rfl⟩,by simp,Kp.app⟩ (λj d δ M1 hj hI=>?_)) λr M2 hI=>?_
 ·obtain ⟨⟨z1,z2,rfl⟩,at1,kp⟩:=hI;rw[Vq]at *;have hj':j<R.length:=by simpa using (Uj.mp hj).1
  rw[UG,Vs hj']at hj;cases hj;have rl:=wk.row _ (gr_mem hj');have rs:=wk.sum _ (gr_mem hj');simp[gT,bK,fQ,QH,aP,aV,lA,aR,at1];refine Rn.bindRd _ (by rw[at1]) ?_
  rw[rl,Ei (R:=λy=>nD (g*ga (gr R j) y+if j=y then s*W else 0)) (by lia) (λy hy=>?_) (λl=>Ay (.ref M.length) [.tup l]>>=λx=>pure (Fl.nx [some (nM R),some (nD s),some (nD g),some (D.ref (List.length M)),some (nD j),some (nT (gr R j))])) (λx=>rfl)]
  ·have ar:=uw (v:=.tup ((List.range R.length).map λy=>nD (g*ga (gr R j) y+if j=y then s*W else 0))) at1 (by simp;lia)
   refine Rn.run ar ?_;refine Rn.pure ⟨_,rfl,⟨_,_,rfl⟩,?_,kp.set (Ur _)⟩;rw[U3 (Uj.mp at1).1,Yt,XH];simp[nT,my,Function.comp_def]
  ·have wl:=wk.at_le (gr_mem hj') y;have m1:(rd (cG (nD g) (nD (ga (gr R j) y))):DM D)=pure (nD (g*ga (gr R j) y)):=dC (by lia)
   have m2:(rd (cG (nD s) (nD W)):DM D)=pure (nD (s*W)):=dC (by lia)
   have rs':(rd (yK [nT (gr R j)]):DM D)=pure (nD W):=by rw[Qa,rs]
   simp only[bZ,bj,aK,m1,dB,rs',m2,cQ];by_cases z:j=y
   ·simp[z,rs',m2,oY]
   ·rw[Vm z];simp only[Bool.false_eq_true,if_false,aF,if_neg z];exact oY _ 0
 ·obtain⟨δ',rfl,⟨z1,z2,rfl⟩,at1,kp⟩:=hI;rw[hK];clear hK K;rw[UV,Wt,Vq]at at1;simp only[bZ,bj,aK];refine Rn.bindRd (nM (eF R W s g)) (by show (aR (.ref M.length) M2).map _=_;simp only[aR,at1];rw[<-I9 wk];simp[nM,Function.comp_def]) ?_
  refine Rn.pure ⟨_,rfl,rfl,kp⟩
noncomputable def uo:=aG 2 7 mZ
def Ej(b:List Nat):cross [] b=[]:=rfl
def Bo(w:Nat)(a b:List Nat):cross (w::a) b=b.map (w * ·)++cross a b:=rfl
theorem zH{f:aa->DM Fl}{x0 x1 x2 x3:Option D}{q:List Nat}{B:Nat}(h:∀ (acc:List Nat) (n:Nat),acc.length + q.length<=B->f [x0,x1,x2,x3,some (nT q),some (.lst (acc.map nD)),some (nD n)]=pure (.nx [x0,x1,x2,x3,some (nT q),some (.lst ((acc++q.map (n * ·)).map nD)),some (nD n)])):
  ∀(l acc:List Nat) z,acc.length+l.length*q.length<=B->∃u,forL (gN 6) f (l.map nD) [x0,x1,x2,x3,some (nT q),some (.lst (acc.map nD)),z]=pure (.nx [x0,x1,x2,x3,some (nT q),some (.lst ((acc++cross l q).map nD)),u])
 |[],acc,z,_=>⟨z,by simp[Ej,forL]⟩
 |n::l,acc,z,hl=>by
   rw[Vn,Xi]at hl;obtain⟨u,hu⟩:=zH h l (acc++q.map (n * ·)) (some (nD n)) (by rw[Uz,UV];lia)
   refine⟨u,?_⟩;rw[Vo];simp only[cZ,forL,oZ,aF,h acc n (by lia),hu]
   rw[Bo,V4]
def Ai{R:List (List Nat)}{j:Nat}(h:j<R.length):R.take (j+1)=R.take j++[gr R j]:=by rw[List.take_succ,Uq h];unfold gr;rw[U9,Uq h];rfl
noncomputable def SN(M0:Mo)(R Q:List (List Nat))(i:Nat)(δ:aa)(M:Mo):Prop:=(∃z1 z2 z3 z4,δ=[some (nM R),some (nM Q),some (.ref M0.length),z1,z2,z3,z4])/\M[M0.length]?=some (.lst (((R.take i).flatMap λr=>Q.map λq=>cross r q).map nT))/\Kp M0 M
noncomputable def SQ(M0:Mo)(R Q:List (List Nat))(r:List Nat)(L:List (List Nat))(i:Nat)(δ:aa)(M:Mo):Prop:=(∃z2 z3 z4,δ=[some (nM R),some (nM Q),some (.ref M0.length),some (nT r),z2,z3,z4])/\M[M0.length]?=some (.lst ((L++(Q.take i).map λq=>cross r q).map nT))/\Kp M0 M
def K5{R Q:List (List Nat)}{W V:Nat}(M:Mo)(h1:WK R W)(h2:WK Q V)(hW:W<2 ^ 60)(hV:V<2 ^ 60)(h:R.length * Q.length<=25):Rn (uo [nM R,nM Q]) M λd M'=>d=nM (kron R Q)/\Kp M M':=by
 have n1:=h1.n25;have n2:=h2.n25;unfold uo mZ ir;dsimp only;refine Rn.call rfl ?_;have st:b7 7 [nM R,nM Q]=[some (nM R),some (nM Q),none,none,none,none,none]:=rfl;rw[st];refine aM λK hK=>?_
 simp;refine Rn.cU (by simp) ?_
 rw[hK];clear hK K;refine aM λK hK=>?_
 simp[cV,fF];refine Rn.bind (cj (SN M R Q) _ 0 _ _ ⟨⟨none,none,none,none,rfl⟩,by simp,Kp.app⟩ (λj d δ M1 hj hI=>?_)) λr M2 hI=>?_
 ·obtain ⟨⟨z1,z2,z3,z4,rfl⟩,at1,kp⟩:=hI;rw[Vq]at *;obtain⟨hj',rfl⟩:=Cq hj;have rl:=h1.row _ (gr_mem hj');simp[cV,fF];generalize hL:((R.take j).flatMap λr=>Q.map λq=>cross r q)=L at at1
  have lL:L.length<=25:=by
   rw[<-hL,lW (m:=Q.length) (λx z=>by simp)]
   exact UL (Nat.mul_le_mul_right _ (by rw[W2];lia)) h
  refine Rn.mono (cj (SQ M R Q (gr R j) L) _ 0 _ _ ⟨⟨_,_,_,rfl⟩,by simpa using at1,kp⟩ (λk d δ M3 hk hI=>?_)) λr M4 hI=>?_
  ·obtain ⟨⟨y2,y3,y4,rfl⟩,at3,kp3⟩:=hI;rw[Vq]at *;obtain⟨hk',rfl⟩:=Cq hk;have ql:=h2.row _ (gr_mem hk');have e0:jl []=pure (.lst (([]:List Nat).map nD)):=jZ (by simp)
   rw[oZ,aF];refine aM λK hK=>?_
   simp only[cZ,e0,aF];rw[hK];clear hK K;refine aM λK hK=>?_
   simp only[bZ,bj,aK,eG,fF];obtain⟨u,hu⟩:=zH (f:=λδ=>opt δ[5]?.join>>=λa=>opt δ[4]?.join>>=λa_1=>opt (rY a_1)>>=λa_2=>bU (bW (gN 0) (λz=>pure true) (bB λδ=>opt δ[1]?.join>>=λx=>opt δ[0]?.join>>=λy=>rd (cG x y)) a_2 (aP 1 [6] δ) [])>>=λa_3=>rd (iW a (.lst a_3.snd))>>=λd=>pure (Fl.nx (δ.set 5 (some d)))) (B:=1000000) (x0:=some (nM R)) (x1:=some (nM Q)) (x2:=some (.ref M.length)) (x3:=some (nT (gr R j))) (q:=gr Q k) (λacc n hb=>by
    simp[eG,lA,aP,aV];rw[cI nD (λv=>nD (n*v)) (by lia) (λv hv=>by have:=h2.le (gr_mem hk') hv;show (rd (cG (nD n) (nD v)):DM D)=_;exact dC (by lia))]
    rw[aF,Lw (by simp;lia)]
    simp[Function.comp_def]) (gr R j) [] y4 (by rw[rl,ql];simp;lia)
   rw[hu,aF,hK];clear hK K;simp only[bZ,bj,aK,aR];refine Rn.bindRd _ (by rw[at3]) ?_
   refine Rn.bindRd (nT (cross (gr R j) (gr Q k))) rfl ?_;have ar:=uw (v:=nT (cross (gr R j) (gr Q k))) at3 (by simp;lia)
   refine Rn.run ar ?_;refine Rn.pure ⟨_,rfl,⟨_,_,_,rfl⟩,?_,kp3.set (Ur _)⟩;rw[U3 (Uj.mp at3).1,Ai hk'];simp
  ·obtain⟨δ',rfl,⟨y2,y3,y4,rfl⟩,at3,kp3⟩:=hI;refine⟨_,rfl,⟨_,_,_,_,rfl⟩,?_,kp3⟩;rw[at3,<-hL,Ai hj',Vq,UV,List.take_length];simp
 ·obtain⟨δ',rfl,⟨z1,z2,z3,z4,rfl⟩,at1,kp⟩:=hI;rw[hK];clear hK K;rw[UV,Vq,List.take_length]at at1;simp only[bZ,bj,aK];refine Rn.bindRd (nM (kron R Q)) (by show (aR (.ref M.length) M2).map _=_;simp only[aR,at1];rfl) ?_
  refine Rn.pure ⟨_,rfl,rfl,kp⟩
def lR:List D:=[.int (-1),.int 101,.non,.bl true,.str "1",.tup [.int 1],.lst [.int 1],.int (10^11)]
def Qi{d:D}(h:d∈lR):Frs [d]=raise "NoSteps":=by simp only[lR,List.mem_cons,List.mem_nil_iff,or_false]at h;rcases h with rfl | rfl | rfl | rfl | rfl | rfl | rfl | rfl<;>rfl
def MF{R:List (List Nat)}{W:Nat}{l:List Nat}{d:D}(h:WK R W)(hl:l.length=R.length)(hL:JH l)(hd:d∈lR):wz [aW R W,nT l,d]=raise "NoSteps":=by simp[wz,iY,G6 hL,yu,bH,eN,ue,hl,Qi hd,pR]
def Pu{R:List (List Nat)}{W:Nat}{d:D}(h:WK R W)(hd:d∈lR):wC [aW R W,d]=raise "NoSteps":=by
 have h2:=h.n25;have h1:=h.n1;simp[wC,iZ,bH,eN,dD (n:=R.length) (by lia),aP,aV]
 obtain⟨n,hn⟩:∃n,R.length=n+1:=⟨R.length-1,by lia⟩
 rw[hn,List.range_succ_eq_map,<-hn];rw[yV nD (c := "NoSteps") (by simp[sZ (m := "after") (by decide),FQ (n:=R.length) (x:=0) (by lia),MF h (fj _ _) (yP h (x:=0) (by lia)) hd])]
 simp[pR]
noncomputable def n6:=aG 1 1 wK
noncomputable def zf:=aG 3 3 (m5 n6)
def Qg:dg [.int (-1),.int 0]=raise "NoNumber":=by funext M;rfl
def Qh:dg [.int (-1),.int 1]=raise "NoNumber":=by funext M;rfl
def Rj:dg [.int 0,.int 1]=raise "NoNumber":=by funext M;rfl
def Rk:dg [.non,.int 0]=raise "NoNumber":=by funext M;rfl
def Ro:dg [.bl true,.int 1]=raise "NoNumber":=by funext M;rfl
def zK{w s g:D}(h:dg [s,.int 0]=raise "NoNumber"):mY [w,s,g]=raise "NoNumber":=by simp[mY,sE,h,pR]
def uJ{w s g:D}(h:dg [s,.int 0]=pure .non)(k:dg [g,.int 1]=raise "NoNumber"):mY [w,s,g]=raise "NoNumber":=by simp[mY,sE,h,k,pR]
def RW{w:D}:pZ [w,.int 0]=raise "NoSteps":=by simp[pZ,lQ,pR]
def Nu{R:List (List Nat)}{W:Nat}{d:D}(h:WK R W)(hd:d∈lR)(he:(rd (eE d (.int 0)):DM D)=pure (.bl false)):pZ [aW R W,d]=raise "NoSteps":=by simp[pZ,lQ,he,sZ (m := "power") (by decide),Pu h hd,pR]
def QJ{α β:Type}(c:Xc)(f:α->DM β):((lH c:DM α)>>=f)=lH c:=rfl
def Kr{R Q:List (List Nat)}{W V:Nat}(h1:WK R W)(h2:WK Q V)(h:25<R.length*Q.length):vg [aW R W,aW Q V]=lH ⟨"TooMany",[("most",25),("many",((R.length*Q.length:Nat):Int))]⟩:=by
 have a1:=h1.n25;have a2:=h2.n25;have a3:R.length*Q.length<=25*25:=Wv a1 a2;have m:(rd (cG (nD R.length) (nD Q.length)):DM D)=pure (nD (R.length*Q.length)):=dC (by lia)
 have g:(rd (xK (nD (R.length*Q.length)) (.int 25)):DM D)=pure (.bl true):=by have:=tX (R.length*Q.length) 25;rw[U8 h]at this;exact this
 have e:Cr "TooMany" "many" "most" [nD (R.length*Q.length),.int 25]=lH ⟨"TooMany",[("most",25),("many",((R.length*Q.length:Nat):Int))]⟩:=Uv ⟨by show (((R.length*Q.length:Nat):Int)).natAbs<1000;lia,by decide⟩
 simp[vg,qK,lC a1,lC a2,m,g,e,QJ]
noncomputable def nY:=vW 3 fK
def Fg:nY (raise "NoNumber")=pure (.str "number"):=by funext M;rfl
def xM:nY (raise "NoSteps")=pure (.str "steps"):=by funext M;rfl
def KJ(a b:Int):nY (lH ⟨"TooMany",[("most",b),("many",a)]⟩)=pure (.tup [.str "many",.int a,.int b]):=by funext M;rfl
def zB{th:DM D}{M:Mo}{R:List (List Nat)}{W:Nat}{P:Mo->Prop}(h:Rn th M λd M'=>d=aW R W/\P M'):Rn (nY th) M λd M'=>d=nM R/\P M':=by
 obtain⟨d,M',e,rfl,p⟩:=h;refine⟨nM R,M',?_,rfl,p⟩;show vW 3 fK th M=_;have:fK th (List.replicate 3 none) M=some (.ok (.rt (nM R)),M'):=by
  obtain⟨a,M2,e2,rfl,rfl⟩:Rn ((th>>=λx=>rd (j9 "Walk" "rows" x))>>=λd=>pure (Fl.rt d)) M (λr M2=>r=.rt (nM R)/\M2=M'):=by
   refine Rn.bind (Q1:=λd M2=>d=nM R/\M2=M') (Rn.bind (Q1:=λd M2=>d=aW R W/\M2=M') ⟨_,_,e,rfl,rfl⟩ λa M3 h=>?_) λa M3 h=>?_
   ·rw[h.1,h.2,bH];exact Rn.pure ⟨rfl,rfl⟩
   ·rw[h.1,h.2];exact Rn.pure ⟨rfl,rfl⟩
  unfold fK jt;dsimp only;show CQ iJ 3 1 (λz=>(th>>=λx=>rd (j9 "Walk" "rows" x))>>=λd=>pure (Fl.rt d)) _ _ M=_
  unfold CQ;simp only[e2]
 unfold vW;show DM.bind _ _ M=_;unfold DM.bind;rw[this];rfl
def RJ{i j:Nat}{x y:D}{δ:aa}:gT 2 (bK (gN i) (bK (gN j) fQ)) (.tup [x,y]) δ=pure ((δ.set i (some x)).set j (some y)):=by simp[gT,bK,fQ]
def Th{i j k:Nat}{x y z:D}{δ:aa}:gT 3 (bK (gN i) (bK (gN j) (bK (gN k) fQ))) (.tup [x,y,z]) δ=pure (((δ.set i (some x)).set j (some y)).set k (some z)):=by simp[gT,bK,fQ]
def Oh{l:List D}{i:Nat}{d:D}(h:l[i]?=some d):(rd (gk (.lst l) (nD i)):DM D)=pure d:=tZ h
def Hg:mR (.str "number"):=pW (p:=.str "number") rfl (by decide +kernel) (by decide +kernel) (by decide +kernel)
def yI:mR (.str "steps"):=pW (p:=.str "steps") rfl (by decide +kernel) (by decide +kernel) (by decide +kernel)
def LR{x:Nat}(hx:x<40):mR (.tup [.str "many",nD x,.int 25]):=by
 have q:∀x<40,(PyData.tuple [.str "many",.int (x:Nat),.int 25]).showable=true/\(PyData.tuple [.str "many",.int (x:Nat),.int 25]).depth<=60/\cX (PyData.tuple [.str "many",.int (x:Nat),.int 25])<=2^24:=by decide +kernel
 obtain⟨h1,h2,h3⟩:=q x hx;exact pW (p:=.tuple [.str "many",.int (x:Nat),.int 25]) rfl h1 h2 h3
def ul{R:List (List Nat)}{W:Nat}(wk:WK R W)(hW:W<2^1000):mR (nM R):=
 LQ (λl hl n hn=>Wl (wk.le hl hn) hW) (λl hl=>by rw[wk.row l hl];have:=wk.n25;lia) (by have:=wk.n25;lia)
def uC(R:List (List Nat))(W:Nat):nY (pure (aW R W))=pure (nM R):=uQ λM=>(zB (P:=λM'=>M'=M) (Rn.pure ⟨rfl,rfl⟩))
noncomputable def vC(R:List (List Nat))(b:Nat):List (List Nat):=R.map λr=>r.map (·* b)
theorem yL(b:Nat):∀l:List Nat,(l.map (·* b)).sum=l.sum*b
 |[]=>by simp
 |n::l=>by simp[yL b l,Nat.add_mul]
def WK.gr{R:List (List Nat)}{W b:Nat}(wk:WK R W)(hb:1<=b):WK (vC R b) (W*b):=by
 refine⟨by simp[vC,wk.n1],by simp[vC,wk.n25],λr hr=>?_,λr hr=>?_,Nat.mul_pos wk.w1 hb⟩
 ·obtain⟨q,hq,rfl⟩:=Vk.mp hr;simp[vC,wk.row q hq]
 ·obtain⟨q,hq,rfl⟩:=Vk.mp hr;rw[yL,wk.sum q hq]
inductive StK:D->Prop
 |good (n:Nat) (h:n<16):StK (nD n)
 |m1:StK (.int (-1))
 |non:StK .non
inductive GoK:D->Prop
 |good (n:Nat) (h1:1<=n) (h:n<16):GoK (nD n)
 |zero:GoK (.int 0)
 |tr:GoK (.bl true)
 |m1:GoK (.int (-1))
inductive FaK:D->Bool->Prop
 |good (n:Nat) (h1:1<=n) (h:n<=100):FaK (nD n) true
 |zero:FaK (.int 0) false
 |bad {d:D} (h:d∈lR) (he:(rd (eE d (.int 0)):DM D)=pure (.bl false)) (hf:zf [d,.int 1,.int 100]=pure (.bl false)):FaK d false
def gq:D->D->Bool
 |.int i,.int j=>decide (0<=i)&&decide (1<=j)
 |_,_=>false
def lB(i:Int):n6 [.int i]=pure (.bl true):=by funext M;rfl
def Ow:n6 [.non]=pure (.bl false):=by funext M;rfl
def QR(b:Bool):n6 [.bl b]=pure (.bl false):=by funext M;rfl
def ge_int(i j:Int):(rd (xJ (.int i) (.int j)):DM D)=pure (.bl (decide (i ≥ j))):=by funext M;rfl
def FaK.wi{d:D}{b:Bool}(h:FaK d b):zf [d,.int 1,.int 100]=pure (.bl b):=by
 cases h with
 |good n h1 h=>
   have e1:(rd (qt (.int 1) (nD n)):DM D)=pure (.bl true):=by have:=jw 1 n;rw[U8 h1]at this;exact this
   have e2:(rd (qt (nD n) (.int 100)):DM D)=pure (.bl true):=by have:=jw n 100;rw[U8 h]at this;exact this
   simp[zf,m5,show n6 [nD n]=pure (.bl true) from lB _,e1,e2]
 |zero=>funext M;rfl
 |bad _ _ h=>exact h
def QS{s g:D}(hs:StK s)(hg:GoK g)(h:gq s g=false)(w:D):mY [w,s,g]=raise "NoNumber":=by
 cases hs with
 |good n h1=>
   have r0:dg [nD n,.int 0]=pure .non:=uR (low:=0) (by lia)
   cases hg with
   |good m h2 h3=>simp[gq,nD]at h;lia
   |zero=>exact uJ r0 Rj
   |tr=>exact uJ r0 Ro
   |m1=>exact uJ r0 Qh
 |m1=>exact zK Qg
 |non=>exact zK Rk
def Oz{s g:D}(hs:StK s)(hg:GoK g)(h:gq s g=true):∃ a b:Nat,s=nD a/\g=nD b/\a<16/\1<=b/\b<16:=by
 cases hs with
 |good n h1=>
   cases hg with
   |good m h2 h3=>exact⟨n,m,rfl,rfl,h1,h2,h3⟩
   |zero=>simp[gq,nD]at h
   |tr=>simp[gq,nD]at h
   |m1=>simp[gq,nD]at h
 |m1=>cases hg<;>simp[gq,nD]at h
 |non=>cases hg<;>simp[gq,nD]at h
def NQ{s g:D}(hs:StK s)(hg:GoK g){β:Type}(k:D->DM β):(n6 [s] >>= λa=>fu a >>= λb=>(if b=true then ((rd (xJ s (.int 0)):DM D) >>= λx=>fu x >>= λb=>if b=true then (n6 [g] >>= λx=>fu x >>= λb=>if b=true then rd (xJ g (.int 1)) else pure (.bl false)) else pure (.bl false)) else pure (.bl false)) >>= k)=k (.bl (gq s g)):=by
 cases hs with
 | good n h1=>
   have q:decide ((n:Int) ≥ 0)=true:=U8 (by lia)
   cases hg with
   |good m h2 h3=>
     have q2:decide ((m:Int) ≥ 1)=true:=U8 (by lia)
     have q3:gq (nD n) (nD m)=true:=by simp[gq,nD];lia
     rw[q3];simp[nD,lB,ge_int,q,q2]
   |zero=>simp[nD,lB,ge_int,q,gq]
   |tr=>simp[nD,lB,QR,ge_int,q,gq]
   |m1=>simp[nD,lB,ge_int,q,gq]
 |m1=>cases hg<;>simp[lB,ge_int,gq,nD]
 |non=>cases hg<;>simp[Ow,gq,nD]
noncomputable def Hx:=aG 1 16 (JK zb zc n8 wD Dh wB n6 uq mY zf ur pZ uo vg iD nY)
noncomputable def RN(cs:List Int)(i:Nat)(δ:aa)(M:Mo):Prop:=∃x1 x2 x3 x4 x5 x6 x7 x8 x9 x10 x11 x12 x13 x14 x15,δ=[some (.scr cs),x1,x2,x3,x4,x5,x6,x7,x8,x9,x10,x11,x12,x13,x14,x15]
noncomputable def Av(cs:List Int)(k p:Nat)(i:Nat)(δ:aa)(M:Mo):Prop:=(∃x3 x4 x5 x6 x7 x8 x9 x10 x11 x12 x13 x14 x15,δ=[some (.scr cs),some (nD k),some (.ref p),x3,x4,x5,x6,x7,x8,x9,x10,x11,x12,x13,x14,x15])/\dY p M
def GX(a b:List (List Nat))(ha:a.length<=1000000):(rd (iH (nM a) (nM b)):DM D)=pure (.bl (!decide (a=b))):=Nq a b ha
def Ox{R:List (List Nat)}{W:Nat}(M:Mo)(wk:WK R W)(hW:W<=12){s g:D}(hs:StK s)(hg:GoK g):Rn (if gq s g=true then uq [nM R,s,g] else pure (.str "number")) M λdue M'=>Kp M M'/\mR due/\∀ M1,Rn (nY (mY [aW R W,s,g])) M1 λd M2=>d=due/\Kp M1 M2:=by
 by_cases h:gq s g=true
 ·obtain⟨a,b,rfl,rfl,h1,h2,h3⟩:=Oz hs hg h;rw[Uv h];refine (zG M wk (by lia) (by lia) (by lia)).mono λd M' ⟨e,k⟩=>⟨k,?_,λM1=>?_⟩
  ·subst e;refine ul (wk.lazy h2) ?_;have:W*b<=12*16:=Wv hW (by lia)
   have:a*W<=16*12:=Wv (by lia) hW
   exact Um (show W*b+a*W<2^10 by lia) (Wo (by decide) (by decide))
  ·subst e;exact zB (P:=λM2=>Kp M1 M2) (Gg M1 wk (by lia) (by lia) h2 (by lia))
 ·rw[Ux h];refine Rn.pure ⟨λz z e=>e,Hg,λM1=>?_⟩
  rw[QS hs hg (by simpa using h),Fg]
  exact Rn.pure ⟨rfl,λz z e=>e⟩
def Nv{R:List (List Nat)}{W:Nat}(wk:WK R W)(hW:W<=12){d:D}{b:Bool}(h:FaK d b):∃ due,(if b=true then ur [nM R,d] else pure (.str "steps"))=(pure due:DM D)/\mR due/\nY (pZ [aW R W,d])=pure due:=by
 cases h with
 |good n h1 h2=>
   refine⟨nM (km R n),by rw[Uv rfl,K6 wk (by lia) (by lia)],ul wk.pow ?_,by rw[Nx wk (by lia) h1 h2,uC]⟩
   have:=Gx (W:=W) (k:=n) (s:=1) hW (by lia) (by decide)
   simpa using this
 |zero=>exact⟨.str "steps",rfl,yI,by rw[RW,xM]⟩
 |bad h he hf=>exact⟨.str "steps",rfl,yI,by rw[Nu wk h he,xM]⟩
def MP{R Y:List (List Nat)}{W V:Nat}(M:Mo)(wk:WK R W)(wy:WK Y V)(hR:R.length<=6)(hY:Y.length<=6)(hW:W<=12)(hV:V<=12):Rn (if decide (R.length * Y.length<=25)=true then uo [nM R,nM Y] else qu [.str "many",nD (R.length * Y.length),.int 25]) M λdue M'=>Kp M M'/\mR due/\nY (vg [aW R W,aW Y V])=pure due:=by
 by_cases h:R.length*Y.length<=25
 ·rw[U8 h,Uv rfl];refine (K5 M wk wy (by lia) (by lia) h).mono λd M' ⟨e,k⟩=>⟨k,?_,?_⟩
  ·subst e;have:W*V<=12*12:=Wv hW hV;exact ul (wk.kron wy h) (Um (show W*V<2^10 by lia) (Wo (by decide) (by decide)))
  ·rw[e,MT wk wy (by lia) h,uC]
 ·rw[Vm h,Ux (by simp),uc (by simp)]
  have:R.length*Y.length<=6*6:=Wv hR hY;refine Rn.pure ⟨λz z e=>e,LR (by lia),?_⟩
  rw[Kr wk wy (by lia),KJ]
  rfl
def Kp.pot{p:Nat}{M M':Mo}(h:dY p M)(k:Kp M M'):dY p M':=let ⟨v,e⟩:=h;⟨v,k _ _ e⟩
def K4(cs:List Int)(hcs:cs.length<=1000000):Rn (Hx [.scr cs]) [] λd u=>d=.bl true:=by
 generalize ([]:Mo)=M₀;unfold Hx JK Cd;dsimp only;refine Rn.call rfl ?_;refine aM λK hK=>?_
 have rg:∀w:Nat,w<=6->o4 [nD w]=some (.fix ((List.range w).map nD)):=λw h=>yD (by lia)
 have e0:∃m:Nat,m<=3/\(D.int (if (if (3:Int)<(cs.length:Int) then 3 else (cs.length:Int)) > 1 then (if (3:Int)<(cs.length:Int) then 3 else (cs.length:Int)) else 1))=nD m:=by
  refine⟨(if (if (3:Int)<(cs.length:Int) then 3 else (cs.length:Int)) > 1 then (if (3:Int)<(cs.length:Int) then 3 else (cs.length:Int)) else 1).toNat,?_,?_⟩
  ·split<;>split<;>lia
  ·unfold nD;congr 1;split<;>split<;>lia
 obtain⟨m,hm,em⟩:=e0;have st:b7 16 [D.scr cs]=[some (.scr cs),none,none,none,none,none,none,none,none,none,none,none,none,none,none,none]:=rfl;rw[st];simp only[bj,List.getElem?_cons_zero,Option.join_some,yC,aF,aK,PN,PQ,PP,em,rg m (by lia),jf]
 refine Rn.bind (cj (RN cs) _ 0 _ _ ⟨_,_,_,_,_,_,_,_,_,_,_,_,_,_,_,rfl⟩ (λj d δ M hj hI=>?_)) (λr M hI=>?_)
 rotate_left
 ·obtain⟨δ',rfl,_⟩:=hI;rw[hK];exact Rn.pure ⟨_,rfl,rfl⟩
 clear hK K;obtain⟨x1,x2,x3,x4,x5,x6,x7,x8,x9,x10,x11,x12,x13,x14,x15,rfl⟩:=hI;obtain⟨hk,rfl⟩:=Cm hj;revert hk;generalize 0+j+1=nx;generalize j=k;intro hk;rw[oZ,aF];obtain⟨c,ec⟩:=Nb cs k;obtain⟨v,ev⟩:=Pr c
 -- the pot
 refine aM λK hK=>?_
 simp[ec,ev];refine Rn.cU (by simp) ?_
 have hp0:dY M.length (M++[.lst [nD v]]):=⟨v,by simp⟩
 revert hp0;generalize M.length=p;generalize M++[.lst [nD v]]=M0;intro hp0;rw[hK];clear hK K ec ev;have rg3:o4 [.int 3]=some (.fix ((List.range 3).map nD)):=rg 3 (by lia)
 simp only[aF,rg3,yC,jf];refine (cj (Av cs k p) _ 0 _ _ ⟨⟨_,_,_,_,_,_,_,_,_,_,_,_,_,rfl⟩,hp0⟩ (λtn d δ M hj2 hI=>?_)).mono (λr M hI=>?_)
 rotate_left
 ·obtain⟨δ',rfl,⟨_,_,_,_,_,_,_,_,_,_,_,_,_,rfl⟩,_⟩:=hI;exact⟨_,rfl,_,_,_,_,_,_,_,_,_,_,_,_,_,_,_,rfl⟩
 clear hp0;obtain⟨⟨x3,x4,x5,x6,x7,x8,x9,x10,x11,x12,x13,x14,x15,rfl⟩,hp⟩:=hI;obtain⟨_,rfl⟩:=Cm hj2;have hQ:∀δ' M',Av cs k p 0 δ' M'->(λ(r:Fl) (M':Mo)=>∃δ',r=.nx δ'/\Av cs k p (0+tn+1) δ' M') (.nx δ') M':=λδ' M' h=>⟨δ',rfl,h⟩
 revert hQ;generalize (λ(r:Fl) (M':Mo)=>∃δ',r=.nx δ'/\Av cs k p (0+tn+1) δ' M')=Q
 intro hQ;rw[oZ,aF];clear hj hj2 hk;have m2:∀x y:D,qu [x,y]=pure (.tup [x,y]):=λx y=>uc (by simp)
 have m3:∀x y z:D,qu [x,y,z]=pure (.tup [x,y,z]):=λx y z=>uc (by simp)
 -- the rows
 refine aM λK hK=>?_
 simp;refine Rn.bind (zY (tp:=6) hp (by decide) (by decide)) λd2 M2 ⟨R,W,e2,wk,hR,hW,hp2,s2⟩=>?_
 subst e2;refine Rn.bind (zY (tp:=6) hp2 (by decide) (by decide)) λd3 M3 ⟨Y,V,e3,wy,hY,hV,hp3,s3⟩=>?_
 subst e3;refine Rn.bind (cW (far:=12) hp3 (by decide) (by decide)) λd4 M4 ⟨b0,g4,e4,hp4,s4⟩=>?_
 subst e4;have ad:(rd (iW (.int 1) (nD b0)):DM D)=pure (nD (1+b0)):=oY 1 b0;rw[ad,aF,m3,aF,Th,aF,hK];clear hK K s2 s3 s4 hp2 hp3 ad;have b1:1<=1+b0:=by lia
 have b2:1+b0<=12:=by lia
 clear g4;revert b1 b2;generalize 1+b0=b;intro b1 b2;have n2:=wk.n25;have W60:W<2^60:=by lia
 have wg:=wk.gr b1;have hWb:W*b<=12*12:=Wv hW b2
 -- great
 refine aM λK hK=>?_
 simp[cV,aP,aV,lA];rw[cI nT (λr=>nT (r.map (·* b))) (by lia) (λr hr=>by
  simp[eG,aP,aV,lA];rw[cI nD (λn=>nD (n*b)) (by have:=wk.row r hr;lia) (λn hn=>by show (rd (cG (nD n) (nD b)):DM D)=_;exact dC (by lia))]
  simp[nT,Function.comp_def])]
 have e:D.tup (R.map λr=>nT (r.map (·* b)))=nM (vC R b):=by simp[nM,vC,Function.comp_def]
 simp[e];rw[hK];clear hK K e
 -- the walk,how far
 refine aM λK hK=>?_
 simp only[cZ,bZ,bj,aK,ie wk];refine Rn.bind (cW (far:=9) hp4 (by decide) (by decide)) λd5 M5 ⟨t5,g5,e5,hp5,s5⟩=>?_
 subst e5;have l7:jl [.int 0,.int 1,.int 2,nD t5,.int 101,.non,.bl true]=pure (.lst [.int 0,.int 1,.int 2,nD t5,.int 101,.non,.bl true]):=jZ (by simp)
 rw[l7,aF];refine Rn.bind (cW (far:=7) hp5 (by decide) (by decide)) λd6 M6 ⟨t6,g6,e6,hp6,s6⟩=>?_
 subst e6;obtain⟨fr,f,efr,hf⟩:∃fr f,[D.int 0,.int 1,.int 2,nD t5,.int 101,.non,.bl true][t6]?=some fr/\FaK fr f:=by
  have:t6=0\/t6=1\/t6=2\/t6=3\/t6=4\/t6=5\/t6=6:=by lia
  rcases this with rfl | rfl | rfl | rfl | rfl | rfl | rfl
  ·exact⟨_,_,rfl,.zero⟩
  ·exact⟨_,_,rfl,.good 1 (by decide) (by decide)⟩
  ·exact⟨_,_,rfl,.good 2 (by decide) (by decide)⟩
  ·rcases WF t5 with rfl | z
   ·exact⟨_,_,rfl,.zero⟩
   ·exact⟨_,_,rfl,.good t5 z (by lia)⟩
  ·exact⟨_,_,rfl,.bad (by simp[lR]) (by funext M;rfl) (by funext M;rfl)⟩
  ·exact⟨_,_,rfl,.bad (by simp[lR]) (by funext M;rfl) (by funext M;rfl)⟩
  ·exact⟨_,_,rfl,.bad (by simp[lR]) (by funext M;rfl) (by funext M;rfl)⟩
 rw[Oh efr,aF,m2,aF,RJ,aF,hK];clear hK K s5 s6 efr l7 hp4 hp5
 -- stay,go
 refine aM λK hK=>?_
 have ng:(rd (BW (.int 1)):DM D)=pure (.int (-1)):=by funext M;rfl
 simp only[cZ,bZ,ng,bj,aK];refine Rn.bind (cW (far:=9) hp6 (by decide) (by decide)) λd7 M7 ⟨t7,g7,e7,hp7,s7⟩=>?_
 subst e7;have l5:jl [.int 0,.int 1,nD t7,.int (-1),.non]=pure (.lst [.int 0,.int 1,nD t7,.int (-1),.non]):=jZ (by simp)
 have l5':jl [.int 1,.int 0,.int 3,.bl true,.int (-1)]=pure (.lst [.int 1,.int 0,.int 3,.bl true,.int (-1)]):=jZ (by simp)
 rw[l5,aF];refine Rn.bind (cW (far:=5) hp7 (by decide) (by decide)) λd8 M8 ⟨t8,g8,e8,hp8,s8⟩=>?_
 subst e8;obtain⟨sd,esd,hs⟩:∃sd,[D.int 0,.int 1,nD t7,.int (-1),.non][t8]?=some sd/\StK sd:=by
  have:t8=0\/t8=1\/t8=2\/t8=3\/t8=4:=by lia
  rcases this with rfl | rfl | rfl | rfl | rfl
  ·exact⟨_,rfl,.good 0 (by decide)⟩
  ·exact⟨_,rfl,.good 1 (by decide)⟩
  ·exact⟨_,rfl,.good t7 (by lia)⟩
  ·exact⟨_,rfl,.m1⟩
  ·exact⟨_,rfl,.non⟩
 rw[Oh esd,aF,l5',aF];refine Rn.bind (cW (far:=5) hp8 (by decide) (by decide)) λd9 M9 ⟨t9,g9,e9,hp9,s9⟩=>?_
 subst e9;obtain⟨gd,egd,hg⟩:∃gd,[D.int 1,.int 0,.int 3,.bl true,.int (-1)][t9]?=some gd/\GoK gd:=by
  have:t9=0\/t9=1\/t9=2\/t9=3\/t9=4:=by lia
  rcases this with rfl | rfl | rfl | rfl | rfl
  ·exact⟨_,rfl,.good 1 (by decide) (by decide)⟩
  ·exact⟨_,rfl,.zero⟩
  ·exact⟨_,rfl,.good 3 (by decide) (by decide)⟩
  ·exact⟨_,rfl,.tr⟩
  ·exact⟨_,rfl,.m1⟩
 rw[Oh egd,aF,m2,aF,RJ,aF,hK];clear hK K s7 s8 s9 esd egd l5 l5' hp6 hp7 hp8
 -- plainest
 refine aM λK hK=>?_
 have am:opt (rY (.tup [nM R,nM (vC R b)]))=(pure (.fix [nM R,nM (vC R b)]):DM Itn):=rfl;obtain⟨s1,es1⟩:=ul wk.plain (Wl (Nat.div_le_self _ _) (Gf W60 (by decide)))
 have W60b:W*b<2^60:=by lia
 obtain⟨s2,es2⟩:=ul wg.plain (Wl (Nat.div_le_self _ _) (Gf W60b (by decide)))
 simp only[cZ,bZ,m2,am,forL,oZ,aV,List.map_cons,List.map_nil,bj,Option.getD_some,aK,ie wk,ie wg,Gw wk W60,Gw wg W60b,uC,zJ wk W60,zJ wg W60b,es1,es2,vX,cQ,decide_true,Bool.not_true,Bool.false_eq_true,if_false];rw[hK];clear hK K am es1 es2
 -- good
 refine aM λK hK=>?_
 simp only[cZ,bZ,aV,List.map_cons,List.map_nil,bj,Option.getD_some,aK];rw[NQ hs hg,hK];clear hK K
 -- due
 refine aM λK hK=>?_
 simp only[cZ,bZ,aV,List.map_cons,List.map_nil,bj,Option.getD_some,aK,G4];refine Rn.bind (Ox M9 wk hW hs hg) λdue M10 ⟨k10,⟨sr,esr⟩,hdue⟩=>?_
 rw[hK];clear hK K;have hp10:=Kp.pot hp9 k10
 -- lazy
 refine aM λK hK=>?_
 simp only[cZ,bZ,aV,List.map_cons,List.map_nil,bj,Option.getD_some,aK];refine Rn.bind (hdue M10) λd11 M11 ⟨e11,k11⟩=>?_
 rw[e11];simp only[cZ,bZ,esr,aV,List.map_cons,List.map_nil,bj,Option.getD_some,aK,vX,decide_true,Bool.not_true,cQ,Bool.false_eq_true,if_false];refine Rn.bind (Gg (stay:=1) (go:=1) M11 wk W60 (by decide) (by decide) (by decide)) λd12 M12 ⟨e12,k12⟩=>?_
 rw[e12,bH,aF];refine Rn.bind (zG (s:=1) (g:=1) M12 wk W60 (by decide) (by decide)) λd13 M13 ⟨e13,k13⟩=>?_
 have ln:(eF R W 1 1).length=R.length:=by simp[eF]
 rw[e13,GX _ _ (by lia)]
 simp only[aF,decide_true,Bool.not_true,cQ,Bool.false_eq_true,if_false];rw[hK];clear hK K;have hp13:=Kp.pot (Kp.pot (Kp.pot hp10 k11) k12) k13
 -- folded
 obtain⟨du,q1,⟨sr2,esr2⟩,q3⟩:=Nv wk hW hf;refine aM λK hK=>?_
 simp only[cZ,bZ,aV,List.map_cons,List.map_nil,bj,Option.getD_some,aK,hf.wi,G4];rw[q1,aF,hK];clear hK K;refine aM λK hK=>?_
 simp only[cZ,bZ,aV,List.map_cons,List.map_nil,bj,Option.getD_some,aK,q3,esr2,vX,decide_true,Bool.not_true,cQ,Bool.false_eq_true,if_false];rw[hK];clear hK K q1 q3 esr2
 -- beside
 have hRY:R.length*Y.length<=6*6:=Wv hR hY;have mw:(rd (cG (nD R.length) (nD Y.length)):DM D)=pure (nD (R.length*Y.length)):=dC (by lia)
 have lw:(rd (qt (nD (R.length*Y.length)) (.int 25)):DM D)=pure (.bl (decide (R.length*Y.length<=25))):=jw _ 25;refine aM λK hK=>?_
 simp only[cZ,bZ,aV,List.map_cons,List.map_nil,bj,Option.getD_some,aK,eN,mw];rw[hK];clear hK K;refine aM λK hK=>?_
 simp only[cZ,bZ,aV,List.map_cons,List.map_nil,bj,Option.getD_some,aK,lw,cQ];refine Rn.bind (MP M13 wk wy hR hY hW hV) λdue3 M14 ⟨k14,⟨sr3,esr3⟩,q4⟩=>?_
 rw[hK];clear hK K;have hp14:=Kp.pot hp13 k14;simp only[cZ,bZ,aV,List.map_cons,List.map_nil,bj,Option.getD_some,aK,ie wy,q4,esr3,vX,decide_true,Bool.not_true,cQ,Bool.false_eq_true,if_false,bH];rw[GX _ _ (by lia)]
 simp only[aF,decide_true,Bool.not_true,cQ,Bool.false_eq_true,if_false];exact Rn.pure (hQ _ _ ⟨⟨_,_,_,_,_,_,_,_,_,_,_,_,_,rfl⟩,hp14⟩)
def JX(K:PySem.W.Frag):Bool:=K.all λp=>!(p.2.cls==.type "list")
def O7{K:PySem.W.Frag}(h:JX K=true){a:Addr}{o:Obj}(e:K.lookup a=some o):o.cls≠.type "list":=by
 have:∀ (l:List (Addr×Obj)),(l.all λp=>!(p.2.cls == .type "list"))=true->l.lookup a=some o->o.cls≠.type "list":=by
  intro l;induction l with
  |nil=>intro _ e;cases e
  | cons p l ih=>
    intro h e;rw[List.all_cons,Wx]at h;rw[V0]at e;split at e
    ·cases e;intro z;rw[z]at h;exact absurd h.1 (by decide)
    ·exact ih h.2 e
 exact this K h e
structure Cls(K:PySem.W.Frag)(mg:Str->Option Value)(FI_TooMany CE_NoSteps CE_NoNumber CE_TooMany CE_NoPlace CE0 CC_Walk:Addr)(tg_MOST_PLACES tg_MOST_STEPS:Tok):Prop where
 t:XTab K mg iJ CE0
 m_FadeError:mg "FadeError"=some (.ref CE0)
 m_NoNumber:mg "NoNumber"=some (.ref CE_NoNumber)
 m_NoPlace:mg "NoPlace"=some (.ref CE_NoPlace)
 m_NoSteps:mg "NoSteps"=some (.ref CE_NoSteps)
 m_TooMany:mg "TooMany"=some (.ref CE_TooMany)
 n_TooMany:mg "TooMany"=some (.ref CE_TooMany)
 xf_TooMany:XfD K mg "TooMany" ["many", "most"]
 xn_TooMany:PySem.W.findIn K (.ref CE_TooMany) "__init__"=some (some (.ref FI_TooMany))
 cD:cL K CE_TooMany FI_TooMany=true
 xr:PySem.W.readsIn K CE0 (.type "type")=true
 xk:PySem.W.findCls K (.ref CE0) (.type "type") "__init__"=some (.val (.builtin "ValueError.__init__"))
 xs:PySem.W.specialIn K (.ref CE0) "__getattribute__"=some (some (.builtin "type.__getattribute__"))
 m_MOST_PLACES:mg "MOST_PLACES"=some (.int 25 tg_MOST_PLACES)
 m_MOST_STEPS:mg "MOST_STEPS"=some (.int 100 tg_MOST_STEPS)
 o_Walk:OCls K mg "Walk" CC_Walk ["rows", "whole"]
 k_Walk:PySem.W.makesIn K CC_Walk=true/\PySem.W.keepIn K (.ref CC_Walk)=true
 nl:JX K=true
def Nf{K:PySem.W.Frag}{h:Heap}{mg:Str->Option Value}(X:K.In h)(G:h.Ns mainGlobals mg){FI_TooMany CE_NoSteps CE_NoNumber CE_TooMany CE_NoPlace CE0 CC_Walk:Addr}{tg_MOST_PLACES tg_MOST_STEPS:Tok}
  (xc_TooMany:((PySem.W.clsIn K CE_TooMany).any λcd=>pP cd.mro&&cd.hasDict)=true)
  (xt_TooMany:PySem.W.findIn K (.ref CE_TooMany) "__setattr__"=some (some (.builtin "object.__setattr__")))
  (xn_TooMany:PySem.W.findIn K (.ref CE_TooMany) "__init__"=some (some (.ref FI_TooMany)))
  (cD:cL K CE_TooMany FI_TooMany=true)
  (xa_TooMany_many:PySem.W.findIn K (.ref CE_TooMany) "many"=some none)
  (xa_TooMany_most:PySem.W.findIn K (.ref CE_TooMany) "most"=some none)
  (xr:PySem.W.readsIn K CE0 (.type "type")=true)
  (xk:PySem.W.findCls K (.ref CE0) (.type "type") "__init__"=some (.val (.builtin "ValueError.__init__")))
  (xs:PySem.W.specialIn K (.ref CE0) "__getattribute__"=some (some (.builtin "type.__getattribute__")))
  (cE0:PySem.W.nsIn K mainGlobals "FadeError"=some (some (.ref CE0)))
  (c_NoSteps:PySem.W.nsIn K mainGlobals "NoSteps"=some (some (.ref CE_NoSteps)))
  (c_NoNumber:PySem.W.nsIn K mainGlobals "NoNumber"=some (some (.ref CE_NoNumber)))
  (c_TooMany:PySem.W.nsIn K mainGlobals "TooMany"=some (some (.ref CE_TooMany)))
  (c_NoPlace:PySem.W.nsIn K mainGlobals "NoPlace"=some (some (.ref CE_NoPlace)))
  (eE0:PySem.W.excIn K CE0 dW "ValueError.__new__"=true)
  (e_NoSteps:PySem.W.excIn K CE_NoSteps dW "ValueError.__new__"=true)
  (s_NoSteps:PySem.W.mroIn K CE_NoSteps (.ref CE0)=some true)
  (x1_NoSteps:PySem.W.findIn K (.ref CE_NoSteps) "__getattribute__"=some (some (.builtin "BaseException.__getattribute__")))
  (x2_NoSteps:PySem.W.findIn K (.ref CE_NoSteps) "__getattr__"=some none)
  (x3_NoSteps:PySem.W.findIn K (.ref CE_NoSteps) "__class__"=some (some (.builtin "object.__class__")))
  (x4_NoSteps:PySem.W.mroIn K CE_NoSteps (.type "object")=some true)
  (x5_NoSteps:PySem.W.mroIn K CE_NoSteps (.type "BaseException")=some true)
  (e_NoNumber:PySem.W.excIn K CE_NoNumber dW "ValueError.__new__"=true)
  (s_NoNumber:PySem.W.mroIn K CE_NoNumber (.ref CE0)=some true)
  (x1_NoNumber:PySem.W.findIn K (.ref CE_NoNumber) "__getattribute__"=some (some (.builtin "BaseException.__getattribute__")))
  (x2_NoNumber:PySem.W.findIn K (.ref CE_NoNumber) "__getattr__"=some none)
  (x3_NoNumber:PySem.W.findIn K (.ref CE_NoNumber) "__class__"=some (some (.builtin "object.__class__")))
  (x4_NoNumber:PySem.W.mroIn K CE_NoNumber (.type "object")=some true)
  (x5_NoNumber:PySem.W.mroIn K CE_NoNumber (.type "BaseException")=some true)
  (s_TooMany:PySem.W.mroIn K CE_TooMany (.ref CE0)=some true)
  (x1_TooMany:PySem.W.findIn K (.ref CE_TooMany) "__getattribute__"=some (some (.builtin "BaseException.__getattribute__")))
  (x2_TooMany:PySem.W.findIn K (.ref CE_TooMany) "__getattr__"=some none)
  (x3_TooMany:PySem.W.findIn K (.ref CE_TooMany) "__class__"=some (some (.builtin "object.__class__")))
  (x4_TooMany:PySem.W.mroIn K CE_TooMany (.type "object")=some true)
  (x5_TooMany:PySem.W.mroIn K CE_TooMany (.type "BaseException")=some true)
  (e_NoPlace:PySem.W.excIn K CE_NoPlace dW "ValueError.__new__"=true)
  (s_NoPlace:PySem.W.mroIn K CE_NoPlace (.ref CE0)=some true)
  (x1_NoPlace:PySem.W.findIn K (.ref CE_NoPlace) "__getattribute__"=some (some (.builtin "BaseException.__getattribute__")))
  (x2_NoPlace:PySem.W.findIn K (.ref CE_NoPlace) "__getattr__"=some none)
  (x3_NoPlace:PySem.W.findIn K (.ref CE_NoPlace) "__class__"=some (some (.builtin "object.__class__")))
  (x4_NoPlace:PySem.W.mroIn K CE_NoPlace (.type "object")=some true)
  (x5_NoPlace:PySem.W.mroIn K CE_NoPlace (.type "BaseException")=some true)
  (v_NoSteps_NoSteps:PySem.W.kitOne K (.ref CE_NoSteps) (.ref CE_NoSteps)=some true)
  (v_NoSteps_NoNumber:PySem.W.kitOne K (.ref CE_NoSteps) (.ref CE_NoNumber)=some false)
  (v_NoSteps_TooMany:PySem.W.kitOne K (.ref CE_NoSteps) (.ref CE_TooMany)=some false)
  (v_NoSteps_NoPlace:PySem.W.kitOne K (.ref CE_NoSteps) (.ref CE_NoPlace)=some false)
  (v_NoNumber_NoSteps:PySem.W.kitOne K (.ref CE_NoNumber) (.ref CE_NoSteps)=some false)
  (v_NoNumber_NoNumber:PySem.W.kitOne K (.ref CE_NoNumber) (.ref CE_NoNumber)=some true)
  (v_NoNumber_TooMany:PySem.W.kitOne K (.ref CE_NoNumber) (.ref CE_TooMany)=some false)
  (v_NoNumber_NoPlace:PySem.W.kitOne K (.ref CE_NoNumber) (.ref CE_NoPlace)=some false)
  (v_TooMany_NoSteps:PySem.W.kitOne K (.ref CE_TooMany) (.ref CE_NoSteps)=some false)
  (v_TooMany_NoNumber:PySem.W.kitOne K (.ref CE_TooMany) (.ref CE_NoNumber)=some false)
  (v_TooMany_TooMany:PySem.W.kitOne K (.ref CE_TooMany) (.ref CE_TooMany)=some true)
  (v_TooMany_NoPlace:PySem.W.kitOne K (.ref CE_TooMany) (.ref CE_NoPlace)=some false)
  (v_NoPlace_NoSteps:PySem.W.kitOne K (.ref CE_NoPlace) (.ref CE_NoSteps)=some false)
  (v_NoPlace_NoNumber:PySem.W.kitOne K (.ref CE_NoPlace) (.ref CE_NoNumber)=some false)
  (v_NoPlace_TooMany:PySem.W.kitOne K (.ref CE_NoPlace) (.ref CE_TooMany)=some false)
  (v_NoPlace_NoPlace:PySem.W.kitOne K (.ref CE_NoPlace) (.ref CE_NoPlace)=some true)
  (g_MOST_PLACES:PySem.W.nsIn K mainGlobals "MOST_PLACES"=some (some (.int 25 tg_MOST_PLACES)))
  (g_MOST_STEPS:PySem.W.nsIn K mainGlobals "MOST_STEPS"=some (some (.int 100 tg_MOST_STEPS)))
  (cm_Walk:PySem.W.nsIn K mainGlobals "Walk"=some (some (.ref CC_Walk)))
  (pg_Walk:PySem.W.plainGet K CC_Walk Str.empty=true)
  (hd_Walk:PySem.W.hasDictIn K CC_Walk=true)
  (po_Walk:PySem.W.plainOver K CC_Walk=true)
  (sa_Walk:PySem.W.findIn K (.ref CC_Walk) "__setattr__"=some (some (.builtin "object.__setattr__")))
  (mk_Walk:PySem.W.makesIn K CC_Walk=true)
  (kc_Walk:PySem.W.keepIn K (.ref CC_Walk)=true)
  (nf_Walk_rows:PySem.W.findIn K (.ref CC_Walk) "rows"=some none)
  (nf_Walk_whole:PySem.W.findIn K (.ref CC_Walk) "whole"=some none)
  (nl:JX K=true)
  : Cls K mg FI_TooMany CE_NoSteps CE_NoNumber CE_TooMany CE_NoPlace CE0 CC_Walk tg_MOST_PLACES tg_MOST_STEPS:=by
 have m_NoSteps:=V8 X G c_NoSteps;have m_NoNumber:=V8 X G c_NoNumber;have m_TooMany:=V8 X G c_TooMany;have m_NoPlace:=V8 X G c_NoPlace;have nof_Walk:∀f∈(["rows", "whole"]:List Str),NoAttr K CC_Walk f:=by
  intro f hf;simp only[List.mem_cons,List.not_mem_nil,or_false]at hf;rcases hf with rfl | rfl
  ·exact nf_Walk_rows
  ·exact nf_Walk_whole
 refine⟨⟨λa ha=>?_,λa ha hx C hC=>?_,λa ha b hb C D hC hD=>?_⟩,V8 X G cE0,m_NoNumber,m_NoPlace,m_NoSteps,m_TooMany,m_TooMany,⟨CE_TooMany,m_TooMany,λf hf=>?_⟩,xn_TooMany,cD,xr,xk,xs,V8 X G g_MOST_PLACES,V8 X G g_MOST_STEPS,⟨V8 X G cm_Walk,⟨pg_Walk,hd_Walk,po_Walk,sa_Walk⟩,nof_Walk⟩,⟨mk_Walk,kc_Walk⟩,nl⟩
 ·simp only[List.mem_cons,List.not_mem_nil,or_false]at ha;rcases ha with rfl | rfl | rfl | rfl
  ·exact⟨CE_NoSteps,m_NoSteps,⟨x1_NoSteps,x2_NoSteps,x3_NoSteps,x4_NoSteps,x5_NoSteps⟩,⟨.inl e_NoSteps,eE0,s_NoSteps⟩⟩
  ·exact⟨CE_NoNumber,m_NoNumber,⟨x1_NoNumber,x2_NoNumber,x3_NoNumber,x4_NoNumber,x5_NoNumber⟩,⟨.inl e_NoNumber,eE0,s_NoNumber⟩⟩
  ·exact⟨CE_TooMany,m_TooMany,⟨x1_TooMany,x2_TooMany,x3_TooMany,x4_TooMany,x5_TooMany⟩,⟨.inr ⟨FI_TooMany,cD⟩,eE0,s_TooMany⟩⟩
  ·exact⟨CE_NoPlace,m_NoPlace,⟨x1_NoPlace,x2_NoPlace,x3_NoPlace,x4_NoPlace,x5_NoPlace⟩,⟨.inl e_NoPlace,eE0,s_NoPlace⟩⟩
 ·simp only[List.mem_cons,List.not_mem_nil,or_false]at ha;rcases ha with rfl | rfl | rfl | rfl
  ·rw[m_NoSteps]at hC;cases hC;exact e_NoSteps
  ·rw[m_NoNumber]at hC;cases hC;exact e_NoNumber
  ·exact absurd hx (by decide +kernel)
  ·rw[m_NoPlace]at hC;cases hC;exact e_NoPlace
 ·simp only[List.mem_cons,List.not_mem_nil,or_false]at ha hb;rcases ha with rfl | rfl | rfl | rfl<;>rcases hb with rfl | rfl | rfl | rfl
  ·rw[m_NoSteps]at hC;rw[m_NoSteps]at hD;cases hC;cases hD;exact v_NoSteps_NoSteps
  ·rw[m_NoSteps]at hC;rw[m_NoNumber]at hD;cases hC;cases hD;exact v_NoSteps_NoNumber
  ·rw[m_NoSteps]at hC;rw[m_TooMany]at hD;cases hC;cases hD;exact v_NoSteps_TooMany
  ·rw[m_NoSteps]at hC;rw[m_NoPlace]at hD;cases hC;cases hD;exact v_NoSteps_NoPlace
  ·rw[m_NoNumber]at hC;rw[m_NoSteps]at hD;cases hC;cases hD;exact v_NoNumber_NoSteps
  ·rw[m_NoNumber]at hC;rw[m_NoNumber]at hD;cases hC;cases hD;exact v_NoNumber_NoNumber
  ·rw[m_NoNumber]at hC;rw[m_TooMany]at hD;cases hC;cases hD;exact v_NoNumber_TooMany
  ·rw[m_NoNumber]at hC;rw[m_NoPlace]at hD;cases hC;cases hD;exact v_NoNumber_NoPlace
  ·rw[m_TooMany]at hC;rw[m_NoSteps]at hD;cases hC;cases hD;exact v_TooMany_NoSteps
  ·rw[m_TooMany]at hC;rw[m_NoNumber]at hD;cases hC;cases hD;exact v_TooMany_NoNumber
  ·rw[m_TooMany]at hC;rw[m_TooMany]at hD;cases hC;cases hD;exact v_TooMany_TooMany
  ·rw[m_TooMany]at hC;rw[m_NoPlace]at hD;cases hC;cases hD;exact v_TooMany_NoPlace
  ·rw[m_NoPlace]at hC;rw[m_NoSteps]at hD;cases hC;cases hD;exact v_NoPlace_NoSteps
  ·rw[m_NoPlace]at hC;rw[m_NoNumber]at hD;cases hC;cases hD;exact v_NoPlace_NoNumber
  ·rw[m_NoPlace]at hC;rw[m_TooMany]at hD;cases hC;cases hD;exact v_NoPlace_TooMany
  ·rw[m_NoPlace]at hC;rw[m_NoPlace]at hD;cases hC;cases hD;exact v_NoPlace_NoPlace
 ·simp only[List.mem_cons,List.not_mem_nil,or_false]at hf;rcases hf with rfl | rfl
  ·exact Ab xc_TooMany xt_TooMany xa_TooMany_many
  ·exact Ab xc_TooMany xt_TooMany xa_TooMany_most
def spLaw(ts:List (Addr×Addr)):Sp:=λvs H Q z=>∃(a:Addr) (ns:List Int),vs=[.ref a]/\Rd H a (.lst (ns.map V.int))/\ns.length<=63/\(∀q∈ts,H q.2=some (.tbl #[]))/\∀H',Q (.bl true) H'
def Rp{mg:Str->Option Value}{ts:List (Addr×Addr)}{vs:List V}{H:Hp}{Q:VK}{E:XK}(h:spLaw ts vs H Q E):yJ mg Hx vs H Q E/\∀q∈ts,H q.2=some (.tbl #[]):=by
 obtain⟨a,ns,rfl,rd,hl,ht,q⟩:=h;obtain⟨d,M',e,ed⟩:=K4 ns (by lia)
 refine⟨⟨⟨[],[]⟩,[],[.scr ns],.cons (.scr (λz=>by rcases z with z | z<;>cases z) rd) .nil,⟨rfl,List.nodup_nil,λn a o h=>by simp at h,λa h=>by cases h⟩,_,e,λρ' H' b x j c=>?_⟩,ht⟩
 subst ed;cases c;exact q H'
def all_mk{P:Program}{w:World}{K:PySem.W.Frag}{mg:Mg}{fa c_ P_:Addr}{FI_TooMany CE_NoSteps CE_NoNumber CE_TooMany CE_NoPlace CE0 CC_Walk:Addr}{tg_MOST_PLACES tg_MOST_STEPS:Tok}(hfa:mg "law"=some (.ref fa)){h:Heap}(X:K.In h)(G:h.Ns mainGlobals mg)(ht_:PySem.W.tabIn K "law"=some (c_,P_))(t0:TD K "is_whole" mL)(t1:TD K "greatest_divider" dH)(t2:TD K "are_weights" iz)(t3:TD K "are_rows" mK)(t4:TD K "is_lot" rB)(t5:TD K "refuse_no_lot" f9)(t6:TD K "can_be_walked" fZ)(t7:TD K "refuse_no_steps" dU)(t8:TD K "lot_at" rE)(t9:TD K "stepped" o5)(t10:MethAt K CC_Walk "__init__" "Walk.__init__" fV)(t11:MethAt K CC_Walk "__len__" "Walk.__len__" cN)(t12:MethAt K CC_Walk "after" "Walk.after" fW)(t13:MethAt K CC_Walk "power" "Walk.power" fX)(t14:TD K "refuse_less" iB)(t15:TD K "plainest" mO)(t17:TD K "folded" rA)(t18:TD K "beside" rn)(t19:TD K "_law_cell_at" gG)(t20:TD K "_law_pot" mH)(t21:TD K "_law_take" kZ)(t22:TD K "_law_whole" jB)(t23:TD K "_law_within" iw)(t24:TD K "_law_mixed" jz)(t25:TD K "_law_gcd" mF)(t26:TD K "_law_row" mJ)(t27:TD K "_law_rows" kW)(t28:TD K "_law_step" kY)(t29:TD K "_law_after" jy)(t30:TD K "_law_power" jA)(t31:TD K "_law_plainest" fY)(t32:TD K "_law_lazy" kO)(t33:TD K "_law_beside" iu)(t34:TD K "_law_heard" dG)(t35:TD K "law" vZ)(tx_TooMany:MethAt K CE_TooMany "__init__" "TooMany.__init__" dF)(p16:TP K "lazy" uf ["walk", "stay", "go"])(g16:TG K "lazy" uf ["walk", "stay", "go"] [1,1])(z0:TB K "abs")(z1:TB K "all")(z2:TB K "any")(z3:TB K "bool")(z4:TB K "enumerate")(z5:TB K "int")(z6:TB K "isinstance")(z7:TB K "len")(z8:TB K "list")(z9:TB K "max")(z10:TB K "min")(z11:TB K "range")(z12:TB K "repr")(z13:TB K "set")(z14:TB K "sorted")(z15:TB K "sum")(z16:TB K "tuple")(z17:TB K "zip")(Z:Cls K mg FI_TooMany CE_NoSteps CE_NoNumber CE_TooMany CE_NoPlace CE0 CC_Walk tg_MOST_PLACES tg_MOST_STEPS):
  ∃fd:FuncData,(∀(s:Shared) (v:Value),BindsTo s fd ⟨[v],[]⟩ [("_law_script",v)])/\∀base:Heap,K.In base->base.Ns mainGlobals mg->(∀q∈[(c_,P_)],TabD mg base q.1 q.2)->FnOk P w K mg base (bD P w) 16 fa fd ["_law_script"] (spLaw [(c_,P_)]):=by
 obtain⟨f,fd,F,m⟩:=(t35 X G).ex;have e:=hfa.symm.trans m;cases e;have hc_:=F.codeC X G m ht_;refine⟨fd,?_,λbase z z TD_=>?_⟩
 ·obtain⟨oc,od,kV,doc,pm,an,cdv,ct,osl,rfl,_⟩:=F.ex;exact λs v=>.of_eq rfl
 have yz0:=U6 X G z0;have yz1:=U6 X G z1;have yz2:=U6 X G z2;have yz3:=U6 X G z3;have yz4:=U6 X G z4;have yz5:=U6 X G z5;have yz6:=U6 X G z6;have yz7:=U6 X G z7;have yz8:=U6 X G z8;have yz9:=U6 X G z9;have yz10:=U6 X G z10;have yz11:=U6 X G z11;have yz12:=U6 X G z12;have yz13:=U6 X G z13;have yz14:=U6 X G z14;have yz15:=U6 X G z15;have yz16:=U6 X G z16;have yz17:=U6 X G z17;have XI_TooMany:XIni P w K mg base 1 "TooMany" "many" "most":=cD Z.n_TooMany tx_TooMany Z.xn_TooMany Z.cD Z.m_FadeError Z.xr Z.xk Z.xs Z.xf_TooMany;have D0:DefD P w K mg base _ _ _ rQ:=okd (t0 X G) za ((tU).2 yz3 yz5 yz6);have D1:DefD P w K mg base _ _ _ rP:=okn (λN=>cz N) (t1 X G) gm QL λN=>(dq N).2
 have D2:DefD P w K mg base _ _ _ vf:=okd (t2 X G) uU ((nj rQ).2 D0 yz1 yz6 yz7 yz16);have D3:DefD P w K mg base _ _ _ CZ:=okd (t3 X G) yZ ((tR vf).2 D2 yz1 yz6 yz7 yz16);have D4:DefD P w K mg base _ _ _ Dd:=okd (t4 X G) G8 ((yp vf).2 D2 Z.m_MOST_PLACES yz2 yz6 yz7 yz16);have D5:DefD P w K mg base _ _ _ Di:=okd (t5 X G) rG ((jY Dd).2 D4);have D6:DefD P w K mg base _ _ _ Dc:=okd (t6 X G) jD ((jX CZ).2 D3 Z.m_MOST_PLACES yz1 yz6 yz7 yz15 yz16);have D7:DefD P w K mg base _ _ _ Frs:=okd (t7 X G) o9 ((iI rQ).2 D0 Z.t Z.m_MOST_STEPS);have D8:DefD P w K mg base _ _ _ De:=okd (t8 X G) Ha ((yq).2 yz11 yz16);have D9:DefD P w K mg base _ _ _ Dk:=okd (t9 X G) Cw ((vM).2 yz7 yz11 yz15 yz16 yz17);have M10:MethD P w K mg base _ "Walk" _ _ _ _ Fin:=JZ t10 Z.o_Walk.at_ Z.o_Walk.cls rF ((jV Dc).2 D6 Z.o_Walk yz15);have W_Walk:ClsD P w K mg base _ "Walk" iD:=RT M10 (λz z z z z z us hl=>match us,hl with | [_,_],_=>rfl) (λC hC=>by have q:=hC.symm.trans Z.o_Walk.at_;cases q;exact Z.k_Walk) Qy
 have M11:MethD P w K mg base _ "Walk" _ _ _ _ nZ:=JZ t11 Z.o_Walk.at_ Z.o_Walk.cls ug ((lF).2 Z.o_Walk yz7);have M12:MethD P w K mg base _ "Walk" _ _ _ _ wz:=JZ t12 Z.o_Walk.at_ Z.o_Walk.cls nu ((jq Di Frs Dk).2 D5 D7 D9 Z.o_Walk yz7 yz11);have M13:MethD P w K mg base _ "Walk" _ _ _ _ wC:=JZ t13 Z.o_Walk.at_ Z.o_Walk.cls nA ((oV De wz).2 D8 M12 Z.o_Walk yz7 yz11 yz16);have D14:DefD P w K mg base _ _ _ dg:=okd (t14 X G) uW ((nq rQ).2 D0 Z.t);have D15:DefD P w K mg base _ _ _ Dh:=okd (t15 X G) qH ((tW rP iD).2 D1 W_Walk Z.o_Walk yz16);have D16:DefD P w K mg base _ _ _ mY:=Tp (p16.ex X G) uV ((tV dg iD nZ).2 D14 W_Walk M11 Z.o_Walk yz7 yz11 yz16);have G16:DefF P w K mg base _ _ _ _ mY:=Tj (g16.ex X G) uV ((tV dg iD nZ).2 D14 W_Walk M11 Z.o_Walk yz7 yz11 yz16);have D17:DefD P w K mg base _ _ _ pZ:=okd (t17 X G) G7 ((yo iD wC).2 W_Walk M13 Z.t);have D18:DefD P w K mg base _ _ _ vg:=okd (t18 X G) vN ((ym iD nZ).2 W_Walk M11 Z.m_MOST_PLACES Z.o_Walk XI_TooMany yz7 yz16);have D19:DefD P w K mg base _ _ _ zb:=okd (t19 X G) uh ((lG).2 yz7);have D20:DefD P w K mg base _ _ _ zc:=okd (t20 X G) qF ((tO).2 yz11);have D21:DefD P w K mg base _ _ _ n8:=okd (t21 X G) o8 ((qC).2 );have D22:DefD P w K mg base _ _ _ n6:=okd (t22 X G) vR ((oX).2 yz3 yz5 yz6);have D23:DefD P w K mg base _ _ _ zf:=okd (t23 X G) uT ((m9 n6).2 D22);have D24:DefD P w K mg base _ _ _ Dg:=okd (t24 X G) nH ((ju n8).2 D21 yz7 yz8);have D25:DefD P w K mg base _ _ _ rO:=okn (λN=>fJ N) (t25 X G) qD QK λN=>(mC N).2 yz0
 have D26:DefD P w K mg base _ _ _ Dj:=okd (t26 X G) qG ((tQ Dg n8).2 D24 D21 yz16);have D27:DefD P w K mg base _ _ _ wD:=okd (t27 X G) o7 ((kJ n8 Dj).2 D21 D26 yz8 yz11 yz13 yz14 yz16);have D28:DefD P w K mg base _ _ _ Df:=okd (t28 X G) yF ((qz).2 yz7 yz11 yz15 yz16 yz17);have D29:DefD P w K mg base _ _ _ wA:=okd (t29 X G) nF ((jr Df).2 D28 yz11);have D30:DefD P w K mg base _ _ _ ur:=okd (t30 X G) nJ ((oW wA).2 D29 yz5 yz7 yz11 yz16);have D31:DefD P w K mg base _ _ _ wB:=okd (t31 X G) jC ((jW rO).2 D25 yz16);have D32:DefD P w K mg base _ _ _ uq:=okd (t32 X G) o6 ((kI).2 yz4 yz15 yz16);have D33:DefD P w K mg base _ _ _ uo:=okd (t33 X G) lJ ((ir).2 yz16);have H34:HrdD P w K mg base _ _ nY:=Ti (k:=8) (t34 X G) nG λhr ht=>(jt).2 Z.t Z.m_NoNumber Z.m_NoPlace Z.m_NoSteps Z.m_TooMany Z.o_Walk Z.xf_TooMany Z.m_FadeError yz6 (by decide) ht hr
 exact ((R0 (P:=P) (w:=w) (base:=base) (ts:=[(c_,P_)]) F G9 hc_ λA outer s H E ht hr=>(Cd zb zc n8 wD Dh wB n6 uq mY zf ur pZ uo vg iD nY).2 D19 D20 D21 D27 D15 D31 D22 D32 D16 D23 D30 D17 D33 D18 W_Walk G16 Z.o_Walk yz7 yz9 yz10 yz11 yz12 yz16 H34 (TD_ _ (.head _)) rfl ⟨_,ht _ (.head _)⟩ hr).imp λvs H Q E h=>Rp h).mono (by decide)
def walk{l:PySem.W.OpenLaw}{q:Program}{loose:List Str}{XP:(Str->Option Value)->Heap->Prop}{YP:World->Heap->Prop}{d:DefRec}{K:Params->PySem.W.Frag}{c_ P_:Addr}(hn:l.most=some 63)(hdf:d.params.defaults=[])
  (hY:∀(w:World) (h:Heap),YP w h->(K w.params).In h) (hnl:∀w:World,JX (K w.params)=true) (h1:((PyProof.Rows.recsOf q).find? (λe=>e.name==("law":Str))).isSome=true) (h2:∀w:World,PySem.W.tabIn (K w.params) "law"=some (c_,P_)) (h3:∀w:World,(K w.params).lookup P_=none)
  (F:∀(w:World) (mg:Str->Option Value) (fa:Addr) (h:Heap),(K w.params).In h->h.Ns mainGlobals mg->mg d.name=some (.ref fa)->
    ∃fd:FuncData,(∀(s:Shared) (u:Value),BindsTo s fd ⟨[u],[]⟩ [("_law_script",u)])/\∀base:Heap,(K w.params).In base->base.Ns mainGlobals mg->(∀q∈[(c_,P_)],TabD mg base q.1 q.2)->FnOk l.prog w (K w.params) mg base (bD l.prog w) 16 fa fd ["_law_script"] (spLaw [(c_,P_)])) :
  PySem.W.WalkO q loose XP YP l.row.toRowW d [] (λf vs=>PySem.call f vs):=
 L2.JF (n:=63) (k:=16) (x := "_law_script") (CX:=λw=>bD l.prog w) (sp:=spLaw) (tn:=[("law",c_,P_)]) hn (by decide) hdf ⟨rfl,by decide,by decide,rfl⟩ hY (λw a o e=>O7 (hnl w) e) (λt ht=>by rw[U7.mp ht];exact h1) (λw t ht=>by rw[U7.mp ht];exact h2 w) (λw t ht=>by rw[U7.mp ht];exact h3 w) F (λy a ns hl hS hH=>⟨a,ns,rfl,hS,hl,hH,λy=>rfl⟩) λy y y y y z=>by obtain⟨_,_,_,_,_,_,_,_,_,_,_,_,_,q⟩:=z;exact q.elim
end K
open PySem PySem.W PyProof.Rows
set_option maxRecDepth 100000 in
set_option maxHeartbeats 0 in
theorem PySem.Challenge.cw_fadewalk_k07_walks_made_of_walks_holds : PySem.Challenge.rw_fadewalk_k07_walks_made_of_walks.Holds := by
 w_on;refine T.cut ?_
 k_fill
 refine' K.walk (l:=PySem.Challenge.rw_fadewalk_k07_walks_made_of_walks) rfl rfl (λw h Y=>PySem.W.km_in_of Y) ?nl9 ?h1 ?h2 ?h3 ?F
 case h2=>
  intro w
  refine' L2.Hl ?qa ?ql ?qc ?qd ?qe
  case qa=>k_is
  case ql=>k_is
  case qc=>exact rfl
  case qd=>k_is
  case qe=>exact rfl
 case nl9=>intro w;first | k_is | kernel_rfl
 case h1=>decide +kernel
 case h3=>intro w;first | k_is | kernel_rfl
 case F=>
  intro w mg fa h KX G hmg
  refine' K.all_mk hmg KX G ?ht ?t0 ?t1 ?t2 ?t3 ?t4 ?t5 ?t6 ?t7 ?t8 ?t9 ?t10 ?t11 ?t12 ?t13 ?t14 ?t15 ?t17 ?t18 ?t19 ?t20 ?t21 ?t22 ?t23 ?t24 ?t25 ?t26 ?t27 ?t28 ?t29 ?t30 ?t31 ?t32 ?t33 ?t34 ?t35 ?tx_TooMany ?p16 ?g16 ?z0 ?z1 ?z2 ?z3 ?z4 ?z5 ?z6 ?z7 ?z8 ?z9 ?z10 ?z11 ?z12 ?z13 ?z14 ?z15 ?z16 ?z17 (K.Nf KX G ?xc_TooMany ?xt_TooMany ?xn_TooMany ?cD ?xa_TooMany_many ?xa_TooMany_most ?xr ?xk ?xs ?cE0 ?c_NoSteps ?c_NoNumber ?c_TooMany ?c_NoPlace ?eE0 ?e_NoSteps ?s_NoSteps ?x1_NoSteps ?x2_NoSteps ?x3_NoSteps ?x4_NoSteps ?x5_NoSteps ?e_NoNumber ?s_NoNumber ?x1_NoNumber ?x2_NoNumber ?x3_NoNumber ?x4_NoNumber ?x5_NoNumber ?s_TooMany ?x1_TooMany ?x2_TooMany ?x3_TooMany ?x4_TooMany ?x5_TooMany ?e_NoPlace ?s_NoPlace ?x1_NoPlace ?x2_NoPlace ?x3_NoPlace ?x4_NoPlace ?x5_NoPlace ?v_NoSteps_NoSteps ?v_NoSteps_NoNumber ?v_NoSteps_TooMany ?v_NoSteps_NoPlace ?v_NoNumber_NoSteps ?v_NoNumber_NoNumber ?v_NoNumber_TooMany ?v_NoNumber_NoPlace ?v_TooMany_NoSteps ?v_TooMany_NoNumber ?v_TooMany_TooMany ?v_TooMany_NoPlace ?v_NoPlace_NoSteps ?v_NoPlace_NoNumber ?v_NoPlace_TooMany ?v_NoPlace_NoPlace ?g_MOST_PLACES ?g_MOST_STEPS ?cm_Walk ?pg_Walk ?hd_Walk ?po_Walk ?sa_Walk ?mk_Walk ?kc_Walk ?nf_Walk_rows ?nf_Walk_whole ?nl)
  case ht=>
   refine' L2.Hl ?qa ?ql ?qc ?qd ?qe
   case qa=>k_is
   case ql=>k_is
   case qc=>exact rfl
   case qd=>k_is
   case qe=>exact rfl
  case c_TooMany | cm_Walk=>k_is
  case xn_TooMany=>k_is
  case xc_TooMany | xt_TooMany | cD | xa_TooMany_many | xa_TooMany_most | xr | xk | xs | cE0 | c_NoSteps | c_NoNumber | c_NoPlace | eE0 | e_NoSteps | s_NoSteps | x1_NoSteps | x2_NoSteps | x3_NoSteps | x4_NoSteps | x5_NoSteps | e_NoNumber | s_NoNumber | x1_NoNumber | x2_NoNumber | x3_NoNumber | x4_NoNumber | x5_NoNumber | s_TooMany | x1_TooMany | x2_TooMany | x3_TooMany | x4_TooMany | x5_TooMany | e_NoPlace | s_NoPlace | x1_NoPlace | x2_NoPlace | x3_NoPlace | x4_NoPlace | x5_NoPlace | v_NoSteps_NoSteps | v_NoSteps_NoNumber | v_NoSteps_TooMany | v_NoSteps_NoPlace | v_NoNumber_NoSteps | v_NoNumber_NoNumber | v_NoNumber_TooMany | v_NoNumber_NoPlace | v_TooMany_NoSteps | v_TooMany_NoNumber | v_TooMany_TooMany | v_TooMany_NoPlace | v_NoPlace_NoSteps | v_NoPlace_NoNumber | v_NoPlace_TooMany | v_NoPlace_NoPlace | g_MOST_PLACES | g_MOST_STEPS | pg_Walk | hd_Walk | po_Walk | sa_Walk | mk_Walk | kc_Walk | nf_Walk_rows | nf_Walk_whole | nl=>first | k_is | k_exc | kernel_rfl
  case t10 | t11 | t12 | t13 | tx_TooMany=>apply L2.Gh<;>k_is
  case t0 | t1 | t2 | t3 | t4 | t5 | t6 | t7 | t8 | t9 | t14 | t15 | t17 | t18 | t19 | t20 | t21 | t22 | t23 | t24 | t25 | t26 | t27 | t28 | t29 | t30 | t31 | t32 | t33 | t34 | t35=>apply L3.Rt<;>k_is
  case p16=>
   refine' L3.Rw 3 rfl ?qa ?ql ?qc ?qk ?qb
   case qa | ql | qc | qk=>k_is
   case qb=>exact λS us hl=>match us,hl with | [_,_,_],_=>rfl
  case g16=>
   refine' L3.Ru 1 rfl ?qa ?ql ?qc ?qk ?qb
   case qa | ql | qc | qk=>k_is
   case qb=>exact λS us hl=>match us,hl with | [_],_=>rfl
  case z0 | z1 | z2 | z3 | z4 | z5 | z6 | z7 | z8 | z9 | z10 | z11 | z12 | z13 | z14 | z15 | z16 | z17=>delta L3.TB;k_is
