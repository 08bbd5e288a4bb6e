import PyProof.Rows.All
import Wide.All
import OpenK.AllK
import Wide.FinOn
import Lean
import PyProof.EqAt
import PyProof.EqKinds
import PyProof.TupleCall
import PyProof.ReprRoads
import PyProof.P3Eq
import PyProof.NeData
import PyProof.ReprLen
import PyProof.Rows.RegStrFacts
import OpenK.KOwn
import PyProof.StationsW
import PyProof.Rows.Catch
import PyProof.Rows.Own
import PyProof.RulesAs
import PyProof.ExcBaseAll.ValueError
import PyProof.NsDelKeeps
import PyProof.ExcArgsOwn
import PyProof.ExcAttrAll.ValueError
import PyProof.CompFree
import PyProof.CompMap
import PyProof.ConsumeWalk
import PyProof.SumWalk
import PyProof.Rows.TupIter
import PyProof.Rows.SumGenD
import PyProof.FString
import PyProof.Rows.FStr
import PyProof.Rows.RuleIs
import PyProof.FactsAll.tuple_iterator_1
import PyProof.FactsAll.tuple_2
import PyProof.FactsAll.list_3
import PyProof.Cells
import PyProof.ZipIter
import PyProof.EnumMake
import PyProof.EnumFor
import PyProof.ListRange
import PyProof.TupleOfSeq
import PyProof.Rows.SetFrom
import PyProof.Rows.SortShell
import PyProof.CollectWalk
import PyProof.FactsAll.set_1
import PyProof.Rows.SortWalk
import PyProof.FactsAll.set_2
import KE.KDictSum
import KE.KSortTup
import PyProof.TupleKey
import PyProof.IsRules
import KE.KTupSum
import PyProof.WalkInts
import PyProof.SeqI3
import PyProof.Conv_int_bool
import PySem.Challenge.RW_fadewalk_k41_rests_looked_at
section
open PySem PySem.Spec PySem.W PySem.Calls PyProof.Rows
def UL:=@wpAny_bind
def UT:=@Heap.get?_push_of_some
def UV:=@wpAny_pure
def UW:=@List.getElem?_eq_some_iff
def U0:=@Nat.le_refl
def U3:=@List.getElem?_eq_getElem
def U4:=@Option.map_eq_some_iff
def U5:=@if_pos
def U6:=@List.length_map
def U7:=@Heap.lt_size
def U8:=@if_neg
def U9:=@Heap.get?_push_size
def Va:=@Nat.lt_of_lt_of_le
def Vb:=@List.getElem?_append_left
def Vc:=@Option.some.inj
def Vd:=@List.mem_append
def Ve:=@List.mem_range
def Vf:=@List.mem_cons
def Vg:=@List.size_toArray
def Vh:=@decide_eq_true
def Vi:=@Nat.ne_of_lt
def Vj:=@List.mem_singleton
def Vk:=@List.length_append
def Vl:=@List.getElem?_map
def Vm:=@List.mem_cons_self
def Vn:=@wpAny_mono
def Vo:=@List.mem_of_getElem?
def Vp:=@Nat.le_trans
def Vq:=@List.mem_cons_of_mem
def Vr:=@wpAny_newObj_type
def Vs:=@Option.bind_eq_some_iff
def Vt:=@List.map_cons
def Vu:=@Bool.eq_iff_iff
def Vv:=@Bool.false_ne_true
def Vw:=@List.length_replicate
def Vx:=@List.getElem?_eq_none_iff
def Vy:=@List.mem_map
def Vz:=@decide_eq_false
def VB:=@List.mem_append_right
def VD:=@wpAny_call_entry
def VF:=@Heap.size_push
def VG:=@wpAny_field
def VH:=@wpAny_callSpecial?_slot
def VJ:=@PySem.W.mg_none_of
def VL:=@List.getElem?_append_right
def VM:=@Nat.pow_le_pow_right
def VN:=@List.mem_filter
def VP:=@List.map_map
def VR:=@wpAny_holding
def V0:=@Array.getD_eq_getD_getElem?
def V1:=@List.getElem?_set_self
def V2:=@Nat.zero_add
def V3:=@of_decide_eq_true
def V4:=@List.getD_eq_getElem?_getD
def V5:=@List.getElem_mem
def V6:=@List.length_range
def V7:=@decide_eq_true_eq
def V8:=@List.mem_iff_getElem
def V9:=@List.pairwise_cons
def Wa:=@List.getElem?_eq_none
def Wb:=@List.replicate_succ
def Wc:=@PySem.mem_of_lookup
def Wd:=@List.length_cons
def We:=@Int.toNat_natCast
def Wf:=@List.getElem?_set_ne
def Wg:=@Array.getElem?_eq_getElem
def Wh:=@List.getElem?_range
def Wi:=@PyProof.Rows.callWith_type1
def Wj:=@PassesOwn.leaving
def Wk:=@wpAny_setState_of
def Wl:=@PyProof.Rows.slot_tuple_getitem
def Wm:=@Nat.lt_irrefl
def Wn:=@Int.zero_add
def Wo:=@Nat.zero_le
def Wq:=@wpAny_seqItems
def Wr:=@PySem.W.kia_one
def Wt:=@List.filter_cons_of_pos
def Wu:=@List.mem_append_left
def Wv:=@Nat.lt_succ_self
def Ww:=@sizeLine_eq
def Wx:=@wpAny_setField
def Wy:=@List.map_congr_left
def Wz:=@List.length_drop
def WD:=@Bool.and_eq_true
def WF:=@Nat.not_lt
def WL:=@List.mem_of_mem_drop
def WM:=@List.filter_cons_of_neg
def WN:=@List.append_assoc
def WP:=@wpAny_truthy_bool
def WQ:=@pushCells_keeps
def WR:=@wpAny_setEntries_of
def WT:=@beq_eq_false_iff_ne
def WW:=@List.filterMap_cons
def WX:=@Heap.SameBut.update
def WY:=@Heap.get?_update_other
def W0:=@Nat.mod_lt
def W2:=@wpAny_askSetting
def W3:=@List.length_take
def W4:=@List.lookup_cons
def W5:=@List.zip_cons_cons
def W6:=@List.pairwise_iff_getElem
def W7:=@List.append_nil
def W8:=@wpAny_pyIter_list
def W9:=@List.flatten_cons
def Xa:=@wpAny_attempt
def Xb:=@wpAny_standAt
def Xc:=@List.sum_cons
def Xd:=@List.getElem?_replicate
def Xe:=@Array.length_toList
def Xf:=@List.all_eq_true
def Xg:=@wpAny_rule
def Xh:=@List.take_of_length_le
def Xi:=@assignInOrder_cons
def Xj:=@Nat.le_of_lt
def Xk:=@List.length_set
def Xl:=@List.of_mem_zip
def Xm:=@wpAny_passesOwn
def Xn:=@List.length_filter_le
def Xo:=@call_meets
def Xp:=@List.mem_of_mem_take
def Xq:=@List.drop_eq_getElem_cons
def Xr:=@List.eq_of_mem_replicate
def Xu:=@Option.isSome_iff_exists
def Xv:=@Nat.ne_of_gt
def Xw:=@List.filter_eq_self
def Xx:=@List.length_pos_iff
def Xy:=@List.length_eq_zero_iff
def Xz:=@PySem.F.plainAttrs_list
def XC:=@List.map_append
def XD:=@F.slot_int_rmul
def XF:=@wpAny_loadPart'
def XH:=@Nat.lt_succ_of_lt
def XJ:=@List.nodup_append
def XM:=@Heap.get?_update_self
def XN:=@Int.mul_nonneg
def XQ:=@ReprK.of_reads
def XR:=@List.mem_iff_getElem?
def XS:=@wpAny_typeOf
def XX:=@F.slot_enumerate_next
def X3:=@wpAny_fieldsOf
def X4:=@List.take_append_drop
def X5:=@List.cons_append
def X6:=@Around.under_plainId
def X7:=@F.args_object_init_3
def X8:=@List.any_eq_true
def Yb:=@Bool.not_eq_true
def Yc:=@Array.getElem?_eq_none_iff
def Yd:=@Paired.length
def Ye:=@Array.getElem?_eq_some_iff
def Yg:=@slot_tupleiter_next
def Yh:=@wpAny_binaryOp_repeat_ref
def Yi:=@List.nil_append
def Yj:=@Calls.call_function_entry
def Yk:=@AutoSeq1.wpAny_loadPart'
def Yl:=@PySem.F.type_list_append
def Ym:=@PySem.F.slot_list_append
def Yn:=@IsTup.new
def Yo:=@List.map_nil
def Yp:=@PySem.F.args_tuple_add_2
def Yq:=@wpAny_Call_Name_kw
def Yr:=@AutoSeq1.sub_tuple_tuple
def Ys:=@Nat.lt_trans
def Yt:=@SetTable.toList_insertAt
def Yu:=@Nat.eq_zero_or_pos
def Yv:=@Array.forIn_toList
def Yw:=@wpAny_comprehension_free
def Yx:=@typeIs_int
def Yy:=@wpAny_bindName
def Yz:=@iter_tuple
def YB:=@PySem.F.entry_tuple_add
def YC:=@wpAny_pyIter_slot
def YD:=@List.ext_getElem?
def YF:=@List.reverse_cons
def YG:=@Heap.get?_push_ne
def YH:=@F.plain_list_iadd
def YJ:=@Nat.lt_trichotomy
def YK:=@Nat.le_of_lt_succ
def YL:=@PySem.F.slot_tuple_add
def YM:=@Int.mul_pos
def YQ:=@List.pairwise_lt_range
def YS:=@listUpdate_at
def YT:=@F.typeCall_zip_2
def YW:=@wpAny_isInstance
def YX:=@Heap.size_update
def YZ:=@Array.getElem?_toList
def Y0:=@List.nodup_cons
def Y4:=@F.newCall_zip_2
def Y5:=@callType_new
def Y6:=@codeAny_mono
def Y7:=@codeAny_builtin
def Y8:=@wpAny_execs_nil
def Y9:=@List.foldl_cons
def Za:=@F.entry_zip_new
def Zb:=@beq_iff_eq
def Zc:=@Int.le_of_lt
def Zd:=@Heap.get?_update_ne
def Ze:=@Nat.lt_of_le_of_lt
def Zf:=@List.any_cons
def Zg:=@List.pairwise_map
def Zh:=@List.ext_getElem
def Zi:=@get?_update_seq
def Zj:=@F.entry_proto_collect
def Zk:=@IntsAre.length
def Zm:=@F.plain_proto_collect
def Zn:=@plainId_quiet
end
set_option Elab.async false
set_option maxRecDepth 100000
set_option maxHeartbeats 8000000
namespace T
open PySem PySem.W PyProof.Rows
/-- the top's run over a tree -/
noncomputable def runT(p:Program)(w:World)(m:Nat)(a:Option Value):Nat->SharedT->Thread->Option SharedT
 | 0,_,_=>none
 | n + 1,s,t=>match through t with
   | true=>some s
   | false=>match stepOk m a t with
     | false=>none
     | true=>match stepT (denote treeTable) p w s t with
       | some r=>runT p w m a n r.1 r.2
       | none=>none
theorem run_of{p:Program}{w:World}{m:Nat}{a:Option Value}:∀ {n:Nat}{s s':SharedT}{t:Thread},runT p w m a n s t=some s'->topRun treeTable p w m a n s.abs t=some s'.abs
 | 0,_,_,_,h=>by cases h
 | n + 1,s,s',t,h=>by
   unfold runT at h;unfold topRun;cases ht:through t with
   | true=>rw [ht]at h;cases h;rfl
   | false=>
     rw [ht]at h;cases hk:stepOk m a t with
     | false=>rw [hk]at h;cases h
     | true=>
       rw [hk]at h;cases hs:stepT (denote treeTable) p w s t with
       | none=>rw [hs]at h;cases h
       | some r=>obtain ⟨s2,t2⟩:=r;rw [hs]at h;rw [stepT_spec hs];exact run_of h
noncomputable def grow:List Obj->Nat->BT->BT
 | [],_,t=>t
 | o::l,n,t=>grow l (n + 1) (t.ins n o)
noncomputable def bootT(B:Heap)(os:OsState):SharedT:=⟨grow B.objs.toList 0 .nil,B.objs.size,B.life,#[],boot_drawn,boot_toks,os⟩
noncomputable def bootA(w:World)(os:OsState):Shared:=⟨boot_heap w.params,#[],boot_drawn,boot_toks,os⟩
def boot_abs(w:World)(os:OsState):(bootT (boot_heap w.params) os).abs=bootA w os:=by kernel_rfl
def boot_ns(w:World):((boot_heap w.params).isNs mainGlobals && (#[]:Array GenState).size == 0)=true:=by kernel_rfl
noncomputable def chk{α:Type}(p q:Program)(loose:List Str)(Xt:Shared->Bool)(Yf:Shared->α)(N:Nat)(B:Heap)(w:World)(os:OsState):=
 (runT p w B.objs.size (B.nsMap mainGlobals "__annotations__") N (bootT B os) (topStub p)).map λs=>
   (staticsOk (importedModules p.main.body) B s.abs.heap && namesBound p s.abs.heap && gensDone s.abs && laidKept B s.abs.heap,openSeen q loose (importedModules p.main.body) Xt true s.abs,Yf s.abs)
def left{α:Type}{p q:Program}{loose:List Str}{Xt:Shared->Bool}{Yf:Shared->α}{Ya:World->α}{N:Nat}(e:opening p=plainProg p.main.scope.names)(hN:Nat.ble 600 N=true)(f:∀ s,fenceModules? p s=some s)
  (h:∀ (w:World) (os:OsState),chk p q loose Xt Yf N (boot_heap w.params) w os=some (true,openGood q loose,Ya w)):LeftO p q loose Xt Yf Ya N:=λw=>by
 obtain ⟨⟨hh,gs,d,k,os⟩,e1,e2⟩:=U4.mp (boot_open (N:=N) e hN f w);obtain ⟨rfl,rfl,rfl,rfl⟩:hh=boot_heap w.params/\gs=#[]/\d=boot_drawn/\k=boot_toks:=by simpa using e2
 obtain ⟨s,r1,r2⟩:=U4.mp (h w os);have r:=run_of r1;rw [boot_abs]at r;obtain ⟨l1,l2,l3⟩:_/\_/\_:=by simpa only [Prod.mk.injEq] using r2
 unfold openEnds topFrom;rw [e1];show (match (boot_heap w.params).isNs mainGlobals && (#[]:Array GenState).size == 0 with | true=>_ | false=>_:Option Shared).map _=_
 rw [boot_ns];show ((topRun treeTable p w (boot_heap w.params).objs.size _ N (bootA w os) (topStub p)).bind _).map _=_;rw [r];show (match staticsOk (importedModules p.main.body) (boot_heap w.params) s.abs.heap && namesBound p s.abs.heap && gensDone s.abs && laidKept (boot_heap w.params) s.abs.heap with | true=>_ | false=>_:Option Shared).map _=_
 rw [l1];show some (openSeen q loose (importedModules p.main.body) Xt true s.abs,Yf s.abs)=some _;rw [l2,l3]
noncomputable def tp(i:Nat):Stmt:=PySem.Challenge.pw_fadewalk_k41_rests_looked_at.main.body.getD i (.Pass ⟨0,0,0,0⟩)
noncomputable def view:Program:={ PySem.Challenge.pw_fadewalk_k41_rests_looked_at with main:={ PySem.Challenge.pw_fadewalk_k41_rests_looked_at.main with body:=[tp 0,tp 2,tp 3,tp 4,tp 5,tp 6,tp 7,tp 9,tp 10,tp 12,tp 13,tp 14,tp 15,tp 16,tp 17,tp 18,tp 20,tp 21,tp 22,tp 23,tp 24,tp 25,tp 27,tp 28,tp 29,tp 30,tp 32,tp 33,tp 34,tp 35,tp 36,tp 38,tp 39,tp 40,tp 41,tp 42,tp 43,tp 44,tp 45,tp 46,tp 47,tp 48] } }
noncomputable def loos:List Str:=["Walk"]
noncomputable def lvs:List (Str×WData):=[]
noncomputable def lhs(B:Heap)(as:List Addr)(w:World)(os:OsState):=chk PySem.Challenge.pw_fadewalk_k41_rests_looked_at view loos (λs=>xlAt view lvs s && recOk (RowW.records (OpenRow.toRowW (OpenLaw.row PySem.Challenge.rw_fadewalk_k41_rests_looked_at))) s) (λs=>as.map s.heap.get?) 5504 B w os
noncomputable def rhs(K:Params->Frag)(w:World):=some (true,openGood view loos,(K w.params).map λp=>some p.2)
end T
noncomputable def PySem.W.Fast.tw4049499270155579944:PySem.Program:=PySem.Challenge.pw_fadewalk_k41_rests_looked_at
def PySem.W.Fast.te4049499270155579944:PySem.Challenge.pw_fadewalk_k41_rests_looked_at=PySem.W.Fast.tw4049499270155579944:=rfl
namespace T
open PySem PySem.W PyProof.Rows
lay_quick T.lhs T.rhs
def hook{K:Params->Frag}{as:List Addr}{e:∀ P,as=(K P).map (·.1)}(h:∀ (w:World) (os:OsState),PySem.W.Fast.tw12313586583820656202 (boot_heap w.params) as w os=PySem.W.Fast.tw7420988445182104193 K w):
  LeftO PySem.Challenge.pw_fadewalk_k41_rests_looked_at view loos (λs=>xlAt view lvs s && recOk (RowW.records (OpenRow.toRowW (OpenLaw.row PySem.Challenge.rw_fadewalk_k41_rests_looked_at))) s) (Hook.obs (kHook K as e)) (Hook.val (kHook K as e)) 5504:=
 left rfl (by decide) (λ_=>rfl) λw os=>by show lhs (boot_heap w.params) as w os=rhs K w;rw [PySem.W.Fast.te12313586583820656202,PySem.W.Fast.te7420988445182104193];exact h w os
local macro_rules
 | `(tactic| o_head $H)=>`(tactic| (
   refine PySem.W.holds_open (q:=T.view) (loose:=T.loos)
    (Xt:=λs=>PySem.W.xlAt T.view T.lvs s && PySem.W.recOk (PySem.W.RowW.records (PySem.W.OpenRow.toRowW (PySem.W.OpenLaw.row PySem.Challenge.rw_fadewalk_k41_rests_looked_at))) s)
    (XP:=PySem.W.XL T.view T.lvs) (Yf:=PySem.W.Hook.obs $H) (Ya:=PySem.W.Hook.val $H)
    (YP:=PySem.W.Hook.says $H) (N:=5504) ?hl (PySem.W.Hook.of $H) (PySem.W.Hook.keeps $H)
    (λs e=>PySem.W.xl_of s (Bool.and_eq_true_iff.mp e).1) PySem.W.XL.keeps rfl rfl rfl
    (λs e=>PySem.W.recFacts_of (Bool.and_eq_true_iff.mp e).2) rfl
    (by first | assumption | decide +kernel) (by decide +kernel)
    ⟨rfl,rfl,rfl,rfl,rfl,by decide +kernel⟩ ?hw ?hc;(case hl=>exact T.hook (λw os=>by kernel_rfl))))
open_top cut for PySem.Challenge.rw_fadewalk_k41_rests_looked_at
end T
set_option linter.all false
set_option tactic.hygienic false
set_option bootstrap.genMatcherCode false
namespace L2
open PySem PySem.Spec PyProof.Rows
abbrev Key:=Sum Int Str
def keyIs:Key->Value->Bool
 |.inl k,v=>Value.isInt k v
 |.inr x,v=>Value.isStrOf x v
def keyH(w:World):Key->Int
 |.inl k=>hashInt k
 |.inr x=>hashStr w x
def keyIs_shape:∀ {k:Key}{v:Value},keyIs k v=true->(∃ i t,k=Sum.inl i/\v=Value.int i t)\/(∃ x t,k=Sum.inr x/\v=Value.str x t)
 |.inl i,v,h=>by obtain⟨t,e⟩:=Value.isInt_shape (k:=i) (v:=v) h;exact .inl ⟨i,t,rfl,e⟩
 |.inr x,v,h=>by obtain⟨t,e⟩:=Value.isStrOf_shape (x:=x) (v:=v) h;exact .inr ⟨x,t,rfl,e⟩
def keyIs_int(i:Int)(t:Tok):keyIs (.inl i) (.int i t)=true:=by simp[keyIs,Value.isInt]
def keyIs_str(x:Str)(t:Tok):keyIs (.inr x) (.str x t)=true:=by simp[keyIs,Value.isStrOf]
def key_ll(a b:Int):decide ((Sum.inl a:Key)=Sum.inl b)=(a==b):=by
 by_cases e:a=b
 ·subst e;simp
 ·have h:¬ (Sum.inl a:Key)=Sum.inl b:=λq=>e (Sum.inl.inj q)
  rw[Vz h];exact (WT.mpr e).symm
def key_rr(a b:Str):decide ((Sum.inr a:Key)=Sum.inr b)=decide (a=b):=by
 by_cases e:a=b
 ·subst e;simp
 ·have h:¬ (Sum.inr a:Key)=Sum.inr b:=λq=>e (Sum.inr.inj q)
  rw[Vz h,Vz e]
def key_lr(a:Int)(b:Str):decide ((Sum.inl a:Key)=Sum.inr b)=false:=Vz (λq=>nomatch q)
def key_rl(a:Str)(b:Int):decide ((Sum.inr a:Key)=Sum.inl b)=false:=Vz (λq=>nomatch q)
def mixKind(prog:Program)(w:World):PySem.KeyKind prog w Key where
 is:=keyIs
 hash:=keyH w
 inj:=λv a b ha hb=>by
  rcases keyIs_shape ha with ⟨i,t,rfl,rfl⟩ | ⟨x,t,rfl,rfl⟩
  ·rcases keyIs_shape hb with ⟨j,u,rfl,e⟩ | ⟨y,u,rfl,e⟩
   ·injection e with e1 _;rw[e1]
   ·exact nomatch e
  ·rcases keyIs_shape hb with ⟨j,u,rfl,e⟩ | ⟨y,u,rfl,e⟩
   ·exact nomatch e
   ·injection e with e1 _;rw[e1]
 byValue:=λk v h=>by rcases keyIs_shape h with ⟨i,t,rfl,rfl⟩ | ⟨x,t,rfl,rfl⟩<;>rfl
 pyHash:=λhv h=>by
  rcases keyIs_shape hv with ⟨i,t,rfl,rfl⟩ | ⟨x,t,rfl,rfl⟩
  ·exact wpAny_pyHash_int h
  ·exact wpAny_pyHash_str h
 eqBool:=λhu hv h=>by
  rcases keyIs_shape hu with ⟨i,t,rfl,rfl⟩ | ⟨x,t,rfl,rfl⟩
  ·rcases keyIs_shape hv with ⟨j,u,rfl,rfl⟩ | ⟨y,u,rfl,rfl⟩
   ·rw[key_ll]at h;exact wpAny_eqBool_int h
   ·rw[key_lr]at h;exact SeqAt.EqAt.int_str i t y u _ _ _ _ h
  ·rcases keyIs_shape hv with ⟨j,u,rfl,rfl⟩ | ⟨y,u,rfl,rfl⟩
   ·rw[key_rl]at h;exact SeqAt.EqAt.str_int x t j u _ _ _ _ h
   ·rw[key_rr]at h;exact wpAny_eqBool_str h
 «strs»:=λk x t v h=>by
  rcases keyIs_shape h with ⟨i,u,rfl,e⟩ | ⟨y,u,rfl,e⟩
  ·exact nomatch e
  ·injection e with e1 _
   subst e1;cases v<;>rfl
def mixKind_is(prog:Program)(w:World)(k:Key)(v:Value):(mixKind prog w).is k v=keyIs k v:=rfl
def mixKind_int(prog:Program)(w:World)(i:Int)(t:Tok):(mixKind prog w).is (.inl i) (.int i t)=true:=keyIs_int i t
def mixKind_str(prog:Program)(w:World)(x:Str)(t:Tok):(mixKind prog w).is (.inr x) (.str x t)=true:=keyIs_str x t
open PySem PySem.Spec PyProof.Rows
inductive V where
 |non | bl (b:Bool) | int (i:Int) | str (x:Str) | byt (b:Array UInt8) | flt (b:UInt64) | ref (a:Addr) | ty (n:String)
 deriving DecidableEq
def RelV:V->Value->Prop
 |.non,u=>u=Value.none
 |.bl b,u=>u=Value.bool b
 |.int i,u=>∃t,u=Value.int i t
 |.str x,u=>∃t,u=Value.str x t
 |.byt b,u=>∃t,u=Value.bytes b t
 |.flt b,u=>∃t,u=Value.float b t
 |.ref a,u=>u=Value.ref a
 |.ty n,u=>u=Value.type n
abbrev Vals:List V->List Value->Prop:=Paired RelV
theorem Vals.length(r:Vals xs us):xs.length=us.length:=Yd r
theorem Vals.get:∀ {xs:List V}{us:List Value}{i:Nat}{x:V},Vals xs us->xs[i]?=some x->∃ u,us[i]?=some u/\RelV x u
 |_,_,_,_,.nil,e=>by simp at e
 |_,_,0,_,.cons r _,e=>by simp at e;subst e;exact⟨_,rfl,r⟩
 |_,_,i+1,x,.cons _ t,e=>by
   obtain⟨u,h1,h2⟩:=Vals.get (i:=i) (x:=x) t (by simpa using e)
   exact⟨u,by simpa using h1,h2⟩
theorem Vals.set(r:RelV x u):∀{xs:List V}{us:List Value} (i:Nat),Vals xs us->Vals (xs.set i x) (us.set i u)
 |_,_,_,.nil=>.nil
 |_,_,0,.cons _ t=>.cons r t
 |_,_,i+1,.cons q t=>.cons q (Vals.set r i t)
theorem Vals.append:∀{xs ys:List V}{us ws:List Value},Vals xs us->Vals ys ws->Vals (xs++ys) (us++ws)
 |_,_,_,_,.nil,s=>s
 |_,_,_,_,.cons r t,s=>.cons r (Vals.append t s)
theorem Vals.take:∀{xs:List V}{us:List Value} (n:Nat),Vals xs us->Vals (xs.take n) (us.take n)
 |_,_,0,_=>.nil
 |_,_,_+1,.nil=>.nil
 |_,_,n+1,.cons r t=>.cons r (Vals.take n t)
theorem Vals.drop:∀{xs:List V}{us:List Value} (n:Nat),Vals xs us->Vals (xs.drop n) (us.drop n)
 |_,_,0,r=>r
 |_,_,_+1,.nil=>.nil
 |_,_,n+1,.cons _ t=>Vals.drop n t
def Vals.none_of:∀{xs:List V}{us:List Value}{i:Nat},Vals xs us->xs[i]?=none->us[i]?=none:=λ{xs us i} r e=>by have h1:=r.length;have h2:xs.length<=i:=Vx.mp e;exact Vx.mpr (by lia)
def RelO:Option V->Option Value->Prop
 |some v,some u=>RelV v u
 |none,none=>True
 |_,_=>False
def KV{κ:Type}:List (κ×V)->List (κ×Value)->Prop:=Paired λ(p:κ×V) (q:κ×Value)=>p.1=q.1/\RelV p.2 q.2
def kV:Key->V
 |.inl i=>.int i
 |.inr x=>.str x
inductive HO where
 /-- a list -/
 |lst (xs:List V)
 /-- a tuple (never changes) -/
 |tup (xs:List V)
 /-- a dict whose keys are ints and texts;one whose keys are tuples of ints and texts (the empty one is both) -/
 |dK (kvs:List (Key×V)) | dT (kvs:List (List Key×V))
 /-- a set of ints: its members,its size -/
 |set (S:Int->Bool) (n:Nat)
 /-- an instance of the class at C,its dict at dx,its attributes -/
 |ins (C dx:Addr) (fs:List (Str×V))
 /-- the dict of the instance at x -/
 |own (x:Addr)
 /-- the dict of an exception -/
 |xd (fs:List (Str×V))
 /-- a bound method,f of x -/
 |met (f x:Addr)
 /-- a range object lo,lo+1,.. below hi -/
 |rng (lo hi:Int)
 /-- a thing that is known to the object (the script;a dict while a loop walks it): read,never written while it is so -/
 |frz (o:Obj) (u:HO)
 /-- a code object's table -/
 |tbl (ps:Array Value)
 /-- any other thing,by what is true of its one object (a def of one's own: SetO a S n:=HO.ext λh=>..) -/
 |ext (φ:Heap->Prop)
abbrev Hp:=Addr->Option HO
def upd(H:Hp)(a:Addr)(o:HO):Hp:=λb=>if b=a then some o else H b
def upd_same{H:Hp}{a:Addr}{o:HO}:upd H a o a=some o:=by unfold upd;rw[U5 rfl]
def upd_ne{H:Hp}{a b:Addr}{o:HO}(h:b≠a):upd H a o b=H b:=by unfold upd;rw[U8 h]
def upd_upd:upd (upd H a o) a u=upd H a u:=by funext b;unfold upd;split<;>rfl
def ne_of{H:Hp}{a b:Addr}{o u:HO}(h:H a=some o)(h':H b=some u)(d:o≠u):a≠b:=by intro e;subst e;rw[h]at h';exact d (Vc h')
def ne_of_none{H:Hp}{a b:Addr}{o:HO}(h:H a=some o)(h':H b=none):a≠b:=by intro e;subst e;rw[h]at h';cases h'
def RecAt(H:Hp)(v:Value):Prop:=∃c o fs q t,v=.ref c/\H c=some (.frz o (.own c))/\o.data=.fields fs/\fs[1]?=some (.str q t)
section
variable(P:Program)(w:World)
def ObjOk(H:Hp)(h:Heap)(a:Addr):HO->Prop
 |.lst xs=>xs.length<=sizeLine/\∃(its:List Value) (n:Nat),Vals xs its/\h.get? a=some { cls:=.type "list",data:=.seq its.toArray n }
 |.tup xs=>xs.length<=sizeLine/\∃its:List Value,Vals xs its/\IsTup h a its.toArray
 |.dK kvs=>kvs.length<=sizeLine/\(a==sysModules)=false/\∃vs,KV kvs vs/\h.DictOf (mixKind P w) a vs
 |.dT kvs=>kvs.length<=sizeLine/\(a==sysModules)=false/\∃xs:List (List Key×Addr×Value),
   Paired (λ(p:List Key×V) (q:List Key×Addr×Value)=>p.1=q.1/\H q.2.1=some (.tup (p.1.map kV))/\RelV p.2 q.2.2) kvs xs /\
   ∃o es ep,h.get? a=some o/\o.ExactDict/\o.data=.dict es ep/\es.toList=xs.map (entryOfKey (tupleKind (mixKind P w)))/\(xs.map (·.1)).Nodup
 |.set S n=>h.SetOf (intKind P w) a S n
 |.ins C dx fs=>H dx=some (.own a)/\fs.length<=1000/\dx≠a/\h.get? a=some (PySem.W.instObj C dx) /\
   ∃mA,h.Ns1 dx mA/\(∀f,RelO (fs.lookup f) (mA f))/\PySem.Within mA (fs.map (·.1))
 |.own _=>∃o,h.get? a=some o
 |.xd fs=>∃mA,h.Ns1 a mA/\∀f,RelO (fs.lookup f) (mA f)
 |.rng lo hi=>∃t u v,h.get? a=some { cls:=.type "range",data:=.fields #[.int lo t,.int hi u,.int 1 v] }
 |.frz o u=>h.get? a=some o/\ObjOk H h a u
 |.tbl _=>∃ps:Array Value,h.get? a=some { cls:=.none,data:=.fields ps }/\TriplesOk ps.toList/\∀pos cv,codeAmong pos ps.toList=some cv->RecAt H cv
 |.met f x=>h.get? a=some (PySem.W.methodObj (.ref f) (.ref x))
 |.ext φ=>φ h/\(∃o,h.get? a=some o)/\∀h1 h2:Heap,φ h1->(∀o,h1.get? a=some o->h2.get? a=some o)->φ h2
def HOk(H:Hp)(h:Heap):Prop:=∀a o,H a=some o->ObjOk P w H h a o
end
section
variable{P:Program}{w:World}{H H':Hp}{h h':Heap}{a:Addr}{o:HO}
theorem ObjOk.lt(x:ObjOk P w H h a o):a<h.objs.size:=by
 cases o with
 |lst xs=>obtain⟨_,_,_,_,e⟩:=x;exact U7 e
 |tup xs=>obtain⟨_,_,_,p⟩:=x;exact p.lt
 |dK kvs=>obtain⟨_,_,_,_,o,_,_,e,_⟩:=x;exact U7 e
 |dT kvs=>obtain⟨_,_,_,_,o,_,_,e,_⟩:=x;exact U7 e
 |set S n=>obtain⟨o,_,_,_,e,_⟩:=x;exact U7 e
 |ins C dx fs=>obtain⟨_,_,_,e,_⟩:=x;exact U7 e
 |own y=>obtain⟨_,e⟩:=x;exact U7 e
 |xd fs=>obtain⟨_,⟨_,_,_,e,_⟩,_⟩:=x;exact U7 e
 |rng lo hi=>obtain⟨_,_,_,e⟩:=x;exact U7 e
 |frz ob u=>obtain⟨e,_⟩:=x;exact U7 e
 |tbl ps=>obtain⟨_,e,_⟩:=x;exact U7 e
 |met f y=>exact U7 (show h.get? a=some _ from x)
 |ext φ=>obtain⟨_,⟨_,e⟩,_⟩:=x;exact U7 e
theorem Paired.mapP:∀{l₁:List α}{l₂:List β},Paired F l₁ l₂->(∀a b,F a b->G a b)->Paired G l₁ l₂
 |_,_,.nil,_=>.nil
 |_,_,.cons r t,f=>.cons (f _ _ r) (Paired.mapP t f)
def ObjOk.stay(x:ObjOk P w H h a o)(k:∀ b u,(b=a\/H b=some (.own a))->h.get? b=some u->h'.get? b=some u)
  (ho:∀b,H b=some (.own a)->H' b=some (.own a)) (ht:∀b xs,H b=some (.tup xs)->H' b=some (.tup xs)) (hf:∀b o,H b=some (.frz o (.own b))->H' b=some (.frz o (.own b)):=by exact λs s q=>q):ObjOk P w H' h' a o:=by
 induction o with
 |lst xs=>obtain⟨z,its,n,r,e⟩:=x;exact⟨z,its,n,r,k _ _ (.inl rfl) e⟩
 |tup xs=>obtain⟨z,its,r,ob,e,c⟩:=x;exact⟨z,its,r,ob,k _ _ (.inl rfl) e,c⟩
 |dK kvs=>obtain⟨z,y,vs,r,ob,es,ep,e,c⟩:=x;exact⟨z,y,vs,r,ob,es,ep,k _ _ (.inl rfl) e,c⟩
 |dT kvs=>obtain⟨z,y,xs,r,ob,es,ep,e,c⟩:=x;exact⟨z,y,xs,Paired.mapP r λp q z=>⟨z.1,ht _ _ z.2.1,z.2.2⟩,ob,es,ep,k _ _ (.inl rfl) e,c⟩
 |set S n=>obtain⟨ob,es,ep,t,e,c⟩:=x;exact⟨ob,es,ep,t,k _ _ (.inl rfl) e,c⟩
 |ins C dx fs=>obtain⟨d,z,ne,e,mA,⟨od,es,ep,e2,c⟩,r⟩:=x;exact⟨ho _ d,z,ne,k _ _ (.inl rfl) e,mA,⟨od,es,ep,k _ _ (.inr d) e2,c⟩,r⟩
 |own y=>obtain⟨ob,e⟩:=x;exact⟨ob,k _ _ (.inl rfl) e⟩
 |xd fs=>obtain⟨mA,⟨od,es,ep,e,c⟩,r⟩:=x;exact⟨mA,⟨od,es,ep,k _ _ (.inl rfl) e,c⟩,r⟩
 |rng lo hi=>obtain⟨t,u,v,e⟩:=x;exact⟨t,u,v,k _ _ (.inl rfl) e⟩
 |frz ob u ih=>obtain⟨e,q⟩:=x;exact⟨k _ _ (.inl rfl) e,ih q⟩
 |tbl ps=>obtain⟨ps',e,z,r⟩:=x;exact⟨ps',k a _ (.inl rfl) e,z,λpos cv q=>let ⟨c,o,fs,q',t,g1,g2,g3⟩:=r pos cv q;⟨c,o,fs,q',t,g1,hf c o g2,g3⟩⟩
 |met f y=>have e:h.get? a=some (PySem.W.methodObj (.ref f) (.ref y)):=x;show h'.get? a=some (PySem.W.methodObj (.ref f) (.ref y));exact k a _ (.inl rfl) e
 |ext φ=>obtain⟨p,⟨o,e⟩,st⟩:=x;exact⟨st _ _ p λo q=>k _ _ (.inl rfl) q,⟨o,k _ _ (.inl rfl) e⟩,st⟩
theorem HOk.lt(x:HOk P w H h)(e:H a=some o):a<h.objs.size:=(x a o e).lt
def HOk.fresh(x:HOk P w H h)(e:h.objs.size<=a):H a=none:=by
 cases q:H a with
 |none=>rfl
 |some u=>exact absurd (Va (x.lt q) e) (Wm _)
def HOk.kept(x:HOk P w H h)(k:∀b u,h.get? b=some u->h'.get? b=some u):HOk P w H h':=λa o e=>
 (x a o e).stay (λb u z q=>k b u q) (λz q=>q) λz z q=>q
def HOk.laid(x:HOk P w H h)(k:∀b u,h.get? b=some u->h'.get? b=some u)(hp:h.objs.size<=a)(new:ObjOk P w (upd H a o) h' a o):HOk P w (upd H a o) h':=λb u e=>by
 have hn:=x.fresh hp;by_cases hb:b=a
 ·subst hb;rw[upd_same]at e;cases e;exact new
 ·rw[upd_ne hb]at e;exact (x b u e).stay (λc v z q=>k c v q) (λc q=>by rw[upd_ne (ne_of_none q hn)];exact q) (λc xs q=>by rw[upd_ne (ne_of_none q hn)];exact q) λc o q=>by rw[upd_ne (ne_of_none q hn)];exact q
end
def Rd(H:Hp)(a:Addr)(u:HO):Prop:=H a=some u\/∃o,H a=some (.frz o u)
def Rd.ok(r:Rd H a u)(x:HOk P w H h):ObjOk P w H h a u:=by
 rcases r with r | ⟨o,r⟩
 ·exact x a u r
 ·obtain⟨_,q⟩:=x a _ r;exact q
def Mut:Option HO->Prop
 |some (.lst _)=>True
 |some (.dK _)=>True
 |some (.dT _)=>True
 |some (.set _ _)=>True
 |some (.ins _ _ _)=>True
 |some (.ext _)=>True
 |_=>False
section
variable{P:Program}{w:World}{H:Hp}{h h':Heap}{x e:Addr}{o':HO}
def HOk.write(ok:HOk P w H h)(mu:Mut (H x))(he:e=x\/H e=some (.own x))(k:∀ b u,b≠e->h.get? b=some u->h'.get? b=some u)(heo:∃ u,h'.get? e=some u)
  (new:ObjOk P w (upd H x o') h' x o'):HOk P w (upd H x o') h':=λb u q=>by
 have nown:∀c y,H c=some (.own y)->c≠x:=λc y r z=>by subst z;rw[r]at mu;exact mu
 have ntup:∀c xs,H c=some (.tup xs)->c≠x:=λc xs r z=>by subst z;rw[r]at mu;exact mu
 have nfrz:∀c o u,H c=some (.frz o u)->c≠x:=λc o u r z=>by subst z;rw[r]at mu;exact mu
 by_cases hb:b=x
 ·subst hb;rw[upd_same]at q;cases q;exact new
 ·rw [upd_ne hb]at q;by_cases hbe:b=e
  ·have q':H b=some (.own x):=by
    rcases he with z | z
    ·exact absurd (hbe.trans z) hb
    ·rw[hbe];exact z
   rw[q]at q';cases q';obtain⟨v,hv⟩:=heo;exact⟨v,by rw[hbe];exact hv⟩
  ·refine (ok b u q).stay (λc v hc r=>k c v ?_ r) (λc r=>by rw[upd_ne (nown c b r)];exact r) (λc xs r=>by rw[upd_ne (ntup c xs r)];exact r) λc o r=>by rw[upd_ne (nfrz c o _ r)];exact r
   rcases hc with rfl | hc
   ·exact hbe
   ·rintro rfl;rcases he with z | z
    ·exact nown c b hc z
    ·rw[hc]at z;cases z;exact hb rfl
end
structure Un(fs ex:List Addr)(H H':Hp)(h h':Heap):Prop where
 keep:∀b o,h.get? b=some o->H b=none->b∉fs->b∉ex->h'.get? b=some o
 slot:∀b o,h.get? b=some o->H b=none->b∈fs->b∉ex->∃sl,h'.get? b=some { o with slots:=sl }
 free:∀b o,h.get? b=some o->H b=none->b∉ex->H' b=none
 there:∀b o,h.get? b=some o->b∉ex->∃o',h'.get? b=some o'
 tups:∀b xs,H b=some (.tup xs)->H' b=some (.tup xs)
 frzs:∀b o u,H b=some (.frz o u)->H' b=some (.frz o u)
 tbls:∀b ps,H b=some (.tbl ps)->∃more,H' b=some (.tbl (ps++more))
section
variable{fs fs' ex ex':List Addr}{H H1 H2:Hp}{h h1 h2 h':Heap}{a x e:Addr}{o:HO}
def Un.any(u:Un fs ex H H1 h h1)(q:h.get? b=some ob)(n:H b=none)(hx:b∉ex):∃sl,h1.get? b=some { ob with slots:=sl }:=by
 by_cases hb:b∈fs
 ·exact u.slot b ob q n hb hx
 ·exact⟨ob.slots,u.keep b ob q n hb hx⟩
def Un.kept(k:∀b u,h.get? b=some u->h'.get? b=some u):Un fs ex H H h h':=
 ⟨λb ob q z z z=>k b ob q,λb ob q z z z=>⟨ob.slots,k b ob q⟩,λz z z n z=>n,λb ob q z=>⟨ob,k b ob q⟩,λz z q=>q,λz z z q=>q,λz ps q=>⟨#[],by rw[q];simp⟩⟩
def Un.refl:Un fs ex H H h h:=Un.kept λz z q=>q
def Un.laid(k:∀b u,h.get? b=some u->h'.get? b=some u)(hp:h.objs.size<=a)(hn:H a=none):Un fs ex H (upd H a o) h h' where
 keep:=λb u q z z z=>k b u q
 slot:=λb u q z z z=>⟨u.slots,k b u q⟩
 free:=λb u q n z=>by rw[upd_ne (Vi (Va (U7 q) hp))];exact n
 there:=λb u q z=>⟨u,k b u q⟩
 tups:=λb xs q=>by rw[upd_ne (ne_of_none q hn)];exact q
 frzs:=λb u xs q=>by rw[upd_ne (ne_of_none q hn)];exact q
 tbls:=λb ps q=>⟨#[],by rw[upd_ne (ne_of_none q hn),q];simp⟩
def Un.write(mu:Mut (H x))(he:e=x\/H e=some (.own x))(k:∀b u,b≠e->h.get? b=some u->h'.get? b=some u)(heo:∃u,h'.get? e=some u):Un fs ex H (upd H x o) h h':=by
 have hx:∀b,H b=none->b≠x:=λb n z=>by subst z;rw[n]at mu;exact mu
 have hb:∀b,H b=none->b≠e:=λb n z=>by
  subst z;rcases he with r | r
  ·exact hx b n r
  ·rw[n]at r;cases r
 have hm:∀b u,H b=some u->¬ Mut (some u)->b≠x:=λb u q nm z=>by subst z;rw[q]at mu;exact nm mu
 refine⟨λb u q n y y=>k b u (hb b n) q,λb u q n y y=>⟨u.slots,k b u (hb b n) q⟩,λb u q n y=>by rw[upd_ne (hx b n)];exact n,λb u q y=>?_,
  λb xs q=>by rw[upd_ne (hm b _ q λz=>z)];exact q,λb u xs q=>by rw[upd_ne (hm b _ q λz=>z)];exact q,λb ps q=>⟨#[],by rw[upd_ne (hm b _ q λz=>z),q];simp⟩⟩
 by_cases hbe:b=e
 ·subst hbe;exact heo
 ·exact⟨u,k b u hbe q⟩
end
def trk(h:Heap)(H:Hp):List Addr:=(List.range h.objs.size).filter λa=>(H a).isSome
def hidT(h:Heap)(H:Hp):Heap:=PySem.W.hideAll h (trk h H)
def hidT_size(h:Heap)(H:Hp):(hidT h H).objs.size=h.objs.size:=PySem.W.hideAll_size _ _
def hidT_get(e:h.get? b=some o)(n:H b=none):(hidT h H).get? b=some o:=
 PySem.W.hideAll_get _ e λhm=>by have q:(H b).isSome=true:=(VN.mp hm).2;rw[n]at q;simp at q
def of_hidT(e:(hidT h H).get? b=some o):h.get? b=some o/\H b=none:=by
 have e':h.get? b=some o:=PySem.W.of_hideAll (trk h H) e;refine⟨e',?_⟩;cases q:H b with
 |none=>rfl
 |some x=>
   have hm:b∈trk h H:=VN.mpr ⟨Ve.mpr (U7 e'),by simp[q]⟩
   have z:(hidT h H).get? b=none:=PySem.W.hideAll_none (trk h H) hm;rw[z]at e;cases e
def allNews(g h:Heap)(L:Addr):List (Addr×Obj):=(List.range h.objs.size).filterMap λa=>if a=L\/(g.get? a).isSome=true then none else (h.get? a).map λo=>(a,o)
def rest(g h:Heap)(L d:Addr):List (Addr×Obj):=(allNews g h L).filter λp=>decide (p.1≠d)
open PySem PySem.Spec PyProof.Rows
structure Mod(K:PySem.W.Frag)(mg:Str->Option Value)(base:Heap):Prop where
 kin:K.In base
 glob:base.Ns mainGlobals mg
 blt:∃mb,base.Ns builtinsNs mb/\∀x:Str,x≠"__name__"->mb x=bootBuiltins x
 nolimit:base.NoLimit
structure Cx where
 prog:Program
 w:World
 K:PySem.W.Frag
 mg:Str->Option Value
 base:Heap
 A:Around
 N:List Str
 s₀:Shared
 H₀:Hp
 env:Env
 outer:List Env
 stack:List Env
 ex:List Addr
 fn:Str->Bool
 calm:Bool
 pn:List (Addr×Obj)
 xe:Value->Shared->Prop
def frs(l:List Env):List Addr:=l.filterMap (·.frame)
abbrev Cx.fs(X:Cx):List Addr:=frs X.outer
def Vis(sc:Scope)(x:Str):Prop:=sc.names.lookup x=some .local\/sc.names.lookup x=some .cell\/sc.names.lookup x=some .free
def Loc(sc:Scope)(x:Str):Prop:=sc.names.lookup x=some .local\/sc.names.lookup x=some .cell
def Look(env:Env)(h:Heap)(m:Str->Option Value)(x:Str)(u:Value):Prop:=
 (env.kindOf x=some .local/\m x=some u)\/((env.kindOf x=some .cell\/env.kindOf x=some .free)/\∃c,env.cells.lookup x=some c/\h.IsCell c (some u))
structure Cx.Ok(X:Cx):Prop where
 mod:Mod X.K X.mg X.base
 kind:X.env.scope.kind=.function
 glob:X.env.globals=mainGlobals
 blt:X.env.builtins=builtinsNs
 above:X.s₀.heap.objs.size<=X.env.locals
 inj:∀x y c,X.env.cells.lookup x=some c->X.env.cells.lookup y=some c->x=y
 has:∀x,(X.env.kindOf x=some .cell\/X.env.kindOf x=some .free)->∃c,X.env.cells.lookup x=some c
 cab:∀x c,X.fn x=true->X.env.cells.lookup x=some c->X.s₀.heap.objs.size<=c
 hd:X.calm=true->X.A.handled=none
 frames:X.A.frames=some X.stack
 stk:X.stack=X.outer\/(X.stack=X.env::X.outer/\X.env.frame=some X.env.locals)
 exf:∀b∈X.ex,b≠X.env.locals/\∀x c,X.env.cells.lookup x=some c->c≠b
 bs:∀b o,X.base.get? b=some o->X.s₀.heap.get? b=some o/\X.H₀ b=none
 bsz:X.base.objs.size<=X.s₀.heap.objs.size
 noex:∀b o,X.base.get? b=some o->b∉X.ex
 exfs:∀b∈X.ex,b∉X.fs
 funs:X.s₀.heap.FunFrames X.base X.outer
 frf:∀b∈X.fs,X.H₀ b=none
structure Inv(X:Cx)(Zo:List (Addr×Obj))(σ:List (Option V))(H:Hp)(s:Shared):Prop where
 ok:X.Ok
 os:s.os=X.s₀.os
 bare:AllBare s.gens
 base:Un X.fs X.ex X.H₀ H X.s₀.heap s.heap
 loc:∃m,s.heap.Ns X.env.locals m/\∀(i:Nat) (x:Str) (v:V),X.N[i]?=some x->σ[i]?=some (some v)->Vis X.env.scope x->∃u,RelV v u/\Look X.env s.heap m x u
 cell:∀x c,X.env.cells.lookup x=some c->∃v,s.heap.IsCell c v
 free:H X.env.locals=none
 freeC:∀x c,X.env.cells.lookup x=some c->H c=none
 pin:∀p∈X.pn++Zo,s.heap.get? p.1=some p.2/\H p.1=none/\p.1≠X.env.locals/\p.1∉X.fs/\∀v,p.2.data≠.cell v
 hok:HOk X.prog X.w H s.heap
 len:σ.length=X.N.length
section
variable{X:Cx}{Zo:List (Addr×Obj)}{σ:List (Option V)}{H H':Hp}{s:Shared}{h':Heap}
def Cx.Ok.nofr(ok:X.Ok)(e:X.base.get? b=some o):b∉X.fs:=λhb=>by have:=(ok.funs.mem hb).1;rw[e]at this;cases this
theorem Inv.bs(I:Inv X Zo σ H s):∀b o,X.base.get? b=some o->s.heap.get? b=some o/\H b=none:=λb o e=>
 ⟨I.base.keep b o (I.ok.bs b o e).1 (I.ok.bs b o e).2 (I.ok.nofr e) (I.ok.noex b o e),I.base.free b o (I.ok.bs b o e).1 (I.ok.bs b o e).2 (I.ok.noex b o e)⟩
def Inv.bk(I:Inv X Zo σ H s):∀b o,X.base.get? b=some o->s.heap.get? b=some o:=λb o e=>(I.bs b o e).1
theorem Inv.mod(I:Inv X Zo σ H s):Mod X.K X.mg X.base:=I.ok.mod
def Inv.kIn(I:Inv X Zo σ H s):X.K.In s.heap:=I.ok.mod.kin.keeps I.bk
theorem Inv.lt(I:Inv X Zo σ H s):X.env.locals<s.heap.objs.size:=let ⟨_,hn,_⟩:=I.loc;hn.lt
def Inv.sz(I:Inv X Zo σ H s):X.s₀.heap.objs.size<=s.heap.objs.size:=Vp I.ok.above (Xj I.lt)
def Inv.nofs(I:Inv X Zo σ H s)(h:s.heap.objs.size<=a):a∉X.fs:=λhb=>by obtain⟨_,o,ho,_⟩:=I.ok.funs.mem hb;exact absurd (Va (U7 ho) (Vp I.sz h)) (Wm _)
def Inv.cne(I:Inv X Zo σ H s):∀x c,X.env.cells.lookup x=some c->c≠X.env.locals:=λx c e z=>by obtain⟨v,o,ho,hd⟩:=I.cell x c e;obtain⟨m,⟨o',es,ep,ho',hd',_⟩,_⟩:=I.loc;rw[z,ho']at ho;cases ho;rw[hd']at hd;cases hd
theorem Inv.funs(I:Inv X Zo σ H s):s.heap.FunFrames X.base X.outer:=by
 have all:∀ (l:List Env),(∀ b∈frs l,b∈X.fs)->X.s₀.heap.FunFrames X.base l->s.heap.FunFrames X.base l:=by
  intro l;induction l with
  |nil=>intro _ _;trivial
  |cons env r ih=>
    intro hs hl;obtain⟨hk,⟨L,o,hf,hn,ho,hd⟩,hr⟩:=hl;have hL:L∈X.fs:=hs L (by unfold frs;rw[WW,hf];exact Vm)
    obtain⟨sl,e⟩:=I.base.slot L o ho (I.ok.frf L hL) hL λz=>I.ok.exfs L z hL
    exact⟨hk,⟨L,_,hf,hn,e,hd⟩,ih (λb hb=>hs b (by unfold frs;rw[WW,hf];exact Vq _ hb)) hr⟩
 exact all X.outer (λy hb=>hb) I.ok.funs
theorem Inv.stack(I:Inv X Zo σ H s):s.heap.FunFrames X.base X.stack:=by
 rcases I.ok.stk with e | ⟨e,hf⟩
 ·rw[e];exact I.funs
 ·rw[e];obtain⟨m,hn,_⟩:=I.loc;refine .cons (by rw[I.ok.kind];decide) hf hn ?_ I.funs
  exact Heap.get?_none_of_le (Vp I.ok.bsz I.ok.above)
def Inv.stkSub(I:Inv X Zo σ H s):∀b∈frs X.stack,b∈X.env.locals::X.fs:=λb hb=>by
 rcases I.ok.stk with e | ⟨e,hf⟩
 ·rw[e]at hb;exact Vq _ hb
 ·rw[e]at hb;unfold frs at hb;rw[WW,hf]at hb;exact hb
def Inv.stkFree(I:Inv X Zo σ H s):∀b∈frs X.stack,H b=none:=λb hb=>by
 rcases Vf.mp (I.stkSub b hb) with e | hb
 ·rw[e];exact I.free
 ·obtain⟨_,o,ho,_⟩:=I.ok.funs.mem hb;exact I.base.free b o ho (I.ok.frf b hb) λz=>I.ok.exfs b z hb
def Inv.step{g':Array GenState}{t':Nat}{ch:List Addr}(I:Inv X Zo σ H s)
  (hch:∀b∈ch,(b∈X.ex\/X.s₀.heap.objs.size<=b)/\b≠X.env.locals/\(∀x c,X.env.cells.lookup x=some c->c≠b)/\∀p∈X.pn++Zo,p.1≠b)
  (keep:∀b o,b≠X.env.locals->b∉X.fs->b∉ch->s.heap.get? b=some o->H b=none->h'.get? b=some o)
  (slot:∀b o,b≠X.env.locals->b∈X.fs->b∉ch->s.heap.get? b=some o->H b=none->∃sl,h'.get? b=some { o with slots:=sl }) (free:∀b o,b∉ch->s.heap.get? b=some o->H b=none->H' b=none)
  (there:∀b o,b∉ch->s.heap.get? b=some o->∃o',h'.get? b=some o')
  (tups:∀b xs,H b=some (.tup xs)->H' b=some (.tup xs)) (frzs:∀b o u,H b=some (.frz o u)->H' b=some (.frz o u)) (tbls:∀b ps,H b=some (.tbl ps)->∃more,H' b=some (.tbl (ps++more)))
  (ns:∀m,s.heap.Ns X.env.locals m->h'.Ns X.env.locals m) (hok:HOk X.prog X.w H' h') (hg:AllBare g') :
  Inv X Zo σ H' { s with heap:=h',gens:=g',drawn:=d',toks:=t' }:=by
 have neL:∀b o,X.s₀.heap.get? b=some o->b≠X.env.locals:=λb o e=>Vi (Va (U7 e) I.ok.above)
 have neC:∀b o,X.s₀.heap.get? b=some o->b∉X.ex->b∉ch:=λb o e hx hb=>by
  rcases (hch b hb).1 with z | z
  ·exact hx z
  ·exact absurd (Va (U7 e) z) (Wm _)
 have cellK:∀x c,X.env.cells.lookup x=some c->∀v,s.heap.IsCell c v->h'.IsCell c v:=λx c e v ⟨o,ho,hd⟩=>by
  have nch:c∉ch:=λz=>(hch c z).2.2.1 x c e rfl
  by_cases hc:c∈X.fs
  ·obtain⟨sl,q⟩:=slot c o (I.cne x c e) hc nch ho (I.freeC x c e);exact⟨_,q,hd⟩
  ·exact⟨o,keep c o (I.cne x c e) hc nch ho (I.freeC x c e),hd⟩
 refine⟨I.ok,I.os,hg,⟨λb o e n hb hx=>?_,λb o e n hb hx=>?_,λb o e n hx=>?_,λb o e hx=>?_,λb xs e=>tups b xs (I.base.tups b xs e),λb o xs e=>frzs b o xs (I.base.frzs b o xs e),λb ps e=>?_⟩,?_,λx c e=>?_,?_,λx c e=>?_,λp hp=>?_,hok,I.len⟩
 ·exact keep b o (neL b o e) hb (neC b o e hx) (I.base.keep b o e n hb hx) (I.base.free b o e n hx)
 ·obtain⟨sl,e1⟩:=I.base.slot b o e n hb hx;obtain⟨sl',e2⟩:=slot b _ (neL b o e) hb (neC b o e hx) e1 (I.base.free b o e n hx);exact⟨sl',e2⟩
 ·obtain⟨o',e1⟩:=I.base.there b o e hx;exact free b o' (neC b o e hx) e1 (I.base.free b o e n hx)
 ·obtain⟨o',e1⟩:=I.base.there b o e hx;exact there b o' (neC b o e hx) e1
 ·obtain⟨m1,e1⟩:=I.base.tbls b ps e;obtain⟨m2,e2⟩:=tbls b _ e1;exact⟨m1++m2,by rw[e2,Array.append_assoc]⟩
 ·obtain⟨m,hn,hl⟩:=I.loc;refine⟨m,ns m hn,λi x v e1 e2 e3=>?_⟩
  obtain⟨u,r,l⟩:=hl i x v e1 e2 e3;refine⟨u,r,?_⟩;rcases l with l | ⟨k,c,e,z⟩
  ·exact .inl l
  ·exact .inr ⟨k,c,e,cellK x c e _ z⟩
 ·obtain⟨v,z⟩:=I.cell x c e;exact⟨v,cellK x c e v z⟩
 ·obtain⟨m,⟨o,_,_,ho,_⟩,_⟩:=I.loc;exact free _ o (λz=>(hch _ z).2.1 rfl) ho I.free
 ·obtain⟨v,o,ho,hd⟩:=I.cell x c e;exact free c o (λz=>(hch c z).2.2.1 x c e rfl) ho (I.freeC x c e)
 ·obtain⟨e,n,ne,nf,d⟩:=I.pin p hp;have nch:p.1∉ch:=λz=>(hch p.1 z).2.2.2 p hp rfl
  exact⟨keep p.1 p.2 ne nf nch e n,free p.1 p.2 nch e n,ne,nf,d⟩
def Inv.un{t':Nat}(I:Inv X Zo σ H s)(u:Un X.fs [] H H' s.heap h')(hok:HOk X.prog X.w H' h'):Inv X Zo σ H' { s with heap:=h',toks:=t' }:=by
 obtain⟨m,⟨o,es,ep,ho,r⟩,_⟩:=id I.loc;obtain⟨sl,hL⟩:=u.any ho I.free (by simp)
 exact I.step (g':=s.gens) (d':=s.drawn) (ch:=[]) (λy z=>nomatch z) (λb o y hb y e n=>u.keep b o e n hb (by simp)) (λb o y hb y e n=>u.slot b o e n hb (by simp)) (λb o y e n=>u.free b o e n (by simp)) (λb o y e=>u.there b o e (by simp)) u.tups u.frzs u.tbls (λm' hm=>by obtain⟨o',es',ep',ho',r'⟩:=hm;rw[ho]at ho';cases ho';exact⟨_,es',ep',hL,r'⟩) hok I.bare
def Inv.call{g':Array GenState}{t':Nat}{ch:List Addr}(I:Inv X Zo σ H s)(u:Un (frs X.stack) ch H H' s.heap h')(hok:HOk X.prog X.w H' h')(hg:AllBare g')
  (hch:∀b∈ch,(b∈X.ex\/X.s₀.heap.objs.size<=b)/\b≠X.env.locals/\(∀x c,X.env.cells.lookup x=some c->c≠b)/\∀p∈X.pn++Zo,p.1≠b) :
  Inv X Zo σ H' { s with heap:=h',gens:=g',drawn:=d',toks:=t' }:=by
 obtain⟨m,⟨o,es,ep,ho,r⟩,_⟩:=id I.loc;obtain⟨sl,hL⟩:=u.any ho I.free λz=>(hch _ z).2.1 rfl
 exact I.step (ch:=ch) hch (λb o hL hb hc e n=>u.keep b o e n (λz=>(Vf.mp (I.stkSub b z)).elim hL hb) hc) (λb o y y hc e n=>u.any e n hc) (λb o hc e n=>u.free b o e n hc) (λb o hc e=>u.there b o e hc) u.tups u.frzs u.tbls (λm' hm=>by obtain⟨o',es',ep',ho',r'⟩:=hm;rw[ho]at ho';cases ho';exact⟨_,es',ep',hL,r'⟩) hok hg
def Inv.turned{t':Nat}(I:Inv X Zo σ H s)(k:∀b o,b≠it->s.heap.get? b=some o->h'.get? b=some o)(hn:H it=none)(hL:it≠X.env.locals)
  (h1:it∈X.ex\/X.s₀.heap.objs.size<=it) (h2:∀x c,X.env.cells.lookup x=some c->c≠it) (h3:∀p∈X.pn++Zo,p.1≠it):Inv X Zo σ H { s with heap:=h',toks:=t' }:=by
 have nit:∀b u,H b=some u->b≠it:=λb u e z=>by rw[z,hn]at e;cases e
 refine I.step (g':=s.gens) (d':=s.drawn) (ch:=[it]) (λb hb=>?_) (λb o y y hc e y=>k b o (λz=>hc (by simp[z])) e) (λb o y y hc e y=>⟨o.slots,k b o (λz=>hc (by simp[z])) e⟩) (λy y y y n=>n)
  (λb o hc e=>⟨o,k b o (λz=>hc (by simp[z])) e⟩) (λy y e=>e) (λy y y e=>e) (λb ps e=>⟨#[],by rw[e];simp⟩) (λm hm=>?_) (λb u e=>?_) I.bare
 ·have e:b=it:=by simpa using hb
  subst e;exact⟨h1,hL,h2,h3⟩
 ·obtain⟨o,es,ep,ho,r⟩:=hm;exact⟨o,es,ep,k _ o (Ne.symm hL) ho,r⟩
 ·refine (I.hok b u e).stay (λc v hc q=>k c v ?_ q) (λy q=>q) λy y q=>q
  rcases hc with z | z
  ·rw[z];exact nit b u e
  ·exact nit c _ z
def Inv.tok(I:Inv X Zo σ H s)(t:Nat):Inv X Zo σ H { s with toks:=t }:=I.un (h':=s.heap) (t':=t) Un.refl I.hok
theorem Inv.kept(I:Inv X Zo σ H s)(k:∀b u,s.heap.get? b=some u->h'.get? b=some u):Inv X Zo σ H { s with heap:=h',toks:=t' }:=I.un (Un.kept k) (I.hok.kept k)
theorem Inv.laid(I:Inv X Zo σ H s)(k:∀b u,s.heap.get? b=some u->h'.get? b=some u)(hp:s.heap.objs.size<=a)(new:ObjOk X.prog X.w (upd H a o) h' a o):
  Inv X Zo σ (upd H a o) { s with heap:=h',toks:=t' }:=I.un (Un.laid k hp (I.hok.fresh hp)) (I.hok.laid k hp new)
theorem Inv.write(I:Inv X Zo σ H s)(mu:Mut (H x))(he:e=x\/H e=some (.own x))(k:∀b u,b≠e->s.heap.get? b=some u->h'.get? b=some u)(heo:∃u,h'.get? e=some u)
  (new:ObjOk X.prog X.w (upd H x o) h' x o):Inv X Zo σ (upd H x o) { s with heap:=h',toks:=t' }:=I.un (Un.write mu he k heo) (I.hok.write mu he k heo new)
def Inv.pins_of(I:Inv X Zo σ H s)(h:∀p∈pins',s.heap.get? p.1=some p.2/\H p.1=none/\p.1≠X.env.locals/\p.1∉X.fs/\∀v,p.2.data≠.cell v):Inv X pins' σ H s:=
 ⟨I.ok,I.os,I.bare,I.base,I.loc,I.cell,I.free,I.freeC,λp hp=>(Vd.mp hp).elim (λz=>I.pin p (Wu _ z)) (h p),I.hok,I.len⟩
def nodup_ix{N:List Str}(hN:N.Nodup){i j:Nat}(a:N[i]?=some x)(b:N[j]?=some x):i=j:=by obtain⟨h1,e1⟩:=UW.mp a;obtain⟨h2,e2⟩:=UW.mp b;exact (List.getElem_inj hN).mp (e1.trans e2.symm)
def store_ok2{E:Value->Shared->Prop}{i:Nat}{Q:Unit->Shared->Prop}(I:Inv X Zo σ H s)(hN:X.N.Nodup)(hi:X.N[i]?=some x)(hx:Loc X.env.scope x)(r:RelV v u)
  (h:∀s',Inv X Zo (σ.set i (some v)) H s'->(∃a,Heap.SameBut a s.heap s'.heap/\(a=X.env.locals\/X.env.cells.lookup x=some a))->Q () s') (hf:X.fn x=true\/X.env.scope.names.lookup x=some .local:=by first | exact .inl rfl | exact .inr rfl | assumption):wpAny M A (storeName X.env x u) Q E s:=by
 obtain⟨m,hn,hl⟩:=id I.loc;have hcls:(X.env.scope.kind==.class || (X.env.scope.kind==.module&&X.env.locals != X.env.globals))=false:=by rw[I.ok.kind];rfl
 have hiσ:i<σ.length:=by rw[I.len];exact (UW.mp hi).1
 have cne:=I.cne;have tracked:∀{a:Addr}{h':Heap},(∃o,s.heap.get? a=some o/\H a=none)->Heap.SameBut a s.heap h'->HOk X.prog X.w H h':=λ{a h'} ha hs b ob e=>by
  obtain⟨_,_,hfree⟩:=ha;refine (I.hok b ob e).stay (λc w' hc q=>(hs.2 c ?_).trans q) (λt q=>q) λt t q=>q
  rintro rfl;rcases hc with rfl | hc
  ·rw[hfree]at e;cases e
  ·rw[hfree]at hc;cases hc
 rcases hx with hk | hk
 ·refine wpAny_storeName_local hk hn (λh' hn' hs=>?_) hcls
  obtain⟨oL,_,_,hoL,_⟩:=id hn;refine h _ ⟨I.ok,I.os,I.bare,⟨λb o e n hb hx=>?_,λb o e n hb hx=>?_,I.base.free,λb o e hx=>?_,I.base.tups,I.base.frzs,I.base.tbls⟩,⟨_,hn',λj y v' e1 e2 e3=>?_⟩,λy c e=>?_,I.free,I.freeC,λp hp=>?_,tracked ⟨oL,hoL,I.free⟩ hs,by simpa using I.len⟩ ⟨_,hs,.inl rfl⟩
  ·exact (hs.2 b (Vi (Va (U7 e) I.ok.above))).trans (I.base.keep b o e n hb hx)
  ·obtain⟨sl,e1⟩:=I.base.slot b o e n hb hx;exact⟨sl,(hs.2 b (Vi (Va (U7 e) I.ok.above))).trans e1⟩
  ·obtain⟨o',e1⟩:=I.base.there b o e hx;exact⟨o',(hs.2 b (Vi (Va (U7 e) I.ok.above))).trans e1⟩
  ·by_cases hj:j=i
   ·subst hj;rw[hi]at e1;cases e1;rw[V1 hiσ]at e2;cases e2;exact⟨u,r,.inl ⟨hk,by simp⟩⟩
   ·rw[Wf (Ne.symm hj)]at e2;obtain⟨u',r',q⟩:=hl j y v' e1 e2 e3;refine⟨u',r',?_⟩;rcases q with ⟨k,e⟩ | ⟨k,c,e,z⟩
    ·refine .inl ⟨k,?_⟩;have:y≠x:=λe=>hj (nodup_ix hN e1 (e ▸ hi))
     simp[this,e]
    ·exact .inr ⟨k,c,e,z.sameBut hs (cne y c e)⟩
  ·obtain⟨w',z⟩:=I.cell y c e;exact⟨w',z.sameBut hs (cne y c e)⟩
  ·obtain⟨e,n,ne,nf,d⟩:=I.pin p hp;exact⟨(hs.2 p.1 ne).trans e,n,ne,nf,d⟩
 ·have hfn:X.fn x=true:=by
   rcases hf with z | z
   ·exact z
   ·rw[z]at hk;cases hk
  obtain⟨c,hc⟩:=I.ok.has x (.inl hk);obtain⟨w',z⟩:=I.cell x c hc;refine wpAny_storeName_cell I.ok.kind hk hc z (λh' hc' hs=>?_)
  obtain⟨oc,hoc,hocd⟩:=id z;refine h { s with heap:=h' } ⟨I.ok,I.os,I.bare,⟨λb o e n hb hx=>?_,λb o e n hb hx=>?_,I.base.free,λb o e hx=>?_,I.base.tups,I.base.frzs,I.base.tbls⟩,⟨m,hn.sameBut hs (Ne.symm (cne x c hc)),λj y v' e1 e2 e3=>?_⟩,λy c' e=>?_,I.free,I.freeC,λp hp=>?_,tracked ⟨oc,hoc,I.freeC x c hc⟩ hs,by simpa using I.len⟩ ⟨c,hs,.inr hc⟩
  ·exact (hs.2 b (Vi (Va (U7 e) (I.ok.cab x c hfn hc)))).trans (I.base.keep b o e n hb hx)
  ·obtain⟨sl,e1⟩:=I.base.slot b o e n hb hx;exact⟨sl,(hs.2 b (Vi (Va (U7 e) (I.ok.cab x c hfn hc)))).trans e1⟩
  ·obtain⟨o',e1⟩:=I.base.there b o e hx;exact⟨o',(hs.2 b (Vi (Va (U7 e) (I.ok.cab x c hfn hc)))).trans e1⟩
  ·by_cases hj:j=i
   ·subst hj;rw[hi]at e1;cases e1;rw[V1 hiσ]at e2;cases e2;exact⟨u,r,.inr ⟨.inl hk,c,hc,hc'⟩⟩
   ·rw[Wf (Ne.symm hj)]at e2;obtain⟨u',r',q⟩:=hl j y v' e1 e2 e3;refine⟨u',r',?_⟩;rcases q with q | ⟨k,c',e,z'⟩
    ·exact .inl q
    ·refine .inr ⟨k,c',e,z'.sameBut hs ?_⟩;rintro rfl;exact hj (nodup_ix hN e1 (I.ok.inj _ _ _ e hc ▸ hi))
  ·by_cases hcc:c'=c
   ·subst hcc;exact⟨_,hc'⟩
   ·obtain⟨w2,z2⟩:=I.cell y c' e;exact⟨w2,z2.sameBut hs hcc⟩
  ·obtain⟨e,n,ne,nf,d⟩:=I.pin p hp;refine⟨(hs.2 p.1 ?_).trans e,n,ne,nf,d⟩;intro q;rw[q,hoc]at e;have q':oc=p.2:=Vc e;exact d w' (by rw[<-q'];exact hocd)
def store_ok(I:Inv X Zo σ H s)(hN:X.N.Nodup)(hi:X.N[i]?=some x)(hx:Loc X.env.scope x)(r:RelV v u)
  (h:∀s',Inv X Zo (σ.set i (some v)) H s'->Q () s') (hf:X.fn x=true\/X.env.scope.names.lookup x=some .local:=by first | exact .inl rfl | exact .inr rfl | assumption):wpAny M A (storeName X.env x u) Q E s:=
 store_ok2 I hN hi hx r (λs' I' z=>h s' I') hf
def Inv.call'(I:Inv X Zo σ H s)(ho:s'.os=s.os)(u:Un (frs X.stack) ch H H' s.heap s'.heap)(hok:HOk X.prog X.w H' s'.heap)(hg:AllBare s'.gens)
  (hch:∀b∈ch,(b∈X.ex\/X.s₀.heap.objs.size<=b)/\b≠X.env.locals/\(∀x c,X.env.cells.lookup x=some c->c≠b)/\∀p∈X.pn++Zo,p.1≠b):Inv X Zo σ H' s':=by
 obtain⟨h',g',d',t',o'⟩:=s';have e:o'=s.os:=ho;subst e;exact I.call (g':=g') (t':=t') (d':=d') u hok hg hch
end
abbrev XK:=Value->Option Addr->Hp->Prop
abbrev St:=List (Option V)
abbrev VK:=V->Hp->Prop
abbrev TE:=St->Hp->VK->Prop
abbrev TT:=St->Hp->(Bool->Hp->Prop)->Prop
abbrev TA:=St->Hp->(List V->Hp->Prop)->Prop
structure Ends where
 nx:St->Hp->Prop
 rt:VK
 bk:St->Hp->Prop:=λ_ _=>False
 ct:St->Hp->Prop:=λ_ _=>False
abbrev TS:=Ends->St->Hp->Prop
def EP(X:Cx)(Zo:List (Addr×Obj))(σ:St)(Q:VK)(u:Value)(s':Shared):Prop:=∃v H',Inv X Zo σ H' s'/\RelV v u/\Q v H'
def TP(X:Cx)(Zo:List (Addr×Obj))(σ:St)(Q:Bool->Hp->Prop)(b:Bool)(s':Shared):Prop:=∃H',Inv X Zo σ H' s'/\Q b H'
def AP(X:Cx)(Zo:List (Addr×Obj))(σ:St)(Q:List V->Hp->Prop)(us:List Value)(s':Shared):Prop:=∃vs H',Inv X Zo σ H' s'/\Vals vs us/\Q vs H'
def SP(X:Cx)(Zo:List (Addr×Obj))(D:Ends)(f:Flow)(s':Shared):Prop:=
 match f with
 |.next=>∃σ' H',Inv X Zo σ' H' s'/\D.nx σ' H'
 |.brk=>∃σ' H',Inv X Zo σ' H' s'/\D.bk σ' H'
 |.cont=>∃σ' H',Inv X Zo σ' H' s'/\D.ct σ' H'
 |.ret u=>∃v σ' H',Inv X Zo σ' H' s'/\RelV v u/\D.rt v H'
def PE(X:Cx)(e:Expr)(t:TE):Prop:=
 ∀(Zo:List (Addr×Obj)) (s:Shared) (σ:St) (H:Hp) (Q:VK),Inv X Zo σ H s->t σ H Q->wpAny (model X.prog X.w) X.A (eval e X.env) (EP X Zo σ Q) X.xe s
def PT(X:Cx)(e:Expr)(t:TT):Prop:=
 ∀(Zo:List (Addr×Obj)) (s:Shared) (σ:St) (H:Hp) (Q:Bool->Hp->Prop),Inv X Zo σ H s->t σ H Q->wpAny (model X.prog X.w) X.A (isTrue e X.env (eval e X.env)) (TP X Zo σ Q) X.xe s
def PW(X:Cx)(e:Expr)(t:TT):Prop:=
 ∀(whole:Sem Value) (Zo:List (Addr×Obj)) (s:Shared) (σ:St) (H:Hp) (Q:Bool->Hp->Prop),Inv X Zo σ H s->t σ H Q->wpAny (model X.prog X.w) X.A (isTrue e X.env whole) (TP X Zo σ Q) X.xe s
def PW.pt(h:PW X e t):PT X e t:=h _
def PA(X:Cx)(es:List Expr)(t:TA):Prop:=
 ∀(pos:Pos) (Zo:List (Addr×Obj)) (s:Shared) (σ:St) (H:Hp) (Q:List V->Hp->Prop),Inv X Zo σ H s->t σ H Q->wpAny (model X.prog X.w) X.A (spliced (backTo pos (starEach es X.env))) (AP X Zo σ Q) X.xe s
def PS(X:Cx)(st:Stmt)(t:TS):Prop:=
 ∀(Zo:List (Addr×Obj)) (s:Shared) (σ:St) (H:Hp) (D:Ends),Inv X Zo σ H s->t D σ H->wpAny (model X.prog X.w) X.A (exec st X.env) (SP X Zo D) X.xe s
def PSs(X:Cx)(st:List Stmt)(t:TS):Prop:=
 ∀(Zo:List (Addr×Obj)) (s:Shared) (σ:St) (H:Hp) (D:Ends),Inv X Zo σ H s->t D σ H->wpAny (model X.prog X.w) X.A (execs st X.env) (SP X Zo D) X.xe s
def thn(h:wpAny M A t Q E s)(hQ:∀a s,Q a s->Q' a s):wpAny M A t Q' E s:=Vn h hQ λz z x=>x
open PySem PySem.Spec PyProof.Rows
section
variable{X:Cx}
def bin(ha:PE X a ta)(hb:PE X b tb){Zo:List (Addr×Obj)}{R:V->V->Hp->Prop}(I:Inv X Zo σ H s)(h:ta σ H λx H1=>tb σ H1 λy H2=>R x y H2)
  {α:Type}{Q:α->Shared->Prop}{f:Value->Value->Sem α}
  (hf:∀v u s2 x y H2,Inv X Zo σ H2 s2->RelV x v->RelV y u->R x y H2->wpAny (model X.prog X.w) X.A (f v u) Q X.xe s2) :
  wpAny (model X.prog X.w) X.A (eval a X.env) (λv s₁=>wpAny (model X.prog X.w) X.A (eval b X.env) (λu s₂=>wpAny (model X.prog X.w) X.A (f v u) Q X.xe s₂) X.xe s₁) X.xe s:=by
 refine thn (ha Zo s σ H _ I h) λv s1 ⟨x,H1,I1,r1,q1⟩=>?_
 refine thn (hb Zo s1 σ H1 _ I1 q1) λu s2 ⟨y,H2,I2,r2,q2⟩=>?_
 exact hf v u s2 x y H2 I2 r1 r2 q2
def tVar(i:Nat):TE:=λσ H Q=>∃v,σ[i]?=some (some v)/\Q v H
def tC(v:V):TE:=λz H Q=>Q v H
def pe_var(hN:X.N[i]?=some x)(hv:Vis X.env.scope x)(hd:(x==("__debug__":Str))=false:=by decide)(hcd:(x==("__classdict__":Str))=false:=by decide):PE X (.Name x pos) (tVar i):=by
 intro Zo s σ H Q I h;obtain⟨v,e,h⟩:=h;obtain⟨m,hn,hl⟩:=I.loc;obtain⟨u,r,l⟩:=hl i x v hN e hv;have fin:EP X Zo σ Q u s:=⟨v,H,I,r,h⟩;rcases l with ⟨hk,hm⟩ | ⟨hk,c,hc,hcell⟩
 ·exact wpAny_Name (wpAny_loadName_local I.ok.kind hk hn hm fin) hd
 ·rcases hk with hk | hk
  ·exact wpAny_Name (wpAny_loadName_cell I.ok.kind hk hc hcell fin) hd
  ·exact wpAny_Name (wpAny_loadName_free I.ok.kind hk hc hcell fin hcd) hd
def pe_int{i j pos}:PE X (.Constant (.int i) j pos) (tC (.int i)):=λz z z H z I h=>wpAny_Constant_int ⟨.int i,H,I.tok _,⟨_,rfl⟩,h⟩
def pe_bl{b j pos}:PE X (.Constant (.bool b) j pos) (tC (.bl b)):=λz z z H z I h=>Constant_bool ⟨.bl b,H,I,rfl,h⟩
def pe_non{j pos}:PE X (.Constant .none j pos) (tC .non):=λz z z H z I h=>Constant_none ⟨.non,H,I,rfl,h⟩
def pe_str{x j pos}:PE X (.Constant (.str x) j pos) (tC (.str x)):=λz z z H z I h=>Calls.Constant_str ⟨.str x,H,I.tok _,⟨_,rfl⟩,h⟩
def Gl(X:Cx)(x:Str):Prop:=X.env.kindOf x=some .globalImplicit
def ld_glob(I:Inv X Zo σ H s)(hg:Gl X x)(hm:X.mg x=some u)(h:Q u s)
  (hd:(x==("__debug__":Str))=false:=by decide):wpAny (model X.prog X.w) X.A (eval (.Name x pos) X.env) Q E s:=
 Calls.Name_function_global I.ok.kind hg (Calls.loadGlobal_global (by rw[I.ok.glob];exact I.mod.glob.keeps I.bk) hm h) hd
def ld_blt(I:Inv X Zo σ H s)(hg:Gl X x)(hm:X.mg x=none)(hv:bootBuiltins x=some u)(h:Q u s)
  (hn:x≠"__name__":=by decide) (hd:(x==("__debug__":Str))=false:=by decide):wpAny (model X.prog X.w) X.A (eval (.Name x pos) X.env) Q E s:=by
 obtain⟨mb,h1,h2⟩:=I.mod.blt;exact Calls.Name_function_global I.ok.kind hg (Calls.loadGlobal_builtin (by rw[I.ok.glob];exact I.mod.glob.keeps I.bk) hm (by rw[I.ok.blt];exact h1.keeps I.bk) ((h2 x hn).trans hv) h) hd
def pe_glob(hg:Gl X x)(hm:X.mg x=some u)(r:RelV v u)(hd:(x==("__debug__":Str))=false:=by decide):PE X (.Name x pos) (tC v):=
 λz z z H z I h=>ld_glob I hg hm ⟨v,H,I,r,h⟩ hd
def pe_bltn(hg:Gl X x)(hm:X.mg x=none)(hv:bootBuiltins x=some u)(r:RelV v u)(hn:x≠"__name__":=by decide)(hd:(x==("__debug__":Str))=false:=by decide):PE X (.Name x pos) (tC v):=
 λz z z H z I h=>ld_blt I hg hm hv ⟨v,H,I,r,h⟩ hn hd
variable{a b:Expr}{ta tb:TE}{pos:Pos}
variable{tA tB':TT}{rest:List Expr}
def tAnd(t u:TT):TT:=λσ H Q=>t σ H λc H1=>if c=true then u σ H1 Q else Q false H1
def tOr(t u:TT):TT:=λσ H Q=>t σ H λc H1=>if c=true then Q true H1 else u σ H1 Q
def tNot(t:TT):TT:=λσ H Q=>t σ H λc H1=>Q (!c) H1
def pw_and1(ha:PT X a tA):PW X (.BoolOp .And [a] pos) tA:=by
 intro wh Zo s σ H Q I h;refine isTrue_and (thn (ha Zo s σ H Q I h) λc s1 e=>?_)
 cases c with
 |true=>exact isTrue_and_nil e
 |false=>exact e
def pw_or1(ha:PT X a tA):PW X (.BoolOp .Or [a] pos) tA:=by
 intro wh Zo s σ H Q I h;refine isTrue_or (thn (ha Zo s σ H Q I h) λc s1 e=>?_)
 cases c with
 |false=>exact isTrue_or_nil e
 |true=>exact e
def pw_and(ha:PT X a tA)(hb:PW X (.BoolOp .And (b::rest) pos) tB'):PW X (.BoolOp .And (a::b::rest) pos) (tAnd tA tB'):=by
 intro wh Zo s σ H Q I h;refine isTrue_and (thn (ha Zo s σ H _ I h) λc s1 ⟨H1,I1,q1⟩=>?_)
 cases c with
 |true=>exact hb wh Zo s1 σ H1 Q I1 q1
 |false=>exact⟨H1,I1,q1⟩
def pw_or(ha:PT X a tA)(hb:PW X (.BoolOp .Or (b::rest) pos) tB'):PW X (.BoolOp .Or (a::b::rest) pos) (tOr tA tB'):=by
 intro wh Zo s σ H Q I h;refine isTrue_or (thn (ha Zo s σ H _ I h) λc s1 ⟨H1,I1,q1⟩=>?_)
 cases c with
 |true=>exact⟨H1,I1,q1⟩
 |false=>exact hb wh Zo s1 σ H1 Q I1 q1
def pt_not(ha:PT X a tA):PT X (.UnaryOp .Not a pos) (tNot tA):=by intro Zo s σ H Q I h;exact isTrue_not (ha Zo s σ H (λc H1=>Q (!c) H1) I h)
def tAndV(ta tb:TE):TE:=λσ H Q=>ta σ H λx H1=>∃c,x=.bl c/\if c=true then tb σ H1 Q else Q (.bl false) H1
def tNotV(ta:TE):TE:=λσ H Q=>ta σ H λx H1=>∃c,x=.bl c/\Q (.bl (!c)) H1
def pe_one{op}(h:PE X a t):PE X (.BoolOp op [a] pos) t:=λZo s σ H Q I hw=>BoolOp_one (h Zo s σ H Q I hw)
def pe_and(ha:PE X a ta)(hb:PE X (.BoolOp .And (b::rest) pos) tb):PE X (.BoolOp .And (a::b::rest) pos) (tAndV ta tb):=by
 intro Zo s σ H Q I h;refine BoolOp_and (thn (ha Zo s σ H _ I h) λv s1 ⟨x,H1,I1,r1,q1⟩=>?_)
 obtain⟨c,rfl,q1⟩:=q1;cases r1;refine WP ?_;cases c with
 |true=>exact hb Zo s1 σ H1 Q I1 q1
 |false=>exact⟨.bl false,H1,I1,rfl,q1⟩
def pe_not(ha:PE X a ta):PE X (.UnaryOp .Not a pos) (tNotV ta):=by
 intro Zo s σ H Q I h;refine UnaryOp_ (thn (ha Zo s σ H _ I h) λv s1 ⟨x,H1,I1,r1,q1⟩=>?_)
 obtain⟨c,rfl,q1⟩:=q1;cases r1;exact not_of (WP ⟨.bl (!c),H1,I1,rfl,q1⟩)
def tIf(t:TT)(ta tb:TE):TE:=λσ H Q=>t σ H λc H1=>if c=true then ta σ H1 Q else tb σ H1 Q
def pe_ifExp(hc:PT X c tA)(ha:PE X a ta)(hb:PE X b tb):PE X (.IfExp c a b pos) (tIf tA ta tb):=by
 intro Zo s σ H Q I h;refine wpAny_IfExp (thn (hc Zo s σ H _ I h) λd s1 ⟨H1,I1,q1⟩=>?_)
 cases d with
 |true=>exact ha Zo s1 σ H1 Q I1 q1
 |false=>exact hb Zo s1 σ H1 Q I1 q1
end
open PySem PySem.Spec PyProof.Rows
def SqL(K:PySem.W.Frag)(H:Hp)(a:Addr)(xs:List V):Prop:=
 Rd H a (.lst xs) \/
  ∃(o:Obj) (its:Array Value) (n:Nat),K.lookup a=some o/\o.cls=.type "list"/\o.dict=none/\o.data=.seq its n/\its.size<=sizeLine/\Vals xs its.toList
def SqT(K:PySem.W.Frag)(H:Hp)(a:Addr)(xs:List V):Prop:=
 Rd H a (.tup xs) \/
  ∃(o:Obj) (its:Array Value) (n:Nat),K.lookup a=some o/\o.cls=.type "tuple"/\o.data=.seq its n/\its.size<=sizeLine/\Vals xs its.toList
def absV:Value->Option V
 |.none=>some .non
 |.bool b=>some (.bl b)
 |.int i _=>some (.int i)
 |.str x _=>some (.str x)
 |.bytes b _=>some (.byt b)
 |.float b _=>some (.flt b)
 |.ref a=>some (.ref a)
 |.type n=>some (.ty n)
 |_=>none
def RelV.abs(r:RelV x u):absV u=some x:=by
 cases x with
 |non=>cases r;rfl
 |bl _=>cases r;rfl
 |int _=>obtain⟨t,rfl⟩:=r;rfl
 |str _=>obtain⟨t,rfl⟩:=r;rfl
 |byt _=>obtain⟨t,rfl⟩:=r;rfl
 |flt _=>obtain⟨t,rfl⟩:=r;rfl
 |ref _=>cases r;rfl
 |ty _=>cases r;rfl
def RelV.inj(r:RelV x u)(q:RelV y u):x=y:=Vc (r.abs.symm.trans q.abs)
theorem Vals.inj:∀{xs ys:List V}{us:List Value},Vals xs us->Vals ys us->xs=ys
 |_,_,_,.nil,.nil=>rfl
 |_,_,_,.cons r t,.cons r' t'=>by rw[r.inj r',Vals.inj t t']
section
variable{X:Cx}{Zo:List (Addr×Obj)}{σ:St}{H:Hp}{s:Shared}{a:Addr}{xs ys:List V}
def SqL.of{K:PySem.W.Frag}(h:H a=some (.lst xs)):SqL K H a xs:=.inl (.inl h)
def SqT.of{K:PySem.W.Frag}(h:H a=some (.tup xs)):SqT K H a xs:=.inl (.inl h)
def Inv.list(I:Inv X Zo σ H s)(h:SqL X.K H a xs):∃its:List Value,Vals xs its/\PlainL s.heap a its.toArray/\xs.length<=sizeLine:=by
 rcases h with h | ⟨o,its,n,hk,hc,hd,hs,hz,r⟩
 ·obtain⟨z,its,n,r,e⟩:=h.ok I.hok;exact⟨its,r,⟨_,n,e,rfl,rfl,rfl⟩,z⟩
 ·refine⟨its.toList,r,⟨o,n,I.kIn a o hk,hc,hd,by simpa using hs⟩,?_⟩
  have e:=r.length;simp only[Array.length_toList]at e
  lia
def Inv.tuple(I:Inv X Zo σ H s)(h:SqT X.K H a xs):∃its:List Value,Vals xs its/\IsTup s.heap a its.toArray/\xs.length<=sizeLine:=by
 rcases h with h | ⟨o,its,n,hk,hc,hs,hz,r⟩
 ·obtain⟨z,its,r,p⟩:=h.ok I.hok;exact⟨its,r,p,z⟩
 ·refine⟨its.toList,r,⟨o,I.kIn a o hk,hc,n,by simpa using hs⟩,?_⟩
  have e:=r.length;simp only[Array.length_toList]at e
  lia
def Inv.list_inj(I:Inv X Zo σ H s)(h:SqL X.K H a xs)(h':SqL X.K H a ys):xs=ys:=by
 obtain⟨its,r,⟨o,n,e,_,_,d⟩,_⟩:=I.list h;obtain⟨its',r',⟨o',n',e',_,_,d'⟩,_⟩:=I.list h';rw[e]at e';cases e';rw[d]at d';injection d' with d1 _
 have:its=its':=by simpa using congrArg Array.toList d1
 subst this;exact r.inj r'
def Inv.tuple_inj(I:Inv X Zo σ H s)(h:SqT X.K H a xs)(h':SqT X.K H a ys):xs=ys:=by
 obtain⟨its,r,⟨o,e,_,n,d⟩,_⟩:=I.tuple h;obtain⟨its',r',⟨o',e',_,n',d'⟩,_⟩:=I.tuple h';rw[e]at e';cases e';rw[d]at d';injection d' with d1 _
 have:its=its':=by simpa using congrArg Array.toList d1
 subst this;exact r.inj r'
end
section
variable{X:Cx}{st:Stmt}{rest:List Stmt}{t u:TS}{e:Expr}{te:TE}{pos:Pos}
def tNext:TS:=λD σ H=>D.nx σ H
def tSeq(t u:TS):TS:=λD σ H=>t { D with nx:=u D } σ H
def pss_nil:PSs X [] tNext:=λ_ _ σ H _ I h=>Y8 ⟨σ,H,I,h⟩
def pss_cons(h1:PS X st t)(h2:PSs X rest u):PSs X (st::rest) (tSeq t u):=by
 intro Zo s σ H D I h;refine wpAny_execs_cons (thn (h1 Zo s σ H { D with nx:=u D } I h) λf s1 q=>?_)
 cases f with
 |next=>obtain⟨σ',H',I',q⟩:=q;exact h2 Zo s1 σ' H' D I' q
 |ret v=>exact q
 |brk=>exact q
 |cont=>exact q
def pss_one(h1:PS X st t):PSs X [st] t:=by
 intro Zo s σ H D I h;refine wpAny_execs_cons (thn (h1 Zo s σ H D I h) λf s1 q=>?_)
 cases f with
 |next=>exact Y8 q
 |ret v=>exact q
 |brk=>exact q
 |cont=>exact q
def Inv.quiet(I:Inv X Zo σ H s):interactive X.env=false:=by simp[interactive,I.ok.kind]
def tDrop(te:TE):TS:=λD σ H=>te σ H λz H1=>D.nx σ H1
def ps_expr(he:PE X e te)(hs:swapsWith e none pos.line X.env=pure false:=by rfl):PS X (.Expr e pos) (tDrop te):=by intro Zo s σ H D I h;exact wpAny_Expr_any (thn (he Zo s σ H _ I h) λv s1 ⟨x,H1,I1,r1,q1⟩=>⟨σ,H1,I1,q1⟩) I.quiet hs
def tRet(te:TE):TS:=λD σ H=>te σ H D.rt
def ps_ret(he:PE X e te):PS X (.Return (some e) pos) (tRet te):=by intro Zo s σ H D I h;exact wpAny_Return_some (thn (he Zo s σ H _ I h) λv s1 ⟨x,H1,I1,r1,q1⟩=>⟨x,σ,H1,I1,r1,q1⟩)
def tIfS(c:TT)(t u:TS):TS:=λD σ H=>c σ H λb H1=>if b=true then t D σ H1 else u D σ H1
def ps_if(hc:PT X c tc)(ha:PSs X a t)(hb:PSs X b u):PS X (.If c a b pos) (tIfS tc t u):=by
 intro Zo s σ H D I h;refine wpAny_If (thn (hc Zo s σ H _ I h) λd s1 ⟨H1,I1,q1⟩=>?_)
 cases d with
 |true=>exact ha Zo s1 σ H1 D I1 q1
 |false=>exact hb Zo s1 σ H1 D I1 q1
end
abbrev TG:=V->St->Hp->(St->Hp->Prop)->Prop
abbrev TGs:=List V->St->Hp->(St->Hp->Prop)->Prop
def PG(X:Cx)(target:Expr)(t:TG):Prop:=
 ∀(Zo:List (Addr×Obj)) (s:Shared) (σ:St) (H:Hp) (v:V) (u:Value) (Q:St->Hp->Prop),Inv X Zo σ H s->RelV v u->t v σ H Q->
   wpAny (model X.prog X.w) X.A (assign target X.env u) (λz s'=>∃σ' H',Inv X Zo σ' H' s'/\Q σ' H') X.xe s
def PGs(X:Cx)(ts:List Expr)(t:TGs):Prop:=
 ∀(Zo:List (Addr×Obj)) (s:Shared) (σ:St) (H:Hp) (vs:List V) (us:List Value) (Q:St->Hp->Prop),Inv X Zo σ H s->Vals vs us->t vs σ H Q->
   wpAny (model X.prog X.w) X.A (assignInOrder ((assignEach ts X.env).map (·.2)) us) (λz s'=>∃σ' H',Inv X Zo σ' H' s'/\Q σ' H') X.xe s
abbrev TSet:=V->V->V->Hp->(Hp->Prop)->Prop
def PSet(X:Cx)(t:TSet):Prop:=
 ∀(Zo:List (Addr×Obj)) (s:Shared) (σ:St) (H:Hp) (o i v:V) (ov iv u:Value) (Q:Hp->Prop),Inv X Zo σ H s->RelV o ov->RelV i iv->RelV v u->t o i v H Q->
   wpAny (model X.prog X.w) X.A (setItem ov iv u) (λz s'=>∃H',Inv X Zo σ H' s'/\Q H') X.xe s
abbrev TIp:=V->V->Hp->VK->Prop
def PIp(X:Cx)(op:Operator)(t:TIp):Prop:=
 ∀(Zo:List (Addr×Obj)) (s:Shared) (σ:St) (H:Hp) (x y:V) (v u:Value) (Q:VK),Inv X Zo σ H s->RelV x v->RelV y u->t x y H Q->
   wpAny (model X.prog X.w) X.A (inplaceOp op v u) (EP X Zo σ Q) X.xe s
section
variable{X:Cx}{pos:Pos}
def gName(i:Nat):TG:=λv σ H Q=>Q (σ.set i (some v)) H
def pg_name(hN:X.N.Nodup)(hi:X.N[i]?=some x)(hx:Loc X.env.scope x)(hf:X.fn x=true\/X.env.scope.names.lookup x=some .local:=by first | exact .inl rfl | exact .inr rfl | assumption):PG X (.Name x pos) (gName i):=by intro Zo s σ H v u Q I r h;exact wpAny_assign_Name (store_ok I hN hi hx r (λs' I'=>⟨_,H,I',h⟩) hf)
def gNil:TGs:=λvs σ H Q=>vs=[]/\Q σ H
def gCons(t:TG)(u:TGs):TGs:=λvs σ H Q=>∃v r,vs=v::r/\t v σ H λσ' H'=>u r σ' H' Q
def pgs_nil:PGs X [] gNil:=by intro Zo s σ H vs us Q I r h;obtain⟨e,h⟩:=h;subst e;cases r;exact assignInOrder_nil ⟨σ,H,I,h⟩
def pgs_cons(h1:PG X e t)(h2:PGs X es u)
  (hs:(assignEach (e::es) X.env).map (·.2)=assign e X.env::(assignEach es X.env).map (·.2):=by rfl):PGs X (e::es) (gCons t u):=by
 intro Zo s σ H vs us Q I r h;obtain⟨v,vr,e1,h⟩:=h;subst e1;cases r with
 |cons r rr=>
   rw[hs];refine Xi (thn (h1 Zo s σ H _ _ _ I r h) λ_ s1 ⟨σ1,H1,I1,q1⟩=>?_)
   exact h2 Zo s1 σ1 H1 _ _ Q I1 rr q1
def gTup(K:PySem.W.Frag)(n:Nat)(t:TGs):TG:=λv σ H Q=>∃a xs,v=.ref a/\SqT K H a xs/\xs.length=n/\t xs σ H Q
def pg_tup(hc:X.calm=true)(h:PGs X es t)
  (hn:(assignEach es X.env).length=n:=by rfl) (hst:(assignEach es X.env).findIdx? (·.1)=none:=by rfl):PG X (.Tuple es k pos) (gTup X.K n t):=by
 intro Zo s σ H v u Q I r hw;obtain⟨a,xs,e1,hq,hl,hw⟩:=hw;subst e1;cases r;obtain⟨its,rv,ht,hz⟩:=I.tuple hq;refine assign_Tuple_tuple (I.ok.hd hc) ht (by simp[hn,<-hl,rv.length]) hst λh' hx=>?_
 have I1:Inv X Zo σ H { s with heap:=h' }:=I.kept (t':=s.toks) λb o e=>hx b o (Vi (U7 e)) e
 exact h Zo _ σ H xs _ Q I1 (by simpa using rv) hw
def gSub(to ti:TE)(t:TSet):TG:=λv σ H Q=>to σ H λo H1=>ti σ H1 λi H2=>t o i v H2 λH3=>Q σ H3
def pg_sub(ho:PE X o to)(hi:PE X i ti)(hs:PSet X t)
  (ha:∀v,assign (.Subscript o i pos) X.env v=(do
    let ov <-holding [v] (eval o X.env)
    let iv <-holding [v,ov] (eval i X.env)
    standAt pos
    holding [v,ov,iv] (setItem ov iv v)
    release [v,ov,iv] []):=by intro _;rfl):PG X (.Subscript o i pos) (gSub to ti t):=by
 intro Zo s σ H v u Q I r h;rw[ha];refine UL (VR (thn (ho Zo s σ H _ I h) λov s1 ⟨x,H1,I1,r1,q1⟩=>?_))
 refine UL (VR (thn (hi Zo s1 σ H1 _ I1 q1) λiv s2 ⟨y,H2,I2,r2,q2⟩=>?_))
 refine UL (Xb (UL (VR (thn (hs Zo s2 σ H2 x y v ov iv u _ I2 r1 r2 r q2) λ_ s3 ⟨H3,I3,q3⟩=>?_))))
 exact wpAny_release ⟨σ,H3,I3,q3⟩
def tAsg(te:TE)(g:TG):TS:=λD σ H=>te σ H λx H1=>g x σ H1 D.nx
def ps_asg(he:PE X e te)(hg:PG X tg g)(hs:swapsWithSole [tg] e pos.line X.env=pure false:=by rfl)(hw:swappedStores [tg] e X.env=pure none:=by rfl)
  (h1:(assignEach [tg] X.env).map (·.2)=[assign tg X.env]:=by rfl):PS X (.Assign [tg] e pos) (tAsg te g):=by
 intro Zo s σ H D I h;refine wpAny_Assign_stores (thn (he Zo s σ H _ I h) λv s1 ⟨x,H1,I1,r1,q1⟩=>?_) hs hw
 rw[h1];exact thn (hg Zo s1 σ H1 x v _ I1 r1 q1) λz s2 q=>q
def ps_set(hN:X.N.Nodup)(hi:X.N[i]?=some x)(hx:Loc X.env.scope x)(he:PE X e te)(hs:swapsWith e (some (.Name x pos')) pos.line X.env=pure false:=by rfl)(hf:X.fn x=true\/X.env.scope.names.lookup x=some .local:=by first | exact .inl rfl | exact .inr rfl | assumption):
  PS X (.Assign [.Name x pos'] e pos) (tAsg te (gName i)):=by
 intro Zo s σ H D I h;refine wpAny_Assign_Name (thn (he Zo s σ H _ I h) λv s1 ⟨y,H1,I1,r1,q1⟩=>?_) hs
 exact store_ok I1 hN hi hx r1 (λs2 I2=>⟨_,H1,I2,q1⟩) hf
def tPar(i j:Nat)(ta:TA):TS:=λD σ H=>ta σ H λvs H1=>∃v w,vs=[v,w]/\D.nx ((σ.set i (some v)).set j (some w)) H1
def ps_par{kt k2 pt2}(hc:X.calm=true)(hN:X.N.Nodup)(hi:X.N[i]?=some x)(hj:X.N[j]?=some y)(hij:i≠j)
  (hx:X.env.scope.names.lookup x=some .local) (hy:X.env.scope.names.lookup y=some .local) (ha:PA X [a,b] ta)
  (hw:swappedStores [.Tuple [.Name x px,.Name y py] kt pt] (.Tuple [a,b] k2 pt2) X.env=pure (some [x,y]))
  (hs:swapsWithSole [.Tuple [.Name x px,.Name y py] kt pt] (.Tuple [a,b] k2 pt2) pos.line X.env=pure false:=by rfl) :
  PS X (.Assign [.Tuple [.Name x px,.Name y py] kt pt] (.Tuple [a,b] k2 pt2) pos) (tPar i j ta):=by
 intro Zo s σ H D I h;rw[exec_Assign_arm];refine UL (Xb ?_);rw[hs];refine UL (UV ?_);rw[U8 (by decide)]
 refine UL (Tuple_ (thn (ha _ Zo s σ H _ I h) λus s1 ⟨vs,H1,I1,r1,q1⟩=>?_))
 obtain⟨v,w,e1,q1⟩:=q1;subst e1;obtain ⟨u1,u2,rfl,rv,rw'⟩:∃ u1 u2,us=[u1,u2]/\RelV v u1/\RelV w u2:=by
  cases r1 with
  | cons p q=>
    cases q with
    |cons p' q'=>cases q';exact⟨_,_,rfl,p,p'⟩
 refine Vr ?_ (by show 2<=sizeLine;decide)
 have I2:Inv X Zo σ H1 { s1 with heap:=s1.heap.push { cls:=.type "tuple",data:=.seq [u1,u2].toArray } }:=I1.kept (t':=s1.toks) λb o e=>UT _ e
 rw[hw];refine UL (UV ?_);show wpAny (model X.prog X.w) X.A (do rule "assign.swapped-stores";let items <-unpackItems (.ref s1.heap.objs.size) 2 none;assignInOrder [λv=>bindName X.env y v,λv=>bindName X.env x v] items.reverse;pure Flow.next) _ _ _
 refine UL (Xg (UL (unpackItems_tuple (items:=#[u1,u2]) (I.ok.hd hc) (Yn s1.heap _) λh' hx'=>?_)))
 have I3:=I2.kept (h':=h') (t':=s1.toks) λb o e=>hx' b o (Vi (U7 e)) e
 show wpAny _ _ (assignInOrder [λv=>bindName X.env y v,λv=>bindName X.env x v] [u2,u1]>>=λz=>pure Flow.next) _ _ _
 refine UL (Xi (Yy (store_ok I3 hN hj (.inl hy) rw' (λs2 I4=>?_) (.inr hy))))
 refine Xi (Yy (store_ok I4 hN hi (.inl hx) rv (λs3 I5=>assignInOrder_nil (UV ?_)) (.inr hx)))
 rw[List.set_comm _ _ (Ne.symm hij)]at I5;exact⟨_,H1,I5,q1⟩
def tAugS(to ti te:TE)(tget:V->V->Hp->VK->Prop)(tip:TIp)(tset:TSet):TS:=λD σ H=>to σ H λo H1=>ti σ H1 λi H2=>tget o i H2 λx H3=>te σ H3 λy H4=>tip x y H4 λz H5=>tset o i z H5 λH6=>D.nx σ H6
def PGet(X:Cx)(t:V->V->Hp->VK->Prop):Prop:=
 ∀(Zo:List (Addr×Obj)) (s:Shared) (σ:St) (H:Hp) (o i:V) (ov iv:Value) (Q:VK),Inv X Zo σ H s->RelV o ov->RelV i iv->t o i H Q->
   wpAny (model X.prog X.w) X.A (getItem ov iv) (EP X Zo σ Q) X.xe s
def ps_augS(ho:PE X o to)(hi:PE X i ti)(hg:PGet X tget)(he:PE X e te)(hp:PIp X op tip)(hs:PSet X tset)
  (ha:∀ov iv new,augStore i ov iv new=(do holding [new,ov,iv] (setItem ov iv new);release [new,ov,iv] [];pure .next):=by intros;rfl):PS X (.AugAssign (.Subscript o i tpos) op e pos) (tAugS to ti te tget tip tset):=by
 intro Zo s σ H D I h;refine wpAny_AugAssign_SubscriptAny (thn (ho Zo s σ H _ I h) λov s1 ⟨x1,H1,I1,r1,q1⟩=>?_) ha
 refine thn (hi Zo s1 σ H1 _ I1 q1) λiv s2 ⟨x2,H2,I2,r2,q2⟩=>?_
 refine thn (hg Zo s2 σ H2 x1 x2 ov iv _ I2 r1 r2 q2) λold s3 ⟨x3,H3,I3,r3,q3⟩=>?_
 refine thn (he Zo s3 σ H3 _ I3 q3) λv s4 ⟨x4,H4,I4,r4,q4⟩=>?_
 refine thn (hp Zo s4 σ H4 x3 x4 old v _ I4 r3 r4 q4) λnew s5 ⟨x5,H5,I5,r5,q5⟩=>?_
 exact thn (hs Zo s5 σ H5 x1 x2 x5 ov iv new _ I5 r1 r2 r5 q5) λ_ s6 ⟨H6,I6,q6⟩=>⟨σ,H6,I6,q6⟩
end
section
variable{X:Cx}{pos:Pos}
def tWhile(c:TT)(tb:TS):TS:=λD σ H=>∃W:Nat->St->Hp->Prop,(∃m,W m σ H)/\∀m σ H,W m σ H->
 c σ H λb H1=>if b=true then ∃N:St->Hp->Prop,(∀σ' H',N σ' H'->∃m',m'<m/\W m' σ' H')/\tb { D with nx:=N,ct:=N,bk:=D.nx } σ H1 else D.nx σ H1
def ps_while(hp:PassesOwn (model X.prog X.w) X.A X.env X.xe)(hc:PT X c tc)(hb:PSs X body tb):PS X (.While c body [] pos) (tWhile tc tb):=by
 intro Zo s σ H D I h;obtain⟨W,⟨m0,w0⟩,turn⟩:=h;refine wpAny_While (codeAny_whileLoop (λn s'=>∃σ' H',Inv X Zo σ' H' s'/\W n σ' H') ?_ m0 ⟨σ,H,I,w0⟩)
 rintro n s1 ⟨σ1,H1,I1,w1⟩;refine Xm hp (thn (hc Zo s1 σ1 H1 _ I1 (turn n σ1 H1 w1)) λb s2 ⟨H2,I2,q2⟩=>?_)
 cases b with
 | true=>
   obtain⟨N,hN,q2⟩:=q2;rw[U5 rfl];refine Xm hp (thn (hb Zo s2 σ1 H2 _ I2 q2) λf s3 q3=>?_)
   cases f with
   |next=>obtain⟨σ3,H3,I3,n3⟩:=q3;obtain⟨m',hm,w3⟩:=hN σ3 H3 n3;exact⟨m',hm,σ3,H3,I3,w3⟩
   |cont=>obtain⟨σ3,H3,I3,n3⟩:=q3;obtain⟨m',hm,w3⟩:=hN σ3 H3 n3;exact⟨m',hm,σ3,H3,I3,w3⟩
   |brk=>exact q3
   |ret v=>exact q3
 |false=>rw[U8 Vv];exact Y8 ⟨σ1,H2,I2,q2⟩
end
structure It where
 go:Nat->Hp->Prop
 yld:Nat->Hp->V->Hp->Prop
 stop:Nat->Hp->Prop
def FpOk(X:Cx)(Zo:List (Addr×Obj))(H:Hp)(b:Addr):Prop:=
 H b=none/\b≠X.env.locals/\b∉X.fs/\(b∈X.ex\/X.s₀.heap.objs.size<=b)/\(∀x c,X.env.cells.lookup x=some c->c≠b)/\∀p∈X.pn++Zo,p.1≠b
def Inv.fpOk(I:Inv X Zo σ H s)(hb:s.heap.objs.size<=b)(hn:H' b=none):FpOk X Zo H' b:=by
 refine⟨hn,Xv (Va I.lt hb),I.nofs hb,.inr (Vp I.sz hb),λx c e z=>?_,λp hp z=>?_⟩
 ·obtain⟨v,q⟩:=I.cell x c e;exact absurd (Va q.lt (by rw[z];exact hb)) (Wm _)
 ·exact absurd (Va (U7 (I.pin p hp).1) (by rw[z];exact hb)) (Wm _)
structure Turn(P:Program)(w:World)(K:PySem.W.Frag)(tg:Expr)(J:It)(fp:List Addr)(it:Addr)(tn:Nat->Heap->Prop):Prop where
 mem:it∈fp
 obj:∀i h,tn i h->∀b∈fp,∃o,h.get? b=some o/\∀v,o.data≠.cell v
 keep:∀i h h',tn i h->(∀b∈fp,∀o,h.get? b=some o->h'.get? b=some o)->tn i h'
 item:∀(X:Cx),X.prog=P->X.w=w->X.K=K->X.calm=true->∀(i:Nat) (Zo:List (Addr×Obj)) (s:Shared) (σ:St) (H:Hp) (E:Value->Shared->Prop),Inv X Zo σ H s->(∀b∈fp,FpOk X Zo H b)->tn i s.heap->J.go i H->
  wpAny (model P w) X.A (pyNext (.ref it)) (λr s1=>∃u,r=some u /\
   wpAny (model P w) X.A (letOwnedTupleGo tg (.ref it) u) (λ_ s2=>∃x H',Inv X Zo σ H' s2/\RelV x u/\J.yld i H x H'/\tn (i+1) s2.heap/\∀b∈fp,H' b=none) E s1) E s
 done:∀(X:Cx),X.prog=P->X.w=w->X.K=K->X.calm=true->∀(i:Nat) (Zo:List (Addr×Obj)) (s:Shared) (σ:St) (H:Hp) (E:Value->Shared->Prop),Inv X Zo σ H s->(∀b∈fp,FpOk X Zo H b)->tn i s.heap->J.stop i H->
  wpAny (model P w) X.A (pyNext (.ref it)) (λr s1=>r=none/\Inv X Zo σ H s1) E s
 self:∀(A:Around) (i:Nat) (s:Shared) (Q:Value->Shared->Prop) (E:Value->Shared->Prop),tn i s.heap->Q (.ref it) s->wpAny (model P w) A (pyIter (.ref it)) Q E s
abbrev TI:=St->Hp->(It->Hp->Prop)->Prop
def PIE(X:Cx)(Zo:List (Addr×Obj))(σ:St)(tg:Expr)(R:It->Hp->Prop)(itv:Value)(s2:Shared):Prop:=
 ∃(it:Addr) (fp:List Addr) (tn:Nat->Heap->Prop) (J:It) (H':Hp),itv=.ref it/\Inv X Zo σ H' s2/\Turn X.prog X.w X.K tg J fp it tn/\tn 0 s2.heap/\(∀b∈fp,FpOk X Zo H' b)/\R J H'
def PI(X:Cx)(tg iter:Expr)(wi:TI):Prop:=
 ∀(Zo:List (Addr×Obj)) (s:Shared) (σ:St) (H:Hp) (R:It->Hp->Prop),Inv X Zo σ H s->wi σ H R->
   wpAny (model X.prog X.w) X.A (eval iter X.env) (λv s1=>wpAny (model X.prog X.w) X.A (pyIter v) (PIE X Zo σ tg R) X.xe s1) X.xe s
def go_of(ho:s.heap.get? it=some o)(hc:o.cls=.type n)(hd:o.data=.fields vs)
  (hn:["enumerate", "zip", "dict_itemiterator", "dict_reverseitemiterator", "odict_iterator", "itertools.zip_longest", "itertools.pairwise"].contains n=false) (hQ:Q () s):wpAny M A (letOwnedTupleGo tg (.ref it) u) Q E s:=by
 unfold letOwnedTupleGo;cases tg<;>first
  |exact UV hQ
  | (cases u<;>first
      |exact UV hQ
      | (refine wpAny_bind (wpAny_load ho ?_)
         rw[hc,hd];show wpAny M A (if (["enumerate", "zip", "dict_itemiterator", "dict_reverseitemiterator", "odict_iterator", "itertools.zip_longest", "itertools.pairwise"].contains n&&vs[0]?==some (rawInt _))=true then _ else _) Q E s
         rw[U8 (by intro h;rw[hn,Bool.false_and]at h;cases h)]
         exact UV hQ))
def Itl(K:PySem.W.Frag)(a:Addr):It:=
 ⟨λi H=>∃xs x,SqL K H a xs/\xs[i]?=some x,λi H x H'=>H'=H/\∀xs,SqL K H a xs->xs[i]?=some x,λi H=>∃xs,SqL K H a xs/\xs.length<=i⟩
def Itt(K:PySem.W.Frag)(a:Addr):It:=
 ⟨λi H=>∃xs x,SqT K H a xs/\xs[i]?=some x,λi H x H'=>H'=H/\∀xs,SqT K H a xs->xs[i]?=some x,λi H=>∃xs,SqT K H a xs/\xs.length<=i⟩
def Itr(lo:Int)(n:Nat):It:=⟨λi z=>i<n,λi H x H'=>H'=H/\x=.int (lo+i),λi z=>n<=i⟩
def turn_list{P:Program}{w:World}{K:PySem.W.Frag}{tg:Expr}(a it:Addr):Turn P w K tg (Itl K a) [it] it (λi h=>h.IsListIter it a i) where
 mem:=by simp
 obj:=λi h st b hb=>by
  have e:b=it:=by simpa using hb
  subst e;obtain⟨o,e,c,d⟩:=st;exact⟨o,e,λv z=>by rw[d]at z;cases z⟩
 keep:=λi h h' st k=>st.at λo e=>k it (by simp) o e
 item:=by
  intro X hP hw hK hc i Zo s σ H E I hf st hg;subst hP hw hK;obtain⟨xs,x,hq,hx⟩:=hg;obtain⟨its,rv,p,hz⟩:=I.list hq;obtain⟨u,hu,ru⟩:=rv.get hx;obtain⟨f0,f1,f2,f3,f4,f5⟩:=hf it (by simp)
  refine wpAny_pyNext_list_item st p.isList (x:=u) (by simpa using hu) λh' st' sb=>?_
  have I1:Inv X Zo σ H { s with heap:=h' }:=I.turned (t':=s.toks) (λb o hb e=>(sb.2 b hb).trans e) f0 f1 f3 f4 f5
  obtain⟨o,e,c,d⟩:=id st';exact⟨u,rfl,go_of (s:={ s with heap:=h' }) e c d (by decide) ⟨x,H,I1,ru,⟨rfl,λys hy=>by rw[I.list_inj hy hq];exact hx⟩,st',λb hb=>(hf b hb).1⟩⟩
 done:=by
  intro X hP hw hK hc i Zo s σ H E I hf st hg;subst hP hw hK;obtain⟨xs,hq,hx⟩:=hg;obtain⟨its,rv,p,hz⟩:=I.list hq;obtain⟨f0,f1,f2,f3,f4,f5⟩:=hf it (by simp)
  have hl:=rv.length;exact wpAny_pyNext_list_end (I.ok.hd hc) st p.isList (by simp;lia) λh' eb=>⟨rfl,I.turned (t':=s.toks) (λb o hb e=>eb b o hb e) f0 f1 f3 f4 f5⟩
 self:=λy y y y y st h=>wpAny_pyIter_listiter st h
def turn_tuple{P:Program}{w:World}{K:PySem.W.Frag}{tg:Expr}(a it:Addr):Turn P w K tg (Itt K a) [it] it (λi h=>h.IsTupleIter it a i) where
 mem:=by simp
 obj:=λi h st b hb=>by
  have e:b=it:=by simpa using hb
  subst e;obtain⟨o,e,c,d⟩:=st;exact⟨o,e,λv z=>by rw[d]at z;cases z⟩
 keep:=λi h h' st k=>st.at λo e=>k it (by simp) o e
 item:=by
  intro X hP hw hK hc i Zo s σ H E I hf st hg;subst hP hw hK;obtain⟨xs,x,hq,hx⟩:=hg;obtain⟨its,rv,p,hz⟩:=I.tuple hq;obtain⟨u,hu,ru⟩:=rv.get hx;obtain⟨f0,f1,f2,f3,f4,f5⟩:=hf it (by simp)
  refine wpAny_pyNext_tuple_item st (show s.heap.IsTuple a its.toArray from p) (x:=u) (by simpa using hu) λh' st' sb=>?_
  have I1:Inv X Zo σ H { s with heap:=h' }:=I.turned (t':=s.toks) (λb o hb e=>(sb.2 b hb).trans e) f0 f1 f3 f4 f5
  obtain⟨o,e,c,d⟩:=id st';exact⟨u,rfl,go_of (s:={ s with heap:=h' }) e c d (by decide) ⟨x,H,I1,ru,⟨rfl,λys hy=>by rw[I.tuple_inj hy hq];exact hx⟩,st',λb hb=>(hf b hb).1⟩⟩
 done:=by
  intro X hP hw hK hc i Zo s σ H E I hf st hg;subst hP hw hK;obtain⟨xs,hq,hx⟩:=hg;obtain⟨its,rv,p,hz⟩:=I.tuple hq;obtain⟨f0,f1,f2,f3,f4,f5⟩:=hf it (by simp)
  have hl:=rv.length;exact wpAny_pyNext_tuple_end (I.ok.hd hc) st (show s.heap.IsTuple a its.toArray from p) (by simp;lia) λh' eb=>⟨rfl,I.turned (t':=s.toks) (λb o hb e=>eb b o hb e) f0 f1 f3 f4 f5⟩
 self:=λy y y y y st h=>wpAny_pyIter_tupleiter st h
def turn_range{P:Program}{w:World}{K:PySem.W.Frag}{tg:Expr}(it:Addr)(lo:Int)(n:Nat):Turn P w K tg (Itr lo n) [it] it (λi h=>IsRangeIter h it (lo + (i:Nat) * 1) ((n:Int) - (i:Nat)) 1) where
 mem:=by simp
 obj:=λi h st b hb=>by
  have e:b=it:=by simpa using hb
  subst e;exact⟨_,st,λv z=>by have z':Data.fields _=Data.cell v:=z;cases z'⟩
 keep:=λi h h' st k=>k it (by simp) _ st
 item:=by
  intro X hP hw hK hc i Zo s σ H E I hf st hg;subst hP hw hK;obtain⟨f0,f1,f2,f3,f4,f5⟩:=hf it (by simp)
  have W:=Walks.range (prog:=X.prog) (w:=X.w) (I.ok.hd hc) it lo 1 n;refine W.item i s _ _ hg st λv h' tk hv st' kk=>?_
  obtain⟨t,rfl⟩:=hv;have I1:Inv X Zo σ H { s with heap:=h',toks:=tk }:=I.turned (λb o hb e=>kk b o (by simpa using hb) e) f0 f1 f3 f4 f5
  refine⟨_,rfl,go_of (s:={ s with heap:=h',toks:=tk }) (n := "range_iterator") st' rfl rfl (by decide) ⟨.int (lo+i),H,I1,⟨t,?_⟩,⟨rfl,rfl⟩,st',λb hb=>(hf b hb).1⟩⟩
  rw[Int.mul_one]
 done:=by
  intro X hP hw hK hc i Zo s σ H E I hf st hg;subst hP hw hK;obtain⟨f0,f1,f2,f3,f4,f5⟩:=hf it (by simp)
  exact wpAny_pyNext_range_end (I.ok.hd hc) st (by have:n<=i:=hg;lia) λh' eb=>⟨rfl,I.turned (t':=s.toks) (λb o hb e=>eb b o hb e) f0 f1 f3 f4 f5⟩
 self:=λy y y y y st h=>wpAny_pyIter_rangeiter st h
open PySem PySem.Spec PyProof.Rows
section
variable{X:Cx}{tg:Expr}
def iList(K:PySem.W.Frag)(tl:TE):TI:=λσ H R=>tl σ H λx H1=>∃a,x=.ref a/\(∃xs,SqL K H1 a xs)/\R (Itl K a) H1
def iTup(K:PySem.W.Frag)(tl:TE):TI:=λσ H R=>tl σ H λx H1=>∃a,x=.ref a/\(∃xs,SqT K H1 a xs)/\R (Itt K a) H1
def pi_list{l:Expr}{tl:TE}(hl:PE X l tl):PI X tg l (iList X.K tl):=by
 intro Zo s σ H R I h;refine thn (hl Zo s σ H _ I h) λv s1 ⟨x,H1,I1,r1,q1⟩=>?_
 obtain⟨a,e,⟨xs,hq⟩,q⟩:=q1;subst e;cases r1;obtain⟨its,rv,p,hz⟩:=I1.list hq;refine W8 p.isList ?_;refine⟨s1.heap.objs.size,[s1.heap.objs.size],_,_,H1,rfl,I1.kept (t':=s1.toks) λb o e=>UT _ e,turn_list a _,⟨_,U9 _ rfl,rfl,rfl⟩,λb hb=>?_,q⟩
 have e:b=s1.heap.objs.size:=by simpa using hb
 subst e;exact I1.fpOk (U0 _) (I1.hok.fresh (U0 _))
def pi_tup{l:Expr}{tl:TE}(hl:PE X l tl):PI X tg l (iTup X.K tl):=by
 intro Zo s σ H R I h;refine thn (hl Zo s σ H _ I h) λv s1 ⟨x,H1,I1,r1,q1⟩=>?_
 obtain⟨a,e,⟨xs,hq⟩,q⟩:=q1;subst e;cases r1;obtain⟨its,rv,p,hz⟩:=I1.tuple hq;refine wpAny_pyIter_tuple (show s1.heap.IsTuple a its.toArray from p) ?_
 refine⟨s1.heap.objs.size,[s1.heap.objs.size],_,_,H1,rfl,I1.kept (t':=s1.toks) λb o e=>UT _ e,turn_tuple a _,⟨_,U9 _ rfl,rfl,rfl⟩,λb hb=>?_,q⟩
 have e:b=s1.heap.objs.size:=by simpa using hb
 subst e;exact I1.fpOk (U0 _) (I1.hok.fresh (U0 _))
def range_it{Zo:List (Addr×Obj)}{R:It->Hp->Prop}{E:Value->Shared->Prop}{lo hi:Int}{tk:Nat}(I:Inv X Zo σ H s)(h1:-(2^62)<=lo)(h2:lo<2^62)(h3:-(2^62)<=hi)(h4:hi<2^62)
  (q:R (Itr lo (hi-lo).toNat) H):wpAny (model X.prog X.w) X.A (pyIter (.ref s.heap.objs.size)) (PIE X Zo σ tg R) E { s with heap:=s.heap.push { cls:=.type "range",data:=.fields #[.int lo t,.int hi u,.int 1 v] },toks:=tk }:=by
 refine wpAny_pyIter_range (IsRange.new ..) (small_one h1 h2 h3 h4) ?_;have I1:Inv X Zo σ H { s with heap:=s.heap.push { cls:=.type "range",data:=.fields #[.int lo t,.int hi u,.int 1 v] },toks:=tk }:=I.kept λb o e=>UT _ e
 refine⟨(s.heap.push { cls:=.type "range",data:=.fields #[.int lo t,.int hi u,.int 1 v] }).objs.size,[(s.heap.push { cls:=.type "range",data:=.fields #[.int lo t,.int hi u,.int 1 v] }).objs.size],_,_,H,rfl,
  I1.kept (t':=tk) λb o e=>UT _ e,turn_range _ lo (hi-lo).toNat,?_,λb hb=>?_,q⟩
 ·have e1:lo+((0:Nat):Int)*1=lo:=by simp
  have e2:(((hi-lo).toNat:Nat):Int)-((0:Nat):Int)=Builtin.Range.rangeSize lo hi 1:=by rw[rangeSize_one];split<;>lia
  show IsRangeIter _ _ (lo+((0:Nat):Int)*1) ((((hi-lo).toNat:Nat):Int)-((0:Nat):Int)) 1;rw[e1,e2];exact U9 _ rfl
 ·have e:b=(s.heap.push { cls:=.type "range",data:=.fields #[.int lo t,.int hi u,.int 1 v] }).objs.size:=by simpa using hb
  subst e;exact I1.fpOk (U0 _) (I1.hok.fresh (U0 _))
def iRng1(ta:TA):TI:=λσ H R=>ta σ H λvs H1=>∃j:Int,vs=[.int j]/\-(2^62)<=j/\j<2^62/\R (Itr 0 j.toNat) H1
def iRng2(ta:TA):TI:=λσ H R=>ta σ H λvs H1=>∃i j:Int,vs=[.int i,.int j]/\(-(2^62)<=i/\i<2^62/\-(2^62)<=j/\j<2^62)/\R (Itr i (j-i).toNat) H1
def pi_range1(hg:Gl X "range")(hm:X.mg "range"=none)(ha:PA X [a] ta)(hs:starEach [a] X.env=[(false,eval a X.env)]:=by rfl):PI X tg (.Call (.Name "range" p) [a] [] pos) (iRng1 ta):=by
 intro Zo s σ H R I h;refine Call_ (ld_blt I hg hm boot_range (Wi (thn (ha pos Zo s σ H _ I h) λus s1 ⟨vs,H1,I1,r1,q1⟩=>?_) hs rfl))
 obtain⟨j,e,q1,q2,q⟩:=q1;subst e;cases r1 with
 |cons r rr=>cases rr;obtain⟨t,rfl⟩:=r;exact call_range_1 (range_it I1 (by lia) (by lia) q1 q2 (by simpa using q))
def pi_range2(hg:Gl X "range")(hm:X.mg "range"=none)(ha:PA X [a,b] ta)(hs:starEach [a,b] X.env=[(false,eval a X.env),(false,eval b X.env)]:=by rfl)(hs2:starEach [b] X.env=[(false,eval b X.env)]:=by rfl):
  PI X tg (.Call (.Name "range" p) [a,b] [] pos) (iRng2 ta):=by
 intro Zo s σ H R I h;refine Call_ (ld_blt I hg hm boot_range (Wi (thn (ha pos Zo s σ H _ I h) λus s1 ⟨vs,H1,I1,r1,q1⟩=>?_) (by rw[hs,hs2]) (by rw[hs2];rfl)))
 obtain⟨i,j,e,⟨q1,q2,q3,q4⟩,q⟩:=q1;subst e;cases r1 with
 | cons r rr=>
   cases rr with
   |cons r' rr=>cases rr;obtain⟨t,rfl⟩:=r;obtain⟨t',rfl⟩:=r';exact call_range_2 (range_it I1 q1 q2 q3 q4 q)
def tFor(wi:TI)(g:TG)(tb:TS):TS:=λD σ H=>wi σ H λJ H1=>∃W:Nat->Nat->St->Hp->Prop,(∃m,W 0 m σ H1)/\∀i m σ H,W i m σ H->
 (J.stop i H/\D.nx σ H)\/(J.go i H/\∃N:St->Hp->Prop,(∀σ' H',N σ' H'->∃m',m'<m/\W (i+1) m' σ' H')/\∀x H',J.yld i H x H'->g x σ H' λσ2 H2=>tb { D with nx:=N,ct:=N,bk:=D.nx } σ2 H2)
def pinsAt(fp:List Addr)(h:Heap):List (Addr×Obj):=fp.filterMap λb=>(h.get? b).map λo=>(b,o)
def mem_pinsAt(hb:b∈fp)(e:h.get? b=some o):(b,o)∈pinsAt fp h:=List.mem_filterMap.mpr ⟨b,hb,by rw[e];rfl⟩
def of_pinsAt(hp:p∈pinsAt fp h):p.1∈fp/\h.get? p.1=some p.2:=by
 obtain⟨b,hb,e⟩:=List.mem_filterMap.mp hp;cases q:h.get? b with
 |none=>rw[q]at e;cases e
 |some o=>rw[q]at e;have e':(b,o)=p:=Vc e;subst e';exact⟨hb,q⟩
def Inv.pinned(I:Inv X Zo σ H s)(hf:∀b∈fp,FpOk X Zo H b)(ho:∀b∈fp,∃o,s.heap.get? b=some o/\∀v,o.data≠.cell v):Inv X (Zo++pinsAt fp s.heap) σ H s:=
 I.pins_of λp hp=>(Vd.mp hp).elim (λz=>I.pin p (VB _ z)) λz=>by obtain⟨hb,e⟩:=of_pinsAt z;obtain⟨f0,f1,f2,_⟩:=hf p.1 hb;obtain⟨o,e',d⟩:=ho p.1 hb;rw[e]at e';cases e';exact⟨e,f0,f1,f2,d⟩
def Inv.unpinned(I:Inv X (Zo++pl) σ H s):Inv X Zo σ H s:=I.pins_of λp hp=>I.pin p (VB _ (Wu _ hp))
def ps_for(hp:PassesOwn (model X.prog X.w) X.A X.env X.xe)(hc:X.calm=true)(hi:PI X tg iter wi)(hg:PG X tg g)(hb:PSs X body tb)
  (hs:∀x,foldedSetIterable iter X.env x=pure x:=by intro _;rfl):PS X (.For tg iter body [] pos) (tFor wi g tb):=by
 intro Zo s σ H D I h;refine wpAny_For (thn (hi Zo s σ H _ I h) λv s1 h1=>thn h1 λitv s2 h2=>?_) hs
 obtain⟨it,fp,tn,J,H2,e,I2,T,st2,f2,W,⟨m0,w0⟩,turn⟩:=h2;subst e
 -- what stays true of the iterator's objects through the loop
 have stat:∀{H':Hp},(∀b∈fp,H' b=none)->∀b∈fp,FpOk X Zo H' b:=λhn b hb=>⟨hn b hb,(f2 b hb).2⟩
 refine codeAny_forLoop_any (λn s'=>∃i σ' H',Inv X Zo σ' H' s'/\tn i s'.heap/\(∀b∈fp,H' b=none)/\W i n σ' H') ?_ m0 ⟨0,σ,H2,I2,st2,λb hb=>(f2 b hb).1,w0⟩
 rintro n s3 ⟨i,σ3,H3,I3,st3,fr3,w3⟩;rcases turn i n σ3 H3 w3 with ⟨stop,qn⟩ | ⟨go,N,hN,step⟩
 ·refine Xm hp (thn (T.done X rfl rfl rfl hc i Zo s3 σ3 H3 X.xe I3 (stat fr3) st3 stop) λr s4 ⟨hr,I4⟩=>?_)
  subst hr;exact Y8 ⟨σ3,H3,I4,qn⟩
 ·refine Xm hp (thn (T.item X rfl rfl rfl hc i Zo s3 σ3 H3 X.xe I3 (stat fr3) st3 go) λr s4 ⟨u,hr,h4⟩=>?_)
  subst hr;refine Xm hp (thn h4 λ_ s5 ⟨x,H5,I5,r5,y5,st5,fr5⟩=>?_)
  have I5':=I5.pinned (stat fr5) (T.obj _ _ st5);refine Xm hp (thn (hg _ s5 σ3 H5 x u _ I5' r5 (step x H5 y5)) λ_ s6 ⟨σ6,H6,I6,q6⟩=>?_)
  refine Xm hp (thn (hb _ s6 σ6 H6 _ I6 q6) λf s7 q7=>?_)
  have again:∀{σ7:St}{H7:Hp},Inv X (Zo++pinsAt fp s5.heap) σ7 H7 s7->N σ7 H7->∃m,m<n/\∃i σ' H',Inv X Zo σ' H' s7/\tn i s7.heap/\(∀b∈fp,H' b=none)/\W i m σ' H':=λ{σ7 H7} I7 n7=>by
   obtain⟨m',hm,w7⟩:=hN σ7 H7 n7;refine⟨m',hm,i+1,σ7,H7,I7.unpinned,T.keep _ _ _ st5 λb hb o e=>(I7.pin (b,o) (VB _ (VB _ (mem_pinsAt hb e)))).1,λb hb=>?_,w7⟩
   obtain⟨o,e,d⟩:=T.obj _ _ st5 b hb;exact (I7.pin (b,o) (VB _ (VB _ (mem_pinsAt hb e)))).2.1
  cases f with
  |next=>obtain⟨σ7,H7,I7,n7⟩:=q7;exact again I7 n7
  |cont=>obtain⟨σ7,H7,I7,n7⟩:=q7;exact again I7 n7
  |brk=>obtain⟨σ7,H7,I7,q7⟩:=q7;exact⟨σ7,H7,I7.unpinned,q7⟩
  |ret v=>obtain⟨x7,σ7,H7,I7,r7,q7⟩:=q7;exact⟨x7,σ7,H7,I7.unpinned,r7,q7⟩
end
open PySem PySem.Spec PyProof.Rows
abbrev R2:=V->V->Hp->VK->Prop
def OpR(X:Cx)(f:Value->Value->Sem Value)(r:R2):Prop:=
 ∀(Zo:List (Addr×Obj)) (s:Shared) (σ:St) (H:Hp) (x y:V) (v u:Value) (Q:VK),Inv X Zo σ H s->RelV x v->RelV y u->r x y H Q->
   wpAny (model X.prog X.w) X.A (f v u) (EP X Zo σ Q) X.xe s
def UnR(X:Cx)(f:Value->Sem Value)(r:V->Hp->VK->Prop):Prop:=
 ∀(Zo:List (Addr×Obj)) (s:Shared) (σ:St) (H:Hp) (x:V) (v:Value) (Q:VK),Inv X Zo σ H s->RelV x v->r x H Q->
   wpAny (model X.prog X.w) X.A (f v) (EP X Zo σ Q) X.xe s
def CallR(X:Cx)(f:Value)(r:List V->Hp->VK->Prop):Prop:=
 ∀(Zo:List (Addr×Obj)) (s:Shared) (σ:St) (H:Hp) (xs:List V) (us:List Value) (Q:VK),Inv X Zo σ H s->Vals xs us->r xs H Q->
   wpAny (model X.prog X.w) X.A (call f us) (EP X Zo σ Q) X.xe s
def TruR(X:Cx)(r:V->Hp->(Bool->Hp->Prop)->Prop):Prop:=
 ∀(Zo:List (Addr×Obj)) (s:Shared) (σ:St) (H:Hp) (x:V) (v:Value) (Q:Bool->Hp->Prop),Inv X Zo σ H s->RelV x v->r x H Q->
   wpAny (model X.prog X.w) X.A (truthy v) (TP X Zo σ Q) X.xe s
def tOp(r:R2)(ta tb:TE):TE:=λσ H Q=>ta σ H λx H1=>tb σ H1 λy H2=>r x y H2 Q
def tUn(r:V->Hp->VK->Prop)(ta:TE):TE:=λσ H Q=>ta σ H λx H1=>r x H1 Q
def rI(C:Int->Int->Prop)(g:Int->Int->V):R2:=λx y H Q=>∃i j,x=.int i/\y=.int j/\C i j/\Q (g i j) H
def rI0(g:Int->Int->V):R2:=λx y H Q=>∃i j,x=.int i/\y=.int j/\Q (g i j) H
def rU(g:Int->V):V->Hp->VK->Prop:=λx H Q=>∃i,x=.int i/\Q (g i) H
section
variable{X:Cx}{a b c:Expr}{ta tb tc:TE}{pos:Pos}
def binT(ha:PE X a ta)(hb:PE X b tb){Zo:List (Addr×Obj)}{R:V->V->Hp->Prop}(I:Inv X Zo σ H s)
  (h:ta σ H λx H1=>tb σ H1 λy H2=>R x y H2) {Q:Value->Shared->Prop}{f:Value->Value->Sem Value}
  (hf:∀v u s2 x y H2,Inv X Zo σ H2 s2->RelV x v->RelV y u->R x y H2->wpAny (model X.prog X.w) X.A (f v u) Q X.xe s2) :
  wpAny (model X.prog X.w) X.A (eval a X.env) (λv s₁=>wpAny (model X.prog X.w) X.A (eval b X.env) (λu s₂=>wpAny (model X.prog X.w) X.A (f v u) Q X.xe s₂) X.xe s₁) X.xe s:=by
 refine thn (ha Zo s σ H _ I h) λv s1 ⟨x,H1,I1,r1,q1⟩=>?_
 refine thn (hb Zo s1 σ H1 _ I1 q1) λu s2 ⟨y,H2,I2,r2,q2⟩=>?_
 exact hf v u s2 x y H2 I2 r1 r2 q2
def pe_op(ho:OpR X (binaryOp op) r)(ha:PE X a ta)(hb:PE X b tb):PE X (.BinOp a op b pos) (tOp r ta tb):=by intro Zo s σ H Q I h;exact wpAny_BinOp (binT ha hb I h λv u s2 x y H2 I2 rx ry q=>ho Zo s2 σ H2 x y v u Q I2 rx ry q)
def pe_un(ho:UnR X (unaryOp op) r)(ha:PE X a ta):PE X (.UnaryOp op a pos) (tUn r ta):=by intro Zo s σ H Q I h;exact UnaryOp_ (thn (ha Zo s σ H _ I h) λv s1 ⟨x,H1,I1,r1,q1⟩=>ho Zo s1 σ H1 x v Q I1 r1 q1)
def opI{f:Value->Value->Sem Value}{C:Int->Int->Prop}{g:Int->Int->Int}
  (rule:∀(i j:Int) (t u:Tok) (s:Shared) (Q:Value->Shared->Prop) (E:Value->Shared->Prop),C i j->Q (.int (g i j) s.toks) { s with toks:=s.toks+1 }->wpAny (model X.prog X.w) X.A (f (.int i t) (.int j u)) Q E s) :
  OpR X f (rI C λi j=>.int (g i j)):=by
 intro Zo s σ H x y v u Q I rx ry h;obtain⟨i,j,rfl,rfl,hc,q⟩:=h;obtain⟨t,rfl⟩:=rx;obtain⟨t',rfl⟩:=ry;exact rule i j t t' s _ _ hc ⟨.int (g i j),H,I.tok _,⟨_,rfl⟩,q⟩
def opI0{f:Value->Value->Sem Value}{g:Int->Int->Int}
  (rule:∀(i j:Int) (t u:Tok) (s:Shared) (Q:Value->Shared->Prop) (E:Value->Shared->Prop),Q (.int (g i j) s.toks) { s with toks:=s.toks+1 }->wpAny (model X.prog X.w) X.A (f (.int i t) (.int j u)) Q E s) :
  OpR X f (rI0 λi j=>.int (g i j)):=by
 intro Zo s σ H x y v u Q I rx ry h;obtain⟨i,j,rfl,rfl,q⟩:=h;obtain⟨t,rfl⟩:=rx;obtain⟨t',rfl⟩:=ry;exact rule i j t t' s _ _ ⟨.int (g i j),H,I.tok _,⟨_,rfl⟩,q⟩
def opB0{f:Value->Value->Sem Value}{g:Int->Int->Bool}
  (rule:∀(i j:Int) (t u:Tok) (s:Shared) (Q:Value->Shared->Prop) (E:Value->Shared->Prop),Q (.bool (g i j)) s->wpAny (model X.prog X.w) X.A (f (.int i t) (.int j u)) Q E s) :
  OpR X f (rI0 λi j=>.bl (g i j)):=by
 intro Zo s σ H x y v u Q I rx ry h;obtain⟨i,j,rfl,rfl,q⟩:=h;obtain⟨t,rfl⟩:=rx;obtain⟨t',rfl⟩:=ry;exact rule i j t t' s _ _ ⟨.bl (g i j),H,I,rfl,q⟩
def CPow(i j:Int):Prop:=0<=j/\j<=1000000/\i.natAbs<2^64
def op_add:OpR X (binaryOp .Add) (rI0 λi j=>.int (i+j)):=opI0 λz z z z z z z q=>add_int q
def op_sub:OpR X (binaryOp .Sub) (rI0 λi j=>.int (i-j)):=opI0 λz z z z z z z q=>sub_int q
def op_mod:OpR X (binaryOp .Mod) (rI (λz j=>0<j) λi j=>.int (i%j)):=opI λi j z z z z z hc q=>by have h1:(0:Int)<j:=hc;exact mod_int' (by lia) (by rw[Int.fmod_eq_emod_of_nonneg i (by lia)];exact q)
def op_pow:OpR X (binaryOp .Pow) (rI CPow λi j=>.int (i^j.toNat)):=opI λz z z z z z z hc q=>pow_int_small hc.1 hc.2.1 hc.2.2 q
def iop_add:OpR X (inplaceOp .Add) (rI0 λi j=>.int (i+j)):=opI0 λz z z z z z z q=>iadd_int q
def unI{f:Value->Sem Value}{g:Int->Int}
  (rule:∀(i:Int) (t:Tok) (s:Shared) (Q:Value->Shared->Prop) (E:Value->Shared->Prop),Q (.int (g i) s.toks) { s with toks:=s.toks+1 }->wpAny (model X.prog X.w) X.A (f (.int i t)) Q E s) :
  UnR X f (rU λi=>.int (g i)):=by
 intro Zo s σ H x v Q I rx h;obtain⟨i,rfl,q⟩:=h;obtain⟨t,rfl⟩:=rx;exact rule i t s _ _ ⟨.int (g i),H,I.tok _,⟨_,rfl⟩,q⟩
def un_neg:UnR X (unaryOp .USub) (rU λi=>.int (-i)):=unI λz z z z z q=>neg_int q
end
def scal:V->V->Bool
 |.non,.non=>true | .non,.int _=>true | .int _,.non=>true | .non,.bl _=>true | .bl _,.non=>true | .non,.str _=>true | .str _,.non=>true
 |.int _,.int _=>true | .bl _,.bl _=>true | .str _,.str _=>true | .byt _,.byt _=>true
 |.int _,.str _=>true | .str _,.int _=>true | .bl _,.str _=>true | .str _,.bl _=>true
 |_,_=>false
def rEq:R2:=λx y H Q=>scal x y=true/\Q (.bl (decide (x=y))) H
def rNe:R2:=λx y H Q=>scal x y=true/\Q (.bl (!decide (x=y))) H
def dec_int:decide (V.int i=V.int j)=(i==j):=by rw[Vu];simp
def dec_bl:decide (V.bl i=V.bl j)=(i==j):=by rw[Vu];simp
def dec_str:decide (V.str i=V.str j)=(i==j):=by rw[Vu];simp
def dec_byt:decide (V.byt i=V.byt j)=(i.toList==j.toList):=by rw[Vu];cases i;cases j;simp
section
variable{X:Cx}{a b c:Expr}{ta tb tc:TE}{pos:Pos}
def fin_bl(I:Inv X Zo σ H s)(q:Q (.bl k) H)(e:k=k'):EP X Zo σ Q (.bool k') s:=by subst e;exact⟨.bl k,H,I,rfl,q⟩
def op_eq:OpR X (compareOp .Eq) rEq:=by
 intro Zo s σ H x y v u Q I rx ry h;obtain⟨hs,q⟩:=h;cases x with
 |non=>
   cases rx;cases y with
   |non=>cases ry;exact PySem.EqNone.eq_none_none (fin_bl I q (by simp))
   |bl j=>cases ry;exact PySem.EqNone.eq_none_bool (fin_bl I q (by simp))
   |int j=>obtain⟨t',rfl⟩:=ry;exact PySem.EqNone.eq_none_int (fin_bl I q (by simp))
   |str j=>obtain⟨t',rfl⟩:=ry;exact PySem.EqNone.eq_none_str (fin_bl I q (by simp))
   |_=>exact absurd (show false=true from hs) Vv
 |bl i=>
   cases rx;cases y with
   |non=>cases ry;exact PySem.EqNone.eq_bool_none (fin_bl I q (by simp))
   |bl j=>cases ry;exact eq_bool (fin_bl I q dec_bl)
   |str j=>obtain⟨t',rfl⟩:=ry;exact PySem.EqMixed.eq_bool_str (fin_bl I q (by simp))
   |_=>exact absurd (show false=true from hs) Vv
 |int i=>
   obtain⟨t,rfl⟩:=rx;cases y with
   |non=>cases ry;exact PySem.EqNone.eq_int_none (fin_bl I q (by simp))
   |int j=>obtain⟨t',rfl⟩:=ry;exact eq_int (fin_bl I q dec_int)
   |str j=>obtain⟨t',rfl⟩:=ry;exact PySem.EqMixed.eq_int_str (fin_bl I q (by simp))
   |_=>exact absurd (show false=true from hs) Vv
 |str i=>
   obtain⟨t,rfl⟩:=rx;cases y with
   |non=>cases ry;exact PySem.EqNone.eq_str_none (fin_bl I q (by simp))
   |bl j=>cases ry;exact PySem.EqMixed.eq_str_bool (fin_bl I q (by simp))
   |int j=>obtain⟨t',rfl⟩:=ry;exact PySem.EqMixed.eq_str_int (fin_bl I q (by simp))
   |str j=>obtain⟨t',rfl⟩:=ry;exact eq_str (fin_bl I q dec_str)
   |_=>exact absurd (show false=true from hs) Vv
 |byt i=>
   obtain⟨t,rfl⟩:=rx;cases y with
   |byt j=>obtain⟨t',rfl⟩:=ry;exact PySem.W.eq_bytes (fin_bl I q dec_byt)
   |_=>exact absurd (show false=true from hs) Vv
 |_=>cases y<;>exact absurd (show false=true from hs) Vv
def op_ne:OpR X (compareOp .NotEq) rNe:=by
 intro Zo s σ H x y v u Q I rx ry h;obtain⟨hs,q⟩:=h;cases x with
 |non=>
   cases rx;cases y with
   |non=>cases ry;exact PySem.EqNone.ne_none_none (fin_bl I q (by simp))
   |bl j=>cases ry;exact PySem.EqNone.ne_none_bool (fin_bl I q (by simp))
   |int j=>obtain⟨t',rfl⟩:=ry;exact PySem.EqNone.ne_none_int (fin_bl I q (by simp))
   |str j=>obtain⟨t',rfl⟩:=ry;exact PySem.EqNone.ne_none_str (fin_bl I q (by simp))
   |_=>exact absurd (show false=true from hs) Vv
 |bl i=>
   cases rx;cases y with
   |non=>cases ry;exact PySem.EqNone.ne_bool_none (fin_bl I q (by simp))
   |bl j=>cases ry;exact ne_bool (fin_bl I q (congrArg not dec_bl))
   |str j=>obtain⟨t',rfl⟩:=ry;exact PySem.EqMixed.ne_bool_str (fin_bl I q (by simp))
   |_=>exact absurd (show false=true from hs) Vv
 |int i=>
   obtain⟨t,rfl⟩:=rx;cases y with
   |non=>cases ry;exact PySem.EqNone.ne_int_none (fin_bl I q (by simp))
   |int j=>obtain⟨t',rfl⟩:=ry;exact ne_int (fin_bl I q (congrArg not dec_int))
   |str j=>obtain⟨t',rfl⟩:=ry;exact PySem.EqMixed.ne_int_str (fin_bl I q (by simp))
   |_=>exact absurd (show false=true from hs) Vv
 |str i=>
   obtain⟨t,rfl⟩:=rx;cases y with
   |non=>cases ry;exact PySem.EqNone.ne_str_none (fin_bl I q (by simp))
   |bl j=>cases ry;exact PySem.EqMixed.ne_str_bool (fin_bl I q (by simp))
   |int j=>obtain⟨t',rfl⟩:=ry;exact PySem.EqMixed.ne_str_int (fin_bl I q (by simp))
   |str j=>obtain⟨t',rfl⟩:=ry;exact ne_str (fin_bl I q (congrArg not dec_str))
   |_=>exact absurd (show false=true from hs) Vv
 |byt i=>
   obtain⟨t,rfl⟩:=rx;cases y with
   |byt j=>obtain⟨t',rfl⟩:=ry;exact PySem.W.ne_bytes (fin_bl I q (congrArg not dec_byt))
   |_=>exact absurd (show false=true from hs) Vv
 |_=>cases y<;>exact absurd (show false=true from hs) Vv
def op_lt:OpR X (compareOp .Lt) (rI0 λi j=>.bl (decide (i<j))):=opB0 λz z z z z z z q=>lt_int q
def op_le:OpR X (compareOp .LtE) (rI0 λi j=>.bl (decide (i<=j))):=opB0 λz z z z z z z q=>le_int q
def op_gt:OpR X (compareOp .Gt) (rI0 λi j=>.bl (decide (j<i))):=opB0 λz z z z z z z q=>gt_int q
def op_ge:OpR X (compareOp .GtE) (rI0 λi j=>.bl (decide (j<=i))):=opB0 λz z z z z z z q=>ge_int q
def OpR.or(h:OpR X f r)(h':OpR X f r'):OpR X f (λx y H Q=>r x y H Q\/r' x y H Q):=by
 intro Zo s σ H x y v u Q I rx ry q;rcases q with q | q
 ·exact h Zo s σ H x y v u Q I rx ry q
 ·exact h' Zo s σ H x y v u Q I rx ry q
def nomark(b:Expr)(h:op≠.In:=by decide)(h2:op≠.NotIn:=by decide):behindInMarks op b=false:=by
 have e1:(op==CmpOp.In)=false:=by cases op<;>first | rfl | exact absurd rfl h
 have e2:(op==CmpOp.NotIn)=false:=by cases op<;>first | rfl | exact absurd rfl h2
 cases b<;>simp[behindInMarks,e1,e2]
def pe_cmpR(ho:OpR X (compareOp op) r)(ha:PE X a ta)(hb:PE X b tb)(hm:behindInMarks op b=false):PE X (.Compare a [op] [b] pos) (tOp r ta tb):=by intro Zo s σ H Q I h;exact wpAny_Compare1 (binT ha hb I h λv u s2 x y H2 I2 rx ry q=>ho Zo s2 σ H2 x y v u Q I2 rx ry q) hm
def tTest(t:TE):TT:=λσ H Q=>t σ H λx H'=>∃k,x=.bl k/\Q k H'
def pt_cmpR(ho:OpR X (compareOp op) r)(ha:PE X a ta)(hb:PE X b tb)(hm:behindInMarks op b=false):PT X (.Compare a [op] [b] pos) (tTest (tOp r ta tb)):=by
 intro Zo s σ H Q I h;refine wpAny_isTrue_Compare1 (thn (ha Zo s σ H _ I h) λv s1 ⟨x,H1,I1,r1,q1⟩=>thn (hb Zo s1 σ H1 _ I1 q1) λu s2 ⟨y,H2,I2,r2,q2⟩=>
  thn (ho Zo s2 σ H2 x y v u _ I2 r1 r2 q2) λc s3 ⟨z,H3,I3,r3,k,e,q3⟩=>?_) hm
 subst e;cases r3;exact WP ⟨H3,I3,q3⟩
def tChain(r r':R2)(ta tb tc:TE):TE:=λσ H Q=>ta σ H λx H1=>tb σ H1 λy H2=>r x y H2 λz H3=>∃k,z=.bl k /\
 (if k=true then tc σ H3 λw' H4=>r' y w' H4 Q else Q (.bl false) H3)
def pe_chain(ho:OpR X (compareOp op) r)(ho':OpR X (compareOp op') r')(ha:PE X a ta)(hb:PE X b tb)(hc:PE X c tc)
  (hm:lastMarks [op,op'] [b,c]=false:=by with_unfolding_all rfl):PE X (.Compare a [op,op'] [b,c] pos) (tChain r r' ta tb tc):=by
 intro Zo s σ H Q I h;refine Compare_chain (thn (ha Zo s σ H _ I h) λv s1 ⟨x,H1,I1,r1,q1⟩=>chain_link (thn (hb Zo s1 σ H1 _ I1 q1) λu s2 ⟨y,H2,I2,r2,q2⟩=>
  thn (ho Zo s2 σ H2 x y v u _ I2 r1 r2 q2) λd s3 ⟨z,H3,I3,r3,k,e,q3⟩=>?_)) hm
 subst e;cases r3;refine WP ?_;cases k with
 |false=>exact ite_ff ⟨.bl false,H3,I3,rfl,q3⟩
 |true=>exact ite_tt (chain_last (thn (hc Zo s3 σ H3 _ I3 q3) λw' s4 ⟨z',H4,I4,r4,q4⟩=>ho' Zo s4 σ H4 y z' u w' Q I4 r2 r4 q4))
def pt_chain(ho:OpR X (compareOp op) r)(ho':OpR X (compareOp op') r')(ha:PE X a ta)(hb:PE X b tb)(hc:PE X c tc)
  (hm:lastMarks [op,op'] [b,c]=false:=by with_unfolding_all rfl):PT X (.Compare a [op,op'] [b,c] pos) (tTest (tChain r r' ta tb tc)):=by
 intro Zo s σ H Q I h;refine isTrue_chain (thn (ha Zo s σ H _ I h) λv s1 ⟨x,H1,I1,r1,q1⟩=>test_link (thn (hb Zo s1 σ H1 _ I1 q1) λu s2 ⟨y,H2,I2,r2,q2⟩=>
  thn (ho Zo s2 σ H2 x y v u _ I2 r1 r2 q2) λd s3 ⟨z,H3,I3,r3,k,e,q3⟩=>?_)) hm
 subst e;cases r3;refine WP ?_;cases k with
 |false=>obtain⟨k',e',q'⟩:=q3;cases e';exact ite_ff ⟨H3,I3,q'⟩
 |true=>
   refine ite_tt (test_last (thn (hc Zo s3 σ H3 _ I3 q3) λw' s4 ⟨z',H4,I4,r4,q4⟩=>thn (ho' Zo s4 σ H4 y z' u w' _ I4 r2 r4 q4) λd' s5 ⟨z2,H5,I5,r5,k2,e2,q5⟩=>?_))
   subst e2;cases r5;exact WP ⟨H5,I5,q5⟩
def TruV(K:PySem.W.Frag)(x:V)(H:Hp)(k:Bool):Prop:=
 match x with
 |.non=>k=false
 |.bl b=>k=b
 |.int i=>k=(i != 0)
 |.str y=>y.length<=sizeLine/\k=((y.length:Int) != 0)
 |.byt y=>y.size<=sizeLine/\k=((y.size:Int) != 0)
 |.ref p=>(∃xs,SqL K H p xs/\k=!xs.isEmpty)\/(∃xs,SqT K H p xs/\k=!xs.isEmpty)\/∃kvs,H p=some (.dK kvs)/\k=!kvs.isEmpty
 |_=>False
def isEmpty_kv(r:KV kvs vs):(!vs.isEmpty)=!kvs.isEmpty:=by cases r<;>rfl
def isEmpty_of(r:Vals xs its):(!its.toArray.isEmpty)=!xs.isEmpty:=by cases r<;>simp
def line63:(sizeLine:Nat)<2^63:=by rw[Ww];decide
def tru_ok:TruR X (λx H Q=>∃ k,TruV X.K x H k/\Q k H):=by
 intro Zo s σ H x v Q I rx h;obtain⟨k,e,q⟩:=h;have hl:=line63;have hs:sizeLine=16777216:=Ww;cases x with
 |non=>cases rx;have e':k=false:=e;subst e';exact truthy_none ⟨H,I,q⟩
 |bl b=>cases rx;have e':k=b:=e;subst e';exact WP ⟨H,I,q⟩
 |int i=>obtain⟨t,rfl⟩:=rx;have e':k=(i != 0):=e;subst e';exact PySem.P.truthy_int ⟨H,I,q⟩
 |str y=>obtain⟨t,rfl⟩:=rx;obtain⟨hy,e'⟩:y.length<=sizeLine/\k=((y.length:Int) != 0):=e;subst e';exact PySem.P.truthy_str (by lia) ⟨H,I.tok _,q⟩
 |byt y=>obtain⟨t,rfl⟩:=rx;obtain⟨hy,e'⟩:y.size<=sizeLine/\k=((y.size:Int) != 0):=e;subst e';exact PySem.W.truthy_bytes (by lia) ⟨H,I.tok _,q⟩
 | ref p=>
   cases rx;have e':(∃xs,SqL X.K H p xs/\k=!xs.isEmpty)\/(∃xs,SqT X.K H p xs/\k=!xs.isEmpty)\/∃kvs,H p=some (.dK kvs)/\k=!kvs.isEmpty:=e;rcases e' with ⟨xs,hx,e'⟩ | ⟨xs,hx,e'⟩ | ⟨kvs,hx,e'⟩
   ·subst e';obtain⟨its,r,pl,hz⟩:=I.list hx;have hlen:=r.length;exact wpAny_truthy_list pl.isList (by simp only[List.size_toArray];lia) ⟨H,I.tok _,by rw[isEmpty_of r];exact q⟩
   ·subst e';obtain⟨its,r,pl,hz⟩:=I.tuple hx;have hlen:=r.length;exact truthy_tuple pl (by simp only[List.size_toArray];lia) ⟨H,I.tok _,by rw[isEmpty_of r];exact q⟩
   ·subst e';obtain⟨hz,hS,vs,r,m⟩:kvs.length<=sizeLine/\(p==sysModules)=false/\∃vs,KV kvs vs/\s.heap.DictOf (mixKind X.prog X.w) p vs:=I.hok p _ hx;have hlen:kvs.length=vs.length:=Yd r;exact wpAny_truthy_dict hS m (by lia) ⟨H,I.tok _,by rw[isEmpty_kv r];exact q⟩
 |_=>exact (show False from e).elim
def pt_truth(ha:PE X a ta)(he:∀whole,isTrue a X.env whole=(do let v <-whole;standAt a.pos;holding [v] (truthy v))):
  PT X a (λσ H Q=>ta σ H λx H'=>∃k,TruV X.K x H' k/\Q k H'):=by
 intro Zo s σ H Q I h;exact isTrue_plain (thn (ha Zo s σ H _ I h) λv s1 ⟨x,H1,I1,r1,q1⟩=>tru_ok Zo s1 σ H1 x v Q I1 r1 q1) (he _)
def op_add_str:OpR X (binaryOp .Add) (λx y H Q=>∃i j,x=.str i/\y=.str j/\i.length+j.length<=sizeLine/\Q (.str (i++j)) H):=by intro Zo s σ H x y v u Q I rx ry h;obtain⟨i,j,rfl,rfl,hz,q⟩:=h;obtain⟨t,rfl⟩:=rx;obtain⟨t',rfl⟩:=ry;exact add_str (λt' tk=>⟨.str (i++j),H,I.tok _,⟨_,rfl⟩,q⟩) hz
def vals1(r:Vals [x] us):∃u,us=[u]/\RelV x u:=by
 cases r with
 |cons r1 r2=>cases r2;exact⟨_,rfl,r1⟩
def vals2(r:Vals [x,y] us):∃ u w',us=[u,w']/\RelV x u/\RelV y w':=by
 cases r with
 |cons r1 r2=>
   cases r2 with
   |cons r3 r4=>cases r4;exact⟨_,_,rfl,r1,r3⟩
def call_max2(hc:X.calm=true):CallR X (.builtin "max") (λxs H Q=>∃i j,xs=[.int i,.int j]/\Q (.int (if j > i then j else i)) H):=by
 intro Zo s σ H xs us Q I r h;obtain⟨i,j,rfl,q⟩:=h;obtain⟨u,w',rfl,⟨t,rfl⟩,⟨t',rfl⟩⟩:=vals2 r;refine max_two_ints (I.ok.hd hc) λh' tk k=>⟨_,H,I.kept k,?_,q⟩
 by_cases hj:j > i
 ·rw[U5 hj,U5 hj];exact⟨_,rfl⟩
 ·rw[U8 hj,U8 hj];exact⟨_,rfl⟩
end
open PySem PySem.Spec PyProof.Rows
structure ObjM(h:Heap)(x dx C:Addr)(mA:Str->Option Value):Prop where
 obj:h.get? x=some (PySem.W.instObj C dx)
 ns:h.Ns1 dx mA
 ne:dx≠x
set_option tactic.hygienic true in
def lookIn_ns{h:Heap}{dx:Addr}{mA:Str->Option Value}(n:h.Ns1 dx mA):∃ od,h.get? dx=some od/\∀ name,PySem.W.lookIn name od=some (mA name):=by
 obtain⟨o,es,ep,ho,hd,hk,_,hm⟩:=n;refine⟨o,ho,λname=>?_⟩
 have e:=hm name;unfold nsFind findBy at e;rw[<-Array.find?_toList]at e;unfold PySem.W.lookIn;rw[hd];dsimp only;split
 ·rename_i y q;rw[q]at e;exact congrArg some e
 ·rename_i q;rw[q]at e;have a:es.toList.any (·.refKey)=false:=by rw[List.any_eq_false];intro y hy;obtain⟨z,t,hkey⟩:=hk y (Array.mem_toList_iff.mp hy);simp[DictEntry.refKey,hkey]
  have a':¬ es.toList.any (·.refKey)=true:=by rw[a];exact Vv
  rw[U8 a'];exact congrArg some e
def ObjM.look(I:ObjM h x dx C mA):∃od,PySem.W.InstAt h x (PySem.W.instObj C dx) C (some od)/\∀name,PySem.W.lookIn name od=some (mA name):=
 let ⟨od,ho,hl⟩:=lookIn_ns I.ns
 ⟨od,⟨I.obj,rfl,rfl,ho⟩,hl⟩
section
variable{prog:Program}{w:World}{A:Around}{E:Value->Shared->Prop}{s:Shared}{K:PySem.W.Frag}{x dx C f:Addr}{mA:Str->Option Value}{name:Str}{v:Value}
def get_map(X:K.In s.heap)(I:ObjM s.heap x dx C mA)(hg:PySem.W.plainGet K C name=true)(hh:PySem.W.hasDictIn K C=true)
  (ha:PySem.W.findIn K (.ref C) name=some none) (hv:mA name=some v) (hv':PySem.W.handedIn v=true) (h:Q v { s with toks:=s.toks+1 }) :
  wpAny (model prog w) A (getAttr (.ref x) name expr) Q E s:=by
 obtain⟨od,J,hl⟩:=I.look;exact PySem.W.get_value X J (PySem.W.plainGet_of hg).1 (PySem.W.findObj_own hh ha rfl (by rw[hl,hv])) hv' h
def get_meth(X:K.In s.heap)(I:ObjM s.heap x dx C mA)(hg:PySem.W.plainGet K C name=true)
  (hf:PySem.W.findIn K (.ref C) name=some (some (.ref f))) (ht:PySem.W.isFn K (.ref f)=true) (hv:mA name=none) (h:Q (.ref f,[.ref x]) s) :
  wpAny (model prog w) A (getMethod (.ref x) name pl) Q E s:=by
 obtain⟨od,J,hl⟩:=I.look;exact PySem.W.method_fn X J (PySem.W.plainGet_of hg).1 (PySem.W.plainGet_of hg).2 hf (Zb.mp ht) (by show (PySem.W.lookIn name od).map (·.isSome)=some false;rw[hl,hv];rfl) h
def set_map(X:K.In s.heap)(I:ObjM s.heap x dx C mA)
  (hs:PySem.W.findIn K (.ref C) "__setattr__"=some (some (.builtin "object.__setattr__"))) (hp:PySem.W.plainOver K C=true) (ht:PySem.W.takerIn K C name=some none) (hh:PySem.W.hasDictIn K C=true)
  (hw:PySem.Within mA ns) (hsz:ns.length<=sizeLine)
  (h:∀h',ObjM h' x dx C (λy=>if y=name then some v else mA y)->Heap.SameBut dx s.heap h'->Q () { s with heap:=h',toks:=s.toks+2 }) :
  wpAny (model prog w) A (setAttr (.ref x) name v) Q E s:=by
 obtain⟨od,J,hl⟩:=I.look;refine PySem.W.set_plain X J hs (PySem.W.osa_open (s:={ s with toks:=s.toks+1 }) (r:=none) X J hp ht λb=>?_)
 obtain⟨cd,hc,hd'⟩:=PySem.W.any_some hh;have hx:s.heap.get? x=some ⟨.ref C,some dx,.plain,#[]⟩:=I.obj;refine UL (UV (UL (UL (wpAny_loadPart hx (UL (PySem.W.Looks.here (s:={ s with toks:=s.toks+1 }) (PySem.W.looks_clsIn X hc) ?_))))))
 rw[hd'];refine UV (a:=some dx) (UL (UV (UL ?_)));refine wpAny_nsSet1 (s:={ s with toks:=s.toks+1 }) I.ns λh' hn2 hs2=>?_
 obtain⟨oD,esD,epD,hoD,hdD,hcD⟩:=hn2.count (PySem.Within.cons name v hw);refine UL (wpAny_lookBehind hoD (by rw[hdD];exact pastItsLine_dict (Vp hcD (by rw[Wd];lia))) ?_)
 exact UV (h _ ⟨(hs2.2 _ (Ne.symm I.ne)).trans I.obj,hn2,I.ne⟩ hs2)
def make_map(X:K.In s.heap)(hm:PySem.W.makesIn K C=true)
  (hi:PySem.W.findIn K (.ref C) "__init__"=some (some (.ref f))) (hf:PySem.W.typeIn K (.ref f)=some (.type "function"))
  (h:codeAny (model prog w) (A.under (.builtin "type.__call__" ⟨.ref C::vs,kw⟩)) (.call (.ref f) ⟨.ref (s.heap.objs.size+1)::vs,kw⟩) (PySem.W.InitBack (s.heap.objs.size+1) R)
    { s with heap:=(s.heap.push PySem.W.emptyDict).push (PySem.W.instObj C s.heap.objs.size) }) :
  codeAny (model prog w) A (.call (.ref C) ⟨vs,kw⟩) R s:=by
 obtain⟨hh,g,d,t,os⟩:=s;exact PySem.W.make_core (PySem.W.makes_of X hm) (PySem.W.looks_findIn X hi) (λself=>PySem.W.bind_fn X self hf) (.inl rfl) h
end
def putF(f:Str)(v:V):List (Str×V)->List (Str×V)
 |[]=>[(f,v)]
 |(g,x)::r=>if g=f then (g,v)::r else (g,x)::putF f v r
theorem lookup_putF(f g:Str)(v:V):∀ fs:List (Str×V),(putF f v fs).lookup g=if g=f then some v else fs.lookup g
 | []=>by
   show List.lookup g [(f,v)]=_;by_cases h:g=f
   ·have hb:(g==f)=true:=Zb.mpr h;simp only[List.lookup,hb,if_pos h]
   ·have hb:(g==f)=false:=WT.mpr h;simp only[List.lookup,hb,if_neg h]
 | (k,x)::r=>by
   have ih:=lookup_putF f g v r;rw[show putF f v ((k,x)::r)=(if k=f then (k,v)::r else (k,x)::putF f v r) from rfl]
   by_cases hk:k=f
   ·rw[U5 hk];by_cases h:g=k
    ·have hb:(g==k)=true:=Zb.mpr h;simp only[List.lookup,hb,if_pos (h.trans hk)]
    ·have hb:(g==k)=false:=WT.mpr h;simp only[List.lookup,hb,if_neg (λe:g=f=>h (e.trans hk.symm))]
   ·rw[U8 hk];by_cases h:g=k
    ·have hb:(g==k)=true:=Zb.mpr h;simp only[List.lookup,hb,if_neg (λe:g=f=>hk (h.symm.trans e))]
    ·have hb:(g==k)=false:=WT.mpr h;simp only[List.lookup,hb];exact ih
theorem keys_putF(f:Str)(v:V):∀ fs:List (Str×V),f∈(putF f v fs).map (·.1)/\∀ g,g∈fs.map (·.1)->g∈(putF f v fs).map (·.1)
 |[]=>⟨by simp[putF],λg h=>by simp at h⟩
 | (k,x)::r=>by
   obtain⟨i1,i2⟩:=keys_putF f v r;rw[show putF f v ((k,x)::r)=(if k=f then (k,v)::r else (k,x)::putF f v r) from rfl]
   by_cases hk:k=f
   ·rw[U5 hk];subst hk;exact⟨by simp,λg h=>by simpa using h⟩
   ·rw[U8 hk];refine⟨?_,λg h=>?_⟩
    ·rw[Vt];exact Vq _ i1
    ·rw[Vt]at h ⊢
     rcases Vf.mp h with e | e
     ·exact Vf.mpr (.inl e)
     ·exact Vq _ (i2 g e)
theorem length_putF(f:Str)(v:V):∀ fs:List (Str×V),(putF f v fs).length<=fs.length + 1
 |[]=>by simp[putF]
 |(k,x)::r=>by
   have ih:=length_putF f v r;rw[show putF f v ((k,x)::r)=(if k=f then (k,v)::r else (k,x)::putF f v r) from rfl]
   by_cases hk:k=f
   ·rw[U5 hk,Wd,Wd];lia
   ·rw[U8 hk,Wd,Wd];lia
def RelO.some_of(r:RelO (some v) o):∃u,o=some u/\RelV v u:=by
 cases o with
 |none=>exact (show False from r).elim
 |some u=>exact⟨u,rfl,r⟩
def RelO.none_of(r:RelO none o):o=none:=by
 cases o with
 |none=>rfl
 |some u=>exact (show False from r).elim
def handed_of(r:RelV v u):PySem.W.handedIn u=true:=by
 cases v with
 |non=>cases (show u=Value.none from r);rfl
 |bl b=>cases (show u=Value.bool b from r);rfl
 |int i=>obtain⟨t,e⟩:=(show ∃t,u=Value.int i t from r);cases e;rfl
 |str x=>obtain⟨t,e⟩:=(show ∃t,u=Value.str x t from r);cases e;rfl
 |byt b=>obtain⟨t,e⟩:=(show ∃t,u=Value.bytes b t from r);cases e;rfl
 |flt b=>obtain⟨t,e⟩:=(show ∃t,u=Value.float b t from r);cases e;rfl
 |ref a=>cases (show u=Value.ref a from r);rfl
 |ty n=>cases (show u=Value.type n from r);rfl
section
variable{P:Program}{w:World}{H H':Hp}{h h':Heap}{a C dx:Addr}{fs fs':List (Str×V)}
def ins_get(hok:HOk P w H h)(e:H a=some (.ins C dx fs)):∃mA,ObjM h a dx C mA/\(∀f,RelO (fs.lookup f) (mA f))/\PySem.Within mA (fs.map (·.1))/\fs.length<=1000/\H dx=some (.own a):=by
 obtain⟨d,z,ne,ob,mA,n,r,q⟩:=(show ObjOk P w H h a (.ins C dx fs) from hok a _ e)
 exact⟨mA,⟨ob,n,ne⟩,r,q,z,d⟩
end
structure Cls(K:PySem.W.Frag)(C:Addr):Prop where
 pg:PySem.W.plainGet K C Str.empty=true
 hd:PySem.W.hasDictIn K C=true
 po:PySem.W.plainOver K C=true
 sa:PySem.W.findIn K (.ref C) "__setattr__"=some (some (.builtin "object.__setattr__"))
def Cls.get{K:PySem.W.Frag}{C:Addr}(c:Cls K C)(f:Str):PySem.W.plainGet K C f=true:=c.pg
def NoAttr(K:PySem.W.Frag)(C:Addr)(f:Str):Prop:=PySem.W.findIn K (.ref C) f=some none
def NoAttr.taker{K:PySem.W.Frag}{C:Addr}{f:Str}(n:NoAttr K C f):PySem.W.takerIn K C f=some none:=by
 unfold PySem.W.takerIn;rw[show PySem.W.findIn K (.ref C) f=some none from n]
 rfl
structure Meth(K:PySem.W.Frag)(C:Addr)(m:Str)(f:Addr):Prop where
 at_:PySem.W.findIn K (.ref C) m=some (some (.ref f))
 fn:PySem.W.isFn K (.ref f)=true
 kp:PySem.W.keepIn K (.ref f)=true
section
variable{X:Cx}{Zo:List (Addr×Obj)}{σ:St}{H:Hp}{s:Shared}{a C dx:Addr}{fs:List (Str×V)}{f:Str}{v:V}{A:Around}{E:Value->Shared->Prop}
def getattr_ok(I:Inv X Zo σ H s)(e:H a=some (.ins C dx fs))(c:Cls X.K C)(n:NoAttr X.K C f)(l:fs.lookup f=some v)
  (h:∀u s',Inv X Zo σ H s'->RelV v u->Q u s'):wpAny (model X.prog X.w) A (getAttr (.ref a) f b) Q E s:=by
 obtain⟨mA,O,r,_,_,_⟩:=ins_get I.hok e;obtain⟨u,hu,ru⟩:=RelO.some_of (v:=v) (o:=mA f) (by rw[<-l];exact r f)
 exact get_map I.kIn O (c.get f) c.hd n hu (handed_of ru) (h u _ (I.tok _) ru)
def getmeth_ok(I:Inv X Zo σ H s)(e:H a=some (.ins C dx fs))(c:Cls X.K C)(k:Meth X.K C m g)(l:fs.lookup m=none)
  (h:Q (.ref g,[.ref a]) s):wpAny (model X.prog X.w) A (getMethod (.ref a) m pl) Q E s:=by
 obtain⟨mA,O,r,_,_,_⟩:=ins_get I.hok e;have hn:mA m=none:=RelO.none_of (by rw[<-l];exact r m)
 exact get_meth I.kIn O (c.get m) k.at_ k.fn hn h
def setattr_ok(I:Inv X Zo σ H s)(e:H a=some (.ins C dx fs))(c:Cls X.K C)(n:NoAttr X.K C f)(hl:fs.length<1000)(ry:RelV y u)
  (h:∀s',Inv X Zo σ (upd H a (.ins C dx (putF f y fs))) s'->Q () s'):wpAny (model X.prog X.w) A (setAttr (.ref a) f u) Q E s:=by
 obtain⟨mA,O,r,wi,_,ho⟩:=ins_get I.hok e;have hz:(fs.map (·.1)).length<=sizeLine:=by rw[U6,Ww];lia
 refine set_map I.kIn O c.sa c.po n.taker c.hd wi hz λh' O' sb=>h _ ?_
 have hd:∃o,h'.get? dx=some o:=let ⟨o,_,_,e',_⟩:=O'.ns;⟨o,e'⟩
 refine I.write (x:=a) (e:=dx) (by rw[e];exact True.intro) (.inr ho) (λb q hb z=>(sb.2 b hb).trans z) hd ?_
 refine⟨by rw[upd_ne O.ne];exact ho,?_,O.ne,O'.obj,_,O'.ns,λg=>?_,λg hg=>?_⟩
 ·have:=length_putF f y fs;lia
 ·show RelO ((putF f y fs).lookup g) (if g=f then some u else mA g)
  rw[lookup_putF];by_cases q:g=f
  ·rw[U5 q,U5 q];exact ry
  ·rw[U8 q,U8 q];exact r g
 ·by_cases q:g=f
  ·rw[q];exact (keys_putF f y fs).1
  ·refine (keys_putF f y fs).2 g (wi g λz=>hg ?_)
   show (if g=f then some u else mA g)=none
   rw[U8 q];exact z
def Inv.made(I:Inv X Zo σ H s):Inv X Zo σ (upd (upd H s.heap.objs.size (.own (s.heap.objs.size+1))) (s.heap.objs.size+1) (.ins C s.heap.objs.size []))
  { s with heap:=(s.heap.push PySem.W.emptyDict).push (PySem.W.instObj C s.heap.objs.size) }:=by
 have e1:(s.heap.push PySem.W.emptyDict).get? s.heap.objs.size=some PySem.W.emptyDict:=U9 s.heap rfl;have e2:((s.heap.push PySem.W.emptyDict).push (PySem.W.instObj C s.heap.objs.size)).get? (s.heap.objs.size+1)=some (PySem.W.instObj C s.heap.objs.size):=by
  have:=U9 (s.heap.push PySem.W.emptyDict) (o:=PySem.W.instObj C s.heap.objs.size) rfl
  rwa [VF]at this
 have e3:(s.heap.push PySem.W.emptyDict).Ns s.heap.objs.size (λz=>none):=⟨PySem.W.emptyDict,#[],_,e1,rfl,(λe he=>absurd he (by simp)),λz=>rfl⟩
 have I1:=I.laid (a:=s.heap.objs.size) (o:=.own (s.heap.objs.size+1)) (h':=s.heap.push PySem.W.emptyDict) (t':=s.toks) (λb u q=>UT _ q) (U0 _) ⟨_,e1⟩
 refine I1.laid (a:=s.heap.objs.size+1) (o:=.ins C s.heap.objs.size []) (t':=s.toks) (λb u q=>UT _ q) (Nat.le_of_eq (VF _ _)) ?_
 have ne:s.heap.objs.size≠s.heap.objs.size+1:=Vi (Wv _);refine⟨by rw[upd_ne ne,upd_same],Wo _,ne,e2,λz=>none,(Heap.Ns1.of_empty e3).at λo q=>UT _ q,λz=>True.intro,λy hy=>absurd rfl hy⟩
def attr_of(hb:attributeBase e f env (eval e env)=eval e env)
  (h:wpAny (model prog w) A (eval e env) (λo s₁=>wpAny (model prog w) A (getAttr o f true) Q E s₁) E s):wpAny (model prog w) A (eval (.Attribute e f pos) env) Q E s:=
 Attribute_any_ h (by rw[arm_eval_Attribute,hb])
end
def tFld(K:PySem.W.Frag)(ta:TE)(f:Str):TE:=λσ H Q=>ta σ H λx H1=>∃a C dx fs v,x=.ref a/\H1 a=some (.ins C dx fs)/\Cls K C/\NoAttr K C f/\fs.lookup f=some v/\Q v H1
def sFld(K:PySem.W.Frag)(ta tv:TE)(f:Str):TS:=λD σ H=>tv σ H λy H1=>ta σ H1 λx H2=>∃a C dx fs,x=.ref a/\H2 a=some (.ins C dx fs)/\Cls K C/\NoAttr K C f/\fs.length<1000 /\
 D.nx σ (upd H2 a (.ins C dx (putF f y fs)))
section
variable{X:Cx}{o e value:Expr}{f:Str}{pos pos' tpos:Pos}{ta tv:TE}
def pe_fld(he:PE X e ta)(hb:attributeBase e f X.env (eval e X.env)=eval e X.env):PE X (.Attribute e f pos) (tFld X.K ta f):=by
 intro Zo s σ H Q I h;refine attr_of hb (thn (he Zo s σ H _ I h) λu s1 ⟨x,H1,I1,rx,a,C,dx,fs,v,ex,ea,c,n,l,q⟩=>?_)
 subst ex;obtain rfl:u=Value.ref a:=rx;exact getattr_ok I1 ea c n l λu' s2 I2 ru=>⟨v,H1,I2,ru,q⟩
def ps_fld(ha:PE X o ta)(hv:PE X value tv)(hs:swapsWith value (some (.Attribute o f pos')) pos.line X.env=pure false):PS X (.Assign [.Attribute o f pos'] value pos) (sFld X.K ta tv f):=by
 intro Zo s σ H D I h;refine plainObj_wpAny_Assign_Attribute (thn (hv Zo s σ H _ I h) λu s1 ⟨y,H1,I1,ry,q⟩=>thn (ha Zo s1 σ H1 _ I1 q) λov s2 ⟨x,H2,I2,rx,a,C,dx,fs,ex,ea,c,n,l,q2⟩=>?_) hs
 subst ex;obtain rfl:ov=Value.ref a:=rx;exact setattr_ok I2 ea c n l ry λs3 I3=>⟨σ,_,I3,q2⟩
def methcall_of(he:PE X e te)(I:Inv X Zo σ H s)
  (h:te σ H λx H1=>∃a C dx fs g,x=.ref a/\H1 a=some (.ins C dx fs)/\Cls X.K C/\Meth X.K C m g/\fs.lookup m=none /\
    ∀s1,Inv X Zo σ H1 s1->wpAny (model X.prog X.w) X.A (callWith pos (.ref g) [.ref a] (backTo pos (starEach args X.env)) (backToKw pos (keywordEach [] X.env))) Q X.xe s1)
  (ht:eval (.Call (.Attribute e m apos) args [] pos) X.env=(do
    let ov <-eval e X.env
    standAt apos.atName
    let (f,first) <-holding [ov] (getMethod ov m pl)
    callWith pos f first (backTo pos (starEach args X.env)) (backToKw pos (keywordEach [] X.env)))) :
  wpAny (model X.prog X.w) X.A (eval (.Call (.Attribute e m apos) args [] pos) X.env) Q X.xe s:=by
 refine PySem.W.methodCall_KW (pl:=pl) (thn (he Zo s σ H _ I h) λu s1 ⟨x,H1,I1,rx,a,C,dx,fs,g,ex,ea,c,k,l,q⟩=>?_) ht
 subst ex;obtain rfl:u=Value.ref a:=rx;exact getmeth_ok I1 ea c k l (q s1 I1)
end
section
variable{X:Cx}{Zo:List (Addr×Obj)}{σ:St}{H:Hp}{s:Shared}{A:Around}{E:Value->Shared->Prop}{Q:Value->Shared->Prop}{c:Value}{b:Bool}
inductive TyOf(K:PySem.W.Frag)(H:Hp):V->Value->Prop where
 |non:TyOf K H .non (.type "NoneType")
 |bl (x:Bool):TyOf K H (.bl x) (.type "bool")
 |int (i:Int):TyOf K H (.int i) (.type "int")
 |str (x:Str):TyOf K H (.str x) (.type "str")
 |flt (x:UInt64):TyOf K H (.flt x) (.type "float")
 |lst {a:Addr}{xs:List V} (e:H a=some (.lst xs)):TyOf K H (.ref a) (.type "list")
 |frz {a:Addr}{o:Obj}{xs:List V} (e:H a=some (.frz o (.lst xs))):TyOf K H (.ref a) (.type "list")
 |tup {a:Addr}{xs:List V} (e:H a=some (.tup xs)):TyOf K H (.ref a) (.type "tuple")
 |dK {a:Addr}{kvs:List (Key×V)} (e:H a=some (.dK kvs)):TyOf K H (.ref a) (.type "dict")
 |dT {a:Addr}{kvs:List (List Key×V)} (e:H a=some (.dT kvs)):TyOf K H (.ref a) (.type "dict")
 |ins {a C dx:Addr}{fs:List (Str×V)} (e:H a=some (.ins C dx fs)) (cl:Cls K C) (ha:PySem.W.findIn K (.ref C) "__class__"=some (some (.builtin "object.__class__")))
   (hn:PySem.W.specialIn K (.builtin "object.__class__") "__get__"=some (some (.builtin "getset_descriptor.__get__"))) (htk:PySem.W.takesIn K (.builtin "object.__class__")=some true)
   (hm:PySem.W.mroIn K C (.type "object")=some true):TyOf K H (.ref a) (.ref C)
def isinst_ok(I:Inv X Zo σ H s)(rx:RelV x u)(ty:TyOf X.K H x t)(e:PySem.W.kitOne X.K t c=some b)(h:∀ tk,Q (.bool b) { s with toks:=tk }):
  wpAny (model X.prog X.w) A (call (.builtin "isinstance") [u,c]) Q E s:=by
 cases ty with
 |non=>cases (show u=Value.none from rx);exact Wr PySem.W.kitx_none I.kIn True.intro e (λz=>nomatch z) h
 |bl y=>cases (show u=Value.bool y from rx);exact Wr PySem.W.kitx_bool I.kIn True.intro e (λz=>nomatch z) h
 |int i=>obtain⟨t,q⟩:=(show ∃t,u=Value.int i t from rx);cases q;exact Wr PySem.W.kitx_int I.kIn True.intro e (λz=>nomatch z) h
 |str y=>obtain⟨t,q⟩:=(show ∃t,u=Value.str y t from rx);cases q;exact Wr PySem.W.kitx_str I.kIn True.intro e (λz=>nomatch z) h
 |flt y=>obtain⟨t,q⟩:=(show ∃t,u=Value.float y t from rx);cases q;exact Wr PySem.W.kitx_float I.kIn True.intro e (λz=>nomatch z) h
 | @lst a xs ea=>
   cases (show u=Value.ref a from rx)
   obtain⟨_,_,n,_,h1⟩:=(show ObjOk X.prog X.w H s.heap a (.lst xs) from I.hok a _ ea)
   exact Wr PySem.W.kitx_list I.kIn ⟨_,h1,rfl⟩ e (λz=>nomatch z) h
 | @frz a ob xs ea=>
   cases (show u=Value.ref a from rx)
   obtain⟨_,_,_,n,_,h1⟩:=(show ObjOk X.prog X.w H s.heap a (.frz ob (.lst xs)) from I.hok a _ ea)
   exact Wr PySem.W.kitx_list I.kIn ⟨_,h1,rfl⟩ e (λz=>nomatch z) h
 | @tup a xs ea=>
   cases (show u=Value.ref a from rx)
   obtain⟨_,_,_,p⟩:=(show ObjOk X.prog X.w H s.heap a (.tup xs) from I.hok a _ ea)
   obtain⟨o,h1,h2,_⟩:=p;exact Wr PySem.W.kitx_tuple I.kIn ⟨o,h1,h2⟩ e (λz=>nomatch z) h
 | @dK a kvs ea=>
   cases (show u=Value.ref a from rx)
   obtain⟨_,_,vs,_,p⟩:=(show ObjOk X.prog X.w H s.heap a (.dK kvs) from I.hok a _ ea)
   obtain⟨o,es,ep,h1,h2,_⟩:=p;exact Wr PySem.W.kitx_dict I.kIn ⟨o,h1,h2.1⟩ e (λz=>nomatch z) h
 | @dT a kvs ea=>
   cases (show u=Value.ref a from rx)
   obtain⟨_,_,xs,_,o,es,ep,h1,h2,_⟩:=(show ObjOk X.prog X.w H s.heap a (.dT kvs) from I.hok a _ ea)
   exact Wr PySem.W.kitx_dict I.kIn ⟨o,h1,h2.1⟩ e (λz=>nomatch z) h
 | @ins a C dx fs ea cl ha hn htk hm=>
   cases (show u=Value.ref a from rx)
   obtain⟨mA,O,_⟩:=ins_get I.hok ea;obtain⟨od,J,_⟩:=O.look;exact Wr (PySem.W.kitx_own (cl.get _) cl.hd ha hn htk hm) I.kIn J e (λz=>nomatch z) h
end
open PySem PySem.Spec PyProof.Rows
structure Room(k:Nat)(A:Around):Prop where
 hd:A.handled=none
 dp:A.depth+3*k+5<recursionLimit
 un:A.units+16*k+200<cLine
 gd:A.guards=some []
def Room.mono(r:Room k A)(h:j<=k):Room j A:=⟨r.hd,by have:=r.dp;lia,by have:=r.un;lia,r.gd⟩
theorem Room.deeper(r:Room (k+1) A)(env:Env):Room k (A.deeper env):=
 ⟨r.hd,by have:=r.dp;show A.depth+1+3*k+5<_;lia,by have:=r.un;show A.units+3+16*k+200<_;lia,r.gd⟩
theorem Room.in1(r:Room (k+1) A):Room k A.in1:=
 ⟨r.hd,by have:=r.dp;show A.depth+3*k+5<_;lia,by have:=r.un;show A.units+1+16*k+200<_;lia,r.gd⟩
def make_depth{A:Around}{C:Addr}{us:List Value}{kw:List (Str×Value)}:(A.under (.builtin "type.__call__" ⟨.ref C::us,kw⟩)).depth=A.depth+1:=by
 first | rfl | simp[Around.under,Code.weight,Code.isCreation,Code.isGuard,Code.isCaller,Code.frames,Code.isFrame,guardIds]
def make_units{A:Around}{C:Addr}{us:List Value}{kw:List (Str×Value)}:(A.under (.builtin "type.__call__" ⟨.ref C::us,kw⟩)).units=A.units+1:=by
 first | rfl | simp[Around.under,Code.cUnits,Code.frames,Code.isFrame]
def zZ{A:Around}{C:Addr}{us:List Value}{kw:List (Str×Value)}:(A.under (.builtin "type.__call__" ⟨.ref C::us,kw⟩)).guards=A.guards:=by simp[Around.under,Code.guards,Code.isGuard,guardIds,pushGuards]
def Room.make(r:Room (k+1) A)(C:Addr)(us:List Value)(kw:List (Str×Value)):Room k (A.under (.builtin "type.__call__" ⟨.ref C::us,kw⟩)):=
 ⟨r.hd,by have:=r.dp;rw[make_depth];lia,by have:=r.un;rw[make_units];lia,by first | (rw[zZ];exact r.gd) | exact r.gd⟩
theorem Room.depth(r:Room k A):A.depth<recursionLimit:=by have:=r.dp;lia
theorem Room.units(r:Room k A):A.units+64<cLine:=by have:=r.un;lia
def tNil:TA:=λz H Q=>Q [] H
def tCons(ta:TE)(tr:TA):TA:=λσ H Q=>ta σ H λx H1=>tr σ H1 λxs H2=>Q (x::xs) H2
section
variable{X:Cx}{e:Expr}{es:List Expr}{te:TE}{t:TA}{pos:Pos}
def pa_nil:PA X [] tNil:=λz z z z H Q I h=>Calls.spliced_nil ⟨[],H,I,.nil,h⟩
def pa_cons(ha:PE X e te)(hr:PA X es t)(hs:starEach (e::es) X.env=(false,eval e X.env)::starEach es X.env:=by rfl):PA X (e::es) (tCons te t):=by
 intro pos Zo s σ H Q I h;rw[hs];show wpAny _ _ (spliced ((false,eval e X.env)::backTo pos (starEach es X.env))) _ _ s;refine Calls.spliced_cons (thn (ha Zo s σ H _ I h) λu s1 ⟨x,H1,I1,r1,q1⟩=>?_)
 exact thn (hr pos Zo s1 σ H1 _ I1 q1) λus s2 ⟨xs,H2,I2,r2,q2⟩=>⟨x::xs,H2,I2,.cons r1 r2,q2⟩
def tTup(t:TA):TE:=λσ H Q=>t σ H λxs H1=>xs.length<=sizeLine/\∀p,H1 p=none->Q (.ref p) (upd H1 p (.tup xs))
def tLst(t:TA):TE:=λσ H Q=>t σ H λxs H1=>xs.length<=sizeLine/\∀p,H1 p=none->Q (.ref p) (upd H1 p (.lst xs))
def pe_tup{x1}(h:PA X es t):PE X (.Tuple es x1 pos) (tTup t):=by
 intro Zo s σ H Q I hq;refine wpAny_Tuple_spliced (thn (h pos Zo s σ H _ I hq) λus s1 ⟨xs,H1,I1,r,z,q⟩=>⟨by rw[<-r.length];exact z,?_⟩)
 have hf:H1 s1.heap.objs.size=none:=I1.hok.fresh (U0 _);refine⟨.ref s1.heap.objs.size,upd H1 s1.heap.objs.size (.tup xs),I1.laid (t':=s1.toks) (λb u e=>UT _ e) (U0 _) ?_,rfl,q _ hf⟩
 exact⟨z,us,r,⟨_,U9 _ rfl,rfl,_,rfl⟩⟩
def pe_lst(h:PA X es t):PE X (.List es pos) (tLst t):=by
 intro Zo s σ H Q I hq;refine wpAny_List_spliced (thn (h pos Zo s σ H _ I hq) λus s1 ⟨xs,H1,I1,r,z,q⟩=>⟨by rw[<-r.length];exact z,?_⟩)
 have hf:H1 s1.heap.objs.size=none:=I1.hok.fresh (U0 _);refine⟨.ref s1.heap.objs.size,upd H1 s1.heap.objs.size (.lst xs),I1.laid (t':=s1.toks) (λb u e=>UT _ e) (U0 _) ?_,rfl,q _ hf⟩
 exact⟨z,us,0,r,U9 _ rfl⟩
end
abbrev Sp:=List V->Hp->VK->XK->Prop
abbrev CXT:=List Env->Hp->Shared->XK->Value->Shared->Prop
structure Env0(P:Program)(w:World)(K:PySem.W.Frag)(mg:Str->Option Value)(base:Heap)(A:Around)(outer:List Env)(s:Shared)(H:Hp):Prop where
 frames:A.frames=some outer
 mod:Mod K mg base
 bs:∀b o,base.get? b=some o->s.heap.get? b=some o/\H b=none
 bsz:base.objs.size<=s.heap.objs.size
 funs:s.heap.FunFrames base outer
 frf:∀b∈frs outer,H b=none
 hok:HOk P w H s.heap
 bare:AllBare s.gens
def CE(outer:List Env)(P:Program)(w:World)(H:Hp)(s:Shared)(Q:VK)(u:Value)(s':Shared):Prop:=
 ∃v H',s'.os=s.os/\AllBare s'.gens/\Un (frs outer) [] H H' s.heap s'.heap/\HOk P w H' s'.heap/\RelV v u/\Q v H'
def CR(CX:CXT)(outer:List Env)(P:Program)(w:World)(H:Hp)(s:Shared)(Q:VK)(E:XK)(r:Result)(s':Shared):Prop:=
 match r with
 |.ok (.ret u)=>CE outer P w H s Q u s'
 |.ok _=>False
 |.error e=>CX outer H s E e s'
structure FnOk(P:Program)(w:World)(K:PySem.W.Frag)(mg:Str->Option Value)(base:Heap)(CX:CXT)(k:Nat)(f:Addr)(fd:FuncData)(ps:List Str)(sp:Sp):Prop where
 len:∀vs H Q E,sp vs H Q E->vs.length=ps.length
 run:∀(A:Around) (outer:List Env) (s:Shared) (H:Hp) (args:Args) (us:List Value) (vs:List V) (Q:VK) (E:XK),Room k A->Env0 P w K mg base A outer s H->BindsTo s fd args (ps.zip us)->Vals vs us->sp vs H Q E->
  codeAny (model P w) A (.call (.ref f) args) (CR CX outer P w H s Q E) s
theorem FnOk.mono{P:Program}{w:World}{K:PySem.W.Frag}{mg:Str->Option Value}{base:Heap}{CX:CXT}{j k:Nat}{f:Addr}{fd:FuncData}{ps:List Str}{sp:Sp}(F:FnOk P w K mg base CX j f fd ps sp)(h:j<=k):
  FnOk P w K mg base CX k f fd ps sp:=⟨F.len,λA outer s H args us vs Q E hr=>F.run A outer s H args us vs Q E (hr.mono h)⟩
def FnOk.imp{P:Program}{w:World}{K:PySem.W.Frag}{mg:Str->Option Value}{base:Heap}{CX:CXT}{k:Nat}{f:Addr}{fd:FuncData}{ps:List Str}{sp sp':Sp}(F:FnOk P w K mg base CX k f fd ps sp)
  (h:∀vs H Q E,sp' vs H Q E->sp vs H Q E):FnOk P w K mg base CX k f fd ps sp':=
 ⟨λvs H Q E q=>F.len vs H Q E (h _ _ _ _ q),λA outer s H args us vs Q E hr he hb hv hs=>F.run A outer s H args us vs Q E hr he hb hv (h _ _ _ _ hs)⟩
def Env0.make{P:Program}{w:World}{K:PySem.W.Frag}{mg:Str->Option Value}{base:Heap}{A:Around}{outer:List Env}{s:Shared}{H:Hp}(e:Env0 P w K mg base A outer s H)(C:Addr)(us:List Value)(kw:List (Str×Value)):
  Env0 P w K mg base (A.under (.builtin "type.__call__" ⟨.ref C::us,kw⟩)) outer s H:=⟨by first | exact e.frames | (simpa[Around.under,Code.envs,Code.isFrame,pushEnvs] using e.frames),e.mod,e.bs,e.bsz,e.funs,e.frf,e.hok,e.bare⟩
section
variable{X:Cx}{Zo:List (Addr×Obj)}{σ:St}{H:Hp}{s s':Shared}
def Inv.env0(I:Inv X Zo σ H s):Env0 X.prog X.w X.K X.mg X.base X.A X.stack s H:=
 ⟨I.ok.frames,I.ok.mod,I.bs,Vp I.ok.bsz I.sz,I.stack,I.stkFree,I.hok,I.bare⟩
def Inv.after(I:Inv X Zo σ H s)(h:CE X.stack X.prog X.w H s Q u s'):EP X Zo σ Q u s':=by obtain⟨v,H',os,bare,un,hok,r,q⟩:=h;obtain⟨hh,g,d,t,os'⟩:=s';obtain rfl:os'=s.os:=os;exact⟨v,H',I.call (h':=hh) (g':=g) (d':=d) (t':=t) (ch:=[]) un hok bare (λb z=>absurd z (by simp)),r,q⟩
end
def tCall(sp:Sp)(dvs:List V)(E:XK)(t:TA):TE:=λσ H Q=>t σ H λvs H1=>sp (vs++dvs) H1 Q E
def tMeth(C:Addr)(m:Str)(sp:Sp)(dvs:List V)(E:XK)(ta:TE)(t:TA):TE:=λσ H Q=>ta σ H λx H1=>∃a dx fs,x=.ref a/\H1 a=some (.ins C dx fs)/\fs.lookup m=none /\
 t σ H1 λvs H2=>sp (x::(vs++dvs)) H2 Q E
def tMake(C:Addr)(sp:Sp)(dvs:List V)(E:XK)(t:TA):TE:=λσ H Q=>t σ H λvs H1=>∀x dx,H1 x=none->H1 dx=none->dx≠x->
 sp (.ref x::(vs++dvs)) (upd (upd H1 dx (.own x)) x (.ins C dx [])) (λv H2=>v=.non/\Q (.ref x) H2) E
def Binds(K:PySem.W.Frag)(fd:FuncData)(ps:List Str)(ds:List Value):Prop:=
 ∀(s:Shared) (us:List Value),K.In s.heap->(us++ds).length=ps.length->BindsTo s fd ⟨us,[]⟩ (ps.zip (us++ds))
def Binds.all{K:PySem.W.Frag}{fd:FuncData}{ps:List Str}(h:∀us:List Value,us.length=ps.length->bindArgs fd ⟨us,[]⟩=pure (ps.zip us)):Binds K fd ps []:=λs us z hl=>by
 rw[W7]at hl ⊢
 exact .of_eq (h us hl)
def Passes(CX:CXT)(X:Cx)(E:XK):Prop:=∀(Zo:List (Addr×Obj)) (σ:St) (H:Hp) (s:Shared) (e:Value) (s':Shared),Inv X Zo σ H s->CX X.stack H s E e s'->X.xe e s'
section
variable{X:Cx}{CX:CXT}{k:Nat}{f C:Addr}{fd:FuncData}{ps:List Str}{sp:Sp}{dvs:List V}{ds:List Value}{E:XK}{x m:Str}{p pos apos:Pos}{e o:Expr}{es:List Expr}{ta:TE}{t:TA}
def run_fn(F:FnOk X.prog X.w X.K X.mg X.base CX k f fd ps sp)(hr:Room k X.A)(hb:Binds X.K fd ps ds)(hd:Vals dvs ds)(hx:Passes CX X E)
  (I:Inv X Zo σ H s) (r:Vals vs us) (h:sp (vs++dvs) H Q E):wpAny (model X.prog X.w) X.A (call (.ref f) us) (EP X Zo σ Q) X.xe s:=by
 have r2:Vals (vs++dvs) (us++ds):=r.append hd;have hl:(us++ds).length=ps.length:=by rw[<-r2.length];exact F.len _ _ _ _ h
 refine wpAny_call (Y6 (F.run X.A X.stack s H ⟨us,[]⟩ (us++ds) (vs++dvs) Q E hr I.env0 (hb s us I.kIn hl) r2 h) λr s' hq=>?_)
 cases r with
 |error e=>exact hx Zo σ H s e s' I hq
 |ok fl=>
   cases fl with
   |ret u=>exact I.after hq
   |next=>exact False.elim hq
   |brk=>exact False.elim hq
   |cont=>exact False.elim hq
def pe_call(F:FnOk X.prog X.w X.K X.mg X.base CX k f fd ps sp)(hr:Room k X.A)(hg:Gl X x)(hm:X.mg x=some (.ref f))(hk:PySem.W.keepIn X.K (.ref f)=true)(hb:Binds X.K fd ps ds)(hd:Vals dvs ds)(hx:Passes CX X E)
  (ha:PA X (e::es) t) (hdb:(x==("__debug__":Str))=false:=by decide) (he:starEach (e::es) X.env=(false,eval e X.env)::starEach es X.env:=by rfl) (hpl:(backTo pos (starEach es X.env)).any (·.1)=false:=by rfl) :
  PE X (.Call (.Name x p) (e::es) [] pos) (tCall sp dvs E t):=by
 intro Zo s σ H Q I h;refine Yq (ld_glob I hg hm ?_ hdb);refine PySem.W.callWith_K (h₀:=X.base) I.ok.mod.kin hk (thn (ha pos Zo s σ H _ I h) λus s1 ⟨vs,H1,I1,r,q⟩=>⟨I1.kIn,?_⟩) he hpl
 exact run_fn F hr hb hd hx I1 r q
def pe_meth(he:PE X o ta)(c:Cls X.K C)(hm:Meth X.K C m f)(F:FnOk X.prog X.w X.K X.mg X.base CX k f fd ps sp)(hr:Room k X.A)(hb:Binds X.K fd ps ds)(hd:Vals dvs ds)(hx:Passes CX X E)(ha:PA X (e::es) t)
  (hst:starEach (e::es) X.env=(false,eval e X.env)::starEach es X.env:=by rfl) (hpl:(backTo pos (starEach es X.env)).any (·.1)=false:=by rfl)
  (ht:eval (.Call (.Attribute o m apos) (e::es) [] pos) X.env=(do
    let ov <-eval o X.env
    standAt apos.atName
    let (f,first) <-holding [ov] (getMethod ov m pl)
    callWith pos f first (backTo pos (starEach (e::es) X.env)) (backToKw pos (keywordEach [] X.env))):=by rfl) :
  PE X (.Call (.Attribute o m apos) (e::es) [] pos) (tMeth C m sp dvs E ta t):=by
 intro Zo s σ H Q I h;refine PySem.W.methodCall_KW (pl:=pl) (thn (he Zo s σ H _ I h) λu s1 ⟨x,H1,I1,rx,a,dx,fs,ex,ea,l,q⟩=>?_) ht
 subst ex;obtain rfl:u=Value.ref a:=rx;refine getmeth_ok I1 ea c hm l ?_;refine PySem.W.callWith_K (first:=[.ref a]) (h₀:=X.base) I.ok.mod.kin hm.kp (thn (ha pos Zo s1 σ H1 _ I1 q) λus s2 ⟨vs,H2,I2,r,q2⟩=>⟨I2.kIn,?_⟩) hst hpl
 exact run_fn (us:=.ref a::us) (vs:=.ref a::vs) F hr hb hd hx I2 (.cons rfl r) q2
structure Mk(K:PySem.W.Frag)(C f:Addr):Prop where
 makes:PySem.W.makesIn K C=true
 init:PySem.W.findIn K (.ref C) "__init__"=some (some (.ref f))
 fn:PySem.W.isFn K (.ref f)=true
 kp:PySem.W.keepIn K (.ref C)=true
def run_make(M:Mk X.K C f)(F:FnOk X.prog X.w X.K X.mg X.base CX k f fd ps sp)(hr:Room (k + 1) X.A)(hb:Binds X.K fd ps ds)(hd:Vals dvs ds)
  (hx:Passes CX X E) (I:Inv X Zo σ H s) (r:Vals vs us)
  (h:∀x dx,H x=none->H dx=none->dx≠x->sp (.ref x::(vs++dvs)) (upd (upd H dx (.own x)) x (.ins C dx [])) (λv H2=>v=.non/\Q (.ref x) H2) E) :
  wpAny (model X.prog X.w) X.A (call (.ref C) us) (EP X Zo σ Q) X.xe s:=by
 have hq:=h (s.heap.objs.size+1) s.heap.objs.size (I.hok.fresh (Nat.le_succ _)) (I.hok.fresh (U0 _)) (Vi (Wv _));have I2:=Inv.made (C:=C) I;have r2:Vals (V.ref (s.heap.objs.size+1)::(vs++dvs)) (Value.ref (s.heap.objs.size+1)::(us++ds)):=.cons rfl (r.append hd);have hl:(Value.ref (s.heap.objs.size+1)::us++ds).length=ps.length:=by have e:=r2.length;rw[F.len _ _ _ _ hq]at e;exact e.symm
 refine wpAny_call (make_map (f:=f) I.kIn M.makes M.init (Zb.mp M.fn) (Y6 (F.run _ X.stack _ _ ⟨Value.ref (s.heap.objs.size+1)::us,[]⟩ (Value.ref (s.heap.objs.size+1)::(us++ds)) _ _ E (hr.make C us [])
  (I2.env0.make C us []) (hb _ (Value.ref (s.heap.objs.size+1)::us) I2.kIn hl) r2 hq) λr s' hq'=>?_))
 cases r with
 |error e=>exact hx Zo σ _ _ e s' I2 hq'
 | ok fl=>
   cases fl with
   |ret u=>obtain⟨v,H',I3,rv,ev,q3⟩:=I2.after hq';subst ev;exact⟨rv,⟨V.ref (s.heap.objs.size+1),H',I3,rfl,q3⟩⟩
   |next=>exact False.elim hq'
   |brk=>exact False.elim hq'
   |cont=>exact False.elim hq'
def pe_make(M:Mk X.K C f)(F:FnOk X.prog X.w X.K X.mg X.base CX k f fd ps sp)(hr:Room (k+1) X.A)(hg:Gl X x)(hm:X.mg x=some (.ref C))(hb:Binds X.K fd ps ds)(hd:Vals dvs ds)(hx:Passes CX X E)
  (ha:PA X (e::es) t) (hdb:(x==("__debug__":Str))=false:=by decide) (he:starEach (e::es) X.env=(false,eval e X.env)::starEach es X.env:=by rfl) (hpl:(backTo pos (starEach es X.env)).any (·.1)=false:=by rfl) :
  PE X (.Call (.Name x p) (e::es) [] pos) (tMake C sp dvs E t):=by
 intro Zo s σ H Q I h;refine Yq (ld_glob I hg hm ?_ hdb);refine PySem.W.callWith_K (h₀:=X.base) I.ok.mod.kin M.kp (thn (ha pos Zo s σ H _ I h) λus s1 ⟨vs,H1,I1,r,q⟩=>⟨I1.kIn,?_⟩) he hpl
 exact run_make M F hr hb hd hx I1 r q
end
structure FnScope(N P:List Str)(sc:Scope):Prop where
 kind:sc.kind=.function
 co:sc.isCoroutine=false
 gen:sc.isGenerator=false
 nd:N.Nodup
 pre:N.take P.length=P
 par:∀x∈P,sc.names.lookup x=some .local\/sc.names.lookup x=some .cell
 nofree:∀y∈sc.names,y.2≠.free
theorem bindL_out{kindOf:Str->Option NameKind}:∀ {binds:List (Str×Value)}{m:Str->Option Value},(∀ v,(x,v)∉binds)->bindL kindOf binds m x=m x
 |[],_,_=>rfl
 | (n,v)::r,m,h=>by
   unfold bindL;rw[bindL_out λw hw=>h w (Vq _ hw)]
   split
   ·have:x≠n:=by rintro rfl;exact h v Vm
    simp[this]
   ·rfl
theorem bindC_out{kindOf:Str->Option NameKind}:∀ {binds:List (Str×Value)}{m:Str->Option Value},(∀ v,(x,v)∉binds)->bindC kindOf binds m x=m x
 |[],_,_=>rfl
 | (n,v)::r,m,h=>by
   unfold bindC;rw[bindC_out λw hw=>h w (Vq _ hw)]
   split
   ·rfl
   ·have:x≠n:=by rintro rfl;exact h v Vm
    simp[this]
theorem bindL_get{kindOf:Str->Option NameKind}:∀ {P:List Str}{vs:List Value}{i:Nat}{m:Str->Option Value},P.Nodup->P[i]?=some x->vs[i]?=some v->kindOf x=some .local->
  bindL kindOf (P.zip vs) m x=some v
 |[],_,_,_,_,h,_,_=>by simp at h
 |_::_,[],_,_,_,_,h,_=>by simp at h
 |p::P,w::vs,0,m,nd,h1,h2,hk=>by
   simp at h1 h2;subst h1;subst h2;show bindL kindOf ((p,w)::P.zip vs) m p=_;unfold bindL;rw[bindL_out λv hv=>(Y0.mp nd).1 (Xl hv).1,U5 hk]
   simp
 |p::P,w::vs,i+1,m,nd,h1,h2,hk=>by show bindL kindOf ((p,w)::P.zip vs) m x=_;unfold bindL;exact bindL_get (i:=i) (Y0.mp nd).2 (by simpa using h1) (by simpa using h2) hk
theorem bindC_get{kindOf:Str->Option NameKind}:∀ {P:List Str}{vs:List Value}{i:Nat}{m:Str->Option Value},P.Nodup->P[i]?=some x->vs[i]?=some v->kindOf x≠some .local->
  bindC kindOf (P.zip vs) m x=some v
 |[],_,_,_,_,h,_,_=>by simp at h
 |_::_,[],_,_,_,_,h,_=>by simp at h
 |p::P,w::vs,0,m,nd,h1,h2,hk=>by
   simp at h1 h2;subst h1;subst h2;show bindC kindOf ((p,w)::P.zip vs) m p=_;unfold bindC;rw[bindC_out λv hv=>(Y0.mp nd).1 (Xl hv).1,U8 hk]
   simp
 |p::P,w::vs,i+1,m,nd,h1,h2,hk=>by show bindC kindOf ((p,w)::P.zip vs) m x=_;unfold bindC;exact bindC_get (i:=i) (Y0.mp nd).2 (by simpa using h1) (by simpa using h2) hk
def start(N:List Str)(vs:List V):St:=vs.map some++List.replicate (N.length-vs.length) none
def cxOf(CX:CXT)(P:Program)(w:World)(K:PySem.W.Frag)(mg:Str->Option Value)(base:Heap)(N:List Str)(qual:Str)(scope:Scope)(f:Addr)(cd:Value)(A:Around)(outer:List Env)(s:Shared)(H:Hp)(E:XK):Cx where
 prog:=P
 w:=w
 K:=K
 mg:=mg
 base:=base
 A:=A.deeper (envOfC qual scope s.heap.objs.size f cd)
 N:=N
 s₀:=s
 H₀:=H
 env:=envOfC qual scope s.heap.objs.size f cd
 outer:=outer
 stack:=envOfC qual scope s.heap.objs.size f cd::outer
 ex:=[]
 calm:=true
 fn:=λz=>true
 pn:=[]
 xe:=λe s'=>wpAny (model P w) (A.deeper (envOfC qual scope s.heap.objs.size f cd)) (leaving (envOfC qual scope s.heap.objs.size f cd) e) (λz s''=>CX outer H s E e s'') (λe' s''=>CX outer H s E e' s'') s'
def cell_has{sc:Scope}{n:Nat}{x:Str}(h:sc.names.lookup x=some .cell):∃c,(cellsFrom n sc.names []).lookup x=some c:=by have q:=PySem.W.cellsFrom_some sc.names n [] (.inl h);exact Xu.mp q
def inv_start{CX:CXT}{P:Program}{w:World}{K:PySem.W.Frag}{mg:Str->Option Value}{base:Heap}{N ps:List Str}{qual:Str}{scope:Scope}{f:Addr}{cd:Value}{A:Around}{outer:List Env}{s s1:Shared}{H:Hp}{E:XK}{us:List Value}{vs:List V}
  (S:FnScope N ps scope) (hd:A.handled=none) (e0:Env0 P w K mg base A outer s H) (hl:vs.length=ps.length) (r:Vals vs us)
  (x:InCallC s s.heap.objs.size (bindL (envOfC qual scope s.heap.objs.size f cd).kindOf (ps.zip us) λt=>none) (cellsFrom (s.heap.objs.size+1) scope.names []) (bindC (envOfC qual scope s.heap.objs.size f cd).kindOf (ps.zip us) λt=>none) s1) :
  Inv (cxOf CX P w K mg base N qual scope f cd A outer s H E) [] (start N vs) H s1:=by
 have hpl:ps.length<=N.length:=by have:=congrArg List.length S.pre;rw[W3]at this;lia
 obtain⟨h1,tk,rfl,hk⟩:=x.done;have noA:∀b:Addr,b∉(cxOf CX P w K mg base N qual scope f cd A outer s H E).ex:=λb z=>absurd (show b∈([]:List Addr) from z) (by simp)
 refine⟨⟨e0.mod,S.kind,rfl,rfl,U0 _,λy z c h1 h2=>?_,λy hy=>?_,λy c t h=>?_,λt=>hd,Around.frames_deeper e0.frames,.inr ⟨rfl,rfl⟩,λb z=>absurd z (noA b),e0.bs,e0.bsz,λb t t=>noA b,λb z=>absurd z (noA b),e0.funs,e0.frf⟩,
  rfl,e0.bare,Un.kept hk,⟨_,x.toInCall.ns,λi y v h1 h2 h3=>?_⟩,λy c h=>⟨_,x.cell y c h⟩,e0.hok.fresh (U0 _),λy c h=>?_,λp hp=>absurd (show p∈([]:List (Addr×Obj)) from hp) (by simp),e0.hok.kept hk,?_⟩
 ·exact name_of_addr x.apart (Wc h1) (Wc h2)
 ·have hy:scope.names.lookup y=some .cell\/scope.names.lookup y=some .free:=hy;rcases hy with hy | hy
  ·exact cell_has hy
  ·exact absurd rfl (S.nofree _ (Wc hy))
 ·exact Xj (x.above y c (Wc h))
 ·have hi:i<vs.length:=by
   unfold start at h2;by_cases hi:i<vs.length
   ·exact hi
   ·rw[VL (by simpa using hi)]at h2
    rw[Xd]at h2;split at h2<;>cases h2
  have ha:vs[i]?=some v:=by
   unfold start at h2;rw[Vb (by simpa using hi),Vl]at h2
   cases e:vs[i]? with
   |none=>rw[e]at h2;cases h2
   |some a=>rw[e]at h2;cases h2;rfl
  obtain⟨u,hu,rv⟩:=r.get ha;have hp:ps[i]?=some y:=by rw[<-S.pre,List.getElem?_take_of_lt (by lia)];exact h1
  have ndP:ps.Nodup:=by rw[<-S.pre];exact S.nd.sublist (List.take_sublist _ _)
  refine⟨u,rv,?_⟩;rcases S.par y (Vo hp) with k | k
  ·exact .inl ⟨k,bindL_get ndP hp hu k⟩
  ·obtain⟨c,e⟩:=cell_has (n:=s.heap.objs.size+1) k;refine .inr ⟨.inl k,c,e,?_⟩;have q:=x.cell y c e;rw[bindC_get ndP hp hu (by show scope.names.lookup y≠_;rw[k];decide)]at q
   exact q
 ·exact e0.hok.fresh (Xj (x.above y c (Wc h)))
 ·unfold start;show _=N.length;rw[Vk,U6,Vw]
  lia
def fn_of{CX:CXT}{P:Program}{w:World}{K:PySem.W.Frag}{mg:Str->Option Value}{base:Heap}{k:Nat}{f:Addr}{name qual:Str}{params:Arguments}{body:List Stmt}{scope:Scope}{dV kV doc pm cdv ct oc:Value}{an od:Option Addr}
  {osl:Array (Option Value)}{N ps:List Str}{sp:Sp} (lk:K.lookup f=some ⟨oc,od,.func (PySem.W.fnOf name qual params body scope dV kV doc pm an cdv ct),osl⟩) (hcd:PySem.W.codeIn K cdv qual=true) (S:FnScope N ps scope)
  (len:∀vs H Q E,sp vs H Q E->vs.length=ps.length)
  (hbody:∀(A:Around) (outer:List Env) (s:Shared) (H:Hp) (vs:List V) (Q:VK) (E:XK),Room k (A.deeper (envOfC qual scope s.heap.objs.size f cdv))->sp vs H Q E->
    ∃t,PSs (cxOf CX P w K mg base N qual scope f cdv A outer s H E) body t/\t { nx:=λz H'=>Q .non H',rt:=Q } (start N vs) H) :
  FnOk P w K mg base CX (k+1) f (PySem.W.fnOf name qual params body scope dV kV doc pm an cdv ct) ps sp:=by
 refine⟨len,λA outer s H args us vs Q E hr e0 hb r hsp=>?_⟩
 have hl:=len _ _ _ _ hsp;have KX:K.In s.heap:=e0.mod.kin.keeps λb o e=>(e0.bs b o e).1
 have lim:s.heap.NoLimit:=e0.mod.nolimit.keeps λb o e=>(e0.bs b o e).1
 have hkind:∀y∈ps.zip us,scope.names.lookup y.1=some .local\/(scope.names.lookup y.1=some .cell/\((cellsFrom (s.heap.objs.size+1) scope.names []).lookup y.1).isSome=true):=λ⟨n,v⟩ hy=>by
  rcases S.par n (Xl hy).1 with q | q
  ·exact .inl q
  ·exact .inr ⟨q,PySem.W.cellsFrom_some _ _ _ (.inl q)⟩
 refine codeAny_call_function hr.depth (KX _ _ lk) rfl S.co S.gen rfl (PySem.W.codeRec_of KX hcd) (hb _ _ _ _ ?_);refine wpAny_newFunctionEnv_cells S.kind hkind λenv he s1 x=>?_
 subst he;refine⟨lim.keeps x.toInCall.keep,codeAny_func ?_⟩;obtain⟨t,ht,hq⟩:=hbody A outer s H vs Q E (hr.deeper _) hsp;have I:Inv (cxOf CX P w K mg base N qual scope f cdv A outer s H E) [] (start N vs) H s1:=inv_start S hr.hd e0 hl r x;refine Vn (ht [] s1 (start N vs) H _ I hq) (λfl s' hs=>?_) λe s' hs=>hs
 have fin:∀{σ':St}{H':Hp}{v:V}{u:Value},Inv (cxOf CX P w K mg base N qual scope f cdv A outer s H E) [] σ' H' s'->RelV v u->Q v H'->CE outer P w H s Q u s':=
  λ{σ' H' v u} J rv q=>⟨v,H',J.os,J.bare,J.base,J.hok,rv,q⟩
 cases fl with
 |ret u=>obtain⟨v,σ',H',J,rv,q⟩:=hs;exact fin J rv q
 |next=>obtain⟨σ',H',J,q⟩:=hs;exact fin (v:=V.non) (u:=Value.none) J rfl q
 |brk=>obtain⟨_,_,_,q⟩:=hs;exact False.elim q
 |cont=>obtain⟨_,_,_,q⟩:=hs;exact False.elim q
open PySem PySem.Spec PyProof.Rows
section
variable{X:Cx}{x:Str}{p pos:Pos}{e:Expr}{es:List Expr}{t:TA}{id T:String}{r:List V->Hp->VK->Prop}
def tCB(r:List V->Hp->VK->Prop)(t:TA):TE:=λσ H Q=>t σ H λvs H1=>r vs H1 Q
def pe_callB(hc:CallR X (.builtin id) r)(hg:Gl X x)(hm:X.mg x=none)(hv:bootBuiltins x=some (.builtin id))(ha:PA X (e::es) t)(hn:x≠"__name__":=by decide)(hdb:(x==("__debug__":Str))=false:=by decide)
  (he:starEach (e::es) X.env=(false,eval e X.env)::starEach es X.env:=by rfl) (hpl:(backTo pos (starEach es X.env)).any (·.1)=false:=by rfl):PE X (.Call (.Name x p) (e::es) [] pos) (tCB r t):=by
 intro Zo s σ H Q I h;refine Yq (ld_blt I hg hm hv ?_ hn hdb);exact PyProof.Rows.callWith_builtin1 (thn (ha pos Zo s σ H _ I h) λus s1 ⟨vs,H1,I1,r1,q1⟩=>hc Zo s1 σ H1 vs us Q I1 r1 q1) he hpl
def pe_callTy(hc:CallR X (.type T) r)(hg:Gl X x)(hm:X.mg x=none)(hv:bootBuiltins x=some (.type T))(ha:PA X (e::es) t)(hn:x≠"__name__":=by decide)(hdb:(x==("__debug__":Str))=false:=by decide)
  (he:starEach (e::es) X.env=(false,eval e X.env)::starEach es X.env:=by rfl) (hpl:(backTo pos (starEach es X.env)).any (·.1)=false:=by rfl):PE X (.Call (.Name x p) (e::es) [] pos) (tCB r t):=by
 intro Zo s σ H Q I h;refine Yq (ld_blt I hg hm hv ?_ hn hdb);exact Wi (thn (ha pos Zo s σ H _ I h) λus s1 ⟨vs,H1,I1,r1,q1⟩=>hc Zo s1 σ H1 vs us Q I1 r1 q1) he hpl
end
end L2
namespace HT
open PySem PyProof.Rows
section
open PySem.SeqAt
open PySem.AutoSeq1 (wpAny_loadPart')
open PySem.MeetsSeq PySem.MeetsSeq2 PySem.MeetsSeq3
end
section
variable{prog:Program}{w:World}{A:Around}{E:Value->Shared->Prop}{s:Shared}
def cat_tup(ht:IsTup s.heap t vs.toArray)(hb:IsTup s.heap b ws.toArray)(hv:vs≠[])
  (h1:ws=[]->Q (.ref t) s) (h2:ws≠[]->Q (.ref s.heap.objs.size) { s with heap:=s.heap.push { cls:=.type "tuple",data:=.seq (vs++ws).toArray } })
  (hsz:vs.length+ws.length<=sizeLine):wpAny (model prog w) A (binaryOp .Add (.ref t) (.ref b)) Q E s:=by
 obtain⟨⟨cls,dd,data,sl⟩,ho,hc,n,hd⟩:=id ht;obtain⟨⟨cls2,dd2,data2,sl2⟩,ho2,hc2,n2,hd2⟩:=id hb;simp only at hc hd hc2 hd2;subst hc hd hc2 hd2;have e:vs.toArray++ws.toArray=(vs++ws).toArray:=by simp
 by_cases hw:ws=[]
 ·exact concat_meets ⟨_,ho,rfl⟩ ⟨_,ho2,rfl⟩ noFill_tuple_add seq_tuple_add YL YB (Yp _ _)
   (tuple_addW1 t b vs.toArray ws.toArray n n2 dd dd2 sl sl2 (by simpa using hv) (by simp[hw])) ⟨ho,ho2,h1 hw⟩
 ·refine concat_meets ⟨_,ho,rfl⟩ ⟨_,ho2,rfl⟩ noFill_tuple_add seq_tuple_add YL YB (Yp _ _)
   (tuple_addW2 t b vs.toArray ws.toArray n n2 dd dd2 sl sl2 (by simpa using hv) (by simpa using hw) (by rw[Vg,Vg];exact hsz)) ⟨ho,ho2,?_⟩
  rw[e];exact h2 hw
def sIx(n d:Nat):Option Int->Nat
 |none=>d
 |some v=>if v<0 then (v+(n:Int)).toNat else min v.toNat n
def sIx_none(n d:Nat):sIx n d none=d:=rfl
def sIx_nat(n d k:Nat):sIx n d (some (k:Int))=min k n:=by
 show (if (k:Int)<0 then ((k:Int)+(n:Int)).toNat else min (k:Int).toNat n)=min k n
 rw[U8 (by lia),We]
def sIx_le(n d:Nat)(hd:d<=n)(o:Option Int):sIx n d o<=n:=by
 cases o with
 |none=>exact hd
 |some v=>
   show (if v<0 then (v+(n:Int)).toNat else min v.toNat n)<=n
   by_cases hv:v<0
   ·rw[U5 hv];lia
   ·rw[U8 hv];exact Nat.min_le_right _ _
def clip_eq(v:Int)(n d:Nat):(if v<0 then max (v+(n:Int)) 0 else min v (n:Int))=((sIx n d (some v):Nat):Int):=by
 show (if v<0 then max (v+(n:Int)) 0 else min v (n:Int))=(((if v<0 then (v+(n:Int)).toNat else min v.toNat n):Nat):Int)
 by_cases hv:v<0
 ·simp only[if_pos hv];lia
 ·simp only[if_neg hv];lia
def adjust_gen(lo hi:Option Int)(n:Nat):Builtin.Slice.sliceAdjust lo hi 1 (n:Int)=(((sIx n 0 lo:Nat):Int),((sIx n n hi:Nat):Int)):=by
 have h1:¬ ((1:Int)<0):=by lia
 unfold Builtin.Slice.sliceAdjust;simp only[h1,if_false];refine Prod.ext ?_ ?_
 ·cases lo with
  |none=>rfl
  |some v=>exact clip_eq v n 0
 ·cases hi with
  |none=>rfl
  |some v=>exact clip_eq v n n
def places_gen(i j:Nat):Builtin.Slice.slicePlaces (i:Int) (j:Int) 1=j-i:=by
 unfold Builtin.Slice.slicePlaces;have h1:(1:Int) > 0:=by lia
 simp only[h1,if_true,Int.ediv_one];split<;>lia
def slicePart_(p:IsPart v o)(h:Q o s):wpAny (model prog w) A (Builtin.Slice.slicePartIndex v) Q E s:=by
 cases p with
 |none=>exact slicePart_none h
 |int i t=>exact slicePart_int h
def sliceApplied_gen{lo hi:Option Int}{n:Nat}{Q:Int×Int×Nat->Shared->Prop}(hs:s.heap.IsSliceOf sl vl vu .none)(pl:IsPart vl lo)(pu:IsPart vu hi)
  (h:Q (((sIx n 0 lo:Nat):Int),1,sIx n n hi-sIx n 0 lo) s):wpAny (model prog w) A (Builtin.Slice.sliceApplied (.ref sl) (pure (n:Int))) Q E s:=by
 obtain⟨os,hos,hcs,hds⟩:=id hs;unfold Builtin.Slice.sliceApplied Builtin.Slice.sliceFields;refine UL (UL (VG hos hds (x:=vl) rfl (UL (VG hos hds (x:=vu) rfl (UL (VG hos hds (x:=.none) rfl (UV ?_)))))));refine UL (slicePart_none ?_);show wpAny _ _ (if ((1:Int)==0)=true then _ else _) _ _ s
 rw[U8 (by decide)]
 refine UL (slicePart_ pl (UL (slicePart_ pu (UL (UV ?_)))));show wpAny _ _ (match Builtin.Slice.sliceAdjust lo hi 1 (n:Int) with | (lo,hi)=>pure (lo,(1:Int),Builtin.Slice.slicePlaces lo hi 1)) _ _ s
 rw[adjust_gen lo hi n];show wpAny _ _ (pure (((sIx n 0 lo:Nat):Int),(1:Int),Builtin.Slice.slicePlaces ((sIx n 0 lo:Nat):Int) ((sIx n n hi:Nat):Int) 1)) _ _ s;rw[places_gen];exact UV h
def pick_gen(xs:Array Value)(i k:Nat):((List.range k).filterMap λ(m:Nat)=>xs[((i:Int)+(m:Int)*1).toNat]?).toArray=((xs.toList.drop i).take k).toArray:=by
 have e:(λ(m:Nat)=>xs[((i:Int)+(m:Int)*1).toNat]?)=λm=>xs[i+m]?:=by
  funext m;have:((i:Int)+(m:Int)*1).toNat=i+m:=by lia
  rw[this]
 rw[e];have:=pick_run xs i k;rw[List.filterMap_map]at this;have e2:((λx=>xs[x]?) ∘ λx=>i+x)=λm=>xs[i+m]?:=rfl
 rw[e2]at this;rw[this]
def getItem_tuple_cut{items:Array Value}{lo hi:Option Int}{Q:Value->Shared->Prop}(ht:IsTup s.heap t items)(hs:s.heap.IsSliceOf sl vl vu .none)(pl:IsPart vl lo)(pu:IsPart vu hi)
  (hw:¬ (sIx items.size 0 lo=0/\sIx items.size items.size hi=items.size))
  (h:Q (.ref s.heap.objs.size) { s with heap:=s.heap.push { cls:=.type "tuple",data:=.seq ((items.toList.drop (sIx items.size 0 lo)).take (sIx items.size items.size hi-sIx items.size 0 lo)).toArray } })
  (hsz:items.size<=sizeLine):wpAny (model prog w) A (getItem (.ref t) (.ref sl)) Q E s:=by
 have htake:sizeOk (.seq ((items.toList.drop (sIx items.size 0 lo)).take (sIx items.size items.size hi-sIx items.size 0 lo)).toArray):=by
  show ((items.toList.drop (sIx items.size 0 lo)).take (sIx items.size items.size hi-sIx items.size 0 lo)).toArray.size<=sizeLine;rw[Vg,W3,Wz,Xe]
  lia
 have hj:sIx items.size items.size hi<=items.size:=sIx_le _ _ (U0 _) hi;obtain⟨os,hos,hcs,hds⟩:=id hs;have hTs:s.TypeIs (.ref sl) "slice":=⟨os,hos,hcs⟩;unfold getItem
 try with_reducible refine VR ?_
 first | refine UL (UV ?_) | skip
 refine UL (wpAny_sequenceKey ht.typeIs (by decide) ?_)
 refine UL (VH (name:=Str.ofString "__getitem__") ht.typeIs Wl
  (VD Wl ht.typeIs entry_tuple_getitem ?_ (args_tuple_getitem _ _)))
 show wpAny _ _ (Builtin.Tuple.tupleItemsOf (.ref t)>>=_) _ _ s;refine UL (tupleItemsOf_ ht ?_);refine UL (XS hTs ?_);rw[U5 (by decide)]
 refine UL (sliceApplied_gen hs pl pu ?_);have hno:¬ ((((sIx items.size 0 lo:Nat):Int)==0&&(1:Int)==1&&(sIx items.size items.size hi-sIx items.size 0 lo)==items.size)=true):=by intro q;rw[WD,WD]at q;have q1:((sIx items.size 0 lo:Nat):Int)=0:=eq_of_beq q.1.1;have q2:sIx items.size items.size hi-sIx items.size 0 lo=items.size:=eq_of_beq q.2;exact hw ⟨by lia,by lia⟩
 show wpAny _ _ (if (((sIx items.size 0 lo:Nat):Int)==0&&(1:Int)==1&&(sIx items.size items.size hi-sIx items.size 0 lo)==items.size)=true then _ else _) _ _ s
 rw[U8 hno,pick_gen]
 first
  |exact UL (m:=Builtin.Tuple.tupleExact _) (Vr (UV ⟨_,rfl,UV h⟩) htake)
  |exact UL (m:=Builtin.Tuple.tupleExact _) (Vr (UL (UV (UV ⟨_,rfl,UV h⟩))) htake)
  |exact UL (UL (m:=Builtin.Tuple.tupleExact _) (Vr (UV (UV ⟨_,rfl,UV h⟩)) htake))
  |exact UL (UL (m:=Builtin.Tuple.tupleExact _) (Vr (UV ⟨_,rfl,UV h⟩) htake))
end
end HT
namespace L2
open PySem PySem.Spec PyProof.Rows
abbrev TO:=St->Hp->(Option Int->Hp->Prop)->Prop
def PO(X:Cx)(e:Option Expr)(t:TO):Prop:=
 ∀(Zo:List (Addr×Obj)) (s:Shared) (σ:St) (H:Hp) (Q:Option Int->Hp->Prop),Inv X Zo σ H s->t σ H Q->
   wpAny (model X.prog X.w) X.A (evalPart e X.env) (λu s'=>∃o H',Inv X Zo σ H' s'/\IsPart u o/\Q o H') X.xe s
def tNoPart:TO:=λz H Q=>Q none H
def tPart(t:TE):TO:=λσ H Q=>t σ H λx H1=>∃i,x=.int i/\Q (some i) H1
def intsAre_of:∀ {us:List Value},Vals (ns.map V.int) us->IntsAre us ns:=by
 induction ns with
 |nil=>intro us r;rw[Yo]at r;cases r;exact .nil
 | cons n ns ih=>
   intro us r;rw[Vt]at r;cases r with
   |cons r1 r2=>obtain⟨t,e⟩:=r1;subst e;exact .cons n t (ih r2)
section
variable{X:Cx}{e:Expr}{te:TE}{lo hi:Option Expr}{tl th:TO}{pos p2:Pos}
def po_none:PO X none tNoPart:=by intro Zo s σ H Q I h;rw[evalPart_none];exact UV ⟨none,H,I,.none,h⟩
def po_some(h:PE X e te):PO X (some e) (tPart te):=by
 intro Zo s σ H Q I hw;rw[evalPart_some];refine thn (h Zo s σ H _ I hw) λu s1 ⟨x,H1,I1,r1,q1⟩=>?_
 obtain⟨i,rfl,q⟩:=q1;obtain⟨t,rfl⟩:=r1;exact⟨some i,H1,I1,.int i t,q⟩
def SlR(X:Cx)(r:V->Option Int->Option Int->Hp->VK->Prop):Prop:=
 ∀(Zo:List (Addr×Obj)) (s:Shared) (σ:St) (H:Hp) (x:V) (v vl vu:Value) (lo hi:Option Int) (sl:Addr) (Q:VK),Inv X Zo σ H s->RelV x v->s.heap.IsSliceOf sl vl vu .none->IsPart vl lo->IsPart vu hi->r x lo hi H Q->
   ∃T id,typeLookup (.type T) "__getitem__"=pure (some (.builtin id))/\s.TypeIs v T/\wpAny (model X.prog X.w) X.A (getItem v (.ref sl)) (EP X Zo σ Q) X.xe s
def tSl(r:V->Option Int->Option Int->Hp->VK->Prop)(te:TE)(tl th:TO):TE:=λσ H Q=>te σ H λx H1=>tl σ H1 λl H2=>th σ H2 λu H3=>r x l u H3 Q
def pe_slice(hr:SlR X r)(he:PE X e te)(hl:PO X lo tl)(hu:PO X hi th):PE X (.Subscript e (.Slice lo hi none p2) pos) (tSl r te tl th):=by
 intro Zo s σ H Q I h;refine Subscript_ (thn (he Zo s σ H _ I h) λv s1 ⟨x,H1,I1,r1,q1⟩=>?_)
 refine wpAny_Slice (thn (hl Zo s1 σ H1 _ I1 q1) λvl s2 ⟨l,H2,I2,pl,q2⟩=>thn (hu Zo s2 σ H2 _ I2 q2) λvu s3 ⟨u,H3,I3,pu,q3⟩=>?_)
 rw[evalPart_none];refine UV ?_;have I4:Inv X Zo σ H3 { s3 with heap:=s3.heap.push { cls:=.type "slice",data:=.fields #[vl,vu,.none] } }:=I3.kept (t':=s3.toks) λb ob q=>UT _ q
 obtain⟨T,id,hT,ht,hg⟩:=hr Zo { s3 with heap:=s3.heap.push { cls:=.type "slice",data:=.fields #[vl,vu,.none] } } σ H3 x v vl vu l u s3.heap.objs.size Q I4 r1 (Heap.IsSliceOf.new ..) pl pu q3
 show wpAny (model X.prog X.w) X.A (subscriptTail e (.Slice lo hi none p2) v (.ref s3.heap.objs.size)) (EP X Zo σ Q) X.xe { s3 with heap:=s3.heap.push { cls:=.type "slice",data:=.fields #[vl,vu,.none] } }
 exact tail_any (ops:=[.ref s3.heap.objs.size,v]) ht hT hg (by with_unfolding_all rfl)
def cutV(xs:List V)(lo hi:Option Int):List V:=(xs.drop (HT.sIx xs.length 0 lo)).take (HT.sIx xs.length xs.length hi-HT.sIx xs.length 0 lo)
def cutV_length(xs:List V)(lo hi:Option Int):(cutV xs lo hi).length<=xs.length:=by
 unfold cutV;rw[W3,Wz]
 lia
def rSlT(K:PySem.W.Frag):V->Option Int->Option Int->Hp->VK->Prop:=λx lo hi H Q=>∃a xs,x=.ref a/\SqT K H a xs /\
 ¬ (HT.sIx xs.length 0 lo=0/\HT.sIx xs.length xs.length hi=xs.length)/\∀p,H p=none->Q (.ref p) (upd H p (.tup (cutV xs lo hi)))
def sl_tup:SlR X (rSlT X.K):=by
 intro Zo s σ H x v vl vu lo hi sl Q I rx hs pl pu h;obtain⟨a,xs,rfl,hx,hw,q⟩:=h;cases rx;obtain⟨its,r,ht,hz⟩:=I.tuple hx;have hlen:its.toArray.size=xs.length:=by rw[Vg];exact r.length.symm
 refine⟨"tuple",_,PyProof.Rows.slot_tuple_getitem.lookup,ht.typeIs,?_⟩;refine HT.getItem_tuple_cut ht hs pl pu (by rw[hlen];exact hw) ?_ (by rw[hlen];exact hz)
 rw[hlen];refine⟨.ref s.heap.objs.size,_,I.laid (t':=s.toks) (o:=.tup (cutV xs lo hi)) (λb ob q=>UT _ q) (U0 _) ?_,rfl,q _ (I.hok.fresh (U0 _))⟩
 exact⟨Vp (cutV_length xs lo hi) hz,_,(r.drop (HT.sIx xs.length 0 lo)).take (HT.sIx xs.length xs.length hi-HT.sIx xs.length 0 lo),Yn _ _⟩
def rCatT(K:PySem.W.Frag):R2:=λx y H Q=>∃a b xs ys,x=.ref a/\y=.ref b/\SqT K H a xs/\SqT K H b ys/\xs≠[]/\xs.length+ys.length<=sizeLine /\
 (ys=[]->Q (.ref a) H)/\(ys≠[]->∀p,H p=none->Q (.ref p) (upd H p (.tup (xs++ys))))
def Vals.nil_iff(r:Vals xs us):us=[] ↔ xs=[]:=by
 cases r with
 |nil=>simp
 |cons _ _=>simp
def op_catT:OpR X (binaryOp .Add) (rCatT X.K):=by
 intro Zo s σ H x y v u Q I rx ry h;obtain⟨a,b,xs,ys,rfl,rfl,ha,hb,hx,hz,q1,q2⟩:=h;cases rx;cases ry;obtain⟨its,r1,p1,_⟩:=I.tuple ha;obtain⟨its2,r2,p2,_⟩:=I.tuple hb;refine HT.cat_tup p1 p2 (λz=>hx (r1.nil_iff.mp z)) (λz=>⟨.ref a,H,I,rfl,q1 (r2.nil_iff.mp z)⟩) (λz=>?_) (by rw[<-r1.length,<-r2.length];exact hz)
 refine⟨.ref s.heap.objs.size,_,I.laid (t':=s.toks) (o:=.tup (xs++ys)) (λb ob q=>UT _ q) (U0 _) ?_,rfl,q2 (λw=>z (r2.nil_iff.mpr w)) _ (I.hok.fresh (U0 _))⟩
 exact⟨by rw[Vk];exact hz,_,r1.append r2,Yn _ _⟩
end
open PySem PySem.Spec PyProof.Rows
def ixN(n:Nat)(i:Int):Option Nat:=if 0<=i then (if i<n then some i.toNat else none) else if -(n:Int)<=i then some (i+n).toNat else none
def atI{α:Type}(xs:List α)(i:Int):Option α:=(ixN xs.length i).bind λj=>xs[j]?
def ixN_seq(h:ixN n i=some j):seqIndex? i n=some j/\j<n/\-(n:Int)<=i/\i<n:=by
 unfold ixN at h;by_cases h0:0<=i
 ·rw[U5 h0]at h;by_cases h1:i<n
  ·rw[U5 h1]at h;have e:i.toNat=j:=Vc h;exact⟨by rw[seqIndex_of h0 h1,e],by lia,by lia,h1⟩
  ·rw[U8 h1]at h;cases h
 ·rw[U8 h0]at h;by_cases h1:-(n:Int)<=i
  ·rw[U5 h1]at h;have e:(i+n).toNat=j:=Vc h;exact⟨by rw[seqIndex_neg (by lia) h1,e],by lia,h1,by lia⟩
  ·rw[U8 h1]at h;cases h
def atI_get(h:atI xs i=some v):∃ j,seqIndex? i xs.length=some j/\xs[j]?=some v/\j<xs.length/\-(xs.length:Int)<=i/\i<xs.length:=by
 unfold atI at h;cases e:ixN xs.length i with
 |none=>rw[e]at h;cases h
 |some j=>rw[e]at h;obtain⟨h1,h2,h3,h4⟩:=ixN_seq e;exact⟨j,h1,h,h2,h3,h4⟩
def PlainIx(b:Expr):Prop:=∀o i,subscripted b false o i=operate [o,i] (getItem o i)
def IxR(X:Cx)(r:R2):Prop:=
 ∀(value slice:Expr) (Zo:List (Addr×Obj)) (s:Shared) (σ:St) (H:Hp) (x y:V) (v u:Value) (Q:VK),Inv X Zo σ H s->RelV x v->RelV y u->r x y H Q->
   subscripted slice false v u=operate [v,u] (getItem v u)->wpAny (model X.prog X.w) X.A (subscriptTail value slice v u) (EP X Zo σ Q) X.xe s
def MtR(X:Cx)(id:String)(r:V->List V->Hp->VK->Prop):Prop:=
 ∀(Zo:List (Addr×Obj)) (s:Shared) (σ:St) (H:Hp) (x:V) (xs:List V) (v:Value) (us:List Value) (Q:VK),Inv X Zo σ H s->RelV x v->Vals xs us->r x xs H Q->
   wpAny (model X.prog X.w) X.A (call (.builtin id) (v::us)) (EP X Zo σ Q) X.xe s
section
variable{X:Cx}{a b:Expr}{ta tb:TE}{pos:Pos}
def pe_ix(hr:IxR X r)(ha:PE X a ta)(hb:PE X b tb)(hs:PlainIx b):PE X (.Subscript a b pos) (tOp r ta tb):=by intro Zo s σ H Q I h;exact Subscript_ (binT ha hb I h λv u s2 x y H2 I2 rx ry q=>hr a b Zo s2 σ H2 x y v u Q I2 rx ry q (hs _ _))
def rIxL(K:PySem.W.Frag):R2:=λx y H Q=>∃p xs i v,x=.ref p/\y=.int i/\SqL K H p xs/\atI xs i=some v/\Q v H
def rIxT(K:PySem.W.Frag):R2:=λx y H Q=>∃p xs i v,x=.ref p/\y=.int i/\SqT K H p xs/\atI xs i=some v/\Q v H
def ix_list:IxR X (rIxL X.K):=by
 intro value slice Zo s σ H x y v u Q I rx ry h hs;obtain⟨p,xs,i,z,rfl,rfl,hq,he,q⟩:=h;cases rx;obtain⟨t,rfl⟩:=ry;obtain⟨its,r,pl,hz⟩:=I.list hq;obtain⟨j,h1,h2,h3,h4,h5⟩:=atI_get he;obtain⟨w,ew,rw'⟩:=r.get h2;have hl:=r.length;have hn:=line63;have fin:EP X Zo σ Q w s:=⟨z,H,I,rw',q⟩;by_cases h0:0<=i
 ·have hj:i.toNat=j:=by rw[seqIndex_of h0 h5]at h1;exact Vc h1
  exact item_listR pl.isList h0 (by lia) (by rw[hj];simpa using ew) fin hs
 ·have hj:(i+(its.toArray.size:Int)).toNat=j:=by
   rw[seqIndex_neg (by lia) h4]at h1
   rw[Vg,<-hl];exact Vc h1
  exact subscriptTail_builtinR (x:=w) pl.isList.typeIs slot_list_getitem.lookup
   (wpAny_getItem_list_neg (Q:=λr s'=>r=w/\EP X Zo σ Q r s') pl.isList (by lia) (by rw[Vg]<;>lia) (by lia) (by rw[hj];simpa using ew) ⟨rfl,fin⟩) hs
def ix_tup:IxR X (rIxT X.K):=by
 intro value slice Zo s σ H x y v u Q I rx ry h hs;obtain⟨p,xs,i,z,rfl,rfl,hq,he,q⟩:=h;cases rx;obtain⟨t,rfl⟩:=ry;obtain⟨its,r,pl,hz⟩:=I.tuple hq;obtain⟨j,h1,h2,h3,h4,h5⟩:=atI_get he;obtain⟨w,ew,rw'⟩:=r.get h2;have hl:=r.length;have hn:=line63;have fin:EP X Zo σ Q w s:=⟨z,H,I,rw',q⟩;exact subscriptTail_builtinR (x:=w) pl.typeIs slot_tuple_getitem.lookup
  (getItem_tuple (j:=j) (Q:=λr s'=>r=w/\EP X Zo σ Q r s') pl (by lia) (by lia) (by rw[Vg,<-hl];exact h1) (by simpa using ew) ⟨rfl,fin⟩) hs
def mapSeq_set(its:List Value)(n j:Nat)(u:Value):Obj.mapSeq (·.setIfInBounds j u) { cls:=.type "list",data:=.seq its.toArray n }={ cls:=.type "list",data:=.seq (its.set j u).toArray n }:=by simp[Obj.mapSeq]
theorem Inv.lst(I:Inv X Zo σ H s)(h:H p=some (.lst xs)):
  ∃(its:List Value) (n:Nat),Vals xs its/\s.heap.get? p=some { cls:=.type "list",data:=.seq its.toArray n }/\xs.length<=sizeLine:=by
 obtain⟨z,its,n,r,e⟩:=I.hok p _ h;exact⟨its,n,r,e,z⟩
def Inv.lstUpd{Zo:List (Addr×Obj)}{xs ys:List V}{its its':List Value}{n n':Nat}{f:Obj->Obj}(I:Inv X Zo σ H s)(h:H p=some (.lst xs))
  (ho:s.heap.get? p=some { cls:=.type "list",data:=.seq its.toArray n }) (hf:f { cls:=.type "list",data:=.seq its.toArray n }={ cls:=.type "list",data:=.seq its'.toArray n' }) (r:Vals ys its') (hz:ys.length<=sizeLine) (t:Nat) :
  Inv X Zo σ (upd H p (.lst ys)) { s with heap:=s.heap.update p f,toks:=t }:=by
 have e:(s.heap.update p f).get? p=some { cls:=.type "list",data:=.seq its'.toArray n' }:=by rw[XM f ho (by rw[hf]<;>rfl),hf]
 refine I.write (x:=p) (e:=p) (by rw[h];trivial) (.inl rfl) (λb u hb q=>(WY _ _ (Ne.symm hb)).trans q) ⟨_,e⟩ ?_
 exact⟨hz,its',n',r,e⟩
def rSetL:V->V->V->Hp->(Hp->Prop)->Prop:=λo i v H Q=>∃p xs k j,o=.ref p/\i=.int k/\H p=some (.lst xs)/\ixN xs.length k=some j/\Q (upd H p (.lst (xs.set j v)))
def set_list:PSet X rSetL:=by
 intro Zo s σ H o i v ov iv u Q I ro ri rv h;obtain⟨p,xs,k,j,rfl,rfl,hp,hj,q⟩:=h;cases ro;obtain⟨t,rfl⟩:=ri;obtain⟨its,n,r,ho,hz⟩:=I.lst hp;obtain⟨h1,h2,h3,h4⟩:=ixN_seq hj;have hl:=r.length;have hn:=line63;have I':Inv X Zo σ (upd H p (.lst (xs.set j v))) { s with heap:=s.heap.update p (Obj.mapSeq (·.setIfInBounds j u)) }:=
  I.lstUpd hp ho (mapSeq_set its n j u) (r.set rv j) (by rw[Xk];exact hz) s.toks
 by_cases h0:0<=k
 ·have hk:k.toNat=j:=by rw[seqIndex_of h0 h4]at h1;exact Vc h1
  exact PySem.W.ki_setAt ho h0 (by lia) (by rw[Vg,<-hl];exact h4) (by rw[hk];exact⟨_,I',q⟩)
 ·have hk:(k+(its.toArray.size:Int)).toNat=j:=by
   rw[seqIndex_neg (by lia) h3]at h1
   rw[Vg,<-hl];exact Vc h1
  exact PySem.W.ki_setBack ho (by lia) (by rw[Vg,<-hl];exact h3) (by lia) (by rw[hk];exact⟨_,I',q⟩)
def slice_bounds(lo hi:Option Int)(n:Nat):(sliceBounds lo hi none n).1=((HT.sIx n 0 lo:Nat):Int)/\(sliceBounds lo hi none n).2.1=((HT.sIx n n hi:Nat):Int)/\(sliceBounds lo hi none n).2.2=1:=by
 refine⟨?_,?_,rfl⟩
 ·cases lo with
  |none=>simp[sliceBounds,HT.sIx]
  |some i=>
    simp only[sliceBounds,HT.sIx,Option.getD_none,show (1:Int) > 0 by decide,if_true]
    by_cases h:i<0
    ·simp only[h,if_true]<;>lia
    ·simp only[h,if_false]<;>lia
 ·cases hi with
  |none=>simp[sliceBounds,HT.sIx]
  |some i=>
    simp only[sliceBounds,HT.sIx,Option.getD_none,show (1:Int) > 0 by decide,if_true]
    by_cases h:i<0
    ·simp only[h,if_true]<;>lia
    ·simp only[h,if_false]<;>lia
def slicePick_cut(its:List Value)(lo hi:Option Int):slicePick its.toArray lo hi none=((its.drop (HT.sIx its.length 0 lo)).take (HT.sIx its.length its.length hi-HT.sIx its.length 0 lo)).toArray:=by obtain⟨h1,h2,h3⟩:=slice_bounds lo hi its.toArray.size;unfold slicePick;rw[h1,h2,h3];simp only[sliceRange_one,pick_run,List.size_toArray]<;>rfl
def rSlL(K:PySem.W.Frag):V->Option Int->Option Int->Hp->VK->Prop:=λx lo hi H Q=>∃a xs,x=.ref a/\SqL K H a xs/\∀p,H p=none->Q (.ref p) (upd H p (.lst (cutV xs lo hi)))
def sl_list:SlR X (rSlL X.K):=by
 intro Zo s σ H x v vl vu lo hi sl Q I rx hs pl pu h;obtain⟨a,xs,rfl,hx,q⟩:=h;cases rx;obtain⟨its,r,ht,hz⟩:=I.list hx;have hlen:=r.length;refine⟨"list",_,slot_list_getitem.lookup,ht.isList.typeIs,?_⟩;refine wpAny_getItem_list_slice ht.isList hs pl pu .none (by simp) ?_ (by rw[Vg]<;>lia)
 rw[slicePick_cut,<-hlen];refine⟨.ref s.heap.objs.size,_,I.laid (t':=s.toks) (o:=.lst (cutV xs lo hi)) (λb ob q=>UT _ q) (U0 _) ?_,rfl,q _ (I.hok.fresh (U0 _))⟩
 exact⟨Vp (cutV_length xs lo hi) hz,_,0,(r.drop (HT.sIx xs.length 0 lo)).take (HT.sIx xs.length xs.length hi-HT.sIx xs.length 0 lo),U9 _ rfl⟩
def call_len_seq:CallR X (.builtin "len") (λxs H Q=>∃p ys,xs=[.ref p]/\(SqL X.K H p ys\/SqT X.K H p ys)/\Q (.int ys.length) H):=by
 intro Zo s σ H xs us Q I r h;obtain⟨p,ys,rfl,hq,q⟩:=h;obtain⟨u,rfl,rx⟩:=vals1 r;cases rx;have hn:=line63;rcases hq with hq | hq
 ·obtain⟨its,r',pl,hz⟩:=I.list hq;have hlen:=r'.length;exact Calls.call_len_list pl.isList (by simp only[List.size_toArray]<;>lia) ⟨.int ys.length,H,I.tok _,⟨s.toks+1,by rw[Vg,hlen]⟩,q⟩
 ·obtain⟨its,r',pl,hz⟩:=I.tuple hq;have hlen:=r'.length;exact len_tuple pl (by simp only[List.size_toArray]<;>lia) ⟨.int ys.length,H,I.tok _,⟨s.toks+1,by rw[Vg,hlen]⟩,q⟩
def call_len_str:CallR X (.builtin "len") (λxs H Q=>∃z,xs=[.str z]/\z.length<=sizeLine/\Q (.int z.length) H):=by intro Zo s σ H xs us Q I r h;obtain⟨z,rfl,hz,q⟩:=h;obtain⟨u,rfl,t,rfl⟩:=vals1 r;have hn:=line63;exact len_str (by lia) ⟨.int z.length,H,I.tok _,⟨_,rfl⟩,q⟩
def CallR.or(h:CallR X f r)(h':CallR X f r'):CallR X f (λxs H Q=>r xs H Q\/r' xs H Q):=by
 intro Zo s σ H xs us Q I rs q;rcases q with q | q
 ·exact h Zo s σ H xs us Q I rs q
 ·exact h' Zo s σ H xs us Q I rs q
def call_list_of:CallR X (.type "list") (λxs H Q=>∃ p ys,xs=[.ref p]/\(SqL X.K H p ys\/SqT X.K H p ys)/\∀ l,H l=none->Q (.ref l) (upd H l (.lst ys))):=by
 intro Zo s σ H xs us Q I r h;obtain⟨p,ys,rfl,hq,q⟩:=h;obtain⟨u,rfl,rx⟩:=vals1 r;cases rx;have fin:∀(its:List Value),Vals ys its->ys.length<=sizeLine->∀(h':Heap) (c':Nat),(∀b o',s.heap.get? b=some o'->h'.get? b=some o')->
   h'.get? s.heap.objs.size=some { cls:=.type "list",dict:=none,data:=.seq its.toArray c',slots:=#[] }->EP X Zo σ Q (.ref s.heap.objs.size) { s with heap:=h' }:=λits r' hz h' c' kp e=>
  ⟨.ref s.heap.objs.size,_,I.laid (t':=s.toks) kp (U0 _) (show ObjOk X.prog X.w _ h' _ (.lst ys) from⟨hz,its,c',r',e⟩),rfl,q _ (I.hok.fresh (U0 _))⟩
 rcases hq with hq | hq
 ·obtain⟨its,r',pl,hz⟩:=I.list hq;have hlen:=r'.length;obtain⟨o,ho,hc,n,hd⟩:=pl.isList;exact call_list_seq p (.inl rfl) ho hc hd (λh' c' kp e=>fin its r' hz h' c' kp e) (by simp only[List.size_toArray]<;>lia)
 ·obtain⟨its,r',pl,hz⟩:=I.tuple hq;have hlen:=r'.length;obtain⟨o,ho,hc,n,hd⟩:=pl;exact call_list_seq p (.inr rfl) ho hc hd (λh' c' kp e=>fin its r' hz h' c' kp e) (by simp only[List.size_toArray]<;>lia)
def call_tuple_of:CallR X (.type "tuple") (λxs H Q=>∃ p ys,xs=[.ref p]/\((SqL X.K H p ys/\∀ l,H l=none->Q (.ref l) (upd H l (.tup ys)))\/(SqT X.K H p ys/\Q (.ref p) H))):=by
 intro Zo s σ H xs us Q I r h;obtain⟨p,ys,rfl,h⟩:=h;obtain⟨u,rfl,rx⟩:=vals1 r;cases rx;rcases h with ⟨hq,q⟩ | ⟨hq,q⟩
 ·obtain⟨its,r',pl,hz⟩:=I.list hq;have hlen:=r'.length;refine call_tuple_list pl.isList (λh' kp=>?_) (by simp only[List.size_toArray]<;>lia)
  have I1:Inv X Zo σ H { s with heap:=h' }:=I.kept (t':=s.toks) kp
  have I2:Inv X Zo σ (upd H h'.objs.size (.tup ys)) { s with heap:=h'.push { cls:=.type "tuple",data:=.seq its.toArray } }:=
   I1.laid (t':=s.toks) (λb o e=>UT _ e) (U0 _) (show ObjOk X.prog X.w _ _ _ (.tup ys) from⟨hz,its,r',Yn _ _⟩)
  exact⟨.ref h'.objs.size,_,I2,rfl,q _ (I1.hok.fresh (U0 _))⟩
 ·obtain⟨its,r',pl,hz⟩:=I.tuple hq;exact call_tuple_same pl ⟨.ref p,H,I,rfl,q⟩
def tyV(K:PySem.W.Frag)(T:String)(x:V)(H:Hp):Prop:=match x with
 |.str _=>T = "str"
 |.int _=>T = "int"
 |.ref p=>(T = "list"/\∃xs,SqL K H p xs)\/(T = "tuple"/\∃o,K.lookup p=some o/\o.cls=.type "tuple"/\o.dict=none) \/
   (T = "dict"/\((∃kvs,H p=some (.dK kvs))\/∃kvs,H p=some (.dT kvs)))\/(T = "set"/\∃S n,H p=some (.set S n))
 |_=>False
def tyV_is(I:Inv X Zo σ H s)(r:RelV x v)(ty:tyV X.K T x H):
  s.TypeIs v T/\∀a,v=.ref a->∃ob,s.heap.get? a=some ob/\ob.dict=none:=by
 cases x with
 |str z=>
   obtain⟨t,rfl⟩:=r;cases (show T = "str" from ty)
   exact⟨typeIs_str s z t,λy e=>nomatch e⟩
 |int i=>
   obtain⟨t,rfl⟩:=r;cases (show T = "int" from ty)
   exact⟨Yx s i t,λy e=>nomatch e⟩
 | ref p=>
   cases r;rcases ty with ⟨rfl,xs,hq⟩ | ⟨rfl,o,hk,hc,hd⟩ | ⟨rfl,hk⟩ | ⟨rfl,S,n,hk⟩
   ·obtain⟨its,_,pl,_⟩:=I.list hq;refine⟨pl.isList.typeIs,λa e=>?_⟩
    cases e;obtain⟨o,n,e,c,hd,_⟩:=pl;exact⟨o,e,hd⟩
   ·refine⟨⟨o,I.kIn p o hk,hc⟩,λa e=>?_⟩
    cases e;exact⟨o,I.kIn _ o hk,hd⟩
   ·have z:∃ o,s.heap.get? p=some o/\o.ExactDict:=by
     rcases hk with ⟨kvs,hk⟩ | ⟨kvs,hk⟩
     ·obtain⟨_,_,_,_,o,_,_,e,ex,_⟩:=I.hok p _ hk;exact⟨o,e,ex⟩
     ·obtain⟨_,_,_,_,o,_,_,e,ex,_⟩:=I.hok p _ hk;exact⟨o,e,ex⟩
    obtain⟨o,e,ex⟩:=z;refine⟨⟨o,e,ex.1⟩,λa e2=>?_⟩
    cases e2;exact⟨o,e,ex.2.1⟩
   ·obtain⟨o,_,_,_,e,ex,_⟩:=I.hok p _ hk;refine⟨⟨o,e,ex.1⟩,λa e2=>?_⟩
    cases e2;exact⟨o,e,ex.2.1⟩
 |_=>exact False.elim ty
def tBM(K:PySem.W.Frag)(T:String)(r:V->List V->Hp->VK->Prop)(to:TE)(t:TA):TE:=λσ H Q=>to σ H λx H1=>tyV K T x H1/\t σ H1 λxs H2=>r x xs H2 Q
variable{o e:Expr}{es:List Expr}{to:TE}{t:TA}{name:Str}{apos cpos:Pos}{T id:String}{r:V->List V->Hp->VK->Prop}
def pe_bm(pa:PlainAttrs T)(slot:Slot T name id)(hty:typeOf (.builtin id)=pure (.type "method_descriptor"))(hm:MtR X id r)(ho:PE X o to)(ha:PA X (e::es) t)
  (hbase:attributeBase o name X.env (eval o X.env)=eval o X.env:=by rfl)
  (hfew:((backTo cpos (starEach (e::es) X.env)).all (fun x=>!x.1)&&(backToKw cpos (keywordEach [] X.env)).all (fun x=>x.1.isSome)
   &&decide ((e::es).length+([]:List Keyword).length+(if ([]:List Keyword).isEmpty then 0 else 1)<30))=true:=by rfl)
  (hline:(apos.endLine==cpos.line)=true:=by rfl) (hs:starEach (e::es) X.env=(false,eval e X.env)::starEach es X.env:=by rfl) (hplain:(backTo cpos (starEach es X.env)).any (·.1)=false:=by rfl) :
  PE X (.Call (.Attribute o name apos) (e::es) [] cpos) (tBM X.K T r to t):=by
 intro Zo s σ H Q I h;refine wpAny_Call_method_late hbase hfew hline rfl (thn (ho Zo s σ H _ I h) λv s1 ⟨x,H1,I1,r1,ty,q1⟩=>?_)
 obtain⟨h1,h2⟩:=tyV_is I1 r1 ty;refine⟨T,id,pa,slot,hty,h1,h2,?_⟩;have hA:=ha cpos Zo s1 σ H1 _ I1 q1;rw[hs]at hA ⊢
 refine Calls.callWith_builtin (by show (false || (backTo cpos (starEach es X.env)).any (·.1))=false;rw[hplain]<;>rfl) (Calls.evalArgs_plain ?_)
 exact thn hA λus s2 ⟨vs,H2,I2,r2,q2⟩=>hm Zo s2 σ H2 x vs v us Q I2 r1 r2 q2
end
open PySem PySem.Spec PyProof.Rows
def MtM(X:Cx)(id:String)(r:V->List V->Hp->VK->Prop):Prop:=
 ∀(Zo:List (Addr×Obj)) (s:Shared) (σ:St) (H:Hp) (x:V) (xs:List V) (v:Value) (us:List Value) (Q:VK),Inv X Zo σ H s->RelV x v->Vals xs us->r x xs H Q->
   wpAny (model X.prog X.w) X.A (call (.builtin id) (v::us)) (EP X Zo σ Q) X.xe s
def Vals.one:∀{x:V}{us:List Value},Vals [x] us->∃u,us=[u]/\RelV x u
 |_,_,.cons r .nil=>⟨_,rfl,r⟩
theorem Vals.eraseIdx:∀{xs:List V}{us:List Value} (i:Nat),Vals xs us->Vals (xs.eraseIdx i) (us.eraseIdx i)
 |_,_,_,.nil=>.nil
 |_,_,0,.cons _ t=>t
 |_,_,i+1,.cons r t=>.cons r (Vals.eraseIdx i t)
theorem Vals.reverse(h:Vals xs us):Vals xs.reverse us.reverse:=by
 induction h with
 |nil=>exact .nil
 |cons r t ih=>rw[YF,YF];exact Vals.append ih (.cons r .nil)
theorem Vals.rep(h:Vals xs us):∀ k:Nat,Vals (List.replicate k xs).flatten (List.replicate k us).flatten
 |0=>.nil
 |k+1=>by rw[Wb,Wb,W9,W9];exact Vals.append h (Vals.rep h k)
theorem len_erase:∀(l:List α) (i:Nat),(l.eraseIdx i).length<=l.length
 |[],_=>U0 _
 |_::_,0=>Nat.le_succ _
 |_::r,i+1=>Nat.succ_le_succ (len_erase r i)
theorem foldl_rep(its:List Value):∀ (k:Nat) (acc:List Value),
  List.foldl (λx1 x2=>x1++x2) acc.toArray (List.replicate k its.toArray)=(acc++(List.replicate k its).flatten).toArray
 |0,acc=>by simp
 | k + 1,acc=>by
   have e:acc.toArray++its.toArray=(acc++its).toArray:=by simp
   have e2:(acc++its)++(List.replicate k its).flatten=acc++(List.replicate (k+1) its).flatten:=by rw[Wb,W9,WN]
   rw[<-e2,<-foldl_rep its k (acc++its),<-e,Wb,Y9]
section
variable{X:Cx}{Zo:List (Addr×Obj)}{σ:St}{H:Hp}{s:Shared}{l b:Addr}{xs ys zs:List V}
def Inv.lset{its its':List Value}{n:Nat}{f:Array Value->Array Value}{t':Nat}(I:Inv X Zo σ H s)(hH:H l=some (.lst xs))
  (e:s.heap.get? l=some { cls:=.type "list",data:=.seq its.toArray n }) (hf:f its.toArray=its'.toArray) (hv:Vals ys its') (hz:ys.length<=sizeLine) :
  Inv X Zo σ (upd H l (.lst ys)) { s with heap:=s.heap.update l (Obj.mapSeq f),toks:=t' }:=by
 have q:=PySem.IsL.update e f;rw[hf]at q;refine I.write (x:=l) (e:=l) (by rw[hH];exact trivial) (.inl rfl) (λb' u hb hu=>(WY s.heap (Obj.mapSeq f) (Ne.symm hb)).trans hu) ⟨_,q⟩ ?_
 exact⟨hz,its',_,hv,q⟩
def Inv.lnew(I:Inv X Zo σ H s)(hv:Vals ys its)(hz:ys.length<=sizeLine):
  Inv X Zo σ (upd H s.heap.objs.size (.lst ys)) { s with heap:=s.heap.push { cls:=.type "list",data:=.seq its.toArray },toks:=t' }:=
 I.laid (λz z q=>UT _ q) (U0 _) ⟨hz,its,0,hv,U9 _ rfl⟩
theorem Inv.fresh(I:Inv X Zo σ H s):H s.heap.objs.size=none:=I.hok.fresh (U0 _)
def Inv.lstM(I:Inv X Zo σ H s)(hH:H l=some (.lst xs)):xs.length<=sizeLine/\∃(its:List Value) (n:Nat),Vals xs its/\xs.length=its.length/\s.heap.get? l=some { cls:=.type "list",data:=.seq its.toArray n }:=by obtain⟨z,its,n,r,e⟩:=I.hok l _ hH;exact⟨z,its,n,r,r.length,e⟩
def notLongL{n:Nat}(h:n<=sizeLine):Builtin.List.listTooLong n=false:=by unfold Builtin.List.listTooLong;exact Vz (by lia)
end
section
variable{X:Cx}
def rAppend:V->List V->Hp->VK->Prop:=λx vs H Q=>∃l xs y,x=.ref l/\vs=[y]/\H l=some (.lst xs)/\xs.length<sizeLine/\Q .non (upd H l (.lst (xs++[y])))
def mt_append:MtM X "list.append" rAppend:=by
 intro Zo s σ H x vs v us Q I rx rv h;obtain⟨l,xs,y,rfl,rfl,hH,hz,q⟩:=h;cases rx;obtain⟨u,rfl,ru⟩:=rv.one;obtain⟨z,its,n,r,hl,e⟩:=I.lstM hH;refine Xo F.slot_list_append ⟨_,e,rfl⟩ F.entry_list_append (F.args_list_append_2 _ _) (PySem.list_append l its.toArray n u (by rw[Vg];lia)) ⟨e,?_⟩
 refine⟨.non,_,I.lset (its':=its++[u]) hH e (by simp) (r.append (.cons ru .nil)) ?_,rfl,q⟩
 rw[Vk,List.length_singleton]
 lia
def rExtend:V->List V->Hp->VK->Prop:=λx vs H Q=>∃l b xs zs,x=.ref l/\vs=[.ref b]/\H l=some (.lst xs)/\H b=some (.lst zs)/\xs.length+zs.length<=sizeLine/\Q .non (upd H l (.lst (xs++zs)))
def mt_extend:MtM X "list.extend" rExtend:=by
 intro Zo s σ H x vs v us Q I rx rv h;obtain⟨l,b,xs,zs,rfl,rfl,hH,hB,hz,q⟩:=h;cases rx;obtain⟨u,rfl,ru⟩:=rv.one;cases ru;obtain⟨z,its,n,r,hl,e⟩:=I.lstM hH;obtain⟨z2,its2,n2,r2,hl2,e2⟩:=I.lstM hB;have hsz:its.toArray.size+its2.toArray.size<=sizeLine:=by rw[Vg,Vg];lia
 have hlong:¬ (!its.toArray.isEmpty&&Builtin.List.listTooLong (its.toArray.size+its2.toArray.size))=true:=by rw[notLongL hsz,Bool.and_false];exact Vv
 refine Xo F.slot_list_extend ⟨_,e,rfl⟩ F.entry_list_extend (F.args_list_extend_2 _ _)
  (AutoSeq1.list_extend_list_list_0 l its.toArray n b its2.toArray n2 hlong (by rw[Vg];lia) (by lia)) ⟨e,e2,?_⟩
 refine⟨.non,_,I.lset (its':=its++its2) hH e (by simp) (r.append r2) ?_,rfl,q⟩
 rw[Vk]
 lia
def rPopAt:V->List V->Hp->VK->Prop:=λx vs H Q=>∃l xs i k y,x=.ref l/\vs=[.int i]/\H l=some (.lst xs)/\-(2^63)<=i/\i<2^63/\seqIndex? i xs.length=some k/\xs[k]?=some y/\Q y (upd H l (.lst (xs.eraseIdx k)))
def mt_popAt:MtM X "list.pop" rPopAt:=by
 intro Zo s σ H x vs v us Q I rx rv h;obtain⟨l,xs,i,k,y,rfl,rfl,hH,h1,h2,hk,hy,q⟩:=h;cases rx;obtain⟨u,rfl,ru⟩:=rv.one;obtain⟨t,rfl⟩:=ru;obtain⟨z,its,n,r,hl,e⟩:=I.lstM hH;obtain⟨w,hw,rw'⟩:=r.get hy;refine Xo F.slot_list_pop ⟨_,e,rfl⟩ F.entry_list_pop (F.args_list_pop_2 _ _)
  (MeetsSeq.list_pop_at l its.toArray n i t k w (fitsIndex_both h1 h2) (by rw[Vg,<-hl];exact hk) (by rw[<-YZ];exact hw) (by rw[Vg];lia)) ⟨e,?_⟩
 refine⟨y,_,I.lset (its':=its.eraseIdx k) hH e ?_ (r.eraseIdx k) ?_,rw',q⟩
 ·show its.toArray.eraseIdxIfInBounds k=(its.eraseIdx k).toArray;rw[List.eraseIdxIfInBounds_toArray]
 ·have:=len_erase xs k
  lia
def rCat:R2:=λx y H Q=>∃l b xs zs,x=.ref l/\y=.ref b/\H l=some (.lst xs)/\H b=some (.lst zs)/\xs.length+zs.length<=sizeLine/\∀p,H p=none->Q (.ref p) (upd H p (.lst (xs++zs)))
def op_cat:OpR X (binaryOp .Add) rCat:=by
 intro Zo s σ H x y v u Q I rx ry h;obtain⟨l,b,xs,zs,rfl,rfl,hH,hB,hz,q⟩:=h;cases rx;cases ry;obtain⟨z,its,n,r,hl,e⟩:=I.lstM hH;obtain⟨z2,its2,n2,r2,hl2,e2⟩:=I.lstM hB;refine PySem.P.add_list e e2 ?_ (by rw[Vg,Vg];lia)
 have ea:its.toArray++its2.toArray=(its++its2).toArray:=by simp
 rw[ea];exact⟨.ref _,_,I.lnew (t':=s.toks) (r.append r2) (by rw[Vk];lia),rfl,q _ I.fresh⟩
def rRep:R2:=λx y H Q=>∃l k xs,x=.ref l/\y=.int k/\H l=some (.lst xs)/\-(2^63)<=k/\k<2^63/\xs.length*k.toNat<=sizeLine /\
 ∀p,H p=none->Q (.ref p) (upd H p (.lst (List.replicate k.toNat xs).flatten))
def len_rep(xs:List α)(k:Nat):(List.replicate k xs).flatten.length=k*xs.length:=by
 induction k with
 |zero=>simp
 |succ k ih=>rw[Wb,W9,Vk,ih,Nat.succ_mul,Nat.add_comm]
def op_rep:OpR X (binaryOp .Mult) rRep:=by
 intro Zo s σ H x y v u Q I rx ry h;obtain⟨l,k,xs,rfl,rfl,hH,h1,h2,hz,q⟩:=h;cases rx;obtain⟨t,rfl⟩:=ry;obtain⟨z,its,n,r,hl,e⟩:=I.lstM hH;have hlen:its.toArray.size*k.toNat<=sizeLine:=by rw[Vg,<-hl];exact hz
 have hcap:¬ its.toArray.size*k.toNat > (2^63-1) / 8:=by
  have:(sizeLine:Nat)<=(2^63-1) / 8:=by decide
  lia
 have hfit:¬ (!Builtin.List.listFitsIndex k)=true:=by rw[fitsIndex_both h1 h2];exact Vv
 have hlong:¬ Builtin.List.listTooLong (its.toArray.size*k.toNat)=true:=by rw[notLongL hlen];exact Vv
 have hnew:List.foldl (λx1 x2=>x1++x2) #[] (List.replicate (if its.toArray.isEmpty=true then 0 else k.toNat) its.toArray)=(List.replicate k.toNat its).flatten.toArray:=by
  have f0:∀m:Nat,List.foldl (λx1 x2=>x1++x2) #[] (List.replicate m its.toArray)=(List.replicate m its).flatten.toArray:=λm=>by have:=foldl_rep its m [];rw[Yi]at this;exact this
  rw[f0];cases its with
  |nil=>simp
  |cons a r'=>rw[U8 (by simp)]
 refine Yh (T := "list") (U := "int") (by decide) ⟨_,e,rfl⟩ (λs'=>Yx s' k t) noFill_list_mul F.fills_int_mul XD repeat_list F.slot_int_index.lookup
  (Xo XD (Yx s k t) F.entry_int_rmul (F.args_int_rmul_2 _ _) (int___rmul___int_list k t l its.toArray n)
    ⟨e,rfl,⟨_,e,rfl⟩,Xo F.slot_list_mul ⟨_,e,rfl⟩ F.entry_list_mul (F.args_list_mul_2 _ _) (AutoListH.list___mul___list_int_3 l its.toArray n k t hfit hcap hlong) ⟨e,?_⟩⟩)
 rw[hnew];exact⟨.ref _,_,I.lnew (t':=s.toks) (r.rep k.toNat) (by rw[len_rep,Nat.mul_comm];exact hz),rfl,q _ I.fresh⟩
end
end L2
namespace Att
open PySem PySem.W PySem.Calls PyProof.Rows
def ints_of_wellAll:∀ (ns:List Int) (vs:List Value),WellAll P h vs (ns.map WData.int)->IntsAre vs ns:=by
 intro ns;induction ns with
 |nil=>intro vs w;rw[Yo]at w;cases w;exact .nil
 | cons n ns ih=>
   intro vs w;rw[Vt]at w;cases w with
   |cons a b=>cases a;exact .cons _ _ (ih _ b)
def script_of{l:OpenLaw}{n:Nat}(hn:l.most=some n){P:Params}{h:Heap}{args:List WData}{vals:List Value}
  (hpre:l.row.toRowW.claim.pre args=true) (hwl:WellAll P h vals args) :
  ∃a vs ns,vals=[Value.ref a]/\args=[WData.list (ns.map WData.int)]/\h.get? a=some { cls:=.type "list",data:=.seq vs.toArray }/\IntsAre vs ns/\ns.length<=n:=by
 have hsh:WShape.hasAll [] args [.list .int]=true:=(pre_splitW hpre).1;have hc:l.pre.holds [] { args:=args }=true:=(pre_splitW hpre).2;obtain⟨d,r,rfl,h1,h2⟩:=hasAllW_cons hsh;obtain rfl:=hasAllW_nil h2;obtain⟨xs,rfl,h3⟩:=hasW_list h1;obtain⟨ns,rfl⟩:=items_int h3;have hlen:ns.length<=n:=by
  unfold OpenLaw.pre at hc;have h4:(WTm.not (.lt (.lit (.int (n:Int))) (.len (.arg 0)))).holds [] { args:=[.list (ns.map .int)] }=true:=by have h4:=(holds_andW hc).1;rw[hn]at h4;exact h4
  have h5:=condW_of h4 (w_not (w_lt w_lit (w_len_list (w_arg rfl))));rw[U6]at h5;refine Nat.le_of_not_lt λq=>?_
  have q':(n:Int)<((ns.length:Nat):Int):=by lia
  first
   |(rw[Vh q']at h5;exact absurd h5 (by decide))
   |(simp at h5;lia)
 cases hwl with
 |cons w1 w2=>
   cases w2;cases w1 with
   |list ho hall=>exact⟨_,_,ns,rfl,rfl,ho,ints_of_wellAll ns _ hall,hlen⟩
def post_true(l:OpenLaw)(args:List WData):l.row.toRowW.claim.post args (.bool true) args=true:=
 postW_of (r:=l.row.toRowW) (X:=(true==true))
  (show WShape.has [] (.bool true) .bool=true by first | rfl | decide | simp[WShape.has,WShape.arms,WShape.armsAll])
  (show (WTm.eq .res (.lit (.bool true))).value [] { args:=args,res:=some (.bool true),after:=args }=some (.bool (true==true)) from w_eq_bool (w_res rfl) w_lit) rfl
def attach_call{l:OpenLaw}{n:Nat}{q:Program}{loose:List Str}{XP:(Str->Option Value)->Heap->Prop}{YP:World->Heap->Prop}{d:DefRec}
  (hn:l.most=some n) (hdf:d.params.defaults=[])
  (call:∀(w:World) (s₀ s₁:Shared) (mg mb:Str->Option Value) (fa:Addr) (o:Obj) (pm cd doc:Value) (a:Addr) (vs:List Value) (ns:List Int),
    Ground q loose [] XP w s₀ mg mb s₁.heap->YP w s₁.heap->
    s₁.heap.get? fa=some o->o.data=.func (docDef d.name d.params d.body d.scope pm cd doc)->s₁.heap.CodeRec cd d.name->mg d.name=some (.ref fa)->
    s₁.heap.get? a=some { cls:=.type "list",data:=.seq vs.toArray }->IntsAre vs ns->ns.length<=n->s₁.gens=#[]->
    codeAny (model l.prog w) callerA (.call (.ref fa) ⟨[.ref a],[]⟩) (λr s'=>r=.ok (.ret (.bool true))/\OldK s₁.heap s'.heap/\s'.os=s₁.os/\AllBare s'.gens) s₁) :
  WalkO q loose XP YP l.row.toRowW d [] (λf vs=>PySem.call f vs):=by
 intro w s₀ s₁ mg mb G Y fa o pm cd doc dV kV ho hd hcd hD hmg hg args vals as hpre hlay hrd hwl hlo;obtain rfl:dV=.none:=Dflts.none hD hdf;obtain rfl:kV=.none:=Dflts.noKw hD;obtain⟨a,vs,ns,rfl,rfl,hobj,hints,hlen⟩:=script_of hn hpre hwl;refine enter_call (Y6 (call w s₀ s₁ mg mb fa o pm cd doc a vs ns G Y ho (fd_plain hd) hcd hmg hobj hints hlen hg) λr s' hq=>?_)
 obtain⟨rfl,h2,h3,h4⟩:=hq;exact⟨.inl ⟨.bool true,.bool true,[],rfl,λz=>rfl,.bool true,post_true l _,λz=>⟨List.Pairwise.nil,λz hm=>(nomatch hm)⟩⟩,h2,h3,h4⟩
end Att
namespace L2
open PySem PySem.Spec PyProof.Rows
theorem vals_ints:∀{vs:List Value}{ns:List Int},IntsAre vs ns->Vals (ns.map V.int) vs
 |_,_,.nil=>.nil
 |_,_,.cons n t h=>.cons ⟨t,rfl⟩ (vals_ints h)
def Only(H:Hp):Prop:=∀b,H b=none\/∃o xs,H b=some (.frz o (.lst xs))
def law_call{P:Program}{w:World}{K:PySem.W.Frag}{mg mb:Str->Option Value}{CX:CXT}{k:Nat}{fa a:Addr}{fd:FuncData}{x:Str}{sp:Sp}{s₁:Shared}{vs:List Value}{ns:List Int}
  (KX:K.In s₁.heap) (hns:s₁.heap.Ns mainGlobals mg) (hb:s₁.heap.Ns builtinsNs mb) (hbb:∀x:Str,x≠"__name__"->mb x=bootBuiltins x) (hlim:s₁.heap.NoLimit) (hg:s₁.gens=#[])
  (ha:s₁.heap.get? a=some { cls:=.type "list",data:=.seq vs.toArray }) (hi:IntsAre vs ns) (hl:ns.length<=sizeLine) (hr:Room k callerA)
  (F:∀base:Heap,K.In base->base.Ns mainGlobals mg->FnOk P w K mg base CX k fa fd [x] sp) (hbind:∀(s:Shared) (u:Value),BindsTo s fd ⟨[u],[]⟩ [(x,u)])
  (hsp:∀H:Hp,Only H->SqL K H a (ns.map V.int)->sp [.ref a] H (λv y=>v=.bl true) λy y y=>False)
  (hCX:∀H e s',CX [] H s₁ (λy y y=>False) e s'->False) :
  codeAny (model P w) callerA (.call (.ref fa) ⟨[.ref a],[]⟩) (λr s'=>r=.ok (.ret (.bool true))/\OldK s₁.heap s'.heap/\s'.os=s₁.os/\AllBare s'.gens) s₁:=by
 have rv:=vals_ints hi;have lenV:=hi.length
 -- from an abstract heap in which nothing but the script may be tracked
 have core:∀ H:Hp,Only H->SqL K H a (ns.map V.int)->HOk P w H s₁.heap->(∀ b,H b≠none->b=a)->(H a≠none->K.lookup a=none)->
   codeAny (model P w) callerA (.call (.ref fa) ⟨[.ref a],[]⟩) (λr s'=>r=.ok (.ret (.bool true))/\OldK s₁.heap s'.heap/\s'.os=s₁.os/\AllBare s'.gens) s₁:=by
  intro H hO hS hok hA hK;have base_of:∀{b:Addr}{o:Obj},s₁.heap.get? b=some o->H b=none->(hidT s₁.heap H).get? b=some o:=λe n=>hidT_get e n
  have noA:∀ {b:Addr}{o:Obj}{es:Array DictEntry}{ep:Nat},s₁.heap.get? b=some o->o.data=.dict es ep->H b=none:=λ{b o es ep} e d=>by
   cases q:H b with
   |none=>rfl
   |some u=>
     have e':b=a:=hA b (by rw[q];simp)
     subst e';rw[ha]at e;cases e;have d':Data.seq vs.toArray _=Data.dict es ep:=d;cases d'
  have nsK:∀{b:Addr}{m:Str->Option Value},s₁.heap.Ns b m->(hidT s₁.heap H).Ns b m:=λ{b m} ⟨o,es,ep,e,d,r⟩=>⟨o,es,ep,base_of e (noA e d),d,r⟩
  have hKb:K.In (hidT s₁.heap H):=λb o e=>base_of (KX b o e) (by
   cases q:H b with
   |none=>rfl
   |some u=>
     have e':b=a:=hA b (by rw[q];simp)
     subst e';rw[hK (by rw[q];simp)]at e;cases e)
  have hM:Mod K mg (hidT s₁.heap H):=⟨hKb,nsK hns,⟨mb,nsK hb,hbb⟩,let ⟨mc,h1,h2⟩:=hlim;⟨mc,nsK h1,h2⟩⟩
  have e0:Env0 P w K mg (hidT s₁.heap H) callerA [] s₁ H:=⟨rfl,hM,λb o e=>of_hidT e,Nat.le_of_eq (hidT_size _ _),trivial,λb hb=>absurd (show b∈([]:List Addr) from hb) (by simp),hok,.of_eq hg⟩
  refine Y6 ((F _ hKb (nsK hns)).run callerA [] s₁ H ⟨[.ref a],[]⟩ [.ref a] [.ref a] _ _ hr e0 (hbind s₁ (.ref a)) (.cons rfl .nil) (hsp H hO hS)) λr s' h=>?_
  cases r with
  |error e=>exact (hCX H e s' h).elim
  | ok fl=>
    cases fl with
    |next=>exact False.elim h
    |brk=>exact False.elim h
    |cont=>exact False.elim h
    | ret u=>
      obtain⟨v,H',os,bare,un,hok',r',q⟩:=h;have q':v=.bl true:=q;subst q';obtain rfl:u=Value.bool true:=r';refine⟨rfl,OldK.of_keep λb o e=>?_,os,bare⟩
      cases q:H b with
      |none=>exact un.keep b o e q (by intro z;exact absurd (show b∈([]:List Addr) from z) (by simp)) (by simp)
      | some u=>
        rcases hO b with z | ⟨ob,xs,z⟩
        ·rw[q]at z;cases z
        ·have z2:=un.frzs b ob _ z;obtain⟨e1,_⟩:=hok b _ z;obtain⟨e2,_⟩:=hok' b _ z2;rw[e]at e1;cases e1;exact e2
 cases hk:K.lookup a with
 |some o=>
   -- the script is one of the module's own objects
   have e:=KX a o hk;rw[ha]at e;cases e;refine core (λy=>none) (λy=>.inl rfl) (.inr ⟨_,vs.toArray,_,hk,rfl,rfl,rfl,by rw[Vg,lenV];exact hl,by simpa using rv⟩) (λb u z=>by have z':(none:Option HO)=some u:=z;cases z') (λb z=>absurd rfl z) λz=>absurd rfl z
 | none=>
   refine core (λb=>if b=a then some (.frz { cls:=.type "list",data:=.seq vs.toArray } (.lst (ns.map V.int))) else none) (λb=>?_) (.inl (.inr ⟨{ cls:=.type "list",data:=.seq vs.toArray },U5 rfl⟩)) (λb u z=>?_) (λb z=>?_) λy=>hk
   ·by_cases hb:b=a
    ·exact .inr ⟨_,_,U5 hb⟩
    ·exact .inl (U8 hb)
   ·by_cases hb:b=a
    ·have z':=(U5 hb).symm.trans z;cases z';subst hb;exact⟨ha,by rw[U6];exact hl,vs,_,rv,ha⟩
    ·have z':=(U8 hb).symm.trans z;cases z'
   ·by_cases hb:b=a
    ·exact hb
    ·exact absurd (U8 hb) z
open PySem PySem.Spec PyProof.Rows
def walk_of{l:PySem.W.OpenLaw}{n k:Nat}{q:Program}{loose:List Str}{XP:(Str->Option Value)->Heap->Prop}{YP:World->Heap->Prop}{d:DefRec}{K:Params->PySem.W.Frag}{CX:World->CXT}{sp:World->Sp}{x:Str}
  (hn:l.most=some n) (hn2:n<=sizeLine) (hdf:d.params.defaults=[]) (hr:Room k callerA)
  (hY:∀(w:World) (h:Heap),YP w h->(K w.params).In h)
  (F:∀ (w:World) (mg:Str->Option Value) (fa:Addr) (h:Heap),(K w.params).In h->h.Ns mainGlobals mg->mg d.name=some (.ref fa)->
    ∃fd:FuncData,(∀(s:Shared) (u:Value),BindsTo s fd ⟨[u],[]⟩ [(x,u)]) /\
      ∀base:Heap,(K w.params).In base->base.Ns mainGlobals mg->FnOk l.prog w (K w.params) mg base (CX w) k fa fd [x] (sp w))
  (hsp:∀(w:World) (H:Hp) (a:Addr) (ns:List Int),ns.length<=n->Only H->SqL (K w.params) H a (ns.map V.int)->sp w [.ref a] H (λv z=>v=.bl true) λz z z=>False)
  (hCX:∀(w:World) (H:Hp) (s:Shared) (e:Value) (s':Shared),CX w [] H s (λz z z=>False) e s'->False) :
  PySem.W.WalkO q loose XP YP l.row.toRowW d [] (λf vs=>PySem.call f vs):=by
 refine Att.attach_call hn hdf λw s₀ s₁ mg mb fa o pm cd doc a vs ns G Y ho hd hcd hmg hobj hints hlen hg=>?_
 have KX:=hY w _ Y;obtain⟨fd,hb,hF⟩:=F w mg fa _ KX G.T.g hmg;exact law_call KX G.T.g G.T.b G.T.builtins G.T.nolimit hg hobj hints (Vp hlen hn2) hr hF hb (λH hO hS=>hsp w H a ns hlen hO hS) λH e s'=>hCX w H s₁ e s'
open PySem PySem.Spec PyProof.Rows
def inClass(s:Stmt)(j:Nat):Stmt:=match s with
 |.ClassDef _ _ _ body _ _ _ _ _ _ _=>body.getD j (.Pass ⟨0,0,0,0⟩)
 |_=>.Pass ⟨0,0,0,0⟩
def defArgs(s:Stmt):Arguments:=match s with
 |.FunctionDef _ a _ _ _ _ _ _ _ _=>a
 |_=>{ posonlyargs:=[],args:=[],vararg:=none,kwonlyargs:=[],kw_defaults:=[],kwarg:=none,defaults:=[] }
def defBody(s:Stmt):List Stmt:=match s with
 |.FunctionDef _ _ b _ _ _ _ _ _ _=>b
 |_=>[]
def defScope(s:Stmt):Scope:=match s with
 |.FunctionDef _ _ _ _ _ _ sc _ _ _=>sc
 |_=>{ kind:=.function,names:=[],isGenerator:=false,isCoroutine:=false }
abbrev E0:XK:=λ_ _ _=>False
structure Fun(K:PySem.W.Frag)(x qual:Str)(st:Stmt)(f:Addr)(fd:FuncData):Prop where
 ex:∃(oc:Value) (od:Option Addr) (kV doc pm:Value) (an:Option Addr) (cdv ct:Value) (osl:Array (Option Value)),
  fd=PySem.W.fnOf x qual (defArgs st) (defBody st) (defScope st) .none kV doc pm an cdv ct/\K.lookup f=some ⟨oc,od,.func fd,osl⟩/\PySem.W.codeIn K cdv qual=true
 kp:PySem.W.keepIn K (.ref f)=true
section
variable{P:Program}{w:World}{K:PySem.W.Frag}{mg:Str->Option Value}{base:Heap}
def Fun.binds{x qual:Str}{st:Stmt}{f:Addr}{fd:FuncData}{ps:List Str}(F:Fun K x qual st f fd)
  (h:∀(kV doc pm:Value) (an:Option Addr) (cdv ct:Value) (us:List Value),us.length=ps.length->bindArgs (PySem.W.fnOf x qual (defArgs st) (defBody st) (defScope st) .none kV doc pm an cdv ct) ⟨us,[]⟩=pure (ps.zip us)):Binds K fd ps []:=by
 obtain⟨oc,od,kV,doc,pm,an,cdv,ct,osl,rfl,lk,hcd⟩:=F.ex;exact .all (h kV doc pm an cdv ct)
def fun_mk{x qual:Str}{st:Stmt}{f:Addr}{oc:Value}{od an:Option Addr}{osl:Array (Option Value)}{kV doc pm cdv ct:Value}(l:K.lookup f=some ⟨oc,od,.func (PySem.W.fnOf x qual (defArgs st) (defBody st) (defScope st) .none kV doc pm an cdv ct),osl⟩)
  (c:PySem.W.codeIn K cdv qual=true) (k:PySem.W.keepIn K (.ref f)=true):Fun K x qual st f (PySem.W.fnOf x qual (defArgs st) (defBody st) (defScope st) .none kV doc pm an cdv ct):=⟨⟨oc,od,kV,doc,pm,an,cdv,ct,osl,rfl,l,c⟩,k⟩
end
def iteF{A B:Prop}(h:B):if false=true then A else B:=by rw[U8 Vv];exact h
def iteT{A B:Prop}(h:A):if true=true then A else B:=by rw[U5 rfl];exact h
def Same(H H':Hp):Prop:=∀b o,H b=some o->H' b=some o
def Same.refl(H:Hp):Same H H:=λz z h=>h
mutual
inductive Rep(K:PySem.W.Frag)(H:Hp):V->PyData->Prop
 |non:Rep K H .non .none
 |bl (b:Bool):Rep K H (.bl b) (.bool b)
 |int (i:Int):Rep K H (.int i) (.int i)
 |str (x:Str):Rep K H (.str x) (.str x)
 |lst {a:Addr}{xs:List V}{ds:List PyData}:SqL K H a xs->Reps K H xs ds->Rep K H (.ref a) (.list ds)
 |tup {a:Addr}{xs:List V}{ds:List PyData}:SqT K H a xs->Reps K H xs ds->Rep K H (.ref a) (.tuple ds)
inductive Reps(K:PySem.W.Frag)(H:Hp):List V->List PyData->Prop
 |nil:Reps K H [] []
 |cons {v:V}{d:PyData}{vs:List V}{ds:List PyData}:Rep K H v d->Reps K H vs ds->Reps K H (v::vs) (d::ds)
end
section
variable{X:Cx}{Zo:List (Addr×Obj)}{σ:St}{H:Hp}{s:Shared}
def Rep.reads(I:Inv X Zo σ H s){v:V}{d:PyData}{u:Value}(h:Rep X.K H v d):RelV v u->∃ as,Reads s.heap u d as:=
 Rep.rec (motive_1:=λv d z=>∀ u,RelV v u->∃ as,Reads s.heap u d as) (motive_2:=λvs ds z=>∀ us,Vals vs us->∃ as,ReadsAll s.heap us ds as)
  (λu r=>by cases r;exact⟨_,.none⟩)
  (λb u r=>by cases r;exact⟨_,.bool b⟩)
  (λi u r=>by obtain⟨t,rfl⟩:=r;exact⟨_,.int i t⟩)
  (λi u r=>by obtain⟨t,rfl⟩:=r;exact⟨_,.str i t⟩)
  (λh hs ih u r=>by cases r;obtain⟨its,rv,⟨o,n,h1,h2,_,h3⟩,_⟩:=I.list h;obtain⟨as,ra⟩:=ih _ rv;exact⟨_,.list h1 h2 h3 ra⟩)
  (λh hs ih u r=>by cases r;obtain⟨its,rv,⟨o,h1,h2,n,h3⟩,_⟩:=I.tuple h;obtain⟨as,ra⟩:=ih _ rv;exact⟨_,.tuple h1 h2 h3 ra⟩)
  (λu r=>by cases r;exact⟨_,.nil⟩)
  (λh hs i1 i2 u r=>by
    cases r with
    |cons r1 r2=>obtain⟨a1,e1⟩:=i1 _ r1;obtain⟨a2,e2⟩:=i2 _ r2;exact⟨_,.cons e1 e2⟩)
  h u
end
def same_new{H:Hp}{p:Addr}(h:H p=none)(o:HO):Same H (upd H p o):=λb u q=>by rw[upd_ne (ne_of_none q h)];exact q
section
variable{X:Cx}
def JN(K:PySem.W.Frag)(neg:Bool):R2:=λx y H Q=>∃da db,Rep K H x da/\Rep K H y db/\da.canLay0=true/\db.canLay0=true/\da.depth<=60/\Q (.bl (if neg then !PyData.eqv da db else PyData.eqv da db)) H
def PJ(hu:X.A.units+64<cLine):OpR X (compareOp .Eq) (JN X.K false):=by intro Zo s σ H x y v u Q I rx ry h;obtain⟨da,db,ha,hb,la,lb,hd,q⟩:=h;obtain⟨as,ra⟩:=ha.reads I rx;obtain⟨bs,rb⟩:=hb.reads I ry;exact PySem.SeqAt.compareEq_reads ra rb la lb (by lia) ⟨.bl _,H,I,rfl,q⟩
def PL(hu:X.A.units+64<cLine):OpR X (compareOp .NotEq) (JN X.K true):=by intro Zo s σ H x y v u Q I rx ry h;obtain⟨da,db,ha,hb,la,lb,hd,q⟩:=h;obtain⟨as,ra⟩:=ha.reads I rx;obtain⟨bs,rb⟩:=hb.reads I ry;exact PySem.SeqAt.compareNe_reads ra rb la lb (by lia) ⟨.bl _,H,I,rfl,q⟩
def Q0(i j:Int):Prop:=IntMulOk i j
def Ma:OpR X (binaryOp .Mult) (rI Q0 λi j=>.int (i*j)):=opI λz z z z z z z hc q=>mul_int q hc
def Iv:CallR X (.builtin "isinstance") (λxs H Q=>∃x t c b,xs=[x,.ty c]/\TyOf X.K H x t/\PySem.W.kitOne X.K t (.type c)=some b/\Q (.bl b) H):=by intro Zo s σ H xs us Q I r h;obtain⟨x,t,c,b,rfl,ty,e,q⟩:=h;obtain⟨u,w',rfl,r1,r2⟩:=vals2 r;cases r2;exact isinst_ok I r1 ty e λtk=>⟨.bl b,H,I.tok _,rfl,q⟩
end
open PySem PySem.Spec PyProof.Rows
structure DefAt(K:PySem.W.Frag)(mg:Str->Option Value)(x:Str)(st:Stmt):Prop where
 ex:∃f fd,Fun K x x st f fd/\mg x=some (.ref f)
def Jc{K:PySem.W.Frag}{h:Heap}{mg:Str->Option Value}{x:Str}{st:Stmt}{f:Addr}{oc:Value}{od an:Option Addr}{osl:Array (Option Value)}{kV doc pm cdv ct:Value}(X:K.In h)(G:h.Ns mainGlobals mg)
  (a:PySem.W.nsIn K mainGlobals x=some (some (.ref f))) (l:K.lookup f=some ⟨oc,od,.func (PySem.W.fnOf x x (defArgs st) (defBody st) (defScope st) .none kV doc pm an cdv ct),osl⟩) (c:PySem.W.codeIn K cdv x=true) (k:PySem.W.keepIn K (.ref f)=true):DefAt K mg x st:=
 ⟨f,_,fun_mk l c k,PySem.W.mg_of X G a⟩
section
variable{X:Cx}{j k:Nat}{ps:List Str}{sp:Sp}{x:Str}{p pos:Pos}{e:Expr}{es:List Expr}{t:TA}
def Tv{id:String}{r:List V->Hp->VK->Prop}(hc:CallR X (.builtin id) r)(hm:X.mg x=none)(ha:PA X (e::es) t)(hg:Gl X x:=by rfl)(hv:bootBuiltins x=some (.builtin id):=by decide +kernel)(hn:x≠"__name__":=by decide)(hdb:(x==("__debug__":Str))=false:=by decide)
  (he:starEach (e::es) X.env=(false,eval e X.env)::starEach es X.env:=by rfl) (hpl:(backTo pos (starEach es X.env)).any (·.1)=false:=by rfl) :
  PE X (.Call (.Name x p) (e::es) [] pos) (tCB r t):=pe_callB hc hg hm hv ha hn hdb he hpl
def Rq{T:String}(hm:X.mg x=none)(hg:Gl X x:=by rfl)(hv:bootBuiltins x=some (.type T):=by decide +kernel)(hn:x≠"__name__":=by decide)(hdb:(x==("__debug__":Str))=false:=by decide):PE X (.Name x pos) (tC (.ty T)):=
 pe_bltn hg hm hv rfl hn hdb
end
end L2
namespace L2
open PySem PySem.Spec PyProof.Rows
open PySem PySem.Spec PyProof.Rows
end L2
namespace L2
open PySem PySem.Spec PyProof.Rows
def dN(P:Program)(w:World):CXT:=λouter H s E e s'=>
 ∃(x:Addr) (C a0:Value) (H':Hp) (B:Heap),e=.ref x∧s'.os=s.os∧AllBare s'.gens∧Un (frs outer) [] H H' s.heap s'.heap∧HOk P w H' s'.heap∧Heap.FlyingW B outer x C a0 s'.heap ∧
   (∀b,H' b≠none->∃o,B.get? b=some o)/\(∀b o,s.heap.get? b=some o->b∉frs outer->∃o',B.get? b=some o')/\E C none H'
def Jl{env:Env}{l:List Env}{L:Addr}(h:env.frame=some L):frs (env::l)=L::frs l:=by unfold frs;rw[WW,h]
def Nj{fs:List Addr}{H H':Hp}{h0 h h' B:Heap}(u:Un fs [] H H' h0 h)(hB:B.StaysIn h)(hB':B.StaysIn h')(up:h.UpToSlots h')
  (fr:∀b∈fs,∃o,h.get? b=some o/\∀vs,o.data≠.fields vs) (cov:∀b o,h0.get? b=some o->b∉fs->∃o',B.get? b=some o'):Un fs [] H H' h0 h' where
 keep b o e n hb hx:=by have h1:=u.keep b o e n hb hx;obtain⟨o',e'⟩:=cov b o e hb;have h2:=hB b o' e';rw[h1]at h2;cases h2;exact hB' b o e'
 slot b o e n hb hx:=by obtain⟨sl,h1⟩:=u.slot b o e n hb hx;obtain⟨o1,h2,nf⟩:=fr b hb;rw[h1]at h2;cases h2;obtain⟨sl2,h3⟩:=up b _ h1 nf;exact⟨sl2,h3⟩
 free:=u.free
 there b o e hx:=by
  by_cases hb:b∈fs
  ·obtain⟨o1,h2,nf⟩:=fr b hb;obtain⟨sl2,h3⟩:=up b _ h2 nf;exact⟨_,h3⟩
  ·obtain⟨o',e'⟩:=cov b o e hb;exact⟨o',hB' b o' e'⟩
 tups:=u.tups
 frzs:=u.frzs
 tbls:=u.tbls
def Jq{P:Program}{w:World}{H':Hp}{h h' B:Heap}(ok:HOk P w H' h)(hB:B.StaysIn h)(hB':B.StaysIn h')(cov:∀ b,H' b≠none->∃ o,B.get? b=some o):HOk P w H' h':=λa o e=>
 (ok a o e).stay (λb u hb hu=>by
   have hn:H' b≠none:=by
    rcases hb with rfl | hb
    ·rw[e];simp
    ·rw[hb];simp
   obtain⟨o',e'⟩:=cov b hn;have:=hB b o' e';rw[hu]at this;cases this;exact hB' b u e') (λz h=>h) (λz z h=>h)
section
variable{P:Program}{w:World}{K:PySem.W.Frag}{mg:Str->Option Value}{base:Heap}{N:List Str}{qual:Str}{scope:Scope}{f:Addr}{cd:Value}{A:Around}{outer:List Env}{s:Shared}{H:Hp}{E:XK}
abbrev iJ(P:Program)(w:World)(K:PySem.W.Frag)(mg:Str->Option Value)(base:Heap)(N:List Str)(qual:Str)(scope:Scope)(f:Addr)(cd:Value)(A:Around)(outer:List Env)(s:Shared)(H:Hp)(E:XK):Cx:=
 cxOf (dN P w) P w K mg base N qual scope f cd A outer s H E
def aH:Passes (dN P w) (iJ P w K mg base N qual scope f cd A outer s H E) E:=by
 intro Zo σ H1 s1 e s' I hf;obtain⟨x,C,a0,H',B,rfl,os,bare,un,hok,fl,ci,cii,q⟩:=hf;have J:Inv (iJ P w K mg base N qual scope f cd A outer s H E) Zo σ H' s':=I.call' (ch:=[]) os un hok bare (λb z=>absurd z (by simp))
 have hfr:(iJ P w K mg base N qual scope f cd A outer s H E).A.frames=some ((iJ P w K mg base N qual scope f cd A outer s H E).env::outer):=I.ok.frames;have hfs:∀b∈frs outer,∃o,s'.heap.get? b=some o/\∀vs,o.data≠.fields vs:=λb hb=>(fl.2.2.1.2.2.mem hb).2
 have hfrm:(iJ P w K mg base N qual scope f cd A outer s H E).env.frame=some (iJ P w K mg base N qual scope f cd A outer s H E).env.locals:=rfl;have cov:∀b o,s.heap.get? b=some o->b∉frs outer->∃o',B.get? b=some o':=λb o e hb=>by
  obtain⟨o1,h1⟩:=I.base.there b o e (show b∉([]:List Addr) by simp)
  refine cii b o1 h1 ?_;show b∉frs ((iJ P w K mg base N qual scope f cd A outer s H E).env::outer);rw[Jl hfrm];intro hm;rcases Vf.mp hm with rfl | hm
  ·exact absurd (U7 e) (WF.mpr I.ok.above)
  ·exact hb hm
 show wpAny _ _ (leaving _ (.ref x)) _ _ s';refine wpAny_leaves_onW hfr rfl fl λh' fl' up=>?_
 exact⟨x,C,a0,H',B,rfl,J.os,bare,Nj J.base fl.1 fl'.1 up hfs cov,Jq hok fl.1 fl'.1 ci,fl',ci,cov,q⟩
end
def pick(js:List Nat)(σ:St):St:=js.map λj=>(σ[j]?).getD none
def zN(u:Un fs ex H H' h0 h)(hs:Heap.SameBut C h h')(hC:h0.objs.size<=C):Un fs ex H H' h0 h' where
 keep b o e n hb hx:=(hs.2 b (Vi (Va (U7 e) hC))).trans (u.keep b o e n hb hx)
 slot b o e n hb hx:=by obtain⟨sl,e1⟩:=u.slot b o e n hb hx;exact⟨sl,(hs.2 b (Vi (Va (U7 e) hC))).trans e1⟩
 free:=u.free
 there b o e hx:=by obtain⟨o',e1⟩:=u.there b o e hx;exact⟨o',(hs.2 b (Vi (Va (U7 e) hC))).trans e1⟩
 tups:=u.tups
 frzs:=u.frzs
 tbls:=u.tbls
def uW(ok:HOk P w H h)(hs:Heap.SameBut C h h')(hC:H C=none):HOk P w H h':=λb ob e=>
 (ok b ob e).stay (λc w' hc q=>(hs.2 c (by
   rintro rfl;rcases hc with hc | hc
   ·rw[<-hc,hC]at e;cases e
   ·rw[hC]at hc;cases hc)).trans q) (λz q=>q) λz z q=>q
structure DefC(P:Program)(w:World)(K:PySem.W.Frag)(mg:Str->Option Value)(base:Heap)(k:Nat)(x:Str)(ps:List Str)(sp:Sp):Prop where
 ex:∃f fd,FnOk P w K mg base (dN P w) k f fd ps sp/\Binds K fd ps []/\PySem.W.keepIn K (.ref f)=true/\mg x=some (.ref f)
section
variable{P:Program}{w:World}{K:PySem.W.Frag}{mg:Str->Option Value}{base:Heap}{k:Nat}{x:Str}{N ps:List Str}{sp:Sp}{st:Stmt}
def SQ(F:Fun K x x st f fd)(S:FnScope N ps (defScope st))(len:∀ vs H Q E,sp vs H Q E->vs.length=ps.length)
  (hbody:∀(cdv:Value) (A:Around) (outer:List Env) (s:Shared) (H:Hp) (vs:List V) (Q:VK) (E:XK),Room k (A.deeper (envOfC x (defScope st) s.heap.objs.size f cdv))->sp vs H Q E->
    ∃t,PSs (iJ P w K mg base N x (defScope st) f cdv A outer s H E) (defBody st) t/\t { nx:=λz H'=>Q .non H',rt:=Q } (start N vs) H):FnOk P w K mg base (dN P w) (k+1) f fd ps sp:=by
 obtain⟨oc,od,kV,doc,pm,an,cdv,ct,osl,rfl,l,c⟩:=F.ex;exact fn_of l c S len (hbody cdv)
def DefAt.okE(D:DefAt K mg x st)(S:FnScope N ps (defScope st))(hb:∀ (kV doc pm:Value) (an:Option Addr) (cdv ct:Value) (us:List Value),us.length=ps.length->bindArgs (PySem.W.fnOf x x (defArgs st) (defBody st) (defScope st) .none kV doc pm an cdv ct) ⟨us,[]⟩=pure (ps.zip us))
  (len:∀vs H Q E,sp vs H Q E->vs.length=ps.length)
  (hbody:∀(f:Addr) (cdv:Value) (A:Around) (outer:List Env) (s:Shared) (H:Hp) (vs:List V) (Q:VK) (E:XK),Room k (A.deeper (envOfC x (defScope st) s.heap.objs.size f cdv))->sp vs H Q E->
    ∃t,PSs (iJ P w K mg base N x (defScope st) f cdv A outer s H E) (defBody st) t/\t { nx:=λz H'=>Q .non H',rt:=Q } (start N vs) H):DefC P w K mg base (k+1) x ps sp:=by
 obtain⟨f,fd,F,m⟩:=D.ex;exact⟨f,fd,SQ F S len (hbody f),F.binds hb,F.kp,m⟩
end
def nF:Passes (dN P w) X E0:=λz z z z z z z h=>by obtain⟨_,_,_,_,_,_,_,_,_,_,_,_,_,q⟩:=h;exact q.elim
section
variable{X:Cx}{j k:Nat}{ps:List Str}{sp:Sp}{x:Str}{p pos:Pos}{e:Expr}{es:List Expr}{t:TA}{E:XK}
def JG(D:DefC X.prog X.w X.K X.mg X.base j x ps sp)(hr:Room k X.A)(hx:Passes (dN X.prog X.w) X E)(ha:PA X (e::es) t)(hjk:j<=k:=by decide)(hg:Gl X x:=by rfl)(hdb:(x==("__debug__":Str))=false:=by decide)
  (he:starEach (e::es) X.env=(false,eval e X.env)::starEach es X.env:=by rfl) (hpl:(backTo pos (starEach es X.env)).any (·.1)=false:=by rfl) :
  PE X (.Call (.Name x p) (e::es) [] pos) (tCall sp [] E t):=by
 obtain⟨f,fd,F,b,kp,m⟩:=D.ex;exact pe_call F (hr.mono hjk) hg m kp b .nil hx ha hdb he hpl
end
section
variable{κ:Type}[DecidableEq κ]
def valV(kvs:List (κ×V))(k:κ):Option V:=(kvs.find? λkv=>decide (kv.1=k)).map (·.2)
def putK(kvs:List (κ×V))(k:κ)(v:V):List (κ×V):=
 if (kvs.any λkv=>decide (kv.1=k))=true then kvs.map (λkv=>if kv.1=k then (kv.1,v) else kv) else kvs++[(k,v)]
def valV_pos{r:List (κ×V)}(e:p.1=k):valV (p::r) k=some p.2:=by simp[valV,List.find?_cons,e]
def valV_neg{r:List (κ×V)}(e:¬ p.1=k):valV (p::r) k=valV r k:=by simp[valV,List.find?_cons,e]
theorem valV_any(k:κ):∀ kvs:List (κ×V),(kvs.any λkv=>decide (kv.1=k))=(valV kvs k).isSome
 |[]=>rfl
 |p::r=>by
   rw[Zf];by_cases e:p.1=k
   ·simp only[valV_pos e,decide_eq_true e,Bool.true_or,Option.isSome_some]
   ·rw[valV_neg e,Vz e,Bool.false_or];exact valV_any k r
def length_putK(kvs:List (κ×V))(k:κ)(v:V):(putK kvs k v).length<=kvs.length+1:=by
 unfold putK;split
 ·rw[U6];lia
 ·rw[Vk,Wd,List.length_nil];lia
def putK_new{kvs:List (κ×V)}(v:V)(h:valV kvs k=none):putK kvs k v=kvs++[(k,v)]:=by unfold putK;rw[valV_any,h];exact U8 (by decide)
def RelO.isSome_eq(r:RelO o u):o.isSome=u.isSome:=by
 cases o with
 |none=>cases u with
   |none=>rfl
   |some _=>exact (show False from r).elim
 |some _=>cases u with
   |none=>exact (show False from r).elim
   |some _=>rfl
def KV.val{kvs:List (κ×V)}{vs:List (κ×Value)}(r:KV kvs vs)(k:κ):RelO (valV kvs k) (valueAt vs k):=by
 unfold KV at r;induction r with
 |nil=>exact True.intro
 | @cons p q ps qs h t ih=>
   obtain⟨h1,h2⟩:=h;by_cases e:p.1=k
   ·have e':q.1=k:=h1.symm.trans e;have b:valueAt (q::qs) k=some q.2:=by simp[valueAt,List.find?_cons,e']
    rw[valV_pos e,b];exact h2
   ·have e':¬ q.1=k:=λz=>e (h1.trans z)
    have b:valueAt (q::qs) k=valueAt qs k:=by simp[valueAt,List.find?_cons,e']
    rw[valV_neg e,b];exact ih
theorem KV.any(r:KV kvs vs)(k:κ):(kvs.any λkv=>decide (kv.1=k))=vs.any λkv=>decide (kv.1=k):=by
 unfold KV at r;induction r with
 |nil=>rfl
 |cons h t ih=>rw[Zf,Zf,ih,h.1]
def KV.repl(r:KV kvs vs)(k:κ)(ry:RelV y u):
  KV (kvs.map λkv=>if kv.1=k then (kv.1,y) else kv) (vs.map λkv=>if kv.1=k then (kv.1,u) else kv):=by
 unfold KV at r ⊢
 induction r with
 |nil=>exact .nil
 | @cons p q ps qs h t ih=>
   rw[Vt,Vt];refine .cons ?_ ih;obtain⟨h1,h2⟩:=h;by_cases e:p.1=k
   ·rw[U5 e,U5 (h1.symm.trans e)];exact⟨h1,ry⟩
   ·rw[U8 e,U8 (λz=>e (h1.trans z))];exact⟨h1,h2⟩
def KV.put(r:KV kvs vs)(k:κ)(ry:RelV y u):KV (putK kvs k y) (stored vs k u):=by
 unfold putK stored;rw[r.any k];by_cases e:(vs.any λkv=>decide (kv.1=k))=true
 ·rw[U5 e,U5 e];exact r.repl k ry
 ·rw[U8 e,U8 e];exact Paired.snoc r ⟨rfl,ry⟩
def KV.keys{kvs:List (κ×V)}{vs:List (κ×Value)}(r:KV kvs vs):kvs.map (·.1)=vs.map (·.1):=by
 unfold KV at r;induction r with
 |nil=>rfl
 |cons h t ih=>rw[Vt,Vt,ih,h.1]
theorem KV.length(r:KV kvs vs):kvs.length=vs.length:=Yd r
end
def kV_is(r:RelV (kV k) u):(mixKind P w).is k u=true:=by
 cases k with
 |inl i=>obtain⟨t,e⟩:=(show ∃t,u=Value.int i t from r);subst e;exact mixKind_int P w i t
 |inr x=>obtain⟨t,e⟩:=(show ∃t,u=Value.str x t from r);subst e;exact mixKind_str P w x t
theorem items_are:∀ {ks:List Key}{us:List Value},Vals (ks.map kV) us->ItemsAre (mixKind P w) ks us
 |[],_,r=>by rw[Yo]at r;cases r;exact .nil
 |k::ks,_,r=>by
   rw[Vt]at r;cases r with
   |cons h t=>exact .cons (kV_is h) (items_are t)
abbrev KT(H:Hp):List (List Key×V)->List (List Key×Addr×Value)->Prop:=Paired λp q=>p.1=q.1/\H q.2.1=some (.tup (p.1.map kV))/\RelV p.2 q.2.2
def KT.val{kvs:List (List Key×V)}{xs:List (List Key×Addr×Value)}(r:KT H kvs xs)(k:List Key):RelO (valV kvs k) ((atKey xs k).map (·.2)):=by
 induction r with
 |nil=>exact True.intro
 | @cons p q ps qs h t ih=>
   obtain⟨h1,_,h2⟩:=h;by_cases e:p.1=k
   ·have e':q.1=k:=h1.symm.trans e;have b:atKey (q::qs) k=some q.2:=by simp[atKey,List.find?_cons,e']
    rw[valV_pos e,b];exact h2
   ·have e':¬ q.1=k:=λz=>e (h1.trans z)
    have b:atKey (q::qs) k=atKey qs k:=by simp[atKey,List.find?_cons,e']
    rw[valV_neg e,b];exact ih
def KT.repl(r:KT H kvs xs)(k:List Key)(ry:RelV y u):
  KT H (kvs.map λkv=>if kv.1=k then (kv.1,y) else kv) (xs.map (putAt k u)):=by
 induction r with
 |nil=>exact .nil
 | @cons p q ps qs h t ih=>
   rw[Vt,Vt];refine .cons ?_ ih;obtain⟨h1,h2,h3⟩:=h;unfold putAt;by_cases e:p.1=k
   ·rw[U5 e,U5 (h1.symm.trans e)];exact⟨h1,h2,ry⟩
   ·rw[U8 e,U8 (λz=>e (h1.trans z))];exact⟨h1,h2,h3⟩
def KT.put(r:KT H kvs xs)(k:List Key)(hb:H b=some (.tup (k.map kV)))(ry:RelV y u):
  KT H (putK kvs k y) (storedH xs k b u):=by
 have e:(kvs.any λkv=>decide (kv.1=k))=(atKey xs k).isSome:=by rw[valV_any,(r.val k).isSome_eq,Option.isSome_map]
 unfold putK storedH;rw[e];by_cases q:(atKey xs k).isSome=true
 ·rw[U5 q,U5 q];exact r.repl k ry
 ·rw[U8 q,U8 q];exact Paired.snoc r ⟨rfl,hb,ry⟩
def KT.keeps(r:KT H kvs xs)(ht:∀b ys,H b=some (.tup ys)->H' b=some (.tup ys)):KT H' kvs xs:=
 Paired.mapP r λy y z=>⟨z.1,ht _ _ z.2.1,z.2.2⟩
section
variable{P:Program}{w:World}{H:Hp}{h:Heap}{a:Addr}
def rd_of(ok:HOk P w H h)(e:Rd H a u):ObjOk P w H h a u:=e.ok ok
def dk_rd(ok:HOk P w H h)(e:Rd H a (.dK kvs)):kvs.length<=sizeLine/\(a==sysModules)=false/\∃vs,KV kvs vs/\h.DictOf (mixKind P w) a vs:=
 show ObjOk P w H h a (.dK kvs) from rd_of ok e
def dk_of(ok:HOk P w H h)(e:H a=some (.dK kvs)):kvs.length<=sizeLine/\(a==sysModules)=false/\∃vs,KV kvs vs/\h.DictOf (mixKind P w) a vs:=dk_rd ok (.inl e)
def key_of(ok:HOk P w H h)(e:H a=some (.tup (ks.map kV))):(tupleKind (mixKind P w)).is h ks a:=by
 obtain⟨_,its,r,o,h1,h2,n,h3⟩:=(show ObjOk P w H h a (.tup (ks.map kV)) from ok a _ e)
 exact⟨o,its.toArray,n,h1,h2,h3,by simpa using items_are r⟩
def dt_rd(ok:HOk P w H h)(e:Rd H a (.dT kvs)):kvs.length<=sizeLine/\(a == sysModules)=false /\
  ∃xs,KT H kvs xs/\h.DictOfH (tupleKind (mixKind P w)) a xs:=by
 obtain⟨z,y,xs,r,o,es,ep,h1,h2,h3,h4,h5⟩:=(show ObjOk P w H h a (.dT kvs) from rd_of ok e)
 refine⟨z,y,xs,r,o,es,ep,h1,h2,h3,h4,λx hx=>?_,h5⟩
 have all:∀ {l:List (List Key×V)}{m:List (List Key×Addr×Value)},KT H l m->∀ x∈m,(tupleKind (mixKind P w)).is h x.1 x.2.1:=by
  intro l m q;induction q with
  |nil=>intro x hx;exact nomatch hx
  | @cons p q ps qs hq t ih=>
    intro x hx;rcases Vf.mp hx with e | hx
    ·subst e;exact key_of ok (by rw[<-hq.1];exact hq.2.1)
    ·exact ih x hx
 exact all r x hx
def dt_of(ok:HOk P w H h)(e:H a=some (.dT kvs)):kvs.length<=sizeLine/\(a==sysModules)=false /\
  ∃xs,KT H kvs xs/\h.DictOfH (tupleKind (mixKind P w)) a xs:=dt_rd ok (.inl e)
end
def DGet(H:Hp)(a:Addr)(y:V)(r:Option V):Prop:=
 (∃kvs k,Rd H a (.dK kvs)/\y=kV k/\r=valV kvs k)\/∃kvs k b,Rd H a (.dT kvs)/\y=.ref b/\H b=some (.tup (k.map kV))/\r=valV kvs k
def DPut(H:Hp)(a:Addr)(y v:V)(H':Hp):Prop:=
 (∃kvs k,H a=some (.dK kvs)/\y=kV k/\kvs.length<sizeLine/\H'=upd H a (.dK (putK kvs k v))) \/
 ∃kvs k b,H a=some (.dT kvs)/\y=.ref b/\H b=some (.tup (k.map kV))/\kvs.length<sizeLine/\H'=upd H a (.dT (putK kvs k v))
theorem DGet.k{H:Hp}{a:Addr}{kvs:List (Key×V)}{k:Key}(e:H a=some (.dK kvs)):DGet H a (kV k) (valV kvs k):=.inl ⟨kvs,k,.inl e,rfl,rfl⟩
theorem DPut.k{H:Hp}{a:Addr}{kvs:List (Key×V)}{k:Key}{v:V}(e:H a=some (.dK kvs))(hl:kvs.length<sizeLine):DPut H a (kV k) v (upd H a (.dK (putK kvs k v))):=.inl ⟨kvs,k,e,rfl,hl,rfl⟩
section
variable{X:Cx}{Zo:List (Addr×Obj)}{σ:St}{H:Hp}{s:Shared}{a:Addr}{y v:V}{u r:Value}{o:Option V}{A:Around}{E:Value->Shared->Prop}
def Inv.big(I:Inv X Zo σ H s):sysModules<s.heap.objs.size:=by have h:mainGlobals<s.heap.objs.size:=(I.mod.glob.keeps I.bk).lt;exact Ys (by decide) h
def d_getItem(hu:A.units+1<cLine)(I:Inv X Zo σ H s)(g:DGet H a y (some v))(ry:RelV y u)(h:∀w' s',Inv X Zo σ H s'->RelV v w'->Q w' s'):
  wpAny (model X.prog X.w) A (getItem (.ref a) u) Q E s:=by
 rcases g with ⟨kvs,k,e,ey,l⟩ | ⟨kvs,k,b,e,ey,eb,l⟩
 ·subst ey;obtain⟨z,hd,vs,rel,dd⟩:=dk_rd I.hok e;obtain⟨w',hw,rw'⟩:=RelO.some_of (v:=v) (o:=valueAt vs k) (by rw[l];exact rel.val k)
  exact wpAny_getItem_of (kV_is ry) dd.mapOf hw (h w' _ (I.tok _) rw')
 ·subst ey;cases (show u=Value.ref b from ry)
  obtain⟨z,hd,xs,rel,dd⟩:=dt_rd I.hok e;obtain⟨w',hw,rw'⟩:=RelO.some_of (v:=v) (o:=(atKey xs k).map (·.2)) (by rw[l];exact rel.val k)
  obtain⟨p,hp,hp2⟩:=U4.mp hw;refine wpAny_getItem_heap (tupleKind_room_in1 hu) (key_of I.hok eb) dd hp ?_;rw[hp2];exact h w' _ (I.tok _) rw'
def d_notIn(hu:A.units+1<cLine)(I:Inv X Zo σ H s)(g:DGet H a y o)(ry:RelV y u)(h:∀s',Inv X Zo σ H s'->Q (.bool (!o.isSome)) s'):
  wpAny (model X.prog X.w) A (compareOp .NotIn u (.ref a)) Q E s:=by
 rcases g with ⟨kvs,k,e,ey,l⟩ | ⟨kvs,k,b,e,ey,eb,l⟩
 ·subst ey;obtain⟨z,hd,vs,rel,dd⟩:=dk_rd I.hok e;refine wpAny_notIn_of (kV_is ry) hd dd.mapOf ?_;rw[<-(rel.val k).isSome_eq,<-l];exact h _ (I.tok _)
 ·subst ey;cases (show u=Value.ref b from ry)
  obtain⟨z,hd,xs,rel,dd⟩:=dt_rd I.hok e;refine wpAny_notIn_heap (tupleKind_room_in1 hu) (key_of I.hok eb) hd dd ?_;have q:=(rel.val k).isSome_eq;rw[Option.isSome_map]at q;rw[<-q,<-l];exact h _ (I.tok _)
def d_write(I:Inv X Zo σ H s)(mu:Mut (H a))(hs:Heap.SameBut a s.heap h')(he:∃q,h'.get? a=some q)(new:ObjOk X.prog X.w (upd H a ob) h' a ob):
  Inv X Zo σ (upd H a ob) { s with heap:=h',toks:=t' }:=
 I.write (x:=a) (e:=a) mu (.inl rfl) (λb q hb z=>(hs.2 b hb).trans z) he new
def dk_new(z:kvs.length<=sizeLine)(hd:(a==sysModules)=false)(rel:KV kvs vs)(dd:h'.DictOf (mixKind P w) a vs):
  ObjOk P w H' h' a (.dK kvs):=⟨z,hd,vs,rel,dd⟩
def d_setItem(hu:A.units+1<cLine)(I:Inv X Zo σ H s)(g:DPut H a y v H')(ry:RelV y u)(rv:RelV v r)(h:∀s',Inv X Zo σ H' s'->Q () s'):
  wpAny (model X.prog X.w) A (setItem (.ref a) u r) Q E s:=by
 rcases g with ⟨kvs,k,e,ey,l,eH⟩ | ⟨kvs,k,b,e,ey,eb,l,eH⟩
 ·subst ey eH;obtain⟨z,hd,vs,rel,dd⟩:=dk_of I.hok e;have hz:vs.length<=sizeLine:=by rw[<-rel.length];exact z
  have hl:(putK kvs k v).length<=sizeLine:=by have:=length_putK kvs k v;lia
  refine wpAny_setItem_pairs (hsz:=hz) (kV_is ry) dd λh' dd' hs=>h _ ?_
  have he:∃q,h'.get? a=some q:=let ⟨q,_,_,hq,_⟩:=dd';⟨q,hq⟩
  exact d_write I (by rw[e];exact True.intro) hs he (dk_new hl hd (rel.put k rv) dd')
 ·subst ey eH;cases (show u=Value.ref b from ry)
  obtain⟨z,hd,xs,rel,dd⟩:=dt_of I.hok e;have hz:xs.length<=sizeLine:=by rw[<-Yd rel];exact z
  have hl:(putK kvs k v).length<=sizeLine:=by have:=length_putK kvs k v;lia
  refine wpAny_setItem_heap (hsz:=hz) (tupleKind_room_in1 hu) (key_of I.hok eb) dd λh' dd' hs=>h _ ?_
  obtain⟨q,es,ep,hq,h2,h3,h4,_,h5⟩:=dd';refine d_write I (by rw[e];exact True.intro) hs ⟨q,hq⟩ ⟨hl,hd,_,(rel.put k eb rv).keeps λc ys ec=>?_,q,es,ep,hq,h2,h3,h4,h5⟩
  rw[upd_ne (ne_of ec e (λz=>nomatch z))]
  exact ec
end
def NoSl(i:Expr):Prop:=∀ov iv,subscripted i false ov iv=operate [ov,iv] (getItem ov iv)
def subD_of{prog:Program}{w:World}{A:Around}{E:Value->Shared->Prop}{s:Shared}{env:Env}{value slice:Expr}{pos:Pos}{T id:String}{Q:Value->Shared->Prop}
  (hl:typeLookup (.type T) "__getitem__"=pure (some (.builtin id))) (hs:NoSl slice)
  (h:wpAny (model prog w) A (eval value env) (λo s₁=>wpAny (model prog w) A (eval slice env) (λi s₂=>s₂.TypeIs o T/\wpAny (model prog w) A (getItem o i) Q E s₂) E s₁) E s) :
  wpAny (model prog w) A (eval (.Subscript value slice pos) env) Q E s:=by
 refine Subscript_ (Vn h (λo s₁ h₁=>Vn h₁ (λi s₂ h₂=>?_) λz z x=>x) λz z x=>x)
 obtain⟨hT,h₂⟩:=h₂;unfold subscriptTail;refine UL ?_;rw[getitemInPython_of_ne hT.not_modules];refine UL (wpAny_specialOf hT hl ?_);have fin:wpAny (model prog w) A (subscripted slice false o i) (λr s₃=>wpAny (model prog w) A (letTemporaryGo value o r>>=λz=>pure r) Q E s₃) E s₂:=by rw[hs o i];exact wpAny_operating (Vn h₂ (λr s₃ h₃=>UL (wpAny_letTemporaryGo (UV h₃))) λz z x=>x)
 first
  |exact UV (UL fin)
  |exact UL (UV (UL fin))
  |exact UL fin
def dict_typeIs(I:Inv X Zo σ H s)(g:DGet H a y o):s.TypeIs (.ref a) "dict":=by
 rcases g with ⟨kvs,k,e,_,_⟩ | ⟨kvs,k,b,e,_,_,_⟩
 ·obtain⟨_,_,vs,_,dd⟩:=dk_rd I.hok e;exact dd.typeIs
 ·obtain⟨_,_,xs,_,dd⟩:=dt_rd I.hok e;exact dd.typeIs
def tDGet(td ty:TE):TE:=λσ H Q=>td σ H λx H1=>ty σ H1 λy H2=>∃a v,x=.ref a/\DGet H2 a y (some v)/\Q v H2
section
variable{X:Cx}{o i e value:Expr}{pos pos' tpos:Pos}{td ty tv:TE}
def pe_dget(hu:X.A.units+1<cLine)(ho:PE X o td)(hi:PE X i ty)(hs:NoSl i):PE X (.Subscript o i pos) (tDGet td ty):=by
 intro Zo s σ H Q I h;refine subD_of PySem.F.slot_dict_getitem.lookup hs (thn (ho Zo s σ H _ I h) λu s1 ⟨x,H1,I1,rx,q1⟩=>thn (hi Zo s1 σ H1 _ I1 q1) λiv s2 ⟨y,H2,I2,ry,a,v,ex,g,q2⟩=>?_)
 subst ex;obtain rfl:u=Value.ref a:=rx;exact⟨dict_typeIs I2 g,d_getItem hu I2 g ry λw' s3 I3 rw'=>⟨v,H2,I3,rw',q2⟩⟩
end
def dk_empty(h:Heap)(hb:sysModules<h.objs.size):ObjOk P w H (h.push { cls:=.type "dict",data:=.dict #[] }) h.objs.size (.dK []):=
 ⟨Wo _,WT.mpr (Ne.symm (Vi hb)),[],.nil,Heap.DictOf.new h⟩
def tDNewK:TE:=λz H Q=>∀p,H p=none->Q (.ref p) (upd H p (.dK []))
section
variable{X:Cx}{pos:Pos}
def pe_dnewK:PE X (.Dict [] [] pos) tDNewK:=λZo s σ H Q I h=>
 wpAny_Dict_empty ⟨.ref s.heap.objs.size,_,I.laid (a:=s.heap.objs.size) (o:=.dK []) (t':=s.toks) (λz z q=>UT _ q) (U0 _) (dk_empty s.heap I.big),rfl,h _ (I.hok.fresh (U0 _))⟩
end
def tPairs:List (TE×TE)->St->Hp->(List (V×V)->Hp->Prop)->Prop
 |[],_,H,Q=>Q [] H
 |(tk,tv)::r,σ,H,Q=>tk σ H λx H1=>tv σ H1 λy H2=>tPairs r σ H2 λps H3=>Q ((x,y)::ps) H3
abbrev VV:List (V×V)->List (Value×Value)->Prop:=Paired λp q=>RelV p.1 q.1/\RelV p.2 q.2
def PPs(X:Cx)(pos:Pos)(keys:List (Option Expr))(values:List Expr)(trs:List (TE×TE)):Prop:=
 ∀(Zo:List (Addr×Obj)) (s:Shared) (σ:St) (H:Hp) (Q:List (V×V)->Hp->Prop),Inv X Zo σ H s->tPairs trs σ H Q->
   wpAny (model X.prog X.w) X.A (evalPairs (pairTrees keys values X.env pos)) (λvs s'=>∃ps H',Inv X Zo σ H' s'/\VV ps vs/\Q ps H') X.xe s
def pps_nil:PPs X pos [] [] []:=λZo s σ H Q I h=>pairTrees_nil_walk ⟨[],H,I,.nil,h⟩
def pps_cons(hk:PE X k tk)(hv:PE X v tv)(hr:PPs X pos ks vs trs):
  PPs X pos (some k::ks) (v::vs) ((tk,tv)::trs):=λZo s σ H Q I h=>
 pairTrees_cons_walk (thn (hk Zo s σ H _ I h) λu s1 ⟨x,H1,I1,rx,q1⟩=>thn (hv Zo s1 σ H1 _ I1 q1) λw2 s2 ⟨y,H2,I2,ry,q2⟩=>
  thn (hr Zo s2 σ H2 _ I2 q2) λws s3 ⟨ps,H3,I3,rel,q3⟩=>⟨(x,y)::ps,H3,I3,.cons ⟨rx,ry⟩ rel,q3⟩)
def mergeK(kvs more:List (Key×V)):List (Key×V):=more.foldl (λacc kv=>putK acc kv.1 kv.2) kvs
def KV.merge:∀ {more:List (Key×V)}{rs:List (Key×Value)}{kvs:List (Key×V)}{vs:List (Key×Value)},KV more rs->KV kvs vs->KV (mergeK kvs more) (merged vs rs):=by
 intro more rs kvs vs r;unfold KV at r;induction r generalizing kvs vs with
 |nil=>intro q;exact q
 | @cons p q ps qs h t ih=>
   intro r0;have e:KV (putK kvs p.1 p.2) (stored vs q.1 q.2):=by have:=r0.put p.1 h.2;rw[<-h.1];exact this
   exact ih e
theorem length_mergeK:∀ (more kvs:List (Key×V)),(mergeK kvs more).length<=kvs.length + more.length
 |[],kvs=>by show kvs.length<=kvs.length+0;lia
 |p::r,kvs=>by have h1:=length_mergeK r (putK kvs p.1 p.2);have h2:=length_putK kvs p.1 p.2;show (mergeK (putK kvs p.1 p.2) r).length<=_;rw[Wd];lia
theorem carries_of:∀ {kvs:List (Key×V)}{ws:List (Value×Value)},VV (kvs.map λkv=>(kV kv.1,kv.2)) ws->∃ rs,Carries (mixKind P w) ws rs/\KV kvs rs
 |[],_,r=>by rw[Yo]at r;cases r;exact⟨[],True.intro,.nil⟩
 | p::kvs,_,r=>by
   rw[Vt]at r;cases r with
   | @cons a b as bs h t=>obtain⟨rs,c,q⟩:=carries_of (P:=P) (w:=w) t;obtain⟨b1,b2⟩:=b;exact⟨(p.1,b2)::rs,⟨kV_is h.1,rfl,c⟩,.cons ⟨rfl,h.2⟩ q⟩
def tDisp(trs:List (TE×TE)):TE:=λσ H Q=>∀p,H p=none->tPairs trs σ (upd H p (.dK [])) λps H2=>H2 p=some (.dK [])/\∃kvs:List (Key×V),ps=kvs.map (λkv=>(kV kv.1,kv.2))/\kvs.length<=15/\Q (.ref p) (upd H2 p (.dK (mergeK [] kvs)))
def pe_disp(h:PPs X pos keys values trs)(hall:keys.all (·.isSome)=true)(hl:keys.length=values.length)(h0:keys≠[])
  (h15:keys.length<=15):PE X (.Dict keys values pos) (tDisp trs):=by
 intro Zo s σ H Q I q;have hn:=I.hok.fresh (U0 s.heap.objs.size);have I1:=I.laid (a:=s.heap.objs.size) (o:=.dK []) (h':=s.heap.push { cls:=.type "dict",data:=.dict #[] }) (t':=s.toks) (λy y q=>UT _ q) (U0 _) (dk_empty s.heap I.big)
 refine wpAny_Dict_walk (knd:=mixKind X.prog X.w) hall hl h0 h15 (thn (h Zo _ σ _ _ I1 (q _ hn)) λws s2 ⟨ps,H2,I2,rel,e,kvs,ep,lk,q2⟩=>?_)
 subst ep;obtain⟨rs,c,rk⟩:=carries_of (P:=X.prog) (w:=X.w) rel;obtain⟨z,hd,vs0,r0,dd⟩:=dk_of I2.hok e;cases r0;refine⟨rs,c,dd,λh' dd' hs=>⟨.ref s.heap.objs.size,_,?_,rfl,q2⟩⟩
 have hz:(mergeK [] kvs).length<=sizeLine:=by have h1:=length_mergeK kvs [];rw[List.length_nil]at h1;rw[Ww];lia
 have he:∃q,h'.get? s.heap.objs.size=some q:=let ⟨q,_,_,hq,_⟩:=dd';⟨q,hq⟩
 exact d_write I2 (by rw[e];exact True.intro) hs he (dk_new hz hd (rk.merge .nil) dd')
end L2
namespace HT
open PySem PySem.Spec PyProof.Rows PySem.W
section
variable{prog:Program}{w:World}{A:Around}{E:Value->Shared->Prop}{s:Shared}
def Iw{vs ws:List Value}{Q:Value->Shared->Prop}(ht:IsTup s.heap t vs.toArray)(hb:IsTup s.heap b ws.toArray)(hv:vs=[])
  (h1:Q (.ref b) s):wpAny (model prog w) A (binaryOp .Add (.ref t) (.ref b)) Q E s:=by
 obtain⟨⟨cls,dd,data,sl⟩,ho,hc,n,hd⟩:=id ht;obtain⟨⟨cls2,dd2,data2,sl2⟩,ho2,hc2,n2,hd2⟩:=id hb;simp only at hc hd hc2 hd2;subst hc hd hc2 hd2;exact concat_meets ⟨_,ho,rfl⟩ ⟨_,ho2,rfl⟩ noFill_tuple_add seq_tuple_add YL YB (Yp _ _)
   (tuple_addW0 t b vs.toArray ws.toArray n n2 dd dd2 sl sl2 (by simp[hv])) ⟨ho,ho2,h1⟩
def rE{items:Array Value}{lo hi:Option Int}{Q:Value->Shared->Prop}(ht:IsTup s.heap t items)(hs:s.heap.IsSliceOf sl vl vu .none)(pl:IsPart vl lo)(pu:IsPart vu hi)
  (hw:sIx items.size 0 lo=0/\sIx items.size items.size hi=items.size) (h:Q (.ref t) s):wpAny (model prog w) A (getItem (.ref t) (.ref sl)) Q E s:=by
 obtain⟨os,hos,hcs,hds⟩:=id hs;obtain⟨ot,hot,hct,nt,hdt⟩:=id ht;have hTs:s.TypeIs (.ref sl) "slice":=⟨os,hos,hcs⟩;have hTt:s.TypeIs (.ref t) "tuple":=⟨ot,hot,hct⟩;unfold getItem
 try with_reducible refine VR ?_
 first | refine UL (UV ?_) | skip
 refine UL (wpAny_sequenceKey ht.typeIs (by decide) ?_)
 refine UL (VH (name:=Str.ofString "__getitem__") ht.typeIs Wl
  (VD Wl ht.typeIs entry_tuple_getitem ?_ (args_tuple_getitem _ _)))
 show wpAny _ _ (Builtin.Tuple.tupleItemsOf (.ref t)>>=_) _ _ s;refine UL (tupleItemsOf_ ht ?_);refine UL (XS hTs ?_);rw[U5 (by decide)]
 refine UL (sliceApplied_gen hs pl pu ?_);have hno:((((sIx items.size 0 lo:Nat):Int)==0&&(1:Int)==1&&(sIx items.size items.size hi-sIx items.size 0 lo)==items.size)=true):=by rw[hw.1,hw.2];simp
 show wpAny _ _ (if (((sIx items.size 0 lo:Nat):Int)==0&&(1:Int)==1&&(sIx items.size items.size hi-sIx items.size 0 lo)==items.size)=true then _ else _) _ _ s
 rw[U5 hno];unfold Builtin.Tuple.tupleIsExact;refine UL ?_;refine UL (XS hTt (UV ?_));rw[U5 (by decide)]
 exact UL (Xg (UV ⟨_,rfl,UV h⟩))
end
end HT
namespace L2
open PySem PySem.Spec PyProof.Rows
section
variable{X:Cx}
def I8{xs:List V}{lo hi:Option Int}(h:HT.sIx xs.length 0 lo=0/\HT.sIx xs.length xs.length hi=xs.length):cutV xs lo hi=xs:=by unfold cutV;rw[h.1,h.2];simp
def Tz:V->Option Int->Option Int->Hp->VK->Prop:=λx lo hi H Q=>∃a xs,x=.ref a/\H a=some (.tup xs)/\∀p H',Same H H'->H' p=some (.tup (cutV xs lo hi))->Q (.ref p) H'
def MN:SlR X Tz:=by
 intro Zo s σ H x v vl vu lo hi sl Q I rx hs pl pu h;obtain⟨a,xs,rfl,hx,q⟩:=h;by_cases hw:HT.sIx xs.length 0 lo=0/\HT.sIx xs.length xs.length hi=xs.length
 ·cases rx;obtain⟨its,r,ht,hz⟩:=I.tuple (SqT.of hx);have hlen:its.toArray.size=xs.length:=by rw[Vg];exact r.length.symm
  refine⟨"tuple",_,PyProof.Rows.slot_tuple_getitem.lookup,ht.typeIs,?_⟩;refine HT.rE ht hs pl pu (by rw[hlen];exact hw) ⟨.ref a,H,I,rfl,q a H (Same.refl _) (by rw[I8 hw];exact hx)⟩
 ·exact sl_tup (X:=X) Zo s σ H _ v vl vu lo hi sl Q I rx hs pl pu ⟨a,xs,rfl,SqT.of hx,hw,λp hp=>q p _ (same_new hp _) upd_same⟩
def Rr:R2:=λx y H Q=>∃a b xs ys,x=.ref a/\y=.ref b/\H a=some (.tup xs)/\H b=some (.tup ys)/\xs.length+ys.length<=sizeLine/\∀p H',Same H H'->H' p=some (.tup (xs++ys))->Q (.ref p) H'
def LK:OpR X (binaryOp .Add) Rr:=by
 intro Zo s σ H x y v u Q I rx ry h;obtain⟨a,b,xs,ys,rfl,rfl,ha,hb,hz,q⟩:=h;by_cases hx:xs=[]
 ·cases rx;cases ry;obtain⟨its,r1,p1,_⟩:=I.tuple (SqT.of ha);obtain⟨its2,r2,p2,_⟩:=I.tuple (SqT.of hb);exact HT.Iw p1 p2 (r1.nil_iff.mpr hx) ⟨.ref b,H,I,rfl,q b H (Same.refl _) (by rw[hx,Yi];exact hb)⟩
 ·exact op_catT (X:=X) Zo s σ H _ _ v u Q I rx ry ⟨a,b,xs,ys,rfl,rfl,SqT.of ha,SqT.of hb,hx,hz,λe=>q a H (Same.refl _) (by rw[e,W7];exact ha),λz p hp=>q p _ (same_new hp _) upd_same⟩
end
mutual
inductive RepF(H:Hp):Bool->V->PyData->Prop
 |non {f:Bool}:RepF H f .non .none
 |bl {f:Bool} (b:Bool):RepF H f (.bl b) (.bool b)
 |int {f:Bool} (i:Int):RepF H f (.int i) (.int i)
 |str {f:Bool} (x:Str):RepF H f (.str x) (.str x)
 |lst {f:Bool}{a:Addr}{xs:List V}{ds:List PyData}:H a=some (.lst xs)->RepsF H f xs ds->RepF H f (.ref a) (.list ds)
 |tup {f:Bool}{a:Addr}{xs:List V}{ds:List PyData}:H a=some (.tup xs)->RepsF H f xs ds->RepF H f (.ref a) (.tuple ds)
 |d0 {a:Addr}:H a=some (.dK [])->RepF H false (.ref a) (.dict [])
 |d1 {a:Addr}{i j:Int}:H a=some (.dK [(.inl i,.int j)])->RepF H false (.ref a) (.dict [(.int i,.int j)])
inductive RepsF(H:Hp):Bool->List V->List PyData->Prop
 |nil {f:Bool}:RepsF H f [] []
 |cons {f:Bool}{v:V}{d:PyData}{vs:List V}{ds:List PyData}:RepF H f v d->RepsF H f vs ds->RepsF H f (v::vs) (d::ds)
end
section
variable{X:Cx}{Zo:List (Addr×Obj)}{σ:St}{H:Hp}{s:Shared}
def Ln{P:Program}{w:World}{i:Int}{v:Value}(h:(mixKind P w).is (.inl i) v=true):∃ t,v=.int i t:=by
 cases v with
 | int a t=>
   have e:decide (i=a)=true\/decide (a=i)=true\/(a==i)=true\/(i==a)=true:=by
    first | exact .inl h | exact .inr (.inl h) | exact .inr (.inr (.inl h)) | exact .inr (.inr (.inr h))
   have:a=i:=by rcases e with e | e | e | e<;>simp at e<;>lia
   exact⟨t,by rw[this]⟩
 |_=>first | cases h | (simp[mixKind]at h)
def DX(I:Inv X Zo σ H s){a:Addr}(h:H a=some (.dK [])):∃as,Reads s.heap (.ref a) (.dict []) as/\sysModules∉as:=by
 obtain⟨_,hd,vs,r0,⟨o,es,ep,h1,h2,h3,h4,h5,h6⟩⟩:([]:List (Key×V)).length<=sizeLine/\(a==sysModules)=false/\∃vs,KV [] vs/\s.heap.DictOf (mixKind X.prog X.w) a vs:=I.hok a _ h;cases r0;have he:es.toList=[]:=by cases hx:es.toList with
  |nil=>rfl
  |cons e es'=>rw[hx]at h5;cases h5
 refine⟨_,.dict (kvs:=[]) h1 h2.1 h3 (by rw[he];exact .nil) (by rw[he];exact .nil),?_⟩
 simp only[List.append_nil,List.mem_singleton];exact λz=>(WT.mp hd) z.symm
set_option tactic.hygienic true in
def DY(I:Inv X Zo σ H s){a:Addr}{i j:Int}(h:H a=some (.dK [(.inl i,.int j)])):∃ as,Reads s.heap (.ref a) (.dict [(.int i,.int j)]) as/\sysModules∉as:=by
 obtain⟨_,hd,vs,r0,⟨o,es,ep,h1,h2,h3,h4,h5,h6⟩⟩:([(Sum.inl i,V.int j)]:List (Key×V)).length<=sizeLine/\(a==sysModules)=false/\∃vs,KV [(Sum.inl i,V.int j)] vs/\s.heap.DictOf (mixKind X.prog X.w) a vs:=I.hok a _ h;cases r0 with
 | @cons p q ps qs hq t=>
   cases t;obtain⟨e1,tv,e2⟩:=hq;obtain⟨q1,q2⟩:=q;dsimp only at e1 e2;subst e1 e2;generalize hx:es.toList=el at h5;cases h5 with
   |cons g1 g2 g3=>
     cases g3;rename_i e;obtain⟨tk,ek⟩:=Ln g1;dsimp only at g2;refine⟨_,.dict (kvs:=[(.int i,.int j)]) h1 h2.1 h3 (as:=[]++[]) (bs:=[]++[]) (by rw[hx];exact .cons (by show Reads _ e.key _ _;rw[ek];exact .int i tk) .nil) (by rw[hx];exact .cons (by show Reads _ e.val _ _;rw[g2];exact .int j tv) .nil),?_⟩
     simp only[List.append_nil,List.mem_singleton];exact λz=>(WT.mp hd) z.symm
def RepsF.reads(I:Inv X Zo σ H s){f:Bool}{vs:List V}{ds:List PyData}{us:List Value}(h:RepsF H f vs ds):Vals vs us->∃ as,ReadsAll s.heap us ds as:=
 RepsF.rec (motive_1:=λf v d z=>∀ u,RelV v u->∃ as,Reads s.heap u d as) (motive_2:=λf vs ds z=>∀ us,Vals vs us->∃ as,ReadsAll s.heap us ds as)
  (λu r=>by cases r;exact⟨_,.none⟩)
  (λb u r=>by cases r;exact⟨_,.bool b⟩)
  (λi u r=>by obtain⟨t,rfl⟩:=r;exact⟨_,.int i t⟩)
  (λi u r=>by obtain⟨t,rfl⟩:=r;exact⟨_,.str i t⟩)
  (λh hs ih u r=>by cases r;obtain⟨its,rv,⟨o,n,h1,h2,_,h3⟩,_⟩:=I.list (SqL.of h);obtain⟨as,ra⟩:=ih _ rv;exact⟨_,.list h1 h2 h3 ra⟩)
  (λh hs ih u r=>by cases r;obtain⟨its,rv,⟨o,h1,h2,n,h3⟩,_⟩:=I.tuple (SqT.of h);obtain⟨as,ra⟩:=ih _ rv;exact⟨_,.tuple h1 h2 h3 ra⟩)
  (λh u r=>by cases r;obtain⟨as,ra,_⟩:=DX I h;exact⟨as,ra⟩)
  (λh u r=>by cases r;obtain⟨as,ra,_⟩:=DY I h;exact⟨as,ra⟩)
  (λu r=>by cases r;exact⟨_,.nil⟩)
  (λh hs i1 i2 u r=>by
    cases r with
    |cons r1 r2=>obtain⟨a1,e1⟩:=i1 _ r1;obtain⟨a2,e2⟩:=i2 _ r2;exact⟨_,.cons e1 e2⟩)
  h us
def w5{a:Addr}{d:PyData}{as bs:List Addr}{n:Nat}(r:Reads s.heap (.ref a) d as)(hd:d.depth=n+1)(hb:ReadAtMost s.heap n bs):a∉bs/\ReadAtMost s.heap d.depth (a::bs):=
 ⟨not_mem_of_deeper r (by lia) hb,hd ▸ ReadAtMost.cons r (by lia) hb⟩
def RepsF.k(I:Inv X Zo σ H s){f:Bool}{vs:List V}{ds:List PyData}{us:List Value}(h:RepsF H f vs ds):Vals vs us->PyData.showableAll ds=true->(∀ t∈PyData.shownAll ds,t.length<=sizeLine)->∃ bs,ReadAtMost s.heap (PyData.depthAll ds) bs/\ReprAllK X.prog X.w bs s.heap (PyData.depthAll ds) us (PyData.shownAll ds):=
 RepsF.rec (motive_1:=λf v d q=>∀ u,RelV v u->d.showable=true->d.shown.length<=sizeLine->∃ bs,ReadAtMost s.heap d.depth bs/\ReprK X.prog X.w bs s.heap d.depth u d.shown) (motive_2:=λf vs ds q=>∀ us,Vals vs us->PyData.showableAll ds=true->(∀ t∈PyData.shownAll ds,t.length<=sizeLine)->∃ bs,ReadAtMost s.heap (PyData.depthAll ds) bs/\ReprAllK X.prog X.w bs s.heap (PyData.depthAll ds) us (PyData.shownAll ds))
  (λu r hs hz=>by cases r;exact XQ .none hs (λz=>by simp[PyData.hasDict]at z) hz)
  (λb u r hs hz=>by cases r;exact XQ (.bool b) hs (λz=>by simp[PyData.hasDict]at z) hz)
  (λi u r hs hz=>by obtain⟨t,rfl⟩:=r;exact XQ (.int i t) hs (λz=>by simp[PyData.hasDict]at z) hz)
  (λi u r hs hz=>by obtain⟨t,rfl⟩:=r;exact XQ (.str i t) hs (λz=>by simp[PyData.hasDict]at z) hz)
  (λ{_ _ _ xs} h hs ih u r hs' hz=>by
    cases r;obtain⟨its,rv,⟨o,n,h1,h2,_,h3⟩,_⟩:=I.list (SqL.of h);obtain⟨as,ra⟩:=RepsF.reads I hs rv;have hz':(listText (PyData.shownAll xs)).length<=sizeLine:=by simpa only[PyData.shown] using hz
    obtain⟨bs,hb,hk⟩:=ih _ rv (by simpa only[PyData.showable] using hs') λt ht=>Vp (listText_mem_le ht) hz'
    obtain⟨hn,hc⟩:=w5 (.list h1 h2 h3 ra) (by simp only[PyData.depth]) hb
    refine⟨_,hc,?_⟩;simp only[PyData.depth,PyData.shown];cases its with
    |nil=>cases ra;simp only[PyData.shownAll,listText_nil];exact ReprK.listEmpty h1 h2 h3
    |cons x l=>exact ReprK.list h1 h2 h3 hn (by simpa using hk.length_eq) λi y e=>hk.item i y (by simpa using e))
  (λ{_ _ _ xs} h hs ih u r hs' hz=>by
    cases r;obtain⟨its,rv,⟨o,h1,h2,n,h3⟩,_⟩:=I.tuple (SqT.of h);obtain⟨as,ra⟩:=RepsF.reads I hs rv;have hz':(tupleText (PyData.shownAll xs)).length<=sizeLine:=by simpa only[PyData.shown] using hz
    obtain⟨bs,hb,hk⟩:=ih _ rv (by simpa only[PyData.showable] using hs') λt ht=>Vp (tupleText_mem_le ht) hz'
    obtain⟨hn,hc⟩:=w5 (.tuple h1 h2 h3 ra) (by simp only[PyData.depth]) hb
    refine⟨_,hc,?_⟩;simp only[PyData.depth,PyData.shown];exact ReprK.tuple h1 h2 h3 hn hk)
  (λh u r hs hz=>by cases r;obtain⟨as,ra,n⟩:=DX I h;exact XQ ra hs (λq=>n) hz)
  (λh u r hs hz=>by cases r;obtain⟨as,ra,n⟩:=DY I h;exact XQ ra hs (λq=>n) hz)
  (λus r q q=>by cases r;exact⟨[],(λq h=>nomatch h),by simp only[PyData.shownAll];exact .nil⟩)
  (λ{_ _ d _ ds} h hs i1 i2 us r hs' hz=>by
    cases r with
    |cons r1 r2=>
      have hh:d.showable=true/\PyData.showableAll ds=true:=by simpa[PyData.showableAll] using hs'
      obtain⟨b1,q1,k1⟩:=i1 _ r1 hh.1 (hz _ (by simp only[PyData.shownAll];exact .head _))
      obtain⟨b2,q2,k2⟩:=i2 _ r2 hh.2 λt ht=>hz t (by simp only[PyData.shownAll];exact .tail _ ht)
      simp only[PyData.depthAll,PyData.shownAll];exact⟨b1++b2,(q1.mono (Nat.le_max_left _ _)).append (q2.mono (Nat.le_max_right _ _)),.cons ((k1.more λb hb=>Wu _ hb).level_le (Nat.le_max_left _ _)) (k2.more_le (λb hb=>VB _ hb) (Nat.le_max_right _ _))⟩)
  h us
end
def RepF.toRep{K:PySem.W.Frag}{H:Hp}{v:V}{d:PyData}(h:RepF H true v d):Rep K H v d:=
 RepF.rec (motive_1:=λf v d z=>f=true->Rep K H v d) (motive_2:=λf vs ds z=>f=true->Reps K H vs ds) (λz=>.non) (λb z=>.bl b) (λb z=>.int b) (λb z=>.str b) (λh z i e=>.lst (SqL.of h) (i e)) (λh z i e=>.tup (SqT.of h) (i e)) (λz e=>nomatch e) (λz e=>nomatch e) (λz=>.nil) (λz z i j e=>.cons (i e) (j e)) h rfl
mutual
def cG:PyData->Nat
 |.none | .bool _=>5
 |.int _=>1921
 |.str x=>(reprText x).length
 |.list xs | .tuple xs=>kZ xs+3
 |.dict _=>8000
def kZ:List PyData->Nat
 |[]=>0
 |x::xs=>cG x+2+kZ xs
end
theorem ji:∀xs:List PyData,(PyData.shownAll xs).length=xs.length
 |[]=>by simp only[PyData.shownAll,List.length_nil]
 |x::xs=>by simp only[PyData.shownAll,List.length_cons,ji xs]
def Eh{H:Hp}{f:Bool}{v:V}{d:PyData}(h:RepF H f v d):d.showable=true->d.shown.length<=cG d:=
 RepF.rec (motive_1:=λz z d z=>d.showable=true->d.shown.length<=cG d) (motive_2:=λz z xs z=>PyData.showableAll xs=true->((PyData.shownAll xs).map (·.length)).sum + 2 * xs.length<=kZ xs)
  (λz=>by simp only[PyData.shown,cG];decide +kernel)
  (λb z=>by cases b<;>simp only[PyData.shown,cG]<;>decide +kernel)
  (λi h=>by
    have h':i.natAbs.log2<1920:=by simpa[PyData.showable] using h
    simp only[PyData.shown,cG];exact int_text_len_1921 h')
  (λx z=>by simp only[PyData.shown,cG];exact U0 _)
  (λ{_ _ _ xs} _ hs ih h=>by
    have:=ih (by simpa only[PyData.showable] using h)
    have l:=listText_len_le (PyData.shownAll xs);rw[ji]at l;simp only[PyData.shown,cG]
    lia)
  (λ{_ _ _ xs} _ hs ih h=>by
    have:=ih (by simpa only[PyData.showable] using h)
    have l:=tupleText_len_le (PyData.shownAll xs);rw[ji]at l;simp only[PyData.shown,cG]
    lia)
  (λz z=>by simp only[PyData.shown,PyData.shownKv,cG];decide +kernel)
  (λ{_ i j} _ h=>by
    have h':i.natAbs.log2<1920/\j.natAbs.log2<1920:=by simpa[PyData.showable,PyData.showableKv] using h
    have l1:=int_text_len_1921 h'.1;have l2:=int_text_len_1921 h'.2;have l:=dictText_len_le (PyData.shownKv [(.int i,.int j)]);simp only[PyData.shown,cG];refine Vp l ?_;simp only[PyData.shownKv,PyData.shown,List.map_cons,List.map_nil,List.sum_cons,List.sum_nil,List.length_cons,List.length_nil,strLen_append];have l3:(Str.ofString ": ").length=2:=by decide +kernel
    have l3':(": ":Str).length=2:=by decide +kernel
    lia)
  (λz=>by simp only[PyData.shownAll,List.map_nil,List.sum_nil,List.length_nil,kZ];lia)
  (λ{_ _ x _ xs} hx hs i1 i2 h=>by
    have h':x.showable=true/\PyData.showableAll xs=true:=by simpa[PyData.showableAll] using h
    have a:=i1 h'.1;have b:=i2 h'.2;simp only[PyData.shownAll,List.map_cons,List.sum_cons,List.length_cons,kZ]
    lia)
  h
section
variable{X:Cx}
def Qg:List V->Hp->VK->Prop:=λxs H Q=>∃f v d,xs=[v]/\RepF H f v d/\d.showable=true/\d.depth<=60/\cG d<=sizeLine/\Q (.str d.shown) H
def CW(hg:X.A.guards=some [])(hu:X.A.units + 64<cLine):CallR X (.builtin "repr") Qg:=by
 intro Zo s σ H xs us Q I r h;obtain⟨f,v,d,rfl,rd,ho,hd,hz,q⟩:=h;have hz':=Vp (Eh rd ho) hz;obtain⟨u,rfl,ru⟩:=vals1 r;cases rd with
 |non=>cases ru;exact P.repr_of_none ⟨.str _,H,I.tok _,⟨_,rfl⟩,(by simpa only[PyData.shown] using q)⟩
 |bl b=>cases ru;exact P.repr_of_bool ⟨.str _,H,I.tok _,⟨_,rfl⟩,(by simpa only[PyData.shown] using q)⟩
 |int i=>obtain⟨t,rfl⟩:=ru;exact P.repr_of_int (by simpa[PyData.showable] using ho) ⟨.str _,H,I.tok _,⟨_,rfl⟩,(by simpa only[PyData.shown] using q)⟩
 |str x=>obtain⟨t,rfl⟩:=ru;exact P.repr_of_str ⟨.str _,H,I.tok _,⟨_,rfl⟩,(by simpa only[PyData.shown] using q)⟩ (by simpa only[PyData.shown] using hz')
 | lst h hs=>
   cases ru;obtain⟨its,rv,⟨o,n,h1,h2,_,h3⟩,_⟩:=I.list (SqL.of h);obtain⟨as,ra⟩:=RepsF.reads I hs rv;simp only[PyData.shown]at hz' q;obtain⟨bs,hb,hk⟩:=RepsF.k I hs rv (by simpa only[PyData.showable] using ho) λt ht=>Vp (listText_mem_le ht) hz'
   simp only[PyData.depth]at hd;refine call_repr_slot (by lia) ⟨_,h1,h2⟩ F.slot_list_repr.toG ?_
   cases its with
   |nil=>cases ra;simp only[PyData.shownAll,listText_nil]at q;exact call_list_repr_empty ⟨o,h1,h2⟩ h1 h3 ⟨_,_,rfl,.str _,H,I.kept λz z e=>e,⟨_,rfl⟩,q⟩
   |cons x l=>exact call_list_reprK h1 h2 h3 (w5 (.list h1 h2 h3 ra) (by simp only[PyData.depth]) hb).1 (by simpa using hk.length_eq) (λi y e=>hk.item i y (by simpa using e)) hg (λb z=>Clear.nil b) (by show X.A.units+1+_<_;lia) (λz z e=>e) (λh' u tk hk=>⟨_,_,rfl,.str _,H,I.kept hk,⟨_,rfl⟩,q⟩) hz'
 |tup h hs=>
   cases ru;obtain⟨its,rv,⟨o,h1,h2,n,h3⟩,_⟩:=I.tuple (SqT.of h);obtain⟨as,ra⟩:=RepsF.reads I hs rv;simp only[PyData.shown]at hz' q;obtain⟨bs,hb,hk⟩:=RepsF.k I hs rv (by simpa only[PyData.showable] using ho) λt ht=>Vp (tupleText_mem_le ht) hz'
   simp only[PyData.depth]at hd;refine call_repr_slot (by lia) ⟨_,h1,h2⟩ F.slot_tuple_repr ?_
   exact call_tuple_reprK h1 h2 h3 (w5 (.tuple h1 h2 h3 ra) (by simp only[PyData.depth]) hb).1 hk hg (λb z=>Clear.nil b) (by show X.A.units+1+_<_;lia) (λz z e=>e) (λh' u tk hk=>⟨_,_,rfl,.str _,H,I.kept hk,⟨_,rfl⟩,q⟩) hz'
 |d0 h=>obtain⟨as,ra,nn⟩:=DX I h;cases ru;exact repr_of_reads' ra ho (λz=>nn) hg (by lia) (λz z e=>e) (λh' u tk hk=>⟨.str _,H,I.kept hk,⟨_,rfl⟩,q⟩) hz'
 |d1 h=>obtain⟨as,ra,nn⟩:=DY I h;cases ru;exact repr_of_reads' ra ho (λz=>nn) hg (by lia) (λz z e=>e) (λh' u tk hk=>⟨.str _,H,I.kept hk,⟨_,rfl⟩,q⟩) hz'
end
def Tw(hc:CallR X (.type T) r)(hm:X.mg x=none)(ha:PA X (e::es) t)(hg:Gl X x:=by rfl)(hv:bootBuiltins x=some (.type T):=by decide +kernel)(hn:x≠"__name__":=by decide)(hdb:(x==("__debug__":Str))=false:=by decide)
  (he:starEach (e::es) X.env=(false,eval e X.env)::starEach es X.env:=by rfl) (hpl:(backTo pos (starEach es X.env)).any (·.1)=false:=by rfl) :
  PE X (.Call (.Name x p) (e::es) [] pos) (tCB r t):=pe_callTy hc hg hm hv ha hn hdb he hpl
def notStar:Expr->Bool
 |.Starred _ _=>false
 |_=>true
def bu(h:notStar e=true):starEach (e::es) env=(false,eval e env)::starEach es env:=by cases e<;>first | rfl | cases h
def Tu(ha:PE X e te)(hr:PA X es t)(hs:notStar e=true:=by rfl):PA X (e::es) (tCons te t):=pa_cons ha hr (bu hs)
structure QI(X:Cx)(tg l:Expr)(wi:TI):Prop where
 h:PI X tg l wi
structure QA(X:Cx)(es:List Expr)(t:TA):Prop where
 h:PA X es t
def Hc:QA X [] tNil:=⟨pa_nil⟩
def PX(ha:PE X e te)(hr:QA X es t)(hs:notStar e=true:=by rfl):QA X (e::es) (tCons te t):=⟨Tu ha hr.h hs⟩
section
variable{X:Cx}{j k:Nat}{ps:List Str}{sp:Sp}{x:Str}{p pos:Pos}{e:Expr}{es:List Expr}{t:TA}{E:XK}
def Ml{x1}(h:QA X es t):PE X (.Tuple es x1 pos) (tTup t):=pe_tup h.h
def BR(h:QA X es t):PE X (.List es pos) (tLst t):=pe_lst h.h
def G7(D:DefC X.prog X.w X.K X.mg X.base j x ps sp)(hr:Room k X.A)(hx:Passes (dN X.prog X.w) X E)(ha:QA X (e::es) t)(hjk:j<=k:=by decide)(hg:Gl X x:=by rfl)(hdb:(x==("__debug__":Str))=false:=by decide)
  (he:notStar e=true:=by rfl) (hpl:(backTo pos (starEach es X.env)).any (·.1)=false:=by rfl) :
  PE X (.Call (.Name x p) (e::es) [] pos) (tCall sp [] E t):=JG D hr hx ha.h hjk hg hdb (bu he) hpl
def Kf{id:String}{r:List V->Hp->VK->Prop}(hc:CallR X (.builtin id) r)(hm:X.mg x=none)(ha:QA X (e::es) t)(hg:Gl X x:=by rfl)(hv:bootBuiltins x=some (.builtin id):=by decide +kernel)(hn:x≠"__name__":=by decide)(hdb:(x==("__debug__":Str))=false:=by decide)
  (he:notStar e=true:=by rfl) (hpl:(backTo pos (starEach es X.env)).any (·.1)=false:=by rfl) :
  PE X (.Call (.Name x p) (e::es) [] pos) (tCB r t):=Tv hc hm ha.h hg hv hn hdb (bu he) hpl
def Rp(hc:CallR X (.type T) r)(hm:X.mg x=none)(ha:QA X (e::es) t)(hg:Gl X x:=by rfl)(hv:bootBuiltins x=some (.type T):=by decide +kernel)(hn:x≠"__name__":=by decide)(hdb:(x==("__debug__":Str))=false:=by decide)
  (he:notStar e=true:=by rfl) (hpl:(backTo pos (starEach es X.env)).any (·.1)=false:=by rfl) :
  PE X (.Call (.Name x p) (e::es) [] pos) (tCB r t):=Tw hc hm ha.h hg hv hn hdb (bu he) hpl
def PN{T name id:String}{r:V->List V->Hp->VK->Prop}{o:Expr}{to:TE}{apos cpos:Pos}(pa:PlainAttrs T)(slot:Slot T name id)(hty:typeOf (.builtin id)=pure (.type "method_descriptor"))(hm:MtR X id r)(ho:PE X o to)(ha:QA X (e::es) t)
  (hbase:attributeBase o name X.env (eval o X.env)=eval o X.env:=by rfl)
  (hfew:((backTo cpos (starEach (e::es) X.env)).all (fun x=>!x.1)&&(backToKw cpos (keywordEach [] X.env)).all (fun x=>x.1.isSome)
   &&decide ((e::es).length+([]:List Keyword).length+(if ([]:List Keyword).isEmpty then 0 else 1)<30))=true:=by rfl)
  (hline:(apos.endLine==cpos.line)=true:=by rfl) (hs:notStar e=true:=by rfl) (hplain:(backTo cpos (starEach es X.env)).any (·.1)=false:=by rfl) :
  PE X (.Call (.Attribute o name apos) (e::es) [] cpos) (tBM X.K T r to t):=pe_bm pa slot hty hm ho ha.h hbase hfew hline (bu hs) hplain
def Du(hg:Gl X "range")(hm:X.mg "range"=none)(ha:QA X [a] ta)(hs:notStar a=true:=by rfl):QI X tg (.Call (.Name "range" p) [a] [] pos) (iRng1 ta):=⟨pi_range1 hg hm ha.h (bu hs)⟩
def Dv(hg:Gl X "range")(hm:X.mg "range"=none)(ha:QA X [a,b] ta)(hs:notStar a=true:=by rfl)(hs2:notStar b=true:=by rfl):QI X tg (.Call (.Name "range" p) [a,b] [] pos) (iRng2 ta):=
 ⟨pi_range2 hg hm ha.h ((bu hs).trans (by rw[bu hs2];rfl)) (bu hs2)⟩
end
def off(H:Hp)(p:Addr):Hp:=λa=>if a=p then none else H a
def xJ{α:Type}(P:α->Prop):List α->Prop
 |[]=>True
 |a::l=>P a/\xJ P l
theorem oh:∀ {l:List α},xJ P l->∀ a∈l,P a
 |[],_,_,h=>nomatch h
 |b::l,h,a,hm=>by
   rcases Vf.mp hm with rfl | hm
   ·exact h.1
   ·exact oh h.2 a hm
set_option tactic.hygienic true in
theorem mem_of_lookup:∀ {l:List (Str×β)},l.lookup y=some c->(y,c)∈l
 |[],h=>by cases h
 | (z,d)::l,h=>by
   rw[W4]at h;split at h
   ·rename_i e;have e':y=z:=by simpa using e
    cases h;rw[e'];exact Vm ..
   ·exact Vq _ (mem_of_lookup h)
def QL{cl cells:List (Str×Addr)}(h:xJ (λp=>cells.lookup p.1=some p.2) cl):∀y c,cl.lookup y=some c->cells.lookup y=some c:=λy c e=>oh h (y,c) (mem_of_lookup e)
def Jr:NameKind->Bool
 |.cell | .free=>true
 |_=>false
def Oj{names:List (Str×NameKind)}{cl:List (Str×Addr)}(h:(names.all λp=>!Jr p.2 || (cl.lookup p.1).isSome)=true):∀y,(names.lookup y=some .cell\/names.lookup y=some .free)->∃c,cl.lookup y=some c:=λy e=>by
 have hh:=Xf.mp h;rcases e with e | e
 ·have:=hh _ (mem_of_lookup e);simp only[Jr,Bool.not_true,Bool.false_or]at this;exact Xu.mp this
 ·have:=hh _ (mem_of_lookup e);simp only[Jr,Bool.not_true,Bool.false_or]at this;exact Xu.mp this
def Oe{js:List Nat}{fr:List Str}{P:Nat->Str->Prop}(h:xJ (λp:Nat×Str=>P p.1 p.2) (js.zip fr)):∀(k j:Nat) (y:Str),js[k]?=some j->fr[k]?=some y->P j y:=λk j y h1 h2=>by refine oh h (j,y) (XR.mpr ⟨k,?_⟩);rw[List.getElem?_zip_eq_some];exact⟨h1,h2⟩
section
variable{X:Cx}
def Jk:entryFor table "tuple_iterator.__iter__"=some Builtin.«dict_keyiterator.__iter__»:=
 entryFor_alias (id' := "dict_keyiterator.__iter__") (by kernel_rfl) rfl (by decide +kernel) (by kernel_rfl)
def uY(hit:IsTupIter s.heap it t i)(h:Q (.ref it) s):
  wpAny (model prog w) A (pyIter (.ref it)) Q E s:=by
 refine YC hit.typeIs F.slot_tuple_iterator_iter (VD F.slot_tuple_iterator_iter hit.typeIs Jk ?_ (F.args_tuple_iterator_iter_1 _));show wpAny _ _ (ret (.ref it)) _ _ s;exact UV ⟨_,rfl, "tuple_iterator",_,hit.typeIs,slot_tupleiter_next.lookup,h⟩
def Ia(hh:A.handled=none)(I ax:Addr)(hne:ax≠I)(items:Array Value):
  Walks prog w A I [I,ax] [I] items.size (λi v=>items[i]?=some v) (λi h=>IsTupIter h I ax i/\IsTup h ax items) where
 sub:=λb hb=>by simp at hb;simp[hb]
 frame:=λi h h' st hk=>by obtain⟨⟨o,e1,e2⟩,⟨o',f1,f2⟩⟩:=st;exact⟨⟨o,hk I (by simp) o e1,e2⟩,⟨o',hk ax (by simp) o' f1,f2⟩⟩
 item:=λi s Q E hi st hQ=>by
  refine next_tuple_item st.1 st.2 (x:=items[i]) (by simp[hi]) λh' hit' hs'=>?_
  exact hQ _ h' s.toks (by simp[hi]) ⟨hit',st.2.extBut hs'.extBut hne⟩ λb o hb e=>hs'.extBut b o (λh=>hb (by simp[h])) e
 done:=λs Q E st hQ=>next_tuple_end hh st.1 st.2 (by simp) λh' he'=>hQ h' s.toks λb o hb e=>he' b o (λh=>hb (by simp[h])) e
 self:=λz z z z st hQ=>uY st.1 hQ
def gF:V->Bool
 |.bl b=>b
 |.int i=>i != 0
 |_=>false
def scS:V->Bool
 |.bl _=>true
 |.int _=>true
 |_=>false
def HX(h:scS v=true)(r:RelV v u)(q:Q (gF v) s):wpAny (model prog w) A (truthy u) Q E s:=by
 cases v with
 |bl b=>cases r;exact WP q
 |int i=>obtain⟨t,rfl⟩:=r;exact PyProof.Rows.truthy_int q
 |_=>cases h
def range_all{xs:List V}{tr:Nat->Bool}(h:∀(i:Nat) (x:V),xs[i]?=some x->tr i=gF x):(List.range xs.length).all tr=xs.all gF:=by
 rw[Vu,Xf,Xf];constructor
 ·intro q x hx;obtain⟨i,hi,e⟩:=V8.mp hx;have:=q i (Ve.mpr hi);rw[h i x (by rw[U3 hi,e])]at this
  exact this
 ·intro q i hi;have hi':=Ve.mp hi;rw[h i xs[i] (U3 hi')];exact q _ (V5 hi')
def range_any{xs:List V}{tr:Nat->Bool}(h:∀(i:Nat) (x:V),xs[i]?=some x->tr i=gF x):(List.range xs.length).any tr=xs.any gF:=by
 rw[Vu,X8,X8];constructor
 ·rintro⟨i,hi,e⟩;have hi':=Ve.mp hi;rw[h i xs[i] (U3 hi')]at e;exact⟨_,V5 hi',e⟩
 ·rintro⟨x,hx,e⟩;obtain⟨i,hi,ex⟩:=V8.mp hx;refine⟨i,Ve.mpr hi,?_⟩;rw[h i x (by rw[U3 hi,ex])]
  exact e
def Kr{xs:List V}{its:List Value}(rv:Vals xs its)(hs:∀x∈xs,scS x=true):TruthOf prog w A (λi v=>its.toArray[i]?=some v) (λi=>gF (xs[i]?.getD .non)):=by
 intro i v s Q E hP hQ;have e:its[i]?=some v:=by simpa using hP
 have hl:=rv.length;have hi:i<xs.length:=by rw[hl];exact (UW.mp e).1
 obtain⟨u,e2,r⟩:=rv.get (U3 hi);rw[e]at e2;cases e2;refine HX (hs _ (V5 hi)) r ?_;have hQ':Q (gF (xs[i]?.getD V.non)) s:=hQ;rw[U3 hi]at hQ';exact hQ'
def Ir(hh:X.A.handled=none):CallR X (.builtin "all") (λvs H Q=>∃l xs,vs=[.ref l]/\H l=some (.lst xs)/\(∀x∈xs,scS x=true)/\Q (.bl (xs.all gF)) H):=by
 intro Zo s σ H vs us Q I r h;obtain⟨l,xs,rfl,hH,hs,q⟩:=h;obtain⟨u,rfl,ru⟩:=vals1 r;cases ru;obtain⟨its,rv,p,hz⟩:=I.list (SqL.of (K:=X.K) hH);have hl:l<s.heap.objs.size:=by obtain⟨o,n,e,_⟩:=p;exact U7 e
 refine call_all_walk (W8 p.isList ?_);refine⟨s.heap.objs.size,[s.heap.objs.size,l],[s.heap.objs.size],its.toArray.size,λi v=>its.toArray[i]?=some v,λi h=>h.IsListIter s.heap.objs.size l i/\h.IsList l its.toArray,λi=>gF (xs[i]?.getD .non),rfl,Walks.list (A:=X.A.in1) hh s.heap.objs.size l (Vi hl) its.toArray,⟨⟨_,U9 _ rfl,rfl,rfl⟩,p.isList.at λo e=>UT _ e⟩,Kr rv hs,λh' tk hk=>?_⟩
 refine⟨.bl (xs.all gF),H,I.kept λb o e=>hk b o (λz=>?_) (UT _ e),?_,q⟩
 ·have:b=s.heap.objs.size:=by simpa using z
  exact absurd (U7 e) (by rw[this];exact Wm _)
 ·rw[show its.toArray.size=xs.length by rw[Vg];exact rv.length.symm]
  show Value.bool _=Value.bool _;rw[range_all λi x e=>by rw[e];rfl]
def Iu(hh:X.A.handled=none):CallR X (.builtin "any") (λvs H Q=>∃l xs,vs=[.ref l]/\H l=some (.tup xs)/\(∀x∈xs,scS x=true)/\Q (.bl (xs.any gF)) H):=by
 intro Zo s σ H vs us Q I r h;obtain⟨l,xs,rfl,hH,hs,q⟩:=h;obtain⟨u,rfl,ru⟩:=vals1 r;cases ru;obtain⟨its,rv,p,hz⟩:=I.tuple (SqT.of (K:=X.K) hH);have hl:l<s.heap.objs.size:=by obtain⟨o,e,_⟩:=p;exact U7 e
 refine call_any_walk (Yz p ?_);refine⟨s.heap.objs.size,[s.heap.objs.size,l],[s.heap.objs.size],its.toArray.size,λi v=>its.toArray[i]?=some v,λi h=>IsTupIter h s.heap.objs.size l i/\IsTup h l its.toArray,λi=>gF (xs[i]?.getD .non),rfl,Ia (A:=X.A.in1) hh s.heap.objs.size l (Vi hl) its.toArray,⟨⟨_,U9 _ rfl,rfl,rfl⟩,?_⟩,Kr rv hs,λh' tk hk=>?_⟩
 ·obtain⟨o',f1,f2⟩:=p;exact⟨o',UT _ f1,f2⟩
 refine⟨.bl (xs.any gF),H,I.kept λb o e=>hk b o (λz=>?_) (UT _ e),?_,q⟩
 ·have:b=s.heap.objs.size:=by simpa using z
  exact absurd (U7 e) (by rw[this];exact Wm _)
 ·rw[show its.toArray.size=xs.length by rw[Vg];exact rv.length.symm]
  show Value.bool _=Value.bool _;rw[range_any λi x e=>by rw[e];rfl]
def jU:fillsNumberSlot (.type "tuple") "mul"=pure false:=
 PySem.fillsNumberSlot_seq (id := "tuple.__mul__") (r:=some (.builtin "tuple.__rmul__")) F.slot_tuple_mul.lookup (by decide +kernel) F.slot_tuple_rmul.lookup (by decide +kernel)
def p8:seqRepeat? (.type "tuple")=pure (some (.builtin "tuple.__mul__")):=by
 unfold seqRepeat?;rw[PySem.seqSlot_of (T := "tuple") (name := "__mul__") (id := "tuple.__mul__") F.slot_tuple_mul.lookup (by decide +kernel),PySem.seqSlot_of (T := "tuple") (name := "__rmul__") (id := "tuple.__rmul__") F.slot_tuple_rmul.lookup (by decide +kernel)]
 rfl
def uI(a:Int)(t:Tok)(l:Addr)(items:Array Value)(n:Nat)(dd:Option Addr)(sl:Array (Option Value)):
  Meets (Builtin.«int.__rmul__» ⟨[.int a t,.ref l],[]⟩) (λz R s=>s.heap.get? l=some { cls:=.type "tuple",dict:=dd,data:=.seq items n,slots:=sl }/\R (.ok (.ret Value.notImplemented)) s):=
 .of_wp λprog w A R s h=>by obtain⟨hp,g,d,tk,os⟩:=s;obtain⟨hl,h⟩:=h;wp_walk;exact⟨_,rfl,h⟩
open PySem.AutoSeq1 (wpAny_loadPart') in
def Rj(l:Addr)(items:Array Value)(n:Nat)(dd:Option Addr)(sl:Array (Option Value))(t:Tok):
  Meets (Builtin.«tuple.__mul__» ⟨[.ref l,.int 1 t],[]⟩) (λz R s=>s.heap.get? l=some { cls:=.type "tuple",dict:=dd,data:=.seq items n,slots:=sl }/\R (.ok (.ret (.ref l))) s):=
 .of_wp λprog w A R s h=>by
  obtain⟨hp,g,d,tk,os⟩:=s;obtain⟨hl,h⟩:=h;have f1:=AutoSeq1.idx_int;have f2:=Yr;unfold Builtin.«tuple.__mul__»
  wp_walk using XF hl
  exact⟨_,rfl,h⟩
open PySem.AutoSeq1 (wpAny_loadPart') in
def Rk(l:Addr)(items:Array Value)(n:Nat)(dd:Option Addr)(sl:Array (Option Value))(k:Int)(t:Tok)(h0:¬(decide (k < -2 ^ 63) || decide (k ≥ 2 ^ 63))=true)(h1:¬(items.isEmpty || k == 1)=true)(h2:¬(decide (k<=0) || items.isEmpty)=true)
  (h3:¬((items.size:Int)*k > (2^63-1) / 8)) (h4:¬Builtin.Tuple.tupleTooMany ((items.size:Int)*k)=true) (h5:sizeOk (.seq (List.foldl (λx1 x2=>x1++x2) #[] (List.replicate k.toNat items)))) :
  Meets (Builtin.«tuple.__mul__» ⟨[.ref l,.int k t],[]⟩) (λz R s=>s.heap.get? l=some { cls:=.type "tuple",dict:=dd,data:=.seq items n,slots:=sl } /\
   R (.ok (.ret (.ref s.heap.objs.size))) { s with heap:=s.heap.push { cls:=.type "tuple",data:=.seq (List.foldl (λx1 x2=>x1++x2) #[] (List.replicate k.toNat items)) } }):=
 .of_wp λprog w A R s h=>by
  obtain⟨hp,g,d,tk,os⟩:=s;obtain⟨hl,h⟩:=h;have f1:=AutoSeq1.idx_int;have f2:=Yr;unfold Builtin.«tuple.__mul__»
  wp_walk using XF hl
  rw[U8 h0]
  wp_walk using XF hl
  rw[U8 h3]
  wp_walk using XF hl
  rw[U8 (show ¬ _ > sizeLine from WF.mpr h5)]
  wp_walk using XF hl
  all_goals first | exact⟨_,rfl,h⟩ | assumption
def Rt:R2:=λx y H Q=>∃(l:Addr) (c:V) (k:Int),x=.ref l/\y=.int k/\H l=some (.tup [c])/\1<=k/\k<=1000/\∀p H',Same H H'->H' p=some (.tup (List.replicate k.toNat c))->Q (.ref p) H'
def Mi:OpR X (binaryOp .Mult) Rt:=by
 intro Zo s σ H x y v u Q I rx ry h;obtain⟨l,c,k,rfl,rfl,hH,h1,h2,q⟩:=h;cases rx;obtain⟨t,rfl⟩:=ry;obtain⟨its,r,⟨⟨cls,dd,data,sl⟩,e,hc,n,hd⟩,hz⟩:=I.tuple (SqT.of (K:=X.K) hH);simp only at hc hd;subst hc hd;obtain⟨u,rfl,ru⟩:=vals1 r;have ty:s.TypeIs (.ref l) "tuple":=⟨_,e,rfl⟩;refine Yh (T := "tuple") (U := "int") (by decide) ty (λs'=>Yx s' k t) jU F.fills_int_mul XD p8 F.slot_int_index.lookup
  (Xo XD (Yx s k t) F.entry_int_rmul (F.args_int_rmul_2 _ _) (uI k t l _ n dd sl) ⟨e,rfl,ty,?_⟩)
 by_cases hk:k=1
 ·subst hk;refine Xo F.slot_tuple_mul ty F.entry_tuple_mul (F.args_tuple_mul_2 _ _) (Rj l _ n dd sl t) ⟨e,?_⟩;exact⟨.ref l,H,I,rfl,q l H (Same.refl _) hH⟩
 ·have fl:List.foldl (λx1 x2=>x1++x2) #[] (List.replicate k.toNat #[u])=(List.replicate k.toNat u).toArray:=by
   have:=foldl_rep [u] k.toNat [];rw[Yi]at this;rw[this];have e2:∀m:Nat,(List.replicate m [u]).flatten=List.replicate m u:=λm=>by
    induction m with
    |zero=>rfl
    |succ m ih=>rw[Wb,W9,ih,Wb];rfl
   rw[e2]
  refine Xo F.slot_tuple_mul ty F.entry_tuple_mul (F.args_tuple_mul_2 _ _) (Rk l #[u] n dd sl k t ?_ ?_ ?_ ?_ ?_ ?_) ⟨e,?_⟩
  ·simp;lia
  ·simp[hk]
  ·simp;lia
  ·show ¬ (((1:Nat):Int)*k > (2^63-1) / 8);lia
  ·unfold Builtin.Tuple.tupleTooMany;rw[Ww];show ¬ decide (((1:Nat):Int)*k > _)=true;simp;lia
  ·show (List.foldl (λx1 x2=>x1++x2) #[] (List.replicate k.toNat #[u])).size<=sizeLine
   rw[fl,Vg,Vw,Ww];lia
  rw[fl];have rr:∀m:Nat,Vals (List.replicate m c) (List.replicate m u):=λm=>by
   induction m with
   |zero=>exact .nil
   |succ m ih=>rw[Wb,Wb];exact .cons ru ih
  refine⟨.ref s.heap.objs.size,_,I.laid (t':=s.toks) (o:=.tup (List.replicate k.toNat c)) (λb ob q=>UT _ q) (U0 _) ?_,rfl,q _ _ (same_new (I.hok.fresh (U0 _)) _) upd_same⟩
  exact⟨by rw[Vw,Ww];lia,_,rr _,Yn _ _⟩
def Ro(h:X.mg x=some (.int i t))(hg:Gl X x:=by rfl)(hd:(x==("__debug__":Str))=false:=by decide):PE X (.Name x pos) (tC (.int i)):=pe_glob hg h ⟨t,rfl⟩ hd
theorem sH:∀{l:List α},(∀x∈l,f x=g x)->l.filterMap f=l.filterMap g
 |[],_=>rfl
 |a::l,h=>by rw[WW,WW,h a (Vm ..),sH λx hx=>h x (Vq _ hx)]
def JL(xs:List Value):((List.range xs.length).filterMap λ(m:Nat)=>xs.toArray[(((xs.length:Int)-1)+(m:Int)*(-1)).toNat]?)=xs.reverse:=by
 have e:(List.range xs.length).filterMap (λ(m:Nat)=>xs.toArray[(((xs.length:Int)-1)+(m:Int)*(-1)).toNat]?)=(List.range xs.length).filterMap (λ(m:Nat)=>xs.reverse[m]?):=by
  refine sH λm hm=>?_
  have hm':=Ve.mp hm;rw[List.getElem?_reverse hm'];have:(((xs.length:Int)-1)+(m:Int)*(-1)).toNat=xs.length-1-m:=by lia
  rw[this];simp
 rw[e];have q:=pick_run xs.reverse.toArray 0 xs.length;rw[List.filterMap_map]at q;have e2:(List.range xs.length).filterMap (λ(m:Nat)=>xs.reverse[m]?)=(List.range xs.length).filterMap ((λx=>xs.reverse.toArray[x]?) ∘ λx=>0+x):=sH λm z=>by simp
 rw[e2,q];show List.take xs.length (List.drop 0 xs.reverse)=xs.reverse;rw[List.drop_zero];exact Xh (by simp)
def tQ{E:Value->Shared->Prop}{n:Nat}{Q:Int×Int×Nat->Shared->Prop}(hs:s.heap.IsSliceOf sl .none .none (.int (-1) tk))(h:Q (((n:Int)-1),-1,n) s):
  wpAny (model prog w) A (Builtin.Slice.sliceApplied (.ref sl) (pure (n:Int))) Q E s:=by
 obtain⟨os,hos,hcs,hds⟩:=id hs;unfold Builtin.Slice.sliceApplied Builtin.Slice.sliceFields;refine UL (UL (VG hos hds (x:=.none) rfl (UL (VG hos hds (x:=.none) rfl (UL (VG hos hds (x:=.int (-1) tk) rfl (UV ?_)))))));refine UL (slicePart_int ?_);show wpAny _ _ (if ((-1:Int)==0)=true then _ else _) _ _ s
 rw[U8 (by decide)]
 refine UL (slicePart_none (UL (slicePart_none (UL (UV ?_)))));have e:Builtin.Slice.slicePlaces ((n:Int)-1) (-1) (-1)=n:=by
  unfold Builtin.Slice.slicePlaces;rw[U8 (by decide),show -(-1:Int)=1 from rfl,Int.ediv_one]
  split<;>lia
 show wpAny _ _ (pure (((n:Int)-1),(-1:Int),Builtin.Slice.slicePlaces ((n:Int)-1) (-1) (-1))) _ _ s;rw[e];exact UV h
def rF{E:Value->Shared->Prop}{its:List Value}{Q:Value->Shared->Prop}(ht:IsTup s.heap t its.toArray)(hs:s.heap.IsSliceOf sl .none .none (.int (-1) tk))
  (h:Q (.ref s.heap.objs.size) { s with heap:=s.heap.push { cls:=.type "tuple",data:=.seq its.reverse.toArray } }) (hsz:its.length<=sizeLine):wpAny (model prog w) A (getItem (.ref t) (.ref sl)) Q E s:=by
 obtain⟨os,hos,hcs,hds⟩:=id hs;have hTs:s.TypeIs (.ref sl) "slice":=⟨os,hos,hcs⟩;unfold getItem
 try with_reducible refine VR ?_
 first | refine UL (UV ?_) | skip
 refine UL (wpAny_sequenceKey ht.typeIs (by decide) ?_)
 refine UL (VH (name:=Str.ofString "__getitem__") ht.typeIs Wl
  (VD Wl ht.typeIs entry_tuple_getitem ?_ (args_tuple_getitem _ _)))
 show wpAny _ _ (Builtin.Tuple.tupleItemsOf (.ref t)>>=_) _ _ s;refine UL (tupleItemsOf_ ht ?_);refine UL (XS hTs ?_);rw[U5 (by decide)]
 rw[show its.toArray.size=its.length from by simp]
 refine UL (tQ hs ?_);have hno:¬ ((((its.length:Int)-1)==0&&(-1:Int)==1&&its.length==its.length)=true):=by simp
 show wpAny _ _ (if ((((its.length:Int)-1)==0&&(-1:Int)==1&&its.length==its.length)=true) then _ else _) _ _ s
 rw[U8 hno,JL];have htake:sizeOk (.seq its.reverse.toArray):=by show its.reverse.toArray.size<=sizeLine;rw[Vg,List.length_reverse];exact hsz
 first
  |exact UL (m:=Builtin.Tuple.tupleExact _) (Vr (UV ⟨_,rfl,UV h⟩) htake)
  |exact UL (m:=Builtin.Tuple.tupleExact _) (Vr (UL (UV (UV ⟨_,rfl,UV h⟩))) htake)
  |exact UL (UL (m:=Builtin.Tuple.tupleExact _) (Vr (UV (UV ⟨_,rfl,UV h⟩)) htake))
  |exact UL (UL (m:=Builtin.Tuple.tupleExact _) (Vr (UV ⟨_,rfl,UV h⟩) htake))
def T3(te:TE):TE:=λσ H Q=>te σ H λx H1=>∃a xs,x=.ref a/\H1 a=some (.tup xs)/\∀p,H1 p=none->Q (.ref p) (upd H1 p (.tup xs.reverse))
def PP(he:PE X e te):PE X (.Subscript e (.Slice none none (some (.UnaryOp .USub (.Constant (.int 1) j p3) p4)) p2) pos) (T3 te):=by
 intro Zo s σ H Q I h;refine Subscript_ (thn (he Zo s σ H _ I h) λv s1 ⟨x,H1,I1,r1,q1⟩=>?_)
 obtain⟨a,xs,rfl,hx,q⟩:=q1;cases r1;refine wpAny_Slice ?_;rw[evalPart_none];refine UV (UV ?_);rw[evalPart_some];have hu:PE X (.UnaryOp .USub (.Constant (.int 1) j p3) p4) (tUn (rU λi=>.int (-i)) (tC (.int 1))):=pe_un un_neg pe_int
 refine thn (hu Zo s1 σ H1 (λv H'=>v=.int (-1)/\H'=H1) I1 ⟨1,rfl,rfl,rfl⟩) λu s2 ⟨y,H2,I2,r2,ey,eh⟩=>?_
 subst ey eh;obtain⟨tk,rfl⟩:=r2;have I3:Inv X Zo σ H2 { s2 with heap:=s2.heap.push { cls:=.type "slice",data:=.fields #[.none,.none,.int (-1) tk] } }:=I2.kept (t':=s2.toks) λb ob q=>UT _ q
 obtain⟨its,r,ht,hz⟩:=I3.tuple (SqT.of (K:=X.K) hx);refine tail_any (ops:=[.ref a,.ref s2.heap.objs.size]) ht.typeIs PyProof.Rows.slot_tuple_getitem.lookup (rF ht (Heap.IsSliceOf.new ..) ?_ (by rw[<-r.length];exact hz)) (by with_unfolding_all rfl)
 refine⟨.ref _,_,I3.laid (t':=s2.toks) (o:=.tup xs.reverse) (λb ob q=>UT _ q) (U0 _) ?_,rfl,q _ (I3.hok.fresh (U0 _))⟩
 exact⟨by rw[List.length_reverse];exact hz,_,r.reverse,Yn _ _⟩
end
structure MethAt(K:PySem.W.Frag)(C:Addr)(x qual:Str)(st:Stmt):Prop where
 ex:∃f fd,Fun K x qual st f fd/\PySem.W.findIn K (.ref C) x=some (some (.ref f))/\PySem.W.isFn K (.ref f)=true
structure MethC(P:Program)(w:World)(K:PySem.W.Frag)(mg:Str->Option Value)(base:Heap)(k:Nat)(C:Addr)(x:Str)(ps:List Str)(sp:Sp):Prop where
 ex:∃f fd,FnOk P w K mg base (dN P w) k f fd ps sp/\Binds K fd ps []/\PySem.W.keepIn K (.ref f)=true/\PySem.W.findIn K (.ref C) x=some (some (.ref f))/\PySem.W.isFn K (.ref f)=true
def GC{K:PySem.W.Frag}{C:Addr}{x qual:Str}{st:Stmt}{f:Addr}{oc:Value}{od an:Option Addr}{osl:Array (Option Value)}{kV doc pm cdv ct:Value}
  (a:PySem.W.findIn K (.ref C) x=some (some (.ref f))) (n:PySem.W.isFn K (.ref f)=true) (l:K.lookup f=some ⟨oc,od,.func (PySem.W.fnOf x qual (defArgs st) (defBody st) (defScope st) .none kV doc pm an cdv ct),osl⟩) (c:PySem.W.codeIn K cdv qual=true) (k:PySem.W.keepIn K (.ref f)=true):MethAt K C x qual st:=
 ⟨f,_,fun_mk l c k,a,n⟩
section
variable{P:Program}{w:World}{K:PySem.W.Frag}{mg:Str->Option Value}{base:Heap}{k:Nat}{C:Addr}{x qual:Str}{N ps:List Str}{sp:Sp}{st:Stmt}
def Tr(F:Fun K x qual st f fd)(S:FnScope N ps (defScope st))(len:∀ vs H Q E,sp vs H Q E->vs.length=ps.length)
  (hbody:∀(cdv:Value) (A:Around) (outer:List Env) (s:Shared) (H:Hp) (vs:List V) (Q:VK) (E:XK),Room k (A.deeper (envOfC qual (defScope st) s.heap.objs.size f cdv))->sp vs H Q E->
    ∃t,PSs (iJ P w K mg base N qual (defScope st) f cdv A outer s H E) (defBody st) t/\t { nx:=λz H'=>Q .non H',rt:=Q } (start N vs) H):FnOk P w K mg base (dN P w) (k+1) f fd ps sp:=by
 obtain⟨oc,od,kV,doc,pm,an,cdv,ct,osl,rfl,l,c⟩:=F.ex;exact fn_of l c S len (hbody cdv)
end
section
variable{X:Cx}{j k:Nat}{C:Addr}{ps:List Str}{sp:Sp}{x:Str}{p pos:Pos}{e:Expr}{es:List Expr}{t:TA}{E:XK}
def JH(D:MethC X.prog X.w X.K X.mg X.base j C "__init__" ps sp)(mk:PySem.W.makesIn X.K C=true)(kc:PySem.W.keepIn X.K (.ref C)=true)(hm:X.mg x=some (.ref C))(hr:Room k X.A)(hx:Passes (dN X.prog X.w) X E)(ha:QA X (e::es) t)(hjk:j+1<=k:=by decide)(hg:Gl X x:=by rfl)(hdb:(x==("__debug__":Str))=false:=by decide)
  (he:notStar e=true:=by rfl) (hpl:(backTo pos (starEach es X.env)).any (·.1)=false:=by rfl) :
  PE X (.Call (.Name x p) (e::es) [] pos) (tMake C sp [] E t):=by
 obtain⟨f,fd,F,b,kp,a,n⟩:=D.ex;exact pe_make ⟨mk,a,n,kc⟩ F (hr.mono hjk) hg hm b .nil hx ha.h hdb (bu he) hpl
end
open PySem PySem.Spec PyProof.Rows
section
variable{X:Cx}{CX:CXT}{k:Nat}{f C:Addr}{fd:FuncData}{ps:List Str}{sp:Sp}{E:XK}
def Mw(F:FnOk X.prog X.w X.K X.mg X.base CX k f fd ps sp)(hr:Room k X.A.in1)(hb:Binds X.K fd ps [])(hx:Passes CX X E)
  (I:Inv X Zo σ H s) (r:Vals vs us) (h:sp vs H Q E):wpAny (model X.prog X.w) X.A.in1 (call (.ref f) us) (EP X Zo σ Q) X.xe s:=by
 have hl:(us++[]).length=ps.length:=by rw[W7,<-r.length];exact F.len _ _ _ _ h
 have hl':us.length=ps.length:=by rw[W7]at hl;exact hl
 have bb:=hb s us I.kIn hl;rw[W7]at bb;refine wpAny_call (Y6 (F.run X.A.in1 X.stack s H ⟨us,[]⟩ us vs Q E hr ⟨(show X.A.in1.frames=some X.stack from I.ok.frames),I.ok.mod,I.bs,Vp I.ok.bsz I.sz,I.stack,I.stkFree,I.hok,I.bare⟩ bb r h) λr s' hq=>?_)
 cases r with
 |error e=>exact hx Zo σ H s e s' I hq
 |ok fl=>
   cases fl with
   |ret u=>exact I.after hq
   |next=>exact False.elim hq
   |brk=>exact False.elim hq
   |cont=>exact False.elim hq
def Ft(D:MethC X.prog X.w X.K X.mg X.base j C "__len__" ps sp)(hr:Room (j+1) X.A)(hx:Passes (dN X.prog X.w) X E):
  CallR X (.builtin "len") (λvs H Q=>∃x dx fs,vs=[.ref x]/\H x=some (.ins C dx fs)/\sp [.ref x] H (λv H2=>∃n:Int,v=.int n/\(0<=n/\n<2^63)/\Q (.int n) H2) E):=by
 intro Zo s σ H vs us Q I r h;obtain⟨x,dx,fs,rfl,hx',q⟩:=h;obtain⟨f,fd,F,b,kp,a,n⟩:=D.ex;obtain⟨u,rfl,ru⟩:=vals1 r;cases ru;obtain⟨mA,O,_⟩:=ins_get I.hok hx';obtain⟨od,IA,_⟩:=O.look;refine Yj PySem.kind_len PySem.plain_len PySem.entry_len (PySem.args_len1 _) ?_;unfold Builtin.«len»
 refine UL (m:=oneArg "len" _) (UV ?_);refine UL (m:=callSpecial? (.ref x) (Str.ofString "__len__")) (PySem.W.special_fn I.kIn IA a (Zb.mp n) (Vn (Mw (vs:=[.ref x]) F hr.in1 b hx I (.cons rfl .nil) q) (λw' s' hw=>?_) λz z y=>y))
 obtain⟨v,H2,I2,rv,m,rfl,⟨h0,h1⟩,qq⟩:=hw;obtain⟨t,rfl⟩:=rv;refine UL (VR (UV ?_));refine UL (wpAny_letGo ?_);show wpAny _ _ (if m<0 then _ else _) _ _ _
 rw[U8 (by lia)]
 show wpAny _ _ (if m ≥ 2^63 then _ else _) _ _ _
 rw[U8 (by lia)]
 exact UL (wpAny_mkInt (UV ⟨_,rfl,.int m,H2,I2.tok _,⟨_,rfl⟩,qq⟩))
end
theorem bL:∀ (names:List (Str×NameKind)) (n:Nat) (acc:List (Str×Addr)),cellsFrom n names acc=cellsFrom n names []++acc
 |[],_,_=>rfl
 |(name,kind)::r,n,acc=>by
   unfold cellsFrom;split
   ·rw[bL r (n+1) ((name,n)::acc),bL r (n+1) [(name,n)],WN];rfl
   ·exact bL r n acc
def pW
  (hQ:Q (newEnv scope s.heap.objs.size globals (cellsFrom (s.heap.objs.size+1) scope.names cl) qual none .none (some env) builtinsNs) { s with heap:=pushCells (s.heap.push { cls:=.type "dict",data:=.dict #[] }) scope.names }) :
  wpAny M A (newFunctionEnv scope globals cl [] qual none .none (some env)) Q E s:=by
 simp only[newFunctionEnv,Option.isSome_some,if_true];refine UL (wpAny_alloc ?_);refine UL (wpAny_layCells _ (λname kind cells=>by cases hkc:kind==NameKind.cell<;>simp[hkc]) _ _ _ _ ?_)
 rw[show ({ s with heap:=s.heap.push { cls:=.type "dict",data:=.dict #[] } }:Shared).heap.objs.size=s.heap.objs.size+1 from VF ..]
 refine UL ?_;rw[List.forIn_nil];exact UV (UV hQ)
abbrev Cx.aU(X:Cx)(Zo:List (Addr×Obj))(scope:Scope)(cs:List (Str×Addr))(Nc:List Str)(fp:List Addr)(C:Addr)(s₂:Shared)(H₂:Hp):Cx where
 prog:=X.prog
 w:=X.w
 K:=X.K
 mg:=X.mg
 base:=X.base
 A:=X.A
 N:=Nc
 s₀:=s₂
 H₀:=H₂
 env:=compEnvC scope cs C X.env
 outer:=X.stack
 stack:=X.stack
 ex:=fp
 fn:=λy=>scope.names.lookup y==some .cell
 calm:=X.calm
 pn:=X.pn++Zo
 xe:=λ_ _=>False
structure CompG(X:Cx)(scope:Scope)(cl:List (Str×Addr))(own:List Str)(js:List Nat)(fr:List Str):Prop where
 kind:scope.kind=.function
 names:∀y∈scope.names,y.2=.local->scope.names.lookup y.1=some .local
 clos:closureFor scope X.env=pure cl
 sub:∀y c,cl.lookup y=some c->X.env.cells.lookup y=some c
 has:∀(m:Nat) y,((relabel scope X.env).names.lookup y=some .cell\/(relabel scope X.env).names.lookup y=some .free)->∃c,(cellsFrom m scope.names cl).lookup y=some c
 nd:(own++fr).Nodup
 len:js.length=fr.length
 newc:∀(m:Nat) y c,(cellsFrom m scope.names []).lookup y=some c->scope.names.lookup y=some .cell
 oldc:∀y c,cl.lookup y=some c->scope.names.lookup y≠some .cell
 fre:∀(k j:Nat) (y:Str),js[k]?=some j->fr[k]?=some y->X.N[j]?=some y/\(X.env.scope.names.lookup y=some .cell\/X.env.scope.names.lookup y=some .free)/\((relabel scope X.env).names.lookup y=some .cell\/(relabel scope X.env).names.lookup y=some .free)/\∃c,cl.lookup y=some c
theorem jE:∀ {l m:List (Str×α)},(l++m).lookup y=some c->l.lookup y=some c\/(l.lookup y=none/\m.lookup y=some c)
 |[],_,h=>.inr ⟨rfl,h⟩
 |(k,v)::r,m,h=>by
   rw[X5,W4]at h;rw[W4];split at h
   ·exact .inl h
   ·exact jE h
theorem gk:∀ {l m:List (Str×α)},l.lookup y=none->(l++m).lookup y=m.lookup y
 |[],_,_=>rfl
 |(k,v)::r,m,h=>by
   rw[W4]at h;rw[X5,W4];split at h
   ·cases h
   ·exact gk h
section
variable{X:Cx}{Zo:List (Addr×Obj)}{σ:St}{H:Hp}{s:Shared}{scope:Scope}{cl:List (Str×Addr)}{own:List Str}{js:List Nat}{fr:List Str}{fp:List Addr}{C m:Addr}
def xU{hh:Heap}(T:CompG X scope cl own js fr)(I:Inv X Zo σ H s)(f:∀ b∈fp,FpOk X Zo H b)(hlt:∀ b∈fp,b<s.heap.objs.size)(hC:s.heap.objs.size<=C)(hm:m=hh.objs.size)(hms:s.heap.objs.size<=m):
  (X.aU Zo scope (cellsFrom m scope.names cl) (own++fr) fp C s H).Ok:=by
 have ok:CellsOk (pushCells hh scope.names) m (cellsFrom m scope.names []):=by
  have:=cellsFrom_ok scope.names hh m [] ⟨λx x hm=>(nomatch hm),List.Pairwise.nil⟩ (by rw[hm];exact U0 _)
  rw[<-hm]at this;exact this
 have hold:∀y c,cl.lookup y=some c->c<s.heap.objs.size:=λy c e=>by obtain⟨v,q⟩:=I.cell y c (T.sub _ _ e);exact q.lt
 have spl:∀y c,(cellsFrom m scope.names cl).lookup y=some c->(m<=c/\(cellsFrom m scope.names []).lookup y=some c)\/(cl.lookup y=some c/\c<s.heap.objs.size):=λy c e=>by
  rw[bL]at e;rcases jE e with z | ⟨_,z⟩
  ·exact .inl ⟨(ok.empty _ _ (Wc z)).2,z⟩
  ·exact .inr ⟨z,hold _ _ z⟩
 refine⟨I.ok.mod,T.kind,I.ok.glob,I.ok.blt,hC,λy z c h1 h2=>?_,λy h=>T.has m y h,λy c h1 h2=>?_,I.ok.hd,I.ok.frames,.inl rfl,λb hb=>⟨Vi (Va (hlt b hb) hC),λy c h=>?_⟩,λb o e=>I.bs b o e,Vp I.ok.bsz I.sz,λb o e hb=>?_,λb hb hm'=>?_,I.stack,I.stkFree⟩
 ·rcases spl _ _ h1 with ⟨a1,a2⟩ | ⟨a1,a2⟩
  ·rcases spl _ _ h2 with ⟨b1,b2⟩ | ⟨b1,b2⟩
   ·exact name_of_addr ok.apart (Wc a2) (Wc b2)
   ·exact absurd (Va b2 hms) (WF.mpr a1)
  ·rcases spl _ _ h2 with ⟨b1,b2⟩ | ⟨b1,b2⟩
   ·exact absurd (Va a2 hms) (WF.mpr b1)
   ·exact I.ok.inj y z c (T.sub _ _ a1) (T.sub _ _ b1)
 ·rcases spl _ _ h2 with ⟨a1,a2⟩ | ⟨a1,a2⟩
  ·exact Vp hms a1
  ·exact absurd (by simpa using h1) (T.oldc _ _ a1)
 ·rcases spl _ _ h with ⟨a1,a2⟩ | ⟨a1,a2⟩
  ·exact λz=>absurd (Va (hlt b hb) hms) (WF.mpr (z ▸ a1))
  ·exact (f b hb).2.2.2.2.1 y c (T.sub _ _ a1)
 ·rcases (f b hb).2.2.2.1 with z | z
  ·exact I.ok.noex b o e z
  ·exact absurd (Va (U7 e) I.ok.bsz) (WF.mpr z)
 ·rcases Vf.mp (I.stkSub b hm') with z | z
  ·exact (f b hb).2.1 z
  ·exact (f b hb).2.2.1 z
def vQ(T:CompG X scope cl own js fr)(I:Inv X Zo σ H s)(f:∀ b∈fp,FpOk X Zo H b)(hlt:∀ b∈fp,b<s.heap.objs.size)
  (k:∀b o,s.heap.get? b=some o->h'.get? b=some o) (ha:s.heap.objs.size<=acc) (hC:s.heap.objs.size<=C) (hne:C≠acc) (hm:m=hh.objs.size) (hms:s.heap.objs.size<=m) (hCm:C<m) (ham:acc<m) (hh':h'=pushCells hh scope.names)
  (new:∃n,h'.get? acc=some { cls:=.type "list",data:=.seq #[] n }) (ns:h'.Ns C mm) :
  Inv (X.aU Zo scope (cellsFrom m scope.names cl) (own++fr) fp C s H) [] (List.replicate own.length none++pick js σ) (upd H acc (.lst [])) { s with heap:=h',toks:=t' }:=by
 have ok:CellsOk (pushCells hh scope.names) m (cellsFrom m scope.names []):=by
  have:=cellsFrom_ok scope.names hh m [] ⟨λx x hm=>(nomatch hm),List.Pairwise.nil⟩ (by rw[hm];exact U0 _)
  rw[<-hm]at this;exact this
 have hold:∀y c,cl.lookup y=some c->c<s.heap.objs.size:=λy c e=>by obtain⟨v,q⟩:=I.cell y c (T.sub _ _ e);exact q.lt
 have spl:∀y c,(cellsFrom m scope.names cl).lookup y=some c->(m<=c/\h'.IsCell c none)\/(cl.lookup y=some c/\c<s.heap.objs.size):=λy c e=>by
  rw[bL]at e;rcases jE e with z | ⟨_,z⟩
  ·have:=ok.empty _ _ (Wc z);exact .inl ⟨this.2,by rw[hh'];exact this.1⟩
  ·exact .inr ⟨z,hold _ _ z⟩
 have hn:H acc=none:=I.hok.fresh ha;have fC:H C=none:=I.hok.fresh hC;have ob:ObjOk X.prog X.w (upd H acc (.lst [])) h' acc (.lst []):=by obtain⟨n,e⟩:=new;exact⟨Wo _,[],n,.nil,e⟩
 refine⟨xU T I f hlt hC hm hms,rfl,I.bare,Un.laid k ha hn,⟨mm,ns,λi y v h1 h2 h3=>?_⟩,λy c e=>?_,by show upd H acc _ C=none;rw[upd_ne hne];exact fC,λy c e=>?_,λp hp=>?_,I.hok.laid k ha ob,?_⟩
 ·have h1:(own++fr)[i]?=some y:=h1;by_cases hi:i<own.length
  ·rw[Vb (by rw[Vw];exact hi),Xd]at h2
   split at h2<;>cases h2
  ·rw [List.getElem?_append_right (by lia)] at h1
   rw[VL (by rw[Vw];lia),Vw]at h2
   unfold pick at h2;rw[Vl]at h2;cases hj:js[i-own.length]? with
   |none=>rw[hj]at h2;cases h2
   | some j=>
     rw[hj]at h2;have h2s:(σ[j]?).getD none=some v:=Vc h2;have h2'':σ[j]?=some (some v):=by
      cases z:σ[j]? with
      |none=>rw[z]at h2s;cases h2s
      |some w=>rw[z]at h2s;exact congrArg some h2s
     obtain⟨g1,g2,g3,c,gc⟩:=T.fre _ j y hj h1;obtain⟨mX,_,hl⟩:=I.loc;have vis:Vis X.env.scope y:=g2.elim (λz=>.inr (.inl z)) λz=>.inr (.inr z)
     obtain⟨u,r,q⟩:=hl j y v g1 h2'' vis;refine⟨u,r,.inr ⟨g3,c,?_,?_⟩⟩
     ·show (cellsFrom m scope.names cl).lookup y=some c;rw[bL];cases z:(cellsFrom m scope.names []).lookup y with
      |none=>rw[gk z];exact gc
      |some c'=>exact absurd (T.newc m y c' z) (T.oldc y c gc)
     ·have hc':=T.sub _ _ gc;rcases q with ⟨q,_⟩ | ⟨_,c2,e2,z⟩
      ·have q:X.env.scope.names.lookup y=some .local:=q;rcases g2 with g2 | g2<;>(rw[g2]at q;cases q)
      ·rw[hc']at e2;cases e2;exact z.keeps k
 ·rcases spl y c e with ⟨_,z⟩ | ⟨z,_⟩
  ·exact⟨_,z⟩
  ·obtain⟨v,q⟩:=I.cell y c (T.sub _ _ z);exact⟨v,q.keeps k⟩
 ·rcases spl y c e with ⟨z,_⟩ | ⟨z,lt⟩
  ·show upd H acc _ c=none;rw[upd_ne (λ(q:c=acc)=>absurd ham (WF.mpr (q ▸ z)))]
   exact I.hok.fresh (Vp hms z)
  ·show upd H acc _ c=none;rw[upd_ne (λ(q:c=acc)=>absurd lt (WF.mpr (q ▸ ha)))]
   exact I.freeC y c (T.sub _ _ z)
 ·have hp':p∈X.pn++Zo:=by simpa using hp
  obtain⟨e,n,ne,nf,d⟩:=I.pin p hp';refine⟨k _ _ e,?_,Vi (Va (U7 e) hC),λhm=>?_,d⟩
  ·show upd H acc _ p.1=none;rw[upd_ne (λz=>absurd (U7 e) (by rw[z];exact WF.mpr ha))]
   exact n
  ·rcases Vf.mp (I.stkSub _ hm) with z | z
   ·exact ne z
   ·exact nf z
 ·show (List.replicate own.length none++pick js σ).length=(own++fr).length;unfold pick;rw[Vk,Vw,U6,Vk,T.len]
end
section
variable{prog:Program}{w:World}{A:Around}{R:Result->Shared->Prop}{s:Shared}
def rA(ifs:List Expr)(env:Env):Sem Bool:=forIn ifs true λc r=>if r=true then do let ok <-isTrue c env (eval c env);pure (ForInStep.yield ok) else pure (ForInStep.yield r)
def turnOf(g:Comprehension)(bodyK:Sem Fin->Sem Fin)(c:Code)(it:Value)(env:Env):Sem Fin:=do
 standAt g.iter.pos
 match <-pyNext it with
 |none=>pure (.done .next)
 |some v=>
   letOwnedTupleGo g.target it v
   assign g.target env v
   let ok <-rA g.ifs env
   if ok then bodyK (again c) else again c
def ut(elt:Expr)(acc:Value)(env:Env)(k:Sem Fin):Sem Fin:=do
 (do let _ <-call (.builtin "list.append") [acc,<-eval elt env])
 k
def Ks(elt target iter:Expr)(ifs:List Expr)(scope:Scope)(pos:Pos)(it acc:Value)(env:Env):
  compTurn (.ListComp elt [⟨target,iter,ifs,0⟩] scope pos) 0 it acc env=turnOf ⟨target,iter,ifs,0⟩ (ut elt acc env) (.compLoop (.ListComp elt [⟨target,iter,ifs,0⟩] scope pos) 0 it acc env) it env:=rfl
def km(prog:Program)(w:World)(A:Around)(bodyK:Sem Fin->Sem Fin)(W:(Shared->Prop)->Shared->Prop):Prop:=
 ∀(k:Sem Fin) (Q:Fin->Shared->Prop) (E:Value->Shared->Prop) (s:Shared),W (λs'=>wpAny (model prog w) A k Q E s') s->wpAny (model prog w) A (bodyK k) Q E s
def Gg:km prog w A (ut elt acc env) (λP s=>wpAny (model prog w) A (eval elt env) (λx s1=>wpAny (model prog w) A (call (.builtin "list.append") [acc,x]) (λy s2=>P s2) (λy y=>False) s1) (λy y=>False) s):=by intro k Q E s h;unfold ut;exact UL (UL (Vn h (λx s1 h1=>UL (Vn h1 (λy s2 h2=>UV h2) λy y z=>z.elim)) λy y z=>z.elim))
def Jw(I:Nat->Shared->Prop)
  (hturn:compTurn (.ListComp elt gens scope pos) depth it acc env=turnOf g bodyK (.compLoop (.ListComp elt gens scope pos) depth it acc env) it env) (hW:km prog w A bodyK W)
  (turn:∀ n s,I n s->wpAny (model prog w) A (pyNext it) (λr s₁=>match r with
    |none=>R (.ok .next) s₁
    |some v=>wpAny (model prog w) A (letOwnedTupleGo g.target it v) (λz s₂=>wpAny (model prog w) A (assign g.target env v) (λz s₃=>
      wpAny (model prog w) A (rA g.ifs env) (λok s₄=>if ok=true then W (λs₅=>∃m,m<n/\I m s₅) s₄ else ∃m,m<n/\I m s₄) (λz z=>False) s₃) (λz z=>False) s₂) (λz z=>False) s₁) (λz z=>False) s)
  (hmono:∀P P' s,(∀s,P s->P' s)->W P s->W P' s)
  (n:Nat) (h:I n s):codeAny (model prog w) A (.compLoop (.ListComp elt gens scope pos) depth it acc env) R s:=by
 refine codeAny_loop rfl I (λn s hI=>?_) n h
 show wpAny _ A ((compTurn (.ListComp elt gens scope pos) depth it acc env).onRaise (λx=>do noteFrame x env;theTreesLotGoes x)) _ _ s
 refine wpAny_noted ?_;rw[hturn];unfold turnOf;refine UL (Xb (UL (Vn (turn n s hI) (λr s₁ h₁=>?_) λz z h'=>h'.elim)))
 cases r with
 |none=>exact UV h₁
 | some v=>
   refine UL (Vn h₁ (λz s₂ h₂=>UL (Vn h₂ (λz s₃ h₃=>UL (Vn h₃ (λok s₄ h₄=>?_) λz z h'=>h'.elim)) λz z h'=>h'.elim)) λz z h'=>h'.elim)
   cases ok with
   |false=>have h₄:∃m,m<n/\I m s₄:=h₄;exact UV ⟨rfl,h₄⟩
   |true=>
     have h₄:W (λs₅=>∃m,m<n/\I m s₅) s₄:=h₄
     exact hW _ _ _ _ (hmono _ _ _ (λs₅ h₅=>UV ⟨rfl,h₅⟩) h₄)
def wD(hg:gens[depth]?=some g)(ha:g.is_async=0)
  (h0:codeAny (model prog w) A (.compLoop (.ListComp elt gens scope pos) depth it acc env) R s)
  (h:wpAny (model prog w) A (pyIter it) (λit' s'=>codeAny (model prog w) A (.compLoop (.ListComp elt gens scope pos) depth it' acc env) R s') (λz z=>False) s) :
  codeAny (model prog w) A (.compStart (.ListComp elt gens scope pos) depth it acc env) R s:=by
 refine codeAny_of_tree ?_;show wpAny _ _ ((compStart (.ListComp elt gens scope pos) depth it acc env).onRaise (λx=>do noteFrame x env;standAt theWindowsPlace)) _ _ s
 refine wpAny_notedAt ?_;unfold compStart;have e1:(((clausesOf (.ListComp elt gens scope pos))[depth]?).elim false (·.is_async != 0))=false:=by show ((gens[depth]?).elim false (·.is_async != 0))=false;rw[hg];show (g.is_async != 0)=false;rw[ha];rfl
 rw[e1];simp only[Bool.false_eq_true,if_false,pure_bind];refine UL (W2 (wpAny_ite ?_));split
 ·first
   |exact UL (UV (UV (And.intro rfl h0)))
   |exact UV (And.intro rfl h0)
 ·refine UL (Xg ?_);have e2:(clausesOf (.ListComp elt gens scope pos))[depth]?=some g:=hg;rw[e2];exact UL (Xb (UL (Vn h (λit' s' h'=>UV (And.intro rfl h')) λz z x=>x.elim)))
end
section
variable{prog:Program}{w:World}{A:Around}{E:Value->Shared->Prop}{s:Shared}
def Dq(hi:IsTupIter s.heap ia t k)(ht:IsTup s.heap t its)(hy:its[k]?=some y)
  (hQ:∀h',IsTupIter h' ia t (k+1)->Heap.SameBut ia s.heap h'->Q y { s with heap:=h' }):wpAny (model prog w) A (Builtin.SmallTypes.nextOf (.ref ia)) Q E s:=by
 obtain⟨oi,hoi,hci,hdi⟩:=id hi;obtain⟨ot,hot,_,nt,hdt⟩:=ht;unfold Builtin.SmallTypes.nextOf;refine UL (VH (name:=Str.ofString "__next__") hi.typeIs Yg (VD Yg hi.typeIs entry_tupleiter_next ?_ (args_tupleiter_next _)));show wpAny _ _ (field (.ref ia) 0>>=_) _ _ s;refine UL (VG hoi hdi (x:=.ref t) rfl ?_);show wpAny _ _ (if (Value.ref t==Value.none)=true then _ else _) _ _ s
 rw[U8 (λz:(Value.ref t==Value.none)=true=>Vv z)]
 show wpAny _ _ (field (.ref ia) 1>>=_) _ _ s;refine UL (VG hoi hdi (x:=.int k 0) rfl ?_);show wpAny _ _ (seqItems? (.ref t)>>=_) _ _ s;refine UL (Wq hot hdt ?_);simp only[Int.toNat_natCast,hy];refine UL (Wx hoi hdi (by simp) (UV ⟨y,rfl,UV (hQ _ ⟨_,XM _ hoi (Obj.isFreed_of_fields (Obj.data_mapFields hdi _)),(Obj.cls_mapFields ..).trans hci,?_⟩ (WX ..))⟩))
 rw[Obj.data_mapFields hdi];simp[rawInt]
def Aa(hh:A.handled=none)(hi:IsTupIter s.heap ia t k)(ht:IsTup s.heap t its)(hy:its[k]?=none)
  (hE:∀h' e,Heap.ExtBut ia s.heap h'->(∃o,h'.get? e=some o/\o.cls=.type "StopIteration")->E (.ref e) { s with heap:=h' }):wpAny (model prog w) A (Builtin.SmallTypes.nextOf (.ref ia)) Q E s:=by
 obtain⟨oi,hoi,hci,hdi⟩:=id hi;obtain⟨ot,hot,_,nt,hdt⟩:=ht;unfold Builtin.SmallTypes.nextOf;refine UL (VH (name:=Str.ofString "__next__") hi.typeIs Yg (VD Yg hi.typeIs entry_tupleiter_next ?_ (args_tupleiter_next _)));show wpAny _ _ (field (.ref ia) 0>>=_) _ _ s;refine UL (VG hoi hdi (x:=.ref t) rfl ?_);show wpAny _ _ (if (Value.ref t==Value.none)=true then _ else _) _ _ s
 rw[U8 (λz:(Value.ref t==Value.none)=true=>Vv z)]
 show wpAny _ _ (field (.ref ia) 1>>=_) _ _ s;refine UL (VG hoi hdi (x:=.int k 0) rfl ?_);show wpAny _ _ (seqItems? (.ref t)>>=_) _ _ s;refine UL (Wq hot hdt ?_);simp only[Int.toNat_natCast,hy];refine UL (Xg (UL (Wx hoi hdi (by simp) ?_)))
 show wpAny _ _ (newExc (.type "StopIteration") ([]:List Value)>>=λy=>_) _ _ _
 refine UL ?_;simp only[newExc,newTuple];refine UL (Vr ?_ (by size_fits:_))
 refine UL (m:=firstArgMember _ _) (wpAny_of_eq (a:=Value.none) (by first | rfl | simp only[firstArgMember]) ?_)
 refine Vr ?_ (by size_fits:_)
 simp only[raiseNew];refine UL (wpAny_handled ?_)
 first | rw[hh] | rw[show A.in1.handled=none from hh]
 refine UL (UV (wpAny_throw (hE _ _ (((WX ..).extBut.push _).push _) ⟨_,U9 _ rfl,rfl⟩)))
end
structure SubIt(P:Program)(w:World)(i l:Addr)(its:Array Value)(st:Nat->Heap->Prop):Prop where
 obj:∀k h,st k h->(∃o,h.get? i=some o/\∀v,o.data≠.cell v)/\∃o,h.get? l=some o
 keep:∀k h h',st k h->(∀o,h.get? i=some o->h'.get? i=some o)->(∀o,h.get? l=some o->h'.get? l=some o)->st k h'
 item:∀(A:Around) k (s:Shared) x (Q:Value->Shared->Prop) (E:Value->Shared->Prop),st k s.heap->its[k]?=some x->(∀h',st (k+1) h'->Heap.SameBut i s.heap h'->Q x { s with heap:=h' })->wpAny (model P w) A (Builtin.SmallTypes.nextOf (.ref i)) Q E s
 done:∀(A:Around) k (s:Shared) (Q:Value->Shared->Prop) (E:Value->Shared->Prop),A.handled=none->st k s.heap->its[k]?=none->(∀h' e,Heap.ExtBut i s.heap h'->(∃o,h'.get? e=some o/\o.cls=.type "StopIteration")->E (.ref e) { s with heap:=h' })->wpAny (model P w) A (Builtin.SmallTypes.nextOf (.ref i)) Q E s
def Nh(hne:l≠i)(its:Array Value):SubIt P w i l its (λk h=>IsTupIter h i l k/\IsTup h l its) where
 obj:=λk h ⟨⟨o,e,_,d⟩,⟨o',e',_⟩⟩=>⟨⟨o,e,λv z=>by rw[d]at z;cases z⟩,o',e'⟩
 keep:=λk h h' ⟨⟨o,e,r⟩,⟨o',e',r'⟩⟩ k1 k2=>⟨⟨o,k1 _ e,r⟩,⟨o',k2 _ e',r'⟩⟩
 item:=λA k s x Q E st hx hQ=>Dq st.1 st.2 hx λh' h1 h2=>hQ h' ⟨h1,st.2.extBut h2.extBut hne⟩ h2
 done:=λA k s Q E hh st hx hE=>Aa hh st.1 st.2 hx hE
def Ng(hne:l≠i)(its:Array Value):SubIt P w i l its (λk h=>h.IsListIter i l k/\h.IsList l its) where
 obj:=λk h ⟨⟨o,e,_,d⟩,⟨o',e',_⟩⟩=>⟨⟨o,e,λv z=>by rw[d]at z;cases z⟩,o',e'⟩
 keep:=λk h h' ⟨⟨o,e,r⟩,⟨o',e',r'⟩⟩ k1 k2=>⟨⟨o,k1 _ e,r⟩,⟨o',k2 _ e',r'⟩⟩
 item:=λA k s x Q E st hx hQ=>wpAny_nextOf_list_item st.1 st.2 hx λh' h1 h2=>hQ h' ⟨h1,st.2.extBut h2.extBut hne⟩ h2
 done:=λA k s Q E hh st hx hE=>wpAny_nextOf_list_end hh st.1 st.2 hx hE
abbrev qG(h:Heap)(T1:String)(l1:Addr):Heap:=h.push { cls:=.type T1,data:=.fields #[.ref l1,.int 0 0] }
abbrev Ku(h:Heap)(T1 T2:String)(l1 l2:Addr):Heap:=(qG h T1 l1).push { cls:=.type T2,data:=.fields #[.ref l2,.int 0 0] }
abbrev Kv(h:Heap)(T1 T2:String)(l1 l2:Addr):Heap:=(Ku h T1 T2 l1 l2).push { cls:=.type "tuple",data:=.seq #[.ref h.objs.size,.ref (qG h T1 l1).objs.size] }
abbrev rW(h:Heap)(T1 T2:String)(l1 l2:Addr):Heap:=(Kv h T1 T2 l1 l2).push { cls:=.type "tuple",data:=.seq #[.none,.none] }
abbrev n8(h:Heap)(T1 T2:String)(l1 l2:Addr):Heap:=(rW h T1 T2 l1 l2).push { cls:=.type "zip",data:=.fields #[.none,.bool false,.bool false,.ref (Ku h T1 T2 l1 l2).objs.size,.ref (Kv h T1 T2 l1 l2).objs.size] }
def yQ(l1 l2:Addr)(xs ys:Array Value):
  Meets (Builtin.«zip.__new__» ⟨[.type "zip",.ref l1,.ref l2],[]⟩) (λz R s=>IsTup s.heap l1 xs/\IsTup s.heap l2 ys/\R (.ok (.ret (.ref (rW s.heap "tuple_iterator" "tuple_iterator" l1 l2).objs.size))) { s with heap:=n8 s.heap "tuple_iterator" "tuple_iterator" l1 l2 }):=
 .of_wp λprog w A R s h=>by
  obtain⟨hp,gn,dr,tk,os⟩:=s;obtain⟨k1,k2,h⟩:=h;have hsub:=sub_zip;have K1:IsTup (Shared.heap ⟨hp,gn,dr,tk,os⟩) l1 xs:=k1;have K2:IsTup (Shared.heap ⟨hp.push { cls:=.type "tuple_iterator",data:=.fields #[.ref l1,.int 0 0] },gn,dr,tk,os⟩) l2 ys:=k2.push _
  wp_walk using Yz K1,Yz K2
  exact⟨_,rfl,h⟩
def yO(l1 l2:Addr)(xs ys:Array Value):
  Meets (Builtin.«zip.__new__» ⟨[.type "zip",.ref l1,.ref l2],[]⟩) (λz R s=>s.heap.IsList l1 xs/\IsTup s.heap l2 ys/\R (.ok (.ret (.ref (rW s.heap "list_iterator" "tuple_iterator" l1 l2).objs.size))) { s with heap:=n8 s.heap "list_iterator" "tuple_iterator" l1 l2 }):=
 .of_wp λprog w A R s h=>by
  obtain⟨hp,gn,dr,tk,os⟩:=s;obtain⟨k1,k2,h⟩:=h;have hsub:=sub_zip;have K1:Heap.IsList (Shared.heap ⟨hp,gn,dr,tk,os⟩) l1 xs:=k1;have K2:IsTup (Shared.heap ⟨hp.push { cls:=.type "list_iterator",data:=.fields #[.ref l1,.int 0 0] },gn,dr,tk,os⟩) l2 ys:=k2.push _
  wp_walk using W8 K1,Yz K2
  exact⟨_,rfl,h⟩
def yP(l1 l2:Addr)(xs ys:Array Value):
  Meets (Builtin.«zip.__new__» ⟨[.type "zip",.ref l1,.ref l2],[]⟩) (λz R s=>IsTup s.heap l1 xs/\s.heap.IsList l2 ys/\R (.ok (.ret (.ref (rW s.heap "tuple_iterator" "list_iterator" l1 l2).objs.size))) { s with heap:=n8 s.heap "tuple_iterator" "list_iterator" l1 l2 }):=
 .of_wp λprog w A R s h=>by
  obtain⟨hp,gn,dr,tk,os⟩:=s;obtain⟨k1,k2,h⟩:=h;have hsub:=sub_zip;have K1:IsTup (Shared.heap ⟨hp,gn,dr,tk,os⟩) l1 xs:=k1;have K2:Heap.IsList (Shared.heap ⟨hp.push { cls:=.type "tuple_iterator",data:=.fields #[.ref l1,.int 0 0] },gn,dr,tk,os⟩) l2 ys:=Heap.IsList.push k2 _
  wp_walk using Yz K1,W8 K2
  exact⟨_,rfl,h⟩
def yN(l1 l2:Addr)(xs ys:Array Value):
  Meets (Builtin.«zip.__new__» ⟨[.type "zip",.ref l1,.ref l2],[]⟩) (λz R s=>s.heap.IsList l1 xs/\s.heap.IsList l2 ys/\R (.ok (.ret (.ref (rW s.heap "list_iterator" "list_iterator" l1 l2).objs.size))) { s with heap:=n8 s.heap "list_iterator" "list_iterator" l1 l2 }):=
 .of_wp λprog w A R s h=>by
  obtain⟨hp,gn,dr,tk,os⟩:=s;obtain⟨k1,k2,h⟩:=h;have hsub:=sub_zip;have K1:Heap.IsList (Shared.heap ⟨hp,gn,dr,tk,os⟩) l1 xs:=k1;have K2:Heap.IsList (Shared.heap ⟨hp.push { cls:=.type "list_iterator",data:=.fields #[.ref l1,.int 0 0] },gn,dr,tk,os⟩) l2 ys:=Heap.IsList.push k2 _
  wp_walk using W8 K1,W8 K2
  exact⟨_,rfl,h⟩
def fB(b:Bool)(h:Heap)(l:Addr)(xs:Array Value):Prop:=if b then IsTup h l xs else h.IsList l xs
def qH(b:Bool)(i l:Addr)(xs:Array Value)(k:Nat)(h:Heap):Prop:=(if b then IsTupIter h i l k else h.IsListIter i l k)/\fB b h l xs
def jM(b:Bool)(hne:l≠i)(its:Array Value):SubIt P w i l its (qH b i l its):=by
 cases b with
 |true=>exact Nh hne its
 |false=>exact Ng hne its
def fB.lt(q:fB b h l xs):l<h.objs.size:=by
 cases b with
 |true=>obtain⟨o,e,_⟩:=(show IsTup h l xs from q);exact U7 e
 |false=>obtain⟨o,e,_⟩:=(show h.IsList l xs from q);exact U7 e
def fB.keep(q:fB b h l xs)(k:∀o,h.get? l=some o->h'.get? l=some o):fB b h' l xs:=by
 cases b with
 |true=>obtain⟨o,e,r⟩:=(show IsTup h l xs from q);exact⟨o,k _ e,r⟩
 |false=>obtain⟨o,e,r⟩:=(show h.IsList l xs from q);exact⟨o,k _ e,r⟩
section
variable{P:Program}{w:World}{A:Around}{E:Value->Shared->Prop}{s:Shared}{l1 l2:Addr}{xs ys:Array Value}
def Fw(k1:fB b1 s.heap l1 xs)(k2:fB b2 s.heap l2 ys)
  (h:∀h',IsZip h' (s.heap.objs.size+4) (s.heap.objs.size+2) (s.heap.objs.size+3) .none->IsPair h' (s.heap.objs.size+2) (.ref s.heap.objs.size) (.ref (s.heap.objs.size+1))->IsPair h' (s.heap.objs.size+3) .none .none->
    qH b1 s.heap.objs.size l1 xs 0 h'->qH b2 (s.heap.objs.size+1) l2 ys 0 h'->h'.objs.size=s.heap.objs.size+5->(∀c o,s.heap.get? c=some o->h'.get? c=some o)->Q (.ref (s.heap.objs.size+4)) { s with heap:=h' }) :
  wpAny (model P w) A (call (.type "zip") [.ref l1,.ref l2]) Q E s:=by
 have fin:∀T1 T2,(∀h' k,h'.get? s.heap.objs.size=some { cls:=.type T1,data:=.fields #[.ref l1,.int 0 0] }->fB b1 h' l1 xs->k=0->qH b1 s.heap.objs.size l1 xs k h')->
   (∀h' k,h'.get? (s.heap.objs.size+1)=some { cls:=.type T2,data:=.fields #[.ref l2,.int 0 0] }->fB b2 h' l2 ys->k=0->qH b2 (s.heap.objs.size+1) l2 ys k h')->
   s.TypeIs (.ref (rW s.heap T1 T2 l1 l2).objs.size) "zip"\/True->Q (.ref (rW s.heap T1 T2 l1 l2).objs.size) { s with heap:=n8 s.heap T1 T2 l1 l2 }/\({ s with heap:=n8 s.heap T1 T2 l1 l2 }:Shared).TypeIs (.ref (rW s.heap T1 T2 l1 l2).objs.size) "zip":=by
  intro T1 T2 f1 f2 _;have z1:(qG s.heap T1 l1).objs.size=s.heap.objs.size+1:=VF ..
  have z2:(Ku s.heap T1 T2 l1 l2).objs.size=s.heap.objs.size+2:=by rw[VF,z1]
  have z3:(Kv s.heap T1 T2 l1 l2).objs.size=s.heap.objs.size+3:=by rw[VF,z2]
  have z4:(rW s.heap T1 T2 l1 l2).objs.size=s.heap.objs.size+4:=by rw[VF,z3]
  have z5:(n8 s.heap T1 T2 l1 l2).objs.size=s.heap.objs.size+5:=by rw[VF,z4]
  have up:∀c o,s.heap.get? c=some o->(n8 s.heap T1 T2 l1 l2).get? c=some o:=λc o q=>UT _ (UT _ (UT _ (UT _ (UT _ q))))
  have q5:(n8 s.heap T1 T2 l1 l2).get? (rW s.heap T1 T2 l1 l2).objs.size=some _:=U9 _ rfl;have q4:(n8 s.heap T1 T2 l1 l2).get? (Kv s.heap T1 T2 l1 l2).objs.size=some _:=UT _ (U9 _ rfl);have q3:(n8 s.heap T1 T2 l1 l2).get? (Ku s.heap T1 T2 l1 l2).objs.size=some _:=UT _ (UT _ (U9 _ rfl));have q2:(n8 s.heap T1 T2 l1 l2).get? (qG s.heap T1 l1).objs.size=some _:=UT _ (UT _ (UT _ (U9 _ rfl)));have q1:(n8 s.heap T1 T2 l1 l2).get? s.heap.objs.size=some _:=UT _ (UT _ (UT _ (UT _ (U9 _ rfl))));rw[z2,z3,z4]at q5;rw[z1,z2]at q3;rw[z3]at q4;rw[z1]at q2;rw[z4];exact⟨h _ q5 q3 q4 (f1 _ 0 q1 (k1.keep λo q=>up _ _ q) rfl) (f2 _ 0 q2 (k2.keep λo q=>up _ _ q) rfl) z5 up,_,q5,rfl⟩
 cases b1 with
 | true=>cases b2 with
   |true=>
     refine Y5 F.called_zip (by decide) (YT _ _) (Y4 _ _) (λobj=>X7 obj _ _) Za (yQ l1 l2 xs ys) ⟨k1,k2,?_⟩
     obtain⟨a1,a2⟩:=fin "tuple_iterator" "tuple_iterator" (λh' k q q' e=>by subst e;exact⟨⟨_,q,rfl,rfl⟩,q'⟩) (λh' k q q' e=>by subst e;exact⟨⟨_,q,rfl,rfl⟩,q'⟩) (.inr trivial)
     exact⟨a2,a1⟩
   |false=>
     refine Y5 F.called_zip (by decide) (YT _ _) (Y4 _ _) (λobj=>X7 obj _ _) Za (yP l1 l2 xs ys) ⟨k1,k2,?_⟩
     obtain⟨a1,a2⟩:=fin "tuple_iterator" "list_iterator" (λh' k q q' e=>by subst e;exact⟨⟨_,q,rfl,rfl⟩,q'⟩) (λh' k q q' e=>by subst e;exact⟨⟨_,q,rfl,rfl⟩,q'⟩) (.inr trivial)
     exact⟨a2,a1⟩
 | false=>cases b2 with
   |true=>
     refine Y5 F.called_zip (by decide) (YT _ _) (Y4 _ _) (λobj=>X7 obj _ _) Za (yO l1 l2 xs ys) ⟨k1,k2,?_⟩
     obtain⟨a1,a2⟩:=fin "list_iterator" "tuple_iterator" (λh' k q q' e=>by subst e;exact⟨⟨_,q,rfl,rfl⟩,q'⟩) (λh' k q q' e=>by subst e;exact⟨⟨_,q,rfl,rfl⟩,q'⟩) (.inr trivial)
     exact⟨a2,a1⟩
   |false=>
     refine Y5 F.called_zip (by decide) (YT _ _) (Y4 _ _) (λobj=>X7 obj _ _) Za (yN l1 l2 xs ys) ⟨k1,k2,?_⟩
     obtain⟨a1,a2⟩:=fin "list_iterator" "list_iterator" (λh' k q q' e=>by subst e;exact⟨⟨_,q,rfl,rfl⟩,q'⟩) (λh' k q q' e=>by subst e;exact⟨⟨_,q,rfl,rfl⟩,q'⟩) (.inr trivial)
     exact⟨a2,a1⟩
end
section
variable{X:Cx}{Zo:List (Addr×Obj)}{σ:St}{H:Hp}{s:Shared}{h':Heap}
def Inv.turnedL{t':Nat}{ch:List Addr}(I:Inv X Zo σ H s)(k:∀b o,b∉ch->s.heap.get? b=some o->h'.get? b=some o)(hf:∀b∈ch,FpOk X Zo H b)(hL:∀b∈ch,b≠X.env.locals):Inv X Zo σ H { s with heap:=h',toks:=t' }:=by
 have nit:∀b u,H b=some u->b∉ch:=λb u e z=>by have:=(hf b z).1;rw[e]at this;cases this
 refine I.step (g':=s.gens) (d':=s.drawn) (ch:=ch) (λb hb=>?_) (λb o y y hc e y=>k b o hc e) (λb o y y hc e y=>⟨o.slots,k b o hc e⟩) (λy y y y n=>n)
  (λb o hc e=>⟨o,k b o hc e⟩) (λy y e=>e) (λy y y e=>e) (λb ps e=>⟨#[],by rw[e];simp⟩) (λm hm=>?_) (λb u e=>?_) I.bare
 ·obtain⟨_,f1,_,f3,f4,f5⟩:=hf b hb;exact⟨f3,f1,f4,f5⟩
 ·obtain⟨o,es,ep,ho,r⟩:=hm;exact⟨o,es,ep,k _ o (λz=>(hL _ z) rfl) ho,r⟩
 ·refine (I.hok b u e).stay (λc v hc q=>k c v ?_ q) (λy q=>q) λy y q=>q
  rcases hc with z | z
  ·rw[z];exact nit b u e
  ·exact nit c _ z
def Inv.turnedLay{t':Nat}{ch:List Addr}{p:Addr}{o:HO}(I:Inv X Zo σ H s)(k:∀ b o,b∉ch->s.heap.get? b=some o->h'.get? b=some o)(hf:∀ b∈ch,FpOk X Zo H b)(hp:s.heap.objs.size<=p)(new:ObjOk X.prog X.w (upd H p o) h' p o):Inv X Zo σ (upd H p o) { s with heap:=h',toks:=t' }:=by
 have nit:∀b u,H b=some u->b∉ch:=λb u e z=>by have:=(hf b z).1;rw[e]at this;cases this
 have hn:H p=none:=I.hok.fresh hp;have tr:∀b u,H b=some u->upd H p o b=some u:=λb u e=>by rw[upd_ne (ne_of_none e hn)];exact e
 refine I.step (g':=s.gens) (d':=s.drawn) (ch:=ch) (λb hb=>?_) (λb o x x hc e x=>k b o hc e) (λb o x x hc e x=>⟨o.slots,k b o hc e⟩) (λb u x e n=>by rw[upd_ne (Vi (Va (U7 e) hp))];exact n)
  (λb o hc e=>⟨o,k b o hc e⟩) (λb xs e=>tr b _ e) (λb x x e=>tr b _ e) (λb ps e=>⟨#[],by rw[tr b _ e];simp⟩) (λm hm=>?_) (λb u e=>?_) I.bare
 ·obtain⟨_,f1,_,f3,f4,f5⟩:=hf b hb;exact⟨f3,f1,f4,f5⟩
 ·obtain⟨o,es,ep,ho,r⟩:=hm;exact⟨o,es,ep,k _ o (λz=>(hf _ z).2.1 rfl) ho,r⟩
 ·by_cases z:b=p
  ·subst z;rw[upd_same]at e;cases e;exact new
  ·rw[upd_ne z]at e;refine (I.hok b u e).stay (λc v hc q=>k c v ?_ q) (λc q=>tr c _ q) (λc xs q=>tr c _ q) λc o q=>tr c _ q
   rcases hc with y | y
   ·rw[y];exact nit b u e
   ·exact nit c _ y
end
def mU(b:Bool)(K:PySem.W.Frag)(H:Hp)(l:Addr)(xs:List V):Prop:=if b then SqT K H l xs else SqL K H l xs
def Inv.seqS{X:Cx}{Zo:List (Addr×Obj)}{σ:St}{H:Hp}{s:Shared}{b:Bool}{l:Addr}{xs:List V}(I:Inv X Zo σ H s)(h:mU b X.K H l xs):∃its:List Value,Vals xs its/\fB b s.heap l its.toArray/\xs.length<=sizeLine:=by
 cases b with
 |true=>obtain⟨its,r,p,z⟩:=I.tuple (show SqT X.K H l xs from h);exact⟨its,r,p,z⟩
 |false=>obtain⟨its,r,p,z⟩:=I.list (show SqL X.K H l xs from h);exact⟨its,r,p.isList,z⟩
def Inv.seqS_inj{X:Cx}{Zo:List (Addr×Obj)}{σ:St}{H:Hp}{s:Shared}{b:Bool}{l:Addr}{xs ys:List V}(I:Inv X Zo σ H s)(h:mU b X.K H l xs)(q:mU b X.K H l ys):xs=ys:=by
 cases b with
 |true=>exact I.tuple_inj (show SqT X.K H l xs from h) q
 |false=>exact I.list_inj (show SqL X.K H l xs from h) q
def bA(b:Bool)(i l:Addr)(k:Nat)(h:Heap):Prop:=if b then IsTupIter h i l k else h.IsListIter i l k
def bA.keep{b:Bool}{i l:Addr}{k:Nat}{h h':Heap}(q:bA b i l k h)(kk:∀o,h.get? i=some o->h'.get? i=some o):bA b i l k h':=by
 cases b with
 |true=>obtain⟨o,e,r⟩:=(show IsTupIter h i l k from q);exact⟨o,kk _ e,r⟩
 |false=>obtain⟨o,e,r⟩:=(show h.IsListIter i l k from q);exact⟨o,kk _ e,r⟩
def bA.obj{b:Bool}{i l:Addr}{k:Nat}{h:Heap}(q:bA b i l k h):∃o,h.get? i=some o/\∀v,o.data≠.cell v:=by
 cases b with
 |true=>obtain⟨o,e,_,d⟩:=(show IsTupIter h i l k from q);exact⟨o,e,λv z=>by rw[d]at z;cases z⟩
 |false=>obtain⟨o,e,_,d⟩:=(show h.IsListIter i l k from q);exact⟨o,e,λv z=>by rw[d]at z;cases z⟩
def Nm(K:PySem.W.Frag)(b1 b2:Bool)(l1 l2:Addr):It:=
 ⟨fun i H=>∃xs ys x y,mU b1 K H l1 xs∧mU b2 K H l2 ys∧xs[i]?=some x∧ys[i]?=some y,
  λi H v H'=>∃p,H p=none/\v=.ref p/\∀xs ys,mU b1 K H l1 xs->mU b2 K H l2 ys->∃x y,xs[i]?=some x/\ys[i]?=some y/\H'=upd H p (.tup [x,y]),
  λi H=>∃xs ys,mU b1 K H l1 xs/\mU b2 K H l2 ys/\(xs[i]?=none\/ys[i]?=none)⟩
abbrev bJ(h:Heap)(z TI TO:Addr)(f0 f1:Value):Prop:=h.get? z=some { cls:=.type "zip",dict:=none,data:=.fields #[f0,f1,.bool false,.ref TI,.ref TO],slots:=#[] }
section
variable{P:Program}{w:World}{A:Around}{E:Value->Shared->Prop}{s:Shared}{z TI TO i1 i2 l1 l2:Addr}{xs ys:Array Value}{st1 st2:Nat->Heap->Prop}
def zV(h:Q (s.heap.get? a) s):wpAny M A (loadIfAlive a) Q E s:=λz z z=>h
def za(hfr:f0=.none\/∃p:Addr,f0=rawInt p/\s.heap.get? p=none)(hz:bJ s.heap z TI TO f0 f1)(h:Q true s):wpAny M A (Builtin.SmallTypes.ownedTupleIsFree (.ref z)) Q E s:=by
 unfold Builtin.SmallTypes.ownedTupleIsFree;rcases hfr with rfl | ⟨p,rfl,hp⟩
 ·exact UL (VG hz rfl (x:=.none) rfl (UV h))
 ·refine UL (VG hz rfl (x:=rawInt p) rfl ?_);refine UL (zV ?_);rw[show ((p:Int).toNat:Nat)=p from We p,hp]
  exact UV h
def yZ(hp:s.heap.get? p=some o)(hz:bJ s.heap z TI TO (rawInt p) (.bool b))(h:∀ h',bJ h' z TI TO (rawInt p) (.bool true)->Heap.SameBut z s.heap h'->Q false { s with heap:=h' }):wpAny (model P w) A (Builtin.SmallTypes.ownedTupleIsFree (.ref z)) Q E s:=by
 unfold Builtin.SmallTypes.ownedTupleIsFree;refine UL (VG hz rfl (x:=rawInt p) rfl ?_);refine UL (zV ?_);rw[show ((p:Int).toNat:Nat)=p from We p,hp]
 simp only[Option.isNone_some,Bool.false_eq_true,if_false];refine UL (VG hz rfl (x:=.bool b) rfl ?_);cases b with
 |true=>
   rw[U8 (by decide)]
   exact UV (h s.heap hz (Heap.SameBut.refl _ _))
 |false=>
   rw[U5 (by decide)]
   exact UL (wpAny_setField_rec (k:=1) (x:=.bool true) hz (by simp) λg1 hz1 e1=>UV (h g1 hz1 e1))
def Ie{k:Nat}{Q:Value->Shared->Prop}(D:ZipApart z TI TO i1 i2 l1 l2)(S1:SubIt P w i1 l1 xs st1)(S2:SubIt P w i2 l2 ys st2)(hfr:f0=.none\/∃p:Addr,f0=rawInt p/\s.heap.get? p=none)(hz:bJ s.heap z TI TO f0 f1)(hTI:IsPair s.heap TI (.ref i1) (.ref i2))(hTO:IsPair s.heap TO a b)(h1:st1 k s.heap)(h2:st2 k s.heap)(hx:xs[k]?=some x)(hy:ys[k]?=some y)
  (hQ:∀h',IsZip h' z TI TO (rawInt s.heap.objs.size)->IsPair h' TO x y->st1 (k+1) h'->st2 (k+1) h'->IsPair h' s.heap.objs.size x y->h'.objs.size=s.heap.objs.size+1->(∀c o,c≠z->c≠TO->c≠i1->c≠i2->s.heap.get? c=some o->h'.get? c=some o)->Q (.ref s.heap.objs.size) { s with heap:=h' }) :
  wpAny (model P w) A (Builtin.«zip.__next__» ⟨[.ref z],[]⟩) (λfin s'=>∃v,fin=.done (.ret v)/\Q v s') E s:=by
 show wpAny _ _ (field (.ref z) 2>>=λu=>_) _ _ _
 refine UL (VG hz rfl (x:=.bool false) rfl (show _ from ?_))
 show wpAny _ _ (field (.ref z) 3>>=λu=>_) _ _ _
 refine UL (VG hz rfl (x:=.ref TI) rfl (show _ from ?_))
 refine UL (Wq hTI rfl (show _ from ?_))
 show wpAny _ _ (Builtin.SmallTypes.ownedTupleIsFree (.ref z)>>=λu=>_) _ _ _
 refine UL (za hfr hz ?_);simp only[if_true];refine UL (Xg (show _ from ?_))
 refine UL (VG hz rfl (x:=.ref TO) rfl (show _ from ?_))
 refine UL (wpAny_setField_rec hz (by simp) λg1 hz1 e1=>?_)
 replace hz1:bJ g1 z TI TO .ellipsis f1:=hz1;have n1:=(S1.obj _ _ h1).2;refine UL ?_;simp only[List.zipIdx_cons,List.zipIdx_nil,List.forIn_cons,List.forIn_nil];refine UL (UL (wpAny_onRaise (show _ from ?_)))
 show wpAny _ _ (Builtin.SmallTypes.nextOf (.ref i1)>>=λu=>_) _ _ _
 refine UL (S1.item _ k _ x _ _ (S1.keep _ _ _ h1 (λo q=>e1.extBut _ _ D.i1z q) λo q=>e1.extBut _ _ D.l1z q) hx λg2 h12 e2=>UV ?_)
 have hTO2:IsPair g2 TO a b:=e2.extBut _ _ D.TOi1 (e1.extBut _ _ D.TOz hTO);refine UL (Wq hTO2 rfl (show _ from ?_))
 refine UL (wpAny_updateSeq_pair hTO2 λg3 hTO3 e3=>?_)
 replace hTO3:IsPair g3 TO x b:=hTO3;refine UL (wpAny_letGo (UV (show _ from ?_)))
 refine UL (UL (wpAny_onRaise (show _ from ?_)))
 show wpAny _ _ (Builtin.SmallTypes.nextOf (.ref i2)>>=λu=>_) _ _ _
 refine UL (S2.item _ k _ y _ _ (S2.keep _ _ _ h2 (λo q=>e3.extBut _ _ D.TOi2.symm (e2.extBut _ _ D.i12.symm (e1.extBut _ _ D.i2z q))) λo q=>e3.extBut _ _ D.l2TO (e2.extBut _ _ D.l2i1 (e1.extBut _ _ D.l2z q))) hy λg4 h24 e4=>UV ?_)
 have hTO4:IsPair g4 TO x b:=e4.extBut _ _ D.TOi2 hTO3;refine UL (Wq hTO4 rfl (show _ from ?_))
 refine UL (wpAny_updateSeq_pair hTO4 λg5 hTO5 e5=>?_)
 replace hTO5:IsPair g5 TO x y:=hTO5;refine UL (wpAny_letGo (UV (UV (show _ from ?_))))
 refine UL (Wq hTO5 rfl (show _ from ?_))
 refine UL (wpAny_newTuple (show _ from ?_))
 have hsz:g5.objs.size=s.heap.objs.size:=by rw[e5.1,e4.1,e3.1,e2.1,e1.1]
 have hz5:bJ g5 z TI TO .ellipsis f1:=e5.extBut _ _ D.TOz.symm (e4.extBut _ _ D.i2z.symm (e3.extBut _ _ D.TOz.symm (e2.extBut _ _ D.i1z.symm hz1)));have hk5:∀c o,c≠z->c≠TO->c≠i1->c≠i2->s.heap.get? c=some o->g5.get? c=some o:=λc o c1 c2 c3 c4 q=>e5.extBut _ _ c2 (e4.extBut _ _ c4 (e3.extBut _ _ c2 (e2.extBut _ _ c3 (e1.extBut _ _ c1 q))))
 have h15:st1 (k+1) g5:=S1.keep _ _ _ h12 (λo q=>e5.extBut _ _ D.TOi1.symm (e4.extBut _ _ D.i12 (e3.extBut _ _ D.TOi1.symm q))) λo q=>e5.extBut _ _ D.l1TO (e4.extBut _ _ D.l1i2 (e3.extBut _ _ D.l1TO q))
 have h25:st2 (k+1) g5:=S2.keep _ _ _ h24 (λo q=>e5.extBut _ _ D.TOi2.symm q) λo q=>e5.extBut _ _ D.l2TO q
 have hzlt:z<g5.objs.size:=U7 hz5;show wpAny _ _ (Builtin.SmallTypes.ownedTupleHandOut (.ref z) (.ref g5.objs.size)>>=λu=>_) _ _ _
 refine UL ?_;unfold Builtin.SmallTypes.ownedTupleHandOut;have hz6:bJ (g5.push { cls:=.type "tuple",data:=.seq #[x,y] }) z TI TO .ellipsis f1:=UT _ hz5;refine UL (wpAny_setField_rec hz6 (by simp) λg7 hz7 e7=>?_)
 replace hz7:bJ g7 z TI TO (rawInt g5.objs.size) f1:=hz7;refine wpAny_setField_rec hz7 (by simp) λg8 hz8 e8=>?_
 replace hz8:IsZip g8 z TI TO (rawInt g5.objs.size):=hz8;have up:∀c o,c≠z->g5.get? c=some o->g8.get? c=some o:=λc o c1 q=>e8.extBut _ _ c1 (e7.extBut _ _ c1 (UT _ q))
 have hT8:IsPair g8 g5.objs.size x y:=e8.extBut _ _ (Xv hzlt) (e7.extBut _ _ (Xv hzlt) (U9 _ rfl));have sz8:g8.objs.size=g5.objs.size+1:=by rw[e8.1,e7.1,VF]
 rw[hsz]at hz8 hT8 sz8;refine UV ⟨_,rfl,?_⟩;show Q (.ref g5.objs.size) _;rw[hsz];exact hQ g8 hz8 (up _ _ D.TOz hTO5) (S1.keep _ _ _ h15 (λo q=>up _ o D.i1z q) λo q=>up _ o D.l1z q) (S2.keep _ _ _ h25 (λo q=>up _ o D.i2z q) λo q=>up _ o D.l2z q) hT8 sz8 λc o c1 c2 c3 c4 q=>up c o c1 (hk5 c o c1 c2 c3 c4 q)
def JX(hh:A.handled=none)(D:ZipApart z TI TO i1 i2 l1 l2)(S1:SubIt P w i1 l1 xs st1)(S2:SubIt P w i2 l2 ys st2)(hfr:f0=.none\/∃ p:Addr,f0=rawInt p/\s.heap.get? p=none)(hz:bJ s.heap z TI TO f0 f1)(hTI:IsPair s.heap TI (.ref i1) (.ref i2))(hTO:IsPair s.heap TO a b)(h1:st1 k s.heap)(h2:st2 k s.heap)(hend:xs[k]?=none\/ys[k]?=none)
  (hE:∀h' e,(∀c o,c≠z->c≠TO->c≠i1->c≠i2->s.heap.get? c=some o->h'.get? c=some o)->(∃o,h'.get? e=some o/\o.cls=.type "StopIteration")->E (.ref e) { s with heap:=h' }) :
  wpAny (model P w) A (Builtin.«zip.__next__» ⟨[.ref z],[]⟩) Q E s:=by
 show wpAny _ _ (field (.ref z) 2>>=λy=>_) _ _ _
 refine UL (VG hz rfl (x:=.bool false) rfl (show _ from ?_))
 show wpAny _ _ (field (.ref z) 3>>=λy=>_) _ _ _
 refine UL (VG hz rfl (x:=.ref TI) rfl (show _ from ?_))
 refine UL (Wq hTI rfl (show _ from ?_))
 show wpAny _ _ (Builtin.SmallTypes.ownedTupleIsFree (.ref z)>>=λy=>_) _ _ _
 refine UL (za hfr hz ?_);simp only[if_true];refine UL (Xg (show _ from ?_))
 refine UL (VG hz rfl (x:=.ref TO) rfl (show _ from ?_))
 refine UL (wpAny_setField_rec hz (by simp) λg1 hz1 e1=>?_)
 replace hz1:bJ g1 z TI TO .ellipsis f1:=hz1;refine UL ?_;simp only[List.zipIdx_cons,List.zipIdx_nil,List.forIn_cons,List.forIn_nil];refine UL (UL (wpAny_onRaise (show _ from ?_)))
 show wpAny _ _ (Builtin.SmallTypes.nextOf (.ref i1)>>=λy=>_) _ _ _
 have h11:st1 k g1:=S1.keep _ _ _ h1 (λo q=>e1.extBut _ _ D.i1z q) λo q=>e1.extBut _ _ D.l1z q
 cases hx:xs[k]? with
 |none=>
   refine UL (S1.done _ k _ _ _ hh h11 hx λg2 e e2 he=>?_)
   obtain⟨oe,hoe,hce⟩:=he;have hz2:bJ g2 z TI TO .ellipsis f1:=e2 _ _ D.i1z.symm hz1;have hez:e≠z:=λq=>by subst q;rw[hz2]at hoe;cases hoe;simp at hce
   refine wpAny_setField_rec hz2 (by simp) λg3 y e3=>hE g3 e (λc o c1 y c3 y q=>e3.extBut _ _ c1 (e2 _ _ c3 (e1.extBut _ _ c1 q))) ⟨oe,e3.extBut _ _ hez hoe,hce⟩
 |some x=>
   have hy:ys[k]?=none:=by rcases hend with q | q;rw[hx]at q;cases q;exact q
   refine UL (S1.item _ k _ x _ _ h11 hx λg2 h12 e2=>UV ?_)
   have hTO2:IsPair g2 TO a b:=e2.extBut _ _ D.TOi1 (e1.extBut _ _ D.TOz hTO);refine UL (Wq hTO2 rfl (show _ from ?_))
   refine UL (wpAny_updateSeq_pair hTO2 λg3 hTO3 e3=>?_)
   refine UL (wpAny_letGo (UV (show _ from ?_)))
   refine UL (UL (wpAny_onRaise (show _ from ?_)))
   show wpAny _ _ (Builtin.SmallTypes.nextOf (.ref i2)>>=λy=>_) _ _ _
   refine UL (S2.done _ k _ _ _ hh (S2.keep _ _ _ h2 (λo q=>e3.extBut _ _ D.TOi2.symm (e2.extBut _ _ D.i12.symm (e1.extBut _ _ D.i2z q))) λo q=>e3.extBut _ _ D.l2TO (e2.extBut _ _ D.l2i1 (e1.extBut _ _ D.l2z q))) hy λg4 e e4 he=>?_)
   obtain⟨oe,hoe,hce⟩:=he;have hz4:bJ g4 z TI TO .ellipsis f1:=e4 _ _ D.i2z.symm (e3.extBut _ _ D.TOz.symm (e2.extBut _ _ D.i1z.symm hz1));have hez:e≠z:=λq=>by subst q;rw[hz4]at hoe;cases hoe;simp at hce
   refine wpAny_setField_rec hz4 (by simp) λg5 y e5=>hE g5 e (λc o c1 c2 c3 c4 q=>e5.extBut _ _ c1 (e4 _ _ c4 (e3.extBut _ _ c2 (e2.extBut _ _ c3 (e1.extBut _ _ c1 q))))) ⟨oe,e5.extBut _ _ hez hoe,hce⟩
def Ig{k:Nat}{b:Bool}{Q:Value->Shared->Prop}(D:ZipApart z TI TO i1 i2 l1 l2)(S1:SubIt P w i1 l1 xs st1)(S2:SubIt P w i2 l2 ys st2)(hp:s.heap.get? p=some o)
  (hz:bJ s.heap z TI TO (rawInt p) (.bool b)) (hTI:IsPair s.heap TI (.ref i1) (.ref i2)) (h1:st1 k s.heap) (h2:st2 k s.heap) (hx:xs[k]?=some x) (hy:ys[k]?=some y)
  (hQ:∀h',bJ h' z TI TO (rawInt p) (.bool true)->st1 (k+1) h'->st2 (k+1) h'->IsPair h' s.heap.objs.size x y->h'.objs.size=s.heap.objs.size+1->(∀c o,c≠z->c≠i1->c≠i2->s.heap.get? c=some o->h'.get? c=some o)->Q (.ref s.heap.objs.size) { s with heap:=h' }) :
  wpAny (model P w) A (Builtin.«zip.__next__» ⟨[.ref z],[]⟩) (λfin s'=>∃v,fin=.done (.ret v)/\Q v s') E s:=by
 show wpAny _ _ (field (.ref z) 2>>=λu=>_) _ _ _
 refine UL (VG hz rfl (x:=.bool false) rfl (show _ from ?_))
 show wpAny _ _ (field (.ref z) 3>>=λu=>_) _ _ _
 refine UL (VG hz rfl (x:=.ref TI) rfl (show _ from ?_))
 refine UL (Wq hTI rfl (show _ from ?_))
 show wpAny _ _ (Builtin.SmallTypes.ownedTupleIsFree (.ref z)>>=λu=>_) _ _ _
 refine UL (yZ hp hz λg1 hz1 e1=>?_)
 simp only[Bool.false_eq_true,if_false];rw[<-Yv];simp only[List.forIn_cons,List.forIn_nil];refine UL (UL (UL (VR (show _ from ?_))))
 show wpAny _ _ (Builtin.SmallTypes.nextOf (.ref i1)>>=λu=>_) _ _ _
 refine UL (S1.item _ k _ x _ _ (S1.keep _ _ _ h1 (λo q=>e1.extBut _ _ D.i1z q) λo q=>e1.extBut _ _ D.l1z q) hx λg2 h12 e2=>UV ?_)
 refine UV ?_;refine UL (UL (VR (show _ from ?_)))
 show wpAny _ _ (Builtin.SmallTypes.nextOf (.ref i2)>>=λu=>_) _ _ _
 refine UL (S2.item _ k _ y _ _ (S2.keep _ _ _ h2 (λo q=>e2.extBut _ _ D.i12.symm (e1.extBut _ _ D.i2z q)) λo q=>e2.extBut _ _ D.l2i1 (e1.extBut _ _ D.l2z q)) hy λg3 h23 e3=>UV ?_)
 refine UV (UV ?_);refine UL (wpAny_newTuple (hsz:=by show 2<=sizeLine;decide) (show _ from ?_))
 have hsz:g3.objs.size=s.heap.objs.size:=by rw[e3.1,e2.1,e1.1]
 have up:∀c o,c≠z->c≠i1->c≠i2->s.heap.get? c=some o->g3.get? c=some o:=λc o c1 c3 c4 q=>e3.extBut _ _ c4 (e2.extBut _ _ c3 (e1.extBut _ _ c1 q))
 have hz3:bJ g3 z TI TO (rawInt p) (.bool true):=e3.extBut _ _ D.i2z.symm (e2.extBut _ _ D.i1z.symm hz1);refine UV ⟨_,rfl,?_⟩;show Q (.ref g3.objs.size) _;have hT:IsPair (g3.push { cls:=.type "tuple",data:=.seq #[x,y] }) g3.objs.size x y:=U9 _ rfl;have h13:st1 (k+1) g3:=S1.keep _ _ _ h12 (λo q=>e3.extBut _ _ D.i12 q) λo q=>e3.extBut _ _ D.l1i2 q
 rw[hsz]at hT ⊢
 exact hQ _ (UT _ hz3) (S1.keep _ _ _ h13 (λo q=>UT _ q) λo q=>UT _ q) (S2.keep _ _ _ h23 (λo q=>UT _ q) λo q=>UT _ q) hT (by rw[VF,hsz]) λc o c1 c3 c4 q=>UT _ (up c o c1 c3 c4 q)
def JZ(hh:A.handled=none)(D:ZipApart z TI TO i1 i2 l1 l2)(S1:SubIt P w i1 l1 xs st1)(S2:SubIt P w i2 l2 ys st2)(hp:s.heap.get? p=some o)
  (hz:bJ s.heap z TI TO (rawInt p) (.bool b)) (hTI:IsPair s.heap TI (.ref i1) (.ref i2)) (h1:st1 k s.heap) (h2:st2 k s.heap) (hend:xs[k]?=none\/ys[k]?=none)
  (hE:∀h' e,(∀c o,c≠z->c≠TO->c≠i1->c≠i2->s.heap.get? c=some o->h'.get? c=some o)->(∃o,h'.get? e=some o/\o.cls=.type "StopIteration")->E (.ref e) { s with heap:=h' }) :
  wpAny (model P w) A (Builtin.«zip.__next__» ⟨[.ref z],[]⟩) Q E s:=by
 show wpAny _ _ (field (.ref z) 2>>=λy=>_) _ _ _
 refine UL (VG hz rfl (x:=.bool false) rfl (show _ from ?_))
 show wpAny _ _ (field (.ref z) 3>>=λy=>_) _ _ _
 refine UL (VG hz rfl (x:=.ref TI) rfl (show _ from ?_))
 refine UL (Wq hTI rfl (show _ from ?_))
 show wpAny _ _ (Builtin.SmallTypes.ownedTupleIsFree (.ref z)>>=λy=>_) _ _ _
 refine UL (yZ hp hz λg1 hz1 e1=>?_)
 simp only[Bool.false_eq_true,if_false];rw[<-Yv];simp only[List.forIn_cons,List.forIn_nil];refine UL (UL (UL (VR (show _ from ?_))))
 show wpAny _ _ (Builtin.SmallTypes.nextOf (.ref i1)>>=λy=>_) _ _ _
 have h11:st1 k g1:=S1.keep _ _ _ h1 (λo q=>e1.extBut _ _ D.i1z q) λo q=>e1.extBut _ _ D.l1z q
 cases hx:xs[k]? with
 |none=>exact UL (S1.done _ k _ _ _ hh h11 hx λg2 e e2 he=>hE g2 e (λc o c1 y c3 y q=>e2 _ _ c3 (e1.extBut _ _ c1 q)) he)
 |some x=>
   have hy:ys[k]?=none:=by rcases hend with q | q;rw[hx]at q;cases q;exact q
   refine UL (S1.item _ k _ x _ _ h11 hx λg2 h12 e2=>UV ?_)
   refine UV ?_;refine UL (UL (VR (show _ from ?_)))
   show wpAny _ _ (Builtin.SmallTypes.nextOf (.ref i2)>>=λy=>_) _ _ _
   exact UL (S2.done _ k _ _ _ hh (S2.keep _ _ _ h2 (λo q=>e2.extBut _ _ D.i12.symm (e1.extBut _ _ D.i2z q)) λo q=>e2.extBut _ _ D.l2i1 (e1.extBut _ _ D.l2z q)) hy λg3 e e3 he=>hE g3 e (λc o c1 y c3 c4 q=>e3 _ _ c4 (e2.extBut _ _ c3 (e1.extBut _ _ c1 q))) he)
end
def lZ{P:Program}{w:World}{A:Around}{E:Value->Shared->Prop}{s:Shared}{z TI TO:Addr}{f0 f1:Value}{Q:Option Value->Shared->Prop}(hz:bJ s.heap z TI TO f0 f1)
  (h:wpAny (model P w) A.in1 (Builtin.«zip.__next__» ⟨[.ref z],[]⟩) (λfin s'=>∃v,fin=.done (.ret v)/\Q (some v) s') (λe s'=>∃o ea,e=.ref ea/\s'.heap.get? ea=some o/\o.cls=.type "StopIteration"/\Q none s') s):wpAny (model P w) A (pyNext (.ref z)) Q E s:=by
 have hT:s.TypeIs (.ref z) "zip":=⟨_,hz,rfl⟩;unfold pyNext;refine UL (Xa (VH (name:=Str.ofString "__next__") hT F.slot_zip_next (VD F.slot_zip_next hT F.entry_zip_next (Vn h (λfin s' q=>?_) λe s' q=>?_) (F.args_zip_next_1 _))))
 ·obtain⟨v,rfl,q⟩:=q;exact⟨v,rfl,UV q⟩
 ·obtain⟨o,ea,rfl,ho,hc,q⟩:=q;exact UL (YW (T := "StopIteration") (b:=true) ⟨o,ho,hc⟩ isSubtype_stop (UV q))
def Hx{P:Program}{w:World}{A:Around}{E:Value->Shared->Prop}{s:Shared}{z TI TO:Addr}{f0 f1:Value}{Q:Value->Shared->Prop}(hz:bJ s.heap z TI TO f0 f1)(h:Q (.ref z) s):wpAny (model P w) A (pyIter (.ref z)) Q E s:=by
 have ty:s.TypeIs (.ref z) "zip":=Exists.intro _ (And.intro hz rfl);refine YC ty F.slot_zip_iter ?_;refine VD (A:=A) F.slot_zip_iter ty F.entry_zip_iter ?_ (F.args_zip_iter_1 (.ref z));have fine:wpAny (model P w) A.in1 (ret (Value.ref z)) (λfin s'=>∃v,fin=Fin.done (Flow.ret v)/\∃T' r,s'.TypeIs v T'/\typeLookup (Value.type T') (Str.ofString "__next__")=pure (some r)/\Q v s') E s:=
  UV (Exists.intro (Value.ref z) (And.intro rfl (Exists.intro "zip" ⟨_,ty,F.slot_zip_next.lookup,h⟩)))
 exact fine
def kJ(z TI TO:Addr)(h:Heap):Prop:=∃f0 b,bJ h z TI TO f0 (.bool b)/\(f0=.none\/∃p:Addr,f0=rawInt p)
def Ii(tg:Expr):Prop:=(∃nm tp,tg=.Name nm tp)\/∃es x1 tp,tg=.Tuple es x1 tp
def Li{P:Program}{w:World}{A:Around}{E:Value->Shared->Prop}{s:Shared}{tg:Expr}{z TI TO T:Addr}{f0 f1:Value}{Q:Unit->Shared->Prop}(ht:Ii tg)(hz:bJ s.heap z TI TO f0 f1)
  (hQ:∀h' f0',bJ h' z TI TO f0' f1->(f0'=f0\/f0'=.none)->Heap.SameBut z s.heap h'->Q () { s with heap:=h' }):wpAny (model P w) A (letOwnedTupleGo tg (.ref z) (.ref T)) Q E s:=by
 have q0:Q () s:=hQ s.heap f0 hz (.inl rfl) (.refl _ _);rcases ht with ⟨nm,tp,rfl⟩ | ⟨es,x1,tp,rfl⟩
 ·exact UV q0
 ·unfold letOwnedTupleGo;refine UL (wpAny_load hz ?_);show wpAny _ _ (if (["enumerate", "zip", "dict_itemiterator", "dict_reverseitemiterator", "odict_iterator", "itertools.zip_longest", "itertools.pairwise"].contains "zip"&&(#[f0,f1,.bool false,.ref TI,.ref TO]:Array Value)[0]?==some (rawInt T))=true then _ else _) Q E s
  split
  ·refine UL (Xg ?_);show wpAny _ _ (setField (.ref z) 0 .none) Q E s;exact wpAny_setField_rec hz (by simp) λh' hz' hs'=>hQ h' .none hz' (.inr rfl) hs'
  ·exact UV q0
def H8{P:Program}{w:World}{K:PySem.W.Frag}{tg:Expr}(ht:Ii tg){b1 b2:Bool}{z TI TO i1 i2 l1 l2:Addr}(D:ZipApart z TI TO i1 i2 l1 l2):
  Turn P w K tg (Nm K b1 b2 l1 l2) [z,TI,TO,i1,i2] z (λi h=>kJ z TI TO h/\IsPair h TI (.ref i1) (.ref i2)/\(∃a b,IsPair h TO a b)/\bA b1 i1 l1 i h/\bA b2 i2 l2 i h) where
 mem:=by simp
 obj:=λi h st b hb=>by
  obtain⟨⟨_,_,hz,_⟩,hTI,⟨a,c,hTO⟩,h1,h2⟩:=st;simp only[List.mem_cons,List.mem_nil_iff,or_false]at hb;rcases hb with rfl | rfl | rfl | rfl | rfl
  ·exact⟨_,hz,λv q=>by cases q⟩
  ·exact⟨_,hTI,λv q=>by cases q⟩
  ·exact⟨_,hTO,λv q=>by cases q⟩
  ·exact h1.obj
  ·exact h2.obj
 keep:=λi h h' st k=>by obtain⟨⟨f0,b,hz,hf⟩,hTI,⟨a,c,hTO⟩,h1,h2⟩:=st;exact⟨⟨f0,b,k z (by simp) _ hz,hf⟩,k TI (by simp) _ hTI,⟨a,c,k TO (by simp) _ hTO⟩,h1.keep λo q=>k i1 (by simp) o q,h2.keep λo q=>k i2 (by simp) o q⟩
 item:=by
  intro X hP hw hK hc i Zo s σ H E I hf st hg;subst hP hw hK;obtain⟨⟨f0,b,hz,hf0⟩,hTI,⟨a,c,hTO⟩,h1,h2⟩:=st;obtain⟨xs,ys,x,y,s1,s2,hx,hy⟩:=hg;obtain⟨its1,r1,q1,_⟩:=I.seqS s1;obtain⟨its2,r2,q2,_⟩:=I.seqS s2;obtain⟨u1,e1,ru1⟩:=r1.get hx;obtain⟨u2,e2,ru2⟩:=r2.get hy;obtain⟨oz,hoz⟩:∃oz,s.heap.get? z=some oz/\oz.cls=.type "zip":=⟨_,hz,rfl⟩;have fin:∀ h',kJ z TI TO h'->(∃ a b,IsPair h' TO a b)->IsPair h' TI (.ref i1) (.ref i2)->bA b1 i1 l1 (i + 1) h'->bA b2 i2 l2 (i + 1) h'->IsPair h' s.heap.objs.size u1 u2->(∀ c o,c≠z->c≠TO->c≠i1->c≠i2->s.heap.get? c=some o->h'.get? c=some o)->
    ∃v,some (Value.ref s.heap.objs.size)=some v/\wpAny (model X.prog X.w) X.A (letOwnedTupleGo tg (.ref z) v) (λu s2=>∃xv H',Inv X Zo σ H' s2/\RelV xv v/\(Nm X.K b1 b2 l1 l2).yld i H xv H'/\(kJ z TI TO s2.heap/\IsPair s2.heap TI (.ref i1) (.ref i2)/\(∃a b,IsPair s2.heap TO a b)/\bA b1 i1 l1 (i+1) s2.heap/\bA b2 i2 l2 (i+1) s2.heap)/\∀b∈[z,TI,TO,i1,i2],H' b=none) E { s with heap:=h' }:=by
   intro h' zs tos tis k1 k2 pr kk0;have lt:z<s.heap.objs.size:=U7 hz;obtain⟨g0,gb,gz,gh⟩:=zs;refine⟨_,rfl,Li (s:={ s with heap:=h' }) ht gz λh2 g0' gz2 g0h sbt=>?_⟩
   have mv:∀c o,c≠z->h'.get? c=some o->h2.get? c=some o:=λc o hc q=>sbt.extBut _ _ hc q
   have kk0:∀c o,c≠z->c≠TO->c≠i1->c≠i2->s.heap.get? c=some o->h2.get? c=some o:=λc o n1 n2 n3 n4 q=>mv c o n1 (kk0 c o n1 n2 n3 n4 q)
   have zs:kJ z TI TO h2:=⟨g0',gb,gz2,g0h.elim (λe=>by rw[e];exact gh) λe=>.inl e⟩
   have tos:∃a b,IsPair h2 TO a b:=by obtain⟨a,b,q⟩:=tos;exact⟨a,b,mv _ _ D.TOz q⟩
   have tis:IsPair h2 TI (.ref i1) (.ref i2):=mv _ _ D.TIz tis;have k1:bA b1 i1 l1 (i+1) h2:=k1.keep λo q=>mv _ _ D.i1z q
   have k2:bA b2 i2 l2 (i+1) h2:=k2.keep λo q=>mv _ _ D.i2z q
   have pr:IsPair h2 s.heap.objs.size u1 u2:=mv _ _ (Xv lt) pr;have kk:∀b o,b∉[z,TI,TO,i1,i2]->s.heap.get? b=some o->h2.get? b=some o:=λb o hb q=>kk0 b o (λe=>hb (by simp[e])) (λe=>hb (by simp[e])) (λe=>hb (by simp[e])) (λe=>hb (by simp[e])) q
   have fresh:H s.heap.objs.size=none:=I.hok.fresh (U0 _);have I1:Inv X Zo σ H { s with heap:=h2,toks:=s.toks }:=I.turnedL kk hf (λb hb=>(hf b hb).2.1)
   have nw:ObjOk X.prog X.w (upd H s.heap.objs.size (.tup [x,y])) h2 s.heap.objs.size (.tup [x,y]):=⟨by show 2<=sizeLine;decide,[u1,u2],.cons ru1 (.cons ru2 .nil),⟨_,pr,rfl,_,rfl⟩⟩
   have nfp:∀b∈[z,TI,TO,i1,i2],b≠s.heap.objs.size:=λb hb e=>by
    obtain⟨o,ho,_⟩:∃o,s.heap.get? b=some o/\True:=by
     simp only[List.mem_cons,List.mem_nil_iff,or_false]at hb;rcases hb with rfl | rfl | rfl | rfl | rfl
     ·exact⟨_,hz,trivial⟩
     ·exact⟨_,hTI,trivial⟩
     ·exact⟨_,hTO,trivial⟩
     ·obtain⟨o,q,_⟩:=h1.obj;exact⟨o,q,trivial⟩
     ·obtain⟨o,q,_⟩:=h2.obj;exact⟨o,q,trivial⟩
    exact absurd (U7 ho) (by rw[e];exact Wm _)
   exact⟨.ref s.heap.objs.size,upd H s.heap.objs.size (.tup [x,y]),I.turnedLay (t':=s.toks) kk hf (U0 _) nw,rfl,⟨_,fresh,rfl,λxs' ys' q1' q2'=>⟨x,y,by rw[I.seqS_inj q1' s1];exact hx,by rw[I.seqS_inj q2' s2];exact hy,rfl⟩⟩,⟨zs,tis,tos,k1,k2⟩,λb hb=>by rw[upd_ne (nfp b hb)];exact (hf b hb).1⟩
  have g1:=jM (P:=X.prog) (w:=X.w) b1 D.l1i1 its1.toArray;have g2:=jM (P:=X.prog) (w:=X.w) b2 D.l2i2 its2.toArray;have free:(f0=.none\/∃p:Addr,f0=rawInt p/\s.heap.get? p=none)->wpAny (model X.prog X.w) X.A.in1 (Builtin.«zip.__next__» ⟨[.ref z],[]⟩) (λfin s'=>∃v,fin=.done (.ret v)/\v=.ref s.heap.objs.size/\∃h',s'={ s with heap:=h' }/\kJ z TI TO h'/\(∃a b,IsPair h' TO a b)/\bA b1 i1 l1 (i+1) h'/\bA b2 i2 l2 (i+1) h'/\IsPair h' s.heap.objs.size u1 u2/\(∀c o,c≠z->c≠TO->c≠i1->c≠i2->s.heap.get? c=some o->h'.get? c=some o)) (λu u=>False) s:=λhfr=>
   Ie (Q:=λv s'=>v=.ref s.heap.objs.size/\∃h',s'={ s with heap:=h' }/\kJ z TI TO h'/\(∃a b,IsPair h' TO a b)/\bA b1 i1 l1 (i+1) h'/\bA b2 i2 l2 (i+1) h'/\IsPair h' s.heap.objs.size u1 u2/\(∀c o,c≠z->c≠TO->c≠i1->c≠i2->s.heap.get? c=some o->h'.get? c=some o)) D g1 g2 hfr hz hTI hTO ⟨h1,q1⟩ ⟨h2,q2⟩ (by simpa using e1) (by simpa using e2)
    λh' a1 a2 a3 a4 a5 a6 a7=>⟨rfl,h',rfl,⟨_,_,a1,.inr ⟨_,rfl⟩⟩,⟨_,_,a2⟩,a3.1,a4.1,a5,a7⟩
  have all:wpAny (model X.prog X.w) X.A.in1 (Builtin.«zip.__next__» ⟨[.ref z],[]⟩) (λfin s'=>∃ v,fin=.done (.ret v)/\v=.ref s.heap.objs.size/\∃ h',s'={ s with heap:=h' }/\kJ z TI TO h'/\(∃ a b,IsPair h' TO a b)/\bA b1 i1 l1 (i + 1) h'/\bA b2 i2 l2 (i + 1) h'/\IsPair h' s.heap.objs.size u1 u2/\(∀ c o,c≠z->c≠TO->c≠i1->c≠i2->s.heap.get? c=some o->h'.get? c=some o)) (λu u=>False) s:=by
   rcases hf0 with hn | ⟨p,rfl⟩
   ·exact free (.inl hn)
   ·cases hp:s.heap.get? p with
    |none=>exact free (.inr ⟨p,rfl,hp⟩)
    | some o=>
      exact Ig (Q:=λv s'=>v=.ref s.heap.objs.size/\∃h',s'={ s with heap:=h' }/\kJ z TI TO h'/\(∃a b,IsPair h' TO a b)/\bA b1 i1 l1 (i+1) h'/\bA b2 i2 l2 (i+1) h'/\IsPair h' s.heap.objs.size u1 u2/\(∀c o,c≠z->c≠TO->c≠i1->c≠i2->s.heap.get? c=some o->h'.get? c=some o)) D g1 g2 hp hz hTI ⟨h1,q1⟩ ⟨h2,q2⟩ (by simpa using e1) (by simpa using e2)
       λh' a1 a3 a4 a5 a6 a7=>⟨rfl,h',rfl,⟨_,_,a1,.inr ⟨_,rfl⟩⟩,⟨_,_,a7 _ _ D.TOz D.TOi1 D.TOi2 hTO⟩,a3.1,a4.1,a5,λc o n1 u n3 n4 q=>a7 c o n1 n3 n4 q⟩
  refine lZ hz (Vn all (λfin' s' q=>?_) λu u q=>q.elim)
  obtain⟨v,rfl,rfl,h',rfl,c1,c2,c3,c4,c5,c6⟩:=q;exact⟨_,rfl,fin h' c1 c2 (c6 _ _ D.TIz D.TITO D.TIi1 D.TIi2 hTI) c3 c4 c5 c6⟩
 done:=by
  intro X hP hw hK hc i Zo s σ H E I hf st hg;subst hP hw hK;obtain⟨⟨f0,b,hz,hf0⟩,hTI,⟨a,c,hTO⟩,h1,h2⟩:=st;obtain⟨xs,ys,s1,s2,hend⟩:=hg;obtain⟨its1,r1,q1,_⟩:=I.seqS s1;obtain⟨its2,r2,q2,_⟩:=I.seqS s2;have hend':its1.toArray[i]?=none\/its2.toArray[i]?=none:=hend.imp (λq=>by simpa using r1.none_of q) λq=>by simpa using r2.none_of q
  have g1:=jM (P:=X.prog) (w:=X.w) b1 D.l1i1 its1.toArray;have g2:=jM (P:=X.prog) (w:=X.w) b2 D.l2i2 its2.toArray;have hh:X.A.in1.handled=none:=I.ok.hd hc;have out:∀h' e,(∀c o,c≠z->c≠TO->c≠i1->c≠i2->s.heap.get? c=some o->h'.get? c=some o)->(∃o,h'.get? e=some o/\o.cls=.type "StopIteration")->∃o ea,Value.ref e=.ref ea/\({ s with heap:=h' }:Shared).heap.get? ea=some o/\o.cls=.type "StopIteration"/\(none:Option Value)=none/\Inv X Zo σ H { s with heap:=h' }:=λh' e kk he=>by obtain⟨o,ho,hco⟩:=he;exact⟨o,e,rfl,ho,hco,rfl,I.turnedL (t':=s.toks) (λb o hb q=>kk b o (λe=>hb (by simp[e])) (λe=>hb (by simp[e])) (λe=>hb (by simp[e])) (λe=>hb (by simp[e])) q) hf (λb hb=>(hf b hb).2.1)⟩
  have free:(f0=.none\/∃p:Addr,f0=rawInt p/\s.heap.get? p=none)->wpAny (model X.prog X.w) X.A (pyNext (.ref z)) (λr s1=>r=none/\Inv X Zo σ H s1) E s:=λhfr=>
   lZ hz (JX hh D g1 g2 hfr hz hTI hTO ⟨h1,q1⟩ ⟨h2,q2⟩ hend' out)
  rcases hf0 with hn | ⟨p,rfl⟩
  ·exact free (.inl hn)
  ·cases hp:s.heap.get? p with
   |none=>exact free (.inr ⟨p,rfl,hp⟩)
   |some o=>exact lZ hz (JZ hh D g1 g2 hp hz hTI ⟨h1,q1⟩ ⟨h2,q2⟩ hend' out)
 self:=λu u u u u st h=>by obtain⟨⟨_,_,hz,_⟩,_⟩:=st;exact Hx hz h
set_option tactic.hygienic true in
def yM(l:Addr)(xs:Array Value):
  Meets (Builtin.«enumerate.__new__» ⟨[.type "enumerate",.ref l],[]⟩) (λz R s=>IsTup s.heap l xs /\
   R (.ok (.ret (.ref (qG s.heap "tuple_iterator" l).objs.size))) { s with heap:=(qG s.heap "tuple_iterator" l).push { cls:=.type "enumerate",data:=.fields #[.none,.bool false,.ref s.heap.objs.size,rawInt 0,.none,.none] } }):=
 .of_wp λprog w A R s h=>by
  obtain⟨hp,gn,dr,tk,os⟩:=s;obtain⟨k1,h⟩:=h;have hsub:=sub_enumerate;have K1:IsTup (Shared.heap ⟨hp,gn,dr,tk,os⟩) l xs:=k1;obtain⟨ot,hot,r⟩:=id K1
  wp_walk using Yk hot
  refine wpAny_stack_any λsk=>UV ?_
  split
  ·rename_i c _ _ _ _ _;cases (c==Value.type "enumerate")<;>(wp_walk using Yk hot,Yz K1;exact⟨_,rfl,h⟩)
  ·wp_walk using Yk hot,Yz K1
   exact⟨_,rfl,h⟩
section
variable{P:Program}{w:World}{A:Around}{E:Value->Shared->Prop}{s:Shared}{e it l:Addr}{xs:Array Value}{st:Nat->Heap->Prop}
def CT(k1:fB b s.heap l xs)
  (h:∀h',IsEnum h' (s.heap.objs.size+1) s.heap.objs.size 0 .none->qH b s.heap.objs.size l xs 0 h'->h'.objs.size=s.heap.objs.size+2->(∀c o,s.heap.get? c=some o->h'.get? c=some o)->Q (.ref (s.heap.objs.size+1)) { s with heap:=h' }) :
  wpAny (model P w) A (call (.type "enumerate") [.ref l]) Q E s:=by
 cases b with
 |false=>exact call_enumerate_list (show s.heap.IsList l xs from k1) λh' a1 a2 a3 a4=>h h' a1 ⟨a2,k1.keep λo q=>a4 _ _ q⟩ a3 a4
 |true=>
   refine Y5 F.called_enumerate (by decide) (F.typeCall_enumerate_1 _) (F.newCall_enumerate_1 _) (λobj=>F.args_object_init_2 obj _) F.entry_enumerate_new (yM l xs) ⟨k1,?_⟩
   have z1:(qG s.heap "tuple_iterator" l).objs.size=s.heap.objs.size+1:=VF ..
   have up:∀c o,s.heap.get? c=some o->((qG s.heap "tuple_iterator" l).push { cls:=.type "enumerate",data:=.fields #[.none,.bool false,.ref s.heap.objs.size,rawInt 0,.none,.none] }).get? c=some o:=λc o q=>UT _ (UT _ q)
   have q2:((qG s.heap "tuple_iterator" l).push { cls:=.type "enumerate",data:=.fields #[.none,.bool false,.ref s.heap.objs.size,rawInt 0,.none,.none] }).get? (qG s.heap "tuple_iterator" l).objs.size=some _:=U9 _ rfl;have q1:((qG s.heap "tuple_iterator" l).push { cls:=.type "enumerate",data:=.fields #[.none,.bool false,.ref s.heap.objs.size,rawInt 0,.none,.none] }).get? s.heap.objs.size=some _:=UT _ (U9 _ rfl);show _/\_;rw[z1]at q2 ⊢
   exact⟨⟨_,q2,rfl⟩,h _ q2 ⟨⟨_,q1,rfl,rfl⟩,k1.keep λo q=>up _ _ q⟩ (by rw[VF,z1]) up⟩
def Dj{i:Nat}{Q:Value->Shared->Prop}(S:SubIt P w it l xs st)(ne:e≠it)(nl:l≠e)(he:IsEnum s.heap e it i old)(h0:st i s.heap)(hx:xs[i]?=some x)
  (hQ:∀h',IsEnumOut h' e it ((i:Int)+1) x s.heap.objs.size->st (i+1) h'->IsPair h' s.heap.objs.size (.int i s.toks) x->h'.objs.size=s.heap.objs.size+1->
    (∀c o,c≠e->c≠it->s.heap.get? c=some o->h'.get? c=some o)->Q (.ref s.heap.objs.size) { s with heap:=h',toks:=s.toks+1 }) :
  wpAny (model P w) A (Builtin.«enumerate.__next__» ⟨[.ref e],[]⟩) (λfin s'=>∃v,fin=.done (.ret v)/\Q v s') E s:=by
 obtain⟨hp,gn,dr,tk,os⟩:=s;show wpAny _ _ (field (.ref e) 2>>=λz=>_) _ _ _
 refine UL (VG he rfl (x:=.ref it) rfl (show _ from ?_))
 refine UL (S.item _ i _ x _ _ h0 hx λg1 n1 e1=>(show _ from ?_))
 replace e1:Heap.SameBut it hp g1:=e1;have c1:IsEnum g1 e it i old:=e1.extBut _ _ ne he;show wpAny _ _ (field (.ref e) 3>>=λz=>_) _ _ ⟨g1,gn,dr,tk,os⟩
 refine UL (VG c1 rfl (x:=rawInt i) rfl (show _ from ?_))
 show wpAny _ _ (field (.ref e) 4>>=λz=>_) _ _ ⟨g1,gn,dr,tk,os⟩
 refine UL (VG c1 rfl (x:=.none) rfl (show _ from ?_))
 show wpAny _ _ (mkInt i>>=λz=>_) _ _ ⟨g1,gn,dr,tk,os⟩
 refine UL (wpAny_mkInt (show _ from ?_))
 show wpAny _ _ (setField (.ref e) 3 (rawInt ((i:Int)+1))>>=λz=>_) _ _ ⟨g1,gn,dr,tk+1,os⟩
 refine UL (wpAny_setField_rec c1 (by simp) λg2 c2 e2=>?_)
 replace e2:Heap.SameBut e g1 g2:=e2;replace c2:IsEnum g2 e it ((i:Int)+1) old:=c2;show wpAny _ _ (setField (.ref e) 4 .none>>=λz=>_) _ _ ⟨g2,gn,dr,tk+1,os⟩
 refine UL (wpAny_setField_rec c2 (by simp) λg3 c3 e3=>?_)
 replace e3:Heap.SameBut e g2 g3:=e3;replace c3:IsEnum g3 e it ((i:Int)+1) old:=c3;show wpAny _ _ (newTuple [.int i tk,x]>>=λz=>_) _ _ ⟨g3,gn,dr,tk+1,os⟩
 refine UL (wpAny_newTuple (show _ from ?_))
 have c4:IsEnum (g3.push { cls:=.type "tuple",data:=.seq #[.int i tk,x] }) e it ((i:Int)+1) old:=UT _ c3;have sz:g3.objs.size=hp.objs.size:=by rw[e3.1,e2.1,e1.1]
 have el:e<hp.objs.size:=U7 he;have t4:IsPair (g3.push { cls:=.type "tuple",data:=.seq #[.int i tk,x] }) hp.objs.size (.int i tk) x:=by rw[<-sz];exact U9 _ rfl
 have z4:(g3.push { cls:=.type "tuple",data:=.seq #[.int i tk,x] }).objs.size=hp.objs.size+1:=by rw[VF,sz]
 have k4:∀c o,c≠e->c≠it->hp.get? c=some o->(g3.push { cls:=.type "tuple",data:=.seq #[.int i tk,x] }).get? c=some o:=λc o a1 a2 q=>UT _ (e3.extBut _ _ a1 (e2.extBut _ _ a1 (e1.extBut _ _ a2 q)))
 have n4:st (i+1) (g3.push { cls:=.type "tuple",data:=.seq #[.int i tk,x] }):=S.keep _ _ _ n1 (λo q=>UT _ (e3.extBut _ _ ne.symm (e2.extBut _ _ ne.symm q))) λo q=>UT _ (e3.extBut _ _ nl (e2.extBut _ _ nl q))
 revert c4 t4 z4 k4 n4;generalize g3.push { cls:=.type "tuple",data:=.seq #[.int i tk,x] }=g4;intro c4 t4 z4 k4 n4;show wpAny _ _ (Builtin.SmallTypes.ownedTupleIsFree (.ref e)>>=λz=>_) _ _ ⟨g4,gn,dr,tk+1,os⟩
 rw[sz];refine UL ?_;unfold Builtin.SmallTypes.ownedTupleIsFree;refine UL (VG c4 rfl (x:=.none) rfl (UV (show _ from ?_)))
 simp only[if_true];refine UL (Xg (show _ from ?_))
 refine UL (VG c4 rfl (x:=old) rfl (show _ from ?_))
 refine UL (wpAny_setField_rec c4 (by simp) λg5 c5 e5=>?_)
 replace e5:Heap.SameBut e g4 g5:=e5;replace c5:IsEnum g5 e it ((i:Int)+1) x:=c5;show wpAny _ _ (Builtin.SmallTypes.ownedTupleHandOut (.ref e) (.ref hp.objs.size)>>=λz=>_) _ _ ⟨g5,gn,dr,tk+1,os⟩
 refine UL ?_;unfold Builtin.SmallTypes.ownedTupleHandOut;refine UL (wpAny_setField_rec c5 (by simp) λg6 c6 e6=>?_)
 replace e6:Heap.SameBut e g5 g6:=e6;replace c6:IsEnumOut g6 e it ((i:Int)+1) x hp.objs.size:=c6;refine wpAny_setField_rec c6 (by simp) λg7 c7 e7=>?_
 replace e7:Heap.SameBut e g6 g7:=e7;replace c7:IsEnumOut g7 e it ((i:Int)+1) x hp.objs.size:=c7;have up:∀c o,c≠e->g4.get? c=some o->g7.get? c=some o:=λc o a1 q=>e7.extBut _ _ a1 (e6.extBut _ _ a1 (e5.extBut _ _ a1 q))
 refine UL (wpAny_letGo (UV ⟨_,rfl,hQ g7 c7 ?_ (up _ _ (Xv el) t4) (by rw[e7.1,e6.1,e5.1,z4]) λc o a1 a2 q=>up _ _ a1 (k4 _ _ a1 a2 q)⟩))
 exact S.keep _ _ _ n4 (λo q=>up _ _ ne.symm q) λo q=>up _ _ nl q
def zj{i:Nat}{Q:Option Value->Shared->Prop}(S:SubIt P w it l xs st)(ne:e≠it)(nl:l≠e)(he:IsEnum s.heap e it i old)(h0:st i s.heap)(hx:xs[i]?=some x)
  (hQ:∀h',IsEnumOut h' e it ((i:Int)+1) x s.heap.objs.size->st (i+1) h'->IsPair h' s.heap.objs.size (.int i s.toks) x->h'.objs.size=s.heap.objs.size+1->
    (∀c o,c≠e->c≠it->s.heap.get? c=some o->h'.get? c=some o)->Q (some (.ref s.heap.objs.size)) { s with heap:=h',toks:=s.toks+1 }):wpAny (model P w) A (pyNext (.ref e)) Q E s:=by
 have T:s.TypeIs (.ref e) "enumerate":=⟨_,he,rfl⟩;unfold pyNext;exact UL (Xa (VH (name:=Str.ofString "__next__") T XX (VD XX T F.entry_enumerate_next (Dj S ne nl he h0 hx λh' a b c d k=>UV (hQ h' a b c d k)) (F.args_enumerate_next_1 _))))
def zg{i:Nat}{Q:Option Value->Shared->Prop}(hh:A.handled=none)(S:SubIt P w it l xs st)(he:IsEnum s.heap e it i old)(h0:st i s.heap)(hx:xs[i]?=none)
  (hQ:∀h',Heap.ExtBut it s.heap h'->Q none { s with heap:=h' }):wpAny (model P w) A (pyNext (.ref e)) Q E s:=by
 have T:s.TypeIs (.ref e) "enumerate":=⟨_,he,rfl⟩;unfold pyNext;refine UL (Xa (VH (name:=Str.ofString "__next__") T XX (VD XX T F.entry_enumerate_next (show _ from ?_) (F.args_enumerate_next_1 _))))
 show wpAny _ _ (field (.ref e) 2>>=λz=>_) _ _ _
 refine UL (VG he rfl (x:=.ref it) rfl (show _ from ?_))
 refine UL (S.done _ i _ _ _ (show A.in1.handled=none from hh) h0 hx λh' y e1 hy=>?_)
 obtain⟨o,ho,hc⟩:=hy;exact UL (YW (T := "StopIteration") (b:=true) ⟨o,ho,hc⟩ isSubtype_stop (UV (hQ _ e1)))
end
def Sy(K:PySem.W.Frag)(b:Bool)(l:Addr):It:=
 ⟨fun i H=>∃xs x,mU b K H l xs∧xs[i]?=some x,
  λi H v H'=>∃p,H p=none/\v=.ref p/\∀xs,mU b K H l xs->∃x,xs[i]?=some x/\H'=upd H p (.tup [.int (i:Int),x]),
  λi H=>∃xs,mU b K H l xs/\xs[i]?=none⟩
def HY{P:Program}{w:World}{K:PySem.W.Frag}{elts:List Expr}{x1}{tp:Pos}{b:Bool}{e it l:Addr}(ne:e≠it)(nl:l≠e)(ni:l≠it):
  Turn P w K (.Tuple elts x1 tp) (Sy K b l) [e,it] e (λi h=>(∃old,IsEnum h e it i old)/\bA b it l i h) where
 mem:=by simp
 obj:=λi h st c hc=>by
  obtain⟨⟨old,he⟩,h1⟩:=st;simp only[List.mem_cons,List.mem_nil_iff,or_false]at hc;rcases hc with rfl | rfl
  ·exact⟨_,he,λv q=>by cases q⟩
  ·exact h1.obj
 keep:=λi h h' st k=>by obtain⟨⟨old,he⟩,h1⟩:=st;exact⟨⟨old,k e (by simp) _ he⟩,h1.keep λo q=>k it (by simp) o q⟩
 item:=by
  intro X hP hw hK hc i Zo s σ H E I hf st hg;subst hP hw hK;obtain⟨⟨old,he⟩,h1⟩:=st;obtain⟨xs,x,s1,hx⟩:=hg;obtain⟨its1,r1,q1,_⟩:=I.seqS s1;obtain⟨u1,e1,ru1⟩:=r1.get hx;refine zj (jM b ni its1.toArray) ne nl he ⟨h1,q1⟩ (by simpa using e1) λh' a1 a2 a3 a4 a5=>⟨_,rfl,wpAny_letOwnedTupleGo_enum a1 λh2' he' hs'=>?_⟩
  have lt:e<s.heap.objs.size:=U7 he;have kk:∀c o,c∉[e,it]->s.heap.get? c=some o->h2'.get? c=some o:=λc o hb q=>hs'.extBut _ _ (λz=>hb (by simp[z])) (a5 c o (λz=>hb (by simp[z])) (λz=>hb (by simp[z])) q)
  have fresh:H s.heap.objs.size=none:=I.hok.fresh (U0 _);have pr:IsPair h2' s.heap.objs.size (.int i s.toks) u1:=hs'.extBut _ _ (Xv lt) a3;have nw:ObjOk X.prog X.w (upd H s.heap.objs.size (.tup [.int (i:Int),x])) h2' s.heap.objs.size (.tup [.int (i:Int),x]):=⟨by show 2<=sizeLine;decide,[.int i s.toks,u1],.cons ⟨_,rfl⟩ (.cons ru1 .nil),⟨_,pr,rfl,_,rfl⟩⟩
  have nfp:∀c∈[e,it],c≠s.heap.objs.size:=λc hc z=>by
   obtain⟨o,ho⟩:∃o,s.heap.get? c=some o:=by
    simp only[List.mem_cons,List.mem_nil_iff,or_false]at hc;rcases hc with rfl | rfl
    ·exact⟨_,he⟩
    ·obtain⟨o,q,_⟩:=h1.obj;exact⟨o,q⟩
   exact absurd (U7 ho) (by rw[z];exact Wm _)
  refine⟨.ref s.heap.objs.size,upd H s.heap.objs.size (.tup [.int (i:Int),x]),?_,rfl,⟨_,fresh,rfl,λxs' q1'=>⟨x,by rw[I.seqS_inj q1' s1];exact hx,rfl⟩⟩,⟨⟨_,he'⟩,(show bA b it l (i+1) h' from a2.1).keep λo q=>hs'.extBut _ _ ne.symm q⟩,λc hc=>by rw[upd_ne (nfp c hc)];exact (hf c hc).1⟩
  exact I.turnedLay (t':=s.toks+1) kk hf (U0 _) nw
 done:=by
  intro X hP hw hK hc i Zo s σ H E I hf st hg;subst hP hw hK;obtain⟨⟨old,he⟩,h1⟩:=st;obtain⟨xs,s1,hend⟩:=hg;obtain⟨its1,r1,q1,_⟩:=I.seqS s1;refine zg (I.ok.hd hc) (jM b ni its1.toArray) he ⟨h1,q1⟩ (by simpa using r1.none_of hend) λh' e1=>?_
  exact⟨rfl,I.turnedL (t':=s.toks) (λc o hb q=>e1 _ _ (λz=>hb (by simp[z])) q) hf (λc hc=>(hf c hc).2.1)⟩
 self:=λy y y y y st h=>by obtain⟨⟨old,he⟩,_⟩:=st;exact wpAny_pyIter_enum he h
def CQ:bootBuiltins "list"=some (.type "list"):=by decide +kernel
theorem wF:∀ (vs:List Value) (k:Nat),(∀ (j:Nat) v,vs[j]?=some v->∃ t,v=.int ((k + j:Nat):Int) t)->Vals ((List.range' k vs.length).map λi:Nat=>V.int (i:Int)) vs
 |[],k,_=>.nil
 | v::vs,k,h=>by
   have h0:=h 0 v rfl;have ih:=wF vs (k+1) λj u e=>by
    have:=h (j+1) u (by simpa using e)
    rw[show k+1+j=k+(j+1) by lia];exact this
   rw[Wd,List.range'_succ,Vt];exact .cons h0 ih
section
variable{X:Cx}
def Sd(ta:TA):TE:=λσ H Q=>ta σ H λvs H1=>∃j:Int,vs=[.int j]/\j<=2^20/\-(2^62)<=j/\∀l,H1 l=none->Q (.ref l) (upd H1 l (.lst ((List.range j.toNat).map λi:Nat=>V.int (i:Int))))
def G8(hc:X.calm=true)(hgL:Gl X "list")(hmL:X.mg "list"=none)(hg:Gl X "range")(hm:X.mg "range"=none)(ha:PA X [a] ta)(hs:notStar a=true:=by rfl):
  PE X (.Call (.Name "list" p1) [.Call (.Name "range" p2) [a] [] pos2] [] pos1) (Sd ta):=by
 intro Zo s σ H Q I h;have hst:starEach [Expr.Call (.Name "range" p2) [a] [] pos2] X.env=(false,eval (.Call (.Name "range" p2) [a] [] pos2) X.env)::starEach [] X.env:=bu rfl;refine Call_ (ld_blt I hgL hmL CQ (Wi ?_ hst rfl));rw[hst];show wpAny _ _ (spliced ((false,eval (.Call (.Name "range" p2) [a] [] pos2) X.env)::[])) _ _ s;refine Calls.spliced_cons ?_;refine Call_ (ld_blt I hg hm boot_range (Wi (thn (ha pos2 Zo s σ H _ I h) λus s1 ⟨vs,H1,I1,r1,q1⟩=>?_) (bu hs) rfl))
 obtain⟨j,e,q1,q2,q⟩:=q1;subst e;cases r1 with
 | cons r rr=>
   cases rr;obtain⟨t,rfl⟩:=r;refine call_range_1 ?_;refine Calls.spliced_nil ?_;have rs:Builtin.Range.rangeSize 0 j 1=((j.toNat:Nat):Int):=by rw[rangeSize_one];split<;>lia
   refine call_list_range (n:=j.toNat) (I1.ok.hd hc) (IsRange.new ..) (small_one (by lia) (by lia) q2 (by lia)) rs (by lia) λh' tk acc c k1 k2 k3=>?_
   have vl:Vals ((List.range j.toNat).map λi:Nat=>V.int (i:Int)) acc.toList:=by
    have:=wF acc.toList 0 λi v e=>by
     obtain⟨t,rfl⟩:=k3.2 i v (by simpa using e)
     exact⟨t,by congr 1;lia⟩
    rw[List.range_eq_range'];rw[show acc.toList.length=j.toNat by simpa using k3.1]at this
    exact this
   refine⟨.ref _,upd H1 _ (.lst ((List.range j.toNat).map λi:Nat=>V.int (i:Int))),?_,rfl,q _ (I1.hok.fresh ?_)⟩
   ·refine I1.turnedLay (ch:=[]) (t':=tk) (λb o z e=>k1 b o (UT _ e)) (λb hb=>nomatch hb) ?_ ⟨?_,acc.toList,c,vl,k2⟩
    ·rw[VF];lia
    ·rw[U6,V6];show _<=2^24;lia
   ·rw[VF];lia
end
end L2
namespace L2
open PySem PySem.Spec PyProof.Rows
open PySem.AutoSeq1 (wpAny_loadPart')
open PySem PySem.Spec PyProof.Rows
end L2
namespace LS
open PySem
def oY(xs:Array Nat):Prop:=xs.toList.Pairwise (·< ·)
def oY.lt{xs:Array Nat}(h:oY xs){a b:Nat}(hab:a<b)(hb:b<xs.size):xs[a]<xs[b]:=by
 have:=W6.mp h a b (by simpa using Ys hab hb) (by simpa using hb) hab
 simpa using this
structure Bel(xs:Array Nat)(j r:Nat):Prop where
 le:r<=xs.size
 lo:∀k (hk:k<xs.size),k<r->xs[k]<j
 hi:∀k (hk:k<xs.size),r<=k->j<=xs[k]
theorem rZ{xs:Array Nat}{j:Nat}(h:oY xs):∀ (fuel lo hi:Nat),hi - lo<=fuel->lo<=hi->hi<=xs.size->(∀ k (hk:k<xs.size),k<lo->xs[k]<j)->(∀ k (hk:k<xs.size),hi<=k->j<=xs[k])->Bel xs j (SetTable.below.go xs j fuel lo hi)
 |0,lo,hi,hf,hl,hs,h1,h2=>by
   unfold SetTable.below.go;have:lo=hi:=by lia
   subst this;exact⟨hs,h1,h2⟩
 | fuel + 1,lo,hi,hf,hl,hs,h1,h2=>by
   unfold SetTable.below.go;by_cases c:lo<hi
   ·rw[U5 c];dsimp only;have hm:(lo+hi) / 2<hi:=by lia
    have hm':lo<=(lo+hi) / 2:=by lia
    generalize (lo+hi) / 2=mid at hm hm';have hms:mid<xs.size:=by lia
    have e:xs.getD mid j=xs[mid]:=by rw[V0,Wg hms];rfl
    rw[e];by_cases c2:xs[mid]<j
    ·rw[U5 c2];refine rZ h fuel (mid+1) hi (by lia) (by lia) hs (λk hk hkm=>?_) h2
     by_cases q:k=mid
     ·subst q;exact c2
     ·have:=h.lt (show k<mid by lia) hms;lia
    ·rw[U8 c2];refine rZ h fuel lo mid (by lia) hm' (by lia) h1 (λk hk hkm=>?_)
     by_cases q:k=mid
     ·subst q;lia
     ·have:=h.lt (show mid<k by lia) hk;lia
   ·rw[U8 c];have:lo=hi:=by lia
    subst this;exact⟨hs,h1,h2⟩
def iH{xs:Array Nat}(h:oY xs)(j:Nat):Bel xs j (SetTable.below xs j):=by unfold SetTable.below;exact rZ h xs.size 0 xs.size (by lia) (by lia) (U0 _) (λk hk z=>by lia) (λk hk z=>by lia)
def below_at{xs:Array Nat}(h:oY xs){i:Nat}(hi:i<xs.size):SetTable.below xs xs[i]=i:=by
 have b:=iH h xs[i];generalize SetTable.below xs xs[i]=r at b;rcases YJ r i with c | c | c
 ·have:=b.hi r (by lia) (U0 _)
  have:=h.lt c hi
  lia
 ·exact c
 ·have:=b.lo i hi c
  lia
def CN{xs:Array Nat}(h:oY xs):SetTable.below xs 0=0:=by
 have b:=iH h 0;generalize SetTable.below xs 0=r at b;rcases Yu r with c | c
 ·exact c
 ·have:=b.le;have:=b.lo 0 (by lia) c
  lia
def CK{xs:Array Nat}(h:oY xs){i:Nat}(hi:i<xs.size):SetTable.below xs (xs[i]+1)=i+1:=by
 have b:=iH h (xs[i]+1);generalize SetTable.below xs (xs[i]+1)=r at b;have ble:=b.le;rcases YJ r (i+1) with c | c | c
 ·have:=b.hi i hi (by lia)
  lia
 ·exact c
 ·have l:=b.lo (i+1) (by lia) c
  have:=h.lt (show i<i+1 by lia) (show i+1<xs.size by lia)
  lia
def Dl{xs:Array Nat}(h:oY xs){j:Nat}(hj:j∉xs.toList):oY (SetTable.insertAt xs (SetTable.below xs j) j):=by
 have b:=iH h j;unfold oY;rw[Yt];generalize SetTable.below xs j=r at b;have h':(xs.toList.take r++xs.toList.drop r).Pairwise (·< ·):=by rw[X4];exact h
 rw[List.pairwise_append]at h' ⊢
 refine⟨h'.1,V9.mpr ⟨λx hx=>?_,h'.2.1⟩,λx hx y hy=>?_⟩
 ·obtain⟨k,hk,rfl⟩:=V8.mp hx;rw[Wz,Xe]at hk;rw[List.getElem_drop];have:=b.hi (r+k) (by lia) (by lia)
  have ne:xs.toList[r+k]'(by simp;lia)≠j:=λz=>hj (z ▸ V5 _)
  simp at this ne ⊢
  lia
 ·have lt:x<j:=by
   obtain⟨k,hk,rfl⟩:=V8.mp hx;rw[W3,Xe]at hk;rw[List.getElem_take];have:=b.lo k (by lia) (by lia)
   simpa using this
  rcases Vf.mp hy with rfl | hy
  ·exact lt
  ·exact h'.2.2 x hx y hy
structure TI(L:Bool)(t:SetTable):Prop where
 ris:oY t.place
 dum:t.dummies=#[]
 led:t.led=L
theorem TI.fresh{L:Bool}(f m:Nat):TI L (.fresh f m L):=⟨List.Pairwise.nil,rfl,rfl⟩
def Lf{L:Bool}{mask finger moves:Nat}{plain:Bool}{hs:Array Int}{r:SetTable×Array Nat}(e:SetTable.laid mask finger moves L plain hs=some r):TI L r.1:=by
 unfold SetTable.laid at e;obtain⟨owner,_,e2⟩:=Vs.mp e;cases e2;refine⟨?_,rfl,rfl⟩;unfold oY;dsimp only;rw[Zg];refine List.Pairwise.filterMap (R:=λ(a b:Nat)=>a<b) _ (λa b hab x hx y hy=>?_) YQ
 obtain⟨_,_,rfl⟩:=U4.mp hx;obtain⟨_,_,rfl⟩:=U4.mp hy;exact hab
end LS
namespace LS
open PySem PySem.Spec PyProof.Rows
abbrev cz(es:Array (Int×Value))(ep:Nat)(t:SetTable):Obj:={ cls:=.type "set",dict:=none,data:=.set es ep t }
def Ou(h:(intKind prog w).is k v=true):∃t,v=.int k t:=by have h':Value.isInt k v=true:=h;cases v<;>simp[Value.isInt]at h';subst h';exact⟨_,rfl⟩
section
variable{prog:Program}{w:World}{A:Around}{E:Value->Shared->Prop}{s:Shared}{L:Bool}
def Cm{h:Heap}{a:Addr}{es es1:Array (Int×Value)}{ep:Nat}{t t1:SetTable}(ho:h.get? a=some (cz es ep t)):(h.update a (Obj.putSet es1 t1)).get? a=some (cz es1 (ep+1) t1):=by
 have q:=XM (Obj.putSet es1 t1) ho (by rw[putSet_of es1 t1 rfl];rfl)
 rw[putSet_of es1 t1 rfl]at q;exact q
end
def bR:Slot "set_iterator" "__next__" "set_iterator.__next__":=.of (owner := "set_iterator") (n := "__next__") (by rw[typeLookup_type,builtinLookup_eq_fast];kernel_rfl) (by decide +kernel) (by decide +kernel) (by decide +kernel) (by first | exact .inl (by decide +kernel) | exact .inr (by decide +kernel)) (by rw[isSubtype_type];kernel_rfl)
def Cj:Slot "set_iterator" "__iter__" "set_iterator.__iter__":=.of (owner := "set_iterator") (n := "__iter__") (by rw[typeLookup_type,builtinLookup_eq_fast];kernel_rfl) (by decide +kernel) (by decide +kernel) (by decide +kernel) (by first | exact .inl (by decide +kernel) | exact .inr (by decide +kernel)) (by rw[isSubtype_type];kernel_rfl)
def gQ:entryFor table "set_iterator.__next__"=some Builtin.«set_iterator.__next__»:=entryFor_of_fast (by kernel_rfl)
def Jj:entryFor table "set_iterator.__iter__"=some Builtin.«dict_keyiterator.__iter__»:=entryFor_alias (id' := "dict_keyiterator.__iter__") (by kernel_rfl) rfl (by decide +kernel) (by kernel_rfl)
def wI:entryFor table "set.__iter__"=some Builtin.«frozenset.__iter__»:=entryFor_alias (id' := "frozenset.__iter__") (by kernel_rfl) rfl (by decide +kernel) (by kernel_rfl)
def jH(a:Value):argsOk "set_iterator.__next__" ⟨[a],[]⟩:=by unfold argsOk;kernel_rfl
def Kz(a:Value):argsOk "set_iterator.__iter__" ⟨[a],[]⟩:=by unfold argsOk;kernel_rfl
set_option tactic.hygienic true in
theorem BV(next:Nat->Nat):∀ (fuel k:Nat) (left:List α) (out:Array α),left.length=fuel->(pickOrder.go next fuel k left out).toList.Perm (out.toList++left)
 |0,k,left,out,h=>by have:left=[]:=Xy.mp h;subst this;unfold pickOrder.go;simp
 | fuel + 1,k,left,out,h=>by
   unfold pickOrder.go;have hm:next k%left.length<left.length:=W0 _ (by lia)
   generalize next k%left.length=m at hm
   rw[U3 hm];dsimp only;refine (BV next fuel (k+1) (left.eraseIdx m) (out.push left[m]) (by rw[List.length_eraseIdx,U5 hm];lia)).trans ?_
   rw[Array.toList_push,WN];refine List.Perm.append_left _ ?_;have:∀ (l:List α) (t:Nat) (ht:t<l.length),(l[t]::l.eraseIdx t).Perm l:=by
    intro l;induction l with
    |nil=>intro t ht;exact absurd ht (by simp)
    |cons a l ih=>
      intro t ht;cases t with
      |zero=>exact .refl _
      |succ t=>exact (List.Perm.swap a _ _).trans ((ih t (by simpa using ht)).cons a)
   exact this left m hm
set_option tactic.hygienic true in
def G9(next:Nat->Nat)(xs:Array α):(pickOrder next xs).toList.Perm xs.toList:=by unfold pickOrder;exact (BV next xs.size 0 xs.toList #[] (by simp)).trans (by simp)
section
variable{prog:Program}{w:World}{A:Around}{E:Value->Shared->Prop}{s:Shared}
def wK(hn:n≠0)(h:∀i d',i<n->Q i { s with drawn:=d' }):wpAny (model prog w) A (choose src n) Q E s:=λΓ p hΓ=>⟨hn,h _ _ (W0 _ (by lia))⟩
theorem vU:∀ (n:Nat) (xs:List Nat) {s:Shared}{Q:List Nat->Shared->Prop},xs.length=n->(∀ ys d',ys.Perm xs->Q ys { s with drawn:=d' })->wpAny (model prog w) A (drawOrder n xs) Q E s
 |0,xs,s,Q,h,q=>by have:xs=[]:=Xy.mp h;subst this;unfold drawOrder;exact UV (q [] s.drawn (.refl _))
 |n+1,[],s,Q,h,q=>by cases h
 | n + 1,x::xs,s,Q,h,q=>by
   unfold drawOrder;refine UL (wK (by simp) λi d' hi=>?_)
   rw[U3 hi];dsimp only;refine UL (vU n ((x::xs).eraseIdx i) (by rw[List.length_eraseIdx,U5 hi];simp at h ⊢;lia) λys d2 p=>UV (q _ d2 ?_))
   refine (p.cons _).trans ?_;have:∀ (l:List Nat) (t:Nat) (ht:t<l.length),(l[t]::l.eraseIdx t).Perm l:=by
    intro l;induction l with
    |nil=>intro t ht;exact absurd ht (by simp)
    |cons a l ih=>
      intro t ht;cases t with
      |zero=>exact .refl _
      |succ t=>exact (List.Perm.swap a _ _).trans ((ih t (by simpa using ht)).cons a)
   exact this _ i hi
end
abbrev lD(vs:Array Value):Obj:={ cls:=.type "set_iterator",data:=.fields vs }
abbrev dH(w:World):Bool:=w.params.followText "set-order"
def o8(w:World)(h:Heap)(I a tp:Addr)(es:Array (Int×Value))(ep:Nat)(t:SetTable)(ord:List Value)(i:Nat):Prop:=
 (dH w=true/\h.get? I=some (lD #[.int 0 0,.int i 0,.ref a,.int es.size 0,.int ep 0])/\ord=(pickOrder (w.params.setOrder a ep) es).toList.map (·.2))
 \/ (dH w=false/\(!t.plain&&decide (es.size > 1))=false/\∃sl:Nat,h.get? I=some (lD #[.int sl 0,.int i 0,.ref a,.int es.size 0,.int ep 0])/\SetTable.below t.place sl=i/\ord=es.toList.map (·.2))
 \/ (dH w=false/\(!t.plain&&decide (es.size > 1))=true/\∃ps,tp≠I/\h.get? I=some (lD #[.ref tp,.int i 0,.ref a,.int es.size 0,.int ep 0])/\h.get? tp=some { cls:=.type "tuple",data:=.seq ((ps:List Nat).map λ(p:Nat)=>rawInt (p:Int)).toArray }/\ps.Perm (List.range es.size)/\ord=ps.map (λp=>(es.getD p (0,.none)).2))
section
variable{prog:Program}{w:World}{A:Around}{E:Value->Shared->Prop}{s:Shared}{I a tp:Addr}{es:Array (Int×Value)}{ep:Nat}{t:SetTable}{ord:List Value}{i:Nat}
def iV{h:Heap}{vs:Array Value}{k:Nat}{v:Value}(e:h.get? I=some (lD vs)):(h.update I (Obj.mapFields (·.setIfInBounds k v))).get? I=some (lD (vs.setIfInBounds k v)):=by have q:=XM (Obj.mapFields (·.setIfInBounds k v)) e (Obj.isFreed_of_fields (Obj.data_mapFields rfl _));rw[q];rfl
def GK(hb:dH w=true)(ho:s.heap.get? a=some (cz es ep t))(hf:t.fits es.size=true){sl:Nat}{Q:Option (Value×Nat)->Shared->Prop}(q:Q (((pickOrder (w.params.setOrder a ep) es)[i]?).map λe=>(e.2,sl)) s):
  wpAny (model prog w) A (setNext a sl i ep) Q E s:=by
 unfold setNext setsByText;refine UL (Wk ho rfl hf ?_);refine UL (UL (W2 (UV ?_)));have hb':(model prog w).w.params.followText "set-order"=true:=hb;rw[U5 hb'];simp only[bne_self_eq_false,Bool.false_eq_true,↓reduceIte];unfold setWalk setsByText;refine UL (UL (Wk ho rfl hf ?_));refine UL (UL (W2 (UV ?_)));rw[U5 hb'];exact UL (W2 (UV (UV q)))
def GQ(hb:dH w=false)(hd:(!t.plain && decide (es.size > 1))=false)(ti:TI (!dH w) t)(ho:s.heap.get? a=some (cz es ep t))(hf:t.fits es.size=true){sl:Nat}{Q:Option (Value×Nat)->Shared->Prop}
  (q:Q (match es[SetTable.below t.place sl]?,t.place[SetTable.below t.place sl]? with
    |some (_,x),some j=>some (x,j+1)
    |_,_=>none) s):wpAny (model prog w) A (setNext a sl i ep) Q E s:=by
 unfold setNext setsByText;refine UL (Wk ho rfl hf ?_);refine UL (UL (W2 (UV ?_)));have hb':¬ (model prog w).w.params.followText "set-order"=true:=by rw[show (model prog w).w.params.followText "set-order"=dH w from rfl,hb];decide
 rw[U8 hb'];have hl:t.led=true:=by rw[ti.led,hb];rfl
 show wpAny _ _ (if (!t.plain&&decide (es.size > 1))=true then _ else _) _ _ _
 rw[hd,U8 (by decide)]
 refine UL ?_;show wpAny _ _ (if (!t.led&&!es.isEmpty)=true then _ else _) _ _ _
 rw[hl];exact UV (UV q)
def next_item(ho:s.heap.get? a=some (cz es ep t))(hf:t.fits es.size=true)(ti:TI (!dH w) t)(hne:a≠I)(c:o8 w s.heap I a tp es ep t ord i)(hi:i<ord.length){Q:Option Value->Shared->Prop}
  (q:∀h',Heap.SameBut I s.heap h'->o8 w h' I a tp es ep t ord (i+1)->Q (some ord[i]) { s with heap:=h' }):wpAny (model prog w) A (pyNext (.ref I)) Q E s:=by
 have ho':∀(k:Nat) (v:Value),(s.heap.update I (Obj.mapFields (·.setIfInBounds k v))).get? a=some (cz es ep t):=λk v=>by rw[WY _ _ (λz=>hne z.symm)];exact ho
 have sz:(((es.size:Nat):Int) != ((es.size:Nat):Int))=false:=bne_self_eq_false _;have sb2:∀(v1 v2:Value) (k1 k2:Nat),Heap.SameBut I s.heap ((s.heap.update I (Obj.mapFields (·.setIfInBounds k1 v1))).update I (Obj.mapFields (·.setIfInBounds k2 v2))):=λv1 v2 k1 k2=>(WX _ I _).trans (WX _ I _)
 rcases c with ⟨hb,hI,e⟩ | ⟨hb,hd,sl,hI,hs,e⟩ | ⟨hb,hd,ps,htp,hI,hT,hp,e⟩
 ·have ty:s.TypeIs (.ref I) "set_iterator":=⟨_,hI,rfl⟩;unfold pyNext;refine UL (Xa (VH (name:=Str.ofString "__next__") ty bR (VD bR ty gQ ?_ (jH _))));unfold Builtin.«set_iterator.__next__» slotArgs;refine UL (UV ?_);refine UL (X3 hI rfl ?_);dsimp only;refine UL (WR ho rfl hf ?_);rw[sz,U8 (by decide)]
  refine UL (GK hb ho hf ?_);have hi':i<(pickOrder (w.params.setOrder a ep) es).size:=by rw[e]at hi;simpa using hi
  have oi:ord[i]=((pickOrder (w.params.setOrder a ep) es)[i]).2:=by subst e;simp
  rw[show ((i:Int)).toNat=i from We i,Wg hi']
  dsimp only[Option.map_some];refine UL (Wx hI rfl (by simp) ?_)
  refine UL (Wx (iV hI) rfl (by simp) ?_)
  refine UV ⟨_,rfl,UV ?_⟩;rw[<-oi];refine q _ (sb2 _ _ _ _) (.inl ⟨hb,?_,e⟩);rw[iV (iV hI)];simp[rawInt]
 ·have ty:s.TypeIs (.ref I) "set_iterator":=⟨_,hI,rfl⟩;unfold pyNext;refine UL (Xa (VH (name:=Str.ofString "__next__") ty bR (VD bR ty gQ ?_ (jH _))));unfold Builtin.«set_iterator.__next__» slotArgs;refine UL (UV ?_);refine UL (X3 hI rfl ?_);dsimp only;refine UL (WR ho rfl hf ?_);rw[sz,U8 (by decide)]
  refine UL (GQ hb hd ti ho hf ?_);have hi':i<es.size:=by rw[e]at hi;simpa using hi
  have hps:t.place.size=es.size:=by simp only[SetTable.fits,Bool.and_eq_true,beq_iff_eq]at hf;exact hf.1
  have hi2:i<t.place.size:=by rw[hps];exact hi'
  have oi:ord[i]=(es[i]).2:=by subst e;simp
  rw[show ((sl:Int)).toNat=sl from We sl,hs,Wg hi',Wg hi2]
  dsimp only;refine UL (Wx hI rfl (by simp) ?_)
  refine UL (Wx (iV hI) rfl (by simp) ?_)
  refine UV ⟨_,rfl,UV ?_⟩;rw[<-oi];refine q _ (sb2 _ _ _ _) (.inr (.inl ⟨hb,hd,t.place[i]+1,?_,CK ti.ris hi2,e⟩));rw[iV (iV hI)];simp[rawInt]
 ·have ty:s.TypeIs (.ref I) "set_iterator":=⟨_,hI,rfl⟩;have hpl:ps.length=es.size:=by rw[hp.length_eq,V6]
  have hi':i<ps.length:=by rw[e]at hi;simpa using hi
  have hpi:ps[i]<es.size:=Ve.mp (hp.mem_iff.mp (V5 hi'));unfold pyNext;refine UL (Xa (VH (name:=Str.ofString "__next__") ty bR (VD bR ty gQ ?_ (jH _))));unfold Builtin.«set_iterator.__next__» slotArgs;refine UL (UV ?_);refine UL (X3 hI rfl ?_);dsimp only;refine UL (WR ho rfl hf ?_);rw[sz,U8 (by decide)]
  refine UL (Wq hT rfl ?_);have g:((ps.map λ(p:Nat)=>rawInt (p:Int)).toArray)[i]?=some (rawInt (ps[i]:Int)):=by simp[hi']
  rw[show ((i:Int)).toNat=i from We i]
  dsimp only;rw[g];dsimp only[rawInt];unfold setNextDrawn;refine UL (UL (Wk ho rfl hf ?_));simp only[bne_self_eq_false,Bool.false_eq_true,↓reduceIte,Int.toNat_natCast];rw[Wg hpi];dsimp only;refine UV ?_;refine UL (Wx hI rfl (by simp) ?_)
  refine UV ⟨_,rfl,UV ?_⟩;have oi:ord[i]=(es[ps[i]]).2:=by subst e;simp[hpi]
  rw[<-oi];refine q _ (WX _ I _) (.inr (.inr ⟨hb,hd,ps,htp,?_,?_,hp,e⟩))
  ·rw[iV hI];simp
  ·rw[WY _ _ (λz=>htp z.symm)];exact hT
end
section
variable{prog:Program}{w:World}{A:Around}{E:Value->Shared->Prop}{s:Shared}{I a tp:Addr}{es:Array (Int×Value)}{ep:Nat}{t:SetTable}{ord:List Value}{i:Nat}
def tR(hh:A.handled=none){R:Fin->Shared->Prop}{Q:Option Value->Shared->Prop}(q:∀h',(∀b o,s.heap.get? b=some o->h'.get? b=some o)->Q none { s with heap:=h' }):
  wpAny (model prog w) A.in1 (do raiseNew (<-newExc (.type "StopIteration") [])) R (λe s'=>wpAny (model prog w) A (do if <-isInstance e (.type "StopIteration") then pure none else throw e) Q E s') s:=by
 refine UL ?_;simp only[newExc,newTuple];refine UL (Vr ?_ (by size_fits))
 refine UL (m:=firstArgMember _ _) (wpAny_of_eq (a:=.none) (by first | rfl | (simp only[firstArgMember];rfl)) (Vr ?_ (by size_fits)))
 simp only[raiseNew];refine UL (wpAny_handled ?_);have h1:A.in1.handled=none:=hh;rw[h1];refine UL (UV (wpAny_throw ?_));refine UL (YW (T := "StopIteration") (b:=true) ⟨_,U9 _ rfl,rfl⟩ isSubtype_stop ?_);exact UV (q _ λb o e=>UT _ (UT _ e))
def next_end(hh:A.handled=none)(ho:s.heap.get? a=some (cz es ep t))(hf:t.fits es.size=true)(ti:TI (!dH w) t)(c:o8 w s.heap I a tp es ep t ord ord.length){Q:Option Value->Shared->Prop}
  (q:∀h',(∀b o,b≠I->s.heap.get? b=some o->h'.get? b=some o)->Q none { s with heap:=h' }):wpAny (model prog w) A (pyNext (.ref I)) Q E s:=by
 have sz:(((es.size:Nat):Int) != ((es.size:Nat):Int))=false:=bne_self_eq_false _;have k1:∀(v1:Value) (k1:Nat) b o,b≠I->s.heap.get? b=some o->(s.heap.update I (Obj.mapFields (·.setIfInBounds k1 v1))).get? b=some o:=λv1 k1 b o hb e=>by rw[WY _ _ (λz=>hb z.symm)];exact e
 rcases c with ⟨hb,hI,e⟩ | ⟨hb,hd,sl,hI,hs,e⟩ | ⟨hb,hd,ps,htp,hI,hT,hp,e⟩
 ·have ty:s.TypeIs (.ref I) "set_iterator":=⟨_,hI,rfl⟩;unfold pyNext;refine UL (Xa (VH (name:=Str.ofString "__next__") ty bR (VD bR ty gQ ?_ (jH _))));unfold Builtin.«set_iterator.__next__» slotArgs;refine UL (UV (UL (X3 hI rfl ?_)));dsimp only;refine UL (WR ho rfl hf ?_);rw[sz,U8 (by decide)]
  refine UL (GK hb ho hf ?_);have hi':(pickOrder (w.params.setOrder a ep) es)[((ord.length:Int)).toNat]?=none:=by rw[We,Yc,e];simp
  rw[hi'];dsimp only[Option.map_none];refine UL (Wx hI rfl (by simp) ?_)
  exact tR hh λh' k=>q h' λb o hb e=>k b o (k1 _ _ b o hb e)
 ·have ty:s.TypeIs (.ref I) "set_iterator":=⟨_,hI,rfl⟩;unfold pyNext;refine UL (Xa (VH (name:=Str.ofString "__next__") ty bR (VD bR ty gQ ?_ (jH _))));unfold Builtin.«set_iterator.__next__» slotArgs;refine UL (UV (UL (X3 hI rfl ?_)));dsimp only;refine UL (WR ho rfl hf ?_);rw[sz,U8 (by decide)]
  refine UL (GQ hb hd ti ho hf ?_);have hi':es[ord.length]?=none:=by rw[Yc,e];simp
  rw[show ((sl:Int)).toNat=sl from We sl,hs,hi']
  dsimp only;refine UL (Wx hI rfl (by simp) ?_)
  exact tR hh λh' k=>q h' λb o hb e=>k b o (k1 _ _ b o hb e)
 ·have ty:s.TypeIs (.ref I) "set_iterator":=⟨_,hI,rfl⟩;unfold pyNext;refine UL (Xa (VH (name:=Str.ofString "__next__") ty bR (VD bR ty gQ ?_ (jH _))));unfold Builtin.«set_iterator.__next__» slotArgs;refine UL (UV (UL (X3 hI rfl ?_)));dsimp only;refine UL (WR ho rfl hf ?_);rw[sz,U8 (by decide)]
  refine UL (Wq hT rfl ?_);have g:((ps.map λ(p:Nat)=>rawInt (p:Int)).toArray)[((ord.length:Int)).toNat]?=none:=by rw[We,Yc,e];simp
  dsimp only;rw[g];dsimp only;refine UL (Wx hI rfl (by simp) ?_)
  refine UL (Wx (iV hI) rfl (by simp) ?_)
  refine tR hh λh' k=>q h' λb o hb e=>k b o ?_
  rw[WY _ _ (λz=>hb z.symm)]
  exact k1 _ _ b o hb e
def Js(ho:s.heap.get? a=some (cz es ep t))(hf:t.fits es.size=true)(ti:TI (!dH w) t)(hb:es.size<scanBound)
  (q:∀h' d' I tp ord,s.heap.objs.size<=I->(∀b o,s.heap.get? b=some o->h'.get? b=some o)->I<h'.objs.size->(tp=a\/(s.heap.objs.size<=tp/\tp<h'.objs.size))->o8 w h' I a tp es ep t ord 0->ord.Perm (es.toList.map (·.2))->Q (.ref I) { s with heap:=h',drawn:=d' }):wpAny (model prog w) A (pyIter (.ref a)) Q E s:=by
 have ty:s.TypeIs (.ref a) "set":=⟨_,ho,rfl⟩;refine YC ty F.slot_set_iter (VD F.slot_set_iter ty wI ?_ (F.args_set_iter_1 _));unfold Builtin.«frozenset.__iter__» Builtin.Frozenset.slot0 slotArgs Builtin.Frozenset.addrOf Builtin.Frozenset.sizeOf setDrawn setsByText;simp only[List.isEmpty_nil,Bool.not_true,Bool.false_eq_true,↓reduceIte,bind_assoc,List.length_nil,bne_self_eq_false];refine UL (UV (UL (UV ?_)));refine UL (WR ho rfl hf (UL (UV ?_)));refine UL (Wk ho rfl hf ?_);refine UL (W2 (UL (UV (UL (UV ?_)))));show wpAny _ _ (if (!dH w&&(!t.plain&&decide (es.size > 1)))=true then _ else _) _ _ _
 by_cases hc:(!dH w&&(!t.plain&&decide (es.size > 1)))=true
 ·rw[U5 hc];rw[WD]at hc;have hB:dH w=false:=by simpa using hc.1
  refine UL (vU es.size (List.range es.size) (by simp) λps d' hp=>?_)
  have pl:ps.length=es.size:=by rw[hp.length_eq,V6]
  simp only[newTuple,newFields];refine UL (Vr ?_ (by show _<=sizeLine;have:=fits_of_scanBound hb;simp;lia))
  have ho1:=UT { cls:=.type "tuple",data:=.seq ((ps.map λ(i:Nat)=>rawInt (i:Int)).toArray) } ho
  refine UL (wpAny_setEpoch_of ho1 rfl hf ?_);refine UL (Vr (UV ⟨_,rfl, "set_iterator",_,⟨_,U9 _ rfl,rfl⟩,bR.lookup,?_⟩) (by show _<=_;simp[sizeLine_eq]))
  refine q _ d' _ s.heap.objs.size (ps.map (λp=>(es.getD p (0,.none)).2)) (by dsimp only;simp only[Heap.size_push];lia) (λb o e=>UT _ (UT _ e)) (by dsimp only;simp only[Heap.size_push];lia) (.inr ⟨U0 _,by dsimp only;simp only[Heap.size_push];exact XH (Wv _)⟩) (.inr (.inr ⟨hB,hc.2,ps,?_,U9 _ rfl,UT _ (U9 _ rfl),hp,rfl⟩)) ?_
  ·dsimp only;simp only[Heap.size_push];exact Vi (Wv _)
  ·refine (hp.map _).trans (List.Perm.of_eq ?_);apply YD;intro k;by_cases hk:k<es.size
   ·simp[hk,Array.getD]
   ·rw[Wa (by simp;lia),Wa (by simp;lia)]
 ·rw [U8 hc];refine UL (UV ?_);simp only[newFields];refine UL (wpAny_setEpoch_of ho rfl hf ?_);refine UL (Vr (UV ⟨_,rfl, "set_iterator",_,⟨_,U9 _ rfl,rfl⟩,bR.lookup,?_⟩) (by show _<=_;simp[sizeLine_eq]))
  have fin:∀ord,o8 w (s.heap.push (lD #[.int 0 0,.int 0 0,.ref a,.int es.size 0,.int ep 0])) s.heap.objs.size a a es ep t ord 0->ord.Perm (es.toList.map (·.2))->Q (.ref s.heap.objs.size) { s with heap:=s.heap.push (lD #[.int 0 0,.int 0 0,.ref a,.int es.size 0,.int ep 0]) }:=λord c p=>
   q _ s.drawn s.heap.objs.size a ord (U0 _) (λb o e=>UT _ e) (by rw[VF];lia) (.inl rfl) c p
  cases hB:dH w with
  |true=>exact fin _ (.inl ⟨hB,U9 _ rfl,rfl⟩) ((G9 _ es).map _)
  |false=>
    rw[hB]at hc;have hd:(!t.plain&&decide (es.size > 1))=false:=by simpa using hc
    exact fin _ (.inr (.inl ⟨hB,hd,0,U9 _ rfl,CN ti.ris,rfl⟩)) (.refl _)
def o8.at(c:o8 w h I a tp es ep t ord i)(k1:∀o,h.get? I=some o->h'.get? I=some o)(k2:∀o,h.get? tp=some o->h'.get? tp=some o):o8 w h' I a tp es ep t ord i:=by
 rcases c with ⟨hb,hI,e⟩ | ⟨hb,hd,sl,hI,hs,e⟩ | ⟨hb,hd,ps,htp,hI,hT,hp,e⟩
 ·exact .inl ⟨hb,k1 _ hI,e⟩
 ·exact .inr (.inl ⟨hb,hd,sl,k1 _ hI,hs,e⟩)
 ·exact .inr (.inr ⟨hb,hd,ps,htp,k1 _ hI,k2 _ hT,hp,e⟩)
def o8.ty(c:o8 w h I a tp es ep t ord i):∃vs,h.get? I=some (lD vs):=by rcases c with ⟨hb,hI,e⟩ | ⟨hb,hd,sl,hI,hs,e⟩ | ⟨hb,hd,ps,htp,hI,hT,hp,e⟩<;>exact⟨_,hI⟩
def H9(hh:A.handled=none)(hf:t.fits es.size=true)(ti:TI (!dH w) t)(hne:a≠I):
  Walks prog w A I [I,a,tp] [I] ord.length (λi v=>ord[i]?=some v) (λi h=>h.get? a=some (cz es ep t)/\o8 w h I a tp es ep t ord i) where
 sub:=λb hb=>by simp at hb;simp[hb]
 frame:=λz z z st hk=>⟨hk a (by simp) _ st.1,st.2.at (λo e=>hk I (by simp) o e) λo e=>hk tp (by simp) o e⟩
 item:=λi s Q E hi st hQ=>next_item st.1 hf ti hne st.2 hi λh' sb c=>hQ _ h' s.toks (by simp[hi]) ⟨sb.extBut a _ hne st.1,c⟩ λb o hb e=>sb.extBut b o (λh=>hb (by simp[h])) e
 done:=λs Q E st hQ=>next_end hh st.1 hf ti st.2 λh' k=>hQ h' s.toks λb o hb e=>k b o (λh=>hb (by simp[h])) e
 self:=λi s Q E st hQ=>by obtain⟨vs,hI⟩:=st.2.ty;have ty:s.TypeIs (.ref I) "set_iterator":=⟨_,hI,rfl⟩;exact YC ty Cj (VD Cj ty Jj (UV ⟨_,rfl, "set_iterator",_,ty,bR.lookup,hQ⟩) (Kz _))
end
def Kd(h:b+1<=a):a≠b:=by lia
section
variable{prog:Program}{w:World}{A:Around}{E:Value->Shared->Prop}{s:Shared}
def Jp(ho:s.heap.get? a=some (cz es ep t))(q:Q false s):wpAny (model prog w) A (Builtin.List.listLengthHint (.ref a)) Q E s:=by
 have ty:s.TypeIs (.ref a) "set":=⟨_,ho,rfl⟩;unfold Builtin.List.listLengthHint;refine UL (wpAny_specialOf ty F.slot_set_len.lookup ?_);have sp:splitId "set.__len__"=some ("set", "__len__"):=by decide +kernel
 dsimp only;rw[sp];dsimp only;refine UL (YW (b:=true) ty sub_set_self ?_);refine UL (XS ty ?_);exact UV q
end
end LS
namespace L2
open PySem PySem.Spec PyProof.Rows LS
def oA(x:Int):List Int->List Int
 |[]=>[x]
 |y::r=>if x<=y then x::y::r else y::oA x r
theorem pP(x:Int):∀ l:List Int,(oA x l).Perm (x::l)
 |[]=>.refl _
 |y::r=>by
   unfold oA;split
   ·exact .refl _
   ·exact ((pP x r).cons y).trans (.swap x y r)
set_option tactic.hygienic true in
theorem wj(x:Int):∀ {l:List Int},l.Pairwise (·<= ·)->(oA x l).Pairwise (·<= ·)
 |[],_=>by simp[oA]
 | y::r,h=>by
   unfold oA;split
   ·rename_i c;refine V9.mpr ⟨λz hz=>?_,h⟩
    rcases Vf.mp hz with rfl | hz
    ·exact c
    ·exact Int.le_trans c ((V9.mp h).1 z hz)
   ·rename_i c;have h':=V9.mp h;refine V9.mpr ⟨λz hz=>?_,wj x h'.2⟩
    rcases Vf.mp ((pP x r).mem_iff.mp hz) with rfl | hz
    ·lia
    ·exact h'.1 z hz
theorem iR:∀ l:List Int,(l.foldr oA []).Perm l/\(l.foldr oA []).Pairwise (·<= ·)
 |[]=>⟨.refl _,by simp⟩
 |x::l=>by obtain⟨a,b⟩:=iR l;exact⟨(pP x _).trans (a.cons x),wj x b⟩
theorem mL:∀ {a b:List Int},a.Perm b->a.Pairwise (·<= ·)->b.Pairwise (·<= ·)->a=b
 |[],b,p,_,_=>p.nil_eq
 |x::a,[],p,_,_=>by have:=p.length_eq;simp at this
 | x::a,y::b,p,ha,hb=>by
   have h1:=V9.mp ha;have h2:=V9.mp hb;have xy:x=y:=by
    have m1:x∈y::b:=p.mem_iff.mp (Vm);have m2:y∈x::a:=p.mem_iff.mpr (Vm);rcases Vf.mp m1 with e | m1
    ·exact e
    ·rcases Vf.mp m2 with e | m2
     ·exact e.symm
     ·exact Int.le_antisymm (h1.1 y m2) (h2.1 x m1)
   subst xy;rw[mL (List.Perm.cons_inv p) h1.2 h2.2]
theorem Bk:∀ {vs:List Value}{ns:List Int},vs.length=ns.length->(∀ (j:Nat) v,vs[j]?=some v->∃ n t,ns[j]?=some n/\v=.int n t)->IntsAre vs ns
 |[],[],_,_=>.nil
 |[],_::_,h,_=>by cases h
 |_::_,[],h,_=>by cases h
 |v::vs,n::ns,h,q=>by obtain⟨m,t,e,rfl⟩:=q 0 v rfl;cases e;exact .cons _ _ (Bk (by simpa using h) λj v e=>q (j+1) v e)
section
variable{prog:Program}{w:World}{A:Around}{E:Value->Shared->Prop}{s:Shared}
def zY(K:PySem.W.KdlSrc prog w T r d n P OK)(hh:A.handled=none)(hok:OK s.heap)(hn:n<=sizeLine)
  (h:∀h' tk (acc:Array Value),s.heap.objs.size<=h'.objs.size->(∀b o,s.heap.get? b=some o->h'.get? b=some o)->ItemsOf P acc n->Q acc.toList { s with heap:=h',toks:=tk }):wpAny (model prog w) A (collect (.ref r)) Q E s:=by
 unfold collect;refine UL (wpAny_runValue (Y7 Zj ?_));rw[X6 Zm _];refine UL (m:=newList []) (Vr (UV ⟨Zn YH _,Y7 F.entry_list_iadd ?_⟩));rw[X6 YH _];obtain⟨t1,t2⟩:=K.there _ hok;have lst0:(s.heap.push (seqObj "list" #[] 0)).get? s.heap.objs.size=some (seqObj "list" #[] 0):=U9 _ rfl;have ok1:OK (s.heap.push (seqObj "list" #[] 0)):=K.keep _ _ hok λb z o e=>UT _ e
 show wpAny _ A.in1 (Builtin.List.listExtendWith (.ref s.heap.objs.size) (.ref r) (.ref s.heap.objs.size)) _ _ { s with heap:=s.heap.push (seqObj "list" #[] 0) }
 refine PySem.W.kdl_extend (A:=A) (R:=λq s'=>match q with
  | .ok (.ret v)=>wpAny (model prog w) A (match v with
    | .ref a=>do
      let o <-load a
      match o.data with
       |.seq xs _=>pure xs.toList
       |_=>unsupported "internal:collect"
    |_=>unsupported "internal:collect") Q E s'
  |.ok _=>False
  |.error e=>E e s') (s:={ s with heap:=s.heap.push (seqObj "list" #[] 0) }) K hh ok1 s.heap.objs.size (Xv t1) (Xv t2) (.ref s.heap.objs.size) 0 lst0 (λh1 tk1 acc c1 hk hS' hacc=>?_) hn
 refine UL (m:=load s.heap.objs.size) (wpAny_load hS' ?_);exact UV (h h1 tk1 acc (Xj (U7 hS')) (λb o e=>hk b o (Vi (U7 e)) (UT _ e)) hacc)
def Ag(hh:A.handled=none)(dd:s.heap.DictOf (mixKind prog w) a kvs)(lo:(a == sysModules)=false)(hk:kvs.map (·.1)=ks.map Sum.inl)(h64:ks.length<64)
  (h:∀h' tk p n vs ns,s.heap.objs.size<=p->h'.get? p=some (seqObj "list" (vs:List Value).toArray n)->IntsAre vs ns->ns.Perm ks->ns.Pairwise (·<= ·)->(∀b o,s.heap.get? b=some o->h'.get? b=some o)->Q (.ref p) { s with heap:=h',toks:=tk }) :
  wpAny (model prog w) A (call (.builtin "sorted") [.ref a]) Q E s:=by
 refine Yj kind_sorted plain_sorted entry_sorted (args_sorted1 _) ?_;unfold Builtin.«sorted»
 refine UL (m:=checkCount "sorted" 1 1 _) (UV ?_);obtain⟨ep,hat⟩:=dd.dictAt;have kl:kvs.length=ks.length:=by have:=congrArg List.length hk;simpa using this
 refine UL (zY (PySem.W.kdl_dict (knd:=mixKind prog w) (kvs:=kvs) (ep:=ep) lo) (by simp[hh]) hat (by rw[Ww];lia) λh1 tk1 acc sz k1 hacc=>?_)
 have hi:IntsAre acc.toList ks:=Bk (by rw[Xe,hacc.1,kl]) λj v e=>by
  obtain⟨k,x,e1,e2⟩:=hacc.2 j v (by rw[<-YZ];exact e)
  have e3:(kvs.map (·.1))[j]?=some k:=by rw[Vl,e1];rfl
  rw[hk,Vl]at e3;obtain⟨n,e4,rfl⟩:=U4.mp e3;have e2:keyIs (Sum.inl n) v=true:=by rw[<-mixKind_is prog w];exact e2
  rcases keyIs_shape e2 with ⟨i,t,h1,h2⟩ | ⟨x,t,h1,h2⟩
  ·cases h1;exact⟨n,t,e4,h2⟩
  ·cases h1
 have vl:acc.toList.length=ks.length:=Zk hi;have zl:acc.toList.toArray.size<=sizeLine:=by rw[Vg,Ww];lia
 refine UL (wpAny_newList ?_ zl);have oL:(h1.push (seqObj "list" acc.toList.toArray 0)).get? h1.objs.size=some (seqObj "list" acc.toList.toArray 0):=U9 _ rfl;refine UL (VR (VD slot_list_sort ⟨_,oL,rfl⟩ entry_list_sort (list_sort_tree oL hi (by lia) λout ns' a1 a2 a3=>⟨_,rfl,?_⟩) (args_list_sort _)))
 obtain⟨e,he⟩:=sortedHeap_at (out:=out) oL;refine UV ⟨_,rfl,h _ _ h1.objs.size e out.toList ns' sz (by simpa using he) a1 a2 a3 λb o eb=>?_⟩
 have lt:=U7 (k1 b o eb);rw[sortedHeap_old (Vi lt) (by rw[size_push'];exact XH lt)]
 exact UT _ (k1 b o eb)
end
def qy(ks:List Int):List Int:=ks.foldr oA []
def xP(hh:X.A.handled=none):CallR X (.builtin "sorted") (λxs H Q=>∃ (p:Addr) (kvs:List (Key×V)) (ks:List Int),xs=[.ref p]/\H p=some (.dK kvs)/\kvs.map (·.1)=ks.map Sum.inl/\ks.length<=60/\∀ l,H l=none->Q (.ref l) (upd H l (.lst ((qy ks).map V.int)))):=by
 intro Zo s σ H xs us Q I r1 h;obtain⟨p,kvs,ks,rfl,hp,hk,hl,q⟩:=h;cases r1 with
 | cons r rr=>
   cases rr;cases r;obtain⟨z,lo,vs,rel,dd⟩:=dk_of I.hok hp;have hkk:vs.map (·.1)=ks.map Sum.inl:=by rw[<-rel.keys,hk]
   refine Ag hh dd lo hkk (by lia) λh2 tk2 l m ws ms hge hol ims pm so k2=>?_
   have em:ms=qy ks:=mL (pm.trans (iR _).1.symm) so (iR _).2;have zl:((qy ks).map V.int).length<=sizeLine:=by
    have e:(qy ks).length=ks.length:=(iR ks).1.length_eq;rw[U6,e];show _<=2^24
    lia
   have I2:=I.call (h':=h2) (t':=tk2) (d':=s.drawn) (g':=s.gens) (ch:=[]) (Un.laid k2 hge (I.hok.fresh hge)) (I.hok.laid (o:=.lst ((qy ks).map V.int)) k2 hge ⟨zl,ws,m,by rw[<-em];exact vals_ints ims,hol⟩) I.bare (λy z=>nomatch z)
   exact⟨.ref l,upd H l (.lst ((qy ks).map V.int)),I2,rfl,q l (I.hok.fresh hge)⟩
end L2
namespace LS
open PySem PySem.Spec PyProof.Rows
end LS
namespace L2
open PySem PySem.Spec PyProof.Rows LS
end L2
namespace L2
open PySem PySem.Spec PyProof.Rows
end L2
namespace L2
open PySem PySem.Spec PyProof.Rows LS
end L2
namespace L2
open PySem PySem.Spec PyProof.Rows
end L2
namespace L2
open PySem PySem.Spec PyProof.Rows
open PySem PySem.Spec PyProof.Rows
end L2
namespace L2
open PySem PySem.Spec PyProof.Rows
open PySem PySem.Spec PyProof.Rows
open PySem PySem.Spec PyProof.Rows
end L2
namespace L2
open PySem PySem.Spec PyProof.Rows LS
end L2
namespace L2
open PySem PySem.Spec PyProof.Rows
open PySem.AutoSeq1 (wpAny_loadPart') in
def Ri(l:Addr)(u:Value)(n:Nat)(dd:Option Addr)(sl:Array (Option Value))(t:Tok):
  Meets (Builtin.«tuple.__mul__» ⟨[.ref l,.int 0 t],[]⟩) (λz R s=>s.heap.get? l=some { cls:=.type "tuple",dict:=dd,data:=.seq #[u] n,slots:=sl } /\
   R (.ok (.ret (.ref s.heap.objs.size))) { s with heap:=s.heap.push { cls:=.type "tuple",data:=.seq #[] } }):=
 .of_wp λprog w A R s h=>by
  obtain⟨hp,g,d,tk,os⟩:=s;obtain⟨hl,h⟩:=h;have f1:=AutoSeq1.idx_int;have f2:=Yr;unfold Builtin.«tuple.__mul__»
  wp_walk using XF hl
  exact⟨_,rfl,h⟩
section
variable{X:Cx}
def Ru:R2:=λx y H Q=>∃(l:Addr) (c:V) (k:Int),x=.ref l/\y=.int k/\H l=some (.tup [c])/\0<=k/\k<=1000/\∀p H',Same H H'->H' p=some (.tup (List.replicate k.toNat c))->Q (.ref p) H'
def Mj:OpR X (binaryOp .Mult) Ru:=by
 intro Zo s σ H x y v u Q I rx ry h;obtain⟨l,c,k,rfl,rfl,hH,h1,h2,q⟩:=h;by_cases hk:1<=k
 ·exact Mi Zo s σ H _ _ v u Q I rx ry ⟨l,c,k,rfl,rfl,hH,hk,h2,q⟩
 obtain rfl:k=0:=by lia
 cases rx;obtain⟨t,rfl⟩:=ry;obtain⟨its,r,⟨⟨cls,dd,data,sl⟩,e,hc,n,hd⟩,hz⟩:=I.tuple (SqT.of (K:=X.K) hH);simp only at hc hd;subst hc hd;obtain⟨u,rfl,ru⟩:=vals1 r;have ty:s.TypeIs (.ref l) "tuple":=⟨_,e,rfl⟩;refine Yh (T := "tuple") (U := "int") (by decide) ty (λs'=>Yx s' 0 t) jU F.fills_int_mul XD p8 F.slot_int_index.lookup
  (Xo XD (Yx s 0 t) F.entry_int_rmul (F.args_int_rmul_2 _ _) (uI 0 t l _ n dd sl) ⟨e,rfl,ty,?_⟩)
 refine Xo F.slot_tuple_mul ty F.entry_tuple_mul (F.args_tuple_mul_2 _ _) (Ri l u n dd sl t) ⟨e,?_⟩;have fr:=I.hok.fresh (U0 s.heap.objs.size);refine⟨.ref s.heap.objs.size,_,I.laid (t':=s.toks) (o:=.tup []) (λb ob q=>UT _ q) (U0 _) ?_,rfl,q _ _ (same_new fr _) upd_same⟩
 exact⟨by simp,_,.nil,Yn _ _⟩
end
end L2
namespace LB
open PySem PySem.W PyProof.Rows
def aL{α:Type}(o:Nat->Nat->Bool):KasT α->α
 |.ret a=>a
 |.ask i j k=>aL o (k (o i j))
theorem fM:∀(t:KasT α),aL o (t.bind f)=aL o (f (aL o t))
 |.ret _=>rfl
 |.ask i j k=>fM (k (o i j))
structure Ord(K:Type) where
 le:K->K->Prop
 dec:∀a b,Decidable (le a b)
 rfl:∀a,le a a
 trans:∀{a b c},le a b->le b c->le a c
 tot:∀a b,le a b\/le b a
section
variable{K:Type}(R:Ord K)(v:Nat->K)
def ans(i j:Nat):Bool:=!(R.dec (v j) (v i)).decide
def V(p:Array Nat)(i:Nat):K:=v (p.getD i 0)
def SU(p:Array Nat)(n:Nat):Prop:=∀i j,i<=j->j<n->R.le (V v p i) (V v p j)
def DU(p:Array Nat)(n:Nat):Prop:=∀i j,i<=j->j<n->R.le (V v p j) (V v p i)
variable{R v}{p:Array Nat}
def wN(h:ans R v i j=true):R.le (v i) (v j):=by
 have n:¬ R.le (v j) (v i):=by simpa[ans] using h
 exact (R.tot _ _).resolve_right n
def tZ(h:¬ ans R v i j=true):R.le (v j) (v i):=by simpa[ans] using h
def nq{p q:Array Nat}{i j:Nat}(h:p[i]?=q[j]?):p.getD i 0=q.getD j 0:=by rw[V0,V0,h]
set_option tactic.hygienic true in
def jz{i j:Nat}(hj:j<=p.size)(k:Nat):V v (kas_rev p i j) k=if i<=k/\k<j then V v p (i+j-1-k) else V v p k:=by
 have h:=getElem?_mirror_all (i:=i) hj k;unfold V kas_rev;split
 ·rename_i c;rw[U5 c]at h;rw[nq h]
 ·rename_i c;rw[U8 c]at h;rw[nq h]
def J4{s d:Nat}(hs:s<p.size)(hd:d<=s)(k:Nat):V v (bubble p s d) k=if k=s-d then V v p s else if s-d<k/\k<=s then V v p (k-1) else V v p k:=by
 have h:=getElem?_bubble hs d hd k;by_cases c:k=s-d
 ·rw[U5 c]at h ⊢;exact congrArg v (nq h)
 ·rw[U8 c]at h ⊢
  by_cases c2:s-d<k/\k<=s
  ·rw[U5 c2]at h ⊢;exact congrArg v (nq h)
  ·rw[U8 c2]at h ⊢;exact congrArg v (nq h)
def tH(i j:Nat):(kas_rev p i j).Perm p:=mirror_perm _ _ _ _
def SU.up(h:SU R v p n)(h1:1<=n)(q:R.le (V v p (n-1)) (V v p n)):SU R v p (n+1):=λi j hij hj=>by
 by_cases c:j<n
 ·exact h i j hij c
 ·obtain rfl:j=n:=by lia
  by_cases d:i=j
  ·subst d;exact R.rfl _
  ·exact R.trans (h i (j-1) (by lia) (by lia)) q
def DU.up(h:DU R v p n)(h1:1<=n)(q:R.le (V v p n) (V v p (n-1))):DU R v p (n+1):=λi j hij hj=>by
 by_cases c:j<n
 ·exact h i j hij c
 ·obtain rfl:j=n:=by lia
  by_cases d:i=j
  ·subst d;exact R.rfl _
  ·exact R.trans q (h i (j-1) (by lia) (by lia))
theorem xO:∀ (f n:Nat),1<=n->SU R v p n->SU R v p (aL (ans R v) (kas_asc p f n))/\n<=aL (ans R v) (kas_asc p f n)/\aL (ans R v) (kas_asc p f n)<=n + f/\(aL (ans R v) (kas_asc p f n)<n + f->R.le (V v p (aL (ans R v) (kas_asc p f n))) (V v p (aL (ans R v) (kas_asc p f n) - 1)))
 |0,n,_,h=>⟨h,U0 _,U0 _,λz=>absurd z (Wm _)⟩
 | f + 1,n,h1,h=>by
   by_cases c:ans R v (p.getD n 0) (p.getD (n-1) 0)=true
   ·have e:aL (ans R v) (kas_asc p (f+1) n)=n:=by
     show aL (ans R v) (if ans R v (p.getD n 0) (p.getD (n-1) 0)=true then .ret n else _)=n
     rw[U5 c];rfl
    rw[e];exact⟨h,U0 _,by lia,λy=>wN c⟩
   ·have e:aL (ans R v) (kas_asc p (f+1) n)=aL (ans R v) (kas_asc p f (n+1)):=by
     show aL (ans R v) (if ans R v (p.getD n 0) (p.getD (n-1) 0)=true then .ret n else _)=_
     rw[U8 c]
    rw[e];obtain⟨a,b,d,g⟩:=xO f (n+1) (by lia) (h.up h1 (tZ c))
    exact⟨a,by lia,by lia,λz=>g (by lia)⟩
structure De(R:Ord K)(v:Nat->K)(p₀ p:Array Nat)(n q:Nat):Prop where
 du:DU R v p n
 pm:p.Perm p₀
 le:q+1<=n
 eq:∀k,n-(q+1)<=k->k<n->R.le (V v p k) (V v p (n-1))/\R.le (V v p (n-1)) (V v p k)
def De.rev(h:De R v p₀ p n q)(hn:n<=p₀.size):DU R v (kas_rev p (n-(q+1)) n) n/\(kas_rev p (n-(q+1)) n).Perm p₀:=by
 refine⟨λi j hij hj=>?_,(tH _ _).trans h.pm⟩
 have hn':n<=p.size:=by rw[h.pm.size_eq];exact hn
 have:=h.le;rw[jz hn',jz hn'];by_cases a:n-(q+1)<=i/\i<n
 ·rw[U5 a,U5 (by lia)]
  exact R.trans (h.eq _ (by lia) (by lia)).1 (h.eq _ (by lia) (by lia)).2
 ·rw[U8 a];by_cases b:n-(q+1)<=j/\j<n
  ·rw[U5 b];exact h.du _ _ (by lia) (by lia)
  ·rw[U8 b];exact h.du _ _ hij hj
def De.zero(a:DU R v p n)(b:p.Perm p₀)(c:1<=n):De R v p₀ p n 0:=⟨a,b,c,λk h1 h2=>by
 obtain rfl:k=n-1:=by lia
 exact⟨R.rfl _,R.rfl _⟩⟩
def Ju(h:De R v p₀ p n q)(hn:n<=p₀.size):R.le (V v p (n-1)) (V v (kas_rev p (n-(q+1)) n) (n-1)):=by
 have hn':n<=p.size:=by rw[h.pm.size_eq];exact hn
 have:=h.le;rw[jz hn',U5 (by lia)]
 exact (h.eq _ (by lia) (by lia)).2
def vN(hj:j<=p.size)(hk:j<=k):V v (kas_rev p i j) k=V v p k:=by rw[jz hj,U8 (by lia)]
theorem qJ:∀ (f:Nat) (p:Array Nat) (n q:Nat),n + f<=p₀.size->De R v p₀ p n q->∃ p' n' q',aL (ans R v) (kas_desc f p n q)=(p',n',q')/\n<=n'/\n'<=n + f/\De R v p₀ p' n' q'
 |0,p,n,q,_,h=>⟨p,n,q,rfl,U0 _,U0 _,h⟩
 | f + 1,p,n,q,hs,h=>by
   have h1:=h.le;by_cases c:ans R v (p.getD n 0) (p.getD (n-1) 0)=true
   ·by_cases hq:q > 0
    ·have e:aL (ans R v) (kas_desc (f+1) p n q)=aL (ans R v) (kas_desc f (kas_rev p (n-(q+1)) n) (n+1) 0):=by
      show aL (ans R v) (if ans R v (p.getD n 0) (p.getD (n-1) 0)=true then (if q > 0 then _ else _) else _)=_
      rw[U5 c,U5 hq]
     rw[e];obtain⟨d1,d2⟩:=h.rev (by lia)
     have hn':n<=p.size:=by rw[h.pm.size_eq];lia
     have d3:DU R v (kas_rev p (n-(q+1)) n) (n+1):=d1.up (by lia) (by rw[vN hn' (U0 _)];exact R.trans (wN c) (Ju h (by lia)))
     obtain⟨p',n',q',e1,e2,e3,e4⟩:=qJ f _ (n+1) 0 (by lia) (De.zero d3 d2 (by lia))
     exact⟨p',n',q',e1,by lia,by lia,e4⟩
    ·have e:aL (ans R v) (kas_desc (f+1) p n q)=aL (ans R v) (kas_desc f p (n+1) 0):=by
      show aL (ans R v) (if ans R v (p.getD n 0) (p.getD (n-1) 0)=true then (if q > 0 then _ else _) else _)=_
      rw[U5 c,U8 hq]
     rw[e];obtain⟨p',n',q',e1,e2,e3,e4⟩:=qJ f p (n+1) 0 (by lia) (De.zero (h.du.up (by lia) (wN c)) h.pm (by lia))
     exact⟨p',n',q',e1,by lia,by lia,e4⟩
   ·by_cases d:ans R v (p.getD (n - 1) 0) (p.getD n 0)=true
    ·refine⟨p,n,q,?_,U0 _,by lia,h⟩
     show aL (ans R v) (if ans R v (p.getD n 0) (p.getD (n-1) 0)=true then _ else _)=_
     rw[U8 c];show aL (ans R v) (if ans R v (p.getD (n-1) 0) (p.getD n 0)=true then _ else _)=_
     rw[U5 d];rfl
    ·have e:aL (ans R v) (kas_desc (f + 1) p n q)=aL (ans R v) (kas_desc f p (n + 1) (q + 1)):=by
      show aL (ans R v) (if ans R v (p.getD n 0) (p.getD (n-1) 0)=true then _ else _)=_
      rw[U8 c];show aL (ans R v) (if ans R v (p.getD (n-1) 0) (p.getD n 0)=true then _ else _)=_
      rw[U8 d]
     rw[e];have x1:R.le (V v p (n-1)) (V v p n):=tZ c;have x2:R.le (V v p n) (V v p (n-1)):=tZ d;have hh:De R v p₀ p (n+1) (q+1):=⟨h.du.up (by lia) x2,h.pm,by lia,λk hk1 hk2=>by
      show R.le (V v p k) (V v p n)/\R.le (V v p n) (V v p k);by_cases z:k=n
      ·subst z;exact⟨R.rfl _,R.rfl _⟩
      ·obtain⟨y1,y2⟩:=h.eq k (by lia) (by lia)
       exact⟨R.trans y1 x1,R.trans x2 y2⟩⟩
     obtain⟨p',n',q',e1,e2,e3,e4⟩:=qJ f p (n+1) (q+1) (by lia) hh
     exact⟨p',n',q',e1,by lia,by lia,e4⟩
def Cn(R:Ord K)(v:Nat->K)(p₀:Array Nat)(r:Nat×Array Nat):Prop:=SU R v r.2 r.1/\r.2.Perm p₀/\r.1<=p₀.size
def Cq(h1:1<=n)(hn:n<=p₀.size)(d:DU R v p n)(pm:p.Perm p₀):Cn R v p₀ (aL (ans R v) (kas_tail3 n p₀.size p)):=by
 have hn':n<=p.size:=by rw[pm.size_eq];exact hn
 have s:SU R v (kas_rev p 0 n) n:=λi j hij hj=>by
  rw[jz hn',jz hn',U5 (by lia),U5 (by lia)]
  exact d _ _ (by lia) (by lia)
 obtain⟨a,b,c,_⟩:=xO (p:=kas_rev p 0 n) (p₀.size-n) n h1 s;unfold kas_tail3;rw[fM];exact⟨a,(tH _ _).trans pm,by show aL _ _<=_;lia⟩
def BP(h1:1<=n)(hn:n+1<=p₀.size)(d:DU R v p (n+1))(pm:p.Perm p₀):Cn R v p₀ (aL (ans R v) (kas_descPart n p₀.size p)):=by
 obtain⟨p',n',q',e1,e2,e3,e4⟩:=qJ (p₀:=p₀) (p₀.size-(n+1)) p (n+1) 0 (by lia) (De.zero d pm (by lia))
 unfold kas_descPart;rw[fM,e1];show Cn R v p₀ (aL _ (if q' > 0 then _ else _))
 split
 ·obtain⟨d1,d2⟩:=e4.rev (by lia)
  exact Cq (n:=n') (by lia) (by lia) d1 d2
 ·exact Cq (n:=n') (by lia) (by lia) e4.du e4.pm
def IW(h1:1<=p₀.size):Cn R v p₀ (aL (ans R v) (kas_count p₀.size p₀)):=by
 have s1:SU R v p₀ 1:=λi j hij hj=>by
  obtain rfl:i=j:=by lia
  exact R.rfl _
 obtain⟨a,b,c,g⟩:=xO (p:=p₀) (p₀.size-1) 1 (U0 _) s1;unfold kas_count;rw[fM];generalize aL (ans R v) (kas_asc p₀ (p₀.size-1) 1)=n at a b c g;by_cases e:(n==p₀.size)=true
 ·rw[U5 e];exact⟨a,.refl _,by show n<=_;lia⟩
 ·rw [U8 e];have ne:n≠p₀.size:=by simpa using e
  have g':=g (by lia)
  by_cases h:n > 1
  ·rw [U5 h];show Cn R v p₀ (aL _ (if ans R v (p₀.getD 0 0) (p₀.getD (n-1) 0)=true then _ else _))
   by_cases x:ans R v (p₀.getD 0 0) (p₀.getD (n-1) 0)=true
   ·rw[U5 x];exact⟨a,.refl _,by show n<=_;lia⟩
   ·rw[U8 x];have al:R.le (V v p₀ (n-1)) (V v p₀ 0):=tZ x;have d:DU R v (kas_rev p₀ 0 n) n:=λi j hij hj=>by
     rw[jz (by lia),jz (by lia),U5 (by lia),U5 (by lia)]
     exact a _ _ (by lia) (by lia)
    refine BP (by lia) (by lia) (d.up (by lia) ?_) (tH _ _)
    rw[vN (by lia) (U0 _),jz (by lia),U5 (by lia)]
    exact R.trans g' (R.trans al (a 0 _ (by lia) (by lia)))
  ·rw[U8 h];obtain rfl:n=1:=by lia
   refine BP (U0 _) (by lia) ?_ (.refl _)
   have d1:DU R v p₀ 1:=λi j hij hj=>by
    obtain rfl:i=j:=by lia
    exact R.rfl _
   exact d1.up (U0 _) g'
theorem tu(s:SU R v p k):∀ (f l r:Nat),l<=r->r<=k->r - l<=f->(∀ i,i<l->R.le (V v p i) (V v p k))->(∀ i,r<=i->i<k->R.le (V v p k) (V v p i))->
  aL (ans R v) (kas_place p k f l r)<=k/\(∀i,i<aL (ans R v) (kas_place p k f l r)->R.le (V v p i) (V v p k))/\∀i,aL (ans R v) (kas_place p k f l r)<=i->i<k->R.le (V v p k) (V v p i)
 |0,l,r,h1,h2,h3,a,b=>by
   obtain rfl:l=r:=by lia
   exact⟨h2,a,b⟩
 | f + 1,l,r,h1,h2,h3,a,b=>by
   by_cases c:l ≥ r
   ·have e:aL (ans R v) (kas_place p k (f+1) l r)=l:=by
     show aL (ans R v) (if l ≥ r then .ret l else _)=l
     rw[U5 c];rfl
    rw[e];exact⟨by lia,a,λi hi=>b i (by lia)⟩
   ·by_cases d:ans R v (p.getD k 0) (p.getD ((l + r) / 2) 0)=true
    ·have e:aL (ans R v) (kas_place p k (f+1) l r)=aL (ans R v) (kas_place p k f l ((l+r) / 2)):=by
      show aL (ans R v) (if l ≥ r then .ret l else _)=_
      rw[U8 c];show aL (ans R v) (if ans R v (p.getD k 0) (p.getD ((l+r) / 2) 0)=true then _ else _)=_
      rw[U5 d]
     rw[e];have x:R.le (V v p k) (V v p ((l+r) / 2)):=wN d;exact tu s f l _ (by lia) (by lia) (by lia) a λi hi hk=>R.trans x (s _ _ hi hk)
    ·have e:aL (ans R v) (kas_place p k (f+1) l r)=aL (ans R v) (kas_place p k f ((l+r) / 2+1) r):=by
      show aL (ans R v) (if l ≥ r then .ret l else _)=_
      rw[U8 c];show aL (ans R v) (if ans R v (p.getD k 0) (p.getD ((l+r) / 2) 0)=true then _ else _)=_
      rw[U8 d]
     rw[e];have x:R.le (V v p ((l+r) / 2)) (V v p k):=tZ d;exact tu s f _ r (by lia) (by lia) (by lia) (λi hi=>R.trans (s i _ (by lia) (by lia)) x) b
theorem Ff:∀ (f:Nat) (p:Array Nat) (k:Nat),k + f=p₀.size->p.Perm p₀->SU R v p k->SU R v (aL (ans R v) (kas_bin f p k)) p₀.size/\(aL (ans R v) (kas_bin f p k)).Perm p₀
 |0,p,k,h,pm,s=>by
   obtain rfl:k=p₀.size:=by lia
   exact⟨s,pm⟩
 | f + 1,p,k,h,pm,s=>by
   obtain⟨a,b,c⟩:=tu s k 0 k (by lia) (U0 _) (by lia) (λi hi=>by lia) (λi h1 h2=>by lia)
   show SU R v (aL (ans R v) ((kas_place p k k 0 k).bind λl=>kas_bin f (bubble p k (k-l)) (k+1))) _/\(aL (ans R v) ((kas_place p k k 0 k).bind λl=>kas_bin f (bubble p k (k-l)) (k+1))).Perm p₀
   rw[fM];generalize aL (ans R v) (kas_place p k k 0 k)=l at a b c;have ks:k<p.size:=by rw[pm.size_eq];lia
   refine Ff f _ (k+1) (by lia) ((bubble_perm _ _ _).trans pm) λi j hij hj=>?_
   rw[J4 ks (by lia),J4 ks (by lia)]
   have el:k-(k-l)=l:=by lia
   rw[el];by_cases c1:i=l
   ·rw[U5 c1];by_cases c2:j=l
    ·rw[U5 c2];exact R.rfl _
    ·rw[U8 c2,U5 (by lia)]
     exact c _ (by lia) (by lia)
   ·rw [U8 c1];by_cases c3:l<i/\i<=k
    ·rw[U5 c3,U8 (by lia),U5 (by lia)]
     exact s _ _ (by lia) (by lia)
    ·rw[U8 c3];by_cases c2:j=l
     ·rw[U5 c2];exact b _ (by lia)
     ·rw[U8 c2];by_cases c4:l<j/\j<=k
      ·rw[U5 c4];exact s _ _ (by lia) (by lia)
      ·rw[U8 c4];exact s _ _ (by lia) (by lia)
def MT(h2:1<=n):SU R v (aL (ans R v) (kas_sort n)) n/\(aL (ans R v) (kas_sort n)).Perm (List.range n).toArray:=by
 have z:(List.range n).toArray.size=n:=by simp
 have c:=IW (R:=R) (v:=v) (p₀:=(List.range n).toArray) (by lia)
 rw[z]at c;unfold kas_sort;rw[fM];revert c;generalize aL (ans R v) (kas_count n (List.range n).toArray)=r;obtain⟨m,p⟩:=r;rintro⟨a,b,d⟩;dsimp only at a b d ⊢
 rw[z]at d;by_cases e:m<n
 ·rw [U5 e];have q:=Ff (R:=R) (v:=v) (p₀:=(List.range n).toArray) (n-max m 1) p (max m 1) (by rw[z];lia) b (by
   by_cases x:1<=m
   ·rw[Nat.max_eq_left x];exact a
   ·have:max m 1=1:=by lia
    rw[this];intro i j hij hj;obtain rfl:i=j:=by lia
    exact R.rfl _)
  rw[z]at q;exact q
 ·rw[U8 e];obtain rfl:m=n:=by lia
  exact⟨a,b⟩
end
def eY{α:Type}(n:Nat)(P:α->Prop):KasT α->Prop
 |.ret a=>P a
 |.ask i j k=>i<n/\j<n/\∀b,eY n P (k b)
theorem eY.bind{α β:Type}{n:Nat}{P:α->Prop}{P':β->Prop}{f:α->KasT β}(hf:∀a,P a->eY n P' (f a)):∀{t:KasT α},eY n P t->eY n P' (t.bind f)
 |.ret a,h=>hf a h
 |.ask _ _ k,h=>⟨h.1,h.2.1,λb=>eY.bind hf (h.2.2 b)⟩
theorem Cu(h:∀i j C,i<n->j<n->C (o i j) s->cmp i j C s):∀(t:KasT α),eY n P t->Q (aL o t) s->t.kasWp cmp Q s
 |.ret _,_,q=>q
 |.ask i j k,b,q=>h i j _ b.1 b.2.1 (Cu h (k (o i j)) (b.2.2 _) q)
def Bd(n:Nat)(p:Array Nat):Prop:=0<n/\∀x∈p.toList,x<n
theorem Bd.at(h:Bd n p)(i:Nat):p.getD i 0<n:=by
 rw[V0];cases e:p[i]? with
 |none=>exact h.1
 |some x=>exact h.2 x (by rw[Ye]at e;obtain⟨h1,rfl⟩:=e;simp)
def Bd.perm(h:Bd n p)(pm:q.Perm p):Bd n q:=⟨h.1,λx hx=>h.2 x ((Array.perm_iff_toList_perm.mp pm).mem_iff.mp hx)⟩
def Bd.rev(h:Bd n p)(i j:Nat):Bd n (kas_rev p i j):=h.perm (mirror_perm _ _ _ _)
theorem xN(h:Bd n p):∀ (f m:Nat),eY n (λz=>True) (kas_asc p f m)
 |0,_=>trivial
 |f+1,m=>⟨h.at _,h.at _,λb=>by
   cases b
   ·exact xN h f (m+1)
   ·exact trivial⟩
theorem qI:∀ (f:Nat) (p:Array Nat) (m q:Nat),Bd n p->eY n (λr=>Bd n r.1) (kas_desc f p m q)
 |0,p,_,_,h=>h
 | f + 1,p,m,q,h=>⟨h.at _,h.at _,λb=>by
   cases b
   ·exact⟨h.at _,h.at _,λb=>by
     cases b
     ·exact qI f _ _ _ h
     ·exact h⟩
   ·show eY n _ (if q > 0 then _ else _)
    split
    ·exact qI f _ _ _ (h.rev _ _)
    ·exact qI f _ _ _ h⟩
def Cp{n m k:Nat}{p:Array Nat}(h:Bd n p):eY n (λr=>Bd n r.2) (kas_tail3 m k p):=by
 unfold kas_tail3;refine eY.bind (P:=λz=>True) (λa z=>?_) (xN (h.rev _ _) _ _)
 show Bd n (kas_rev p 0 m);exact h.rev 0 m
def BL{n m k:Nat}{p:Array Nat}(h:Bd n p):eY n (λr=>Bd n r.2) (kas_descPart m k p):=eY.bind (P:=λr=>Bd n r.1) (λr hr=>by
 split
 ·exact Cp (hr.rev _ _)
 ·exact Cp hr) (qI _ _ _ _ h)
def IV{n k:Nat}{p:Array Nat}(h:Bd n p):eY n (λr=>Bd n r.2) (kas_count k p):=eY.bind (P:=λz=>True) (λm z=>by
 split
 ·exact h
 ·split
  ·exact⟨h.at _,h.at _,λb=>by
    cases b
    ·exact BL (h.rev _ _)
    ·exact h⟩
  ·exact BL h) (xN h _ _)
theorem sZ(h:Bd n p)(k:Nat):∀ (f l r:Nat),eY n (λz=>True) (kas_place p k f l r)
 |0,_,_=>trivial
 | f + 1,l,r=>by
   unfold kas_place;split
   ·exact trivial
   ·exact⟨h.at _,h.at _,λb=>by
     cases b
     ·exact sZ h k f _ _
     ·exact sZ h k f _ _⟩
theorem Fe{n:Nat}:∀(f:Nat) (p:Array Nat) (k:Nat),Bd n p->eY n (λz=>True) (kas_bin f p k)
 |0,_,_,_=>trivial
 |f+1,p,k,h=>eY.bind (P:=λz=>True) (λl z=>Fe f _ _ (h.perm (bubble_perm _ _ _))) (sZ h _ _ _ _)
def MP{n:Nat}(h:0<n):eY n (λz=>True) (kas_sort n):=by
 have b:Bd n (List.range n).toArray:=⟨h,λx hx=>by simpa using hx⟩
 refine eY.bind (P:=λr=>Bd n r.2) (λr hr=>?_) (IV b)
 split
 ·exact Fe _ _ _ hr
 ·exact trivial
end LB
namespace LB
open PySem PySem.W PySem.Calls PyProof.Rows
def cX:List Int->List Int->Bool
 |[],[]=>false
 |[],_::_=>true
 |_::_,[]=>false
 |a::x,b::y=>if a=b then cX x y else decide (a<b)
theorem Bq:∀x,cX x x=false
 |[]=>rfl
 |a::x=>by simp[cX,Bq x]
theorem Br:∀ {x y:List Int},cX x y=false->cX y x=false->x=y
 |[],[],_,_=>rfl
 |[],_::_,h,_=>by cases h
 |_::_,[],_,h=>by cases h
 | a::x,b::y,h1,h2=>by
   simp only[cX]at h1 h2;by_cases c:a=b
   ·subst c;rw[U5 rfl]at h1 h2;rw[Br h1 h2]
   ·rw[U8 c]at h1;rw[U8 (Ne.symm c)]at h2;simp at h1 h2
    lia
theorem sX:∀ {x y:List Int},cX x y=true->cX y x=false
 |[],[],h=>by cases h
 |[],_::_,_=>rfl
 |_::_,[],h=>by cases h
 | a::x,b::y,h=>by
   simp only[cX]at h ⊢
   by_cases c:a=b
   ·subst c;rw[U5 rfl]at h ⊢
    exact sX h
   ·rw[U8 c]at h;rw[U8 (Ne.symm c)];simp at h ⊢
    lia
theorem pL:∀ {x y z:List Int},cX y x=false->cX z y=false->cX z x=false
 |[],[],[],_,_=>rfl
 |[],[],_::_,_,_=>rfl
 |[],_::_,[],_,h=>by cases h
 |[],_::_,_::_,_,_=>rfl
 |_::_,[],_,h,_=>by cases h
 |_::_,_::_,[],_,h=>by cases h
 | a::x,b::y,c::z,h1,h2=>by
   simp only[cX]at h1 h2 ⊢
   by_cases e1:b=a
   ·subst e1;rw[U5 rfl]at h1;by_cases e2:c=b
    ·subst e2;rw[U5 rfl]at h2 ⊢
     exact pL h1 h2
    ·rw[U8 e2]at h2 ⊢
     exact h2
   ·rw[U8 e1]at h1;by_cases e2:c=b
    ·subst e2;rw[U8 e1];exact h1
    ·rw[U8 e2]at h2;simp at h1 h2;rw[U8 (by lia)]
     simp
     lia
def gW:Ord (List Int) where
 le x y:=cX y x=false
 dec x y:=inferInstance
 rfl:=Bq
 trans:=pL
 tot x y:=by
  cases h:cX y x
  ·exact .inl rfl
  ·exact .inr (sX h)
def sJ(x:List Int):List (List Int)->List (List Int)
 |[]=>[x]
 |y::r=>if cX y x=false then x::y::r else y::sJ x r
def zJ(l:List (List Int)):List (List Int):=l.foldr sJ []
theorem pO(x:List Int):∀ l,(sJ x l).Perm (x::l)
 |[]=>.refl _
 |y::r=>by
   unfold sJ;split
   ·exact .refl _
   ·exact ((pO x r).cons y).trans (.swap x y r)
abbrev lQ(l:List (List Int)):Prop:=l.Pairwise λx y=>cX y x=false
set_option tactic.hygienic true in
theorem vZ(x:List Int):∀ {l:List (List Int)},lQ l->lQ (sJ x l)
 |[],_=>by simp[sJ,lQ]
 | y::r,h=>by
   have h':=V9.mp h;unfold sJ;split
   ·rename_i c;exact V9.mpr ⟨λz hz=>by
     rcases Vf.mp hz with rfl | hz
     ·exact c
     ·exact pL c (h'.1 z hz),h⟩
   ·rename_i c;refine V9.mpr ⟨λz hz=>?_,vZ x h'.2⟩
    rcases Vf.mp ((pO x r).mem_iff.mp hz) with rfl | hz
    ·exact sX (by simpa using c)
    ·exact h'.1 z hz
theorem jL:∀ l:List (List Int),(zJ l).Perm l/\lQ (zJ l)
 |[]=>⟨.refl _,List.Pairwise.nil⟩
 |x::l=>by obtain⟨a,b⟩:=jL l;exact⟨(pO x _).trans (a.cons x),vZ x b⟩
theorem wB:∀ {a b:List (List Int)},a.Perm b->lQ a->lQ b->a=b
 |[],b,p,_,_=>(List.nil_perm.mp p).symm
 |x::a,[],p,_,_=>absurd p.length_eq (by simp)
 | x::a,y::b,p,ha,hb=>by
   have ha':=V9.mp ha;have hb':=V9.mp hb;have e:x=y:=by
    have m1:y∈x::a:=p.mem_iff.mpr (Vm);have m2:x∈y::b:=p.mem_iff.mp (Vm);rcases Vf.mp m1 with e | m1
    ·exact e.symm
    ·rcases Vf.mp m2 with e | m2
     ·exact e
     ·exact Br (hb'.1 x m2) (ha'.1 y m1)
   subst e;rw[wB (List.Perm.cons_inv p) ha'.2 hb'.2]
section
variable{prog:Program}{w:World}{A:Around}{E:Value->Shared->Prop}{s:Shared}{b fin:Bool}{Q:Bool->Shared->Prop}
theorem yL:∀ {xs ys:List Value}{x y:List Int} (i:Nat),IntsAre xs x->IntsAre ys y->fin=decide (x.length<y.length)->Q (cX x y) s->KatLex prog w A b fin Q (xs.zip ys) i s
 |[],[],_,_,i,.nil,.nil,hf,q=>by have e:fin=false:=hf;subst e;exact kat_nil q
 |[],_::_,_,_,i,.nil,.cons m u r,hf,q=>by
   have e:fin=true:=by rw[hf];simp
   subst e;exact kat_nil q
 |_::_,[],_,_,i,.cons m u r,.nil,hf,q=>by
   have e:fin=false:=by rw[hf];simp
   subst e;exact kat_nil q
 | _::xs,_::ys,_,_,i,.cons m t (ns:=x) r,.cons n u (ns:=y) r',hf,q=>by
   rw[W5];refine kat_cons ((intKind prog w).eqBool (a:=m) (b:=n) (intKind_is _ _ _ _) (intKind_is _ _ _ _) ?_);by_cases c:m=n
   ·rw[Vh c];have q':Q (cX x y) s:=by rw[cX,U5 c]at q;exact q
    exact kat_yes (yL (i+1) r r' (by rw[hf];simp) q')
   ·rw[Vz c];have q':Q (decide (m<n)) s:=by rw[cX,U8 c]at q;exact q
    refine kat_no ?_;cases (b&&i==0) with
    |true=>exact oneLt_int q'
    |false=>exact kat_one _ _ (PySem.P.lt_int q')
end
def TupAt(h:Heap)(v:Value)(t:List Int):Prop:=t≠[]/\∃a its,v=.ref a/\IsTup h a its/\IntsAre its.toList t
abbrev fQ(h:Heap):List Value->List (List Int)->Prop:=Paired (TupAt h)
theorem oH:∀{xs:List α}{ys:List β}{i:Nat}{x:α}{y:β},Paired R xs ys->xs[i]?=some x->ys[i]?=some y->R x y
 |_,_,0,_,_,.cons r _,e1,e2=>by cases e1;cases e2;exact r
 |_,_,i+1,_,_,.cons _ t,e1,e2=>oH (i:=i) t e1 e2
theorem fQ.keep(k:∀a its,IsTup h a its->IsTup h' a its):∀{vs:List Value}{ts:List (List Int)},fQ h vs ts->fQ h' vs ts
 |_,_,.nil=>.nil
 |_,_,.cons ⟨n,a,its,e,i,q⟩ t=>.cons ⟨n,a,its,e,k _ _ i,q⟩ (fQ.keep k t)
section
variable{prog:Program}{w:World}{A:Around}{E:Value->Shared->Prop}{s:Shared}
theorem vW:∀ {vs:List Value}{ts:List (List Int)},fQ h vs ts->∃ fs,KatTups h vs fs/\fs.length=vs.length/\∀ v∈fs,∃ i t,v=.int i t
 |_,_,.nil=>⟨[],.nil,rfl,λv hv=>by cases hv⟩
 | _,_,.cons r tl=>by
   obtain⟨fs,k,l,q⟩:=vW tl;obtain⟨ne,a,its,rfl,⟨o,ho,hc,n,hd⟩,hi⟩:=r;obtain⟨l'⟩:=its;cases hi with
   |nil=>exact absurd rfl ne
   |cons i t r2=>
     refine⟨_::fs,KatTups.cons ho hc hd rfl k,by simp[l],λv hv=>?_⟩
     rcases Vf.mp hv with rfl | hv
     ·exact⟨i,t,rfl⟩
     ·exact q v hv
def Gq(h:fQ s.heap vs ts)(h1:0<vs.length)(q:Q (tuples' true) s):wpAny (model prog w) A (keyKind' vs.toArray) Q E s:=by obtain⟨fs,k,l,f⟩:=vW h;exact kat_kind (T:=.type "int") k (by lia) (λv hv=>by obtain⟨i,t,rfl⟩:=f v hv;exact Looks.of_pure rfl) (by decide) q
def Ip(h:fQ s.heap vs ts)(hi:i<vs.length)(hj:j<vs.length)(q:C (cX (ts.getD i []) (ts.getD j [])) s):kas_ask prog w A (tuples' true) vs i j C s:=by
 have hl:=Yd h;unfold kas_ask;have e1:vs.getD i Value.none=vs[i]:=by simp[hi]
 have e2:vs.getD j Value.none=vs[j]:=by simp[hj]
 have t1:ts.getD i []=ts[i]'(by lia):=by simp[show i<ts.length by lia]
 have t2:ts.getD j []=ts[j]'(by lia):=by simp[show j<ts.length by lia]
 rw[e1,e2];rw[t1,t2]at q;obtain⟨_,a,its,ea,⟨oa,hoa,_,na,hda⟩,ia⟩:=oH (i:=i) h (U3 hi) (U3 (by lia))
 obtain⟨_,b,jts,eb,⟨ob,hob,_,nb,hdb⟩,ib⟩:=oH (i:=j) h (U3 hj) (U3 (by lia))
 rw[ea,eb];refine kat_lt hoa hda hob hdb (yL 0 ia ib ?_ q);have:=Zk ia;have:=Zk ib;simp at *;congr 1
 lia
end
def Nx{ts:List (List Int)}(i j:Nat):ans gW (λi=>ts.getD i []) i j=cX (ts.getD i []) (ts.getD j []):=by
 by_cases h:cX (ts.getD i []) (ts.getD j [])=true
 ·rw[h];have:¬ gW.le (ts.getD j []) (ts.getD i []):=λz=>by have z:cX (ts.getD i []) (ts.getD j [])=false:=z;rw[h]at z;cases z
  unfold ans;rw[@decide_eq_false _ (gW.dec _ _) this];rfl
 ·have h:cX (ts.getD i []) (ts.getD j [])=false:=by simpa using h
  have:gW.le (ts.getD j []) (ts.getD i []):=h;unfold ans;rw[h,@decide_eq_true _ (gW.dec _ _) this];rfl
def Qw{p:Array Nat}{ts:List (List Int)}{n:Nat}(h:SU gW (λi=>ts.getD i []) p n)(hs:p.size=n):lQ (p.toList.map λi=>ts.getD i []):=by
 rw[lQ,Zg,W6];intro i j h1 h2 hij;have h1':i<p.size:=by simpa using h1
 have h2':j<p.size:=by simpa using h2
 have z:cX (ts.getD (p.getD j 0) []) (ts.getD (p.getD i 0) [])=false:=h i j (Xj hij) (by lia)
 have e1:p.getD i 0=p.toList[i]:=by simp[Array.getD,h1']
 have e2:p.getD j 0=p.toList[j]:=by simp[Array.getD,h2']
 rw[e1,e2]at z;exact z
section
variable{prog:Program}{w:World}{A:Around}{E:Value->Shared->Prop}{s:Shared}
structure Srt(vs:List Value)(ts:List (List Int))(is:List Nat):Prop where
 lt:∀i∈is,i<vs.length
 pm:is.Perm (List.range vs.length)
 ris:lQ (is.map λi=>ts.getD i [])
def u6(ho:s.heap.get? a=some (seqObj "list" vs.toArray n))
  (hT:fQ s.heap vs ts) (h64:vs.length<64)
  (h:∀is,Srt vs ts is->P (.done (.ret .none)) { s with heap:=sortedHeap s.heap a vs (is.map λi=>vs.getD i Value.none).toArray }) :
  wpAny (model prog w) A (Builtin.«list.sort» ⟨[.ref a],[]⟩) P E s:=by
 have hl:=Yd hT;rw[list_sort_plain];have ha:a<s.heap.objs.size:=U7 ho;refine UL (listItems_at ho rfl ?_);refine UL (YS ho rfl ?_);obtain⟨e1,ho1⟩:∃e1,(s.heap.update a (Obj.mapSeq λy=>#[])).get? a=some (seqObj "list" #[] e1):=⟨_,Zi ho (λy=>#[])⟩
 refine UL (seqEpoch_at ho1 rfl ?_);refine UL (wpAny_newTuple ?_);refine UL (wpAny_newList ?_);refine VR ?_;have ho6:(((s.heap.update a (Obj.mapSeq λy=>#[])).push (seqObj "tuple" vs.toArray 0)).push (seqObj "list" #[] 0)).get? a=some (seqObj "list" #[] e1):=by
  rw[YG _ _ _ (by rw[size_push',YX];exact Vi (XH ha)),YG _ _ _ (by rw[YX];exact Vi ha)]
  exact ho1
 have kp:∀b its,IsTup s.heap b its->IsTup (((s.heap.update a (Obj.mapSeq λy=>#[])).push (seqObj "tuple" vs.toArray 0)).push (seqObj "list" #[] 0)) b its:=λb its hb=>by
  obtain⟨o,hb,hc,r⟩:=hb;have ne:b≠a:=λz=>by subst z;rw[ho]at hb;cases hb;have hc:Value.type "list"=Value.type "tuple":=hc;exact absurd hc (by decide)
  have lt:=U7 hb;refine⟨o,?_,hc,r⟩;rw[YG _ _ _ (by rw[size_push',YX];exact Vi (XH lt)),YG _ _ _ (by rw[YX];exact Vi lt),Zd _ _ _ _ ne]
  exact hb
 have hT':=hT.keep kp;show wpAny (model prog w) A _ P E { s with heap:=((s.heap.update a (Obj.mapSeq λy=>#[])).push (seqObj "tuple" vs.toArray 0)).push (seqObj "list" #[] 0) }
 dsimp only;have hsz:vs.toArray.size=vs.length:=by simp
 by_cases h2:vs.toArray.size<2
 ·rw[U5 h2,U5 h2];refine UL (UV ?_);rw[StateT.run_pure];refine UL (UV ?_);dsimp only;refine UL (seqEpoch_at ho6 rfl ?_);refine UL (YS ho6 rfl ?_ (hsz2:=by rw[Array.size_map];show (pairsOf vs).size<=_;rw[pairsOf_size,Ww];lia))
  simp only[bne_self_eq_false,Bool.false_eq_true,if_false];have fin:=h (List.range vs.length) ⟨λi hi=>Ve.mp hi,.refl _,by
   rw[hsz]at h2
   match vs,h2 with
   |[],_=>exact List.Pairwise.nil
   |[_],_=>exact List.pairwise_singleton _ _
   |_::_::_,z=>simp at z;lia⟩
  have e:((List.range vs.length).map λi=>vs.getD i Value.none).toArray=(arrOf (SortSt.mk' general' (vs.toArray.zip vs.toArray) #[] 7 none)).map (·.2):=by
   show _=(vs.toArray.zip vs.toArray).map (·.2);rw[hsz]at h2
   match vs,h2 with
   |[],_=>simp
   |[_],_=>simp
   |_::_::_,z=>simp at z;lia
  rw[e]at fin;exact UV fin
 ·rw [U8 h2,U8 h2];rw[hsz]at h2;refine UL (Gq hT' (by lia) ?_)
  obtain⟨su,pm⟩:=MT (R:=gW) (v:=λi=>ts.getD i []) (n:=vs.length) (by lia)
  have pl:(aL (ans gW λi=>ts.getD i []) (kas_sort vs.length)).toList.Perm (List.range vs.length):=by simpa using Array.perm_iff_toList_perm.mp pm
  have fin:=h (aL (ans gW λi=>ts.getD i []) (kas_sort vs.length)).toList ⟨λi hi=>Ve.mp (pl.mem_iff.mp hi),pl,by exact Qw su (by have:=pl.length_eq;simp only[Array.length_toList,List.length_range]at this;exact this)⟩
  have ask:(kas_sort vs.length).kasWp (kas_ask prog w A (tuples' true) vs) (λp s'=>p=aL (ans gW λi=>ts.getD i []) (kas_sort vs.length)/\s'={ s with heap:=((s.heap.update a (Obj.mapSeq λy=>#[])).push (seqObj "tuple" vs.toArray 0)).push (seqObj "list" #[] 0) }) { s with heap:=((s.heap.update a (Obj.mapSeq λy=>#[])).push (seqObj "tuple" vs.toArray 0)).push (seqObj "list" #[] 0) }:=
   Cu (o:=ans gW λi=>ts.getD i []) (λi j C hi hj q=>Ip hT' hi hj (by
    have e:ans gW (λi=>ts.getD i []) i j=cX (ts.getD i []) (ts.getD j []):=by exact Nx _ _
    rw[e]at q;exact q)) _ (MP (by lia)) ⟨rfl,rfl⟩
  refine UL (Vn (kat_run (Q:=λst' s'=>arrOf st'=(aL (ans gW λi=>ts.getD i []) (kas_sort vs.length)).map (kas_item (vs.toArray.zip vs.toArray))/\failedOf st'=none/\s'={ s with heap:=((s.heap.update a (Obj.mapSeq λy=>#[])).push (seqObj "tuple" vs.toArray 0)).push (seqObj "list" #[] 0) })
   rfl (by lia) h64 (λp' st' s' a1 a2 a3 a4=>by obtain⟨rfl,rfl⟩:=a4;exact⟨a2,a3,rfl⟩) ask) ?_ λy y e=>e)
  rintro⟨⟨⟩,st'⟩ s' ⟨har,hf,rfl⟩;dsimp only;have hout:=kat_snds (vs:=vs) rfl har;refine UL (seqEpoch_at ho6 rfl ?_);rw[hout];refine UL (YS ho6 rfl ?_ (hsz2:=by rw[Vg,U6,Ww];have:=pl.length_eq;simp at this ⊢;lia))
  rw[hf];simp only[bne_self_eq_false,Bool.false_eq_true,if_false];exact UV fin
end
end LB
namespace L2
open PySem PySem.Spec PyProof.Rows LS LB
theorem qD:∀ {ns:List Int}{us:List Value},Vals (ns.map V.int) us->IntsAre us ns
 |[],_,.nil=>.nil
 |n::ns,_,.cons r t=>by obtain⟨k,rfl⟩:=r;exact .cons _ _ (qD t)
end L2
namespace LB
open PySem PySem.W PySem.Calls PyProof.Rows
end LB
namespace L2
open PySem PySem.Spec PyProof.Rows LS LB
end L2
namespace LA
open PySem LS
def pG(m:Nat)(p:SetTable.Probe):SetTable.Probe:=
 if p.more > 0 then { p with j:=p.j+1,more:=p.more-1 } else
 { p with j:=(SetTable.leap m p.i p.perturb).1,more:=SetTable.runEnd m (SetTable.leap m p.i p.perturb).1-(SetTable.leap m p.i p.perturb).1,i:=(SetTable.leap m p.i p.perturb).1,perturb:=(SetTable.leap m p.i p.perturb).2 }
def rs(m i q:Nat):SetTable.Probe:={ j:=i,more:=SetTable.runEnd m i-i,i:=i,perturb:=q,dummy:=none }
def st(m:Nat)(h:Int):SetTable.Probe:=rs m (SetTable.bits h%(m+1)) (SetTable.bits h)
def pr(m:Nat)(h:Int):Nat->SetTable.Probe
 |0=>st m h
 |n+1=>pG m (pr m h n)
def J(m:Nat)(h:Int)(n:Nat):Nat:=(pr m h n).j
theorem zb(m:Nat)(h:Int):∀ n,(pr m h n).dummy=none
 |0=>rfl
 |n+1=>by have ih:=zb m h n;show (pG m (pr m h n)).dummy=none;unfold pG;split<;>exact ih
def lp(m:Nat)(h:Int):Nat->Nat×Nat
 |0=>(SetTable.bits h%(m+1),SetTable.bits h)
 |n+1=>SetTable.leap m (lp m h n).1 (lp m h n).2
def QC(m i:Nat):SetTable.runEnd m i-i<=9:=by unfold SetTable.runEnd;split<;>lia
def zz(m i:Nat):i<=SetTable.runEnd m i:=by unfold SetTable.runEnd;split<;>lia
def zA(h:i<=m):SetTable.runEnd m i<=m:=by unfold SetTable.runEnd;split<;>lia
theorem pM(e:pr m h n=rs m i q):∀ k,k<=SetTable.runEnd m i - i->pr m h (n + k)={ rs m i q with j:=i + k,more:=SetTable.runEnd m i - i - k }
 |0,_=>e
 |k+1,hk=>by
   have ih:=pM e k (by lia)
   show pG m (pr m h (n+k))=_;rw[ih];unfold pG;rw[U5 (by show SetTable.runEnd m i-i-k > 0;lia)]
   show SetTable.Probe.mk _ _ _ _ _=SetTable.Probe.mk _ _ _ _ _;congr 1
def Jz(e:pr m h n=rs m i q):pr m h (n+(SetTable.runEnd m i-i)+1)=rs m (SetTable.leap m i q).1 (SetTable.leap m i q).2:=by
 have:=pM e _ (U0 _);show pG m (pr m h (n+(SetTable.runEnd m i-i)))=_;rw[this];unfold pG;rw[U8 (by show ¬ SetTable.runEnd m i-i-(SetTable.runEnd m i-i) > 0;lia)]
 rfl
def bg(m:Nat)(h:Int):Nat->Nat
 |0=>0
 |L+1=>bg m h L+(SetTable.runEnd m (lp m h L).1-(lp m h L).1)+1
theorem J8(m:Nat)(h:Int):∀L,pr m h (bg m h L)=rs m (lp m h L).1 (lp m h L).2
 |0=>rfl
 |L+1=>Jz (J8 m h L)
theorem J7(m:Nat)(h:Int):∀ L,bg m h L<=10 * L
 |0=>U0 _
 |L+1=>by
   have:=J7 m h L;have:=QC m (lp m h L).1;show bg m h L+(SetTable.runEnd m (lp m h L).1-(lp m h L).1)+1<=_
   lia
def wL(m:Nat)(h:Int)(L k:Nat)(hk:k<=SetTable.runEnd m (lp m h L).1-(lp m h L).1):J m h (bg m h L+k)=(lp m h L).1+k:=by unfold J;rw[pM (J8 m h L) k hk]
theorem O9(m:Nat)(h:Int):∀ L,(lp m h L).2=SetTable.bits h / 32 ^ L
 |0=>by simp[lp]
 |L+1=>by show (lp m h L).2 / 32=_;rw[O9 m h L,Nat.div_div_eq_div_mul,Nat.pow_succ]
def KD(h:Int):SetTable.bits h<2^64:=by
 unfold SetTable.bits;have a:=Int.emod_nonneg h (show (2^64:Int)≠0 by decide)
 have b:=Int.emod_lt_of_pos h (show (0:Int)<2^64 by decide)
 have e:((2^64:Int))=((2^64:Nat):Int):=by norm_cast
 lia
def Lk(m:Nat)(h:Int)(L:Nat):(lp m h (13+L)).2=0:=by
 rw[O9];refine Nat.div_eq_of_lt (Va (KD h) ?_);have:(32:Nat)^13<=32^(13+L):=VM (by decide) (by lia)
 exact Vp (by decide) this
def Fx(m:Nat):Nat->Nat->Nat
 |0,i=>i
 |k+1,i=>(Fx m k i*5+1)%(m+1)
theorem Gz(m:Nat)(h:Int):∀ k,(lp m h (13 + k)).1=Fx m k (lp m h 13).1
 |0=>rfl
 |k+1=>by show ((lp m h (13+k)).1*5+1+(lp m h (13+k)).2 / 32)%(m+1)=_;rw[Lk,Gz m h k];rfl
def Ka(m:Nat)(h:Int):∀L,(lp m h L).1<=m
 |0=>YK (W0 _ (by lia))
 |L+1=>YK (W0 _ (by lia))
def MK(m:Nat):Prop:=m=7\/m=31
def KH:∀{m:Nat},MK m->∀i s,i<=m->s<=m->∃k,k<=m/\Fx m k i=s:=by
 intro m hm i s hi hs;have c7:∀i:Fin 8,∀s:Fin 8,((List.range 8).any λk=>Fx 7 k i==s)=true:=by decide
 have c31:∀i:Fin 32,∀s:Fin 32,((List.range 32).any λk=>Fx 31 k i==s)=true:=by decide +kernel
 rcases hm with rfl | rfl
 ·have:=c7 ⟨i,by lia⟩ ⟨s,by lia⟩
  obtain⟨k,hk,e⟩:=X8.mp this;exact⟨k,by have:=Ve.mp hk;lia,by simpa using e⟩
 ·have:=c31 ⟨i,by lia⟩ ⟨s,by lia⟩
  obtain⟨k,hk,e⟩:=X8.mp this;exact⟨k,by have:=Ve.mp hk;lia,by simpa using e⟩
def Gy(hm:MK m)(h:Int)(hs:s<=m):∃L,L<m+15/\(lp m h L).1=s:=by obtain⟨k,hk,e⟩:=KH hm _ s (Ka m h 13) hs;exact⟨13+k,by lia,by rw[Gz];exact e⟩
def visit(hm:MK m)(h:Int)(hs:s<=m):∃n,n<10*(m+15)/\J m h n=s:=by
 obtain⟨L,hL,e⟩:=Gy hm h hs;refine⟨bg m h L,by have:=J7 m h L;lia,?_⟩
 have:=wL m h L 0 (Wo _);rw[Nat.add_zero,Nat.add_zero]at this;rw[this,e]
def yt{P:Nat->Prop}:∀ {n:Nat},P n->∃ k,k<=n/\P k/\∀ m,m<k->¬ P m:=by
 intro n;induction n using Nat.strongRecOn with
 | ind n ih=>
   intro h;by_cases c:∃m,m<n/\P m
   ·obtain⟨m,hm,hp⟩:=c;obtain⟨k,h1,h2,h3⟩:=ih m hm hp;exact⟨k,by lia,h2,h3⟩
   ·exact⟨n,U0 _,h,λm hm hp=>c ⟨m,hm,hp⟩⟩
def Ha:∀ (m:Nat) (l:List Nat),l.length<=m->∃ s,s<=m/\s∉l:=by
 intro m;induction m with
 |zero=>intro l hl;exact⟨0,U0 _,by have:l=[]:=Xy.mp (by lia);rw[this];simp⟩
 | succ m ih=>
   intro l hl;by_cases c:m+1∈l
   ·obtain⟨s,h1,h2⟩:=ih (l.erase (m+1)) (by rw[List.length_erase_of_mem c];lia)
    exact⟨s,by lia,λz=>h2 ((List.mem_erase_of_ne (by lia)).mpr z)⟩
   ·exact⟨m+1,U0 _,c⟩
def Ji{m:Nat}(hm:MK m)(h:Int){l:List Nat}(hl:l.length<=m):∃n,n<10*(m+15)/\J m h n∉l/\∀k,k<n->J m h k∈l:=by
 obtain⟨s,hs,ns⟩:=Ha m l hl;obtain⟨n,hn,e⟩:=visit hm h hs;obtain⟨k,h1,h2,h3⟩:=yt (P:=λn=>J m h n∉l) (n:=n) (by rw[e];exact ns)
 exact⟨k,by lia,h2,λi hi=>Classical.byContradiction λz=>h3 i hi z⟩
set_option tactic.hygienic true in
def Np:∀ n,J m h n<=m:=by
 have key:∀ n,(pr m h n).i<=m/\(pr m h n).j + (pr m h n).more<=m:=by
  intro n;induction n with
  |zero=>
    have a:SetTable.bits h%(m+1)<=m:=YK (W0 _ (by lia))
    have b:=zA a;have c:=zz m (SetTable.bits h%(m+1));exact⟨a,by show SetTable.bits h%(m+1)+(SetTable.runEnd m _-_)<=m;lia⟩
  | succ n ih=>
    show (pG m (pr m h n)).i<=m/\(pG m (pr m h n)).j+(pG m (pr m h n)).more<=m;unfold pG;split
    ·rename_i c;exact⟨ih.1,by show (pr m h n).j+1+((pr m h n).more-1)<=m;lia⟩
    ·have a:(SetTable.leap m (pr m h n).i (pr m h n).perturb).1<=m:=YK (W0 _ (by lia))
     have b:=zA a;have c:=zz m (SetTable.leap m (pr m h n).i (pr m h n).perturb).1;exact⟨a,by show (SetTable.leap m (pr m h n).i (pr m h n).perturb).1+(SetTable.runEnd m _-_)<=m;lia⟩
 intro n;have:=(key n).2;unfold J
 lia
end LA
namespace LA
open PySem LS PyProof.Rows
def HF(ti:TI L t)(h:j∈t.place.toList):∃i,t.slot j=.live i/\t.place[i]?=some j:=by
 obtain⟨k,hk,rfl⟩:=V8.mp h;have hk':k<t.place.size:=by simpa using hk
 have b:=below_at ti.ris hk';refine⟨k,?_,?_⟩
 ·unfold SetTable.slot;simp only[Array.getElem_toList];rw[b];simp[Array.getElem?_eq_getElem hk']
 ·simp[Array.getElem?_eq_getElem hk']
def zG(ti:TI L t)(h:j∉t.place.toList):t.slot j=.empty:=by
 unfold SetTable.slot;have n:¬ (t.place[SetTable.below t.place j]?==some j)=true:=λz=>by
  have z:t.place[SetTable.below t.place j]?=some j:=by simpa using z
  exact h (by have:=Array.mem_of_getElem? z;simpa using this)
 simp only[n];have:SetTable.has t.dummies j=false:=by rw[ti.dum];unfold SetTable.has;simp
 simp[this]
section
variable{L:Bool}{t:SetTable}{ha:Nat->Int}{h:Int}
theorem uV(ti:TI L t):∀ (k fuel n:Nat),k<=fuel->(∀ m,n<=m->m<n + k->∃ i,t.slot (J t.mask h m)=.live i/\ha i≠h)->SetTable.probe.go t ha h fuel (pr t.mask h n)=SetTable.probe.go t ha h (fuel - k) (pr t.mask h (n + k))
 |0,fuel,n,_,_=>rfl
 |k+1,0,n,hf,_=>by lia
 | k + 1,fuel + 1,n,hf,hs=>by
   obtain⟨i,h1,h2⟩:=hs n (U0 _) (by lia)
   have h1:t.slot (pr t.mask h n).j=.live i:=h1;have h3:(ha i==h)=false:=by simpa using h2
   have e:SetTable.probe.go t ha h (fuel+1) (pr t.mask h n)=SetTable.probe.go t ha h fuel (pr t.mask h (n+1)):=by
    show (match t.slot (pr t.mask h n).j with
     |.empty=>some (SetTable.Met.empty (pr t.mask h n).j (pr t.mask h n).dummy)
     |.dummy=>SetTable.probe.go t ha h fuel (t.advance { pr t.mask h n with dummy:=some (pr t.mask h n).j })
     |.live i=>if ha i==h then some (.candidate (pr t.mask h n).j i (t.advance (pr t.mask h n))) else SetTable.probe.go t ha h fuel (t.advance (pr t.mask h n)))=_
    rw[h1];dsimp only;rw[h3];rfl
   rw[e,uV ti k fuel (n+1) (by lia) λm h1 h2=>hs m (by lia) (by lia)]
   congr 1
   ·lia
   ·congr 1;lia
def Jo(ti:TI L t)(hf:k<fuel)(hs:∀ m,n<=m->m<n + k->∃ i,t.slot (J t.mask h m)=.live i/\ha i≠h)(he:J t.mask h (n + k)∉t.place.toList):SetTable.probe.go t ha h fuel (pr t.mask h n)=some (.empty (J t.mask h (n + k)) none):=by
 rw[uV ti k fuel n (by lia) hs]
 obtain⟨f,e⟩:∃f,fuel-k=f+1:=⟨fuel-k-1,by lia⟩
 rw[e];have h1:t.slot (pr t.mask h (n+k)).j=.empty:=zG ti he
 show (match t.slot (pr t.mask h (n + k)).j with
       |.empty=>some (SetTable.Met.empty (pr t.mask h (n+k)).j (pr t.mask h (n+k)).dummy)
       |.dummy=>_
       |.live i=>_)=_
 rw[h1];dsimp only;rw[zb];rfl
def La(ti:TI L t)(hf:k<fuel)(hs:∀ m,n<=m->m<n + k->∃ i,t.slot (J t.mask h m)=.live i/\ha i≠h)(he:t.slot (J t.mask h (n + k))=.live i)(hh:ha i=h):SetTable.probe.go t ha h fuel (pr t.mask h n)=some (.candidate (J t.mask h (n + k)) i (pr t.mask h (n + k + 1))):=by
 rw[uV ti k fuel n (by lia) hs]
 obtain⟨f,e⟩:∃f,fuel-k=f+1:=⟨fuel-k-1,by lia⟩
 rw[e];have h1:t.slot (pr t.mask h (n+k)).j=.live i:=he
 show (match t.slot (pr t.mask h (n + k)).j with
       |.empty=>_
       |.dummy=>_
       |.live i=>if ha i==h then some (SetTable.Met.candidate (pr t.mask h (n+k)).j i (t.advance (pr t.mask h (n+k)))) else _)=_
 rw[h1];dsimp only;rw[U5 (by simpa using hh)]
 rfl
end
abbrev iK(prog:Program)(w:World):=intKind prog w
def hT(prog:Program)(w:World)(k:List Int):Int:=tupleKeyHash (iK prog w) k
def ent(prog:Program)(w:World)(c:Addr×List Int):Int×Value:=(hT prog w c.2,.ref c.1)
structure TT(prog:Program)(w:World)(L:Bool)(t:SetTable)(cs:List (Addr×List Int)):Prop where
 ti:TI L t
 msk:MK t.mask
 len:t.place.size=cs.length
 bd:∀s∈t.place.toList,s<=t.mask
 fl:cs.length<=t.mask
 rc:∀z∈t.place.toList.zip cs,∃n,J t.mask (hT prog w z.2.2) n=z.1/\∀m,m<n->J t.mask (hT prog w z.2.2) m∈t.place.toList
 plain:t.plain=true
abbrev xH(prog:Program)(w:World)(h:Heap)(cs:List (Addr×List Int)):Prop:=∀c∈cs,IsTupleKey (iK prog w) h c.2 c.1
section
variable{prog:Program}{w:World}{A:Around}{E:Value->Shared->Prop}{s:Shared}{L:Bool}{t:SetTable}{cs:List (Addr×List Int)}{a:Addr}{ep:Nat}
def rT(ho:s.heap.get? b=some o)(hd:o.data=.seq items n)(q:Q (some items) s):wpAny (model prog w) A (seqItems? (.ref b)) Q E s:=by unfold seqItems?;refine UL (wpAny_load ho ?_);rw[hd];exact UV q
def items_int(h:ItemsAre (iK prog w) ks vs):∀ v∈vs,∃ i u,v=.int i u:=by
 induction h with
 |nil=>intro v hv;cases hv
 | cons h1 _ ih=>
   intro v hv;rcases Vf.mp hv with rfl | hv
   ·obtain⟨u,e⟩:=Ou h1;exact⟨_,u,e⟩
   ·exact ih v hv
def yS(hk:IsTupleKey (iK prog w) s.heap k b)(q:Q false s):wpAny (model prog w) A (ofAClassStatement 8 (.ref b)) Q E s:=by
 have hT:=hk.typeIs;obtain⟨o,items,n,ho,_,hd,hi⟩:=hk;have ii:=items_int hi;unfold ofAClassStatement;refine UL (XS hT ?_);dsimp only;refine UL (UV ?_);simp only[Bool.not_true,Bool.false_eq_true,if_false];refine UL (rT ho hd ?_);dsimp only;refine UL ?_;rw[<-Yv];refine wpAny_forIn_list _ (λrest r s'=>r=(none,())/\s'=s/\∀v∈rest,∃i u,v=.int i u) _ ?_ ?_ _ _ ⟨rfl,rfl,ii⟩
 ·rintro x rest r s' ⟨rfl,rfl,hall⟩;obtain⟨i,u,rfl⟩:=hall x Vm;refine UL (UV ?_);exact UV ⟨rfl,rfl,λv hv=>hall v (Vq _ hv)⟩
 ·rintro r s' ⟨rfl,rfl,_⟩;exact UV q
def Dw(hk:IsTupleKey (iK prog w) s.heap k b)(q:Q true s):wpAny (model prog w) A (hashByValue 8 (.ref b)) Q E s:=by
 have hT:=hk.typeIs;obtain⟨o,items,n,ho,_,hd,hi⟩:=hk;have ii:=items_int hi;unfold hashByValue;refine UL (wpAny_specialOf hT F.slot_tuple_hash.lookup ?_);dsimp only;refine UL (rT ho hd ?_);refine UL ?_;show wpAny _ _ (forIn items _ _) _ _ _;rw[<-Yv];refine wpAny_forIn_list _ (λrest r s'=>r=(none,())/\s'=s/\∀v∈rest,∃i u,v=.int i u) _ ?_ ?_ _ _ ⟨rfl,rfl,ii⟩
 ·rintro x rest r s' ⟨rfl,rfl,hall⟩;obtain⟨i,u,rfl⟩:=hall x Vm;refine UL (UV ?_);exact UV ⟨rfl,rfl,λv hv=>hall v (Vq _ hv)⟩
 ·rintro r s' ⟨rfl,rfl,_⟩;exact UV q
def JB(hk:IsTupleKey (iK prog w) s.heap k b)(hl:∀ v∈l,∃ b' k',v=.ref b'/\IsTupleKey (iK prog w) s.heap k' b')(q:Q false s):wpAny (model prog w) A (searchCouldBeSeen (.ref b) l) Q E s:=by
 unfold searchCouldBeSeen;refine UL ?_;refine wpAny_forIn_list _ (λrest r s'=>r=(none,())/\s'=s/\∀v∈rest,∃b' k',v=.ref b'/\IsTupleKey (iK prog w) s.heap k' b') _ ?_ ?_ _ _ ⟨rfl,rfl,hl⟩
 ·rintro x rest r s' ⟨rfl,rfl,hall⟩;obtain⟨b',k',rfl,hk'⟩:=hall x Vm;have nx:∀v∈rest,∃b' k',v=.ref b'/\IsTupleKey (iK prog w) s'.heap k' b':=λv hv=>hall v (Vq _ hv)
  dsimp only;split
  ·exact UV ⟨rfl,rfl,nx⟩
  ·refine UL (wpAny_eqIsQuiet_tuple hk ?_);simp only[Bool.not_true,Bool.false_eq_true,if_false];refine UL (wpAny_eqIsQuiet_tuple hk' ?_);simp only[Bool.not_true,Bool.false_eq_true,if_false];refine UL (yS hk ?_);simp only[Bool.false_eq_true,if_false];refine UL (yS hk' ?_);simp only[Bool.false_eq_true,if_false];exact UV ⟨rfl,rfl,nx⟩
 ·rintro r s' ⟨rfl,rfl,_⟩;exact UV q
end
abbrev bC(prog:Program)(w:World)(cs:List (Addr×List Int)):Array (Int×Value):=(cs.map (ent prog w)).toArray
section
variable{prog:Program}{w:World}{A:Around}{E:Value->Shared->Prop}{s:Shared}{L:Bool}{t:SetTable}{cs:List (Addr×List Int)}{a:Addr}{ep:Nat}
theorem TT.fits(T:TT prog w L t cs):t.fits (bC prog w cs).size=true:=by unfold SetTable.fits SetTable.fill;have h1:=T.len;have h2:=T.fl;have h3:=T.ti.dum;simp[h3,h1,h2]
def TT.led(T:TT prog w L t cs):t.gaveWay=false:=by unfold SetTable.gaveWay;rcases T.msk with e | e<;>rw[e]<;>rfl
def TT.at(T:TT prog w L t cs){i j:Nat}(h:t.place[i]?=some j):∃c,cs[i]?=some c/\(j,c)∈t.place.toList.zip cs:=by
 have hi:i<t.place.size:=(Ye.mp h).1;have hc:i<cs.length:=by rw[<-T.len];exact hi
 refine⟨cs[i],U3 hc,?_⟩;have e:t.place[i]=j:=by obtain⟨_,e⟩:=Ye.mp h;exact e
 have hz:i<(t.place.toList.zip cs).length:=by simp;lia
 have:(t.place.toList.zip cs)[i]=(j,cs[i]):=by simp[e]
 rw[<-this];exact V5 hz
theorem TT.slot(T:TT prog w L t cs){j:Nat}(h:j∈t.place.toList):∃i c,t.slot j=.live i/\cs[i]?=some c/\(j,c)∈t.place.toList.zip cs:=by obtain⟨i,h1,h2⟩:=HF T.ti h;obtain⟨c,h3,h4⟩:=T.at h2;exact⟨i,c,h1,h3,h4⟩
def TT.of_mem(T:TT prog w L t cs)(h:c∈cs):∃j,(j,c)∈t.place.toList.zip cs:=by
 obtain⟨i,hi,rfl⟩:=V8.mp h;have hp:i<t.place.size:=by rw[T.len];exact hi
 obtain⟨c',h1,h2⟩:=T.at (i:=i) (j:=t.place[i]) (Wg hp);rw[U3 hi]at h1;cases h1;exact⟨_,h2⟩
def TT.inj(T:TT prog w L t cs)(h1:(j,c)∈t.place.toList.zip cs)(h2:(j,c')∈t.place.toList.zip cs):c=c':=by
 obtain⟨i,hi,e⟩:=V8.mp h1;obtain⟨i',hi',e'⟩:=V8.mp h2;simp only[List.getElem_zip,Prod.mk.injEq]at e e';have l1:i<t.place.toList.length:=by simp at hi;simp;lia
 have l2:i'<t.place.toList.length:=by simp at hi';simp;lia
 have:i=i':=by
  have r:t.place.toList.Pairwise (·< ·):=T.ti.ris;rcases YJ i i' with c | c | c
  ·have:=W6.mp r i i' l1 l2 c;lia
  ·exact c
  ·have:=W6.mp r i' i l2 l1 c;lia
 subst this;exact e.2.symm.trans e'.2
def qL{i:Nat}(h:cs[i]?=some c):(bC prog w cs)[i]?=some (ent prog w c):=by simp[h]
def RK{i:Nat}(h:cs[i]?=some c):((bC prog w cs)[i]?.map (·.1)).getD 0=hT prog w c.2:=by rw[qL h];rfl
variable{b:Addr}{k:List Int}
set_option tactic.hygienic true in
theorem rR(hu:A.units<cLine)(ho:s.heap.get? a=some (cz (bC prog w cs) ep t))(T:TT prog w L t cs)(H:xH prog w s.heap cs)(hk:IsTupleKey (iK prog w) s.heap k b){N:Nat}(hN:N<10 * (t.mask + 15))(hN1:J t.mask (hT prog w k) N∉t.place.toList)(hN2:∀ m,m<N->J t.mask (hT prog w k) m∈t.place.toList)
  {Q:SetFound->Shared->Prop} (q1:k∈cs.map (·.2)->Q (.there none) s) (q2:k∉cs.map (·.2)->Q (.free (J t.mask (hT prog w k) N) false) s) :
  ∀(fuel n:Nat) (sd:Option SetTable.Probe),sd.getD (t.probeStart (hT prog w k))=pr t.mask (hT prog w k) n->n≤N->N-n<fuel->(∀m,m<n->∀c,(J t.mask (hT prog w k) m,c)∈t.place.toList.zip cs->c.2≠k)->
    wpAny (model prog w) A (setSearchFrom a (.ref b) (hT prog w k) true fuel sd) Q E s
 |0,n,sd,_,_,hf,_=>by lia
 | fuel + 1,n,sd,hs,hn,hf,hne=>by
   unfold setSearchFrom;refine UL (Wk ho rfl T.fits ?_);dsimp only;rw[T.led];simp only[Bool.false_eq_true,if_false];rw[hs]
   -- the next place that is empty or has the same hash
   obtain⟨m,hm1,hm2,hm3⟩:=yt (P:=λd=>n+d=N\/∃i,t.slot (J t.mask (hT prog w k) (n+d))=.live i/\(((bC prog w cs)[i]?.map (·.1)).getD 0)=hT prog w k) (n:=N-n) (.inl (by lia))
   have nmN:n+m<=N:=by clear hm2 hm3;lia
   have skip:∀d,n<=d->d<n+m->∃i,t.slot (J t.mask (hT prog w k) d)=.live i/\(((bC prog w cs)[i]?.map (·.1)).getD 0)≠hT prog w k:=λd h1 h2=>by
    have nn:=hm3 (d-n) (by clear hm2 hm3;lia)
    rw[show n+(d-n)=d by lia]at nn
    obtain⟨i,c,e1,_,_⟩:=T.slot (hN2 d (Va h2 nmN));exact⟨i,e1,λz=>nn (.inr ⟨i,e1,z⟩)⟩
   have nomatch':∀d,d<n+m->∀c,(J t.mask (hT prog w k) d,c)∈t.place.toList.zip cs->c.2≠k:=λd h1 c hc=>by
    by_cases z:d<n
    ·exact hne d z c hc
    ·obtain⟨i,e1,e2⟩:=skip d (Nat.le_of_not_lt z) h1;obtain⟨i',c',e1',e3,e4⟩:=T.slot (hN2 d (Va h1 nmN));rw[e1]at e1';cases e1';have:=T.inj hc e4;subst this;rw[RK e3]at e2;exact λz=>e2 (by rw[z])
   rcases hm2 with hm2 | ⟨i,hi,hh⟩
   ·have pg:t.probe (λi=>((bC prog w cs)[i]?.map (·.1)).getD 0) (hT prog w k) (pr t.mask (hT prog w k) n)=some (.empty (J t.mask (hT prog w k) (n + m)) none):=Jo T.ti (by show m<10 * (t.mask + 15);lia) skip (by rw [hm2];exact hN1)
    rw[hm2]at pg;generalize hpg:SetTable.probe t _ (hT prog w k) (pr t.mask (hT prog w k) n)=X;obtain rfl:X=some (.empty (J t.mask (hT prog w k) N) none):=hpg.symm.trans pg;refine UV (q2 λz=>?_)
    obtain⟨c,hc,e⟩:=Vy.mp z;obtain⟨j,hj⟩:=T.of_mem hc;obtain⟨n0,e0,h0⟩:=T.rc _ hj;dsimp only at e0 h0;rw[e]at e0 h0;have lt:n0<N:=by
     rcases Nat.lt_or_ge n0 N with x | x
     ·exact x
     ·exfalso
      rcases Nat.lt_or_eq_of_le x with y | y
      ·exact hN1 (h0 N y)
      ·subst y;have:j∈t.place.toList:=(Xl hj).1;rw[<-e0]at this;exact hN1 this
    exact nomatch' n0 (by rw[hm2];exact lt) c (by rw[e0];exact hj) e
   ·have hi':=hi;have iN:n+m<N:=by
     rcases Nat.lt_or_eq_of_le nmN with x | x
     ·exact x
     ·rw[x,zG T.ti hN1]at hi;cases hi
    obtain⟨i',c,e1,e3,e4⟩:=T.slot (hN2 (n+m) iN);rw[hi]at e1;cases e1;have pg:t.probe (λi=>((bC prog w cs)[i]?.map (·.1)).getD 0) (hT prog w k) (pr t.mask (hT prog w k) n)=some (.candidate (J t.mask (hT prog w k) (n+m)) i (pr t.mask (hT prog w k) (n+m+1))):=La T.ti (by show m<10*(t.mask+15);clear hm3;lia) skip hi hh
    generalize hpg:SetTable.probe t _ (hT prog w k) (pr t.mask (hT prog w k) n)=X;obtain rfl:X=some (.candidate (J t.mask (hT prog w k) (n+m)) i (pr t.mask (hT prog w k) (n+m+1))):=hpg.symm.trans pg;dsimp only;have hc:IsTupleKey (iK prog w) s.heap c.2 c.1:=H c (Xl e4).2;have hl:∀v∈((bC prog w cs).filter (λx=>x.1==hT prog w k)).toList.map (·.2),∃b' k',v=.ref b'/\IsTupleKey (iK prog w) s.heap k' b':=λv hv=>by
     obtain⟨e,he,rfl⟩:=Vy.mp hv;have he:e∈(bC prog w cs).toList:=by have:=Array.mem_toList_iff.mp he;exact Array.mem_toList_iff.mpr (Array.mem_filter.mp this).1
     have he:e∈cs.map (ent prog w):=he;obtain⟨c,hc,rfl⟩:=Vy.mp he;exact⟨c.1,c.2,rfl,H c hc⟩
    have sm:t.sameMemory t.moves t.mask=some true:=by simp[SetTable.sameMemory]
    have rec':=rR hu ho T H hk hN hN1 hN2 q1 q2 fuel (n+m+1) (some (pr t.mask (hT prog w k) (n+m+1))) rfl (by lia) (by clear hm3;lia)
    have mem:c.2=k->k∈cs.map (·.2):=λz=>Vy.mpr ⟨c,(Xl e4).2,z⟩
    split
    ·refine UL (JB hk hl ?_);simp only[Bool.false_eq_true,if_false];rw[qL e3];dsimp only[ent];refine UL (VR (wpAny_eqBool_tuple hu hc hk ?_));refine UL (Wk ho rfl T.fits ?_);dsimp only;by_cases ek:c.2=k
     ·rw[Vh ek];exact UV (q1 (mem ek))
     ·rw[Vz ek];simp only[Bool.and_false,Bool.false_eq_true,if_false];rw[sm];dsimp only;rw[U5 rfl,hi];dsimp only;rw[qL e3];dsimp only[ent];refine UL (wpAny_isSame_ref_self ?_);refine UL (UV ?_);refine rec' λd hd c' hc'=>?_
      by_cases z:d=n+m
      ·subst z;have:=T.inj hc' e4;rw[this];exact ek
      ·exact nomatch' d (by lia) c' hc'
    ·rw [qL e3];dsimp only[ent];refine UL (VR (wpAny_eqBool_tuple hu hc hk ?_));refine UL (Wk ho rfl T.fits ?_);dsimp only;by_cases ek:c.2=k
     ·rw[Vh ek];exact UV (q1 (mem ek))
     ·rw[Vz ek];simp only[Bool.and_false,Bool.false_eq_true,if_false];rw[sm];dsimp only;rw[U5 rfl,hi];dsimp only;rw[qL e3];dsimp only[ent];refine UL (wpAny_isSame_ref_self ?_);refine UL (UV ?_);refine rec' λd hd c' hc'=>?_
      by_cases z:d=n+m
      ·subst z;have:=T.inj hc' e4;rw[this];exact ek
      ·exact nomatch' d (by lia) c' hc'
def Ef(hu:A.units<cLine)(ho:s.heap.get? a=some (cz (bC prog w cs) ep t))(T:TT prog w L t cs)(H:xH prog w s.heap cs)(hk:IsTupleKey (iK prog w) s.heap k b)(q1:k∈cs.map (·.2)->Q (.there none) s)(q2:k∉cs.map (·.2)->∀n,J t.mask (hT prog w k) n∉t.place.toList->(∀m,m<n->J t.mask (hT prog w k) m∈t.place.toList)->Q (.free (J t.mask (hT prog w k) n) false) s):
  wpAny (model prog w) A (setSearch a (.ref b) (hT prog w k) true) Q E s:=by
 obtain⟨N,h1,h2,h3⟩:=Ji T.msk (hT prog w k) (l:=t.place.toList) (by rw[Xe,T.len];exact T.fl)
 unfold setSearch;refine rR hu ho T H hk h1 h2 h3 q1 (λz=>q2 z N h2 h3) 100000 0 none rfl (Wo _) ?_ (λm h=>by lia)
 rcases T.msk with e | e<;>rw[e]at h1<;>lia
end
def NF(t:SetTable)(cs:List (Addr×List Int)):Prop:=cs.length*5<t.mask*3
def lV(cs:List (Addr×List Int))(p:Nat)(c:Addr×List Int):List (Addr×List Int):=cs.take p++c::cs.drop p
def pN(cs:List (Addr×List Int))(p:Nat)(c:Addr×List Int):(lV cs p c).Perm (cs++[c]):=by unfold lV;refine List.perm_middle.trans ?_;rw[X4];exact (List.perm_append_singleton c cs).symm
section
variable{prog:Program}{w:World}{L:Bool}{t:SetTable}{cs:List (Addr×List Int)}{b:Addr}{k:List Int}
def Oa(p:Nat):SetTable.insertAt (bC prog w cs) p (hT prog w k,.ref b)=bC prog w (lV cs p (b,k)):=by apply Array.toList_inj.mp;rw[Yt];simp[lV,ent,List.map_take,List.map_drop]
def PQ(ti:TI L t)(hj:j∉t.place.toList):t.put j=({ t with place:=SetTable.insertAt t.place (SetTable.below t.place j) j },SetTable.below t.place j):=by
 unfold SetTable.put;have:SetTable.has t.dummies j=false:=by rw[ti.dum];unfold SetTable.has;simp
 rw[this];rfl
def TT.put(T:TT prog w L t cs)(nf:NF t cs)(h1:J t.mask (hT prog w k) n∉t.place.toList)(h2:∀ m,m<n->J t.mask (hT prog w k) m∈t.place.toList):
  TT prog w L { t with place:=SetTable.insertAt t.place (SetTable.below t.place (J t.mask (hT prog w k) n)) (J t.mask (hT prog w k) n) } (lV cs (SetTable.below t.place (J t.mask (hT prog w k) n)) (b,k)):=by
 have bel:=(iH T.ti.ris (J t.mask (hT prog w k) n)).le;have ris:=Dl T.ti.ris h1;have jl:J t.mask (hT prog w k) n<=t.mask:=Np n;generalize hj:J t.mask (hT prog w k) n=j at h1 bel ris jl;generalize SetTable.below t.place j=p at bel ris;have tl:(SetTable.insertAt t.place p j).toList=t.place.toList.take p++j::t.place.toList.drop p:=Yt _ _ _;have sub:∀x∈t.place.toList,x∈(SetTable.insertAt t.place p j).toList:=λx hx=>by
  rw[tl,Vd,Vf];rw[<-X4 p t.place.toList,Vd]at hx;rcases hx with h | h
  ·exact .inl h
  ·exact .inr (.inr h)
 have len:=T.len;have fl:=T.fl;refine⟨⟨ris,T.ti.dum,T.ti.led⟩,T.msk,?_,?_,?_,?_,T.plain⟩
 ·show (SetTable.insertAt t.place p j).size=_;rw[<-Xe,tl,(pN cs p (b,k)).length_eq];simp
  lia
 ·intro x hx;have hx:x∈t.place.toList.take p++j::t.place.toList.drop p:=tl ▸ hx;rcases Vd.mp hx with h | h
  ·exact T.bd x (Xp h)
  ·rcases Vf.mp h with rfl | h
   ·exact jl
   ·exact T.bd x (WL h)
 ·rw[(pN cs p (b,k)).length_eq];unfold NF at nf;have:=T.msk;unfold MK at this;simp;show cs.length+1<=t.mask
  lia
 ·intro z hz;have ez:(SetTable.insertAt t.place p j).toList.zip (lV cs p (b,k))=(t.place.toList.zip cs).take p++(j,(b,k))::(t.place.toList.zip cs).drop p:=by
   rw[tl];unfold lV;have t1:(t.place.toList.take p).zip (cs.take p)=(t.place.toList.zip cs).take p:=by unfold List.zip;rw[List.take_zipWith]
   have t2:(t.place.toList.drop p).zip (cs.drop p)=(t.place.toList.zip cs).drop p:=by unfold List.zip;rw[List.drop_zipWith]
   rw[List.zip_append (by simp;lia),W5,t1,t2]
  have hz:z∈(t.place.toList.zip cs).take p++(j,(b,k))::(t.place.toList.zip cs).drop p:=ez ▸ hz;have old:z∈t.place.toList.zip cs->∃n,J t.mask (hT prog w z.2.2) n=z.1/\∀m,m<n->J t.mask (hT prog w z.2.2) m∈(SetTable.insertAt t.place p j).toList:=λh=>by obtain⟨n,e1,e2⟩:=T.rc z h;exact⟨n,e1,λm hm=>sub _ (e2 m hm)⟩
  rcases Vd.mp hz with h | h
  ·exact old (Xp h)
  ·rcases Vf.mp h with rfl | h
   ·exact⟨n,hj,λm hm=>sub _ (h2 m hm)⟩
   ·exact old (WL h)
end
structure Ow(m:Nat)(hs:List Int)(sl:List Nat)(ow:Array (Option Nat)):Prop where
 sz:ow.size=m+1
 len:sl.length=hs.length
 nd:sl.Nodup
 le:∀s∈sl,s<=m
 own:∀(k:Nat) (hk:k<sl.length),ow[sl[k]]?=some (some k)
 non:∀j,j<=m->j∉sl->ow[j]?=some none
 rc:∀(k:Nat) (hk:k<sl.length) (h:Int),hs[k]?=some h->∃n,J m h n=sl[k]/\∀i,i<n->J m h i∈sl
theorem Ow.isNone(o:Ow m hs sl ow)(hj:j<=m):(ow.getD j (some 0)).isNone=decide (j∉sl):=by
 by_cases c:j∈sl
 ·obtain⟨k,hk,rfl⟩:=V8.mp c;rw[V0,o.own k hk];simp
 ·rw[V0,o.non j hj c];simp[c]
theorem Bf(o:Ow m hs sl ow)(h:Int)(hL0:(lp m h L0).1∉sl):∀ (fuel L:Nat),L<=L0->L0<L + fuel->(∀ i,i<bg m h L->J m h i∈sl)->
  ∃n,SetTable.layClean.free m ow fuel (lp m h L).1 (lp m h L).2=some (J m h n)/\J m h n∉sl/\∀i,i<n->J m h i∈sl
 |0,L,h1,h2,_=>by lia
 | fuel + 1,L,h1,h2,hb=>by
   have il:=Ka m h L;have rg:=zz m (lp m h L).1;have ri:=zA il;unfold SetTable.layClean.free;cases hf:(List.range (SetTable.runEnd m (lp m h L).1+1-(lp m h L).1)).find? (λk=>(ow.getD ((lp m h L).1+k) (some 0)).isNone) with
   | some k=>
     dsimp only;obtain⟨p1,as,bs,e1,e2⟩:=List.find?_eq_some_iff_append.mp hf;have hk:k<SetTable.runEnd m (lp m h L).1+1-(lp m h L).1:=Ve.mp (by rw[e1];simp)
     have hJ:=wL m h L k (by lia)
     have la:as.length=k/\∀i,i<k->i∈as:=by
      have hk2:(List.range (SetTable.runEnd m (lp m h L).1+1-(lp m h L).1))[as.length]?=some k:=by rw[e1];simp
      have al:as.length<SetTable.runEnd m (lp m h L).1+1-(lp m h L).1:=by
       have:=congrArg List.length e1;simp at this
       lia
      rw[Wh al]at hk2;have ek:as.length=k:=by simpa using hk2
      refine⟨ek,λi hi=>?_⟩
      have:(List.range (SetTable.runEnd m (lp m h L).1+1-(lp m h L).1))[i]?=as[i]?:=by rw[e1,Vb (by lia)]
      rw[Wh (by lia)]at this
      exact Vo this.symm
     refine⟨bg m h L+k,by rw[hJ],?_,λi hi=>?_⟩
     ·rw[hJ];rw[o.isNone (by lia)]at p1
      simpa using p1
     ·by_cases c:i<bg m h L
      ·exact hb i c
      ·have:=e2 (i-bg m h L) (la.2 _ (by lia))
       rw[o.isNone (by lia)]at this
       have hJ2:=wL m h L (i-bg m h L) (by lia)
       rw[show bg m h L+(i-bg m h L)=i by lia]at hJ2
       rw[hJ2];simpa using this
   | none=>
     dsimp only;have all:∀k,k<=SetTable.runEnd m (lp m h L).1-(lp m h L).1->(lp m h L).1+k∈sl:=λk hk=>by
      have:=List.find?_eq_none.mp hf k (Ve.mpr (by lia))
      rw[o.isNone (by lia)]at this
      simpa using this
     have ne:L≠L0:=λz=>by subst z;have:=all 0 (Wo _);exact hL0 this
     have ih:=Bf o h hL0 fuel (L+1) (by lia) (by lia) λi hi=>by
      by_cases c:i<bg m h L
      ·exact hb i c
      ·have hi:i<bg m h L+(SetTable.runEnd m (lp m h L).1-(lp m h L).1)+1:=hi;have hJ2:=wL m h L (i-bg m h L) (by lia)
       rw[show bg m h L+(i-bg m h L)=i by lia]at hJ2
       rw[hJ2];exact all _ (by lia)
     exact ih
def Ow.zero(m:Nat):Ow m [] [] (Array.replicate (m+1) none):=⟨by simp,rfl,List.nodup_nil,λs h=>(by cases h),λk h=>(by cases h),λj hj z=>by rw[Array.getElem?_replicate,U5 (by lia)],λk h=>(by cases h)⟩
def Ow.add(o:Ow m hs sl ow)(h1:J m h n∉sl)(h2:∀ i,i<n->J m h i∈sl):Ow m (hs++[h]) (sl++[J m h n]) (ow.setIfInBounds (J m h n) (some hs.length)):=by
 have jl:J m h n<=m:=Np n;have jb:J m h n<ow.size:=by rw[o.sz];lia
 have len:=o.len;refine⟨by simp[o.sz],by simp[o.len],?_,λs hs'=>?_,λk hk=>?_,λj hj nj=>?_,λk hk h' eh=>?_⟩
 ·rw[XJ];exact⟨o.nd,by simp,λa ha b hb=>by simp at hb;subst hb;exact λz=>h1 (z ▸ ha)⟩
 ·rcases Vd.mp hs' with z | z
  ·exact o.le s z
  ·simp at z;lia
 ·by_cases c:k<sl.length
  ·have e:(sl++[J m h n])[k]=sl[k]:=List.getElem_append_left c;have ne:J m h n≠sl[k]:=λz=>h1 (z ▸ V5 c)
   rw[e,Array.getElem?_setIfInBounds_ne ne];exact o.own k c
  ·have ek:k=sl.length:=by simp at hk;lia
   subst ek;have e:(sl++[J m h n])[sl.length]=J m h n:=by simp
   rw[e,Array.getElem?_setIfInBounds_self_of_lt jb,o.len]
 ·rw[Vd,not_or]at nj;rw[Array.getElem?_setIfInBounds_ne (λz=>nj.2 (by simp[z]))]
  exact o.non j hj nj.1
 ·by_cases c:k<sl.length
  ·have e:(sl++[J m h n])[k]=sl[k]:=List.getElem_append_left c;rw[e];rw[Vb (by lia)]at eh
   obtain⟨n',e1,e2⟩:=o.rc k c h' eh;exact⟨n',e1,λi hi=>Wu _ (e2 i hi)⟩
  ·have ek:k=sl.length:=by simp at hk;lia
   subst ek;have e:(sl++[J m h n])[sl.length]=J m h n:=by simp
   rw[e];rw[o.len,List.getElem?_concat_length]at eh;cases eh;exact⟨n,rfl,λi hi=>Wu _ (h2 i hi)⟩
def nu(m:Nat)(acc:Option (Array (Option Nat)×Nat))(h:Int):Option (Array (Option Nat)×Nat):=acc.bind λp=>(SetTable.layClean.free m p.1 (SetTable.turns m) (SetTable.bits h%(m+1)) (SetTable.bits h)).bind λj=>some (p.1.setIfInBounds j (some p.2),p.2+1)
theorem yJ(hm:MK m):∀ (rest hs:List Int) (sl:List Nat) (ow:Array (Option Nat)),Ow m hs sl ow->hs.length + rest.length<=m->∃ sl' ow',rest.foldl (nu m) (some (ow,hs.length))=some (ow',(hs++rest).length)/\Ow m (hs++rest) sl' ow'
 |[],hs,sl,ow,o,_=>⟨sl,ow,by simp,by simpa using o⟩
 | h::rest,hs,sl,ow,o,hl=>by
   obtain⟨s,h1,h2⟩:=Ha m sl (by rw[o.len];simp at hl;lia)
   obtain⟨L0,h3,h4⟩:=Gy hm h h1;obtain⟨n,e,n1,n2⟩:=Bf o h (L0:=L0) (by rw[h4];exact h2) (SetTable.turns m) 0 (Wo _) (by unfold SetTable.turns;lia) (λi hi=>by cases hi)
   have e:SetTable.layClean.free m ow (SetTable.turns m) (SetTable.bits h%(m+1)) (SetTable.bits h)=some (J m h n):=e;have o':=o.add n1 n2;obtain⟨sl',ow',e2,o2⟩:=yJ hm rest (hs++[h]) _ _ o' (by simp at hl ⊢;lia)
   refine⟨sl',ow',?_,by simpa using o2⟩
   rw[Y9];have es:nu m (some (ow,hs.length)) h=some (ow.setIfInBounds (J m h n) (some hs.length),(hs++[h]).length):=by unfold nu;rw[Option.bind_some,e,Option.bind_some];simp
   rw[es,e2];simp
def O2(hm:MK m)(hl:hs.length<=m):∃sl ow,SetTable.layClean m hs.toArray=some ow/\Ow m hs sl ow:=by
 obtain⟨sl,ow,e,o⟩:=yJ hm hs [] [] _ (Ow.zero m) (by simpa using hl)
 refine⟨sl,ow,?_,by simpa using o⟩
 have key:∀(l:List Int) (x:Option (Array (Option Nat)×Nat)),List.foldl (λacc h=>do
  let (owner,k) <-acc
  let j <-SetTable.layClean.free m owner (SetTable.turns m) (SetTable.bits h%(m+1)) (SetTable.bits h)
  pure (owner.setIfInBounds j (some k),k+1)) x l=l.foldl (nu m) x:=by
  intro l;induction l with
  |nil=>intro x;rfl
  |cons a l ih=>intro x;exact ih _
 unfold SetTable.layClean;rw[List.foldl_toArray];have:=key hs (some (Array.replicate (m+1) none,0));have e:hs.foldl (nu m) (some (Array.replicate (m+1) none,0))=some (ow,hs.length):=by simpa using e
 exact (congrArg (Option.map (·.1)) (this.trans e))
def bx(m:Nat)(ow:Array (Option Nat)):List (Nat×Nat):=(List.range (m+1)).filterMap λj=>(ow.getD j none).map (j,·)
def Jv(m:Nat)(ow:Array (Option Nat)):(bx m ow).Pairwise λa b=>a.1<b.1:=by
 unfold bx;refine List.Pairwise.filterMap (R:=λ(a b:Nat)=>a<b) _ (λa b hab x hx y hy=>?_) YQ
 obtain⟨_,_,rfl⟩:=U4.mp hx;obtain⟨_,_,rfl⟩:=U4.mp hy;exact hab
def dW(o:Ow m hs sl ow):(j,k)∈bx m ow ↔ sl[k]?=some j:=by
 unfold bx;rw[List.mem_filterMap];constructor
 ·rintro⟨j',hj',e⟩;obtain⟨k',e1,e2⟩:=U4.mp e;cases e2;have hj':=Ve.mp hj';by_cases c:j∈sl
  ·obtain⟨i,hi,rfl⟩:=V8.mp c;have:=o.own i hi;rw[V0,this]at e1;have:i=k:=by simpa using e1
   subst this;exact U3 hi
  ·have:=o.non j (by lia) c
   rw[V0,this]at e1;cases e1
 ·intro e;obtain⟨hk,rfl⟩:=UW.mp e;refine⟨sl[k],Ve.mpr (by have:=o.le _ (V5 hk);lia),?_⟩
  rw[V0,o.own k hk];rfl
def Gs(o:Ow m hs sl ow):((bx m ow).map (·.2)).Perm (List.range hs.length):=by
 have nd:((bx m ow).map (·.2)).Nodup:=by
  rw[List.Nodup,Zg];refine List.Pairwise.imp_of_mem ?_ (Jv m ow);rintro⟨j,k⟩ ⟨j',k'⟩ h1 h2 lt e;dsimp only at lt e;subst e;have a:=(dW o).mp h1;have b:=(dW o).mp h2;rw[a]at b;cases b
  lia
 refine (List.perm_ext_iff_of_nodup nd List.nodup_range).mpr λk=>?_
 rw[Ve,<-o.len,Vy];constructor
 ·rintro⟨⟨j,k'⟩,h,rfl⟩;exact (UW.mp ((dW o).mp h)).1
 ·intro hk;exact⟨(sl[k],k),(dW o).mpr (U3 hk),rfl⟩
section
variable{prog:Program}{w:World}{A:Around}{E:Value->Shared->Prop}{s:Shared}{L:Bool}{t:SetTable}{cs:List (Addr×List Int)}{a b:Addr}{k:List Int}
def jY(cs:List (Addr×List Int))(m:Nat)(ow:Array (Option Nat)):List (Addr×List Int):=(bx m ow).map λz=>cs.getD z.2 (0,[])
def Hs(o:Ow m hs sl ow)(hl:hs.length=cs.length):(jY cs m ow).Perm cs:=by
 have:=(Gs o).map λi=>cs.getD i (0,[])
 unfold jY;rw[VP]at this;refine this.trans ?_;rw[hl];have e:(List.range cs.length).map (λi=>cs.getD i (0,[]))=cs:=by
  apply Zh
  ·simp
  ·intro i h1 h2;simp at h1 ⊢
   rw[U3 h1];rfl
 rw[e]
def Bo(o:Ow m hs sl ow)(h:z∈bx m ow):z.2<hs.length:=by
 have:=(UW.mp ((dW o).mp (show (z.1,z.2)∈bx m ow from h))).1
 rw[o.len]at this;exact this
def Ht(hm:MK m)(T:TT prog w L t cs)(hl:cs.length * 5<m * 3):∃ ow,SetTable.laid m t.finger (t.movedTo m) t.led t.plain ((bC prog w cs).map (·.1))=some ({ mask:=m,place:=((bx m ow).map (·.1)).toArray,dummies:=#[],finger:=t.finger,led:=t.led,moves:=t.movedTo m,plain:=t.plain },((bx m ow).map (·.2)).toArray) /\
  TT prog w L { mask:=m,place:=((bx m ow).map (·.1)).toArray,dummies:=#[],finger:=t.finger,led:=t.led,moves:=t.movedTo m,plain:=t.plain } (jY cs m ow)/\(jY cs m ow).Perm cs/\((bx m ow).map (·.2)).toArray.filterMap ((bC prog w cs)[·]?)=bC prog w (jY cs m ow):=by
 have eh:(bC prog w cs).map (·.1)=(cs.map λc=>hT prog w c.2).toArray:=by simp[ent,Function.comp_def]
 obtain⟨sl,ow,e,o⟩:=O2 hm (hs:=cs.map λc=>hT prog w c.2) (by simp;lia)
 have la:SetTable.laid m t.finger (t.movedTo m) t.led t.plain ((bC prog w cs).map (·.1))=some ({ mask:=m,place:=((bx m ow).map (·.1)).toArray,dummies:=#[],finger:=t.finger,led:=t.led,moves:=t.movedTo m,plain:=t.plain },((bx m ow).map (·.2)).toArray):=by rw[eh];unfold SetTable.laid;rw[e];rfl
 have hlen:(cs.map λc=>hT prog w c.2).length=cs.length:=by simp
 have pm:=Hs (cs:=cs) o hlen;refine⟨ow,la,⟨?_,hm,?_,?_,?_,?_,T.plain⟩,pm,?_⟩
 ·have:=Lf la;rw[T.ti.led]at this;refine⟨this.ris,rfl,T.ti.led⟩
 ·simp[jY]
 ·intro s hs;obtain⟨z,hz,rfl⟩:=Vy.mp (show s∈(bx m ow).map (·.1) by simpa using hs)
  have:=(dW o).mp (show (z.1,z.2)∈bx m ow from hz)
  exact o.le _ (Vo this)
 ·rw[pm.length_eq];show cs.length<=m
  lia
 ·intro z hz;have ez:(((bx m ow).map (·.1)).toArray.toList).zip (jY cs m ow)=(bx m ow).map λz=>(z.1,cs.getD z.2 (0,[])):=by unfold jY;rw[List.zip_map']
  have hz:z∈(bx m ow).map λz=>(z.1,cs.getD z.2 (0,[])):=ez ▸ hz
  obtain⟨y,hy,rfl⟩:=Vy.mp hz;have hy':=(dW o).mp (show (y.1,y.2)∈bx m ow from hy)
  have yl:=Bo o hy;rw[hlen]at yl;obtain⟨hk,ek⟩:=UW.mp hy';obtain⟨n,e1,e2⟩:=o.rc y.2 hk (hT prog w (cs[y.2]).2) (by rw[Vl,U3 yl];rfl)
  have eg:cs.getD y.2 (0,[])=cs[y.2]:=by simp[yl]
  refine⟨n,?_,λi hi=>?_⟩
  ·show J m (hT prog w (cs.getD y.2 (0,[])).2) n=y.1;rw[eg,e1,ek]
  ·show J m (hT prog w (cs.getD y.2 (0,[])).2) i∈_;rw[eg];obtain⟨q,hq,eq⟩:=V8.mp (e2 i hi);have:(sl[q],q)∈bx m ow:=(dW o).mpr (U3 hq);show J m (hT prog w (cs[y.2]).2) i∈((bx m ow).map (·.1)).toArray.toList;rw[<-eq];exact Vy.mpr ⟨_,this,rfl⟩
 ·apply Array.toList_inj.mp;rw[Array.toList_filterMap];show List.filterMap _ ((bx m ow).map (·.2))=(jY cs m ow).map (ent prog w);unfold jY;rw[List.filterMap_map,VP];have:∀ l:List (Nat×Nat),(∀ z∈l,z.2<cs.length)->List.filterMap ((λx=>(bC prog w cs)[x]?) ∘ λz:Nat×Nat=>z.2) l=l.map (ent prog w ∘ λz=>cs.getD z.2 (0,[])):=by
   intro l;induction l with
   |nil=>intro _;rfl
   | cons z l ih=>
     intro h;have hz:=h z Vm;rw[Vt,WW];have e:((λx=>(bC prog w cs)[x]?) ∘ λz:Nat×Nat=>z.2) z=some (ent prog w (cs.getD z.2 (0,[]))):=by show (bC prog w cs)[z.2]?=_;rw[qL (U3 hz)];simp[hz]
     rw[e,ih λy hy=>h y (Vq _ hy)]
     rfl
  exact this _ λz hz=>by have:=Bo o hz;rw[hlen]at this;exact this
def SetT(prog:Program)(w:World)(L:Bool)(h:Heap)(a:Addr)(cs:List (Addr×List Int)):Prop:=∃cs' ep t,cs'.Perm cs/\h.get? a=some (cz (bC prog w cs') ep t)/\TT prog w L t cs'/\NF t cs'
def Be(h:cs.length<=18):(bC prog w cs).size<=sizeLine:=by rw[Ww];simp;lia
def Ky(hu:A.units<cLine)(hS:SetT prog w L s.heap a cs)(H:xH prog w s.heap cs)(hk:IsTupleKey (iK prog w) s.heap k b)(room:cs.length + 1<=18)
  (h:∀h' r,Heap.SameBut a s.heap h'->SetT prog w L h' a (if k∈cs.map (·.2) then cs else cs++[(b,k)])->Q r { s with heap:=h' }):wpAny (model prog w) A (setAddHashed a (.ref b) (hT prog w k)) Q E s:=by
 obtain⟨cs',ep,t,pm,ho,T,nf⟩:=hS;have H':xH prog w s.heap cs':=λc hc=>H c (pm.mem_iff.mp hc)
 have pl:=pm.length_eq;unfold setAddHashed;refine VR ?_;unfold setAddHashedIn;refine UL (Wk ho rfl T.fits ?_);dsimp only;have bs:byScan (.ref b) (bC prog w cs')=false:=rfl;rw[bs];simp only[Bool.false_eq_true,if_false];refine UL (Ef hu ho T H' hk (λm=>?_) λm n n1 n2=>?_)
 ·have m':k∈cs.map (·.2):=(pm.map _).mem_iff.mp m;have q:=h s.heap false (Heap.SameBut.refl a s.heap) (by rw[U5 m'];exact⟨cs',ep,t,pm,ho,T,nf⟩)
  have e:s={ s with heap:=s.heap }:=by cases s;rfl
  rw[e];exact UV q
 ·have m':k∉cs.map (·.2):=λz=>m ((pm.map _).mem_iff.mpr z)
  rw[U8 m']at h;dsimp only;refine UL (Wk ho rfl T.fits ?_);dsimp only;rw[PQ T.ti n1];dsimp only;rw[U5 (show t.plain=true from T.plain)]
  refine UL (Dw hk ?_);simp only[if_true];have T1:=TT.put (b:=b) T nf n1 n2;rw[Oa];have pm1:(lV cs' (SetTable.below t.place (J t.mask (hT prog w k) n)) (b,k)).Perm (cs++[(b,k)]):=(pN _ _ _).trans (pm.append_right _);have l1:(lV cs' (SetTable.below t.place (J t.mask (hT prog w k) n)) (b,k)).length=cs.length+1:=by rw[pm1.length_eq];simp
  generalize hc1:lV cs' (SetTable.below t.place (J t.mask (hT prog w k) n)) (b,k)=cs1 at T1 pm1 l1;generalize ht1:({ t with place:=SetTable.insertAt t.place (SetTable.below t.place (J t.mask (hT prog w k) n)) (J t.mask (hT prog w k) n) }:SetTable)=t1 at T1
  have e1:t1.mask=t.mask:=by rw[<-ht1]
  refine UL (wpAny_storeSet_of ho rfl ?_ (Be (by lia)))
  have o1:=Cm (es1:=bC prog w cs1) (t1:=t1) ho;have b1:=WX s.heap a (Obj.putSet (bC prog w cs1) t1);have fill:t1.fill=cs1.length:=by unfold SetTable.fill;rw[T1.ti.dum,T1.len];rfl
  have nf0:cs'.length*5<t.mask*3:=nf;by_cases full:t1.tooFull=true
  ·rw[full];simp only[Bool.not_false,Bool.and_true,if_true];have full':t1.mask*3<=cs1.length*5:=by unfold SetTable.tooFull at full;rw[fill]at full;simpa using full
   have m7:t.mask=7/\cs.length=4:=by
    have:=T.msk;unfold MK at this;rw[e1]at full'
    lia
   unfold setRelay;refine UL (UL (Wk o1 rfl T1.fits ?_));have sz:(bC prog w cs').size=4:=by simp;lia
   rw[sz];have gr:SetTable.sizeAbove (SetTable.grown (4+1))=32:=by decide
   dsimp only;rw[gr,U8 (by rw[Ww];decide)]
   obtain⟨ow,la,T2,pm2,ef⟩:=Ht (m:=31) (.inr rfl) T1 (by lia)
   have rl:t1.relaid ((bC prog w cs1).map (·.1)) (SetTable.grown (4+1))=some ({ mask:=31,place:=((bx 31 ow).map (·.1)).toArray,dummies:=#[],finger:=t1.finger,led:=t1.led,moves:=t1.movedTo 31,plain:=t1.plain },((bx 31 ow).map (·.2)).toArray):=by unfold SetTable.relaid;rw[gr];exact la
   rw[rl];refine UL ?_;show wpAny (model prog w) A (if ((((bx 31 ow).map (·.2)).toArray.filterMap ((bC prog w cs1)[·]?)).size != (bC prog w cs1).size)=true then (unsupported _>>=_) else pure (_,_)) _ _ _
   have sz2:((((bx 31 ow).map (·.2)).toArray.filterMap ((bC prog w cs1)[·]?)).size != (bC prog w cs1).size)=false:=by rw[ef];have:=pm2.length_eq;simp[this]
   rw[sz2,U8 (by decide)]
   refine UV ?_;dsimp only;rw[ef];refine wpAny_storeSet_of o1 rfl ?_ (Be (by rw[pm2.length_eq];lia))
   have o2:=Cm (es1:=bC prog w (jY cs1 31 ow)) (t1:={ mask:=31,place:=((bx 31 ow).map (·.1)).toArray,dummies:=#[],finger:=t1.finger,led:=t1.led,moves:=t1.movedTo 31,plain:=t1.plain }) o1;refine UV (h _ true (b1.trans (WX _ a _)) ⟨_,_,_,pm2.trans pm1,o2,T2,?_⟩);unfold NF;rw[pm2.length_eq];show cs1.length*5<31*3
   lia
  ·have nfull:(!false&&t1.tooFull)=true ↔ False:=by simp[full]
   rw[U8 (by rw[nfull];exact id)]
   refine UL (UV ?_);refine UV (h _ true b1 ⟨cs1,_,t1,pm1,o1,T1,?_⟩);unfold NF;unfold SetTable.tooFull at full;rw[fill]at full;simpa using full
end
end LA
namespace L2
open PySem PySem.Spec PyProof.Rows LS LA LB
section
variable{X:Cx}{Zo:List (Addr×Obj)}{σ:St}{H:Hp}{s:Shared}{scope:Scope}{cl:List (Str×Addr)}{own:List Str}{js:List Nat}{fr:List Str}{fp:List Addr}{C m:Addr}
def Dd(T:CompG X scope cl own js fr)(I:Inv X Zo σ H s)(f:∀ b∈fp,FpOk X Zo H b)(hlt:∀ b∈fp,b<s.heap.objs.size)
  (k:∀b o,s.heap.get? b=some o->h'.get? b=some o) (ha:s.heap.objs.size<=acc) (hC:s.heap.objs.size<=C) (hne:C≠acc) (hm:m=hh.objs.size) (hms:s.heap.objs.size<=m) (hCm:C<m) (ham:acc<m) (hh':h'=pushCells hh scope.names) (ob:ObjOk X.prog X.w (upd H acc ho) h' acc ho) (ns:h'.Ns C mm) :
  Inv (X.aU Zo scope (cellsFrom m scope.names cl) (own++fr) fp C s H) [] (List.replicate own.length none++pick js σ) (upd H acc ho) { s with heap:=h',toks:=t' }:=by
 have ok:CellsOk (pushCells hh scope.names) m (cellsFrom m scope.names []):=by
  have:=cellsFrom_ok scope.names hh m [] ⟨λx x hm=>(nomatch hm),List.Pairwise.nil⟩ (by rw[hm];exact U0 _)
  rw[<-hm]at this;exact this
 have hold:∀y c,cl.lookup y=some c->c<s.heap.objs.size:=λy c e=>by obtain⟨v,q⟩:=I.cell y c (T.sub _ _ e);exact q.lt
 have spl:∀y c,(cellsFrom m scope.names cl).lookup y=some c->(m<=c/\h'.IsCell c none)\/(cl.lookup y=some c/\c<s.heap.objs.size):=λy c e=>by
  rw[bL]at e;rcases jE e with z | ⟨_,z⟩
  ·have:=ok.empty _ _ (Wc z);exact .inl ⟨this.2,by rw[hh'];exact this.1⟩
  ·exact .inr ⟨z,hold _ _ z⟩
 have hn:H acc=none:=I.hok.fresh ha;have fC:H C=none:=I.hok.fresh hC;refine⟨xU T I f hlt hC hm hms,rfl,I.bare,Un.laid k ha hn,⟨mm,ns,λi y v h1 h2 h3=>?_⟩,λy c e=>?_,by show upd H acc _ C=none;rw[upd_ne hne];exact fC,λy c e=>?_,λp hp=>?_,I.hok.laid k ha ob,?_⟩
 ·have h1:(own++fr)[i]?=some y:=h1;by_cases hi:i<own.length
  ·rw[Vb (by rw[Vw];exact hi),Xd]at h2
   split at h2<;>cases h2
  ·rw [List.getElem?_append_right (by lia)] at h1
   rw[VL (by rw[Vw];lia),Vw]at h2
   unfold pick at h2;rw[Vl]at h2;cases hj:js[i-own.length]? with
   |none=>rw[hj]at h2;cases h2
   | some j=>
     rw[hj]at h2;have h2s:(σ[j]?).getD none=some v:=Vc h2;have h2'':σ[j]?=some (some v):=by
      cases z:σ[j]? with
      |none=>rw[z]at h2s;cases h2s
      |some w=>rw[z]at h2s;exact congrArg some h2s
     obtain⟨g1,g2,g3,c,gc⟩:=T.fre _ j y hj h1;obtain⟨mX,_,hl⟩:=I.loc;have vis:Vis X.env.scope y:=g2.elim (λz=>.inr (.inl z)) λz=>.inr (.inr z)
     obtain⟨u,r,q⟩:=hl j y v g1 h2'' vis;refine⟨u,r,.inr ⟨g3,c,?_,?_⟩⟩
     ·show (cellsFrom m scope.names cl).lookup y=some c;rw[bL];cases z:(cellsFrom m scope.names []).lookup y with
      |none=>rw[gk z];exact gc
      |some c'=>exact absurd (T.newc m y c' z) (T.oldc y c gc)
     ·have hc':=T.sub _ _ gc;rcases q with ⟨q,_⟩ | ⟨_,c2,e2,z⟩
      ·have q:X.env.scope.names.lookup y=some .local:=q;rcases g2 with g2 | g2<;>(rw[g2]at q;cases q)
      ·rw[hc']at e2;cases e2;exact z.keeps k
 ·rcases spl y c e with ⟨_,z⟩ | ⟨z,_⟩
  ·exact⟨_,z⟩
  ·obtain⟨v,q⟩:=I.cell y c (T.sub _ _ z);exact⟨v,q.keeps k⟩
 ·rcases spl y c e with ⟨z,_⟩ | ⟨z,lt⟩
  ·show upd H acc _ c=none;rw[upd_ne (λ(q:c=acc)=>absurd ham (WF.mpr (q ▸ z)))]
   exact I.hok.fresh (Vp hms z)
  ·show upd H acc _ c=none;rw[upd_ne (λ(q:c=acc)=>absurd lt (WF.mpr (q ▸ ha)))]
   exact I.freeC y c (T.sub _ _ z)
 ·have hp':p∈X.pn++Zo:=by simpa using hp
  obtain⟨e,n,ne,nf,d⟩:=I.pin p hp';refine⟨k _ _ e,?_,Vi (Va (U7 e) hC),λhm=>?_,d⟩
  ·show upd H acc _ p.1=none;rw[upd_ne (λz=>absurd (U7 e) (by rw[z];exact WF.mpr ha))]
   exact n
  ·rcases Vf.mp (I.stkSub _ hm) with z | z
   ·exact ne z
   ·exact nf z
 ·show (List.replicate own.length none++pick js σ).length=(own++fr).length;unfold pick;rw[Vk,Vw,U6,Vk,T.len]
end
section
variable{prog:Program}{w:World}{A:Around}{R:Result->Shared->Prop}{s:Shared}
def yq(elt:Expr)(acc:Value)(env:Env)(k:Sem Fin):Sem Fin:=(eval elt env>>=λv=>standAt elt.pos>>=λz=>call (.builtin "set.add") [acc,v]>>=λz=>pure ())>>=λz=>k
def QW(elt target iter:Expr)(ifs:List Expr)(scope:Scope)(pos:Pos)(it acc:Value)(env:Env):
  compTurn (.SetComp elt [⟨target,iter,ifs,0⟩] scope pos) 0 it acc env=turnOf ⟨target,iter,ifs,0⟩ (yq elt acc env) (.compLoop (.SetComp elt [⟨target,iter,ifs,0⟩] scope pos) 0 it acc env) it env:=rfl
def K8:km prog w A (yq elt acc env) (λP s=>wpAny (model prog w) A (eval elt env) (λx s1=>wpAny (model prog w) A (call (.builtin "set.add") [acc,x]) (λy s2=>P s2) (λy y=>False) s1) (λy y=>False) s):=by intro k Q E s h;unfold yq;exact UL (UL (Vn h (λx s1 h1=>UL (Xb (UL (Vn h1 (λy s2 h2=>UV h2) λy y z=>z.elim)))) λy y z=>z.elim))
def Gx(I:Nat->Shared->Prop)
  (hturn:compTurn (.SetComp elt gens scope pos) depth it acc env=turnOf g bodyK (.compLoop (.SetComp elt gens scope pos) depth it acc env) it env) (hW:km prog w A bodyK W)
  (turn:∀ n s,I n s->wpAny (model prog w) A (pyNext it) (λr s₁=>match r with
    |none=>R (.ok .next) s₁
    |some v=>wpAny (model prog w) A (letOwnedTupleGo g.target it v) (λz s₂=>wpAny (model prog w) A (assign g.target env v) (λz s₃=>
      wpAny (model prog w) A (rA g.ifs env) (λok s₄=>if ok=true then W (λs₅=>∃m,m<n/\I m s₅) s₄ else ∃m,m<n/\I m s₄) (λz z=>False) s₃) (λz z=>False) s₂) (λz z=>False) s₁) (λz z=>False) s)
  (hmono:∀P P' s,(∀s,P s->P' s)->W P s->W P' s)
  (n:Nat) (h:I n s):codeAny (model prog w) A (.compLoop (.SetComp elt gens scope pos) depth it acc env) R s:=by
 refine codeAny_loop rfl I (λn s hI=>?_) n h
 show wpAny _ A ((compTurn (.SetComp elt gens scope pos) depth it acc env).onRaise (λx=>do noteFrame x env;theTreesLotGoes x)) _ _ s
 refine wpAny_noted ?_;rw[hturn];unfold turnOf;refine UL (Xb (UL (Vn (turn n s hI) (λr s₁ h₁=>?_) λz z h'=>h'.elim)))
 cases r with
 |none=>exact UV h₁
 | some v=>
   refine UL (Vn h₁ (λz s₂ h₂=>UL (Vn h₂ (λz s₃ h₃=>UL (Vn h₃ (λok s₄ h₄=>?_) λz z h'=>h'.elim)) λz z h'=>h'.elim)) λz z h'=>h'.elim)
   cases ok with
   |false=>have h₄:∃m,m<n/\I m s₄:=h₄;exact UV ⟨rfl,h₄⟩
   |true=>
     have h₄:W (λs₅=>∃m,m<n/\I m s₅) s₄:=h₄
     exact hW _ _ _ _ (hmono _ _ _ (λs₅ h₅=>UV ⟨rfl,h₅⟩) h₄)
def Ej(hg:gens[depth]?=some g)(ha:g.is_async=0)
  (h0:codeAny (model prog w) A (.compLoop (.SetComp elt gens scope pos) depth it acc env) R s)
  (h:wpAny (model prog w) A (pyIter it) (λit' s'=>codeAny (model prog w) A (.compLoop (.SetComp elt gens scope pos) depth it' acc env) R s') (λz z=>False) s) :
  codeAny (model prog w) A (.compStart (.SetComp elt gens scope pos) depth it acc env) R s:=by
 refine codeAny_of_tree ?_;show wpAny _ _ ((compStart (.SetComp elt gens scope pos) depth it acc env).onRaise (λx=>do noteFrame x env;standAt theWindowsPlace)) _ _ s
 refine wpAny_notedAt ?_;unfold compStart;have e1:(((clausesOf (.SetComp elt gens scope pos))[depth]?).elim false (·.is_async != 0))=false:=by show ((gens[depth]?).elim false (·.is_async != 0))=false;rw[hg];show (g.is_async != 0)=false;rw[ha];rfl
 rw[e1];simp only[Bool.false_eq_true,if_false,pure_bind];refine UL (W2 (wpAny_ite ?_));split
 ·first
   |exact UL (UV (UV (And.intro rfl h0)))
   |exact UV (And.intro rfl h0)
 ·refine UL (Xg ?_);have e2:(clausesOf (.SetComp elt gens scope pos))[depth]?=some g:=hg;rw[e2];exact UL (Xb (UL (Vn h (λit' s' h'=>UV (And.intro rfl h')) λz z x=>x.elim)))
end
def j9(P:Program)(w:World)(a:Addr)(cs:List (Addr×List Int)):HO:=.ext λh=>SetT P w (!dH w) h a cs
def Hz(h:SetT P w L h1 a cs)(k:∀o,h1.get? a=some o->h2.get? a=some o):SetT P w L h2 a cs:=by obtain⟨cs',ep,t,p,e,r⟩:=h;exact⟨cs',ep,t,p,k _ e,r⟩
def Cg(k:SetT P w (!dH w) h a cs):ObjOk P w H h a (j9 P w a cs):=⟨k,by obtain⟨_,_,_,_,e,_⟩:=k;exact⟨_,e⟩,λz z k1 s=>Hz k1 s⟩
def uh(cs:List (Addr×List Int))(c:Addr×List Int):List (Addr×List Int):=if c.2∈cs.map (·.2) then cs else cs++[c]
def Bl(ok:HOk P w H h)(hb:H b=some (.tup (k.map V.int))):IsTupleKey (iK P w) h k b:=by
 obtain⟨_,its,hv,o,ho,hc,n,hd⟩:=ok _ _ hb;refine⟨o,its.toArray,n,ho,hc,hd,?_⟩;have:∀ {ks:List Int}{us:List Value},Vals (ks.map V.int) us->ItemsAre (iK P w) ks us:=by
  intro ks;induction ks with
  |nil=>intro us h;cases h;exact .nil
  | cons k ks ih=>
    intro us h;cases h with
    |cons r t=>obtain⟨u,rfl⟩:=r;exact .cons (intKind_is _ _ _ _) (ih t)
 simpa using this hv
section
variable{X:Cx}
def Mz(hu:X.A.units+1<cLine)(I:Inv X Zo σ H s)(ha:H a=some (j9 X.prog X.w a cs))(hb:H b=some (.tup (k.map V.int)))
  (hcs:∀c∈cs,H c.1=some (.tup (c.2.map V.int))) (room:cs.length+1<=18) (q:∀s',Inv X Zo σ (upd H a (j9 X.prog X.w a (uh cs (b,k)))) s'->Q .none s') :
  wpAny (model X.prog X.w) X.A (call (.builtin "set.add") [.ref a,.ref b]) Q E s:=by
 have hS:SetT X.prog X.w (!dH X.w) s.heap a cs:=(I.hok _ _ ha).1;have tI:s.TypeIs (.ref a) "set":=by obtain⟨_,_,_,_,e,_⟩:=hS;exact⟨_,e,rfl⟩
 have hk:=Bl I.hok hb;have hH:xH X.prog X.w s.heap cs:=λc hc=>Bl I.hok (hcs c hc)
 refine VD F.slot_set_add tI F.entry_set_add ?_ (F.args_set_add_2 _ _);unfold Builtin.«set.add» Builtin.Frozenset.oneOther;simp only[List.isEmpty_nil,bind_assoc];unfold Builtin.Frozenset.addrOf setAdd;refine UL (UV ?_)
 try dsimp only
 refine UL (UV ?_)
 try dsimp only
 refine UL ?_;refine VR ?_;refine UL (wpAny_pyHash_tuple (knd:=iK X.prog X.w) (by simpa using hu) hk ?_)
 refine Ky (s:={ s with toks:=s.toks+(k.length+1) }) (by simpa using hu) hS hH hk room λh' r sb g=>?_
 show wpAny _ _ (ret Value.none) _ _ _;refine UV ⟨_,rfl,q _ ?_⟩;refine I.write (x:=a) (e:=a) (o:=j9 X.prog X.w a (uh cs (b,k))) (by rw[ha];trivial) (.inl rfl) (λb u ne e=>(sb.2 b ne).trans e) (by obtain⟨_,_,_,_,e,_⟩:=g;exact⟨_,e⟩) ?_
 exact Cg (by unfold uh;exact g)
end
end L2
namespace LA
open PySem PySem.Spec PyProof.Rows LS LB
section
variable{prog:Program}{w:World}{A:Around}{E:Value->Shared->Prop}{s:Shared}
def xR(hh:A.handled=none)(ho:s.heap.get? a=some (cz es ep t))(hf:t.fits es.size=true)(ti:TI (!dH w) t)(hb:es.size<scanBound)(h:∀ h' tk d' vs,vs.Perm (es.toList.map (·.2))->s.heap.objs.size<=h'.objs.size->(∀ b o,s.heap.get? b=some o->h'.get? b=some o)->Q vs { s with heap:=h',toks:=tk,drawn:=d' }):wpAny (model prog w) A (collect (.ref a)) Q E s:=by
 unfold collect;refine UL (wpAny_runValue (Y7 Zj ?_));rw[X6 Zm _];refine UL (m:=newList []) (Vr (UV ⟨Zn YH _,Y7 F.entry_list_iadd ?_⟩));rw[X6 YH _];have ha:a<s.heap.objs.size:=U7 ho;have ne:s.heap.objs.size≠a:=λz=>by rw[z]at ha;exact Wm _ ha
 have sr:Builtin.List.listSameRef (.ref s.heap.objs.size) (.ref a)=false:=by simp[Builtin.List.listSameRef,ne]
 have lst0:(s.heap.push (seqObj "list" #[] 0)).get? s.heap.objs.size=some (seqObj "list" #[] 0):=U9 _ rfl;have ho1:(s.heap.push (seqObj "list" #[] 0)).get? a=some (cz es ep t):=UT _ ho;show wpAny _ A.in1 (Builtin.List.listExtendWith (.ref s.heap.objs.size) (.ref a) (.ref s.heap.objs.size)) _ _ { s with heap:=s.heap.push (seqObj "list" #[] 0) }
 unfold Builtin.List.listExtendWith;refine UL (XS (T := "set") ⟨_,ho1,rfl⟩ ?_);rw[U8 (by rw[sr];decide)]
 refine UL (Js (s:={ s with heap:=s.heap.push (seqObj "list" #[] 0) }) ho1 hf ti hb λh1 d1 I tp ord hI k1 hI1 htp c po=>?_)
 have ho2:=k1 a _ ho1;have lst1:=k1 _ _ lst0;have szI:s.heap.objs.size+1<=I:=by have:(s.heap.push (seqObj "list" #[] 0)).objs.size<=I:=hI;rw[VF]at this;exact this
 refine UL (VR (Jp ho2 ?_));dsimp only;refine UL (m:=rule _) (Xg ?_);unfold Builtin.List.listTouch;refine UL (UL (YS lst1 rfl ?_ (by simp) (by simp)))
 have lst2:=Zi lst1 (λx:Array Value=>x.push .none)
 refine YS lst2 rfl ?_ (by simp[sizeLine_eq]) (by simp)
 have lst3:=Zi lst2 (λx:Array Value=>x.pop)
 have up:∀b o,b≠s.heap.objs.size->h1.get? b=some o->((h1.update s.heap.objs.size (Obj.mapSeq λx=>x.push .none)).update s.heap.objs.size (Obj.mapSeq λx=>x.pop)).get? b=some o:=λb o hb e=>by rw[Zd _ _ _ _ hb,Zd _ _ _ _ hb];exact e
 have neI:I≠s.heap.objs.size:=Kd szI;have netp:tp≠s.heap.objs.size:=by
  rcases htp with z | ⟨z,_⟩
  ·rw[z];exact λq=>ne q.symm
  ·have:s.heap.objs.size+1<=tp:=by have:(s.heap.push (seqObj "list" #[] 0)).objs.size<=tp:=z;rw[VF]at this;exact this
   exact Kd this
 have hne:a≠I:=Vi (Ys ha szI);have hh1:A.in1.in1.handled=none:=by simp[hh]
 have W:=(H9 (prog:=prog) (w:=w) (A:=A.in1) (I:=I) (a:=a) (tp:=tp) (es:=es) (ep:=ep) (t:=t) (ord:=ord) (by simp[hh]) hf ti hne).toS
 have ol:ord.length=es.size:=by rw[po.length_eq];simp
 refine UV ⟨Zn F.plain_extend_loop _,codeAny_extend_loopS W (by rw[ol];exact fits_of_scanBound hb) s.heap.objs.size (by simp;exact⟨λz=>neI z.symm,ne,λz=>netp z.symm⟩) _ ord.length 0 _ #[] _ rfl (Wo _) ⟨up a _ (λq=>ne q.symm) ho2,c.at (λo e=>up I o neI e) λo e=>up tp o netp e⟩ lst3 (ItemsOf.nil _) λs' acc c' hm hS' hacc=>?_⟩
 refine UL (m:=load s.heap.objs.size) (wpAny_load hS' ?_);have ea:acc.toList=ord:=by
  apply YD;intro k;by_cases hk:k<acc.size
  ·have:=hacc.2 k acc[k] (by rw[Wg hk])
   rw[this,YZ,Wg hk]
  ·rw[Wa (by simp;lia),Wa (by have:=hacc.1;lia)]
 obtain⟨h2,g2,d2,tk2,os2⟩:=s';have eg:g2=s.gens:=hm.gens;have ed:d2=d1:=hm.drawn;have eo:os2=s.os:=hm.os;subst eg ed eo;refine UV (h h2 tk2 d2 acc.toList (by rw[ea];exact po) (Xj (U7 hS')) λb o e=>?_)
 have lt:b<s.heap.objs.size:=U7 e;refine hm.heap b o (by simp;exact⟨Vi lt,Vi (Ys lt szI)⟩) (up b o (Vi lt) (k1 b o (UT _ e)))
def Ab:∀ {l:List α}{m:List β},m.Perm (l.map f)->∃ l':List α,l'.Perm l/\m=l'.map f:=by
 intro l m p;generalize e:l.map f=x at p;induction p generalizing l with
 |nil=>exact⟨[],by cases l<;>simp_all,rfl⟩
 | cons x p ih=>
   cases l with
   |nil=>cases e
   |cons a l=>simp only[List.map_cons,List.cons.injEq]at e;obtain⟨l',p',rfl⟩:=ih e.2;exact⟨a::l',p'.cons a,by rw[Vt,e.1]⟩
 | swap x y l0=>
   cases l with
   |nil=>cases e
   | cons a l=>
     cases l with
     |nil=>simp at e
     |cons b l=>simp only[List.map_cons,List.cons.injEq]at e;exact⟨b::a::l,.swap a b l,by simp[e]⟩
 |trans p1 p2 ih1 ih2=>obtain⟨l',q1,e1⟩:=ih2 e;obtain⟨l'',q2,e2⟩:=ih1 e1.symm;exact⟨l'',q2.trans q1,e2⟩
def Ah(hh:A.handled=none)(g:SetT prog w (!dH w) s.heap a cs)(hT:∀ c∈cs,c.2≠[]/\∃ its,IsTup s.heap c.1 its/\IntsAre its.toList c.2)(hl:cs.length<=60)
  (h:∀h' tk d' p n (cs':List (Addr×List Int)),cs'.Perm cs->lQ (cs'.map (·.2))->s.heap.objs.size<=p->h'.get? p=some (seqObj "list" (cs'.map λc=>Value.ref c.1).toArray n)->(∀b o,s.heap.get? b=some o->h'.get? b=some o)->Q (.ref p) { s with heap:=h',toks:=tk,drawn:=d' }) :
  wpAny (model prog w) A (call (.builtin "sorted") [.ref a]) Q E s:=by
 obtain⟨c0,ep,t,pm,ho,T,nf⟩:=g;refine Yj kind_sorted plain_sorted entry_sorted (args_sorted1 _) ?_;unfold Builtin.«sorted»
 refine UL (m:=checkCount "sorted" 1 1 _) (UV ?_);have l0:=pm.length_eq;refine UL (xR (by simp[hh]) ho T.fits T.ti (by simp[scanBound];lia) λh1 tk1 d1 vs hp sz k1=>?_)
 have e1:(bC prog w c0).toList.map (·.2)=c0.map λc=>Value.ref c.1:=by simp[ent,Function.comp_def]
 rw[e1]at hp;obtain⟨c1,p1,rfl⟩:=Ab hp;have l1:=p1.length_eq;have zl:(c1.map λc=>Value.ref c.1).toArray.size<=sizeLine:=by rw[Vg,U6,Ww];lia
 refine UL (wpAny_newList ?_ zl);have oL:(h1.push (seqObj "list" (c1.map λc=>Value.ref c.1).toArray 0)).get? h1.objs.size=some (seqObj "list" (c1.map λc=>Value.ref c.1).toArray 0):=U9 _ rfl
 have tups:∀ (l:List (Addr×List Int)),(∀ c∈l,c∈cs)->fQ (h1.push (seqObj "list" (c1.map λc=>Value.ref c.1).toArray 0)) (l.map λc=>Value.ref c.1) (l.map (·.2)):=by
  intro l;induction l with
  |nil=>intro _;exact .nil
  |cons c l ih=>intro hc;obtain⟨ne,its,it,ia⟩:=hT c (hc c Vm);exact .cons ⟨ne,c.1,its,rfl,it.keeps λb o e=>UT _ (k1 b o e),ia⟩ (ih λx hx=>hc x (Vq _ hx))
 have hts:=tups c1 λc hc=>pm.mem_iff.mp (p1.mem_iff.mp hc)
 refine UL (VR (VD slot_list_sort ⟨_,oL,rfl⟩ entry_list_sort (u6 oL hts (by rw[U6];lia) λis si=>⟨_,rfl,?_⟩) (args_list_sort _)))
 obtain⟨e,he⟩:=sortedHeap_at (out:=(is.map λi=>(c1.map λc=>Value.ref c.1).getD i Value.none).toArray) oL
 have sl:=si.lt;rw[U6]at sl;have ev:(is.map λi=>(c1.map λc=>Value.ref c.1).getD i Value.none)=(is.map λi=>c1.getD i (0,[])).map λc=>Value.ref c.1:=by rw[VP];exact Wy λi hi=>by have:=sl i hi;simp[this]
 have ek:(is.map λi=>(c1.map (·.2)).getD i [])=(is.map λi=>c1.getD i (0,[])).map (·.2):=by rw[VP];exact Wy λi hi=>by have:=sl i hi;simp[this]
 have pk:(is.map λi=>c1.getD i (0,[])).Perm cs:=by
  have sp:=si.pm;rw[U6]at sp;refine (sp.map _).trans ?_;have e3:(List.range c1.length).map (λi=>c1.getD i (0,[]))=c1:=by
   apply Zh
   ·simp
   ·intro i h1 h2;simp at h1 ⊢
    rw[U3 h1];rfl
  rw[e3];exact p1.trans pm
 have ris:=si.ris;rw[ek]at ris;rw[ev]at he ⊢
 refine UV ⟨_,rfl,h _ _ _ h1.objs.size e _ pk ris sz he λb o eb=>?_⟩
 have lt:=U7 (k1 b o eb);rw[sortedHeap_old (Vi lt) (by rw[size_push'];exact XH lt)]
 exact UT _ (k1 b o eb)
end
end LA
namespace L2
open PySem PySem.Spec PyProof.Rows LS LA LB
def xQ(hh:X.A.handled=none):CallR X (.builtin "sorted") (λxs H Q=>∃ (p:Addr) (cs:List (Addr×List Int)),xs=[.ref p]/\H p=some (j9 X.prog X.w p cs)/\(∀ c∈cs,c.2≠[]/\H c.1=some (.tup (c.2.map V.int)))/\cs.length<=60/\∀ (l:Addr) (cs':List (Addr×List Int)),H l=none->cs'.Perm cs->(cs'.map (·.2))=zJ (cs.map (·.2))->Q (.ref l) (upd H l (.lst (cs'.map λc=>V.ref c.1)))):=by
 intro Zo s σ H xs us Q I r1 h;obtain⟨p,cs,rfl,hp,hT,hl,q⟩:=h;cases r1 with
 | cons r rr=>
   cases rr;cases r;have hS:SetT X.prog X.w (!dH X.w) s.heap p cs:=(I.hok _ _ hp).1;refine Ah hh hS (λc hc=>?_) hl λh2 tk2 d2 l m cs' pm ri hge hol k2=>?_
   ·obtain⟨ne,hc'⟩:=hT c hc;obtain⟨_,its,hv,it⟩:=I.hok _ _ hc';exact⟨ne,its.toArray,it,by simpa using qD hv⟩
   ·have zl:(cs'.map λc=>V.ref c.1).length<=sizeLine:=by
     rw[U6,pm.length_eq];show _<=2^24
     lia
    have vv:∀l:List (Addr×List Int),Vals (l.map λc=>V.ref c.1) (l.map λc=>Value.ref c.1):=by
     intro l;induction l with
     |nil=>exact .nil
     |cons c l ih=>exact .cons rfl ih
    have I2:=I.call (h':=h2) (t':=tk2) (d':=d2) (g':=s.gens) (ch:=[]) (Un.laid k2 hge (I.hok.fresh hge)) (I.hok.laid (o:=.lst (cs'.map λc=>V.ref c.1)) k2 hge ⟨zl,_,m,vv cs',hol⟩) I.bare (λy z=>nomatch z)
    exact⟨.ref l,upd H l (.lst (cs'.map λc=>V.ref c.1)),I2,rfl,q l cs' (I.hok.fresh hge) pm (wB ((pm.map _).trans (jL _).1.symm) ri (jL _).2)⟩
end L2
namespace LA
open PySem PySem.Spec PyProof.Rows LS
end LA
namespace L3
open PySem PySem.Spec L2
open PyProof.Rows hiding St
inductive D where
 |non | bl (b:Bool) | int (i:Int) | str (x:Str)
 |tup (l:List D) | lst (l:List D)
 |dic (ks:List Key) (vs:List D)
 |obj (c:Str) (ns:List Str) (vs:List D)
 |scr (ns:List Int)
 |ref (n:Nat)
 |cls (c:Str) | ty (t:String)
 |exn (a:Addr)
instance:Inhabited D:=⟨.non⟩
inductive DO where
 |lst (l:List D)
 |dic (ks:List Key) (vs:List D)
 |ins (c:Str) (ns:List Str) (vs:List D)
abbrev Mo:=List DO
inductive R(α:Type) where
 |ok (a:α) | exc (c:Str)
def DM(α:Type):=Mo->Option (R α×Mo)
@[reducible] def DM.pure{α:Type}(a:α):DM α:=λM=>some (.ok a,M)
def DM.bind{α β:Type}(m:DM α)(f:α->DM β):DM β:=λM=>match m M with
 |none=>none
 |some (.exc c,M')=>some (.exc c,M')
 |some (.ok a,M')=>f a M'
instance:Monad DM where
 pure:=DM.pure
 bind:=DM.bind
def rd{α:Type}(f:Mo->Option α):DM α:=λM=>(f M).map λa=>(.ok a,M)
def opt{α:Type}(o:Option α):DM α:=λM=>o.map λa=>(.ok a,M)
def stuck{α:Type}:DM α:=λz=>none
def raise{α:Type}(c:Str):DM α:=λM=>some (.exc c,M)
abbrev aj:=List (Option D)
structure Rh where
 st:List Addr
 vo:List Addr
instance:Membership Addr Rh:=⟨λρ a=>a∈ρ.st\/a∈ρ.vo⟩
def Rh.put(ρ:Rh)(p:Addr):Rh:=⟨ρ.st++[p],ρ.vo⟩
def Rh.hold(ρ:Rh)(p:Addr):Rh:=⟨ρ.st,p::ρ.vo⟩
mutual
inductive Cv(mg:Str->Option Value)(ρ:Rh)(H:Hp):V->D->Prop
 |non:Cv mg ρ H .non .non
 |bl (b:Bool):Cv mg ρ H (.bl b) (.bl b)
 |int (i:Int):Cv mg ρ H (.int i) (.int i)
 |str (x:Str):Cv mg ρ H (.str x) (.str x)
 |tup {a:Addr}{xs:List V}{ds:List D}:a∉ρ->H a=some (.tup xs)->Cvs mg ρ H xs ds->Cv mg ρ H (.ref a) (.tup ds)
 |lst {a:Addr}{xs:List V}{ds:List D}:a∉ρ->H a=some (.lst xs)->Cvs mg ρ H xs ds->Cv mg ρ H (.ref a) (.lst ds)
 |dic {a:Addr}{ks:List Key}{xs:List V}{ds:List D}:a∉ρ->H a=some (.dK (ks.zip xs))->ks.length=xs.length->Cvs mg ρ H xs ds->Cv mg ρ H (.ref a) (.dic ks ds)
 |obj {a C dx:Addr}{c:Str}{ns:List Str}{xs:List V}{ds:List D}:a∉ρ->mg c=some (.ref C)->H a=some (.ins C dx (ns.zip xs))->ns.length=xs.length->Cvs mg ρ H xs ds->Cv mg ρ H (.ref a) (.obj c ns ds)
 |scr {a:Addr}{ns:List Int}:a∉ρ->Rd H a (.lst (ns.map V.int))->Cv mg ρ H (.ref a) (.scr ns)
 |ref {n:Nat}{a:Addr}:ρ.st[n]?=some a->Cv mg ρ H (.ref a) (.ref n)
 |cls {c:Str}{C:Addr}:mg c=some (.ref C)->Cv mg ρ H (.ref C) (.cls c)
 |ty (t:String):Cv mg ρ H (.ty t) (.ty t)
 |exn (a:Addr):Cv mg ρ H (.ref a) (.exn a)
inductive Cvs(mg:Str->Option Value)(ρ:Rh)(H:Hp):List V->List D->Prop
 |nil:Cvs mg ρ H [] []
 |cons {v:V}{d:D}{vs:List V}{ds:List D}:Cv mg ρ H v d->Cvs mg ρ H vs ds->Cvs mg ρ H (v::vs) (d::ds)
end
structure Ext(ρ:Rh)(H:Hp)(ρ':Rh)(H':Hp):Prop where
 pre:∃τ,ρ'.st=ρ.st++τ
 vo:ρ'.vo=ρ.vo
 new:∀a,a∈ρ'.st->a∉ρ.st->H a=none
 keep:∀a o,H a=some o->a∉ρ.st->H' a=some o
def Ext.refl{ρ:Rh}{H:Hp}:Ext ρ H ρ H:=⟨⟨[],by simp⟩,rfl,λa h n=>absurd h n,λz z h z=>h⟩
def Ext.keeps{ρ ρ':Rh}{H H':Hp}(e:Ext ρ H ρ' H'){a:Addr}{o:HO}(h:H a=some o)(n:a∉ρ):H' a=some o:=e.keep a o h λz=>n (.inl z)
def Ext.out1{ρ ρ':Rh}{H H':Hp}(e:Ext ρ H ρ' H'){a:Addr}{o:HO}(h:H a=some o)(n:a∉ρ.st):a∉ρ'.st:=λz=>by have:=e.new a z n;rw[h]at this;cases this
def Ext.out{ρ ρ':Rh}{H H':Hp}(e:Ext ρ H ρ' H'){a:Addr}{o:HO}(h:H a=some o)(n:a∉ρ):a∉ρ':=λz=>by
 rcases z with z | z
 ·exact e.out1 h (λy=>n (.inl y)) z
 ·rw[e.vo]at z;exact n (.inr z)
theorem Ext.trans{ρ ρ1 ρ2:Rh}{H H1 H2:Hp}(e:Ext ρ H ρ1 H1)(f:Ext ρ1 H1 ρ2 H2):Ext ρ H ρ2 H2:=by
 refine⟨?_,f.vo.trans e.vo,λa h n=>?_,λa o h n=>f.keep a o (e.keep a o h n) (e.out1 h n)⟩
 ·obtain⟨τ,h1⟩:=e.pre;obtain⟨υ,h2⟩:=f.pre;exact⟨τ++υ,by rw[h2,h1,WN]⟩
 ·by_cases z:a∈ρ1.st
  ·exact e.new a z n
  ·cases q:H a with
   |none=>rfl
   |some o=>have:=f.new a h z;rw[e.keep a o q n]at this;cases this
def Ext.at{ρ ρ':Rh}{H H':Hp}(e:Ext ρ H ρ' H'){n:Nat}{a:Addr}(h:ρ.st[n]?=some a):ρ'.st[n]?=some a:=by obtain⟨τ,h1⟩:=e.pre;rw[h1,Vb (UW.mp h).1];exact h
def Rh.nhold{ρ:Rh}{a p:Addr}(h:a∉ρ)(n:a≠p):a∉ρ.hold p:=λz=>by
 rcases z with z | z
 ·exact h (.inl z)
 ·rcases Vf.mp z with z | z
  ·exact n z
  ·exact h (.inr z)
section
variable{mg:Str->Option Value}{ρ ρ':Rh}{H H':Hp}
def Cvs.ind{P:List V->List D->Prop}{vs:List V}{ds:List D}(h:Cvs mg ρ H vs ds)(n:P [] [])(c:∀{v d vs ds},Cv mg ρ H v d->Cvs mg ρ H vs ds->P vs ds->P (v::vs) (d::ds)):P vs ds:=
 Cvs.rec (motive_1:=λz z z=>True) (motive_2:=λvs ds z=>P vs ds) ⟨⟩ (λz=>⟨⟩) (λz=>⟨⟩) (λz=>⟨⟩) (λz z z z=>⟨⟩) (λz z z z=>⟨⟩) (λz z z z z=>⟨⟩) (λz z z z z z=>⟨⟩) (λz z=>⟨⟩) (λz=>⟨⟩) (λz=>⟨⟩) (λz=>⟨⟩) (λz=>⟨⟩) n (λa t z i=>c a t i) h
def Cvs.gen(at_:∀(n:Nat) a,ρ.st[n]?=some a->ρ'.st[n]?=some a)(kp:∀a o,H a=some o->a∉ρ->a∉ρ'/\H' a=some o){vs:List V}{ds:List D}(h:Cvs mg ρ H vs ds):Cvs mg ρ' H' vs ds:=
 Cvs.rec (motive_1:=λv d z=>Cv mg ρ' H' v d) (motive_2:=λvs ds z=>Cvs mg ρ' H' vs ds) .non .bl .int .str (λn h z c=>.tup (kp _ _ h n).1 (kp _ _ h n).2 c) (λn h z c=>.lst (kp _ _ h n).1 (kp _ _ h n).2 c) (λn h l z c=>.dic (kp _ _ h n).1 (kp _ _ h n).2 l c) (λn m h l z c=>.obj (kp _ _ h n).1 m (kp _ _ h n).2 l c)
  (λn h=>h.elim (λh=>.scr (kp _ _ h n).1 (.inl (kp _ _ h n).2)) λ⟨_,h⟩=>.scr (kp _ _ h n).1 (.inr ⟨_,(kp _ _ h n).2⟩)) (λh=>.ref (at_ _ _ h)) .cls .ty .exn .nil (λz z=>.cons) h
def Cvs.hd{v:V}{d:D}{vs:List V}{ds:List D}(h:Cvs mg ρ H (v::vs) (d::ds)):Cv mg ρ H v d:=by cases h;assumption
theorem Cv.gen(at_:∀(n:Nat) a,ρ.st[n]?=some a->ρ'.st[n]?=some a)(kp:∀a o,H a=some o->a∉ρ->a∉ρ'/\H' a=some o){v:V}{d:D}(h:Cv mg ρ H v d):Cv mg ρ' H' v d:=(Cvs.gen at_ kp (.cons h .nil)).hd
def Cv.mono(e:Ext ρ H ρ' H'){v:V}{d:D}(h:Cv mg ρ H v d):Cv mg ρ' H' v d:=h.gen (λz z=>e.at) λz z h n=>⟨e.out h n,e.keeps h n⟩
def Cvs.mono(e:Ext ρ H ρ' H'){v:List V}{d:List D}(h:Cvs mg ρ H v d):Cvs mg ρ' H' v d:=h.gen (λz z=>e.at) λz z h n=>⟨e.out h n,e.keeps h n⟩
def Cvs.len{vs:List V}{ds:List D}(h:Cvs mg ρ H vs ds):vs.length=ds.length:=h.ind (P:=λvs ds=>vs.length=ds.length) rfl λz z=>congrArg (·+ 1)
def Cvs.append{vs us:List V}{ds es:List D}(h:Cvs mg ρ H vs ds)(h2:Cvs mg ρ H us es):Cvs mg ρ H (vs++us) (ds++es):=h.ind (P:=λvs ds=>Cvs mg ρ H (vs++us) (ds++es)) h2 λa z=>.cons a
theorem Cvs.take{vs:List V}{ds:List D}(n:Nat)(h:Cvs mg ρ H vs ds):Cvs mg ρ H (vs.take n) (ds.take n):=h.ind (P:=λvs ds=>∀n,Cvs mg ρ H (vs.take n) (ds.take n)) (λn=>by rw[List.take_nil,List.take_nil];exact .nil) (λa z i n=>by cases n with | zero=>exact .nil | succ n=>exact .cons a (i n)) n
theorem Cvs.drop{vs:List V}{ds:List D}(n:Nat)(h:Cvs mg ρ H vs ds):Cvs mg ρ H (vs.drop n) (ds.drop n):=h.ind (P:=λvs ds=>∀n,Cvs mg ρ H (vs.drop n) (ds.drop n)) (λn=>by rw[List.drop_nil,List.drop_nil];exact .nil) (λa t i n=>by cases n with | zero=>exact .cons a t | succ n=>exact i n) n
def Cvs.get{vs:List V}{ds:List D}{i:Nat}{d:D}(h:Cvs mg ρ H vs ds):ds[i]?=some d->∃v,vs[i]?=some v/\Cv mg ρ H v d:=h.ind (P:=λvs ds=>∀i,ds[i]?=some d->∃v,vs[i]?=some v/\Cv mg ρ H v d) (λz e=>by cases e) (λ{v _ _ _} a _ r i=>by cases i with | zero=>exact λe=>⟨v,rfl,Vc e ▸ a⟩ | succ n=>exact r n) i
theorem Cvs.set{v:V}{d:D}(h:Cv mg ρ H v d){vs:List V}{ds:List D}(i:Nat)(c:Cvs mg ρ H vs ds):Cvs mg ρ H (vs.set i v) (ds.set i d):=c.ind (P:=λvs ds=>∀i,Cvs mg ρ H (vs.set i v) (ds.set i d)) (λz=>.nil) (λa t r i=>by cases i with | zero=>exact .cons h t | succ n=>exact .cons a (r n)) i
theorem Cvs.reverse{vs:List V}{ds:List D}(h:Cvs mg ρ H vs ds):Cvs mg ρ H vs.reverse ds.reverse:=h.ind (P:=λvs ds=>Cvs mg ρ H vs.reverse ds.reverse) .nil λa z i=>by rw[YF,YF];exact i.append (.cons a .nil)
theorem Cvs.ints:∀ns:List Int,Cvs mg ρ H (ns.map V.int) (ns.map D.int)
 |[]=>.nil
 |n::ns=>.cons (.int n) (Cvs.ints ns)
def jN(mg:Str->Option Value)(ρ:Rh)(H:Hp)(a:Addr):DO->Prop
 |.lst l=>∃xs,H a=some (.lst xs)/\Cvs mg ρ H xs l
 |.dic ks l=>∃xs,H a=some (.dK (ks.zip xs))/\ks.length=xs.length/\Cvs mg ρ H xs l
 |.ins c ns l=>∃C dx xs,mg c=some (.ref C)/\H a=some (.ins C dx (ns.zip xs))/\ns.length=xs.length/\Cvs mg ρ H xs l
theorem jN.some{a:Addr}{o:DO}(h:jN mg ρ H a o):∃u,H a=some u:=by
 cases o with
 |lst l=>obtain⟨xs,h,_⟩:=h;exact⟨_,h⟩
 |dic ks l=>obtain⟨xs,h,_⟩:=h;exact⟨_,h⟩
 |ins c ns l=>obtain⟨C,dx,xs,_,h,_⟩:=h;exact⟨_,h⟩
theorem jN.mono{a:Addr}{o:DO}(e:Ext ρ H ρ' H')(k:H' a=H a)(h:jN mg ρ H a o):jN mg ρ' H' a o:=by
 cases o with
 |lst l=>obtain⟨xs,h,c⟩:=h;exact⟨xs,k.trans h,c.mono e⟩
 |dic ks l=>obtain⟨xs,h,q,c⟩:=h;exact⟨xs,k.trans h,q,c.mono e⟩
 |ins c ns l=>obtain⟨C,dx,xs,m,h,q,c⟩:=h;exact⟨C,dx,xs,m,k.trans h,q,c.mono e⟩
structure J(mg:Str->Option Value)(ρ:Rh)(M:Mo)(H:Hp):Prop where
 len:ρ.st.length=M.length
 nd:ρ.st.Nodup
 obj:∀(n:Nat) a o,ρ.st[n]?=some a->M[n]?=some o->jN mg ρ H a o
 vol:∀a,a∈ρ.vo->a∉ρ.st/\∃xs,H a=some (.lst xs)
theorem J.some{M:Mo}(j:J mg ρ M H){a:Addr}(h:a∈ρ):∃u,H a=some u:=by
 rcases h with h | h
 ·obtain⟨n,hn⟩:=XR.mp h;have lt:n<M.length:=by rw[<-j.len];exact (UW.mp hn).1
  exact (j.obj n a M[n] hn (U3 lt)).some
 ·obtain⟨_,xs,e⟩:=j.vol a h;exact⟨_,e⟩
def J.fresh{M:Mo}(j:J mg ρ M H){p:Addr}(h:H p=none):p∉ρ:=λz=>by obtain⟨u,e⟩:=j.some z;rw[h]at e;cases e
def J.inj{M:Mo}(j:J mg ρ M H){n m:Nat}{a:Addr}(h:ρ.st[n]?=Option.some a)(k:ρ.st[m]?=Option.some a):n=m:=by
 obtain⟨h1,e1⟩:=UW.mp h;obtain⟨h2,e2⟩:=UW.mp k;have q:∀i k (hi:i<ρ.st.length) (hk:k<ρ.st.length),i<k->ρ.st[i]≠ρ.st[k]:=λi k hi hk lt=>W6.mp j.nd i k hi hk lt
 rcases YJ n m with z | z | z
 ·exact absurd (e1.trans e2.symm) (q n m h1 h2 z)
 ·exact z
 ·exact absurd (e2.trans e1.symm) (q m n h2 h1 z)
def Ext.lay{p:Addr}{o:HO}(h:H p=none):Ext ρ H ρ (upd H p o):=⟨⟨[],by simp⟩,rfl,λa h n=>absurd h n,λa o e z=>by rw[upd_ne (ne_of_none e h)];exact e⟩
def Ext.same(S:Same H H'):Ext ρ H ρ H':=⟨⟨[],by simp⟩,rfl,λa h n=>absurd h n,λa o e z=>S _ _ e⟩
theorem J.same{M:Mo}(j:J mg ρ M H)(S:Same H H'):J mg ρ M H':=⟨j.len,j.nd,λn a o h k=>by have c:=j.obj n a o h k;obtain⟨u,e⟩:=c.some;exact c.mono (Ext.same S) (by rw[e,S _ _ e]),λa h=>let ⟨x,xs,e⟩:=j.vol a h;⟨x,xs,S _ _ e⟩⟩
def J.lay{M:Mo}(j:J mg ρ M H){p:Addr}(o:HO)(h:H p=none):J mg ρ M (upd H p o):=j.same (same_new h o)
theorem Ext.put{p:Addr}{o:HO}(h:H p=none):Ext ρ H (ρ.put p) (upd H p o):=⟨⟨[p],rfl⟩,rfl,λa ha n=>by
 rcases Vd.mp ha with z | z
 ·exact absurd z n
 ·rw[Vj.mp z];exact h,λa o e y=>by rw[upd_ne (ne_of_none e h)];exact e⟩
theorem J.put{M:Mo}(j:J mg ρ M H){p:Addr}{o:HO}{u:DO}(h:H p=none)(c:jN mg (ρ.put p) (upd H p o) p u):J mg (ρ.put p) (M++[u]) (upd H p o):=by
 have np:p∉ρ.st:=λz=>j.fresh h (.inl z)
 refine⟨?_,?_,λn a w h1 h2=>?_,λa ha=>?_⟩
 ·show (ρ.st++[p]).length=_;rw[Vk,Vk,j.len];rfl
 ·show (ρ.st++[p]).Nodup;rw[XJ];exact⟨j.nd,by simp,λx hx y hy e=>by rw[Vj.mp hy]at e;exact np (e ▸ hx)⟩
 ·have h1:(ρ.st++[p])[n]?=Option.some a:=h1;by_cases hn:n<ρ.st.length
  ·rw[Vb hn]at h1;rw[Vb (by rw[<-j.len];exact hn)]at h2
   have c:=j.obj n a w h1 h2;exact c.mono (Ext.put h) (upd_ne λ(z:a=p)=>np (z ▸ Vo h1))
  ·have hl:n<(ρ.st++[p]).length:=(UW.mp h1).1;rw[Vk]at hl;have e:n=ρ.st.length:=by have:[p].length=1:=rfl;lia
   subst e;rw[VL (U0 _)]at h1;rw[j.len,VL (U0 _)]at h2;simp at h1 h2;subst h1 h2;exact c
 ·obtain⟨x,xs,e⟩:=j.vol a ha;have ne:a≠p:=ne_of_none e h;refine⟨λz=>?_,xs,by rw[upd_ne ne];exact e⟩
  rcases Vd.mp z with z | z
  ·exact x z
  ·exact ne (Vj.mp z)
theorem Ext.upd{p:Addr}{o:HO}(h:p∈ρ.st):Ext ρ H ρ (L2.upd H p o):=⟨⟨[],by simp⟩,rfl,λa h n=>absurd h n,λa u e n=>by rw[upd_ne (λ(z:a=p)=>n (z ▸ h))];exact e⟩
theorem J.upd{M:Mo}(j:J mg ρ M H){n:Nat}{p:Addr}{o:HO}{u:DO}(h:ρ.st[n]?=Option.some p)(c:jN mg ρ (L2.upd H p o) p u):J mg ρ (M.set n u) (L2.upd H p o):=by
 refine⟨by rw[Xk];exact j.len,j.nd,λm a w h1 h2=>?_,λa ha=>?_⟩
 ·by_cases e:m=n
  ·subst e;rw[h]at h1;cases h1;have lt:m<M.length:=by rw[<-j.len];exact (UW.mp h).1
   rw[V1 lt]at h2;cases h2;exact c
  ·rw[Wf (λz=>e z.symm)]at h2
   have ne:a≠p:=λz=>by subst z;exact e (j.inj h1 h)
   exact (j.obj m a w h1 h2).mono (Ext.upd (Vo h)) (by rw[upd_ne ne])
 ·obtain⟨x,xs,e⟩:=j.vol a ha;exact⟨x,xs,by rw[upd_ne (λ(z:a=p)=>x (z ▸ Vo h))];exact e⟩
def Nk{p a:Addr}{o:HO}(hp:p∈ρ.vo)(n:a∉ρ):L2.upd H p o a=H a:=upd_ne λz=>n (by rw[z];exact .inr hp)
def Cvs.hold{p:Addr}{o:HO}(hp:p∈ρ.vo){v:List V}{d:List D}(h:Cvs mg ρ H v d):Cvs mg ρ (L2.upd H p o) v d:=h.gen (λz z h=>h) λz z h n=>⟨n,(Nk hp n).trans h⟩
def Cvs.less{ρ1:Rh}(hs:ρ1.st=ρ.st)(hv:∀a,a∈ρ1.vo->a∈ρ.vo){v:List V}{d:List D}(h:Cvs mg ρ H v d):Cvs mg ρ1 H v d:=h.gen (λx x h=>hs ▸ h) λx x h n=>⟨λz=>n (z.elim (λy=>.inl (hs ▸ y)) λy=>.inr (hv _ y)),h⟩
def Cvs.more{p:Addr}(hp:H p=none){v:List V}{d:List D}(h:Cvs mg ρ H v d):Cvs mg (ρ.hold p) H v d:=h.gen (ρ:=ρ) (ρ':=ρ.hold p) (λz z h=>h) λz z h n=>⟨Rh.nhold n (ne_of_none h hp),h⟩
def jN.map{ρ1:Rh}{H1:Hp}{a:Addr}{o:DO}(k:H1 a=H a)(f:∀vs ds,Cvs mg ρ H vs ds->Cvs mg ρ1 H1 vs ds)(h:jN mg ρ H a o):jN mg ρ1 H1 a o:=by
 cases o with
 |lst l=>obtain⟨xs,h,c⟩:=h;exact⟨xs,k.trans h,f _ _ c⟩
 |dic ks l=>obtain⟨xs,h,q,c⟩:=h;exact⟨xs,k.trans h,q,f _ _ c⟩
 |ins c ns l=>obtain⟨C,dx,xs,m,h,q,c⟩:=h;exact⟨C,dx,xs,m,k.trans h,q,f _ _ c⟩
def J.begin{M:Mo}(j:J mg ρ M H){p:Addr}(hp:H p=none):J mg (ρ.hold p) M (L2.upd H p (.lst [])):=by
 have np:p∉ρ.st:=λz=>j.fresh hp (.inl z)
 refine⟨j.len,j.nd,λn a o h1 h2=>?_,λa ha=>?_⟩
 ·exact (j.obj n a o h1 h2).map (upd_ne λ(z:a=p)=>np (z ▸ Vo h1)) λvs ds c=>(c.more hp).hold (.head _)
 ·rcases Vf.mp ha with rfl | ha
  ·exact⟨np,[],upd_same⟩
  ·obtain⟨x,xs,e⟩:=j.vol a ha;exact⟨x,xs,by rw[upd_ne (ne_of_none e hp)];exact e⟩
def J.grow{M:Mo}(j:J mg ρ M H){p:Addr}{ys:List V}(hp:p∈ρ.vo):J mg ρ M (L2.upd H p (.lst ys)):=by
 refine⟨j.len,j.nd,λn a o h1 h2=>?_,λa ha=>?_⟩
 ·exact (j.obj n a o h1 h2).map (upd_ne λ(z:a=p)=>(j.vol p hp).1 (z ▸ Vo h1)) λvs ds c=>c.hold hp
 ·by_cases z:a=p
  ·subst z;exact⟨(j.vol a ha).1,ys,upd_same⟩
  ·obtain⟨x,xs,e⟩:=j.vol a ha;exact⟨x,xs,by rw[upd_ne z];exact e⟩
def J.done{M:Mo}{p:Addr}{ρ1:Rh}(j:J mg ρ1 M H)(hv:ρ1.vo=p::ρ.vo):J mg ⟨ρ1.st,ρ.vo⟩ M H:=by
 refine⟨j.len,j.nd,λn a o h1 h2=>?_,λa ha=>?_⟩
 ·exact jN.map (ρ:=ρ1) rfl (λvs ds c=>Cvs.less (ρ:=ρ1) (ρ1:=⟨ρ1.st,ρ.vo⟩) rfl (λa ha=>by rw[hv];exact .tail _ ha) c) (j.obj n a o h1 h2)
 ·obtain⟨x,y⟩:=j.vol a (by rw[hv];exact .tail _ ha)
  exact⟨x,y⟩
end
structure Kp(ρ:Rh)(H:Hp)(ρ':Rh)(H':Hp):Prop where
 pre:∃τ,ρ'.st=ρ.st++τ
 keep:∀a o,H a=some o->a∉ρ->a∉ρ'/\H' a=some o
def Ext.kp{ρ ρ':Rh}{H H':Hp}(e:Ext ρ H ρ' H'):Kp ρ H ρ' H':=⟨e.pre,λa o h n=>⟨e.out h n,e.keeps h n⟩⟩
def Kp.trans{ρ ρ1 ρ2:Rh}{H H1 H2:Hp}(a:Kp ρ H ρ1 H1)(b:Kp ρ1 H1 ρ2 H2):Kp ρ H ρ2 H2:=by
 refine⟨?_,λc o h n=>let ⟨x,y⟩:=a.keep c o h n;b.keep c o y x⟩
 obtain⟨τ,h1⟩:=a.pre;obtain⟨υ,h2⟩:=b.pre;exact⟨τ++υ,by rw[h2,h1,WN]⟩
def Kp.at{ρ ρ':Rh}{H H':Hp}(e:Kp ρ H ρ' H'){n:Nat}{a:Addr}(h:ρ.st[n]?=some a):ρ'.st[n]?=some a:=by obtain⟨τ,h1⟩:=e.pre;rw[h1,Vb (UW.mp h).1];exact h
section
variable{mg:Str->Option Value}{ρ ρ':Rh}{H H':Hp}
def Cv.kp(e:Kp ρ H ρ' H'){v:V}{d:D}(h:Cv mg ρ H v d):Cv mg ρ' H' v d:=h.gen (λz z=>e.at) e.keep
def Cvs.kp(e:Kp ρ H ρ' H'){v:List V}{d:List D}(h:Cvs mg ρ H v d):Cvs mg ρ' H' v d:=h.gen (λz z=>e.at) e.keep
end
def pB(mg:Str->Option Value)(ρ:Rh)(H:Hp){α β:Type}(rel:Rh->Hp->β->α->Prop)(Q:β->Hp->Prop)(E:XK):R α×Mo->Prop
 |(.ok a,M')=>∀ρ' H' b,Ext ρ H ρ' H'->J mg ρ' M' H'->rel ρ' H' b a->Q b H'
 |(.exc c,M')=>∀ρ' H' C,Ext ρ H ρ' H'->J mg ρ' M' H'->mg c=some (.ref C)->E (.ref C) none H'
def Go(mg:Str->Option Value)(E:XK){α β:Type}(rel:Rh->Hp->β->α->Prop)(Q:β->Hp->Prop)(ρ:Rh)(H:Hp)(m:DM α)(M:Mo):Prop:=∃r,m M=some r/\pB mg ρ H rel Q E r
section
variable{mg:Str->Option Value}{ρ ρ':Rh}{H H':Hp}{E:XK}{α β γ δ':Type}{rel:Rh->Hp->β->α->Prop}{rel':Rh->Hp->δ'->γ->Prop}{Q:δ'->Hp->Prop}{Q':β->Hp->Prop}
def pB.mono{r:R α×Mo}(e:Ext ρ H ρ' H')(h:pB mg ρ H rel Q' E r):pB mg ρ' H' rel Q' E r:=by
 obtain⟨r,M'⟩:=r;cases r with
 |ok a=>exact λρ2 H2 b e2 j c=>h ρ2 H2 b (e.trans e2) j c
 |exc c=>exact λρ2 H2 C e2 j m=>h ρ2 H2 C (e.trans e2) j m
set_option tactic.hygienic true in
theorem Go.bind{m:DM α}{k:α->DM γ}{M:Mo}(g:Go mg E rel' Q ρ H (m>>=k) M)
  (f:∀ρ1 H1 M1 b a,Ext ρ H ρ1 H1->J mg ρ1 M1 H1->rel ρ1 H1 b a->Go mg E rel' Q ρ1 H1 (k a) M1->Q' b H1):Go mg E rel Q' ρ H m M:=by
 obtain⟨r,e,p⟩:=g;have e:DM.bind m k M=some r:=e;unfold DM.bind at e;split at e
 ·cases e
 ·rename_i c M' em;cases e;exact⟨_,em,p⟩
 ·rename_i a M' em;exact⟨_,em,λρ1 H1 b x j c=>f ρ1 H1 M' b a x j c ⟨r,e,p.mono x⟩⟩
theorem Go.rd{f:Mo->Option α}{M:Mo}(g:Go mg E rel Q' ρ H (rd f) M):∃a,f M=some a/\∀ρ' H' b,Ext ρ H ρ' H'->J mg ρ' M H'->rel ρ' H' b a->Q' b H':=by obtain⟨r,e,p⟩:=g;obtain⟨a,e1,rfl⟩:=U4.mp e;exact⟨a,e1,p⟩
theorem Go.opt{o:Option α}{M:Mo}(g:Go mg E rel Q' ρ H (opt o) M):∃a,o=some a/\∀ρ' H' b,Ext ρ H ρ' H'->J mg ρ' M H'->rel ρ' H' b a->Q' b H':=by obtain⟨r,e,p⟩:=g;obtain⟨a,e1,rfl⟩:=U4.mp e;exact⟨a,e1,p⟩
theorem Go.pure{a:α}{M:Mo}(g:Go mg E rel Q' ρ H (pure a) M):∀ρ' H' b,Ext ρ H ρ' H'->J mg ρ' M H'->rel ρ' H' b a->Q' b H':=by obtain⟨r,e,p⟩:=g;have e:some (R.ok a,M)=some r:=e;cases e;exact p
end
structure Ev(mg:Str->Option Value)(ρ:Rh)(H:Hp)(σ:St)(δ:aj):Prop where
 len:σ.length=δ.length
 val:∀(i:Nat) d,δ[i]?=some (some d)->∃v,σ[i]?=some (some v)/\Cv mg ρ H v d
theorem Ev.mono{mg:Str->Option Value}{ρ ρ':Rh}{H H':Hp}{σ:St}{δ:aj}(e:Ext ρ H ρ' H')(h:Ev mg ρ H σ δ):Ev mg ρ' H' σ δ:=
 ⟨h.len,λi d q=>let ⟨v,a,b⟩:=h.val i d q;⟨v,a,b.mono e⟩⟩
theorem Ev.kp{mg:Str->Option Value}{ρ ρ':Rh}{H H':Hp}{σ:St}{δ:aj}(e:Kp ρ H ρ' H')(h:Ev mg ρ H σ δ):Ev mg ρ' H' σ δ:=
 ⟨h.len,λi d q=>let ⟨v,a,b⟩:=h.val i d q;⟨v,a,b.kp e⟩⟩
theorem Ev.set{mg:Str->Option Value}{ρ:Rh}{H:Hp}{σ:St}{δ:aj}{i:Nat}{v:V}{d:D}(h:Ev mg ρ H σ δ)(c:Cv mg ρ H v d):Ev mg ρ H (σ.set i (some v)) (δ.set i (some d)):=by
 refine⟨by rw[Xk,Xk,h.len],λj x q=>?_⟩
 by_cases e:j=i
 ·subst e;have hj:j<(δ.set j (some d)).length:=(UW.mp q).1;rw[Xk]at hj;rw[V1 hj]at q;cases q;exact⟨v,V1 (by rw[h.len];exact hj),c⟩
 ·rw[Wf (λz=>e z.symm)]at q ⊢
  exact h.val j x q
def tD(mg:Str->Option Value)(E:XK){α β:Type}(rel:Rh->Hp->β->α->Prop)(f:aj->DM α):St->Hp->(β->Hp->Prop)->Prop:=λσ H Q=>
 ∃ρ δ M,Ev mg ρ H σ δ/\J mg ρ M H/\Go mg E rel Q ρ H (f δ) M
def Bv(_:Rh)(_:Hp)(b a:Bool):Prop:=b=a
structure DE(X:Cx)(E:XK)(e:Expr)(f:aj->DM D):Prop where
 h:PE X e (tD X.mg E (Cv X.mg) f)
structure DA(X:Cx)(E:XK)(es:List Expr)(f:aj->DM (List D)):Prop where
 h:QA X es (tD X.mg E (Cvs X.mg) f)
structure DT(X:Cx)(E:XK)(e:Expr)(f:aj->DM Bool):Prop where
 h:PT X e (tD X.mg E Bv f)
def PE.mono{X:Cx}{e:Expr}{t t':TE}(h:PE X e t)(f:∀σ H Q,t' σ H Q->t σ H Q):PE X e t':=λZo s σ H Q I q=>h Zo s σ H Q I (f σ H Q q)
def PT.mono{X:Cx}{e:Expr}{t t':TT}(h:PT X e t)(f:∀σ H Q,t' σ H Q->t σ H Q):PT X e t':=λZo s σ H Q I q=>h Zo s σ H Q I (f σ H Q q)
def PA.mono{X:Cx}{e:List Expr}{t t':TA}(h:PA X e t)(f:∀σ H Q,t' σ H Q->t σ H Q):PA X e t':=λp Zo s σ H Q I q=>h p Zo s σ H Q I (f σ H Q q)
mutual
def toPy:D->Option PyData
 |.non=>some .none
 |.bl b=>some (.bool b)
 |.int i=>some (.int i)
 |.str x=>some (.str x)
 |.tup l=>(fH l).map .tuple
 |.lst l=>(fH l).map .list
 |_=>none
def fH:List D->Option (List PyData)
 |[]=>some []
 |d::l=>match toPy d,fH l with
   |some p,some ps=>some (p::ps)
   |_,_=>none
end
mutual
def dF:D->Option PyData
 |.non=>some .none
 |.bl b=>some (.bool b)
 |.int i=>some (.int i)
 |.str x=>some (.str x)
 |.tup l=>(dm l).map .tuple
 |.lst l=>(dm l).map .list
 |.dic [] []=>some (.dict [])
 |.dic [.inl i] [.int j]=>some (.dict [(.int i,.int j)])
 |_=>none
def dm:List D->Option (List PyData)
 |[]=>some []
 |d::l=>match dF d,dm l with
   |some p,some ps=>some (p::ps)
   |_,_=>none
end
section
variable{mg:Str->Option Value}{ρ:Rh}{H:Hp}
def nO{α:Type}{p:α}{P:Prop}(e:none=some p):P:=nomatch e
def HR{ks:List Key}{ds:List D}{p:PyData}(e:dF (.dic ks ds)=some p):(ks=[]/\ds=[]/\.dict []=p)\/∃i j,ks=[.inl i]/\ds=[.int j]/\.dict [(.int i,.int j)]=p:=by
 match ks,ds,e with
 |[],[],e=>exact .inl ⟨rfl,rfl,Vc e⟩
 |[.inl i],[.int j],e=>exact .inr ⟨i,j,rfl,rfl,Vc e⟩
def Cvs.repF{vs:List V}{ds:List D}{ps:List PyData}(h:Cvs mg ρ H vs ds):fH ds=some ps->RepsF H true vs ps:=
 Cvs.rec (motive_1:=λv d z=>∀ p,toPy d=some p->RepF H true v p) (motive_2:=λvs ds z=>∀ ps,fH ds=some ps->RepsF H true vs ps)
  (λz e=>Vc e ▸ .non) (λb z e=>Vc e ▸ .bl b) (λb z e=>Vc e ▸ .int b) (λb z e=>Vc e ▸ .str b)
  (λz h z c z e=>by obtain⟨ps,e1,e2⟩:=U4.mp e;exact e2 ▸ .tup h (c _ e1)) (λz h z c z e=>by obtain⟨ps,e1,e2⟩:=U4.mp e;exact e2 ▸ .lst h (c _ e1))
  (λz z z z z z e=>nO e) (λz z z z z z z e=>nO e) (λz z z e=>nO e) (λz z e=>nO e) (λz z e=>nO e) (λz z e=>nO e) (λz z e=>nO e)
  (λz e=>Vc e ▸ .nil) (λ{_ d _ l} _ _ i j _ e=>by
    revert e;show (match toPy d,fH l with | some p,some ps=>some (p::ps) | _,_=>none)=_->_
    cases h1:toPy d with
    |none=>exact λe=>nO e
    |some p=>cases h2:fH l with
      |none=>exact λe=>nO e
      |some q=>exact λe=>Vc e ▸ .cons (i _ h1) (j _ h2)) h ps
theorem Cv.repF{v:V}{d:D}{p:PyData}(h:Cv mg ρ H v d)(e:toPy d=some p):RepF H true v p:=by
 have z:fH [d]=some [p]:=by
  show (match toPy d,some [] with | some p,some ps=>some (p::ps) | _,_=>none)=_
  rw[e]
 cases Cvs.repF (.cons h .nil) z;assumption
def Cvs.repD{vs:List V}{ds:List D}{ps:List PyData}(h:Cvs mg ρ H vs ds):dm ds=some ps->RepsF H false vs ps:=
 Cvs.rec (motive_1:=λv d y=>∀ p,dF d=some p->RepF H false v p) (motive_2:=λvs ds y=>∀ ps,dm ds=some ps->RepsF H false vs ps)
  (λy e=>Vc e ▸ .non) (λb y e=>Vc e ▸ .bl b) (λb y e=>Vc e ▸ .int b) (λb y e=>Vc e ▸ .str b)
  (λy h y c y e=>by obtain⟨ps,e1,e2⟩:=U4.mp e;exact e2 ▸ .tup h (c _ e1)) (λy h y c y e=>by obtain⟨ps,e1,e2⟩:=U4.mp e;exact e2 ▸ .lst h (c _ e1))
  (λy h y c y y e=>by
    rcases HR e with ⟨rfl,rfl,z⟩ | ⟨i,j,rfl,rfl,z⟩
    ·cases c;exact z ▸ .d0 h
    ·cases c with
     |cons c1 c2=>cases c2;cases c1;exact z ▸ .d1 h) (λy y y y y y y e=>nO e) (λy y y e=>nO e) (λy y e=>nO e) (λy y e=>nO e) (λy y e=>nO e) (λy y e=>nO e)
  (λy e=>Vc e ▸ .nil) (λ{_ d _ l} _ _ i j _ e=>by
    revert e;show (match dF d,dm l with | some p,some ps=>some (p::ps) | _,_=>none)=_->_
    cases h1:dF d with
    |none=>exact λe=>nO e
    |some p=>cases h2:dm l with
      |none=>exact λe=>nO e
      |some q=>exact λe=>Vc e ▸ .cons (i _ h1) (j _ h2)) h ps
theorem Cv.repD{v:V}{d:D}{p:PyData}(h:Cv mg ρ H v d)(e:dF d=some p):RepF H false v p:=by
 have z:dm [d]=some [p]:=by
  show (match dF d,some [] with | some p,some ps=>some (p::ps) | _,_=>none)=_
  rw[e]
 cases Cvs.repD (.cons h .nil) z;assumption
end
section
variable{X:Cx}{E:XK}{a b c:Expr}{fa fb fc:aj->DM D}{pos:Pos}
def fJ(i:Nat)(δ:aj):DM D:=opt ((δ[i]?).join)
def aa(i:Nat){x:Str}(hN:X.N[i]?=some x:=by rfl)(hv:Vis X.env.scope x:=by first | exact Or.inl rfl | exact Or.inr (Or.inl rfl) | exact Or.inr (Or.inr rfl))(hd:(x==("__debug__":Str))=false:=by decide)
  (hcd:(x==("__classdict__":Str))=false:=by decide):DE X E (.Name x pos) (fJ i):=⟨PE.mono (pe_var (i:=i) hN hv hd hcd) λσ H Q h=>by
 obtain⟨ρ,δ,M,ev,j,g⟩:=h;obtain⟨d,e,q⟩:=g.opt;have e':δ[i]?=some (some d):=by
  cases z:δ[i]? with
  |none=>rw[z]at e;cases e
  |some o=>rw[z]at e;exact congrArg some e
 obtain⟨v,h1,h2⟩:=ev.val i d e';exact⟨v,h1,q ρ H v .refl j h2⟩⟩
def gM{e:Expr}{v:V}{d:D}(h:PE X e (tC v))(hc:∀ρ H,Cv X.mg ρ H v d):DE X E e (λz=>pure d):=⟨PE.mono h λσ H Q h=>by obtain⟨ρ,δ,M,ev,j,g⟩:=h;exact g.pure ρ H v .refl j (hc _ _)⟩
def aq{i j}:DE X E (.Constant (.int i) j pos) (λz=>pure (.int i)):=gM pe_int λz z=>.int i
def d8{i j}:DE X E (.Constant (.bool i) j pos) (λz=>pure (.bl i)):=gM pe_bl λz z=>.bl i
def FJ{j}:DE X E (.Constant .none j pos) (λz=>pure .non):=gM pe_non λz z=>.non
def xX{x j}:DE X E (.Constant (.str x) j pos) (λz=>pure (.str x)):=gM pe_str λz z=>.str x
def Dg{x:Str}{i:Int}{t:Tok}(h:X.mg x=some (.int i t))(hg:Gl X x:=by rfl)(hd:(x==("__debug__":Str))=false:=by decide):DE X E (.Name x pos) (λz=>pure (.int i)):=gM (Ro h hg hd) λz z=>.int i
def fV{x:Str}{T:String}(hm:X.mg x=none)(hg:Gl X x:=by rfl)(hv:bootBuiltins x=some (.type T):=by decide +kernel)(hn:x≠"__name__":=by decide)(hdb:(x==("__debug__":Str))=false:=by decide):DE X E (.Name x pos) (λz=>pure (.ty T)):=
 gM (Rq hm hg hv hn hdb) λz z=>.ty T
def rD(mg:Str->Option Value)(E:XK)(g:D->D->DM D):R2:=λx y H Q=>∃ρ M dx dy,J mg ρ M H/\Cv mg ρ H x dx/\Cv mg ρ H y dy/\Go mg E (Cv mg) Q ρ H (g dx dy) M
def bF(X:Cx)(E:XK)(f:Value->Value->Sem Value)(g:D->D->DM D):Prop:=OpR X f (rD X.mg E g)
def Bg{g:D->D->DM D}{r:R2}(hr:∀x y H Q,rD X.mg E g x y H Q->r x y H Q){σ:L2.St}{H:Hp}{Q:VK}(h:tD X.mg E (Cv X.mg) (λδ=>fa δ>>=λx=>fb δ>>=λy=>g x y) σ H Q):
  tOp r (tD X.mg E (Cv X.mg) fa) (tD X.mg E (Cv X.mg) fb) σ H Q:=by
 obtain⟨ρ,δ,M,ev,j,g1⟩:=h;exact⟨ρ,δ,M,ev,j,g1.bind λρ1 H1 M1 x dx e1 j1 c1 g2=>⟨ρ1,δ,M1,ev.mono e1,j1,g2.bind λρ2 H2 M2 y dy e2 j2 c2 g3=>hr _ _ _ _ ⟨ρ2,M2,dx,dy,j2,c1.mono e2,c2,g3⟩⟩⟩
def aD{op:Operator}{g:D->D->DM D}(ho:bF X E (binaryOp op) g)(ha:DE X E a fa)(hb:DE X E b fb):DE X E (.BinOp a op b pos) (λδ=>fa δ>>=λx=>fb δ>>=λy=>g x y):=
 ⟨PE.mono (pe_op ho ha.h hb.h) λσ H Q h=>Bg (λw w w w z=>z) h⟩
def iM{op:CmpOp}{g:D->D->DM D}(ho:bF X E (compareOp op) g)(ha:DE X E a fa)(hb:DE X E b fb)(hm:behindInMarks op b=false:=by first | exact nomark _ | rfl):DE X E (.Compare a [op] [b] pos) (λδ=>fa δ>>=λx=>fb δ>>=λy=>g x y):=
 ⟨PE.mono (pe_cmpR ho ha.h hb.h hm) λσ H Q h=>Bg (λw w w w z=>z) h⟩
def iG:D->DM Bool
 |.bl b=>pure b
 |_=>stuck
theorem Go.iG{mg:Str->Option Value}{ρ:Rh}{H:Hp}{d:D}{M:Mo}{Q:Bool->Hp->Prop}(g:Go mg E Bv Q ρ H (iG d) M):∃k,d=.bl k/\∀ρ' H',Ext ρ H ρ' H'->J mg ρ' M H'->Q k H':=by
 cases d with
 |bl k=>exact⟨k,rfl,λρ' H' e j=>(show Go mg E Bv Q ρ H (Pure.pure k) M from g).pure ρ' H' k e j rfl⟩
 |_=>obtain⟨r,e,_⟩:=g;cases e
def dt_of{e:Expr}{f:aj->DM D}{t:TE}(h:PT X e (tTest t))(ht:∀σ H Q,tD X.mg E (Cv X.mg) f σ H Q->t σ H Q):DT X E e (λδ=>f δ>>=iG):=⟨PT.mono h λσ H Q h=>by
 obtain⟨ρ,δ,M,ev,j,g1⟩:=h;refine ht _ _ _ ⟨ρ,δ,M,ev,j,g1.bind λρ1 H1 M1 x dx e1 j1 c1 g2=>?_⟩
 obtain⟨k,rfl,q⟩:=Go.iG g2;cases c1;exact⟨k,rfl,q ρ1 H1 .refl j1⟩⟩
def aY{op:CmpOp}{g:D->D->DM D}(ho:bF X E (compareOp op) g)(ha:DE X E a fa)(hb:DE X E b fb)(hm:behindInMarks op b=false:=by first | exact nomark _ | rfl):DT X E (.Compare a [op] [b] pos) (λδ=>(fa δ>>=λx=>fb δ>>=λy=>g x y)>>=iG):=
 dt_of (pt_cmpR ho ha.h hb.h hm) λσ H Q h=>Bg (λw w w w z=>z) h
def SX{g g':D->D->DM D}{σ:L2.St}{H:Hp}{Q:VK}(h:tD X.mg E (Cv X.mg) (λδ=>fa δ >>= λx=>fb δ >>= λy=>g x y >>= λz=>iG z >>= λk=>if k then fc δ >>= λw=>g' y w else pure (.bl false)) σ H Q):
  tChain (rD X.mg E g) (rD X.mg E g') (tD X.mg E (Cv X.mg) fa) (tD X.mg E (Cv X.mg) fb) (tD X.mg E (Cv X.mg) fc) σ H Q:=by
 obtain⟨ρ,δ,M,ev,j,g1⟩:=h;refine⟨ρ,δ,M,ev,j,g1.bind λρ1 H1 M1 x dx e1 j1 c1 g2=>⟨ρ1,δ,M1,ev.mono e1,j1,g2.bind λρ2 H2 M2 y dy e2 j2 c2 g3=>⟨ρ2,M2,dx,dy,j2,c1.mono e2,c2,g3.bind λρ3 H3 M3 z dz e3 j3 c3 g4=>?_⟩⟩⟩
 have g5:=g4.bind (rel:=Bv) (Q':=λk H4=>dz=.bl k/\∃ρ4 M4,Ext ρ3 H3 ρ4 H4/\J X.mg ρ4 M4 H4/\Go X.mg E (Cv X.mg) Q ρ4 H4 (if k then fc δ>>=λw=>g' dy w else pure (.bl false)) M4)
 have key:∃k,dz=.bl k/\Go X.mg E (Cv X.mg) Q ρ3 H3 (if k then fc δ>>=λw=>g' dy w else pure (.bl false)) M3:=by
  cases dz with
  |bl k=>exact⟨k,rfl,g4⟩
  |_=>obtain⟨r,e,_⟩:=g4;cases e
 obtain⟨k,rfl,g6⟩:=key;cases c3;refine⟨k,rfl,?_⟩;cases k with
 |false=>exact iteF (g6.pure ρ3 H3 _ .refl j3 (.bl false))
 |true=>
   have g6:Go X.mg E (Cv X.mg) Q ρ3 H3 (fc δ>>=λw=>g' dy w) M3:=g6
   exact iteT ⟨ρ3,δ,M3,((ev.mono e1).mono e2).mono e3,j3,g6.bind λρ4 H4 M4 w dw e4 j4 c4 g7=>⟨ρ4,M4,dy,dw,j4,(c2.mono e3).mono e4,c4,g7⟩⟩
def Ja{op op':CmpOp}{g g':D->D->DM D}(ho:bF X E (compareOp op) g)(ho':bF X E (compareOp op') g')(ha:DE X E a fa)(hb:DE X E b fb)(hc:DE X E c fc)(hm:lastMarks [op,op'] [b,c]=false:=by with_unfolding_all rfl):
  DE X E (.Compare a [op,op'] [b,c] pos) (λδ=>fa δ>>=λx=>fb δ>>=λy=>g x y>>=λz=>iG z>>=λk=>if k then fc δ>>=λw=>g' y w else pure (.bl false)):=
 ⟨PE.mono (pe_chain ho ho' ha.h hb.h hc.h hm) λσ H Q h=>SX h⟩
def sG{op op':CmpOp}{g g':D->D->DM D}(ho:bF X E (compareOp op) g)(ho':bF X E (compareOp op') g')(ha:DE X E a fa)(hb:DE X E b fb)(hc:DE X E c fc)(hm:lastMarks [op,op'] [b,c]=false:=by with_unfolding_all rfl):
  DT X E (.Compare a [op,op'] [b,c] pos) (λδ=>(fa δ>>=λx=>fb δ>>=λy=>g x y>>=λz=>iG z>>=λk=>if k then fc δ>>=λw=>g' y w else pure (.bl false))>>=iG):=
 dt_of (pt_chain ho ho' ha.h hb.h hc.h hm) λσ H Q h=>SX h
def iB:D->Mo->Option Bool
 |.non,_=>some false
 |.bl b,_=>some b
 |.int i,_=>some (i != 0)
 |.str y,_=>if y.length<=sizeLine then some ((y.length:Int) != 0) else none
 |.tup l,_=>some (!l.isEmpty)
 |.lst l,_=>some (!l.isEmpty)
 |.scr l,_=>some (!l.isEmpty)
 |.dic ks _,_=>some (!ks.isEmpty)
 |.ref n,M=>match M[n]? with
   |some (.lst l)=>some (!l.isEmpty)
   |some (.dic ks _)=>some (!ks.isEmpty)
   |_=>none
 |_,_=>none
def wH{α β:Type}{ks:List α}{xs:List β}(h:ks.length=xs.length):(ks.zip xs).isEmpty=ks.isEmpty:=by
 cases ks with
 |nil=>simp
 |cons k ks=>cases xs with
   |nil=>simp at h
   |cons x xs=>rfl
def Cvs.empty{mg:Str->Option Value}{ρ:Rh}{H:Hp}{vs:List V}{ds:List D}(c:Cvs mg ρ H vs ds):vs.isEmpty=ds.isEmpty:=by cases c<;>rfl
set_option tactic.hygienic true in
def QS{K:PySem.W.Frag}{mg:Str->Option Value}{ρ:Rh}{H:Hp}{M:Mo}{x:V}{d:D}{k:Bool}(j:J mg ρ M H)(h:Cv mg ρ H x d)(e:iB d M=some k):TruV K x H k:=by
 cases h with
 |non=>cases e;rfl
 |bl b=>cases e;rfl
 |int i=>cases e;rfl
 |str y=>
   unfold iB at e;dsimp only at e;split at e
   ·cases e;exact⟨‹_›,rfl⟩
   ·cases e
 |tup n h c=>cases e;exact .inr (.inl ⟨_,SqT.of h,by rw[c.empty]⟩)
 |lst n h c=>cases e;exact .inl ⟨_,SqL.of h,by rw[c.empty]⟩
 |scr n h=>cases e;exact .inl ⟨_,.inl h,by simp⟩
 |dic n h l c=>cases e;exact .inr (.inr ⟨_,h,by rw[wH l]⟩)
 | ref q=>
   rename_i n a;unfold iB at e;dsimp only at e;split at e
   ·rename_i l hl;cases e;obtain⟨xs,h,c⟩:=j.obj n a _ q hl;exact .inl ⟨_,SqL.of h,by rw[c.empty]⟩
   ·rename_i ks l hl;cases e;obtain⟨xs,h,z,c⟩:=j.obj n a _ q hl;exact .inr (.inr ⟨_,h,by rw[wH z]⟩)
   ·cases e
 |obj=>cases e
 |cls=>cases e
 |ty=>cases e
 |exn=>cases e
def bw(ha:DE X E a fa)(he:∀whole,isTrue a X.env whole=(do let v <-whole;standAt a.pos;holding [v] (truthy v))):DT X E a (λδ=>fa δ>>=λx=>rd (iB x)):=⟨PT.mono (pt_truth ha.h he) λσ H Q h=>by
 obtain⟨ρ,δ,M,ev,j,g1⟩:=h;refine⟨ρ,δ,M,ev,j,g1.bind λρ1 H1 M1 x dx e1 j1 c1 g2=>?_⟩
 obtain⟨k,e,q⟩:=g2.rd;exact⟨k,QS j1 c1 e,q ρ1 H1 k .refl j1 rfl⟩⟩
variable{ta tb:aj->DM Bool}
def cB(ha:DT X E a ta):DT X E (.UnaryOp .Not a pos) (λδ=>ta δ>>=λk=>pure (!k)):=⟨PT.mono (pt_not ha.h) λσ H Q h=>by
 obtain⟨ρ,δ,M,ev,j,g1⟩:=h;refine⟨ρ,δ,M,ev,j,g1.bind λρ1 H1 M1 x dx e1 j1 c1 g2=>?_⟩
 have c1:x=dx:=c1;subst c1;exact g2.pure ρ1 H1 _ .refl j1 rfl⟩
structure DW(X:Cx)(E:XK)(e:Expr)(f:aj->DM Bool):Prop where
 h:PW X e (tD X.mg E Bv f)
def PW.mono{e:Expr}{t t':TT}(h:PW X e t)(f:∀σ H Q,t' σ H Q->t σ H Q):PW X e t':=λw Zo s σ H Q I q=>h w Zo s σ H Q I (f σ H Q q)
def DW.dt{e:Expr}(h:DW X E e ta):DT X E e ta:=⟨PW.pt h.h⟩
def Bb(ha:DT X E a ta):DW X E (.BoolOp .And [a] pos) ta:=⟨pw_and1 ha.h⟩
def fj(ha:DT X E a ta):DW X E (.BoolOp .Or [a] pos) ta:=⟨pw_or1 ha.h⟩
variable{rest:List Expr}
def Gf(ha:DT X E a ta)(hb:DW X E (.BoolOp .And (b::rest) pos) tb):DW X E (.BoolOp .And (a::b::rest) pos) (λδ=>ta δ>>=λk=>if k then tb δ else pure false):=⟨PW.mono (pw_and ha.h hb.h) λσ H Q h=>by
 obtain⟨ρ,δ,M,ev,j,g1⟩:=h;refine⟨ρ,δ,M,ev,j,g1.bind λρ1 H1 M1 x dx e1 j1 c1 g2=>?_⟩
 have c1:x=dx:=c1;subst c1;cases x with
 |true=>exact iteT ⟨ρ1,δ,M1,ev.mono e1,j1,g2⟩
 |false=>exact iteF (Go.pure (a:=false) g2 ρ1 H1 _ .refl j1 rfl)⟩
def fY(ha:DT X E a ta)(hb:DW X E (.BoolOp .Or (b::rest) pos) tb):DW X E (.BoolOp .Or (a::b::rest) pos) (λδ=>ta δ>>=λk=>if k then pure true else tb δ):=⟨PW.mono (pw_or ha.h hb.h) λσ H Q h=>by
 obtain⟨ρ,δ,M,ev,j,g1⟩:=h;refine⟨ρ,δ,M,ev,j,g1.bind λρ1 H1 M1 x dx e1 j1 c1 g2=>?_⟩
 have c1:x=dx:=c1;subst c1;cases x with
 |false=>exact iteF ⟨ρ1,δ,M1,ev.mono e1,j1,g2⟩
 |true=>exact iteT (Go.pure (a:=true) g2 ρ1 H1 _ .refl j1 rfl)⟩
def mZ{op:BoolOp}(ha:DE X E a fa):DE X E (.BoolOp op [a] pos) fa:=⟨pe_one ha.h⟩
def Go.isB{mg:Str->Option Value}{ρ:Rh}{H:Hp}{α β:Type}{rel:Rh->Hp->β->α->Prop}{Q:β->Hp->Prop}{d:D}{M:Mo}{f:Bool->DM α}(g:Go mg E rel Q ρ H (L3.iG d>>=f) M):∃k,d=.bl k/\Go mg E rel Q ρ H (f k) M:=by
 cases d with
 |bl k=>exact⟨k,rfl,g⟩
 |_=>obtain⟨r,e,_⟩:=g;cases e
def mY(ha:DE X E a fa)(hb:DE X E (.BoolOp .And (b::rest) pos) fb):DE X E (.BoolOp .And (a::b::rest) pos) (λδ=>fa δ>>=λx=>iG x>>=λk=>if k then fb δ else pure (.bl false)):=⟨PE.mono (pe_and ha.h hb.h) λσ H Q h=>by
 obtain⟨ρ,δ,M,ev,j,g1⟩:=h;refine⟨ρ,δ,M,ev,j,g1.bind λρ1 H1 M1 x dx e1 j1 c1 g2=>?_⟩
 obtain⟨k,rfl,g3⟩:=Go.isB g2;cases c1;refine⟨k,rfl,?_⟩;cases k with
 |true=>exact iteT ⟨ρ1,δ,M1,ev.mono e1,j1,g3⟩
 |false=>exact iteF (Go.pure (a:=D.bl false) g3 ρ1 H1 _ .refl j1 (.bl false))⟩
def FN(ha:DE X E a fa):DE X E (.UnaryOp .Not a pos) (λδ=>fa δ>>=λx=>iG x>>=λk=>pure (.bl (!k))):=⟨PE.mono (pe_not ha.h) λσ H Q h=>by
 obtain⟨ρ,δ,M,ev,j,g1⟩:=h;refine⟨ρ,δ,M,ev,j,g1.bind λρ1 H1 M1 x dx e1 j1 c1 g2=>?_⟩
 obtain⟨k,rfl,g3⟩:=Go.isB g2;cases c1;exact⟨k,rfl,g3.pure ρ1 H1 _ .refl j1 (.bl _)⟩⟩
def Q6(hc:DT X E c ta)(ha:DE X E a fa)(hb:DE X E b fb):DE X E (.IfExp c a b pos) (λδ=>ta δ>>=λk=>if k then fa δ else fb δ):=⟨PE.mono (pe_ifExp hc.h ha.h hb.h) λσ H Q h=>by
 obtain⟨ρ,δ,M,ev,j,g1⟩:=h;refine⟨ρ,δ,M,ev,j,g1.bind λρ1 H1 M1 x dx e1 j1 c1 g2=>?_⟩
 have c1:x=dx:=c1;subst c1;cases x with
 |true=>exact iteT ⟨ρ1,δ,M1,ev.mono e1,j1,g2⟩
 |false=>exact iteF ⟨ρ1,δ,M1,ev.mono e1,j1,g2⟩⟩
def ak:DA X E [] (λz=>pure []):=⟨⟨PA.mono Hc.h λσ H Q h=>by obtain⟨ρ,δ,M,ev,j,g⟩:=h;exact g.pure ρ H [] .refl j .nil⟩⟩
def ao{es:List Expr}{fs:aj->DM (List D)}(ha:DE X E a fa)(hr:DA X E es fs)(hs:notStar a=true:=by rfl):DA X E (a::es) (λδ=>fa δ>>=λx=>fs δ>>=λxs=>pure (x::xs)):=⟨⟨PA.mono (PX ha.h hr.h hs).h λσ H Q h=>by obtain⟨ρ,δ,M,ev,j,g1⟩:=h;exact⟨ρ,δ,M,ev,j,g1.bind λρ1 H1 M1 x dx e1 j1 c1 g2=>⟨ρ1,δ,M1,ev.mono e1,j1,g2.bind λρ2 H2 M2 xs dxs e2 j2 c2 g3=>g3.pure ρ2 H2 _ .refl j2 (.cons (c1.mono e2) c2)⟩⟩⟩⟩
def dD{α:Type}(l:List α):Bool:=decide (l.length<=sizeLine)
def lF(l:List D):DM D:=opt (if dD l then some (.tup l) else none)
def eO(l:List D):DM D:=opt (if dD l then some (.lst l) else none)
def eQ(l:List D):DM D:=λM=>if dD l then some (.ok (.ref M.length),M++[.lst l]) else none
set_option tactic.hygienic true in
def uA{l:List D}{d e:D}(h:(if dD l then some d else none)=some e):l.length<=sizeLine/\d=e:=by
 split at h
 ·cases h;exact⟨V3 ‹_›,rfl⟩
 ·cases h
variable{es:List Expr}{fs:aj->DM (List D)}
def cO{x1}(h:DA X E es fs):DE X E (.Tuple es x1 pos) (λδ=>fs δ>>=lF):=⟨PE.mono (Ml h.h) λσ H Q h=>by
 obtain⟨ρ,δ,M,ev,j,g1⟩:=h;refine⟨ρ,δ,M,ev,j,g1.bind λρ1 H1 M1 xs dxs e1 j1 c1 g2=>?_⟩
 obtain⟨d,e,q⟩:=Go.opt g2;obtain⟨hz,rfl⟩:=uA e;exact⟨by rw[c1.len];exact hz,λp hp=>q ρ1 _ _ (.lay hp) (j1.lay _ hp) (.tup (j1.fresh hp) upd_same (c1.mono (.lay hp)))⟩⟩
def bO(h:DA X E es fs):DE X E (.List es pos) (λδ=>fs δ>>=eO):=⟨PE.mono (BR h.h) λσ H Q h=>by
 obtain⟨ρ,δ,M,ev,j,g1⟩:=h;refine⟨ρ,δ,M,ev,j,g1.bind λρ1 H1 M1 xs dxs e1 j1 c1 g2=>?_⟩
 obtain⟨d,e,q⟩:=Go.opt g2;obtain⟨hz,rfl⟩:=uA e;exact⟨by rw[c1.len];exact hz,λp hp=>q ρ1 _ _ (.lay hp) (j1.lay _ hp) (.lst (j1.fresh hp) upd_same (c1.mono (.lay hp)))⟩⟩
set_option tactic.hygienic true in
theorem Go.eQ{mg:Str->Option Value}{ρ:Rh}{H:Hp}{M:Mo}{Q:VK}{l:List D}{xs:List V}{p:Addr}(g:Go mg E (Cv mg) Q ρ H (eQ l) M)(j:J mg ρ M H)(c:Cvs mg ρ H xs l)(hp:H p=none):l.length<=sizeLine/\Q (.ref p) (upd H p (.lst xs)):=by
 obtain⟨r,e,q⟩:=g;unfold L3.eQ at e;split at e
 ·cases e;refine⟨V3 ‹_›,?_⟩;have x:Ext ρ H (ρ.put p) (upd H p (.lst xs)):=.put hp;refine q _ _ _ x (j.put hp ⟨xs,upd_same,c.mono x⟩) (.ref ?_);show (ρ.st++[p])[_]?=_;rw[<-j.len];simp
 ·cases e
set_option tactic.hygienic true in
def Go.mkR_len{mg:Str->Option Value}{ρ:Rh}{H:Hp}{M:Mo}{Q:VK}{l:List D}(g:Go mg E (Cv mg) Q ρ H (L3.eQ l) M):l.length<=sizeLine:=by
 obtain⟨r,e,q⟩:=g;unfold L3.eQ at e;split at e
 ·exact V3 ‹_›
 ·cases e
def uR(h:DA X E es fs):DE X E (.List es pos) (λδ=>fs δ>>=eQ):=⟨PE.mono (BR h.h) λσ H Q h=>by
 obtain⟨ρ,δ,M,ev,j,g1⟩:=h;refine⟨ρ,δ,M,ev,j,g1.bind λρ1 H1 M1 xs dxs e1 j1 c1 g2=>?_⟩
 exact⟨by rw[c1.len];exact g2.mkR_len,λp hp=>(g2.eQ j1 c1 hp).2⟩⟩
end
section
variable{X:Cx}{E:XK}{mg:Str->Option Value}{ρ:Rh}{H:Hp}{M:Mo}
def Go.rdb(g:Go mg E rel Q ρ H (L3.rd f>>=k) M):∃a,f M=some a/\Go mg E rel Q ρ H (k a) M:=by
 obtain⟨r,e,p⟩:=g;have e:DM.bind _ _ M=some r:=e;unfold DM.bind L3.rd at e;cases h:f M with
 |none=>rw[h]at e;cases e
 |some a=>rw[h]at e;exact⟨a,rfl,r,e,p⟩
def bF.of{f:Value->Value->Sem Value}{g:D->D->Mo->Option D}(hr:OpR X f r)
  (h:∀x y H Q ρ M dx dy d,J X.mg ρ M H->Cv X.mg ρ H x dx->Cv X.mg ρ H y dy->g dx dy M=some d->(∀ρ' H' v,Ext ρ H ρ' H'->J X.mg ρ' M H'->Cv X.mg ρ' H' v d->Q v H')->r x y H Q):bF X E f (λx y=>rd (g x y)):=by
 intro Zo s σ H x y v u Q I rx ry q;obtain⟨ρ,M,dx,dy,j,cx,cy,go⟩:=q;obtain⟨d,e,p⟩:=go.rd;exact hr Zo s σ H x y v u Q I rx ry (h x y H Q ρ M dx dy d j cx cy e p)
def aR:D->Mo->Option (List D)
 |.lst l,_=>some l
 |.ref n,M=>match M[n]? with
   |some (.lst l)=>some l
   |_=>none
 |_,_=>none
set_option tactic.hygienic true in
def cP(j:J mg ρ M H){l:List D}(c:Cv mg ρ H x d)(e:aR d M=some l):∃ a xs,x=.ref a/\H a=some (.lst xs)/\Cvs mg ρ H xs l:=by
 cases c with
 |lst n h c=>cases e;exact⟨_,_,rfl,h,c⟩
 | ref q=>
   unfold aR at e;dsimp only at e;split at e
   ·rename_i l' hl;cases e;obtain⟨xs,h,c⟩:=j.obj _ _ _ q hl;exact⟨_,_,rfl,h,c⟩
   ·cases e
 |_=>cases e
def J.notup(j:J mg ρ M H)(h:H p=Option.some (HO.tup xs)):p∉ρ:=λz=>by
 rcases z with z | z
 rotate_left
 ·obtain⟨_,ys,e⟩:=j.vol p z;rw[h]at e;cases e
 obtain⟨n,hn⟩:=XR.mp z;have lt:n<M.length:=by rw[<-j.len];exact (UW.mp hn).1
 have c:=j.obj n p M[n] hn (U3 lt);cases hm:M[n] with
 |lst l=>rw[hm]at c;obtain⟨xs,e,_⟩:=c;rw[h]at e;cases e
 |dic ks l=>rw[hm]at c;obtain⟨xs,e,_⟩:=c;rw[h]at e;cases e
 |ins c' ns l=>rw[hm]at c;obtain⟨_,_,_,_,e,_⟩:=c;rw[h]at e;cases e
def QV(l:List D):Option D:=if dD l then some (.tup l) else none
def u9(l:List D):Option D:=if dD l then some (.lst l) else none
def bY:D->D->Mo->Option D
 |.int i,.int j,_=>some (.int (i+j))
 |.str a,.str b,_=>if a.length+b.length<=sizeLine then some (.str (a++b)) else none
 |.tup l,.tup m,_=>QV (l++m)
 |x,y,M=>match aR x M,aR y M with
   |some l,some m=>u9 (l++m)
   |_,_=>none
set_option tactic.hygienic true in
def Il(h:bY x y M=some d):(∃ i j,x=.int i/\y=.int j/\d=.int (i + j))\/(∃ a b,x=.str a/\y=.str b/\a.length + b.length<=sizeLine/\d=.str (a++b))\/(∃ l m,x=.tup l/\y=.tup m/\l.length + m.length<=sizeLine/\d=.tup (l++m)) \/
  ∃l m,aR x M=some l/\aR y M=some m/\l.length+m.length<=sizeLine/\d=.lst (l++m):=by
 unfold bY at h;split at h
 ·cases h;exact .inl ⟨_,_,rfl,rfl,rfl⟩
 ·split at h
  ·cases h;exact .inr (.inl ⟨_,_,rfl,rfl,‹_›,rfl⟩)
  ·cases h
 ·obtain⟨hz,rfl⟩:=uA h;rw[Vk]at hz;exact .inr (.inr (.inl ⟨_,_,rfl,rfl,hz,rfl⟩))
 ·split at h
  ·rename_i l m h1 h2;obtain⟨hz,rfl⟩:=uA h;rw[Vk]at hz;exact .inr (.inr (.inr ⟨l,m,h1,h2,hz,rfl⟩))
  ·cases h
def bc:bF X E (binaryOp .Add) (λx y=>rd (bY x y)):=by
 refine bF.of (op_add.or (op_add_str.or (LK.or op_cat))) λx y H Q ρ M dx dy d j cx cy e q=>?_
 rcases Il e with ⟨i,k,rfl,rfl,rfl⟩ | ⟨i,k,rfl,rfl,hz,rfl⟩ | ⟨l,m,rfl,rfl,hz,rfl⟩ | ⟨l,m,h1,h2,hz,rfl⟩
 ·cases cx;cases cy;exact .inl ⟨_,_,rfl,rfl,q ρ H _ .refl j (.int _)⟩
 ·cases cx;cases cy;exact .inr (.inl ⟨_,_,rfl,rfl,hz,q ρ H _ .refl j (.str _)⟩)
 ·cases cx with | tup n1 a1 c1=>cases cy with | tup n2 a2 c2=>
  refine .inr (.inr (.inl ⟨_,_,_,_,rfl,rfl,a1,a2,by rw[c1.len,c2.len];exact hz,λp H' S hp=>?_⟩))
  exact q ρ H' _ (.same S) (j.same S) (.tup ((j.same S).notup hp) hp ((c1.append c2).mono (.same S)))
 ·obtain⟨a1,x1,rfl,a2,c1⟩:=cP j cx h1;obtain⟨b1,y1,rfl,b2,c2⟩:=cP j cy h2;refine .inr (.inr (.inr ⟨_,_,_,_,rfl,rfl,a2,b2,by rw[c1.len,c2.len];exact hz,λp hp=>?_⟩))
  exact q ρ _ _ (.lay hp) (j.lay _ hp) (.lst (j.fresh hp) upd_same ((c1.append c2).mono (.lay hp)))
def Nu(x y:D):DM D:=rd (λM=>match aR x M,aR y M with
    |some l,some m=>some (l++m)
    |_,_=>none)>>=eQ
set_option tactic.hygienic true in
def LC:bF X E (binaryOp .Add) Nu:=by
 intro Zo s σ H x y v u Q I rx ry q;obtain⟨ρ,M,dx,dy,j,cx,cy,go⟩:=q;obtain⟨z,e,g⟩:=Go.rdb go;split at e
 ·rename_i l m h1 h2;cases e;obtain⟨a1,x1,rfl,a2,c1⟩:=cP j cx h1;obtain⟨b1,y1,rfl,b2,c2⟩:=cP j cy h2;have hz:=g.mkR_len;rw[Vk]at hz;exact op_cat (X:=X) Zo s σ H _ _ v u Q I rx ry ⟨_,_,_,_,rfl,rfl,a2,b2,by rw[c1.len,c2.len];exact hz,λp hp=>(g.eQ j (c1.append c2) hp).2⟩
 ·cases e
def cM(C:Int->Int->Bool)(g:Int->Int->D):D->D->Mo->Option D
 |.int i,.int j,_=>if C i j then some (g i j) else none
 |_,_,_=>none
set_option tactic.hygienic true in
def uX(h:cM C g x y M=some d):∃i j,x=.int i/\y=.int j/\C i j=true/\d=g i j:=by
 unfold cM at h;split at h
 ·split at h
  ·cases h;exact⟨_,_,rfl,rfl,‹_›,rfl⟩
  ·cases h
 ·cases h
def qU{f:Value->Value->Sem Value}{C:Int->Int->Bool}{g:Int->Int->Int}{P:Int->Int->Prop}(hr:OpR X f (rI P λi j=>.int (g i j)))(hc:∀i j,C i j=true->P i j):bF X E f (λx y=>rd (cM C (λi j=>.int (g i j)) x y)):=
 bF.of hr λx y H Q ρ M dx dy d j cx cy e q=>by obtain⟨i,k,rfl,rfl,hh,rfl⟩:=uX e;cases cx;cases cy;exact⟨_,_,rfl,rfl,hc _ _ hh,q ρ H _ .refl j (.int _)⟩
def yW{f:Value->Value->Sem Value}{g:Int->Int->Int}(hr:OpR X f (rI0 λi j=>.int (g i j))):bF X E f (λx y=>rd (cM (λz z=>true) (λi j=>.int (g i j)) x y)):=
 bF.of hr λx y H Q ρ M dx dy d j cx cy e q=>by obtain⟨i,k,rfl,rfl,hh,rfl⟩:=uX e;cases cx;cases cy;exact⟨_,_,rfl,rfl,q ρ H _ .refl j (.int _)⟩
def qT{f:Value->Value->Sem Value}{g:Int->Int->Bool}(hr:OpR X f (rI0 λi j=>.bl (g i j))):bF X E f (λx y=>rd (cM (λz z=>true) (λi j=>.bl (g i j)) x y)):=
 bF.of hr λx y H Q ρ M dx dy d j cx cy e q=>by obtain⟨i,k,rfl,rfl,hh,rfl⟩:=uX e;cases cx;cases cy;exact⟨_,_,rfl,rfl,q ρ H _ .refl j (.bl _)⟩
abbrev Ek:D->D->Mo->Option D:=cM (λ_ _=>true) λi j=>.int (i-j)
def qW:bF X E (binaryOp .Sub) (λx y=>rd (Ek x y)):=yW op_sub
def fG(i j:Int):Bool:=!(decide (Builtin.Int.intBits i > shortFactorBits)&&decide (Builtin.Int.intBits j > shortFactorBits)&&Builtin.Int.intTooBig (Builtin.Int.intBits i+Builtin.Int.intBits j))
def fG.ok(h:fG i j=true):IntMulOk i j:=λz=>by unfold fG at h;rw[z]at h;cases h
abbrev pU:D->D->Mo->Option D:=cM fG λi j=>.int (i*j)
def eG:bF X E (binaryOp .Mult) (λx y=>rd (pU x y)):=qU Ma λi j h=>fG.ok h
def qK(i j:Int):Bool:=decide (0<j)&&!Builtin.divisionGoesByPylong i j
def JD:OpR X (binaryOp .FloorDiv) (rI (λi j=>qK i j=true) λi j=>.int (i / j)):=opI λi j z z z z z hc q=>by
 unfold qK at hc;have h0:0<j:=by have:=(WD _ _).mp hc;exact V3 this.1
 have h1:Builtin.divisionGoesByPylong i j=false:=by have:=(WD _ _).mp hc;simpa using this.2
 have e:i.fdiv j=i / j:=Int.fdiv_eq_ediv_of_nonneg i (Zc h0);exact floordiv_int (Int.ne_of_gt h0) (by rw[e];exact q) (.inl h1)
abbrev lB:D->D->Mo->Option D:=cM qK λi j=>.int (i / j)
def gU:bF X E (binaryOp .FloorDiv) (λx y=>rd (lB x y)):=qU JD λi j h=>h
abbrev lX:D->D->Mo->Option D:=cM (λ_ j=>decide (0<j)) λi j=>.int (i%j)
def eF:bF X E (binaryOp .Mod) (λx y=>rd (lX x y)):=qU op_mod λi j h=>V3 h
def Kg(i j:Int):Bool:=decide (0<=j/\j<=1000000/\i.natAbs<2^64)
abbrev Dy:D->D->Mo->Option D:=cM Kg λi j=>.int (i^j.toNat)
def BJ:bF X E (binaryOp .Pow) (λx y=>rd (Dy x y)):=qU op_pow λi j h=>V3 (p:=0<=j/\j<=1000000/\i.natAbs<2^64) h
abbrev Bp:D->D->Mo->Option D:=cM (λ_ _=>true) λi j=>.bl (decide (i<j))
abbrev ww:D->D->Mo->Option D:=cM (λ_ _=>true) λi j=>.bl (decide (i<=j))
abbrev Bh:D->D->Mo->Option D:=cM (λ_ _=>true) λi j=>.bl (decide (j<i))
abbrev yD:D->D->Mo->Option D:=cM (λ_ _=>true) λi j=>.bl (decide (j<=i))
def uz:bF X E (compareOp .Lt) (λx y=>rd (Bp x y)):=qT op_lt
def jV:bF X E (compareOp .LtE) (λx y=>rd (ww x y)):=qT op_le
def G5:bF X E (compareOp .Gt) (λx y=>rd (Bh x y)):=qT op_gt
def yX:bF X E (compareOp .GtE) (λx y=>rd (yD x y)):=qT op_ge
def eqP(x y:D):Option Bool:=match toPy x,toPy y with
 |some p,some q=>if p.canLay0&&q.canLay0&&decide (p.depth<=60) then some (PyData.eqv p q) else none
 |_,_=>none
def eqB:D->D->Option Bool
 |.str a,.str b=>some (decide (a=b))
 |x,y=>eqP x y
def cg(x y:D)(_:Mo):Option D:=(eqB x y).map .bl
def iT(x y:D)(_:Mo):Option D:=(eqB x y).map λb=>.bl (!b)
set_option tactic.hygienic true in
def N8(h:eqP x y=some b):∃ p q,toPy x=some p/\toPy y=some q/\p.canLay0=true/\q.canLay0=true/\p.depth<=60/\b=PyData.eqv p q:=by
 unfold eqP at h;split at h
 ·rename_i p q h1 h2;split at h
  ·rename_i hc;cases h;simp only[Bool.and_eq_true,decide_eq_true_eq]at hc;exact⟨p,q,h1,h2,hc.1.1,hc.1.2,hc.2,rfl⟩
  ·cases h
 ·cases h
def N7(h:eqB x y=some b):(∃a c,x=.str a/\y=.str c/\b=decide (a=c))\/eqP x y=some b:=by
 unfold eqB at h;split at h
 ·cases h;exact .inl ⟨_,_,rfl,rfl,rfl⟩
 ·exact .inr h
def Nf:decide (V.str a=V.str c)=decide (a=c):=by rw[Vu];simp
def Bw(h1:OpR X f (λx y H Q=>scal x y=true/\Q (.bl (n ^^ decide (x=y))) H))(h2:OpR X f (JN X.K n)):bF X E f (λx y=>rd λz=>(eqB x y).map λb=>.bl (n ^^ b)):=by
 intro Zo s σ H x y v u Q I rx ry q;obtain⟨ρ,M,dx,dy,j,cx,cy,g⟩:=q;obtain⟨d,e,q⟩:=Go.rd g;obtain⟨b,hb,rfl⟩:=U4.mp e;rcases N7 hb with ⟨a,c,rfl,rfl,rfl⟩ | hb
 ·cases cx;cases cy;refine h1 Zo s σ H _ _ v u Q I rx ry ⟨rfl,?_⟩;rw[Nf];exact q ρ H _ .refl j (.bl _)
 ·obtain⟨p,p',k1,k2,h3,h4,h5,rfl⟩:=N8 hb;refine h2 Zo s σ H x y v u Q I rx ry ⟨p,p',(cx.repF k1).toRep,(cy.repF k2).toRep,h3,h4,h5,?_⟩;have:=q ρ H _ .refl j (.bl _);cases n
  ·simpa using this
  ·simpa using this
def bH(hu:X.A.units+64<cLine):bF X E (compareOp .Eq) (λx y=>rd (cg x y)):=by
 have h:=Bw (X:=X) (E:=E) (n:=false) (f:=compareOp .Eq) (λZo s σ H x y v u Q I rx ry q=>op_eq (X:=X) Zo s σ H x y v u Q I rx ry ⟨q.1,by simpa using q.2⟩) (PJ hu)
 have e:(λx y=>(rd (cg x y):DM D))=λx y=>rd λz=>(eqB x y).map λb=>.bl (false ^^ b):=by funext x y;show rd _=rd _;congr 1;funext M;simp only[cg,Bool.false_xor,Bool.true_xor]
 rw[e];exact h
def dJ(hu:X.A.units+64<cLine):bF X E (compareOp .NotEq) (λx y=>rd (iT x y)):=by
 have h:=Bw (X:=X) (E:=E) (n:=true) (f:=compareOp .NotEq) (λZo s σ H x y v u Q I rx ry q=>op_ne (X:=X) Zo s σ H x y v u Q I rx ry ⟨q.1,by simpa using q.2⟩) (PL hu)
 have e:(λx y=>(rd (iT x y):DM D))=λx y=>rd λz=>(eqB x y).map λb=>.bl (true ^^ b):=by funext x y;show rd _=rd _;congr 1;funext M;simp only[iT,Bool.false_xor,Bool.true_xor]
 rw[e];exact h
theorem Cvs.rep(c:Cv mg ρ H v d):∀n,Cvs mg ρ H (List.replicate n v) (List.replicate n d)
 |0=>.nil
 |n+1=>.cons c (Cvs.rep c n)
def Ea(l:List D)(k:Int):Option (List D):=if decide (-(2^63)<=k/\k<2^63/\l.length*k.toNat<=sizeLine) then some (List.replicate k.toNat l).flatten else none
theorem Cvs.reps{vs:List V}{ds:List D}(c:Cvs mg ρ H vs ds):∀n,Cvs mg ρ H (List.replicate n vs).flatten (List.replicate n ds).flatten
 |0=>.nil
 |n+1=>by rw[Wb,Wb,W9,W9];exact c.append (Cvs.reps c n)
def sY(x y:D)(M:Mo):Option (List D):=match aR x M,y with
 |some l,.int k=>Ea l k
 |_,_=>none
set_option tactic.hygienic true in
def Bt{l:List D}(h:sY x y M=some l):∃ m k,aR x M=some m/\y=.int k/\(-(2 ^ 63)<=k/\k<2 ^ 63/\m.length * k.toNat<=sizeLine)/\l=(List.replicate k.toNat m).flatten:=by
 unfold sY at h;split at h
 ·rename_i m k h1;unfold Ea at h;split at h
  ·rename_i hk;cases h;exact⟨m,k,h1,rfl,V3 hk,rfl⟩
  ·cases h
 ·cases h
def Mh:bF X E (binaryOp .Mult) (λx y=>rd (λM=>(sY x y M).map .lst)):=bF.of op_rep λx y H Q ρ M dx dy d j cx cy e q=>by
 obtain⟨l,e1,rfl⟩:=U4.mp e;obtain⟨m,k,h1,rfl,⟨h2,h3,h4⟩,rfl⟩:=Bt e1;obtain⟨a,xs,rfl,ha,c⟩:=cP j cx h1;cases cy;refine⟨_,_,_,rfl,rfl,ha,h2,h3,by rw[c.len];exact h4,λp hp=>?_⟩
 exact q ρ _ _ (.lay hp) (j.lay _ hp) (.lst (j.fresh hp) upd_same ((Cvs.reps c _).mono (.lay hp)))
def Ph(x y:D):DM D:=rd (sY x y)>>=eQ
def By:bF X E (binaryOp .Mult) Ph:=by intro Zo s σ H x y v u Q I rx ry q;obtain⟨ρ,M,dx,dy,j,cx,cy,go⟩:=q;obtain⟨l,e1,g⟩:=Go.rdb go;obtain⟨m,k,h1,rfl,⟨h2,h3,h4⟩,rfl⟩:=Bt e1;obtain⟨a,xs,rfl,ha,c⟩:=cP j cx h1;cases cy;exact op_rep (X:=X) Zo s σ H _ _ v u Q I rx ry ⟨_,_,_,rfl,rfl,ha,h2,h3,by rw[c.len];exact h4,λp hp=>(g.eQ j (Cvs.reps c _) hp).2⟩
def Jy:D->Mo->Option D
 |.int i,_=>some (.int (-i))
 |_,_=>none
def um(ha:DE X E a fa):DE X E (.UnaryOp .USub a pos) (λδ=>fa δ>>=λx=>rd (Jy x)):=⟨PE.mono (pe_un un_neg ha.h) λσ H Q h=>by
 obtain⟨ρ,δ,M,ev,j,g1⟩:=h;refine⟨ρ,δ,M,ev,j,g1.bind λρ1 H1 M1 x dx e1 j1 c1 g2=>?_⟩
 obtain⟨d,e,q⟩:=g2.rd;unfold Jy at e;split at e
 ·cases e;cases c1;exact⟨_,rfl,q ρ1 H1 _ .refl j1 (.int _)⟩
 ·cases e⟩
theorem Cvs.at(c:Cvs mg ρ H vs ds)(h:atI ds i=some d):∃v,atI vs i=some v/\Cv mg ρ H v d:=by
 unfold atI at h ⊢
 rw[c.len];obtain⟨n,hn,e⟩:=Vs.mp h;obtain⟨v,e2,cv⟩:=c.get e;exact⟨v,by rw[hn];exact e2,cv⟩
def cZ:D->D->Mo->Option D
 |.tup l,.int i,_=>atI l i
 |.scr l,.int i,_=>(atI l i).map .int
 |x,.int i,M=>(aR x M).bind λl=>atI l i
 |_,_,_=>none
def SJ(X:Cx)(E:XK)(g:D->D->DM D):Prop:=IxR X (rD X.mg E g)
set_option tactic.hygienic true in
def bh:SJ X E (λx y=>rd (cZ x y)):=by
 intro value slice Zo s σ H x y v u Q I rx ry q hs;obtain⟨ρ,M,dx,dy,j,cx,cy,go⟩:=q;obtain⟨d,e,p⟩:=go.rd;unfold cZ at e;split at e
 ·cases cy;cases cx with | tup n a c=>
  obtain⟨w,e2,cw⟩:=c.at e;exact ix_tup (X:=X) value slice Zo s σ H _ _ v u Q I rx ry ⟨_,_,_,_,rfl,rfl,SqT.of a,e2,p ρ H _ .refl j cw⟩ hs
 ·rename_i l i;cases cy;cases cx with | scr n a=>
  obtain⟨z,e1,rfl⟩:=U4.mp e;have e2:atI (l.map V.int) i=some (V.int z):=by
   unfold atI at e1 ⊢
   rw[U6];obtain⟨n,hn,e⟩:=Vs.mp e1;rw[hn];show (List.map V.int _)[n]?=_;rw[Vl,e];rfl
  exact ix_list (X:=X) value slice Zo s σ H _ _ v u Q I rx ry ⟨_,_,_,_,rfl,rfl,.inl a,e2,p ρ H _ .refl j (.int z)⟩ hs
 ·cases cy;obtain⟨l,h1,e1⟩:=Vs.mp e;obtain⟨a,xs,rfl,ha,c⟩:=cP j cx h1;obtain⟨w,e2,cw⟩:=c.at e1;exact ix_list (X:=X) value slice Zo s σ H _ _ v u Q I rx ry ⟨_,_,_,_,rfl,rfl,SqL.of ha,e2,p ρ H _ .refl j cw⟩ hs
 ·cases e
def aQ(hi:SJ X E g)(ha:DE X E a fa)(hb:DE X E b fb)(hs:PlainIx b:=by exact λw w=>rfl):DE X E (.Subscript a b pos) (λδ=>fa δ>>=λx=>fb δ>>=λy=>g x y):=
 ⟨PE.mono (pe_ix hi ha.h hb.h hs) λσ H Q h=>Bg (λw w w w z=>z) h⟩
def xM:D->DM (Option Int)
 |.int i=>pure (some i)
 |_=>stuck
def cutD(xs:List D)(lo hi:Option Int):List D:=(xs.drop (HT.sIx xs.length 0 lo)).take (HT.sIx xs.length xs.length hi-HT.sIx xs.length 0 lo)
def Cvs.cut(c:Cvs mg ρ H vs ds)(lo hi:Option Int):Cvs mg ρ H (cutV vs lo hi) (cutD ds lo hi):=by unfold cutV cutD;rw[c.len];exact (c.drop _).take _
structure DP(X:Cx)(E:XK)(e:Option Expr)(f:aj->DM (Option Int)):Prop where
 h:PO X e (tD X.mg E (λ_ _ (b a:Option Int)=>b=a) f)
def PO.mono(h:PO X e t)(f:∀σ H Q,t' σ H Q->t σ H Q):PO X e t':=λZo s σ H Q I q=>h Zo s σ H Q I (f σ H Q q)
def eE:DP X E none (λz=>pure none):=⟨PO.mono po_none λσ H Q h=>by obtain⟨ρ,δ,M,ev,j,g⟩:=h;exact g.pure ρ H none .refl j rfl⟩
def cF(ha:DE X E a fa):DP X E (some a) (λδ=>fa δ>>=xM):=⟨PO.mono (po_some ha.h) λσ H Q h=>by
 obtain⟨ρ,δ,M,ev,j,g1⟩:=h;refine⟨ρ,δ,M,ev,j,g1.bind λρ1 H1 M1 x dx e1 j1 c1 g2=>?_⟩
 cases dx with
 |int i=>cases c1;exact⟨i,rfl,Go.pure (a:=some i) g2 ρ1 H1 _ .refl j1 rfl⟩
 |_=>obtain⟨r,e,_⟩:=g2;cases e⟩
def nY(lo hi:Option Int):D->Mo->Option D
 |.tup l,_=>some (.tup (cutD l lo hi))
 |x,M=>(aR x M).map λl=>.lst (cutD l lo hi)
def TX:SlR X (λx lo hi H Q=>∃ρ M dx d,J X.mg ρ M H/\Cv X.mg ρ H x dx/\nY lo hi dx M=some d/\∀ρ' H' v,Ext ρ H ρ' H'->J X.mg ρ' M H'->Cv X.mg ρ' H' v d->Q v H'):=by
 intro Zo s σ H x v vl vu lo hi sl Q I rx hs pl pu h;obtain⟨ρ,M,dx,d,j,c,e,q⟩:=h;unfold nY at e;split at e
 ·cases e;cases c with | tup n a c=>
  refine MN (X:=X) Zo s σ H _ v vl vu lo hi sl Q I rx hs pl pu ⟨_,_,rfl,a,λp H' S hp=>?_⟩
  exact q ρ H' _ (.same S) (j.same S) (.tup ((j.same S).notup hp) hp ((c.cut lo hi).mono (.same S)))
 ·obtain⟨l,h1,rfl⟩:=U4.mp e;obtain⟨a,xs,rfl,ha,c⟩:=cP j c h1;refine sl_list (X:=X) Zo s σ H _ v vl vu lo hi sl Q I rx hs pl pu ⟨_,_,rfl,SqL.of ha,λp hp=>?_⟩
  exact q ρ _ _ (.lay hp) (j.lay _ hp) (.lst (j.fresh hp) upd_same ((c.cut lo hi).mono (.lay hp)))
def cU{fa:aj->DM D}{lo hi:Option Expr}{fl fh:aj->DM (Option Int)}(ha:DE X E a fa)(hl:DP X E lo fl)(hh:DP X E hi fh):
  DE X E (.Subscript a (.Slice lo hi none p2) pos) (λδ=>fa δ>>=λx=>fl δ>>=λl=>fh δ>>=λh=>rd (nY l h x)):=⟨PE.mono (pe_slice TX ha.h hl.h hh.h) λσ H Q h=>by
 obtain⟨ρ,δ,M,ev,j,g1⟩:=h;refine⟨ρ,δ,M,ev,j,g1.bind λρ1 H1 M1 x dx e1 j1 c1 g2=>⟨ρ1,δ,M1,ev.mono e1,j1,g2.bind λρ2 H2 M2 l dl e2 j2 c2 g3=>⟨ρ2,δ,M2,(ev.mono e1).mono e2,j2,g3.bind λρ3 H3 M3 h dh e3 j3 c3 g4=>?_⟩⟩⟩
 have c2:l=dl:=c2;have c3:h=dh:=c3;subst c2 c3;obtain⟨d,e,q⟩:=g4.rd;exact⟨ρ3,M3,dx,d,j3,(c1.mono e2).mono e3,e,q⟩⟩
end
inductive Fl where
 |nx (δ:aj) | rt (d:D) | bk (δ:aj) | ct (δ:aj)
def tY(mg:Str->Option Value)(ρ:Rh)(H:Hp)(D:Ends)(E:XK):R Fl×Mo->Prop
 |(.ok (.nx δ'),M')=>∀ρ' H' σ',Ext ρ H ρ' H'->J mg ρ' M' H'->Ev mg ρ' H' σ' δ'->D.nx σ' H'
 |(.ok (.bk δ'),M')=>∀ρ' H' σ',Ext ρ H ρ' H'->J mg ρ' M' H'->Ev mg ρ' H' σ' δ'->D.bk σ' H'
 |(.ok (.ct δ'),M')=>∀ρ' H' σ',Ext ρ H ρ' H'->J mg ρ' M' H'->Ev mg ρ' H' σ' δ'->D.ct σ' H'
 |(.ok (.rt d),M')=>∀ρ' H' v,Ext ρ H ρ' H'->J mg ρ' M' H'->Cv mg ρ' H' v d->D.rt v H'
 |(.exc c,M')=>∀ρ' H' C,Ext ρ H ρ' H'->J mg ρ' M' H'->mg c=some (.ref C)->E (.ref C) none H'
def bj(mg:Str->Option Value)(E:XK)(D:Ends)(ρ:Rh)(H:Hp)(m:DM Fl)(M:Mo):Prop:=∃r,m M=some r/\tY mg ρ H D E r
section
variable{mg:Str->Option Value}{ρ ρ':Rh}{H H':Hp}{E:XK}{α β:Type}{rel:Rh->Hp->β->α->Prop}{D D':Ends}{Q':β->Hp->Prop}{M:Mo}
def tY.mono(e:Ext ρ H ρ' H')(h:tY mg ρ H D E r):tY mg ρ' H' D E r:=by
 obtain⟨r,M'⟩:=r;cases r with
 |ok a=>cases a<;>exact λρ2 H2 b e2 j c=>h ρ2 H2 b (e.trans e2) j c
 |exc c=>exact λρ2 H2 C e2 j m=>h ρ2 H2 C (e.trans e2) j m
set_option tactic.hygienic true in
theorem bj.bind(g:bj mg E D ρ H (m>>=k) M)
  (f:∀ρ1 H1 M1 b a,Ext ρ H ρ1 H1->J mg ρ1 M1 H1->rel ρ1 H1 b a->bj mg E D ρ1 H1 (k a) M1->Q' b H1):Go mg E rel Q' ρ H m M:=by
 obtain⟨r,e,p⟩:=g;have e:DM.bind m k M=some r:=e;unfold DM.bind at e;split at e
 ·cases e
 ·rename_i c M' em;cases e;exact⟨_,em,p⟩
 ·rename_i a M' em;exact⟨_,em,λρ1 H1 b x j c=>f ρ1 H1 M' b a x j c ⟨r,e,p.mono x⟩⟩
theorem bj.pure(g:bj mg E D ρ H (pure a) M):tY mg ρ H D E (.ok a,M):=by obtain⟨r,e,p⟩:=g;have e:some (R.ok a,M)=some r:=e;cases e;exact p
def vB(f g:aj->DM Fl):aj->DM Fl:=λδ=>f δ>>=λr=>match r with
 |.nx δ'=>g δ'
 |r=>Pure.pure r
set_option tactic.hygienic true in
def bj.seq(g:bj mg E D ρ H (f>>=k) M)
  (hn:∀δ' ρ1 H1 M1 σ1,Ext ρ H ρ1 H1->J mg ρ1 M1 H1->Ev mg ρ1 H1 σ1 δ'->bj mg E D ρ1 H1 (k (.nx δ')) M1->D'.nx σ1 H1)
  (hb:∀δ' ρ1 H1 M1 σ1,Ext ρ H ρ1 H1->J mg ρ1 M1 H1->Ev mg ρ1 H1 σ1 δ'->bj mg E D ρ1 H1 (k (.bk δ')) M1->D'.bk σ1 H1)
  (hc:∀δ' ρ1 H1 M1 σ1,Ext ρ H ρ1 H1->J mg ρ1 M1 H1->Ev mg ρ1 H1 σ1 δ'->bj mg E D ρ1 H1 (k (.ct δ')) M1->D'.ct σ1 H1)
  (hr:∀d ρ1 H1 M1 v,Ext ρ H ρ1 H1->J mg ρ1 M1 H1->Cv mg ρ1 H1 v d->bj mg E D ρ1 H1 (k (.rt d)) M1->D'.rt v H1):bj mg E D' ρ H f M:=by
 obtain⟨r,e,p⟩:=g;have e:DM.bind f k M=some r:=e;unfold DM.bind at e;split at e
 ·cases e
 ·rename_i c M' em;cases e;exact⟨_,em,p⟩
 ·rename_i a M' em;refine⟨_,em,?_⟩;cases a with
  |nx δ'=>exact λρ1 H1 b x j c=>hn δ' ρ1 H1 M' b x j c ⟨r,e,p.mono x⟩
  |bk δ'=>exact λρ1 H1 b x j c=>hb δ' ρ1 H1 M' b x j c ⟨r,e,p.mono x⟩
  |ct δ'=>exact λρ1 H1 b x j c=>hc δ' ρ1 H1 M' b x j c ⟨r,e,p.mono x⟩
  |rt d=>exact λρ1 H1 b x j c=>hr d ρ1 H1 M' b x j c ⟨r,e,p.mono x⟩
end
def tS(mg:Str->Option Value)(E:XK)(f:aj->DM Fl):TS:=λD σ H=>∃ρ δ M,Ev mg ρ H σ δ/\J mg ρ M H/\bj mg E D ρ H (f δ) M
structure DS(X:Cx)(E:XK)(st:Stmt)(f:aj->DM Fl):Prop where
 h:PS X st (tS X.mg E f)
structure DSs(X:Cx)(E:XK)(st:List Stmt)(f:aj->DM Fl):Prop where
 h:PSs X st (tS X.mg E f)
def PS.mono(h:PS X e t)(f:∀D σ H,t' D σ H->t D σ H):PS X e t':=λZo s σ H D I q=>h Zo s σ H D I (f D σ H q)
def PSs.mono(h:PSs X e t)(f:∀D σ H,t' D σ H->t D σ H):PSs X e t':=λZo s σ H D I q=>h Zo s σ H D I (f D σ H q)
section
variable{X:Cx}{E:XK}{st:Stmt}{rest:List Stmt}{f g:aj->DM Fl}{e:Expr}{fe:aj->DM D}{pos:Pos}
def aV:DSs X E [] (λδ=>pure (.nx δ)):=⟨PSs.mono pss_nil λD σ H h=>by obtain⟨ρ,δ,M,ev,j,g⟩:=h;exact g.pure ρ H σ .refl j ev⟩
def aA(h:DS X E st f):DSs X E [st] f:=⟨pss_one h.h⟩
def az(h1:DS X E st f)(h2:DSs X E rest g):DSs X E (st::rest) (vB f g):=⟨PSs.mono (pss_cons h1.h h2.h) λD σ H h=>by
 obtain⟨ρ,δ,M,ev,j,g1⟩:=h;refine⟨ρ,δ,M,ev,j,g1.seq (λδ' ρ1 H1 M1 σ1 e1 j1 ev1 g2=>⟨ρ1,δ',M1,ev1,j1,g2⟩) (λδ' ρ1 H1 M1 σ1 e1 j1 ev1 g2=>?_) (λδ' ρ1 H1 M1 σ1 e1 j1 ev1 g2=>?_) (λd ρ1 H1 M1 v e1 j1 c1 g2=>?_)⟩
 ·exact bj.pure g2 ρ1 H1 σ1 .refl j1 ev1
 ·exact bj.pure g2 ρ1 H1 σ1 .refl j1 ev1
 ·exact bj.pure g2 ρ1 H1 v .refl j1 c1⟩
def aG(he:DE X E e fe):DS X E (.Return (some e) pos) (λδ=>fe δ>>=λd=>pure (.rt d)):=⟨PS.mono (L2.ps_ret he.h) λD σ H h=>by obtain⟨ρ,δ,M,ev,j,g1⟩:=h;exact⟨ρ,δ,M,ev,j,g1.bind λρ1 H1 M1 v d e1 j1 c1 g2=>g2.pure ρ1 H1 v .refl j1 c1⟩⟩
def gP(he:DE X E e fe)(hs:swapsWith e none pos.line X.env=pure false:=by rfl):DS X E (.Expr e pos) (λδ=>fe δ>>=λz=>pure (.nx δ)):=⟨PS.mono (ps_expr he.h hs) λD σ H h=>by obtain⟨ρ,δ,M,ev,j,g1⟩:=h;exact⟨ρ,δ,M,ev,j,g1.bind λρ1 H1 M1 v d e1 j1 c1 g2=>g2.pure ρ1 H1 σ .refl j1 (ev.mono e1)⟩⟩
def aP(hN:X.N.Nodup)(hi:X.N[i]?=some x)(hx:Loc X.env.scope x)(he:DE X E e fe)(hs:swapsWith e (some (.Name x pos')) pos.line X.env=pure false:=by rfl)(hf:X.fn x=true\/X.env.scope.names.lookup x=some .local:=by first | exact .inl rfl | exact .inr rfl | assumption):
  DS X E (.Assign [.Name x pos'] e pos) (λδ=>fe δ>>=λd=>pure (.nx (δ.set i (some d)))):=⟨PS.mono (ps_set hN hi hx he.h hs hf) λD σ H h=>by
 obtain⟨ρ,δ,M,ev,j,g1⟩:=h;exact⟨ρ,δ,M,ev,j,g1.bind λρ1 H1 M1 v d e1 j1 c1 g2=>g2.pure ρ1 H1 _ .refl j1 ((ev.mono e1).set c1)⟩⟩
def bz(hc:DT X E c tc)(ha:DSs X E a f)(hb:DSs X E b g):DS X E (.If c a b pos) (λδ=>tc δ>>=λk=>if k then f δ else g δ):=⟨PS.mono (L2.ps_if hc.h ha.h hb.h) λD σ H h=>by
 obtain⟨ρ,δ,M,ev,j,g1⟩:=h;refine⟨ρ,δ,M,ev,j,g1.bind λρ1 H1 M1 x dx e1 j1 c1 g2=>?_⟩
 have c1:x=dx:=c1;subst c1;cases x with
 |true=>exact iteT ⟨ρ1,δ,M1,ev.mono e1,j1,g2⟩
 |false=>exact iteF ⟨ρ1,δ,M1,ev.mono e1,j1,g2⟩⟩
def tG(mg:Str->Option Value)(E:XK)(fg:D->aj->DM aj):TG:=λv σ H Q=>∃ρ δ M d,Ev mg ρ H σ δ/\J mg ρ M H/\Cv mg ρ H v d/\Go mg E (Ev mg) Q ρ H (fg d δ) M
def Uq(mg:Str->Option Value)(E:XK)(fg:List D->aj->DM aj):TGs:=λvs σ H Q=>∃ρ δ M ds,Ev mg ρ H σ δ/\J mg ρ M H/\Cvs mg ρ H vs ds/\Go mg E (Ev mg) Q ρ H (fg ds δ) M
structure DG(X:Cx)(E:XK)(tg:Expr)(fg:D->aj->DM aj):Prop where
 h:PG X tg (tG X.mg E fg)
structure DGs(X:Cx)(E:XK)(tg:List Expr)(fg:List D->aj->DM aj):Prop where
 h:PGs X tg (Uq X.mg E fg)
def PG.mono(h:PG X tg t)(f:∀v σ H Q,t' v σ H Q->t v σ H Q):PG X tg t':=λZo s σ H v u Q I r q=>h Zo s σ H v u Q I r (f v σ H Q q)
def PGs.mono(h:PGs X tg t)(f:∀v σ H Q,t' v σ H Q->t v σ H Q):PGs X tg t':=λZo s σ H v u Q I r q=>h Zo s σ H v u Q I r (f v σ H Q q)
def gN(i:Nat):D->aj->DM aj:=λd δ=>pure (δ.set i (some d))
def aW(hN:X.N.Nodup)(hi:X.N[i]?=some x)(hx:Loc X.env.scope x)(hf:X.fn x=true\/X.env.scope.names.lookup x=some .local:=by first | exact .inl rfl | exact .inr rfl | assumption):DG X E (.Name x pos) (gN i):=
 ⟨PG.mono (pg_name hN hi hx hf) fun v σ H Q h=>by obtain⟨ρ,δ,M,d,ev,j,c,g1⟩:=h;exact Go.pure g1 ρ H _ .refl j (ev.set c)⟩
def qM:List D->aj->DM aj
 |[],δ=>pure δ
 |_,_=>stuck
def fu(f:D->aj->DM aj)(fs:List D->aj->DM aj):List D->aj->DM aj
 |d::l,δ=>f d δ>>=λδ'=>fs l δ'
 |_,_=>stuck
def uT:DGs X E [] qM:=⟨PGs.mono pgs_nil λvs σ H Q h=>by
 obtain⟨ρ,δ,M,ds,ev,j,c,g1⟩:=h;cases c with
 |nil=>exact⟨rfl,Go.pure (a:=δ) g1 ρ H σ .refl j ev⟩
 |cons _ _=>obtain⟨r,e,_⟩:=g1;cases e⟩
def gO(h1:DG X E e fg)(h2:DGs X E es fgs)(hs:(assignEach (e::es) X.env).map (·.2)=assign e X.env::(assignEach es X.env).map (·.2):=by rfl):DGs X E (e::es) (fu fg fgs):=
 ⟨PGs.mono (pgs_cons h1.h h2.h hs) fun vs σ H Q h=>by
  obtain⟨ρ,δ,M,ds,ev,j,c,g1⟩:=h;cases c with
  |nil=>obtain⟨r,e,_⟩:=g1;cases e
  |cons c1 c2=>
    have g1:Go X.mg E (Ev X.mg) Q ρ H (fg _ δ>>=λδ'=>fgs _ δ') M:=g1
    exact⟨_,_,rfl,ρ,δ,M,_,ev,j,c1,g1.bind λρ1 H1 M1 σ1 δ1 e1 j1 ev1 g2=>⟨ρ1,δ1,M1,_,ev1,j1,c2.mono e1,g2⟩⟩⟩
def gT(n:Nat)(fs:List D->aj->DM aj):D->aj->DM aj
 |.tup l,δ=>if l.length=n then fs l δ else stuck
 |_,_=>stuck
set_option tactic.hygienic true in
def xY(hc:X.calm=true)(h:DGs X E es fgs)(hn:(assignEach es X.env).length=n:=by rfl)(hst:(assignEach es X.env).findIdx? (·.1)=none:=by rfl):DG X E (.Tuple es k pos) (gT n fgs):=
 ⟨PG.mono (pg_tup hc h.h hn hst) fun v σ H Q h=>by
  obtain⟨ρ,δ,M,d,ev,j,c,g1⟩:=h;cases c with
  | tup nx a c=>
    have g1:Go X.mg E (Ev X.mg) Q ρ H (if _ then _ else _) M:=g1
    split at g1
    ·rename_i hl;exact⟨_,_,rfl,SqT.of a,by rw[c.len];exact hl,ρ,δ,M,_,ev,j,c,g1⟩
    ·obtain⟨r,e,_⟩:=g1;cases e
  |_=>obtain⟨r,e,_⟩:=g1;cases e⟩
def Eg:D->D->D->DM Unit
 | .ref n,.int k,v=>λM=>match M[n]? with
   |some (.lst l)=>match ixN l.length k with
     |some j=>some (.ok (),M.set n (.lst (l.set j v)))
     |none=>none
   |_=>none
 |_,_,_=>stuck
def DN(mg:Str->Option Value)(E:XK)(gs:D->D->D->DM Unit):TSet:=λo i v H Q=>∃ρ M dO di dv,J mg ρ M H/\Cv mg ρ H o dO/\Cv mg ρ H i di/\Cv mg ρ H v dv/\Go mg E (λ_ _ (_:Unit) (_:Unit)=>True) (λz H'=>Q H') ρ H (gs dO di dv) M
set_option tactic.hygienic true in
def wW:PSet X (DN X.mg E Eg):=by
 intro Zo s σ H o i v ov iv u Q I ro ri rv h;obtain⟨ρ,M,dO,di,dv,j,co,ci,cv,r,e,p⟩:=h;cases co with
 | ref hn=>
   cases ci with
   | int k=>
     rename_i n a;have e:(match M[n]? with
      |some (.lst l)=>match ixN l.length k with
        |some j=>some (R.ok (),M.set n (.lst (l.set j dv)))
        |none=>none
      |_=>none)=some r:=e
     split at e
     ·rename_i l hl;split at e
      ·rename_i q hq;cases e;obtain⟨xs,hx,c⟩:=j.obj _ _ _ hn hl;have x:Ext ρ H ρ (upd H a (.lst (xs.set q v))):=.upd (Vo hn);exact set_list (X:=X) Zo s σ H _ _ v ov iv u Q I ro ri rv ⟨_,_,_,q,rfl,rfl,hx,by rw[c.len];exact hq,p ρ _ () x (j.upd hn ⟨_,upd_same,(c.set cv q).mono x⟩) trivial⟩
      ·cases e
     ·cases e
   |_=>cases e
 |_=>cases e
def uq(ho:DE X E o fo)(hi:DE X E i fi)(hs:PSet X (DN X.mg E gs))
  (ha:∀v,assign (.Subscript o i pos) X.env v=(do
    let ov <-holding [v] (eval o X.env)
    let iv <-holding [v,ov] (eval i X.env)
    standAt pos
    holding [v,ov,iv] (setItem ov iv v)
    release [v,ov,iv] []):=by intro _;rfl):DG X E (.Subscript o i pos) (λd δ=>fo δ>>=λo=>fi δ>>=λi=>gs o i d>>=λz=>pure δ):=
 ⟨PG.mono (pg_sub ho.h hi.h hs ha) fun v σ H Q h=>by obtain⟨ρ,δ,M,d,ev,j,c,g1⟩:=h;exact⟨ρ,δ,M,ev,j,g1.bind λρ1 H1 M1 x dx e1 j1 c1 g2=>⟨ρ1,δ,M1,ev.mono e1,j1,g2.bind λρ2 H2 M2 y dy e2 j2 c2 g3=>⟨ρ2,M2,dx,dy,d,j2,c1.mono e2,c2,(c.mono e1).mono e2,g3.bind λρ3 H3 M3 _ _ e3 j3 _ g4=>g4.pure ρ3 H3 σ .refl j3 (((ev.mono e1).mono e2).mono e3)⟩⟩⟩⟩
def ur(he:DE X E e fe)(hg:DG X E tg fg)(hs:swapsWithSole [tg] e pos.line X.env=pure false:=by rfl)(hw:swappedStores [tg] e X.env=pure none:=by rfl)
  (h1:(assignEach [tg] X.env).map (·.2)=[assign tg X.env]:=by rfl):DS X E (.Assign [tg] e pos) (λδ=>fe δ>>=λd=>fg d δ>>=λδ'=>pure (.nx δ')):=⟨PS.mono (ps_asg he.h hg.h hs hw h1) λD σ H h=>by
 obtain⟨ρ,δ,M,ev,j,g1⟩:=h;exact⟨ρ,δ,M,ev,j,g1.bind λρ1 H1 M1 v d e1 j1 c1 g2=>⟨ρ1,δ,M1,d,ev.mono e1,j1,c1,g2.bind λρ2 H2 M2 σ2 δ2 e2 j2 ev2 g3=>g3.pure ρ2 H2 σ2 .refl j2 ev2⟩⟩⟩
def Dt(i j:Nat)(fa:aj->DM (List D)):aj->DM Fl:=λδ=>fa δ>>=λl=>match l with
 |[v,w]=>pure (.nx ((δ.set i (some v)).set j (some w)))
 |_=>stuck
def Gb{kt k2 pt2}(hc:X.calm=true)(hN:X.N.Nodup)(hi:X.N[i]?=some x)(hj:X.N[j]?=some y)(hij:i≠j)
  (hx:X.env.scope.names.lookup x=some .local) (hy:X.env.scope.names.lookup y=some .local) (ha:DA X E [a,b] fa)
  (hw:swappedStores [.Tuple [.Name x px,.Name y py] kt pt] (.Tuple [a,b] k2 pt2) X.env=pure (some [x,y]))
  (hs:swapsWithSole [.Tuple [.Name x px,.Name y py] kt pt] (.Tuple [a,b] k2 pt2) pos.line X.env=pure false:=by rfl) :
  DS X E (.Assign [.Tuple [.Name x px,.Name y py] kt pt] (.Tuple [a,b] k2 pt2) pos) (Dt i j fa):=⟨PS.mono (ps_par hc hN hi hj hij hx hy ha.h.h hw hs) λD σ H h=>by
 obtain⟨ρ,δ,M,ev,j,g1⟩:=h;refine⟨ρ,δ,M,ev,j,bj.bind g1 λρ1 H1 M1 v d e1 j1 c1 g2=>?_⟩
 cases c1 with
 |nil=>obtain⟨r,e,_⟩:=g2;cases e
 | cons c1 c2=>cases c2 with
   |nil=>obtain⟨r,e,_⟩:=g2;cases e
   |cons c2 c3=>cases c3 with
     |nil=>exact⟨_,_,rfl,bj.pure (a:=.nx _) g2 ρ1 H1 _ .refl j1 (((ev.mono e1).set c1).set c2)⟩
     |cons _ _=>obtain⟨r,e,_⟩:=g2;cases e⟩
def JF:bF X E (inplaceOp .Add) (λx y=>rd (cM (λz z=>true) (λi j=>.int (i+j)) x y)):=yW iop_add
end
inductive Itn where
 |fix (l:List D) | dyn (n:Nat)
def Itn.next:Itn->Nat->Mo->Option (Option D)
 |.fix l,i,_=>some l[i]?
 |.dyn n,i,M=>match M[n]? with
   |some (.lst l)=>some l[i]?
   |_=>none
set_option tactic.hygienic true in
structure ItOk(mg:Str->Option Value)(ρ:Rh)(H:Hp)(Jt:It)(it:Itn):Prop where
 item:∀(i:Nat) ρ' H' M' d,Kp ρ H ρ' H'->J mg ρ' M' H'->it.next i M'=some (some d)->Jt.go i H'/\∀x H2,Jt.yld i H' x H2->Ext ρ' H' ρ' H2/\J mg ρ' M' H2/\Cv mg ρ' H2 x d
 stop:∀(i:Nat) ρ' H' M',Kp ρ H ρ' H'->J mg ρ' M' H'->it.next i M'=some none->Jt.stop i H'
def tI(mg:Str->Option Value)(E:XK)(fi:aj->DM Itn):TI:=λσ H R=>tD mg E (ItOk mg) fi σ H R
structure DI(X:Cx)(E:XK)(tg it:Expr)(fi:aj->DM Itn):Prop where
 h:PI X tg it (tI X.mg E fi)
def PI.mono(h:PI X tg e t)(f:∀σ H Q,t' σ H Q->t σ H Q):PI X tg e t':=λZo s σ H Q I q=>h Zo s σ H Q I (f σ H Q q)
def Ox{K:PySem.W.Frag}{mg:Str->Option Value}{ρ:Rh}{H:Hp}{a:Addr}{xs:List V}{ds:List D}(n:a∉ρ)(h:H a=some (.lst xs))(c:Cvs mg ρ H xs ds):ItOk mg ρ H (Itl K a) (.fix ds) where
 item:=λi ρ' H' M' d e j q=>by
  have hq:ds[i]?=some d:=Vc q;obtain⟨v,hv,cv⟩:=c.get hq;have h':=(e.keep _ _ h n).2;refine⟨⟨xs,v,SqL.of h',hv⟩,λx H2 y=>?_⟩
  obtain⟨rfl,y⟩:=y;have:=y xs (SqL.of h');rw[hv]at this;cases this;exact⟨.refl,j,cv.kp e⟩
 stop:=λi ρ' H' M' e j q=>by have hq:ds[i]?=none:=Vc q;exact⟨xs,SqL.of (e.keep _ _ h n).2,by rw[c.len];exact Vx.mp hq⟩
def Oz{K:PySem.W.Frag}{mg:Str->Option Value}{ρ:Rh}{H:Hp}{a:Addr}{xs:List V}{ds:List D}(n:a∉ρ)(h:H a=some (.tup xs))(c:Cvs mg ρ H xs ds):ItOk mg ρ H (Itt K a) (.fix ds) where
 item:=λi ρ' H' M' d e j q=>by
  have hq:ds[i]?=some d:=Vc q;obtain⟨v,hv,cv⟩:=c.get hq;have h':=(e.keep _ _ h n).2;refine⟨⟨xs,v,SqT.of h',hv⟩,λx H2 y=>?_⟩
  obtain⟨rfl,y⟩:=y;have:=y xs (SqT.of h');rw[hv]at this;cases this;exact⟨.refl,j,cv.kp e⟩
 stop:=λi ρ' H' M' e j q=>by have hq:ds[i]?=none:=Vc q;exact⟨xs,SqT.of (e.keep _ _ h n).2,by rw[c.len];exact Vx.mp hq⟩
set_option tactic.hygienic true in
def Ov{K:PySem.W.Frag}{mg:Str->Option Value}{ρ:Rh}{H:Hp}{a:Addr}{n:Nat}(h:ρ.st[n]?=some a):ItOk mg ρ H (Itl K a) (.dyn n) where
 item:=λi ρ' H' M' d e j q=>by
  have h':=e.at h;unfold Itn.next at q;dsimp only at q;split at q
  ·rename_i l hl;obtain⟨xs,hx,c⟩:=j.obj n a _ h' hl;have hq:l[i]?=some d:=Vc q;obtain⟨v,hv,cv⟩:=c.get hq;refine⟨⟨xs,v,SqL.of hx,hv⟩,λx H2 y=>?_⟩
   obtain⟨rfl,y⟩:=y;have:=y xs (SqL.of hx);rw[hv]at this;cases this;exact⟨.refl,j,cv⟩
  ·cases q
 stop:=λi ρ' H' M' e j q=>by
  have h':=e.at h;unfold Itn.next at q;dsimp only at q;split at q
  ·rename_i l hl;obtain⟨xs,hx,c⟩:=j.obj n a _ h' hl;have hq:l[i]?=none:=Vc q;exact⟨xs,SqL.of hx,by rw[c.len];exact Vx.mp hq⟩
  ·cases q
def oM(lo:Int)(n:Nat):List D:=(List.range n).map λi=>.int (lo+(i:Nat))
def Cd{lo:Int}{n i:Nat}:(oM lo n)[i]?=if i<n then some (.int (lo+(i:Nat))) else none:=by
 unfold oM;rw[Vl];by_cases h:i<n
 ·rw[U5 h,Wh h];rfl
 ·rw[U8 h,Vx.mpr (by simp;lia)];rfl
set_option tactic.hygienic true in
def Gn{mg:Str->Option Value}{lo:Int}{n:Nat}:ItOk mg ρ H (Itr lo n) (.fix (oM lo n)) where
 item:=λi ρ' H' M' d e j q=>by
  have hq:(oM lo n)[i]?=some d:=Vc q;rw[Cd]at hq;split at hq
  ·rename_i h;cases hq;refine⟨h,λx H2 y=>?_⟩
   obtain⟨rfl,rfl⟩:=y;exact⟨.refl,j,.int _⟩
  ·cases hq
 stop:=λi ρ' H' M' e j q=>by
  have hq:(oM lo n)[i]?=none:=Vc q;rw[Cd]at hq;split at hq
  ·cases hq
  ·rename_i h;exact WF.mp h
section
variable{X:Cx}{E:XK}{tg:Expr}
def oN(i:Int):Bool:=decide (-(2^62)<=i/\i<2^62)
def qd:List D->Option Itn
 |[.int j]=>if oN j then some (.fix (oM 0 j.toNat)) else none
 |_=>none
def zy:List D->Option Itn
 |[.int i,.int j]=>if oN i&&oN j then some (.fix (oM i (j-i).toNat)) else none
 |_=>none
set_option tactic.hygienic true in
def b7(hg:Gl X "range")(hm:X.mg "range"=none)(ha:DA X E [a] fa)(hs:notStar a=true:=by rfl):DI X E tg (.Call (.Name "range" p) [a] [] pos) (λδ=>fa δ >>= λl=>opt (qd l)):=
 ⟨PI.mono (Du hg hm ha.h hs).h fun σ H R h=>by
  obtain⟨ρ,δ,M,ev,j,g1⟩:=h;refine⟨ρ,δ,M,ev,j,g1.bind λρ1 H1 M1 x dx e1 j1 c1 g2=>?_⟩
  obtain⟨it,e,q⟩:=g2.opt;unfold qd at e;split at e
  ·split at e
   ·rename_i hk;cases e;cases c1 with | cons c1 c2=>
    cases c2;cases c1;have hk:=V3 hk;exact⟨_,rfl,hk.1,hk.2,q ρ1 H1 _ .refl j1 Gn⟩
   ·cases e
  ·cases e⟩
set_option tactic.hygienic true in
def FZ(hg:Gl X "range")(hm:X.mg "range"=none)(ha:DA X E [a,b] fa)(hs:notStar a=true:=by rfl)(hs2:notStar b=true:=by rfl):DI X E tg (.Call (.Name "range" p) [a,b] [] pos) (λδ=>fa δ >>= λl=>opt (zy l)):=
 ⟨PI.mono (Dv hg hm ha.h hs hs2).h fun σ H R h=>by
  obtain⟨ρ,δ,M,ev,j,g1⟩:=h;refine⟨ρ,δ,M,ev,j,g1.bind λρ1 H1 M1 x dx e1 j1 c1 g2=>?_⟩
  obtain⟨it,e,q⟩:=g2.opt;unfold zy at e;split at e
  ·split at e
   ·rename_i hk;cases e;cases c1 with | cons c1 c2=>cases c2 with | cons c2 c3=>
    cases c3;cases c1;cases c2;have hk:=(WD _ _).mp hk;have h1:=V3 hk.1;have h2:=V3 hk.2;exact⟨_,_,rfl,⟨h1.1,h1.2,h2.1,h2.2⟩,q ρ1 H1 _ .refl j1 Gn⟩
   ·cases e
  ·cases e⟩
def jo:D->Option Itn
 |.tup l=>some (.fix l)
 |_=>none
def J5:D->Mo->Option Itn
 |.lst l,_=>some (.fix l)
 |.ref n,M=>match M[n]? with
   |some (.lst _)=>some (.dyn n)
   |_=>none
 |_,_=>none
def b8(hl:DE X E l fl):DI X E tg l (λδ=>fl δ>>=λd=>opt (jo d)):=⟨PI.mono (pi_tup hl.h) λσ H R h=>by
 obtain⟨ρ,δ,M,ev,j,g1⟩:=h;refine⟨ρ,δ,M,ev,j,g1.bind λρ1 H1 M1 x dx e1 j1 c1 g2=>?_⟩
 obtain⟨it,e,q⟩:=g2.opt;unfold jo at e;split at e
 ·cases e;cases c1 with | tup n a c=>
  exact⟨_,rfl,⟨_,SqT.of a⟩,q ρ1 H1 _ .refl j1 (Oz n a c)⟩
 ·cases e⟩
set_option tactic.hygienic true in
def m8(hl:DE X E l fl):DI X E tg l (λδ=>fl δ >>= λd=>rd (J5 d)):=⟨PI.mono (pi_list hl.h) λσ H R h=>by
 obtain⟨ρ,δ,M,ev,j,g1⟩:=h;refine⟨ρ,δ,M,ev,j,g1.bind λρ1 H1 M1 x dx e1 j1 c1 g2=>?_⟩
 obtain⟨it,e,q⟩:=g2.rd;unfold J5 at e;split at e
 ·cases e;cases c1 with | lst n a c=>
  exact⟨_,rfl,⟨_,SqL.of a⟩,q ρ1 H1 _ .refl j1 (Ox n a c)⟩
 ·split at e
  ·rename_i l' hl';cases e;cases c1 with | ref hn=>
   obtain⟨xs,hx,_⟩:=j1.obj _ _ _ hn hl';exact⟨_,rfl,⟨xs,SqL.of hx⟩,q ρ1 H1 _ .refl j1 (Ov hn)⟩
  ·cases e
 ·cases e⟩
end
def forL(tg:D->aj->DM aj)(fb:aj->DM Fl):List D->aj->DM Fl
 |[],δ=>pure (.nx δ)
 |d::l,δ=>tg d δ>>=λδ1=>fb δ1>>=λr=>match r with
   |.nx δ2=>forL tg fb l δ2
   |.ct δ2=>forL tg fb l δ2
   |.bk δ2=>pure (.nx δ2)
   |.rt d=>pure (.rt d)
def yu(tg:D->aj->DM aj)(fb:aj->DM Fl)(n:Nat):Nat->Nat->aj->DM Fl
 |0,_,_=>stuck
 | k + 1,i,δ=>rd (Itn.next (.dyn n) i) >>= λo=>match o with
   |none=>pure (.nx δ)
   |some d=>tg d δ>>=λδ1=>fb δ1>>=λr=>match r with
     |.nx δ2=>yu tg fb n k (i+1) δ2
     |.ct δ2=>yu tg fb n k (i+1) δ2
     |.bk δ2=>pure (.nx δ2)
     |.rt d=>pure (.rt d)
def Dk(N:Nat)(tg:D->aj->DM aj)(fb:aj->DM Fl):Itn->aj->DM Fl
 |.fix l=>forL tg fb l
 |.dyn n=>yu tg fb n N 0
def bj.rdb{mg:Str->Option Value}{E:XK}{D:Ends}{ρ:Rh}{H:Hp}{M:Mo}{γ:Type}{f:Mo->Option γ}{k:γ->DM Fl}(g:bj mg E D ρ H (L3.rd f>>=k) M):∃a,f M=some a/\bj mg E D ρ H (k a) M:=by
 obtain⟨r,e,p⟩:=g;have e:DM.bind _ _ M=some r:=e;unfold DM.bind L3.rd at e;cases h:f M with
 |none=>rw[h]at e;cases e
 |some a=>rw[h]at e;exact⟨a,rfl,r,e,p⟩
def yw{X:Cx}{E:XK}{fg:D->aj->DM aj}{fb:aj->DM Fl}{D:Ends}{σ:L2.St}{H H':Hp}{ρ:Rh}{δ:aj}{M:Mo}{x:V}{d:L3.D}{N:L2.St->Hp->Prop}{again:aj->DM Fl}
  (ev:Ev X.mg ρ H σ δ) (e1:Ext ρ H ρ H') (j1:J X.mg ρ M H') (c1:Cv X.mg ρ H' x d) (ht:bj X.mg E D ρ H (fg d δ>>=λδ1=>fb δ1>>=λr=>match r with
    |.nx δ2=>again δ2
    |.ct δ2=>again δ2
    |.bk δ2=>pure (.nx δ2)
    |.rt d=>pure (.rt d)) M) (hN:∀ρ2 δ2 M2 σ2 H2,Ext ρ H ρ2 H2->Ev X.mg ρ2 H2 σ2 δ2->J X.mg ρ2 M2 H2->bj X.mg E D ρ2 H2 (again δ2) M2->N σ2 H2) :
  tG X.mg E fg x σ H' λσ2 H2=>tS X.mg E fb { D with nx:=N,ct:=N,bk:=D.nx } σ2 H2:=by
 obtain⟨r,er,p⟩:=ht;have ht':bj X.mg E D ρ H' _ M:=⟨r,er,p.mono e1⟩;refine⟨ρ,δ,M,d,ev.mono e1,j1,c1,bj.bind ht' λρ2 H2 M2 σ2 δ2 e2 j2 ev2 g2=>⟨ρ2,δ2,M2,ev2,j2,g2.seq (λδ' ρ3 H3 M3 σ3 e3 j3 ev3 g3=>?_) (λδ' ρ3 H3 M3 σ3 e3 j3 ev3 g3=>?_) (λδ' ρ3 H3 M3 σ3 e3 j3 ev3 g3=>?_) (λd' ρ3 H3 M3 v e3 j3 c3 g3=>?_)⟩⟩
 ·exact hN ρ3 δ' M3 σ3 H3 ((e1.trans e2).trans e3) ev3 j3 g3
 ·exact bj.pure (a:=.nx δ') g3 ρ3 H3 σ3 .refl j3 ev3
 ·exact hN ρ3 δ' M3 σ3 H3 ((e1.trans e2).trans e3) ev3 j3 g3
 ·exact bj.pure (a:=.rt d') g3 ρ3 H3 v .refl j3 c3
def eZ{body:List Stmt}{fi:aj->DM Itn}{fg:D->aj->DM aj}{fb:aj->DM Fl}(N:Nat)(hp:PassesOwn (model X.prog X.w) X.A X.env X.xe)(hc:X.calm=true)(hi:DI X E tg iter fi)(hg:DG X E tg fg)(hb:DSs X E body fb)
  (hs:∀x,foldedSetIterable iter X.env x=pure x:=by intro _;rfl):DS X E (.For tg iter body [] pos) (λδ=>fi δ>>=λit=>Dk N fg fb it δ):=⟨PS.mono (ps_for hp hc hi.h hg.h hb.h hs) λD σ H h=>by
 obtain⟨ρ,δ,M,ev,j,g1⟩:=h;refine⟨ρ,δ,M,ev,j,g1.bind λρ1 H1 M1 Jt it e1 j1 iok g2=>?_⟩
 cases it with
 | fix l=>
   refine⟨λi m σ H=>∃ρ' δ' M',Ext ρ1 H1 ρ' H/\Ev X.mg ρ' H σ δ'/\J X.mg ρ' M' H/\m=(l.drop i).length/\bj X.mg E D ρ' H (forL fg fb (l.drop i) δ') M',⟨_,ρ1,δ,M1,.refl,ev.mono e1,j1,rfl,g2⟩,?_⟩
   rintro i m σ2 H2 ⟨ρ2,δ2,M2,e2,ev2,j2,rfl,g3⟩;cases hd:l[i]? with
   |none=>have hl:l.drop i=[]:=List.drop_eq_nil_of_le (Vx.mp hd);rw[hl]at g3;exact .inl ⟨iok.stop i ρ2 H2 M2 e2.kp j2 (congrArg some hd),bj.pure (a:=.nx δ2) g3 ρ2 H2 σ2 .refl j2 ev2⟩
   |some d=>
     obtain⟨hi',hd'⟩:=UW.mp hd;have hl:l.drop i=d::l.drop (i+1):=by rw[<-hd'];exact Xq hi'
     obtain⟨go,yl⟩:=iok.item i ρ2 H2 M2 d e2.kp j2 (congrArg some hd);rw[hl]at g3;refine .inr ⟨go,λσ' H'=>∃ρ' δ' M',Ext ρ1 H1 ρ' H'/\Ev X.mg ρ' H' σ' δ'/\J X.mg ρ' M' H'/\bj X.mg E D ρ' H' (forL fg fb (l.drop (i+1)) δ') M',λσ' H' ⟨ρ',δ',M',a1,a2,a3,a4⟩=>⟨_,by rw[Wz,Wz];lia,ρ',δ',M',a1,a2,a3,rfl,a4⟩,λx H' y=>?_⟩
     obtain⟨x1,x2,x3⟩:=yl x H' y;exact yw ev2 x1 x2 x3 g3 λρ3 δ3 M3 σ3 H3 f1 f2 f3 f4=>⟨ρ3,δ3,M3,e2.trans f1,f2,f3,f4⟩
 | dyn n=>
   refine⟨λi m σ H=>∃ρ' δ' M',Ext ρ1 H1 ρ' H/\Ev X.mg ρ' H σ δ'/\J X.mg ρ' M' H/\bj X.mg E D ρ' H (yu fg fb n m i δ') M',⟨N,ρ1,δ,M1,.refl,ev.mono e1,j1,g2⟩,?_⟩
   rintro i m σ2 H2 ⟨ρ2,δ2,M2,e2,ev2,j2,g3⟩;cases m with
   |zero=>obtain⟨r,e,_⟩:=g3;cases e
   | succ m=>
     obtain⟨o,eo,g4⟩:=bj.rdb g3;cases o with
     |none=>exact .inl ⟨iok.stop i ρ2 H2 M2 e2.kp j2 eo,bj.pure (a:=.nx δ2) g4 ρ2 H2 σ2 .refl j2 ev2⟩
     |some d=>
       obtain⟨go,yl⟩:=iok.item i ρ2 H2 M2 d e2.kp j2 eo;refine .inr ⟨go,λσ' H'=>∃ρ' δ' M',Ext ρ1 H1 ρ' H'/\Ev X.mg ρ' H' σ' δ'/\J X.mg ρ' M' H'/\bj X.mg E D ρ' H' (yu fg fb n m (i+1) δ') M',λσ' H' z=>⟨m,Wv _,z⟩,λx H' y=>?_⟩
       obtain⟨x1,x2,x3⟩:=yl x H' y;exact yw ev2 x1 x2 x3 g4 λρ3 δ3 M3 σ3 H3 f1 f2 f3 f4=>⟨ρ3,δ3,M3,e2.trans f1,f2,f3,f4⟩⟩
def cR(c:aj->DM Bool)(fb:aj->DM Fl):Nat->aj->DM Fl
 |0,_=>stuck
 | k + 1,δ=>c δ >>= λb=>if b then (fb δ >>= λr=>match r with
     |.nx δ2=>cR c fb k δ2
     |.ct δ2=>cR c fb k δ2
     |.bk δ2=>pure (.nx δ2)
     |.rt d=>pure (.rt d)) else pure (.nx δ)
def sE(N:Nat)(hp:PassesOwn (model X.prog X.w) X.A X.env X.xe)(hc:DT X E c fc)(hb:DSs X E body fb):DS X E (.While c body [] pos) (cR fc fb N):=⟨PS.mono (L2.ps_while hp hc.h hb.h) λD σ H h=>by
 obtain⟨ρ,δ,M,ev,j,g1⟩:=h;refine⟨λm σ H=>∃ρ' δ' M',Ev X.mg ρ' H σ δ'/\J X.mg ρ' M' H/\bj X.mg E D ρ' H (cR fc fb m δ') M',⟨N,ρ,δ,M,ev,j,g1⟩,?_⟩
 rintro m σ2 H2 ⟨ρ2,δ2,M2,ev2,j2,g3⟩;cases m with
 |zero=>obtain⟨r,e,_⟩:=g3;cases e
 | succ m=>
   refine⟨ρ2,δ2,M2,ev2,j2,bj.bind g3 λρ3 H3 M3 b b' e3 j3 cb g4=>?_⟩
   have cb:b=b':=cb;subst cb;cases b with
   |true=>
     refine iteT ⟨λσ' H'=>∃ρ' δ' M',Ev X.mg ρ' H' σ' δ'/\J X.mg ρ' M' H'/\bj X.mg E D ρ' H' (cR fc fb m δ') M',λσ' H' z=>⟨m,Wv _,z⟩,ρ3,δ2,M3,ev2.mono e3,j3,?_⟩
     refine bj.seq g4 (λδ' ρ4 H4 M4 σ4 e4 j4 ev4 g5=>⟨ρ4,δ',M4,ev4,j4,g5⟩) (λδ' ρ4 H4 M4 σ4 e4 j4 ev4 g5=>?_) (λδ' ρ4 H4 M4 σ4 e4 j4 ev4 g5=>⟨ρ4,δ',M4,ev4,j4,g5⟩) (λd' ρ4 H4 M4 v e4 j4 c4 g5=>?_)
     ·exact bj.pure (a:=.nx δ') g5 ρ4 H4 σ4 .refl j4 ev4
     ·exact bj.pure (a:=.rt d') g5 ρ4 H4 v .refl j4 c4
   |false=>exact iteF (bj.pure (a:=.nx δ2) g4 ρ3 H3 σ2 .refl j3 (ev2.mono e3))⟩
def zH(mg:Str->Option Value)(F:List D->DM D):Sp:=λvs H Q E=>∃ρ M ds,Cvs mg ρ H vs ds/\J mg ρ M H/\Go mg E (Cv mg) Q ρ H (F ds) M
structure DefD(P:Program)(w:World)(K:PySem.W.Frag)(mg:Str->Option Value)(base:Heap)(k:Nat)(x:Str)(ps:List Str)(F:List D->DM D):Prop where
 h:DefC P w K mg base k x ps (zH mg F)
def bQ(n:Nat)(ds:List D):aj:=ds.map some++List.replicate (n-ds.length) none
def aF(p n:Nat)(fb:aj->DM Fl)(ds:List D):DM D:=if ds.length=p then fb (bQ n ds)>>=λr=>match r with
 |.nx _=>pure .non
 |.rt d=>pure d
 |_=>stuck else stuck
def ou{mg:Str->Option Value}{ρ:Rh}{H:Hp}{N:List Str}{vs:List V}{ds:List D}(c:Cvs mg ρ H vs ds):Ev mg ρ H (L2.start N vs) (bQ N.length ds):=by
 unfold L2.start bQ;refine⟨by simp[c.len],λi d q=>?_⟩
 by_cases hi:i<ds.length
 ·rw[Vb (by rw[U6];exact hi),Vl]at q
  obtain⟨d',h1,h2⟩:=U4.mp q;cases h2;obtain⟨v,hv,cv⟩:=c.get h1;exact⟨v,by rw[Vb (by rw[U6,c.len];exact hi),Vl,hv];rfl,cv⟩
 ·rw[VL (by rw[U6];lia),Xd]at q
  split at q<;>cases q
section
variable{P:Program}{w:World}{K:PySem.W.Frag}{mg:Str->Option Value}{base:Heap}{k:Nat}{x:Str}{N ps:List Str}{st:Stmt}
set_option tactic.hygienic true in
theorem bj.aF{E:XK}{Q:VK}{ρ:Rh}{H:Hp}{M:Mo}{n p:Nat}{fb:aj->DM Fl}{ds:List D}(g:Go mg E (Cv mg) Q ρ H (L3.aF p n fb ds) M):ds.length=p/\bj mg E { nx:=λz H'=>Q .non H',rt:=Q } ρ H (fb (bQ n ds)) M:=by
 obtain⟨r,e,p⟩:=g;unfold L3.aF at e;split at e;rotate_left
 ·cases e
 rename_i hl;refine⟨hl,?_⟩;have e:DM.bind _ _ M=some r:=e;unfold DM.bind at e;split at e
 ·cases e
 ·rename_i c M' em;cases e;exact⟨_,em,p⟩
 ·rename_i a M' em;refine⟨_,em,?_⟩;cases a with
  |nx δ'=>cases e;exact λρ1 H1 b x j c=>p ρ1 H1 .non x j .non
  |rt d=>cases e;exact λρ1 H1 b x j c=>p ρ1 H1 b x j c
  |bk δ'=>cases e
  |ct δ'=>cases e
def DefAt.okD{fb:aj->DM Fl}(D:DefAt K mg x st)(S:FnScope N ps (defScope st))(hb:∀ (kV doc pm:Value) (an:Option Addr) (cdv ct:Value) (us:List Value),us.length=ps.length->bindArgs (PySem.W.fnOf x x (defArgs st) (defBody st) (defScope st) .none kV doc pm an cdv ct) ⟨us,[]⟩=pure (ps.zip us))
  (hbody:∀(f:Addr) (cdv:Value) (A:Around) (outer:List Env) (s:Shared) (H:Hp) (E:XK),Room k (A.deeper (envOfC x (defScope st) s.heap.objs.size f cdv))->
    DSs (iJ P w K mg base N x (defScope st) f cdv A outer s H E) E (defBody st) fb):DefD P w K mg base (k+1) x ps (aF ps.length N.length fb):=⟨by
 refine D.okE S hb (λvs H Q E h=>?_) λf cdv A outer s H vs Q E hr h=>?_
 ·obtain⟨ρ,M,ds,c,j,g⟩:=h;rw[c.len];exact (bj.aF g).1
 obtain⟨ρ,M,ds,c,j,g⟩:=h;exact⟨_,(hbody f cdv A outer s H E hr).h,ρ,_,M,ou c,j,(bj.aF g).2⟩⟩
def DefAt.okN{F:List D->DM D}{fb:Nat->aj->DM Fl}(D:DefAt K mg x st)(S:FnScope N ps (defScope st))(hb:∀ (kV doc pm:Value) (an:Option Addr) (cdv ct:Value) (us:List Value),us.length=ps.length->bindArgs (PySem.W.fnOf x x (defArgs st) (defBody st) (defScope st) .none kV doc pm an cdv ct) ⟨us,[]⟩=pure (ps.zip us))
  (hf:∀ds M r,F ds M=some r->∃n,aF ps.length N.length (fb n) ds M=some r)
  (hbody:∀(n:Nat) (f:Addr) (cdv:Value) (A:Around) (outer:List Env) (s:Shared) (H:Hp) (E:XK),Room k (A.deeper (envOfC x (defScope st) s.heap.objs.size f cdv))->
    DSs (iJ P w K mg base N x (defScope st) f cdv A outer s H E) E (defBody st) (fb n)):DefD P w K mg base (k+1) x ps F:=⟨by
 refine D.okE S hb (λvs H Q E h=>?_) λf cdv A outer s H vs Q E hr h=>?_
 ·obtain⟨ρ,M,ds,c,j,r,e,p⟩:=h;obtain⟨n,e2⟩:=hf ds M r e;rw[c.len];exact (bj.aF ⟨r,e2,p⟩).1
 obtain⟨ρ,M,ds,c,j,r,e,p⟩:=h;obtain⟨n,e2⟩:=hf ds M r e;exact⟨_,(hbody n f cdv A outer s H E hr).h,ρ,_,M,ou c,j,(bj.aF ⟨r,e2,p⟩).2⟩⟩
end
mutual
inductive Fz(M:Mo)(k:Nat):D->D->Prop
 |non:Fz M k .non .non
 |bl (b:Bool):Fz M k (.bl b) (.bl b)
 |int (i:Int):Fz M k (.int i) (.int i)
 |str (x:Str):Fz M k (.str x) (.str x)
 |tup {l l':List D}:Fzs M k l l'->Fz M k (.tup l) (.tup l')
 |lst {l l':List D}:Fzs M k l l'->Fz M k (.lst l) (.lst l')
 |dic {ks:List Key}{l l':List D}:Fzs M k l l'->Fz M k (.dic ks l) (.dic ks l')
 |obj {c:Str}{ns:List Str}{l l':List D}:Fzs M k l l'->Fz M k (.obj c ns l) (.obj c ns l')
 |scr (ns:List Int):Fz M k (.scr ns) (.scr ns)
 |old {n:Nat}:n<k->Fz M k (.ref n) (.ref n)
 |new {n:Nat}{l l':List D}:k<=n->M[n]?=some (.lst l)->Fzs M k l l'->Fz M k (.ref n) (.lst l')
 |cls (c:Str):Fz M k (.cls c) (.cls c)
 |ty (c:String):Fz M k (.ty c) (.ty c)
 |exn (a:Addr):Fz M k (.exn a) (.exn a)
inductive Fzs(M:Mo)(k:Nat):List D->List D->Prop
 |nil:Fzs M k [] []
 |cons {d d':D}{l l':List D}:Fz M k d d'->Fzs M k l l'->Fzs M k (d::l) (d'::l')
end
def Ub(M:Mo)(k:Nat):DO->DO->Prop
 |.lst l,.lst l'=>Fzs M k l l'
 |.dic ks l,.dic ks' l'=>ks=ks'/\Fzs M k l l'
 |.ins c ns l,.ins c' ns' l'=>c=c'/\ns=ns'/\Fzs M k l l'
 |_,_=>False
def Sx(M':Mo)(k:Nat)(M1:Mo):Prop:=M1.length=k/\∀(n:Nat) o,M1[n]?=some o->∃o',M'[n]?=some o'/\Ub M' k o' o
section
variable{mg:Str->Option Value}{ρ ρ':Rh}{H:Hp}{M:Mo}{k:Nat}
structure Sub(ρ ρ':Rh)(k:Nat):Prop where
 st:∃τ,ρ'.st=ρ.st++τ
 vo:ρ'.vo=ρ.vo
 len:ρ.st.length=k
def Sub.out(s:Sub ρ ρ' k){a:Addr}(h:a∉ρ'):a∉ρ:=λz=>by
 obtain⟨τ,e⟩:=s.st;rcases z with z | z
 ·exact h (.inl (by rw[e];exact Wu _ z))
 ·exact h (.inr (by rw[s.vo];exact z))
def T9(mg:Str->Option Value)(ρ:Rh)(H:Hp)(v:V)(d:D):Prop:=D.casesOn (motive_1:=λz=>Prop) d (v=.non) (λb=>v=.bl b) (λi=>v=.int i) (λx=>v=.str x) (λds=>∃a xs,v=.ref a/\a∉ρ/\H a=some (.tup xs)/\Cvs mg ρ H xs ds) (λds=>∃a xs,v=.ref a/\a∉ρ/\H a=some (.lst xs)/\Cvs mg ρ H xs ds)
 (λks ds=>∃a xs,v=.ref a/\a∉ρ/\H a=some (.dK (ks.zip xs))/\ks.length=xs.length/\Cvs mg ρ H xs ds) (λc ns ds=>∃a C dx xs,v=.ref a/\a∉ρ/\mg c=some (.ref C)/\H a=some (.ins C dx (ns.zip xs))/\ns.length=xs.length/\Cvs mg ρ H xs ds)
 (λns=>∃a,v=.ref a/\a∉ρ/\Rd H a (.lst (ns.map V.int))) (λn=>∃a,v=.ref a/\ρ.st[n]?=some a) (λc=>∃C,v=.ref C/\mg c=some (.ref C)) (λt=>v=.ty t) (λa=>v=.ref a)
set_option tactic.hygienic true in
def Cv.inv{v:V}{d:D}(h:Cv mg ρ H v d):T9 mg ρ H v d:=by
 cases h
 case non=>exact rfl
 case bl=>exact rfl
 case int=>exact rfl
 case str=>exact rfl
 case tup n h c=>exact⟨_,_,rfl,n,h,c⟩
 case lst n h c=>exact⟨_,_,rfl,n,h,c⟩
 case dic n h l c=>exact⟨_,_,rfl,n,h,l,c⟩
 case obj n m h l c=>exact⟨_,_,_,_,rfl,n,m,h,l,c⟩
 case scr n h=>exact⟨_,rfl,n,h⟩
 case ref h=>exact⟨_,rfl,h⟩
 case cls h=>exact⟨_,rfl,h⟩
 case ty=>exact rfl
 case exn=>exact rfl
def Cvs.inv{v:V}{d:D}{vs:List V}{l:List D}(h:Cvs mg ρ H vs (d::l)):∃v vs',vs=v::vs'/\Cv mg ρ H v d/\Cvs mg ρ H vs' l:=by cases h with | cons a b=>exact⟨_,_,rfl,a,b⟩
def Cvs.inv0{vs:List V}(h:Cvs mg ρ H vs []):vs=[]:=by cases h;rfl
def Cvs.freeze(s:Sub ρ ρ' k)(j:J mg ρ' M H){d d':List D}{v:List V}(f:Fzs M k d d'):Cvs mg ρ' H v d->Cvs mg ρ H v d':=
 Fzs.rec (motive_1:=λd d' y=>∀ v,Cv mg ρ' H v d->Cv mg ρ H v d') (motive_2:=λd d' y=>∀ v,Cvs mg ρ' H v d->Cvs mg ρ H v d')
  (λy c=>Eq.symm (a:=_) (Cv.inv c) ▸ .non) (λb y c=>Eq.symm (a:=_) (Cv.inv c) ▸ .bl b) (λb y c=>Eq.symm (a:=_) (Cv.inv c) ▸ .int b) (λb y c=>Eq.symm (a:=_) (Cv.inv c) ▸ .str b)
  (λy f v c=>let ⟨_,_,e,n,h,c⟩:=Cv.inv c;e ▸ .tup (s.out n) h (f _ c))
  (λy f v c=>let ⟨_,_,e,n,h,c⟩:=Cv.inv c;e ▸ .lst (s.out n) h (f _ c))
  (λy f v c=>let ⟨_,_,e,n,h,l,c⟩:=Cv.inv c;e ▸ .dic (s.out n) h l (f _ c))
  (λy f v c=>let ⟨_,_,_,_,e,n,m,h,l,c⟩:=Cv.inv c;e ▸ .obj (s.out n) m h l (f _ c))
  (λy v c=>let ⟨_,e,n,h⟩:=Cv.inv c;e ▸ .scr (s.out n) h)
  (λhn v c=>by
    obtain⟨a,rfl,h⟩:=Cv.inv c;obtain⟨τ,e⟩:=s.st;rw[e,Vb (by rw[s.len];exact hn)]at h
    exact .ref h)
  (λhn hm y f v c=>by
    obtain⟨a,rfl,h⟩:=Cv.inv c;obtain⟨xs,hx,c⟩:=j.obj _ _ _ h hm;refine .lst (λz=>?_) hx (f _ c)
    rcases z with z | z
    ·obtain⟨m,hm'⟩:=XR.mp z;obtain⟨τ,e⟩:=s.st;have hl:=(UW.mp hm').1;have h2:ρ'.st[m]?=some a:=by rw[e,Vb hl];exact hm'
     exact WF.mpr hn (j.inj h h2 ▸ s.len ▸ hl)
    ·exact (j.vol a (by rw[s.vo];exact z)).1 (Vo h))
  (λy v c=>let ⟨_,e,h⟩:=Cv.inv c;e ▸ .cls h) (λb y c=>Eq.symm (a:=_) (Cv.inv c) ▸ .ty b) (λb y c=>Eq.symm (a:=_) (Cv.inv c) ▸ .exn b)
  (λv c=>Cvs.inv0 c ▸ .nil) (λy y f g v c=>let ⟨_,_,e,a,b⟩:=Cvs.inv (v:=.non) c;e ▸ .cons (f _ a) (g _ b)) f v
theorem J.freeze{M1:Mo}(s:Sub ρ ρ' k)(j:J mg ρ' M H)(hk:ρ.st.length=M1.length)(f:Sx M k M1):J mg ρ M1 H:=by
 obtain⟨τ,e⟩:=s.st;refine⟨hk,?_,λn a o h1 h2=>?_,λa ha=>?_⟩
 ·have:=j.nd;rw[e]at this;exact (XJ.mp this).1
 ·obtain ⟨o',h3,fo⟩:=f.2 n o h2;have hl:=(UW.mp h1).1;have c:=j.obj n a o' (by rw[e,Vb hl];exact h1) h3
  cases o' with
  |lst l=>cases o with
    |lst l'=>obtain⟨xs,hx,c⟩:=c;exact⟨xs,hx,Cvs.freeze s j fo c⟩
    |dic _ _=>exact (show False from fo).elim
    |ins _ _ _=>exact (show False from fo).elim
  |dic ks l=>cases o with
    |lst l'=>exact (show False from fo).elim
    |dic ks' l'=>obtain⟨xs,hx,q,c⟩:=c;obtain⟨rfl,fo⟩:=fo;exact⟨xs,hx,q,Cvs.freeze s j fo c⟩
    |ins _ _ _=>exact (show False from fo).elim
  |ins c' ns l=>cases o with
    |lst l'=>exact (show False from fo).elim
    |dic _ _=>exact (show False from fo).elim
    |ins c'' ns' l'=>obtain⟨C,dx,xs,m,hx,q,c⟩:=c;obtain⟨rfl,rfl,fo⟩:=fo;exact⟨C,dx,xs,m,hx,q,Cvs.freeze s j fo c⟩
 ·obtain⟨x,xs,h⟩:=j.vol a (by rw[s.vo];exact ha)
  exact⟨λz=>x (by rw[e];exact Wu _ z),xs,h⟩
end
section
variable{X:Cx}{E:XK}{j k:Nat}{ps:List Str}{F:List D->DM D}{x:Str}{p pos:Pos}{e:Expr}{es:List Expr}{fs:aj->DM (List D)}
def aB(D:DefD X.prog X.w X.K X.mg X.base j x ps F)(hr:Room k X.A)(hx:Passes (dN X.prog X.w) X E)(ha:DA X E (e::es) fs)(hjk:j<=k:=by decide)(hg:Gl X x:=by rfl)(hdb:(x==("__debug__":Str))=false:=by decide)
  (he:notStar e=true:=by rfl) (hpl:(backTo pos (starEach es X.env)).any (·.1)=false:=by rfl) :
  DE X E (.Call (.Name x p) (e::es) [] pos) (λδ=>fs δ>>=F):=⟨PE.mono (G7 D.h hr hx ha.h hjk hg hdb he hpl) λσ H Q h=>by
 obtain⟨ρ,δ,M,ev,j,g1⟩:=h;refine⟨ρ,δ,M,ev,j,g1.bind λρ1 H1 M1 xs dxs e1 j1 c1 g2=>?_⟩
 rw[W7];exact⟨ρ1,M1,dxs,c1,j1,g2⟩⟩
def rC(mg:Str->Option Value)(E:XK)(g:List D->DM D):List V->Hp->VK->Prop:=λvs H Q=>∃ρ M ds,J mg ρ M H/\Cvs mg ρ H vs ds/\Go mg E (Cv mg) Q ρ H (g ds) M
def CallD(X:Cx)(E:XK)(f:Value)(g:List D->DM D):Prop:=CallR X f (rC X.mg E g)
def aN{id:String}{g:List D->DM D}(hc:CallD X E (.builtin id) g)(hm:X.mg x=none)(ha:DA X E (e::es) fs)(hg:Gl X x:=by rfl)(hv:bootBuiltins x=some (.builtin id):=by decide +kernel)(hn:x≠"__name__":=by decide)(hdb:(x==("__debug__":Str))=false:=by decide)
  (he:notStar e=true:=by rfl) (hpl:(backTo pos (starEach es X.env)).any (·.1)=false:=by rfl) :
  DE X E (.Call (.Name x p) (e::es) [] pos) (λδ=>fs δ>>=g):=⟨PE.mono (Kf hc hm ha.h hg hv hn hdb he hpl) λσ H Q h=>by
 obtain⟨ρ,δ,M,ev,j,g1⟩:=h;exact⟨ρ,δ,M,ev,j,g1.bind λρ1 H1 M1 xs dxs e1 j1 c1 g2=>⟨ρ1,M1,dxs,j1,c1,g2⟩⟩⟩
def cL{T:String}{g:List D->DM D}(hc:CallD X E (.type T) g)(hm:X.mg x=none)(ha:DA X E (e::es) fs)(hg:Gl X x:=by rfl)(hv:bootBuiltins x=some (.type T):=by decide +kernel)(hn:x≠"__name__":=by decide)(hdb:(x==("__debug__":Str))=false:=by decide)
  (he:notStar e=true:=by rfl) (hpl:(backTo pos (starEach es X.env)).any (·.1)=false:=by rfl) :
  DE X E (.Call (.Name x p) (e::es) [] pos) (λδ=>fs δ>>=g):=⟨PE.mono (Rp hc hm ha.h hg hv hn hdb he hpl) λσ H Q h=>by
 obtain⟨ρ,δ,M,ev,j,g1⟩:=h;exact⟨ρ,δ,M,ev,j,g1.bind λρ1 H1 M1 xs dxs e1 j1 c1 g2=>⟨ρ1,M1,dxs,j1,c1,g2⟩⟩⟩
def CallD.of{f:Value}{r:List V->Hp->VK->Prop}{g:List D->Mo->Option D}(hr:CallR X f r)
  (h:∀vs H Q ρ M ds d,J X.mg ρ M H->Cvs X.mg ρ H vs ds->g ds M=some d->(∀ρ' H' v,Ext ρ H ρ' H'->J X.mg ρ' M H'->Cv X.mg ρ' H' v d->Q v H')->r vs H Q):CallD X E f (λl=>rd (g l)):=by
 intro Zo s σ H vs us Q I rs q;obtain⟨ρ,M,ds,j,c,go⟩:=q;obtain⟨d,e,p⟩:=go.rd;exact hr Zo s σ H vs us Q I rs (h vs H Q ρ M ds d j c e p)
end
section
variable{X:Cx}{E:XK}{mg:Str->Option Value}{ρ:Rh}{H:Hp}{M:Mo}
def Cvs.one(c:Cvs mg ρ H vs [d]):∃v,vs=[v]/\Cv mg ρ H v d:=by
 cases c with
 |cons c c2=>cases c2;exact⟨_,rfl,c⟩
def Cvs.two(c:Cvs mg ρ H vs [d,e]):∃ v w,vs=[v,w]/\Cv mg ρ H v d/\Cv mg ρ H w e:=by
 cases c with
 |cons c c2=>obtain⟨w,rfl,k⟩:=c2.one;exact⟨_,_,rfl,c,k⟩
def gj:List D->Mo->Option D
 |[.tup l],_=>some (.int l.length)
 |[.scr l],_=>some (.int l.length)
 |[.str x],_=>if x.length<=sizeLine then some (.int x.length) else none
 |[d],M=>(aR d M).map λl=>.int l.length
 |_,_=>none
set_option tactic.hygienic true in
def call_lenD:CallD X E (.builtin "len") (λl=>rd (gj l)):=CallD.of (call_len_seq.or call_len_str) λvs H Q ρ M ds d j c e q=>by
 unfold gj at e;split at e
 ·cases e;obtain⟨v,rfl,k⟩:=c.one;replace c:=k;cases c with | tup n a c=>
  exact .inl ⟨_,_,rfl,.inr (SqT.of a),by rw[c.len];exact q ρ H _ .refl j (.int _)⟩
 ·cases e;obtain⟨v,rfl,k⟩:=c.one;replace c:=k;cases c with | scr n a=>
  exact .inl ⟨_,_,rfl,.inl (.inl a),by rw[U6];exact q ρ H _ .refl j (.int _)⟩
 ·split at e
  ·cases e;obtain⟨v,rfl,k⟩:=c.one;replace c:=k;cases c;exact .inr ⟨_,rfl,‹_›,q ρ H _ .refl j (.int _)⟩
  ·cases e
 ·obtain⟨l,h1,rfl⟩:=U4.mp e;obtain⟨v,rfl,k⟩:=c.one;replace c:=k;obtain⟨a,xs,rfl,ha,c⟩:=cP j c h1;exact .inl ⟨_,_,rfl,.inl (SqL.of ha),by rw[c.len];exact q ρ H _ .refl j (.int _)⟩
 ·cases e
def Td:List D->Mo->Option D
 |[.int i],_=>some (.int (if i<0 then -i else i))
 |_,_=>none
def Do:List D->Mo->Option D
 |[.int i,.int j],_=>some (.int (if j > i then j else i))
 |_,_=>none
def Rg:List D->Mo->Option D
 |[.int i,.int j],_=>some (.int (if j<i then j else i))
 |_,_=>none
def CV(hc:X.calm=true):CallD X E (.builtin "max") (λl=>rd (Do l)):=CallD.of (call_max2 hc) λvs H Q ρ M ds d j c e q=>by
 unfold Do at e;split at e
 ·cases e;obtain⟨v,w,rfl,k,c2⟩:=c.two;replace c:=k;cases c;cases c2;exact⟨_,_,rfl,q ρ H _ .refl j (.int _)⟩
 ·cases e
def q9:D->Mo->Option (List D)
 |.tup l,_=>some l
 |d,M=>aR d M
def Hy(j:J mg ρ M H)(c:Cv mg ρ H x d)(e:q9 d M=some l):∃a xs,x=.ref a/\(H a=some (.lst xs)\/H a=some (.tup xs))/\Cvs mg ρ H xs l:=by
 unfold q9 at e;split at e
 ·cases e;cases c with | tup n a c=>exact⟨_,_,rfl,.inr a,c⟩
 ·obtain⟨a,xs,rfl,ha,c⟩:=cP j c e;exact⟨a,xs,rfl,.inl ha,c⟩
def intsOf:List D->Option (List Int)
 |[]=>some []
 |.int i::l=>(intsOf l).map (i::·)
 |_=>none
theorem ints_of:∀ {xs:List V}{l:List D}{ns:List Int},Cvs mg ρ H xs l->intsOf l=some ns->xs=ns.map V.int
 |_,_,_,.nil,e=>by cases e;rfl
 | _,_,_,.cons (d:=d) c cs,e=>by
   cases d with
   |int i=>obtain⟨ms,h1,rfl⟩:=U4.mp e;cases c;rw[ints_of cs h1];rfl
   |_=>cases e
def Fv(hh:X.A.handled=none):CallR X (.builtin "sum") (λvs H Q=>∃ (l:Addr) (ns:List Int),vs=[.ref l]/\(H l=some (.lst (ns.map V.int))\/H l=some (.tup (ns.map V.int)))/\Q (.int ns.sum) H):=by
 intro Zo s σ H vs us Q I r h;obtain⟨l,ns,rfl,hH,q⟩:=h;obtain⟨u,rfl,ru⟩:=vals1 r;cases ru;have fin:∀(its:List Value),IntsAre its ns->∃xs,its.toArray=intItems xs/\preSum (numAt xs) xs.size=ns.sum:=λits hi=>by
  obtain⟨xs,hx⟩:=hi.allInts.items;have hn:numsOf its.toArray.toList=ns:=by rw[show its.toArray.toList=its from rfl,hi.numsOf]
  rw[hx]at hn;rw[PySem.nums_intItems]at hn;exact⟨xs,hx,by rw[PySem.preSum_eq,Xh (by simp),hn]⟩
 rcases hH with hH | hH
 ·obtain ⟨its,rv,p,hz⟩:=I.list (SqL.of (K:=X.K) hH);obtain⟨xs,hx,hs⟩:=fin its (intsAre_of rv);have hl:=p.isList;rw[hx]at hl;obtain⟨o,ho,hc,n,hd⟩:=id hl;have hne:l≠s.heap.objs.size:=Vi (U7 ho);have hsz:(intItems xs).size=xs.size:=by simp[intItems]
  have W:=(Walks.list (prog:=X.prog) (w:=X.w) (A:=X.A.in1) hh s.heap.objs.size l hne (intItems xs)).toS;rw[hsz]at W;refine call_sum_walkAnyS (W8 hl ?_);refine⟨s.heap.objs.size,_,_,_,_,_,_,numAt xs,rfl,W,⟨⟨_,U9 _ rfl,rfl,rfl⟩,hl.at λo e=>UT _ e⟩,λb hb=>?_,λi v hP=>intItems_at hP,λs' t' hm=>?_⟩
  ·rcases Vf.mp hb with rfl | hb
   ·exact U7 (U9 _ rfl)
   ·obtain rfl:=Vj.mp hb;exact U7 (UT _ ho)
  ·obtain⟨h',g',d',tk',os'⟩:=s';have e1:g'=s.gens:=hm.gens;have e2:d'=s.drawn:=hm.drawn;have e3:os'=s.os:=hm.os;subst e1 e2 e3;refine⟨.int ns.sum,H,I.kept (h':=h') (t':=tk') λb o e=>hm.heap b o (λhb=>absurd (U7 e) ((Vj.mp hb) ▸ Wm _)) (UT _ e),⟨t',?_⟩,q⟩
   rw[<-hs]
 ·obtain⟨its,rv,p,hz⟩:=I.tuple (SqT.of (K:=X.K) hH);obtain⟨xs,hx,hs⟩:=fin its (intsAre_of rv);rw[hx]at p;exact PySem.W.ktm_sumG hh (show s.heap.IsTuple l _ from p) λh' tk t' hk=>⟨.int ns.sum,H,I.kept hk,⟨t',by rw[<-hs]⟩,q⟩
def Em:List D->Mo->Option D
 |[d],M=>(q9 d M).bind λl=>(intsOf l).map λns=>.int ns.sum
 |_,_=>none
def dq(hh:X.A.handled=none):CallD X E (.builtin "sum") (λl=>rd (Em l)):=CallD.of (Fv hh) λvs H Q ρ M ds d j c e q=>by
 unfold Em at e;split at e
 ·obtain⟨l,h1,e1⟩:=Vs.mp e;obtain⟨ns,h2,rfl⟩:=U4.mp e1;obtain⟨v,rfl,k⟩:=c.one;replace c:=k;obtain⟨a,xs,rfl,ha,c⟩:=Hy j c h1;have:=ints_of c h2;subst this;exact⟨_,ns,rfl,ha,q ρ H _ .refl j (.int _)⟩
 ·cases e
def JS:D->Option Bool
 |.bl b=>some b
 |.int i=>some (i != 0)
 |_=>none
def gG:List D->Option (List Bool)
 |[]=>some []
 |d::l=>match JS d,gG l with
   |some b,some bs=>some (b::bs)
   |_,_=>none
set_option tactic.hygienic true in
theorem vG:∀ {xs:List V}{l:List D}{bs:List Bool},Cvs mg ρ H xs l->gG l=some bs->(∀ x∈xs,scS x=true)/\xs.map gF=bs
 |_,_,_,.nil,e=>by cases e;exact⟨(λx hx=>nomatch hx),rfl⟩
 | _,_,_,.cons (d:=d) (ds:=ds) (vs:=vs) c cs,e=>by
   unfold gG at e;split at e
   ·rename_i b bs h1 h2;cases e;obtain⟨a1,a2⟩:=vG cs h2;cases c with
    |bl b'=>cases h1;exact⟨λx hx=>by rcases Vf.mp hx with rfl | hx;rfl;exact a1 x hx,by rw[Vt,a2];rfl⟩
    |int b'=>cases h1;exact⟨λx hx=>by rcases Vf.mp hx with rfl | hx;rfl;exact a1 x hx,by rw[Vt,a2];rfl⟩
    |_=>cases h1
   ·cases e
def pH:List D->Mo->Option D
 |[d],M=>(aR d M).bind λl=>(gG l).map λbs=>.bl (bs.all id)
 |_,_=>none
def CJ:List D->Mo->Option D
 |[.tup l],_=>(gG l).map λbs=>.bl (bs.any id)
 |_,_=>none
def lg(hh:X.A.handled=none):CallD X E (.builtin "all") (λl=>rd (pH l)):=CallD.of (Ir hh) λvs H Q ρ M ds d j c e q=>by
 unfold pH at e;split at e
 ·obtain⟨l,h1,e1⟩:=Vs.mp e;obtain⟨ns,h2,rfl⟩:=U4.mp e1;obtain⟨v,rfl,k⟩:=c.one;replace c:=k;obtain⟨a,xs,rfl,ha,c⟩:=cP j c h1;obtain⟨t1,t2⟩:=vG c h2;subst t2;exact⟨_,xs,rfl,ha,t1,by have z:=q ρ H _ .refl j (.bl _);rw[List.all_map]at z;exact z⟩
 ·cases e
def Fp(hh:X.A.handled=none):CallD X E (.builtin "any") (λl=>rd (CJ l)):=CallD.of (Iu hh) λvs H Q ρ M ds d j c e q=>by
 unfold CJ at e;split at e
 ·obtain⟨ns,h2,rfl⟩:=U4.mp e;obtain⟨v,rfl,k⟩:=c.one;replace c:=k;cases c with | tup n ha c=>
  obtain⟨t1,t2⟩:=vG c h2;subst t2;exact⟨_,_,rfl,ha,t1,by have z:=q ρ H _ .refl j (.bl _);rw[List.any_map]at z;exact z⟩
 ·cases e
def n6:List D->Mo->Option D
 |[d],M=>(q9 d M).map .tup
 |_,_=>none
def aX:CallD X E (.type "tuple") (λl=>rd (n6 l)):=CallD.of call_tuple_of λvs H Q ρ M ds d j c e q=>by
 unfold n6 at e;split at e
 ·obtain⟨l,h1,rfl⟩:=U4.mp e;obtain⟨v,rfl,k⟩:=c.one;replace c:=k;unfold q9 at h1;split at h1
  ·cases h1;cases c with | tup n a c=>
   exact⟨_,_,rfl,.inr ⟨SqT.of a,q ρ H _ .refl j (.tup n a c)⟩⟩
  ·obtain⟨a,xs,rfl,ha,c⟩:=cP j c h1;exact⟨_,_,rfl,.inl ⟨SqL.of ha,λp hp=>q ρ _ _ (.lay hp) (j.lay _ hp) (.tup (j.fresh hp) upd_same (c.mono (.lay hp)))⟩⟩
 ·cases e
def qP:List D->Mo->Option (List D)
 |[d],M=>q9 d M
 |_,_=>none
def jB:CallD X E (.type "list") (λl=>rd (λM=>(qP l M).map .lst)):=CallD.of call_list_of λvs H Q ρ M ds d j c e q=>by
 obtain⟨l,e1,rfl⟩:=U4.mp e;unfold qP at e1;split at e1
 ·obtain⟨v,rfl,k⟩:=c.one;replace c:=k;obtain⟨a,xs,rfl,ha,c⟩:=Hy j c e1;exact⟨_,_,rfl,ha.imp SqL.of SqT.of,λp hp=>q ρ _ _ (.lay hp) (j.lay _ hp) (.lst (j.fresh hp) upd_same (c.mono (.lay hp)))⟩
 ·cases e1
def Dz(d:D):Option PyData:=match toPy d with
 |some p=>some p
 |none=>dF d
def wV:List D->Mo->Option D
 |[d],_=>(Dz d).bind λp=>if p.showable&&decide (p.depth<=60)&&decide (cG p<=sizeLine) then some (.str p.shown) else none
 |_,_=>none
set_option tactic.hygienic true in
def jC(hg:X.A.guards=some [])(hu:X.A.units + 64<cLine):CallD X E (.builtin "repr") (λl=>rd (wV l)):=CallD.of (CW hg hu) λvs H Q ρ M ds d j c e q=>by
 unfold wV at e;split at e
 ·obtain ⟨p,h1,e1⟩:=Vs.mp e;split at e1
  ·rename_i hk;cases e1;simp only[Bool.and_eq_true,decide_eq_true_eq]at hk;obtain⟨v,rfl,k⟩:=c.one;replace c:=k;have key:∃f,RepF H f v p:=by
    unfold Dz at h1;split at h1
    ·rename_i h2;cases h1;exact⟨true,c.repF h2⟩
    ·exact⟨false,c.repD h1⟩
   obtain⟨f,rp⟩:=key;exact⟨f,_,p,rfl,rp,hk.1.1,hk.1.2,hk.2,q ρ H _ .refl j (.str _)⟩
  ·cases e1
 ·cases e
def tyOf:D->Mo->Option String
 |.non,_=>some "NoneType"
 |.bl _,_=>some "bool"
 |.int _,_=>some "int"
 |.str _,_=>some "str"
 |.tup _,_=>some "tuple"
 |.lst _,_=>some "list"
 |.scr _,_=>some "list"
 |.dic _ _,_=>some "dict"
 |.ref n,M=>match M[n]? with
   |some (.lst _)=>some "list"
   |some (.dic _ _)=>some "dict"
   |_=>none
 |_,_=>none
set_option tactic.hygienic true in
def Su{K:PySem.W.Frag}(j:J mg ρ M H){x:V}{d:D}{t:String}(c:Cv mg ρ H x d)(e:tyOf d M=some t):TyOf K H x (.type t):=by
 cases c with
 |non=>cases e;exact .non
 |bl b=>cases e;exact .bl b
 |int b=>cases e;exact .int b
 |str b=>cases e;exact .str b
 |tup n h c=>cases e;exact .tup h
 |lst n h c=>cases e;exact .lst h
 |dic n h l c=>cases e;exact .dK h
 |scr n h=>
   cases e;rcases h with h | ⟨o,h⟩
   ·exact .lst h
   ·exact .frz h
 | ref q=>
   unfold tyOf at e;dsimp only at e;split at e
   ·rename_i l hl;cases e;obtain⟨xs,h,_⟩:=j.obj _ _ _ q hl;exact .lst h
   ·rename_i ks l hl;cases e;obtain⟨xs,h,_⟩:=j.obj _ _ _ q hl;exact .dK h
   ·cases e
 |_=>cases e
def El(t c:String):Bool:=t==c || (t=="bool"&&c=="int")
def tys:List String:=["NoneType", "bool", "int", "str", "tuple", "list", "dict"]
def f9:List D->Mo->Option D
 |[d,.ty c],M=>(tyOf d M).bind λt=>if tys.contains c then some (.bl (El t c)) else none
 |_,_=>none
def JV(e:tyOf d M=some t):t∈tys:=by unfold tyOf at e;split at e<;>first | (cases e;decide) | (split at e<;>first | (cases e;decide) | cases e) | cases e
def O1{K:PySem.W.Frag}:∀t∈tys,∀c∈tys,PySem.W.kitOne K (.type t) (.type c)=some (El t c):=by intro t ht c hc;simp only[tys,List.mem_cons,List.mem_nil_iff,or_false]at ht hc;rcases ht with rfl | rfl | rfl | rfl | rfl | rfl | rfl<;>rcases hc with rfl | rfl | rfl | rfl | rfl | rfl | rfl<;>rfl
set_option tactic.hygienic true in
def bZ:CallD X E (.builtin "isinstance") (λl=>rd (f9 l)):=CallD.of Iv λvs H Q ρ M ds d j c e q=>by
 unfold f9 at e;split at e
 ·obtain⟨t,h1,e1⟩:=Vs.mp e;split at e1
  ·rename_i hk;cases e1;obtain⟨v,w,rfl,k,c2⟩:=c.two;replace c:=k;cases c2;exact⟨_,_,_,_,rfl,Su j c h1,O1 _ (JV h1) _ (List.contains_iff_mem.mp hk),q ρ H _ .refl j (.bl _)⟩
  ·cases e1
 ·cases e
def Nq(X:Cx)(E:XK)(id:String)(g:D->List D->DM D):Prop:=MtR X id (λx vs H Q=>∃ρ M d ds,J X.mg ρ M H/\Cv X.mg ρ H x d/\Cvs X.mg ρ H vs ds/\Go X.mg E (Cv X.mg) Q ρ H (g d ds) M)
def Io:D->List D->DM D
 |.ref n,[v]=>λM=>match M[n]? with
   |some (.lst l)=>if l.length<sizeLine then some (.ok .non,M.set n (.lst (l++[v]))) else none
   |_=>none
 |_,_=>stuck
set_option tactic.hygienic true in
def vd:Nq X E "list.append" Io:=by
 intro Zo s σ H x xs v us Q I rx rs q;obtain⟨ρ,M,d,ds,j,cx,cs,r,e,p⟩:=q;cases cx with
 | ref hn=>
   cases cs with
   |nil=>cases e
   | cons c cs=>cases cs with
     |cons _ _=>cases e
     | nil=>
       rename_i n a w dw;have e:(match M[n]? with
        |some (.lst l)=>if l.length<sizeLine then some (R.ok .non,M.set n (.lst (l++[dw]))) else none
        |_=>none)=some r:=e
       split at e
       ·rename_i l hl;split at e
        ·cases e;obtain⟨xs,hx,cl⟩:=j.obj _ _ _ hn hl;have x:Ext ρ H ρ (upd H a (.lst (xs++[w]))):=.upd (Vo hn);exact mt_append (X:=X) Zo s σ H _ _ v us Q I rx rs ⟨_,_,_,rfl,rfl,hx,by rw[cl.len];assumption,p ρ _ .non x (j.upd hn ⟨_,upd_same,(cl.append (.cons c .nil)).mono x⟩) .non⟩
        ·cases e
       ·cases e
 |_=>cases e
def JM:D->List D->DM D
 | .ref n,[.int i]=>λM=>match M[n]? with
   | some (.lst l)=>match ixN l.length i with
     |some k=>match l[k]? with
       |some d=>if decide (-(2^63)<=i/\i<2^63) then some (.ok d,M.set n (.lst (l.eraseIdx k))) else none
       |none=>none
     |none=>none
   |_=>none
 |_,_=>stuck
theorem Cvs.erase:∀{vs:List V}{ds:List D} (i:Nat),Cvs mg ρ H vs ds->Cvs mg ρ H (vs.eraseIdx i) (ds.eraseIdx i)
 |_,_,_,.nil=>.nil
 |_,_,0,.cons _ t=>t
 |_,_,i+1,.cons a t=>.cons a (Cvs.erase i t)
set_option tactic.hygienic true in
def Lq:Nq X E "list.pop" JM:=by
 intro Zo s σ H x xs v us Q I rx rs q;obtain⟨ρ,M,d,ds,j,cx,cs,r,e,p⟩:=q;cases cx with
 | ref hn=>
   cases cs with
   |nil=>cases e
   | cons c cs=>cases cs with
     |cons _ _=>cases c<;>cases e
     | nil=>cases c with
       | int i=>
         rename_i n a;have e:(match M[n]? with
          | some (.lst l)=>match ixN l.length i with
            |some k=>match l[k]? with
              |some d=>if decide (-(2^63)<=i/\i<2^63) then some (R.ok d,M.set n (.lst (l.eraseIdx k))) else none
              |none=>none
            |none=>none
          |_=>none)=some r:=e
         split at e
         ·rename_i l hl;split at e
          ·rename_i k hk;split at e
           ·rename_i d hd;split at e
            ·rename_i hb;have hb:=V3 hb;cases e;obtain⟨xs,hx,cl⟩:=j.obj _ _ _ hn hl;obtain⟨w,hw,cw⟩:=cl.get hd;have x:Ext ρ H ρ (upd H a (.lst (xs.eraseIdx k))):=.upd (Vo hn);exact mt_popAt (X:=X) Zo s σ H _ _ v us Q I rx rs ⟨_,_,_,k,w,rfl,rfl,hx,hb.1,hb.2,by rw[cl.len];exact (ixN_seq hk).1,hw,p ρ _ w x (j.upd hn ⟨_,upd_same,(cl.erase k).mono x⟩) (cw.mono x)⟩
            ·cases e
           ·cases e
          ·cases e
         ·cases e
       |_=>cases e
 |_=>cases e
def wO{name id:String}{g:D->List D->DM D}{o e:Expr}{es:List Expr}{fo:aj->DM D}{fs:aj->DM (List D)}{apos cpos:Pos}(pa:PlainAttrs "list")(slot:Slot "list" name id)(hty:typeOf (.builtin id)=pure (.type "method_descriptor"))(hm:Nq X E id g)(ho:DE X E o fo)(ha:DA X E (e::es) fs)
  (hbase:attributeBase o name X.env (eval o X.env)=eval o X.env:=by rfl)
  (hfew:((backTo cpos (starEach (e::es) X.env)).all (fun x=>!x.1)&&(backToKw cpos (keywordEach [] X.env)).all (fun x=>x.1.isSome)
   &&decide ((e::es).length+([]:List Keyword).length+(if ([]:List Keyword).isEmpty then 0 else 1)<30))=true:=by rfl)
  (hline:(apos.endLine==cpos.line)=true:=by rfl) (hs:notStar e=true:=by rfl) (hplain:(backTo cpos (starEach es X.env)).any (·.1)=false:=by rfl) :
  DE X E (.Call (.Attribute o name apos) (e::es) [] cpos) (λδ=>fo δ>>=λx=>rd (λM=>aR x M)>>=λz=>fs δ>>=λxs=>g x xs):=⟨PE.mono (PN pa slot hty hm ho.h ha.h hbase hfew hline hs hplain) λσ H Q h=>by
 obtain⟨ρ,δ,M,ev,j,g1⟩:=h;refine⟨ρ,δ,M,ev,j,g1.bind λρ1 H1 M1 x dx e1 j1 c1 g2=>?_⟩
 obtain⟨l,hl,g3⟩:=Go.rdb g2;obtain⟨a,xs,rfl,hx,cl⟩:=cP j1 c1 hl;exact⟨.inl ⟨rfl,_,SqL.of hx⟩,ρ1,δ,M1,ev.mono e1,j1,g3.bind λρ2 H2 M2 ys dys e2 j2 c2 g4=>⟨ρ2,M2,dx,dys,j2,c1.mono e2,c2,g4⟩⟩⟩
end
structure ExtB(acc:Addr)(ρ:Rh)(H:Hp)(ρ':Rh)(H':Hp):Prop where
 pre:∃τ,ρ'.st=ρ.st++τ
 vo:ρ'.vo=ρ.vo
 new:∀a,a∈ρ'.st->a∉ρ.st->H a=none
 keep:∀a o,H a=some o->a∉ρ.st->a≠acc->H' a=some o
 na:acc∉ρ'.st
section
variable{acc:Addr}{ρ ρ1 ρ2:Rh}{H H1 H2:Hp}
theorem ExtB.trans(e:ExtB acc ρ H ρ1 H1)(f:ExtB acc ρ1 H1 ρ2 H2):ExtB acc ρ H ρ2 H2:=by
 have out:∀a o,H a=some o->a∉ρ.st->a∉ρ1.st:=λa o h n z=>by have:=e.new a z n;rw[h]at this;cases this
 refine⟨?_,f.vo.trans e.vo,λa h n=>?_,λa o h n na=>f.keep a o (e.keep a o h n na) (out a o h n) na,f.na⟩
 ·obtain⟨τ,h1⟩:=e.pre;obtain⟨υ,h2⟩:=f.pre;exact⟨τ++υ,by rw[h2,h1,WN]⟩
 ·by_cases z:a∈ρ1.st
  ·exact e.new a z n
  ·cases q:H a with
   |none=>rfl
   |some o=>have:=f.new a h z;rw[e.keep a o q n (λy=>f.na (y ▸ h))]at this;cases this
def Ext.b(e:Ext ρ H ρ1 H1)(na:acc∉ρ1.st):ExtB acc ρ H ρ1 H1:=⟨e.pre,e.vo,e.new,λa o h n z=>e.keep a o h n,na⟩
def ExtB.kp(e:ExtB acc ρ H ρ1 H1)(h:acc∈ρ.vo):Kp ρ H ρ1 H1:=⟨e.pre,λa o q n=>by
 have ne:a≠acc:=λz=>n (z ▸ .inr h)
 have ns:a∉ρ.st:=λz=>n (.inl z)
 refine⟨λz=>?_,e.keep a o q ns ne⟩
 rcases z with z | z
 ·have:=e.new a z ns;rw[q]at this;cases this
 ·rw[e.vo]at z;exact n (.inr z)⟩
theorem ExtB.refl(na:acc∉ρ.st):ExtB acc ρ H ρ H:=(Ext.refl).b na
def ExtB.grow(na:acc∉ρ.st):ExtB acc ρ H ρ (upd H acc (.lst ys)):=⟨⟨[],by simp⟩,rfl,λa h n=>absurd h n,λa o h z ne=>by rw[upd_ne ne];exact h,na⟩
end
structure Cst(X:Cx)(Zo:List (Addr×Obj))(acc:Addr)(ρ0:Rh)(H0:Hp)(δ:aj)(l:List D)(M:Mo)(fp:List Addr)(s:Shared):Prop where
 ex:∃σ H ρ ys,Inv X Zo σ H s/\ExtB acc ρ0 H0 ρ H/\J X.mg ρ M H/\Ev X.mg ρ H σ δ/\H acc=some (.lst ys)/\Cvs X.mg ρ H ys l/\∀b∈fp,H b=none
def aZ(fg:D->aj->DM aj)(ft:aj->DM Bool)(fb:aj->List D->DM (aj×List D)):List D->aj->List D->DM (aj×List D)
 |[],δ,l=>pure (δ,l)
 |d::ds,δ,l=>fg d δ>>=λδ1=>ft δ1>>=λb=>(if b then fb δ1 l else pure (δ1,l))>>=λp=>aZ fg ft fb ds p.1 p.2
def Dn(fg:D->aj->DM aj)(ft:aj->DM Bool)(fb:aj->List D->DM (aj×List D))(n:Nat):Nat->Nat->aj->List D->DM (aj×List D)
 |0,_,_,_=>stuck
 |k+1,i,δ,l=>rd (Itn.next (.dyn n) i)>>=λo=>match o with
   |none=>pure (δ,l)
   |some d=>fg d δ>>=λδ1=>ft δ1>>=λb=>(if b then fb δ1 l else pure (δ1,l))>>=λp=>Dn fg ft fb n k (i+1) p.1 p.2
def cA(fg:D->aj->DM aj)(ft:aj->DM Bool)(fb:aj->List D->DM (aj×List D)):Itn->aj->List D->DM (aj×List D)
 |.fix ds,δ,l=>aZ fg ft fb ds δ l
 |.dyn n,δ,l=>rd (λM=>aR (.ref n) M)>>=λm=>Dn fg ft fb n (m.length+1) 0 δ l
def bV(fe:aj->DM D)(δ:aj)(l:List D):DM (aj×List D):=fe δ>>=λd=>if l.length<sizeLine then pure (δ,l++[d]) else stuck
def Ud(X:Cx)(ifs:List Expr)(t:TT):Prop:=∀(Zo:List (Addr×Obj)) (s:Shared) (σ:L2.St) (H:Hp) (Q:Bool->Hp->Prop),Inv X Zo σ H s->t σ H Q->wpAny (model X.prog X.w) X.A (rA ifs X.env) (TP X Zo σ Q) X.xe s
structure DTs(X:Cx)(E:XK)(ifs:List Expr)(f:aj->DM Bool):Prop where
 h:Ud X ifs (tD X.mg E Bv f)
def fK:DTs X E [] (λz=>pure true):=⟨λZo s σ H Q I h=>by obtain⟨ρ,δ,M,ev,j,g⟩:=h;exact UV ⟨H,I,g.pure ρ H true .refl j rfl⟩⟩
def jJ(hc:DT X E c f):DTs X E [c] f:=⟨λZo s σ H Q I h=>wpAny_tests_one (hc.h Zo s σ H Q I h)⟩
set_option tactic.hygienic true in
def DM.bind_ok{α β:Type}{m:DM α}{k:α->DM β}{M M':Mo}{b:β}(h:(m>>=k) M=some (.ok b,M')):∃a M1,m M=some (.ok a,M1)/\k a M1=some (.ok b,M'):=by
 have h:DM.bind m k M=some (.ok b,M'):=h;unfold DM.bind at h;split at h
 ·cases h
 ·cases h
 ·rename_i a M1 e;exact⟨a,M1,e,h⟩
def BodyOk(X:Cx)(acc:Addr)(W:(Shared->Prop)->Shared->Prop)(fb:aj->List D->DM (aj×List D)):Prop:=
 ∀Zo ρ0 H0 δ l M s δ' l' M',acc∈ρ0.vo->Cst X Zo acc ρ0 H0 δ l M [] s->fb δ l M=some (.ok (δ',l'),M')->W (λs'=>Cst X Zo acc ρ0 H0 δ' l' M' [] s') s
def Cst.unpin(c:Cst X (Zo++pl) acc ρ0 H0 δ l M [] s)(h:∀b∈fp,∃o,(b,o)∈pl):
  Cst X Zo acc ρ0 H0 δ l M fp s/\∀p∈pl,s.heap.get? p.1=some p.2:=by
 obtain⟨σ,H,ρ,ys,I,x,j,ev,ha,cl,_⟩:=c.ex;refine⟨⟨σ,H,ρ,ys,I.unpinned,x,j,ev,ha,cl,λb hb=>?_⟩,λp hp=>(I.pin p (VB _ (VB _ hp))).1⟩
 obtain⟨o,ho⟩:=h b hb;exact (I.pin (b,o) (VB _ (VB _ ho))).2.1
def pC(fg:D->aj->DM aj)(ft:aj->DM Bool)(fb:aj->List D->DM (aj×List D))(δf:aj)(lf:List D)(Mf:Mo):Itn->Nat->Nat->aj->List D->Mo->Prop
 |.fix ds,n,i,δ,l,M=>n=ds.length-i/\aZ fg ft fb (ds.drop i) δ l M=some (.ok (δf,lf),Mf)
 |.dyn a,n,i,δ,l,M=>Dn fg ft fb a n i δ l M=some (.ok (δf,lf),Mf)
set_option tactic.hygienic true in
def pC.step{fg:D->aj->DM aj}{ft:aj->DM Bool}{fb:aj->List D->DM (aj×List D)}{δf δ:aj}{lf l:List D}{Mf M:Mo}{it:Itn}{n i:Nat}(h:pC fg ft fb δf lf Mf it n i δ l M):
  (it.next i M=some none/\δ=δf/\l=lf/\M=Mf)\/∃d δ1 M1 b M2 δ3 l3 M3 m,it.next i M=some (some d)/\fg d δ M=some (.ok δ1,M1)/\ft δ1 M1=some (.ok b,M2)/\(if b then fb δ1 l else pure (δ1,l)) M2=some (.ok (δ3,l3),M3)/\m<n/\pC fg ft fb δf lf Mf it m (i+1) δ3 l3 M3:=by
 cases it with
 | fix ds=>
   obtain⟨rfl,h⟩:=h;cases hd:ds[i]? with
   |none=>rw[List.drop_eq_nil_of_le (Vx.mp hd)]at h;cases h;exact .inl ⟨congrArg some hd,rfl,rfl,rfl⟩
   |some d=>
     obtain⟨hi',hd'⟩:=UW.mp hd;have hl:ds.drop i=d::ds.drop (i+1):=by rw[<-hd'];exact Xq hi'
     rw[hl]at h;obtain⟨δ1,M1,e1,h1⟩:=DM.bind_ok h;obtain⟨b,M2,e2,h2⟩:=DM.bind_ok h1;obtain⟨⟨δ3,l3⟩,M3,e3,h3⟩:=DM.bind_ok h2;exact .inr ⟨d,δ1,M1,b,M2,δ3,l3,M3,ds.length-(i+1),congrArg some hd,e1,e2,e3,by lia,rfl,h3⟩
 | dyn a=>
   cases n with
   |zero=>cases h
   | succ n=>
     obtain⟨o,M0,e0,h⟩:=DM.bind_ok h;obtain⟨o',q,z⟩:=U4.mp e0;cases z;cases o with
     |none=>cases h;exact .inl ⟨q,rfl,rfl,rfl⟩
     |some d=>obtain⟨δ1,M1,e1,h1⟩:=DM.bind_ok h;obtain⟨b,M2,e2,h2⟩:=DM.bind_ok h1;obtain⟨⟨δ3,l3⟩,M3,e3,h3⟩:=DM.bind_ok h2;exact .inr ⟨d,δ1,M1,b,M2,δ3,l3,M3,n,q,e1,e2,e3,Wv _,h3⟩
def pC.start{fg:D->aj->DM aj}{ft:aj->DM Bool}{fb:aj->List D->DM (aj×List D)}{δf δ:aj}{lf l:List D}{Mf M:Mo}{it:Itn}(h:cA fg ft fb it δ l M=some (.ok (δf,lf),Mf)):∃ n,pC fg ft fb δf lf Mf it n 0 δ l M:=by
 cases it with
 |fix ds=>exact⟨_,rfl,h⟩
 |dyn a=>obtain⟨m,M0,e0,h⟩:=DM.bind_ok h;obtain⟨m',q,z⟩:=U4.mp e0;cases z;exact⟨_,h⟩
def Gw(hc:X.calm=true)(hxe:X.xe=λy y=>False){gens:List Comprehension}{depth:Nat}{bodyK:Sem Fin->Sem Fin}{W:(Shared->Prop)->Shared->Prop}
  (hturn:compTurn (.ListComp elt gens scope pos) depth (.ref it) (.ref acc) X.env=turnOf g bodyK (.compLoop (.ListComp elt gens scope pos) depth (.ref it) (.ref acc) X.env) (.ref it) X.env) (hW:km X.prog X.w X.A bodyK W) (hmono:∀P P' s,(∀s,P s->P' s)->W P s->W P' s)
  {fg:D->aj->DM aj}{ft:aj->DM Bool}{fb:aj->List D->DM (aj×List D)} (hg:DG X E0 g.target fg) (ht:DTs X E0 g.ifs ft) (hb:BodyOk X acc W fb) {fp:List Addr}{tn:Nat->Heap->Prop} (T:Turn X.prog X.w X.K g.target Jt fp it tn) (iok:ItOk X.mg ρi Hi Jt itn) (hacc:acc∈ρ0.vo) (kp0:Kp ρi Hi ρ0 H0) {Zo:List (Addr×Obj)}
  (fok:∀H',(∀b∈fp,H' b=none)->∀b∈fp,FpOk X Zo H' b) {l:List D} (st:Cst X Zo acc ρ0 H0 δ l M fp s) (htn:tn 0 s.heap) {lf:List D} (hrun:cA fg ft fb itn δ l M=some (.ok (δf,lf),Mf))
  {R:Result->Shared->Prop} (hR:∀s',Cst X Zo acc ρ0 H0 δf lf Mf fp s'->R (.ok .next) s') :
  codeAny (model X.prog X.w) X.A (.compLoop (.ListComp elt gens scope pos) depth (.ref it) (.ref acc) X.env) R s:=by
 obtain⟨n0,rem0⟩:=pC.start hrun;refine Jw (λn s=>∃i δ l M,pC fg ft fb δf lf Mf itn n i δ l M/\Cst X Zo acc ρ0 H0 δ l M fp s/\tn i s.heap) hturn hW ?_ hmono n0 ⟨0,δ,l,M,rem0,st,htn⟩
 rintro n s ⟨i,δ,l,M,rem,st,htn⟩;obtain⟨σ,H,ρ,ys,I,x,j,ev,ha,cl,fr⟩:=st.ex;have kp:Kp ρi Hi ρ H:=kp0.trans (x.kp hacc);rcases rem.step with ⟨hd,rfl,rfl,rfl⟩ | ⟨d,δ1,M1,b,M2,δ3,l3,M3,m,hd,e1,e2,e3,hm,rem3⟩
 ·refine Vn (T.done X rfl rfl rfl hc i Zo s σ H _ I (fok H fr) htn (iok.stop i ρ H _ kp j hd)) (λr s1 h1=>?_) λy y z=>z
  obtain⟨rfl,I1⟩:=h1;exact hR s1 ⟨σ,H,ρ,ys,I1,x,j,ev,ha,cl,fr⟩
 ·obtain ⟨go,yl⟩:=iok.item i ρ H M d kp j hd;refine Vn (T.item X rfl rfl rfl hc i Zo s σ H (λy y=>False) I (fok H fr) htn go) (λr s1 h1=>?_) λy y z=>z
  obtain⟨u,rfl,h1⟩:=h1;refine Vn h1 (λy s2 h2=>?_) λy y z=>z
  obtain⟨xv,H5,I5,r5,y5,tn5,fr5⟩:=h2;obtain⟨x5,j5,c5⟩:=yl xv H5 y5;have I5':=I5.pinned (fok H5 fr5) (T.obj _ _ tn5);refine Vn (hg.h _ s2 σ H5 xv u (λσ6 H6=>∃ρ6,Ext ρ H5 ρ6 H6/\J X.mg ρ6 M1 H6/\Ev X.mg ρ6 H6 σ6 δ1) I5' r5 ⟨ρ,δ,M,d,ev.mono x5,j5,c5,_,e1,λρ6 H6 σ6 a1 a2 a3=>⟨ρ6,a1,a2,a3⟩⟩) (λy s3 h3=>?_) λy y z=>by rw[hxe]at z;exact z
  obtain⟨σ6,H6,I6,ρ6,x6,j6,ev6⟩:=h3;refine Vn (ht.h _ s3 σ6 H6 (λb' H7=>b'=b/\∃ρ7,Ext ρ6 H6 ρ7 H7/\J X.mg ρ7 M2 H7) I6 ⟨ρ6,δ1,M1,ev6,j6,_,e2,λρ7 H7 b' a1 a2 a3=>⟨a3,ρ7,a1,a2⟩⟩) (λok s4 h4=>?_) λy y z=>by rw[hxe]at z;exact z
  obtain⟨H7,I7,rfl,ρ7,x7,j7⟩:=h4;have nacc:acc∉ρ.st:=x.na;have na6:acc∉ρ6.st:=λz=>by have h5:=x5.keep acc _ ha nacc;have:=x6.new acc z nacc;rw[h5]at this;cases this
  have ha5:=x5.keep acc _ ha nacc;have ha6:=x6.keep acc _ ha5 nacc;have na7:acc∉ρ7.st:=λz=>by have:=x7.new acc z na6;rw[ha6]at this;cases this
  have ha7:=x7.keep acc _ ha6 na6;have xb:ExtB acc ρ0 H0 ρ7 H7:=((x.trans (x5.b nacc)).trans (x6.b na6)).trans (x7.b na7);have ct:Cst X (Zo++pinsAt fp s2.heap) acc ρ0 H0 δ1 l M2 [] s4:=⟨σ6,H7,ρ7,ys,I7,xb,j7,ev6.mono x7,ha7,((cl.mono x5).mono x6).mono x7,λb hb=>nomatch hb⟩
  have fin:∀s5,Cst X (Zo++pinsAt fp s2.heap) acc ρ0 H0 δ3 l3 M3 [] s5->∃m,m<n/\∃i δ l M,pC fg ft fb δf lf Mf itn m i δ l M/\Cst X Zo acc ρ0 H0 δ l M fp s5/\tn i s5.heap:=λs5 c5=>by
   obtain⟨c6,pp⟩:=c5.unpin (fp:=fp) λb hb=>by obtain⟨o,eo,_⟩:=T.obj _ _ tn5 b hb;exact⟨o,mem_pinsAt hb eo⟩
   exact⟨m,hm,i+1,δ3,l3,M3,rem3,c6,T.keep _ _ _ tn5 λb hb o eo=>pp (b,o) (mem_pinsAt hb eo)⟩
  cases ok with
  |true=>exact iteT (hmono _ _ _ fin (hb _ ρ0 H0 δ1 l M2 s4 δ3 l3 M3 hacc ct e3))
  |false=>cases e3;exact iteF (fin s4 ct)
set_option tactic.hygienic true in
def Bc{X:Cx}(hxe:X.xe=λy y=>False){elt:Expr}{fe:aj->DM D}{acc:Addr}(he:DE X E0 elt fe):
  BodyOk X acc (λP s=>wpAny (model X.prog X.w) X.A (eval elt X.env) (λx s1=>wpAny (model X.prog X.w) X.A (call (.builtin "list.append") [.ref acc,x]) (λy s2=>P s2) (λy y=>False) s1) (λy y=>False) s) (bV fe):=by
 intro Zo ρ0 H0 δ l M s δ' l' M' hacc ct e;obtain⟨d,M1,e1,e2⟩:=DM.bind_ok e;obtain⟨σ,H,ρ,ys,I,x,j,ev,ha,cl,_⟩:=ct.ex;split at e2;rotate_left
 ·cases e2
 rename_i hz;cases e2;refine Vn (he.h Zo s σ H (λv H1=>∃ρ1,Ext ρ H ρ1 H1/\J X.mg ρ1 M' H1/\Cv X.mg ρ1 H1 v d) I ⟨ρ,δ,M,ev,j,_,e1,λρ1 H1 v a1 a2 a3=>⟨ρ1,a1,a2,a3⟩⟩) (λu s1 h1=>?_) λy y z=>by rw[hxe]at z;exact z
 obtain⟨v,H1,I1,rv,ρ1,x1,j1,c1⟩:=h1;have nacc:acc∉ρ.st:=x.na;have ha1:=x1.keep acc _ ha nacc;have na1:acc∉ρ1.st:=λz=>by have:=x1.new acc z nacc;rw[ha]at this;cases this
 have hv1:acc∈ρ1.vo:=by rw[x1.vo,x.vo];exact hacc
 refine Vn (mt_append (X:=X) Zo s1 σ H1 (.ref acc) [v] (.ref acc) [u] (λy H'=>H'=upd H1 acc (.lst (ys++[v]))) I1 rfl (.cons rv .nil) ⟨_,ys,v,rfl,rfl,ha1,by rw[cl.len];exact hz,rfl⟩) (λy s2 h2=>?_) λy y z=>by rw[hxe]at z;exact z
 obtain⟨_,H2,I2,_,rfl⟩:=h2;exact⟨σ,_,ρ1,ys++[v],I2,(x.trans (x1.b na1)).trans (.grow na1),j1.grow hv1,(ev.mono x1).kp ((ExtB.grow na1).kp hv1),upd_same,((cl.mono x1).append (.cons c1 .nil)).hold hv1,λb hb=>nomatch hb⟩
def dB{α:Type}(m:DM α):DM α:=λM=>match m M with
 |some (.ok a,M')=>some (.ok a,M')
 |_=>none
set_option tactic.hygienic true in
def nA(h:dB m M=some r):∃a M',m M=some (.ok a,M')/\r=(.ok a,M'):=by
 unfold dB at h;split at h
 ·rename_i a M' e;cases h;exact⟨a,M',e,rfl⟩
 ·cases h
def cQ(js:List Nat)(δ:aj):aj:=js.map λj=>(δ[j]?).getD none
def aO(k:Nat)(js:List Nat)(δ:aj):aj:=List.replicate k none++cQ js δ
def uU(ev:Ev mg ρ H σ δ)(k:Nat)(js:List Nat):Ev mg ρ H (List.replicate k none++pick js σ) (aO k js δ):=by
 unfold aO pick cQ;refine⟨by simp,λi d q=>?_⟩
 by_cases hi:i<k
 ·rw[Vb (by rw[Vw];exact hi),Xd]at q
  split at q<;>cases q
 ·rw [VL (by rw [Vw];lia),Vw,Vl]at q ⊢
  cases hj:js[i-k]? with
  |none=>rw[hj]at q;cases q
  | some j=>
    rw[hj]at q;have q:(δ[j]?).getD none=some d:=Vc q;have q':δ[j]?=some (some d):=by
     cases z:δ[j]? with
     |none=>rw[z]at q;cases q
     |some o=>rw[z]at q;exact congrArg some q
    obtain⟨v,h1,h2⟩:=ev.val j d q';exact⟨v,by show some ((σ[j]?).getD none)=_;rw[h1];rfl,h2⟩
def oE(hp:H p=none):Kp ρ H (ρ.hold p) (upd H p o):=⟨⟨[],by show ρ.st=_;simp⟩,λa u h n=>⟨Rh.nhold n (ne_of_none h hp),by rw[upd_ne (ne_of_none h hp)];exact h⟩⟩
inductive Out where
 |val | sto
def Out.run:Out->List D->DM D
 |.val,l=>pure (.lst l)
 |.sto,l=>λM=>some (.ok (.ref M.length),M++[.lst l])
def Out.fin(o:Out)(hf:H2 acc=none)(hn:acc∉ρ1)(x:ExtB acc (ρ1.hold acc) (upd H2 acc (.lst [])) ρ4 H4)(j:J mg ρ4 M H4)(ha:H4 acc=some (.lst ys))(c:Cvs mg ρ4 H4 ys l)
  (g:Go mg E (Cv mg) Q ρ1 H2 (o.run l) M):Q (.ref acc) H4:=by
 have hv:ρ4.vo=acc::ρ1.vo:=x.vo;have na:acc∉ρ1.vo:=λz=>hn (.inr z)
 have nw:∀a,a∈ρ4.st->a∉ρ1.st->H2 a=none:=λa h n=>by
  have:=x.new a h n;by_cases z:a=acc
  ·rw[z,upd_same]at this;cases this
  ·rw[upd_ne z]at this;exact this
 have kp:∀a o,H2 a=some o->a∉ρ1.st->H4 a=some o:=λa o h n=>x.keep a o (by rw[upd_ne (ne_of_none h hf)];exact h) n (ne_of_none h hf)
 cases o with
 | val=>
   have e:Ext ρ1 H2 ⟨ρ4.st,ρ1.vo⟩ H4:=⟨x.pre,rfl,nw,kp⟩;have jd:J mg ⟨ρ4.st,ρ1.vo⟩ M H4:=J.done (ρ:=ρ1) j hv;have cd:Cvs mg ⟨ρ4.st,ρ1.vo⟩ H4 ys l:=Cvs.less (ρ:=ρ4) (ρ1:=⟨ρ4.st,ρ1.vo⟩) rfl (λa h=>by rw[hv];exact .tail _ h) c
   exact Go.pure (a:=D.lst l) g ⟨ρ4.st,ρ1.vo⟩ H4 (.ref acc) e jd (.lst (λz=>by
    rcases z with z | z
    ·exact x.na z
    ·exact na z) ha cd)
 | sto=>
   obtain⟨r,er,p⟩:=g;cases er;have k4:Kp ρ4 H4 ⟨ρ4.st++[acc],ρ1.vo⟩ H4:=⟨⟨[acc],rfl⟩,λa o h n=>⟨λz=>by
    rcases z with z | z
    ·rcases Vd.mp z with z | z
     ·exact n (.inl z)
     ·exact n (.inr (by rw[hv,Vj.mp z];exact .head _))
    ·exact n (.inr (by rw[hv];exact .tail _ z)),h⟩⟩
   have e:Ext ρ1 H2 ⟨ρ4.st++[acc],ρ1.vo⟩ H4:=by
    refine⟨?_,rfl,λa h n=>?_,kp⟩
    ·obtain⟨τ,h1⟩:=x.pre;exact⟨τ++[acc],by show ρ4.st++[acc]=_;rw[h1,WN];rfl⟩
    ·rcases Vd.mp h with z | z
     ·exact nw a z n
     ·rw[Vj.mp z];exact hf
   have jd:J mg ⟨ρ4.st++[acc],ρ1.vo⟩ (M++[.lst l]) H4:=by
    refine⟨by show (ρ4.st++[acc]).length=_;rw[Vk,Vk,j.len];rfl,?_,λn a w h1 h2=>?_,λa h=>?_⟩
    ·show (ρ4.st++[acc]).Nodup;rw[XJ];exact⟨j.nd,by simp,λx' hx y hy e=>by rw[Vj.mp hy]at e;exact x.na (e ▸ hx)⟩
    ·have h1:(ρ4.st++[acc])[n]?=some a:=h1;by_cases hl:n<ρ4.st.length
     ·rw[Vb hl]at h1;rw[Vb (by rw[<-j.len];exact hl)]at h2
      exact (j.obj n a w h1 h2).map rfl λvs ds c=>c.kp k4
     ·have hl':n<(ρ4.st++[acc]).length:=(UW.mp h1).1;rw[Vk]at hl';have e:n=ρ4.st.length:=by have:[acc].length=1:=rfl;lia
      subst e;rw[VL (U0 _)]at h1;rw[j.len,VL (U0 _)]at h2;simp at h1 h2;subst h1 h2;exact⟨ys,ha,c.kp k4⟩
    ·have h:a∈ρ1.vo:=h;obtain⟨y1,y2⟩:=j.vol a (by rw[hv];exact .tail _ h)
     refine⟨λz=>?_,y2⟩
     rcases Vd.mp z with z | z
     ·exact y1 z
     ·exact na (Vj.mp z ▸ h)
   refine p _ H4 (.ref acc) e jd (.ref ?_);show (ρ4.st++[acc])[_]?=_;rw[<-j.len];simp
set_option tactic.hygienic true in
def Iz{cl:List (Str×Addr)}{own:List Str}{js:List Nat}{fr:List Str}{f0:List Expr}{gs:List Comprehension}{fi:aj->DM Itn}{fg:D->aj->DM aj}{ft:aj->DM Bool}{fb:aj->List D->DM (aj×List D)}
  {bodyK:Cx->Addr->Sem Fin->Sem Fin}{W:Cx->Addr->(Shared->Prop)->Shared->Prop} (o:Out) (hc:X.calm=true) (T:CompG X scope cl own js fr) (hi:DI X E t0 i0 fi)
  (hturn:∀(Y:Cx) it acc,compTurn (.ListComp elt (⟨t0,i0,f0,0⟩::gs) scope pos) 0 (.ref it) (.ref acc) Y.env=turnOf ⟨t0,i0,f0,0⟩ (bodyK Y acc) (.compLoop (.ListComp elt (⟨t0,i0,f0,0⟩::gs) scope pos) 0 (.ref it) (.ref acc) Y.env) (.ref it) Y.env)
  (hW:∀Y acc,km Y.prog Y.w Y.A (bodyK Y acc) (W Y acc)) (hmono:∀Y acc P P' s,(∀s,P s->P' s)->W Y acc P s->W Y acc P' s)
  (hg:∀Zo m fp C s₂ H₂,DG (X.aU Zo scope (cellsFrom m scope.names cl) (own++fr) fp C s₂ H₂) E0 t0 fg) (ht:∀Zo m fp C s₂ H₂,DTs (X.aU Zo scope (cellsFrom m scope.names cl) (own++fr) fp C s₂ H₂) E0 f0 ft)
  (hb:∀Zo m fp C s₂ H₂ acc,BodyOk (X.aU Zo scope (cellsFrom m scope.names cl) (own++fr) fp C s₂ H₂) acc (W (X.aU Zo scope (cellsFrom m scope.names cl) (own++fr) fp C s₂ H₂) acc) fb)
  (hs:∀y,foldedSetIterable i0 X.env y=pure y:=by intro _;rfl) :
  DE X E (.ListComp elt (⟨t0,i0,f0,0⟩::gs) scope pos) (λδ=>fi δ>>=λit=>dB (cA fg ft fb it (aO own.length js δ) [])>>=λp=>o.run p.2):=⟨by
 intro Zo s σ H Q I h;obtain⟨ρ,δ,M,ev,j,g1⟩:=h;rw[eval_ListComp];refine Yw (cl:=cl) (use:=none) rfl hs T.clos T.kind T.names ?_;refine thn (hi.h Zo s σ H (λJt H1=>∃ρ1 M1 it,Ext ρ H ρ1 H1/\J X.mg ρ1 M1 H1/\ItOk X.mg ρ1 H1 Jt it/\Go X.mg E (Cv X.mg) Q ρ1 H1 (dB (cA fg ft fb it (aO own.length js δ) [])>>=λp=>o.run p.2) M1) I
  ⟨ρ,δ,M,ev,j,g1.bind λρ1 H1 M1 Jt it e1 j1 iok g2=>⟨ρ1,M1,it,e1,j1,iok,g2⟩⟩) λv s1 h1=>thn h1 λitv s2 h2=>?_
 obtain⟨it,fp,tn,Jt,H2,rfl,I2,Tn,st2,f2,ρ1,M1,itn,x1,j1,iok,g2⟩:=h2;have hrun:∃δf lf Mf,cA fg ft fb itn (aO own.length js δ) [] M1=some (.ok (δf,lf),Mf)/\Go X.mg E (Cv X.mg) Q ρ1 H2 (o.run lf) Mf:=by
  obtain⟨r,e,p⟩:=g2;have e:DM.bind _ _ M1=some r:=e;unfold DM.bind at e;split at e
  ·cases e
  ·rename_i c M' em;obtain⟨a,M'',_,z⟩:=nA em;cases z
  ·rename_i a M' em;obtain⟨a',M'',e1,z⟩:=nA em;cases z;exact⟨a.1,a.2,M',e1,r,e,p⟩
 obtain⟨δf,lf,Mf,hrun,g3⟩:=hrun;unfold newList;refine Vr (pW ?_);have hlt:∀b∈fp,b<s2.heap.objs.size:=λb hb=>by obtain⟨o,e,_⟩:=Tn.obj _ _ st2 b hb;exact U7 e
 dsimp only;generalize hP:s2.heap.push { cls:=.type "list",dict:=none,data:=.seq ([]:List Value).toArray }=hp1;have hCs:hp1.objs.size=s2.heap.objs.size+1:=by rw[<-hP,VF]
 have hCe:hp1.objs.size+1=(hp1.push { cls:=.type "dict",data:=.dict #[] }).objs.size:=by rw[VF]
 have hC:s2.heap.objs.size<=hp1.objs.size:=by lia
 have hne:hp1.objs.size≠s2.heap.objs.size:=by lia
 have old1:∀b o,s2.heap.get? b=some o->hp1.get? b=some o:=λb o e=>by rw[<-hP];exact UT _ e
 have old:∀b o,s2.heap.get? b=some o->(pushCells (hp1.push { cls:=.type "dict",data:=.dict #[] }) scope.names).get? b=some o:=λb o e=>WQ _ _ _ _ (UT _ (old1 b o e))
 have new:∃n,(pushCells (hp1.push { cls:=.type "dict",data:=.dict #[] }) scope.names).get? s2.heap.objs.size=some { cls:=.type "list",data:=.seq #[] n }:=⟨_,WQ _ _ _ _ (UT _ (by rw[<-hP];exact U9 _ rfl))⟩
 have ns:(pushCells (hp1.push { cls:=.type "dict",data:=.dict #[] }) scope.names).Ns hp1.objs.size λx=>none:=(Heap.Ns.new hp1 (.type "dict")).keeps (WQ _ _)
 have hfree:H2 s2.heap.objs.size=none:=I2.hok.fresh (U0 _);have IC:=vQ (t':=s2.toks) T I2 f2 hlt old (U0 _) hC hne hCe (Vp hC (Nat.le_succ _)) (Wv _) (Nat.lt_succ_of_le hC) rfl new ns;have OK:=IC.ok;have fok:∀H',(∀b∈fp,H' b=none)->∀b∈fp,FpOk (X.aU Zo scope (cellsFrom (hp1.objs.size+1) scope.names cl) (own++fr) fp hp1.objs.size s2 H2) [] H' b:=λH' hn b hb=>by
  obtain⟨_,g2,g3,g4,g5,g6⟩:=f2 b hb;refine⟨hn b hb,Vi (Va (hlt b hb) hC),λhm=>?_,.inl hb,(OK.exf b hb).2,λp hp=>g6 p (by simpa using hp)⟩
  rcases Vf.mp (I2.stkSub _ hm) with z | z
  ·exact g2 z
  ·exact g3 z
 have fp1:∀b∈fp,upd H2 s2.heap.objs.size (.lst []) b=none:=λb hb=>by rw[upd_ne (Vi (hlt b hb))];exact (f2 b hb).1
 have jb:=j1.begin hfree;have nf:=j1.fresh hfree;have st:Cst (X.aU Zo scope (cellsFrom (hp1.objs.size+1) scope.names cl) (own++fr) fp hp1.objs.size s2 H2) [] s2.heap.objs.size (ρ1.hold s2.heap.objs.size) (upd H2 s2.heap.objs.size (.lst [])) (aO own.length js δ) [] M1 fp
   { s2 with heap:=pushCells (hp1.push { cls:=.type "dict",data:=.dict #[] }) scope.names,toks:=s2.toks }:=
  ⟨_,_,_,[],IC,.refl (λz=>nf (.inl z)),jb,(uU (ev.mono x1) _ _).kp (oE hfree),upd_same,.nil,fp1⟩
 have tn0:tn 0 (pushCells (hp1.push { cls:=.type "dict",data:=.dict #[] }) scope.names):=Tn.keep _ _ _ st2 (λb x o e=>old b o e)
 have loop:codeAny (model X.prog X.w) X.A (.compLoop (.ListComp elt (⟨t0,i0,f0,0⟩::gs) scope pos) 0 (.ref it) (.ref s2.heap.objs.size) (compEnvC scope (cellsFrom (hp1.objs.size+1) scope.names cl) hp1.objs.size X.env))
   (compPost (model X.prog X.w) X.A X.xe none (EP X Zo σ Q) (.ref s2.heap.objs.size) hp1.objs.size) { s2 with heap:=pushCells (hp1.push { cls:=.type "dict",data:=.dict #[] }) scope.names,toks:=s2.toks }:=by
  refine Gw (X:=X.aU Zo scope (cellsFrom (hp1.objs.size+1) scope.names cl) (own++fr) fp hp1.objs.size s2 H2) hc rfl (hturn _ _ _) (hW _ _) (hmono _ _) (hg ..) (ht ..) (hb Zo (hp1.objs.size+1) fp hp1.objs.size s2 H2 s2.heap.objs.size) Tn iok (.head _) (oE hfree) fok st tn0 hrun λs' c'=>?_
  obtain⟨σ4,H4,ρ4,ys,I4,x4,j4,ev4,ha4,cl4,fr4⟩:=c'.ex;obtain⟨m4,hn4,_⟩:=I4.loc;refine⟨m4,hn4,λh' hsb'=>?_⟩
  have un:=zN I4.base hsb' hC;have ok4:=uW I4.hok hsb' I4.free;exact⟨.ref s2.heap.objs.size,H4,I2.call' (s':={ s' with heap:=h' }) (ch:=fp) (I4.os) un ok4 I4.bare (λb hb=>by obtain⟨_,g2,g3,g4,g5,g6⟩:=f2 b hb;exact⟨g4,g2,g5,g6⟩),rfl,o.fin hfree nf x4 j4 ha4 cl4 g3⟩
 show codeAny _ _ (.compStart _ 0 (.ref it) (.ref s2.heap.objs.size) (compEnvC scope (cellsFrom (hp1.objs.size+1) scope.names cl) hp1.objs.size X.env)) _ _;exact wD rfl rfl loop (Tn.self X.A 0 _ _ _ tn0 loop)⟩
def cT{cl:List (Str×Addr)}{own:List Str}{js:List Nat}{fr:List Str}{f0:List Expr}{fi:aj->DM Itn}{fg:D->aj->DM aj}{ft:aj->DM Bool}{fe:aj->DM D}
  (o:Out) (hc:X.calm=true) (T:CompG X scope cl own js fr) (hi:DI X E t0 i0 fi)
  (hg:∀Zo m fp C s₂ H₂,DG (X.aU Zo scope (cellsFrom m scope.names cl) (own++fr) fp C s₂ H₂) E0 t0 fg) (ht:∀Zo m fp C s₂ H₂,DTs (X.aU Zo scope (cellsFrom m scope.names cl) (own++fr) fp C s₂ H₂) E0 f0 ft)
  (he:∀Zo m fp C s₂ H₂,DE (X.aU Zo scope (cellsFrom m scope.names cl) (own++fr) fp C s₂ H₂) E0 elt fe)
  (hs:∀y,foldedSetIterable i0 X.env y=pure y:=by intro _;rfl) :
  DE X E (.ListComp elt [⟨t0,i0,f0,0⟩] scope pos) (λδ=>fi δ>>=λit=>dB (cA fg ft (bV fe) it (aO own.length js δ) [])>>=λp=>o.run p.2):=
 Iz (bodyK:=λY acc=>ut elt (.ref acc) Y.env) (W:=λY acc P s=>wpAny (model Y.prog Y.w) Y.A (eval elt Y.env) (λx s1=>wpAny (model Y.prog Y.w) Y.A (call (.builtin "list.append") [.ref acc,x]) (λv s2=>P s2) (λv v=>False) s1) (λv v=>False) s) o hc T hi
  (λY it acc=>Ks ..) (λY acc=>Gg) (λY acc P P' s hp h=>Vn h (λx s1 h1=>Vn h1 (λv s2 h2=>hp _ h2) λv v z=>z) λv v z=>z) hg ht (λZo m fp C s₂ H₂ acc=>Bc rfl (he ..)) hs
def boot_zip:bootBuiltins "zip"=some (.type "zip"):=by decide +kernel
def frz:D->Option (Bool×List D)
 |.tup l=>some (true,l)
 |.lst l=>some (false,l)
 |_=>none
def pairs:List D->List D->List D
 |x::xs,y::ys=>.tup [x,y]::pairs xs ys
 |_,_=>[]
def qF:List D->Option Itn
 |[x,y]=>match frz x,frz y with
   |some (_,l),some (_,m)=>some (.fix (pairs l m))
   |_,_=>none
 |_=>none
theorem pairs_at:∀ (l m:List D) (i:Nat),(pairs l m)[i]?=match l[i]?,m[i]? with
  |some x,some y=>some (.tup [x,y])
  |_,_=>none
 |[],m,i=>by simp[pairs]
 |x::xs,[],i=>by
   cases i with
   |zero=>simp[pairs]
   |succ i=>simp only[pairs,List.getElem?_nil,List.getElem?_cons_succ];cases xs[i]?<;>rfl
 |x::xs,y::ys,0=>by simp[pairs]
 |x::xs,y::ys,i+1=>by simp only[pairs,List.getElem?_cons_succ];exact pairs_at xs ys i
section
variable{mg:Str->Option Value}{ρ:Rh}{H:Hp}
def yx{K:PySem.W.Frag}{x:V}{d:D}{b:Bool}{l:List D}(c:Cv mg ρ H x d)(e:frz d=some (b,l)):∃a xs,x=.ref a/\a∉ρ/\H a=some (if b then .tup xs else .lst xs)/\Cvs mg ρ H xs l:=by
 cases c with
 |tup n h c=>cases e;exact⟨_,_,rfl,n,h,c⟩
 |lst n h c=>cases e;exact⟨_,_,rfl,n,h,c⟩
 |_=>cases e
def o7{K:PySem.W.Frag}{b:Bool}{a:Addr}{xs:List V}(h:H a=some (if b then .tup xs else .lst xs)):mU b K H a xs:=by
 cases b with
 |true=>exact SqT.of h
 |false=>exact SqL.of h
set_option tactic.hygienic true in
def OD{K:PySem.W.Frag}{b1 b2:Bool}{l1 l2:Addr}{xs ys:List V}{ds es:List D}(n1:l1∉ρ)(n2:l2∉ρ)(h1:H l1=some (if b1 then .tup xs else .lst xs))(h2:H l2=some (if b2 then .tup ys else .lst ys))(c1:Cvs mg ρ H xs ds)(c2:Cvs mg ρ H ys es):ItOk mg ρ H (Nm K b1 b2 l1 l2) (.fix (pairs ds es)) where
 item:=λi ρ' H' M' d e j q=>by
  have hq:(pairs ds es)[i]?=some d:=Vc q;rw[pairs_at]at hq;split at hq
  ·rename_i dx dy e1 e2;cases hq;obtain⟨x,hx,cx⟩:=c1.get e1;obtain⟨y,hy,cy⟩:=c2.get e2;have k1:=(e.keep _ _ h1 n1).2;have k2:=(e.keep _ _ h2 n2).2;refine⟨⟨xs,ys,x,y,o7 k1,o7 k2,hx,hy⟩,λv H2 z=>?_⟩
   obtain⟨p,hp,rfl,z⟩:=z;obtain⟨x',y',hx',hy',rfl⟩:=z xs ys (o7 k1) (o7 k2);rw[hx]at hx';cases hx';rw[hy]at hy';cases hy';exact⟨.lay hp,j.lay _ hp,.tup (j.fresh hp) upd_same (.cons ((cx.kp e).mono (.lay hp)) (.cons ((cy.kp e).mono (.lay hp)) .nil))⟩
  ·cases hq
 stop:=λi ρ' H' M' e j q=>by
  have hq:(pairs ds es)[i]?=none:=Vc q;rw[pairs_at]at hq;refine⟨xs,ys,o7 (e.keep _ _ h1 n1).2,o7 (e.keep _ _ h2 n2).2,?_⟩;cases e1:ds[i]? with
  |none=>exact .inl (Vx.mpr (by rw[c1.len];exact Vx.mp e1))
  |some dx=>cases e2:es[i]? with
    |none=>exact .inr (Vx.mpr (by rw[c2.len];exact Vx.mp e2))
    |some dy=>rw[e1,e2]at hq;cases hq
end
def Q3(m:DM α)(f:α->DM β)(g:β->DM γ):(m>>=f)>>=g=m>>=λa=>f a>>=g:=by
 funext M;show DM.bind (DM.bind m f) g M=DM.bind m (λa=>DM.bind (f a) g) M
 unfold DM.bind;cases m M with
 |none=>rfl
 |some r=>obtain⟨r,M'⟩:=r;cases r<;>rfl
def KQ:DE X E (.Dict [] [] pos) (λz=>pure (.dic [] [])):=⟨PE.mono pe_dnewK λσ H Q h=>by obtain⟨ρ,δ,M,ev,j,g⟩:=h;exact λp hp=>g.pure ρ _ _ (.lay hp) (j.lay _ hp) (.dic (j.fresh hp) upd_same rfl .nil)⟩
def KR:DE X E (.Dict [some (.Constant (.int i) k1 p1)] [.Constant (.int j) k2 p2] pos) (λz=>pure (.dic [.inl i] [.int j])):=⟨PE.mono (pe_disp (pps_cons pe_int pe_int pps_nil) rfl rfl (by simp) (by show 1<=15;decide)) λσ H Q h=>by
 obtain⟨ρ,δ,M,ev,jj,g⟩:=h;refine λp hp=>⟨upd_same,[(.inl i,.int j)],rfl,(by show 1<=15;decide),?_⟩
 have e:upd (upd H p (HO.dK [])) p (HO.dK (mergeK [] [(.inl i,.int j)]))=upd H p (.dK [(.inl i,.int j)]):=upd_upd;rw[e];exact g.pure ρ _ _ (.lay hp) (jj.lay _ hp) (.dic (ks:=[.inl i]) (xs:=[.int j]) (jj.fresh hp) upd_same rfl (.cons (.int j) .nil))⟩
set_option tactic.hygienic true in
theorem iW:∀ {names:List (Str×NameKind)}{m:Nat}{y:Str}{c:Addr},(y,c)∈cellsFrom m names []->(y,NameKind.cell)∈names
 |[],_,_,_,h=>nomatch h
 | (n,k)::r,m,y,c,h=>by
   unfold cellsFrom at h;split at h
   ·rename_i hk;rw[bL]at h;rcases Vd.mp h with z | z
    ·exact .tail _ (iW z)
    ·cases Vj.mp z;have hk':k=.cell:=by cases k<;>first | rfl | cases hk
     rw[hk'];exact .head _
   ·exact .tail _ (iW h)
def isC:NameKind->Bool
 |.cell=>true
 |_=>false
def Ot(h:isC k=true):k=.cell:=by cases k<;>first | rfl | cases h
set_option tactic.hygienic true in
def Ly(h:(names.all λp=>!isC p.2 || (match names.lookup p.1 with | some k=>isC k | none=>false))=true):∀(m:Nat) y c,(cellsFrom m names []).lookup y=some c->names.lookup y=some .cell:=λm y c e=>by
 have hm:=iW (Wc e);have q:=Xf.mp h _ hm;simp only[isC,Bool.not_true,Bool.false_or]at q;split at q
 ·rename_i k hk;rw[hk,Ot q]
 ·cases q
def Lz{cl:List (Str×Addr)}{names:List (Str×NameKind)}(h:xJ (λp=>(match names.lookup p.1 with | some k=>isC k | none=>false)=false) cl):∀y c,cl.lookup y=some c->names.lookup y≠some .cell:=λy c e z=>by have:=oh h (y,c) (L2.mem_of_lookup e);simp only[z,isC]at this;cases this
end L3
namespace L3
open PySem PySem.Spec L2
@[simp] theorem au(a:α)(f:α->DM β):((Pure.pure a:DM α)>>=f)=f a:=id rfl
@[simp] theorem aM(m:DM α)(f:α->DM β)(g:β->DM γ):(m>>=f)>>=g=m>>=λa=>f a>>=g:=Q3 m f g
@[simp] theorem dj(a:α):(opt (some a):DM α)=Pure.pure a:=id rfl
@[simp] theorem Kl(a:α):dB (Pure.pure a:DM α)=Pure.pure a:=id rfl
@[simp] theorem T6(c:Str)(f:α->DM β):((raise c:DM α)>>=f)=raise c:=id rfl
def bK{α:Type}{f:Mo->Option α}{a:α}(h:∀M,f M=some a):(rd f:DM α)=Pure.pure a:=by funext M;show (f M).map _=_;rw[h M];rfl
@[simp] theorem RC(f g:aj->DM Fl)(δ:aj):vB f g δ=f δ>>=λr=>match r with
 |.nx δ'=>g δ'
 |r=>Pure.pure r:=id rfl
@[simp] theorem eN(i:Nat)(δ:aj):fJ i δ=opt ((δ[i]?).join):=id rfl
@[simp] theorem oK(b:Bool):iG (.bl b)=Pure.pure b:=id rfl
@[simp] theorem Qj(p n:Nat)(fb:aj->DM Fl)(ds:List D):aF p n fb ds=if ds.length=p then fb (bQ n ds)>>=λr=>match r with
 |.nx _=>Pure.pure .non
 |.rt d=>Pure.pure d
 |_=>stuck else stuck:=id rfl
@[simp] theorem T7(n:Nat)(ds:List D):bQ n ds=ds.map some++List.replicate (n-ds.length) none:=id rfl
@[simp] theorem mD(i:Nat)(d:D)(δ:aj):gN i d δ=Pure.pure (δ.set i (some d)):=id rfl
@[simp] theorem UJ(n:Nat)(fs:List D->aj->DM aj)(l:List D)(δ:aj):gT n fs (.tup l) δ=if l.length=n then fs l δ else stuck:=id rfl
@[simp] theorem Uv(f:D->aj->DM aj)(fs:List D->aj->DM aj)(d:D)(l:List D)(δ:aj):fu f fs (d::l) δ=f d δ>>=λδ'=>fs l δ':=id rfl
@[simp] theorem Uw(δ:aj):qM [] δ=Pure.pure δ:=id rfl
@[simp] theorem Uz(i j:Nat)(fa:aj->DM (List D))(δ:aj):Dt i j fa δ=fa δ>>=λl=>match l with
 |[v,w]=>Pure.pure (.nx ((δ.set i (some v)).set j (some w)))
 |_=>stuck:=id rfl
@[simp] theorem Rv(i j:Int):(rd (bY (.int i) (.int j)):DM D)=Pure.pure (.int (i+j)):=id rfl
@[simp] theorem DR(i j:Int):(rd (Ek (.int i) (.int j)):DM D)=Pure.pure (.int (i-j)):=id rfl
@[simp] theorem Qp(i j:Int):(rd (Bp (.int i) (.int j)):DM D)=Pure.pure (.bl (decide (i<j))):=id rfl
@[simp] theorem TJ(i j:Int):(rd (ww (.int i) (.int j)):DM D)=Pure.pure (.bl (decide (i<=j))):=id rfl
@[simp] theorem TF(i j:Int):(rd (Bh (.int i) (.int j)):DM D)=Pure.pure (.bl (decide (j<i))):=id rfl
@[simp] theorem Ql(i j:Int):(rd (yD (.int i) (.int j)):DM D)=Pure.pure (.bl (decide (j<=i))):=id rfl
@[simp] theorem RB(i:Int):(rd (Jy (.int i)):DM D)=Pure.pure (.int (-i)):=id rfl
@[simp] theorem Ur(i:Int):(rd (Td [.int i]):DM D)=Pure.pure (.int (if i<0 then -i else i)):=id rfl
@[simp] theorem Uk(i j:Int):(rd (Do [.int i,.int j]):DM D)=Pure.pure (.int (if j > i then j else i)):=id rfl
@[simp] theorem Ul(i j:Int):(rd (Rg [.int i,.int j]):DM D)=Pure.pure (.int (if j<i then j else i)):=id rfl
def Ry{i j:Int}(h:0<j):(rd (lX (.int i) (.int j)):DM D)=Pure.pure (.int (i%j)):=bK λM=>by simp[cM,h]
def DQ{i j:Int}(h:fG i j=true):(rd (pU (.int i) (.int j)):DM D)=Pure.pure (.int (i*j)):=bK λM=>by simp[cM,h]
def Hg{i j:Int}(h:qK i j=true):(rd (lB (.int i) (.int j)):DM D)=Pure.pure (.int (i / j)):=bK λM=>by simp[cM,h]
def Km{i j:Int}(h:Kg i j=true):(rd (Dy (.int i) (.int j)):DM D)=Pure.pure (.int (i^j.toNat)):=bK λM=>by simp[cM,h]
set_option tactic.hygienic true in
def bits_le(h:i.natAbs<2^n):Builtin.Int.intBits i<=n:=by
 unfold Builtin.Int.intBits;split
 ·exact Wo _
 ·rename_i h0;have:i.natAbs≠0:=by intro z;apply h0;simp;lia
  exact (Nat.log2_lt this).mpr h
def Ls(h:i.natAbs<2^64):fG i j=true:=by
 unfold fG;have:¬ (Builtin.Int.intBits i > shortFactorBits):=by have:=bits_le h;unfold shortFactorBits;lia
 simp[this]
def Lw(h:j.natAbs<2^64):fG i j=true:=by
 unfold fG;have:¬ (Builtin.Int.intBits j > shortFactorBits):=by have:=bits_le h;unfold shortFactorBits;lia
 simp[this]
def Az(h0:0<j)(h:j.natAbs<2^1000):qK i j=true:=by
 unfold qK;have a:Builtin.divisionGoesByPylong i j=false:=by
  unfold Builtin.divisionGoesByPylong;have hj:j.natAbs≠0:=by lia
  have hl:j.natAbs.log2<1000:=(Nat.log2_lt hj).mpr h;have h0':(j==0)=false:=by simp;lia
  simp only[h0'];have:¬ (j.natAbs.log2 / 30+1 > 300):=by lia
  simp[this]
 simp[a,h0]
def Qq{a b:Nat}(h:a<2^64):(rd (pU (.int (a:Int)) (.int (b:Int))):DM D)=Pure.pure (.int ((a*b:Nat):Int)):=by rw[DQ (Ls (by simpa using h)),Int.natCast_mul]
def Hq{a b:Nat}(h0:0<b):(rd (lX (.int (a:Int)) (.int (b:Int))):DM D)=Pure.pure (.int ((a%b:Nat):Int)):=by rw[Ry (by lia),Int.natCast_emod]
def nD(n:Nat):D:=.int (n:Int)
def nT(l:List Nat):D:=.tup (l.map nD)
def pI{α:Type}{l:List α}{i:Nat}{a:α}(h:l[i]?=some a):atI l (i:Int)=some a:=by
 have hi:=(UW.mp h).1;unfold atI ixN;rw[U5 (by lia),U5 (by lia)]
 simpa using h
def wU{l:List D}{i:Nat}{a:D}(h:l[i]?=some a):(rd (cZ (.tup l) (.int (i:Int))):DM D)=Pure.pure a:=bK λM=>pI h
def qX{l:List D}{i:Nat}{a:D}(h:l[i]?=some a):(rd (cZ (.lst l) (.int (i:Int))):DM D)=Pure.pure a:=bK λM=>pI h
def Rx{l:List Nat}{i:Nat}{a:Nat}(h:l[i]?=some a):(rd (cZ (nT l) (.int (i:Int))):DM D)=Pure.pure (nD a):=wU (by simp[h])
@[simp] theorem Uj(l:List D):(rd (gj [.tup l]):DM D)=Pure.pure (.int (l.length:Int)):=id rfl
@[simp] theorem Qo(l:List D):(rd (gj [.lst l]):DM D)=Pure.pure (.int (l.length:Int)):=id rfl
@[simp] theorem Ui(l:List Int):(rd (gj [.scr l]):DM D)=Pure.pure (.int (l.length:Int)):=id rfl
@[simp] theorem Hr(l:List D):(rd (n6 [.lst l]):DM D)=Pure.pure (.tup l):=id rfl
@[simp] theorem Uo(l:List D):(rd (n6 [.tup l]):DM D)=Pure.pure (.tup l):=id rfl
theorem uw:∀l:List Int,intsOf (l.map D.int)=some l
 |[]=>rfl
 |i::l=>by simp[intsOf,uw l]
theorem pQ:∀l:List Nat,intsOf (l.map nD)=some (l.map λn:Nat=>(n:Int))
 |[]=>rfl
 |i::l=>by simp[intsOf,nD];exact pQ l
theorem tU:∀l:List Nat,(l.map λn:Nat=>(n:Int)).sum=((l.sum:Nat):Int)
 |[]=>rfl
 |i::l=>by simp[tU l]
@[simp] theorem Qu(l:List Nat):(rd (Em [nT l]):DM D)=Pure.pure (nD l.sum):=bK λM=>by show (intsOf (l.map nD)).map _=_;rw[pQ];simp[nD,tU]
@[simp] theorem zx(l:List Nat):(rd (Em [.lst (l.map nD)]):DM D)=Pure.pure (nD l.sum):=bK λM=>by show (intsOf (l.map nD)).map _=_;rw[pQ];simp[nD,tU]
@[simp] theorem zu{n:Nat}(h:n<2^62):qd [.int (n:Int)]=some (.fix ((List.range n).map nD)):=by
 have:oN (n:Int)=true:=by unfold oN;exact Vh ⟨by lia,by lia⟩
 simp[qd,this,oM,nD]
@[simp] theorem Us(l:List D):jo (.tup l)=some (.fix l):=id rfl
def gq(h:l.length<=1000000):lF l=Pure.pure (.tup l):=by
 have:dD l=true:=by unfold dD;exact Vh (by show l.length<=2^24;lia)
 simp[lF,this]
def cJ(h:l.length<=1000000):eO l=Pure.pure (.lst l):=by
 have:dD l=true:=by unfold dD;exact Vh (by show l.length<=2^24;lia)
 simp[eO,this]
@[simp] theorem ie(fg:D->aj->DM aj)(ft:aj->DM Bool)(fb:aj->List D->DM (aj×List D))(ds:List D)(δ:aj)(l:List D):cA fg ft fb (.fix ds) δ l=aZ fg ft fb ds δ l:=id rfl
theorem sW(S:aj->Prop)(en:D->aj)(p:D->Bool)(e:D->D):∀ (ds:List D) (δ:aj) (l:List D),S δ->l.length + ds.length<=1000000->
  (∀d∈ds,∀δ,S δ->fg d δ=Pure.pure (en d)/\S (en d))->(∀d∈ds,ft (en d)=Pure.pure (p d))->(∀d∈ds,p d=true->fe (en d)=Pure.pure (e d))->∃δ',aZ fg ft (bV fe) ds δ l=Pure.pure (δ',l++(ds.filter p).map e)
 |[],δ,l,_,_,_,_,_=>⟨δ,by simp[aZ]⟩
 | d::ds,δ,l,s,hl,h0,h1,h2=>by
   have a:=h0 d (Vm ..) δ s;have b:=h1 d (Vm ..);have hl':l.length+(ds.length+1)<=1000000:=by simpa using hl
   have lt:l.length<sizeLine:=by show l.length<2^24;lia
   have ih:=λl' hl'=>sW S en p e ds (en d) l' a.2 hl' (λx hx=>h0 x (Vq _ hx)) (λx hx=>h1 x (Vq _ hx)) (λx hx=>h2 x (Vq _ hx))
   by_cases hp:p d=true
   ·have c:=h2 d (Vm ..) hp;obtain⟨δ',q⟩:=ih (l++[e d]) (by simp;lia)
    refine⟨δ',?_⟩;simp[aZ,a.1,b,hp,bV,c,lt,q]
   ·obtain⟨δ',q⟩:=ih l (by lia)
    refine⟨δ',?_⟩;simp[aZ,a.1,b,hp,q]
@[simp] theorem p6(l:List D):Out.run .val l=Pure.pure (.lst l):=id rfl
def J9{ft:aj->DM Bool}{fe:aj->DM D}{x:Option D}{rest:aj}{ds:List D}(p:D->Bool)(e:D->D)(hl:ds.length<=1000000)(h1:∀d∈ds,ft (some d::rest)=Pure.pure (p d))(h2:∀d∈ds,p d=true->fe (some d::rest)=Pure.pure (e d)){β:Type}{k:aj×List D->DM β}{k':List D->DM β}(hk:∀q,k q=k' q.2):
  (dB (aZ (gN 0) ft (bV fe) ds (x::rest) [])>>=k)=k' ((ds.filter p).map e):=by
 obtain⟨δ',q⟩:=sW (fg:=gN 0) (ft:=ft) (fe:=fe) (λδ=>∃x,δ=x::rest) (λd=>some d::rest) p e ds (x::rest) [] ⟨x,rfl⟩ (by simpa using hl) (λd _ δ ⟨x,h⟩=>⟨by subst h;rfl,_,rfl⟩) h1 h2
 rw[q];simp[hk]
@[simp] theorem T5(m:DM α):(m>>=λa=>(Pure.pure a:DM α))=m:=by
 funext M;show DM.bind m _ M=m M;unfold DM.bind;cases m M with
 |none=>rfl
 |some r=>obtain⟨r,M'⟩:=r;cases r<;>rfl
def jD:Option D->List D->Option D
 |x,[]=>x
 |_,d::ds=>jD (some d) ds
def qO:Option D->Option D->List D->List D->aj
 |x,y,a::as,b::bs=>qO (some a) (some b) as bs
 |x,y,_,_=>[x,y]
theorem iQ:∀ (as bs:List Int),PyData.eqvAll (as.map .int) (bs.map .int)=decide (as=bs)
 |[],[]=>by simp[PyData.eqvAll]
 |[],b::bs=>by simp[PyData.eqvAll]
 |a::as,[]=>by simp[PyData.eqvAll]
 |a::as,b::bs=>by rw[Vt,Vt];simp only[PyData.eqvAll,PyData.eqv,iQ as bs];by_cases h:a=b<;>by_cases h2:as=bs<;>simp[h,h2]
theorem gD:∀l:List Int,fH (l.map D.int)=some (l.map PyData.int)
 |[]=>rfl
 |i::l=>by simp[fH,toPy,gD l]
theorem lay_ints:∀l:List Int,PyData.canLayAll0 (l.map PyData.int)=true
 |[]=>rfl
 |i::l=>by simp[PyData.canLayAll0,PyData.canLay0,lay_ints l]
theorem fW:∀ l:List Int,PyData.depthAll (l.map PyData.int)<=1
 |[]=>by simp[PyData.depthAll]
 |i::l=>by
   have:=fW l;simp only[List.map_cons,PyData.depthAll,PyData.depth]
   lia
@[simp] theorem Kh(i j:Int):(rd (cg (.int i) (.int j)):DM D)=Pure.pure (.bl (decide (i=j))):=bK λM=>by simp[cg,eqB,eqP,toPy,PyData.canLay0,PyData.depth,PyData.eqv];rw[Vu];simp
@[simp] theorem Rz(i j:Int):(rd (iT (.int i) (.int j)):DM D)=Pure.pure (.bl (!decide (i=j))):=bK λM=>by simp[iT,eqB,eqP,toPy,PyData.canLay0,PyData.depth,PyData.eqv];rw[Vu];simp
@[simp] theorem Uu(i j:Str):(rd (cg (.str i) (.str j)):DM D)=Pure.pure (.bl (decide (i=j))):=id rfl
@[simp] theorem Uy(i j:Str):(rd (iT (.str i) (.str j)):DM D)=Pure.pure (.bl (!decide (i=j))):=id rfl
def yr(a b:List Int):eqB (.tup (a.map D.int)) (.tup (b.map D.int))=some (decide (a=b)):=by
 have:=fW a;have h:∀n,n<=1->1+n<=60:=λn h=>by lia
 simp only[eqB,eqP,toPy,gD,Option.map_some,PyData.canLay0,lay_ints,PyData.depth,PyData.eqv,iQ];simp
 lia
def qQ(l:List Nat):nT l=.tup ((l.map λn:Nat=>(n:Int)).map D.int):=by simp[nT,nD,Function.comp_def]
def jP{a b:List Nat}:(a.map λn:Nat=>(n:Int))=(b.map λn:Nat=>(n:Int)) ↔ a=b:=List.map_inj_right λx y (h:(x:Int)=(y:Int))=>by lia
@[simp] theorem Ut(a b:List Nat):(rd (cg (nT a) (nT b)):DM D)=Pure.pure (.bl (decide (a=b))):=bK λM=>by rw[qQ,qQ,cg,yr];simp[jP]
@[simp] theorem Ux(a b:List Nat):(rd (iT (nT a) (nT b)):DM D)=Pure.pure (.bl (!decide (a=b))):=bK λM=>by rw[qQ,qQ,iT,yr];simp[jP]
theorem Cr:∀l:List Bool,gG (l.map D.bl)=some l
 |[]=>rfl
 |b::l=>by simp[gG,JS,Cr l]
@[simp] theorem uF(l:List Bool):(rd (pH [.lst (l.map D.bl)]):DM D)=Pure.pure (.bl (l.all id)):=bK λM=>by simp[pH,aR,Cr]
theorem HW:∀ l:List Nat,gG (l.map nD)=some (l.map λn=>n != 0)
 |[]=>rfl
 |b::l=>by simp only[List.map_cons,gG,HW l,nD,JS];congr 2;rw[Vu];simp
@[simp] theorem Uh(l:List Nat):(rd (CJ [nT l]):DM D)=Pure.pure (.bl (l.any (·!= 0))):=bK λM=>by simp[CJ,nT,HW,List.any_map]
theorem uO:∀ l:List Nat,l.any (·!= 0)=decide (0<l.sum)
 |[]=>rfl
 |a::l=>by
   rw[Zf,uO l,Vu];simp only[Bool.or_eq_true,bne_iff_ne,decide_eq_true_eq,ne_eq];rw[Xc]
   lia
def bW(h:∀M,tyOf d M=some t)(hc:tys.contains c=true):(rd (f9 [d,.ty c]):DM D)=Pure.pure (.bl (El t c)):=bK λM=>by simp only[f9,h M,Option.bind_some,hc,if_true]
@[simp] theorem Qv(b:Bool):(rd (iB (.bl b)):DM Bool)=Pure.pure b:=id rfl
def TV(d:D):Prop:=∃s,(rd (wV [d]):DM D)=Pure.pure (.str s)
def HB{l:List Int}(h:∀ i∈l,i.natAbs<2 ^ 1000):PyData.showableAll (l.map PyData.int)=true:=by
 induction l with
 |nil=>rfl
 | cons i l ih=>
   have h0:=h i (by simp)
   have:i.natAbs.log2<1920:=by
    rcases Yu i.natAbs with z | z
    ·rw[z];decide
    ·exact Va ((Nat.log2_lt (by lia)).mpr h0) (by decide)
   simp[PyData.showableAll,PyData.showable,this,ih λi hi=>h i (by simp[hi])]
@[simp] theorem Up(l m:List D):qF [.tup l,.tup m]=some (.fix (pairs l m)):=id rfl
def Rn{α:Type}(m:DM α)(M:Mo)(Q:α->Mo->Prop):Prop:=∃a M',m M=some (.ok a,M')/\Q a M'
theorem Rn.bind(h:Rn m M Q1)(k:∀a M',Q1 a M'->Rn (f a) M' Q):Rn (m>>=f) M Q:=by obtain⟨a,M',e,q⟩:=h;obtain⟨b,M2,e2,q2⟩:=k a M' q;refine⟨b,M2,?_,q2⟩;show DM.bind m f M=_;unfold DM.bind;rw[e];exact e2
theorem Rn.pure(q:Q a M):Rn (Pure.pure a) M Q:=⟨a,M,rfl,q⟩
def Rn.mono{α:Type}{m:DM α}{Q R:α->Mo->Prop}(h:Rn m M Q)(k:∀a M',Q a M'->R a M'):Rn m M R:=by obtain⟨a,M',e,q⟩:=h;exact⟨a,M',e,k a M' q⟩
theorem Rn.rd(h:f M=some a)(q:Q a M):Rn (L3.rd f) M Q:=⟨a,M,by unfold L3.rd;rw[h];rfl,q⟩
def Rn.bindRd(a:α)(h:f M=some a)(q:Rn (k a) M Q):Rn (L3.rd f>>=k) M Q:=Rn.bind (Rn.rd h (Q:=λb M'=>b=a/\M'=M) ⟨rfl,rfl⟩) (λb M' ⟨e1,e2⟩=>by rw[e1,e2];exact q)
def Rn.call(hp:ds.length=p)(h:Rn (fb (bQ n ds)) M λr M'=>∃d,r=.rt d/\Q d M'):Rn (aF p n fb ds) M Q:=by
 unfold aF;rw[U5 hp];refine Rn.bind h λr M' ⟨d,e,q⟩=>?_
 subst e;exact Rn.pure q
structure Sb(p:Nat)(M M':Mo):Prop where
 le:M.length<=M'.length
 keep:∀q,q≠p->q<M.length->M'[q]?=M[q]?
def Sb.refl:Sb p M M:=⟨U0 _,λz z z=>rfl⟩
theorem Sb.trans(h:Sb p M M1)(k:Sb p M1 M2):Sb p M M2:=⟨Vp h.le k.le,λq hq hl=>(k.keep q hq (Va hl h.le)).trans (h.keep q hq hl)⟩
theorem Sb.set:Sb p M (M.set p o):=⟨by simp,λq hq hl=>Wf (λz=>hq z.symm)⟩
def Sb.push:Sb p M (M++[o]):=⟨by simp,λq hq hl=>Vb hl⟩
def Sb.at(h:Sb p M M')(hq:q≠p)(e:M[q]?=some o):M'[q]?=some o:=(h.keep q hq (UW.mp e).1).trans e
def Sb.new(h:M'.length=M.length\/M.length<=M'.length)(hq:M.length<=q)(k:Sb q M' M2)(h1:Sb p M M'):Sb p M M2:=⟨Vp h1.le k.le,λr hr hl=>(k.keep r (by lia) (Va hl h1.le)).trans (h1.keep r hr hl)⟩
def Lp(h:l.length<=1000000):eQ l M=some (.ok (.ref M.length),M++[.lst l]):=by
 have:dD l=true:=by unfold dD;exact Vh (by show l.length<=2^24;lia)
 unfold eQ;rw[U5 this]
theorem Rn.eQ(h:l.length<=1000000)(q:Rn (k (.ref M.length)) (M++[.lst l]) Q):Rn (L3.eQ l>>=k) M Q:=Rn.bind ⟨_,_,Lp h,(⟨rfl,rfl⟩:D.ref M.length=.ref M.length/\M++[.lst l]=M++[.lst l])⟩ (Q1:=λa M'=>a=.ref M.length/\M'=M++[.lst l]) (λa M' ⟨e1,e2⟩=>by rw[e1,e2];exact q)
def pR{n:Nat}{l:List D}{i:Nat}(h:M[n]?=some (.lst l))(hi:l[i]?=some a):cZ (.ref n) (.int (i:Int)) M=some a:=by show (aR (.ref n) M).bind _=_;simp only[aR,h,Option.bind_some];exact pI hi
def Gp(h:i<n):ixN n (i:Int)=some i:=by unfold ixN;rw[U5 (by lia),U5 (by lia)];simp
def rm{n:Nat}{l:List D}{i:Nat}(h:M[n]?=some (.lst l))(hi:i<l.length):Eg (.ref n) (.int (i:Int)) v M=some (.ok (),M.set n (.lst (l.set i v))):=by delta Eg;dsimp only;rw[h];dsimp only;rw[Gp hi]
def uP(h:M[n]?=some (.lst l))(hl:l.length<1000000):Io (.ref n) [v] M=some (.ok .non,M.set n (.lst (l++[v]))):=by
 have:l.length<sizeLine:=by show l.length<2^24;lia
 delta Io;dsimp only;rw[h];dsimp only;rw[U5 this]
def Rn.run(h:m M=some (.ok a,M'))(q:Rn (k a) M' Q):Rn (m>>=k) M Q:=Rn.bind (Q1:=λb M2=>b=a/\M2=M') ⟨a,M',h,rfl,rfl⟩ (λb M2 ⟨e1,e2⟩=>by rw[e1,e2];exact q)
theorem cV(I:Nat->aj->Mo->Prop):∀ (ds:List D) (i:Nat) (δ:aj) (M:Mo),I i δ M->(∀ j d δ M,ds[j]?=some d->I (i + j) δ M->Rn (tg d δ >>= fb) M λr M'=>∃ δ',r=.nx δ'/\I (i + j + 1) δ' M')->Rn (forL tg fb ds δ) M λr M'=>∃ δ',r=.nx δ'/\I (i + ds.length) δ' M'
 |[],i,δ,M,h,_=>Rn.pure ⟨δ,rfl,h⟩
 | d::ds,i,δ,M,h,st=>by
   have s:=st 0 d δ M rfl h;have e:forL tg fb (d::ds) δ=(tg d δ>>=fb)>>=λr=>match r with
    |.nx δ2=>forL tg fb ds δ2
    |.ct δ2=>forL tg fb ds δ2
    |.bk δ2=>Pure.pure (.nx δ2)
    |.rt d=>Pure.pure (.rt d):=by rw[aM];rfl
   rw[e];refine Rn.bind s λr M' ⟨δ',e,h'⟩=>?_
   subst e;have ih:=cV I ds (i+1) δ' M' h' (λj d δ M hj hI=>by
    have:=st (j+1) d δ M (by simpa using hj) (by rw[show i+(j+1)=i+1+j by lia];exact hI)
    rw[show i+1+j+1=i+(j+1)+1 by lia];exact this)
   rw[show i+(d::ds).length=i+1+ds.length by simp;lia]
   exact ih
section
variable{X:Cx}{E:XK}
def Gk:PGet X (λx y H Q=>∃p xs i v,x=.ref p/\y=.int i/\0<=i/\SqL X.K H p xs/\atI xs i=some v/\Q v H):=by
 intro Zo s σ H x y ov iv Q I rx ry h;obtain⟨p,xs,i,z,rfl,rfl,h0,hq,he,q⟩:=h;cases rx;obtain⟨t,rfl⟩:=ry;obtain⟨its,r,pl,hz⟩:=I.list hq;obtain⟨j,h1,h2,h3,h4,h5⟩:=atI_get he;obtain⟨w,ew,rw'⟩:=r.get h2;have hl:=r.length;have hn:=line63;have fin:EP X Zo σ Q w s:=⟨z,H,I,rw',q⟩;have hj:i.toNat=j:=by rw[seqIndex_of h0 h5]at h1;exact Vc h1
 exact wpAny_getItem_list pl.isList h0 (by lia) (by rw[hj];simpa using ew) fin
def OJ:D->D->Mo->Option D
 |x,.int i,M=>if 0<=i then (aR x M).bind λl=>atI l i else none
 |_,_,_=>none
set_option tactic.hygienic true in
def Rc:PGet X (rD X.mg E (λx y=>rd (OJ x y))):=by
 intro Zo s σ H x y ov iv Q I rx ry h;obtain⟨ρ,M,dx,dy,j,cx,cy,go⟩:=h;obtain⟨d,e,p⟩:=go.rd;unfold OJ at e;split at e
 ·cases cy;split at e
  ·rename_i h0;obtain⟨l,h1,e1⟩:=Vs.mp e;obtain⟨a,xs,rfl,ha,c⟩:=cP j cx h1;obtain⟨w,e2,cw⟩:=c.at e1;exact Gk (X:=X) Zo s σ H _ _ ov iv Q I rx ry ⟨_,_,_,_,rfl,rfl,h0,SqL.of ha,e2,p ρ H _ .refl j cw⟩
  ·cases e
 ·cases e
def K6(ho:DE X E o fo)(hi:DE X E i fi)(hop:bF X E (inplaceOp op) gop)(he:DE X E e fe)
  (ha:∀ov iv new,augStore i ov iv new=(do holding [new,ov,iv] (setItem ov iv new);release [new,ov,iv] [];pure .next):=by intros;rfl) :
  DS X E (.AugAssign (.Subscript o i tpos) op e pos) (λδ=>fo δ>>=λa=>fi δ>>=λk=>rd (OJ a k)>>=λx=>fe δ>>=λy=>gop x y>>=λz=>Eg a k z>>=λw=>pure (.nx δ)):=
 ⟨PS.mono (ps_augS (tip:=rD X.mg E gop) ho.h hi.h (Rc (E:=E)) he.h hop (wW (E:=E)) ha) fun D σ H h=>by
  obtain⟨ρ,δ,M,ev,j,g1⟩:=h;refine⟨ρ,δ,M,ev,j,g1.bind λρ1 H1 M1 a da e1 j1 c1 g2=>⟨ρ1,δ,M1,ev.mono e1,j1,g2.bind λρ2 H2 M2 k dk e2 j2 c2 g3=>⟨ρ2,M2,da,dk,j2,c1.mono e2,c2,g3.bind λρ3 H3 M3 x dx e3 j3 c3 g4=>?_⟩⟩⟩
  have ev3:=((ev.mono e1).mono e2).mono e3;refine⟨ρ3,δ,M3,ev3,j3,g4.bind λρ4 H4 M4 y dy e4 j4 c4 g5=>⟨ρ4,M4,dx,dy,j4,c3.mono e4,c4,g5.bind λρ5 H5 M5 z dz e5 j5 c5 g6=>?_⟩⟩
  refine⟨ρ5,M5,da,dk,dz,j5,(((c1.mono e2).mono e3).mono e4).mono e5,((c2.mono e3).mono e4).mono e5,c5,g6.bind λρ6 H6 M6 _ _ e6 j6 _ g7=>?_⟩
  exact g7.pure ρ6 H6 σ .refl j6 (((ev3.mono e4).mono e5).mono e6)⟩
end
end L3
namespace L3
open PySem PySem.Spec L2
open PyProof.Rows hiding St
def Fj:bootBuiltins "enumerate"=some (.type "enumerate"):=by decide +kernel
def dg(i:Nat):List D->List D
 |[]=>[]
 |x::xs=>.tup [.int (i:Int),x]::dg (i+1) xs
def uv:List D->Option Itn
 |[x]=>(frz x).map λp=>.fix (dg 0 p.2)
 |_=>none
theorem vf:∀ (l:List D) (k i:Nat),(dg k l)[i]?=(l[i]?).map λx=>.tup [.int ((k + i:Nat):Int),x]
 |[],k,i=>by simp[dg]
 |x::xs,k,0=>by simp[dg]
 |x::xs,k,i+1=>by simp only[dg,List.getElem?_cons_succ,vf xs (k+1) i];rw[show k+1+i=k+(i+1) by lia]
def Lb{mg:Str->Option Value}{ρ:Rh}{H:Hp}{K:PySem.W.Frag}{b:Bool}{l:Addr}{xs:List V}{ds:List D}(n1:l∉ρ)(h1:H l=some (if b then .tup xs else .lst xs))(c1:Cvs mg ρ H xs ds):ItOk mg ρ H (Sy K b l) (.fix (dg 0 ds)) where
 item:=λi ρ' H' M' d e j q=>by
  have hq:(dg 0 ds)[i]?=some d:=Vc q;rw[vf]at hq;obtain⟨dx,e1,rfl⟩:=U4.mp hq;obtain⟨x,hx,cx⟩:=c1.get e1;have k1:=(e.keep _ _ h1 n1).2;refine⟨⟨xs,x,o7 k1,hx⟩,λv H2 z=>?_⟩
  obtain⟨p,hp,rfl,z⟩:=z;obtain⟨x',hx',rfl⟩:=z xs (o7 k1);rw[hx]at hx';cases hx';rw[V2];exact⟨.lay hp,j.lay _ hp,.tup (j.fresh hp) upd_same (.cons (.int _) (.cons ((cx.kp e).mono (.lay hp)) .nil))⟩
 stop:=λi ρ' H' M' e j q=>by have hq:(dg 0 ds)[i]?=none:=Vc q;rw[vf,Option.map_eq_none_iff]at hq;exact⟨xs,o7 (e.keep _ _ h1 n1).2,Vx.mpr (by rw[c1.len];exact Vx.mp hq)⟩
def Ax(hg:Gl X "enumerate")(hm:X.mg "enumerate"=none)(ha:DA X E [a] fa)(hs:notStar a=true:=by rfl):
  DI X E (.Tuple elts kt tp) (.Call (.Name "enumerate" p) [a] [] pos) (λδ=>fa δ>>=λl=>opt (uv l)):=⟨by
 intro Zo s σ H R I h;obtain⟨ρ,δ,M,ev,j,g1⟩:=h;refine Call_ (ld_blt I hg hm Fj (Wi (thn (ha.h.h pos Zo s σ H (λvs H1=>∃ρ1 M1 ds,Ext ρ H ρ1 H1/\J X.mg ρ1 M1 H1/\Cvs X.mg ρ1 H1 vs ds/\Go X.mg E (ItOk X.mg) R ρ1 H1 (opt (uv ds)) M1) I ⟨ρ,δ,M,ev,j,g1.bind λρ1 H1 M1 vs ds e1 j1 c1 g2=>⟨ρ1,M1,ds,e1,j1,c1,g2⟩⟩) λus s1 h1=>?_) (bu hs) (by rfl)))
 obtain⟨vs,H1,I1,rv,ρ1,M1,ds,e1,j1,c1,g2⟩:=h1;obtain⟨itn,ei,q⟩:=g2.opt;unfold uv at ei;split at ei;rotate_left
 ·cases ei
 obtain⟨⟨b,l⟩,f1,rfl⟩:=U4.mp ei;cases c1 with
 |cons k1 c1=>
 cases c1;obtain⟨a1,xs,rfl,n1,h1,cx⟩:=yx (K:=X.K) k1 f1;cases rv with
 |cons r1 rv=>
 cases rv;cases r1;obtain⟨its1,w1,p1,_⟩:=I1.seqS (o7 (K:=X.K) h1);refine CT p1 λh' a1' a2' a3 a4=>wpAny_pyIter_enum a1' ?_
 have lt1:@LT.lt Nat _ a1 s1.heap.objs.size:=p1.lt;have I2:Inv X Zo σ H1 { s1 with heap:=h' }:=I1.kept (t':=s1.toks) a4
 refine⟨_,_,_,_,H1,rfl,I2,HY (b:=b) (e:=s1.heap.objs.size+1) (it:=s1.heap.objs.size) (l:=a1) (λ(h:@Eq Nat _ _)=>by lia) (λ(h:@Eq Nat _ _)=>by lia) (λ(h:@Eq Nat _ _)=>by lia),⟨⟨_,a1'⟩,a2'.1⟩,λb hb=>?_,q ρ1 H1 _ .refl j1 (Lb n1 h1 cx)⟩
 refine I1.fpOk ?_ (I1.hok.fresh ?_)<;>(simp only[List.mem_cons,List.mem_nil_iff,or_false]at hb;rcases hb with rfl | rfl<;>lia)⟩
set_option tactic.hygienic true in
def IK{i:Nat}{cl:List (Str×Addr)}{own:List Str}{js:List Nat}{fr:List Str}{f0:List Expr}{gs:List Comprehension}{fi:aj->DM Itn}{fg:D->aj->DM aj}{ft:aj->DM Bool}{fb:aj->List D->DM (aj×List D)}
  {bodyK:Cx->Addr->Sem Fin->Sem Fin}{W:Cx->Addr->(Shared->Prop)->Shared->Prop} (o:Out) (hN:X.N.Nodup) (hi0:X.N[i]?=some x) (hx:Loc X.env.scope x) (hc:X.calm=true) (T:CompG X scope cl own js fr) (hi:DI X E t0 i0 fi)
  (hturn:∀(Y:Cx) it acc,compTurn (.ListComp elt (⟨t0,i0,f0,0⟩::gs) scope pos) 0 (.ref it) (.ref acc) Y.env=turnOf ⟨t0,i0,f0,0⟩ (bodyK Y acc) (.compLoop (.ListComp elt (⟨t0,i0,f0,0⟩::gs) scope pos) 0 (.ref it) (.ref acc) Y.env) (.ref it) Y.env)
  (hW:∀Y acc,km Y.prog Y.w Y.A (bodyK Y acc) (W Y acc)) (hmono:∀Y acc P P' s,(∀s,P s->P' s)->W Y acc P s->W Y acc P' s)
  (hg:∀Zo m fp C s₂ H₂,DG (X.aU Zo scope (cellsFrom m scope.names cl) (own++fr) fp C s₂ H₂) E0 t0 fg) (ht:∀Zo m fp C s₂ H₂,DTs (X.aU Zo scope (cellsFrom m scope.names cl) (own++fr) fp C s₂ H₂) E0 f0 ft)
  (hb:∀Zo m fp C s₂ H₂ acc,BodyOk (X.aU Zo scope (cellsFrom m scope.names cl) (own++fr) fp C s₂ H₂) acc (W (X.aU Zo scope (cellsFrom m scope.names cl) (own++fr) fp C s₂ H₂) acc) fb)
  (hsw:swapsWith (.ListComp elt (⟨t0,i0,f0,0⟩::gs) scope pos) (some (.Name x px)) spos.line X.env=pure true:=by rfl)
  (hs:∀y,foldedSetIterable i0 X.env y=pure y:=by intro _;rfl) (hf:X.fn x=true\/X.env.scope.names.lookup x=some .local:=by first | exact .inl rfl | exact .inr rfl | assumption) :
  DS X E (.Assign [.Name x px] (.ListComp elt (⟨t0,i0,f0,0⟩::gs) scope pos) spos) (λδ=>(fi δ>>=λit=>dB (cA fg ft fb it (aO own.length js δ) [])>>=λp=>o.run p.2)>>=λd=>pure (.nx (δ.set i (some d)))):=⟨by
 intro Zo s σ H D I h;obtain⟨ρ,δ,M,ev,j,g0⟩:=h;let Q:VK:=λv H'=>D.nx (σ.set i (some v)) H'
 have g1:Go X.mg E (Cv X.mg) Q ρ H (fi δ>>=λit=>dB (cA fg ft fb it (aO own.length js δ) [])>>=λp=>o.run p.2) M:=g0.bind λρ1 H1 M1 v d e1 j1 c1 g2=>g2.pure ρ1 H1 _ .refl j1 ((ev.mono e1).set c1)
 rw[exec_Assign_Name_used _ _ _ _ hsw];refine UL (Xb (UL ?_));show wpAny _ _ (do let _ <-comprehension (.ListComp elt (⟨t0,i0,f0,0⟩::gs) scope pos) scope X.env _ (newList []) false (eval i0 X.env) (some (assign (.Name x px) X.env))) _ _ s
 refine UL (Vn (Yw (cl:=cl) (use:=some (assign (.Name x px) X.env)) (Q:=λu s'=>∃v H',Inv X Zo (σ.set i (some v)) H' s'/\Q v H') rfl hs T.clos T.kind T.names ?_) (λ_ s' ⟨v,H',I',q'⟩=>UV (UV ⟨_,H',I',q'⟩)) λu u e=>e)
 refine thn (hi.h Zo s σ H (λJt H1=>∃ρ1 M1 it,Ext ρ H ρ1 H1/\J X.mg ρ1 M1 H1/\ItOk X.mg ρ1 H1 Jt it/\Go X.mg E (Cv X.mg) Q ρ1 H1 (dB (cA fg ft fb it (aO own.length js δ) [])>>=λp=>o.run p.2) M1) I
  ⟨ρ,δ,M,ev,j,g1.bind λρ1 H1 M1 Jt it e1 j1 iok g2=>⟨ρ1,M1,it,e1,j1,iok,g2⟩⟩) λv s1 h1=>thn h1 λitv s2 h2=>?_
 obtain⟨it,fp,tn,Jt,H2,rfl,I2,Tn,st2,f2,ρ1,M1,itn,x1,j1,iok,g2⟩:=h2;have hrun:∃δf lf Mf,cA fg ft fb itn (aO own.length js δ) [] M1=some (.ok (δf,lf),Mf)/\Go X.mg E (Cv X.mg) Q ρ1 H2 (o.run lf) Mf:=by
  obtain⟨r,e,p⟩:=g2;have e:DM.bind _ _ M1=some r:=e;unfold DM.bind at e;split at e
  ·cases e
  ·rename_i c M' em;obtain⟨a,M'',_,z⟩:=nA em;cases z
  ·rename_i a M' em;obtain⟨a',M'',e1,z⟩:=nA em;cases z;exact⟨a.1,a.2,M',e1,r,e,p⟩
 obtain⟨δf,lf,Mf,hrun,g3⟩:=hrun;unfold newList;refine Vr (pW ?_);have hlt:∀b∈fp,b<s2.heap.objs.size:=λb hb=>by obtain⟨o,e,_⟩:=Tn.obj _ _ st2 b hb;exact U7 e
 dsimp only;generalize hP:s2.heap.push { cls:=.type "list",dict:=none,data:=.seq ([]:List Value).toArray }=hp1;have hCs:hp1.objs.size=s2.heap.objs.size+1:=by rw[<-hP,VF]
 have hCe:hp1.objs.size+1=(hp1.push { cls:=.type "dict",data:=.dict #[] }).objs.size:=by rw[VF]
 have hC:s2.heap.objs.size<=hp1.objs.size:=by lia
 have hne:hp1.objs.size≠s2.heap.objs.size:=by lia
 have old1:∀b o,s2.heap.get? b=some o->hp1.get? b=some o:=λb o e=>by rw[<-hP];exact UT _ e
 have old:∀b o,s2.heap.get? b=some o->(pushCells (hp1.push { cls:=.type "dict",data:=.dict #[] }) scope.names).get? b=some o:=λb o e=>WQ _ _ _ _ (UT _ (old1 b o e))
 have new:∃n,(pushCells (hp1.push { cls:=.type "dict",data:=.dict #[] }) scope.names).get? s2.heap.objs.size=some { cls:=.type "list",data:=.seq #[] n }:=⟨_,WQ _ _ _ _ (UT _ (by rw[<-hP];exact U9 _ rfl))⟩
 have ns:(pushCells (hp1.push { cls:=.type "dict",data:=.dict #[] }) scope.names).Ns hp1.objs.size λu=>none:=(Heap.Ns.new hp1 (.type "dict")).keeps (WQ _ _)
 have hfree:H2 s2.heap.objs.size=none:=I2.hok.fresh (U0 _);have IC:=vQ (t':=s2.toks) T I2 f2 hlt old (U0 _) hC hne hCe (Vp hC (Nat.le_succ _)) (Wv _) (Nat.lt_succ_of_le hC) rfl new ns;have OK:=IC.ok;have fok:∀H',(∀b∈fp,H' b=none)->∀b∈fp,FpOk (X.aU Zo scope (cellsFrom (hp1.objs.size+1) scope.names cl) (own++fr) fp hp1.objs.size s2 H2) [] H' b:=λH' hn b hb=>by
  obtain⟨_,g2,g3,g4,g5,g6⟩:=f2 b hb;refine⟨hn b hb,Vi (Va (hlt b hb) hC),λhm=>?_,.inl hb,(OK.exf b hb).2,λp hp=>g6 p (by simpa using hp)⟩
  rcases Vf.mp (I2.stkSub _ hm) with z | z
  ·exact g2 z
  ·exact g3 z
 have fp1:∀b∈fp,upd H2 s2.heap.objs.size (.lst []) b=none:=λb hb=>by rw[upd_ne (Vi (hlt b hb))];exact (f2 b hb).1
 have jb:=j1.begin hfree;have nf:=j1.fresh hfree;have st:Cst (X.aU Zo scope (cellsFrom (hp1.objs.size+1) scope.names cl) (own++fr) fp hp1.objs.size s2 H2) [] s2.heap.objs.size (ρ1.hold s2.heap.objs.size) (upd H2 s2.heap.objs.size (.lst [])) (aO own.length js δ) [] M1 fp
   { s2 with heap:=pushCells (hp1.push { cls:=.type "dict",data:=.dict #[] }) scope.names,toks:=s2.toks }:=
  ⟨_,_,_,[],IC,.refl (λz=>nf (.inl z)),jb,(uU (ev.mono x1) _ _).kp (oE hfree),upd_same,.nil,fp1⟩
 have tn0:tn 0 (pushCells (hp1.push { cls:=.type "dict",data:=.dict #[] }) scope.names):=Tn.keep _ _ _ st2 (λb u o e=>old b o e)
 have loop:codeAny (model X.prog X.w) X.A (.compLoop (.ListComp elt (⟨t0,i0,f0,0⟩::gs) scope pos) 0 (.ref it) (.ref s2.heap.objs.size) (compEnvC scope (cellsFrom (hp1.objs.size+1) scope.names cl) hp1.objs.size X.env))
   (compPost (model X.prog X.w) X.A X.xe (some (assign (.Name x px) X.env)) (λu s'=>∃v H',Inv X Zo (σ.set i (some v)) H' s'/\Q v H') (.ref s2.heap.objs.size) hp1.objs.size) { s2 with heap:=pushCells (hp1.push { cls:=.type "dict",data:=.dict #[] }) scope.names,toks:=s2.toks }:=by
  refine Gw (X:=X.aU Zo scope (cellsFrom (hp1.objs.size+1) scope.names cl) (own++fr) fp hp1.objs.size s2 H2) hc rfl (hturn _ _ _) (hW _ _) (hmono _ _) (hg ..) (ht ..) (hb Zo (hp1.objs.size+1) fp hp1.objs.size s2 H2 s2.heap.objs.size) Tn iok (.head _) (oE hfree) fok st tn0 hrun λs' c'=>?_
  obtain⟨σ4,H4,ρ4,ys,I4,x4,j4,ev4,ha4,cl4,fr4⟩:=c'.ex;obtain⟨m4,hn4,_⟩:=I4.loc;have hsb0:Heap.SameBut hp1.objs.size s'.heap s'.heap:=⟨rfl,λu u=>rfl⟩
  have un:=zN I4.base hsb0 hC;have ok4:=uW I4.hok hsb0 I4.free;have IO:Inv X Zo σ H4 s':=I2.call' (s':=s') (ch:=fp) (I4.os) un ok4 I4.bare (λb hb=>by obtain⟨_,g2,g3,g4,g5,g6⟩:=f2 b hb;exact⟨g4,g2,g5,g6⟩)
  have fC:FpOk X Zo H4 hp1.objs.size:=I2.fpOk hC I4.free;obtain⟨fC1,fC2,fC3,fC4,fC5,fC6⟩:=fC;show wpAny _ _ (assign (.Name x px) X.env (.ref s2.heap.objs.size)) _ _ s';refine wpAny_assign_Name (store_ok2 IO hN hi0 hx (v:=.ref s2.heap.objs.size) rfl (λs'' I'' hsb=>?_) hf)
  obtain⟨a,sb,ha⟩:=hsb;have nC:hp1.objs.size≠a:=by
   rcases ha with z | z
   ·rw[z];exact fC2
   ·exact λe=>fC5 x a z e.symm
  refine⟨m4,hn4.sameBut sb nC,λh' hsb'=>⟨.ref s2.heap.objs.size,H4,?_,o.fin hfree nf x4 j4 ha4 cl4 g3⟩⟩
  exact I''.turned (it:=hp1.objs.size) (t':=s''.toks) (λb o hb e=>hsb'.extBut b o hb e) fC1 fC2 fC4 (λy c e=>fC5 y c e) fC6
 show codeAny _ _ (.compStart _ 0 (.ref it) (.ref s2.heap.objs.size) (compEnvC scope (cellsFrom (hp1.objs.size+1) scope.names cl) hp1.objs.size X.env)) _ _;exact wD rfl rfl loop (Tn.self X.A 0 _ _ _ tn0 loop)⟩
def sy{i:Nat}{cl:List (Str×Addr)}{own:List Str}{js:List Nat}{fr:List Str}{f0:List Expr}{fi:aj->DM Itn}{fg:D->aj->DM aj}{ft:aj->DM Bool}{fe:aj->DM D}
  (o:Out) (hN:X.N.Nodup) (hi0:X.N[i]?=some x) (hx:Loc X.env.scope x) (hc:X.calm=true) (T:CompG X scope cl own js fr) (hi:DI X E t0 i0 fi)
  (hg:∀Zo m fp C s₂ H₂,DG (X.aU Zo scope (cellsFrom m scope.names cl) (own++fr) fp C s₂ H₂) E0 t0 fg) (ht:∀Zo m fp C s₂ H₂,DTs (X.aU Zo scope (cellsFrom m scope.names cl) (own++fr) fp C s₂ H₂) E0 f0 ft)
  (he:∀Zo m fp C s₂ H₂,DE (X.aU Zo scope (cellsFrom m scope.names cl) (own++fr) fp C s₂ H₂) E0 elt fe)
  (hsw:swapsWith (.ListComp elt [⟨t0,i0,f0,0⟩] scope pos) (some (.Name x px)) spos.line X.env=pure true:=by rfl)
  (hs:∀y,foldedSetIterable i0 X.env y=pure y:=by intro _;rfl) (hf:X.fn x=true\/X.env.scope.names.lookup x=some .local:=by first | exact .inl rfl | exact .inr rfl | assumption) :
  DS X E (.Assign [.Name x px] (.ListComp elt [⟨t0,i0,f0,0⟩] scope pos) spos) (λδ=>(fi δ>>=λit=>dB (cA fg ft (bV fe) it (aO own.length js δ) [])>>=λp=>o.run p.2)>>=λd=>pure (.nx (δ.set i (some d)))):=
 IK (bodyK:=λY acc=>ut elt (.ref acc) Y.env) (W:=λY acc P s=>wpAny (model Y.prog Y.w) Y.A (eval elt Y.env) (λx s1=>wpAny (model Y.prog Y.w) Y.A (call (.builtin "list.append") [.ref acc,x]) (λv s2=>P s2) (λv v=>False) s1) (λv v=>False) s) o hN hi0 hx hc T hi
  (λY it acc=>Ks ..) (λY acc=>Gg) (λY acc P P' s hp h=>Vn h (λx s1 h1=>Vn h1 (λv s2 h2=>hp _ h2) λv v z=>z) λv v z=>z) hg ht (λZo m fp C s₂ H₂ acc=>Bc rfl (he ..)) hsw hs hf
end L3
namespace L3
open PySem PySem.Spec L2
structure OCls(K:PySem.W.Frag)(mg:Str->Option Value)(c:Str)(C:Addr)(fs:List Str):Prop where
 at_:mg c=some (.ref C)
 cls:L2.Cls K C
 no:∀f∈fs,NoAttr K C f
theorem sV:∀ {ns:List Str}{xs:List V}{ds:List D}{d:D},Cvs mg ρ H xs ds->(ns.zip ds).lookup f=some d->∃ v,(ns.zip xs).lookup f=some v/\Cv mg ρ H v d
 |[],_,_,_,_,e=>by simp at e
 |n::ns,_,_,_,.nil,e=>by simp at e
 |n::ns,_,_,d,.cons (v:=v) c cs,e=>by
   rw[W5,W4]at e ⊢
   split at e
   ·cases e;exact⟨v,rfl,c⟩
   ·exact sV cs e
def pK(c f:Str):D->Mo->Option D
 |.obj k ns vs,_=>if k=c then (ns.zip vs).lookup f else none
 |.ref n,M=>match M[n]? with
   |some (.ins k ns vs)=>if k=c then (ns.zip vs).lookup f else none
   |_=>none
 |_,_=>none
set_option tactic.hygienic true in
def fU(O:OCls K mg c C fs)(hf:f∈fs)(he:DE X E e fe)
  (hb:attributeBase e f X.env (eval e X.env)=eval e X.env:=by rfl) (hK:X.K=K:=by rfl) (hM:X.mg=mg:=by rfl):DE X E (.Attribute e f pos) (λδ=>fe δ>>=λx=>rd (pK c f x)):=by
 subst hK hM;refine⟨PE.mono (pe_fld he.h hb) λσ H Q h=>?_⟩
 obtain⟨ρ,δ,M,ev,j,g1⟩:=h;refine⟨ρ,δ,M,ev,j,g1.bind λρ1 H1 M1 x dx e1 j1 c1 g2=>?_⟩
 obtain⟨d,ed,q⟩:=g2.rd;unfold pK at ed;split at ed
 ·split at ed
  ·rename_i hk;subst hk;cases c1 with
   |obj n m h l cs=>obtain⟨v,hv,cv⟩:=sV cs ed;rw[O.at_]at m;cases m;exact⟨_,_,_,_,v,rfl,h,O.cls,O.no f hf,hv,q ρ1 H1 _ .refl j1 cv⟩
  ·cases ed
 ·split at ed
  ·split at ed
   ·rename_i hm hk;subst hk;cases c1 with
    |ref hn=>obtain⟨C',dx',xs,m,h,l,cs⟩:=j1.obj _ _ _ hn hm;obtain⟨v,hv,cv⟩:=sV cs ed;rw[O.at_]at m;cases m;exact⟨_,_,_,_,v,rfl,h,O.cls,O.no f hf,hv,q ρ1 H1 _ .refl j1 cv⟩
   ·cases ed
  ·cases ed
 ·cases ed
def wR:List D->Mo->Option (List D)
 |[.int j],_=>if -(2^62)<=j/\j<=2^20 then some ((List.range j.toNat).map nD) else none
 |_,_=>none
theorem Am:∀l:List Nat,Cvs mg ρ H (l.map λi:Nat=>V.int (i:Int)) (l.map nD)
 |[]=>.nil
 |n::l=>.cons (.int _) (Am l)
section
variable{X:Cx}{E:XK}{a:Expr}{fa:aj->DM (List D)}{p1 p2 pos1 pos2:Pos}
set_option tactic.hygienic true in
def vR(hc:X.calm=true)(hmL:X.mg "list"=none)(hm:X.mg "range"=none)(ha:DA X E [a] fa)(hgL:Gl X "list":=by rfl)(hg:Gl X "range":=by rfl)(hs:notStar a=true:=by rfl):
  DE X E (.Call (.Name "list" p1) [.Call (.Name "range" p2) [a] [] pos2] [] pos1) (λδ=>fa δ>>=λl=>rd (λM=>(wR l M).map D.lst)):=⟨PE.mono (G8 hc hgL hmL hg hm ha.h.h hs) λσ H Q h=>by
 obtain⟨ρ,δ,M,ev,j,g1⟩:=h;refine⟨ρ,δ,M,ev,j,g1.bind λρ1 H1 M1 xs ds e1 j1 c1 g2=>?_⟩
 obtain⟨d,ed,q⟩:=g2.rd;obtain⟨l,el,rfl⟩:=U4.mp ed;unfold wR at el;split at el
 ·split at el
  ·rename_i hb;cases el;obtain⟨v,rfl,k⟩:=c1.one;cases k;exact⟨_,rfl,hb.2,hb.1,λp hp=>q ρ1 _ _ (.lay hp) (j1.lay _ hp) (.lst (j1.fresh hp) upd_same (Am _))⟩
  ·cases el
 ·cases el⟩
end
section
variable{X:Cx}{E:XK}
def Dm:List D->Mo->Option D
 |[.bl b],_=>some (.int (if b then 1 else 0))
 |_,_=>none
def Fq:CallR X (.type "int") (λxs H Q=>∃ b,xs=[.bl b]/\Q (.int (if b then 1 else 0)) H):=by
 intro Zo s σ H xs us Q I rs h;obtain⟨b,rfl,q⟩:=h;cases rs with
 |cons r rr=>cases rr;cases r;exact call_int_bool ⟨.int (if b then 1 else 0),H,I.tok _,⟨_,rfl⟩,q⟩
def ug:CallD X E (.type "int") (λl=>rd (Dm l)):=CallD.of Fq λvs H Q ρ M ds d j c e q=>by
 unfold Dm at e;split at e
 ·cases e;obtain⟨v,rfl,k⟩:=c.one;cases k;exact⟨_,rfl,q ρ H _ .refl j (.int _)⟩
 ·cases e
end
theorem lE(I:Nat->aj->List D->Mo->Prop):∀ (ds:List D) (i:Nat) (δ:aj) (l:List D) (M:Mo),I i δ l M->
  (∀j d δ l M,ds[j]?=some d->I (i+j) δ l M->Rn (fg d δ>>=λδ1=>ft δ1>>=λb=>if b then fb δ1 l else Pure.pure (δ1,l)) M λp M'=>I (i+j+1) p.1 p.2 M')->Rn (aZ fg ft fb ds δ l) M λp M'=>I (i+ds.length) p.1 p.2 M'
 |[],i,δ,l,M,h,_=>Rn.pure h
 | d::ds,i,δ,l,M,h,st=>by
   have s:=st 0 d δ l M rfl h;have e:aZ fg ft fb (d::ds) δ l=(fg d δ>>=λδ1=>ft δ1>>=λb=>if b then fb δ1 l else Pure.pure (δ1,l))>>=λp=>aZ fg ft fb ds p.1 p.2:=by
    rw[aM];show (fg d δ>>=λδ1=>ft δ1>>=λb=>(if b then fb δ1 l else Pure.pure (δ1,l))>>=λp=>aZ fg ft fb ds p.1 p.2)=_
    congr 1;funext δ1;rw[aM]
   rw[e];refine Rn.bind s λp M' h'=>?_
   have ih:=lE I ds (i+1) p.1 p.2 M' h' (λj d δ l M hj hI=>by
    have:=st (j+1) d δ l M (by simpa using hj) (by rw[show i+(j+1)=i+1+j by lia];exact hI)
    rw[show i+1+j+1=i+(j+1)+1 by lia];exact this)
   rw[show i+(d::ds).length=i+1+ds.length by simp;lia]
   exact ih
def xF(h:Rn m M Q):Rn (dB m) M Q:=by obtain⟨a,M',e,q⟩:=h;exact⟨a,M',by unfold dB;rw[e],q⟩
def yR(hn:n<=1000)(q:Rn (k (.ref M.length)) (M++[.lst ((List.replicate n 0).map nD)]) Q):Rn (Ph (.lst [.int 0]) (nD n)>>=k) M Q:=by
 have e:sY (.lst [.int 0]) (nD n) M=some ((List.replicate n 0).map nD):=by
  show Ea [.int 0] (n:Int)=_;unfold Ea;rw[U5 (Vh ⟨by lia,by lia,by show _<=2^24;simp;lia⟩)]
  congr 1;simp[List.flatten_replicate_singleton,nD]
 show Rn ((rd (sY (.lst [.int 0]) (nD n))>>=eQ)>>=k) M Q;rw[aM];refine Rn.bindRd _ e ?_;exact Rn.eQ (by simp;lia) q
end L3
namespace L3
open PySem PySem.Spec L2
open PyProof.Rows hiding St
def putN(f:Str):List Str->List Str
 |[]=>[f]
 |g::r=>if g=f then g::r else g::putN f r
def jW{α:Type}(f:Str)(v:α):List Str->List α->List α
 |[],_=>[v]
 |g::r,x::xs=>if g=f then v::xs else x::jW f v r xs
 |_::_,[]=>[]
theorem zc(f:Str)(v:V):∀ (ns:List Str) (xs:List V),ns.length=xs.length->putF f v (ns.zip xs)=(putN f ns).zip (jW f v ns xs)
 |[],[],_=>rfl
 |g::r,x::xs,h=>by
   show putF f v ((g,x)::r.zip xs)=_;unfold putF putN jW;by_cases e:g=f
   ·rw[U5 e,U5 e,U5 e];rfl
   ·rw[U8 e,U8 e,U8 e,zc f v r xs (by simpa using h)];rfl
theorem zf{α:Type}(f:Str)(v:α):∀ (ns:List Str) (xs:List α),ns.length=xs.length->(putN f ns).length=(jW f v ns xs).length
 |[],[],_=>rfl
 |g::r,x::xs,h=>by
   unfold putN jW;by_cases e:g=f
   ·rw[U5 e,U5 e];simpa using h
   ·rw[U8 e,U8 e,Wd,Wd,zf f v r xs (by simpa using h)]
theorem Cvs.put{mg:Str->Option Value}{ρ:Rh}{H:Hp}{f:Str}{v:V}{d:D}(c:Cv mg ρ H v d):∀ (ns:List Str) {xs:List V}{ds:List D},Cvs mg ρ H xs ds->Cvs mg ρ H (jW f v ns xs) (jW f d ns ds)
 |[],_,_,_=>.cons c .nil
 |g::r,_,_,.nil=>.nil
 |g::r,_,_,.cons h t=>by
   unfold jW;by_cases e:g=f
   ·rw[U5 e,U5 e];exact .cons c t
   ·rw[U8 e,U8 e];exact .cons h (Cvs.put c r t)
def wX(c f:Str)(o d:D):DM Unit:=λM=>match o with
 |.ref n=>match M[n]? with
   |some (.ins k ns vs)=>if k=c/\ns.length=vs.length/\ns.length<1000 then some (.ok (),M.set n (.ins k (putN f ns) (jW f d ns vs))) else none
   |_=>none
 |_=>none
section
variable{X:Cx}{E:XK}
set_option tactic.hygienic true in
def Ga{K:PySem.W.Frag}{mg:Str->Option Value}{c f:Str}{C:Addr}{fs:List Str}{o value:Expr}{fo fv:aj->DM D}{pos pos':Pos}(O:OCls K mg c C fs)(hf:f∈fs)(ho:DE X E o fo)(hv:DE X E value fv)
  (hs:swapsWith value (some (.Attribute o f pos')) pos.line X.env=pure false:=by rfl) (hK:X.K=K:=by rfl) (hM:X.mg=mg:=by rfl) :
  DS X E (.Assign [.Attribute o f pos'] value pos) (λδ=>fv δ>>=λd=>fo δ>>=λo=>wX c f o d>>=λz=>pure (.nx δ)):=by
 subst hK hM;refine⟨PS.mono (ps_fld ho.h hv.h hs) λD σ H h=>?_⟩
 obtain⟨ρ,δ,M,ev,j,g1⟩:=h;refine⟨ρ,δ,M,ev,j,g1.bind λρ1 H1 M1 y dy e1 j1 c1 g2=>⟨ρ1,δ,M1,ev.mono e1,j1,g2.bind λρ2 H2 M2 x dx e2 j2 c2 g3=>?_⟩⟩
 obtain⟨r,e,p⟩:=g3;have e:DM.bind _ _ M2=some r:=e;unfold DM.bind wX at e;cases dx with
 | ref n=>
   dsimp only at e;cases c2 with | ref hn=>
   rename_i a;cases hm:M2[n]? with
   |none=>rw[hm]at e;cases e
   | some u=>
     rw[hm]at e;cases u with
     |lst l=>cases e
     |dic ks l=>cases e
     | ins k ns vs=>
       dsimp only at e;split at e
       ·cases e
       ·rename_i he;split at he<;>cases he
       ·rename_i he;split at he
        ·rename_i hk;obtain⟨rfl,hl,hz⟩:=hk;cases he;cases e;obtain⟨C',dx',xs,m,hx,l,cs⟩:=j2.obj _ _ _ hn hm;rw[O.at_]at m;cases m;have c1':=c1.mono e2;have x:Ext ρ2 H2 ρ2 (upd H2 a (.ins C dx' (putF f y (ns.zip xs)))):=.upd (Vo hn);refine⟨a,C,dx',_,rfl,hx,O.cls,O.no f hf,?_,?_⟩
         ·rw[List.length_zip];lia
         refine p ρ2 _ σ x (j2.upd hn ?_) (((ev.mono e1).mono e2).mono x);refine⟨C,dx',jW f y ns xs,O.at_,by rw[upd_same,zc f y ns xs l],zf f y ns xs l,?_⟩
         exact (Cvs.put c1' ns cs).mono x
        ·cases he
 |_=>cases e
end
structure MethD(P:Program)(w:World)(K:PySem.W.Frag)(mg:Str->Option Value)(base:Heap)(k:Nat)(c x qual:Str)(st:Stmt)(ps:List Str)(F:List D->DM D):Prop where
 ex:∃C f fd,mg c=some (.ref C)/\FnOk P w K mg base (dN P w) k f fd ps (zH mg F)/\Fun K x qual st f fd/\PySem.W.findIn K (.ref C) x=some (some (.ref f))/\PySem.W.isFn K (.ref f)=true/\L2.Cls K C
structure MethF(P:Program)(w:World)(K:PySem.W.Frag)(mg:Str->Option Value)(base:Heap)(k:Nat)(c x:Str)(ps:List Str)(ds:List D)(F:List D->DM D):Prop where
 ex:∃C f fd vs us,mg c=some (.ref C)/\FnOk P w K mg base (dN P w) k f fd ps (zH mg F)/\PySem.W.keepIn K (.ref f)=true/\PySem.W.findIn K (.ref C) x=some (some (.ref f))/\PySem.W.isFn K (.ref f)=true/\L2.Cls K C /\
  Binds K fd ps us/\Vals vs us/\∀ρ H,Cvs mg ρ H vs ds
structure MethAtF(K:PySem.W.Frag)(C:Addr)(x qual:Str)(st:Stmt)(ps:List Str)(is:List Int):Prop where
 ex:∃f fd us,Fun K x qual st f fd/\PySem.W.findIn K (.ref C) x=some (some (.ref f))/\PySem.W.isFn K (.ref f)=true/\Binds K fd ps us/\Vals (is.map V.int) us
section
variable{P:Program}{w:World}{K:PySem.W.Frag}{mg:Str->Option Value}{base:Heap}{k:Nat}{C:Addr}{c x qual:Str}{N ps:List Str}{st:Stmt}{fb:aj->DM Fl}{f:Addr}{fd:FuncData}{is:List Int}
def Od(F:Fun K x qual st f fd)(S:FnScope N ps (defScope st))
  (hbody:∀(f:Addr) (cdv:Value) (A:Around) (outer:List Env) (s:Shared) (H:Hp) (E:XK),Room k (A.deeper (envOfC qual (defScope st) s.heap.objs.size f cdv))->
    DSs (iJ P w K mg base N qual (defScope st) f cdv A outer s H E) E (defBody st) fb):FnOk P w K mg base (dN P w) (k+1) f fd ps (zH mg (aF ps.length N.length fb)):=by
 refine Tr F S (λvs H Q E h=>?_) λcdv A outer s H vs Q E hr h=>?_
 ·obtain⟨ρ,M,ds,c,j,g⟩:=h;rw[c.len];exact (bj.aF g).1
 obtain⟨ρ,M,ds,c,j,g⟩:=h;exact⟨_,(hbody f cdv A outer s H E hr).h,ρ,_,M,ou c,j,(bj.aF g).2⟩
def MethAt.okD(T:MethAt K C x qual st)(m:mg c=some (.ref C))(cl:L2.Cls K C)(S:FnScope N ps (defScope st))
  (hbody:∀(f:Addr) (cdv:Value) (A:Around) (outer:List Env) (s:Shared) (H:Hp) (E:XK),Room k (A.deeper (envOfC qual (defScope st) s.heap.objs.size f cdv))->
    DSs (iJ P w K mg base N qual (defScope st) f cdv A outer s H E) E (defBody st) fb):MethD P w K mg base (k+1) c x qual st ps (aF ps.length N.length fb):=by
 obtain⟨f,fd,F,a,n⟩:=T.ex;exact⟨C,f,fd,m,Od F S hbody,F,a,n,cl⟩
def NQ{ρ:Rh}{H:Hp}(is:List Int):Cvs mg ρ H (is.map V.int) (is.map D.int):=Cvs.ints is
def MethAtF.okD(T:MethAtF K C x qual st ps is)(m:mg c=some (.ref C))(cl:L2.Cls K C)(S:FnScope N ps (defScope st))
  (hbody:∀(f:Addr) (cdv:Value) (A:Around) (outer:List Env) (s:Shared) (H:Hp) (E:XK),Room k (A.deeper (envOfC qual (defScope st) s.heap.objs.size f cdv))->
    DSs (iJ P w K mg base N qual (defScope st) f cdv A outer s H E) E (defBody st) fb):MethF P w K mg base (k+1) c x ps (is.map D.int) (aF ps.length N.length fb):=by
 obtain⟨f,fd,us,F,a,n,b,v⟩:=T.ex;exact⟨C,f,fd,_,us,m,Od F S hbody,F.kp,a,n,cl,b,v,λρ H=>NQ is⟩
def CP{ds:List Value}(n:Nat)(hn:ps.length=n+ds.length)(h:∀(S:PySem.Setting) (us:List Value),us.length=n->PySem.W.peek K S (bindArgs fd ⟨us,[]⟩)=some (ps.zip (us++ds))):Binds K fd ps ds:=λs us X hl=>
 PySem.W.kp_binds X λS=>h S us (by rw[Vk]at hl;lia)
def JW{i:Int}{t:Tok}:Vals ([i].map V.int) [.int i t]:=.cons ⟨t,rfl⟩ .nil
end
def sI(c m:Str):D->Mo->Option Unit
 |.obj k ns _,_=>if k=c/\ns.contains m=false then some () else none
 |.ref n,M=>match M[n]? with
   |some (.ins k ns _)=>if k=c/\ns.contains m=false then some () else none
   |_=>none
 |_,_=>none
theorem tV{m:Str}{α:Type}:∀ (ns:List Str) (xs:List α),ns.contains m=false->(ns.zip xs).lookup m=none
 |[],_,_=>rfl
 |n::ns,[],_=>rfl
 |n::ns,x::xs,h=>by rw[List.contains_cons,Bool.or_eq_false_iff]at h;rw[W5,W4,h.1];exact tV ns xs h.2
set_option tactic.hygienic true in
def Bj{mg:Str->Option Value}{ρ:Rh}{H:Hp}{M:Mo}{c m:Str}{C:Addr}{v:V}{d:D}{u:Unit}(mc:mg c=some (.ref C))(j:J mg ρ M H)(cv:Cv mg ρ H v d)(e:sI c m d M=some u):∃ a dx fs,v=.ref a/\H a=some (.ins C dx fs)/\fs.lookup m=none:=by
 unfold sI at e;split at e
 ·split at e
  ·rename_i hk;obtain⟨rfl,hn⟩:=hk;cases cv with
   |obj n m' h l cs=>rw[mc]at m';cases m';exact⟨_,_,_,rfl,h,tV _ _ hn⟩
  ·cases e
 ·split at e
  ·rename_i hm;split at e
   ·rename_i hk;obtain⟨rfl,hn⟩:=hk;cases cv with
    |ref h=>obtain⟨C',dx',xs,m',hx,l,cs⟩:=j.obj _ _ _ h hm;rw[mc]at m';cases m';exact⟨_,_,_,rfl,hx,tV _ _ hn⟩
   ·cases e
  ·cases e
 ·cases e
section
variable{X:Cx}{E:XK}{j k:Nat}{ps:List Str}{F:List D->DM D}{c m x qual:Str}{st:Stmt}{p pos apos kpos:Pos}{a e o:Expr}{es:List Expr}{fa fo:aj->DM D}{fs fk:aj->DM (List D)}{kws:List Keyword}{nm:Option Str}{ks:List Str}
def T4{pl:Sem Bool}(T:MethD X.prog X.w X.K X.mg X.base j c m qual st ps F)(hr:Room k X.A)(hx:Passes (dN X.prog X.w) X E)(ho:DE X E o fo)(ha:DA X E (e::es) fs)
  (hb:∀(kV doc pm:Value) (an:Option Addr) (cdv ct:Value) (us:List Value),us.length=ps.length->bindArgs (PySem.W.fnOf m qual (defArgs st) (defBody st) (defScope st) .none kV doc pm an cdv ct) ⟨us,[]⟩=pure (ps.zip us))
  (hjk:j<=k:=by decide) (he:notStar e=true:=by rfl) (hpl:(backTo pos (starEach es X.env)).any (·.1)=false:=by rfl)
  (ht:eval (.Call (.Attribute o m apos) (e::es) [] pos) X.env=(do
    let ov <-eval o X.env
    standAt apos.atName
    let (f,first) <-holding [ov] (getMethod ov m pl)
    callWith pos f first (backTo pos (starEach (e::es) X.env)) (backToKw pos (keywordEach [] X.env))):=by rfl) :
  DE X E (.Call (.Attribute o m apos) (e::es) [] pos) (λδ=>fo δ>>=λx=>rd (sI c m x)>>=λz=>fs δ>>=λds=>F (x::ds)):=by
 obtain⟨C,f,fd,mc,G,B,a,n,cl⟩:=T.ex;refine⟨PE.mono (pe_meth (pl:=pl) ho.h cl ⟨a,n,B.kp⟩ G (hr.mono hjk) (B.binds hb) .nil hx ha.h.h (bu he) hpl ht) λσ H Q h=>?_⟩
 obtain⟨ρ,δ,M,ev,j,g1⟩:=h;refine⟨ρ,δ,M,ev,j,g1.bind λρ1 H1 M1 x dx e1 j1 c1 g2=>?_⟩
 obtain⟨u,eu,g3⟩:=Go.rdb g2;obtain⟨a',dx',fs',ex,hx',hl'⟩:=Bj mc j1 c1 eu;refine⟨a',dx',fs',ex,hx',hl',ρ1,δ,M1,ev.mono e1,j1,g3.bind λρ2 H2 M2 xs dxs e2 j2 c2 g4=>?_⟩
 rw[W7];exact⟨ρ2,M2,dx::dxs,.cons (c1.mono e2) c2,j2,g4⟩
def Jb{pl:Sem Bool}{ds:List D}(T:MethF X.prog X.w X.K X.mg X.base j c m ps ds F)(hr:Room k X.A)(hx:Passes (dN X.prog X.w) X E)(ho:DE X E o fo)(ha:DA X E (e::es) fs)
  (hjk:j<=k:=by decide) (he:notStar e=true:=by rfl) (hpl:(backTo pos (starEach es X.env)).any (·.1)=false:=by rfl)
  (ht:eval (.Call (.Attribute o m apos) (e::es) [] pos) X.env=(do
    let ov <-eval o X.env
    standAt apos.atName
    let (f,first) <-holding [ov] (getMethod ov m pl)
    callWith pos f first (backTo pos (starEach (e::es) X.env)) (backToKw pos (keywordEach [] X.env))):=by rfl) :
  DE X E (.Call (.Attribute o m apos) (e::es) [] pos) (λδ=>fo δ>>=λx=>rd (sI c m x)>>=λz=>fs δ>>=λl=>F (x::(l++ds))):=by
 obtain⟨C,f,fd,vs,us,mc,G,kp,a,n,cl,b,v,cd⟩:=T.ex;refine⟨PE.mono (pe_meth (pl:=pl) ho.h cl ⟨a,n,kp⟩ G (hr.mono hjk) b v hx ha.h.h (bu he) hpl ht) λσ H Q h=>?_⟩
 obtain⟨ρ,δ,M,ev,j,g1⟩:=h;refine⟨ρ,δ,M,ev,j,g1.bind λρ1 H1 M1 x dx e1 j1 c1 g2=>?_⟩
 obtain⟨u,eu,g3⟩:=Go.rdb g2;obtain⟨a',dx',fs',ex,hx',hl'⟩:=Bj mc j1 c1 eu;refine⟨a',dx',fs',ex,hx',hl',ρ1,δ,M1,ev.mono e1,j1,g3.bind λρ2 H2 M2 xs dxs e2 j2 c2 g4=>?_⟩
 exact⟨ρ2,M2,dx::(dxs++ds),.cons (c1.mono e2) (c2.append (cd _ _)),j2,g4⟩
end
structure ClsD(P:Program)(w:World)(K:PySem.W.Frag)(mg:Str->Option Value)(base:Heap)(k:Nat)(c:Str)(F:List D->DM D):Prop where
 ex:∃C ps sp,MethC P w K mg base k C "__init__" ps sp/\PySem.W.makesIn K C=true/\PySem.W.keepIn K (.ref C)=true/\mg c=some (.ref C) /\
  ∀ρ M H vs ds Q E,Cvs mg ρ H vs ds->J mg ρ M H->Go mg E (Cv mg) Q ρ H (F ds) M->∀x dx,H x=none->H dx=none->dx≠x->sp (.ref x::vs) (upd (upd H dx (.own x)) x (.ins C dx [])) (λv H2=>v=.non/\Q (.ref x) H2) E
def Aw{X:Cx}{E:XK}{j k:Nat}{c:Str}{F:List D->DM D}{p pos:Pos}{e:Expr}{es:List Expr}{fs:aj->DM (List D)}(T:ClsD X.prog X.w X.K X.mg X.base j c F)(hr:Room k X.A)(hx:Passes (dN X.prog X.w) X E)(ha:DA X E (e::es) fs)(hjk:j+1<=k:=by decide)(hg:Gl X c:=by rfl)(hdb:(c==("__debug__":Str))=false:=by decide)
  (he:notStar e=true:=by rfl) (hpl:(backTo pos (starEach es X.env)).any (·.1)=false:=by rfl) :
  DE X E (.Call (.Name c p) (e::es) [] pos) (λδ=>fs δ>>=F):=by
 obtain⟨C,ps,sp,G,mk,kc,m,h⟩:=T.ex;refine⟨PE.mono (JH G mk kc m hr hx ha.h hjk hg hdb he hpl) λσ H Q z=>?_⟩
 obtain⟨ρ,δ,M,ev,j,g1⟩:=z;refine⟨ρ,δ,M,ev,j,g1.bind λρ1 H1 M1 xs dxs e1 j1 c1 g2=>λx dx h1 h2 h3=>?_⟩
 rw[W7];exact h ρ1 M1 H1 xs dxs Q E c1 j1 g2 x dx h1 h2 h3
section
variable{mg:Str->Option Value}{ρ:Rh}{H:Hp}{k:Nat}{M':Mo}
def Cvs.fz(hk:ρ.st.length=k){vs:List V}{ds:List D}(h:Cvs mg ρ H vs ds):Fzs M' k ds ds:=
 Cvs.rec (motive_1:=λz d z=>Fz M' k d d) (motive_2:=λz ds z=>Fzs M' k ds ds) .non .bl .int .str (λz z z=>.tup) (λz z z=>.lst) (λz z z z=>.dic) (λz z z z z=>.obj) (λz z=>.scr _) (λh=>.old (hk ▸ (UW.mp h).1)) (λz=>.cls _) .ty .exn .nil (λz z=>.cons) h
theorem Cv.fz(hk:ρ.st.length=k){v:V}{d:D}(h:Cv mg ρ H v d):Fz M' k d d:=by cases Cvs.fz hk (.cons h .nil);assumption
def Cvs.fz_mem{k:Nat}(hk:ρ.st.length=k){vs:List V}{ds:List D}(h:Cvs mg ρ H vs ds):∀d∈ds,Fz M' k d d:=h.ind (P:=λz ds=>∀d∈ds,Fz M' k d d) nofun λa z i d h=>(Vf.mp h).elim (λe=>e ▸ a.fz hk) (i d)
theorem Gj{M':Mo}{k:Nat}:∀{ds:List D},(∀d∈ds,Fz M' k d d)->Fzs M' k ds ds
 |[],_=>.nil
 |d::ds,h=>.cons (h d (by simp)) (Gj λe he=>h e (by simp[he]))
theorem J.fz{M:Mo}{o:DO}(j:J mg ρ M H):Sx (M++[o]) M.length M:=by
 refine⟨rfl,λn u h=>?_⟩
 have hn:=(UW.mp h).1;refine⟨u,by rw[Vb hn];exact h,?_⟩
 have hl:n<ρ.st.length:=by rw[j.len];exact hn
 have c:=j.obj n ρ.st[n] u (U3 hl) h;cases u with
 |lst l=>obtain⟨xs,_,c⟩:=c;exact c.fz j.len
 |dic ks l=>obtain⟨xs,_,_,c⟩:=c;exact⟨rfl,c.fz j.len⟩
 |ins cc ns l=>obtain⟨C,dx,xs,_,_,_,c⟩:=c;exact⟨rfl,rfl,c.fz j.len⟩
end
def Nt(c:Str)(Fi:List D->DM D)(ds:List D)(M:Mo)(r':R D×Mo):Prop:=
 (∃ns vs,Fi (.ref M.length::ds) (M++[.ins c [] []])=some (.ok .non,M++[.ins c ns vs])/\(∀d∈vs,d∈ds\/∃i,d=.int i)/\r'=(.ok (.obj c ns vs),M)) \/
 (∃e o,Fi (.ref M.length::ds) (M++[.ins c [] []])=some (.exc e,M++[o])/\r'=(.exc e,M))
def Tp{P:Program}{w:World}{K:PySem.W.Frag}{mg:Str->Option Value}{base:Heap}{k:Nat}{c qual:Str}{st:Stmt}{ps:List Str}{Fi F':List D->DM D}(T:MethD P w K mg base k c "__init__" qual st ps Fi)
  (hb:∀(kV doc pm:Value) (an:Option Addr) (cdv ct:Value) (us:List Value),us.length=ps.length->bindArgs (PySem.W.fnOf "__init__" qual (defArgs st) (defBody st) (defScope st) .none kV doc pm an cdv ct) ⟨us,[]⟩=pure (ps.zip us))
  (hm:∀C,mg c=some (.ref C)->PySem.W.makesIn K C=true/\PySem.W.keepIn K (.ref C)=true) (hf:∀ds M r',F' ds M=some r'->Nt c Fi ds M r'):ClsD P w K mg base k c F':=by
 obtain⟨C,f,fd,mc,G,B,a,n,cl⟩:=T.ex;refine⟨C,ps,_,⟨f,fd,G,B.binds hb,B.kp,a,n⟩,(hm C mc).1,(hm C mc).2,mc,λρ M H vs ds Q E cv j g x dx hx hdx hne=>?_⟩
 obtain⟨r',e,p⟩:=g;have hx':upd H dx (.own x) x=none:=by rw[upd_ne (λz=>hne z.symm)];exact hx
 have x1:Ext ρ H ρ (upd H dx (.own x)):=.lay hdx;have j1:=j.lay (.own x) hdx;have x2:Ext ρ (upd H dx (.own x)) (ρ.put x) (upd (upd H dx (.own x)) x (.ins C dx [])):=.put hx';have j2:J mg (ρ.put x) (M++[.ins c [] []]) (upd (upd H dx (.own x)) x (.ins C dx [])):=j1.put hx' ⟨C,dx,[],mc,upd_same,rfl,.nil⟩;have hput:(ρ.put x).st[M.length]?=some x:=by show (ρ.st++[x])[M.length]?=some x;rw[<-j.len,VL (U0 _)];simp
 refine⟨ρ.put x,M++[.ins c [] []],.ref M.length::ds,.cons (.ref hput) (cv.mono (x1.trans x2)),j2,?_⟩;have sb:∀{ρ2 H2},Ext (ρ.put x) (upd (upd H dx (.own x)) x (.ins C dx [])) ρ2 H2->Sub ρ ρ2 M.length:=λ{ρ2 H2} y=>by obtain⟨τ,ht⟩:=y.pre;exact⟨⟨[x]++τ,by rw[ht];show (ρ.st++[x])++τ=_;simp⟩,y.vo,j.len⟩
 have ex:∀{ρ2 H2},Ext (ρ.put x) (upd (upd H dx (.own x)) x (.ins C dx [])) ρ2 H2->Ext ρ H ρ H2:=λ{ρ2 H2} y=>⟨⟨[],by simp⟩,rfl,λa h n=>absurd h n,λb o hb hn=>y.keep b o (by
  have nx:b≠x:=ne_of_none hb hx;have ndx:b≠dx:=ne_of_none hb hdx;rw[upd_ne nx,upd_ne ndx];exact hb) (λz=>by
  rcases Vd.mp z with z | z
  ·exact hn z
  ·exact ne_of_none hb hx (Vj.mp z))⟩
 rcases hf ds M r' e with ⟨ns,vs',e2,hv,rfl⟩ | ⟨er,o,e2,rfl⟩
 ·refine⟨_,e2,λρ2 H2 b y j3 cb=>?_⟩
  cases cb;refine⟨rfl,p ρ H2 (.ref x) (ex y) (j3.freeze (sb y) j.len j.fz) ?_⟩;have h3:ρ2.st[M.length]?=some x:=y.at hput;obtain⟨C',dx',xs,m',hx3,l,cs⟩:=j3.obj M.length x (.ins c ns vs') h3 (by simp)
  refine .obj (j.fresh hx) m' hx3 l (Cvs.freeze (sb y) j3 (Gj λd hd=>?_) cs)
  rcases hv d hd with h | ⟨i,rfl⟩
  ·exact cv.fz_mem j.len d h
  ·exact .int i
 ·refine⟨_,e2,λρ2 H2 C2 y j3 m2=>?_⟩
  exact p ρ H2 C2 (ex y) (j3.freeze (sb y) j.len j.fz) m2
end L3
namespace L3
open PySem PySem.Spec L2
theorem wu:∀ {l:List D}{ns:List Int},intsOf l=some ns->l=ns.map D.int
 |[],ns,e=>by cases e;rfl
 | d::l,ns,e=>by
   cases d with
   |int i=>simp only[intsOf,Option.map_eq_some_iff]at e;obtain⟨ms,h,rfl⟩:=e;rw[wu h];rfl
   |_=>simp[intsOf]at e
theorem xV:∀ {ns:List Int}{xs:List V},Cvs mg ρ H xs (ns.map D.int)->xs=ns.map V.int
 |[],_,.nil=>rfl
 |n::ns,_,.cons a t=>by cases a;rw[xV t];rfl
def sU(h:l.length=1):∃a,l=[a]:=match l,h with | [a],_=>⟨a,rfl⟩
def O5(h:l.length=2):∃a b,l=[a,b]:=match l,h with | [a,b],_=>⟨a,b,rfl⟩
def O6(h:l.length=3):∃a b c,l=[a,b,c]:=match l,h with | [a,b,c],_=>⟨a,b,c,rfl⟩
def O7(h:l.length=4):∃a b c d,l=[a,b,c,d]:=match l,h with | [a,b,c,d],_=>⟨a,b,c,d,rfl⟩
def Dc:D->DM D
 |.int n=>if 0<=n/\n<2^63 then pure (.int n) else stuck
 |_=>stuck
def yK(c:Str)(F:List D->DM D):List D->DM D
 |[.obj k ns vs]=>if k=c then F [.obj k ns vs]>>=Dc else stuck
 |l=>rd (gj l)
set_option tactic.hygienic true in
def iI(T:MethD X.prog X.w X.K X.mg X.base j c "__len__" qual st ps F)(hr:Room k X.A)(hx:Passes (dN X.prog X.w) X E)
  (hb:∀(kV doc pm:Value) (an:Option Addr) (cdv ct:Value) (us:List Value),us.length=ps.length->bindArgs (PySem.W.fnOf "__len__" qual (defArgs st) (defBody st) (defScope st) .none kV doc pm an cdv ct) ⟨us,[]⟩=pure (ps.zip us))
  (hjk:j+1<=k:=by decide):CallD X E (.builtin "len") (yK c F):=by
 obtain⟨C,f,fd,mc,G,B,a,n,cl⟩:=T.ex;have MC:MethC X.prog X.w X.K X.mg X.base j C "__len__" ps (zH X.mg F):=⟨f,fd,G,B.binds hb,B.kp,a,n⟩;intro Zo s σ H vs us Q I rs q;obtain⟨ρ,M,ds,j,cv,go⟩:=q;unfold yK at go;split at go
 ·rename_i k' ns ws;split at go
  ·rename_i hk;subst hk;obtain⟨v,rfl,kv⟩:=cv.one;cases kv with
   | obj hn m hh hl cs=>
     rw[mc]at m;cases m;refine Ft MC (hr.mono hjk) hx Zo s σ H _ us Q I rs ⟨_,_,_,rfl,hh,ρ,M,_,cv,j,go.bind λρ1 H1 M1 b d e1 j1 c1 g2=>?_⟩
     unfold Dc at g2;split at g2
     ·split at g2
      ·rename_i hn2;cases c1;exact⟨_,rfl,hn2,g2.pure ρ1 H1 _ .refl j1 (.int _)⟩
      ·obtain⟨r,e,_⟩:=g2;cases e
     ·obtain⟨r,e,_⟩:=g2;cases e
  ·obtain⟨r,e,_⟩:=go;cases e
 ·exact call_lenD Zo s σ H vs us Q I rs ⟨ρ,M,_,j,cv,go⟩
end L3
namespace L2
open PySem PySem.Spec PyProof.Rows
end L2
namespace L3
open PySem PySem.Spec L2
end L3
namespace L2
open PySem PySem.Spec PyProof.Rows
def Sg(i j k:Nat)(ta:TA):TS:=λD σ H=>ta σ H λvs H1=>∃v w z,vs=[v,w,z]/\D.nx (((σ.set i (some v)).set j (some w)).set k (some z)) H1
def Mp{kt k2 pt2}(hc:X.calm=true)(hN:X.N.Nodup)(hi:X.N[i]?=some x)(hj:X.N[j]?=some y)(hk:X.N[k]?=some z)(hij:i≠j)(hik:i≠k)(hjk:j≠k)
  (hx:X.env.scope.names.lookup x=some .local) (hy:X.env.scope.names.lookup y=some .local) (hz:X.env.scope.names.lookup z=some .local) (ha:PA X [a,b,c] ta)
  (hw:swappedStores [.Tuple [.Name x px,.Name y py,.Name z pz] kt pt] (.Tuple [a,b,c] k2 pt2) X.env=pure (some [x,y,z]))
  (hs:swapsWithSole [.Tuple [.Name x px,.Name y py,.Name z pz] kt pt] (.Tuple [a,b,c] k2 pt2) pos.line X.env=pure false:=by rfl) :
  PS X (.Assign [.Tuple [.Name x px,.Name y py,.Name z pz] kt pt] (.Tuple [a,b,c] k2 pt2) pos) (Sg i j k ta):=by
 intro Zo s σ H D I h;rw[exec_Assign_arm];refine UL (Xb ?_);rw[hs];refine UL (UV ?_);rw[U8 (by decide)]
 refine UL (Tuple_ (thn (ha _ Zo s σ H _ I h) λus s1 ⟨vs,H1,I1,r1,q1⟩=>?_))
 obtain⟨v,w,w3,e1,q1⟩:=q1;subst e1;obtain ⟨u1,u2,u3,rfl,rv,rw',rz⟩:∃ u1 u2 u3,us=[u1,u2,u3]/\RelV v u1/\RelV w u2/\RelV w3 u3:=by
  cases r1 with
  | cons p q=>
    cases q with
    | cons p' q'=>
      cases q' with
      |cons p2 q2=>cases q2;exact⟨_,_,_,rfl,p,p',p2⟩
 refine Vr ?_ (by show 3<=sizeLine;decide)
 have I2:Inv X Zo σ H1 { s1 with heap:=s1.heap.push { cls:=.type "tuple",data:=.seq [u1,u2,u3].toArray } }:=I1.kept (t':=s1.toks) λb o e=>UT _ e
 rw[hw];refine UL (UV ?_);show wpAny (model X.prog X.w) X.A (do rule "assign.swapped-stores";let items <-unpackItems (.ref s1.heap.objs.size) 3 none;assignInOrder [λv=>bindName X.env z v,λv=>bindName X.env y v,λv=>bindName X.env x v] items.reverse;pure Flow.next) _ _ _
 refine UL (Xg (UL (unpackItems_tuple (items:=#[u1,u2,u3]) (I.ok.hd hc) (Yn s1.heap _) λh' hx'=>?_)))
 have I3:=I2.kept (h':=h') (t':=s1.toks) λb o e=>hx' b o (Vi (U7 e)) e
 show wpAny _ _ (assignInOrder [λv=>bindName X.env z v,λv=>bindName X.env y v,λv=>bindName X.env x v] [u3,u2,u1]>>=λu=>pure Flow.next) _ _ _
 refine UL (Xi (Yy (store_ok I3 hN hk (.inl hz) rz (λs2 I4=>?_) (.inr hz))))
 refine Xi (Yy (store_ok I4 hN hj (.inl hy) rw' (λs3 I5=>?_) (.inr hy)))
 refine Xi (Yy (store_ok I5 hN hi (.inl hx) rv (λs4 I6=>assignInOrder_nil (UV ?_)) (.inr hx)))
 have e:((σ.set k (some w3)).set j (some w)).set i (some v)=((σ.set i (some v)).set j (some w)).set k (some w3):=by rw[List.set_comm _ _ (Ne.symm hjk),List.set_comm _ _ (Ne.symm hik),List.set_comm _ _ (Ne.symm hij)]
 rw[e]at I6;exact⟨_,H1,I6,q1⟩
end L2
namespace L3
open PySem PySem.Spec L2
def Ke(i j k:Nat)(fa:aj->DM (List D)):aj->DM Fl:=λδ=>fa δ>>=λl=>match l with
 |[v,w,z]=>pure (.nx (((δ.set i (some v)).set j (some w)).set k (some z)))
 |_=>stuck
@[simp] theorem Um(i j k:Nat)(fa:aj->DM (List D))(δ:aj):Ke i j k fa δ=fa δ>>=λl=>match l with
 |[v,w,z]=>Pure.pure (.nx (((δ.set i (some v)).set j (some w)).set k (some z)))
 |_=>stuck:=id rfl
def K7{kt k2 pt2}(hc:X.calm=true)(hN:X.N.Nodup)(hi:X.N[i]?=some x)(hj:X.N[j]?=some y)(hk:X.N[k]?=some z)(hij:i≠j)(hik:i≠k)(hjk:j≠k)
  (hx:X.env.scope.names.lookup x=some .local) (hy:X.env.scope.names.lookup y=some .local) (hz:X.env.scope.names.lookup z=some .local) (ha:DA X E [a,b,c] fa)
  (hw:swappedStores [.Tuple [.Name x px,.Name y py,.Name z pz] kt pt] (.Tuple [a,b,c] k2 pt2) X.env=pure (some [x,y,z]))
  (hs:swapsWithSole [.Tuple [.Name x px,.Name y py,.Name z pz] kt pt] (.Tuple [a,b,c] k2 pt2) pos.line X.env=pure false:=by rfl) :
  DS X E (.Assign [.Tuple [.Name x px,.Name y py,.Name z pz] kt pt] (.Tuple [a,b,c] k2 pt2) pos) (Ke i j k fa):=⟨PS.mono (Mp hc hN hi hj hk hij hik hjk hx hy hz ha.h.h hw hs) λD σ H h=>by
 obtain⟨ρ,δ,M,ev,j,g1⟩:=h;refine⟨ρ,δ,M,ev,j,bj.bind g1 λρ1 H1 M1 v d e1 j1 c1 g2=>?_⟩
 cases c1 with
 |nil=>obtain⟨r,e,_⟩:=g2;cases e
 | cons c1 c2=>cases c2 with
   |nil=>obtain⟨r,e,_⟩:=g2;cases e
   | cons c2 c3=>cases c3 with
     |nil=>obtain⟨r,e,_⟩:=g2;cases e
     |cons c3 c4=>cases c4 with
       |nil=>exact⟨_,_,_,rfl,bj.pure (a:=.nx _) g2 ρ1 H1 _ .refl j1 ((((ev.mono e1).set c1).set c2).set c3)⟩
       |cons _ _=>obtain⟨r,e,_⟩:=g2;cases e⟩
end L3
namespace N10
def pl(a b:Nat):Nat×Nat:=(a / Nat.gcd a b,b / Nat.gcd a b)
def lU(l:List Nat):Nat:=l.foldl Nat.gcd 0
theorem vY:∀ (ms:List Nat) (g:Nat),ms.foldl Nat.gcd g ∣ g/\∀ m∈ms,ms.foldl Nat.gcd g ∣ m
 |[],g=>⟨Nat.dvd_refl _,by simp⟩
 |m::ms,g=>by
   have:=vY ms (Nat.gcd g m);rw[Y9];refine⟨Nat.dvd_trans this.1 (Nat.gcd_dvd_left _ _),λx hx=>?_⟩
   rcases Vf.mp hx with rfl | hx
   ·exact Nat.dvd_trans this.1 (Nat.gcd_dvd_right _ _)
   ·exact this.2 x hx
def yz(h:m∈ms):lU ms ∣ m:=(vY ms 0).2 m h
def Jm(h:0<ms.sum):0<lU ms:=by
 rcases Yu (lU ms) with e | e
 ·have:∀m∈ms,m=0:=λm hm=>by have:=yz hm;rw[e]at this;exact Nat.eq_zero_of_zero_dvd this
  have:ms.sum=0:=by
   clear h e;induction ms with
   |nil=>rfl
   |cons a l ih=>rw[Xc,this a (by simp),ih λm hm=>this m (by simp[hm])]
  lia
 ·exact e
def lst(l:List Nat):List Nat:=l.map (·/ lU l)
def S:Nat->(Nat->Nat)->Nat
 |0,_=>0
 |n+1,f=>S n f+f n
theorem pF(f:Nat->Nat):∀ n:Nat,((List.range n).map f).sum=S n f
 |0=>rfl
 |n+1=>by
   rw[List.range_succ,XC,List.sum_append,pF f n];show S n f+(f n+0)=S n f+f n
   lia
structure G where
 A:Nat->Nat->Nat
 L:Nat->Nat
 W:Nat->Nat
end N10
namespace L3
open PySem PySem.Spec L2
def nM(R:List (List Nat)):D:=.tup (R.map nT)
def ga(l:List Nat)(i:Nat):Nat:=l.getD i 0
def gr(R:List (List Nat))(i:Nat):List Nat:=R.getD i []
def m9(h:i<l.length):ga l i∈l:=by unfold ga;rw[V4,U3 h];exact V5 _
def gr_mem{R:List (List Nat)}{i:Nat}(h:i<R.length):gr R i∈R:=by unfold gr;rw[V4,U3 h];exact V5 _
def Oh(h:l.length<=i):ga l i=0:=by unfold ga;rw[V4,Wa h];rfl
def fZ(h:i<l.length):ga l i=l[i]:=by unfold ga;rw[V4,U3 h];rfl
def lC{R:List (List Nat)}{i:Nat}(h:i<R.length):gr R i=R[i]:=by unfold gr;rw[V4,U3 h];rfl
def Pj(h:nD a=nD b):a=b:=by
 have:=D.int.inj h
 lia
def Pr(h:nT a=nT b):a=b:=(List.map_inj_right λz z=>Pj).mp (D.tup.inj h)
def Pn(h:nM a=nM b):a=b:=(List.map_inj_right λz z=>Pr).mp (D.tup.inj h)
theorem Gu{α:Type}{ft:aj->DM Bool}{fe:aj->DM D}{rest:aj}(enc:α->D)(p:α->Bool)(e:α->D):∀ (as:List α) (x:Option D) (l:List D),l.length + as.length<=1000000->(∀ a∈as,ft (some (enc a)::rest)=Pure.pure (p a))->(∀ a∈as,p a=true->fe (some (enc a)::rest)=Pure.pure (e a))->
  aZ (gN 0) ft (bV fe) (as.map enc) (x::rest) l=Pure.pure (jD x (as.map enc)::rest,l++(as.filter p).map e)
 |[],x,l,_,_,_=>by simp[aZ,jD]
 | d::ds,x,l,hl,h1,h2=>by
   have b:=h1 d (Vm ..);have hl':l.length+(ds.length+1)<=1000000:=by simpa using hl
   have lt:l.length<sizeLine:=by show l.length<2^24;lia
   have ih:=λl' hl'=>Gu (rest:=rest) enc p e ds (some (enc d)) l' hl' (λx hx=>h1 x (Vq _ hx)) (λx hx=>h2 x (Vq _ hx))
   by_cases hp:p d=true
   ·have c:=h2 d (Vm ..) hp;have q:=ih (l++[e d]) (by simp;lia)
    simp[aZ,b,hp,bV,c,lt,q,jD]
   ·have q:=ih l (by lia)
    simp[aZ,b,hp,q,jD]
def aU{α:Type}{ft:aj->DM Bool}{fe:aj->DM D}{x:Option D}{rest:aj}{as:List α}(enc:α->D)(p:α->Bool)(e:α->D)(hl:as.length<=1000000)(h1:∀a∈as,ft (some (enc a)::rest)=Pure.pure (p a))(h2:∀a∈as,p a=true->fe (some (enc a)::rest)=Pure.pure (e a)):
  dB (aZ (gN 0) ft (bV fe) (as.map enc) (x::rest) [])=Pure.pure (jD x (as.map enc)::rest,(as.filter p).map e):=by
 rw[Gu enc p e as x [] (by simpa using hl) h1 h2];simp
def cI{α:Type}{fe:aj->DM D}{x:Option D}{rest:aj}{as:List α}(enc:α->D)(e:α->D)(hl:as.length<=1000000)(h2:∀a∈as,fe (some (enc a)::rest)=Pure.pure (e a)):
  dB (aZ (gN 0) (λz=>Pure.pure true) (bV fe) (as.map enc) (x::rest) [])=Pure.pure (jD x (as.map enc)::rest,as.map e):=by
 rw[aU enc (λz=>true) e hl (λz z=>rfl) λa ha z=>h2 a ha,Xw.mpr (λz z=>rfl)]
theorem Gv{α β:Type}{fe:aj->DM D}{rest:aj}(enc:α->D)(enc':β->D)(e:α->β->D):∀ (as:List α) (bs:List β) (x y:Option D) (l:List D),l.length + as.length<=1000000->(∀ a∈as,∀ b∈bs,fe (some (enc a)::some (enc' b)::rest)=Pure.pure (e a b))->
  aZ (gT 2 (fu (gN 0) (fu (gN 1) qM))) (λz=>Pure.pure true) (bV fe) (pairs (as.map enc) (bs.map enc')) (x::y::rest) l=Pure.pure (qO x y (as.map enc) (bs.map enc')++rest,l++List.zipWith e as bs)
 |[],bs,x,y,l,_,_=>by simp[aZ,qO,pairs]
 |a::as,[],x,y,l,_,_=>by simp[aZ,qO,pairs]
 |a::as,b::bs,x,y,l,hl,h=>by
   have c:=h a (by simp) b (by simp)
   have hl':l.length+(as.length+1)<=1000000:=by simpa using hl
   have lt:l.length<sizeLine:=by show l.length<2^24;lia
   have ih:=Gv (rest:=rest) enc enc' e as bs (some (enc a)) (some (enc' b)) (l++[e a b]) (by simp;lia) (λa ha b hb=>h a (by simp[ha]) b (by simp[hb]))
   simp[aZ,pairs,bV,c,lt,ih,qO]
def NP{α β:Type}{fe:aj->DM D}{x y:Option D}{rest:aj}{as:List α}{bs:List β}(enc:α->D)(enc':β->D)(e:α->β->D)(hl:as.length<=1000000)(h:∀a∈as,∀b∈bs,fe (some (enc a)::some (enc' b)::rest)=Pure.pure (e a b)):
  dB (aZ (gT 2 (fu (gN 0) (fu (gN 1) qM))) (λz=>Pure.pure true) (bV fe) (pairs (as.map enc) (bs.map enc')) (x::y::rest) [])=Pure.pure (qO x y (as.map enc) (bs.map enc')++rest,List.zipWith e as bs):=by
 rw[Gv enc enc' e as bs x y [] (by simpa using hl) h];simp
def uH(h0:0<b)(h:b<2^1000):(rd (lB (nD a) (nD b)):DM D)=Pure.pure (nD (a / b)):=by unfold nD;rw[Hg (Az (by lia) (by simpa using h)),Int.natCast_ediv]
def nQ(h:b<2^64):(rd (pU (nD a) (nD b)):DM D)=Pure.pure (nD (a*b)):=by unfold nD;rw[DQ (Lw (by simpa using h)),Int.natCast_mul]
def jX(a b:Nat):(rd (bY (nD a) (nD b)):DM D)=Pure.pure (nD (a+b)):=by unfold nD;rw[Rv,Int.natCast_add]
def nP(a:Nat):(rd (bY (nD a) (.int 1)):DM D)=Pure.pure (nD (a+1)):=jX a 1
def Qh(a:Nat):(rd (bY (.int 1) (nD a)):DM D)=Pure.pure (nD (a+1)):=by rw[Nat.add_comm];exact jX 1 a
def Qt(h:b<=a):(rd (Ek (nD a) (nD b)):DM D)=Pure.pure (nD (a-b)):=by
 unfold nD;rw[DR];have:(a:Int)-(b:Int)=((a-b:Nat):Int):=by lia
 rw[this]
def bM(a b:Nat):(rd (cg (nD a) (nD b)):DM D)=Pure.pure (.bl (decide (a=b))):=by
 unfold nD;rw[Kh];have:decide ((a:Int)=(b:Int))=decide (a=b):=by rw[Vu,V7,V7];lia
 rw[this]
def nR(a b:Nat):(rd (iT (nD a) (nD b)):DM D)=Pure.pure (.bl (!decide (a=b))):=by
 unfold nD;rw[Rz];have:decide ((a:Int)=(b:Int))=decide (a=b):=by rw[Vu,V7,V7];lia
 rw[this]
def Ho(a b:Nat):(rd (Bp (nD a) (nD b)):DM D)=Pure.pure (.bl (decide (a<b))):=by
 unfold nD;rw[Qp];have:decide ((a:Int)<(b:Int))=decide (a<b):=by rw[Vu];simp
 rw[this]
def pZ(a b:Nat):(rd (ww (nD a) (nD b)):DM D)=Pure.pure (.bl (decide (a<=b))):=by
 unfold nD;rw[TJ];have:decide ((a:Int)<=(b:Int))=decide (a<=b):=by rw[Vu];simp
 rw[this]
def Hj(a b:Nat):(rd (Bh (nD a) (nD b)):DM D)=Pure.pure (.bl (decide (b<a))):=by
 unfold nD;rw[TF];have:decide ((b:Int)<(a:Int))=decide (b<a):=by rw[Vu];simp
 rw[this]
def Hh(a b:Nat):(rd (yD (nD a) (nD b)):DM D)=Pure.pure (.bl (decide (b<=a))):=by
 unfold nD;rw[Ql];have:decide ((b:Int)<=(a:Int))=decide (b<=a):=by rw[Vu];simp
 rw[this]
def ig(h:0<b):(rd (lX (nD a) (nD b)):DM D)=Pure.pure (nD (a%b)):=Hq h
def Hn(l:List Nat):(rd (gj [nT l]):DM D)=Pure.pure (nD l.length):=by simp[nT,nD]
def dI(R:List (List Nat)):(rd (gj [nM R]):DM D)=Pure.pure (nD R.length):=by simp[nM,nD]
def Rw(l:List D):(rd (f9 [.tup l,.ty "tuple"]):DM D)=Pure.pure (.bl true):=bW (t := "tuple") (λz=>rfl) (by decide)
def Hk(R:List (List Nat)):(rd (f9 [nM R,.ty "tuple"]):DM D)=Pure.pure (.bl true):=Rw _
def iU(h:n<2^62):qd [nD n]=some (.fix ((List.range n).map nD)):=zu h
def Hd(R:List (List Nat)):jo (nM R)=some (.fix (R.map nT)):=rfl
def uG(l:List D):(rd (J5 (.lst l)):DM Itn)=Pure.pure (.fix l):=rfl
def Mu(l:List Nat)(R:List (List Nat)):qF [nT l,nM R]=some (.fix (pairs (l.map nD) (R.map nT))):=rfl
def qZ(h:i<l.length):(rd (cZ (nT l) (nD i)):DM D)=Pure.pure (nD (ga l i)):=Rx (by unfold ga;rw[V4,U3 h];rfl)
def qY{R:List (List Nat)}{i:Nat}(h:i<R.length):(rd (cZ (nM R) (nD i)):DM D)=Pure.pure (nT (gr R i)):=wU (by unfold gr;rw[Vl,V4,U3 h];rfl)
def Hm{R:List (List Nat)}(h:0<R.length):(rd (cZ (nM R) (.int 0)):DM D)=Pure.pure (nT (gr R 0)):=qY h
end L3
namespace LS
open PySem PySem.Spec PyProof.Rows PyProof
end LS
namespace L2
open PySem PySem.Spec PyProof.Rows
variable{X:Cx}{pos:Pos}
end L2
namespace L3
open PySem PySem.Spec PyProof.Rows L2
variable{X:Cx}{E:XK}{pos:Pos}
def gL(n:Nat)(fs:List D->aj->DM aj):D->aj->DM aj
 |.lst l,δ=>if l.length=n then fs l δ else stuck
 |_,_=>stuck
@[simp] theorem UG(n:Nat)(fs:List D->aj->DM aj)(l:List D)(δ:aj):gL n fs (.lst l) δ=if l.length=n then fs l δ else stuck:=id rfl
def jR{X:Cx}{E:XK}{st:Stmt}:DS X E st (λz=>stuck):=⟨by intro Zo s σ H D I h;obtain⟨ρ,δ,M,ev,j,g1⟩:=h;obtain⟨r,e,_⟩:=g1;cases e⟩
end L3
namespace L3
open PySem PySem.Spec L2
abbrev Mg:=Str->Option Value
abbrev Fn:=List D->DM D
abbrev Nn(mg:Mg)(x:Str):Prop:=mg x=none
abbrev Gi(mg:Mg)(x:Str)(i:Int)(t:Tok):Prop:=mg x=some (.int i t)
abbrev Rm(k:Nat)(A:Around)(q:Str)(st:Stmt)(s:Shared)(f:Addr)(cdv:Value):Prop:=Room k (A.deeper (PyProof.Rows.envOfC q (defScope st) s.heap.objs.size f cdv))
abbrev Ds(P:Program)(w:World)(K:PySem.W.Frag)(mg:Mg)(base:Heap)(N:List Str)(q:Str)(st:Stmt)(f:Addr)(cdv:Value)(A:Around)(outer:List Env)(s:Shared)(H:Hp)(E:XK)(b:aj->DM Fl):Prop:=
 DSs (iJ P w K mg base N q (defScope st) f cdv A outer s H E) E (defBody st) b
def RJ(a:sc.kind=.function)(b:sc.isCoroutine=false)(c:sc.isGenerator=false)(p:N.take P.length=P)(d:(decide N.Nodup&&(decide (∀x∈P,sc.names.lookup x=some .local\/sc.names.lookup x=some .cell)&&decide (∀y∈sc.names,y.2≠.free)))=true):FnScope N P sc:=by simp only[Bool.and_eq_true,decide_eq_true_eq]at d;exact⟨a,b,c,d.1,p,d.2.1,d.2.2⟩
def Kq(lo hi:Option Int):D->Mo->Option D
 |.scr ns,_=>some (.lst (cutD (ns.map D.int) lo hi))
 |_,_=>none
theorem Ao:∀l:List Int,Cvs mg ρ H (l.map V.int) (l.map D.int)
 |[]=>.nil
 |n::l=>.cons (.int _) (Ao l)
section
variable{X:Cx}{E:XK}
def TY:SlR X (λx lo hi H Q=>∃ρ M dx d,J X.mg ρ M H/\Cv X.mg ρ H x dx/\Kq lo hi dx M=some d/\∀ρ' H' v,Ext ρ H ρ' H'->J X.mg ρ' M H'->Cv X.mg ρ' H' v d->Q v H'):=by
 intro Zo s σ H x v vl vu lo hi sl Q I rx hs pl pu h;obtain⟨ρ,M,dx,d,j,c,e,q⟩:=h;unfold Kq at e;split at e
 ·cases e;cases c with | scr n rd=>
  refine sl_list (X:=X) Zo s σ H _ v vl vu lo hi sl Q I rx hs pl pu ⟨_,_,rfl,.inl rd,λp hp=>?_⟩
  exact q ρ _ _ (.lay hp) (j.lay _ hp) (.lst (j.fresh hp) upd_same (((Ao _).cut lo hi).mono (.lay hp)))
 ·cases e
def FQ(ha:DE X E a fa)(hl:DP X E lo fl)(hh:DP X E hi fh):
  DE X E (.Subscript a (.Slice lo hi none p2) pos) (λδ=>fa δ>>=λx=>fl δ>>=λl=>fh δ>>=λh=>rd (Kq l h x)):=⟨PE.mono (pe_slice TY ha.h hl.h hh.h) λσ H Q h=>by
 obtain⟨ρ,δ,M,ev,j,g1⟩:=h;refine⟨ρ,δ,M,ev,j,g1.bind λρ1 H1 M1 x dx e1 j1 c1 g2=>⟨ρ1,δ,M1,ev.mono e1,j1,g2.bind λρ2 H2 M2 l dl e2 j2 c2 g3=>⟨ρ2,δ,M2,(ev.mono e1).mono e2,j2,g3.bind λρ3 H3 M3 h dh e3 j3 c3 g4=>?_⟩⟩⟩
 have c2:l=dl:=c2;have c3:h=dh:=c3;subst c2 c3;obtain⟨d,e,q⟩:=g4.rd;exact⟨ρ3,M3,dx,d,j3,(c1.mono e2).mono e3,e,q⟩⟩
end
def RD(ns:List Int)(lo hi:Option Int):(rd (Kq lo hi (.scr ns)):DM D)=Pure.pure (.lst (cutD (ns.map D.int) lo hi)):=rfl
def u1(h:n+64<cLine):n+1<cLine:=by lia
def fX:D->Mo->Option (List Key×List D)
 |.dic ks ds,_=>some (ks,ds)
 |.ref n,M=>match M[n]? with
   |some (.dic ks ds)=>some (ks,ds)
   |_=>none
 |_,_=>none
def lW:D->Option Key
 |.int i=>some (.inl i)
 |.str x=>some (.inr x)
 |_=>none
def cW:List Key->List D->Key->Option D
 |k'::ks,d::ds,k=>if k'=k then some d else cW ks ds k
 |_,_,_=>none
section
variable{mg:Str->Option Value}{ρ:Rh}{M:Mo}{H:Hp}
set_option tactic.hygienic true in
def xZ(j:J mg ρ M H)(c:Cv mg ρ H x d)(e:fX d M=some (ks,l)):∃ a xs,x=.ref a/\H a=some (.dK (ks.zip xs))/\ks.length=xs.length/\Cvs mg ρ H xs l:=by
 unfold fX at e;split at e
 ·cases e;cases c with | dic n h hl c=>exact⟨_,_,rfl,h,hl,c⟩
 ·split at e
  ·rename_i n _ ks' ds' h;cases e;cases c with | ref hn=>
   obtain⟨xs,h1,h2,h3⟩:=j.obj _ _ _ hn h;exact⟨_,xs,rfl,h1,h2,h3⟩
  ·cases e
 ·cases e
def qN(c:Cv mg ρ H y d)(e:lW d=some k):y=kV k:=by
 unfold lW at e;split at e
 ·cases e;cases c;rfl
 ·cases e;cases c;rfl
 ·cases e
theorem uN(k:Key):∀ {xs:List V}{ds:List D} (ks:List Key),Cvs mg ρ H xs ds->ks.length=xs.length->(cW ks ds k=none->valV (ks.zip xs) k=none)/\∀ d,cW ks ds k=some d->∃ v,valV (ks.zip xs) k=some v/\Cv mg ρ H v d
 |_,_,[],.nil,_=>⟨λy=>rfl,λd h=>by cases h⟩
 |_,_,[],.cons a t,h=>by cases h
 |_,_,_::_,.nil,h=>by cases h
 | _,_,k'::ks,.cons a t,h=>by
   obtain⟨h1,h2⟩:=uN k ks t (by simpa using h)
   rw[W5];by_cases e:k'=k
   ·rw[valV_pos (p:=(k',_)) e];refine⟨λz=>?_,λd z=>?_⟩
    ·simp[cW,e]at z
    ·simp only[cW,e,if_true]at z;cases z;exact⟨_,rfl,a⟩
   ·rw[valV_neg (p:=(k',_)) e];simp only[cW,e,if_false];exact⟨h1,h2⟩
end
def Jd(x y:D)(M:Mo):Option D:=(fX x M).bind λp=>(lW y).bind λk=>cW p.1 p.2 k
def Dh(x y:D)(M:Mo):Option D:=(fX y M).bind λp=>(lW x).map λk=>.bl (!(cW p.1 p.2 k).isSome)
section
variable{X:Cx}{E:XK}
def some_of(k:Key)(c:Cvs mg ρ H xs ds)(h:ks.length=xs.length):(valV (ks.zip xs) k).isSome=(cW ks ds k).isSome:=by
 obtain⟨h1,h2⟩:=uN k ks c h;cases e:cW ks ds k with
 |none=>rw[h1 e];rfl
 |some d=>obtain⟨v,e2,_⟩:=h2 d e;rw[e2];rfl
def JC(hu:X.A.units+1<cLine):bF X E (compareOp .NotIn) (λx y=>rd (Dh x y)):=by intro Zo s σ H x y v u Q I rx ry q;obtain⟨ρ,M,dx,dy,j,cx,cy,go⟩:=q;obtain⟨d,e,p⟩:=go.rd;obtain⟨⟨ks,ds⟩,h1,h2⟩:=Vs.mp e;obtain⟨k,h3,rfl⟩:=U4.mp h2;obtain⟨a,xs,rfl,ha,hl,c⟩:=xZ j cy h1;obtain rfl:=qN cx h3;obtain rfl:u=Value.ref a:=ry;have so:=some_of k c hl;exact d_notIn hu I (DGet.k (k:=k) ha) rx λs' I'=>⟨.bl _,H,I',rfl,p ρ H _ .refl j (by rw[so];exact .bl _)⟩
def NZ(hu:X.A.units+1<cLine)(ha:DE X E a fa)(hb:DE X E b fb)(hs:NoSl b:=by exact λz z=>rfl):DE X E (.Subscript a b pos) (λδ=>fa δ>>=λx=>fb δ>>=λy=>rd (Jd x y)):=
 ⟨PE.mono (pe_dget hu ha.h hb.h hs) fun σ H Q h=>by
  obtain⟨ρ,δ,M,ev,j,g1⟩:=h;refine⟨ρ,δ,M,ev,j,g1.bind λρ1 H1 M1 x dx e1 j1 c1 g2=>⟨ρ1,δ,M1,ev.mono e1,j1,g2.bind λρ2 H2 M2 y dy e2 j2 c2 g3=>?_⟩⟩
  obtain⟨d,e,p⟩:=g3.rd;obtain⟨⟨ks,ds⟩,h1,h2⟩:=Vs.mp e;obtain⟨k,h3,h4⟩:=Vs.mp h2;obtain⟨a,xs,rfl,ha,hl,c⟩:=xZ j2 (c1.mono e2) h1;obtain rfl:=qN c2 h3;obtain⟨v,e3,cv⟩:=(uN k ks c hl).2 d h4;exact⟨a,v,rfl,by rw[<-e3];exact DGet.k ha,p ρ2 H2 _ .refl j2 cv⟩⟩
def Di:D->D->D->DM Unit
 |.ref n,y,v=>λM=>match M[n]?,lW y with
   |some (.dic ks ds),some k=>if cW ks ds k=none/\ks.length<2^20 then some (.ok (),M.set n (.dic (ks++[k]) (ds++[v]))) else none
   |_,_=>none
 |_,_,_=>stuck
theorem zX:∀ {as:List α}{bs:List β} (a:α) (b:β),as.length=bs.length->(as++[a]).zip (bs++[b])=as.zip bs++[(a,b)]
 |[],[],_,_,_=>rfl
 |[],_::_,_,_,h=>by cases h
 |_::_,[],_,_,h=>by cases h
 |x::as,y::bs,a,b,h=>by rw[X5,X5,W5,W5,zX a b (by simpa using h),X5]
set_option tactic.hygienic true in
def JR(hu:X.A.units + 1<cLine):PSet X (DN X.mg E Di):=by
 intro Zo s σ H o i v ov iv u Q I ro ri rv h;obtain⟨ρ,M,dO,di,dv,j,co,ci,cv,r,e,p⟩:=h;cases co with
 | ref hn=>
   rename_i n a;have e:(match M[n]?,lW di with
    |some (.dic ks ds),some k=>if cW ks ds k=none/\ks.length<2^20 then some (R.ok (),M.set n (.dic (ks++[k]) (ds++[dv]))) else none
    |_,_=>none)=some r:=e
   split at e
   ·rename_i ks ds k hm hk;split at e
    ·rename_i hc;cases e;obtain⟨xs,hx,hl,c⟩:=j.obj _ _ _ hn hm;obtain rfl:=qN ci hk;obtain rfl:ov=Value.ref a:=ro;have nn:=(uN k ks c hl).1 hc.1;have pn:=putK_new v nn;have lz:(ks.zip xs).length<sizeLine:=by rw[List.length_zip,<-hl,Nat.min_self];exact Ys hc.2 (by show 2^20<2^24;decide)
     have x:Ext ρ H ρ (upd H a (.dK ((ks++[k]).zip (xs++[v])))):=.upd (Vo hn);refine d_setItem hu I (DPut.k (k:=k) hx lz) ri rv λs' I'=>⟨_,I',?_⟩
     rw[pn,<-zX k v hl];exact p ρ _ () x (j.upd hn ⟨_,upd_same,by simp[hl],(c.append (.cons cv .nil)).mono x⟩) trivial
    ·cases e
   ·cases e
 |_=>cases e
def wQ(x v:D):DM D:=λM=>match lW x with
 |some k=>some (.ok (.ref M.length),M++[.dic [k] [v]])
 |none=>none
set_option tactic.hygienic true in
def KY(i:Nat)(hN:X.N[i]?=some x:=by rfl)(hv:Vis X.env.scope x:=by first | exact Or.inl rfl | exact Or.inr (Or.inl rfl) | exact Or.inr (Or.inr rfl))(hd:(x == ("__debug__":Str))=false:=by decide)
  (hcd:(x==("__classdict__":Str))=false:=by decide):DE X E (.Dict [some (.Name x p1)] [.Constant (.int c) cj p2] pos) (λδ=>fJ i δ>>=λy=>wQ y (.int c)):=
 ⟨PE.mono (pe_disp (pps_cons (pe_var (i:=i) hN hv hd hcd) pe_int pps_nil) rfl rfl (by simp) (by simp)) fun σ H Q h=>by
  obtain⟨ρ,δ,M,ev,j,g⟩:=h;have g:Go X.mg E (Cv X.mg) Q ρ H (opt δ[i]?.join>>=λy=>wQ y (.int c)) M:=g
  cases z:δ[i]?.join with
  |none=>rw[z]at g;obtain⟨r,e,_⟩:=g;cases e
  | some d=>
    rw[z]at g;have g:Go X.mg E (Cv X.mg) Q ρ H (wQ d (.int c)) M:=g;have e':δ[i]?=some (some d):=by
     cases y:δ[i]? with
     |none=>rw[y]at z;cases z
     |some o=>rw[y]at z;exact congrArg some z
    obtain⟨v,h1,h2⟩:=ev.val i d e';obtain⟨r,e,q⟩:=g;unfold wQ at e;split at e
    ·rename_i k hk;cases e;obtain rfl:=qN h2 hk;intro p hp;refine⟨kV k,h1,upd_same,[(k,.int c)],rfl,by simp,?_⟩
     have em:mergeK [] [(k,V.int c)]=[k].zip [V.int c]:=rfl;rw[em,upd_upd];have x:Ext ρ H (ρ.put p) (upd H p (.dK ([k].zip [V.int c]))):=.put hp;refine q _ _ _ x (j.put hp ⟨[.int c],upd_same,rfl,.cons (.int c) .nil⟩) (.ref ?_);show (ρ.st++[p])[_]?=_;rw[<-j.len];simp
    ·cases e⟩
end
def qR:List Key->Option (List Int)
 |[]=>some []
 |.inl i::ks=>(qR ks).map (i::·)
 |.inr _::_=>none
theorem yU:∀ {ks:List Key}{ns:List Int},qR ks=some ns->ks=ns.map Sum.inl
 |[],ns,e=>by cases e;rfl
 |.inl i::ks,ns,e=>by obtain⟨ms,h,rfl⟩:=U4.mp e;rw[yU h];rfl
 |.inr _::_,_,e=>by cases e
def wZ:List D->Mo->Option D
 |[d],M=>(fX d M).bind λp=>(qR p.1).bind λns=>if ns.length<=60 then some (.lst ((qy ns).map D.int)) else none
 |_,_=>none
section
variable{X:Cx}{E:XK}
set_option tactic.hygienic true in
def CZ(hh:X.A.handled=none):CallD X E (.builtin "sorted") (λl=>rd (wZ l)):=CallD.of (xP hh) λvs H Q ρ M ds d j c e q=>by
 unfold wZ at e;split at e
 ·obtain⟨⟨ks,l⟩,h1,e⟩:=Vs.mp e;obtain⟨ns,h2,e⟩:=Vs.mp e;split at e
  ·rename_i hn;cases e;obtain⟨v,rfl,k⟩:=c.one;obtain⟨a,xs,rfl,ha,hl,c'⟩:=xZ j k h1;obtain rfl:=yU h2;refine⟨a,_,ns,rfl,ha,?_,hn,λp hp=>q ρ _ _ (.lay hp) (j.lay _ hp) (.lst (j.fresh hp) upd_same (Cvs.ints _))⟩
   rw[List.map_fst_zip (Nat.le_of_eq hl)]
  ·cases e
 ·cases e
end
end L3
namespace L3
open PySem L2
theorem wG{c:aj->DM Bool}{fb:aj->DM Fl}{pB:aj->Mo->Prop}(I:Nat->aj->Mo->Prop)
  (step:∀m δ M,I m δ M->∃b,c δ M=some (.ok b,M)/\(b=true->Rn (fb δ) M λr M'=>∃δ' m',r=.nx δ'/\m'<m/\I m' δ' M')/\(b=false->pB δ M)) :
  ∀(N m:Nat) (δ:aj) (M:Mo),m<N->I m δ M->Rn (cR c fb N δ) M λr M'=>∃δ',r=.nx δ'/\pB δ' M'
 |0,m,δ,M,h,_=>by lia
 | N + 1,m,δ,M,h,i=>by
   obtain⟨b,e,h1,h2⟩:=step m δ M i;unfold cR;refine Rn.bind (Q1:=λb' M'=>b'=b/\M'=M) ⟨b,M,e,rfl,rfl⟩ λb' M' ⟨eb,eM⟩=>?_
   subst eb eM;cases b' with
   |false=>exact Rn.pure ⟨δ,rfl,h2 rfl⟩
   |true=>
     refine Rn.bind (h1 rfl) λr M1 ⟨δ',m',er,hm,i'⟩=>?_
     subst er;exact wG I step N m' δ' M1 (by lia) i'
def kD(ks:List Nat):List Key:=ks.map λn:Nat=>Sum.inl (n:Int)
theorem qC(x:Nat):∀ (ks:List Nat) (ds:List D),ks.length=ds.length->(cW (kD ks) ds (.inl (x:Int))).isSome=ks.contains x
 |[],[],_=>rfl
 |[],_::_,h=>by cases h
 |_::_,[],h=>by cases h
 | k::ks,d::ds,h=>by
   have ih:=qC x ks ds (by simpa using h)
   show (cW (Sum.inl (k:Int)::kD ks) (d::ds) (.inl (x:Int))).isSome=_;rw[List.contains_cons];by_cases e:k=x
   ·subst e;simp[cW]
   ·have e1:¬ (Sum.inl (k:Int):Key)=.inl (x:Int):=λq=>e (by have:=Sum.inl.inj q;lia)
    have e2:(x==k)=false:=by simp;exact λq=>e q.symm
    simp only[cW,e1,if_false,ih,e2,Bool.false_or]
def Je(h:M[n]?=some (.dic (kD ks) ds))(hl:ks.length=ds.length):Dh (nD x) (.ref n) M=some (.bl (!ks.contains x)):=by
 have e:fX (.ref n) M=some (kD ks,ds):=by simp[fX,h]
 have:=qC x ks ds hl;unfold Dh nD;rw[e];simp only[Option.bind_some,lW,Option.map_some,this]
def Jf(h:M[n]?=some (.dic (kD ks) ds))(hl:ks.length=ds.length)(hx:x∉ks)(hk:ks.length<1000):
  Di (.ref n) (nD x) v M=some (.ok (),M.set n (.dic (kD (ks++[x])) (ds++[v]))):=by
 have e:=qC x ks ds hl;have e0:ks.contains x=false:=by simpa using hx
 rw[e0,Option.isSome_eq_false_iff,Option.isNone_iff_eq_none]at e;have e1:kD (ks++[x])=kD ks++[Sum.inl (x:Int)]:=by simp[kD]
 delta Di;dsimp only[nD];rw[h];dsimp only[lW];rw[U5 ⟨e,by unfold kD;rw[U6];exact Ys hk (by decide)⟩,e1]
theorem zO:∀ {ks vs:List Nat},ks.length=vs.length->x∈ks->∃ v∈vs,cW (kD ks) (vs.map nD) (.inl (x:Int))=some (nD v)
 |[],_,_,h=>by cases h
 |_::_,[],h,_=>by cases h
 | k::ks,v::vs,h,hx=>by
   show ∃u∈v::vs,cW (Sum.inl (k:Int)::kD ks) (nD v::vs.map nD) (.inl (x:Int))=some (nD u);by_cases e:k=x
   ·subst e;exact⟨v,by simp,by simp[cW]⟩
   ·have e1:¬ (Sum.inl (k:Int):Key)=.inl (x:Int):=λq=>e (by have:=Sum.inl.inj q;lia)
    have hx':x∈ks:=by
     rcases Vf.mp hx with q | q
     ·exact absurd q.symm e
     ·exact q
    obtain⟨u,hu,eu⟩:=zO (by simpa using h) hx'
    exact⟨u,by simp[hu],by simp only[cW,e1,if_false,eu]⟩
def K5{n x:Nat}{ks vs:List Nat}(h:M[n]?=some (.dic (kD ks) (vs.map nD)))(hl:ks.length=vs.length)(hx:x∈ks):∃v∈vs,Jd (.ref n) (nD x) M=some (nD v):=by
 obtain⟨v,hv,e⟩:=zO hl hx;refine⟨v,hv,?_⟩;have e0:fX (.ref n) M=some (kD ks,vs.map nD):=by simp[fX,h]
 unfold Jd;rw[e0];show (lW (nD x)).bind (λk=>cW (kD ks) (vs.map nD) k)=_
 exact e
theorem yV:∀ ks:List Nat,qR (kD ks)=some (ks.map λn:Nat=>(n:Int))
 |[]=>rfl
 |k::ks=>by show (qR (kD ks)).map ((k:Int)::·)=_;rw[yV ks];rfl
def HJ{n:Nat}{ks:List Nat}{p:Nat->Bool}(nd:ks.Nodup)(hp:∀x,x∈ks ↔ x<n/\p x=true):qy (ks.map λn:Nat=>(n:Int))=((List.range n).filter p).map λn:Nat=>(n:Int):=by
 have f:=iR (ks.map λn:Nat=>(n:Int))
 refine mL (f.1.trans ?_) f.2 ?_
 ·refine List.Perm.map _ ((List.perm_ext_iff_of_nodup nd (List.nodup_range.filter _)).mpr λx=>?_)
  rw[hp,VN,Ve]
 ·refine List.Pairwise.map _ (λa b (h:a<b)=>?_) (List.Pairwise.sublist List.filter_sublist YQ)
  lia
def HH{n m:Nat}{ks:List Nat}{ds:List D}{p:Nat->Bool}(h:M[m]?=some (.dic (kD ks) ds))(hk:ks.length<=60)(nd:ks.Nodup)(hp:∀x,x∈ks ↔ x<n/\p x=true):
  wZ [.ref m] M=some (.lst (((List.range n).filter p).map nD)):=by
 have e0:fX (.ref m) M=some (kD ks,ds):=by simp[fX,h]
 unfold wZ;dsimp only;rw[e0];show (qR (kD ks)).bind _=_;rw[yV,Option.bind_some,U5 (by rw[U6];exact hk),HJ nd hp,VP]
 rfl
end L3
namespace L3
open PySem PySem.Spec L2 LB
def tupI(t:List Int):D:=.tup (t.map D.int)
def cH:List D->Option (List (List Int))
 |[]=>some []
 |.tup l::r=>(intsOf l).bind λt=>if t=[] then none else (cH r).map (t::·)
 |_::_=>none
set_option tactic.hygienic true in
theorem qz:∀ {l:List D}{ts:List (List Int)},cH l=some ts->l=ts.map tupI/\∀ t∈ts,t≠[]
 |[],ts,e=>by cases e;exact⟨rfl,λt h=>by cases h⟩
 | d::l,ts,e=>by
   cases d with
   | tup l0=>
     obtain⟨t,h1,e⟩:=Vs.mp e;split at e
     ·cases e
     ·rename_i hne;obtain⟨ms,h,rfl⟩:=U4.mp e;obtain⟨h2,h3⟩:=qz h;refine⟨by rw[h2,wu h1];rfl,λx hx=>?_⟩
      rcases Vf.mp hx with rfl | hx
      ·exact hne
      ·exact h3 x hx
   |_=>simp[cH]at e
theorem oX:∀ {ts:List (List Int)},(∀ t∈ts,t≠[])->cH (ts.map tupI)=some ts
 |[],_=>rfl
 |t::ts,h=>by
   have ih:=oX (ts:=ts) λx hx=>h x (.tail _ hx)
   have h1:=h t (Vm);show (intsOf (t.map D.int)).bind _=_;rw[uw];show (if t=[] then none else _)=_
   rw[U8 h1,ih];rfl
end L3
namespace L3
open PySem L2
end L3
namespace L3
open PySem PySem.Spec L2 LA LB
open PyProof.Rows hiding St
def jQ(acc:List (List Int))(t:List Int):List (List Int):=if t∈acc then acc else acc++[t]
def rO(ts:List (List Int)):List (List Int):=ts.foldl jQ []
def I9(ts:List (List Int))(t:List Int):rO (ts++[t])=jQ (rO ts) t:=by unfold rO;rw[List.foldl_append];rfl
def Av(acc:List (List Int))(t:List Int):(jQ acc t).length<=acc.length+1:=by unfold jQ;split<;>simp
def Ar(ts:List (List Int)):(rO ts).length<=ts.length:=by
 have key:∀ (ts acc:List (List Int)),(ts.foldl jQ acc).length<=acc.length + ts.length:=by
  intro ts;induction ts with
  |nil=>intro acc;simp
  |cons t ts ih=>
    intro acc;have:=ih (jQ acc t);have:=Av acc t;rw[Y9,Wd]
    lia
 have:=key ts [];simpa[rO] using this
def Aq(cs:List (Addr×List Int))(c:Addr×List Int):(uh cs c).map (·.2)=jQ (cs.map (·.2)) c.2:=by unfold uh jQ;split<;>simp
set_option tactic.hygienic true in
theorem uM:∀ {l:List D}{ts:List (List Int)}{d:D}{t:List Int},cH l=some ts->cH [d]=some [t]->cH (l++[d])=some (ts++[t])
 |[],ts,d,t,e,e2=>by cases e;exact e2
 | x::l,ts,d,t,e,e2=>by
   cases x with
   | tup l0=>
     obtain⟨u,h1,e⟩:=Vs.mp e;split at e
     ·cases e
     ·rename_i hne;obtain⟨ms,h,rfl⟩:=U4.mp e;have ih:=uM h e2;show (intsOf l0).bind _=_;rw[h1];show (if u=[] then none else (cH (l++[d])).map (u::·))=_
      rw[U8 hne,ih];rfl
   |_=>simp[cH]at e
def Ss(h:(cH [d]).isSome=true):∃ t,d=tupI t/\t≠[]/\cH [d]=some [t]:=by
 obtain⟨ts,e⟩:=Xu.mp h;obtain⟨h1,h2⟩:=qz e;cases ts with
 |nil=>cases h1
 | cons t ts=>
   cases ts with
   |nil=>simp at h1;exact⟨t,h1,h2 t (by simp),e⟩
   |cons u ts=>simp at h1
section
variable{mg:Str->Option Value}{ρ:Rh}{H:Hp}{acc:Addr}{φ:Heap->Prop}{o:HO}
mutual
theorem Cv.x(hp:H acc=some (.ext φ)):∀ {v:V}{d:D},Cv mg ρ H v d->Cv mg ρ (L2.upd H acc o) v d
 |_,_,.non=>.non
 |_,_,.bl b=>.bl b
 |_,_,.int i=>.int i
 |_,_,.str x=>.str x
 |_,_,.tup n h c=>.tup n ((upd_ne λz=>by rw[z,hp]at h;cases h).trans h) (Cvs.x hp c)
 |_,_,.lst n h c=>.lst n ((upd_ne λz=>by rw[z,hp]at h;cases h).trans h) (Cvs.x hp c)
 |_,_,.dic n h l c=>.dic n ((upd_ne λz=>by rw[z,hp]at h;cases h).trans h) l (Cvs.x hp c)
 |_,_,.obj n m h l c=>.obj n m ((upd_ne λz=>by rw[z,hp]at h;cases h).trans h) l (Cvs.x hp c)
 |_,_,.scr n h=>.scr n (by
   rcases h with h | ⟨o',h⟩
   ·exact .inl ((upd_ne λz=>by rw[z,hp]at h;cases h).trans h)
   ·exact .inr ⟨o',(upd_ne λz=>by rw[z,hp]at h;cases h).trans h⟩)
 |_,_,.ref h=>.ref h
 |_,_,.cls h=>.cls h
 |_,_,.ty t=>.ty t
 |_,_,.exn a=>.exn a
theorem Cvs.x(hp:H acc=some (.ext φ)):∀{vs:List V}{ds:List D},Cvs mg ρ H vs ds->Cvs mg ρ (L2.upd H acc o) vs ds
 |_,_,.nil=>.nil
 |_,_,.cons h t=>.cons (Cv.x hp h) (Cvs.x hp t)
end
theorem Ev.x(hp:H acc=some (.ext φ))(h:Ev mg ρ H σ δ):Ev mg ρ (L2.upd H acc o) σ δ:=⟨h.len,λi d q=>let ⟨v,a,b⟩:=h.val i d q;⟨v,a,b.x hp⟩⟩
def jN.ne(hp:H acc=Option.some (HO.ext φ))(h:jN mg ρ H a u):a≠acc:=λz=>by
 subst z;cases u with
 |lst l=>obtain⟨xs,h,_⟩:=h;rw[hp]at h;cases h
 |dic ks l=>obtain⟨xs,h,_⟩:=h;rw[hp]at h;cases h
 |ins c ns l=>obtain⟨C,dx,xs,_,h,_⟩:=h;rw[hp]at h;cases h
theorem J.x(j:J mg ρ M H)(hp:H acc=Option.some (HO.ext φ)):J mg ρ M (L2.upd H acc o):=⟨j.len,j.nd,λn a u h1 h2=>(j.obj n a u h1 h2).map (upd_ne (jN.ne hp (j.obj n a u h1 h2))) λvs ds c=>c.x hp,λa h=>by obtain⟨x,xs,e⟩:=j.vol a h;exact⟨x,xs,by rw[upd_ne λz=>by rw[z,hp]at e;cases e];exact e⟩⟩
end
def w6(ρ:Rh)(H:Hp)(cs:List (Addr×List Int))(l:List D):Prop:=∃ts,cH l=some ts/\cs.map (·.2)=rO ts/\cs.length<=18/\∀c∈cs,c.2≠[]/\c.1∉ρ/\H c.1=some (.tup (c.2.map V.int))
def w6.mono(h:w6 ρ H cs l)(e:Ext ρ H ρ' H'):w6 ρ' H' cs l:=by obtain⟨ts,h1,h2,h0,h3⟩:=h;exact⟨ts,h1,h2,h0,λc hc=>by obtain⟨a,b,d⟩:=h3 c hc;exact⟨a,e.out d b,e.keeps d b⟩⟩
structure CstS(X:Cx)(Zo:List (Addr×Obj))(acc:Addr)(ρ0:Rh)(H0:Hp)(δ:aj)(l:List D)(M:Mo)(fp:List Addr)(s:Shared):Prop where
 ex:∃σ H ρ cs,Inv X Zo σ H s/\ExtB acc ρ0 H0 ρ H/\J X.mg ρ M H/\Ev X.mg ρ H σ δ/\H acc=some (j9 X.prog X.w acc cs)/\w6 ρ H cs l/\∀b∈fp,H b=none
def lu(fe:aj->DM D)(δ:aj)(l:List D):DM (aj×List D):=fe δ>>=λd=>if (cH [d]).isSome=true/\l.length<18 then pure (δ,l++[d]) else stuck
def Ai(X:Cx)(acc:Addr)(W:(Shared->Prop)->Shared->Prop)(fb:aj->List D->DM (aj×List D)):Prop:=
 ∀Zo ρ0 H0 δ l M s δ' l' M',CstS X Zo acc ρ0 H0 δ l M [] s->fb δ l M=some (.ok (δ',l'),M')->W (λs'=>CstS X Zo acc ρ0 H0 δ' l' M' [] s') s
def CstS.unpin(c:CstS X (Zo++pl) acc ρ0 H0 δ l M [] s)(h:∀b∈fp,∃o,(b,o)∈pl):
  CstS X Zo acc ρ0 H0 δ l M fp s/\∀p∈pl,s.heap.get? p.1=some p.2:=by
 obtain⟨σ,H,ρ,cs,I,x,j,ev,ha,cl,_⟩:=c.ex;refine⟨⟨σ,H,ρ,cs,I.unpinned,x,j,ev,ha,cl,λb hb=>?_⟩,λp hp=>(I.pin p (VB _ (VB _ hp))).1⟩
 obtain⟨o,ho⟩:=h b hb;exact (I.pin (b,o) (VB _ (VB _ ho))).2.1
def Lj(hc:X.calm=true)(hxe:X.xe=λy y=>False){gens:List Comprehension}{depth:Nat}{bodyK:Sem Fin->Sem Fin}{W:(Shared->Prop)->Shared->Prop}
  (hturn:compTurn (.SetComp elt gens scope pos) depth (.ref it) (.ref acc) X.env=turnOf g bodyK (.compLoop (.SetComp elt gens scope pos) depth (.ref it) (.ref acc) X.env) (.ref it) X.env) (hW:km X.prog X.w X.A bodyK W) (hmono:∀P P' s,(∀s,P s->P' s)->W P s->W P' s)
  {fg:D->aj->DM aj}{ft:aj->DM Bool}{fb:aj->List D->DM (aj×List D)} (hg:DG X E0 g.target fg) (ht:DTs X E0 g.ifs ft) (hb:Ai X acc W fb) {fp:List Addr}{tn:Nat->Heap->Prop} (T:Turn X.prog X.w X.K g.target Jt fp it tn) (iok:ItOk X.mg ρi Hi Jt itn) (kp0:∀ρ H,ExtB acc ρ0 H0 ρ H->Kp ρi Hi ρ H) {Zo:List (Addr×Obj)}
  (fok:∀H',(∀b∈fp,H' b=none)->∀b∈fp,FpOk X Zo H' b) {l:List D} (st:CstS X Zo acc ρ0 H0 δ l M fp s) (htn:tn 0 s.heap) {lf:List D} (hrun:cA fg ft fb itn δ l M=some (.ok (δf,lf),Mf))
  {R:Result->Shared->Prop} (hR:∀s',CstS X Zo acc ρ0 H0 δf lf Mf fp s'->R (.ok .next) s') :
  codeAny (model X.prog X.w) X.A (.compLoop (.SetComp elt gens scope pos) depth (.ref it) (.ref acc) X.env) R s:=by
 obtain⟨n0,rem0⟩:=pC.start hrun;refine Gx (λn s=>∃i δ l M,pC fg ft fb δf lf Mf itn n i δ l M/\CstS X Zo acc ρ0 H0 δ l M fp s/\tn i s.heap) hturn hW ?_ hmono n0 ⟨0,δ,l,M,rem0,st,htn⟩
 rintro n s ⟨i,δ,l,M,rem,st,htn⟩;obtain⟨σ,H,ρ,cs,I,x,j,ev,ha,cl,fr⟩:=st.ex;have kp:Kp ρi Hi ρ H:=kp0 _ _ x;rcases rem.step with ⟨hd,rfl,rfl,rfl⟩ | ⟨d,δ1,M1,b,M2,δ3,l3,M3,m,hd,e1,e2,e3,hm,rem3⟩
 ·refine Vn (T.done X rfl rfl rfl hc i Zo s σ H _ I (fok H fr) htn (iok.stop i ρ H _ kp j hd)) (λr s1 h1=>?_) λy y z=>z
  obtain⟨rfl,I1⟩:=h1;exact hR s1 ⟨σ,H,ρ,cs,I1,x,j,ev,ha,cl,fr⟩
 ·obtain ⟨go,yl⟩:=iok.item i ρ H M d kp j hd;refine Vn (T.item X rfl rfl rfl hc i Zo s σ H (λy y=>False) I (fok H fr) htn go) (λr s1 h1=>?_) λy y z=>z
  obtain⟨u,rfl,h1⟩:=h1;refine Vn h1 (λy s2 h2=>?_) λy y z=>z
  obtain⟨xv,H5,I5,r5,y5,tn5,fr5⟩:=h2;obtain⟨x5,j5,c5⟩:=yl xv H5 y5;have I5':=I5.pinned (fok H5 fr5) (T.obj _ _ tn5);refine Vn (hg.h _ s2 σ H5 xv u (λσ6 H6=>∃ρ6,Ext ρ H5 ρ6 H6/\J X.mg ρ6 M1 H6/\Ev X.mg ρ6 H6 σ6 δ1) I5' r5 ⟨ρ,δ,M,d,ev.mono x5,j5,c5,_,e1,λρ6 H6 σ6 a1 a2 a3=>⟨ρ6,a1,a2,a3⟩⟩) (λy s3 h3=>?_) λy y z=>by rw[hxe]at z;exact z
  obtain⟨σ6,H6,I6,ρ6,x6,j6,ev6⟩:=h3;refine Vn (ht.h _ s3 σ6 H6 (λb' H7=>b'=b/\∃ρ7,Ext ρ6 H6 ρ7 H7/\J X.mg ρ7 M2 H7) I6 ⟨ρ6,δ1,M1,ev6,j6,_,e2,λρ7 H7 b' a1 a2 a3=>⟨a3,ρ7,a1,a2⟩⟩) (λok s4 h4=>?_) λy y z=>by rw[hxe]at z;exact z
  obtain⟨H7,I7,rfl,ρ7,x7,j7⟩:=h4;have nacc:acc∉ρ.st:=x.na;have na6:acc∉ρ6.st:=λz=>by have h5:=x5.keep acc _ ha nacc;have:=x6.new acc z nacc;rw[h5]at this;cases this
  have ha5:=x5.keep acc _ ha nacc;have ha6:=x6.keep acc _ ha5 nacc;have na7:acc∉ρ7.st:=λz=>by have:=x7.new acc z na6;rw[ha6]at this;cases this
  have ha7:=x7.keep acc _ ha6 na6;have xb:ExtB acc ρ0 H0 ρ7 H7:=((x.trans (x5.b nacc)).trans (x6.b na6)).trans (x7.b na7);have ct:CstS X (Zo++pinsAt fp s2.heap) acc ρ0 H0 δ1 l M2 [] s4:=⟨σ6,H7,ρ7,cs,I7,xb,j7,ev6.mono x7,ha7,((cl.mono x5).mono x6).mono x7,λb hb=>nomatch hb⟩
  have fin:∀s5,CstS X (Zo++pinsAt fp s2.heap) acc ρ0 H0 δ3 l3 M3 [] s5->∃m,m<n/\∃i δ l M,pC fg ft fb δf lf Mf itn m i δ l M/\CstS X Zo acc ρ0 H0 δ l M fp s5/\tn i s5.heap:=λs5 c5=>by
   obtain⟨c6,pp⟩:=c5.unpin (fp:=fp) λb hb=>by obtain⟨o,eo,_⟩:=T.obj _ _ tn5 b hb;exact⟨o,mem_pinsAt hb eo⟩
   exact⟨m,hm,i+1,δ3,l3,M3,rem3,c6,T.keep _ _ _ tn5 λb hb o eo=>pp (b,o) (mem_pinsAt hb eo)⟩
  cases ok with
  |true=>exact iteT (hmono _ _ _ fin (hb _ ρ0 H0 δ1 l M2 s4 δ3 l3 M3 ct e3))
  |false=>cases e3;exact iteF (fin s4 ct)
def ExtB.growO(na:acc∉ρ.st):ExtB acc ρ H ρ (upd H acc o):=⟨⟨[],by simp⟩,rfl,λa h n=>absurd h n,λa u h z ne=>by rw[upd_ne ne];exact h,na⟩
set_option tactic.hygienic true in
def Jh(hxe:X.xe=λy y=>False)(hu:X.A.units + 1<cLine)(he:DE X E0 elt fe):
  Ai X acc (λP s=>wpAny (model X.prog X.w) X.A (eval elt X.env) (λx s1=>wpAny (model X.prog X.w) X.A (call (.builtin "set.add") [.ref acc,x]) (λy s2=>P s2) (λy y=>False) s1) (λy y=>False) s) (lu fe):=by
 intro Zo ρ0 H0 δ l M s δ' l' M' ct e;obtain⟨d,M1,e1,e2⟩:=DM.bind_ok e;obtain⟨σ,H,ρ,cs,I,x,j,ev,ha,cl,_⟩:=ct.ex;split at e2;rotate_left
 ·cases e2
 rename_i hz;cases e2;refine Vn (he.h Zo s σ H (λv H1=>∃ρ1,Ext ρ H ρ1 H1/\J X.mg ρ1 M' H1/\Cv X.mg ρ1 H1 v d) I ⟨ρ,δ,M,ev,j,_,e1,λρ1 H1 v a1 a2 a3=>⟨ρ1,a1,a2,a3⟩⟩) (λu s1 h1=>?_) λy y z=>by rw[hxe]at z;exact z
 obtain⟨v,H1,I1,rv,ρ1,x1,j1,c1⟩:=h1;have nacc:acc∉ρ.st:=x.na;have ha1:=x1.keep acc _ ha nacc;have na1:acc∉ρ1.st:=λz=>by have:=x1.new acc z nacc;rw[ha]at this;cases this
 obtain⟨t,rfl,tne,et⟩:=Ss hz.1;obtain⟨ts,h1,h2,h0,h3⟩:=cl.mono x1;have cl1:cs.length<=l.length:=by
  have a:=congrArg List.length h2;rw[U6]at a;have b:=Ar ts;have c:=congrArg List.length (qz h1).1;rw[U6]at c
  lia
 cases c1 with
 | tup nb hb cb=>
   rename_i b xs;rw[xV cb]at hb;obtain rfl:u=Value.ref b:=rv;refine Mz hu I1 ha1 hb (λc hc=>(h3 c hc).2.2) (by have:=hz.2;lia) λs' I'=>?_
   refine⟨σ,_,ρ1,uh cs (b,t),I',(x.trans (x1.b na1)).trans (.growO na1),j1.x ha1,(ev.mono x1).x ha1,upd_same,⟨ts++[t],uM h1 et,?_,?_,λc hc=>?_⟩,λb hb=>nomatch hb⟩
   ·rw[Aq,I9,h2]
   ·have a:=congrArg List.length (Aq cs (b,t));have c:=Av (cs.map (·.2)) t;rw[U6]at a c;have:=hz.2;have a:(uh cs (b,t)).length=(jQ (cs.map (·.2)) t).length:=a
    lia
   ·have nx:∀ {c:Addr×List Int}{ys:List V},H1 c.1=some (.tup ys)->upd H1 acc (j9 X.prog X.w acc (uh cs (b,t))) c.1=H1 c.1:=λ{c ys} h=>upd_ne λz=>by rw [z,ha1]at h;cases h
    have hc':c∈cs\/c=(b,t):=by
     unfold uh at hc;split at hc
     ·exact .inl hc
     ·rcases Vd.mp hc with h | h
      ·exact .inl h
      ·exact .inr (Vj.mp h)
    rcases hc' with h | rfl
    ·obtain⟨p1,p2,p3⟩:=h3 c h;exact⟨p1,p2,(nx p3).trans p3⟩
    ·exact⟨tne,nb,(nx hb).trans hb⟩
end L3
namespace L3
open PySem PySem.Spec L2 LA LB LS
open PyProof.Rows hiding St
def GJ(h:Q (.ref s.heap.objs.size) { s with heap:=s.heap.push (cz #[] 0 (.fresh 0 0 (!dH w))) }):wpAny (model prog w) A (newSet (.type "set")) Q E s:=by unfold newSet setsByText;refine UL (UL (W2 (UV ?_)));exact Vr h
def Ij(X:Cx)(ρ:Rh)(H:Hp)(x:V)(l:List D):Prop:=∃acc cs,x=.ref acc/\H acc=some (j9 X.prog X.w acc cs)/\w6 ρ H cs l
section
variable{acc:Addr}{ρ ρ1:Rh}{H H1:Hp}{o:HO}
def ExtB.ext(x:ExtB acc ρ (upd H acc o) ρ1 H1)(hf:H acc=none):Ext ρ H ρ1 H1:=⟨x.pre,x.vo,λa h n=>by
  have:=x.new a h n;by_cases z:a=acc
  ·rw[z];exact hf
  ·rw[upd_ne z]at this;exact this,λa u h n=>x.keep a u (by rw[upd_ne (ne_of_none h hf)];exact h) n (ne_of_none h hf)⟩
def ExtB.kpS(x:ExtB acc ρ (upd H acc o) ρ1 H1)(hf:H acc=none):Kp ρ H ρ1 H1:=⟨x.pre,λa u h n=>⟨(x.ext hf).out h n,(x.ext hf).keeps h n⟩⟩
end
set_option tactic.hygienic true in
def JK
  (hu:X.A.units+1<cLine) (hc:X.calm=true) (T:CompG X scope cl own js fr) (hi:DI X E t0 i0 fi)
  (hg:∀Zo m fp C s₂ H₂,DG (X.aU Zo scope (cellsFrom m scope.names cl) (own++fr) fp C s₂ H₂) E0 t0 fg) (ht:∀Zo m fp C s₂ H₂,DTs (X.aU Zo scope (cellsFrom m scope.names cl) (own++fr) fp C s₂ H₂) E0 f0 ft)
  (he:∀Zo m fp C s₂ H₂,DE (X.aU Zo scope (cellsFrom m scope.names cl) (own++fr) fp C s₂ H₂) E0 elt fe)
  (hs:∀y,foldedSetIterable i0 X.env y=pure y:=by intro _;rfl) :
  PE X (.SetComp elt [⟨t0,i0,f0,0⟩] scope pos) (tD X.mg E (Ij X) (λδ=>fi δ>>=λit=>dB (cA fg ft (lu fe) it (aO own.length js δ) [])>>=λp=>pure p.2)):=by
 intro Zo s σ H Q I h;obtain⟨ρ,δ,M,ev,j,g1⟩:=h;rw[PySem.arm_eval_SetComp];dsimp only;refine Yw (cl:=cl) (use:=none) rfl hs T.clos T.kind T.names ?_;refine thn (hi.h Zo s σ H (λJt H1=>∃ρ1 M1 it,Ext ρ H ρ1 H1/\J X.mg ρ1 M1 H1/\ItOk X.mg ρ1 H1 Jt it/\Go X.mg E (Ij X) Q ρ1 H1 (dB (cA fg ft (lu fe) it (aO own.length js δ) [])>>=λp=>pure p.2) M1) I
  ⟨ρ,δ,M,ev,j,g1.bind λρ1 H1 M1 Jt it e1 j1 iok g2=>⟨ρ1,M1,it,e1,j1,iok,g2⟩⟩) λv s1 h1=>thn h1 λitv s2 h2=>?_
 obtain⟨it,fp,tn,Jt,H2,rfl,I2,Tn,st2,f2,ρ1,M1,itn,x1,j1,iok,g2⟩:=h2;have hrun:∃δf lf Mf,cA fg ft (lu fe) itn (aO own.length js δ) [] M1=some (.ok (δf,lf),Mf)/\Go X.mg E (Ij X) Q ρ1 H2 (pure lf) Mf:=by
  obtain⟨r,e,p⟩:=g2;have e:DM.bind _ _ M1=some r:=e;unfold DM.bind at e;split at e
  ·cases e
  ·rename_i c M' em;obtain⟨a,M'',_,z⟩:=nA em;cases z
  ·rename_i a M' em;obtain⟨a',M'',e1,z⟩:=nA em;cases z;exact⟨a.1,a.2,M',e1,r,e,p⟩
 obtain⟨δf,lf,Mf,hrun,g3⟩:=hrun;refine GJ (pW ?_);have hlt:∀b∈fp,b<s2.heap.objs.size:=λb hb=>by obtain⟨o,e,_⟩:=Tn.obj _ _ st2 b hb;exact U7 e
 dsimp only;generalize hP:s2.heap.push (cz #[] 0 (.fresh 0 0 (!dH X.w)))=hp1;have hCs:hp1.objs.size=s2.heap.objs.size+1:=by rw[<-hP,VF]
 have hCe:hp1.objs.size+1=(hp1.push { cls:=.type "dict",data:=.dict #[] }).objs.size:=by rw[VF]
 have hC:s2.heap.objs.size<=hp1.objs.size:=by lia
 have hne:hp1.objs.size≠s2.heap.objs.size:=by lia
 have old1:∀b o,s2.heap.get? b=some o->hp1.get? b=some o:=λb o e=>by rw[<-hP];exact UT _ e
 have old:∀b o,s2.heap.get? b=some o->(pushCells (hp1.push { cls:=.type "dict",data:=.dict #[] }) scope.names).get? b=some o:=λb o e=>WQ _ _ _ _ (UT _ (old1 b o e))
 have new:SetT X.prog X.w (!dH X.w) (pushCells (hp1.push { cls:=.type "dict",data:=.dict #[] }) scope.names) s2.heap.objs.size []:=⟨[],0,.fresh 0 0 (!dH X.w),.refl _,WQ _ _ _ _ (UT _ (by rw[<-hP];exact U9 _ rfl)),⟨.fresh _ _,.inl rfl,rfl,λs h=>(by cases h),Wo _,λz h=>(by cases h),rfl⟩,by show 0*5<7*3;decide⟩
 have ns:(pushCells (hp1.push { cls:=.type "dict",data:=.dict #[] }) scope.names).Ns hp1.objs.size λu=>none:=(Heap.Ns.new hp1 (.type "dict")).keeps (WQ _ _)
 have hfree:H2 s2.heap.objs.size=none:=I2.hok.fresh (U0 _);have IC:=Dd (t':=s2.toks) T I2 f2 hlt old (U0 _) hC hne hCe (Vp hC (Nat.le_succ _)) (Wv _) (Nat.lt_succ_of_le hC) rfl (Cg new) ns;have OK:=IC.ok;have fok:∀H',(∀b∈fp,H' b=none)->∀b∈fp,FpOk (X.aU Zo scope (cellsFrom (hp1.objs.size+1) scope.names cl) (own++fr) fp hp1.objs.size s2 H2) [] H' b:=λH' hn b hb=>by
  obtain⟨_,g2,g3,g4,g5,g6⟩:=f2 b hb;refine⟨hn b hb,Vi (Va (hlt b hb) hC),λhm=>?_,.inl hb,(OK.exf b hb).2,λp hp=>g6 p (by simpa using hp)⟩
  rcases Vf.mp (I2.stkSub _ hm) with z | z
  ·exact g2 z
  ·exact g3 z
 have fp1:∀b∈fp,upd H2 s2.heap.objs.size (j9 X.prog X.w s2.heap.objs.size []) b=none:=λb hb=>by rw[upd_ne (Vi (hlt b hb))];exact (f2 b hb).1
 have jb:J X.mg ρ1 M1 (upd H2 s2.heap.objs.size (j9 X.prog X.w s2.heap.objs.size [])):=j1.lay _ hfree;have nf:=j1.fresh hfree;have st:CstS (X.aU Zo scope (cellsFrom (hp1.objs.size+1) scope.names cl) (own++fr) fp hp1.objs.size s2 H2) [] s2.heap.objs.size ρ1 (upd H2 s2.heap.objs.size (j9 X.prog X.w s2.heap.objs.size [])) (aO own.length js δ) [] M1 fp
   { s2 with heap:=pushCells (hp1.push { cls:=.type "dict",data:=.dict #[] }) scope.names,toks:=s2.toks }:=
  ⟨_,_,_,[],IC,.refl (λz=>nf (.inl z)),jb,(uU (ev.mono x1) _ _).mono (.lay hfree),upd_same,⟨[],rfl,rfl,Wo _,λc h=>(by cases h)⟩,fp1⟩
 have tn0:tn 0 (pushCells (hp1.push { cls:=.type "dict",data:=.dict #[] }) scope.names):=Tn.keep _ _ _ st2 (λb u o e=>old b o e)
 have loop:codeAny (model X.prog X.w) X.A (.compLoop (.SetComp elt [⟨t0,i0,f0,0⟩] scope pos) 0 (.ref it) (.ref s2.heap.objs.size) (compEnvC scope (cellsFrom (hp1.objs.size+1) scope.names cl) hp1.objs.size X.env))
   (compPost (model X.prog X.w) X.A X.xe none (EP X Zo σ Q) (.ref s2.heap.objs.size) hp1.objs.size) { s2 with heap:=pushCells (hp1.push { cls:=.type "dict",data:=.dict #[] }) scope.names,toks:=s2.toks }:=by
  refine Lj (X:=X.aU Zo scope (cellsFrom (hp1.objs.size+1) scope.names cl) (own++fr) fp hp1.objs.size s2 H2) hc rfl (QW ..) K8 (λP P' s hp h=>Vn h (λx s1 h1=>Vn h1 (λu s2 h2=>hp _ h2) λu u z=>z) λu u z=>z) (hg ..) (ht ..) (Jh (X:=X.aU Zo scope (cellsFrom (hp1.objs.size+1) scope.names cl) (own++fr) fp hp1.objs.size s2 H2) rfl hu (he ..)) Tn iok (λρ H x=>x.kpS hfree) fok st tn0 hrun λs' c'=>?_
  obtain⟨σ4,H4,ρ4,cs,I4,x4,j4,ev4,ha4,cl4,fr4⟩:=c'.ex;obtain⟨m4,hn4,_⟩:=I4.loc;refine⟨m4,hn4,λh' hsb'=>?_⟩
  have un:=zN I4.base hsb' hC;have ok4:=uW I4.hok hsb' I4.free;exact⟨.ref s2.heap.objs.size,H4,I2.call' (s':={ s' with heap:=h' }) (ch:=fp) (I4.os) un ok4 I4.bare (λb hb=>by obtain⟨_,g2,g3,g4,g5,g6⟩:=f2 b hb;exact⟨g4,g2,g5,g6⟩),rfl,Go.pure (a:=lf) g3 ρ4 H4 (.ref s2.heap.objs.size) (x4.ext hfree) j4 ⟨_,cs,rfl,ha4,cl4⟩⟩
 show codeAny _ _ (.compStart _ 0 (.ref it) (.ref s2.heap.objs.size) (compEnvC scope (cellsFrom (hp1.objs.size+1) scope.names cl) hp1.objs.size X.env)) _ _;exact Ej rfl rfl loop (Tn.self X.A 0 _ _ _ tn0 loop)
def HN(l:List D):Option D:=(cH l).map λts=>.lst ((zJ (rO ts)).map tupI)
theorem xW:∀{cs:List (Addr×List Int)},(∀c∈cs,c.1∉ρ/\H c.1=some (.tup (c.2.map V.int)))->Cvs mg ρ H (cs.map λc=>V.ref c.1) ((cs.map (·.2)).map tupI)
 |[],_=>.nil
 |c::cs,h=>.cons (.tup (h c Vm).1 (h c Vm).2 (Cvs.ints _)) (xW λx hx=>h x (Vq _ hx))
def FW
  (hh:X.A.handled=none) (hu:X.A.units+1<cLine) (hm:X.mg "sorted"=none) (hc:X.calm=true) (T:CompG X scope cl own js fr) (hi:DI X E t0 i0 fi)
  (hg:∀Zo m fp C s₂ H₂,DG (X.aU Zo scope (cellsFrom m scope.names cl) (own++fr) fp C s₂ H₂) E0 t0 fg) (ht:∀Zo m fp C s₂ H₂,DTs (X.aU Zo scope (cellsFrom m scope.names cl) (own++fr) fp C s₂ H₂) E0 f0 ft)
  (he:∀Zo m fp C s₂ H₂,DE (X.aU Zo scope (cellsFrom m scope.names cl) (own++fr) fp C s₂ H₂) E0 elt fe)
  (hs:∀y,foldedSetIterable i0 X.env y=pure y:=by intro _;rfl) (hgl:Gl X "sorted":=by rfl) :
  DE X E (.Call (.Name "sorted" p1) [.SetComp elt [⟨t0,i0,f0,0⟩] scope pos] [] pos1) (λδ=>(fi δ>>=λit=>dB (cA fg ft (lu fe) it (aO own.length js δ) [])>>=λp=>pure p.2)>>=λl=>rd (λz=>HN l)):=
 ⟨PE.mono (Kf (xQ hh) hm (PX (JK hu hc T hi hg ht he hs) Hc) hgl) fun σ H Q h=>by
  obtain⟨ρ,δ,M,ev,j,g1⟩:=h;refine⟨ρ,δ,M,ev,j,g1.bind λρ1 H1 M1 x l e1 j1 c1 g2=>?_⟩
  obtain⟨acc,cs,rfl,ha,ts,h1,h2,h0,h3⟩:=c1;obtain⟨d,e,q⟩:=g2.rd;unfold HN at e;rw[h1]at e;cases e;have le:cs.length<=60:=by lia
  refine⟨acc,cs,rfl,ha,λc hc=>⟨(h3 c hc).1,(h3 c hc).2.2⟩,le,λl cs' hl pm es=>q ρ1 _ _ (.lay hl) (j1.lay _ hl) (.lst (j1.fresh hl) upd_same ?_)⟩
  rw[<-h2,<-es];exact (xW λc hc=>(h3 c (pm.mem_iff.mp hc)).2).mono (.lay hl)⟩
end L3
namespace L2
open PySem PySem.Spec PyProof.Rows LS LA LB
end L2
namespace L3
open PySem PySem.Spec L2 LA LB
end L3
namespace L3
open PySem PySem.Spec L2
open PyProof.Rows hiding St
end L3
namespace L3
open PySem PySem.Spec PyProof.Rows L2
abbrev TB(K:PySem.W.Frag)(x:Str):Prop:=PySem.W.nsIn K mainGlobals x=some none
def TD(K:PySem.W.Frag)(x:Str)(st:Stmt):Prop:=∀{h:Heap}{mg:Mg},K.In h->h.Ns mainGlobals mg->DefAt K mg x st
section
variable{K:PySem.W.Frag}{x:Str}{st:Stmt}{f:Addr}{oc:Value}{od an:Option Addr}{osl:Array (Option Value)}{kV doc pm cdv ct:Value}
def Sq(a:PySem.W.nsIn K mainGlobals x=some (some (.ref f)))(l:K.lookup f=some ⟨oc,od,.func (PySem.W.fnOf x x (defArgs st) (defBody st) (defScope st) .none kV doc pm an cdv ct),osl⟩)(c:PySem.W.codeIn K cdv x=true)(k:PySem.W.keepIn K (.ref f)=true):TD K x st:=
 λX G=>Jc X G a l c k
end
section
variable{P:Program}{w:World}{K:PySem.W.Frag}{mg:Mg}{base:Heap}{k:Nat}{C:Addr}{c x qual:Str}{N ps:List Str}{st:Stmt}{fb:aj->DM Fl}{is:List Int}
def okd(T:DefAt K mg x st)(S:FnScope N ps (defScope st))(hbody:∀{f cdv A outer s H E},Rm k A x st s f cdv->Ds P w K mg base N x st f cdv A outer s H E fb)
  (hb:∀(kV doc pm:Value) (an:Option Addr) (cdv ct:Value) (us:List Value),us.length=ps.length->bindArgs (PySem.W.fnOf x x (defArgs st) (defBody st) (defScope st) .none kV doc pm an cdv ct) ⟨us,[]⟩=pure (ps.zip us):=by intro _ _ _ _ _ _ us hl;first | (obtain⟨_,rfl⟩:=sU hl;rfl) | (obtain⟨_,_,rfl⟩:=O5 hl;rfl) | (obtain⟨_,_,_,rfl⟩:=O6 hl;rfl) | (obtain⟨_,_,_,_,rfl⟩:=O7 hl;rfl)) :
  DefD P w K mg base (k+1) x ps (aF ps.length N.length fb):=L3.DefAt.okD T S hb λz z z z z z z=>hbody
def okn(fb:Nat->aj->DM Fl)(T:DefAt K mg x st)(S:FnScope N ps (defScope st))(hf:∀ds M r,F ds M=some r->∃n,aF ps.length N.length (fb n) ds M=some r)(hbody:∀n {f cdv A outer s H E},Rm k A x st s f cdv->Ds P w K mg base N x st f cdv A outer s H E (fb n))
  (hb:∀(kV doc pm:Value) (an:Option Addr) (cdv ct:Value) (us:List Value),us.length=ps.length->bindArgs (PySem.W.fnOf x x (defArgs st) (defBody st) (defScope st) .none kV doc pm an cdv ct) ⟨us,[]⟩=pure (ps.zip us):=by intro _ _ _ _ _ _ us hl;first | (obtain⟨_,rfl⟩:=sU hl;rfl) | (obtain⟨_,_,rfl⟩:=O5 hl;rfl) | (obtain⟨_,_,_,rfl⟩:=O6 hl;rfl) | (obtain⟨_,_,_,_,rfl⟩:=O7 hl;rfl)) :
  DefD P w K mg base (k+1) x ps F:=L3.DefAt.okN T S hb hf λn z z z z z z z=>hbody n
def PB(T:MethAt K C x qual st)(m:mg c=some (.ref C))(cl:L2.Cls K C)(S:FnScope N ps (defScope st))(hbody:∀{f cdv A outer s H E},Rm k A qual st s f cdv->Ds P w K mg base N qual st f cdv A outer s H E fb):MethD P w K mg base (k+1) c x qual st ps (aF ps.length N.length fb):=L3.MethAt.okD T m cl S λz z z z z z z=>hbody
end
end L3
namespace LA
open PySem PySem.W PySem.Calls LS PyProof.Rows LB
end LA
namespace L2
open PySem PySem.Spec PyProof.Rows LS LA LB
end L2
namespace L3
open PySem PySem.Spec L2 LA LB LS
open PyProof.Rows hiding St
end L3
namespace L3
open PySem PySem.Spec L2
open PyProof.Rows hiding St
set_option tactic.hygienic true in
def Ay(ht:Ii tg)(hg:Gl X "zip")(hm:X.mg "zip"=none)(ha:DA X E [a,b] fa)(hs:notStar a=true:=by rfl)(hs2:notStar b=true:=by rfl):
  DI X E tg (.Call (.Name "zip" p) [a,b] [] pos) (λδ=>fa δ>>=λl=>opt (qF l)):=⟨by
 intro Zo s σ H R I h;obtain⟨ρ,δ,M,ev,j,g1⟩:=h;refine Call_ (ld_blt I hg hm boot_zip (Wi (thn (ha.h.h pos Zo s σ H (λvs H1=>∃ρ1 M1 ds,Ext ρ H ρ1 H1/\J X.mg ρ1 M1 H1/\Cvs X.mg ρ1 H1 vs ds/\Go X.mg E (ItOk X.mg) R ρ1 H1 (opt (qF ds)) M1) I ⟨ρ,δ,M,ev,j,g1.bind λρ1 H1 M1 vs ds e1 j1 c1 g2=>⟨ρ1,M1,ds,e1,j1,c1,g2⟩⟩) λus s1 h1=>?_) (bu hs) (by rw[bu hs2];rfl)))
 obtain⟨vs,H1,I1,rv,ρ1,M1,ds,e1,j1,c1,g2⟩:=h1;obtain⟨itn,ei,q⟩:=g2.opt;unfold qF at ei;split at ei;rotate_left
 ·cases ei
 rename_i dx dy;split at ei;rotate_left
 ·cases ei
 rename_i b1 l b2 m f1 f2;cases ei;obtain⟨v1,v2,rfl,k1,k2⟩:=c1.two;obtain⟨a1,xs,rfl,n1,h1,cx⟩:=yx (K:=X.K) k1 f1;obtain⟨a2,ys,rfl,n2,h2,cy⟩:=yx (K:=X.K) k2 f2;obtain⟨u1,u2,rfl,r1,r2⟩:=vals2 rv;cases r1;cases r2;obtain⟨its1,w1,p1,_⟩:=I1.seqS (o7 (K:=X.K) h1);obtain⟨its2,w2,p2,_⟩:=I1.seqS (o7 (K:=X.K) h2);refine Fw p1 p2 λh' a1' a2' a3 a4 a5 a6 a7=>wpAny_pyIter_zip a1' ?_
 have lt1:@LT.lt Nat _ a1 s1.heap.objs.size:=p1.lt;have lt2:@LT.lt Nat _ a2 s1.heap.objs.size:=p2.lt;have D:ZipApart (s1.heap.objs.size+4) (s1.heap.objs.size+2) (s1.heap.objs.size+3) s1.heap.objs.size (s1.heap.objs.size+1) a1 a2:=by constructor<;>exact λ(h:@Eq Nat _ _)=>by have:=lt1;have:=lt2;lia
 have I2:Inv X Zo σ H1 { s1 with heap:=h' }:=I1.kept (t':=s1.toks) a7
 refine⟨_,_,_,_,H1,rfl,I2,H8 ht D,⟨⟨_,_,a1',.inl rfl⟩,a2',⟨_,_,a3⟩,a4.1,a5.1⟩,λb hb=>?_,q ρ1 H1 _ .refl j1 (OD n1 n2 h1 h2 cx cy)⟩
 refine I1.fpOk ?_ (I1.hok.fresh ?_)<;>(simp only[List.mem_cons,List.mem_nil_iff,or_false]at hb;rcases hb with rfl | rfl | rfl | rfl | rfl<;>lia)⟩
def K3(hg:Gl X "zip")(hm:X.mg "zip"=none)(ha:DA X E [a,b] fa)(hs:notStar a=true:=by rfl)(hs2:notStar b=true:=by rfl):
  DI X E (.Name nm tp) (.Call (.Name "zip" p) [a,b] [] pos) (λδ=>fa δ>>=λl=>opt (qF l)):=Ay (.inl ⟨_,_,rfl⟩) hg hm ha hs hs2
def K4(hg:Gl X "zip")(hm:X.mg "zip"=none)(ha:DA X E [a,b] fa)(hs:notStar a=true:=by rfl)(hs2:notStar b=true:=by rfl):
  DI X E (.Tuple elts kt tp) (.Call (.Name "zip" p) [a,b] [] pos) (λδ=>fa δ>>=λl=>opt (qF l)):=Ay (.inr ⟨_,_,_,rfl⟩) hg hm ha hs hs2
end L3
namespace L3
open PySem PySem.Spec L2 LB
end L3
namespace L3
open PySem PySem.Spec L2
open PyProof.Rows hiding St
section
variable{X:Cx}{E:XK}{a:Expr}{fa:aj->DM D}{fs:aj->DM (List D)}{pos p1 p2 p3 p4:Pos}
def vV:D->D->Mo->Option D
 |.tup l,.tup [],_=>some (.bl l.isEmpty)
 |_,_,_=>none
def LR(hu:X.A.units+64<cLine):OpR X (compareOp .Eq) (λx y H Q=>∃a b xs,x=.ref a/\y=.ref b/\H a=some (.tup xs)/\H b=some (.tup [])/\Q (.bl xs.isEmpty) H):=by
 intro Zo s σ H x y v u Q I rx ry h;obtain⟨a,b,xs,rfl,rfl,ha,hb,q⟩:=h;cases rx;cases ry;obtain⟨i1,r1,h1,_⟩:=I.tuple (SqT.of (K:=X.K) ha);obtain⟨i2,r2,h2,_⟩:=I.tuple (SqT.of (K:=X.K) hb);cases r2;refine PySem.SeqAt.RcAt.tuples (e:=λz=>true) h1 h2 (by lia) (λj z j2=>absurd j2 (Nat.not_lt_zero _)) _ _ _ _ ?_
 refine⟨.bl xs.isEmpty,H,I,?_,q⟩;cases r1<;>rfl
def LQ(hu:X.A.units + 64<cLine):bF X E (compareOp .Eq) (λx y=>rd (vV x y)):=bF.of (LR hu) λx y H Q ρ M dx dy d j cx cy e q=>by
 unfold vV at e;split at e
 ·cases e;cases cx with
  | tup n1 h1 c1=>
    cases cy with
    |tup n2 h2 c2=>cases c2;refine⟨_,_,_,rfl,rfl,h1,h2,?_⟩;rw[c1.empty];exact q ρ H _ .refl j (.bl _)
 ·cases e
def JP:D->Option D
 |.tup l=>some (.tup l.reverse)
 |_=>none
def N5{i:Nat}(ha:DE X E a fa):DE X E (.Subscript a (.Slice none none (some (.UnaryOp .USub (.Constant (.int 1) i p3) p4)) p2) pos) (λδ=>fa δ>>=λx=>opt (JP x)):=⟨PE.mono (PP ha.h) λσ H Q h=>by
 obtain⟨ρ,δ,M,ev,j,g1⟩:=h;refine⟨ρ,δ,M,ev,j,g1.bind λρ1 H1 M1 x dx e1 j1 c1 g2=>?_⟩
 obtain⟨d,ed,q⟩:=g2.opt;unfold JP at ed;split at ed
 ·cases ed;cases c1 with
  |tup n h c=>exact⟨_,_,rfl,h,λp hp=>q ρ1 _ _ (.lay hp) (j1.lay _ hp) (.tup (j1.fresh hp) upd_same (c.reverse.mono (.lay hp)))⟩
 ·cases ed⟩
def nb(b:Bool):Int:=if b=true then 1 else 0
def Ik:D->D->Mo->Option D
 |.int i,.int j,_=>some (.int (i+j))
 |.bl b,.int j,_=>some (.int (nb b+j))
 |_,_,_=>none
def subB:D->D->Mo->Option D
 |.int i,.int j,_=>some (.int (i-j))
 |.bl b,.int j,_=>some (.int (nb b-j))
 |.int i,.bl b,_=>some (.int (i-nb b))
 |_,_,_=>none
def Bx:bF X E (binaryOp .Add) (λx y=>rd (Ik x y)):=by
 have h:OpR X (binaryOp .Add) (λx y H Q=>∃b j,x=.bl b/\y=.int j/\Q (.int (nb b+j)) H):=by intro Zo s σ H x y v u Q I rx ry h;obtain⟨b,j,rfl,rfl,q⟩:=h;cases rx;obtain⟨t,rfl⟩:=ry;exact PySem.IntBool.add_bool_int ⟨.int _,H,I.tok _,⟨_,rfl⟩,q⟩
 refine bF.of (op_add.or h) λx y H Q ρ M dx dy d j cx cy e q=>?_
 unfold Ik at e;split at e
 ·cases e;cases cx;cases cy;exact .inl ⟨_,_,rfl,rfl,q ρ H _ .refl j (.int _)⟩
 ·cases e;cases cx;cases cy;exact .inr ⟨_,_,rfl,rfl,q ρ H _ .refl j (.int _)⟩
 ·cases e
def BK:bF X E (binaryOp .Sub) (λx y=>rd (subB x y)):=by
 have h:OpR X (binaryOp .Sub) (λx y H Q=>∃b j,x=.bl b/\y=.int j/\Q (.int (nb b-j)) H):=by intro Zo s σ H x y v u Q I rx ry h;obtain⟨b,j,rfl,rfl,q⟩:=h;cases rx;obtain⟨t,rfl⟩:=ry;exact PySem.IntBool.sub_bool_int ⟨.int _,H,I.tok _,⟨_,rfl⟩,q⟩
 have h':OpR X (binaryOp .Sub) (λx y H Q=>∃i b,x=.int i/\y=.bl b/\Q (.int (i-nb b)) H):=by intro Zo s σ H x y v u Q I rx ry h;obtain⟨i,b,rfl,rfl,q⟩:=h;cases ry;obtain⟨t,rfl⟩:=rx;exact PySem.IntBool.sub_int_bool ⟨.int _,H,I.tok _,⟨_,rfl⟩,q⟩
 refine bF.of (op_sub.or (h.or h')) λx y H Q ρ M dx dy d j cx cy e q=>?_
 unfold subB at e;split at e
 ·cases e;cases cx;cases cy;exact .inl ⟨_,_,rfl,rfl,q ρ H _ .refl j (.int _)⟩
 ·cases e;cases cx;cases cy;exact .inr (.inl ⟨_,_,rfl,rfl,q ρ H _ .refl j (.int _)⟩)
 ·cases e;cases cx;cases cy;exact .inr (.inr ⟨_,_,rfl,rfl,q ρ H _ .refl j (.int _)⟩)
 ·cases e
def Ge{st:List Stmt}:DSs X E st (λz=>stuck):=⟨by intro Zo s σ H D I h;obtain⟨ρ,δ,M,ev,j,g1⟩:=h;obtain⟨r,e,_⟩:=g1;cases e⟩
end
end L3
namespace L2
open PySem PySem.Spec PyProof.Rows LS
end L2
namespace L3
open PySem PySem.Spec L2
end L3
namespace L3
open PySem PySem.Spec L2 PyProof.Rows
end L3
namespace L3
open PySem PySem.Spec L2
open PyProof.Rows hiding St
abbrev AT:=L2.St->Rh->Hp->Prop
def tA(An:AT)(mg:Str->Option Value)(E:XK)(f:aj->DM D):TE:=λσ H Q=>∃ρ δ M,An σ ρ H/\Ev mg ρ H σ δ/\J mg ρ M H/\Go mg E (Cv mg) Q ρ H (f δ) M
open PySem PySem.Spec L2
open PyProof.Rows hiding St
end L3
namespace L2
open PySem PySem.Spec PyProof.Rows LS
end L2
namespace L3
open PySem PySem.Spec L2
open PyProof.Rows hiding St
open PySem PySem.Spec L2
open PyProof.Rows hiding St
end L3
namespace L3
open PySem PySem.Spec L2
open PyProof.Rows hiding St
def Jx:D->D->Mo->Option D
 |.tup [c],.int k,_=>if decide (0<=k/\k<=1000) then some (.tup (List.replicate k.toNat c)) else none
 |_,_,_=>none
set_option tactic.hygienic true in
def vh{X:Cx}{E:XK}:bF X E (binaryOp .Mult) (λx y=>rd (Jx x y)):=bF.of Mj λx y H Q ρ M dx dy d j cx cy e q=>by
 unfold Jx at e;split at e
 ·split at e
  ·rename_i hk;have hk:=V3 hk;cases e;cases cy;cases cx with | tup n a c=>cases c with | cons c1 c2=>
   cases c2;refine⟨_,_,_,rfl,rfl,a,hk.1,hk.2,λp H' S hp=>?_⟩
   exact q ρ H' _ (.same S) (j.same S) (.tup ((j.same S).notup hp) hp ((Cvs.rep c1 _).mono (.same S)))
  ·cases e
 ·cases e
def zr{c k:Nat}(h:k<=1000):(rd (Jx (nT [c]) (nD k)):DM D)=pure (nT (List.replicate k c)):=bK λM=>by
 show (if decide (0<=(k:Int)/\(k:Int)<=1000) then some (D.tup (List.replicate (k:Int).toNat (nD c))) else none)=_
 rw[U5 (Vh ⟨by lia,by lia⟩),We,nT,List.map_replicate]
end L3
namespace L3
open PySem PySem.Spec PyProof.Rows L2
def Rf{K:PySem.W.Frag}{C:Addr}{x qual:Str}{st:Stmt}{f:Addr}{oc:Value}{od an:Option Addr}{osl:Array (Option Value)}{kV doc pm cdv ct:Value}(n:Nat){ps:List Str}{i:Int}{tk:Tok}(hn:ps.length=n+1)(a:PySem.W.findIn K (.ref C) x=some (some (.ref f)))(r:PySem.W.isFn K (.ref f)=true)
  (l:K.lookup f=some ⟨oc,od,.func (PySem.W.fnOf x qual (defArgs st) (defBody st) (defScope st) .none kV doc pm an cdv ct),osl⟩) (c:PySem.W.codeIn K cdv qual=true) (k:PySem.W.keepIn K (.ref f)=true)
  (b:∀(S:PySem.Setting) (us:List Value),us.length=n->PySem.W.peek K S (bindArgs (PySem.W.fnOf x qual (defArgs st) (defBody st) (defScope st) .none kV doc pm an cdv ct) ⟨us,[]⟩)=some (ps.zip (us++[.int i tk]))):MethAtF K C x qual st ps [i]:=
 ⟨f,_,_,fun_mk l c k,a,r,CP (ds:=[.int i tk]) n hn b,JW⟩
def Tt{P:Program}{w:World}{K:PySem.W.Frag}{mg:Mg}{base:Heap}{k:Nat}{C:Addr}{c x qual:Str}{N ps:List Str}{st:Stmt}{fb:aj->DM Fl}{is:List Int}(T:MethAtF K C x qual st ps is)(m:mg c=some (.ref C))(cl:L2.Cls K C)(S:FnScope N ps (defScope st))(hbody:∀{f cdv A outer s H E},Rm k A qual st s f cdv->Ds P w K mg base N qual st f cdv A outer s H E fb):MethF P w K mg base (k+1) c x ps (is.map D.int) (aF ps.length N.length fb):=L3.MethAtF.okD T m cl S λz z z z z z z=>hbody
end L3
namespace N10
end N10
namespace N60
def SR(f:Nat->Int):Nat->Nat->Int
 |_,0=>0
 |k,n+1=>f k+SR f (k+1) n
theorem EY{f g h:Nat->Int}{p q d:Int}:∀ (n k:Nat),(∀ j,k<=j->j<k + n->d * f j=g j * p - q * h j)->d * SR f k n=SR g k n * p - q * SR h k n
 |0,k,_=>by simp[SR]
 |n+1,k,e=>by
   have e1:=e k (U0 _) (by lia)
   have e2:=EY n (k+1) λj h1 h2=>e j (by lia) (by lia)
   simp only[SR]
   grind
theorem pD{f:Nat->Int}:∀ (n k:Nat),(∀ j,k<=j->j<k + n->f j<=0)->SR f k n<=0
 |0,k,_=>by simp[SR]
 |n+1,k,e=>by
   have e1:=e k (U0 _) (by lia)
   have e2:=pD n (k+1) λj h1 h2=>e j (by lia) (by lia)
   simp only[SR]
   lia
theorem J2{f:Nat->Int}:∀ (n k i:Nat),(∀ j,k<=j->j<k + n->f j<=0)->k<=i->i<k + n->SR f k n<=f i
 |0,k,i,_,h1,h2=>by lia
 | n + 1,k,i,e,h1,h2=>by
   have e1:=e k (U0 _) (by lia)
   simp only[SR];by_cases c:i=k
   ·subst c;have:=pD n (i+1) λj h1 h2=>e j (by lia) (by lia)
    lia
   ·have:=J2 n (k+1) i (λj h1 h2=>e j (by lia) (by lia)) (by lia) (by lia)
    lia
inductive RL(B:Nat->Nat->Int)(k n:Nat):Nat->Prop
 |leak {i:Nat}:0<SR (B i) k n->RL B k n i
 |step {i j:Nat}:k<=j->j<k+n->i≠j->B i j<0->RL B k n j->RL B k n i
structure MS(B:Nat->Nat->Int)(k n:Nat):Prop where
 off:∀i j,k<=i->i<k+n->k<=j->j<k+n->i≠j->B i j<=0
 sum:∀i,k<=i->i<k+n->0<=SR (B i) k n
 rch:∀i,k<=i->i<k+n->RL B k n i
def MS.pivot{B:Nat->Nat->Int}{k n:Nat}(h:MS B k (n + 1)):0<B k k:=by
 have np:∀j,k+1<=j->j<k+1+n->B k j<=0:=λj h1 h2=>h.off k j (U0 _) (by lia) (by lia) (by lia) (by lia)
 have r:=h.rch k (U0 _) (by lia)
 cases r with
 |leak l=>
   simp only[SR]at l;have:=pD n (k+1) np
   lia
 | @step _ j h1 h2 ne lt _=>
   have a:=J2 n (k+1) j np (by lia) (by lia)
   have s:=h.sum k (U0 _) (by lia)
   simp only[SR]at s
   lia
def GF{d x:Int}(hd:0<d)(h:d*x<0):x<0:=by
 rcases Int.lt_or_le x 0 with c | c
 ·exact c
 ·have:=XN (Zc hd) c;lia
def GZ{d x:Int}(hd:0<d)(h:d*x<=0):x<=0:=by
 rcases Int.lt_or_le 0 x with c | c
 ·have:=YM hd c;lia
 ·exact c
def GX{d x:Int}(hd:0<d)(h:0<=d*x):0<=x:=by
 rcases Int.lt_or_le x 0 with c | c
 ·have:=YM hd (show 0 < -x by lia);rw[Int.mul_neg]at this;lia
 ·exact c
def Hb{d x:Int}(hd:0<d)(h:0<d*x):0<x:=by
 rcases Int.lt_or_le 0 x with c | c
 ·exact c
 ·have:=XN (Zc hd) (show 0<=-x by lia);rw[Int.mul_neg]at this;lia
set_option tactic.hygienic true in
theorem MS.step{B B':Nat->Nat->Int}{k n:Nat}{d:Int}(h:MS B k (n + 1))(hd:0<d)(e:∀ i j,k + 1<=i->i<k + 1 + n->k + 1<=j->j<k + 1 + n->d * B' i j=B i j * B k k - B i k * B k j):MS B' (k + 1) n:=by
 have p:=h.pivot;have lk:=h.sum k (U0 _) (by lia)
 have ik:∀i,k+1<=i->i<k+1+n->B i k<=0:=λi h1 h2=>h.off i k (by lia) (by lia) (U0 _) (by lia) (by lia)
 have kj:∀i,k+1<=i->i<k+1+n->B k i<=0:=λi h1 h2=>h.off k i (U0 _) (by lia) (by lia) (by lia) (by lia)
 have es:∀i,k+1<=i->i<k+1+n->d*SR (B' i) (k+1) n=SR (B i) k (n+1)*B k k-B i k*SR (B k) k (n+1):=λi h1 h2=>by
  have:=EY (f:=B' i) (g:=B i) (h:=B k) (p:=B k k) (q:=B i k) (d:=d) n (k+1) λj h3 h4=>e i j h1 h2 h3 h4
  simp only[SR]
  grind
 have li:∀i,k+1<=i->i<k+1+n->0<=SR (B i) k (n+1)*B k k:=λi h1 h2=>XN (h.sum i (by lia) (by lia)) (Zc p)
 have lq:∀i,k+1<=i->i<k+1+n->B i k*SR (B k) k (n+1)<=0:=λi h1 h2=>by
  have:=XN (show 0<=-B i k by have:=ik i h1 h2;lia) lk
  rw[Int.neg_mul]at this;lia
 have pq:∀i j,k+1<=i->i<k+1+n->k+1<=j->j<k+1+n->0<=B i k*B k j:=λi j h1 h2 h3 h4=>by
  have:=XN (show 0<=-B i k by have:=ik i h1 h2;lia) (show 0<=-B k j by have:=kj j h3 h4;lia)
  rw[Int.neg_mul_neg]at this;exact this
 have op:∀i j,k+1<=i->i<k+1+n->k+1<=j->j<k+1+n->i≠j->B i j*B k k<=0:=λi j h1 h2 h3 h4 ne=>by
  have:=XN (show 0<=-B i j by have:=h.off i j (by lia) (by lia) (by lia) (by lia) ne;lia) (Zc p)
  rw[Int.neg_mul]at this;lia
 have off':∀i j,k+1<=i->i<k+1+n->k+1<=j->j<k+1+n->i≠j->B' i j<=0:=λi j h1 h2 h3 h4 ne=>GZ hd (by rw[e i j h1 h2 h3 h4];have:=op i j h1 h2 h3 h4 ne;have:=pq i j h1 h2 h3 h4;lia)
 refine⟨off',λi h1 h2=>GX hd (by rw[es i h1 h2];have:=li i h1 h2;have:=lq i h1 h2;lia),?_⟩
 have key:∀ i,RL B k (n + 1) i->k<=i->i<k + 1 + n->(k + 1<=i->RL B' (k + 1) n i)/\(i=k->0<SR (B k) k (n + 1)\/∃ j,k + 1<=j/\j<k + 1 + n/\B k j<0/\RL B' (k + 1) n j):=by
  intro i r;induction r with
  |leak l=>
    rename_i i;intro h1 h2;refine⟨λh3=>.leak (Hb hd ?_),λh3=>.inl (h3 ▸ l)⟩
    rw[es i h3 h2];have:=YM l p;have:=lq i h3 h2
    lia
  | step g1 g2 ne lt r ih=>
    rename_i i j;intro h1 h2;have ihj:=ih g1 (by lia)
    refine⟨λh3=>?_,λh3=>?_⟩
    ·by_cases c:j=k
     ·rcases ihj.2 c with z | ⟨j',a1,a2,a3,a4⟩
      ·refine .leak (Hb hd ?_);rw[es i h3 h2];have:=li i h3 h2;have:=YM (show 0 < -B i k by rw[c]at lt;lia) z
       rw[Int.neg_mul]at this
       lia
      ·by_cases c2:i=j'
       ·rw[c2];exact a4
       ·refine .step a1 a2 c2 (GF hd ?_) a4;rw[e i j' h3 h2 a1 a2];have:=op i j' h3 h2 a1 a2 c2;have:=YM (show 0 < -B i k by rw[c]at lt;lia) (show 0 < -B k j' by lia)
        rw[Int.neg_mul_neg]at this
        lia
     ·refine .step (by lia) (by lia) ne (GF hd ?_) (ihj.1 (by lia))
      rw[e i j h3 h2 (by lia) (by lia)]
      have:=pq i j h3 h2 (by lia) (by lia)
      have:=YM (show 0 < -B i j by lia) p
      rw[Int.neg_mul]at this
      lia
    ·have jk:k+1<=j:=by clear ihj ih;lia
     have jn:j<k+1+n:=by clear ihj ih;lia
     exact .inr ⟨j,jk,jn,h3 ▸ lt,ihj.1 jk⟩
 exact λi h1 h2=>(key i (h.rch i (by lia) (by lia)) (by lia) h2).1 h1
def D2(A:Nat->Nat->Int)(i j:Nat):Int:=A i j*A 0 0-A i 0*A 0 j
def D3(A:Nat->Nat->Int)(i j:Nat):Int:=A 0 0*(A 1 1*A i j-A 1 j*A i 1)-A 0 1*(A 1 0*A i j-A 1 j*A i 0)+A 0 j*(A 1 0*A i 1-A 1 1*A i 0)
def d3(a b c d e f g h i:Int):Int:=a*(e*i-f*h)-b*(d*i-f*g)+c*(d*h-e*g)
def D4(A:Nat->Nat->Int)(i j:Nat):Int:=
 A 0 0*d3 (A 1 1) (A 1 2) (A 1 j) (A 2 1) (A 2 2) (A 2 j) (A i 1) (A i 2) (A i j)-A 0 1*d3 (A 1 0) (A 1 2) (A 1 j) (A 2 0) (A 2 2) (A 2 j) (A i 0) (A i 2) (A i j)
 + A 0 2*d3 (A 1 0) (A 1 1) (A 1 j) (A 2 0) (A 2 1) (A 2 j) (A i 0) (A i 1) (A i j)-A 0 j*d3 (A 1 0) (A 1 1) (A 1 2) (A 2 0) (A 2 1) (A 2 2) (A i 0) (A i 1) (A i 2)
def e3(A:Nat->Nat->Int)(i j:Nat):A 0 0*D3 A i j=D2 A i j*D2 A 1 1-D2 A i 1*D2 A 1 j:=by unfold D3 D2;grind
def e4(A:Nat->Nat->Int)(i j:Nat):D2 A 1 1*D4 A i j=D3 A i j*D3 A 2 2-D3 A i 2*D3 A 2 j:=by unfold D4 D3 D2 d3;grind
def jm(A:Nat->Nat->Int):Nat->Int
 |0=>1
 |1=>A 0 0
 |2=>D2 A 1 1
 |3=>D3 A 2 2
 |_=>D4 A 3 3
def MS.two{A:Nat->Nat->Int}{n:Nat}(h:MS A 0 (n+1)):MS (D2 A) 1 n:=h.step (d:=1) (by decide) λi j z z z z=>by unfold D2;lia
def MS.three{A:Nat->Nat->Int}{n:Nat}(h:MS A 0 (n+2)):MS (D3 A) 2 n:=(MS.two (n:=n+1) h).step (d:=A 0 0) (MS.pivot (n:=n+1) h) λi j z z z z=>e3 A i j
def MS.four{A:Nat->Nat->Int}{n:Nat}(h:MS A 0 (n+3)):MS (D4 A) 3 n:=(MS.three (n:=n+1) h).step (d:=D2 A 1 1) (MS.pivot (n:=n+1) (MS.two (n:=n+2) h)) λi j z z z z=>e4 A i j
def Kw{A:Nat->Nat->Int}:∀{m:Nat},m<=4->MS A 0 m->0<jm A m
 |0,_,_=>by show (0:Int)<1;decide
 |1,_,h=>h.pivot
 |2,_,h=>(MS.two (n:=1) h).pivot
 |3,_,h=>(MS.three (n:=1) h).pivot
 |4,_,h=>(MS.four (n:=1) h).pivot
 |n+5,h,_=>by lia
def d4(a b c d e f g h i j k l m n o p:Int):Int:=a*d3 f g h j k l n o p-b*d3 e g h i k l m o p+c*d3 e f h i j l m n p-d*d3 e f g i j k m n o
def P0(l00 l01 l02 l03 l10 l11 l12 l13 l20 l21 l22 l23 l30 l31 l32 l33 l40 l41 l42 l43:Int):d4 (l10) (l11) (l12) (l13) (l20) (l21) (l22) (l23) (l30) (l31) (l32) (l33) (l40) (l41) (l42) (l43)*l00-d4 (l00) (l01) (l02) (l03) (l20) (l21) (l22) (l23) (l30) (l31) (l32) (l33) (l40) (l41) (l42) (l43)*l10+d4 (l00) (l01) (l02) (l03) (l10) (l11) (l12) (l13) (l30) (l31) (l32) (l33) (l40) (l41) (l42) (l43)*l20-d4 (l00) (l01) (l02) (l03) (l10) (l11) (l12) (l13) (l20) (l21) (l22) (l23) (l40) (l41) (l42) (l43)*l30+d4 (l00) (l01) (l02) (l03) (l10) (l11) (l12) (l13) (l20) (l21) (l22) (l23) (l30) (l31) (l32) (l33)*l40=0:=by unfold d4 d3;grind
def Qa(l00 l01 l02 l03 l10 l11 l12 l13 l20 l21 l22 l23 l30 l31 l32 l33 l40 l41 l42 l43:Int):d4 (l10) (l11) (l12) (l13) (l20) (l21) (l22) (l23) (l30) (l31) (l32) (l33) (l40) (l41) (l42) (l43)*l01-d4 (l00) (l01) (l02) (l03) (l20) (l21) (l22) (l23) (l30) (l31) (l32) (l33) (l40) (l41) (l42) (l43)*l11+d4 (l00) (l01) (l02) (l03) (l10) (l11) (l12) (l13) (l30) (l31) (l32) (l33) (l40) (l41) (l42) (l43)*l21-d4 (l00) (l01) (l02) (l03) (l10) (l11) (l12) (l13) (l20) (l21) (l22) (l23) (l40) (l41) (l42) (l43)*l31+d4 (l00) (l01) (l02) (l03) (l10) (l11) (l12) (l13) (l20) (l21) (l22) (l23) (l30) (l31) (l32) (l33)*l41=0:=by unfold d4 d3;grind
def Qc(l00 l01 l02 l03 l10 l11 l12 l13 l20 l21 l22 l23 l30 l31 l32 l33 l40 l41 l42 l43:Int):d4 (l10) (l11) (l12) (l13) (l20) (l21) (l22) (l23) (l30) (l31) (l32) (l33) (l40) (l41) (l42) (l43)*l02-d4 (l00) (l01) (l02) (l03) (l20) (l21) (l22) (l23) (l30) (l31) (l32) (l33) (l40) (l41) (l42) (l43)*l12+d4 (l00) (l01) (l02) (l03) (l10) (l11) (l12) (l13) (l30) (l31) (l32) (l33) (l40) (l41) (l42) (l43)*l22-d4 (l00) (l01) (l02) (l03) (l10) (l11) (l12) (l13) (l20) (l21) (l22) (l23) (l40) (l41) (l42) (l43)*l32+d4 (l00) (l01) (l02) (l03) (l10) (l11) (l12) (l13) (l20) (l21) (l22) (l23) (l30) (l31) (l32) (l33)*l42=0:=by unfold d4 d3;grind
def Qf(l00 l01 l02 l03 l10 l11 l12 l13 l20 l21 l22 l23 l30 l31 l32 l33 l40 l41 l42 l43:Int):d4 (l10) (l11) (l12) (l13) (l20) (l21) (l22) (l23) (l30) (l31) (l32) (l33) (l40) (l41) (l42) (l43)*l03-d4 (l00) (l01) (l02) (l03) (l20) (l21) (l22) (l23) (l30) (l31) (l32) (l33) (l40) (l41) (l42) (l43)*l13+d4 (l00) (l01) (l02) (l03) (l10) (l11) (l12) (l13) (l30) (l31) (l32) (l33) (l40) (l41) (l42) (l43)*l23-d4 (l00) (l01) (l02) (l03) (l10) (l11) (l12) (l13) (l20) (l21) (l22) (l23) (l40) (l41) (l42) (l43)*l33+d4 (l00) (l01) (l02) (l03) (l10) (l11) (l12) (l13) (l20) (l21) (l22) (l23) (l30) (l31) (l32) (l33)*l43=0:=by unfold d4 d3;grind
def Tf{l00 l01 l02 l03 l04 l10 l11 l12 l13 l14 l20 l21 l22 l23 l24 l30 l31 l32 l33 l34:Int}(h0:l00+l01+l02+l03+l04=0)(h1:l10+l11+l12+l13+l14=0)(h2:l20+l21+l22+l23+l24=0)(h3:l30+l31+l32+l33+l34=0):d4 (l01) (l02) (l03) (l04) (l11) (l12) (l13) (l14) (l21) (l22) (l23) (l24) (l31) (l32) (l33) (l34)=d4 (l00) (l01) (l02) (l03) (l10) (l11) (l12) (l13) (l20) (l21) (l22) (l23) (l30) (l31) (l32) (l33):=by
 obtain rfl:l04=-(l00+l01+l02+l03):=by lia
 obtain rfl:l14=-(l10+l11+l12+l13):=by lia
 obtain rfl:l24=-(l20+l21+l22+l23):=by lia
 obtain rfl:l34=-(l30+l31+l32+l33):=by lia
 unfold d4 d3;grind
def Th{l00 l01 l02 l03 l04 l10 l11 l12 l13 l14 l20 l21 l22 l23 l24 l30 l31 l32 l33 l34:Int}(h0:l00+l01+l02+l03+l04=0)(h1:l10+l11+l12+l13+l14=0)(h2:l20+l21+l22+l23+l24=0)(h3:l30+l31+l32+l33+l34=0):d4 (l00) (l02) (l03) (l04) (l10) (l12) (l13) (l14) (l20) (l22) (l23) (l24) (l30) (l32) (l33) (l34)=-d4 (l00) (l01) (l02) (l03) (l10) (l11) (l12) (l13) (l20) (l21) (l22) (l23) (l30) (l31) (l32) (l33):=by
 obtain rfl:l04=-(l00+l01+l02+l03):=by lia
 obtain rfl:l14=-(l10+l11+l12+l13):=by lia
 obtain rfl:l24=-(l20+l21+l22+l23):=by lia
 obtain rfl:l34=-(l30+l31+l32+l33):=by lia
 unfold d4 d3;grind
def Ti{l00 l01 l02 l03 l04 l10 l11 l12 l13 l14 l20 l21 l22 l23 l24 l30 l31 l32 l33 l34:Int}(h0:l00+l01+l02+l03+l04=0)(h1:l10+l11+l12+l13+l14=0)(h2:l20+l21+l22+l23+l24=0)(h3:l30+l31+l32+l33+l34=0):d4 (l00) (l01) (l03) (l04) (l10) (l11) (l13) (l14) (l20) (l21) (l23) (l24) (l30) (l31) (l33) (l34)=d4 (l00) (l01) (l02) (l03) (l10) (l11) (l12) (l13) (l20) (l21) (l22) (l23) (l30) (l31) (l32) (l33):=by
 obtain rfl:l04=-(l00+l01+l02+l03):=by lia
 obtain rfl:l14=-(l10+l11+l12+l13):=by lia
 obtain rfl:l24=-(l20+l21+l22+l23):=by lia
 obtain rfl:l34=-(l30+l31+l32+l33):=by lia
 unfold d4 d3;grind
def Tj{l00 l01 l02 l03 l04 l10 l11 l12 l13 l14 l20 l21 l22 l23 l24 l30 l31 l32 l33 l34:Int}(h0:l00+l01+l02+l03+l04=0)(h1:l10+l11+l12+l13+l14=0)(h2:l20+l21+l22+l23+l24=0)(h3:l30+l31+l32+l33+l34=0):d4 (l00) (l01) (l02) (l04) (l10) (l11) (l12) (l14) (l20) (l21) (l22) (l24) (l30) (l31) (l32) (l34)=-d4 (l00) (l01) (l02) (l03) (l10) (l11) (l12) (l13) (l20) (l21) (l22) (l23) (l30) (l31) (l32) (l33):=by
 obtain rfl:l04=-(l00+l01+l02+l03):=by lia
 obtain rfl:l14=-(l10+l11+l12+l13):=by lia
 obtain rfl:l24=-(l20+l21+l22+l23):=by lia
 obtain rfl:l34=-(l30+l31+l32+l33):=by lia
 unfold d4 d3;grind
def sk(x i:Nat):Nat:=if i<x then i else i+1
def wt(L:Nat->Nat->Int)(n x:Nat):Int:=jm (λi j=>L (sk x i) (sk x j)) (n-1)
def RQ{L:Nat->Nat->Int}(h0:L 0 0=0):wt L 1 0*L 0 0=0:=by
 simp only[wt,jm,D4,D3,D2,d3,sk,Nat.reduceLT,Nat.reduceAdd,Nat.reduceSub,if_true,if_false,Nat.lt_irrefl,Nat.not_lt_zero]
 grind
def RT{L:Nat->Nat->Int}(h0:L 0 0+L 0 1=0)(h1:L 1 0+L 1 1=0):wt L 2 0*L 0 0+wt L 2 1*L 1 0=0:=by
 simp only[wt,jm,D4,D3,D2,d3,sk,Nat.reduceLT,Nat.reduceAdd,Nat.reduceSub,if_true,if_false,Nat.lt_irrefl,Nat.not_lt_zero]
 grind
def RV{L:Nat->Nat->Int}(h0:L 0 0+L 0 1=0)(h1:L 1 0+L 1 1=0):wt L 2 0*L 0 1+wt L 2 1*L 1 1=0:=by
 simp only[wt,jm,D4,D3,D2,d3,sk,Nat.reduceLT,Nat.reduceAdd,Nat.reduceSub,if_true,if_false,Nat.lt_irrefl,Nat.not_lt_zero]
 grind
def RW{L:Nat->Nat->Int}(h0:L 0 0+L 0 1+L 0 2=0)(h1:L 1 0+L 1 1+L 1 2=0)(h2:L 2 0+L 2 1+L 2 2=0):wt L 3 0*L 0 0+wt L 3 1*L 1 0+wt L 3 2*L 2 0=0:=by
 simp only[wt,jm,D4,D3,D2,d3,sk,Nat.reduceLT,Nat.reduceAdd,Nat.reduceSub,if_true,if_false,Nat.lt_irrefl,Nat.not_lt_zero]
 grind
def RX{L:Nat->Nat->Int}(h0:L 0 0+L 0 1+L 0 2=0)(h1:L 1 0+L 1 1+L 1 2=0)(h2:L 2 0+L 2 1+L 2 2=0):wt L 3 0*L 0 1+wt L 3 1*L 1 1+wt L 3 2*L 2 1=0:=by
 simp only[wt,jm,D4,D3,D2,d3,sk,Nat.reduceLT,Nat.reduceAdd,Nat.reduceSub,if_true,if_false,Nat.lt_irrefl,Nat.not_lt_zero]
 grind
def RZ{L:Nat->Nat->Int}(h0:L 0 0+L 0 1+L 0 2=0)(h1:L 1 0+L 1 1+L 1 2=0)(h2:L 2 0+L 2 1+L 2 2=0):wt L 3 0*L 0 2+wt L 3 1*L 1 2+wt L 3 2*L 2 2=0:=by
 simp only[wt,jm,D4,D3,D2,d3,sk,Nat.reduceLT,Nat.reduceAdd,Nat.reduceSub,if_true,if_false,Nat.lt_irrefl,Nat.not_lt_zero]
 grind
def R0{L:Nat->Nat->Int}(h0:L 0 0+L 0 1+L 0 2+L 0 3=0)(h1:L 1 0+L 1 1+L 1 2+L 1 3=0)(h2:L 2 0+L 2 1+L 2 2+L 2 3=0)(h3:L 3 0+L 3 1+L 3 2+L 3 3=0):wt L 4 0*L 0 0+wt L 4 1*L 1 0+wt L 4 2*L 2 0+wt L 4 3*L 3 0=0:=by
 simp only[wt,jm,D4,D3,D2,d3,sk,Nat.reduceLT,Nat.reduceAdd,Nat.reduceSub,if_true,if_false,Nat.lt_irrefl,Nat.not_lt_zero]
 grind
def R1{L:Nat->Nat->Int}(h0:L 0 0+L 0 1+L 0 2+L 0 3=0)(h1:L 1 0+L 1 1+L 1 2+L 1 3=0)(h2:L 2 0+L 2 1+L 2 2+L 2 3=0)(h3:L 3 0+L 3 1+L 3 2+L 3 3=0):wt L 4 0*L 0 1+wt L 4 1*L 1 1+wt L 4 2*L 2 1+wt L 4 3*L 3 1=0:=by
 simp only[wt,jm,D4,D3,D2,d3,sk,Nat.reduceLT,Nat.reduceAdd,Nat.reduceSub,if_true,if_false,Nat.lt_irrefl,Nat.not_lt_zero]
 grind
def R3{L:Nat->Nat->Int}(h0:L 0 0+L 0 1+L 0 2+L 0 3=0)(h1:L 1 0+L 1 1+L 1 2+L 1 3=0)(h2:L 2 0+L 2 1+L 2 2+L 2 3=0)(h3:L 3 0+L 3 1+L 3 2+L 3 3=0):wt L 4 0*L 0 2+wt L 4 1*L 1 2+wt L 4 2*L 2 2+wt L 4 3*L 3 2=0:=by
 simp only[wt,jm,D4,D3,D2,d3,sk,Nat.reduceLT,Nat.reduceAdd,Nat.reduceSub,if_true,if_false,Nat.lt_irrefl,Nat.not_lt_zero]
 grind
def R4{L:Nat->Nat->Int}(h0:L 0 0+L 0 1+L 0 2+L 0 3=0)(h1:L 1 0+L 1 1+L 1 2+L 1 3=0)(h2:L 2 0+L 2 1+L 2 2+L 2 3=0)(h3:L 3 0+L 3 1+L 3 2+L 3 3=0):wt L 4 0*L 0 3+wt L 4 1*L 1 3+wt L 4 2*L 2 3+wt L 4 3*L 3 3=0:=by
 simp only[wt,jm,D4,D3,D2,d3,sk,Nat.reduceLT,Nat.reduceAdd,Nat.reduceSub,if_true,if_false,Nat.lt_irrefl,Nat.not_lt_zero]
 grind
def zP{L:Nat->Nat->Int}(h0:L 0 0+L 0 1+L 0 2+L 0 3+L 0 4=0)(h1:L 1 0+L 1 1+L 1 2+L 1 3+L 1 4=0)(h2:L 2 0+L 2 1+L 2 2+L 2 3+L 2 4=0)(h3:L 3 0+L 3 1+L 3 2+L 3 3+L 3 4=0)(h4:L 4 0+L 4 1+L 4 2+L 4 3+L 4 4=0):wt L 5 0=d4 (L 1 0) (L 1 1) (L 1 2) (L 1 3) (L 2 0) (L 2 1) (L 2 2) (L 2 3) (L 3 0) (L 3 1) (L 3 2) (L 3 3) (L 4 0) (L 4 1) (L 4 2) (L 4 3):=Tf h1 h2 h3 h4
def zQ{L:Nat->Nat->Int}(h0:L 0 0+L 0 1+L 0 2+L 0 3+L 0 4=0)(h1:L 1 0+L 1 1+L 1 2+L 1 3+L 1 4=0)(h2:L 2 0+L 2 1+L 2 2+L 2 3+L 2 4=0)(h3:L 3 0+L 3 1+L 3 2+L 3 3+L 3 4=0)(h4:L 4 0+L 4 1+L 4 2+L 4 3+L 4 4=0):wt L 5 1=-d4 (L 0 0) (L 0 1) (L 0 2) (L 0 3) (L 2 0) (L 2 1) (L 2 2) (L 2 3) (L 3 0) (L 3 1) (L 3 2) (L 3 3) (L 4 0) (L 4 1) (L 4 2) (L 4 3):=Th h0 h2 h3 h4
def zR{L:Nat->Nat->Int}(h0:L 0 0+L 0 1+L 0 2+L 0 3+L 0 4=0)(h1:L 1 0+L 1 1+L 1 2+L 1 3+L 1 4=0)(h2:L 2 0+L 2 1+L 2 2+L 2 3+L 2 4=0)(h3:L 3 0+L 3 1+L 3 2+L 3 3+L 3 4=0)(h4:L 4 0+L 4 1+L 4 2+L 4 3+L 4 4=0):wt L 5 2=d4 (L 0 0) (L 0 1) (L 0 2) (L 0 3) (L 1 0) (L 1 1) (L 1 2) (L 1 3) (L 3 0) (L 3 1) (L 3 2) (L 3 3) (L 4 0) (L 4 1) (L 4 2) (L 4 3):=Ti h0 h1 h3 h4
def zT{L:Nat->Nat->Int}(h0:L 0 0+L 0 1+L 0 2+L 0 3+L 0 4=0)(h1:L 1 0+L 1 1+L 1 2+L 1 3+L 1 4=0)(h2:L 2 0+L 2 1+L 2 2+L 2 3+L 2 4=0)(h3:L 3 0+L 3 1+L 3 2+L 3 3+L 3 4=0)(h4:L 4 0+L 4 1+L 4 2+L 4 3+L 4 4=0):wt L 5 3=-d4 (L 0 0) (L 0 1) (L 0 2) (L 0 3) (L 1 0) (L 1 1) (L 1 2) (L 1 3) (L 2 0) (L 2 1) (L 2 2) (L 2 3) (L 4 0) (L 4 1) (L 4 2) (L 4 3):=Tj h0 h1 h2 h4
def zU{L:Nat->Nat->Int}(h0:L 0 0+L 0 1+L 0 2+L 0 3+L 0 4=0)(h1:L 1 0+L 1 1+L 1 2+L 1 3+L 1 4=0)(h2:L 2 0+L 2 1+L 2 2+L 2 3+L 2 4=0)(h3:L 3 0+L 3 1+L 3 2+L 3 3+L 3 4=0)(h4:L 4 0+L 4 1+L 4 2+L 4 3+L 4 4=0):wt L 5 4=d4 (L 0 0) (L 0 1) (L 0 2) (L 0 3) (L 1 0) (L 1 1) (L 1 2) (L 1 3) (L 2 0) (L 2 1) (L 2 2) (L 2 3) (L 3 0) (L 3 1) (L 3 2) (L 3 3):=rfl
def R5{L:Nat->Nat->Int}(h0:L 0 0+L 0 1+L 0 2+L 0 3+L 0 4=0)(h1:L 1 0+L 1 1+L 1 2+L 1 3+L 1 4=0)(h2:L 2 0+L 2 1+L 2 2+L 2 3+L 2 4=0)(h3:L 3 0+L 3 1+L 3 2+L 3 3+L 3 4=0)(h4:L 4 0+L 4 1+L 4 2+L 4 3+L 4 4=0):wt L 5 0*L 0 0+wt L 5 1*L 1 0+wt L 5 2*L 2 0+wt L 5 3*L 3 0+wt L 5 4*L 4 0=0:=by
 rw[zP h0 h1 h2 h3 h4,zQ h0 h1 h2 h3 h4,zR h0 h1 h2 h3 h4,zT h0 h1 h2 h3 h4,zU h0 h1 h2 h3 h4];have:=P0 (L 0 0) (L 0 1) (L 0 2) (L 0 3) (L 1 0) (L 1 1) (L 1 2) (L 1 3) (L 2 0) (L 2 1) (L 2 2) (L 2 3) (L 3 0) (L 3 1) (L 3 2) (L 3 3) (L 4 0) (L 4 1) (L 4 2) (L 4 3);generalize d4 (L 1 0) (L 1 1) (L 1 2) (L 1 3) (L 2 0) (L 2 1) (L 2 2) (L 2 3) (L 3 0) (L 3 1) (L 3 2) (L 3 3) (L 4 0) (L 4 1) (L 4 2) (L 4 3)=v0 at *;generalize d4 (L 0 0) (L 0 1) (L 0 2) (L 0 3) (L 2 0) (L 2 1) (L 2 2) (L 2 3) (L 3 0) (L 3 1) (L 3 2) (L 3 3) (L 4 0) (L 4 1) (L 4 2) (L 4 3)=v1 at *;generalize d4 (L 0 0) (L 0 1) (L 0 2) (L 0 3) (L 1 0) (L 1 1) (L 1 2) (L 1 3) (L 3 0) (L 3 1) (L 3 2) (L 3 3) (L 4 0) (L 4 1) (L 4 2) (L 4 3)=v2 at *;generalize d4 (L 0 0) (L 0 1) (L 0 2) (L 0 3) (L 1 0) (L 1 1) (L 1 2) (L 1 3) (L 2 0) (L 2 1) (L 2 2) (L 2 3) (L 4 0) (L 4 1) (L 4 2) (L 4 3)=v3 at *;generalize d4 (L 0 0) (L 0 1) (L 0 2) (L 0 3) (L 1 0) (L 1 1) (L 1 2) (L 1 3) (L 2 0) (L 2 1) (L 2 2) (L 2 3) (L 3 0) (L 3 1) (L 3 2) (L 3 3)=v4 at *
 grind
def R6{L:Nat->Nat->Int}(h0:L 0 0+L 0 1+L 0 2+L 0 3+L 0 4=0)(h1:L 1 0+L 1 1+L 1 2+L 1 3+L 1 4=0)(h2:L 2 0+L 2 1+L 2 2+L 2 3+L 2 4=0)(h3:L 3 0+L 3 1+L 3 2+L 3 3+L 3 4=0)(h4:L 4 0+L 4 1+L 4 2+L 4 3+L 4 4=0):wt L 5 0*L 0 1+wt L 5 1*L 1 1+wt L 5 2*L 2 1+wt L 5 3*L 3 1+wt L 5 4*L 4 1=0:=by
 rw[zP h0 h1 h2 h3 h4,zQ h0 h1 h2 h3 h4,zR h0 h1 h2 h3 h4,zT h0 h1 h2 h3 h4,zU h0 h1 h2 h3 h4];have:=Qa (L 0 0) (L 0 1) (L 0 2) (L 0 3) (L 1 0) (L 1 1) (L 1 2) (L 1 3) (L 2 0) (L 2 1) (L 2 2) (L 2 3) (L 3 0) (L 3 1) (L 3 2) (L 3 3) (L 4 0) (L 4 1) (L 4 2) (L 4 3);generalize d4 (L 1 0) (L 1 1) (L 1 2) (L 1 3) (L 2 0) (L 2 1) (L 2 2) (L 2 3) (L 3 0) (L 3 1) (L 3 2) (L 3 3) (L 4 0) (L 4 1) (L 4 2) (L 4 3)=v0 at *;generalize d4 (L 0 0) (L 0 1) (L 0 2) (L 0 3) (L 2 0) (L 2 1) (L 2 2) (L 2 3) (L 3 0) (L 3 1) (L 3 2) (L 3 3) (L 4 0) (L 4 1) (L 4 2) (L 4 3)=v1 at *;generalize d4 (L 0 0) (L 0 1) (L 0 2) (L 0 3) (L 1 0) (L 1 1) (L 1 2) (L 1 3) (L 3 0) (L 3 1) (L 3 2) (L 3 3) (L 4 0) (L 4 1) (L 4 2) (L 4 3)=v2 at *;generalize d4 (L 0 0) (L 0 1) (L 0 2) (L 0 3) (L 1 0) (L 1 1) (L 1 2) (L 1 3) (L 2 0) (L 2 1) (L 2 2) (L 2 3) (L 4 0) (L 4 1) (L 4 2) (L 4 3)=v3 at *;generalize d4 (L 0 0) (L 0 1) (L 0 2) (L 0 3) (L 1 0) (L 1 1) (L 1 2) (L 1 3) (L 2 0) (L 2 1) (L 2 2) (L 2 3) (L 3 0) (L 3 1) (L 3 2) (L 3 3)=v4 at *
 grind
def R7{L:Nat->Nat->Int}(h0:L 0 0+L 0 1+L 0 2+L 0 3+L 0 4=0)(h1:L 1 0+L 1 1+L 1 2+L 1 3+L 1 4=0)(h2:L 2 0+L 2 1+L 2 2+L 2 3+L 2 4=0)(h3:L 3 0+L 3 1+L 3 2+L 3 3+L 3 4=0)(h4:L 4 0+L 4 1+L 4 2+L 4 3+L 4 4=0):wt L 5 0*L 0 2+wt L 5 1*L 1 2+wt L 5 2*L 2 2+wt L 5 3*L 3 2+wt L 5 4*L 4 2=0:=by
 rw[zP h0 h1 h2 h3 h4,zQ h0 h1 h2 h3 h4,zR h0 h1 h2 h3 h4,zT h0 h1 h2 h3 h4,zU h0 h1 h2 h3 h4];have:=Qc (L 0 0) (L 0 1) (L 0 2) (L 0 3) (L 1 0) (L 1 1) (L 1 2) (L 1 3) (L 2 0) (L 2 1) (L 2 2) (L 2 3) (L 3 0) (L 3 1) (L 3 2) (L 3 3) (L 4 0) (L 4 1) (L 4 2) (L 4 3);generalize d4 (L 1 0) (L 1 1) (L 1 2) (L 1 3) (L 2 0) (L 2 1) (L 2 2) (L 2 3) (L 3 0) (L 3 1) (L 3 2) (L 3 3) (L 4 0) (L 4 1) (L 4 2) (L 4 3)=v0 at *;generalize d4 (L 0 0) (L 0 1) (L 0 2) (L 0 3) (L 2 0) (L 2 1) (L 2 2) (L 2 3) (L 3 0) (L 3 1) (L 3 2) (L 3 3) (L 4 0) (L 4 1) (L 4 2) (L 4 3)=v1 at *;generalize d4 (L 0 0) (L 0 1) (L 0 2) (L 0 3) (L 1 0) (L 1 1) (L 1 2) (L 1 3) (L 3 0) (L 3 1) (L 3 2) (L 3 3) (L 4 0) (L 4 1) (L 4 2) (L 4 3)=v2 at *;generalize d4 (L 0 0) (L 0 1) (L 0 2) (L 0 3) (L 1 0) (L 1 1) (L 1 2) (L 1 3) (L 2 0) (L 2 1) (L 2 2) (L 2 3) (L 4 0) (L 4 1) (L 4 2) (L 4 3)=v3 at *;generalize d4 (L 0 0) (L 0 1) (L 0 2) (L 0 3) (L 1 0) (L 1 1) (L 1 2) (L 1 3) (L 2 0) (L 2 1) (L 2 2) (L 2 3) (L 3 0) (L 3 1) (L 3 2) (L 3 3)=v4 at *
 grind
def R8{L:Nat->Nat->Int}(h0:L 0 0+L 0 1+L 0 2+L 0 3+L 0 4=0)(h1:L 1 0+L 1 1+L 1 2+L 1 3+L 1 4=0)(h2:L 2 0+L 2 1+L 2 2+L 2 3+L 2 4=0)(h3:L 3 0+L 3 1+L 3 2+L 3 3+L 3 4=0)(h4:L 4 0+L 4 1+L 4 2+L 4 3+L 4 4=0):wt L 5 0*L 0 3+wt L 5 1*L 1 3+wt L 5 2*L 2 3+wt L 5 3*L 3 3+wt L 5 4*L 4 3=0:=by
 rw[zP h0 h1 h2 h3 h4,zQ h0 h1 h2 h3 h4,zR h0 h1 h2 h3 h4,zT h0 h1 h2 h3 h4,zU h0 h1 h2 h3 h4];have:=Qf (L 0 0) (L 0 1) (L 0 2) (L 0 3) (L 1 0) (L 1 1) (L 1 2) (L 1 3) (L 2 0) (L 2 1) (L 2 2) (L 2 3) (L 3 0) (L 3 1) (L 3 2) (L 3 3) (L 4 0) (L 4 1) (L 4 2) (L 4 3);generalize d4 (L 1 0) (L 1 1) (L 1 2) (L 1 3) (L 2 0) (L 2 1) (L 2 2) (L 2 3) (L 3 0) (L 3 1) (L 3 2) (L 3 3) (L 4 0) (L 4 1) (L 4 2) (L 4 3)=v0 at *;generalize d4 (L 0 0) (L 0 1) (L 0 2) (L 0 3) (L 2 0) (L 2 1) (L 2 2) (L 2 3) (L 3 0) (L 3 1) (L 3 2) (L 3 3) (L 4 0) (L 4 1) (L 4 2) (L 4 3)=v1 at *;generalize d4 (L 0 0) (L 0 1) (L 0 2) (L 0 3) (L 1 0) (L 1 1) (L 1 2) (L 1 3) (L 3 0) (L 3 1) (L 3 2) (L 3 3) (L 4 0) (L 4 1) (L 4 2) (L 4 3)=v2 at *;generalize d4 (L 0 0) (L 0 1) (L 0 2) (L 0 3) (L 1 0) (L 1 1) (L 1 2) (L 1 3) (L 2 0) (L 2 1) (L 2 2) (L 2 3) (L 4 0) (L 4 1) (L 4 2) (L 4 3)=v3 at *;generalize d4 (L 0 0) (L 0 1) (L 0 2) (L 0 3) (L 1 0) (L 1 1) (L 1 2) (L 1 3) (L 2 0) (L 2 1) (L 2 2) (L 2 3) (L 3 0) (L 3 1) (L 3 2) (L 3 3)=v4 at *
 grind
def R9{L:Nat->Nat->Int}(h0:L 0 0+L 0 1+L 0 2+L 0 3+L 0 4=0)(h1:L 1 0+L 1 1+L 1 2+L 1 3+L 1 4=0)(h2:L 2 0+L 2 1+L 2 2+L 2 3+L 2 4=0)(h3:L 3 0+L 3 1+L 3 2+L 3 3+L 3 4=0)(h4:L 4 0+L 4 1+L 4 2+L 4 3+L 4 4=0):wt L 5 0*L 0 4+wt L 5 1*L 1 4+wt L 5 2*L 2 4+wt L 5 3*L 3 4+wt L 5 4*L 4 4=0:=by
 rw[zP h0 h1 h2 h3 h4,zQ h0 h1 h2 h3 h4,zR h0 h1 h2 h3 h4,zT h0 h1 h2 h3 h4,zU h0 h1 h2 h3 h4];have q0:=P0 (L 0 0) (L 0 1) (L 0 2) (L 0 3) (L 1 0) (L 1 1) (L 1 2) (L 1 3) (L 2 0) (L 2 1) (L 2 2) (L 2 3) (L 3 0) (L 3 1) (L 3 2) (L 3 3) (L 4 0) (L 4 1) (L 4 2) (L 4 3);have q1:=Qa (L 0 0) (L 0 1) (L 0 2) (L 0 3) (L 1 0) (L 1 1) (L 1 2) (L 1 3) (L 2 0) (L 2 1) (L 2 2) (L 2 3) (L 3 0) (L 3 1) (L 3 2) (L 3 3) (L 4 0) (L 4 1) (L 4 2) (L 4 3);have q2:=Qc (L 0 0) (L 0 1) (L 0 2) (L 0 3) (L 1 0) (L 1 1) (L 1 2) (L 1 3) (L 2 0) (L 2 1) (L 2 2) (L 2 3) (L 3 0) (L 3 1) (L 3 2) (L 3 3) (L 4 0) (L 4 1) (L 4 2) (L 4 3);have q3:=Qf (L 0 0) (L 0 1) (L 0 2) (L 0 3) (L 1 0) (L 1 1) (L 1 2) (L 1 3) (L 2 0) (L 2 1) (L 2 2) (L 2 3) (L 3 0) (L 3 1) (L 3 2) (L 3 3) (L 4 0) (L 4 1) (L 4 2) (L 4 3);have e0:L 0 4=-(L 0 0+L 0 1+L 0 2+L 0 3):=by lia
 have e1:L 1 4=-(L 1 0+L 1 1+L 1 2+L 1 3):=by lia
 have e2:L 2 4=-(L 2 0+L 2 1+L 2 2+L 2 3):=by lia
 have e3:L 3 4=-(L 3 0+L 3 1+L 3 2+L 3 3):=by lia
 have e4:L 4 4=-(L 4 0+L 4 1+L 4 2+L 4 3):=by lia
 rw[e0,e1,e2,e3,e4];generalize d4 (L 1 0) (L 1 1) (L 1 2) (L 1 3) (L 2 0) (L 2 1) (L 2 2) (L 2 3) (L 3 0) (L 3 1) (L 3 2) (L 3 3) (L 4 0) (L 4 1) (L 4 2) (L 4 3)=v0 at *;generalize d4 (L 0 0) (L 0 1) (L 0 2) (L 0 3) (L 2 0) (L 2 1) (L 2 2) (L 2 3) (L 3 0) (L 3 1) (L 3 2) (L 3 3) (L 4 0) (L 4 1) (L 4 2) (L 4 3)=v1 at *;generalize d4 (L 0 0) (L 0 1) (L 0 2) (L 0 3) (L 1 0) (L 1 1) (L 1 2) (L 1 3) (L 3 0) (L 3 1) (L 3 2) (L 3 3) (L 4 0) (L 4 1) (L 4 2) (L 4 3)=v2 at *;generalize d4 (L 0 0) (L 0 1) (L 0 2) (L 0 3) (L 1 0) (L 1 1) (L 1 2) (L 1 3) (L 2 0) (L 2 1) (L 2 2) (L 2 3) (L 4 0) (L 4 1) (L 4 2) (L 4 3)=v3 at *;generalize d4 (L 0 0) (L 0 1) (L 0 2) (L 0 3) (L 1 0) (L 1 1) (L 1 2) (L 1 3) (L 2 0) (L 2 1) (L 2 2) (L 2 3) (L 3 0) (L 3 1) (L 3 2) (L 3 3)=v4 at *
 grind
def SN(f:Nat->Int):Nat->Int
 |0=>0
 |n+1=>SN f n+f n
def stat{L:Nat->Nat->Int}:∀{n:Nat},n<=5->(∀x,x<n->SN (L x) n=0)->∀y,y<n->SN (λx=>wt L n x*L x y) n=0:=by
 intro n hn h y hy
 match n,hn,h,y,hy with
 |1,_,h,0,_=>exact (show 0+wt L 1 0*L 0 0=0 by rw[Wn];exact RQ (by have:=h 0 (by decide);simp only[SN]at this;lia))
 |2,_,h,0,_=>exact (show 0+wt L 2 0*L 0 0+wt L 2 1*L 1 0=0 by rw[Wn];exact RT (by have:=h 0 (by decide);simp only[SN]at this;lia) (by have:=h 1 (by decide);simp only[SN]at this;lia))
 |2,_,h,1,_=>exact (show 0+wt L 2 0*L 0 1+wt L 2 1*L 1 1=0 by rw[Wn];exact RV (by have:=h 0 (by decide);simp only[SN]at this;lia) (by have:=h 1 (by decide);simp only[SN]at this;lia))
 |3,_,h,0,_=>exact (show 0+wt L 3 0*L 0 0+wt L 3 1*L 1 0+wt L 3 2*L 2 0=0 by rw[Wn];exact RW (by have:=h 0 (by decide);simp only[SN]at this;lia) (by have:=h 1 (by decide);simp only[SN]at this;lia) (by have:=h 2 (by decide);simp only[SN]at this;lia))
 |3,_,h,1,_=>exact (show 0+wt L 3 0*L 0 1+wt L 3 1*L 1 1+wt L 3 2*L 2 1=0 by rw[Wn];exact RX (by have:=h 0 (by decide);simp only[SN]at this;lia) (by have:=h 1 (by decide);simp only[SN]at this;lia) (by have:=h 2 (by decide);simp only[SN]at this;lia))
 |3,_,h,2,_=>exact (show 0+wt L 3 0*L 0 2+wt L 3 1*L 1 2+wt L 3 2*L 2 2=0 by rw[Wn];exact RZ (by have:=h 0 (by decide);simp only[SN]at this;lia) (by have:=h 1 (by decide);simp only[SN]at this;lia) (by have:=h 2 (by decide);simp only[SN]at this;lia))
 |4,_,h,0,_=>exact (show 0+wt L 4 0*L 0 0+wt L 4 1*L 1 0+wt L 4 2*L 2 0+wt L 4 3*L 3 0=0 by rw[Wn];exact R0 (by have:=h 0 (by decide);simp only[SN]at this;lia) (by have:=h 1 (by decide);simp only[SN]at this;lia) (by have:=h 2 (by decide);simp only[SN]at this;lia) (by have:=h 3 (by decide);simp only[SN]at this;lia))
 |4,_,h,1,_=>exact (show 0+wt L 4 0*L 0 1+wt L 4 1*L 1 1+wt L 4 2*L 2 1+wt L 4 3*L 3 1=0 by rw[Wn];exact R1 (by have:=h 0 (by decide);simp only[SN]at this;lia) (by have:=h 1 (by decide);simp only[SN]at this;lia) (by have:=h 2 (by decide);simp only[SN]at this;lia) (by have:=h 3 (by decide);simp only[SN]at this;lia))
 |4,_,h,2,_=>exact (show 0+wt L 4 0*L 0 2+wt L 4 1*L 1 2+wt L 4 2*L 2 2+wt L 4 3*L 3 2=0 by rw[Wn];exact R3 (by have:=h 0 (by decide);simp only[SN]at this;lia) (by have:=h 1 (by decide);simp only[SN]at this;lia) (by have:=h 2 (by decide);simp only[SN]at this;lia) (by have:=h 3 (by decide);simp only[SN]at this;lia))
 |4,_,h,3,_=>exact (show 0+wt L 4 0*L 0 3+wt L 4 1*L 1 3+wt L 4 2*L 2 3+wt L 4 3*L 3 3=0 by rw[Wn];exact R4 (by have:=h 0 (by decide);simp only[SN]at this;lia) (by have:=h 1 (by decide);simp only[SN]at this;lia) (by have:=h 2 (by decide);simp only[SN]at this;lia) (by have:=h 3 (by decide);simp only[SN]at this;lia))
 |5,_,h,0,_=>exact (show 0+wt L 5 0*L 0 0+wt L 5 1*L 1 0+wt L 5 2*L 2 0+wt L 5 3*L 3 0+wt L 5 4*L 4 0=0 by rw[Wn];exact R5 (by have:=h 0 (by decide);simp only[SN]at this;lia) (by have:=h 1 (by decide);simp only[SN]at this;lia) (by have:=h 2 (by decide);simp only[SN]at this;lia) (by have:=h 3 (by decide);simp only[SN]at this;lia) (by have:=h 4 (by decide);simp only[SN]at this;lia))
 |5,_,h,1,_=>exact (show 0+wt L 5 0*L 0 1+wt L 5 1*L 1 1+wt L 5 2*L 2 1+wt L 5 3*L 3 1+wt L 5 4*L 4 1=0 by rw[Wn];exact R6 (by have:=h 0 (by decide);simp only[SN]at this;lia) (by have:=h 1 (by decide);simp only[SN]at this;lia) (by have:=h 2 (by decide);simp only[SN]at this;lia) (by have:=h 3 (by decide);simp only[SN]at this;lia) (by have:=h 4 (by decide);simp only[SN]at this;lia))
 |5,_,h,2,_=>exact (show 0+wt L 5 0*L 0 2+wt L 5 1*L 1 2+wt L 5 2*L 2 2+wt L 5 3*L 3 2+wt L 5 4*L 4 2=0 by rw[Wn];exact R7 (by have:=h 0 (by decide);simp only[SN]at this;lia) (by have:=h 1 (by decide);simp only[SN]at this;lia) (by have:=h 2 (by decide);simp only[SN]at this;lia) (by have:=h 3 (by decide);simp only[SN]at this;lia) (by have:=h 4 (by decide);simp only[SN]at this;lia))
 |5,_,h,3,_=>exact (show 0+wt L 5 0*L 0 3+wt L 5 1*L 1 3+wt L 5 2*L 2 3+wt L 5 3*L 3 3+wt L 5 4*L 4 3=0 by rw[Wn];exact R8 (by have:=h 0 (by decide);simp only[SN]at this;lia) (by have:=h 1 (by decide);simp only[SN]at this;lia) (by have:=h 2 (by decide);simp only[SN]at this;lia) (by have:=h 3 (by decide);simp only[SN]at this;lia) (by have:=h 4 (by decide);simp only[SN]at this;lia))
 |5,_,h,4,_=>exact (show 0+wt L 5 0*L 0 4+wt L 5 1*L 1 4+wt L 5 2*L 2 4+wt L 5 3*L 3 4+wt L 5 4*L 4 4=0 by rw[Wn];exact R9 (by have:=h 0 (by decide);simp only[SN]at this;lia) (by have:=h 1 (by decide);simp only[SN]at this;lia) (by have:=h 2 (by decide);simp only[SN]at this;lia) (by have:=h 3 (by decide);simp only[SN]at this;lia) (by have:=h 4 (by decide);simp only[SN]at this;lia))
 |0,_,_,y,hy=>lia
 |1,_,_,y+1,hy=>lia
 |2,_,_,y+2,hy=>lia
 |3,_,_,y+3,hy=>lia
 |4,_,_,y+4,hy=>lia
 |5,_,_,y+5,hy=>lia
 |n+6,hn,_,_,_=>lia
end N60
namespace K
open PySem L2 L3
def jT(l:List Str)(h:l.Nodup:=by decide):l.Nodup:=h
local macro_rules | `(tactic| trivial)=>`(tactic| refine⟨rfl,by decide +kernel,rfl,QL ?_,λm_=>Oj rfl,by decide,rfl,Ly rfl,Lz ?_,Oe ?_⟩<;>((repeat' apply And.intro)<;>first | exact True.intro | rfl | exact Or.inl rfl | exact Or.inr rfl | exact⟨_,rfl⟩))
def top(i:Nat):Stmt:=PySem.Challenge.pw_fadewalk_k41_rests_looked_at.main.body.getD i (.Pass ⟨0,0,0,0⟩)
abbrev Qd(k:Nat)(N:List Str)(x:Str)(st:Stmt)(Y:Program->World->PySem.W.Frag->Mg->Heap->Prop->Prop):={b:aj->DM Fl // ∀{P w K mg base f cdv A outer s H E},Y P w K mg base (Rm k A x st s f cdv->Ds P w K mg base N x st f cdv A outer s H E b)}
abbrev Qe(k:Nat)(N:List Str)(x:Str)(st:Stmt)(Y:(Nat->Str->List Str->Fn->Prop)->(Str->Prop)->Prop->Prop):=Qd k N x st λP w K m o=>Y (DefD P w K m o) (Nn m)
abbrev Sc(N ps:List Str)(st:Stmt):=FnScope N ps (defScope st)
def cu{N P:List Str}{sc:Scope}(a:sc.kind=.function:=by exact rfl)(b:sc.isCoroutine=false:=by exact rfl)(c:sc.isGenerator=false:=by exact rfl)(p:N.take P.length=P:=by exact rfl)(d:(decide N.Nodup&&(decide (∀x∈P,sc.names.lookup x=some .local\/sc.names.lookup x=some .cell)&&decide (∀y∈sc.names,y.2≠.free)))=true:=by decide +kernel):FnScope N P sc:=RJ a b c p d
def jt{X:Cx}{E:XK}{scope:Scope}{cl:List (Str×Addr)}{elt i0:Expr}{p0 pos:Pos}{fi:aj->DM Itn}{fe:aj->DM D}(x:Str)(js:List Nat)(fr:List Str)(hi:DI X E (.Name x p0) i0 fi)
  (he:∀{Zo m fp C s₂ H₂},DE (X.aU Zo scope (cellsFrom m scope.names cl) ([x]++fr) fp C s₂ H₂) E0 elt fe) (T:CompG X scope cl [x] js fr:=by trivial) (hc:X.calm=true:=by exact rfl)
  (nd:([x]++fr).Nodup:=by decide) (hl:∀m C Z,(compEnvC scope (cellsFrom m scope.names cl) C Z).scope.names.lookup x=some .local:=by intros;exact rfl)
  (hs:∀y,foldedSetIterable i0 X.env y=pure y:=by intro _;rfl) :
  DE X E (.ListComp elt [⟨.Name x p0,i0,[],0⟩] scope pos) (λδ=>fi δ>>=λit=>dB (cA (gN 0) (λz=>pure true) (bV fe) it (aO [x].length js δ) [])>>=λp=>Out.val.run p.2):=
 cT (own:=[x]) .val hc T hi (λz z z z z z=>aW (i:=0) nd rfl (Or.inl (hl ..)) (Or.inr (hl ..))) (λz z z z z z=>fK) (λz z z z z z=>he) hs
section
variable(N:Nat)(v0 v1 v2 v3 v4 v5 v6 v7 v8 v9 v10 v11 v12 v13 v14 v15 v16 v17 v18 v19:Fn)
abbrev oW:Stmt:=top 9
def Af:Sc ["thing"] ["thing"] oW:=cu
@[simp] noncomputable def uE:Qe 0 ["thing"] "is_whole" oW λD n Z=>n "bool"->n "int"->n "isinstance"->Z:=
 ⟨_,λya yb yc hr=>(aA (aG (mY (aN bZ yc (ao (aa 0) (ao (fV (T := "int") yb) ak))) (mZ (FN (aN bZ yc (ao (aa 0) (ao (fV (T := "bool") ya) ak))))))))⟩
noncomputable def jA:=(uE).1
abbrev dY:Stmt:=top 10
def gH:Sc ["one", "other"] ["one", "other"] dY:=cu
@[simp] noncomputable def dX:Qe 0 ["one", "other"] "greatest_divider" dY fun _ _ Z=>Z:=
 ⟨_,fun  hr=>have nd:=gH.nd;(az (sE N PassesOwn.leaving (bw (aa 1) (fun _=>rfl)) (aA (Gb (i:=0) (j:=1) rfl nd rfl rfl (by decide) rfl rfl (ao (aa 1) (ao (aD eF (aa 0) (aa 1)) ak)) rfl)))
  (aA (aG (aa 0))))⟩
noncomputable def cN(N:Nat):=(dX N).1
abbrev je:Stmt:=top 13
def vz:Sc ["thing", "many"] ["thing", "many"] je:=cu
@[simp] noncomputable def o5:Qe 1 ["thing", "many"] "are_weights" je fun D n Z=>D 1 "is_whole" ["thing"] v0->n "all"->n "isinstance"->n "len"->n "tuple"->Z:=
 ⟨_,fun ya yb yc yd ye hr=>(az (bz (DW.dt (fY (cB (bw (aN bZ yc (ao (aa 0) (ao (fV (T := "tuple") ye) ak))) (fun _=>rfl))) (fj (aY (dJ hr.units) (aN call_lenD yd (ao (aa 0) ak)) (aa 1)))))
  (aA (aG d8))
  aV)
  (aA (aG (aN (lg hr.hd) yb (ao (jt "weight" [] [] (b8 (aa 0)) (mY (aB ya hr nF (ao (aa 0) ak)) (mZ (iM yX (aa 0) aq)))) ak)))))⟩
noncomputable def dG:=(o5 v0).1
abbrev oU:Stmt:=top 14
def Ad:Sc ["thing", "many"] ["thing", "many"] oU:=cu
@[simp] noncomputable def uC:Qe 2 ["thing", "many"] "are_rows" oU fun D n Z=>D 2 "are_weights" ["thing", "many"] v0->n "all"->n "isinstance"->n "len"->n "tuple"->Z:=
 ⟨_,fun ya yb yc yd ye hr=>(az (bz (DW.dt (fY (cB (bw (aN bZ yc (ao (aa 0) (ao (fV (T := "tuple") ye) ak))) (fun _=>rfl))) (fj (aY (dJ hr.units) (aN call_lenD yd (ao (aa 0) ak)) (aa 1)))))
  (aA (aG d8))
  aV)
  (aA (aG (aN (lg hr.hd) yb (ao (jt "row" [1] ["many"] (b8 (aa 0)) (aB ya hr nF (ao (aa 0) (ao (aa 1) ak)))) ak)))))⟩
noncomputable def ue:=(uC v0).1
abbrev oV:Stmt:=top 15
def Ae:Sc ["thing", "many"] ["thing", "many"] oV:=cu
@[simp] noncomputable def uD:Qe 1 ["thing", "many"] "is_place" oV λD n Z=>D 1 "is_whole" ["thing"] v0->Z:=
 ⟨_,λya hr=>(aA (aG (mY (aB ya hr aH (ao (aa 0) ak)) (mZ (Ja jV uz aq (aa 0) (aa 1))))))⟩
noncomputable def uf:=(uD v0).1
abbrev tK:Stmt:=top 16
def Hv:Sc ["thing"] ["thing"] tK:=cu
@[simp] noncomputable def zq:Qd 2 ["thing"] "is_lot" tK fun P w K m o Z=>∀{t_MOST_PLACES},DefD P w K m o 2 "are_weights" ["thing", "many"] v0->Gi m "MOST_PLACES" 25 t_MOST_PLACES->Nn m "any"->Nn m "isinstance"->Nn m "len"->Nn m "tuple"->Z:=
 ⟨_,fun ya yb yc yd ye yf hr=>(az (bz (DW.dt (fY (cB (bw (aN bZ yd (ao (aa 0) (ao (fV (T := "tuple") yf) ak))) (fun _=>rfl))) (fj (cB (sG jV jV aq (aN call_lenD ye (ao (aa 0) ak)) (Dg yb))))))
  (aA (aG d8))
  aV)
  (aA (aG (mY (aB ya hr aH (ao (aa 0) (ao (aN call_lenD ye (ao (aa 0) ak)) ak))) (mZ (aN (Fp hr.hd) yc (ao (aa 0) ak)))))))⟩
noncomputable def gK:=(zq v0).1
abbrev gC:Stmt:=top 17
def tO:Sc ["thing"] ["thing"] gC:=cu
@[simp] noncomputable def lJ:Qe 3 ["thing"] "refuse_no_lot" gC fun D n Z=>D 3 "is_lot" ["thing"] v0->Z:=
 ⟨_,fun ya hr=>(aA (bz (cB (bw (aB ya hr aH (ao (aa 0) ak)) (fun _=>rfl)))
  (aA jR)
  aV))⟩
noncomputable def kY:=(lJ v0).1
abbrev vq:Stmt:=top 18
def zF:Sc ["lot", "divider", "weight"] ["lot"] vq:=cu
@[simp] noncomputable def BX:Qe 4 ["lot", "divider", "weight"] "least" vq fun D n Z=>D 4 "refuse_no_lot" ["thing"] v0->D 1 "greatest_divider" ["one", "other"] v1->n "tuple"->Z:=
 ⟨_,fun ya yb yc hr=>have nd:=zF.nd;(az (gP (aB ya hr aH (ao (aa 0) ak)))
  (az (aP (i:=1) nd rfl (Or.inr rfl) aq)
  (az (eZ 0 Wj rfl (b8 (aa 0)) (aW (i:=2) nd rfl (Or.inl rfl))
  (aA (aP (i:=1) nd rfl (Or.inr rfl) (aB yb hr aH (ao (aa 1) (ao (aa 2) ak))))))
  (aA (aG (cL (T := "tuple") aX yc (ao (jt "weight" [1] ["divider"] (b8 (aa 0)) (aD gU (aa 0) (aa 1))) ak)))))))⟩
noncomputable def Ak:=(BX v0 v1).1
abbrev gB:Stmt:=top 21
def j8:Sc ["thing", "whole"] ["thing"] gB:=cu
@[simp] noncomputable def lH:Qd 3 ["thing", "whole"] "can_be_walked" gB fun P w K m o Z=>∀{t_MOST_PLACES},DefD P w K m o 3 "are_rows" ["thing", "many"] v0->Gi m "MOST_PLACES" 25 t_MOST_PLACES->Nn m "all"->Nn m "isinstance"->Nn m "len"->Nn m "sum"->Nn m "tuple"->Z:=
 ⟨_,fun ya yb yc yd ye yf yg hr=>have nd:=j8.nd;(az (bz (DW.dt (fY (cB (bw (aN bZ yd (ao (aa 0) (ao (fV (T := "tuple") yg) ak))) (fun _=>rfl))) (fY (cB (sG jV jV aq (aN call_lenD ye (ao (aa 0) ak)) (Dg yb))) (fj (cB (bw (aB ya hr aH (ao (aa 0) (ao (aN call_lenD ye (ao (aa 0) ak)) ak))) (fun _=>rfl)))))))
  (aA (aG d8))
  aV)
  (az (aP (i:=1) nd rfl (Or.inr rfl) (aN (dq hr.hd) yf (ao (aQ bh (aa 0) aq) ak)))
  (aA (aG (mY (iM yX (aa 1) aq) (mZ (aN (lg hr.hd) yc (ao (jt "row" [1] ["whole"] (b8 (aa 0)) (iM (bH hr.units) (aN (dq hr.hd) yf (ao (aa 0) ak)) (aa 1))) ak))))))))⟩
noncomputable def kW:=(lH v0).1
abbrev eX:Stmt:=top 22
def qw:Sc ["thing"] ["thing"] eX:=cu
@[simp] noncomputable def jx:Qd 1 ["thing"] "refuse_no_steps" eX fun P w K m o Z=>∀{t_MOST_STEPS},DefD P w K m o 1 "is_whole" ["thing"] v0->Gi m "MOST_STEPS" 100 t_MOST_STEPS->Z:=
 ⟨_,fun ya yb hr=>(aA (bz (DW.dt (fY (cB (bw (aB ya hr aH (ao (aa 0) ak)) (fun _=>rfl))) (fj (cB (sG jV jV aq (aa 0) (Dg yb))))))
  (aA jR)
  aV))⟩
noncomputable def jr:=(jx v0).1
abbrev bN:Stmt:=inClass (top 25) 1
def uJ:Sc ["self"] ["self"] bN:=cu
@[simp] noncomputable def nG:Qd 0 ["self"] "Walk.__len__" bN λP w K m o Z=>∀{C_Walk},OCls K m "Walk" C_Walk ["rows", "whole"]->Nn m "len"->Z:=
 ⟨_,λya yb hr=>(aA (aG (aN call_lenD yb (ao (fU ya (by decide) (aa 0)) ak))))⟩
noncomputable def mV:=(nG).1
abbrev eV:Stmt:=top 23
def qu:Sc ["walk", "thing"] ["walk", "thing"] eV:=cu
@[simp] noncomputable def jw:Qd 2 ["walk", "thing"] "refuse_no_place" eV fun P w K m o Z=>DefD P w K m o 2 "is_place" ["thing", "many"] v0->MethD P w K m o 1 "Walk" "__len__" "Walk.__len__" bN ["self"] v1->Nn m "len"->Z:=
 ⟨_,fun ya yb yc hr=>(aA (bz (cB (bw (aB ya hr aH (ao (aa 1) (ao (aN (iI yb hr aH (fun _ _ _ _ _ _ us hl=>by obtain⟨_,rfl⟩:=sU hl;rfl)) yc (ao (aa 0) ak)) ak))) (fun _=>rfl)))
  (aA jR)
  aV))⟩
noncomputable def jq:=(jw v0 v1).1
abbrev qi:Stmt:=top 24
def Ed:Sc ["rows", "lot"] ["rows", "lot"] qi:=cu
@[simp] noncomputable def wA:Qe 0 ["rows", "lot"] "stepped" qi λD n Z=>n "len"->n "range"->n "sum"->n "tuple"->n "zip"->Z:=
 ⟨_,λya yb yc yd ye hr=>(aA (aG (cL (T := "tuple") aX yd (ao (cT (own:=["place"]) (js:=[1,0]) (fr:=["lot", "rows"]) .val rfl (by trivial) (b7 rfl yb (ao (aN call_lenD ya (ao (aa 1) ak)) ak)) (λz z z z z z=>(aW (i:=0) (jT ["place", "lot", "rows"]) rfl (Or.inr rfl))) (λz z z z z z=>fK) (λz z z z z z=>(aN (dq hr.hd) yc (ao (cT (own:=["weight", "row"]) (js:=[0]) (fr:=["place"]) .val rfl (by trivial) (K4 rfl ye (ao (aa 1) (ao (aa 2) ak))) (λz z z z z z=>(xY (n:=2) rfl (gO (aW (i:=0) (jT ["weight", "row", "place"]) rfl (Or.inl rfl)) (gO (aW (i:=1) (jT ["weight", "row", "place"]) rfl (Or.inl rfl)) uT)))) (λz z z z z z=>fK) (λz z z z z z=>(aD eG (aa 0) (aQ bh (aa 1) (aa 2))))) ak)))) ak))))⟩
noncomputable def vP:=(wA).1
abbrev gw:Stmt:=inClass (top 25) 0
def tM:Sc ["self", "rows"] ["self", "rows"] gw:=cu
@[simp] noncomputable def lG:Qd 4 ["self", "rows"] "Walk.__init__" gw fun P w K m o Z=>∀{C_Walk},DefD P w K m o 4 "can_be_walked" ["thing"] v0->OCls K m "Walk" C_Walk ["rows", "whole"]->Nn m "sum"->Z:=
 ⟨_,fun ya yb yc hr=>(az (bz (cB (bw (aB ya hr aH (ao (aa 1) ak)) (fun _=>rfl)))
  (aA jR)
  aV)
  (az (Ga yb (by decide) (aa 0) (aa 1))
  (aA (Ga yb (by decide) (aa 0) (aN (dq hr.hd) yc (ao (aQ bh (aa 1) aq) ak))))))⟩
noncomputable def kO:=(lG v0).1
abbrev gA:Stmt:=inClass (top 25) 4
def jh:Sc ["self", "lot", "steps", "step"] ["self", "lot", "steps"] gA:=cu
@[simp] noncomputable def gm:Qd 4 ["self", "lot", "steps", "step"] "Walk.after" gA fun P w K m o Z=>∀{C_Walk},DefD P w K m o 4 "refuse_no_lot" ["thing"] v0->DefD P w K m o 2 "refuse_no_steps" ["thing"] v1->DefD P w K m o 1 "stepped" ["rows", "lot"] v2->OCls K m "Walk" C_Walk ["rows", "whole"]->Nn m "len"->Nn m "range"->Z:=
 ⟨_,fun ya yb yc yd ye yf hr=>have nd:=jh.nd;(az (gP (aB ya hr aH (ao (aa 1) ak)))
  (az (bz (aY (dJ hr.units) (aN call_lenD ye (ao (aa 1) ak)) (aN call_lenD ye (ao (fU yd (by decide) (aa 0)) ak)))
  (aA jR)
  aV)
  (az (gP (aB yb hr aH (ao (aa 2) ak)))
  (az (eZ 0 Wj rfl (b7 rfl yf (ao (aa 2) ak)) (aW (i:=3) nd rfl (Or.inl rfl))
  (aA (aP (i:=1) nd rfl (Or.inl rfl) (aB yc hr aH (ao (fU yd (by decide) (aa 0)) (ao (aa 1) ak))))))
  (aA (aG (aa 1)))))))⟩
noncomputable def pJ:=(gm v0 v1 v2).1
abbrev jg:Stmt:=top 27
def vA:Sc ["walk"] ["walk"] jg:=cu
@[simp] noncomputable def o6:Qd 0 ["walk"] "next_places" jg λP w K m o Z=>∀{C_Walk},OCls K m "Walk" C_Walk ["rows", "whole"]->Nn m "enumerate"->Nn m "tuple"->Z:=
 ⟨_,λya yb yc hr=>(aA (aG (cT (own:=["row"]) (js:=[]) (fr:=[]) .val rfl (by trivial) (b8 (fU ya (by decide) (aa 0))) (λz z z z z z=>(aW (i:=0) (jT ["row"]) rfl (Or.inl rfl))) (λz z z z z z=>fK) (λz z z z z z=>(cL (T := "tuple") aX yc (ao (cT (own:=["place", "weight"]) (js:=[]) (fr:=[]) .val rfl (by trivial) (Ax rfl yb (ao (aa 0) ak)) (λz z z z z z=>(xY (n:=2) rfl (gO (aW (i:=0) (jT ["place", "weight"]) rfl (Or.inl rfl)) (gO (aW (i:=1) (jT ["place", "weight"]) rfl (Or.inl rfl)) uT)))) (λz z z z z z=>(jJ (aY G5 (aa 1) aq))) (λz z z z z z=>(aa 0))) ak))))))⟩
noncomputable def o4:=(o6).1
abbrev iy:Stmt:=top 28
def lL:Sc ["nexts", "start", "steps", "waiting", "place", "following"] ["nexts", "start"] iy:=cu
@[simp] noncomputable def gY:Qe 0 ["nexts", "start", "steps", "waiting", "place", "following"] "fewest_steps" iy fun _ _ Z=>Z:=
 ⟨_,fun  hr=>have nd:=lL.nd;(az (aP (i:=2) nd rfl (Or.inl rfl) (KY 1))
  (az (aP (i:=3) nd rfl (Or.inl rfl) (uR (ao (aa 1) ak)))
  (az (sE N Wj (bw (aa 3) (λz=>rfl)) (az (aP (i:=4) nd rfl (Or.inl rfl) (wO Xz PySem.F.slot_list_pop PySem.F.type_list_pop Lq (aa 3) (ao aq ak)))
  (aA (eZ 0 Wj rfl (b8 (aQ bh (aa 0) (aa 4))) (aW (i:=5) nd rfl (Or.inl rfl))
  (aA (bz (aY (JC (u1 hr.units)) (aa 5) (aa 2))
  (az (ur (aD bc (NZ (u1 hr.units) (aa 2) (aa 4)) aq) (uq (aa 2) (aa 5) (JR (u1 hr.units))))
  (aA (gP (wO Xz Ym Yl vd (aa 3) (ao (aa 5) ak)))))
  aV))))))
  (aA (aG (aa 2))))))⟩
noncomputable def dZ(N:Nat):=(gY N).1
abbrev tL:Stmt:=top 29
def wC:Sc ["walk", "nexts"] ["walk"] tL:=cu
@[simp] noncomputable def tE:Qd 2 ["walk", "nexts"] "led_to" tL fun P w K m o Z=>DefD P w K m o 1 "next_places" ["walk"] v0->DefD P w K m o 1 "fewest_steps" ["nexts", "start"] v1->MethD P w K m o 1 "Walk" "__len__" "Walk.__len__" bN ["self"] v2->Nn m "len"->Nn m "range"->Nn m "sorted"->Nn m "tuple"->Z:=
 ⟨_,fun ya yb yc yd ye yf yg hr=>have nd:=wC.nd;(az (aP (i:=1) nd rfl (Or.inr rfl) (aB ya hr aH (ao (aa 0) ak)))
  (aA (aG (cL (T := "tuple") aX yg (ao (jt "start" [1] ["nexts"] (b7 rfl ye (ao (aN (iI yc hr aH (λz z z z z z us hl=>by obtain⟨_,rfl⟩:=sU hl;rfl)) yd (ao (aa 0) ak)) ak)) (cL (T := "tuple") aX yg (ao (aN (CZ hr.hd) yf (ao (aB yb hr nF (ao (aa 1) (ao (aa 0) ak))) ak)) ak))) ak)))))⟩
noncomputable def rY:=(tE v0 v1 v2).1
abbrev mK:Stmt:=top 30
def qx:Sc ["walk", "led"] ["walk"] mK:=cu
@[simp] noncomputable def mC:Qe 3 ["walk", "led"] "shut_sets" mK fun D n Z=>D 3 "led_to" ["walk"] v0->n "all"->n "sorted"->n "tuple"->Z:=
 ⟨_,fun ya yb yc yd hr=>have nd:=qx.nd;(az (aP (i:=1) nd rfl (Or.inr rfl) (aB ya hr aH (ao (aa 0) ak)))
  (aA (aG (cL (T := "tuple") aX yd (ao (FW (own:=["places"]) (js:=[1]) (fr:=["led"]) hr.hd (u1 hr.units) yc rfl (by trivial) (b8 (aa 1)) (λz z z z z z=>(aW (i:=0) (jT ["places", "led"]) rfl (Or.inr rfl))) (λz z z z z z=>(jJ (bw (aN (lg hr.hd) yb (ao (jt "place" [1,0] ["led", "places"] (b8 (aa 0)) (iM (bH hr.units) (aQ bh (aa 1) (aa 0)) (aa 2))) ak)) (λz=>rfl)))) (λz z z z z z=>(aa 0))) ak)))))⟩
noncomputable def rN:=(mC v0).1
abbrev jf:Stmt:=top 32
def nW:Sc ["rows", "divider", "top"] ["rows"] jf:=cu
@[simp] noncomputable def iZ:Qe 0 ["rows", "divider", "top"] "determinant" jf fun D n Z=>n "len"->n "range"->Z:=
 ⟨_,fun ya yb hr=>have nd:=nW.nd;(az (aP (i:=1) nd rfl (Or.inr rfl) aq)
  (az (sE N Wj (bw (aa 0) (λz=>rfl)) (az (aP (i:=2) nd rfl (Or.inr rfl) (aQ bh (aa 0) aq))
  (az (bz (aY (bH hr.units) (aQ bh (aa 2) aq) aq)
  (aA (aG aq))
  aV)
  (az (sy (i:=0) (own:=["row"]) (js:=[2,1]) (fr:=["top", "divider"]) .val nd rfl (Or.inl rfl) rfl (by trivial) (m8 (cU (aa 0) (cF aq) eE)) (λz z z z z z=>(aW (i:=0) (jT ["row", "top", "divider"]) rfl (Or.inr rfl))) (λz z z z z z=>fK) (λz z z z z z=>(jt "at" [0,1,2] ["row", "top", "divider"] (FZ rfl yb (ao aq (ao (aN call_lenD ya (ao (aa 0) ak)) ak))) (aD gU (aD qW (aD eG (aQ bh (aa 1) (aa 0)) (aQ bh (aa 2) aq)) (aD eG (aQ bh (aa 1) aq) (aQ bh (aa 2) (aa 0)))) (aa 3)))))
  (aA (aP (i:=1) nd rfl (Or.inr rfl) (aQ bh (aa 2) aq)))))))
  (aA (aG (aa 1)))))⟩
noncomputable def fD(N:Nat):=(iZ N).1
abbrev iz:Stmt:=top 33
def lM:Sc ["walk", "place", "others"] ["walk", "place"] iz:=cu
@[simp] noncomputable def gZ:Qd 3 ["walk", "place", "others"] "trees_toward" iz fun P w K m o Z=>∀{C_Walk},DefD P w K m o 3 "refuse_no_place" ["walk", "thing"] v0->DefD P w K m o 1 "determinant" ["rows"] v1->MethD P w K m o 1 "Walk" "__len__" "Walk.__len__" bN ["self"] v2->OCls K m "Walk" C_Walk ["rows", "whole"]->Nn m "len"->Nn m "range"->Z:=
 ⟨_,fun ya yb yc yd ye yf hr=>have nd:=lM.nd;(az (gP (aB ya hr aH (ao (aa 0) (ao (aa 1) ak))))
  (az (aP (i:=2) nd rfl (Or.inr rfl) (cT (own:=["other"]) (js:=[1]) (fr:=["place"]) .val rfl (by trivial) (b7 rfl yf (ao (aN (iI yc hr aH (λz z z z z z us hl=>by obtain⟨_,rfl⟩:=sU hl;rfl)) ye (ao (aa 0) ak)) ak)) (λz z z z z z=>(aW (i:=0) (jT ["other", "place"]) rfl (Or.inl rfl))) (λz z z z z z=>(jJ (aY (dJ hr.units) (aa 0) (aa 1)))) (λz z z z z z=>(aa 0))))
  (aA (aG (aB yb hr aH (ao (cT (own:=["x"]) (js:=[2,0]) (fr:=["others", "walk"]) .val rfl (by trivial) (m8 (aa 2)) (λz z z z z z=>(aW (i:=0) (jT ["x", "others", "walk"]) rfl (Or.inr rfl))) (λz z z z z z=>fK) (λz z z z z z=>(jt "y" [0,2] ["x", "walk"] (m8 (aa 1)) (Q6 (aY (bH hr.units) (aa 1) (aa 0)) (aD qW (fU yd (by decide) (aa 2)) (aQ bh (aQ bh (fU yd (by decide) (aa 2)) (aa 1)) (aa 1))) (um (aQ bh (aQ bh (fU yd (by decide) (aa 2)) (aa 1)) (aa 0))))))) ak))))))⟩
noncomputable def mW:=(gZ v0 v1 v2).1
abbrev qg:Stmt:=top 34
def uL:Sc ["walk", "shut", "within", "weights", "at", "place"] ["walk", "shut"] qg:=cu
@[simp] noncomputable def pY:Qd 6 ["walk", "shut", "within", "weights", "at", "place"] "rest_on" qg fun P w K m o Z=>∀{C_Walk},DefD P w K m o 4 "trees_toward" ["walk", "place"] v0->DefD P w K m o 5 "least" ["lot"] v1->ClsD P w K m o 5 "Walk" v2->MethD P w K m o 1 "Walk" "__len__" "Walk.__len__" bN ["self"] v3->OCls K m "Walk" C_Walk ["rows", "whole"]->Nn m "enumerate"->Nn m "len"->Nn m "tuple"->Z:=
 ⟨_,fun ya yb yc yd ye yf yg yh hr=>have nd:=uL.nd;(az (aP (i:=2) nd rfl (Or.inl rfl) (Aw yc hr aH (ao (cL (T := "tuple") aX yh (ao (cT (own:=["x"]) (js:=[1,0]) (fr:=["shut", "walk"]) .val rfl (by trivial) (b8 (aa 1)) (fun _ _ _ _ _ _=>(aW (i:=0) (jT ["x", "shut", "walk"]) rfl (Or.inr rfl))) (fun _ _ _ _ _ _=>fK) (fun _ _ _ _ _ _=>(cL (T := "tuple") aX yh (ao (jt "y" [2,0] ["walk", "x"] (b8 (aa 1)) (aQ bh (aQ bh (fU ye (by decide) (aa 1)) (aa 2)) (aa 0))) ak)))) ak)) ak)))
  (az (aP (i:=3) nd rfl (Or.inl rfl) (aD By (bO (ao aq ak)) (aN (iI yd hr aH (λz z z z z z us hl=>by obtain⟨_,rfl⟩:=sU hl;rfl)) yg (ao (aa 0) ak))))
  (az (eZ 0 Wj rfl (Ax rfl yf (ao (aa 1) ak)) (xY (n:=2) rfl (gO (aW (i:=4) nd rfl (Or.inl rfl)) (gO (aW (i:=5) nd rfl (Or.inl rfl)) uT)))
  (aA (ur (aB ya hr aH (ao (aa 2) (ao (aa 4) ak))) (uq (aa 3) (aa 5) wW))))
  (aA (aG (aB yb hr aH (ao (cL (T := "tuple") aX yh (ao (aa 3) ak)) ak)))))))⟩
noncomputable def vO:=(pY v0 v1 v2 v3).1
abbrev qe:Stmt:=top 35
def Ec:Sc ["walk", "thing"] ["walk", "thing"] qe:=cu
@[simp] noncomputable def wz:Qd 5 ["walk", "thing"] "is_rest" qe fun P w K m o Z=>∀{C_Walk},DefD P w K m o 3 "is_lot" ["thing"] v0->MethD P w K m o 1 "Walk" "__len__" "Walk.__len__" bN ["self"] v1->MethF P w K m o 5 "Walk" "after" ["self", "lot", "steps"] [D.int 1] v2->OCls K m "Walk" C_Walk ["rows", "whole"]->Nn m "len"->Nn m "tuple"->Z:=
 ⟨_,fun ya yb yc yd ye yf hr=>(az (bz (DW.dt (fY (cB (bw (aB ya hr aH (ao (aa 1) ak)) (fun _=>rfl))) (fj (aY (dJ hr.units) (aN call_lenD ye (ao (aa 1) ak)) (aN (iI yb hr aH (fun _ _ _ _ _ _ us hl=>by obtain⟨_,rfl⟩:=sU hl;rfl)) ye (ao (aa 0) ak))))))
  (aA (aG d8))
  aV)
  (aA (aG (iM (bH hr.units) (Jb yc hr aH (aa 0) (ao (aa 1) ak)) (cL (T := "tuple") aX yf (ao (jt "weight" [0] ["walk"] (b8 (aa 1)) (aD eG (aa 0) (fU yd (by decide) (aa 1)))) ak))))))⟩
noncomputable def dR:=(wz v0 v1 v2).1
abbrev vy:Stmt:=top 36
def JQ:Sc ["walk"] ["walk"] vy:=cu
@[simp] noncomputable def vm:Qe 7 ["walk"] "rests" vy λD n Z=>D 4 "shut_sets" ["walk"] v0->D 7 "rest_on" ["walk", "shut"] v1->n "tuple"->Z:=
 ⟨_,λya yb yc hr=>(aA (aG (cL (T := "tuple") aX yc (ao (jt "shut" [0] ["walk"] (b8 (aB ya hr aH (ao (aa 0) ak))) (aB yb hr nF (ao (aa 1) (ao (aa 0) ak)))) ak))))⟩
noncomputable def Al:=(vm v0 v1).1
abbrev ir:Stmt:=top 38
def uK:Sc ["_law_script", "_law_k"] ["_law_script", "_law_k"] ir:=cu
@[simp] noncomputable def nH:Qe 0 ["_law_script", "_law_k"] "_law_cell_at" ir fun D n Z=>n "len"->Z:=
 ⟨_,fun ya hr=>(az (bz (aY uz (aa 1) (aN call_lenD ya (ao (aa 0) ak)))
  (aA (aG (aQ bh (aa 0) (aa 1))))
  aV)
  (aA (aG aq)))⟩
noncomputable def gJ:=(nH).1
abbrev mH:Stmt:=top 39
def qm:Sc ["_law_seed"] ["_law_seed"] mH:=cu
@[simp] noncomputable def rP:Qe 0 ["_law_seed"] "_law_next" mH fun _ _ Z=>Z:=
 ⟨_,fun  hr=>have nd:=qm.nd;(az (aP (i:=0) nd rfl (Or.inl rfl) (aD eF (aD bc (aa 0) aq) aq))
  (aA (aG (aD eF (aD bc (aD bc (aD eG (aa 0) (aa 0)) (aD eG aq (aa 0))) aq) aq))))⟩
noncomputable def rK:=(rP).1
abbrev jc:Stmt:=top 40
def nU:Sc ["_law_cell", "_law_left"] ["_law_cell"] jc:=cu
@[simp] noncomputable def iY:Qe 0 ["_law_cell", "_law_left"] "_law_pen_of" jc fun D n Z=>n "int"->n "max"->Z:=
 ⟨_,fun ya yb hr=>have nd:=nU.nd;(az (aP (i:=1) nd rfl (Or.inl rfl) (aN (CV rfl) yb (ao (aa 0) (ao (aD qW aq (aa 0)) ak))))
  (aA (aG (uR (ao (aa 1) (ao (cL (T := "int") ug ya (ao (iM yX (aa 1) (aD BJ aq aq)) ak)) (ao (aD eF (aa 1) aq) ak)))))))⟩
noncomputable def oZ:=(iY).1
abbrev mF:Stmt:=top 41
def qj:Sc ["_law_pen", "_law_many", "_law_found"] ["_law_pen", "_law_many"] mF:=cu
@[simp] noncomputable def mq:Qe 1 ["_law_pen", "_law_many", "_law_found"] "_law_draw" mF fun D n Z=>D 1 "_law_next" ["_law_seed"] v0->Z:=
 ⟨_,fun ya hr=>have nd:=qj.nd;(az (bz (DW.dt (Gf (aY (bH hr.units) (aQ bh (aa 0) aq) aq) (Bb (aY G5 (aQ bh (aa 0) aq) aq))))
  (az (aP (i:=2) nd rfl (Or.inl rfl) (aD eF (aQ bh (aa 0) aq) (aa 1)))
  (az (ur (aD gU (aQ bh (aa 0) aq) (aa 1)) (uq (aa 0) aq wW))
  (aA (aG (aa 2)))))
  aV)
  (az (ur (aB ya hr aH (ao (aD bc (aB ya hr aH (ao (aQ bh (aa 0) aq) ak)) aq) ak)) (uq (aa 0) aq wW))
  (aA (aG (aD eF (aD gU (aQ bh (aa 0) aq) aq) (aa 1))))))⟩
noncomputable def rJ:=(mq v0).1
abbrev mJ:Stmt:=top 42
def qp:Sc ["_law_pen", "_law_most", "_law_many", "_law_whole_here", "_law_way", "_law_rows_here", "_law_x", "_law_some", "_law_row", "_law_ball"] ["_law_pen", "_law_most"] mJ:=cu
@[simp] noncomputable def my:Qe 2 ["_law_pen", "_law_most", "_law_many", "_law_whole_here", "_law_way", "_law_rows_here", "_law_x", "_law_some", "_law_row", "_law_ball"] "_law_rows" mJ fun D n Z=>D 2 "_law_draw" ["_law_pen", "_law_many"] v0->n "int"->n "len"->n "list"->n "range"->n "tuple"->Z:=
 ⟨_,fun ya yb yc yd ye yf hr=>have nd:=qp.nd;(az (K7 (i:=2) (j:=3) (k:=4) rfl nd rfl rfl rfl (by decide) (by decide) (by decide) rfl rfl rfl (ao (aD bc aq (aB ya hr aH (ao (aa 0) (ao (aa 1) ak)))) (ao (aQ bh (bO (ao aq (ao aq (ao aq (ao aq (ao aq (ao aq ak))))))) (aB ya hr aH (ao (aa 0) (ao aq ak)))) (ao (aB ya hr aH (ao (aa 0) (ao aq ak))) ak))) rfl)
  (az (aP (i:=5) nd rfl (Or.inl rfl) (uR ak))
  (az (eZ 0 Wj rfl (b7 rfl ye (ao (aa 2) ak)) (aW (i:=6) nd rfl (Or.inr rfl))
  (az (aP (i:=7) nd rfl (Or.inl rfl) (vR rfl yd ye (ao (aa 2) ak)))
  (az (bz (aY (bH hr.units) (aa 4) aq)
  (aA (aP (i:=7) nd rfl (Or.inl rfl) (bO (ao (aB ya hr aH (ao (aa 0) (ao (aa 2) ak))) (ao (aB ya hr aH (ao (aa 0) (ao (aa 2) ak))) ak)))))
  aV)
  (az (bz (aY (bH hr.units) (aa 4) aq)
  (aA (aP (i:=7) nd rfl (Or.inl rfl) (bO (ao (aD eF (aD bc (aa 6) aq) (aa 2)) ak))))
  aV)
  (az (bz (aY (bH hr.units) (aa 4) aq)
  (aA (aP (i:=7) nd rfl (Or.inl rfl) (aD bc (cT (own:=["_law_y"]) (js:=[6]) (fr:=["_law_x"]) .val rfl (by trivial) (b7 rfl ye (ao (aa 2) ak)) (λz z z z z z=>(aW (i:=0) (jT ["_law_y", "_law_x"]) rfl (Or.inl rfl))) (λz z z z z z=>(jJ (aY (dJ hr.units) (aD eF (aa 0) aq) (aD eF (aa 1) aq)))) (λz z z z z z=>(aa 0))) (aD Mh (bO (ao (aa 6) ak)) (cL (T := "int") ug yb (ao (iM (bH hr.units) (aa 2) aq) ak))))))
  aV)
  (az (bz (aY (bH hr.units) (aa 4) aq)
  (aA (sy (i:=7) (own:=["_law_y"]) (js:=[6]) (fr:=["_law_x"]) .val nd rfl (Or.inl rfl) rfl (by trivial) (b7 rfl ye (ao (aa 2) ak)) (λz z z z z z=>(aW (i:=0) (jT ["_law_y", "_law_x"]) rfl (Or.inl rfl))) (λz z z z z z=>(jJ (aY (bH hr.units) (aD gU (aa 0) aq) (aD gU (aa 1) aq)))) (λz z z z z z=>(aa 0))))
  aV)
  (az (bz (aY (bH hr.units) (aa 4) aq)
  (aA (aP (i:=7) nd rfl (Or.inl rfl) (vR rfl yd ye (ao (aD bc (aa 6) aq) ak))))
  aV)
  (az (aP (i:=8) nd rfl (Or.inl rfl) (aD By (bO (ao aq ak)) (aa 2)))
  (az (eZ 0 Wj rfl (b7 rfl ye (ao (aa 3) ak)) (aW (i:=9) nd rfl (Or.inl rfl))
  (aA (K6 (aa 8) (aQ bh (aa 7) (aB ya hr aH (ao (aa 0) (ao (aN call_lenD yc (ao (aa 7) ak)) ak)))) JF aq)))
  (aA (gP (wO Xz Ym Yl vd (aa 5) (ao (cL (T := "tuple") aX yf (ao (aa 8) ak)) ak)))))))))))))
  (aA (aG (cL (T := "tuple") aX yf (ao (aa 5) ak)))))))⟩
noncomputable def rM:=(my v0).1
abbrev oO:Stmt:=top 43
def rQ:Sc ["_law_pen", "_law_some"] ["_law_pen"] oO:=cu
@[simp] noncomputable def oJ:Qe 2 ["_law_pen", "_law_some"] "_law_odd" oO fun D n Z=>D 2 "_law_draw" ["_law_pen", "_law_many"] v0->Z:=
 ⟨_,fun ya hr=>have nd:=rQ.nd;(az (aP (i:=1) nd rfl (Or.inl rfl) (bO (ao FJ (ao d8 (ao d8 (ao (um aq) (ao aq (ao (aD BJ aq aq) (ao xX (ao xX (ao (cO ak) (ao (bO ak) (ao KQ (ao (cO (ao (cO ak) ak)) (ao (cO (ao aq ak)) (ao (bO (ao aq ak)) (ao (cO (ao aq (ao aq ak))) (ao xX (ao KR ak)))))))))))))))))))
  (aA (aG (aQ bh (aa 1) (aB ya hr aH (ao (aa 0) (ao aq ak)))))))⟩
noncomputable def uc:=(oJ v0).1
abbrev iD:Stmt:=top 44
def j0:Sc ["_law_pen", "_law_thing", "_law_way", "_law_at"] ["_law_pen", "_law_thing"] iD:=cu
@[simp] noncomputable def mj(v0 v1 v2:Fn):{b // ∀{P w K mg base f cdv A outer s H E k_} (hk_:3≤k_) (ya:DefD P w K mg base 2 "_law_draw" ["_law_pen", "_law_many"] v0) (yb:DefD P w K mg base 3 "_law_odd" ["_law_pen"] v1) (yc:DefD P w K mg base k_ "_law_bent" ["_law_pen", "_law_thing"] v2) (yd:Nn mg "int") (ye:Nn mg "isinstance") (yf:Nn mg "len") (yg:Nn mg "list") (yh:Nn mg "tuple") (hq_:Rm k_ A "_law_bent" iD s f cdv),Ds P w K mg base ["_law_pen", "_law_thing", "_law_way", "_law_at"] "_law_bent" iD f cdv A outer s H E b}:=
 ⟨_,fun hk_ ya yb yc yd ye yf yg yh hq_=>have hr:=hq_.mono hk_;have nd:=j0.nd;(az (aP (i:=2) nd rfl (Or.inl rfl) (aB ya hr aH (ao (aa 0) (ao aq ak))))
  (az (bz (cB (bw (aN bZ ye (ao (aa 1) (ao (fV (T := "tuple") yh) ak))) (λz=>rfl)))
  (az (bz (DW.dt (Gf (bw (aN bZ ye (ao (aa 1) (ao (fV (T := "int") yd) ak))) (λz=>rfl)) (Bb (aY uz (aa 2) aq))))
  (aA (aG (aQ bh (bO (ao (aD Bx (aa 1) aq) (ao (aD BK (aa 1) aq) (ao (aD BK aq (aa 1)) (ao d8 (ao (aD Bx (aa 1) aq) ak)))))) (aa 2))))
  aV)
  (aA (aG (aB yb hr aH (ao (aa 0) ak)))))
  aV)
  (az (bz (DW.dt (fY (aY (LQ hr.units) (aa 1) (cO ak)) (fj (aY (bH hr.units) (aa 2) aq))))
  (aA (aG (aQ bh (bO (ao (cL (T := "list") jB yg (ao (aa 1) ak)) (ao (aD bc (aa 1) (cO (ao (aB yb hr aH (ao (aa 0) ak)) ak))) (ao (aB yb hr aH (ao (aa 0) ak)) (ao (N5 (aa 1)) (ao (cU (aa 1) (cF aq) eE) ak)))))) (aB ya hr aH (ao (aa 0) (ao aq ak))))))
  aV)
  (az (aP (i:=3) nd rfl (Or.inl rfl) (aB ya hr aH (ao (aa 0) (ao (aN call_lenD yf (ao (aa 1) ak)) ak))))
  (az (bz (aY (bH hr.units) (aa 2) aq)
  (aA (aG (aD bc (cU (aa 1) eE (cF (aa 3))) (cU (aa 1) (cF (aD bc (aa 3) aq)) eE))))
  aV)
  (az (bz (aY (bH hr.units) (aa 2) aq)
  (aA (aG (aD bc (aD bc (cU (aa 1) eE (cF (aa 3))) (cU (aa 1) (cF (aa 3)) (cF (aD bc (aa 3) aq)))) (cU (aa 1) (cF (aa 3)) eE))))
  aV)
  (aA (aG (aD bc (aD bc (cU (aa 1) eE (cF (aa 3))) (cO (ao (aB yc hq_ aH (ao (aa 0) (ao (aQ bh (aa 1) (aa 3)) ak)) (U0 _)) ak))) (cU (aa 1) (cF (aD bc (aa 3) aq)) eE))))))))))⟩
noncomputable def rH:=(mj v0 v1 v2).1
abbrev jZ:Stmt:=top 45
def wJ:Sc ["_law_thing"] ["_law_thing"] jZ:=cu
@[simp] noncomputable def pX:Qe 0 ["_law_thing"] "_law_whole" jZ λD n Z=>n "bool"->n "int"->n "isinstance"->Z:=
 ⟨_,λya yb yc hr=>(aA (aG (mY (aN bZ yc (ao (aa 0) (ao (fV (T := "int") yb) ak))) (mZ (FN (aN bZ yc (ao (aa 0) (ao (fV (T := "bool") ya) ak))))))))⟩
noncomputable def jO:=(pX).1
abbrev iu:Stmt:=top 46
def lK:Sc ["_law_rows_here", "_law_thing", "_law_later"] ["_law_rows_here", "_law_thing"] iu:=cu
@[simp] noncomputable def nJ:Qe 1 ["_law_rows_here", "_law_thing", "_law_later"] "_law_is_rest" iu fun D n Z=>D 1 "_law_whole" ["_law_thing"] v0->n "isinstance"->n "len"->n "range"->n "sum"->n "tuple"->Z:=
 ⟨_,fun ya yb yc yd ye yf hr=>have nd:=lK.nd;(az (bz (DW.dt (fY (cB (bw (aN bZ yb (ao (aa 1) (ao (fV (T := "tuple") yf) ak))) (fun _=>rfl))) (fj (aY (dJ hr.units) (aN call_lenD yc (ao (aa 1) ak)) (aN call_lenD yc (ao (aa 0) ak))))))
  (aA (aG d8))
  aV)
  (az (bz (DW.dt (fY (aY (dJ hr.units) (cT (own:=["_law_one"]) (js:=[]) (fr:=[]) .val rfl (by trivial) (b8 (aa 1)) (λz z z z z z=>(aW (i:=0) (jT ["_law_one"]) rfl (Or.inl rfl))) (λz z z z z z=>(jJ (DW.dt (fY (cB (bw (aB ya hr nF (ao (aa 0) ak)) (λz=>rfl))) (fj (aY uz (aa 0) aq)))))) (λz z z z z z=>aq)) (bO ak)) (fj (aY (bH hr.units) (aN (dq hr.hd) ye (ao (aa 1) ak)) aq))))
  (aA (aG d8))
  aV)
  (az (sy (i:=2) (own:=["_law_y"]) (js:=[0,1]) (fr:=["_law_rows_here", "_law_thing"]) .val nd rfl (Or.inl rfl) rfl (by trivial) (b7 rfl yd (ao (aN call_lenD yc (ao (aa 0) ak)) ak)) (λz z z z z z=>(aW (i:=0) (jT ["_law_y", "_law_rows_here", "_law_thing"]) rfl (Or.inr rfl))) (λz z z z z z=>fK) (λz z z z z z=>(aN (dq hr.hd) ye (ao (jt "_law_x" [2,1,0] ["_law_thing", "_law_rows_here", "_law_y"] (b7 rfl yd (ao (aN call_lenD yc (ao (aa 1) ak)) ak)) (aD eG (aQ bh (aa 1) (aa 0)) (aQ bh (aQ bh (aa 2) (aa 0)) (aa 3)))) ak))))
  (aA (aG (iM (bH hr.units) (aa 2) (jt "_law_one" [0] ["_law_rows_here"] (b8 (aa 1)) (aD eG (aa 0) (aN (dq hr.hd) ye (ao (aQ bh (aa 1) aq) ak))))))))))⟩
noncomputable def cD:=(nJ v0).1
abbrev oR:Stmt:=top 47
def Ac:Sc ["_law_lots"] ["_law_lots"] oR:=cu
@[simp] noncomputable def uB:Qe 0 ["_law_lots"] "_law_sum" oR λD n Z=>n "list"->n "sum"->n "tuple"->n "zip"->Z:=
 ⟨_,λya yb yc yd hr=>(aA (aG (cL (T := "tuple") aX yc (ao (jt "_law_weights" [] [] (K3 rfl yd (ao (aQ bh (aa 0) aq) (ao (aQ bh (aa 0) (um aq)) ak))) (aN (dq hr.hd) yb (ao (cL (T := "list") jB ya (ao (aa 0) ak)) ak))) ak))))⟩
noncomputable def ud:=(uB).1
abbrev Eb:Stmt:=top 48
def Hw:Sc ["_law_script", "_law_cell", "_law_pen", "_law_turn", "_law_rows_here", "_law_walk", "_law_some", "_law_things", "_law_thing", "_law_bent_here", "_law_kept", "_law_due"] ["_law_script"] Eb:=cu
@[simp] noncomputable def DK:Qd 8 ["_law_script", "_law_cell", "_law_pen", "_law_turn", "_law_rows_here", "_law_walk", "_law_some", "_law_things", "_law_thing", "_law_bent_here", "_law_kept", "_law_due"] "law" Eb fun P w K m o Z=>DefD P w K m o 1 "_law_cell_at" ["_law_script", "_law_k"] v0->DefD P w K m o 1 "_law_pen_of" ["_law_cell"] v1->DefD P w K m o 3 "_law_rows" ["_law_pen", "_law_most"] v2->DefD P w K m o 8 "rests" ["walk"] v3->DefD P w K m o 1 "_law_sum" ["_law_lots"] v4->DefD P w K m o 2 "_law_draw" ["_law_pen", "_law_many"] v5->DefD P w K m o 3 "_law_odd" ["_law_pen"] v6->DefD P w K m o 8 "_law_bent" ["_law_pen", "_law_thing"] v7->DefD P w K m o 2 "_law_is_rest" ["_law_rows_here", "_law_thing"] v8->DefD P w K m o 6 "is_rest" ["walk", "thing"] v9->ClsD P w K m o 5 "Walk" v10->Nn m "len"->Nn m "list"->Nn m "range"->Nn m "repr"->Nn m "tuple"->Z:=
 ⟨_,fun ya yb yc yd ye yf yg yh yi yj yk yl ym yn yo yp hr=>have nd:=Hw.nd;(az (eZ 0 PassesOwn.leaving rfl (m8 (aD bc (bO (ao (aB ya hr aH (ao (aa 0) (ao aq ak))) ak)) (FQ (aa 0) (cF aq) (cF aq)))) (aW (i:=1) nd rfl (Or.inl rfl))
  (az (aP (i:=2) nd rfl (Or.inr rfl) (aB yb hr aH (ao (aa 1) ak)))
  (aA (eZ 0 Wj rfl (b7 rfl yn (ao aq ak)) (aW (i:=3) nd rfl (Or.inl rfl))
  (az (aP (i:=4) nd rfl (Or.inl rfl) (aB yc hr aH (ao (aa 2) (ao aq ak))))
  (az (aP (i:=5) nd rfl (Or.inl rfl) (Aw yk hr aH (ao (aa 4) ak)))
  (az (aP (i:=6) nd rfl (Or.inl rfl) (aD LC (cL (T := "list") jB ym (ao (aB yd hr aH (ao (aa 5) ak)) ak)) (bO (ao (aB ye hr aH (ao (aB yd hr aH (ao (aa 5) ak)) ak)) (ao (aD vh (cO (ao aq ak)) (aN call_lenD yl (ao (aa 4) ak))) (ao (aD vh (cO (ao aq ak)) (aN call_lenD yl (ao (aa 4) ak))) ak))))))
  (az (gP (wO Xz Ym Yl vd (aa 6) (ao (aD bc (cO (ao aq ak)) (aD vh (cO (ao aq ak)) (aD qW (aN call_lenD yl (ao (aa 4) ak)) aq))) ak)))
  (az (aP (i:=6) nd rfl (Or.inl rfl) (aD bc (aa 6) (bO (ao (cL (T := "tuple") aX yp (ao (jt "_law_weight" [] [] (b8 (aQ bh (aa 6) aq)) (aD eG aq (aa 0))) ak)) (ao (cL (T := "tuple") aX yp (ao (jt "_law_row" [2] ["_law_pen"] (b8 (aa 4)) (aB yf hr nF (ao (aa 1) (ao aq ak)))) ak)) ak)))))
  (az (aP (i:=7) nd rfl (Or.inl rfl) (aD bc (aa 6) (bO (ao FJ (ao (cO ak) (ao (aD bc (aQ bh (aa 6) aq) (cO (ao aq ak))) (ao (cL (T := "list") jB ym (ao (aQ bh (aa 6) aq) ak)) (ao (aa 4) (ao (aB yg hr aH (ao (aa 2) ak)) (ao (cU (aQ bh (aa 6) aq) eE (cF (um aq))) ak))))))))))
  (az (eZ 0 Wj rfl (m8 (aa 6)) (aW (i:=8) nd rfl (Or.inl rfl))
  (az (aP (i:=9) nd rfl (Or.inl rfl) (aB yh hr aH (ao (aa 2) (ao (aa 8) ak))))
  (aA (aP (i:=7) nd rfl (Or.inl rfl) (aD bc (aa 7) (bO (ao (aa 9) (ao (aB yh hr aH (ao (aa 2) (ao (aa 9) ak))) ak))))))))
  (aA (eZ 0 Wj rfl (m8 (aa 7)) (aW (i:=8) nd rfl (Or.inl rfl))
  (az (Gb (i:=10) (j:=11) rfl nd rfl rfl (by decide) rfl rfl (ao (aN (jC hr.gd hr.units) yo (ao (aa 8) ak)) (ao (aB yi hr aH (ao (aa 4) (ao (aa 8) ak))) ak)) rfl)
  (az (bz (aY (dJ hr.units) (aN (jC hr.gd hr.units) yo (ao (bO (ao (aB yj hr aH (ao (aa 5) (ao (aa 8) ak))) (ao (aB yj hr aH (ao (aa 5) (ao (aa 8) ak))) ak))) ak)) (aN (jC hr.gd hr.units) yo (ao (bO (ao (aa 11) (ao (aa 11) ak))) ak)))
  (aA (aG d8))
  aV)
  (aA (bz (aY (dJ hr.units) (aN (jC hr.gd hr.units) yo (ao (aa 8) ak)) (aa 10))
  (aA (aG d8))
  aV)))))))))))))))))
  (aA (aG d8)))⟩
noncomputable def J6:=(DK v0 v1 v2 v3 v4 v5 v6 v7 v8 v9 v10).1
end
end K
namespace K
open PySem L2 L3 N10
def bU:(∀(α:Type) (a:α) (l:List α),(a::l)[0]?=some a)/\(∀(α:Type) (a:α) (l:List α) (i:Nat),(a::l)[i+1]?=l[i]?)/\(∀(α:Type) (x:Option α),(some x).join=x)/\(∀(α:Type) (a:α),(opt (some a):DM α)=pure a)/\∀(α β:Type) (a:α) (f:α->DM β),((pure a:DM α)>>=f)=f a:=⟨λz z z=>rfl,λz z z z=>rfl,λz z=>rfl,λz z=>dj _,λz z z z=>au _ _⟩
def eU:(∀(α:Type) (a b:α) (l:List α) (i:Nat),(a::l).set (i+1) b=a::l.set i b)/\∀(α:Type) (a b:α) (l:List α),(a::l).set 0 b=b::l:=⟨λz z z z z=>rfl,λz z z z=>rfl⟩
noncomputable def kI:=aF 1 1 jA
noncomputable def mO:=aF 2 2 (dG kI)
def yH(n:Nat):kI [nD n]=pure (.bl true):=by
 have a:(rd (f9 [nD n,.ty "int"]):DM D)=pure (.bl true):=bW (t := "int") (λz=>rfl) (by decide)
 have b:(rd (f9 [nD n,.ty "bool"]):DM D)=pure (.bl false):=bW (t := "int") (λz=>rfl) (by decide)
 simp[kI,jA,a,b]
def Fb{l:List Nat}(hl:l.length<=1000):mO [nT l,.int (l.length:Int)]=pure (.bl true):=by
 have a:(rd (f9 [nT l,.ty "tuple"]):DM D)=pure (.bl true):=bW (t := "tuple") (λz=>rfl) (by decide)
 have ln:(rd (gj [nT l]):DM D)=pure (.int (l.length:Int)):=by simp[nT]
 simp[mO,dG,a,ln,aO,cQ];show (dB (aZ _ _ _ (l.map nD) _ _)>>=_)=_;rw[J9 (λz=>true) (λz=>.bl true) (by simpa using Vp hl (by decide)) (λz z=>rfl) (λd hd z=>?_) (k':=λl=>rd (pH [.lst l])) (λz=>rfl)]
 ·have:((l.map nD).filter (λz=>true)).map (λz=>D.bl true)=(l.map λz=>true).map D.bl:=by rw[Xw.mpr (λz z=>rfl),VP,VP];rfl
  have q:(l.map λz=>true).all id=true:=by rw[Xf];intro x hx;obtain⟨_,_,rfl⟩:=Vy.mp hx;rfl
  rw[this,uF,q]
 ·obtain⟨n,_,rfl⟩:=Vy.mp hd;have:=yH n;unfold nD at this ⊢
  simp[this]
theorem nZ:∀ {l:List Nat}{n:Nat},n∈l->n<=l.sum
 |a::l,n,h=>by
   rw[Xc];rcases Vf.mp h with rfl | h
   ·lia
   ·have:=nZ h;lia
noncomputable def xg:=aF 2 2 gJ
def NB(cs:List Int)(k:Nat):∃ c:Int,xg [.scr cs,nD k]=pure (.int c):=by
 by_cases h:k<cs.length
 ·have e:decide ((k:Int)<(cs.length:Int))=true:=Vh (by lia)
  have ix:(rd (cZ (.scr cs) (.int (k:Int))):DM D)=pure (.int cs[k]):=bK λM=>by show (atI cs (k:Int)).map _=_;rw[pI (U3 h)];rfl
  refine⟨cs[k],?_⟩;simp[xg,gJ,nD,e,ix,h]
 ·have e:decide ((k:Int)<(cs.length:Int))=false:=Vz (by lia)
  refine⟨0,?_⟩;simp[xg,gJ,nD,e,h]
def aJ{f g:aj->DM Fl}{δ:aj}{M:Mo}{Q:Fl->Mo->Prop}(h:∀K:Fl->DM Fl,(∀δ',K (.nx δ')=g δ')->Rn (f δ>>=K) M Q):Rn (vB f g δ) M Q:=by
 have:=h (λr=>match r with | .nx δ'=>g δ' | r=>Pure.pure r) (λz=>rfl)
 exact this
structure WK(R:List (List Nat))(W:Nat):Prop where
 n1:1<=R.length
 n25:R.length<=25
 row:∀r∈R,r.length=R.length
 sum:∀r∈R,r.sum=W
 w1:1<=W
def WK.head{R:List (List Nat)}{W:Nat}(h:WK R W):gr R 0∈R:=gr_mem (by have:=h.n1;lia)
noncomputable def En:=aF 2 2 (ue mO)
noncomputable def Eo:=aF 1 2 (kW En)
def KC{l:List Nat}{n:Nat}(h:l.length=n)(hl:n<=1000):mO [nT l,nD n]=pure (.bl true):=by subst h;exact Fb hl
def xK(n:Nat):(rd (pH [.lst (List.replicate n (.bl true))]):DM D)=pure (.bl true):=by have:=uF (List.replicate n true);rw[List.map_replicate]at this;rw[this];simp
def wy{α:Type}(l:List α)(d:D):(l.map λz=>d)=List.replicate l.length d:=List.map_const' ..
def Ny{R:List (List Nat)}{W:Nat}(h:WK R W):En [nM R,nD R.length]=pure (.bl true):=by
 have:=h.n25;simp[En,ue,Hk,dI,nR,Hd,aO,cQ];rw[cI nT (λz=>.bl true) (by lia) (λr hr=>by simp[KC (h.row r hr) (by lia)])]
 rw[au,wy,xK]
def NT{R:List (List Nat)}{W:Nat}(h:WK R W):Eo [nM R]=pure (.bl true):=by
 have h1:=h.n1;have h2:=h.n25;have e1:(rd (ww (.int 1) (nD R.length)):DM D)=pure (.bl true):=by rw[show D.int 1=nD 1 from rfl,pZ,Vh h1]
 have e2:(rd (ww (nD R.length) (.int 25)):DM D)=pure (.bl true):=by rw[show D.int 25=nD 25 from rfl,pZ,Vh h2]
 have e3:(rd (yD (nD W) (.int 1)):DM D)=pure (.bl true):=by rw[show D.int 1=nD 1 from rfl,Hh,Vh h.w1]
 have e4:∀r∈R,(rd (cg (nD r.sum) (nD W)):DM D)=pure (.bl true):=λr hr=>by rw[bM,h.sum r hr];simp
 simp[Eo,kW,Hk,dI,e1,e2,Ny h,Hm (R:=R) (by lia),h.sum _ h.head]
 simp[e3,Hd,aO,cQ];rw[cI nT (λz=>.bl true) (by lia) (λr hr=>by simp[e4 r hr])]
 rw[au,wy,xK]
noncomputable def aK(R:List (List Nat))(W:Nat):D:=.obj "Walk" ["rows", "whole"] [nM R,nD W]
noncomputable def Fin:=aF 2 2 (kO Eo)
def Ci{M:Mo}{ns:List Str}{vs:List D}{f:Str}{d:D}(hl:ns.length=vs.length)(hz:ns.length<1000):wX "Walk" f (.ref M.length) d (M++[.ins "Walk" ns vs])=some (.ok (),M++[.ins "Walk" (putN f ns) (jW f d ns vs)]):=by
 unfold wX;simp[hl]
 lia
def pM{R:List (List Nat)}{W:Nat}(h:WK R W)(M:Mo):Fin (.ref M.length::[nM R]) (M++[.ins "Walk" [] []])=some (.ok .non,M++[.ins "Walk" ["rows", "whole"] [nM R,nD W]]):=by
 have h1:=h.n1;have go:Rn (Fin (.ref M.length::[nM R])) (M++[.ins "Walk" [] []]) λd M'=>d=.non/\M'=M++[.ins "Walk" ["rows", "whole"] [nM R,nD W]]:=by
  simp[Fin,kO,NT h,Hm (R:=R) (by lia)]
  refine Rn.run (Ci rfl (by decide)) ?_
  rw[h.sum _ h.head];refine Rn.run (Ci rfl (by decide)) ?_
  exact Rn.pure ⟨rfl,rfl⟩
 obtain⟨d,M',e,rfl,rfl⟩:=go;exact e
open Classical in
noncomputable def tW(ds:List D):DM D:=if h:∃p:List (List Nat)×Nat,WK p.1 p.2/\ds=[nM p.1] then pure (aK (choose h).1 (choose h).2) else stuck
def Ib{R:List (List Nat)}{W:Nat}(h:WK R W):tW [nM R]=pure (aK R W):=by
 have q:∃p:List (List Nat)×Nat,WK p.1 p.2/\[nM R]=[nM p.1]:=⟨(R,W),h,rfl⟩;unfold tW;rw[dif_pos q];obtain⟨a,b⟩:=Classical.choose_spec q;generalize Classical.choose q=p at a b;have e:R=p.1:=Pn (by simpa using b)
 have w:W=p.2:=by have:=h.sum _ h.head;rw[<-this,e];exact a.sum _ a.head
 rw[<-e,<-w]
set_option tactic.hygienic true in
def QX:∀ds M r',tW ds M=some r'->Nt "Walk" Fin ds M r':=by
 intro ds M r' e;unfold tW at e;split at e
 ·rename_i q;obtain⟨a,b⟩:=Classical.choose_spec q;generalize Classical.choose q=p at a b e;subst b;cases e;refine .inl ⟨["rows", "whole"],[nM p.1,nD p.2],pM a M,λd hd=>?_,rfl⟩
  rcases Vf.mp hd with rfl | hd
  ·exact .inl (by simp)
  ·exact .inr ⟨p.2,by simpa[nD] using hd⟩
 ·cases e
def gR(R:List (List Nat))(W:Nat):(rd (pK "Walk" "rows" (aK R W)):DM D)=pure (nM R):=bK λM=>by simp[pK,aK]
def vX(R:List (List Nat))(W:Nat):(rd (pK "Walk" "whole" (aK R W)):DM D)=pure (nD W):=bK λM=>by
 have:((Str.ofString "whole")==(Str.ofString "rows"))=false:=by decide
 simp[pK,aK,List.lookup,this]
def Om{m:Str}(h:(["rows", "whole"]:List Str).contains m=false)(R:List (List Nat))(W:Nat):(rd (sI "Walk" m (aK R W)):DM Unit)=pure ():=bK λM=>by unfold sI aK;dsimp only;rw[U5 ⟨rfl,h⟩]
noncomputable def fO:=aF 1 1 mV
def O8(R:List (List Nat))(W:Nat):fO [aK R W]=pure (nD R.length):=by simp[fO,mV,gR,dI]
def jK{R:List (List Nat)}{W:Nat}(h:R.length<=25):yK "Walk" fO [aK R W]=pure (nD R.length):=by
 have e:yK "Walk" fO [aK R W]=(if ("Walk":Str) = "Walk" then fO [aK R W]>>=Dc else stuck):=rfl
 rw[e,U5 rfl,O8,au];have q:(0:Int)<=(R.length:Int)/\(R.length:Int)<2^63:=⟨by lia,by lia⟩
 unfold Dc nD;dsimp only;rw[U5 q]
def WK.le{R:List (List Nat)}{W:Nat}(h:WK R W){r:List Nat}(hr:r∈R){n:Nat}(hn:n∈r):n<=W:=by rw[<-h.sum r hr];exact nZ hn
def WK.at_le{R:List (List Nat)}{W:Nat}(h:WK R W){r:List Nat}(hr:r∈R)(y:Nat):ga r y<=W:=by
 by_cases hy:y<r.length
 ·exact h.le hr (m9 hy)
 ·rw[Oh (by lia)];exact Wo _
def BW{m:DM D}{v:D}(h:∀M,Rn m M λd M'=>d=v/\M'=M):m=pure v:=by funext M;obtain⟨d,M',e,rfl,rfl⟩:=h M;exact e
def Nr:∀l:List Nat,S l.length (ga l)=l.sum:=λl=>by
 rw[<-pF];congr 1;apply YD;intro k;by_cases hk:k<l.length
 ·rw[Vl,Wh hk,U3 hk,Option.map_some,fZ hk]
 ·rw[Wa (by simp;lia),Wa (by lia)]
def Gm(b:Bool):(rd (Dm [.bl b]):DM D)=pure (nD (if b then 1 else 0)):=by cases b<;>rfl
def MF{l:List Nat}{i v:Nat}(h:i<l.length):(l.set i v).sum + ga l i=l.sum + v:=by
 induction l generalizing i with
 |nil=>simp at h
 | cons a l ih=>
   cases i with
   |zero=>simp[ga];lia
   |succ i=>
     have:=ih (i:=i) (by simpa using h)
     rw[List.set_cons_succ,Xc,Xc];have e:ga (a::l) (i+1)=ga l i:=rfl;rw[e];lia
def QR{l:List Nat}{c:Nat}(h:∀ n∈l,n<=c):l.sum<=l.length * c:=by
 induction l with
 |nil=>simp
 |cons a l ih=>
   have:=ih λn hn=>h n (by simp[hn])
   have:=h a (by simp)
   rw[Xc,Wd,Nat.add_mul]
   lia
def Ko{n j:Nat}{d:D}(h:((List.range n).map nD)[j]?=some d):j<n/\d=nD j:=by
 have hj:j<n:=by have:=(UW.mp h).1;simpa using this
 rw[Vl,Wh hj]at h;exact⟨hj,(Vc h).symm⟩
def Pa{a b:Nat}(h:a<2^b){c:Nat}(hc:b<=c):a<2^c:=Va h (VM (by decide) hc)
def Hl{l:List Nat}{i:Nat}(h:i<l.length):(rd (cZ (.lst (l.map nD)) (nD i)):DM D)=pure (nD (ga l i)):=qX (i:=i) (by rw[Vl,U3 h,fZ h];rfl)
def fF{k:Nat}{tg:D->aj->DM aj}{fb:aj->DM Fl}{l:List D}{δ:aj}:Dk k tg fb (.fix l) δ=forL tg fb l δ:=rfl
def lA{fg:D->aj->DM aj}{ft:aj->DM Bool}{fb:aj->List D->DM (aj×List D)}{ds:List D}{δ:aj}{l:List D}:cA fg ft fb (.fix ds) δ l=aZ fg ft fb ds δ l:=rfl
set_option tactic.hygienic true in
def Fg{i:Int}(h:i.natAbs<2^1000):Builtin.Int.intBits i<=1000:=by
 unfold Builtin.Int.intBits;split
 ·exact Wo _
 ·rename_i h0;have:i.natAbs≠0:=by intro z;apply h0;simp;lia
  exact (Nat.log2_lt this).mpr h
def Lr{i j:Int}(h:i.natAbs<2^1000)(h':j.natAbs<2^1000):fG i j=true:=by
 unfold fG;have h1:=Fg h;have h2:=Fg h';have:Builtin.Int.intTooBig ((Builtin.Int.intBits i:Int)+(Builtin.Int.intBits j:Int))=false:=by
  unfold Builtin.Int.intTooBig;refine Vz λq=>?_
  have hb:2000<=bitsLine:=by decide
  lia
 simp[this]
def Mt{a b:Nat}(ha:a<2^62)(hb:b<2^62):zy [nD a,nD b]=some (.fix ((List.range (b-a)).map λk=>nD (a+k))):=by
 have e:∀x:Nat,x<2^62->oN (x:Int)=true:=λx h=>by unfold oN;simp;lia
 have e2:((b:Int)-(a:Int)).toNat=b-a:=by lia
 simp[zy,nD,e a ha,e b hb,e2,oM]
def jG{f g:aj->DM Fl}{δ:aj}{M:Mo}{Q:Fl->Mo->Prop}(h:∀K:Fl->DM Fl,(∀δ',K (.nx δ')=g δ')->(∀d,K (.rt d)=Pure.pure (.rt d))->Rn (f δ>>=K) M Q):Rn (vB f g δ) M Q:=by
 have:=h (λr=>match r with | .nx δ'=>g δ' | r=>Pure.pure r) (λz=>rfl) (λz=>rfl)
 exact this
noncomputable def Es:=aF 1 1 rK
def G3{s:Nat}(h:s<2^40):∃t:Nat,t<2147483629/\Es [nD s]=pure (nD t):=by
 refine⟨(((s+7919)%2147483647)*((s+7919)%2147483647)+48271*((s+7919)%2147483647)+12345)%2147483629,W0 _ (by decide),?_⟩
 have a1:(rd (bY (nD s) (.int 7919)):DM D)=pure (nD (s+7919)):=jX s 7919;have a2:(rd (lX (nD (s+7919)) (.int 2147483647)):DM D)=pure (nD ((s+7919)%2147483647)):=ig (b:=2147483647) (by decide)
 have lt:=W0 (s+7919) (show 2147483647 > 0 by decide)
 generalize (s+7919)%2147483647=x at a2 lt;have a3:(rd (pU (nD x) (nD x)):DM D)=pure (nD (x*x)):=nQ (by lia)
 have a4:(rd (pU (.int 48271) (nD x)):DM D)=pure (nD (48271*x)):=nQ (a:=48271) (by lia)
 have a5:∀a b:Nat,(rd (bY (nD a) (nD b)):DM D)=pure (nD (a+b)):=λa b=>jX a b
 have a6:(rd (bY (nD (x*x+48271*x)) (.int 12345)):DM D)=pure (nD (x*x+48271*x+12345)):=jX _ 12345;have a7:(rd (lX (nD (x*x+48271*x+12345)) (.int 2147483629)):DM D)=pure (nD ((x*x+48271*x+12345)%2147483629)):=ig (b:=2147483629) (by decide)
 simp[Es,rK,a1,a2,a3,a4,a5,a6,a7]
noncomputable def cC(p:Nat)(M:Mo):Prop:=∃a b c:Nat,c<2^40/\M[p]?=some (.lst [nD a,nD b,nD c])
def cC.lt{p:Nat}{M:Mo}(h:cC p M):p<M.length:=by obtain⟨a,b,c,_,e⟩:=h;exact (UW.mp e).1
def cC.sb{p q:Nat}{M M':Mo}(h:cC p M)(s:Sb q M M')(hq:p≠q):cC p M':=by obtain⟨a,b,c,hc,e⟩:=h;exact⟨a,b,c,hc,s.at hq e⟩
noncomputable def xq:=aF 1 2 oZ
def Mm(c:Int)(M:Mo):Rn (xq [.int c]) M λd M'=>d=.ref M.length/\cC M.length M':=by
 unfold xq oZ iY;dsimp only;refine Rn.call rfl ?_;refine aJ λK hK=>?_
 have p18:(rd (Dy (.int 10) (.int 18)):DM D)=pure (.int 1000000000000000000):=by rw[Km (by decide)];rfl
 have st:bQ 2 [D.int c]=[some (.int c),none]:=rfl;rw[st];simp;have en:D.int (if c < -c then -c else c)=nD (if c < -c then -c else c).toNat:=by unfold nD;congr 1;split<;>lia
 rw[en];generalize (if c < -c then -c else c).toNat=n
 rw[hK];clear hK K;have ge:(rd (yD (nD n) (.int 1000000000000000000)):DM D)=pure (.bl (decide (1000000000000000000<=n))):=Hh n 1000000000000000000;have md:(rd (lX (nD n) (.int 1000003)):DM D)=pure (nD (n%1000003)):=ig (b:=1000003) (by decide)
 simp[p18,ge,Gm,md];refine Rn.eQ (by simp) ?_
 have lt:=W0 n (show 1000003 > 0 by decide)
 exact Rn.pure ⟨_,rfl,rfl,n,(if 1000000000000000000<=n then 1 else 0),n%1000003,by lia,by simp⟩
noncomputable def o9:=aF 2 3 (rJ Es)
def dU{p:Nat}{M:Mo}{m:Nat}(h:cC p M)(h0:0<m)(h1:m<2 ^ 60):Rn (o9 [.ref p,nD m]) M λd M'=>∃ t:Nat,t<m/\d=nD t/\cC p M'/\Sb p M M':=by
 obtain⟨a,b,c,hc,e⟩:=h;have hp:=(UW.mp e).1;unfold o9 rJ mq;dsimp only;refine Rn.call rfl ?_;have st:bQ 3 [D.ref p,nD m]=[some (.ref p),some (nD m),none]:=rfl;rw[st];have i0:cZ (.ref p) (.int 0) M=some (nD a):=pR (i:=0) e rfl;have i1:cZ (.ref p) (.int 1) M=some (nD b):=pR (i:=1) e rfl;have i2:cZ (.ref p) (.int 2) M=some (nD c):=pR (i:=2) e rfl;have eb:(rd (cg (nD b) (.int 1)):DM D)=pure (.bl (decide (b=1))):=bM b 1;have ga:(rd (Bh (nD a) (.int 0)):DM D)=pure (.bl (decide (0<a))):=Hj a 0;refine jG λK hK hR=>?_
 have rest:Rn (K (.nx [some (.ref p),some (nD m),none])) M λr M'=>∃d,r=.rt d/\∃t:Nat,t<m/\d=nD t/\cC p M'/\Sb p M M':=by
  rw[hK];clear hK hR K;refine aJ λK hK=>?_
  simp;refine Rn.bindRd _ i2 ?_;obtain⟨t1,l1,e1⟩:=G3 hc;have a7:(rd (bY (nD t1) (.int 7)):DM D)=pure (nD (t1+7)):=jX t1 7;obtain⟨t2,l2,e2⟩:=G3 (s:=t1+7) (by lia)
  simp only[e1,au,a7,e2];refine Rn.run (rm (i:=2) e (by simp)) ?_
  rw[hK];clear hK K;simp;have at2:(M.set p (.lst [nD a,nD b,nD t2]))[p]?=some (.lst [nD a,nD b,nD t2]):=V1 hp;refine Rn.bindRd (nD t2) (pR (i:=2) at2 rfl) ?_;have dv:(rd (lB (nD t2) (.int 64)):DM D)=pure (nD (t2 / 64)):=uH (b:=64) (by decide) (by decide)
  simp[dv,ig (a:=t2 / 64) (b:=m) h0];exact Rn.pure ⟨_,rfl,_,W0 _ h0,rfl,⟨a,b,t2,by lia,at2⟩,Sb.set⟩
 simp;refine Rn.bindRd _ i1 ?_;simp only[eb,au,oK];by_cases hb:b=1
 ·simp[hb];refine Rn.bindRd _ i0 ?_;simp only[ga,au,oK];by_cases ha:0<a
  ·simp[ha];refine Rn.bindRd _ i0 ?_;simp[ig (a:=a) (b:=m) h0];refine Rn.bindRd _ i0 ?_;simp[uH (a:=a) (b:=m) h0 (Nat.lt_trans h1 (by decide))]
   refine Rn.run (rm (i:=0) e (by simp)) ?_
   have at2:(M.set p (.lst [nD (a / m),nD b,nD c]))[p]?=some (.lst [nD (a / m),nD b,nD c]):=V1 hp;simp;rw[hR];exact Rn.pure ⟨_,rfl,_,W0 _ h0,rfl,⟨_,b,c,hc,at2⟩,Sb.set⟩
  ·simp[ha];exact rest
 ·simp[hb];exact rest
inductive Rch(N:List (List Nat))(x:Nat):Nat->Prop
 |here:Rch N x x
 |step {y z:Nat}:Rch N x y->z∈gr N y->Rch N x z
noncomputable def xm:=aF 2 6 (dZ 60)
def Q9:∀ds M r,xm ds M=some r->∃n,aF 2 6 (dZ n) ds M=some r:=λz z z h=>⟨60,h⟩
structure Bfs(N:List (List Nat))(s n:Nat)(ks q:List Nat):Prop where
 nd:ks.Nodup
 lt:∀x∈ks,x<n
 rch:∀x∈ks,Rch N s x
 st:s∈ks
 sub:∀x∈q,x∈ks
 done:∀x∈ks,x∉q->∀y∈gr N x,y∈ks
def Bfs.all{N:List (List Nat)}{s n:Nat}{ks:List Nat}(b:Bfs N s n ks [])(x:Nat):x∈ks ↔ Rch N s x:=by
 refine⟨b.rch x,λh=>?_⟩
 induction h with
 |here=>exact b.st
 |step h1 h2 ih=>exact b.done _ ih (by simp) _ h2
def oF{n:Nat}{ks:List Nat}(nd:ks.Nodup)(lt:∀x∈ks,x<n):ks.length<=n:=by
 have:=List.Nodup.length_le_of_subset nd (l₂:=List.range n) λx hx=>Ve.mpr (lt x hx)
 rwa [V6]at this
def Qm{N:List (List Nat)}{x:Nat}(h:x<N.length):(rd (cZ (.lst (N.map nT)) (nD x)):DM D)=pure (nT (gr N x)):=bK λM=>by
 show (aR (.lst (N.map nT)) M).bind (λl=>atI l (x:Int))=_
 show atI (N.map nT) (x:Int)=_;unfold atI;have e:ixN (N.map nT).length (x:Int)=some x:=by rw[U6];exact Gp h
 rw[e];show (N.map nT)[x]?=_;rw[Vl,U3 h];unfold gr;rw[V4,U3 h];rfl
structure FsS(M0:Mo)(ks vs q:List Nat)(M:Mo):Prop where
 dic:M[M0.length]?=some (.dic (kD ks) (vs.map nD))
 que:M[M0.length+1]?=some (.lst (q.map nD))
 len:ks.length=vs.length
 old:∀(j:Nat) (o:DO),M0[j]?=some o->M[j]?=some o
def FsS.setQ{M0 M:Mo}{ks vs q:List Nat}(f:FsS M0 ks vs q M)(q':List Nat):FsS M0 ks vs q' (M.set (M0.length+1) (.lst (q'.map nD))):=
 ⟨by rw[List.getElem?_set_ne (by lia)];exact f.dic,by rw[List.getElem?_set_self (List.getElem?_eq_some_iff.mp f.que).1],f.len,fun j o e=>by have:=(UW.mp e).1;rw[Wf (by lia)];exact f.old j o e⟩
def FsS.setK{M0 M:Mo}{ks vs q:List Nat}(f:FsS M0 ks vs q M)(x v:Nat):FsS M0 (ks++[x]) (vs++[v]) q (M.set M0.length (.dic (kD (ks++[x])) ((vs++[v]).map nD))):=
 ⟨by rw[List.getElem?_set_self (List.getElem?_eq_some_iff.mp f.dic).1],by rw[List.getElem?_set_ne (by lia)];exact f.que,by simp[f.len],fun j o e=>by have:=(UW.mp e).1;rw[Wf (by lia)];exact f.old j o e⟩
noncomputable def Sw(M0:Mo)(N:List (List Nat))(s n:Nat)(m:Nat)(δ:aj)(M:Mo):Prop:=m<=25/\∃ks vs q,Bfs N s n ks q/\m=q.length+(n-ks.length)/\FsS M0 ks vs q M/\∃z4 z5,δ=[some (.lst (N.map nT)),some (nD s),some (.ref M0.length),some (.ref (M0.length+1)),z4,z5]
structure Mid(N:List (List Nat))(s n x m i:Nat)(ks q:List Nat):Prop where
 nd:ks.Nodup
 lt:∀y∈ks,y<n
 rch:∀y∈ks,Rch N s y
 st:s∈ks
 me:x∈ks
 sub:∀y∈q,y∈ks
 done:∀y∈ks,y∉q->y≠x->∀z∈gr N y,z∈ks
 seen:∀z∈(gr N x).take i,z∈ks
 ms:q.length+(n-ks.length)+1=m
def Mid.fin{N:List (List Nat)}{s n x m i:Nat}{ks q:List Nat}(h:Mid N s n x m i ks q)(hi:(gr N x).length<=i):Bfs N s n ks q:=
 ⟨h.nd,h.lt,h.rch,h.st,h.sub,fun y hy hq z hz=>by
  by_cases e:y=x
  ·subst e;exact h.seen z (by rw[Xh hi];exact hz)
  ·exact h.done y hy hq e z hz⟩
def Mid.skip{N:List (List Nat)}{s n x m i y:Nat}{ks q:List Nat}(h:Mid N s n x m i ks q)(hy:(gr N x)[i]?=some y)(hk:y∈ks):Mid N s n x m (i+1) ks q:=
 ⟨h.nd,h.lt,h.rch,h.st,h.me,h.sub,h.done,fun z hz=>by
  rw[List.take_succ,hy]at hz;rcases Vd.mp hz with z1 | z1
  ·exact h.seen z z1
  ·simp at z1;exact z1 ▸ hk,h.ms⟩
def Mid.add{N:List (List Nat)}{s n x m i y:Nat}{ks q:List Nat}(h:Mid N s n x m i ks q)(hy:(gr N x)[i]?=some y)(hk:y∉ks)(hn:y<n):Mid N s n x m (i + 1) (ks++[y]) (q++[y]):=by
 have lk:=oF h.nd h.lt;have nd':(ks++[y]).Nodup:=XJ.mpr ⟨h.nd,by simp,λa ha b hb e=>hk (by simp at hb;subst hb;exact e ▸ ha)⟩
 have lt':∀z∈ks++[y],z<n:=λz hz=>by
  rcases Vd.mp hz with z1 | z1
  ·exact h.lt z z1
  ·simp at z1;lia
 have lk':=oF nd' lt';refine⟨nd',lt',λz hz=>?_,by simp[h.st],by simp[h.me],λz hz=>?_,λz hz hq hx w hw=>?_,λz hz=>?_,?_⟩
 ·rcases Vd.mp hz with z1 | z1
  ·exact h.rch z z1
  ·simp at z1;subst z1;exact .step (h.rch x h.me) (Vo hy)
 ·rcases Vd.mp hz with z1 | z1
  ·simp[h.sub z z1]
  ·simp at z1;simp[z1]
 ·have hzy:z≠y:=λe=>hq (by simp[e])
  have hzk:z∈ks:=by
   rcases Vd.mp hz with z1 | z1
   ·exact z1
   ·simp at z1;exact absurd z1 hzy
  exact Vd.mpr (.inl (h.done z hzk (λe=>hq (by simp[e])) hx w hw))
 ·rw[List.take_succ,hy]at hz;rcases Vd.mp hz with z1 | z1
  ·simp[h.seen z z1]
  ·simp at z1;simp[z1]
 ·have:=h.ms;simp at lk' ⊢
  lia
def Bfs.mid{N:List (List Nat)}{s n x:Nat}{ks q:List Nat}(h:Bfs N s n ks (x::q)):Mid N s n x ((x::q).length+(n-ks.length)) 0 ks q:=
 ⟨h.nd,h.lt,h.rch,h.st,h.sub x (by simp),λy hy=>h.sub y (by simp[hy]),λy hy hq hx=>h.done y hy (by simp[hx,hq]),λz hz=>by simp at hz,by simp;lia⟩
noncomputable def S7(M0:Mo)(N:List (List Nat))(s n x m:Nat)(i:Nat)(δ:aj)(M:Mo):Prop:=(∃ks vs q,Mid N s n x m i ks q/\FsS M0 ks vs q M)/\∃z5,δ=[some (.lst (N.map nT)),some (nD s),some (.ref M0.length),some (.ref (M0.length+1)),some (nD x),z5]
def Og{N:List (List Nat)}{s n:Nat}(hN:N.length=n)(hn:n<=25)(hs:s<n)(hg:∀ x,∀ y∈gr N x,y<n)(M0:Mo):
  Rn (xm [.lst (N.map nT),nD s]) M0 λd M'=>d=.ref M0.length/\∃(ks vs:List Nat),M'[M0.length]?=some (.dic (kD ks) (vs.map nD))/\ks.Nodup/\(∀x,x∈ks ↔ Rch N s x)/\(∀x∈ks,x<n)/\∀(j:Nat) (o:DO),M0[j]?=some o->M'[j]?=some o:=by
 unfold xm dZ gY;dsimp only;refine Rn.call rfl ?_;have st:bQ 6 [.lst (N.map nT),nD s]=[some (.lst (N.map nT)),some (nD s),none,none,none,none]:=rfl;rw[st];refine aJ λK hK=>?_
 simp only[bU,eN,aM];refine Rn.bind (Q1:=λd M1=>d=.ref M0.length/\M1=M0++[.dic (kD [s]) [nD 0]]) ⟨_,_,rfl,rfl,rfl⟩ λd M1 ⟨e1,e2⟩=>?_
 subst e1 e2;simp only[eU,au];rw[hK];clear hK K;refine aJ λK hK=>?_
 simp only[bU,eN,aM];refine Rn.eQ (by simp) ?_
 simp only[eU,au,List.length_append,List.length_cons,List.length_nil,Nat.zero_add];rw[hK];clear hK K;have init:Sw M0 N s n (1+(n-1)) [some (.lst (N.map nT)),some (nD s),some (.ref M0.length),some (.ref (M0.length+1)),none,none] ((M0++[.dic (kD [s]) [nD 0]])++[.lst [nD s]]):=by
  refine⟨by lia,[s],[0],[s],⟨by simp,by simp;exact hs,λx hx=>by simp at hx;rw[hx];exact .here,by simp,by simp,λx hx hq=>absurd hx hq⟩,rfl,⟨by simp,by simp,rfl,λj o e=>?_⟩,none,none,rfl⟩
  have:=(UW.mp e).1;rw[WN,Vb this];exact e
 refine aJ λK hK=>?_
 refine Rn.bind (wG (pB:=λδ M=>∃(ks vs:List Nat) (z4 z5:Option D),Bfs N s n ks []/\FsS M0 ks vs [] M/\δ=[some (.lst (N.map nT)),some (nD s),some (.ref M0.length),some (.ref (M0.length+1)),z4,z5]) (Sw M0 N s n) (λm δ M hI=>?_) 60 _ _ _ (by lia) init) λr M hI=>?_
 rotate_left
 ·obtain⟨δ',rfl,ks,vs,z4,z5,b,f,rfl⟩:=hI;rw[hK];simp only[bU,eN];exact Rn.pure ⟨_,rfl,rfl,ks,vs,f.dic,b.nd,b.all,b.lt,f.old⟩
 clear hK K init;obtain⟨hm25,ks,vs,q,b,rfl,f,z4,z5,rfl⟩:=hI;have tr:iB (.ref (M0.length+1)) M=some (!(q.map nD).isEmpty):=by unfold iB;dsimp only;rw[f.que]
 refine⟨!(q.map nD).isEmpty,?_,λhb=>?_,λhb=>?_⟩
 ·show (rd (iB (.ref (M0.length+1))):DM Bool) M=_;unfold rd;rw[tr];rfl
 rotate_left
 ·have:q=[]:=by cases q with
   |nil=>rfl
   |cons a l=>simp at hb
  subst this;exact⟨ks,vs,z4,z5,b,f,rfl⟩
 cases q with
 |nil=>simp at hb
 |cons x q=>
 clear hb tr;have mid0:=b.mid;have hx:=b.lt x mid0.me;refine aJ λK hK=>?_
 simp only[bU,eN,aM];have lo:aR (.ref (M0.length+1)) M=some ((x::q).map nD):=by unfold aR;dsimp only;rw[f.que]
 refine Rn.bindRd _ lo ?_;have pp:JM (.ref (M0.length+1)) [.int 0] M=some (.ok (nD x),M.set (M0.length+1) (.lst (q.map nD))):=by
  have ei:ixN ((x::q).map nD).length 0=some 0:=by simp[ixN]
  delta JM;dsimp only;rw[f.que];dsimp only;rw[ei];rfl
 refine Rn.run pp ?_;have f1:=f.setQ q;generalize M.set (M0.length+1) (.lst (q.map nD))=M1 at f1;simp only[eU,au];rw[hK];clear hK K;have at':(opt (jo (nT (gr N x))):DM Itn)=pure (.fix ((gr N x).map nD)):=rfl;simp only[bU,eN,aM,Qm (N:=N) (x:=x) (by lia),at',fF]
 refine (cV (S7 M0 N s n x ((x::q).length+(n-ks.length))) _ 0 _ _ ⟨⟨ks,vs,q,mid0,f1⟩,_,rfl⟩ (λi d δ M2 hi hI=>?_)).mono (λr M2 hI=>?_)
 rotate_left
 ·obtain⟨δ',rfl,⟨ks',vs',q',md,f'⟩,z5,rfl⟩:=hI;have bf:=md.fin (by simp)
  exact⟨_,q'.length+(n-ks'.length),rfl,by have:=md.ms;lia,by have:=md.ms;lia,ks',vs',q',bf,rfl,f',_,_,rfl⟩
 rw[Vl]at hi;obtain⟨y,hy,rfl⟩:=U4.mp hi;obtain⟨⟨ks',vs',q',md,f'⟩,z5,rfl⟩:=hI;rw[V2]at md ⊢
 have hyn:=hg x y (Vo hy);have lk:=oF md.nd md.lt;rw[mD,au];simp only[eU,bU,eN,aM];refine Rn.bindRd _ (Je (x:=y) f'.dic (by rw[U6];exact f'.len)) ?_
 simp only[oK,au];by_cases hk:y∈ks'
 ·have e:ks'.contains y=true:=by simpa using hk
  rw[e];simp only[Bool.not_true,Bool.false_eq_true,if_false];exact Rn.pure ⟨_,rfl,⟨ks',vs',q',md.skip hy hk,f'⟩,_,rfl⟩
 ·have e:ks'.contains y=false:=by simpa using hk
  rw[e];simp only[Bool.not_false,if_true];refine aJ λK hK=>?_
  obtain⟨v,_,ev⟩:=K5 f'.dic f'.len md.me;simp only[bU,eN,aM];refine Rn.bindRd _ ev ?_;have a1:(rd (bY (nD v) (.int 1)):DM D)=pure (nD (v+1)):=jX v 1;simp only[a1,au];refine Rn.run (Jf (x:=y) (v:=nD (v+1)) f'.dic (by rw[U6];exact f'.len) hk (by lia)) ?_
  have f2:=f'.setK y (v+1);rw[XC,Vt,Yo]at f2;generalize M2.set M0.length (.dic (kD (ks'++[y])) (vs'.map nD++[nD (v+1)]))=M3 at f2;rw[hK];clear hK K;have lo2:aR (.ref (M0.length+1)) M3=some (q'.map nD):=by unfold aR;dsimp only;rw[f2.que]
  simp only[bU,eN,aM];refine Rn.bindRd _ lo2 ?_;have ql:q'.length<1000000:=by have:=md.ms;lia
  refine Rn.run (uP (v:=nD y) f2.que (by rw[U6];exact ql)) ?_
  have f3:=f2.setQ (q'++[y]);rw[XC,Vt,Yo]at f3;exact Rn.pure ⟨_,rfl,⟨_,_,_,md.add hy hk hyn,f3⟩,_,rfl⟩
def Df{ft:aj->DM Bool}{rest:aj}{n:Nat}{h:Nat->D}{x y:Option D}(p:Nat->Bool)(hn:n<=1000)(hf:∀ j,j<n->ft (some (nD j)::some (h j)::rest)=pure (p j)):
  ∃δ',dB (aZ (gT 2 (fu (gN 0) (fu (gN 1) qM))) ft (bV (fJ 0)) ((List.range n).map λj=>.tup [nD j,h j]) (x::y::rest) [])=pure (δ',((List.range n).filter p).map nD):=by
 let f1:D->D:=λd=>match d with | .tup [a,b]=>a | _=>.non
 let f2:D->D:=λd=>match d with | .tup [a,b]=>b | _=>.non
 let pd:D->Bool:=λd=>match d with | .tup [.int i,_]=>p i.toNat | _=>false
 obtain ⟨δ',q⟩:=sW (fg:=gT 2 (fu (gN 0) (fu (gN 1) qM))) (ft:=ft) (fe:=fJ 0) (λδ=>∃ x y,δ=x::y::rest) (λd=>some (f1 d)::some (f2 d)::rest) pd f1 ((List.range n).map λj=>.tup [nD j,h j]) (x::y::rest) [] ⟨x,y,rfl⟩ (by simp;lia)
  (λd hd δ ⟨x,y,hδ⟩=>by
    obtain⟨j,_,rfl⟩:=Vy.mp hd;exact⟨by subst hδ;rfl,_,_,rfl⟩) (λd hd=>by
    obtain⟨j,hj,rfl⟩:=Vy.mp hd;have:=hf j (Ve.mp hj);show ft (some (nD j)::some (h j)::rest)=pure (p (j:Int).toNat);rw[We];exact this) (λd hd z=>by
    obtain⟨j,hj,rfl⟩:=Vy.mp hd;rfl)
 refine⟨δ',?_⟩;rw[q,Kl,Yi,List.filter_map,VP];congr 2
open Classical in
noncomputable def rc(N:List (List Nat))(x y:Nat):Bool:=decide (Rch N x y)
def p7{N:List (List Nat)}{x y:Nat}:rc N x y=true ↔ Rch N x y:=by classical exact⟨λh=>V3 h,λh=>Vh h⟩
noncomputable def gf(N:List (List Nat))(n:Nat):List (List Nat):=(List.range n).map λx=>(List.range n).filter (rc N x)
noncomputable def Uc(M0:Mo)(N:List (List Nat))(n:Nat)(i:Nat)(δ:aj)(l:List D)(M:Mo):Prop:=(∃z,δ=[z,some (.lst (N.map nT))])/\l=((gf N n).take i).map nT/\∀(j:Nat) (o:DO),M0[j]?=some o->M[j]?=some o
def Lh{vK fO:Fn}{w:D}{N:List (List Nat)}{n:Nat}(h1:vK [w]=pure (.lst (N.map nT)))(h2:yK "Walk" fO [w]=pure (nD n))(hN:N.length=n)(hn:n<=25)(hg:∀ x,∀ y∈gr N x,y<n)(M0:Mo):
  Rn (aF 1 2 (rY vK xm fO) [w]) M0 λd M'=>d=nM (gf N n)/\∀(j:Nat) (o:DO),M0[j]?=some o->M'[j]?=some o:=by
 unfold rY tE;dsimp only;refine Rn.call rfl ?_;have st:bQ 2 [w]=[some w,none]:=rfl;rw[st];refine aJ λK hK=>?_
 simp only[eU,bU,eN,aM,h1];rw[hK];clear hK K;simp only[bU,eN,aM];have ce:aO [Str.ofString "start"].length [1] [some w,some (D.lst (N.map nT))]=[none,some (.lst (N.map nT))]:=rfl;have rg:qd [nD n]=some (.fix ((List.range n).map nD)):=zu (n:=n) (by lia)
 rw[h2,au,rg,dj,au,ce];simp only[ie];have tl:∀l:List D,(rd (n6 [.lst l]):DM D)=pure (.tup l):=λl=>rfl
 refine Rn.bind (xF (lE (Uc M0 N n) ((List.range n).map nD) 0 _ _ _ ⟨⟨none,rfl⟩,rfl,λv v e=>e⟩ (λi d δ l M hi hI=>?_))) λpr M hI=>?_
 ·obtain⟨⟨z,rfl⟩,rfl,old⟩:=hI;rw[Vl]at hi;obtain⟨x,hx,rfl⟩:=U4.mp hi;have hin:i<n:=by have:=(UW.mp hx).1;simpa using this
  obtain rfl:i=x:=by rw[Wh hin]at hx;cases hx;rfl
  rw[V2];rw[mD,au,au,U5 rfl];unfold bV;simp only[bU,List.set_cons_zero,aM];refine Rn.bind (Og hN hn hin hg M) λd M1 ⟨e,ks,vs,hd,nd,hr,lt,old1⟩=>?_
  subst e;have hp:∀y,y∈ks ↔ y<n/\rc N i y=true:=λy=>by rw[p7,<-hr y];exact⟨λh=>⟨lt y h,h⟩,λh=>h.2⟩
  refine Rn.bindRd _ (HH hd (by have:=oF nd lt;lia) nd hp) ?_
  rw[tl,au];have ll:(gf N n).length=n:=by unfold gf;rw[U6,V6]
  have lt2:(((gf N n).take i).map nT).length<sizeLine:=by
   rw[U6,W3,ll];show _<2^24
   lia
  rw[U5 lt2];refine Rn.pure ⟨⟨_,rfl⟩,?_,λj o e=>old1 j o (old j o e)⟩
  have gi:(gf N n)[i]?=some ((List.range n).filter (rc N i)):=by unfold gf;rw[Vl,Wh hin];rfl
  rw[List.take_succ,gi,Option.toList_some,XC];rfl
 obtain⟨_,el,old⟩:=hI;have ll:(gf N n).length=n:=by unfold gf;rw[U6,V6]
 have tk:(gf N n).take (0+((List.range n).map nD).length)=gf N n:=by rw[V2,U6,V6];exact Xh (by rw[ll];exact U0 n)
 rw[tk]at el;rw[el];simp only[p6,au,tl];exact Rn.pure ⟨_,rfl,rfl,old⟩
def Qk(a b:List Nat):(rd (cg (.lst (a.map nD)) (.lst (b.map nD))):DM D)=pure (.bl (decide (a=b))):=bK λM=>by
 have e:∀l:List Nat,l.map nD=(l.map λn:Nat=>(n:Int)).map D.int:=λl=>by rw[VP];rfl
 have d:=fW (a.map λn:Nat=>(n:Int))
 have q:=iQ (a.map λn:Nat=>(n:Int)) (b.map λn:Nat=>(n:Int))
 have c:decide ((a.map λn:Nat=>(n:Int))=(b.map λn:Nat=>(n:Int)))=decide (a=b):=by rw[Vu,V7,V7];exact jP
 rw[e a,e b];simp only[cg,L3.eqB,eqP,toPy,gD,Option.map_some,PyData.canLay0,lay_ints,PyData.depth,PyData.eqv];rw[q,c,U5 (by rw[Bool.and_self,Bool.true_and];exact Vh (by lia))]
 rfl
def vp{a b:List D}(h:a.length+b.length<=1000000):(rd (bY (.lst a) (.lst b)):DM D)=pure (.lst (a++b)):=bK λM=>by
 have:dD (a++b)=true:=by unfold dD;exact Vh (by show (a++b).length<=2^24;rw[Vk];lia)
 simp[bY,aR,u9,this]
theorem ux(h:Nat->D):∀ (n k:Nat),dg k ((List.range' k n).map h)=(List.range' k n).map λj=>.tup [nD j,h j]
 |0,k=>rfl
 |n+1,k=>by rw[List.range'_succ,Vt,Vt];show D.tup [.int (k:Int),h k]::dg (k+1) _=_;rw[ux h n (k+1)];rfl
end K
set_option exponentiation.threshold 2000
namespace K
open PySem L2 L3 N10 LB
noncomputable def ju(R:List (List Nat)):List (List Nat):=R.map λr=>(List.range r.length).filter λy=>decide (0<ga r y)
noncomputable def vK:=aF 1 1 o4
def Px{R:List (List Nat)}{W:Nat}(h:WK R W):vK [aK R W]=pure (.lst ((ju R).map nT)):=by
 have n25:=h.n25;have as:jo (nM R)=some (.fix (R.map nT)):=rfl;have ce:aO 1 [] [some (aK R W)]=[none]:=rfl;simp[vK,o4,gR,as,lA,ce];rw[cI nT (λr=>nT ((List.range r.length).filter λy=>decide (0<ga r y))) (by lia) λr hr=>?_]
 ·simp[ju];rfl
 ·have lr:=h.row r hr;have en:uv [nT r]=some (.fix ((List.range r.length).map λj=>.tup [nD j,nD (ga r j)])):=by
   have e:r.map nD=(List.range' 0 r.length).map λj=>nD (ga r j):=by
    apply Zh
    ·simp
    ·intro i h1 h2;simp at h1;simp[fZ h1]
   show some (Itn.fix (dg 0 (r.map nD)))=_;rw[e,ux,List.range_eq_range']
  have ce2:aO 2 [] [some (nT r)]=[none,none]:=rfl;obtain⟨δ',q⟩:=Df (rest:=[]) (n:=r.length) (h:=λj=>nD (ga r j)) (x:=none) (y:=none) (ft:=λδ=>opt δ[1]?.join>>=λa=>rd (Bh a (D.int 0))>>=iG) (λy=>decide (0<ga r y)) (by lia) λj hj=>by have gt:(rd (Bh (nD (ga r j)) (.int 0)):DM D)=pure (.bl (decide (0<ga r j))):=Hj (ga r j) 0;simp[gt]
  simp only[List.getElem?_cons_zero,Option.join_some,dj,au,en,lA,ce2,q];rfl
def vg(R:List (List Nat)):(ju R).length=R.length:=by simp[ju]
def G4{R:List (List Nat)}{x:Nat}(hx:x<R.length):gr (ju R) x=(List.range (gr R x).length).filter λy=>decide (0<ga (gr R x) y):=by
 rw[lC (by rw[vg];exact hx),lC hx]
 simp[ju]
def Py{R:List (List Nat)}{W:Nat}(h:WK R W)(x:Nat):∀ y∈gr (ju R) x,y<R.length:=λy hy=>by
 by_cases hx:x<R.length
 ·rw[G4 hx]at hy;have:=Ve.mp (VN.mp hy).1;rw[h.row _ (gr_mem hx)]at this;exact this
 ·have:gr (ju R) x=[]:=by unfold gr;rw[V4,Wa (by rw[vg];lia)];rfl
  rw[this]at hy;cases hy
noncomputable def J1:=aF 1 2 (rY vK xm fO)
noncomputable def LD(R:List (List Nat)):List (List Nat):=gf (ju R) R.length
def pA(R:List (List Nat)):(LD R).length=R.length:=by simp[LD,gf]
def O3{R:List (List Nat)}{W:Nat}(h:WK R W)(M:Mo):Rn (J1 [aK R W]) M λd M'=>d=nM (LD R)/\∀(j:Nat) (o:DO),M[j]?=some o->M'[j]?=some o:=Lh (Px h) (jK h.n25) (vg R) h.n25 (Py h) M
def lO(l:List Nat):List Int:=l.map λn:Nat=>(n:Int)
def Pq(l:List Nat):nT l=tupI (lO l):=by simp[nT,tupI,lO,nD,Function.comp_def]
theorem xT{α:Type}{ft:aj->DM Bool}{fe:aj->DM D}{rest:aj}(enc:α->D)(p:α->Bool)(e:α->List Int):∀ (as:List α) (x:Option D) (l:List D),l.length + as.length<=18->(∀ a∈as,ft (some (enc a)::rest)=pure (p a))->(∀ a∈as,p a=true->fe (some (enc a)::rest)=pure (tupI (e a))/\e a≠[])->
  ∃z,aZ (gN 0) ft (lu fe) (as.map enc) (x::rest) l=pure (z::rest,l++(as.filter p).map λa=>tupI (e a))
 |[],x,l,_,_,_=>⟨x,by simp[aZ]⟩
 | a::as,x,l,hl,h1,h2=>by
   have c:=h1 a (by simp)
   have hl':l.length+(as.length+1)<=18:=by simpa using hl
   cases hp:p a with
   |true=>
     obtain⟨c2,ne⟩:=h2 a (by simp) hp
     have ts:(cH [tupI (e a)]).isSome=true:=by rw[show [tupI (e a)]=[e a].map tupI from rfl,oX (λt ht=>by simp at ht;rw[ht];exact ne)];rfl
     obtain⟨z,q⟩:=xT (rest:=rest) enc p e as (some (enc a)) (l++[tupI (e a)]) (by simp;lia) (λb hb=>h1 b (by simp[hb])) (λb hb=>h2 b (by simp[hb]))
     have lt:l.length<18:=by lia
     exact⟨z,by simp[aZ,c,hp,lu,c2,ts,lt,q]⟩
   |false=>
     obtain⟨z,q⟩:=xT (rest:=rest) enc p e as (some (enc a)) l (by lia) (λb hb=>h1 b (by simp[hb])) (λb hb=>h2 b (by simp[hb]))
     exact⟨z,by simp[aZ,c,hp,q]⟩
def tX{R:List (List Nat)}{l:List Nat}(h:l∈LD R):l≠[]/\l.length<=R.length/\∀y∈l,y<R.length:=by
 obtain⟨x,hx,rfl⟩:=Vy.mp h;have hx:=Ve.mp hx;refine⟨λz=>?_,?_,λy hy=>Ve.mp (VN.mp hy).1⟩
 ·have:x∈(List.range R.length).filter (rc (ju R) x):=VN.mpr ⟨Ve.mpr hx,p7.mpr .here⟩;rw[z]at this;cases this
 ·have:=Xn (rc (ju R) x) (List.range R.length)
  rwa [V6]at this
def Qn{R:List (List Nat)}{i:Nat}(h:i<R.length):(rd (cZ (nM R) (nD i)):DM D)=pure (nT (gr R i)):=wU (i:=i) (by rw[Vl,U3 h,lC h];rfl)
def Hf(a b:List Nat):(rd (cg (nT a) (nT b)):DM D)=pure (.bl (decide (a=b))):=bK λM=>by
 have e:∀l:List Nat,l.map nD=(l.map λn:Nat=>(n:Int)).map D.int:=λl=>by rw[VP];rfl
 have d:=fW (a.map λn:Nat=>(n:Int))
 have q:=iQ (a.map λn:Nat=>(n:Int)) (b.map λn:Nat=>(n:Int))
 have c:decide ((a.map λn:Nat=>(n:Int))=(b.map λn:Nat=>(n:Int)))=decide (a=b):=by rw[Vu,V7,V7];exact jP
 unfold nT;rw[e a,e b];simp only[cg,L3.eqB,eqP,toPy,gD,Option.map_some,PyData.canLay0,lay_ints,PyData.depth,PyData.eqv];rw[q,c,U5 (by rw[Bool.and_self,Bool.true_and];exact Vh (by lia))]
 rfl
noncomputable def cY(L:List (List Nat))(l:List Nat):Bool:=l.all λy=>decide (gr L y=l)
noncomputable def jF(L:List (List Nat)):List (List Int):=zJ (rO ((L.filter (cY L)).map lO))
noncomputable def wY(δ:aj):DM Bool:=do
 let a <-opt δ[0]?.join
 let a <-opt (jo a)
 let a <-dB (cA (gN 0) (λz=>Pure.pure true) (bV λδ=>do
  let a <-opt δ[1]?.join
  let a_1 <-opt δ[0]?.join
  let x <-rd (cZ a a_1)
  let y <-opt δ[2]?.join
  rd (cg x y)) a (aO 1 [1,0] δ) [])
 let x <-rd (pH [D.lst a.2])
 rd (iB x)
noncomputable def Ex:=aF 1 2 (rN J1)
def QG{R:List (List Nat)}{W:Nat}(h:WK R W)(hn:R.length<=18)(M:Mo):Rn (Ex [aK R W]) M λd M'=>d=.tup ((jF (LD R)).map tupI)/\∀ (j:Nat) (o:DO),M[j]?=some o->M'[j]?=some o:=by
 unfold Ex rN mC;dsimp only;refine Rn.call rfl ?_;have st:bQ 2 [aK R W]=[some (aK R W),none]:=rfl;rw[st];refine aJ λK hK=>?_
 simp;refine Rn.bind (O3 h M) λd M1 ⟨e,k1⟩=>?_
 subst e;rw[hK];clear hK K;have as:jo (nM (LD R))=some (.fix ((LD R).map nT)):=rfl;have ce:aO 1 [1] [some (aK R W),some (nM (LD R))]=[none,some (nM (LD R))]:=rfl;simp[as,lA,ce];have T:∀l∈LD R,wY (some (nT l)::[some (nM (LD R))])=(Pure.pure (cY (LD R) l):DM Bool):=λl hl=>by
  have hl':=tX hl;have at':jo (nT l)=some (.fix (l.map nD)):=rfl;have ce2:aO 1 [1,0] [some (nT l),some (nM (LD R))]=[none,some (nM (LD R)),some (nT l)]:=rfl;simp only[wY,List.getElem?_cons_zero,Option.join_some,dj,au,at',lA,ce2];rw[cI nD (λy=>.bl (decide (gr (LD R) y=l))) (by lia) λy hy=>by simp[Qn (R:=LD R) (i:=y) (by rw[pA];exact hl'.2.2 y hy),Hf]]
  have e:l.map (λy=>D.bl (decide (gr (LD R) y=l)))=(l.map λy=>decide (gr (LD R) y=l)).map D.bl:=by rw[VP];rfl
  simp only[au,e,uF,Qv];congr 1;unfold cY;rw[List.all_map];rfl
 obtain⟨z,q⟩:=xT (rest:=[some (nM (LD R))]) nT (cY (LD R)) lO (LD R) none [] (by rw[pA];simpa using hn) (ft:=wY) (fe:=fJ 0) T (λl hl x=>⟨by simp[Pq],λz=>(tX hl).1 (by unfold lO at z;simpa using z)⟩)
 refine (show Rn (dB (aZ (gN 0) wY (lu (fJ 0)) ((LD R).map nT) [none,some (nM (LD R))] [])>>=_) M1 _ from ?_)
 rw[q];have sl:∀M,(λ_:Mo=>HN (([]:List D)++((LD R).filter (cY (LD R))).map λa=>tupI (lO a))) M=some (.lst ((jF (LD R)).map tupI)):=λM=>by
  have e:(((LD R).filter (cY (LD R))).map λa=>tupI (lO a))=((((LD R).filter (cY (LD R))).map lO)).map tupI:=by rw[VP];rfl
  show HN _=_;rw[Yi,e];unfold HN;rw[oX λt ht=>by obtain⟨l,hl,rfl⟩:=Vy.mp ht;exact λz=>(tX (VN.mp hl).1).1 (by unfold lO at z;simpa using z)]
  rfl
 simp only[Kl,au];refine Rn.bindRd _ (sl M1) ?_;refine Rn.bindRd (.tup ((jF (LD R)).map tupI)) rfl ?_;exact Rn.pure ⟨_,rfl,rfl,k1⟩
end K
namespace K
open PySem L2 L3 N10
def dM(B:Nat->Int)(k n:Nat):D:=.lst ((List.range n).map λj=>.int (B (k+j)))
def dC(B:Nat->Nat->Int)(k n:Nat):D:=.lst ((List.range n).map λi=>dM (B (k+i)) k n)
noncomputable def xj:=aF 1 3 (fD 9)
def Q8:∀ds M r,xj ds M=some r->∃n,aF 1 3 (fD n) ds M=some r:=λz z z h=>⟨9,h⟩
def u5{B:Nat->Int}{k n j:Nat}(h:j<n):(rd (cZ (dM B k n) (nD j)):DM D)=pure (.int (B (k+j))):=
 qX (i:=j) (by rw[Vl,Wh h];rfl)
def uZ{B:Nat->Int}{k n:Nat}(h:0<n):(rd (cZ (dM B k n) (.int 0)):DM D)=pure (.int (B k)):=u5 h
def Le{B:Nat->Nat->Int}{k n:Nat}(h:0<n):(rd (cZ (dC B k n) (.int 0)):DM D)=pure (dM (B k) k n):=
 qX (i:=0) (by rw[Vl,Wh h];rfl)
def JT{B:Nat->Nat->Int}{k n:Nat}:(rd (iB (dC B k n)):DM Bool)=pure (decide (0<n)):=by
 cases n with
 |zero=>rfl
 |succ n=>unfold dC;rw[List.range_succ_eq_map];rfl
def HQ{B:Nat->Nat->Int}{k n:Nat}:(rd (nY (some 1) none (dC B k (n+1))):DM D)=pure (.lst ((List.range n).map λi=>dM (B (k+1+i)) k (n+1))):=by
 unfold dC;rw[List.range_succ_eq_map,Vt,VP];have e:(λi=>dM (B (k+i)) k (n+1)) ∘ Nat.succ=λi=>dM (B (k+1+i)) k (n+1):=by funext i;show dM (B (k+(i+1))) _ _=_;rw[show k+(i+1)=k+1+i by lia]
 rw[e];refine bK λM=>?_
 show some (D.lst (cutD _ _ _))=_;congr 2;generalize hl:List.map (λi=>dM (B (k+1+i)) k (n+1)) (List.range n)=l
 generalize dM (B (k+0)) k (n+1)=x;have a1:HT.sIx (x::l).length 0 (some 1)=1:=by simp[HT.sIx]<;>lia
 have a2:HT.sIx (x::l).length (x::l).length none=(x::l).length:=by simp[HT.sIx]
 unfold cutD;rw[a1,a2];simp
structure Stg(Bs:Nat->Nat->Nat->Int)(d:Nat->Int)(m:Nat):Prop where
 one:d 0=1
 piv:∀k,k<m->Bs k k k≠0
 nxt:∀k,k<m->d (k+1)=Bs k k k
 pos:∀k,k<m->0<d k
 eq:∀k i j,k<i->i<m->k<j->j<m->d k*Bs (k+1) i j=Bs k i j*Bs k k k-Bs k i k*Bs k k j
 bd:∀k i j,k<m->i<m->j<m->(Bs k i j).natAbs<2^400
 bdd:∀k,k<m->(d k).natAbs<2^400
theorem Ba{c:aj->DM Bool}{f:aj->DM Fl}{Bs:Nat->Nat->Nat->Int}{d:Nat->Int}{m:Nat}(h1:∀ B k n x z,c [some (dC B k n),x,z]=pure (decide (0<n)))
  (h2:∀k n z,k+(n+1)=m->f [some (dC (Bs k) k (n+1)),some (.int (d k)),z]=pure (.nx [some (dC (Bs (k+1)) (k+1) n),some (.int (d (k+1))),some (dM (Bs k k) k (n+1))])) :
  ∀n k N z,k+n=m->n<N->∃x z',cR c f N [some (dC (Bs k) k n),some (.int (d k)),z]=pure (.nx [x,some (.int (d m)),z'])
 |0,k,N+1,z,e,_=>⟨_,_,by rw[<-e];simp only[cR,h1,au];rfl⟩
 |n+1,k,N+1,z,e,h=>by
   obtain⟨x,z',ih⟩:=Ba h1 h2 n (k+1) N (some (dM (Bs k k) k (n+1))) (by lia) (by lia)
   refine⟨x,z',?_⟩;have hd:decide (0<n+1)=true:=by simp
   simp only[cR,h1,hd,au,if_true,h2 k n z e,ih]
def Pg{i j:Int}(h:i.natAbs<2^400)(h':j.natAbs<2^400):(rd (pU (.int i) (.int j)):DM D)=pure (.int (i*j)):=
 DQ (Lr (Va h (VM (by decide) (by decide))) (Va h' (VM (by decide) (by decide))))
def Tq{i j:Int}(h0:0<j)(h:j.natAbs<2^400):(rd (lB (.int i) (.int j)):DM D)=pure (.int (i / j)):=
 Hg (Az h0 (Va h (VM (by decide) (by decide))))
def Jg{c:aj->DM Bool}{f:aj->DM Fl}{K:Fl->DM Fl}{M:Mo}{Q:Fl->Mo->Prop}{Bs:Nat->Nat->Nat->Int}{d:Nat->Int}{m:Nat}(S:Stg Bs d m)(hm:m<=8)(h1:∀B k n x z,c [some (dC B k n),x,z]=pure (decide (0<n)))
  (h2:∀k n z,k+(n+1)=m->f [some (dC (Bs k) k (n+1)),some (.int (d k)),z]=pure (.nx [some (dC (Bs (k+1)) (k+1) n),some (.int (d (k+1))),some (dM (Bs k k) k (n+1))]))
  (hk:∀x z',Rn (K (.nx [x,some (.int (d m)),z'])) M Q):Rn (cR c f 9 [some (dC (Bs 0) 0 m),some (.int 1),none]>>=K) M Q:=by
 obtain⟨x,z',e⟩:=Ba h1 h2 m 0 9 none (by lia) (by lia)
 rw[S.one]at e;rw[e,au];exact hk x z'
def N6{Bs:Nat->Nat->Nat->Int}{d:Nat->Int}{m:Nat}(S:Stg Bs d m)(hm:m<=8):xj [dC (Bs 0) 0 m]=pure (.int (d m)):=BW λM=>by
 unfold xj fD iZ;dsimp only;refine Rn.call rfl ?_;have st:bQ 3 [dC (Bs 0) 0 m]=[some (dC (Bs 0) 0 m),none,none]:=rfl;rw[st];refine aJ λK hK=>?_
 simp;rw[hK];clear hK K;refine aJ λK hK=>?_
 refine Jg S hm (λB k n x z=>?_) (λk n z e=>?_) λx z'=>?_
 ·simp[JT]
 ·have hk:k<m:=by lia
  have p0:=S.piv k hk;have q1:(rd (cg (.int (Bs k k k)) (.int 0)):DM D)=pure (.bl false):=by rw[Kh,Vz p0]
  simp[Le (B:=Bs k) (k:=k) (Nat.succ_pos n),uZ (B:=Bs k k) (k:=k) (Nat.succ_pos n),q1,vB];have ai:(xM (D.int 1):DM (Option Int))=pure (some 1):=id rfl;rw[ai,au,HQ,au,uG,au];simp only[ie,aO,cQ,List.map_cons,List.map_nil,List.replicate_succ,List.replicate_zero,List.cons_append,List.nil_append,List.getElem?_cons_zero,List.getElem?_cons_succ,Option.getD_some];rw[cI (as:=List.range n) (λi=>dM (Bs k (k+1+i)) k (n+1)) (λi=>dM (Bs (k+1) (k+1+i)) (k+1) n) (by simp;lia) (λi hi=>?_)]
  ·rw[S.nxt k hk];rfl
  ·have hi':=Ve.mp hi;have ln:(rd (gj [dM (Bs k (k+1+i)) k (n+1)]):DM D)=pure (nD (n+1)):=by unfold dM;rw[Qo];simp[nD]
   have rg:zy [D.int 1,nD (n+1)]=some (.fix ((List.range n).map λj=>nD (1+j))):=by
    rw[show D.int 1=nD 1 from rfl,Mt (by lia) (by lia)]
    rfl
   simp only[bU,ln,rg,ie];rw[cI (as:=List.range n) (λj=>nD (1+j)) (λj=>.int (Bs (k+1) (k+1+i) (k+1+j))) (by simp;lia) (λj hj=>?_)]
   ·rfl
   ·have hj':=Ve.mp hj;have x1:=u5 (B:=Bs k (k+1+i)) (k:=k) (n:=n+1) (j:=1+j) (by lia)
    have x2:=uZ (B:=Bs k (k+1+i)) (k:=k) (n:=n+1) (by lia)
    have x3:=u5 (B:=Bs k k) (k:=k) (n:=n+1) (j:=1+j) (by lia)
    have x4:=uZ (B:=Bs k k) (k:=k) (n:=n+1) (by lia)
    have ej:k+(1+j)=k+1+j:=by lia
    rw[ej]at x1 x3;have m1:=Pg (S.bd k (k+1+i) (k+1+j) hk (by lia) (by lia)) (S.bd k k k hk hk hk)
    have m2:=Pg (S.bd k (k+1+i) k hk (by lia) hk) (S.bd k k (k+1+j) hk hk (by lia))
    have ee:=S.eq k (k+1+i) (k+1+j) (by lia) (by lia) (by lia) (by lia)
    have dv:=Tq (i:=Bs k (k+1+i) (k+1+j)*Bs k k k-Bs k (k+1+i) k*Bs k k (k+1+j)) (S.pos k hk) (S.bdd k hk);rw[<-ee,Int.mul_ediv_cancel_left _ (Int.ne_of_gt (S.pos k hk))]at dv;simp only[bU,Option.getD_some,x1,x2,x3,x4,m1,m2,DR,<-ee,dv]
 ·rw[hK];simp;exact Rn.pure ⟨_,rfl,rfl,rfl⟩
end K
namespace K
open PySem L2 L3 N10 N60
def zK(A:Nat->Nat->Int):Nat->Nat->Nat->Int
 |0=>A
 |1=>D2 A
 |2=>D3 A
 |_=>D4 A
def mb{x y:Int}{p q:Nat}(hx:x.natAbs<2^p)(hy:y.natAbs<2^q):(x*y).natAbs<2^(p+q):=by rw[Int.natAbs_mul,Nat.pow_add];exact Nat.mul_lt_mul_of_lt_of_lt hx hy
def sb{x y:Int}{p:Nat}(hx:x.natAbs<2^p)(hy:y.natAbs<2^p):(x-y).natAbs<2^(p+1):=by rw[Nat.pow_succ];omega
def ab{x y:Int}{p:Nat}(hx:x.natAbs<2^p)(hy:y.natAbs<2^p):(x+y).natAbs<2^(p+1):=by rw[Nat.pow_succ];omega
def up{x:Int}{p q:Nat}(hx:x.natAbs<2^p)(h:p<=q):x.natAbs<2^q:=Va hx (VM (by decide) h)
def Fy{a b c d e f g h i:Int}(ha:a.natAbs<2^40)(hb:b.natAbs<2^40)(hc:c.natAbs<2^40)(hd:d.natAbs<2^40)(he:e.natAbs<2^40)(hf:f.natAbs<2^40)(hg:g.natAbs<2^40)(hh:h.natAbs<2^40)(hi:i.natAbs<2^40):(d3 a b c d e f g h i).natAbs<2^123:=
 ab (sb (mb ha (sb (mb he hi) (mb hf hh))) (mb hb (sb (mb hd hi) (mb hf hg)))) (up (mb hc (sb (mb hd hh) (mb he hg))) (by decide))
def zL{A:Nat->Nat->Int}{m:Nat}(h:∀ i j,i<m->j<m->(A i j).natAbs<2 ^ 40)(hm:m<=4):∀ k i j,k<m->i<m->j<m->(zK A k i j).natAbs<2 ^ 400
 |0,i,j,_,hi,hj=>up (h i j hi hj) (by decide)
 |1,i,j,hk,hi,hj=>up (sb (mb (h i j hi hj) (h 0 0 (by omega) (by omega))) (mb (h i 0 hi (by omega)) (h 0 j (by omega) hj))) (by decide)
 |2,i,j,hk,hi,hj=>by
   have H:∀a b,a<m->b<m->(A a b).natAbs<2^40:=h;refine up (p:=123) ?_ (by decide)
   show (D3 A i j).natAbs<_;have e:D3 A i j=d3 (A 0 0) (A 0 1) (A 0 j) (A 1 0) (A 1 1) (A 1 j) (A i 0) (A i 1) (A i j):=by unfold D3 d3;grind
   rw[e];apply Fy<;>apply H<;>omega
 |3,i,j,hk,hi,hj=>by
   have H:∀a b,a<m->b<m->(A a b).natAbs<2^40:=h;refine up (p:=166) ?_ (by decide)
   show (D4 A i j).natAbs<_;unfold D4;refine sb (up (ab (sb (mb (H _ _ (by omega) (by omega)) (Fy ?_ ?_ ?_ ?_ ?_ ?_ ?_ ?_ ?_)) (mb (H _ _ (by omega) (by omega)) (Fy ?_ ?_ ?_ ?_ ?_ ?_ ?_ ?_ ?_))) (up (mb (H _ _ (by omega) (by omega)) (Fy ?_ ?_ ?_ ?_ ?_ ?_ ?_ ?_ ?_)) (by decide))) (by decide)) (up (mb (H _ _ (by omega) (by omega)) (Fy ?_ ?_ ?_ ?_ ?_ ?_ ?_ ?_ ?_)) (by decide))<;>apply H<;>omega
 |k+4,_,_,hk,_,_=>by omega
def Ck{A:Nat->Nat->Int}{m:Nat}(h:MS A 0 m)(hm:m<=4):∀k,k<m->0<zK A k k k
 |0,hk=>by obtain⟨n,rfl⟩:∃n,m=n+1:=⟨m-1,by omega⟩;exact h.pivot
 |1,hk=>by obtain⟨n,rfl⟩:∃n,m=n+2:=⟨m-2,by omega⟩;exact (MS.two (n:=n+1) h).pivot
 |2,hk=>by obtain⟨n,rfl⟩:∃n,m=n+3:=⟨m-3,by omega⟩;exact (MS.three (n:=n+1) h).pivot
 |3,hk=>by obtain⟨n,rfl⟩:∃n,m=n+4:=⟨m-4,by omega⟩;exact (MS.four (n:=n+1) h).pivot
 |k+4,hk=>by omega
def uo(A:Nat->Nat->Int):∀k,k<4->jm A (k+1)=zK A k k k
 |0,_=>rfl
 |1,_=>rfl
 |2,_=>rfl
 |3,_=>rfl
 |k+4,h=>by omega
def QH{A:Nat->Nat->Int}{m:Nat}(h:MS A 0 m)(hm:m<=4)(hb:∀i j,i<m->j<m->(A i j).natAbs<2^40):Stg (zK A) (jm A) m where
 one:=rfl
 piv k hk:=Int.ne_of_gt (Ck h hm k hk)
 nxt k hk:=uo A k (by omega)
 pos k hk:=by
  cases k with
  |zero=>show (0:Int)<1;decide
  |succ k=>rw[uo A k (by omega)];exact Ck h hm k (by omega)
 eq k i j h1 h2 h3 h4:=by
  match k,h1,h3 with
  |0,_,_=>show 1*D2 A i j=_;unfold D2;simp[zK]
  |1,_,_=>exact e3 A i j
  |2,_,_=>exact e4 A i j
  |k+3,h1,_=>omega
 bd k i j h1 h2 h3:=zL hb hm k i j h1 h2 h3
 bdd k hk:=by
  cases k with
  |zero=>show (1:Int).natAbs<_;exact Nat.one_lt_two_pow (by decide)
  |succ k=>rw[uo A k (by omega)];exact zL hb hm k k k (by omega) (by omega) (by omega)
def KZ{A:Nat->Nat->Int}{m:Nat}(h:MS A 0 m)(hm:m<=4)(hb:∀i j,i<m->j<m->(A i j).natAbs<2^40):xj [dC A 0 m]=pure (.int (jm A m)):=
 N6 (QH h hm hb) (by omega)
noncomputable def Ep:=aF 2 2 (uf kI)
def Oo(x n:Nat):Ep [nD x,nD n]=pure (.bl (decide (x<n))):=by
 have e1:(rd (ww (.int 0) (nD x)):DM D)=pure (.bl true):=by rw[show D.int 0=nD 0 from rfl,pZ,Vh (Wo _)]
 simp[Ep,uf,yH,e1,Ho]
noncomputable def Eu:=aF 2 2 (jq Ep fO)
def Qy{R:List (List Nat)}{W x:Nat}(h:R.length<=25)(hx:x<R.length):Eu [aK R W,nD x]=pure .non:=by simp[Eu,jq,jK h,Oo,hx]
def bD(R:List (List Nat))(W:Nat)(i j:Nat):Int:=if i=j then (W:Int)-(ga (gr R i) i:Int) else -(ga (gr R i) j:Int)
def G6{n x:Nat}(hx:x<n):(List.range n).filter (λo=>!decide (o=x))=(List.range (n-1)).map (sk x):=by
 have e:List.range n=List.range x++(x::(List.range (n-1-x)).map λi=>x+1+i):=by
  have h1:n=x+(1+(n-1-x)):=by lia
  conv=>lhs;rw[h1,List.range_add,List.range_add]
  simp[List.map_map,Function.comp_def,Nat.add_assoc]
 rw[e,List.filter_append,WM (by simp),Xw.mpr (λa ha=>by
  have:=Ve.mp ha;simp;lia),Xw.mpr (λa ha=>by
  obtain⟨i,_,rfl⟩:=Vy.mp ha;simp;lia)]
 have h2:n-1=x+(n-1-x):=by lia
 conv=>rhs;rw[h2,List.range_add]
 rw[XC];congr 1
 ·conv=>lhs;rw[<-List.map_id (List.range x)]
  refine Wy λa ha=>?_
  have:=Ve.mp ha;unfold sk;rw[U5 this];rfl
 ·rw[VP];refine Wy λa ha=>?_
  show _=sk x (x+a);unfold sk;rw[U8 (by lia)]
  lia
noncomputable def Ey:=aF 2 3 (mW Eu xj fO)
def lN{n x i:Nat}(h:i<n-1):sk x i<n:=by unfold sk;split<;>lia
def QT{R:List (List Nat)}{W x:Nat}(wk:WK R W)(hx:x<R.length)(h5:R.length<=5)(hW:W<2 ^ 40)(hm:MS (λi j=>bD R W (sk x i) (sk x j)) 0 (R.length - 1)):
  Ey [aK R W,nD x]=pure (.int (wt (bD R W) R.length x)):=by
 have bd:∀i j,i<R.length-1->j<R.length-1->((λi j=>bD R W (sk x i) (sk x j)) i j).natAbs<2^40:=λi j hi hj=>by have a1:=wk.at_le (gr_mem (lN (x:=x) hi)) (sk x i);have a2:=wk.at_le (gr_mem (lN (x:=x) hi)) (sk x j);show (bD R W (sk x i) (sk x j)).natAbs<_;unfold bD;split<;>lia
 have dt:=KZ hm (by lia) bd
 unfold Ey mW gZ;dsimp only;simp[Qy (W:=W) (show R.length<=25 by lia) hx,jK (W:=W) (show R.length<=25 by lia),iU (n:=R.length) (by lia),aO,cQ,vB]
 rw[aU nD (λy=>!decide (y=x)) nD (by simp;lia) (λy hy=>by simp[nR]) (λy hy z=>by simp)]
 rw[au,G6 hx];dsimp only;rw[uG,au];simp only[ie];have ol:∀a∈(List.range (R.length-1)).map (sk x),a<R.length:=λa ha=>by obtain⟨i,hi,rfl⟩:=Vy.mp ha;exact lN (Ve.mp hi)
 rw[cI (as:=(List.range (R.length-1)).map (sk x)) nD (λa=>.lst (((List.range (R.length-1)).map (sk x)).map λb=>.int (bD R W a b))) (by simp;lia) (λa ha=>?_)]
 ·rw[au];dsimp only;have e:D.lst (((List.range (R.length-1)).map (sk x)).map λa=>.lst (((List.range (R.length-1)).map (sk x)).map λb=>.int (bD R W a b)))=dC (λi j=>bD R W (sk x i) (sk x j)) 0 (R.length-1):=by
   unfold dC dM;rw[VP];congr 1;refine Wy λi z=>?_
   show D.lst _=D.lst _;rw[VP];congr 1;refine Wy λj z=>?_
   simp
  rw[e,dt];rfl
 ·have ha':=ol a ha;simp only[bU,Option.getD_some,uG,ie];rw[cI (as:=(List.range (R.length-1)).map (sk x)) nD (λb=>.int (bD R W a b)) (by simp;lia) (λb hb=>?_)]
  ·rfl
  ·have hb':=ol b hb;have x1:=qY (R:=R) (i:=a) ha';have rl:(gr R a).length=R.length:=wk.row _ (gr_mem ha');have x2:=qZ (l:=gr R a) (i:=a) (by lia)
   have x3:=qZ (l:=gr R a) (i:=b) (by lia)
   simp only[bU,Option.getD_some,bM,oK,gR,vX,x1,x2,x3];by_cases q:a=b
   ·rw[U5 (by simpa using q)]
    unfold bD;rw[U5 q];exact DR _ _
   ·rw[U8 (by simpa using q)]
    unfold bD;rw[U8 q];exact RB _
inductive To(R:List (List Nat))(x:Nat):Nat->Prop
 |here:To R x x
 |step {i j:Nat}:j<R.length->0<ga (gr R i) j->To R x j->To R x i
theorem mR(f:Nat->Int):∀ n k,SR f k (n + 1)=SR f k n + f (k + n)
 |0,k=>by simp[SR]
 |n+1,k=>by
   have:=mR f n (k+1);rw[SR,this,SR,show k+1+n=k+(n+1) by lia]
   lia
theorem xG{f g:Nat->Int}:∀ n k,(∀ j,k<=j->j<k + n->f j=g j)->SR f k n=SR g k n
 |0,_,_=>rfl
 |n+1,k,h=>by rw[SR,SR,h k (U0 _) (by lia),xG n (k+1) λj h1 h2=>h j (by lia) (by lia)]
theorem J3(f:Nat->Int){x:Nat}:∀ n,x<n + 1->SR (λj=>f (sk x j)) 0 n + f x=SR f 0 (n + 1)
 | n,h=>by
   by_cases e:x=n
   ·subst e;rw[mR,V2,xG (g:=f) x 0 λj z h2=>by show f (sk x j)=f j;unfold sk;rw[U5 (by lia)]]
   ·obtain⟨m,rfl⟩:∃m,n=m+1:=⟨n-1,by lia⟩
    have ih:=J3 f m (x:=x) (by lia)
    rw[mR,mR f (m+1),<-ih,V2,V2];have:sk x m=m+1:=by unfold sk;rw[U8 (by lia)]
    rw[this]
    lia
theorem Bm{R:List (List Nat)}{W a:Nat}:∀ m,SR (bD R W a) 0 m=(if a<m then (W:Int) else 0) - (S m (ga (gr R a)):Int)
 |0=>by simp[SR,S]
 | m + 1=>by
   rw[mR,Bm m,V2];have e:S (m+1) (ga (gr R a))=S m (ga (gr R a))+ga (gr R a) m:=rfl;rw[e];unfold bD;by_cases q:a=m
   ·subst q;rw[U5 rfl,U8 (by lia),U5 (by lia)]
    lia
   ·rw[U8 q];by_cases q2:a<m
    ·rw[U5 q2,U5 (by lia)];lia
    ·rw[U8 q2,U8 (by lia)];lia
def Gr{R:List (List Nat)}{W a:Nat}(wk:WK R W)(ha:a<R.length):SR (bD R W a) 0 R.length=0:=by
 have l:=wk.row _ (gr_mem ha);have s:=wk.sum _ (gr_mem ha);rw[Bm,U5 ha,<-l,Nr,s]
 lia
def yI{R:List (List Nat)}{W a x:Nat}(wk:WK R W)(ha:a<R.length)(hx:x<R.length)(ne:a≠x):SR (λj=>bD R W a (sk x j)) 0 (R.length-1)=(ga (gr R a) x:Int):=by
 have h:=J3 (bD R W a) (x:=x) (R.length-1) (by lia)
 rw[show R.length-1+1=R.length by lia,Gr wk ha]at h
 have:bD R W a x=-(ga (gr R a) x:Int):=by unfold bD;rw[U8 ne]
 rw[this]at h
 lia
def Ei{x i:Nat}:sk x i≠x:=by unfold sk;split<;>lia
def HD{x i j:Nat}(h:sk x i=sk x j):i=j:=by unfold sk at h;split at h<;>split at h<;>lia
def RN{n x b:Nat}(hb:b<n)(ne:b≠x)(hx:x<n):∃j,j<n-1/\sk x j=b:=by
 by_cases q:b<x
 ·exact⟨b,by lia,by unfold sk;rw[U5 q]⟩
 ·exact⟨b-1,by lia,by unfold sk;rw[U8 (by lia)];lia⟩
set_option tactic.hygienic true in
def Kc{R:List (List Nat)}{W x:Nat}(wk:WK R W)(hx:x<R.length)(ht:∀ a,a<R.length->To R x a):MS (λi j=>bD R W (sk x i) (sk x j)) 0 (R.length - 1) where
 off i j _ h2 _ h4 ne:=by
  show bD R W (sk x i) (sk x j)<=0;unfold bD;rw[U8 λe=>ne (HD e)]
  lia
 sum i _ h2:=by
  show 0<=SR (λj=>bD R W (sk x i) (sk x j)) 0 (R.length-1)
  rw[yI wk (lN (by lia)) hx Ei]
  lia
 rch i _ h2:=by
  have key:∀ a,To R x a->∀ i,i<R.length - 1->sk x i=a->RL (λi j=>bD R W (sk x i) (sk x j)) 0 (R.length - 1) i:=by
   intro a h;induction h with
   |here=>intro i _ e;exact absurd e Ei
   | step hj hp tt ih=>
     rename_i a b;intro i hi e;by_cases q:b=x
     ·refine .leak ?_;show 0<SR (λj=>bD R W (sk x i) (sk x j)) 0 (R.length-1)
      rw[yI wk (lN hi) hx Ei,e];rw[q]at hp
      lia
     ·obtain⟨j,hj1,hj2⟩:=RN hj q hx;have r:=ih j hj1 hj2;by_cases q2:i=j
      ·rw[q2];exact r
      ·refine .step (j:=j) (Wo _) (by lia) q2 ?_ r
       show bD R W (sk x i) (sk x j)<0;unfold bD;rw[U8 λe=>q2 (HD e),e,hj2]
       lia
  exact key _ (ht _ (lN (by lia))) i (by lia) rfl
def QZ{R:List (List Nat)}{W x:Nat}(wk:WK R W)(hx:x<R.length)(h5:R.length<=5)(ht:∀a,a<R.length->To R x a):0<wt (bD R W) R.length x:=
 Kw (by lia) (Kc wk hx ht)
noncomputable def rst(R:List (List Nat))(W x:Nat):Nat:=(wt (bD R W) R.length x).toNat
def Mv{R:List (List Nat)}{W x:Nat}(wk:WK R W)(hx:x<R.length)(h5:R.length<=5)(ht:∀a,a<R.length->To R x a):0<rst R W x/\wt (bD R W) R.length x=(rst R W x:Int):=by
 have:=QZ wk hx h5 ht;unfold rst
 lia
end K
namespace K
open PySem L2 L3 N10
noncomputable def vJ:List D->DM D
 |[.int a,.int b]=>if 0<=a/\0<=b then pure (nD (Nat.gcd a.toNat b.toNat)) else stuck
 |_=>stuck
def Oi(a b:Nat):vJ [nD a,nD b]=pure (nD (Nat.gcd a b)):=by simp[vJ,nD]
def K9{c:aj->DM Bool}{f:aj->DM Fl}(h1:∀ a b:Nat,c [some (nD a),some (nD b)]=pure (b != 0))(h2:∀ a b:Nat,0<b->f [some (nD a),some (nD b)]=pure (.nx [some (nD b),some (nD (a % b))])):
  ∀b a:Nat,∃n,cR c f n [some (nD a),some (nD b)]=pure (.nx [some (nD (Nat.gcd a b)),some (nD 0)]):=by
 intro b;induction b using Nat.strongRecOn with
 | ind b ih=>
   intro a;rcases Yu b with rfl | hb
   ·exact⟨1,by simp[cR,h1]⟩
   ·obtain⟨n,hn⟩:=ih (a%b) (W0 _ hb) b;refine⟨n+1,?_⟩;have hb':(b != 0)=true:=by simp;lia
    simp only[cR,h1,au,hb',if_true,h2 a b hb,hn];rw[Nat.gcd_comm a b,Nat.gcd_rec b a,Nat.gcd_comm]
set_option tactic.hygienic true in
def Rb:∀ ds M r,vJ ds M=some r->∃ n,aF 2 2 (cN n) ds M=some r:=by
 intro ds M r h;unfold vJ at h;split at h
 ·rename_i a b;split at h
  ·rename_i hab;obtain⟨x,rfl⟩:∃x:Nat,a=x:=⟨a.toNat,by lia⟩
   obtain⟨y,rfl⟩:∃y:Nat,b=y:=⟨b.toNat,by lia⟩
   have h1:∀a b:Nat,(λδ=>(fJ 1) δ>>=λx=>rd (iB x)) [some (nD a),some (nD b)]=(pure (b != 0):DM Bool):=λa b=>by
    simp;refine bK λM=>?_
    show some ((b:Int) != 0)=_;congr 1;rw[Vu];simp
   have h2:∀a b:Nat,0<b->(Dt 0 1 (λδ=>(fJ 1) δ>>=λx=>(λδ=>(λδ=>(fJ 0) δ>>=λx=>(fJ 1) δ>>=λy=>rd (lX x y)) δ>>=λx=>(λz=>pure []) δ>>=λxs=>pure (x::xs)) δ>>=λxs=>pure (x::xs))) [some (nD a),some (nD b)]=pure (.nx [some (nD b),some (nD (a%b))]):=λa b hb=>by
    have:=Hq (a:=a) hb;simp[nD]at this ⊢
    simp[this]
   obtain⟨n,hn⟩:=K9 (c:=(λδ=>(fJ 1) δ>>=λx=>rd (iB x))) (f:=(Dt 0 1 (λδ=>(fJ 1) δ>>=λx=>(λδ=>(λδ=>(fJ 0) δ>>=λx=>(fJ 1) δ>>=λy=>rd (lX x y)) δ>>=λx=>(λz=>pure []) δ>>=λxs=>pure (x::xs)) δ>>=λxs=>pure (x::xs)))) h1 h2 y x
   refine⟨n,?_⟩;rw[<-h];have:aF 2 2 (cN n) [.int x,.int y]=pure (nD (Nat.gcd x y)):=by unfold cN dX;have e:bQ 2 [D.int x,D.int y]=[some (nD x),some (nD y)]:=rfl;simp only[Qj,e,RC,hn];simp
   rw[this];simp
  ·cases h
 ·cases h
noncomputable def mQ:=aF 1 1 (gK mO)
noncomputable def vM:=aF 1 1 (kY mQ)
noncomputable def Ez(l:List Nat):Prop:=1<=l.length/\l.length<=25/\0<l.sum
def yE{l:List Nat}(h1:1<=l.length)(h2:l.length<=25):mQ [nT l]=pure (.bl (decide (0<l.sum))):=by
 have a:(rd (f9 [nT l,.ty "tuple"]):DM D)=pure (.bl true):=bW (t := "tuple") (λz=>rfl) (by decide)
 have ln:(rd (gj [nT l]):DM D)=pure (.int (l.length:Int)):=by simp[nT]
 have e1:decide ((1:Int)<=(l.length:Int))=true:=Vh (by lia)
 have e2:decide ((l.length:Int)<=25)=true:=Vh (by lia)
 simp[mQ,gK,a,ln,e1,e2,Fb (l:=l) (by lia),uO]
def Hu{l:List Nat}(h:Ez l):vM [nT l]=pure .non:=by simp[vM,kY,yE h.1 h.2.1,h.2.2]
noncomputable def Er:=aF 1 3 (Ak vM vJ)
theorem yC{f:aj->DM Fl}{x:Option D}(h:∀ (g n:Nat),f [x,some (nD g),some (nD n)]=pure (.nx [x,some (nD (Nat.gcd g n)),some (nD n)])):∀ (l:List Nat) (g:Nat) z,∃ u,forL (gN 2) f (l.map nD) [x,some (nD g),z]=pure (.nx [x,some (nD (l.foldl Nat.gcd g)),u])
 |[],g,z=>⟨z,rfl⟩
 |n::l,g,z=>by obtain⟨u,hu⟩:=yC h l (Nat.gcd g n) (some (nD n));refine⟨u,?_⟩;simp[forL,h,hu]
def Pb(l:List Nat)(f:D->D)(g:Nat->Nat)(h:∀n∈l,f (nD n)=nD (g n)):(l.map nD).map f=(l.map g).map nD:=by rw[VP,VP];exact Wy λn hn=>h n hn
def Gh(l:List D):l.filter (λz=>true)=l:=Xw.mpr λz z=>rfl
def O4{l:List Nat}(h:Ez l)(hs:l.sum<2 ^ 1000):Er [nT l]=pure (nT (lst l)):=by
 have hg:=Jm h.2.2;have hb:lU l<2 ^ 1000:=by
  have:∃ m∈l,0<m:=by
   refine Classical.byContradiction λn=>?_
   have:l.any (·!= 0)=true:=by rw[uO];exact Vh h.2.2
   obtain⟨m,hm,h0⟩:=X8.mp this
   exact n ⟨m,hm,by have:m≠0:=by simpa using h0
                    lia⟩
  obtain⟨m,hm,h0⟩:=this;have:=Nat.le_of_dvd h0 (yz hm);have:=nZ hm;exact Ze (by lia) hs
 have at_:jo (nT l)=some (.fix (l.map nD)):=rfl;simp[Er,Ak,Hu h,at_,Dk];rw[show (D.int 0)=nD 0 from rfl]
 obtain⟨u,hu⟩:=yC (f:=λδ=>opt δ[1]?.join>>=λa=>opt δ[2]?.join>>=λa_1=>vJ [a,a_1]>>=λd=>pure (Fl.nx (δ.set 1 (some d)))) (x:=some (nT l)) (λg n=>by simp[Oi]) l 0 none
 rw[hu];simp[aO,cQ,at_];rw[J9 (λz=>true) (λd=>match d with | .int i=>nD (i.toNat / lU l) | _=>.non) (by have:=h.2.1;simp;lia) (λz z=>rfl) (λd hd z=>?_) (k':=λl=>pure (D.tup l)) (λz=>rfl)]
 ·rw[Gh,Pb l _ (λn=>n / lU l) (λn z=>by simp[nD])];rfl
 ·obtain⟨n,_,rfl⟩:=Vy.mp hd;have e:(rd (lB (nD n) (nD (lU l))):DM D)=pure (nD (n / lU l)):=uH hg hb;show (rd (lB (nD n) (nD (lU l))):DM D)=_;rw[e];simp[nD]
structure Smn(n:Nat)(l:List Nat):Prop where
 ne:l≠[]
 lt:∀i∈l,i<n
 len:l.length<=100
def Ca{n:Nat}(h:n<=1000):(rd (λM=>(wR [nD n] M).map D.lst):DM D)=pure (.lst ((List.range n).map nD)):=bK λM=>by
 have:wR [nD n] M=some ((List.range n).map nD):=by
  unfold nD;show (if -(2^62)<=(n:Int)/\(n:Int)<=2^20 then some ((List.range (n:Int).toNat).map nD) else none)=_
  rw[U5 ⟨by lia,by lia⟩,We]
  rfl
 rw[this];rfl
def Mr(a b:Nat):(rd (cM (λz z=>true) (λi j=>.int (i+j)) (nD a) (nD b)):DM D)=pure (nD (a+b)):=bK λM=>by simp[cM,nD]
def Mq{a b:List Nat}(h:a.length+b.length<=1000000):(rd (bY (.lst (a.map nD)) (.lst (b.map nD))):DM D)=pure (.lst ((a++b).map nD)):=bK λM=>by
 have:dD (a.map nD++b.map nD)=true:=by unfold dD;exact Vh (by show _<=2^24;rw[Vk,U6,U6];lia)
 simp[bY,aR,u9,this]
def Ms(x:Nat)(b:Bool):(rd (λM=>(sY (.lst [nD x]) (nD (if b then 1 else 0)) M).map D.lst):DM D)=pure (.lst ((if b then [x] else []).map nD)):=bK λM=>by cases b<;>rfl
noncomputable def xu:=aF 2 10 (rM o9)
structure RwsS(M0:Mo)(p q n W:Nat)(i:Nat)(M:Mo):Prop where
 pen:cC p M
 sb:Sb p M0 M
 ex:∃R:List (List Nat),R.length=i/\M[q]?=some (.lst (R.map nT))/\∀r∈R,r.length=n/\r.sum=W
noncomputable def CG(M0:Mo)(p tp q n W kd:Nat)(i:Nat)(δ:aj)(M:Mo):Prop:=(∃z6 z7 z8 z9,δ=[some (.ref p),some (nD tp),some (nD n),some (nD W),some (nD kd),some (.ref q),z6,z7,z8,z9])/\RwsS M0 p q n W i M
structure BalS(M0:Mo)(p q t n:Nat)(L:List (List Nat))(i:Nat)(M:Mo):Prop where
 pen:cC p M
 sb:Sb p M0 M
 atq:M[q]?=some (.lst (L.map nT))
 ex:∃r:List Nat,M[t]?=some (.lst (r.map nD))/\r.length=n/\r.sum=i
noncomputable def S5(M0:Mo)(p q t n:Nat)(L:List (List Nat))(pre:aj)(i:Nat)(δ:aj)(M:Mo):Prop:=(∃z9,δ=pre++[z9])/\BalS M0 p q t n L i M
def Mx{p tp:Nat}{M:Mo}(hp:cC p M)(h1:1<=tp)(h2:tp<=6):Rn (xu [.ref p,nD tp]) M λd M'=>∃ (R:List (List Nat)) (W:Nat),d=nM R/\WK R W/\R.length<=tp/\W<=12/\cC p M'/\Sb p M M':=by
 have hpl:=hp.lt;unfold xu rM my;dsimp only;refine Rn.call rfl ?_;have st:bQ 10 [D.ref p,nD tp]=[some (.ref p),some (nD tp),none,none,none,none,none,none,none,none]:=rfl;rw[st];refine aJ λK hK=>?_
 simp;refine Rn.bind (dU hp (by lia:0<tp) (by lia)) λd1 M1 ⟨t1,g1,e1,hp1,s1⟩=>?_
 subst e1;have ml:eO [.int 1,.int 2,.int 3,.int 4,.int 6,.int 12]=pure (.lst ([1,2,3,4,6,12].map nD)):=cJ (by simp)
 simp only[Qh,au,ml];have d6:=dU (m:=6) hp1 (by decide) (by decide)
 refine Rn.bind d6 λd2 M2 ⟨t2,g2,e2,hp2,s2⟩=>?_
 subst e2;have ht2:t2<[1,2,3,4,6,12].length:=by simpa using g2
 rw[Hl ht2];have hW:1<=ga [1,2,3,4,6,12] t2/\ga [1,2,3,4,6,12] t2<=12:=by
  have:=m9 ht2;generalize ga [1,2,3,4,6,12] t2=x at this;simp at this
  lia
 revert hW;generalize ga [1,2,3,4,6,12] t2=W;intro hW;have d7:=dU (m:=7) hp2 (by decide) (by decide)
 simp only[au];refine Rn.bind d7 λd3 M3 ⟨kd,g3,e3,hp3,s3⟩=>?_
 subst e3;rw[hK];clear hK K d6 d7 ml ht2;have sb3:Sb p M M3:=s1.trans (s2.trans s3);have hn1:1<=t1+1:=by lia
 have hn2:t1+1<=tp:=by lia
 revert hn1 hn2;generalize t1+1=n;intro n1 n2
 -- the list of rows
 refine aJ λK hK=>?_
 simp;refine Rn.eQ (by simp) ?_
 have pq:p≠M3.length:=by have:=hp3.lt;lia
 have ql:M.length<=M3.length:=sb3.le;have st0:RwsS M p M3.length n W 0 (M3++[.lst []]):=⟨hp3.sb (q:=M3.length) Sb.push pq,Sb.new (p:=p) (.inr sb3.le) ql Sb.push sb3,[],rfl,by simp,by simp⟩
 rw[hK];clear hK K hp1 hp2 hp3 s1 s2 s3;revert st0 pq ql;generalize M3.length=q;generalize M3++[DO.lst []]=M4;intro pq ql st0;refine aJ λK hK=>?_
 simp[iU (n:=n) (by lia),fF]
 refine Rn.bind (cV (CG M p tp q n W kd) _ 0 _ _ ⟨⟨_,_,_,_,rfl⟩,st0⟩ (λx d δ M5 hx hI=>?_)) (λr M5 hI=>?_)
 rotate_left
 ·obtain⟨δ',rfl,⟨z6,z7,z8,z9,rfl⟩,hp5,sb5,R,lR,at5,hR⟩:=hI;rw[hK];clear hK K;rw[U6,V6,V2]at lR;simp;refine Rn.bindRd (nM R) (by show (aR (.ref q) M5).map _=_;simp only[aR,at5];rfl) ?_
  exact Rn.pure ⟨_,rfl,R,rfl,W,⟨by lia,by lia,λr hr=>by rw[(hR r hr).1,lR],λr hr=>(hR r hr).2,hW.1⟩,by lia,hW.2,hp5,sb5⟩
 clear hK K;obtain⟨⟨z6,z7,z8,z9,rfl⟩,hp5,sb5,R,lR,at5,hR⟩:=hI;obtain⟨hx',rfl⟩:=Ko hx;rw[V2]at lR ⊢
 rw[mD,au];have hQ:∀δ' M',CG M p tp q n W kd (x+1) δ' M'->(λ(r:Fl) (M':Mo)=>∃δ',r=.nx δ'/\CG M p tp q n W kd (x+1) δ' M') (.nx δ') M':=λδ' M' h=>⟨δ',rfl,h⟩
 revert hQ;generalize (λ(r:Fl) (M':Mo)=>∃δ',r=.nx δ'/\CG M p tp q n W kd (x+1) δ' M')=Q
 intro hQ
 -- all places
 refine aJ λK hK=>?_
 simp[Ca (n:=n) (by lia)]
 rw[hK];clear hK K;have som0:Smn n (List.range n):=⟨by simp;lia,λi hi=>Ve.mp hi,by simp;lia⟩
 -- 1
 refine aJ λK hK=>?_
 suffices H:∀(l:List Nat) (M6:Mo),Smn n l->cC p M6->Sb p M5 M6->Rn (K (.nx [some (.ref p),some (nD tp),some (nD n),some (nD W),some (nD kd),some (.ref q),some (nD x),some (.lst (l.map nD)),z8,z9])) M6 Q by
  by_cases h:kd=1
  ·have e:(rd (cg (nD kd) (.int 1)):DM D)=pure (.bl true):=by rw[show D.int 1=nD 1 from rfl,bM,h];rfl
   simp[e];refine Rn.bind (dU hp5 (by lia:0<n) (by lia)) λd1 M7 ⟨u1,g1,e1,hp7,s7⟩=>?_
   refine Rn.bind (dU hp7 (by lia:0<n) (by lia)) λd2 M8 ⟨u2,g2,e2,hp8,s8⟩=>?_
   subst e1 e2;have ml:eO [nD u1,nD u2]=pure (.lst ([u1,u2].map nD)):=cJ (by simp)
   simp only[ml,au];exact H [u1,u2] M8 ⟨by simp,λi hi=>by simp at hi;lia,by simp⟩ hp8 (s7.trans s8)
  ·have e:(rd (cg (nD kd) (.int 1)):DM D)=pure (.bl false):=by rw[show D.int 1=nD 1 from rfl,bM,Vz h]
   simp[e];exact H _ _ som0 hp5 Sb.refl
 intro l1 M6_1 som1 hp6_1 sb6_1;rw[hK];clear hK K
 -- 2
 refine aJ λK hK=>?_
 suffices H:∀(l:List Nat) (M6:Mo),Smn n l->cC p M6->Sb p M5 M6->Rn (K (.nx [some (.ref p),some (nD tp),some (nD n),some (nD W),some (nD kd),some (.ref q),some (nD x),some (.lst (l.map nD)),z8,z9])) M6 Q by
  by_cases h:kd=2
  ·have e:(rd (cg (nD kd) (.int 2)):DM D)=pure (.bl true):=by rw[show D.int 2=nD 2 from rfl,bM,h];rfl
   have ml:eO [nD ((x+1)%n)]=pure (.lst ([(x+1)%n].map nD)):=cJ (by simp)
   have hm:=W0 (x+1) (show n > 0 by lia)
   simp[e,nP,ig (a:=x+1) (b:=n) (by lia),ml]
   exact H [(x+1)%n] _ ⟨by simp,λi hi=>by simp at hi;lia,by simp⟩ hp6_1 sb6_1
  ·have e:(rd (cg (nD kd) (.int 2)):DM D)=pure (.bl false):=by rw[show D.int 2=nD 2 from rfl,bM,Vz h]
   simp[e];exact H _ _ som1 hp6_1 sb6_1
 intro l2 M6_2 som2 hp6_2 sb6_2;rw[hK];clear hK K
 -- 3
 refine aJ λK hK=>?_
 suffices H:∀ (l:List Nat) (M6:Mo),Smn n l->cC p M6->Sb p M5 M6->Rn (K (.nx [some (.ref p),some (nD tp),some (nD n),some (nD W),some (nD kd),some (.ref q),some (nD x),some (.lst (l.map nD)),z8,z9])) M6 Q by
  by_cases h:kd=3
  ·have e:(rd (cg (nD kd) (.int 3)):DM D)=pure (.bl true):=by rw [show D.int 3=nD 3 from rfl,bM,h];rfl
   have md:∀y:Nat,(rd (lX (nD y) (.int 2)):DM D)=pure (nD (y%2)):=λy=>ig (b:=2) (by decide)
   have e1:(rd (cg (nD n) (.int 1)):DM D)=pure (.bl (decide (n=1))):=bM n 1;have ml:eO [nD x]=pure (.lst [nD x]):=cJ (by simp)
   have fl:((List.range n).filter λy=>!decide (y%2=x%2)).length<=n:=by
    have:=Xn (λy=>!decide (y%2=x%2)) (List.range n)
    rwa [V6]at this
   have il:(if decide (n=1)=true then [x] else []).length<=1:=by split<;>simp
   have ad:=Mq (a:=(List.range n).filter λy=>!decide (y%2=x%2)) (b:=if decide (n=1)=true then [x] else []) (by lia)
   have mu:=Ms x (decide (n=1));have ge:=H (((List.range n).filter λy=>!decide (y%2=x%2))++if decide (n=1)=true then [x] else []) M6_2 ⟨λz=>?_,λi hi=>?_,?_⟩ hp6_2 sb6_2
   ·simp only[eU,bU,eN,aM,e,oK,if_true,iU (n:=n) (by lia),ie,aO,cQ,List.length_cons,List.length_nil,List.map_cons,List.map_nil,List.replicate_succ,List.replicate_zero,List.cons_append,List.nil_append,Option.getD_some]
    rw[aU nD (λy=>!decide (y%2=x%2)) nD (by simp;lia) (λy hy=>by simp[md,nR]) (λy hy w=>by simp)]
    simp only[eU,au,p6,ml,e1,Gm,mu,ad];exact ge
   ·rw [List.append_eq_nil_iff] at z
    by_cases h1:n=1
    ·rw[Vh h1,U5 rfl]at z;cases z.2
    ·have m:(if x % 2=0 then 1 else 0)∈(List.range n).filter λy=>!decide (y % 2=x % 2):=by
      rw[VN,Ve];constructor
      ·split<;>lia
      ·by_cases h2:x%2=0
       ·simp[h2]
       ·have:x%2=1:=by lia
        simp[this]
     rw[z.1]at m;cases m
   ·rcases Vd.mp hi with h2 | h2
    ·exact Ve.mp (VN.mp h2).1
    ·split at h2
     ·simp at h2;lia
     ·cases h2
   ·rw[Vk];lia
  ·have e:(rd (cg (nD kd) (.int 3)):DM D)=pure (.bl false):=by rw[show D.int 3=nD 3 from rfl,bM,Vz h]
   simp[e];exact H _ _ som2 hp6_2 sb6_2
 intro l3 M6_3 som3 hp6_3 sb6_3;rw[hK];clear hK K
 -- 4
 refine aJ λK hK=>?_
 suffices H:∀ (l:List Nat) (M6:Mo),Smn n l->cC p M6->Sb p M5 M6->Rn (K (.nx [some (.ref p),some (nD tp),some (nD n),some (nD W),some (nD kd),some (.ref q),some (nD x),some (.lst (l.map nD)),z8,z9])) M6 Q by
  by_cases h:kd=4
  ·have e:(rd (cg (nD kd) (.int 4)):DM D)=pure (.bl true):=by rw[show D.int 4=nD 4 from rfl,bM,h];rfl
   have dv:∀y:Nat,(rd (lB (nD y) (.int 2)):DM D)=pure (nD (y / 2)):=λy=>uH (b:=2) (by decide) (by decide)
   have fl:((List.range n).filter λy=>decide (y / 2=x / 2)).length<=n:=by
    have:=Xn (λy=>decide (y / 2=x / 2)) (List.range n)
    rwa [V6]at this
   simp only[eU,bU,eN,aM,e,oK,if_true,iU (n:=n) (by lia),ie,aO,cQ,List.length_cons,List.length_nil,List.map_cons,List.map_nil,List.replicate_succ,List.replicate_zero,List.cons_append,List.nil_append,Option.getD_some]
   rw[aU nD (λy=>decide (y / 2=x / 2)) nD (by simp;lia) (λy hy=>by simp[dv,bM]) (λy hy w=>by simp)]
   simp only[eU,au,p6];refine H _ _ ⟨λz=>?_,λi hi=>Ve.mp (VN.mp hi).1,by lia⟩ hp6_3 sb6_3
   have m:x∈(List.range n).filter λy=>decide (y / 2=x / 2):=by rw[VN,Ve];exact⟨hx',by simp⟩
   rw[z]at m;cases m
  ·have e:(rd (cg (nD kd) (.int 4)):DM D)=pure (.bl false):=by rw[show D.int 4=nD 4 from rfl,bM,Vz h]
   simp[e];exact H _ _ som3 hp6_3 sb6_3
 intro l4 M6_4 som4 hp6_4 sb6_4;rw[hK];clear hK K
 -- 5
 refine aJ λK hK=>?_
 suffices H:∀(l:List Nat) (M6:Mo),Smn n l->cC p M6->Sb p M5 M6->Rn (K (.nx [some (.ref p),some (nD tp),some (nD n),some (nD W),some (nD kd),some (.ref q),some (nD x),some (.lst (l.map nD)),z8,z9])) M6 Q by
  by_cases h:kd=5
  ·have e:(rd (cg (nD kd) (.int 5)):DM D)=pure (.bl true):=by rw[show D.int 5=nD 5 from rfl,bM,h];rfl
   simp[e,nP,Ca (n:=x+1) (by lia)]
   exact H (List.range (x+1)) _ ⟨by simp,λi hi=>by have:=Ve.mp hi;lia,by simp;lia⟩ hp6_4 sb6_4
  ·have e:(rd (cg (nD kd) (.int 5)):DM D)=pure (.bl false):=by rw[show D.int 5=nD 5 from rfl,bM,Vz h]
   simp[e];exact H _ _ som4 hp6_4 sb6_4
 intro l5 M6_5 som5 hp6_5 sb6_5;rw[hK];clear hK K
 -- the row
 have q6:q<M6_5.length:=(UW.mp (sb6_5.at (λz=>pq z.symm) at5)).1
 have at6:=sb6_5.at (λz=>pq z.symm) at5
 have sb6:Sb p M M6_5:=sb5.trans sb6_5;have m0:eO [.int 0]=pure (.lst [.int 0]):=cJ (by simp)
 refine aJ λK hK=>?_
 simp[m0];refine yR (by lia) ?_
 have pt:p≠M6_5.length:=by have:=hp6_5.lt;lia
 have qt:q≠M6_5.length:=by lia
 have tl:M.length<=M6_5.length:=sb6.le;have bs0:BalS M p q M6_5.length n R 0 (M6_5++[.lst ((List.replicate n 0).map nD)]):=⟨hp6_5.sb (q:=M6_5.length) Sb.push pt,Sb.new (p:=p) (.inr sb6.le) tl Sb.push sb6,by rw[Vb q6];exact at6,List.replicate n 0,by simp,by simp,by simp⟩
 rw[hK];clear hK K;revert bs0 pt qt tl;generalize M6_5.length=t;generalize M6_5++[DO.lst ((List.replicate n 0).map nD)]=M7;intro pt qt tl bs0
 -- ball by ball
 refine aJ λK hK=>?_
 simp[iU (n:=W) (by lia),fF]
 refine Rn.bind (cV (S5 M p q t n R [some (.ref p),some (nD tp),some (nD n),some (nD W),some (nD kd),some (.ref q),some (nD x),some (.lst (l5.map nD)),some (.ref t)]) _ 0 _ _ ⟨⟨z9,rfl⟩,bs0⟩ (λj d δ M8 hj hI=>?_)) (λr M8 hI=>?_)
 ·obtain⟨⟨z9,rfl⟩,hp8,sb8,atq8,r,at8,lr,sr⟩:=hI;obtain⟨hj',rfl⟩:=Ko hj;rw[V2]at sr ⊢
  rw[mD,au];have ln:(rd (gj [.lst (l5.map nD)]):DM D)=pure (nD l5.length):=by simp[nD]
  have l0:0<l5.length:=Xx.mpr som5.ne;simp[ln];refine Rn.bind (dU hp8 l0 (by have:=som5.len;lia)) λd9 M9 ⟨u,g9,e9,hp9,s9⟩=>?_
  subst e9;simp only[Hl g9,au];have ul:ga l5 u<r.length:=by rw[lr];exact som5.lt _ (m9 g9)
  have at9:=s9.at (λz=>pt z.symm) at8
  have atq9:=s9.at (λz=>pq z.symm) atq8
  have t9:=(UW.mp at9).1;generalize ga l5 u=v at ul;refine Rn.bindRd (nD (ga r v)) (by
   show (if 0<=(v:Int) then (aR (.ref t) M9).bind λl=>atI l (v:Int) else none)=_
   rw[U5 (by lia)]
   simp only[aR,at9,Option.bind_some];exact pI (by rw[Vl,U3 ul,fZ ul];rfl)) ?_
  have ia:(rd (cM (λw w=>true) (λi j=>.int (i+j)) (nD (ga r v)) (.int 1)):DM D)=pure (nD (ga r v+1)):=Mr (ga r v) 1
  simp[ia];refine Rn.run (rm at9 (by rw[U6];exact ul)) ?_
  refine Rn.pure ⟨_,rfl,⟨_,rfl⟩,hp9.sb (q:=t) Sb.set pt,Sb.new (p:=p) (.inr (sb8.trans s9).le) tl Sb.set (sb8.trans s9),by rw[Wf (λz=>qt z.symm)];exact atq9,r.set v (ga r v+1),?_,by rw[Xk];exact lr,?_⟩
  ·rw[V1 t9,List.map_set]
  ·have:=MF (l:=r) (i:=v) (v:=ga r v+1) ul
   lia
 obtain⟨δ',rfl,⟨z9,rfl⟩,hp8,sb8,atq8,r,at8,lr,sr⟩:=hI;rw[U6,V6,V2]at sr;rw[hK];clear hK K;simp;refine Rn.bindRd _ (by simp only[aR,atq8];rfl) ?_
 refine Rn.bindRd (nT r) (by show (aR (.ref t) M8).map _=_;simp only[aR,at8];rfl) ?_
 have q8:=(UW.mp atq8).1;refine Rn.run (uP atq8 (by rw[U6];lia)) ?_
 refine Rn.pure (hQ _ _ ⟨⟨_,_,_,_,rfl⟩,hp8.sb (q:=q) Sb.set pq,Sb.new (p:=p) (.inr sb8.le) ql Sb.set sb8,R++[r],by simp[lR],by rw[V1 q8];simp,λr' hr'=>?_⟩)
 rcases Vd.mp hr' with z | z
 ·exact hR r' z
 ·rw[Vj.mp z];exact⟨lr,sr⟩
noncomputable def Frs:=aF 1 1 (jr kI)
def Qz{k:Nat}(h:k<=100):Frs [nD k]=pure .non:=by
 have e1:(rd (ww (.int 0) (nD k)):DM D)=pure (.bl true):=by rw[show D.int 0=nD 0 from rfl,pZ,Vh (Wo _)]
 have e2:(rd (ww (nD k) (.int 100)):DM D)=pure (.bl true):=by rw[show D.int 100=nD 100 from rfl,pZ,Vh h]
 simp[Frs,jr,yH,e1,e2]
noncomputable def dot(l:List Nat)(R:List (List Nat))(y:Nat):Nat:=(List.zipWith (λw r=>w*ga r y) l R).sum
noncomputable def stp(R:List (List Nat))(l:List Nat):List Nat:=(List.range R.length).map (dot l R)
noncomputable def yG{α:Type}(f:α->α):Nat->α->α
 |0,a=>a
 |n+1,a=>yG f n (f a)
theorem sS{α:Type}(f:α->α):∀ (n:Nat) (a:α),yG f (n + 1) a=f (yG f n a)
 |0,a=>rfl
 |n+1,a=>by show yG f (n+1) (f a)=_;rw[sS f n (f a)];rfl
noncomputable def Aj:=aF 2 2 vP
def Pk(f:Nat->List Nat->Nat)(l:List Nat)(R:List (List Nat)):List.zipWith (λw r=>nD (f w r)) l R=(List.zipWith f l R).map nD:=by rw[List.map_zipWith]
def QD{R:List (List Nat)}{W:Nat}{l:List Nat}(h:WK R W)(hW:W<2 ^ 60)(hl:l.length=R.length):Aj [nM R,nT l]=pure (nT (stp R l)):=by
 have h2:=h.n25;simp[Aj,vP,Hn,iU (n:=l.length) (by lia),aO,cQ]
 rw[cI nD (λy=>nD (dot l R y)) (by simp;lia) (λy hy=>?_)]
 ·simp[stp,hl,nT,Function.comp_def]
 ·have hy':y<R.length:=by rw[<-hl];exact Ve.mp hy
  simp[Mu];rw[NP nD nT (λw r=>nD (w*ga r y)) (by lia) (λw hw r hr=>by have:=h.at_le hr y;simp[qZ (l:=r) (i:=y) (by rw[h.row r hr];exact hy'),nQ (a:=w) (b:=ga r y) (by lia)])]
  rw[Pk,au,zx];rfl
def Nb(R:List (List Nat))(l:List Nat):(stp R l).length=R.length:=by simp[stp]
def Ld{R:List (List Nat)}{l:List Nat}(hl:l.length=R.length):∀k,(yG (stp R) k l).length=R.length
 |0=>hl
 |k+1=>by rw[sS,Nb]
noncomputable def xf:=aF 3 4 (pJ vM Frs Aj)
noncomputable def T8(M0:Mo)(w:D)(R:List (List Nat))(l:List Nat)(k:Nat)(i:Nat)(δ:aj)(M:Mo):Prop:=(∃z,δ=[some w,some (nT (yG (stp R) i l)),some (nD k),z])/\M=M0
def Nv{R:List (List Nat)}{W:Nat}{l:List Nat}{k:Nat}(h:WK R W)(hW:W<2^60)(hl:l.length=R.length)(hL:Ez l)(hk:k<=100):xf [aK R W,nT l,nD k]=pure (nT (yG (stp R) k l)):=BW λM=>by
 unfold xf pJ gm;dsimp only;refine Rn.call rfl ?_;simp[Hu hL,Hn,gR,dI,nR,hl,Qz hk,iU (n:=k) (by lia),Dk]
 refine Rn.bind (cV (T8 M (aK R W) R l k) _ 0 _ _ ⟨⟨none,rfl⟩,rfl⟩ (λj d δ M1 hj hI=>?_)) (λr M1 hI=>?_)
 ·obtain⟨⟨z,rfl⟩,rfl⟩:=hI;rw[V2];simp[gR,QD h hW (Ld hl j)];exact Rn.pure ⟨_,rfl,⟨_,by rw[sS]⟩,rfl⟩
 ·obtain⟨δ',rfl,⟨z,rfl⟩,rfl⟩:=hI;simp;exact Rn.pure ⟨_,rfl,rfl,rfl⟩
def Sv{f:Nat->List Nat->Nat}{l:List Nat}{R:List (List Nat)}(h:l.length=R.length):(List.zipWith f l R).sum=S R.length (λi=>f (ga l i) (gr R i)):=by
 rw[<-pF];congr 1;apply YD;intro k;by_cases hk:k<R.length
 ·rw[Vl,Wh hk,List.getElem?_zipWith,U3 (by lia:k<l.length),U3 hk]
  simp only[Option.map_some];rw[fZ (by lia),lC hk]
 ·rw[Wa (by simp;lia),Wa (by simp;lia)]
def Q7{R:List (List Nat)}{l:List Nat}(hl:l.length=R.length)(y:Nat):dot l R y=S R.length (λx=>ga l x*ga (gr R x) y):=by unfold dot;rw[Sv hl]
mutual
noncomputable def wt:D->Nat
 |.int _=>1921
 |.str x=>(reprText x).length
 |.tup l=>bB l+3
 |.lst l=>bB l+3
 |.dic _ _=>8000
 |_=>5
noncomputable def bB:List D->Nat
 |[]=>0
 |d::l=>wt d+2+bB l
end
inductive Gd(B:Nat):Nat->D->Prop
 |non {n:Nat}:Gd B n .non
 |bl {n:Nat} (b:Bool):Gd B n (.bl b)
 |int {n:Nat}{i:Int}:i.natAbs<=B->Gd B n (.int i)
 |str {n:Nat}{x:Str}:Gd B n (.str x)
 |d0 {n:Nat}:Gd B n (.dic [] [])
 |d1 {n:Nat}:Gd B n (.dic [.inl 0] [.int 1])
 |tup {n:Nat}{l:List D}:(∀x∈l,Gd B n x)->Gd B (n+1) (.tup l)
 |lst {n:Nat}{l:List D}:(∀x∈l,Gd B n x)->Gd B (n+1) (.lst l)
theorem Gd.mono{B B':Nat}(hB:B<=B'):∀ {n n':Nat}{d:D},Gd B n d->n<=n'->Gd B' n' d
 |_,_,_,.non,_=>.non
 |_,_,_,.bl b,_=>.bl b
 |_,_,_,.int h,_=>.int (Vp h hB)
 |_,_,_,.str,_=>.str
 |_,_,_,.d0,_=>.d0
 |_,_,_,.d1,_=>.d1
 |_,n',_,.tup h,hn=>by
   obtain⟨m,rfl⟩:∃m,n'=m+1:=⟨n' - 1,by lia⟩
   exact .tup λx hx=>(h x hx).mono hB (by lia)
 |_,n',_,.lst h,hn=>by
   obtain⟨m,rfl⟩:∃m,n'=m+1:=⟨n' - 1,by lia⟩
   exact .lst λx hx=>(h x hx).mono hB (by lia)
theorem zm{k:Nat}:∀ {l:List D},(∀ x∈l,∃ p,dF x=some p/\p.showable=true/\p.depth<=k/\cG p=wt x)->∃ ps,dm l=some ps/\PyData.showableAll ps=true/\PyData.depthAll ps<=k/\kZ ps=bB l
 |[],_=>⟨[],by simp only[dm],by simp only[PyData.showableAll],by simp only[PyData.depthAll];lia,by simp only[kZ,bB]⟩
 |d::l,h=>by
   obtain⟨p,a,b,c,e⟩:=h d (.head _);obtain⟨ps,a',b',c',e'⟩:=zm λx hx=>h x (.tail _ hx)
   exact⟨p::ps,by simp only[dm,a,a'],by simp only[PyData.showableAll,b,b',Bool.and_self],by simp only[PyData.depthAll];lia,by simp only[kZ,bB,e,e']⟩
theorem Gd.py{B:Nat}(hB:B<2 ^ 1000):∀ {n:Nat}{d:D},Gd B n d->∃ p,dF d=some p/\p.showable=true/\p.depth<=n + 3/\cG p=wt d
 |_,_,.non=>⟨_,rfl,rfl,by simp only[PyData.depth];lia,by simp only[cG,wt]⟩
 |_,_,.bl b=>⟨_,rfl,rfl,by simp only[PyData.depth];lia,by simp only[cG,wt]⟩
 |_,_,.int h=>⟨_,rfl,by simpa[PyData.showableAll] using HB (l:=[_]) (λi hi=>by rw[Vj.mp hi];exact Ze h hB),by simp only[PyData.depth];lia,by simp only[cG,wt]⟩
 |_,_,.str=>⟨_,rfl,by simp only[PyData.showable],by simp only[PyData.depth];lia,by simp only[cG,wt]⟩
 |_,_,.d0=>⟨_,rfl,by simp[PyData.showable,PyData.showableKv],by simp[PyData.depth,PyData.depthKv],by simp only[cG,wt]⟩
 |_,_,.d1=>⟨_,rfl,by simp only[PyData.showable,PyData.showableKv];decide +kernel,by simp[PyData.depth,PyData.depthKv],by simp only[cG,wt]⟩
 |_,_,.tup h=>by
   obtain⟨ps,a,b,c,e⟩:=zm λx hx=>(h x hx).py hB
   exact⟨.tuple ps,by simp only[dF,a,Option.map_some],by simpa only[PyData.showable] using b,by simp only[PyData.depth];lia,by simp only[cG,wt,e]⟩
 |_,_,.lst h=>by
   obtain⟨ps,a,b,c,e⟩:=zm λx hx=>(h x hx).py hB
   exact⟨.list ps,by simp only[dF,a,Option.map_some],by simpa only[PyData.showable] using b,by simp only[PyData.depth];lia,by simp only[cG,wt,e]⟩
set_option tactic.hygienic true in
mutual
theorem HS:∀ {d:D}{p:PyData},toPy d=some p->dF d=some p
 |.non,_,h=>h
 |.bl _,_,h=>h
 |.int _,_,h=>h
 |.str _,_,h=>h
 |.tup l,_,h=>by simp only[toPy,Option.map_eq_some_iff]at h;obtain⟨ps,a,rfl⟩:=h;simp only[dF,vD a,Option.map_some]
 |.lst l,_,h=>by simp only[toPy,Option.map_eq_some_iff]at h;obtain⟨ps,a,rfl⟩:=h;simp only[dF,vD a,Option.map_some]
 |.dic _ _,_,h=>by simp[toPy]at h
 |.obj _ _ _,_,h=>by simp[toPy]at h
 |.scr _,_,h=>by simp[toPy]at h
 |.ref _,_,h=>by simp[toPy]at h
 |.cls _,_,h=>by simp[toPy]at h
 |.ty _,_,h=>by simp[toPy]at h
 |.exn _,_,h=>by simp[toPy]at h
theorem vD:∀ {l:List D}{ps:List PyData},fH l=some ps->dm l=some ps
 |[],_,h=>h
 | d::l,_,h=>by
   simp only[fH]at h;split at h
   ·rename_i a b;cases h;simp only[dm,HS a,vD b]
   ·cases h
end
set_option tactic.hygienic true in
def Gd.sh{B n:Nat}{d:D}(h:Gd B n d)(hB:B<2 ^ 1000)(hn:n<=50)(hw:wt d<=10000000):TV d:=by
 obtain⟨p,a,b,c,e⟩:=h.py hB;refine⟨p.shown,bK λM=>?_⟩
 have h0:Dz d=some p:=by
  unfold Dz;split
  ·rename_i q hq;rw[<-a,HS hq]
  ·exact a
 simp only[wV,h0,Option.bind_some,b,Bool.true_and];rw[U5];rw[WD,V7,V7];exact⟨by lia,by show _<=2^24;lia⟩
theorem iC:∀a b:List D,bB (a++b)=bB a+bB b
 |[],b=>by simp[bB]
 |x::a,b=>by simp only[List.cons_append,bB,iC a b];lia
theorem Cy:∀a:List D,bB a.reverse=bB a
 |[]=>rfl
 |x::a=>by simp only[List.reverse_cons,iC,Cy a,bB];lia
def vH(a:List D)(i:Nat):bB (a.take i)+bB (a.drop i)=bB a:=by rw[<-iC,X4]
theorem rB:∀a:List D,2*a.length<=bB a
 |[]=>by simp[bB]
 |x::a=>by have:=rB a;simp only[List.length_cons,bB];lia
theorem Cw:∀{a:List D}{x:D},x∈a->wt x+2<=bB a
 |x::a,_,.head _=>by simp only[bB];lia
 |x::a,_,.tail _ h=>by have:=Cw h;simp only[bB];lia
noncomputable def vL:=aF 1 2 (uc o9)
noncomputable def oG:List D:=[.non,.bl true,.bl false,.int (-1),.int 99,.int 100000000000,.str "",.str "0",.tup [],.lst [],.dic [] [],.tup [.tup []],.tup [.int 0],.lst [.int 0],.tup [.int 0,.int 0],.str "ab",.dic [.inl 0] [.int 1]]
def Pz:∀d∈oG,Gd (10^11) 2 d/\wt d<=9000:=by
 have t0:Gd (10^11) 1 (.tup []):=.tup λz h=>by cases h
 have i0:Gd (10^11) 1 (.int 0):=.int (by decide)
 have s1:∀x:Str,(reprText x).length<=100->Gd (10^11) 2 (.str x)/\wt (.str x)<=9000:=λx h=>⟨.str,by simp only[wt];lia⟩
 intro d hd;simp only[oG,List.mem_cons,List.not_mem_nil,or_false]at hd;rcases hd with rfl | rfl | rfl | rfl | rfl | rfl | rfl | rfl | rfl | rfl | rfl | rfl | rfl | rfl | rfl | rfl | rfl
 ·exact⟨.non,by simp[wt]⟩
 ·exact⟨.bl _,by simp[wt]⟩
 ·exact⟨.bl _,by simp[wt]⟩
 ·exact⟨.int (by decide),by simp[wt]⟩
 ·exact⟨.int (by decide),by simp[wt]⟩
 ·exact⟨.int (by decide),by simp[wt]⟩
 ·exact s1 _ (by decide +kernel)
 ·exact s1 _ (by decide +kernel)
 ·exact⟨.tup λz h=>(by cases h),by simp[wt,bB]⟩
 ·exact⟨.lst λz h=>(by cases h),by simp[wt,bB]⟩
 ·exact⟨.d0,by simp[wt]⟩
 ·exact⟨.tup λx h=>by rw[Vj.mp h];exact t0,by simp[wt,bB]⟩
 ·exact⟨.tup λx h=>by rw[Vj.mp h];exact i0,by simp[wt,bB]⟩
 ·exact⟨.lst λx h=>by rw[Vj.mp h];exact i0,by simp[wt,bB]⟩
 ·exact⟨.tup λx h=>by simp at h;rw[h];exact i0,by simp[wt,bB]⟩
 ·exact s1 _ (by decide +kernel)
 ·exact⟨.d1,by simp[wt]⟩
def uy{p:Nat}{M:Mo}(h:cC p M):Rn (vL [.ref p]) M λd M'=>(Gd (10^11) 2 d/\wt d<=9000)/\cC p M'/\Sb p M M':=by
 unfold vL uc oJ;dsimp only;refine Rn.call rfl ?_;have p11:(rd (Dy (.int 10) (.int 11)):DM D)=pure (.int 100000000000):=by rw[Km (by decide)];rfl
 have m1:lF []=pure (.tup []):=gq (by simp)
 have m2:eO []=pure (.lst []):=cJ (by simp)
 have m3:lF [.tup []]=pure (.tup [.tup []]):=gq (by simp)
 have m4:lF [.int 0]=pure (.tup [.int 0]):=gq (by simp)
 have m5:eO [.int 0]=pure (.lst [.int 0]):=cJ (by simp)
 have m6:lF [.int 0,.int 0]=pure (.tup [.int 0,.int 0]):=gq (by simp)
 have m7:eO oG=pure (.lst oG):=cJ (by simp[oG])
 refine aJ λK hK=>?_
 simp[p11,m1,m2,m3,m4,m5,m6];change Rn (eO oG>>=_) M _;rw[m7,au,hK];clear hK K;simp;refine Rn.bind (dU (m:=17) h (by decide) (by decide)) λd1 M1 ⟨t,g,e,hp1,s1⟩=>?_
 subst e;have ht:t<oG.length:=g;rw[show rd (cZ (.lst oG) (nD t))=(pure oG[t]:DM D) from qX (U3 ht)]
 exact Rn.pure ⟨_,rfl,Pz _ (V5 ht),hp1,s1⟩
noncomputable def vI:Nat->List D->DM D
 |0=>aF 2 4 λz=>stuck
 |n+1=>aF 2 4 (rH o9 vL (vI n))
noncomputable def J0(B n:Nat)(d:D)(p:Nat)(M:Mo)(r:D)(M':Mo):Prop:=(Gd (B+10^12) (n+2) r/\wt r<=2*wt d+10000)/\cC p M'/\Sb p M M'
def J0.mk{B n p:Nat}{d r:D}{M M':Mo}(a:Gd (B+10^12) (n+2) r)(b:wt r<=2*wt d+10000)(c:cC p M')(e:Sb p M M'):J0 B n d p M r M':=⟨⟨a,b⟩,c,e⟩
def BZ{L:List D}{t:Nat}(h:t<L.length):∃x,x∈L/\(rd (cZ (.lst L) (nD t)):DM D)=pure x:=⟨L[t],V5 h,qX (U3 h)⟩
noncomputable def yF:D->Bool
 |.tup _=>true
 |_=>false
noncomputable def isNm:D->Bool
 |.int _=>true
 |.bl _=>true
 |_=>false
def Gd.isT{B n:Nat}{d:D}(h:Gd B n d):(rd (f9 [d,.ty "tuple"]):DM D)=pure (.bl (yF d)):=by cases h<;>first | exact bW (t := "NoneType") (λz=>rfl) (by decide) | exact bW (t := "bool") (λz=>rfl) (by decide) | exact bW (t := "int") (λz=>rfl) (by decide) | exact bW (t := "str") (λz=>rfl) (by decide) | exact bW (t := "dict") (λz=>rfl) (by decide) | exact bW (t := "tuple") (λz=>rfl) (by decide) | exact bW (t := "list") (λz=>rfl) (by decide)
def Gd.isN{B n:Nat}{d:D}(h:Gd B n d):(rd (f9 [d,.ty "int"]):DM D)=pure (.bl (isNm d)):=by cases h<;>first | exact bW (t := "NoneType") (λz=>rfl) (by decide) | exact bW (t := "bool") (λz=>rfl) (by decide) | exact bW (t := "int") (λz=>rfl) (by decide) | exact bW (t := "str") (λz=>rfl) (by decide) | exact bW (t := "dict") (λz=>rfl) (by decide) | exact bW (t := "tuple") (λz=>rfl) (by decide) | exact bW (t := "list") (λz=>rfl) (by decide)
def Gd.num{B n:Nat}{d:D}(h:Gd B n d)(hn:isNm d=true):∃i:Int,i.natAbs<=B+1/\(∀j,(rd (Ik d (.int j)):DM D)=pure (.int (i+j)))/\(∀j,(rd (subB d (.int j)):DM D)=pure (.int (i-j)))/\(rd (subB (.int 0) d):DM D)=pure (.int (0-i)):=by
 cases h with
 |bl b=>exact⟨nb b,by cases b<;>simp[nb],λz=>rfl,λz=>rfl,rfl⟩
 | @int _ i hi=>exact⟨i,by lia,λz=>rfl,λz=>rfl,rfl⟩
 |_=>cases hn
def TQ(l:List D)(i:Nat):(rd (nY none (some (i:Int)) (.tup l)):DM D)=pure (.tup (l.take i)):=bK λM=>by simp only[nY,cutD,HT.sIx_none,HT.sIx_nat,List.drop_zero,Nat.sub_zero];exact congrArg (λz=>some (D.tup z)) (List.take_eq_take_iff.mpr (by lia))
def zE(l:List D)(i:Nat):(rd (nY (some (i:Int)) none (.tup l)):DM D)=pure (.tup (l.drop i)):=bK λM=>by
 simp only[nY,cutD,HT.sIx_none,HT.sIx_nat];by_cases h:i<=l.length
 ·rw[Nat.min_eq_left h,Xh (by simp)]
 ·rw[Nat.min_eq_right (by lia),List.drop_of_length_le (U0 _),List.drop_of_length_le (by lia),List.take_nil]
def RG{l:List D}{i:Nat}(h:i<l.length):(rd (nY (some (i:Int)) (some ((i+1:Nat):Int)) (.tup l)):DM D)=pure (.tup [l[i]]):=bK λM=>by simp only[nY,cutD,HT.sIx_nat];rw[Nat.min_eq_left (by lia),Nat.min_eq_left (by lia),Xq h,Nat.add_sub_cancel_left];rfl
def fL{x y:List D}(h:x.length+y.length<=10000000):(rd (bY (.tup x) (.tup y)):DM D)=pure (.tup (x++y)):=bK λM=>by
 have:dD (x++y)=true:=by unfold dD;exact Vh (by show _<=2^24;rw[Vk];lia)
 simp[bY,QV,this]
def Te(i:Int):xM (.int i)=pure (some i):=id rfl
def uQ(i:Nat):xM (nD i)=pure (some (i:Int)):=id rfl
def Rn.asc{α β γ:Type}{m:DM α}{f:α->DM β}{g:β->DM γ}{M:Mo}{Q:γ->Mo->Prop}(h:Rn (m>>=λa=>f a>>=g) M Q):Rn ((m>>=f)>>=g) M Q:=by rw[aM];exact h
def Fo:∀ (m:Nat) {n B p:Nat}{d:D}{M:Mo},n<m->Gd B n d->cC p M->wt d<=1000000->Rn (vI m [.ref p,d]) M (J0 B n d p M):=by
 intro m;induction m with
 |zero=>intro n B p d M h;lia
 | succ m ih=>
   intro n B p d M hm hd hp hw;unfold vI rH mj;dsimp only;refine Rn.call rfl ?_;have st:bQ 4 [D.ref p,d]=[some (.ref p),some d,none,none]:=rfl;rw[st];refine jG λK hK hR=>?_
   simp;refine Rn.bind (dU (m:=8) hp (by decide) (by decide)) λd1 M1 ⟨way,g,e,hp1,s1⟩=>?_
   subst e;rw[hK];clear hK hR K;refine jG λK hK hR=>?_
   simp[hd.isT];by_cases hT:yF d=true
   ·simp [hT]
    rw[hK];clear hK hR K;cases hd with
    | @tup n l hl=>
      have hwl:bB l+3<=1000000:=by simpa only[wt] using hw
      have hlen:=rB l;have m0:lF []=pure (.tup []):=gq (by simp)
      have eqz:(rd (vV (.tup l) (.tup [])):DM D)=pure (.bl l.isEmpty):=bK λM=>rfl
      have ew:∀j:Nat,(rd (cg (nD way) (.int (j:Int))):DM D)=pure (.bl (decide (way=j))):=λj=>bM way j
      have ew0:(rd (cg (nD way) (.int 0)):DM D)=pure (.bl (decide (way=0))):=bM way 0;have ew1:(rd (cg (nD way) (.int 1)):DM D)=pure (.bl (decide (way=1))):=bM way 1;have ew2:(rd (cg (nD way) (.int 2)):DM D)=pure (.bl (decide (way=2))):=bM way 2;have mg:∀{x:D},Gd B n x->Gd (B+10^12) (n+2) x:=λh=>h.mono (by lia) (by lia)
      have md:∀{x:D},Gd (10^11) 2 x->Gd (B+10^12) (n+2) x:=λh=>h.mono (by lia) (by lia)
      refine jG λK hK hR=>?_
      refine Rn.asc (Rn.bind (Q1:=λk M'=>k=(l.isEmpty || decide (way=0))/\M'=M1) ?_ λk M' ⟨e1,e2⟩=>?_)
      ·by_cases h:l.isEmpty=true
       ·simp[m0,eqz,h];exact Rn.pure ⟨rfl,rfl⟩
       ·rw[Yb]at h;simp[m0,eqz,h,ew0];exact Rn.pure ⟨rfl,rfl⟩
      subst e1 e2;by_cases hz:(l.isEmpty || decide (way=0))=true
      ·rw [hz,U5 rfl];have ll:(rd (λM=>(qP [.tup l] M).map D.lst):DM D)=pure (.lst l):=bK λM=>rfl
       have rv:JP (.tup l)=some (.tup l.reverse):=rfl;simp[ll,rv,Te];refine Rn.bind (uy hp1) λo1 M2 ⟨⟨go,wo⟩,hp2,s2⟩=>?_
       have mk1:lF [o1]=pure (.tup [o1]):=gq (by simp)
       have ad1:(rd (bY (.tup l) (.tup [o1])):DM D)=pure (.tup (l++[o1])):=fL (by simp;lia)
       simp only[mk1,au,ad1];refine Rn.bind (uy hp2) λo2 M3 ⟨⟨Bg,wo2⟩,hp3,s3⟩=>?_
       have sl1:(rd (nY (some 1) none (.tup l)):DM D)=pure (.tup (l.drop 1)):=zE l 1;have ml:eO [.lst l,.tup (l++[o1]),o2,.tup l.reverse,.tup (l.drop 1)]=pure (.lst [.lst l,.tup (l++[o1]),o2,.tup l.reverse,.tup (l.drop 1)]):=cJ (by simp)
       simp only[sl1,ml,au];refine Rn.bind (dU (m:=5) hp3 (by decide) (by decide)) λd3 M4 ⟨t,gt,e,hp4,s4⟩=>?_
       subst e;have hm':∀ x∈([.lst l,.tup (l++[o1]),o2,.tup l.reverse,.tup (l.drop 1)]:List D),Gd (B + 10 ^ 12) (n + 1 + 2) x/\wt x<=2 * wt (.tup l) + 10000:=by
        have c1:=vH l 1;intro x hx;simp only[List.mem_cons,List.not_mem_nil,or_false]at hx;simp only[wt];rcases hx with rfl | rfl | rfl | rfl | rfl
        ·exact⟨.lst λx hx=>mg (hl x hx),by simp only[wt];lia⟩
        ·exact⟨.tup λx hx=>by
          rcases Vd.mp hx with hx | hx
          ·exact mg (hl x hx)
          ·rw[Vj.mp hx];exact md go,by simp only[wt,iC,bB];lia⟩
        ·exact⟨(md Bg).mono (U0 _) (by lia),by lia⟩
        ·exact⟨.tup λx hx=>mg (hl x (List.mem_reverse.mp hx)),by simp only[wt,Cy];lia⟩
        ·exact⟨.tup λx hx=>mg (hl x (WL hx)),by simp only[wt];lia⟩
       obtain⟨x,hx,ex⟩:=BZ (L:=[.lst l,.tup (l++[o1]),o2,.tup l.reverse,.tup (l.drop 1)]) (t:=t) gt;rw[ex,au,hR];exact Rn.pure ⟨_,rfl,.mk (hm' _ hx).1 (hm' _ hx).2 hp4 (s1.trans (s2.trans (s3.trans s4)))⟩
      ·rw [U8 hz,au,hK];clear hK hR K;have l0:0<l.length:=by
        cases l with
        |nil=>simp at hz
        |cons a l=>simp
       refine aJ λK hK=>?_
       simp;refine Rn.bind (dU (m:=l.length) hp1 l0 (by lia)) λd3 M2 ⟨a,ga',e,hp2,s2⟩=>?_
       subst e;rw[hK];clear hK K;have c1:=vH l a;have c2:=vH l (a+1);have c3:=Cw (V5 ga');have c4:bB (l.drop a)=wt l[a]+2+bB (l.drop (a+1)):=by rw[Xq ga'];simp only[bB]
       have to1:=TQ l a;have fr1:(rd (nY (some ((a+1:Nat):Int)) none (.tup l)):DM D)=pure (.tup (l.drop (a+1))):=zE l (a+1);have fr0:=zE l a;have one:=RG ga';have hwt:wt (.tup l)=bB l+3:=by simp only[wt]
       have g1:∀x∈l.take a,Gd (B+10^12) (n+2) x:=λx hx=>mg (hl x (Xp hx))
       have g2:∀x∈l.drop (a+1),Gd (B+10^12) (n+2) x:=λx hx=>mg (hl x (WL hx))
       have g3:∀x∈l.drop a,Gd (B+10^12) (n+2) x:=λx hx=>mg (hl x (WL hx))
       have t1:(l.take a).length<=l.length:=by rw[W3];lia
       have t2:(l.drop (a+1)).length<=l.length:=by rw[Wz];lia
       have t3:(l.drop a).length<=l.length:=by rw[Wz];lia
       have ixa:(rd (cZ (.tup l) (nD a)):DM D)=pure l[a]:=wU (U3 ga');have hza:=hl _ (V5 ga');revert c1 c2 c3 c4 to1 fr1 fr0 one g1 g2 g3 t1 t2 t3 ixa hza;generalize l[a]=z;generalize l.take a=ta;generalize l.drop (a+1)=db;generalize l.drop a=da;intro c1 c2 c3 c4 to1 fr1 fr0 one g1 g2 g3 t1 t2 t3 ixa hza;refine jG λK hK hR=>?_
       by_cases h1:way=1
       ·have ad:(rd (bY (.tup ta) (.tup db)):DM D)=pure (.tup (ta++db)):=fL (by lia)
        have ew1':(rd (cg (nD way) (.int 1)):DM D)=pure (.bl true):=by rw[ew1,Vh h1]
        simp[ew1',uQ,to1];simp only[nP,au,uQ,fr1,ad,hR];refine Rn.pure ⟨_,rfl,.mk (.tup λx hx=>?_) ?_ hp2 (s1.trans s2)⟩
        ·rcases Vd.mp hx with hx | hx
         ·exact g1 x hx
         ·exact g2 x hx
        ·rw[hwt];simp only[wt,iC];lia
       simp[ew1,h1];rw[hK];clear hK hR K;refine jG λK hK hR=>?_
       by_cases h2:way=2
       ·have ad:(rd (bY (.tup ta) (.tup [z])):DM D)=pure (.tup (ta++[z])):=fL (by simp;lia)
        have ad':(rd (bY (.tup (ta++[z])) (.tup da)):DM D)=pure (.tup (ta++[z]++da)):=fL (by simp;lia)
        have ew2':(rd (cg (nD way) (.int 2)):DM D)=pure (.bl true):=by rw[ew2,Vh h2]
        simp[ew2',uQ,to1];simp only[nP,au,uQ,fr0,one,ad,ad',hR];refine Rn.pure ⟨_,rfl,.mk (.tup λx hx=>?_) ?_ hp2 (s1.trans s2)⟩
        ·rcases Vd.mp hx with hx | hx
         ·rcases Vd.mp hx with hx | hx
          ·exact g1 x hx
          ·rw[Vj.mp hx];exact mg hza
         ·exact g3 x hx
        ·rw[hwt];simp only[wt,iC,bB];lia
       simp[ew2,h2];rw[hK];clear hK hR K;simp[uQ,to1,ixa];refine Rn.bind (ih (by lia) hza hp2 (by lia)) λr M3 ⟨⟨gr,wr⟩,hp3,s3⟩=>?_
       have mk1:lF [r]=pure (.tup [r]):=gq (by simp)
       have ad:(rd (bY (.tup ta) (.tup [r])):DM D)=pure (.tup (ta++[r])):=fL (by simp;lia)
       have ad':(rd (bY (.tup (ta++[r])) (.tup db)):DM D)=pure (.tup (ta++[r]++db)):=fL (by simp;lia)
       simp only[mk1,au,ad,nP,uQ,fr1,ad'];refine Rn.pure ⟨_,rfl,.mk (.tup λx hx=>?_) ?_ hp3 (s1.trans (s2.trans s3))⟩
       ·rcases Vd.mp hx with hx | hx
        ·rcases Vd.mp hx with hx | hx
         ·exact g1 x hx
         ·rw[Vj.mp hx];exact gr
        ·exact g2 x hx
       ·rw[hwt];simp only[wt,iC,bB];lia
    |_=>cases hT
   ·rw [Yb]at hT;simp[hT];simp[hd.isN];have odw:Rn (vL [.ref p]) M1 λr M'=>J0 B n d p M r M':=(uy hp1).mono λr M' ⟨⟨a,b⟩,c,e⟩=>.mk (a.mono (by lia) (by lia)) (by lia) c (s1.trans e)
    by_cases hN:isNm d=true
    ·obtain ⟨i,bi,e1,e2,e3⟩:=hd.num hN;have lt5:(rd (Bp (nD way) (.int 5)):DM D)=pure (.bl (decide (way<5))):=Ho way 5;simp[hN,lt5];by_cases h5:way<5
     ·have ml:eO [.int (i+1),.int (i-1),.int (0-i),.bl true,.int (i+7)]=pure (.lst [.int (i+1),.int (i-1),.int (0-i),.bl true,.int (i+7)]):=cJ (by simp)
      have hm':∀x∈([.int (i+1),.int (i-1),.int (0-i),.bl true,.int (i+7)]:List D),Gd (B+10^12) (n+2) x/\wt x<=2*wt d+10000:=by
       intro x hx;simp only[List.mem_cons,List.not_mem_nil,or_false]at hx;rcases hx with rfl | rfl | rfl | rfl | rfl
       ·exact⟨.int (by lia),by simp only[wt];lia⟩
       ·exact⟨.int (by lia),by simp only[wt];lia⟩
       ·exact⟨.int (by lia),by simp only[wt];lia⟩
       ·exact⟨.bl _,by simp only[wt];lia⟩
       ·exact⟨.int (by lia),by simp only[wt];lia⟩
      obtain⟨x,hx,ex⟩:=BZ (L:=[.int (i+1),.int (i-1),.int (0-i),.bl true,.int (i+7)]) (t:=way) h5;simp only[h5,↓reduceIte,e1,e2,e3,au,ml,ex,hR];exact Rn.pure ⟨_,rfl,.mk (hm' _ hx).1 (hm' _ hx).2 hp1 s1⟩
     ·simp[h5];exact Rn.bind odw λr M' q=>by rw[hR];exact Rn.pure ⟨_,rfl,q⟩
    ·rw[Yb]at hN;simp[hN];exact Rn.bind odw λr M' q=>by rw[hR];exact Rn.pure ⟨_,rfl,q⟩
noncomputable def sO:D->Bool
 |.int _=>true
 |_=>false
def Gd.isB{B n:Nat}{d:D}(h:Gd B n d)(hN:isNm d=true):(rd (f9 [d,.ty "bool"]):DM D)=pure (.bl (!sO d)):=by
 cases h with
 |bl b=>exact bW (t := "bool") (λz=>rfl) (by decide)
 |int _=>exact bW (t := "int") (λz=>rfl) (by decide)
 |_=>cases hN
def Gd.iw{B n:Nat}{d:D}(h:Gd B n d):kI [d]=pure (.bl (sO d)):=by
 by_cases hN:isNm d=true
 ·simp[kI,jA,h.isN,hN,h.isB hN]
 ·have:sO d=false:=by cases d<;>first | rfl | (exact absurd rfl hN)
  rw[Yb]at hN;simp[kI,jA,h.isN,hN,this]
noncomputable def xn:=aF 1 1 jO
def Gd.lw{B n:Nat}{d:D}(h:Gd B n d):xn [d]=pure (.bl (sO d)):=by
 by_cases hN:isNm d=true
 ·simp[xn,jO,h.isN,hN,h.isB hN]
 ·have:sO d=false:=by cases d<;>first | rfl | (exact absurd rfl hN)
  rw[Yb]at hN;simp[xn,jO,h.isN,hN,this]
def Q4{fe:aj->DM D}{x:Option D}{rest:aj}{l:List D}(e:D->D)(hl:l.length<=1000000)(h:∀d∈l,fe (some d::rest)=pure (e d)):
  dB (aZ (gN 0) (λz=>pure true) (bV fe) l (x::rest) [])=pure (jD x l::rest,l.map e):=by
 have:=cI (x:=x) (rest:=rest) (as:=l) (fe:=fe) id e hl h;simpa using this
def Q5{ft:aj->DM Bool}{fe:aj->DM D}{x:Option D}{rest:aj}{l:List D}(p:D->Bool)(e:D->D)(hl:l.length<=1000000)(h1:∀d∈l,ft (some d::rest)=pure (p d))(h2:∀d∈l,p d=true->fe (some d::rest)=pure (e d)):
  dB (aZ (gN 0) ft (bV fe) l (x::rest) [])=pure (jD x l::rest,(l.filter p).map e):=by
 have:=aU (x:=x) (rest:=rest) (as:=l) (ft:=ft) (fe:=fe) id p e hl h1 h2;simpa using this
def Qs(a b:List Nat):(rd (iT (.lst (a.map nD)) (.lst (b.map nD))):DM D)=pure (.bl (!decide (a=b))):=bK λM=>by
 have e:∀l:List Nat,l.map nD=(l.map λn:Nat=>(n:Int)).map D.int:=λl=>by rw[VP];rfl
 have d:=fW (a.map λn:Nat=>(n:Int))
 have q:=iQ (a.map λn:Nat=>(n:Int)) (b.map λn:Nat=>(n:Int))
 have c:decide ((a.map λn:Nat=>(n:Int))=(b.map λn:Nat=>(n:Int)))=decide (a=b):=by rw[Vu,V7,V7];exact jP
 rw[e a,e b];simp only[iT,L3.eqB,eqP,toPy,gD,Option.map_some,PyData.canLay0,lay_ints,PyData.depth,PyData.eqv];rw[q,c,U5 (by rw[Bool.and_self,Bool.true_and];exact Vh (by lia))]
 rfl
def Lx(k:Nat):(rd (iT (.lst (List.replicate k (.int 1))) (.lst [])):DM D)=pure (.bl (decide (k≠0))):=by
 have:=Qs (List.replicate k 1) [];rw[List.map_replicate]at this;rw[show (D.int 1)=nD 1 from rfl]
 refine this.trans ?_;congr 2;rw[Vu];simp
def Qi(l:List D)(p:D->Bool):(rd (pH [.lst (l.map λd=>.bl (p d))]):DM D)=pure (.bl (l.all p)):=by have:=uF (l.map p);rw[VP]at this;simpa[Function.comp_def] using this
noncomputable def jy:D->Bool
 |.int i=>decide (0<=i)
 |_=>false
noncomputable def zB(n:Nat):D->Bool
 |.tup l=>decide (l.length=n)&&l.all jy
 |_=>false
theorem lY:∀ {l:List D},l.all jy=true->∃ ns:List Nat,l=ns.map nD
 |[],_=>⟨[],rfl⟩
 | d::l,h=>by
   rw[List.all_cons,WD]at h;obtain⟨ns,rfl⟩:=lY h.2;have h1:=h.1;cases d with
   |int i=>
     simp only[jy,decide_eq_true_eq]at h1;refine⟨i.toNat::ns,?_⟩;have:nD i.toNat=.int i:=by unfold nD;congr 1;lia
     simp[this]
   |_=>cases h1
def Gd.wg{B n:Nat}{d:D}(h:Gd B n d):((kI [d]>>=λx=>iG x>>=λk=>if k=true then rd (yD d (.int 0)) else pure (.bl false)):DM D)=pure (.bl (jy d)):=by
 rw[h.iw,au,oK,au];cases d with
 |int i=>exact Ql i 0
 |_=>rfl
def Gd.aw{B n:Nat}{d:D}(h:Gd B n d)(hw:wt d<=1000000)(m:Nat):mO [d,nD m]=pure (.bl (zB m d)):=by
 have isT:=h.isT;by_cases hT:yF d=false
 ·have:zB m d=false:=by cases d<;>first | rfl | cases hT
  rw[this];simp[mO,dG,isT,hT]
 cases h with
 | @tup n l hl=>
   have hlen:=rB l;have hwl:bB l+3<=1000000:=by simpa only[wt] using hw
   have ln:(rd (iT (.int (l.length:Int)) (nD m)):DM D)=pure (.bl (!decide (l.length=m))):=nR l.length m;by_cases hm:¬ l.length=m
   ·have lf:(rd (iT (.int (l.length:Int)) (nD m)):DM D)=pure (.bl true):=by rw[ln,Vz hm];rfl
    simp[mO,dG,isT,hT,lf,zB,hm]
   have hm:l.length=m:=by lia
   have lt:(rd (iT (.int (l.length:Int)) (nD m)):DM D)=pure (.bl false):=by rw[ln,Vh hm];rfl
   have c1:=Q4 (x:=none) (rest:=[]) (l:=l) (fe:=λδ=>opt δ[0]?.join>>=λa=>kI [a]>>=λa_1=>iG a_1>>=λk=>if k=true then opt δ[0]?.join>>=λa=>rd (yD a (.int 0)) else pure (.bl false)) (λd=>.bl (jy d)) (by lia) (λd hd=>by have:=(hl d hd).wg;simp only[List.getElem?_cons_zero,Option.join_some,dj,au];exact this)
   have e:zB m (.tup l)=l.all jy:=by simp only[zB,decide_eq_true hm,Bool.true_and]
   rw[e];simp[mO,dG,isT,hT,lt,aO,cQ];rw[c1,au,Qi]
 |_=>exact absurd rfl hT
end K
namespace K
open PySem L2 L3 N10 N60 LB
def AL(R:List (List Nat)):Prop:=∀x,x<R.length->∀a,a<R.length->To R x a
def Rch.trans{N:List (List Nat)}{x y z:Nat}(h:Rch N x y)(k:Rch N y z):Rch N x z:=by
 induction k with
 |here=>exact h
 |step _ m ih=>exact .step ih m
def QB{R:List (List Nat)}{W x:Nat}(wk:WK R W)(hx:x<R.length)(h5:R.length<=5)(hW:W<2^40):rst R W x<2^400:=by
 have bd:∀i j,i<R.length-1->j<R.length-1->((λi j=>bD R W (sk x i) (sk x j)) i j).natAbs<2^40:=λi j hi hj=>by have a1:=wk.at_le (gr_mem (lN (x:=x) hi)) (sk x i);have a2:=wk.at_le (gr_mem (lN (x:=x) hi)) (sk x j);show (bD R W (sk x i) (sk x j)).natAbs<_;unfold bD;split<;>lia
 have key:(N60.wt (bD R W) R.length x).natAbs<2^400:=by
  show (jm (λi j=>bD R W (sk x i) (sk x j)) (R.length-1)).natAbs<_
  cases hm:R.length-1 with
  |zero=>show (1:Int).natAbs<_;exact Nat.one_lt_two_pow (by decide)
  |succ k=>rw[uo _ k (by lia)];exact zL bd (by lia) k k k (by lia) (by lia) (by lia)
 unfold rst
 lia
theorem Oc{α:Type}{p q:α->Bool}:∀ {l:List α},(∀ a∈l,p a=true->q a=true)->(l.filter p).length<=(l.filter q).length
 |[],_=>U0 _
 | a::l,h=>by
   have ih:=Oc (l:=l) λb hb=>h b (.tail _ hb)
   have ha:=h a (.head _);cases hp:p a with
   |true=>rw[Wt hp,Wt (ha hp)];simp;exact ih
   |false=>
     rw[WM (by simp[hp])]
     cases hq:q a with
     |true=>rw[Wt hq];simp;lia
     |false=>rw[WM (by simp[hq])];exact ih
theorem Ob{α:Type}{p q:α->Bool}:∀ {l:List α},(∀ a∈l,p a=true->q a=true)->(l.filter q).length<=(l.filter p).length->l.filter p=l.filter q
 |[],_,_=>rfl
 | a::l,h,hl=>by
   have h':∀b∈l,p b=true->q b=true:=λb hb=>h b (.tail _ hb)
   have ha:=h a (.head _);have le:=Oc (l:=l) h';cases hp:p a with
   |true=>
     rw[Wt hp,Wt (ha hp)]at hl ⊢
     simp at hl;rw[Ob h' hl]
   | false=>
     rw[WM (p:=p) (by simp[hp])]at hl ⊢
     cases hq:q a with
     |true=>rw[Wt (p:=q) hq]at hl;simp at hl;lia
     |false=>
       rw[WM (p:=q) (by simp[hq])]at hl ⊢
       exact Ob h' hl
theorem GD(f:Nat->Nat):∀ n:Nat,1<=n->∃ x,x<n/\∀ y,y<n->f x<=f y
 |0,h=>by lia
 |1,_=>⟨0,by lia,λy hy=>by rw[show y=0 by lia];exact U0 _⟩
 | n + 2,_=>by
   obtain⟨x,hx,h⟩:=GD f (n+1) (by lia)
   by_cases c:f x<=f (n+1)
   ·exact⟨x,by lia,λy hy=>by
     by_cases e:y=n+1
     ·rw[e];exact c
     ·exact h y (by lia)⟩
   ·exact⟨n+1,by lia,λy hy=>by
     by_cases e:y=n+1
     ·rw[e];exact U0 _
     ·have:=h y (by lia);lia⟩
def wM{R:List (List Nat)}{x:Nat}(hx:x<R.length):gr (LD R) x=(List.range R.length).filter (rc (ju R) x):=by
 rw[lC (by rw[pA];exact hx)]
 simp[LD,gf]
def xx{R:List (List Nat)}{x y:Nat}(hx:x<R.length):y∈gr (LD R) x ↔ y<R.length/\Rch (ju R) x y:=by rw[wM hx,VN,Ve,p7]
def MJ{R:List (List Nat)}{W:Nat}(wk:WK R W):∃y∈LD R,cY (LD R) y=true:=by
 obtain⟨x,hx,h⟩:=GD (λx=>(gr (LD R) x).length) R.length wk.n1
 refine⟨gr (LD R) x,gr_mem (by rw[pA];exact hx),?_⟩
 unfold cY;rw[Xf];intro z hz;obtain⟨hz1,hz2⟩:=(xx hx).mp hz;refine Vh ?_;have hl:(gr (LD R) x).length<=(gr (LD R) z).length:=h z hz1;rw[wM hx,wM hz1]at hl ⊢
 exact Ob (λa w ha=>p7.mpr (hz2.trans (p7.mp ha))) hl
set_option tactic.hygienic true in
def KJ{t:List Int}{ts:List (List Int)}(h:t∈ts):t∈rO ts:=by
 have key:∀ (ts acc:List (List Int)),t∈acc\/t∈ts->t∈ts.foldl jQ acc:=by
  intro ts;induction ts with
  |nil=>intro acc h;exact h.elim id λz=>by cases z
  | cons u ts ih=>
    intro acc h;refine ih (jQ acc u) ?_;unfold jQ;rcases h with h | h
    ·split
     ·exact .inl h
     ·exact .inl (Wu _ h)
    ·rcases Vf.mp h with rfl | h
     ·split
      ·rename_i hm;exact .inl hm
      ·exact .inl (VB _ (Vj.mpr rfl))
     ·exact .inr h
 exact key ts [] (.inr h)
noncomputable def sub(R:List (List Nat))(ps:List Nat):List (List Nat):=ps.map λx=>ps.map λy=>ga (gr R x) y
def sub_len(R:List (List Nat))(ps:List Nat):(sub R ps).length=ps.length:=by simp[sub]
def QK{R:List (List Nat)}{ps:List Nat}{i j:Nat}(hi:i<ps.length)(hj:j<ps.length):ga (gr (sub R ps) i) j=ga (gr R (ga ps i)) (ga ps j):=by
 rw[lC (by rw[sub_len];exact hi)]
 simp only[sub,List.getElem_map];rw[fZ (by simpa using hj)]
 simp only[List.getElem_map,fZ hi,fZ hj]
structure Sh(R:List (List Nat))(ps:List Nat):Prop where
 ne:ps≠[]
 fl:∃p,ps=(List.range R.length).filter p
 cl:∀x∈ps,∀y,y<R.length->0<ga (gr R x) y->y∈ps
 rc:∀x∈ps,∀y∈ps,Rch (ju R) x y
def Sh.lt{R:List (List Nat)}{ps:List Nat}(h:Sh R ps):∀x∈ps,x<R.length:=λx hx=>by obtain⟨p,e⟩:=h.fl;rw[e]at hx;exact Ve.mp (VN.mp hx).1
def Sh.len{R:List (List Nat)}{ps:List Nat}(h:Sh R ps):ps.length<=R.length:=by obtain⟨p,e⟩:=h.fl;have:=Xn p (List.range R.length);rw[e];rwa [V6]at this
def Bu{R:List (List Nat)}{W x y:Nat}(wk:WK R W)(hx:x<R.length):y∈gr (ju R) x ↔ y<R.length/\0<ga (gr R x) y:=by rw[G4 hx,VN,Ve,wk.row _ (gr_mem hx),V7]
def RM{R:List (List Nat)}{W:Nat}{l:List Nat}(wk:WK R W)(h:l∈LD R)(hs:cY (LD R) l=true):Sh R l:=by
 have hm:=tX h;have eq:∀x∈l,gr (LD R) x=l:=λx hx=>by unfold cY at hs;exact V3 (Xf.mp hs x hx)
 refine⟨hm.1,?_,λx hx y hy hp=>?_,λx hx y hy=>?_⟩
 ·obtain⟨x,hx⟩:=List.exists_mem_of_ne_nil l hm.1;exact⟨_,(eq x hx).symm.trans (wM (hm.2.2 x hx))⟩
 ·have hx':=hm.2.2 x hx;rw[<-eq x hx];exact (xx hx').mpr ⟨hy,.step .here ((Bu wk hx').mpr ⟨hy,hp⟩)⟩
 ·have:=eq x hx;rw[<-this]at hy;exact ((xx (hm.2.2 x hx)).mp hy).2
theorem zM(f:Nat->Nat)(p:Nat->Bool):∀ l:List Nat,(∀ y∈l,p y=false->f y=0)->((l.filter p).map f).sum=(l.map f).sum
 |[],_=>rfl
 |a::l,h=>by
   have ih:=zM f p l λy hy=>h y (.tail _ hy)
   cases hp:p a with
   |true=>rw[Wt hp,Vt,Vt,Xc,Xc,ih]
   |false=>rw[WM (by simp[hp]),ih,Vt,Xc,h a (.head _) hp,V2]
def QQ{R:List (List Nat)}{W:Nat}{ps:List Nat}(wk:WK R W)(h:Sh R ps):WK (sub R ps) W where
 n1:=by rw[sub_len];exact Xx.mpr h.ne
 n25:=by rw[sub_len];exact Vp h.len wk.n25
 row r hr:=by obtain⟨x,_,rfl⟩:=Vy.mp hr;rw[sub_len,U6]
 sum r hr:=by
  obtain⟨x,hx,rfl⟩:=Vy.mp hr;have hx':=h.lt x hx;obtain⟨p,e⟩:=h.fl;have:=zM (ga (gr R x)) p (List.range R.length) λy hy hp=>by
   refine Nat.eq_zero_of_not_pos λz=>?_
   have:=h.cl x hx y (Ve.mp hy) z;rw[e]at this;rw[(VN.mp this).2]at hp;cases hp
  rw[<-e,pF]at this;rw[this,<-wk.row _ (gr_mem hx'),Nr];exact wk.sum _ (gr_mem hx')
 w1:=wk.w1
def To.snoc{Q:List (List Nat)}{a b c:Nat}(h:To Q b a)(hc:c<Q.length)(hp:0<ga (gr Q b) c):To Q c a:=by
 induction h with
 |here=>exact .step hc hp .here
 |step hj hq _ ih=>exact .step hj hq ih
def Ra{ps:List Nat}{x:Nat}(h:x∈ps):∃i,i<ps.length/\ga ps i=x:=by obtain⟨i,hi,e⟩:=List.getElem_of_mem h;exact⟨i,hi,by rw[fZ hi];exact e⟩
def QM{R:List (List Nat)}{W:Nat}{ps:List Nat}{a y:Nat}(wk:WK R W)(h:Sh R ps)(ha:a<ps.length)(r:Rch (ju R) (ga ps a) y):∃ b,b<ps.length/\ga ps b=y/\To (sub R ps) b a:=by
 induction r with
 |here=>exact⟨a,ha,rfl,.here⟩
 |step _ m ih=>
   obtain⟨b,hb,e,t⟩:=ih;have hm:ga ps b∈ps:=m9 hb;rw[<-e]at m;obtain⟨hz,hp⟩:=(Bu wk (h.lt _ hm)).mp m;obtain⟨c,hc,e2⟩:=Ra (h.cl _ hm _ hz hp);refine⟨c,hc,e2,t.snoc (by rw[sub_len];exact hc) ?_⟩
   rw[QK hb hc,e2];exact hp
def QJ{R:List (List Nat)}{W:Nat}{ps:List Nat}(wk:WK R W)(h:Sh R ps):AL (sub R ps):=λb hb a ha=>by
 rw[sub_len]at hb ha;obtain⟨b',hb',e,t⟩:=QM wk h ha (h.rc _ (m9 ha) _ (m9 hb));obtain⟨p,ep⟩:=h.fl;have nd:ps.Nodup:=by rw[ep];exact List.nodup_range.filter _
 rw[fZ hb,fZ hb']at e
 rwa [(List.getElem_inj nd).mp e]at t
noncomputable def Et:=aF 2 6 (vO Ey Er tW fO)
structure Ws(n i:Nat)(ws:List Nat):Prop where
 len:ws.length=n
 bd:∀w∈ws,w<2^400
 pos:0<i->0<ws.sum
noncomputable def SM(M0:Mo)(R:List (List Nat))(W:Nat)(ps:List Nat)(q:Nat)(i:Nat)(δ:aj)(M:Mo):Prop:=(∃z4 z5,δ=[some (aK R W),some (nT ps),some (aK (sub R ps) W),some (.ref q),z4,z5])/\(∃ws,Ws R.length i ws/\M[q]?=some (.lst (ws.map nD)))/\∀(j:Nat) (o:DO),M0[j]?=some o->M[j]?=some o
theorem Ws.set{n i x v:Nat}{ws:List Nat}(h:Ws n i ws)(hx:x<n)(h0:0<v)(hv:v<2^400):Ws n (i+1) (ws.set x v) where
 len:=by rw[Xk];exact h.len
 bd w hw:=by
  rcases List.mem_or_eq_of_mem_set hw with h1 | h1
  ·exact h.bd w h1
  ·rw[h1];exact hv
 pos _:=by
  have:v∈ws.set x v:=List.mem_set (by rw[h.len];exact hx) v
  have:=nZ this
  lia
def Qx{R:List (List Nat)}{W:Nat}{ps:List Nat}(wk:WK R W)(h5:R.length<=5)(hW:W<2 ^ 40)(sh:Sh R ps)(M:Mo):Rn (Et [aK R W,nT ps]) M λd M'=>(∃ ws,Ws R.length 0 ws/\d=nT ws)/\∀ (j:Nat) (o:DO),M[j]?=some o->M'[j]?=some o:=by
 have n1:=wk.n1;have hlen:=sh.len;have hlt:=sh.lt;have qk:=QQ wk sh;have qa:=QJ wk sh;have q1:1<=ps.length:=Xx.mpr sh.ne;unfold Et vO pY;dsimp only;refine Rn.call rfl ?_;have st:bQ 6 [aK R W,nT ps]=[some (aK R W),some (nT ps),none,none,none,none]:=rfl;rw[st];refine aJ λK hK=>?_
 have ce:aO 1 [1,0] [some (aK R W),some (nT ps),none,none,none,none]=[none,some (nT ps),some (aK R W)]:=rfl;have as:jo (nT ps)=some (.fix (ps.map nD)):=rfl;simp[ce,as,lA];rw[cI (as:=ps) nD (λx=>nT (ps.map λy=>ga (gr R x) y)) (by lia) (λx hx=>?_)]
 rotate_left
 ·have hx':=hlt x hx;have ce2:aO 1 [2,0] [some (nD x),some (nT ps),some (aK R W)]=[none,some (aK R W),some (nD x)]:=rfl;simp only[bU,as,lA,ce2];rw[cI (as:=ps) nD (λy=>nD (ga (gr R x) y)) (by lia) (λy hy=>?_)]
  ·simp[nT,Function.comp_def]
  ·have hy':=hlt y hy;simp only[List.getElem?_cons_zero,List.getElem?_cons_succ,Option.join_some,dj,au,gR,qY hx',qZ (l:=gr R x) (i:=y) (by rw[wk.row _ (gr_mem hx')];exact hy')]
 have e1:D.tup (ps.map λx=>nT (ps.map λy=>ga (gr R x) y))=nM (sub R ps):=by simp[nM,sub,Function.comp_def]
 simp only[au,p6,Hr,e1,Ib qk];rw[hK];clear hK K;refine aJ λK hK=>?_
 have m0:eO [.int 0]=pure (.lst [.int 0]):=cJ (by simp)
 simp[m0,jK wk.n25];refine yR (by lia) ?_
 have st0:SM M R W ps M.length 0 [some (aK R W),some (nT ps),some (aK (sub R ps) W),some (.ref M.length),none,none] (M++[.lst ((List.replicate R.length 0).map nD)]):=by
  refine⟨⟨_,_,rfl⟩,⟨List.replicate R.length 0,⟨Vw,λw hw=>?_,λz=>absurd z (Wm 0)⟩,by simp⟩,λj o h=>?_⟩
  ·rw[Xr hw];exact Nat.pow_pos (by decide)
  ·rw[Vb (UW.mp h).1];exact h
 have qn:M[M.length]?=none:=by simp
 rw[hK];clear hK K;revert st0 qn;generalize M.length=q;generalize M++[DO.lst ((List.replicate R.length 0).map nD)]=M1;intro st0 qn;refine aJ λK hK=>?_
 have en:uv [nT ps]=some (.fix (dg 0 (ps.map nD))):=rfl;have nl:∀ (l:List Nat) (k i:Nat),(dg k (l.map nD))[i]?=(l[i]?).map λx=>.tup [nD (k + i),nD x]:=by
  intro l;induction l with
  |nil=>intro k i;simp[dg]
  | cons a l ih=>
    intro k i;cases i with
    |zero=>simp[dg,nD]
    |succ i=>simp only[List.map_cons,dg,List.getElem?_cons_succ];rw[ih,Nat.add_right_comm,Nat.add_assoc]
 simp[en,fF];refine Rn.bind (cV (SM M R W ps q) _ 0 _ _ st0 (λx d δ M5 hx hI=>?_)) (λr M5 hI=>?_)
 ·clear hK K;obtain⟨⟨z4,z5,rfl⟩,⟨ws,hw,at5⟩,k5⟩:=hI;rw[nl,U4]at hx;obtain⟨y,hy,rfl⟩:=hx;have hx':x<ps.length:=(UW.mp hy).1;have hy':=hlt y (Vo hy);rw[V2]at hw ⊢
  have hxs:x<(sub R ps).length:=by rw[sub_len];exact hx'
  have s5:(sub R ps).length<=5:=by rw[sub_len];lia
  have tt:=QT qk hxs s5 hW (Kc qk hxs (qa x hxs));have rp:=Mv qk hxs s5 (qa x hxs);rw[rp.2]at tt;simp[tt];refine Rn.run (rm (i:=y) at5 (by rw[U6,hw.len];exact hy')) ?_
  refine Rn.pure ⟨_,rfl,⟨_,_,rfl⟩,⟨_,hw.set hy' rp.1 (QB qk hxs s5 hW),?_⟩,λj o h=>?_⟩
  ·rw[V1 (UW.mp at5).1,List.map_set];rfl
  ·rw[Wf]
   ·exact k5 j o h
   ·rintro rfl;rw[qn]at h;cases h
 ·obtain ⟨δ',rfl,⟨z4,z5,rfl⟩,⟨ws,hw,at5⟩,k5⟩:=hI;rw[hK];clear hK K;have ln:(dg 0 (ps.map nD)).length=ps.length:=by
   have:∀(l:List D) (k:Nat),(dg k l).length=l.length:=by
    intro l;induction l with
    |nil=>intro k;rfl
    |cons a l ih=>intro k;simp[dg,ih]
   rw[this,U6]
  rw[ln,V2]at hw;have wp:=hw.pos (by lia)
  have sb:ws.sum<2^403:=by
   have:ws.sum<=ws.length*(2^400-1):=QR λn hn=>by have:=hw.bd n hn;lia
   rw[hw.len]at this;have h2:R.length*(2^400-1)<=5*(2^400-1):=Nat.mul_le_mul_right _ h5;have h3:(2:Nat)^403=8*2^400:=by rw[show (403:Nat)=3+400 from rfl,Nat.pow_add]
   have h4:0<(2:Nat)^400:=Nat.pow_pos (by decide)
   lia
  have lot:Ez ws:=⟨by rw[hw.len];exact n1,by rw[hw.len];exact wk.n25,wp⟩
  simp;refine Rn.bindRd (nT ws) (by show (aR (.ref q) M5).map _=_;simp only[aR,at5];rfl) ?_
  rw[O4 lot (Pa sb (by decide)),au]
  refine Rn.pure ⟨_,rfl,⟨_,⟨by simp[lst,hw.len],λw h=>?_,λz=>absurd z (Wm 0)⟩,rfl⟩,k5⟩
  obtain⟨a,ha,rfl⟩:=Vy.mp h;exact Ze (Nat.div_le_self _ _) (hw.bd a ha)
theorem Fd{L:List (List Nat)}:∀ {l:List (List Int)},(∀ t∈l,t∈L.map lO)->∃ Y:List (List Nat),l=Y.map lO/\∀ y∈Y,y∈L
 |[],_=>⟨[],rfl,λy h=>by cases h⟩
 | t::l,h=>by
   obtain⟨Y,e,k⟩:=Fd (l:=l) λx hx=>h x (.tail _ hx)
   obtain⟨y,hy,rfl⟩:=Vy.mp (h t Vm);exact⟨y::Y,by rw[e];rfl,λz hz=>by
    rcases Vf.mp hz with rfl | hz
    ·exact hy
    ·exact k z hz⟩
def KN{t:List Int}{ts:List (List Int)}(h:t∈rO ts):t∈ts:=by
 have key:∀ (ts acc:List (List Int)),t∈ts.foldl jQ acc->t∈acc\/t∈ts:=by
  intro ts;induction ts with
  |nil=>intro acc h;exact .inl h
  | cons u ts ih=>
    intro acc h;rcases ih (jQ acc u) h with z | z
    ·unfold jQ at z;split at z
     ·exact .inl z
     ·rcases Vd.mp z with z | z
      ·exact .inl z
      ·exact .inr (by rw[Vj.mp z];exact Vm)
    ·exact .inr (.tail _ z)
 rcases key ts [] h with z | z
 ·cases z
 ·exact z
structure Shuts(R Y:List (List Nat)):Prop where
 ne:Y≠[]
 len:Y.length<=R.length
 mem:∀y∈Y,y∈LD R/\cY (LD R) y=true
def shuts{R:List (List Nat)}{W:Nat}(wk:WK R W):∃ Y:List (List Nat),D.tup ((jF (LD R)).map tupI)=nM Y/\Shuts R Y:=by
 have sub:∀t∈jF (LD R),t∈((LD R).filter (cY (LD R))).map lO:=λt ht=>KN ((jL _).1.mem_iff.mp ht)
 obtain⟨Y,e,k⟩:=Fd sub;have l1:(jF (LD R)).length=Y.length:=by rw[e];simp
 refine⟨Y,?_,?_,?_,λy hy=>?_⟩
 ·rw[e,VP];unfold nM;congr 1;exact Wy λl x=>(Pq l).symm
 ·intro z;obtain⟨y,h1,h2⟩:=MJ wk;have:lO y∈jF (LD R):=(jL _).1.mem_iff.mpr (KJ (List.mem_map_of_mem (VN.mpr ⟨h1,h2⟩)));rw[e,z]at this;cases this
 ·have l2:(jF (LD R)).length<=((LD R).filter (cY (LD R))).length:=by
   unfold jF;rw[(jL _).1.length_eq];have:=Ar (((LD R).filter (cY (LD R))).map lO)
   rwa [U6]at this
  have fl:=Xn (cY (LD R)) (LD R);rw[pA]at fl
  lia
 ·exact VN.mp (k y hy)
noncomputable def xr:=aF 1 1 (Al Ex Et)
structure Rts(n:Nat)(L:List (List Nat)):Prop where
 ne:L≠[]
 len:L.length<=n
 ws:∀l∈L,Ws n 0 l
noncomputable def Ue(M0:Mo)(R:List (List Nat))(W:Nat)(i:Nat)(δ:aj)(l:List D)(M:Mo):Prop:=(∃z,δ=[z,some (aK R W)])/\(∃L:List (List Nat),L.length=i/\(∀w∈L,Ws R.length 0 w)/\l=L.map nT)/\∀(j:Nat) (o:DO),M0[j]?=some o->M[j]?=some o
def Ce{R:List (List Nat)}{W:Nat}(wk:WK R W)(h5:R.length<=5)(hW:W<2 ^ 40)(M:Mo):Rn (xr [aK R W]) M λd M'=>(∃ L,Rts R.length L/\d=nM L)/\∀ (j:Nat) (o:DO),M[j]?=some o->M'[j]?=some o:=by
 obtain⟨Y,e,hY⟩:=shuts wk;unfold xr Al vm;dsimp only;refine Rn.call rfl ?_;have st:bQ 1 [aK R W]=[some (aK R W)]:=rfl;rw[st];simp only[bU,eN,aM];refine Rn.bind (QG wk (by lia) M) λd M1 ⟨e1,k1⟩=>?_
 rw[e]at e1;subst e1;have as:jo (nM Y)=some (.fix (Y.map nT)):=rfl;have ce:aO 1 [0] [some (aK R W)]=[none,some (aK R W)]:=rfl;simp[as,ce,lA];have tl:∀l:List D,(rd (n6 [.lst l]):DM D)=pure (.tup l):=λl=>rfl
 refine Rn.bind (xF (lE (Ue M R W) (Y.map nT) 0 _ _ _ ⟨⟨none,rfl⟩,⟨[],rfl,by simp,rfl⟩,k1⟩ (λi d δ l M2 hi hI=>?_))) λpr M2 hI=>?_
 ·obtain⟨⟨z,rfl⟩,⟨L,h1,h2,rfl⟩,old⟩:=hI;rw[Vl]at hi;obtain⟨y,hy,rfl⟩:=U4.mp hi;obtain⟨m1,m2⟩:=hY.mem y (Vo hy);rw[mD,au,au,U5 rfl];unfold bV;simp only[bU,List.set_cons_zero,aM];refine Rn.bind (Qx wk h5 hW (RM wk m1 m2) M2) λd M3 ⟨⟨ws,hw,e⟩,k3⟩=>?_
  subst e;have hi':=(UW.mp hy).1;have hl:=hY.len;have lt2:(L.map nT).length<sizeLine:=by
   rw[U6,h1];show _<2^24
   lia
  rw[U5 lt2];refine Rn.pure ⟨⟨_,rfl⟩,⟨L++[ws],by rw[Vk,h1];rfl,λw h=>?_,by rw[XC];rfl⟩,λj o e=>k3 j o (old j o e)⟩
  rcases Vd.mp h with h | h
  ·exact h2 w h
  ·rw[Vj.mp h];exact hw
 ·obtain⟨_,⟨L,h1,h2,el⟩,old⟩:=hI;rw[el];rw[U6,V2]at h1;exact Rn.pure ⟨_,rfl,⟨L,⟨λz=>hY.ne (Xy.mp (by rw[<-h1,z];rfl)),by rw[h1];exact hY.len,h2⟩,rfl⟩,old⟩
noncomputable def ph:=aF 2 2 (dR mQ fO xf)
noncomputable def rG:=aF 2 3 (cD xn)
def Ol{B n:Nat}{l:List D}(h:Gd B n (.tup l))(hw:wt (.tup l)<=1000000):∃ b,mQ [.tup l]=pure (.bl b)/\(l.all jy=false->b=false):=by
 have isT:=h.isT;have hT:yF (.tup l)=true:=rfl;have aw:=h.aw hw l.length;have rw':zB l.length (.tup l)=l.all jy:=by simp[zB]
 rw[rw']at aw;have aw':mO [.tup l,.int (l.length:Int)]=pure (.bl (l.all jy)):=aw;by_cases h1:¬ 1<=l.length
 ·have h1':¬ (1:Int)<=(l.length:Int):=by lia
  exact⟨false,by simp[mQ,gK,isT,hT,h1'],λy=>rfl⟩
 by_cases h2:¬ l.length<=25
 ·have h1':(1:Int)<=(l.length:Int):=by lia
  have h2':decide ((l.length:Int)<=25)=false:=Vz (by lia)
  exact⟨false,by simp[mQ,gK,isT,hT,h1',h2'],λy=>rfl⟩
 have h1':(1:Int)<=(l.length:Int):=by lia
 have h2':decide ((l.length:Int)<=25)=true:=Vh (by lia)
 cases ha:l.all jy with
 |false=>rw[ha]at aw';exact⟨false,by simp[mQ,gK,isT,hT,h1',h2',aw'],λy=>rfl⟩
 |true=>obtain⟨ns,rfl⟩:=lY ha;rw[U6]at h1 h2;exact⟨_,yE (l:=ns) (by lia) (by lia),λz=>by cases z⟩
def Oq{R:List (List Nat)}{W B n:Nat}{d:D}(wk:WK R W)(h5:R.length<=5)(hW:W<2 ^ 40)(h:Gd B n d)(hw:wt d<=1000000):∃ b,ph [aK R W,d]=pure (.bl b)/\rG [nM R,d]=pure (.bl b):=by
 have isT:=h.isT;by_cases hT:yF d=false
 ·have il:mQ [d]=pure (.bl false):=by simp[mQ,gK,isT,hT]
  exact⟨false,by simp[ph,dR,il],by simp[rG,cD,isT,hT]⟩
 cases h with
 | @tup n l hl=>
   have n25:=wk.n25;have n1:=wk.n1;obtain⟨b,il,hb⟩:=Ol (.tup hl) hw;have hlen:=rB l;have hwl:bB l+3<=1000000:=by simpa only[wt] using hw
   have ln:(rd (iT (.int (l.length:Int)) (nD R.length)):DM D)=pure (.bl (!decide (l.length=R.length))):=nR l.length R.length;by_cases hm:¬ l.length=R.length
   ·rw[Vz hm]at ln;refine⟨false,?_,by simp[rG,cD,isT,hT,dI,ln]⟩
    cases b with
    |false=>simp[ph,dR,il]
    |true=>simp[ph,dR,il,jK n25,ln]
   have hm:l.length=R.length:=by lia
   rw[Vh hm]at ln;have c2:=Q5 (x:=none) (rest:=[]) (l:=l) (ft:=λδ=>opt δ[0]?.join >>= λa=>xn [a] >>= λa=>rd (iB a) >>= λa=>if a=false then pure true else opt δ[0]?.join >>= λa=>rd (Bp a (D.int 0)) >>= iG) (fe:=λx=>pure (D.int 1)) (λd=>!jy d) (λz=>.int 1) (by lia) (λd hd=>by
    have hw:=(hl d hd).lw;cases d with
    |int i=>
      have e1:(rd (Bp (.int i) (.int 0)):DM D)=pure (.bl (decide (i<0))):=Qp i 0;have e2:decide (i<0)=!decide (0<=i):=by rw[Vu];simp
      simp[hw,sO,e1,jy,e2]
    |_=>simp[hw,sO,jy]) (λd z z=>rfl)
   have m0:eO []=pure (.lst []):=cJ (by simp)
   have ne0:(rd (iT (.lst ((l.filter λd=>!jy d).map λz=>.int 1)) (.lst [])):DM D)=pure (.bl (!l.all jy)):=by rw[List.map_const',Lx];congr 2;rw[Vu];simp
   cases ha:l.all jy with
   |false=>
     rw[hb ha]at il;refine⟨false,by simp[ph,dR,il],?_⟩
     rw[ha]at ne0;simp[rG,cD,isT,hT,dI,ln,aO,cQ,jo,lA];simp[c2,m0,ne0]
   | true=>
     obtain⟨ns,rfl⟩:=lY ha;rw[U6]at hm;have il':=yE (l:=ns) (by lia) (by lia)
     rw[ha]at ne0;have isT':(rd (f9 [nT ns,.ty "tuple"]):DM D)=pure (.bl true):=isT;have ln':(rd (gj [nT ns]):DM D)=pure (.int (ns.length:Int)):=by simp[nT]
     rw[U6]at ln;show ∃b,ph [aK R W,nT ns]=pure (.bl b)/\rG [nM R,nT ns]=pure (.bl b);have as:jo (nT ns)=some (.fix (ns.map nD)):=rfl;have vV:(rd (cg (nD ns.sum) (.int 0)):DM D)=pure (.bl (decide (ns.sum=0))):=bM ns.sum 0;by_cases h0:ns.sum=0
     ·rw[Vz (by lia)]at il'
      rw[Vh h0]at vV;refine⟨false,by simp[ph,dR,il'],?_⟩
      simp[rG,cD,isT',ln',dI,ln,aO,cQ,as,lA];simp[c2,m0,ne0,vV]
     ·have lot:Ez ns:=⟨by lia,by lia,by lia⟩
      rw[Vh (by lia)]at il'
      rw[Vz h0]at vV;have af:=Nv (k:=1) wk (by lia) hm lot (by decide)
      have af':xf [aK R W,nT ns,.int 1]=pure (nT (stp R ns)):=af;refine⟨decide (stp R ns=ns.map (·* W)),?_,?_⟩
      ·simp[ph,dR,il',ln',jK n25,ln,af',aO,cQ,as,lA];have io:=Om (m := "after") (by decide +kernel) R W
       have c3:=cI (x:=none) (rest:=[some (aK R W)]) (as:=ns) (fe:=λδ=>opt δ[0]?.join>>=λx=>opt δ[1]?.join>>=λa=>rd (pK (Str.ofString "Walk") (Str.ofString "whole") a)>>=λy=>rd (pU x y)) nD (λw=>nD (w*W)) (by lia) (λw z=>by
        simp only[bU];rw[show (rd (pK (Str.ofString "Walk") (Str.ofString "whole") (aK R W)):DM D)=pure (nD W) from vX R W,au]
        exact nQ (by lia))
       rw[show (rd (sI (Str.ofString "Walk") (Str.ofString "after") (aK R W)):DM Unit)=pure () from io,au,c3,au]
       have e:=Hf (stp R ns) (ns.map (·* W));simpa[nT,Function.comp_def] using e
      ·simp [rG,cD,isT',ln',dI,ln,aO,cQ,as,lA];simp[c2,m0,ne0,vV];have rg:qd [nD R.length]=some (.fix ((List.range R.length).map nD)):=zu (n:=R.length) (by lia)
       rw[show (rd (gj [nM R]):DM D)=pure (nD R.length) from dI R]
       simp only[au,rg,dj,as,lA];rw[cI (as:=List.range R.length) nD (λy=>nD (dot ns R y)) (by simp;lia) (λy hy=>?_),au,cI (as:=ns) nD (λw=>nD (w*W)) (by lia) (λw z=>?_),au]
       ·have e:=Qk (stp R ns) (ns.map (·* W));simpa[stp,Function.comp_def] using e
       ·have h0':(rd (cZ (nM R) (.int 0)):DM D)=pure (nT (gr R 0)):=qY (i:=0) (by lia)
        simp only[bU,h0',Qu,wk.sum _ wk.head];exact nQ (by lia)
       ·have hy':=Ve.mp hy;simp only[bU,Option.getD_some,dI,rg,lA];rw[cI (as:=List.range R.length) nD (λx=>nD (ga ns x*ga (gr R x) y)) (by simp;lia) (λx hx=>?_),au]
        ·have:=zx ((List.range R.length).map λx=>ga ns x*ga (gr R x) y)
         rw[pF,<-Q7 hm]at this;simpa[Function.comp_def] using this
        ·have hx':=Ve.mp hx;have ry:=wk.row _ (gr_mem hx');simp only[bU,qY hx',qZ (l:=ns) (i:=x) (by lia),qZ (l:=gr R x) (i:=y) (by lia)]
         have:=wk.at_le (gr_mem hx') y;exact nQ (by lia)
 |_=>exact absurd rfl hT
noncomputable def Ew:=aF 1 1 ud
theorem Cz:∀ a b:List Nat,a.length=b.length->pairs (a.map nD) (b.map nD)=(a.zip b).map λp=>.tup [nD p.1,nD p.2]
 |[],[],_=>rfl
 |x::a,y::b,h=>by
   have:=Cz a b (by simpa using h)
   simp only[List.map_cons,pairs,List.zip_cons_cons,this]
def QF{n:Nat}{L:List (List Nat)}(h:Rts n L)(h5:n<=5):∃ ws:List Nat,ws.length=n/\(∀ w∈ws,w<2 ^ 401)/\Ew [nM L]=pure (nT ws):=by
 have l1:1<=L.length:=Xx.mpr h.ne;have l5:=h.len;have wa:=h.ws (gr L 0) (gr_mem (by lia))
 have wb:=h.ws (gr L (L.length-1)) (gr_mem (by lia))
 have ha:(rd (cZ (nM L) (.int 0)):DM D)=pure (nT (gr L 0)):=qY (i:=0) (by lia)
 have hb:(rd (cZ (nM L) (.int (-1))):DM D)=pure (nT (gr L (L.length-1))):=bK λM=>by
  show atI (L.map nT) (-1)=_;unfold atI;have e:ixN (L.map nT).length (-1)=some (L.length-1):=by
   rw[U6];unfold ixN;rw[U8 (by decide),U5 (by lia)]
   congr 1
   lia
  rw[e];show (L.map nT)[L.length-1]?=_;rw[Vl,U3 (by lia),lC (by lia)]
  rfl
 revert ha hb wa wb;generalize gr L 0=a;generalize gr L (L.length-1)=b;intro wa wb ha hb;have la:=wa.len;have lb:=wb.len;refine⟨(a.zip b).map λp=>p.1+p.2,by simp;lia,λw hw=>?_,?_⟩
 ·obtain⟨⟨x,y⟩,hp,rfl⟩:=Vy.mp hw;obtain⟨h1,h2⟩:=Xl hp;have:=wa.bd x h1;have:=wb.bd y h2;have:(2:Nat)^401=2*2^400:=by rw[show (401:Nat)=1+400 from rfl,Nat.pow_add]
  show x+y<_
  lia
 ·have zp:qF [nT a,nT b]=some (.fix ((a.zip b).map λp=>.tup [nD p.1,nD p.2])):=by rw[<-Cz a b (by lia)];rfl
  simp[Ew,ud,aO,cQ,ha,hb,zp,lA];rw[cI (as:=a.zip b) (λp=>.tup [nD p.1,nD p.2]) (λp=>nD (p.1+p.2)) (by simp;lia) (λp z=>?_),au]
  ·simp[nT,Function.comp_def]
  ·have ls:(rd (λM=>(qP [D.tup [nD p.1,nD p.2]] M).map D.lst):DM D)=pure (.lst [nD p.1,nD p.2]):=bK λM=>rfl
   simp only[List.getElem?_cons_zero,Option.join_some,dj,au,ls];have:=zx [p.1,p.2];simpa using this
end K
namespace K
open PySem L2 L3 N10
noncomputable def Ih:=aF 1 12 (J6 xg xq xu xr Ew o9 vL (vI 5) rG ph tW)
def Gd.nats{ps:List Nat}{B:Nat}(h:∀x∈ps,x<=B):Gd B 1 (nT ps):=.tup λx hx=>by obtain⟨n,hn,rfl⟩:=Vy.mp hx;exact .int (by have:=h n hn;simpa using this)
theorem kh:∀l:List Nat,bB (l.map nD)=1923*l.length
 |[]=>rfl
 |a::l=>by have:=kh l;simp only[List.map_cons,bB,nD,wt,List.length_cons]at this ⊢;lia
noncomputable def Nl(n:Nat)(d:D):Prop:=∃ps:List Nat,d=nT ps/\ps.length=n/\∀x∈ps,x<2^404
noncomputable def Tg(d:D):Prop:=Gd (2^500) 5 d/\wt d<=80000
def Nz{b:Nat}(h:b<=2^404)(c:Nat)(hc:c<=2^404):b+c<=2^500:=by
 have:(2:Nat)^404*2<=2^500:=by rw[<-Nat.pow_succ];exact VM (by decide) (by decide)
 lia
def vC{ps:List Nat}(h:∀x∈ps,x<2^404)(hl:ps.length<=12):Tg (nT ps):=⟨(Gd.nats (B:=2^404) λx hx=>Xj (h x hx)).mono (VM (by decide) (by decide)) (by decide),by unfold nT;simp only[wt,kh];lia⟩
def Dr{x k:Nat}(h:x<2^k)(hk:k<=404):x<2^404:=Va h (VM (by decide) hk)
def rn{x:Nat}(h:x<2^64):x<2^404:=Dr h (by decide)
def cC.keep{p:Nat}{M M':Mo}(h:cC p M)(k:∀(j:Nat) (o:DO),M[j]?=some o->M'[j]?=some o):cC p M':=by obtain⟨a,b,c,hc,e⟩:=h;exact⟨a,b,c,hc,k _ _ e⟩
def Im{l m:List D}{M:Mo}{β:Type}{k:D->DM β}{Q:β->Mo->Prop}(h:(l++m).length<=1000000)(q:Rn (k (.ref M.length)) (M++[.lst (l++m)]) Q):Rn (Nu (.lst l) (.lst m)>>=k) M Q:=by
 show Rn ((rd (λz=>some (l++m))>>=L3.eQ)>>=k) M Q
 rw[aM];refine Rn.bindRd (l++m) rfl ?_;exact Rn.eQ h q
theorem zW{k:Nat}:∀ R:List (List Nat),(∀ r∈R,r.length=k)->bB (R.map nT)=R.length * (1923 * k + 5)
 |[],_=>by simp[bB]
 |r::R,h=>by
   have:=zW R λx hx=>h x (.tail _ hx)
   have e:wt (nT r)=1923*k+3:=by unfold nT;simp only[wt,kh,h r (.head _)]
   rw[Vt,bB,this,e,Wd,Nat.add_mul]
   lia
def Ni{R:List (List Nat)}{W:Nat}(wk:WK R W)(h5:R.length<=5)(hW:W<=12):Tg (nM R):=by
 constructor
 ·refine Gd.mono (B:=12) (Vp (show 12<=2^64 by decide) (VM (by decide) (by decide))) (n:=2) (.tup λx hx=>?_) (by decide)
  obtain⟨r,hr,rfl⟩:=Vy.mp hx;exact Gd.nats λx hx=>by have:=nZ hx;rw[wk.sum r hr]at this;lia
 ·unfold nM;rw[wt,zW R wk.row];have:R.length*(1923*R.length+5)<=5*(1923*5+5):=Nat.mul_le_mul h5 (by lia)
  lia
noncomputable def S6(cs:List Int)(i:Nat)(δ:aj)(M:Mo):Prop:=∃x1 x2 x3 x4 x5 x6 x7 x8 x9 x10 x11,δ=[some (.scr cs),x1,x2,x3,x4,x5,x6,x7,x8,x9,x10,x11]
noncomputable def Tc(cs:List Int)(p:Nat)(i:Nat)(δ:aj)(M:Mo):Prop:=(∃x1 x3 x4 x5 x6 x7 x8 x9 x10 x11,δ=[some (.scr cs),x1,some (.ref p),x3,x4,x5,x6,x7,x8,x9,x10,x11])/\cC p M
noncomputable def Ua(p q:Nat)(S:List D)(i:Nat)(δ:aj)(l:List D)(M:Mo):Prop:=(∃z,δ=[z,some (.ref p)])/\(∃ps:List Nat,ps.length=i/\(∀x∈ps,x<4)/\l=ps.map nD)/\M[q]?=some (.lst S)/\cC p M
noncomputable def S8(cs:List Int)(p:Nat)(R:List (List Nat))(W:Nat)(S:List D)(i:Nat)(δ:aj)(M:Mo):Prop:=(∃x1 x3 x8 x9 x10 x11 T,δ=[some (.scr cs),x1,some (.ref p),x3,some (nM R),some (aK R W),some (.lst S),some (.lst T),x8,x9,x10,x11]/\T.length<=100+10*i/\∀d∈T,Tg d)/\cC p M
noncomputable def S9(cs:List Int)(p:Nat)(R:List (List Nat))(W:Nat)(S T:List D)(i:Nat)(δ:aj)(M:Mo):Prop:=(∃x1 x3 x8 x9 x10 x11,δ=[some (.scr cs),x1,some (.ref p),x3,some (nM R),some (aK R W),some (.lst S),some (.lst T),x8,x9,x10,x11])/\cC p M
def Lg(cs:List Int)(hcs:cs.length<=100000):Rn (Ih [.scr cs]) [] λd v=>d=.bl true:=by
 unfold Ih J6 DK;dsimp only;refine Rn.call rfl ?_;have st:bQ 12 [D.scr cs]=[some (.scr cs),none,none,none,none,none,none,none,none,none,none,none]:=rfl;rw[st];obtain⟨c0,ec⟩:=NB cs 0;have ec':xg [.scr cs,.int 0]=pure (.int c0):=ec;have l1:∀x:D,eO [x]=pure (.lst [x]):=λx=>cJ (by simp)
 have cl:(cutD (cs.map D.int) (some 1) (some 4)).length<=100000:=by
  unfold cutD;rw[W3,Wz,U6]
  lia
 have ci:∀d∈[.int c0]++cutD (cs.map D.int) (some 1) (some 4),∃c:Int,d=.int c:=λd hd=>by
  rcases Vd.mp hd with h | h
  ·exact⟨c0,Vj.mp h⟩
  ·unfold cutD at h;obtain⟨c,_,rfl⟩:=Vy.mp (WL (Xp h));exact⟨c,rfl⟩
 have ad:=vp (a:=[.int c0]) (b:=cutD (cs.map D.int) (some 1) (some 4)) (by simp;lia)
 have a1:(xM (.int 1):DM (Option Int))=pure (some 1):=rfl;have a3:(xM (.int 4):DM (Option Int))=pure (some 4):=rfl;refine aJ λK hK=>?_
 simp[ec',l1,RD];rw[a1,au,a3,au,ad];simp only[au,uG,fF,dj,List.map_cons,List.map_nil];clear ad cl;generalize [.int c0]++cutD (cs.map D.int) (some 1) (some 4)=cl at ci;refine Rn.bind (cV (S6 cs) cl 0 _ _ ⟨_,_,_,_,_,_,_,_,_,_,_,rfl⟩ (λj d δ M hj hI=>?_)) (λr M hI=>?_)
 rotate_left
 ·obtain⟨δ',rfl,_⟩:=hI;rw[hK];exact Rn.pure rfl
 clear hK K;obtain⟨c,rfl⟩:=ci d (Vo hj);obtain⟨x1,x2,x3,x4,x5,x6,x7,x8,x9,x10,x11,rfl⟩:=hI;generalize 0+j+1=nx;rw[mD,au];refine aJ λK hK=>?_
 simp only[eU,bU,aM];refine Rn.bind (Mm c M) λd M0 ⟨e,hp⟩=>?_
 subst e;revert hp;generalize M.length=p;intro hp
 try simp only[eU,au]
 rw[hK];clear hK K;simp only[List.getElem?_cons_zero,List.getElem?_cons_succ,Option.join_some,dj,au,aM,show qd [.int 3]=some (.fix ((List.range 3).map nD)) from iU (n:=3) (by decide),fF]
 refine (cV (Tc cs p) _ 0 _ _ ⟨⟨_,_,_,_,_,_,_,_,_,_,rfl⟩,hp⟩ (λs d δ M2 hj2 hI=>?_)).mono (λr M2 hI=>?_)
 rotate_left
 ·obtain⟨δ',rfl,⟨_,_,_,_,_,_,_,_,_,_,rfl⟩,_⟩:=hI;exact⟨_,rfl,_,_,_,_,_,_,_,_,_,_,_,rfl⟩
 obtain⟨⟨y1,y3,y4,y5,y6,y7,y8,y9,y10,y11,rfl⟩,hp2⟩:=hI;generalize 0+s+1=nx2;rw[mD,au];refine aJ λK hK=>?_
 simp only[eU,bU,aM];refine Rn.bind (Mx (tp:=5) hp2 (by decide) (by decide)) λd M3 ⟨R,W,e,wk,h6,hW,hp3,_⟩=>?_
 subst e
 try simp only[eU,au]
 rw[hK];clear hK K;refine aJ λK hK=>?_
 simp only[eU,bU,aM,Ib wk];rw[hK];clear hK K;have n1:=wk.n1;refine aJ λK hK=>?_
 simp only[eU,bU,aM];refine Rn.bind (Ce wk h6 (by lia) M3) λd M4 ⟨⟨L,hL,e⟩,k4⟩=>?_
 subst e;have ls:(rd (λM=>(qP [nM L] M).map D.lst):DM D)=pure (.lst (L.map nT)):=bK λM=>rfl
 simp only[ls,au];refine Rn.bind (Ce wk h6 (by lia) M4) λd M5 ⟨⟨L',hL',e⟩,k5⟩=>?_
 subst e;have hp5:=(hp3.keep k4).keep k5;obtain⟨sw,sl,sb,es⟩:=QF hL' h6;have t1:lF [.int 1]=pure (nT [1]):=gq (by simp)
 have t0:lF [.int 0]=pure (nT [0]):=gq (by simp)
 have t2:lF [.int 2]=pure (nT [2]):=gq (by simp)
 have ml:eO [nT sw,nT (List.replicate R.length 1),nT (List.replicate R.length 0)]=pure (.lst [nT sw,nT (List.replicate R.length 1),nT (List.replicate R.length 0)]):=cJ (by simp)
 simp only[es,au,t1,t0,dI,zr (c:=1) (k:=R.length) (by lia),zr (c:=0) (k:=R.length) (by lia),ml]
 have hLl:=hL.len;refine Im (by simp;lia) ?_
 have L1:1<=L.length:=Xx.mpr hL.ne;have w0:=hL.ws (gr L 0) (gr_mem (by lia))
 have alS:∀d∈L.map nT++[nT sw,nT (List.replicate R.length 1),nT (List.replicate R.length 0)],Nl R.length d:=λd hd=>by
  rcases Vd.mp hd with hd | hd
  ·obtain⟨l,hl,rfl⟩:=Vy.mp hd;have:=hL.ws l hl;exact⟨l,rfl,this.len,λx hx=>Dr (this.bd x hx) (by decide)⟩
  ·simp only[List.mem_cons,List.not_mem_nil,or_false]at hd;rcases hd with rfl | rfl | rfl
   ·exact⟨sw,rfl,sl,λx hx=>Dr (sb x hx) (by decide)⟩
   ·exact⟨_,rfl,Vw,λx hx=>by rw[Xr hx];exact rn (by decide)⟩
   ·exact⟨_,rfl,Vw,λx hx=>by rw[Xr hx];exact rn (by decide)⟩
 have s0:(L.map nT++[nT sw,nT (List.replicate R.length 1),nT (List.replicate R.length 0)])[0]?=some (nT (gr L 0)):=by rw[Vb (by simp;lia),Vl,U3 (by lia),lC (by lia)];rfl
 have lS:(L.map nT++[nT sw,nT (List.replicate R.length 1),nT (List.replicate R.length 0)]).length<=8:=by simp;lia
 have hp6:cC p (M5++[.lst (L.map nT++[nT sw,nT (List.replicate R.length 1),nT (List.replicate R.length 0)])]):=hp5.keep λj o h=>by rw[Vb (UW.mp h).1];exact h
 have at6:(M5++[.lst (L.map nT++[nT sw,nT (List.replicate R.length 1),nT (List.replicate R.length 0)])])[M5.length]?=some (.lst (L.map nT++[nT sw,nT (List.replicate R.length 1),nT (List.replicate R.length 0)])):=by simp
 have pq:p≠M5.length:=Vi hp5.lt;rw[hK];clear hK K;revert alS s0 lS hp6 at6 pq;generalize L.map nT++[nT sw,nT (List.replicate R.length 1),nT (List.replicate R.length 0)]=S1;generalize M5++[DO.lst S1]=M6;generalize M5.length=q;generalize gr L 0=a0 at w0;intro alS s0 lS hp6 at6 pq;have a0l:=w0.len;refine aJ λK hK=>?_
 have sb1:(rd (Ek (nD R.length) (.int 1)):DM D)=pure (nD (R.length-1)):=Qt (b:=1) n1;have ad2:(rd (bY (nT [2]) (nT (List.replicate (R.length-1) 0))):DM D)=pure (nT (2::List.replicate (R.length-1) 0)):=by
  have:=fL (x:=[nD 2]) (y:=(List.replicate (R.length-1) 0).map nD) (by simp;lia)
  exact this
 simp only[eU,bU,aM,t2,t0,dI,sb1,zr (c:=0) (k:=R.length-1) (by lia),ad2]
 refine Rn.bindRd S1 (by simp only[aR,at6]) ?_
 refine Rn.run (uP at6 (by lia)) ?_
 have alS2:∀d∈S1++[nT (2::List.replicate (R.length-1) 0)],Nl R.length d:=λd hd=>by
  rcases Vd.mp hd with hd | hd
  ·exact alS d hd
  ·rw[Vj.mp hd];refine⟨_,rfl,by simp;lia,λx hx=>?_⟩
   rcases Vf.mp hx with rfl | hx
   ·exact rn (by decide)
   ·rw[Xr hx];exact rn (by decide)
 have s02:(S1++[nT (2::List.replicate (R.length-1) 0)])[0]?=some (nT a0):=by rw[Vb (UW.mp s0).1];exact s0
 have lS2:(S1++[nT (2::List.replicate (R.length-1) 0)]).length<=9:=by simp;lia
 have ql:=(UW.mp at6).1;have hp7:cC p (M6.set q (.lst (S1++[nT (2::List.replicate (R.length-1) 0)]))):=by obtain⟨x,y,z,hz,e⟩:=hp6;exact⟨x,y,z,hz,by rw[Wf (Ne.symm pq)];exact e⟩
 have at7:(M6.set q (.lst (S1++[nT (2::List.replicate (R.length-1) 0)])))[q]?=some (.lst (S1++[nT (2::List.replicate (R.length-1) 0)])):=V1 ql
 try simp only[au]
 rw[hK];clear hK K;revert alS2 s02 lS2 hp7 at7;generalize S1++[nT (2::List.replicate (R.length-1) 0)]=S2;generalize M6.set q (.lst S2)=M7;intro alS2 s02 lS2 hp7 at7;clear alS s0 lS hp6 at6;refine aJ λK hK=>?_
 simp only[eU,bU,aM];refine Rn.bindRd _ (pR (i:=0) at7 s02) ?_;have as0:jo (nT a0)=some (.fix (a0.map nD)):=rfl;have ce0:aO 1 [] [some (D.scr cs),y1,some (.ref p),some d,some (nM R),some (aK R W),some (.ref q),y7,y8,y9,y10,y11]=[none]:=rfl;simp only[as0,ce0,dj,au,lA];rw[cI (as:=a0) nD (λw=>nD (7*w)) (by lia) (λw v=>?_)]
 rotate_left
 ·simp only[List.getElem?_cons_zero,Option.join_some,dj,au];exact Qq (a:=7) (b:=w) (by decide)
 have e7:D.tup (a0.map λw=>nD (7*w))=nT (a0.map (7 * ·)):=by simp[nT,Function.comp_def]
 simp only[au,p6,Hr,e7];have asR:jo (nM R)=some (.fix (R.map nT)):=rfl;have ceR:aO 1 [2] [some (D.scr cs),y1,some (.ref p),some d,some (nM R),some (aK R W),some (.ref q),y7,y8,y9,y10,y11]=[none,some (.ref p)]:=rfl;simp only[asR,ceR,dj,au,lA];refine Rn.bind (xF (lE (Ua p q S2) _ 0 _ _ _ ⟨⟨_,rfl⟩,⟨[],rfl,by simp,rfl⟩,at7,hp7⟩ (λi d δ l M8 hi hI=>?_))) λpr M8 hI=>?_
 ·obtain⟨⟨z,rfl⟩,⟨ps,h1,h2,rfl⟩,at8,hp8⟩:=hI;have hi':i<R.length:=by have:=(UW.mp hi).1;simpa using this
  rw[V2]at h1 ⊢
  rw[mD,au,au,U5 rfl];unfold bV;simp only[bU,List.set_cons_zero,aM];refine Rn.bind (dU (m:=4) hp8 (by decide) (by decide)) λd M9 ⟨t,ht,e,hp9,sb9⟩=>?_
  subst e;have lt:(ps.map nD).length<sizeLine:=by rw[U6];show _<2^24;lia
  rw[U5 lt];refine Rn.pure ⟨⟨_,rfl⟩,⟨ps++[t],by simp;lia,λx hx=>?_,by simp⟩,sb9.at (Ne.symm pq) at8,hp9⟩
  rcases Vd.mp hx with hx | hx
  ·exact h2 x hx
  ·rw[Vj.mp hx];exact ht
 obtain⟨_,⟨ps,h1,h2,el⟩,at8,hp8⟩:=hI;rw[U6,V2]at h1;have ml3:eO [nT (a0.map (7 * ·)),nT ps]=pure (.lst [nT (a0.map (7 * ·)),nT ps]):=cJ (by simp)
 have e8:D.tup pr.2=nT ps:=by rw[el];rfl
 simp only[e8,ml3,au];have lsG:∀m:List D,m.length<=1000->u9 m=some (.lst m):=λm hm=>by unfold u9;rw[U5 (show dD m=true from Vh (show m.length<=2^24 by lia))]
 refine Rn.bindRd (.lst (S2++[nT (a0.map (7 * ·)),nT ps])) (by
  show (match aR (.ref q) M8,aR (.lst _) M8 with | some l,some m=>u9 (l++m) | _,_=>none)=_
  simp only[aR,at8];exact lsG _ (by simp;lia)) ?_
 have alS3:∀ d∈S2++[nT (a0.map (7 * ·)),nT ps],Nl R.length d:=λd hd=>by
  rcases Vd.mp hd with hd | hd
  ·exact alS2 d hd
  ·simp only[List.mem_cons,List.not_mem_nil,or_false]at hd;rcases hd with rfl | rfl
   ·refine⟨_,rfl,by simp[a0l],λx hx=>?_⟩
    obtain⟨w,hw,rfl⟩:=Vy.mp hx;have:=w0.bd w hw;have h3:(2:Nat)^404=16*2^400:=by rw[show (404:Nat)=4+400 from rfl,Nat.pow_add]
    show 7*w<_
    lia
   ·exact⟨ps,rfl,h1,λx hx=>rn (by have:=h2 x hx;lia)⟩
 have s03:(S2++[nT (a0.map (7 * ·)),nT ps])[0]?=some (nT a0):=by rw[Vb (UW.mp s02).1];exact s02
 have lS3:(S2++[nT (a0.map (7 * ·)),nT ps]).length<=11:=by simp;lia
 rw[hK];clear hK K;revert alS3 s03 lS3;generalize S2++[nT (a0.map (7 * ·)),nT ps]=S;intro alS lsS lS;clear alS2 s02 lS2 at7 at8 hp7;have a0b:∀x∈a0,x<2^404:=λx hx=>Dr (w0.bd x hx) (by decide)
 refine aJ λK hK=>?_
 have m0:lF []=pure (.tup []):=gq (by simp)
 have ix0:(rd (cZ (.lst S) (.int 0)):DM D)=pure (nT a0):=qX (i:=0) lsS;have ad0:(rd (bY (nT a0) (nT [0])):DM D)=pure (nT (a0++[0])):=by
  have:=fL (x:=a0.map nD) (y:=[nD 0]) (by simp;lia)
  rw[show a0.map nD++[nD 0]=(a0++[0]).map nD by simp]at this;exact this
 have ls0:(rd (λM=>(qP [nT a0] M).map D.lst):DM D)=pure (.lst (a0.map nD)):=bK λM=>rfl
 have am:(xM (.int (-1)):DM (Option Int))=pure (some (-1)):=rfl;obtain⟨ac,eac,lac,bac⟩:∃ac:List Nat,(rd (nY none (some (-1)) (nT a0)):DM D)=pure (nT ac)/\ac.length<=5/\∀x∈ac,x<2^404:=by
  refine⟨(a0.drop (HT.sIx (a0.map nD).length 0 none)).take (HT.sIx (a0.map nD).length (a0.map nD).length (some (-1))-HT.sIx (a0.map nD).length 0 none),bK λM=>?_,?_,λx hx=>a0b x (WL (Xp hx))⟩
  ·show some (D.tup (cutD (a0.map nD) none (some (-1))))=_;unfold cutD nT;rw[List.map_take,List.map_drop]
  ·rw[W3,Wz];lia
 simp only[eU,bU,aM,m0,t0,ix0,ad0,ls0];refine Rn.bind (uy hp8) λo1 M9 ⟨⟨go,wo⟩,hp9,_⟩=>?_
 have ml7:eO [.non,.tup [],nT (a0++[0]),.lst (a0.map nD),nM R,o1,nT ac]=pure (.lst [.non,.tup [],nT (a0++[0]),.lst (a0.map nD),nM R,o1,nT ac]):=cJ (by simp)
 have ad7:=vp (a:=S) (b:=[.non,.tup [],nT (a0++[0]),.lst (a0.map nD),nM R,o1,nT ac]) (by simp;lia)
 simp only[eU,ix0,am,eac,au,ml7,ad7];have tgN:∀d,Nl R.length d->Tg d:=λd ⟨ps,e,hl,hx⟩=>by rw[e];exact vC hx (by lia)
 have alT:∀ d∈S++[.non,.tup [],nT (a0++[0]),.lst (a0.map nD),nM R,o1,nT ac],Tg d:=λd hd=>by
  rcases Vd.mp hd with hd | hd
  ·exact tgN d (alS d hd)
  ·simp only[List.mem_cons,List.not_mem_nil,or_false]at hd;rcases hd with rfl | rfl | rfl | rfl | rfl | rfl | rfl
   ·exact⟨.non,by simp[wt]⟩
   ·exact⟨.tup λv h=>(by cases h),by simp[wt,bB]⟩
   ·refine vC (λx hx=>?_) (by simp;lia)
    rcases Vd.mp hx with hx | hx
    ·exact a0b x hx
    ·rw[Vj.mp hx];exact rn (by decide)
   ·refine⟨.lst λx hx=>?_,by simp only[wt,kh];lia⟩
    obtain⟨m,hm,rfl⟩:=Vy.mp hx;exact .int (by show m<=_;exact Vp (Xj (a0b m hm)) (VM (by decide) (by decide)))
   ·exact Ni wk h6 hW
   ·exact⟨go.mono (Vp (show 10^11<=2^64 by decide) (VM (by decide) (by decide))) (by decide),by lia⟩
   ·exact vC bac (by lia)
 have lT:(S++[.non,.tup [],nT (a0++[0]),.lst (a0.map nD),nM R,o1,nT ac]).length<=100:=by simp;lia
 rw[hK];clear hK K ad7 ml7;revert alT lT;generalize S++[.non,.tup [],nT (a0++[0]),.lst (a0.map nD),nM R,o1,nT ac]=T;intro alT lT;refine aJ λK hK=>?_
 have al':∀l:List D,(rd (J5 (.lst l)):DM Itn)=pure (.fix l):=λv=>rfl
 simp only[bU,aM,al',fF];refine Rn.bind (cV (S8 cs p R W S) _ 0 _ _ ⟨⟨_,_,_,_,_,_,_,rfl,by lia,alT⟩,hp9⟩ (λs d δ M10 hj3 hI=>?_)) (λr M10 hI=>?_)
 ·clear hK K;obtain⟨⟨z1,z3,z8,z9,z10,z11,T,rfl,lT,alT⟩,hp10⟩:=hI;have sl:=(UW.mp hj3).1;obtain⟨ps,rfl,hl,hx⟩:=alS d (Vo hj3);rw[V2]at lT ⊢
  rw[mD,au];refine aJ λK hK=>?_
  simp only[eU,bU,aM];have wps:wt (nT ps)=1923*ps.length+3:=by unfold nT;simp only[wt,kh]
  refine Rn.bind (Fo 5 (by decide) (Gd.nats (B:=2^404) λx h=>Xj (hx x h)) hp10 (by lia)) λb1 M11 ⟨⟨g1,w1⟩,hp11,_⟩=>?_
  rw[hK];clear hK K;simp only[eU,bU,aM];refine Rn.bind (Fo 5 (by decide) g1 hp11 (by lia)) λb2 M12 ⟨⟨g2,w2⟩,hp12,_⟩=>?_
  have ml:eO [b1,b2]=pure (.lst [b1,b2]):=cJ (by simp)
  have adT:=vp (a:=T) (b:=[b1,b2]) (by simp;lia)
  simp only[eU,ml,au,adT];refine Rn.pure ⟨_,rfl,⟨_,_,_,_,_,_,_,rfl,by simp;lia,λd hd=>?_⟩,hp12⟩
  have c12:(10:Nat)^12+10^12<=2^404:=Vp (show 10^12+10^12<=2^64 by decide) (VM (by decide) (by decide))
  rcases Vd.mp hd with hd | hd
  ·exact alT d hd
  ·simp only[List.mem_cons,List.not_mem_nil,or_false]at hd;rcases hd with rfl | rfl
   ·exact⟨g1.mono (Nz (U0 _) _ (by lia)) (by decide),by lia⟩
   ·exact⟨g2.mono (by rw[Nat.add_assoc];exact Nz (U0 _) _ c12) (by decide),by lia⟩
 obtain⟨δ',rfl,⟨z1,z3,z8,z9,z10,z11,T,rfl,lT,alT⟩,hp6⟩:=hI;rw[hK];clear hK K;simp only[bU,aM,al',fF];refine (cV (S9 cs p R W S T) _ 0 _ _ ⟨⟨_,_,_,_,_,_,rfl⟩,hp6⟩ (λs d δ M7 hj3 hI=>?_)).mono (λr M7 hI=>?_)
 rotate_left
 ·obtain⟨δ',rfl,⟨_,_,_,_,_,_,rfl⟩,hp7⟩:=hI;exact⟨_,rfl,⟨_,_,_,_,_,_,_,_,_,_,rfl⟩,hp7⟩
 obtain⟨⟨z1,z3,z8,z9,z10,z11,rfl⟩,hp7⟩:=hI;have tg:=alT d (Vo hj3);obtain⟨b,e1,e2⟩:=Oq wk h6 (by lia) tg.1 (by have:=tg.2;lia)
 obtain⟨sv,esv⟩:=tg.1.sh (Nat.pow_lt_pow_right (by decide) (by decide)) (by decide) (by have:=tg.2;lia)
 generalize 0+s+1=nx3;rw[mD,au];refine aJ λK hK=>?_
 simp[esv,e1,e2];rw[hK];clear hK K;have mb:eO [.bl b,.bl b]=pure (.lst [.bl b,.bl b]):=cJ (by simp)
 have gb:Gd 0 1 (.lst [.bl b,.bl b]):=.lst λx hx=>by simp at hx;rw[hx];exact .bl b
 obtain⟨sb,esb⟩:=gb.sh (Nat.pow_pos (by decide)) (by decide) (by simp[wt,bB])
 refine aJ λK hK=>?_
 simp[esv,e1,e2,mb,esb];rw[hK];clear hK K;simp[esv];exact Rn.pure ⟨_,rfl,⟨_,_,_,_,_,_,rfl⟩,hp7⟩
def GR(K:PySem.W.Frag):Bool:=K.all λp=>!(p.2.cls==.type "list")
def Pu{K:PySem.W.Frag}(h:GR K=true){a:Addr}{o:Obj}(e:K.lookup a=some o):o.cls≠.type "list":=by
 have:∀ (l:List (Addr×Obj)),(l.all λp=>!(p.2.cls == .type "list"))=true->l.lookup a=some o->o.cls≠.type "list":=by
  intro l;induction l with
  |nil=>intro _ e;cases e
  | cons p l ih=>
    intro h e;rw[List.all_cons,WD]at h;rw[W4]at e;split at e
    ·cases e;intro z;rw[z]at h;exact absurd h.1 (by decide)
    ·exact ih h.2 e
 exact this K h e
def rd_of{K:PySem.W.Frag}{H:Hp}{a:Addr}{xs:List V}(h:GR K=true)(s:SqL K H a xs):Rd H a (.lst xs):=by
 rcases s with s | ⟨o,its,n,e,c,_⟩
 ·exact s
 ·exact absurd c (Pu h e)
structure Cls(K:PySem.W.Frag)(mg:Str->Option Value)(CC_Walk:Addr)(tg_MOST_PLACES tg_MOST_STEPS:Tok):Prop where
 m_MOST_PLACES:mg "MOST_PLACES"=some (.int 25 tg_MOST_PLACES)
 m_MOST_STEPS:mg "MOST_STEPS"=some (.int 100 tg_MOST_STEPS)
 o_Walk:OCls K mg "Walk" CC_Walk ["rows", "whole"]
 k_Walk:PySem.W.makesIn K CC_Walk=true/\PySem.W.keepIn K (.ref CC_Walk)=true
 nl:GR K=true
def NK{K:PySem.W.Frag}{h:Heap}{mg:Str->Option Value}(X:K.In h)(G:h.Ns mainGlobals mg){CC_Walk:Addr}{tg_MOST_PLACES tg_MOST_STEPS:Tok}
  (g_MOST_PLACES:PySem.W.nsIn K mainGlobals "MOST_PLACES"=some (some (.int 25 tg_MOST_PLACES)))
  (g_MOST_STEPS:PySem.W.nsIn K mainGlobals "MOST_STEPS"=some (some (.int 100 tg_MOST_STEPS)))
  (cm_Walk:PySem.W.nsIn K mainGlobals "Walk"=some (some (.ref CC_Walk)))
  (pg_Walk:PySem.W.plainGet K CC_Walk Str.empty=true)
  (hd_Walk:PySem.W.hasDictIn K CC_Walk=true)
  (po_Walk:PySem.W.plainOver K CC_Walk=true)
  (sa_Walk:PySem.W.findIn K (.ref CC_Walk) "__setattr__"=some (some (.builtin "object.__setattr__")))
  (mk_Walk:PySem.W.makesIn K CC_Walk=true)
  (kc_Walk:PySem.W.keepIn K (.ref CC_Walk)=true)
  (nf_Walk_rows:PySem.W.findIn K (.ref CC_Walk) "rows"=some none)
  (nf_Walk_whole:PySem.W.findIn K (.ref CC_Walk) "whole"=some none)
  (nl:GR K=true)
  : Cls K mg CC_Walk tg_MOST_PLACES tg_MOST_STEPS:=by
 have nof_Walk:∀f∈(["rows", "whole"]:List Str),NoAttr K CC_Walk f:=by
  intro f hf;simp only[List.mem_cons,List.not_mem_nil,or_false]at hf;rcases hf with rfl | rfl
  ·exact nf_Walk_rows
  ·exact nf_Walk_whole
 refine⟨PySem.W.mg_of X G g_MOST_PLACES,PySem.W.mg_of X G g_MOST_STEPS,⟨PySem.W.mg_of X G cm_Walk,⟨pg_Walk,hd_Walk,po_Walk,sa_Walk⟩,nof_Walk⟩,⟨mk_Walk,kc_Walk⟩,nl⟩
def spLaw(K:PySem.W.Frag):Sp:=λvs H Q z=>∃(a:Addr) (ns:List Int),vs=[.ref a]/\SqL K H a (ns.map V.int)/\ns.length<=63/\∀H',Q (.bl true) H'
def RP{K:PySem.W.Frag}{mg:Str->Option Value}(nl:GR K=true){vs:List V}{H:Hp}{Q:VK}{E:XK}(h:spLaw K vs H Q E):zH mg Ih vs H Q E:=by
 obtain⟨a,ns,rfl,hS,hl,q⟩:=h;have rd:=rd_of nl hS;obtain⟨d,M',e,ed⟩:=Lg ns (by lia)
 refine⟨⟨[],[]⟩,[],[.scr ns],.cons (.scr (λz=>by rcases z with z | z<;>cases z) rd) .nil,⟨rfl,List.nodup_nil,λn a o h=>by simp at h,λa h=>by cases h⟩,_,e,λρ' H' b x j c=>?_⟩
 subst ed;cases c;exact q H'
def Ug{P:Program}{w:World}{K:PySem.W.Frag}{mg:Str->Option Value}{base:Heap}{k:Nat}{x:Str}{N ps:List Str}{st:Stmt}{fb:aj->DM Fl}{f:Addr}{fd:FuncData}(F:Fun K x x st f fd)(S:FnScope N ps (defScope st))
  (hbody:∀(cdv:Value) (A:Around) (outer:List Env) (s:Shared) (H:Hp) (E:XK),Room k (A.deeper (PyProof.Rows.envOfC x (defScope st) s.heap.objs.size f cdv))->
    DSs (iJ P w K mg base N x (defScope st) f cdv A outer s H E) E (defBody st) fb):FnOk P w K mg base (dN P w) (k+1) f fd ps (zH mg (aF ps.length N.length fb)):=by
 refine SQ F S (λvs H Q E h=>?_) λcdv A outer s H vs Q E hr h=>?_
 ·obtain⟨ρ,M,ds,c,j,g⟩:=h;rw[c.len];exact (bj.aF g).1
 obtain⟨ρ,M,ds,c,j,g⟩:=h;exact⟨_,(hbody cdv A outer s H E hr).h,ρ,_,M,ou c,j,(bj.aF g).2⟩
def all_mk{P:Program}{w:World}{K:PySem.W.Frag}{mg:Mg}{fa:Addr}{CC_Walk:Addr}{tg_MOST_PLACES tg_MOST_STEPS:Tok}(hfa:mg "law"=some (.ref fa)){h:Heap}(X:K.In h)(G:h.Ns mainGlobals mg)(t0:TD K "is_whole" oW)(t1:TD K "greatest_divider" dY)(t2:TD K "are_weights" je)(t3:TD K "are_rows" oU)(t4:TD K "is_place" oV)(t5:TD K "is_lot" tK)(t6:TD K "refuse_no_lot" gC)(t7:TD K "least" vq)(t8:TD K "can_be_walked" gB)(t9:TD K "refuse_no_steps" eX)(t10:MethAt K CC_Walk "__len__" "Walk.__len__" bN)(t11:TD K "refuse_no_place" eV)(t12:TD K "stepped" qi)(t13:MethAt K CC_Walk "__init__" "Walk.__init__" gw)(t14:MethAt K CC_Walk "after" "Walk.after" gA)(t15:TD K "next_places" jg)(t16:TD K "fewest_steps" iy)(t17:TD K "led_to" tL)(t18:TD K "shut_sets" mK)(t19:TD K "determinant" jf)(t20:TD K "trees_toward" iz)(t21:TD K "rest_on" qg)(t22:TD K "is_rest" qe)(t23:TD K "rests" vy)(t24:TD K "_law_cell_at" ir)(t25:TD K "_law_next" mH)(t26:TD K "_law_pen_of" jc)(t27:TD K "_law_draw" mF)(t28:TD K "_law_rows" mJ)(t29:TD K "_law_odd" oO)(t30:TD K "_law_bent" iD)(t31:TD K "_law_whole" jZ)(t32:TD K "_law_is_rest" iu)(t33:TD K "_law_sum" oR)(t34:TD K "law" Eb)(g14:MethAtF K CC_Walk "after" "Walk.after" gA ["self", "lot", "steps"] [1])(z0:TB K "all")(z1:TB K "any")(z2:TB K "bool")(z3:TB K "enumerate")(z4:TB K "int")(z5:TB K "isinstance")(z6:TB K "len")(z7:TB K "list")(z8:TB K "max")(z9:TB K "range")(z10:TB K "repr")(z11:TB K "sorted")(z12:TB K "sum")(z13:TB K "tuple")(z14:TB K "zip")(Z:Cls K mg CC_Walk tg_MOST_PLACES tg_MOST_STEPS):
  ∃fd:FuncData,(∀(s:Shared) (v:Value),BindsTo s fd ⟨[v],[]⟩ [("_law_script",v)])/\∀base:Heap,K.In base->base.Ns mainGlobals mg->FnOk P w K mg base (dN P w) 16 fa fd ["_law_script"] (spLaw K):=by
 obtain⟨f,fd,F,m⟩:=(t34 X G).ex;have e:=hfa.symm.trans m;cases e;refine⟨fd,?_,λbase z z=>?_⟩
 ·obtain⟨oc,od,kV,doc,pm,an,cdv,ct,osl,rfl,_⟩:=F.ex;exact λs v=>.of_eq rfl
 have yz0:=VJ X G z0;have yz1:=VJ X G z1;have yz2:=VJ X G z2;have yz3:=VJ X G z3;have yz4:=VJ X G z4;have yz5:=VJ X G z5;have yz6:=VJ X G z6;have yz7:=VJ X G z7;have yz8:=VJ X G z8;have yz9:=VJ X G z9;have yz10:=VJ X G z10;have yz11:=VJ X G z11;have yz12:=VJ X G z12;have yz13:=VJ X G z13;have yz14:=VJ X G z14;have D0:DefD P w K mg base _ _ _ kI:=okd (t0 X G) Af ((uE).2 yz2 yz4 yz5);have D1:DefD P w K mg base _ _ _ vJ:=okn (λN=>cN N) (t1 X G) gH Rb λN=>(dX N).2
 have D2:DefD P w K mg base _ _ _ mO:=okd (t2 X G) vz ((o5 kI).2 D0 yz0 yz5 yz6 yz13);have D3:DefD P w K mg base _ _ _ En:=okd (t3 X G) Ad ((uC mO).2 D2 yz0 yz5 yz6 yz13);have D4:DefD P w K mg base _ _ _ Ep:=okd (t4 X G) Ae ((uD kI).2 D0);have D5:DefD P w K mg base _ _ _ mQ:=okd (t5 X G) Hv ((zq mO).2 D2 Z.m_MOST_PLACES yz1 yz5 yz6 yz13);have D6:DefD P w K mg base _ _ _ vM:=okd (t6 X G) tO ((lJ mQ).2 D5);have D7:DefD P w K mg base _ _ _ Er:=okd (t7 X G) zF ((BX vM vJ).2 D6 D1 yz13);have D8:DefD P w K mg base _ _ _ Eo:=okd (t8 X G) j8 ((lH En).2 D3 Z.m_MOST_PLACES yz0 yz5 yz6 yz12 yz13);have D9:DefD P w K mg base _ _ _ Frs:=okd (t9 X G) qw ((jx kI).2 D0 Z.m_MOST_STEPS);have M10:MethD P w K mg base _ "Walk" _ _ _ _ fO:=PB t10 Z.o_Walk.at_ Z.o_Walk.cls uJ ((nG).2 Z.o_Walk yz6);have D11:DefD P w K mg base _ _ _ Eu:=okd (t11 X G) qu ((jw Ep fO).2 D4 M10 yz6);have D12:DefD P w K mg base _ _ _ Aj:=okd (t12 X G) Ed ((wA).2 yz6 yz9 yz12 yz13 yz14);have M13:MethD P w K mg base _ "Walk" _ _ _ _ Fin:=PB t13 Z.o_Walk.at_ Z.o_Walk.cls tM ((lG Eo).2 D8 Z.o_Walk yz12);have W_Walk:ClsD P w K mg base _ "Walk" tW:=Tp M13 (λz z z z z z us hl=>match us,hl with | [_,_],_=>rfl) (λC hC=>by have q:=hC.symm.trans Z.o_Walk.at_;cases q;exact Z.k_Walk) QX
 have M14:MethD P w K mg base _ "Walk" _ _ _ _ xf:=PB t14 Z.o_Walk.at_ Z.o_Walk.cls jh ((gm vM Frs Aj).2 D6 D9 D12 Z.o_Walk yz6 yz9);have G14:MethF P w K mg base _ "Walk" _ _ _ xf:=Tt g14 Z.o_Walk.at_ Z.o_Walk.cls jh ((gm vM Frs Aj).2 D6 D9 D12 Z.o_Walk yz6 yz9);have D15:DefD P w K mg base _ _ _ vK:=okd (t15 X G) vA ((o6).2 Z.o_Walk yz3 yz13);have D16:DefD P w K mg base _ _ _ xm:=okn (λN=>dZ N) (t16 X G) lL Q9 λN=>(gY N).2
 have D17:DefD P w K mg base _ _ _ J1:=okd (t17 X G) wC ((tE vK xm fO).2 D15 D16 M10 yz6 yz9 yz11 yz13);have D18:DefD P w K mg base _ _ _ Ex:=okd (t18 X G) qx ((mC J1).2 D17 yz0 yz11 yz13);have D19:DefD P w K mg base _ _ _ xj:=okn (λN=>fD N) (t19 X G) nW Q8 λN=>(iZ N).2 yz6 yz9
 have D20:DefD P w K mg base _ _ _ Ey:=okd (t20 X G) lM ((gZ Eu xj fO).2 D11 D19 M10 Z.o_Walk yz6 yz9);have D21:DefD P w K mg base _ _ _ Et:=okd (t21 X G) uL ((pY Ey Er tW fO).2 D20 D7 W_Walk M10 Z.o_Walk yz3 yz6 yz13);have D22:DefD P w K mg base _ _ _ ph:=okd (t22 X G) Ec ((wz mQ fO xf).2 D5 M10 G14 Z.o_Walk yz6 yz13);have D23:DefD P w K mg base _ _ _ xr:=okd (t23 X G) JQ ((vm Ex Et).2 D18 D21 yz13);have D24:DefD P w K mg base _ _ _ xg:=okd (t24 X G) uK ((nH).2 yz6);have D25:DefD P w K mg base _ _ _ Es:=okd (t25 X G) qm ((rP).2 );have D26:DefD P w K mg base _ _ _ xq:=okd (t26 X G) nU ((iY).2 yz4 yz8);have D27:DefD P w K mg base _ _ _ o9:=okd (t27 X G) qj ((mq Es).2 D25);have D28:DefD P w K mg base _ _ _ xu:=okd (t28 X G) qp ((my o9).2 D27 yz4 yz6 yz7 yz9 yz13);have D29:DefD P w K mg base _ _ _ vL:=okd (t29 X G) rQ ((oJ o9).2 D27);have R30:∀n,DefD P w K mg base (3+n) _ _ (vI n):=λn=>by
  induction n with
  |zero=>exact (okd (k:=2) (t30 X G) j0 λz=>Ge)
  |succ n ih=>exact okd (t30 X G) j0 ((mj o9 vL (vI n)).2 (Nat.le_add_right _ _) D27 D29 ih yz4 yz5 yz6 yz7 yz13)
 have D30:DefD P w K mg base _ _ _ (vI 5):=R30 _;have D31:DefD P w K mg base _ _ _ xn:=okd (t31 X G) wJ ((pX).2 yz2 yz4 yz5);have D32:DefD P w K mg base _ _ _ rG:=okd (t32 X G) lK ((nJ xn).2 D31 yz5 yz6 yz9 yz12 yz13);have D33:DefD P w K mg base _ _ _ Ew:=okd (t33 X G) Ac ((uB).2 yz7 yz12 yz13 yz14);exact ((Ug (P:=P) (w:=w) (base:=base) F Hw λcdv A outer s H E hr=>(DK xg xq xu xr Ew o9 vL (vI 5) rG ph tW).2 D24 D26 D28 D23 D33 D27 D29 D30 D32 D22 W_Walk yz6 yz7 yz9 yz10 yz13 hr).imp λvs H Q E h=>RP Z.nl h).mono (by decide)
def walk{l:PySem.W.OpenLaw}{q:Program}{loose:List Str}{XP:(Str->Option Value)->Heap->Prop}{YP:World->Heap->Prop}{d:DefRec}{K:Params->PySem.W.Frag}(hn:l.most=some 63)(hdf:d.params.defaults=[])
  (hY:∀(w:World) (h:Heap),YP w h->(K w.params).In h)
  (F:∀(w:World) (mg:Str->Option Value) (fa:Addr) (h:Heap),(K w.params).In h->h.Ns mainGlobals mg->mg d.name=some (.ref fa)->
    ∃fd:FuncData,(∀(s:Shared) (u:Value),BindsTo s fd ⟨[u],[]⟩ [("_law_script",u)])/\∀base:Heap,(K w.params).In base->base.Ns mainGlobals mg->FnOk l.prog w (K w.params) mg base (dN l.prog w) 16 fa fd ["_law_script"] (spLaw (K w.params))) :
  PySem.W.WalkO q loose XP YP l.row.toRowW d [] (λf vs=>PySem.call f vs):=
 L2.walk_of (n:=63) (k:=16) (x := "_law_script") (CX:=λw=>dN l.prog w) (sp:=λw=>spLaw (K w.params)) hn (by decide) hdf ⟨rfl,by decide,by decide,rfl⟩ hY F (λy y a ns hl y hS=>⟨a,ns,rfl,hS,hl,λy=>rfl⟩) λy y y y y z=>by obtain⟨_,_,_,_,_,_,_,_,_,_,_,_,_,q⟩:=z;exact q.elim
end K
open PySem PySem.W PyProof.Rows
set_option maxRecDepth 100000 in
set_option maxHeartbeats 0 in
theorem PySem.Challenge.cw_fadewalk_k41_rests_looked_at_holds : PySem.Challenge.rw_fadewalk_k41_rests_looked_at.Holds := by
 w_on;refine T.cut ?_
 k_fill
 refine K.walk (l:=PySem.Challenge.rw_fadewalk_k41_rests_looked_at) rfl rfl (λw h Y=>PySem.W.kIn_of Y) ?F
 case F=>
  intro w mg fa h KX G hmg
  refine' K.all_mk hmg KX G ?t0 ?t1 ?t2 ?t3 ?t4 ?t5 ?t6 ?t7 ?t8 ?t9 ?t10 ?t11 ?t12 ?t13 ?t14 ?t15 ?t16 ?t17 ?t18 ?t19 ?t20 ?t21 ?t22 ?t23 ?t24 ?t25 ?t26 ?t27 ?t28 ?t29 ?t30 ?t31 ?t32 ?t33 ?t34 ?g14 ?z0 ?z1 ?z2 ?z3 ?z4 ?z5 ?z6 ?z7 ?z8 ?z9 ?z10 ?z11 ?z12 ?z13 ?z14 (K.NK KX G ?g_MOST_PLACES ?g_MOST_STEPS ?cm_Walk ?pg_Walk ?hd_Walk ?po_Walk ?sa_Walk ?mk_Walk ?kc_Walk ?nf_Walk_rows ?nf_Walk_whole ?nl)
  case cm_Walk=>k_is
  case g_MOST_PLACES | g_MOST_STEPS | pg_Walk | hd_Walk | po_Walk | sa_Walk | mk_Walk | kc_Walk | nf_Walk_rows | nf_Walk_whole | nl=>first | k_is | k_exc | kernel_rfl
  case t10 | t13 | t14=>apply L2.GC<;>k_is
  case t0 | t1 | t2 | t3 | t4 | t5 | t6 | t7 | t8 | t9 | t11 | t12 | t15 | t16 | t17 | t18 | t19 | t20 | t21 | t22 | t23 | t24 | t25 | t26 | t27 | t28 | t29 | t30 | t31 | t32 | t33 | t34=>apply L3.Sq<;>k_is
  case g14=>
   refine' L3.Rf 2 rfl ?qa ?qr ?ql ?qc ?qk ?qb
   case qa | qr | ql | qc | qk=>k_is
   case qb=>exact λS us hl=>match us,hl with | [_,_],_=>rfl
  case z0 | z1 | z2 | z3 | z4 | z5 | z6 | z7 | z8 | z9 | z10 | z11 | z12 | z13 | z14=>delta L3.TB;k_is
