import PyProof.Rows.All
import Wide.All
import OpenK.AllK
import Wide.FinOn
import Lean
import PyProof.EqAt
import PyProof.EqKinds
import PyProof.TupleCall
import PyProof.ReprRoads
import PyProof.P3Eq
import PyProof.NeData
import PyProof.ReprLen
import PyProof.Rows.RegStrFacts
import OpenK.KOwn
import PyProof.StationsW
import PyProof.Rows.Catch
import PyProof.Rows.Own
import PyProof.RulesAs
import PyProof.ExcBaseAll.ValueError
import PyProof.NsDelKeeps
import PyProof.ExcArgsOwn
import PyProof.ExcAttrAll.ValueError
import PyProof.CompFree
import PyProof.CompMap
import PyProof.ConsumeWalk
import PyProof.SumWalk
import PyProof.Rows.TupIter
import PyProof.Rows.SumGenD
import PyProof.FString
import PyProof.Rows.FStr
import PyProof.Rows.RuleIs
import PyProof.FactsAll.tuple_iterator_1
import PyProof.FactsAll.tuple_2
import PyProof.FactsAll.list_3
import PyProof.Cells
import PyProof.ZipIter
import PyProof.EnumMake
import PyProof.EnumFor
import PyProof.ListRange
import PyProof.TupleOfSeq
import PyProof.Rows.SetFrom
import PyProof.Rows.SortShell
import PyProof.CollectWalk
import PyProof.FactsAll.set_1
import PyProof.Rows.SortWalk
import PyProof.FactsAll.set_2
import KE.KDictSum
import KE.KRevIter
import PyProof.FactsAll.range_2
import KE.KSortTup
import PyProof.TupleKey
import PyProof.IsRules
import KE.KTupSum
import PyProof.WalkInts
import PyProof.SeqI3
import PyProof.Conv_int_bool
import PyProof.ListOps
import PySem.Challenge.RW_fadewalk_k31_turns_and_sides
set_option linter.all false
set_option compiler.extract_closed false
abbrev A1:=List (PySem.Addr×List Int)
abbrev A3:=PySem.Value->PySem.Shared->Prop
abbrev A4:=PySem.Str->Option PySem.Value
abbrev A5:=Array (Int×PySem.Value)
abbrev A6:=List (List Nat)
abbrev A7:=List (List Int)
abbrev A8:=List (PySem.Addr×PySem.Obj)
abbrev A9:=List (PySem.Str×PySem.Addr)
abbrev B0:=PySem.W.Frag
abbrev B1:=Option PySem.Value
abbrev B2:=PySem.Shared->Prop
abbrev B3:=Option PySem.Addr
abbrev B4:=Array PySem.Value
abbrev B5:=List PySem.Value
abbrev B6:=PySem.Heap->Prop
abbrev B7:=List PySem.Addr
abbrev B8:=List PySem.Expr
abbrev B9:=Array Nat
abbrev C0:=List Nat
abbrev C1:=List Int
abbrev C3:=List PySem.Str
abbrev C4:=List PySem.Env
abbrev C5:=PySem.Program
section
open PySem PySem.Spec PySem.W PySem.Calls PyProof.Rows
abbrev _root_.PySem.Shared.z(s:Shared):=s.heap.objs.size
abbrev _root_.wq{α:Type}(p:Program)(w:World)(A:Around)(m:Sem α):=wpAny (model p w) A m
def Wg:=@wpAny_bind
def Wh:=@wpAny_pure
def Wi:=@Heap.get?_push_of_some
def Wj:=@List.getElem?_eq_some_iff
def Wk:=@Option.map_eq_some_iff
def Wl:=@List.getElem?_eq_getElem
def Wm:=@List.length_map
def Wn:=@Nat.le_refl
def Wo:=@Heap.lt_size
def Wq:=@if_pos
def Wr:=@List.mem_range
def Ws:=@Option.some.inj
def Wt:=@Nat.lt_of_lt_of_le
def Wu:=@Heap.get?_push_size
def Wv:=@Option.bind_eq_some_iff
def Ww:=@if_neg
def Wx:=@List.mem_singleton
def Wz:=@List.mem_cons
def WD:=@List.getElem?_append_left
def WF:=@List.mem_append
def WL:=@Nat.ne_of_lt
def WM:=@List.getElem?_map
def WN:=@List.mem_filter
def WP:=@List.mem_cons_self
def WQ:=@List.mem_map
def WR:=@List.mem_of_getElem?
def WT:=@Bool.false_ne_true
def WW:=@Bool.eq_iff_iff
def WX:=@List.size_toArray
def WY:=@decide_eq_true
def W0:=@Nat.le_trans
def W2:=@List.map_cons
def W3:=@List.length_append
def W4:=@List.map_map
def W5:=@wpAny_mono
def W6:=@List.mem_cons_of_mem
def W7:=@List.length_range
def W8:=@List.getElem?_set_self
def W9:=@PySem.W.mg_none_of
def Xa:=@List.getD_eq_getElem?_getD
def Xb:=@wpAny_newObj_type
def Xc:=@List.mem_append_right
def Xd:=@Nat.zero_add
def Xe:=@of_decide_eq_true
def Xf:=@PyProof.Rows.callWith_type1
def Xg:=@List.length_filter_le
def Xh:=@List.getElem?_set_ne
def Xi:=@List.getElem?_eq_none_iff
def Xj:=@PassesOwn.leaving
def Xk:=@decide_eq_true_eq
def Xl:=@wpAny_call_entry
def Xm:=@List.mem_append_left
def Xn:=@List.getElem?_append_right
def Xo:=@decide_eq_false
def Xp:=@wpAny_callSpecial?_slot
def Xq:=@List.pairwise_cons
def Xr:=@Heap.size_push
def Xu:=@Array.getD_eq_getD_getElem?
def Xv:=@List.mem_iff_getElem
def Xw:=@wpAny_holding
def Xx:=@List.getElem?_eq_none
def Xy:=@Array.length_toList
def Xz:=@wpAny_setState_of
def XC:=@Array.getElem?_eq_getElem
def XD:=@List.take_of_length_le
def XF:=@PySem.W.kia_one
def XH:=@List.length_cons
def XJ:=@List.getElem?_range
def XM:=@PySem.mem_of_lookup
def XN:=@List.length_replicate
def XQ:=@PySem.F.plainAttrs_list
def XR:=@List.map_append
def XS:=@Around.under_plainId
def XX:=@List.getElem_mem
def X3:=@Nat.zero_le
def X4:=@Heap.SameBut.update
def X5:=@codeAny_builtin
def X6:=@List.getElem?_replicate
def X7:=@Nat.not_lt
def X8:=@wpAny_setField
def Yb:=@wpAny_field
def Yc:=@Int.toNat_natCast
def Yd:=@beq_eq_false_iff_ne
def Ye:=@List.length_set
def Yg:=@List.pairwise_iff_getElem
def Yh:=@List.all_eq_true
def Yi:=@Nat.lt_succ_self
def Yj:=@Nat.mod_lt
def Yk:=@List.filter_cons_of_pos
def Ym:=@List.append_assoc
def Yn:=@wpAny_truthy_bool
def Yo:=@Nat.lt_succ_of_lt
def Yp:=@List.foldl_cons
def Yq:=@List.map_congr_left
def Yr:=@List.filterMap_cons
def Ys:=@List.replicate_succ
def Yt:=@wpAny_setEntries_of
def Yu:=@codeAny_mono
def Yv:=@List.pairwise_lt_range
def Yw:=@Heap.get?_update_other
def Yx:=@sizeLine_eq
def Yy:=@Nat.lt_irrefl
def Yz:=@List.length_take
def YB:=@wpAny_askSetting
def YC:=@Bool.and_eq_true
def YD:=@List.contains_iff_mem
def YF:=@wpAny_Call_Name_kw
def YG:=@Option.isSome_iff_exists
def YH:=@PySem.F.slot_list_append
def YJ:=@Nat.le_of_lt
def YK:=@List.append_nil
def YL:=@List.of_mem_zip
def YM:=@PySem.F.type_list_append
def YQ:=@wpAny_attempt
def YS:=@List.lookup_cons
def YT:=@Option.bind_some
def YW:=@PyProof.Rows.F.plain_set_update_loop
def YX:=@assignInOrder_cons
def YZ:=@List.zip_cons_cons
def Y0:=@Array.getElem?_toList
def Y4:=@wpAny_passesOwn
def Y5:=@List.flatten_cons
def Y6:=@List.nodup_append
def Y7:=@F.plain_list_iadd
def Y8:=@wpAny_rule
def Y9:=@Calls.call_function_entry
def Za:=@Nat.pow_le_pow_right
def Zb:=@List.any_eq_true
def Zc:=@List.mem_map_of_mem
def Zd:=@List.filter_cons_of_neg
def Ze:=@PySem.W.mg_of
def Zf:=@List.any_cons
def Zg:=@wpAny_standAt
def Zh:=@PyProof.Rows.callWith_builtin1
def Zi:=@beq_iff_eq
def Zj:=@Calls.spliced_cons
def Zk:=@List.map_inj_right
def Zm:=@Nat.lt_of_le_of_lt
def Zn:=@PySem.W.cellsFrom_some
def Zo:=@List.pairwise_map
def Zq:=@wpAny_loadPart_at
def Zr:=@List.filter_congr
def Zt:=@Calls.spliced_nil
def Zu:=@List.foldl_append
def Zv:=@Heap.get?_update_self
def Zw:=@List.take_succ
def Zx:=@List.map_nil
def Zy:=@ReprK.of_reads
def Zz:=@List.mem_iff_getElem?
def ZC:=@F.slot_enumerate_next
def ZD:=@Nat.lt_trans
def ZF:=@wpAny_fieldsOf
def ZG:=@PySem.W.looks_findIn
def ZJ:=@List.length_drop
def ZM:=@List.mem_of_mem_take
def ZP:=@List.cons_append
def ZQ:=@List.perm_ext_iff_of_nodup
def ZR:=@Array.getElem?_eq_some_iff
def ZV:=@Array.getElem?_eq_none_iff
def ZW:=@plainId_quiet
def ZX:=@wpAny_newFunctionEnv_cells
def ZZ:=@Calls.Name_function_global
def Z0:=@Paired.length
def Z1:=@slot_tupleiter_next
def Z2:=@Option.map_some
def Z3:=@wpAny_execs_nil
def Z4:=@Int.natAbs_natCast
def Z5:=@PySem.W.callWith_K
def Z6:=@Nat.ne_of_gt
def Z7:=@SetTable.toList_insertAt
def Z8:=@List.mem_filterMap
def Z9:=@AutoSeq1.wpAny_loadPart'
def aaa:=@PySem.F.args_tuple_add_2
def aab:=@Nat.eq_zero_or_pos
def aac:=@PyProof.Rows.F.entry_set_update_loop
def aad:=@List.contains_cons
def aae:=@wpAny_call
def aaf:=@wpAny_bindName
def aag:=@IntsAre.length
def aah:=@call_meets
def aai:=@PySem.F.entry_tuple_add
def aaj:=@List.length_eq_zero_iff
def aak:=@Nat.lt_trichotomy
def aal:=@Heap.get?_push_ne
def aam:=@fits_of_scanBound
def aan:=@Nat.le_of_lt_succ
def aao:=@List.ext_getElem?
def aap:=@wpAny_storeSet_of
def aaq:=@wpAny_pyIter_list
def aar:=@List.reverse_cons
def aas:=@PySem.F.slot_tuple_add
def aat:=@listUpdate_at
def aau:=@Heap.size_update
def aav:=@List.ext_getElem
def aaw:=@List.take_append_drop
def aax:=@F.plain_proto_collect
def aay:=@codeAny_call_function
def aaz:=@F.entry_proto_collect
def aaA:=@PyProof.Rows.slot_tuple_getitem
def aaB:=@intKind_is
def aaC:=@List.nodup_cons
def aaD:=@List.nil_append
def aaE:=@List.mem_of_mem_drop
def aaF:=@List.range_succ
def aaG:=@codeAny_of_tree
def aaH:=@wpAny_typeOf
def aaI:=@List.filter_eq_self
def aaJ:=@Heap.get?_update_ne
def aaK:=@List.length_pos_iff
def aaL:=@wpAny_seqItems
def aaM:=@wpAny_runValue
def aaN:=@IsTup.new
def aaO:=@wpAny_load
def aaP:=@List.drop_eq_getElem_cons
def aaQ:=@wpAny_isInstance
def aaR:=@List.mem_flatMap
def aaS:=@get?_update_seq
def aaT:=@pushCells_keeps
def aaU:=@List.sum_cons
def aaV:=@List.all_cons
end
set_option Elab.async false
set_option maxRecDepth 100000
set_option maxHeartbeats 8000000
namespace T
open PySem PySem.W PyProof.Rows
/-- the top's run over a tree -/
noncomputable def runT(p:C5)(w:World)(m:Nat)(a:B1):Nat->SharedT->Thread->Option SharedT
 | 0,_,_=>none
 | n + 1,s,t=>match through t with
   | true=>some s
   | false=>match stepOk m a t with
     | false=>none
     | true=>match stepT (denote treeTable) p w s t with
       | some r=>runT p w m a n r.1 r.2
       | none=>none
theorem run_of{p:C5}{w:World}{m:Nat}{a:B1}:∀ {n:Nat}{s s':SharedT}{t:Thread},runT p w m a n s t=some s'->topRun treeTable p w m a n s.abs t=some s'.abs
 | 0,_,_,_,h=>by cases h
 | n + 1,s,s',t,h=>by
   unfold runT at h;unfold topRun;cases ht:through t with
   | true=>rw [ht]at h;cases h;rfl
   | false=>
     rw [ht]at h;cases hk:stepOk m a t with
     | false=>rw [hk]at h;cases h
     | true=>
       rw [hk]at h;cases hs:stepT (denote treeTable) p w s t with
       | none=>rw [hs]at h;cases h
       | some r=>obtain ⟨s2,t2⟩:=r;rw [hs]at h;rw [stepT_spec hs];exact run_of h
noncomputable def grow:List Obj->Nat->BT->BT
 | [],_,t=>t
 | o::l,n,t=>grow l (n + 1) (t.ins n o)
noncomputable def bootT(B:Heap)(os:OsState):SharedT:=⟨grow B.objs.toList 0 .nil,B.objs.size,B.life,#[],boot_drawn,boot_toks,os⟩
noncomputable def bootA(w:World)(os:OsState):Shared:=⟨boot_heap w.params,#[],boot_drawn,boot_toks,os⟩
def boot_abs(w:World)(os:OsState):(bootT (boot_heap w.params) os).abs=bootA w os:=by kernel_rfl
def boot_ns(w:World):((boot_heap w.params).isNs mainGlobals && (#[]:Array GenState).size == 0)=true:=by kernel_rfl
noncomputable def chk{α:Type}(p q:C5)(loose:C3)(Xt:Shared->Bool)(Yf:Shared->α)(N:Nat)(B:Heap)(w:World)(os:OsState):=
 (runT p w B.objs.size (B.nsMap mainGlobals "__annotations__") N (bootT B os) (topStub p)).map λs=>
   (staticsOk (importedModules p.main.body) B s.abs.heap && namesBound p s.abs.heap && gensDone s.abs && laidKept B s.abs.heap,openSeen q loose (importedModules p.main.body) Xt true s.abs,Yf s.abs)
def left{α:Type}{p q:C5}{loose:C3}{Xt:Shared->Bool}{Yf:Shared->α}{Ya:World->α}{N:Nat}(e:opening p=plainProg p.main.scope.names)(hN:Nat.ble 600 N=true)(f:∀ s,fenceModules? p s=some s)
  (h:∀ (w:World) (os:OsState),chk p q loose Xt Yf N (boot_heap w.params) w os=some (true,openGood q loose,Ya w)):LeftO p q loose Xt Yf Ya N:=λw=>by
 obtain ⟨⟨hh,gs,d,k,os⟩,e1,e2⟩:=Wk.mp (boot_open (N:=N) e hN f w);obtain ⟨rfl,rfl,rfl,rfl⟩:hh=boot_heap w.params/\gs=#[]/\d=boot_drawn/\k=boot_toks:=by simpa using e2
 obtain ⟨s,r1,r2⟩:=Wk.mp (h w os);have r:=run_of r1;rw [boot_abs]at r;obtain ⟨l1,l2,l3⟩:_/\_/\_:=by simpa only [Prod.mk.injEq] using r2
 unfold openEnds topFrom;rw [e1];show (match (boot_heap w.params).isNs mainGlobals && (#[]:Array GenState).size == 0 with | true=>_ | false=>_:Option Shared).map _=_
 rw [boot_ns];show ((topRun treeTable p w (boot_heap w.params).objs.size _ N (bootA w os) (topStub p)).bind _).map _=_;rw [r];show (match staticsOk (importedModules p.main.body) (boot_heap w.params) s.abs.heap && namesBound p s.abs.heap && gensDone s.abs && laidKept (boot_heap w.params) s.abs.heap with | true=>_ | false=>_:Option Shared).map _=_
 rw [l1];show some (openSeen q loose (importedModules p.main.body) Xt true s.abs,Yf s.abs)=some _;rw [l2,l3]
noncomputable def tp(i:Nat):Stmt:=PySem.Challenge.pw_fadewalk_k31_turns_and_sides.main.body.getD i (.Pass ⟨0,0,0,0⟩)
noncomputable def view:C5:={ PySem.Challenge.pw_fadewalk_k31_turns_and_sides with main:={ PySem.Challenge.pw_fadewalk_k31_turns_and_sides.main with body:=[tp 0,tp 2,tp 3,tp 4,tp 5,tp 6,tp 7,tp 8,tp 9,tp 10,tp 11,tp 12,tp 13,tp 14,tp 15,tp 16,tp 17,tp 18,tp 19,tp 20,tp 21,tp 22,tp 24,tp 25,tp 27,tp 28,tp 29,tp 30,tp 31,tp 32,tp 34,tp 35,tp 36,tp 37,tp 38,tp 39,tp 40,tp 42,tp 43,tp 45,tp 46,tp 47,tp 48,tp 49,tp 50,tp 51,tp 52,tp 53,tp 54,tp 55,tp 56,tp 57,tp 58,tp 59,tp 60] } }
noncomputable def loos:C3:=["Walk"]
noncomputable def lvs:List (Str×WData):=[]
noncomputable def lhs(B:Heap)(as ts:B7)(w:World)(os:OsState):=chk PySem.Challenge.pw_fadewalk_k31_turns_and_sides view loos (λs=>xlAt view lvs s && recOk (RowW.records (OpenRow.toRowW (OpenLaw.row PySem.Challenge.rw_fadewalk_k31_turns_and_sides))) s) (λs=>(as.map s.heap.get?,ts.map s.heap.get?)) 11992 B w os
noncomputable def rhs(K:Params->Frag)(ts:B7)(w:World):=some (true,openGood view loos,((K w.params).map λp=>some p.2,ts.map λ_=>some (tabObj #[])))
end T
noncomputable def PySem.W.Fast.tw12579894786947460272:PySem.Program:=PySem.Challenge.pw_fadewalk_k31_turns_and_sides
def PySem.W.Fast.te12579894786947460272:PySem.Challenge.pw_fadewalk_k31_turns_and_sides=PySem.W.Fast.tw12579894786947460272:=rfl
namespace T
open PySem PySem.W PyProof.Rows
lay_quick T.lhs T.rhs
def hook{K:Params->Frag}{as:B7}{e:∀ P,as=(K P).map (·.1)}{ts:B7}(h:∀ (w:World) (os:OsState),PySem.W.Fast.tw12313586583820656202 (boot_heap w.params) as ts w os=PySem.W.Fast.tw7420988445182104193 K ts w):
  LeftO PySem.Challenge.pw_fadewalk_k31_turns_and_sides view loos (λs=>xlAt view lvs s && recOk (RowW.records (OpenRow.toRowW (OpenLaw.row PySem.Challenge.rw_fadewalk_k31_turns_and_sides))) s) (Hook.obs (kmHook K as e ts)) (Hook.val (kmHook K as e ts)) 11992:=
 left rfl (by decide) (λ_=>rfl) λw os=>by show lhs (boot_heap w.params) as ts w os=rhs K ts w;rw [PySem.W.Fast.te12313586583820656202,PySem.W.Fast.te7420988445182104193];exact h w os
local macro_rules
 | `(tactic| o_head $H)=>`(tactic| (
   refine PySem.W.holds_open (q:=T.view) (loose:=T.loos)
    (Xt:=λs=>PySem.W.xlAt T.view T.lvs s && PySem.W.recOk (PySem.W.RowW.records (PySem.W.OpenRow.toRowW (PySem.W.OpenLaw.row PySem.Challenge.rw_fadewalk_k31_turns_and_sides))) s)
    (XP:=PySem.W.XL T.view T.lvs) (Yf:=PySem.W.Hook.obs $H) (Ya:=PySem.W.Hook.val $H)
    (YP:=PySem.W.Hook.says $H) (N:=11992) ?hl (PySem.W.Hook.of $H) (PySem.W.Hook.keeps $H)
    (λs e=>PySem.W.xl_of s (Bool.and_eq_true_iff.mp e).1) PySem.W.XL.keeps rfl rfl rfl
    (λs e=>PySem.W.recFacts_of (Bool.and_eq_true_iff.mp e).2) rfl
    (by first | assumption | decide +kernel) (by decide +kernel)
    ⟨rfl,rfl,rfl,rfl,rfl,by decide +kernel⟩ ?hw ?hc;(case hl=>exact T.hook (λw os=>by kernel_rfl))))
open_top cut for PySem.Challenge.rw_fadewalk_k31_turns_and_sides
end T
set_option hygiene false in
local macro_rules
|`(tactic|walk_at "a")=>`(tactic|(obtain⟨ρ,δ,M,ev,j,g1⟩:=h;refine⟨ρ,δ,M,ev,j,g1.bind λρ1 H1 M1 x dx e1 j1 c1 g2=>?_⟩))
|`(tactic|walk_at "b")=>`(tactic|obtain⟨ρ,δ,M,ev,j,g1⟩:=h)
|`(tactic|walk_at "c")=>`(tactic|refine aB λK hK=>?_)
|`(tactic|walk_at "d")=>`(tactic|(intro X hP hw hK hc i aaW s σ H E I hf st hg;subst hP hw hK))
|`(tactic|walk_at "e")=>`(tactic|intro aaW s σ H x y v u Q I rx ry h)
|`(tactic|walk_at "f")=>`(tactic|intro aaW s σ H Q I h)
|`(tactic|walk_at "g")=>`(tactic|(dsimp only;refine Rn.call rfl ?_))
|`(tactic|walk_at "h")=>`(tactic|(rw[hK];clear hK K))
set_option tactic.hygienic false
set_option bootstrap.genMatcherCode false
set_option genSizeOf false
noncomputable section
open PySem PySem.Spec
namespace L2
open PyProof.Rows
abbrev Key:=Sum Int Str
def keyIs:Key->Value->Bool
 |.inl k,v=>Value.isInt k v
 |.inr x,v=>Value.isStrOf x v
def keyH(w:World):Key->Int
 |.inl k=>hashInt k
 |.inr x=>hashStr w x
def keyIs_shape:∀ {k:Key}{v:Value},keyIs k v=true->(∃ i t,k=Sum.inl i/\v=Value.int i t)\/(∃ x t,k=Sum.inr x/\v=Value.str x t)
 |.inl i,v,h=>by obtain⟨t,e⟩:=Value.isInt_shape (k:=i) (v:=v) h;exact .inl ⟨i,t,rfl,e⟩
 |.inr x,v,h=>by obtain⟨t,e⟩:=Value.isStrOf_shape (x:=x) (v:=v) h;exact .inr ⟨x,t,rfl,e⟩
def keyIs_int(i:Int)(t:Tok):keyIs (.inl i) (.int i t)=true:=by simp[keyIs,Value.isInt]
def keyIs_str(x:Str)(t:Tok):keyIs (.inr x) (.str x t)=true:=by simp[keyIs,Value.isStrOf]
def key_ll(a b:Int):decide ((Sum.inl a:Key)=Sum.inl b)=(a==b):=by
 by_cases e:a=b
 ·subst e;simp
 ·have h:¬ (Sum.inl a:Key)=Sum.inl b:=λq=>e (Sum.inl.inj q)
  rw[Xo h];exact (Yd.mpr e).symm
def key_rr(a b:Str):decide ((Sum.inr a:Key)=Sum.inr b)=decide (a=b):=by
 by_cases e:a=b
 ·subst e;simp
 ·have h:¬ (Sum.inr a:Key)=Sum.inr b:=λq=>e (Sum.inr.inj q)
  rw[Xo h,Xo e]
def key_lr(a:Int)(b:Str):decide ((Sum.inl a:Key)=Sum.inr b)=false:=Xo (λq=>nomatch q)
def key_rl(a:Str)(b:Int):decide ((Sum.inr a:Key)=Sum.inl b)=false:=Xo (λq=>nomatch q)
def mixKind(prog:C5)(w:World):PySem.KeyKind prog w Key where
 is:=keyIs
 hash:=keyH w
 inj:=λv a b ha hb=>by
  rcases keyIs_shape ha with ⟨i,t,rfl,rfl⟩ | ⟨x,t,rfl,rfl⟩
  ·rcases keyIs_shape hb with ⟨j,u,rfl,e⟩ | ⟨y,u,rfl,e⟩
   ·injection e with e1 _;rw[e1]
   ·exact nomatch e
  ·rcases keyIs_shape hb with ⟨j,u,rfl,e⟩ | ⟨y,u,rfl,e⟩
   ·exact nomatch e
   ·injection e with e1 _;rw[e1]
 byValue:=λk v h=>by rcases keyIs_shape h with ⟨i,t,rfl,rfl⟩ | ⟨x,t,rfl,rfl⟩<;>rfl
 pyHash:=λhv h=>by
  rcases keyIs_shape hv with ⟨i,t,rfl,rfl⟩ | ⟨x,t,rfl,rfl⟩
  ·exact wpAny_pyHash_int h
  ·exact wpAny_pyHash_str h
 eqBool:=λhu hv h=>by
  rcases keyIs_shape hu with ⟨i,t,rfl,rfl⟩ | ⟨x,t,rfl,rfl⟩
  ·rcases keyIs_shape hv with ⟨j,u,rfl,rfl⟩ | ⟨y,u,rfl,rfl⟩
   ·rw[key_ll]at h;exact wpAny_eqBool_int h
   ·rw[key_lr]at h;exact SeqAt.EqAt.int_str i t y u _ _ _ _ h
  ·rcases keyIs_shape hv with ⟨j,u,rfl,rfl⟩ | ⟨y,u,rfl,rfl⟩
   ·rw[key_rl]at h;exact SeqAt.EqAt.str_int x t j u _ _ _ _ h
   ·rw[key_rr]at h;exact wpAny_eqBool_str h
 «strs»:=λk x t v h=>by
  rcases keyIs_shape h with ⟨i,u,rfl,e⟩ | ⟨y,u,rfl,e⟩
  ·exact nomatch e
  ·injection e with e1 _
   subst e1;cases v<;>rfl
def mixKind_is(prog:C5)(w:World)(k:Key)(v:Value):(mixKind prog w).is k v=keyIs k v:=rfl
def mixKind_int(prog:C5)(w:World)(i:Int)(t:Tok):(mixKind prog w).is (.inl i) (.int i t)=true:=keyIs_int i t
def mixKind_str(prog:C5)(w:World)(x:Str)(t:Tok):(mixKind prog w).is (.inr x) (.str x t)=true:=keyIs_str x t
open PyProof.Rows
inductive V where
 |non | bl (b:Bool) | int (i:Int) | str (x:Str) | byt (b:Array UInt8) | flt (b:UInt64) | ref (a:Addr) | ty (n:String)
 deriving DecidableEq
def RelV:V->Value->Prop
 |.non,u=>u=Value.none
 |.bl b,u=>u=Value.bool b
 |.int i,u=>∃t,u=Value.int i t
 |.str x,u=>∃t,u=Value.str x t
 |.byt b,u=>∃t,u=Value.bytes b t
 |.flt b,u=>∃t,u=Value.float b t
 |.ref a,u=>u=Value.ref a
 |.ty n,u=>u=Value.type n
abbrev Vals:List V->B5->Prop:=Paired RelV
theorem Vals.length(r:Vals xs us):xs.length=us.length:=Z0 r
theorem Vals.get:∀ {xs:List V}{us:B5}{i:Nat}{x:V},Vals xs us->xs[i]?=some x->∃ u,us[i]?=some u/\RelV x u
 |_,_,_,_,.nil,e=>by simp at e
 |_,_,0,_,.cons r _,e=>by simp at e;subst e;exact⟨_,rfl,r⟩
 |_,_,i+1,x,.cons _ t,e=>by
   obtain⟨u,h1,h2⟩:=Vals.get (i:=i) (x:=x) t (by simpa using e)
   exact⟨u,by simpa using h1,h2⟩
theorem Vals.set(r:RelV x u):∀{xs:List V}{us:B5} (i:Nat),Vals xs us->Vals (xs.set i x) (us.set i u)
 |_,_,_,.nil=>.nil
 |_,_,0,.cons _ t=>.cons r t
 |_,_,i+1,.cons q t=>.cons q (Vals.set r i t)
theorem Vals.append:∀{xs ys:List V}{us ws:B5},Vals xs us->Vals ys ws->Vals (xs++ys) (us++ws)
 |_,_,_,_,.nil,s=>s
 |_,_,_,_,.cons r t,s=>.cons r (Vals.append t s)
theorem Vals.take:∀{xs:List V}{us:B5} (n:Nat),Vals xs us->Vals (xs.take n) (us.take n)
 |_,_,0,_=>.nil
 |_,_,_+1,.nil=>.nil
 |_,_,n+1,.cons r t=>.cons r (Vals.take n t)
theorem Vals.drop:∀{xs:List V}{us:B5} (n:Nat),Vals xs us->Vals (xs.drop n) (us.drop n)
 |_,_,0,r=>r
 |_,_,_+1,.nil=>.nil
 |_,_,n+1,.cons _ t=>Vals.drop n t
def Vals.none_of:∀{xs:List V}{us:B5}{i:Nat},Vals xs us->xs[i]?=none->us[i]?=none:=λ{xs us i} r e=>by have h1:=r.length;have h2:xs.length<=i:=Xi.mp e;exact Xi.mpr (by omega)
def RelO:Option V->B1->Prop
 |some v,some u=>RelV v u
 |none,none=>True
 |_,_=>False
def KV{κ:Type}:List (κ×V)->List (κ×Value)->Prop:=Paired λ(p:κ×V) (q:κ×Value)=>p.1=q.1/\RelV p.2 q.2
def kV:Key->V
 |.inl i=>.int i
 |.inr x=>.str x
inductive HO where
 /-- a list -/
 |lst (xs:List V)
 /-- a tuple (never changes) -/
 |tup (xs:List V)
 /-- a dict whose keys are ints and texts;one whose keys are tuples of ints and texts (the empty one is both) -/
 |dK (kvs:List (Key×V)) | dT (kvs:List (List Key×V))
 /-- a set of ints: its members,its size -/
 |set (S:Int->Bool) (n:Nat)
 /-- an instance of the class at C,its dict at dx,its attributes -/
 |ins (C dx:Addr) (fs:List (Str×V))
 /-- the dict of the instance at x -/
 |own (x:Addr)
 /-- the dict of an exception -/
 |xd (fs:List (Str×V))
 /-- a bound method,f of x -/
 |met (f x:Addr)
 /-- a range object lo,lo+1,.. below hi -/
 |rng (lo hi:Int)
 /-- a thing that is known to the object (the script;a dict while a loop walks it): read,never written while it is so -/
 |frz (o:Obj) (u:HO)
 /-- a code object's table -/
 |tbl (ps:B4)
 /-- any other thing,by what is true of its one object (a def of one's own: SetO a S n:=HO.ext λh=>..) -/
 |ext (φ:B6)
abbrev Hp:=Addr->Option HO
def upd(H:Hp)(a:Addr)(o:HO):Hp:=λb=>if b=a then some o else H b
def upd_same{H:Hp}{a:Addr}{o:HO}:upd H a o a=some o:=by unfold upd;rw[Wq rfl]
def upd_ne{H:Hp}{a b:Addr}{o:HO}(h:b≠a):upd H a o b=H b:=by unfold upd;rw[Ww h]
def upd_upd:upd (upd H a o) a u=upd H a u:=by funext b;unfold upd;split<;>rfl
def ne_of{H:Hp}{a b:Addr}{o u:HO}(h:H a=some o)(h':H b=some u)(d:o≠u):a≠b:=by intro e;subst e;rw[h]at h';exact d (Ws h')
def ne_of_none{H:Hp}{a b:Addr}{o:HO}(h:H a=some o)(h':H b=none):a≠b:=by intro e;subst e;rw[h]at h';cases h'
def RecAt(H:Hp)(v:Value):Prop:=∃c o fs q t,v=.ref c/\H c=some (.frz o (.own c))/\o.data=.fields fs/\fs[1]?=some (.str q t)
section
variable(P:C5)(w:World)
def ObjOk(H:Hp)(h:Heap)(a:Addr):HO->Prop
 |.lst xs=>xs.length<=sizeLine/\∃(its:B5) (n:Nat),Vals xs its/\h.get? a=some { cls:=.type "list",data:=.seq its.toArray n }
 |.tup xs=>xs.length<=sizeLine/\∃its:B5,Vals xs its/\IsTup h a its.toArray
 |.dK kvs=>kvs.length<=sizeLine/\(a==sysModules)=false/\∃vs,KV kvs vs/\h.DictOf (mixKind P w) a vs
 |.dT kvs=>kvs.length<=sizeLine/\(a==sysModules)=false/\∃xs:List (List Key×Addr×Value),
   Paired (λ(p:List Key×V) (q:List Key×Addr×Value)=>p.1=q.1/\H q.2.1=some (.tup (p.1.map kV))/\RelV p.2 q.2.2) kvs xs /\
   ∃o es ep,h.get? a=some o/\o.ExactDict/\o.data=.dict es ep/\es.toList=xs.map (entryOfKey (tupleKind (mixKind P w)))/\(xs.map (·.1)).Nodup
 |.set S n=>h.SetOf (intKind P w) a S n
 |.ins C dx fs=>H dx=some (.own a)/\fs.length<=1000/\dx≠a/\h.get? a=some (W.instObj C dx) /\
   ∃mA,h.Ns1 dx mA/\(∀f,RelO (fs.lookup f) (mA f))/\PySem.Within mA (fs.map (·.1))
 |.own _=>∃o,h.get? a=some o
 |.xd fs=>∃mA,h.Ns1 a mA/\∀f,RelO (fs.lookup f) (mA f)
 |.rng lo hi=>∃t u v,h.get? a=some { cls:=.type "range",data:=.fields #[.int lo t,.int hi u,.int 1 v] }
 |.frz o u=>h.get? a=some o/\ObjOk H h a u
 |.tbl _=>∃ps:B4,h.get? a=some { cls:=.none,data:=.fields ps }/\TriplesOk ps.toList/\∀pos cv,codeAmong pos ps.toList=some cv->RecAt H cv
 |.met f x=>h.get? a=some (W.methodObj (.ref f) (.ref x))
 |.ext φ=>φ h/\(∃o,h.get? a=some o)/\∀h1 h2:Heap,φ h1->(∀o,h1.get? a=some o->h2.get? a=some o)->φ h2
def HOk(H:Hp)(h:Heap):Prop:=∀a o,H a=some o->ObjOk P w H h a o
end
section
variable{P:C5}{w:World}{H H':Hp}{h h':Heap}{a:Addr}{o:HO}
theorem ObjOk.lt(x:ObjOk P w H h a o):a<h.objs.size:=by
 cases o with
 |lst xs=>obtain⟨_,_,_,_,e⟩:=x;exact Wo e
 |tup xs=>obtain⟨_,_,_,p⟩:=x;exact p.lt
 |dK kvs=>obtain⟨_,_,_,_,o,_,_,e,_⟩:=x;exact Wo e
 |dT kvs=>obtain⟨_,_,_,_,o,_,_,e,_⟩:=x;exact Wo e
 |set S n=>obtain⟨o,_,_,_,e,_⟩:=x;exact Wo e
 |ins C dx fs=>obtain⟨_,_,_,e,_⟩:=x;exact Wo e
 |own y=>obtain⟨_,e⟩:=x;exact Wo e
 |xd fs=>obtain⟨_,⟨_,_,_,e,_⟩,_⟩:=x;exact Wo e
 |rng lo hi=>obtain⟨_,_,_,e⟩:=x;exact Wo e
 |frz ob u=>obtain⟨e,_⟩:=x;exact Wo e
 |tbl ps=>obtain⟨_,e,_⟩:=x;exact Wo e
 |met f y=>exact Wo (show h.get? a=some _ from x)
 |ext φ=>obtain⟨_,⟨_,e⟩,_⟩:=x;exact Wo e
theorem Paired.mapP:∀{l₁:List α}{l₂:List β},Paired F l₁ l₂->(∀a b,F a b->G a b)->Paired G l₁ l₂
 |_,_,.nil,_=>.nil
 |_,_,.cons r t,f=>.cons (f _ _ r) (Paired.mapP t f)
def ObjOk.stay(x:ObjOk P w H h a o)(k:∀ b u,(b=a\/H b=some (.own a))->h.get? b=some u->h'.get? b=some u)
  (ho:∀b,H b=some (.own a)->H' b=some (.own a)) (ht:∀b xs,H b=some (.tup xs)->H' b=some (.tup xs)) (hf:∀b o,H b=some (.frz o (.own b))->H' b=some (.frz o (.own b)):=by exact λs s q=>q):ObjOk P w H' h' a o:=by
 induction o with
 |lst xs=>obtain⟨z,its,n,r,e⟩:=x;exact⟨z,its,n,r,k _ _ (.inl rfl) e⟩
 |tup xs=>obtain⟨z,its,r,ob,e,c⟩:=x;exact⟨z,its,r,ob,k _ _ (.inl rfl) e,c⟩
 |dK kvs=>obtain⟨z,y,vs,r,ob,es,ep,e,c⟩:=x;exact⟨z,y,vs,r,ob,es,ep,k _ _ (.inl rfl) e,c⟩
 |dT kvs=>obtain⟨z,y,xs,r,ob,es,ep,e,c⟩:=x;exact⟨z,y,xs,Paired.mapP r λp q z=>⟨z.1,ht _ _ z.2.1,z.2.2⟩,ob,es,ep,k _ _ (.inl rfl) e,c⟩
 |set S n=>obtain⟨ob,es,ep,t,e,c⟩:=x;exact⟨ob,es,ep,t,k _ _ (.inl rfl) e,c⟩
 |ins C dx fs=>obtain⟨d,z,ne,e,mA,⟨od,es,ep,e2,c⟩,r⟩:=x;exact⟨ho _ d,z,ne,k _ _ (.inl rfl) e,mA,⟨od,es,ep,k _ _ (.inr d) e2,c⟩,r⟩
 |own y=>obtain⟨ob,e⟩:=x;exact⟨ob,k _ _ (.inl rfl) e⟩
 |xd fs=>obtain⟨mA,⟨od,es,ep,e,c⟩,r⟩:=x;exact⟨mA,⟨od,es,ep,k _ _ (.inl rfl) e,c⟩,r⟩
 |rng lo hi=>obtain⟨t,u,v,e⟩:=x;exact⟨t,u,v,k _ _ (.inl rfl) e⟩
 |frz ob u ih=>obtain⟨e,q⟩:=x;exact⟨k _ _ (.inl rfl) e,ih q⟩
 |tbl ps=>obtain⟨ps',e,z,r⟩:=x;exact⟨ps',k a _ (.inl rfl) e,z,λpos cv q=>let ⟨c,o,fs,q',t,g1,g2,g3⟩:=r pos cv q;⟨c,o,fs,q',t,g1,hf c o g2,g3⟩⟩
 |met f y=>have e:h.get? a=some (W.methodObj (.ref f) (.ref y)):=x;show h'.get? a=some (W.methodObj (.ref f) (.ref y));exact k a _ (.inl rfl) e
 |ext φ=>obtain⟨p,⟨o,e⟩,st⟩:=x;exact⟨st _ _ p λo q=>k _ _ (.inl rfl) q,⟨o,k _ _ (.inl rfl) e⟩,st⟩
theorem HOk.lt(x:HOk P w H h)(e:H a=some o):a<h.objs.size:=(x a o e).lt
def HOk.fresh(x:HOk P w H h)(e:h.objs.size<=a):H a=none:=by
 cases q:H a with
 |none=>rfl
 |some u=>exact absurd (Wt (x.lt q) e) (Yy _)
def HOk.kept(x:HOk P w H h)(k:∀b u,h.get? b=some u->h'.get? b=some u):HOk P w H h':=λa o e=>
 (x a o e).stay (λb u z q=>k b u q) (λz q=>q) λz z q=>q
def HOk.laid(x:HOk P w H h)(k:∀b u,h.get? b=some u->h'.get? b=some u)(hp:h.objs.size<=a)(new:ObjOk P w (upd H a o) h' a o):HOk P w (upd H a o) h':=λb u e=>by
 have hn:=x.fresh hp;by_cases hb:b=a
 ·subst hb;rw[upd_same]at e;cases e;exact new
 ·rw[upd_ne hb]at e;exact (x b u e).stay (λc v z q=>k c v q) (λc q=>by rw[upd_ne (ne_of_none q hn)];exact q) (λc xs q=>by rw[upd_ne (ne_of_none q hn)];exact q) λc o q=>by rw[upd_ne (ne_of_none q hn)];exact q
end
def Rd(H:Hp)(a:Addr)(u:HO):Prop:=H a=some u\/∃o,H a=some (.frz o u)
def Rd.ok(r:Rd H a u)(x:HOk P w H h):ObjOk P w H h a u:=by
 rcases r with r | ⟨o,r⟩
 ·exact x a u r
 ·obtain⟨_,q⟩:=x a _ r;exact q
def Mut:Option HO->Prop
 |some (.lst _)=>True
 |some (.dK _)=>True
 |some (.dT _)=>True
 |some (.set _ _)=>True
 |some (.ins _ _ _)=>True
 |some (.ext _)=>True
 |_=>False
section
variable{P:C5}{w:World}{H:Hp}{h h':Heap}{x e:Addr}{o':HO}
def HOk.write(ok:HOk P w H h)(mu:Mut (H x))(he:e=x\/H e=some (.own x))(k:∀ b u,b≠e->h.get? b=some u->h'.get? b=some u)(heo:∃ u,h'.get? e=some u)
  (new:ObjOk P w (upd H x o') h' x o'):HOk P w (upd H x o') h':=λb u q=>by
 have nown:∀c y,H c=some (.own y)->c≠x:=λc y r z=>by subst z;rw[r]at mu;exact mu
 have ntup:∀c xs,H c=some (.tup xs)->c≠x:=λc xs r z=>by subst z;rw[r]at mu;exact mu
 have nfrz:∀c o u,H c=some (.frz o u)->c≠x:=λc o u r z=>by subst z;rw[r]at mu;exact mu
 by_cases hb:b=x
 ·subst hb;rw[upd_same]at q;cases q;exact new
 ·rw [upd_ne hb]at q;by_cases hbe:b=e
  ·have q':H b=some (.own x):=by
    rcases he with z | z
    ·exact absurd (hbe.trans z) hb
    ·rw[hbe];exact z
   rw[q]at q';cases q';obtain⟨v,hv⟩:=heo;exact⟨v,by rw[hbe];exact hv⟩
  ·refine (ok b u q).stay (λc v hc r=>k c v ?_ r) (λc r=>by rw[upd_ne (nown c b r)];exact r) (λc xs r=>by rw[upd_ne (ntup c xs r)];exact r) λc o r=>by rw[upd_ne (nfrz c o _ r)];exact r
   rcases hc with rfl | hc
   ·exact hbe
   ·rintro rfl;rcases he with z | z
    ·exact nown c b hc z
    ·rw[hc]at z;cases z;exact hb rfl
end
structure Un(fs ex:B7)(H H':Hp)(h h':Heap):Prop where
 keep:∀b o,h.get? b=some o->H b=none->b∉fs->b∉ex->h'.get? b=some o
 slot:∀b o,h.get? b=some o->H b=none->b∈fs->b∉ex->∃sl,h'.get? b=some { o with slots:=sl }
 free:∀b o,h.get? b=some o->H b=none->b∉ex->H' b=none
 there:∀b o,h.get? b=some o->b∉ex->∃o',h'.get? b=some o'
 tups:∀b xs,H b=some (.tup xs)->H' b=some (.tup xs)
 frzs:∀b o u,H b=some (.frz o u)->H' b=some (.frz o u)
 tbls:∀b ps,H b=some (.tbl ps)->∃more,H' b=some (.tbl (ps++more))
section
variable{fs fs' ex ex':B7}{H H1 H2:Hp}{h h1 h2 h':Heap}{a x e:Addr}{o:HO}
def Un.any(u:Un fs ex H H1 h h1)(q:h.get? b=some ob)(n:H b=none)(hx:b∉ex):∃sl,h1.get? b=some { ob with slots:=sl }:=by
 by_cases hb:b∈fs
 ·exact u.slot b ob q n hb hx
 ·exact⟨ob.slots,u.keep b ob q n hb hx⟩
def Un.kept(k:∀b u,h.get? b=some u->h'.get? b=some u):Un fs ex H H h h':=
 ⟨λb ob q z z z=>k b ob q,λb ob q z z z=>⟨ob.slots,k b ob q⟩,λz z z n z=>n,λb ob q z=>⟨ob,k b ob q⟩,λz z q=>q,λz z z q=>q,λz ps q=>⟨#[],by rw[q];simp⟩⟩
def Un.refl:Un fs ex H H h h:=Un.kept λz z q=>q
def Un.laid(k:∀b u,h.get? b=some u->h'.get? b=some u)(hp:h.objs.size<=a)(hn:H a=none):Un fs ex H (upd H a o) h h' where
 keep:=λb u q z z z=>k b u q
 slot:=λb u q z z z=>⟨u.slots,k b u q⟩
 free:=λb u q n z=>by rw[upd_ne (WL (Wt (Wo q) hp))];exact n
 there:=λb u q z=>⟨u,k b u q⟩
 tups:=λb xs q=>by rw[upd_ne (ne_of_none q hn)];exact q
 frzs:=λb u xs q=>by rw[upd_ne (ne_of_none q hn)];exact q
 tbls:=λb ps q=>⟨#[],by rw[upd_ne (ne_of_none q hn),q];simp⟩
def Un.write(mu:Mut (H x))(he:e=x\/H e=some (.own x))(k:∀b u,b≠e->h.get? b=some u->h'.get? b=some u)(heo:∃u,h'.get? e=some u):Un fs ex H (upd H x o) h h':=by
 have hx:∀b,H b=none->b≠x:=λb n z=>by subst z;rw[n]at mu;exact mu
 have hb:∀b,H b=none->b≠e:=λb n z=>by
  subst z;rcases he with r | r
  ·exact hx b n r
  ·rw[n]at r;cases r
 have hm:∀b u,H b=some u->¬ Mut (some u)->b≠x:=λb u q nm z=>by subst z;rw[q]at mu;exact nm mu
 refine⟨λb u q n y y=>k b u (hb b n) q,λb u q n y y=>⟨u.slots,k b u (hb b n) q⟩,λb u q n y=>by rw[upd_ne (hx b n)];exact n,λb u q y=>?_,
  λb xs q=>by rw[upd_ne (hm b _ q λz=>z)];exact q,λb u xs q=>by rw[upd_ne (hm b _ q λz=>z)];exact q,λb ps q=>⟨#[],by rw[upd_ne (hm b _ q λz=>z),q];simp⟩⟩
 by_cases hbe:b=e
 ·subst hbe;exact heo
 ·exact⟨u,k b u hbe q⟩
end
def trk(h:Heap)(H:Hp):B7:=(List.range h.objs.size).filter λa=>(H a).isSome
def hidT(h:Heap)(H:Hp):Heap:=W.hideAll h (trk h H)
def hidT_size(h:Heap)(H:Hp):(hidT h H).objs.size=h.objs.size:=W.hideAll_size _ _
def hidT_get(e:h.get? b=some o)(n:H b=none):(hidT h H).get? b=some o:=
 W.hideAll_get _ e λhm=>by have q:(H b).isSome=true:=(WN.mp hm).2;rw[n]at q;simp at q
def of_hidT(e:(hidT h H).get? b=some o):h.get? b=some o/\H b=none:=by
 have e':h.get? b=some o:=W.of_hideAll (trk h H) e;refine⟨e',?_⟩;cases q:H b with
 |none=>rfl
 |some x=>
   have hm:b∈trk h H:=WN.mpr ⟨Wr.mpr (Wo e'),by simp[q]⟩
   have z:(hidT h H).get? b=none:=W.hideAll_none (trk h H) hm;rw[z]at e;cases e
def allNews(g h:Heap)(L:Addr):A8:=(List.range h.objs.size).filterMap λa=>if a=L\/(g.get? a).isSome=true then none else (h.get? a).map λo=>(a,o)
def rest(g h:Heap)(L d:Addr):A8:=(allNews g h L).filter λp=>decide (p.1≠d)
open PyProof.Rows
structure Mod(K:B0)(mg:A4)(base:Heap):Prop where
 kin:K.In base
 glob:base.Ns mainGlobals mg
 blt:∃mb,base.Ns builtinsNs mb/\∀x:Str,x≠"__name__"->mb x=bootBuiltins x
 nolimit:base.NoLimit
structure Cx where
 prog:C5
 w:World
 K:B0
 mg:A4
 base:Heap
 A:Around
 N:C3
 s₀:Shared
 H₀:Hp
 env:Env
 outer:C4
 stack:C4
 ex:B7
 fn:Str->Bool
 calm:Bool
 pn:A8
 xe:A3
abbrev Cx.M(X:Cx):=model X.prog X.w
def frs(l:C4):B7:=l.filterMap (·.frame)
abbrev Cx.fs(X:Cx):B7:=frs X.outer
def Vis(sc:Scope)(x:Str):Prop:=sc.names.lookup x=some .local\/sc.names.lookup x=some .cell\/sc.names.lookup x=some .free
def Loc(sc:Scope)(x:Str):Prop:=sc.names.lookup x=some .local\/sc.names.lookup x=some .cell
def Look(env:Env)(h:Heap)(m:A4)(x:Str)(u:Value):Prop:=
 (env.kindOf x=some .local/\m x=some u)\/((env.kindOf x=some .cell\/env.kindOf x=some .free)/\∃c,env.cells.lookup x=some c/\h.IsCell c (some u))
structure Cx.Ok(X:Cx):Prop where
 mod:Mod X.K X.mg X.base
 kind:X.env.scope.kind=.function
 glob:X.env.globals=mainGlobals
 blt:X.env.builtins=builtinsNs
 above:X.s₀.heap.objs.size<=X.env.locals
 inj:∀x y c,X.env.cells.lookup x=some c->X.env.cells.lookup y=some c->x=y
 has:∀x,(X.env.kindOf x=some .cell\/X.env.kindOf x=some .free)->∃c,X.env.cells.lookup x=some c
 cab:∀x c,X.fn x=true->X.env.cells.lookup x=some c->X.s₀.heap.objs.size<=c
 hd:X.calm=true->X.A.handled=none
 frames:X.A.frames=some X.stack
 stk:X.stack=X.outer\/(X.stack=X.env::X.outer/\X.env.frame=some X.env.locals)
 exf:∀b∈X.ex,b≠X.env.locals/\∀x c,X.env.cells.lookup x=some c->c≠b
 bs:∀b o,X.base.get? b=some o->X.s₀.heap.get? b=some o/\X.H₀ b=none
 bsz:X.base.objs.size<=X.s₀.heap.objs.size
 noex:∀b o,X.base.get? b=some o->b∉X.ex
 exfs:∀b∈X.ex,b∉X.fs
 funs:X.s₀.heap.FunFrames X.base X.outer
 frf:∀b∈X.fs,X.H₀ b=none
structure Inv(X:Cx)(aaW:A8)(σ:List (Option V))(H:Hp)(s:Shared):Prop where
 ok:X.Ok
 os:s.os=X.s₀.os
 bare:AllBare s.gens
 base:Un X.fs X.ex X.H₀ H X.s₀.heap s.heap
 loc:∃m,s.heap.Ns X.env.locals m/\∀(i:Nat) (x:Str) (v:V),X.N[i]?=some x->σ[i]?=some (some v)->Vis X.env.scope x->∃u,RelV v u/\Look X.env s.heap m x u
 cell:∀x c,X.env.cells.lookup x=some c->∃v,s.heap.IsCell c v
 free:H X.env.locals=none
 freeC:∀x c,X.env.cells.lookup x=some c->H c=none
 pin:∀p∈X.pn++aaW,s.heap.get? p.1=some p.2/\H p.1=none/\p.1≠X.env.locals/\p.1∉X.fs/\∀v,p.2.data≠.cell v
 hok:HOk X.prog X.w H s.heap
 len:σ.length=X.N.length
section
variable{X:Cx}{aaW:A8}{σ:List (Option V)}{H H':Hp}{s:Shared}{h':Heap}
def Cx.Ok.nofr(ok:X.Ok)(e:X.base.get? b=some o):b∉X.fs:=λhb=>by have:=(ok.funs.mem hb).1;rw[e]at this;cases this
theorem Inv.bs(I:Inv X aaW σ H s):∀b o,X.base.get? b=some o->s.heap.get? b=some o/\H b=none:=λb o e=>
 ⟨I.base.keep b o (I.ok.bs b o e).1 (I.ok.bs b o e).2 (I.ok.nofr e) (I.ok.noex b o e),I.base.free b o (I.ok.bs b o e).1 (I.ok.bs b o e).2 (I.ok.noex b o e)⟩
def Inv.bk(I:Inv X aaW σ H s):∀b o,X.base.get? b=some o->s.heap.get? b=some o:=λb o e=>(I.bs b o e).1
theorem Inv.mod(I:Inv X aaW σ H s):Mod X.K X.mg X.base:=I.ok.mod
def Inv.kIn(I:Inv X aaW σ H s):X.K.In s.heap:=I.ok.mod.kin.keeps I.bk
def Inv.fr(I:Inv X aaW σ H s):∃m,Fr X.base X.env.locals s.heap m:=
 let ⟨m,hn,_⟩:=I.loc
 ⟨m,hn,I.bk,W0 I.ok.bsz I.ok.above⟩
theorem Inv.lt(I:Inv X aaW σ H s):X.env.locals<s.z:=let ⟨_,hn,_⟩:=I.loc;hn.lt
def Inv.sz(I:Inv X aaW σ H s):X.s₀.heap.objs.size<=s.z:=W0 I.ok.above (YJ I.lt)
def Inv.nofs(I:Inv X aaW σ H s)(h:s.z<=a):a∉X.fs:=λhb=>by obtain⟨_,o,ho,_⟩:=I.ok.funs.mem hb;exact absurd (Wt (Wo ho) (W0 I.sz h)) (Yy _)
def Inv.cne(I:Inv X aaW σ H s):∀x c,X.env.cells.lookup x=some c->c≠X.env.locals:=λx c e z=>by obtain⟨v,o,ho,hd⟩:=I.cell x c e;obtain⟨m,⟨o',es,ep,dc,de,_⟩,_⟩:=I.loc;rw[z,dc]at ho;cases ho;rw[de]at hd;cases hd
theorem Inv.funs(I:Inv X aaW σ H s):s.heap.FunFrames X.base X.outer:=by
 have all:∀ (l:C4),(∀ b∈frs l,b∈X.fs)->X.s₀.heap.FunFrames X.base l->s.heap.FunFrames X.base l:=by
  intro l;induction l with
  |nil=>intro _ _;trivial
  |cons env r ih=>
    intro hs hl;obtain⟨hk,⟨L,o,hf,hn,ho,hd⟩,hr⟩:=hl;have hL:L∈X.fs:=hs L (by unfold frs;rw[Yr,hf];exact WP)
    obtain⟨sl,e⟩:=I.base.slot L o ho (I.ok.frf L hL) hL λz=>I.ok.exfs L z hL
    exact⟨hk,⟨L,_,hf,hn,e,hd⟩,ih (λb hb=>hs b (by unfold frs;rw[Yr,hf];exact W6 _ hb)) hr⟩
 exact all X.outer (λy hb=>hb) I.ok.funs
theorem Inv.stack(I:Inv X aaW σ H s):s.heap.FunFrames X.base X.stack:=by
 rcases I.ok.stk with e | ⟨e,hf⟩
 ·rw[e];exact I.funs
 ·rw[e];obtain⟨m,hn,_⟩:=I.loc;refine .cons (by rw[I.ok.kind];decide) hf hn ?_ I.funs
  exact Heap.get?_none_of_le (W0 I.ok.bsz I.ok.above)
def Inv.stkSub(I:Inv X aaW σ H s):∀b∈frs X.stack,b∈X.env.locals::X.fs:=λb hb=>by
 rcases I.ok.stk with e | ⟨e,hf⟩
 ·rw[e]at hb;exact W6 _ hb
 ·rw[e]at hb;unfold frs at hb;rw[Yr,hf]at hb;exact hb
def Inv.stkFree(I:Inv X aaW σ H s):∀b∈frs X.stack,H b=none:=λb hb=>by
 rcases Wz.mp (I.stkSub b hb) with e | hb
 ·rw[e];exact I.free
 ·obtain⟨_,o,ho,_⟩:=I.ok.funs.mem hb;exact I.base.free b o ho (I.ok.frf b hb) λz=>I.ok.exfs b z hb
def Inv.step{g':Array GenState}{t':Nat}{ch:B7}(I:Inv X aaW σ H s)
  (ky:∀b∈ch,(b∈X.ex\/X.s₀.heap.objs.size<=b)/\b≠X.env.locals/\(∀x c,X.env.cells.lookup x=some c->c≠b)/\∀p∈X.pn++aaW,p.1≠b)
  (keep:∀b o,b≠X.env.locals->b∉X.fs->b∉ch->s.heap.get? b=some o->H b=none->h'.get? b=some o)
  (slot:∀b o,b≠X.env.locals->b∈X.fs->b∉ch->s.heap.get? b=some o->H b=none->∃sl,h'.get? b=some { o with slots:=sl }) (free:∀b o,b∉ch->s.heap.get? b=some o->H b=none->H' b=none)
  (there:∀b o,b∉ch->s.heap.get? b=some o->∃o',h'.get? b=some o')
  (tups:∀b xs,H b=some (.tup xs)->H' b=some (.tup xs)) (frzs:∀b o u,H b=some (.frz o u)->H' b=some (.frz o u)) (tbls:∀b ps,H b=some (.tbl ps)->∃more,H' b=some (.tbl (ps++more)))
  (ns:∀m,s.heap.Ns X.env.locals m->h'.Ns X.env.locals m) (hok:HOk X.prog X.w H' h') (hg:AllBare g') :
  Inv X aaW σ H' { s with heap:=h',gens:=g',drawn:=d',toks:=t' }:=by
 have neL:∀b o,X.s₀.heap.get? b=some o->b≠X.env.locals:=λb o e=>WL (Wt (Wo e) I.ok.above)
 have neC:∀b o,X.s₀.heap.get? b=some o->b∉X.ex->b∉ch:=λb o e hx hb=>by
  rcases (ky b hb).1 with z | z
  ·exact hx z
  ·exact absurd (Wt (Wo e) z) (Yy _)
 have cellK:∀x c,X.env.cells.lookup x=some c->∀v,s.heap.IsCell c v->h'.IsCell c v:=λx c e v ⟨o,ho,hd⟩=>by
  have nch:c∉ch:=λz=>(ky c z).2.2.1 x c e rfl
  by_cases hc:c∈X.fs
  ·obtain⟨sl,q⟩:=slot c o (I.cne x c e) hc nch ho (I.freeC x c e);exact⟨_,q,hd⟩
  ·exact⟨o,keep c o (I.cne x c e) hc nch ho (I.freeC x c e),hd⟩
 refine⟨I.ok,I.os,hg,⟨λb o e n hb hx=>?_,λb o e n hb hx=>?_,λb o e n hx=>?_,λb o e hx=>?_,λb xs e=>tups b xs (I.base.tups b xs e),λb o xs e=>frzs b o xs (I.base.frzs b o xs e),λb ps e=>?_⟩,?_,λx c e=>?_,?_,λx c e=>?_,λp hp=>?_,hok,I.len⟩
 ·exact keep b o (neL b o e) hb (neC b o e hx) (I.base.keep b o e n hb hx) (I.base.free b o e n hx)
 ·obtain⟨sl,e1⟩:=I.base.slot b o e n hb hx;obtain⟨mz,e2⟩:=slot b _ (neL b o e) hb (neC b o e hx) e1 (I.base.free b o e n hx);exact⟨mz,e2⟩
 ·obtain⟨o',e1⟩:=I.base.there b o e hx;exact free b o' (neC b o e hx) e1 (I.base.free b o e n hx)
 ·obtain⟨o',e1⟩:=I.base.there b o e hx;exact there b o' (neC b o e hx) e1
 ·obtain⟨m1,e1⟩:=I.base.tbls b ps e;obtain⟨m2,e2⟩:=tbls b _ e1;exact⟨m1++m2,by rw[e2,Array.append_assoc]⟩
 ·obtain⟨m,hn,hl⟩:=I.loc;refine⟨m,ns m hn,λi x v e1 e2 e3=>?_⟩
  obtain⟨u,r,l⟩:=hl i x v e1 e2 e3;refine⟨u,r,?_⟩;rcases l with l | ⟨k,c,e,z⟩
  ·exact .inl l
  ·exact .inr ⟨k,c,e,cellK x c e _ z⟩
 ·obtain⟨v,z⟩:=I.cell x c e;exact⟨v,cellK x c e v z⟩
 ·obtain⟨m,⟨o,_,_,ho,_⟩,_⟩:=I.loc;exact free _ o (λz=>(ky _ z).2.1 rfl) ho I.free
 ·obtain⟨v,o,ho,hd⟩:=I.cell x c e;exact free c o (λz=>(ky c z).2.2.1 x c e rfl) ho (I.freeC x c e)
 ·obtain⟨e,n,ne,nf,d⟩:=I.pin p hp;have nch:p.1∉ch:=λz=>(ky p.1 z).2.2.2 p hp rfl
  exact⟨keep p.1 p.2 ne nf nch e n,free p.1 p.2 nch e n,ne,nf,d⟩
def Inv.un{t':Nat}(I:Inv X aaW σ H s)(u:Un X.fs [] H H' s.heap h')(hok:HOk X.prog X.w H' h'):Inv X aaW σ H' { s with heap:=h',toks:=t' }:=by
 obtain⟨m,⟨o,es,ep,ho,r⟩,_⟩:=id I.loc;obtain⟨sl,hL⟩:=u.any ho I.free (by simp)
 exact I.step (g':=s.gens) (d':=s.drawn) (ch:=[]) (λy z=>nomatch z) (λb o y hb y e n=>u.keep b o e n hb (by simp)) (λb o y hb y e n=>u.slot b o e n hb (by simp)) (λb o y e n=>u.free b o e n (by simp)) (λb o y e=>u.there b o e (by simp)) u.tups u.frzs u.tbls (λm' hm=>by obtain⟨o',es',ep',dc,r'⟩:=hm;rw[ho]at dc;cases dc;exact⟨_,es',ep',hL,r'⟩) hok I.bare
def Inv.call{g':Array GenState}{t':Nat}{ch:B7}(I:Inv X aaW σ H s)(u:Un (frs X.stack) ch H H' s.heap h')(hok:HOk X.prog X.w H' h')(hg:AllBare g')
  (ky:∀b∈ch,(b∈X.ex\/X.s₀.heap.objs.size<=b)/\b≠X.env.locals/\(∀x c,X.env.cells.lookup x=some c->c≠b)/\∀p∈X.pn++aaW,p.1≠b) :
  Inv X aaW σ H' { s with heap:=h',gens:=g',drawn:=d',toks:=t' }:=by
 obtain⟨m,⟨o,es,ep,ho,r⟩,_⟩:=id I.loc;obtain⟨sl,hL⟩:=u.any ho I.free λz=>(ky _ z).2.1 rfl
 exact I.step (ch:=ch) ky (λb o hL hb hc e n=>u.keep b o e n (λz=>(Wz.mp (I.stkSub b z)).elim hL hb) hc) (λb o y y hc e n=>u.any e n hc) (λb o hc e n=>u.free b o e n hc) (λb o hc e=>u.there b o e hc) u.tups u.frzs u.tbls (λm' hm=>by obtain⟨o',es',ep',dc,r'⟩:=hm;rw[ho]at dc;cases dc;exact⟨_,es',ep',hL,r'⟩) hok hg
def Inv.turned{t':Nat}(I:Inv X aaW σ H s)(k:∀b o,b≠it->s.heap.get? b=some o->h'.get? b=some o)(hn:H it=none)(hL:it≠X.env.locals)
  (h1:it∈X.ex\/X.s₀.heap.objs.size<=it) (h2:∀x c,X.env.cells.lookup x=some c->c≠it) (h3:∀p∈X.pn++aaW,p.1≠it):Inv X aaW σ H { s with heap:=h',toks:=t' }:=by
 have m3:∀b u,H b=some u->b≠it:=λb u e z=>by rw[z,hn]at e;cases e
 refine I.step (g':=s.gens) (d':=s.drawn) (ch:=[it]) (λb hb=>?_) (λb o y y hc e y=>k b o (λz=>hc (by simp[z])) e) (λb o y y hc e y=>⟨o.slots,k b o (λz=>hc (by simp[z])) e⟩) (λy y y y n=>n)
  (λb o hc e=>⟨o,k b o (λz=>hc (by simp[z])) e⟩) (λy y e=>e) (λy y y e=>e) (λb ps e=>⟨#[],by rw[e];simp⟩) (λm hm=>?_) (λb u e=>?_) I.bare
 ·have e:b=it:=by simpa using hb
  subst e;exact⟨h1,hL,h2,h3⟩
 ·obtain⟨o,es,ep,ho,r⟩:=hm;exact⟨o,es,ep,k _ o (Ne.symm hL) ho,r⟩
 ·refine (I.hok b u e).stay (λc v hc q=>k c v ?_ q) (λy q=>q) λy y q=>q
  rcases hc with z | z
  ·rw[z];exact m3 b u e
  ·exact m3 c _ z
def Inv.tok(I:Inv X aaW σ H s)(t:Nat):Inv X aaW σ H { s with toks:=t }:=I.un (h':=s.heap) (t':=t) Un.refl I.hok
theorem Inv.kept(I:Inv X aaW σ H s)(k:∀b u,s.heap.get? b=some u->h'.get? b=some u):Inv X aaW σ H { s with heap:=h',toks:=t' }:=I.un (Un.kept k) (I.hok.kept k)
theorem Inv.laid(I:Inv X aaW σ H s)(k:∀b u,s.heap.get? b=some u->h'.get? b=some u)(hp:s.z<=a)(new:ObjOk X.prog X.w (upd H a o) h' a o):
  Inv X aaW σ (upd H a o) { s with heap:=h',toks:=t' }:=I.un (Un.laid k hp (I.hok.fresh hp)) (I.hok.laid k hp new)
theorem Inv.write(I:Inv X aaW σ H s)(mu:Mut (H x))(he:e=x\/H e=some (.own x))(k:∀b u,b≠e->s.heap.get? b=some u->h'.get? b=some u)(heo:∃u,h'.get? e=some u)
  (new:ObjOk X.prog X.w (upd H x o) h' x o):Inv X aaW σ (upd H x o) { s with heap:=h',toks:=t' }:=I.un (Un.write mu he k heo) (I.hok.write mu he k heo new)
def Inv.weak(I:Inv X aaW σ H s)(hl:σ'.length=σ.length)(w:∀(i:Nat) v,σ'[i]?=some (some v)->σ[i]?=some (some v)):Inv X aaW σ' H s:=
 ⟨I.ok,I.os,I.bare,I.base,let ⟨m,hn,hl'⟩:=I.loc;⟨m,hn,λi x v e1 e2 e3=>hl' i x v e1 (w i v e2) e3⟩,I.cell,I.free,I.freeC,I.pin,I.hok,hl.trans I.len⟩
def Inv.pins_of(I:Inv X aaW σ H s)(h:∀p∈ka,s.heap.get? p.1=some p.2/\H p.1=none/\p.1≠X.env.locals/\p.1∉X.fs/\∀v,p.2.data≠.cell v):Inv X ka σ H s:=
 ⟨I.ok,I.os,I.bare,I.base,I.loc,I.cell,I.free,I.freeC,λp hp=>(WF.mp hp).elim (λz=>I.pin p (Xm _ z)) (h p),I.hok,I.len⟩
def nodup_ix{N:C3}(hN:N.Nodup){i j:Nat}(a:N[i]?=some x)(b:N[j]?=some x):i=j:=by obtain⟨h1,e1⟩:=Wj.mp a;obtain⟨h2,e2⟩:=Wj.mp b;exact (List.getElem_inj hN).mp (e1.trans e2.symm)
def store_ok2{E:A3}{i:Nat}{Q:Unit->B2}(I:Inv X aaW σ H s)(hN:X.N.Nodup)(hi:X.N[i]?=some x)(hx:Loc X.env.scope x)(r:RelV v u)
  (h:∀s',Inv X aaW (σ.set i (some v)) H s'->(∃a,Heap.SameBut a s.heap s'.heap/\(a=X.env.locals\/X.env.cells.lookup x=some a))->Q () s') (hf:X.fn x=true\/X.env.scope.names.lookup x=some .local:=by first | exact .inl rfl | exact .inr rfl | assumption):wpAny M A (storeName X.env x u) Q E s:=by
 obtain⟨m,hn,hl⟩:=id I.loc;have h7:(X.env.scope.kind==.class || (X.env.scope.kind==.module&&X.env.locals != X.env.globals))=false:=by rw[I.ok.kind];rfl
 have hiσ:i<σ.length:=by rw[I.len];exact (Wj.mp hi).1
 have cne:=I.cne;have tracked:∀{a:Addr}{h':Heap},(∃o,s.heap.get? a=some o/\H a=none)->Heap.SameBut a s.heap h'->HOk X.prog X.w H h':=λ{a h'} ha hs b ob e=>by
  obtain⟨_,_,ar⟩:=ha;refine (I.hok b ob e).stay (λc w' hc q=>(hs.2 c ?_).trans q) (λt q=>q) λt t q=>q
  rintro rfl;rcases hc with rfl | hc
  ·rw[ar]at e;cases e
  ·rw[ar]at hc;cases hc
 rcases hx with hk | hk
 ·refine wpAny_storeName_local hk hn (λh' i4 hs=>?_) h7
  obtain⟨oL,_,_,hoL,_⟩:=id hn;refine h _ ⟨I.ok,I.os,I.bare,⟨λb o e n hb hx=>?_,λb o e n hb hx=>?_,I.base.free,λb o e hx=>?_,I.base.tups,I.base.frzs,I.base.tbls⟩,⟨_,i4,λj y v' e1 e2 e3=>?_⟩,λy c e=>?_,I.free,I.freeC,λp hp=>?_,tracked ⟨oL,hoL,I.free⟩ hs,by simpa using I.len⟩ ⟨_,hs,.inl rfl⟩
  ·exact (hs.2 b (WL (Wt (Wo e) I.ok.above))).trans (I.base.keep b o e n hb hx)
  ·obtain⟨sl,e1⟩:=I.base.slot b o e n hb hx;exact⟨sl,(hs.2 b (WL (Wt (Wo e) I.ok.above))).trans e1⟩
  ·obtain⟨o',e1⟩:=I.base.there b o e hx;exact⟨o',(hs.2 b (WL (Wt (Wo e) I.ok.above))).trans e1⟩
  ·by_cases hj:j=i
   ·subst hj;rw[hi]at e1;cases e1;rw[W8 hiσ]at e2;cases e2;exact⟨u,r,.inl ⟨hk,by simp⟩⟩
   ·rw[Xh (Ne.symm hj)]at e2;obtain⟨u',r',q⟩:=hl j y v' e1 e2 e3;refine⟨u',r',?_⟩;rcases q with ⟨k,e⟩ | ⟨k,c,e,z⟩
    ·refine .inl ⟨k,?_⟩;have:y≠x:=λe=>hj (nodup_ix hN e1 (e ▸ hi))
     simp[this,e]
    ·exact .inr ⟨k,c,e,z.sameBut hs (cne y c e)⟩
  ·obtain⟨w',z⟩:=I.cell y c e;exact⟨w',z.sameBut hs (cne y c e)⟩
  ·obtain⟨e,n,ne,nf,d⟩:=I.pin p hp;exact⟨(hs.2 p.1 ne).trans e,n,ne,nf,d⟩
 ·have n9:X.fn x=true:=by
   rcases hf with z | z
   ·exact z
   ·rw[z]at hk;cases hk
  obtain⟨c,hc⟩:=I.ok.has x (.inl hk);obtain⟨w',z⟩:=I.cell x c hc;refine wpAny_storeName_cell I.ok.kind hk hc z (λh' hc' hs=>?_)
  obtain⟨oc,og,hocd⟩:=id z;refine h { s with heap:=h' } ⟨I.ok,I.os,I.bare,⟨λb o e n hb hx=>?_,λb o e n hb hx=>?_,I.base.free,λb o e hx=>?_,I.base.tups,I.base.frzs,I.base.tbls⟩,⟨m,hn.sameBut hs (Ne.symm (cne x c hc)),λj y v' e1 e2 e3=>?_⟩,λy c' e=>?_,I.free,I.freeC,λp hp=>?_,tracked ⟨oc,og,I.freeC x c hc⟩ hs,by simpa using I.len⟩ ⟨c,hs,.inr hc⟩
  ·exact (hs.2 b (WL (Wt (Wo e) (I.ok.cab x c n9 hc)))).trans (I.base.keep b o e n hb hx)
  ·obtain⟨sl,e1⟩:=I.base.slot b o e n hb hx;exact⟨sl,(hs.2 b (WL (Wt (Wo e) (I.ok.cab x c n9 hc)))).trans e1⟩
  ·obtain⟨o',e1⟩:=I.base.there b o e hx;exact⟨o',(hs.2 b (WL (Wt (Wo e) (I.ok.cab x c n9 hc)))).trans e1⟩
  ·by_cases hj:j=i
   ·subst hj;rw[hi]at e1;cases e1;rw[W8 hiσ]at e2;cases e2;exact⟨u,r,.inr ⟨.inl hk,c,hc,hc'⟩⟩
   ·rw[Xh (Ne.symm hj)]at e2;obtain⟨u',r',q⟩:=hl j y v' e1 e2 e3;refine⟨u',r',?_⟩;rcases q with q | ⟨k,c',e,z'⟩
    ·exact .inl q
    ·refine .inr ⟨k,c',e,z'.sameBut hs ?_⟩;rintro rfl;exact hj (nodup_ix hN e1 (I.ok.inj _ _ _ e hc ▸ hi))
  ·by_cases hcc:c'=c
   ·subst hcc;exact⟨_,hc'⟩
   ·obtain⟨w2,z2⟩:=I.cell y c' e;exact⟨w2,z2.sameBut hs hcc⟩
  ·obtain⟨e,n,ne,nf,d⟩:=I.pin p hp;refine⟨(hs.2 p.1 ?_).trans e,n,ne,nf,d⟩;intro q;rw[q,og]at e;have q':oc=p.2:=Ws e;exact d w' (by rw[<-q'];exact hocd)
def store_ok(I:Inv X aaW σ H s)(hN:X.N.Nodup)(hi:X.N[i]?=some x)(hx:Loc X.env.scope x)(r:RelV v u)
  (h:∀s',Inv X aaW (σ.set i (some v)) H s'->Q () s') (hf:X.fn x=true\/X.env.scope.names.lookup x=some .local:=by first | exact .inl rfl | exact .inr rfl | assumption):wpAny M A (storeName X.env x u) Q E s:=
 store_ok2 I hN hi hx r (λs' I' z=>h s' I') hf
def Inv.call'(I:Inv X aaW σ H s)(ho:s'.os=s.os)(u:Un (frs X.stack) ch H H' s.heap s'.heap)(hok:HOk X.prog X.w H' s'.heap)(hg:AllBare s'.gens)
  (ky:∀b∈ch,(b∈X.ex\/X.s₀.heap.objs.size<=b)/\b≠X.env.locals/\(∀x c,X.env.cells.lookup x=some c->c≠b)/\∀p∈X.pn++aaW,p.1≠b):Inv X aaW σ H' s':=by
 obtain⟨h',g',d',t',o'⟩:=s';have e:o'=s.os:=ho;subst e;exact I.call (g':=g') (t':=t') (d':=d') u hok hg ky
end
abbrev XK:=Value->B3->Hp->Prop
abbrev St:=List (Option V)
abbrev VK:=V->Hp->Prop
abbrev TE:=St->Hp->VK->Prop
abbrev TT:=St->Hp->(Bool->Hp->Prop)->Prop
abbrev TA:=St->Hp->(List V->Hp->Prop)->Prop
structure Ends where
 nx:St->Hp->Prop
 rt:VK
 bk:St->Hp->Prop:=λ_ _=>False
 ct:St->Hp->Prop:=λ_ _=>False
abbrev TS:=Ends->St->Hp->Prop
def EP(X:Cx)(aaW:A8)(σ:St)(Q:VK)(u:Value)(s':Shared):Prop:=∃v H',Inv X aaW σ H' s'/\RelV v u/\Q v H'
def TP(X:Cx)(aaW:A8)(σ:St)(Q:Bool->Hp->Prop)(b:Bool)(s':Shared):Prop:=∃H',Inv X aaW σ H' s'/\Q b H'
def AP(X:Cx)(aaW:A8)(σ:St)(Q:List V->Hp->Prop)(us:B5)(s':Shared):Prop:=∃vs H',Inv X aaW σ H' s'/\Vals vs us/\Q vs H'
def SP(X:Cx)(aaW:A8)(D:Ends)(f:Flow)(s':Shared):Prop:=
 match f with
 |.next=>∃σ' H',Inv X aaW σ' H' s'/\D.nx σ' H'
 |.brk=>∃σ' H',Inv X aaW σ' H' s'/\D.bk σ' H'
 |.cont=>∃σ' H',Inv X aaW σ' H' s'/\D.ct σ' H'
 |.ret u=>∃v σ' H',Inv X aaW σ' H' s'/\RelV v u/\D.rt v H'
def PE(X:Cx)(e:Expr)(t:TE):Prop:=
 ∀(aaW:A8) (s:Shared) (σ:St) (H:Hp) (Q:VK),Inv X aaW σ H s->t σ H Q->wpAny X.M X.A (eval e X.env) (EP X aaW σ Q) X.xe s
def PT(X:Cx)(e:Expr)(t:TT):Prop:=
 ∀(aaW:A8) (s:Shared) (σ:St) (H:Hp) (Q:Bool->Hp->Prop),Inv X aaW σ H s->t σ H Q->wpAny X.M X.A (isTrue e X.env (eval e X.env)) (TP X aaW σ Q) X.xe s
def PW(X:Cx)(e:Expr)(t:TT):Prop:=
 ∀(whole:Sem Value) (aaW:A8) (s:Shared) (σ:St) (H:Hp) (Q:Bool->Hp->Prop),Inv X aaW σ H s->t σ H Q->wpAny X.M X.A (isTrue e X.env whole) (TP X aaW σ Q) X.xe s
def PW.pt(h:PW X e t):PT X e t:=h _
def PA(X:Cx)(es:B8)(t:TA):Prop:=
 ∀(pos:Pos) (aaW:A8) (s:Shared) (σ:St) (H:Hp) (Q:List V->Hp->Prop),Inv X aaW σ H s->t σ H Q->wpAny X.M X.A (spliced (backTo pos (starEach es X.env))) (AP X aaW σ Q) X.xe s
def PS(X:Cx)(st:Stmt)(t:TS):Prop:=
 ∀(aaW:A8) (s:Shared) (σ:St) (H:Hp) (D:Ends),Inv X aaW σ H s->t D σ H->wpAny X.M X.A (exec st X.env) (SP X aaW D) X.xe s
def PSs(X:Cx)(st:List Stmt)(t:TS):Prop:=
 ∀(aaW:A8) (s:Shared) (σ:St) (H:Hp) (D:Ends),Inv X aaW σ H s->t D σ H->wpAny X.M X.A (execs st X.env) (SP X aaW D) X.xe s
def thn(h:wpAny M A t Q E s)(hQ:∀a s,Q a s->Q' a s):wpAny M A t Q' E s:=W5 h hQ λz z x=>x
open PyProof.Rows
section
variable{X:Cx}
def bin(ha:PE X a ta)(hb:PE X b tb){aaW:A8}{R:V->V->Hp->Prop}(I:Inv X aaW σ H s)(h:ta σ H λx H1=>tb σ H1 λy H2=>R x y H2)
  {α:Type}{Q:α->B2}{f:Value->Value->Sem α}
  (hf:∀v u s2 x y H2,Inv X aaW σ H2 s2->RelV x v->RelV y u->R x y H2->wpAny X.M X.A (f v u) Q X.xe s2) :
  wpAny X.M X.A (eval a X.env) (λv s₁=>wpAny X.M X.A (eval b X.env) (λu s₂=>wpAny X.M X.A (f v u) Q X.xe s₂) X.xe s₁) X.xe s:=by
 refine thn (ha aaW s σ H _ I h) λv s1 ⟨x,H1,I1,r1,q1⟩=>?_
 refine thn (hb aaW s1 σ H1 _ I1 q1) λu s2 ⟨y,H2,I2,r2,q2⟩=>?_
 exact hf v u s2 x y H2 I2 r1 r2 q2
def tVar(i:Nat):TE:=λσ H Q=>∃v,σ[i]?=some (some v)/\Q v H
def tC(v:V):TE:=λz H Q=>Q v H
def pe_var(hN:X.N[i]?=some x)(hv:Vis X.env.scope x)(hd:(x==("__debug__":Str))=false:=by decide)(ba:(x==("__classdict__":Str))=false:=by decide):PE X (.Name x pos) (tVar i):=by
 walk_at "f";obtain⟨v,e,h⟩:=h;obtain⟨m,hn,hl⟩:=I.loc;obtain⟨u,r,l⟩:=hl i x v hN e hv;have fin:EP X aaW σ Q u s:=⟨v,H,I,r,h⟩;rcases l with ⟨hk,hm⟩ | ⟨hk,c,hc,ng⟩
 ·exact wpAny_Name (wpAny_loadName_local I.ok.kind hk hn hm fin) hd
 ·rcases hk with hk | hk
  ·exact wpAny_Name (wpAny_loadName_cell I.ok.kind hk hc ng fin) hd
  ·exact wpAny_Name (wpAny_loadName_free I.ok.kind hk hc ng fin ba) hd
def pe_int{i j pos}:PE X (.Constant (.int i) j pos) (tC (.int i)):=λz z z H z I h=>wpAny_Constant_int ⟨.int i,H,I.tok _,⟨_,rfl⟩,h⟩
def pe_bl{b j pos}:PE X (.Constant (.bool b) j pos) (tC (.bl b)):=λz z z H z I h=>Constant_bool ⟨.bl b,H,I,rfl,h⟩
def pe_non{j pos}:PE X (.Constant .none j pos) (tC .non):=λz z z H z I h=>Constant_none ⟨.non,H,I,rfl,h⟩
def pe_str{x j pos}:PE X (.Constant (.str x) j pos) (tC (.str x)):=λz z z H z I h=>Calls.Constant_str ⟨.str x,H,I.tok _,⟨_,rfl⟩,h⟩
def Gl(X:Cx)(x:Str):Prop:=X.env.kindOf x=some .globalImplicit
def ld_glob(I:Inv X aaW σ H s)(hg:Gl X x)(hm:X.mg x=some u)(h:Q u s)
  (hd:(x==("__debug__":Str))=false:=by decide):wpAny X.M X.A (eval (.Name x pos) X.env) Q E s:=
 ZZ I.ok.kind hg (Calls.loadGlobal_global (by rw[I.ok.glob];exact I.mod.glob.keeps I.bk) hm h) hd
def ld_blt(I:Inv X aaW σ H s)(hg:Gl X x)(hm:X.mg x=none)(hv:bootBuiltins x=some u)(h:Q u s)
  (hn:x≠"__name__":=by decide) (hd:(x==("__debug__":Str))=false:=by decide):wpAny X.M X.A (eval (.Name x pos) X.env) Q E s:=by
 obtain⟨mb,h1,h2⟩:=I.mod.blt;exact ZZ I.ok.kind hg (Calls.loadGlobal_builtin (by rw[I.ok.glob];exact I.mod.glob.keeps I.bk) hm (by rw[I.ok.blt];exact h1.keeps I.bk) ((h2 x hn).trans hv) h) hd
def pe_glob(hg:Gl X x)(hm:X.mg x=some u)(r:RelV v u)(hd:(x==("__debug__":Str))=false:=by decide):PE X (.Name x pos) (tC v):=
 λz z z H z I h=>ld_glob I hg hm ⟨v,H,I,r,h⟩ hd
def pe_bltn(hg:Gl X x)(hm:X.mg x=none)(hv:bootBuiltins x=some u)(r:RelV v u)(hn:x≠"__name__":=by decide)(hd:(x==("__debug__":Str))=false:=by decide):PE X (.Name x pos) (tC v):=
 λz z z H z I h=>ld_blt I hg hm hv ⟨v,H,I,r,h⟩ hn hd
variable{a b:Expr}{ta tb:TE}{pos:Pos}
variable{tA tB':TT}{rest:B8}
def tAnd(t u:TT):TT:=λσ H Q=>t σ H λc H1=>if c=true then u σ H1 Q else Q false H1
def tOr(t u:TT):TT:=λσ H Q=>t σ H λc H1=>if c=true then Q true H1 else u σ H1 Q
def tNot(t:TT):TT:=λσ H Q=>t σ H λc H1=>Q (!c) H1
def pw_and1(ha:PT X a tA):PW X (.BoolOp .And [a] pos) tA:=by
 intro wh aaW s σ H Q I h;refine isTrue_and (thn (ha aaW s σ H Q I h) λc s1 e=>?_)
 cases c with
 |true=>exact isTrue_and_nil e
 |false=>exact e
def pw_or1(ha:PT X a tA):PW X (.BoolOp .Or [a] pos) tA:=by
 intro wh aaW s σ H Q I h;refine isTrue_or (thn (ha aaW s σ H Q I h) λc s1 e=>?_)
 cases c with
 |false=>exact isTrue_or_nil e
 |true=>exact e
def pw_and(ha:PT X a tA)(hb:PW X (.BoolOp .And (b::rest) pos) tB'):PW X (.BoolOp .And (a::b::rest) pos) (tAnd tA tB'):=by
 intro wh aaW s σ H Q I h;refine isTrue_and (thn (ha aaW s σ H _ I h) λc s1 ⟨H1,I1,q1⟩=>?_)
 cases c with
 |true=>exact hb wh aaW s1 σ H1 Q I1 q1
 |false=>exact⟨H1,I1,q1⟩
def pw_or(ha:PT X a tA)(hb:PW X (.BoolOp .Or (b::rest) pos) tB'):PW X (.BoolOp .Or (a::b::rest) pos) (tOr tA tB'):=by
 intro wh aaW s σ H Q I h;refine isTrue_or (thn (ha aaW s σ H _ I h) λc s1 ⟨H1,I1,q1⟩=>?_)
 cases c with
 |true=>exact⟨H1,I1,q1⟩
 |false=>exact hb wh aaW s1 σ H1 Q I1 q1
def pt_not(ha:PT X a tA):PT X (.UnaryOp .Not a pos) (tNot tA):=by walk_at "f";exact isTrue_not (ha aaW s σ H (λc H1=>Q (!c) H1) I h)
def tAndV(ta tb:TE):TE:=λσ H Q=>ta σ H λx H1=>∃c,x=.bl c/\if c=true then tb σ H1 Q else Q (.bl false) H1
def tNotV(ta:TE):TE:=λσ H Q=>ta σ H λx H1=>∃c,x=.bl c/\Q (.bl (!c)) H1
def pe_one{op}(h:PE X a t):PE X (.BoolOp op [a] pos) t:=λaaW s σ H Q I hw=>BoolOp_one (h aaW s σ H Q I hw)
def pe_and(ha:PE X a ta)(hb:PE X (.BoolOp .And (b::rest) pos) tb):PE X (.BoolOp .And (a::b::rest) pos) (tAndV ta tb):=by
 walk_at "f";refine BoolOp_and (thn (ha aaW s σ H _ I h) λv s1 ⟨x,H1,I1,r1,q1⟩=>?_)
 obtain⟨c,rfl,q1⟩:=q1;cases r1;refine Yn ?_;cases c with
 |true=>exact hb aaW s1 σ H1 Q I1 q1
 |false=>exact⟨.bl false,H1,I1,rfl,q1⟩
def pe_not(ha:PE X a ta):PE X (.UnaryOp .Not a pos) (tNotV ta):=by
 walk_at "f";refine UnaryOp_ (thn (ha aaW s σ H _ I h) λv s1 ⟨x,H1,I1,r1,q1⟩=>?_)
 obtain⟨c,rfl,q1⟩:=q1;cases r1;exact not_of (Yn ⟨.bl (!c),H1,I1,rfl,q1⟩)
def tIf(t:TT)(ta tb:TE):TE:=λσ H Q=>t σ H λc H1=>if c=true then ta σ H1 Q else tb σ H1 Q
def pe_ifExp(hc:PT X c tA)(ha:PE X a ta)(hb:PE X b tb):PE X (.IfExp c a b pos) (tIf tA ta tb):=by
 walk_at "f";refine wpAny_IfExp (thn (hc aaW s σ H _ I h) λd s1 ⟨H1,I1,q1⟩=>?_)
 cases d with
 |true=>exact ha aaW s1 σ H1 Q I1 q1
 |false=>exact hb aaW s1 σ H1 Q I1 q1
end
open PyProof.Rows
def SqL(K:B0)(H:Hp)(a:Addr)(xs:List V):Prop:=
 Rd H a (.lst xs) \/
  ∃(o:Obj) (its:B4) (n:Nat),K.lookup a=some o/\o.cls=.type "list"/\o.dict=none/\o.data=.seq its n/\its.size<=sizeLine/\Vals xs its.toList
def SqT(K:B0)(H:Hp)(a:Addr)(xs:List V):Prop:=
 Rd H a (.tup xs) \/
  ∃(o:Obj) (its:B4) (n:Nat),K.lookup a=some o/\o.cls=.type "tuple"/\o.data=.seq its n/\its.size<=sizeLine/\Vals xs its.toList
noncomputable def absV:Value->Option V
 |.none=>some .non
 |.bool b=>some (.bl b)
 |.int i _=>some (.int i)
 |.str x _=>some (.str x)
 |.bytes b _=>some (.byt b)
 |.float b _=>some (.flt b)
 |.ref a=>some (.ref a)
 |.type n=>some (.ty n)
 |_=>none
def RelV.abs(r:RelV x u):absV u=some x:=by
 cases x with
 |non=>cases r;rfl
 |bl _=>cases r;rfl
 |int _=>obtain⟨t,rfl⟩:=r;rfl
 |str _=>obtain⟨t,rfl⟩:=r;rfl
 |byt _=>obtain⟨t,rfl⟩:=r;rfl
 |flt _=>obtain⟨t,rfl⟩:=r;rfl
 |ref _=>cases r;rfl
 |ty _=>cases r;rfl
def RelV.inj(r:RelV x u)(q:RelV y u):x=y:=Ws (r.abs.symm.trans q.abs)
theorem Vals.inj:∀{xs ys:List V}{us:B5},Vals xs us->Vals ys us->xs=ys
 |_,_,_,.nil,.nil=>rfl
 |_,_,_,.cons r t,.cons r' t'=>by rw[r.inj r',Vals.inj t t']
section
variable{X:Cx}{aaW:A8}{σ:St}{H:Hp}{s:Shared}{a:Addr}{xs ys:List V}
def SqL.of{K:B0}(h:H a=some (.lst xs)):SqL K H a xs:=.inl (.inl h)
def SqT.of{K:B0}(h:H a=some (.tup xs)):SqT K H a xs:=.inl (.inl h)
def Inv.list(I:Inv X aaW σ H s)(h:SqL X.K H a xs):∃its:B5,Vals xs its/\PlainL s.heap a its.toArray/\xs.length<=sizeLine:=by
 rcases h with h | ⟨o,its,n,hk,hc,hd,hs,hz,r⟩
 ·obtain⟨z,its,n,r,e⟩:=h.ok I.hok;exact⟨its,r,⟨_,n,e,rfl,rfl,rfl⟩,z⟩
 ·refine⟨its.toList,r,⟨o,n,I.kIn a o hk,hc,hd,by simpa using hs⟩,?_⟩
  have e:=r.length;simp only[Array.length_toList]at e;omega
def Inv.tuple(I:Inv X aaW σ H s)(h:SqT X.K H a xs):∃its:B5,Vals xs its/\IsTup s.heap a its.toArray/\xs.length<=sizeLine:=by
 rcases h with h | ⟨o,its,n,hk,hc,hs,hz,r⟩
 ·obtain⟨z,its,r,p⟩:=h.ok I.hok;exact⟨its,r,p,z⟩
 ·refine⟨its.toList,r,⟨o,I.kIn a o hk,hc,n,by simpa using hs⟩,?_⟩
  have e:=r.length;simp only[Array.length_toList]at e;omega
def Inv.list_inj(I:Inv X aaW σ H s)(h:SqL X.K H a xs)(h':SqL X.K H a ys):xs=ys:=by
 obtain⟨its,r,⟨o,n,e,_,_,d⟩,_⟩:=I.list h;obtain⟨its',r',⟨o',n',e',_,_,d'⟩,_⟩:=I.list h';rw[e]at e';cases e';rw[d]at d';injection d' with d1 _
 have:its=its':=by simpa using congrArg Array.toList d1
 subst this;exact r.inj r'
def Inv.tuple_inj(I:Inv X aaW σ H s)(h:SqT X.K H a xs)(h':SqT X.K H a ys):xs=ys:=by
 obtain⟨its,r,⟨o,e,_,n,d⟩,_⟩:=I.tuple h;obtain⟨its',r',⟨o',e',_,n',d'⟩,_⟩:=I.tuple h';rw[e]at e';cases e';rw[d]at d';injection d' with d1 _
 have:its=its':=by simpa using congrArg Array.toList d1
 subst this;exact r.inj r'
end
section
variable{X:Cx}{st:Stmt}{rest:List Stmt}{t u:TS}{e:Expr}{te:TE}{pos:Pos}
def tNext:TS:=λD σ H=>D.nx σ H
def tSeq(t u:TS):TS:=λD σ H=>t { D with nx:=u D } σ H
def pss_nil:PSs X [] tNext:=λ_ _ σ H _ I h=>Z3 ⟨σ,H,I,h⟩
def pss_cons(h1:PS X st t)(h2:PSs X rest u):PSs X (st::rest) (tSeq t u):=by
 intro aaW s σ H D I h;refine wpAny_execs_cons (thn (h1 aaW s σ H { D with nx:=u D } I h) λf s1 q=>?_)
 cases f with
 |next=>obtain⟨σ',H',I',q⟩:=q;exact h2 aaW s1 σ' H' D I' q
 |ret v=>exact q
 |brk=>exact q
 |cont=>exact q
def pss_one(h1:PS X st t):PSs X [st] t:=by
 intro aaW s σ H D I h;refine wpAny_execs_cons (thn (h1 aaW s σ H D I h) λf s1 q=>?_)
 cases f with
 |next=>exact Z3 q
 |ret v=>exact q
 |brk=>exact q
 |cont=>exact q
def Inv.quiet(I:Inv X aaW σ H s):interactive X.env=false:=by simp[interactive,I.ok.kind]
def tDrop(te:TE):TS:=λD σ H=>te σ H λz H1=>D.nx σ H1
def ps_expr(he:PE X e te)(hs:swapsWith e none pos.line X.env=pure false:=by rfl):PS X (.Expr e pos) (tDrop te):=by intro aaW s σ H D I h;exact wpAny_Expr_any (thn (he aaW s σ H _ I h) λv s1 ⟨x,H1,I1,r1,q1⟩=>⟨σ,H1,I1,q1⟩) I.quiet hs
def tRet(te:TE):TS:=λD σ H=>te σ H D.rt
def ps_ret(he:PE X e te):PS X (.Return (some e) pos) (tRet te):=by intro aaW s σ H D I h;exact wpAny_Return_some (thn (he aaW s σ H _ I h) λv s1 ⟨x,H1,I1,r1,q1⟩=>⟨x,σ,H1,I1,r1,q1⟩)
def tIfS(c:TT)(t u:TS):TS:=λD σ H=>c σ H λb H1=>if b=true then t D σ H1 else u D σ H1
def ps_if(hc:PT X c tc)(ha:PSs X a t)(hb:PSs X b u):PS X (.If c a b pos) (tIfS tc t u):=by
 intro aaW s σ H D I h;refine wpAny_If (thn (hc aaW s σ H _ I h) λd s1 ⟨H1,I1,q1⟩=>?_)
 cases d with
 |true=>exact ha aaW s1 σ H1 D I1 q1
 |false=>exact hb aaW s1 σ H1 D I1 q1
end
abbrev TG:=V->St->Hp->(St->Hp->Prop)->Prop
abbrev TGs:=List V->St->Hp->(St->Hp->Prop)->Prop
def PG(X:Cx)(target:Expr)(t:TG):Prop:=
 ∀(aaW:A8) (s:Shared) (σ:St) (H:Hp) (v:V) (u:Value) (Q:St->Hp->Prop),Inv X aaW σ H s->RelV v u->t v σ H Q->
   wpAny X.M X.A (assign target X.env u) (λz s'=>∃σ' H',Inv X aaW σ' H' s'/\Q σ' H') X.xe s
def PGs(X:Cx)(ts:B8)(t:TGs):Prop:=
 ∀(aaW:A8) (s:Shared) (σ:St) (H:Hp) (vs:List V) (us:B5) (Q:St->Hp->Prop),Inv X aaW σ H s->Vals vs us->t vs σ H Q->
   wpAny X.M X.A (assignInOrder ((assignEach ts X.env).map (·.2)) us) (λz s'=>∃σ' H',Inv X aaW σ' H' s'/\Q σ' H') X.xe s
abbrev TSet:=V->V->V->Hp->(Hp->Prop)->Prop
def PSet(X:Cx)(t:TSet):Prop:=
 ∀(aaW:A8) (s:Shared) (σ:St) (H:Hp) (o i v:V) (ov iv u:Value) (Q:Hp->Prop),Inv X aaW σ H s->RelV o ov->RelV i iv->RelV v u->t o i v H Q->
   wpAny X.M X.A (setItem ov iv u) (λz s'=>∃H',Inv X aaW σ H' s'/\Q H') X.xe s
abbrev TIp:=V->V->Hp->VK->Prop
def PIp(X:Cx)(op:Operator)(t:TIp):Prop:=
 ∀(aaW:A8) (s:Shared) (σ:St) (H:Hp) (x y:V) (v u:Value) (Q:VK),Inv X aaW σ H s->RelV x v->RelV y u->t x y H Q->
   wpAny X.M X.A (inplaceOp op v u) (EP X aaW σ Q) X.xe s
section
variable{X:Cx}{pos:Pos}
def gName(i:Nat):TG:=λv σ H Q=>Q (σ.set i (some v)) H
def pg_name(hN:X.N.Nodup)(hi:X.N[i]?=some x)(hx:Loc X.env.scope x)(hf:X.fn x=true\/X.env.scope.names.lookup x=some .local:=by first | exact .inl rfl | exact .inr rfl | assumption):PG X (.Name x pos) (gName i):=by intro aaW s σ H v u Q I r h;exact wpAny_assign_Name (store_ok I hN hi hx r (λs' I'=>⟨_,H,I',h⟩) hf)
def gNil:TGs:=λvs σ H Q=>vs=[]/\Q σ H
def gCons(t:TG)(u:TGs):TGs:=λvs σ H Q=>∃v r,vs=v::r/\t v σ H λσ' H'=>u r σ' H' Q
def pgs_nil:PGs X [] gNil:=by intro aaW s σ H vs us Q I r h;obtain⟨e,h⟩:=h;subst e;cases r;exact assignInOrder_nil ⟨σ,H,I,h⟩
def pgs_cons(h1:PG X e t)(h2:PGs X es u)
  (hs:(assignEach (e::es) X.env).map (·.2)=assign e X.env::(assignEach es X.env).map (·.2):=by rfl):PGs X (e::es) (gCons t u):=by
 intro aaW s σ H vs us Q I r h;obtain⟨v,vr,e1,h⟩:=h;subst e1;cases r with
 |cons r rr=>
   rw[hs];refine YX (thn (h1 aaW s σ H _ _ _ I r h) λ_ s1 ⟨σ1,H1,I1,q1⟩=>?_)
   exact h2 aaW s1 σ1 H1 _ _ Q I1 rr q1
def gTup(K:B0)(n:Nat)(t:TGs):TG:=λv σ H Q=>∃a xs,v=.ref a/\SqT K H a xs/\xs.length=n/\t xs σ H Q
def pg_tup(hc:X.calm=true)(h:PGs X es t)
  (hn:(assignEach es X.env).length=n:=by rfl) (ax:(assignEach es X.env).findIdx? (·.1)=none:=by rfl):PG X (.Tuple es k pos) (gTup X.K n t):=by
 intro aaW s σ H v u Q I r hw;obtain⟨a,xs,e1,hq,hl,hw⟩:=hw;subst e1;cases r;obtain⟨its,rv,ht,hz⟩:=I.tuple hq;refine assign_Tuple_tuple (I.ok.hd hc) ht (by simp[hn,<-hl,rv.length]) ax λh' hx=>?_
 have I1:Inv X aaW σ H { s with heap:=h' }:=I.kept (t':=s.toks) λb o e=>hx b o (WL (Wo e)) e
 exact h aaW _ σ H xs _ Q I1 (by simpa using rv) hw
def gSub(to ti:TE)(t:TSet):TG:=λv σ H Q=>to σ H λo H1=>ti σ H1 λi H2=>t o i v H2 λH3=>Q σ H3
def pg_sub(ho:PE X o to)(hi:PE X i ti)(hs:PSet X t)
  (ha:∀v,assign (.Subscript o i pos) X.env v=(do
    let ov <-holding [v] (eval o X.env)
    let iv <-holding [v,ov] (eval i X.env)
    standAt pos
    holding [v,ov,iv] (setItem ov iv v)
    release [v,ov,iv] []):=by intro _;rfl):PG X (.Subscript o i pos) (gSub to ti t):=by
 intro aaW s σ H v u Q I r h;rw[ha];refine Wg (Xw (thn (ho aaW s σ H _ I h) λov s1 ⟨x,H1,I1,r1,q1⟩=>?_))
 refine Wg (Xw (thn (hi aaW s1 σ H1 _ I1 q1) λiv s2 ⟨y,H2,I2,r2,q2⟩=>?_))
 refine Wg (Zg (Wg (Xw (thn (hs aaW s2 σ H2 x y v ov iv u _ I2 r1 r2 r q2) λ_ s3 ⟨H3,I3,q3⟩=>?_))))
 exact wpAny_release ⟨σ,H3,I3,q3⟩
def tAsg(te:TE)(g:TG):TS:=λD σ H=>te σ H λx H1=>g x σ H1 D.nx
def ps_asg(he:PE X e te)(hg:PG X tg g)(hs:swapsWithSole [tg] e pos.line X.env=pure false:=by rfl)(hw:swappedStores [tg] e X.env=pure none:=by rfl)
  (h1:(assignEach [tg] X.env).map (·.2)=[assign tg X.env]:=by rfl):PS X (.Assign [tg] e pos) (tAsg te g):=by
 intro aaW s σ H D I h;refine wpAny_Assign_stores (thn (he aaW s σ H _ I h) λv s1 ⟨x,H1,I1,r1,q1⟩=>?_) hs hw
 rw[h1];exact thn (hg aaW s1 σ H1 x v _ I1 r1 q1) λz s2 q=>q
def ps_set(hN:X.N.Nodup)(hi:X.N[i]?=some x)(hx:Loc X.env.scope x)(he:PE X e te)(hs:swapsWith e (some (.Name x pos')) pos.line X.env=pure false:=by rfl)(hf:X.fn x=true\/X.env.scope.names.lookup x=some .local:=by first | exact .inl rfl | exact .inr rfl | assumption):
  PS X (.Assign [.Name x pos'] e pos) (tAsg te (gName i)):=by
 intro aaW s σ H D I h;refine wpAny_Assign_Name (thn (he aaW s σ H _ I h) λv s1 ⟨y,H1,I1,r1,q1⟩=>?_) hs
 exact store_ok I1 hN hi hx r1 (λs2 I2=>⟨_,H1,I2,q1⟩) hf
def tPar(i j:Nat)(ta:TA):TS:=λD σ H=>ta σ H λvs H1=>∃v w,vs=[v,w]/\D.nx ((σ.set i (some v)).set j (some w)) H1
def ps_par{kt k2 pt2}(hc:X.calm=true)(hN:X.N.Nodup)(hi:X.N[i]?=some x)(hj:X.N[j]?=some y)(cm:i≠j)
  (hx:X.env.scope.names.lookup x=some .local) (hy:X.env.scope.names.lookup y=some .local) (ha:PA X [a,b] ta)
  (hw:swappedStores [.Tuple [.Name x px,.Name y py] kt pt] (.Tuple [a,b] k2 pt2) X.env=pure (some [x,y]))
  (hs:swapsWithSole [.Tuple [.Name x px,.Name y py] kt pt] (.Tuple [a,b] k2 pt2) pos.line X.env=pure false:=by rfl) :
  PS X (.Assign [.Tuple [.Name x px,.Name y py] kt pt] (.Tuple [a,b] k2 pt2) pos) (tPar i j ta):=by
 intro aaW s σ H D I h;rw[exec_Assign_arm];refine Wg (Zg ?_);rw[hs];refine Wg (Wh ?_);rw[Ww (by decide)]
 refine Wg (Tuple_ (thn (ha _ aaW s σ H _ I h) λus s1 ⟨vs,H1,I1,r1,q1⟩=>?_))
 obtain⟨v,w,e1,q1⟩:=q1;subst e1;obtain ⟨u1,u2,rfl,rv,fm⟩:∃ u1 u2,us=[u1,u2]/\RelV v u1/\RelV w u2:=by
  cases r1 with
  | cons p q=>
    cases q with
    |cons p' q'=>cases q';exact⟨_,_,rfl,p,p'⟩
 refine Xb ?_ (by show 2<=sizeLine;decide)
 have I2:Inv X aaW σ H1 { s1 with heap:=s1.heap.push { cls:=.type "tuple",data:=.seq [u1,u2].toArray } }:=I1.kept (t':=s1.toks) λb o e=>Wi _ e
 rw[hw];refine Wg (Wh ?_);show wpAny X.M X.A (do rule "assign.swapped-stores";let items <-unpackItems (.ref s1.z) 2 none;assignInOrder [λv=>bindName X.env y v,λv=>bindName X.env x v] items.reverse;pure Flow.next) _ _ _
 refine Wg (Y8 (Wg (unpackItems_tuple (items:=#[u1,u2]) (I.ok.hd hc) (aaN s1.heap _) λh' ck=>?_)))
 have I3:=I2.kept (h':=h') (t':=s1.toks) λb o e=>ck b o (WL (Wo e)) e
 show wpAny _ _ (assignInOrder [λv=>bindName X.env y v,λv=>bindName X.env x v] [u2,u1]>>=λu=>pure Flow.next) _ _ _
 refine Wg (YX (aaf (store_ok I3 hN hj (.inl hy) fm (λs2 I4=>?_) (.inr hy))))
 refine YX (aaf (store_ok I4 hN hi (.inl hx) rv (λs3 I5=>assignInOrder_nil (Wh ?_)) (.inr hx)))
 rw[List.set_comm _ _ (Ne.symm cm)]at I5;exact⟨_,H1,I5,q1⟩
def tAugS(to ti te:TE)(oj:V->V->Hp->VK->Prop)(tip:TIp)(om:TSet):TS:=λD σ H=>to σ H λo H1=>ti σ H1 λi H2=>oj o i H2 λx H3=>te σ H3 λy H4=>tip x y H4 λz H5=>om o i z H5 λH6=>D.nx σ H6
def PGet(X:Cx)(t:V->V->Hp->VK->Prop):Prop:=
 ∀(aaW:A8) (s:Shared) (σ:St) (H:Hp) (o i:V) (ov iv:Value) (Q:VK),Inv X aaW σ H s->RelV o ov->RelV i iv->t o i H Q->
   wpAny X.M X.A (getItem ov iv) (EP X aaW σ Q) X.xe s
def ps_augS(ho:PE X o to)(hi:PE X i ti)(hg:PGet X oj)(he:PE X e te)(hp:PIp X op tip)(hs:PSet X om)
  (ha:∀ov iv new,augStore i ov iv new=(do holding [new,ov,iv] (setItem ov iv new);release [new,ov,iv] [];pure .next):=by intros;rfl):PS X (.AugAssign (.Subscript o i oo) op e pos) (tAugS to ti te oj tip om):=by
 intro aaW s σ H D I h;refine wpAny_AugAssign_SubscriptAny (thn (ho aaW s σ H _ I h) λov s1 ⟨x1,H1,I1,r1,q1⟩=>?_) ha
 refine thn (hi aaW s1 σ H1 _ I1 q1) λiv s2 ⟨x2,H2,I2,r2,q2⟩=>?_
 refine thn (hg aaW s2 σ H2 x1 x2 ov iv _ I2 r1 r2 q2) λold s3 ⟨x3,H3,I3,r3,q3⟩=>?_
 refine thn (he aaW s3 σ H3 _ I3 q3) λv s4 ⟨x4,H4,I4,r4,q4⟩=>?_
 refine thn (hp aaW s4 σ H4 x3 x4 old v _ I4 r3 r4 q4) λnew s5 ⟨x5,H5,I5,r5,q5⟩=>?_
 exact thn (hs aaW s5 σ H5 x1 x2 x5 ov iv new _ I5 r1 r2 r5 q5) λ_ s6 ⟨H6,I6,q6⟩=>⟨σ,H6,I6,q6⟩
end
section
variable{X:Cx}{pos:Pos}
def tWhile(c:TT)(tb:TS):TS:=λD σ H=>∃W:Nat->St->Hp->Prop,(∃m,W m σ H)/\∀m σ H,W m σ H->
 c σ H λb H1=>if b=true then ∃N:St->Hp->Prop,(∀σ' H',N σ' H'->∃m',m'<m/\W m' σ' H')/\tb { D with nx:=N,ct:=N,bk:=D.nx } σ H1 else D.nx σ H1
def ps_while(hp:PassesOwn X.M X.A X.env X.xe)(hc:PT X c tc)(hb:PSs X body tb):PS X (.While c body [] pos) (tWhile tc tb):=by
 intro aaW s σ H D I h;obtain⟨W,⟨m0,w0⟩,turn⟩:=h;refine wpAny_While (codeAny_whileLoop (λn s'=>∃σ' H',Inv X aaW σ' H' s'/\W n σ' H') ?_ m0 ⟨σ,H,I,w0⟩)
 rintro n s1 ⟨σ1,H1,I1,w1⟩;refine Y4 hp (thn (hc aaW s1 σ1 H1 _ I1 (turn n σ1 H1 w1)) λb s2 ⟨H2,I2,q2⟩=>?_)
 cases b with
 | true=>
   obtain⟨N,hN,q2⟩:=q2;rw[Wq rfl];refine Y4 hp (thn (hb aaW s2 σ1 H2 _ I2 q2) λf s3 q3=>?_)
   cases f with
   |next=>obtain⟨σ3,H3,I3,n3⟩:=q3;obtain⟨m',hm,w3⟩:=hN σ3 H3 n3;exact⟨m',hm,σ3,H3,I3,w3⟩
   |cont=>obtain⟨σ3,H3,I3,n3⟩:=q3;obtain⟨m',hm,w3⟩:=hN σ3 H3 n3;exact⟨m',hm,σ3,H3,I3,w3⟩
   |brk=>exact q3
   |ret v=>exact q3
 |false=>rw[Ww WT];exact Z3 ⟨σ1,H2,I2,q2⟩
end
structure It where
 go:Nat->Hp->Prop
 yld:Nat->Hp->V->Hp->Prop
 stop:Nat->Hp->Prop
def FpOk(X:Cx)(aaW:A8)(H:Hp)(b:Addr):Prop:=
 H b=none/\b≠X.env.locals/\b∉X.fs/\(b∈X.ex\/X.s₀.heap.objs.size<=b)/\(∀x c,X.env.cells.lookup x=some c->c≠b)/\∀p∈X.pn++aaW,p.1≠b
def Inv.fpOk(I:Inv X aaW σ H s)(hb:s.z<=b)(hn:H' b=none):FpOk X aaW H' b:=by
 refine⟨hn,Z6 (Wt I.lt hb),I.nofs hb,.inr (W0 I.sz hb),λx c e z=>?_,λp hp z=>?_⟩
 ·obtain⟨v,q⟩:=I.cell x c e;exact absurd (Wt q.lt (by rw[z];exact hb)) (Yy _)
 ·exact absurd (Wt (Wo (I.pin p hp).1) (by rw[z];exact hb)) (Yy _)
structure Turn(P:C5)(w:World)(K:B0)(tg:Expr)(J:It)(fp:B7)(it:Addr)(tn:Nat->B6):Prop where
 mem:it∈fp
 obj:∀i h,tn i h->∀b∈fp,∃o,h.get? b=some o/\∀v,o.data≠.cell v
 keep:∀i h h',tn i h->(∀b∈fp,∀o,h.get? b=some o->h'.get? b=some o)->tn i h'
 item:∀(X:Cx),X.prog=P->X.w=w->X.K=K->X.calm=true->∀(i:Nat) (aaW:A8) (s:Shared) (σ:St) (H:Hp) (E:A3),Inv X aaW σ H s->(∀b∈fp,FpOk X aaW H b)->tn i s.heap->J.go i H->
  wpAny (model P w) X.A (pyNext (.ref it)) (λr s1=>∃u,r=some u /\
   wpAny (model P w) X.A (letOwnedTupleGo tg (.ref it) u) (λ_ s2=>∃x H',Inv X aaW σ H' s2/\RelV x u/\J.yld i H x H'/\tn (i+1) s2.heap/\∀b∈fp,H' b=none) E s1) E s
 done:∀(X:Cx),X.prog=P->X.w=w->X.K=K->X.calm=true->∀(i:Nat) (aaW:A8) (s:Shared) (σ:St) (H:Hp) (E:A3),Inv X aaW σ H s->(∀b∈fp,FpOk X aaW H b)->tn i s.heap->J.stop i H->
  wpAny (model P w) X.A (pyNext (.ref it)) (λr s1=>r=none/\Inv X aaW σ H s1) E s
 self:∀(A:Around) (i:Nat) (s:Shared) (Q:A3) (E:A3),tn i s.heap->Q (.ref it) s->wpAny (model P w) A (pyIter (.ref it)) Q E s
abbrev TI:=St->Hp->(It->Hp->Prop)->Prop
def PIE(X:Cx)(aaW:A8)(σ:St)(tg:Expr)(R:It->Hp->Prop)(itv:Value)(s2:Shared):Prop:=
 ∃(it:Addr) (fp:B7) (tn:Nat->B6) (J:It) (H':Hp),itv=.ref it/\Inv X aaW σ H' s2/\Turn X.prog X.w X.K tg J fp it tn/\tn 0 s2.heap/\(∀b∈fp,FpOk X aaW H' b)/\R J H'
def PI(X:Cx)(tg iter:Expr)(wi:TI):Prop:=
 ∀(aaW:A8) (s:Shared) (σ:St) (H:Hp) (R:It->Hp->Prop),Inv X aaW σ H s->wi σ H R->
   wpAny X.M X.A (eval iter X.env) (λv s1=>wpAny X.M X.A (pyIter v) (PIE X aaW σ tg R) X.xe s1) X.xe s
def go_of(ho:s.heap.get? it=some o)(hc:o.cls=.type n)(hd:o.data=.fields vs)
  (hn:["enumerate", "zip", "dict_itemiterator", "dict_reverseitemiterator", "odict_iterator", "itertools.zip_longest", "itertools.pairwise"].contains n=false) (hQ:Q () s):wpAny M A (letOwnedTupleGo tg (.ref it) u) Q E s:=by
 unfold letOwnedTupleGo;cases tg<;>first
  |exact Wh hQ
  | (cases u<;>first
      |exact Wh hQ
      | (refine wpAny_bind (wpAny_load ho ?_)
         rw[hc,hd];show wpAny M A (if (["enumerate", "zip", "dict_itemiterator", "dict_reverseitemiterator", "odict_iterator", "itertools.zip_longest", "itertools.pairwise"].contains n&&vs[0]?==some (rawInt _))=true then _ else _) Q E s
         rw[Ww (by intro h;rw[hn,Bool.false_and]at h;cases h)]
         exact Wh hQ))
def Itl(K:B0)(a:Addr):It:=
 ⟨λi H=>∃xs x,SqL K H a xs/\xs[i]?=some x,λi H x H'=>H'=H/\∀xs,SqL K H a xs->xs[i]?=some x,λi H=>∃xs,SqL K H a xs/\xs.length<=i⟩
def Itt(K:B0)(a:Addr):It:=
 ⟨λi H=>∃xs x,SqT K H a xs/\xs[i]?=some x,λi H x H'=>H'=H/\∀xs,SqT K H a xs->xs[i]?=some x,λi H=>∃xs,SqT K H a xs/\xs.length<=i⟩
def Itr(lo:Int)(n:Nat):It:=⟨λi z=>i<n,λi H x H'=>H'=H/\x=.int (lo+i),λi z=>n<=i⟩
def turn_list{P:C5}{w:World}{K:B0}{tg:Expr}(a it:Addr):Turn P w K tg (Itl K a) [it] it (λi h=>h.IsListIter it a i) where
 mem:=by simp
 obj:=λi h st b hb=>by
  have e:b=it:=by simpa using hb
  subst e;obtain⟨o,e,c,d⟩:=st;exact⟨o,e,λv z=>by rw[d]at z;cases z⟩
 keep:=λi h h' st k=>st.at λo e=>k it (by simp) o e
 item:=by
  walk_at "d";obtain⟨xs,x,hq,hx⟩:=hg;obtain⟨its,rv,p,hz⟩:=I.list hq;obtain⟨u,hu,ru⟩:=rv.get hx;obtain⟨f0,f1,f2,f3,f4,f5⟩:=hf it (by simp)
  refine wpAny_pyNext_list_item st p.isList (x:=u) (by simpa using hu) λh' gp sb=>?_
  have I1:Inv X aaW σ H { s with heap:=h' }:=I.turned (t':=s.toks) (λb o hb e=>(sb.2 b hb).trans e) f0 f1 f3 f4 f5
  obtain⟨o,e,c,d⟩:=id gp;exact⟨u,rfl,go_of (s:={ s with heap:=h' }) e c d (by decide) ⟨x,H,I1,ru,⟨rfl,λys hy=>by rw[I.list_inj hy hq];exact hx⟩,gp,λb hb=>(hf b hb).1⟩⟩
 done:=by
  walk_at "d";obtain⟨xs,hq,hx⟩:=hg;obtain⟨its,rv,p,hz⟩:=I.list hq;obtain⟨f0,f1,f2,f3,f4,f5⟩:=hf it (by simp)
  have hl:=rv.length;exact wpAny_pyNext_list_end (I.ok.hd hc) st p.isList (by simp;omega) λh' eb=>⟨rfl,I.turned (t':=s.toks) (λb o hb e=>eb b o hb e) f0 f1 f3 f4 f5⟩
 self:=λy y y y y st h=>wpAny_pyIter_listiter st h
def turn_tuple{P:C5}{w:World}{K:B0}{tg:Expr}(a it:Addr):Turn P w K tg (Itt K a) [it] it (λi h=>h.IsTupleIter it a i) where
 mem:=by simp
 obj:=λi h st b hb=>by
  have e:b=it:=by simpa using hb
  subst e;obtain⟨o,e,c,d⟩:=st;exact⟨o,e,λv z=>by rw[d]at z;cases z⟩
 keep:=λi h h' st k=>st.at λo e=>k it (by simp) o e
 item:=by
  walk_at "d";obtain⟨xs,x,hq,hx⟩:=hg;obtain⟨its,rv,p,hz⟩:=I.tuple hq;obtain⟨u,hu,ru⟩:=rv.get hx;obtain⟨f0,f1,f2,f3,f4,f5⟩:=hf it (by simp)
  refine wpAny_pyNext_tuple_item st (show s.heap.IsTuple a its.toArray from p) (x:=u) (by simpa using hu) λh' gp sb=>?_
  have I1:Inv X aaW σ H { s with heap:=h' }:=I.turned (t':=s.toks) (λb o hb e=>(sb.2 b hb).trans e) f0 f1 f3 f4 f5
  obtain⟨o,e,c,d⟩:=id gp;exact⟨u,rfl,go_of (s:={ s with heap:=h' }) e c d (by decide) ⟨x,H,I1,ru,⟨rfl,λys hy=>by rw[I.tuple_inj hy hq];exact hx⟩,gp,λb hb=>(hf b hb).1⟩⟩
 done:=by
  walk_at "d";obtain⟨xs,hq,hx⟩:=hg;obtain⟨its,rv,p,hz⟩:=I.tuple hq;obtain⟨f0,f1,f2,f3,f4,f5⟩:=hf it (by simp)
  have hl:=rv.length;exact wpAny_pyNext_tuple_end (I.ok.hd hc) st (show s.heap.IsTuple a its.toArray from p) (by simp;omega) λh' eb=>⟨rfl,I.turned (t':=s.toks) (λb o hb e=>eb b o hb e) f0 f1 f3 f4 f5⟩
 self:=λy y y y y st h=>wpAny_pyIter_tupleiter st h
def turn_range{P:C5}{w:World}{K:B0}{tg:Expr}(it:Addr)(lo:Int)(n:Nat):Turn P w K tg (Itr lo n) [it] it (λi h=>IsRangeIter h it (lo + (i:Nat) * 1) ((n:Int) - (i:Nat)) 1) where
 mem:=by simp
 obj:=λi h st b hb=>by
  have e:b=it:=by simpa using hb
  subst e;exact⟨_,st,λv z=>by have z':Data.fields _=Data.cell v:=z;cases z'⟩
 keep:=λi h h' st k=>k it (by simp) _ st
 item:=by
  walk_at "d";obtain⟨f0,f1,f2,f3,f4,f5⟩:=hf it (by simp)
  have W:=Walks.range (prog:=X.prog) (w:=X.w) (I.ok.hd hc) it lo 1 n;refine W.item i s _ _ hg st λv h' tk hv gp kk=>?_
  obtain⟨t,rfl⟩:=hv;have I1:Inv X aaW σ H { s with heap:=h',toks:=tk }:=I.turned (λb o hb e=>kk b o (by simpa using hb) e) f0 f1 f3 f4 f5
  refine⟨_,rfl,go_of (s:={ s with heap:=h',toks:=tk }) (n := "range_iterator") gp rfl rfl (by decide) ⟨.int (lo+i),H,I1,⟨t,?_⟩,⟨rfl,rfl⟩,gp,λb hb=>(hf b hb).1⟩⟩
  rw[Int.mul_one]
 done:=by
  walk_at "d";obtain⟨f0,f1,f2,f3,f4,f5⟩:=hf it (by simp)
  exact wpAny_pyNext_range_end (I.ok.hd hc) st (by have:n<=i:=hg;omega) λh' eb=>⟨rfl,I.turned (t':=s.toks) (λb o hb e=>eb b o hb e) f0 f1 f3 f4 f5⟩
 self:=λy y y y y st h=>wpAny_pyIter_rangeiter st h
open PyProof.Rows
section
variable{X:Cx}{tg:Expr}
def iList(K:B0)(tl:TE):TI:=λσ H R=>tl σ H λx H1=>∃a,x=.ref a/\(∃xs,SqL K H1 a xs)/\R (Itl K a) H1
def iTup(K:B0)(tl:TE):TI:=λσ H R=>tl σ H λx H1=>∃a,x=.ref a/\(∃xs,SqT K H1 a xs)/\R (Itt K a) H1
def pi_list{l:Expr}{tl:TE}(hl:PE X l tl):PI X tg l (iList X.K tl):=by
 intro aaW s σ H R I h;refine thn (hl aaW s σ H _ I h) λv s1 ⟨x,H1,I1,r1,q1⟩=>?_
 obtain⟨a,e,⟨xs,hq⟩,q⟩:=q1;subst e;cases r1;obtain⟨its,rv,p,hz⟩:=I1.list hq;refine aaq p.isList ?_;refine⟨s1.z,[s1.z],_,_,H1,rfl,I1.kept (t':=s1.toks) λb o e=>Wi _ e,turn_list a _,⟨_,Wu _ rfl,rfl,rfl⟩,λb hb=>?_,q⟩
 have e:b=s1.z:=by simpa using hb
 subst e;exact I1.fpOk (Wn _) (I1.hok.fresh (Wn _))
def pi_tup{l:Expr}{tl:TE}(hl:PE X l tl):PI X tg l (iTup X.K tl):=by
 intro aaW s σ H R I h;refine thn (hl aaW s σ H _ I h) λv s1 ⟨x,H1,I1,r1,q1⟩=>?_
 obtain⟨a,e,⟨xs,hq⟩,q⟩:=q1;subst e;cases r1;obtain⟨its,rv,p,hz⟩:=I1.tuple hq;refine wpAny_pyIter_tuple (show s1.heap.IsTuple a its.toArray from p) ?_
 refine⟨s1.z,[s1.z],_,_,H1,rfl,I1.kept (t':=s1.toks) λb o e=>Wi _ e,turn_tuple a _,⟨_,Wu _ rfl,rfl,rfl⟩,λb hb=>?_,q⟩
 have e:b=s1.z:=by simpa using hb
 subst e;exact I1.fpOk (Wn _) (I1.hok.fresh (Wn _))
def range_it{aaW:A8}{R:It->Hp->Prop}{E:A3}{lo hi:Int}{tk:Nat}(I:Inv X aaW σ H s)(h1:-(2^62)<=lo)(h2:lo<2^62)(h3:-(2^62)<=hi)(h4:hi<2^62)
  (q:R (Itr lo (hi-lo).toNat) H):wpAny X.M X.A (pyIter (.ref s.z)) (PIE X aaW σ tg R) E { s with heap:=s.heap.push { cls:=.type "range",data:=.fields #[.int lo t,.int hi u,.int 1 v] },toks:=tk }:=by
 refine wpAny_pyIter_range (IsRange.new ..) (small_one h1 h2 h3 h4) ?_;have I1:Inv X aaW σ H { s with heap:=s.heap.push { cls:=.type "range",data:=.fields #[.int lo t,.int hi u,.int 1 v] },toks:=tk }:=I.kept λb o e=>Wi _ e
 refine⟨(s.heap.push { cls:=.type "range",data:=.fields #[.int lo t,.int hi u,.int 1 v] }).objs.size,[(s.heap.push { cls:=.type "range",data:=.fields #[.int lo t,.int hi u,.int 1 v] }).objs.size],_,_,H,rfl,
  I1.kept (t':=tk) λb o e=>Wi _ e,turn_range _ lo (hi-lo).toNat,?_,λb hb=>?_,q⟩
 ·have e1:lo+((0:Nat):Int)*1=lo:=by simp
  have e2:(((hi-lo).toNat:Nat):Int)-((0:Nat):Int)=Builtin.Range.rangeSize lo hi 1:=by rw[rangeSize_one];split<;>omega
  show IsRangeIter _ _ (lo+((0:Nat):Int)*1) ((((hi-lo).toNat:Nat):Int)-((0:Nat):Int)) 1;rw[e1,e2];exact Wu _ rfl
 ·have e:b=(s.heap.push { cls:=.type "range",data:=.fields #[.int lo t,.int hi u,.int 1 v] }).objs.size:=by simpa using hb
  subst e;exact I1.fpOk (Wn _) (I1.hok.fresh (Wn _))
def iRng1(ta:TA):TI:=λσ H R=>ta σ H λvs H1=>∃j:Int,vs=[.int j]/\-(2^62)<=j/\j<2^62/\R (Itr 0 j.toNat) H1
def iRng2(ta:TA):TI:=λσ H R=>ta σ H λvs H1=>∃i j:Int,vs=[.int i,.int j]/\(-(2^62)<=i/\i<2^62/\-(2^62)<=j/\j<2^62)/\R (Itr i (j-i).toNat) H1
def pi_range1(hg:Gl X "range")(hm:X.mg "range"=none)(ha:PA X [a] ta)(hs:starEach [a] X.env=[(false,eval a X.env)]:=by rfl):PI X tg (.Call (.Name "range" p) [a] [] pos) (iRng1 ta):=by
 intro aaW s σ H R I h;refine Call_ (ld_blt I hg hm boot_range (Xf (thn (ha pos aaW s σ H _ I h) λus s1 ⟨vs,H1,I1,r1,q1⟩=>?_) hs rfl))
 obtain⟨j,e,q1,q2,q⟩:=q1;subst e;cases r1 with
 |cons r rr=>cases rr;obtain⟨t,rfl⟩:=r;exact call_range_1 (range_it I1 (by omega) (by omega) q1 q2 (by simpa using q))
def pi_range2(hg:Gl X "range")(hm:X.mg "range"=none)(ha:PA X [a,b] ta)(hs:starEach [a,b] X.env=[(false,eval a X.env),(false,eval b X.env)]:=by rfl)(ij:starEach [b] X.env=[(false,eval b X.env)]:=by rfl):
  PI X tg (.Call (.Name "range" p) [a,b] [] pos) (iRng2 ta):=by
 intro aaW s σ H R I h;refine Call_ (ld_blt I hg hm boot_range (Xf (thn (ha pos aaW s σ H _ I h) λus s1 ⟨vs,H1,I1,r1,q1⟩=>?_) (by rw[hs,ij]) (by rw[ij];rfl)))
 obtain⟨i,j,e,⟨q1,q2,q3,q4⟩,q⟩:=q1;subst e;cases r1 with
 | cons r rr=>
   cases rr with
   |cons r' rr=>cases rr;obtain⟨t,rfl⟩:=r;obtain⟨t',rfl⟩:=r';exact call_range_2 (range_it I1 q1 q2 q3 q4 q)
def tFor(wi:TI)(g:TG)(tb:TS):TS:=λD σ H=>wi σ H λJ H1=>∃W:Nat->Nat->St->Hp->Prop,(∃m,W 0 m σ H1)/\∀i m σ H,W i m σ H->
 (J.stop i H/\D.nx σ H)\/(J.go i H/\∃N:St->Hp->Prop,(∀σ' H',N σ' H'->∃m',m'<m/\W (i+1) m' σ' H')/\∀x H',J.yld i H x H'->g x σ H' λσ2 H2=>tb { D with nx:=N,ct:=N,bk:=D.nx } σ2 H2)
def pinsAt(fp:B7)(h:Heap):A8:=fp.filterMap λb=>(h.get? b).map λo=>(b,o)
def mem_pinsAt(hb:b∈fp)(e:h.get? b=some o):(b,o)∈pinsAt fp h:=Z8.mpr ⟨b,hb,by rw[e];rfl⟩
def of_pinsAt(hp:p∈pinsAt fp h):p.1∈fp/\h.get? p.1=some p.2:=by
 obtain⟨b,hb,e⟩:=Z8.mp hp;cases q:h.get? b with
 |none=>rw[q]at e;cases e
 |some o=>rw[q]at e;have e':(b,o)=p:=Ws e;subst e';exact⟨hb,q⟩
def Inv.pinned(I:Inv X aaW σ H s)(hf:∀b∈fp,FpOk X aaW H b)(ho:∀b∈fp,∃o,s.heap.get? b=some o/\∀v,o.data≠.cell v):Inv X (aaW++pinsAt fp s.heap) σ H s:=
 I.pins_of λp hp=>(WF.mp hp).elim (λz=>I.pin p (Xc _ z)) λz=>by obtain⟨hb,e⟩:=of_pinsAt z;obtain⟨f0,f1,f2,_⟩:=hf p.1 hb;obtain⟨o,e',d⟩:=ho p.1 hb;rw[e]at e';cases e';exact⟨e,f0,f1,f2,d⟩
def Inv.unpinned(I:Inv X (aaW++pl) σ H s):Inv X aaW σ H s:=I.pins_of λp hp=>I.pin p (Xc _ (Xm _ hp))
def ps_for(hp:PassesOwn X.M X.A X.env X.xe)(hc:X.calm=true)(hi:PI X tg iter wi)(hg:PG X tg g)(hb:PSs X body tb)
  (hs:∀x,foldedSetIterable iter X.env x=pure x:=by intro _;rfl):PS X (.For tg iter body [] pos) (tFor wi g tb):=by
 intro aaW s σ H D I h;refine wpAny_For (thn (hi aaW s σ H _ I h) λv s1 h1=>thn h1 λitv s2 h2=>?_) hs
 obtain⟨it,fp,tn,J,H2,e,I2,T,st2,f2,W,⟨m0,w0⟩,turn⟩:=h2;subst e
 -- what stays true of the iterator's objects through the loop
 have oq:∀{H':Hp},(∀b∈fp,H' b=none)->∀b∈fp,FpOk X aaW H' b:=λhn b hb=>⟨hn b hb,(f2 b hb).2⟩
 refine codeAny_forLoop_any (λn s'=>∃i σ' H',Inv X aaW σ' H' s'/\tn i s'.heap/\(∀b∈fp,H' b=none)/\W i n σ' H') ?_ m0 ⟨0,σ,H2,I2,st2,λb hb=>(f2 b hb).1,w0⟩
 rintro n s3 ⟨i,σ3,H3,I3,st3,fr3,w3⟩;rcases turn i n σ3 H3 w3 with ⟨stop,qn⟩ | ⟨go,N,hN,step⟩
 ·refine Y4 hp (thn (T.done X rfl rfl rfl hc i aaW s3 σ3 H3 X.xe I3 (oq fr3) st3 stop) λr s4 ⟨hr,I4⟩=>?_)
  subst hr;exact Z3 ⟨σ3,H3,I4,qn⟩
 ·refine Y4 hp (thn (T.item X rfl rfl rfl hc i aaW s3 σ3 H3 X.xe I3 (oq fr3) st3 go) λr s4 ⟨u,hr,h4⟩=>?_)
  subst hr;refine Y4 hp (thn h4 λ_ s5 ⟨x,H5,I5,r5,y5,st5,fr5⟩=>?_)
  have I5':=I5.pinned (oq fr5) (T.obj _ _ st5);refine Y4 hp (thn (hg _ s5 σ3 H5 x u _ I5' r5 (step x H5 y5)) λ_ s6 ⟨σ6,H6,I6,q6⟩=>?_)
  refine Y4 hp (thn (hb _ s6 σ6 H6 _ I6 q6) λf s7 q7=>?_)
  have again:∀{σ7:St}{H7:Hp},Inv X (aaW++pinsAt fp s5.heap) σ7 H7 s7->N σ7 H7->∃m,m<n/\∃i σ' H',Inv X aaW σ' H' s7/\tn i s7.heap/\(∀b∈fp,H' b=none)/\W i m σ' H':=λ{σ7 H7} I7 n7=>by
   obtain⟨m',hm,w7⟩:=hN σ7 H7 n7;refine⟨m',hm,i+1,σ7,H7,I7.unpinned,T.keep _ _ _ st5 λb hb o e=>(I7.pin (b,o) (Xc _ (Xc _ (mem_pinsAt hb e)))).1,λb hb=>?_,w7⟩
   obtain⟨o,e,d⟩:=T.obj _ _ st5 b hb;exact (I7.pin (b,o) (Xc _ (Xc _ (mem_pinsAt hb e)))).2.1
  cases f with
  |next=>obtain⟨σ7,H7,I7,n7⟩:=q7;exact again I7 n7
  |cont=>obtain⟨σ7,H7,I7,n7⟩:=q7;exact again I7 n7
  |brk=>obtain⟨σ7,H7,I7,q7⟩:=q7;exact⟨σ7,H7,I7.unpinned,q7⟩
  |ret v=>obtain⟨x7,σ7,H7,I7,r7,q7⟩:=q7;exact⟨x7,σ7,H7,I7.unpinned,r7,q7⟩
end
open PyProof.Rows
abbrev R2:=V->V->Hp->VK->Prop
def OpR(X:Cx)(f:Value->Value->Sem Value)(r:R2):Prop:=
 ∀(aaW:A8) (s:Shared) (σ:St) (H:Hp) (x y:V) (v u:Value) (Q:VK),Inv X aaW σ H s->RelV x v->RelV y u->r x y H Q->
   wpAny X.M X.A (f v u) (EP X aaW σ Q) X.xe s
def UnR(X:Cx)(f:Value->Sem Value)(r:V->Hp->VK->Prop):Prop:=
 ∀(aaW:A8) (s:Shared) (σ:St) (H:Hp) (x:V) (v:Value) (Q:VK),Inv X aaW σ H s->RelV x v->r x H Q->
   wpAny X.M X.A (f v) (EP X aaW σ Q) X.xe s
def CallR(X:Cx)(f:Value)(r:List V->Hp->VK->Prop):Prop:=
 ∀(aaW:A8) (s:Shared) (σ:St) (H:Hp) (xs:List V) (us:B5) (Q:VK),Inv X aaW σ H s->Vals xs us->r xs H Q->
   wpAny X.M X.A (call f us) (EP X aaW σ Q) X.xe s
def TruR(X:Cx)(r:V->Hp->(Bool->Hp->Prop)->Prop):Prop:=
 ∀(aaW:A8) (s:Shared) (σ:St) (H:Hp) (x:V) (v:Value) (Q:Bool->Hp->Prop),Inv X aaW σ H s->RelV x v->r x H Q->
   wpAny X.M X.A (truthy v) (TP X aaW σ Q) X.xe s
def tOp(r:R2)(ta tb:TE):TE:=λσ H Q=>ta σ H λx H1=>tb σ H1 λy H2=>r x y H2 Q
def tUn(r:V->Hp->VK->Prop)(ta:TE):TE:=λσ H Q=>ta σ H λx H1=>r x H1 Q
def rI(C:Int->Int->Prop)(g:Int->Int->V):R2:=λx y H Q=>∃i j,x=.int i/\y=.int j/\C i j/\Q (g i j) H
def rI0(g:Int->Int->V):R2:=λx y H Q=>∃i j,x=.int i/\y=.int j/\Q (g i j) H
def rU(g:Int->V):V->Hp->VK->Prop:=λx H Q=>∃i,x=.int i/\Q (g i) H
section
variable{X:Cx}{a b c:Expr}{ta tb tc:TE}{pos:Pos}
def binT(ha:PE X a ta)(hb:PE X b tb){aaW:A8}{R:V->V->Hp->Prop}(I:Inv X aaW σ H s)
  (h:ta σ H λx H1=>tb σ H1 λy H2=>R x y H2) {Q:A3}{f:Value->Value->Sem Value}
  (hf:∀v u s2 x y H2,Inv X aaW σ H2 s2->RelV x v->RelV y u->R x y H2->wpAny X.M X.A (f v u) Q X.xe s2) :
  wpAny X.M X.A (eval a X.env) (λv s₁=>wpAny X.M X.A (eval b X.env) (λu s₂=>wpAny X.M X.A (f v u) Q X.xe s₂) X.xe s₁) X.xe s:=by
 refine thn (ha aaW s σ H _ I h) λv s1 ⟨x,H1,I1,r1,q1⟩=>?_
 refine thn (hb aaW s1 σ H1 _ I1 q1) λu s2 ⟨y,H2,I2,r2,q2⟩=>?_
 exact hf v u s2 x y H2 I2 r1 r2 q2
def pe_op(ho:OpR X (binaryOp op) r)(ha:PE X a ta)(hb:PE X b tb):PE X (.BinOp a op b pos) (tOp r ta tb):=by walk_at "f";exact wpAny_BinOp (binT ha hb I h λv u s2 x y H2 I2 rx ry q=>ho aaW s2 σ H2 x y v u Q I2 rx ry q)
def pe_un(ho:UnR X (unaryOp op) r)(ha:PE X a ta):PE X (.UnaryOp op a pos) (tUn r ta):=by walk_at "f";exact UnaryOp_ (thn (ha aaW s σ H _ I h) λv s1 ⟨x,H1,I1,r1,q1⟩=>ho aaW s1 σ H1 x v Q I1 r1 q1)
def opI{f:Value->Value->Sem Value}{C:Int->Int->Prop}{g:Int->Int->Int}
  (rule:∀(i j:Int) (t u:Tok) (s:Shared) (Q:A3) (E:A3),C i j->Q (.int (g i j) s.toks) { s with toks:=s.toks+1 }->wpAny X.M X.A (f (.int i t) (.int j u)) Q E s) :
  OpR X f (rI C λi j=>.int (g i j)):=by
 walk_at "e";obtain⟨i,j,rfl,rfl,hc,q⟩:=h;obtain⟨t,rfl⟩:=rx;obtain⟨t',rfl⟩:=ry;exact rule i j t t' s _ _ hc ⟨.int (g i j),H,I.tok _,⟨_,rfl⟩,q⟩
def opI0{f:Value->Value->Sem Value}{g:Int->Int->Int}
  (rule:∀(i j:Int) (t u:Tok) (s:Shared) (Q:A3) (E:A3),Q (.int (g i j) s.toks) { s with toks:=s.toks+1 }->wpAny X.M X.A (f (.int i t) (.int j u)) Q E s) :
  OpR X f (rI0 λi j=>.int (g i j)):=by
 walk_at "e";obtain⟨i,j,rfl,rfl,q⟩:=h;obtain⟨t,rfl⟩:=rx;obtain⟨t',rfl⟩:=ry;exact rule i j t t' s _ _ ⟨.int (g i j),H,I.tok _,⟨_,rfl⟩,q⟩
def opB0{f:Value->Value->Sem Value}{g:Int->Int->Bool}
  (rule:∀(i j:Int) (t u:Tok) (s:Shared) (Q:A3) (E:A3),Q (.bool (g i j)) s->wpAny X.M X.A (f (.int i t) (.int j u)) Q E s) :
  OpR X f (rI0 λi j=>.bl (g i j)):=by
 walk_at "e";obtain⟨i,j,rfl,rfl,q⟩:=h;obtain⟨t,rfl⟩:=rx;obtain⟨t',rfl⟩:=ry;exact rule i j t t' s _ _ ⟨.bl (g i j),H,I,rfl,q⟩
def CPow(i j:Int):Prop:=0<=j/\j<=1000000/\i.natAbs<2^64
def op_add:OpR X (binaryOp .Add) (rI0 λi j=>.int (i+j)):=opI0 λz z z z z z z q=>add_int q
def op_sub:OpR X (binaryOp .Sub) (rI0 λi j=>.int (i-j)):=opI0 λz z z z z z z q=>sub_int q
def op_mod:OpR X (binaryOp .Mod) (rI (λz j=>0<j) λi j=>.int (i%j)):=opI λi j z z z z z hc q=>by have h1:(0:Int)<j:=hc;exact mod_int' (by omega) (by rw[Int.fmod_eq_emod_of_nonneg i (by omega)];exact q)
def op_pow:OpR X (binaryOp .Pow) (rI CPow λi j=>.int (i^j.toNat)):=opI λz z z z z z z hc q=>pow_int_small hc.1 hc.2.1 hc.2.2 q
def iop_add:OpR X (inplaceOp .Add) (rI0 λi j=>.int (i+j)):=opI0 λz z z z z z z q=>iadd_int q
def unI{f:Value->Sem Value}{g:Int->Int}
  (rule:∀(i:Int) (t:Tok) (s:Shared) (Q:A3) (E:A3),Q (.int (g i) s.toks) { s with toks:=s.toks+1 }->wpAny X.M X.A (f (.int i t)) Q E s) :
  UnR X f (rU λi=>.int (g i)):=by
 intro aaW s σ H x v Q I rx h;obtain⟨i,rfl,q⟩:=h;obtain⟨t,rfl⟩:=rx;exact rule i t s _ _ ⟨.int (g i),H,I.tok _,⟨_,rfl⟩,q⟩
def un_neg:UnR X (unaryOp .USub) (rU λi=>.int (-i)):=unI λz z z z z q=>neg_int q
end
def scal:V->V->Bool
 |.non,.non=>true | .non,.int _=>true | .int _,.non=>true | .non,.bl _=>true | .bl _,.non=>true | .non,.str _=>true | .str _,.non=>true
 |.int _,.int _=>true | .bl _,.bl _=>true | .str _,.str _=>true | .byt _,.byt _=>true
 |.int _,.str _=>true | .str _,.int _=>true | .bl _,.str _=>true | .str _,.bl _=>true
 |_,_=>false
def rEq:R2:=λx y H Q=>scal x y=true/\Q (.bl (decide (x=y))) H
def rNe:R2:=λx y H Q=>scal x y=true/\Q (.bl (!decide (x=y))) H
def dec_int:decide (V.int i=V.int j)=(i==j):=by rw[WW];simp
def dec_bl:decide (V.bl i=V.bl j)=(i==j):=by rw[WW];simp
def dec_str:decide (V.str i=V.str j)=(i==j):=by rw[WW];simp
def dec_byt:decide (V.byt i=V.byt j)=(i.toList==j.toList):=by rw[WW];cases i;cases j;simp
section
variable{X:Cx}{a b c:Expr}{ta tb tc:TE}{pos:Pos}
def fin_bl(I:Inv X aaW σ H s)(q:Q (.bl k) H)(e:k=k'):EP X aaW σ Q (.bool k') s:=by subst e;exact⟨.bl k,H,I,rfl,q⟩
def op_eq:OpR X (compareOp .Eq) rEq:=by
 walk_at "e";obtain⟨hs,q⟩:=h;cases x with
 |non=>
   cases rx;cases y with
   |non=>cases ry;exact PySem.EqNone.eq_none_none (fin_bl I q (by simp))
   |bl j=>cases ry;exact PySem.EqNone.eq_none_bool (fin_bl I q (by simp))
   |int j=>obtain⟨t',rfl⟩:=ry;exact PySem.EqNone.eq_none_int (fin_bl I q (by simp))
   |str j=>obtain⟨t',rfl⟩:=ry;exact PySem.EqNone.eq_none_str (fin_bl I q (by simp))
   |_=>exact absurd (show false=true from hs) WT
 |bl i=>
   cases rx;cases y with
   |non=>cases ry;exact PySem.EqNone.eq_bool_none (fin_bl I q (by simp))
   |bl j=>cases ry;exact eq_bool (fin_bl I q dec_bl)
   |str j=>obtain⟨t',rfl⟩:=ry;exact PySem.EqMixed.eq_bool_str (fin_bl I q (by simp))
   |_=>exact absurd (show false=true from hs) WT
 |int i=>
   obtain⟨t,rfl⟩:=rx;cases y with
   |non=>cases ry;exact PySem.EqNone.eq_int_none (fin_bl I q (by simp))
   |int j=>obtain⟨t',rfl⟩:=ry;exact eq_int (fin_bl I q dec_int)
   |str j=>obtain⟨t',rfl⟩:=ry;exact PySem.EqMixed.eq_int_str (fin_bl I q (by simp))
   |_=>exact absurd (show false=true from hs) WT
 |str i=>
   obtain⟨t,rfl⟩:=rx;cases y with
   |non=>cases ry;exact PySem.EqNone.eq_str_none (fin_bl I q (by simp))
   |bl j=>cases ry;exact PySem.EqMixed.eq_str_bool (fin_bl I q (by simp))
   |int j=>obtain⟨t',rfl⟩:=ry;exact PySem.EqMixed.eq_str_int (fin_bl I q (by simp))
   |str j=>obtain⟨t',rfl⟩:=ry;exact eq_str (fin_bl I q dec_str)
   |_=>exact absurd (show false=true from hs) WT
 |byt i=>
   obtain⟨t,rfl⟩:=rx;cases y with
   |byt j=>obtain⟨t',rfl⟩:=ry;exact W.eq_bytes (fin_bl I q dec_byt)
   |_=>exact absurd (show false=true from hs) WT
 |_=>cases y<;>exact absurd (show false=true from hs) WT
def op_ne:OpR X (compareOp .NotEq) rNe:=by
 walk_at "e";obtain⟨hs,q⟩:=h;cases x with
 |non=>
   cases rx;cases y with
   |non=>cases ry;exact PySem.EqNone.ne_none_none (fin_bl I q (by simp))
   |bl j=>cases ry;exact PySem.EqNone.ne_none_bool (fin_bl I q (by simp))
   |int j=>obtain⟨t',rfl⟩:=ry;exact PySem.EqNone.ne_none_int (fin_bl I q (by simp))
   |str j=>obtain⟨t',rfl⟩:=ry;exact PySem.EqNone.ne_none_str (fin_bl I q (by simp))
   |_=>exact absurd (show false=true from hs) WT
 |bl i=>
   cases rx;cases y with
   |non=>cases ry;exact PySem.EqNone.ne_bool_none (fin_bl I q (by simp))
   |bl j=>cases ry;exact ne_bool (fin_bl I q (congrArg not dec_bl))
   |str j=>obtain⟨t',rfl⟩:=ry;exact PySem.EqMixed.ne_bool_str (fin_bl I q (by simp))
   |_=>exact absurd (show false=true from hs) WT
 |int i=>
   obtain⟨t,rfl⟩:=rx;cases y with
   |non=>cases ry;exact PySem.EqNone.ne_int_none (fin_bl I q (by simp))
   |int j=>obtain⟨t',rfl⟩:=ry;exact ne_int (fin_bl I q (congrArg not dec_int))
   |str j=>obtain⟨t',rfl⟩:=ry;exact PySem.EqMixed.ne_int_str (fin_bl I q (by simp))
   |_=>exact absurd (show false=true from hs) WT
 |str i=>
   obtain⟨t,rfl⟩:=rx;cases y with
   |non=>cases ry;exact PySem.EqNone.ne_str_none (fin_bl I q (by simp))
   |bl j=>cases ry;exact PySem.EqMixed.ne_str_bool (fin_bl I q (by simp))
   |int j=>obtain⟨t',rfl⟩:=ry;exact PySem.EqMixed.ne_str_int (fin_bl I q (by simp))
   |str j=>obtain⟨t',rfl⟩:=ry;exact ne_str (fin_bl I q (congrArg not dec_str))
   |_=>exact absurd (show false=true from hs) WT
 |byt i=>
   obtain⟨t,rfl⟩:=rx;cases y with
   |byt j=>obtain⟨t',rfl⟩:=ry;exact W.ne_bytes (fin_bl I q (congrArg not dec_byt))
   |_=>exact absurd (show false=true from hs) WT
 |_=>cases y<;>exact absurd (show false=true from hs) WT
def op_lt:OpR X (compareOp .Lt) (rI0 λi j=>.bl (decide (i<j))):=opB0 λz z z z z z z q=>lt_int q
def op_le:OpR X (compareOp .LtE) (rI0 λi j=>.bl (decide (i<=j))):=opB0 λz z z z z z z q=>le_int q
def op_gt:OpR X (compareOp .Gt) (rI0 λi j=>.bl (decide (j<i))):=opB0 λz z z z z z z q=>gt_int q
def op_ge:OpR X (compareOp .GtE) (rI0 λi j=>.bl (decide (j<=i))):=opB0 λz z z z z z z q=>ge_int q
def OpR.or(h:OpR X f r)(h':OpR X f r'):OpR X f (λx y H Q=>r x y H Q\/r' x y H Q):=by
 intro aaW s σ H x y v u Q I rx ry q;rcases q with q | q
 ·exact h aaW s σ H x y v u Q I rx ry q
 ·exact h' aaW s σ H x y v u Q I rx ry q
def nomark(b:Expr)(h:op≠.In:=by decide)(h2:op≠.NotIn:=by decide):behindInMarks op b=false:=by
 have e1:(op==CmpOp.In)=false:=by cases op<;>first | rfl | exact absurd rfl h
 have e2:(op==CmpOp.NotIn)=false:=by cases op<;>first | rfl | exact absurd rfl h2
 cases b<;>simp[behindInMarks,e1,e2]
def pe_cmpR(ho:OpR X (compareOp op) r)(ha:PE X a ta)(hb:PE X b tb)(hm:behindInMarks op b=false):PE X (.Compare a [op] [b] pos) (tOp r ta tb):=by walk_at "f";exact wpAny_Compare1 (binT ha hb I h λv u s2 x y H2 I2 rx ry q=>ho aaW s2 σ H2 x y v u Q I2 rx ry q) hm
def tTest(t:TE):TT:=λσ H Q=>t σ H λx H'=>∃k,x=.bl k/\Q k H'
def pt_cmpR(ho:OpR X (compareOp op) r)(ha:PE X a ta)(hb:PE X b tb)(hm:behindInMarks op b=false):PT X (.Compare a [op] [b] pos) (tTest (tOp r ta tb)):=by
 walk_at "f";refine wpAny_isTrue_Compare1 (thn (ha aaW s σ H _ I h) λv s1 ⟨x,H1,I1,r1,q1⟩=>thn (hb aaW s1 σ H1 _ I1 q1) λu s2 ⟨y,H2,I2,r2,q2⟩=>
  thn (ho aaW s2 σ H2 x y v u _ I2 r1 r2 q2) λc s3 ⟨z,H3,I3,r3,k,e,q3⟩=>?_) hm
 subst e;cases r3;exact Yn ⟨H3,I3,q3⟩
def tChain(r r':R2)(ta tb tc:TE):TE:=λσ H Q=>ta σ H λx H1=>tb σ H1 λy H2=>r x y H2 λz H3=>∃k,z=.bl k /\
 (if k=true then tc σ H3 λw' H4=>r' y w' H4 Q else Q (.bl false) H3)
def pe_chain(ho:OpR X (compareOp op) r)(dc:OpR X (compareOp i5) r')(ha:PE X a ta)(hb:PE X b tb)(hc:PE X c tc)
  (hm:lastMarks [op,i5] [b,c]=false:=by with_unfolding_all rfl):PE X (.Compare a [op,i5] [b,c] pos) (tChain r r' ta tb tc):=by
 walk_at "f";refine Compare_chain (thn (ha aaW s σ H _ I h) λv s1 ⟨x,H1,I1,r1,q1⟩=>chain_link (thn (hb aaW s1 σ H1 _ I1 q1) λu s2 ⟨y,H2,I2,r2,q2⟩=>
  thn (ho aaW s2 σ H2 x y v u _ I2 r1 r2 q2) λd s3 ⟨z,H3,I3,r3,k,e,q3⟩=>?_)) hm
 subst e;cases r3;refine Yn ?_;cases k with
 |false=>exact ite_ff ⟨.bl false,H3,I3,rfl,q3⟩
 |true=>exact ite_tt (chain_last (thn (hc aaW s3 σ H3 _ I3 q3) λw' s4 ⟨z',H4,I4,r4,q4⟩=>dc aaW s4 σ H4 y z' u w' Q I4 r2 r4 q4))
def pt_chain(ho:OpR X (compareOp op) r)(dc:OpR X (compareOp i5) r')(ha:PE X a ta)(hb:PE X b tb)(hc:PE X c tc)
  (hm:lastMarks [op,i5] [b,c]=false:=by with_unfolding_all rfl):PT X (.Compare a [op,i5] [b,c] pos) (tTest (tChain r r' ta tb tc)):=by
 walk_at "f";refine isTrue_chain (thn (ha aaW s σ H _ I h) λv s1 ⟨x,H1,I1,r1,q1⟩=>test_link (thn (hb aaW s1 σ H1 _ I1 q1) λu s2 ⟨y,H2,I2,r2,q2⟩=>
  thn (ho aaW s2 σ H2 x y v u _ I2 r1 r2 q2) λd s3 ⟨z,H3,I3,r3,k,e,q3⟩=>?_)) hm
 subst e;cases r3;refine Yn ?_;cases k with
 |false=>obtain⟨k',e',q'⟩:=q3;cases e';exact ite_ff ⟨H3,I3,q'⟩
 |true=>
   refine ite_tt (test_last (thn (hc aaW s3 σ H3 _ I3 q3) λw' s4 ⟨z',H4,I4,r4,q4⟩=>thn (dc aaW s4 σ H4 y z' u w' _ I4 r2 r4 q4) λd' s5 ⟨z2,H5,I5,r5,k2,e2,q5⟩=>?_))
   subst e2;cases r5;exact Yn ⟨H5,I5,q5⟩
def TruV(K:B0)(x:V)(H:Hp)(k:Bool):Prop:=
 match x with
 |.non=>k=false
 |.bl b=>k=b
 |.int i=>k=(i != 0)
 |.str y=>y.length<=sizeLine/\k=((y.length:Int) != 0)
 |.byt y=>y.size<=sizeLine/\k=((y.size:Int) != 0)
 |.ref p=>(∃xs,SqL K H p xs/\k=!xs.isEmpty)\/(∃xs,SqT K H p xs/\k=!xs.isEmpty)\/∃kvs,H p=some (.dK kvs)/\k=!kvs.isEmpty
 |_=>False
def isEmpty_kv(r:KV kvs vs):(!vs.isEmpty)=!kvs.isEmpty:=by cases r<;>rfl
def isEmpty_of(r:Vals xs its):(!its.toArray.isEmpty)=!xs.isEmpty:=by cases r<;>simp
def line63:(sizeLine:Nat)<2^63:=by rw[Yx];decide
def tru_ok:TruR X (λx H Q=>∃ k,TruV X.K x H k/\Q k H):=by
 intro aaW s σ H x v Q I rx h;obtain⟨k,e,q⟩:=h;have hl:=line63;have hs:sizeLine=16777216:=Yx;cases x with
 |non=>cases rx;have e':k=false:=e;subst e';exact truthy_none ⟨H,I,q⟩
 |bl b=>cases rx;have e':k=b:=e;subst e';exact Yn ⟨H,I,q⟩
 |int i=>obtain⟨t,rfl⟩:=rx;have e':k=(i != 0):=e;subst e';exact PySem.P.truthy_int ⟨H,I,q⟩
 |str y=>obtain⟨t,rfl⟩:=rx;obtain⟨hy,e'⟩:y.length<=sizeLine/\k=((y.length:Int) != 0):=e;subst e';exact PySem.P.truthy_str (by omega) ⟨H,I.tok _,q⟩
 |byt y=>obtain⟨t,rfl⟩:=rx;obtain⟨hy,e'⟩:y.size<=sizeLine/\k=((y.size:Int) != 0):=e;subst e';exact W.truthy_bytes (by omega) ⟨H,I.tok _,q⟩
 | ref p=>
   cases rx;have e':(∃xs,SqL X.K H p xs/\k=!xs.isEmpty)\/(∃xs,SqT X.K H p xs/\k=!xs.isEmpty)\/∃kvs,H p=some (.dK kvs)/\k=!kvs.isEmpty:=e;rcases e' with ⟨xs,hx,e'⟩ | ⟨xs,hx,e'⟩ | ⟨kvs,hx,e'⟩
   ·subst e';obtain⟨its,r,pl,hz⟩:=I.list hx;have hlen:=r.length;exact wpAny_truthy_list pl.isList (by simp only[List.size_toArray];omega) ⟨H,I.tok _,by rw[isEmpty_of r];exact q⟩
   ·subst e';obtain⟨its,r,pl,hz⟩:=I.tuple hx;have hlen:=r.length;exact truthy_tuple pl (by simp only[List.size_toArray];omega) ⟨H,I.tok _,by rw[isEmpty_of r];exact q⟩
   ·subst e';obtain⟨hz,hS,vs,r,m⟩:kvs.length<=sizeLine/\(p==sysModules)=false/\∃vs,KV kvs vs/\s.heap.DictOf (mixKind X.prog X.w) p vs:=I.hok p _ hx;have hlen:kvs.length=vs.length:=Z0 r;exact wpAny_truthy_dict hS m (by omega) ⟨H,I.tok _,by rw[isEmpty_kv r];exact q⟩
 |_=>exact (show False from e).elim
def pt_truth(ha:PE X a ta)(he:∀whole,isTrue a X.env whole=(do let v <-whole;standAt a.pos;holding [v] (truthy v))):
  PT X a (λσ H Q=>ta σ H λx H'=>∃k,TruV X.K x H' k/\Q k H'):=by
 walk_at "f";exact isTrue_plain (thn (ha aaW s σ H _ I h) λv s1 ⟨x,H1,I1,r1,q1⟩=>tru_ok aaW s1 σ H1 x v Q I1 r1 q1) (he _)
def op_add_str:OpR X (binaryOp .Add) (λx y H Q=>∃i j,x=.str i/\y=.str j/\i.length+j.length<=sizeLine/\Q (.str (i++j)) H):=by walk_at "e";obtain⟨i,j,rfl,rfl,hz,q⟩:=h;obtain⟨t,rfl⟩:=rx;obtain⟨t',rfl⟩:=ry;exact add_str (λt' tk=>⟨.str (i++j),H,I.tok _,⟨_,rfl⟩,q⟩) hz
def vals1(r:Vals [x] us):∃u,us=[u]/\RelV x u:=by
 cases r with
 |cons r1 r2=>cases r2;exact⟨_,rfl,r1⟩
def vals2(r:Vals [x,y] us):∃ u w',us=[u,w']/\RelV x u/\RelV y w':=by
 cases r with
 |cons r1 r2=>
   cases r2 with
   |cons r3 r4=>cases r4;exact⟨_,_,rfl,r1,r3⟩
def call_max2(hc:X.calm=true):CallR X (.builtin "max") (λxs H Q=>∃i j,xs=[.int i,.int j]/\Q (.int (if j > i then j else i)) H):=by
 intro aaW s σ H xs us Q I r h;obtain⟨i,j,rfl,q⟩:=h;obtain⟨u,w',rfl,⟨t,rfl⟩,⟨t',rfl⟩⟩:=vals2 r;refine max_two_ints (I.ok.hd hc) λh' tk k=>⟨_,H,I.kept k,?_,q⟩
 by_cases hj:j > i
 ·rw[Wq hj,Wq hj];exact⟨_,rfl⟩
 ·rw[Ww hj,Ww hj];exact⟨_,rfl⟩
end
open PyProof.Rows
structure ObjM(h:Heap)(x dx C:Addr)(mA:A4):Prop where
 obj:h.get? x=some (W.instObj C dx)
 ns:h.Ns1 dx mA
 ne:dx≠x
set_option tactic.hygienic true in
def lookIn_ns{h:Heap}{dx:Addr}{mA:A4}(n:h.Ns1 dx mA):∃ od,h.get? dx=some od/\∀ name,W.lookIn name od=some (mA name):=by
 obtain⟨o,es,ep,ho,hd,hk,_,hm⟩:=n;refine⟨o,ho,λname=>?_⟩
 have e:=hm name;unfold nsFind findBy at e;rw[<-Array.find?_toList]at e;unfold W.lookIn;rw[hd];dsimp only;split
 ·rename_i y q;rw[q]at e;exact congrArg some e
 ·rename_i q;rw[q]at e;have a:es.toList.any (·.refKey)=false:=by rw[List.any_eq_false];intro y hy;obtain⟨z,t,hkey⟩:=hk y (Array.mem_toList_iff.mp hy);simp[DictEntry.refKey,hkey]
  have a':¬ es.toList.any (·.refKey)=true:=by rw[a];exact WT
  rw[Ww a'];exact congrArg some e
def ObjM.look(I:ObjM h x dx C mA):∃od,W.InstAt h x (W.instObj C dx) C (some od)/\∀name,W.lookIn name od=some (mA name):=
 let ⟨od,ho,hl⟩:=lookIn_ns I.ns
 ⟨od,⟨I.obj,rfl,rfl,ho⟩,hl⟩
section
variable{prog:C5}{w:World}{A:Around}{E:A3}{s:Shared}{K:B0}{x dx C f:Addr}{mA:A4}{name:Str}{v:Value}
def get_map(X:K.In s.heap)(I:ObjM s.heap x dx C mA)(hg:W.plainGet K C name=true)(hh:W.hasDictIn K C=true)
  (ha:W.findIn K (.ref C) name=some none) (hv:mA name=some v) (hv':W.handedIn v=true) (h:Q v { s with toks:=s.toks+1 }) :
  wq prog w A (getAttr (.ref x) name expr) Q E s:=by
 obtain⟨od,J,hl⟩:=I.look;exact W.get_value X J (W.plainGet_of hg).1 (W.findObj_own hh ha rfl (by rw[hl,hv])) hv' h
def set_map(X:K.In s.heap)(I:ObjM s.heap x dx C mA)
  (hs:W.findIn K (.ref C) "__setattr__"=some (some (.builtin "object.__setattr__"))) (hp:W.plainOver K C=true) (ht:W.takerIn K C name=some none) (hh:W.hasDictIn K C=true)
  (hw:PySem.Within mA ns) (hsz:ns.length<=sizeLine)
  (h:∀h',ObjM h' x dx C (λy=>if y=name then some v else mA y)->Heap.SameBut dx s.heap h'->Q () { s with heap:=h',toks:=s.toks+2 }) :
  wq prog w A (setAttr (.ref x) name v) Q E s:=by
 obtain⟨od,J,hl⟩:=I.look;refine W.set_plain X J hs (W.osa_open (s:={ s with toks:=s.toks+1 }) (r:=none) X J hp ht λb=>?_)
 obtain⟨cd,hc,de⟩:=W.any_some hh;have hx:s.heap.get? x=some ⟨.ref C,some dx,.plain,#[]⟩:=I.obj;refine Wg (Wh (Wg (Wg (wpAny_loadPart hx (Wg (W.Looks.here (s:={ s with toks:=s.toks+1 }) (W.looks_clsIn X hc) ?_))))))
 rw[de];refine Wh (a:=some dx) (Wg (Wh (Wg ?_)));refine wpAny_nsSet1 (s:={ s with toks:=s.toks+1 }) I.ns λh' nh ij=>?_
 obtain⟨oD,esD,epD,hoD,hdD,hcD⟩:=nh.count (PySem.Within.cons name v hw);refine Wg (wpAny_lookBehind hoD (by rw[hdD];exact pastItsLine_dict (W0 hcD (by rw[XH];omega))) ?_)
 exact Wh (h _ ⟨(ij.2 _ (Ne.symm I.ne)).trans I.obj,nh,I.ne⟩ ij)
def make_map(X:K.In s.heap)(hm:W.makesIn K C=true)
  (hi:W.findIn K (.ref C) "__init__"=some (some (.ref f))) (hf:W.typeIn K (.ref f)=some (.type "function"))
  (h:codeAny (model prog w) (A.under (.builtin "type.__call__" ⟨.ref C::vs,kw⟩)) (.call (.ref f) ⟨.ref (s.z+1)::vs,kw⟩) (W.InitBack (s.z+1) R)
    { s with heap:=(s.heap.push W.emptyDict).push (W.instObj C s.z) }) :
  codeAny (model prog w) A (.call (.ref C) ⟨vs,kw⟩) R s:=by
 obtain⟨hh,g,d,t,os⟩:=s;exact W.make_core (W.makes_of X hm) (ZG X hi) (λself=>W.bind_fn X self hf) (.inl rfl) h
end
def putF(f:Str)(v:V):List (Str×V)->List (Str×V)
 |[]=>[(f,v)]
 |(g,x)::r=>if g=f then (g,v)::r else (g,x)::putF f v r
theorem lookup_putF(f g:Str)(v:V):∀ fs:List (Str×V),(putF f v fs).lookup g=if g=f then some v else fs.lookup g
 | []=>by
   show List.lookup g [(f,v)]=_;by_cases h:g=f
   ·have hb:(g==f)=true:=Zi.mpr h;simp only[List.lookup,hb,if_pos h]
   ·have hb:(g==f)=false:=Yd.mpr h;simp only[List.lookup,hb,if_neg h]
 | (k,x)::r=>by
   have ih:=lookup_putF f g v r;rw[show putF f v ((k,x)::r)=(if k=f then (k,v)::r else (k,x)::putF f v r) from rfl]
   by_cases hk:k=f
   ·rw[Wq hk];by_cases h:g=k
    ·have hb:(g==k)=true:=Zi.mpr h;simp only[List.lookup,hb,if_pos (h.trans hk)]
    ·have hb:(g==k)=false:=Yd.mpr h;simp only[List.lookup,hb,if_neg (λe:g=f=>h (e.trans hk.symm))]
   ·rw[Ww hk];by_cases h:g=k
    ·have hb:(g==k)=true:=Zi.mpr h;simp only[List.lookup,hb,if_neg (λe:g=f=>hk (h.symm.trans e))]
    ·have hb:(g==k)=false:=Yd.mpr h;simp only[List.lookup,hb];exact ih
theorem keys_putF(f:Str)(v:V):∀ fs:List (Str×V),f∈(putF f v fs).map (·.1)/\∀ g,g∈fs.map (·.1)->g∈(putF f v fs).map (·.1)
 |[]=>⟨by simp[putF],λg h=>by simp at h⟩
 | (k,x)::r=>by
   obtain⟨i1,i2⟩:=keys_putF f v r;rw[show putF f v ((k,x)::r)=(if k=f then (k,v)::r else (k,x)::putF f v r) from rfl]
   by_cases hk:k=f
   ·rw[Wq hk];subst hk;exact⟨by simp,λg h=>by simpa using h⟩
   ·rw[Ww hk];refine⟨?_,λg h=>?_⟩
    ·rw[W2];exact W6 _ i1
    ·rw[W2]at h ⊢
     rcases Wz.mp h with e | e
     ·exact Wz.mpr (.inl e)
     ·exact W6 _ (i2 g e)
theorem length_putF(f:Str)(v:V):∀ fs:List (Str×V),(putF f v fs).length<=fs.length + 1
 |[]=>by simp[putF]
 |(k,x)::r=>by
   have ih:=length_putF f v r;rw[show putF f v ((k,x)::r)=(if k=f then (k,v)::r else (k,x)::putF f v r) from rfl]
   by_cases hk:k=f
   ·rw[Wq hk,XH,XH];omega
   ·rw[Ww hk,XH,XH];omega
def RelO.some_of(r:RelO (some v) o):∃u,o=some u/\RelV v u:=by
 cases o with
 |none=>exact (show False from r).elim
 |some u=>exact⟨u,rfl,r⟩
def handed_of(r:RelV v u):W.handedIn u=true:=by
 cases v with
 |non=>cases (show u=Value.none from r);rfl
 |bl b=>cases (show u=Value.bool b from r);rfl
 |int i=>obtain⟨t,e⟩:=(show ∃t,u=Value.int i t from r);cases e;rfl
 |str x=>obtain⟨t,e⟩:=(show ∃t,u=Value.str x t from r);cases e;rfl
 |byt b=>obtain⟨t,e⟩:=(show ∃t,u=Value.bytes b t from r);cases e;rfl
 |flt b=>obtain⟨t,e⟩:=(show ∃t,u=Value.float b t from r);cases e;rfl
 |ref a=>cases (show u=Value.ref a from r);rfl
 |ty n=>cases (show u=Value.type n from r);rfl
section
variable{P:C5}{w:World}{H H':Hp}{h h':Heap}{a C dx:Addr}{fs fs':List (Str×V)}
def ins_get(hok:HOk P w H h)(e:H a=some (.ins C dx fs)):∃mA,ObjM h a dx C mA/\(∀f,RelO (fs.lookup f) (mA f))/\PySem.Within mA (fs.map (·.1))/\fs.length<=1000/\H dx=some (.own a):=by
 obtain⟨d,z,ne,ob,mA,n,r,q⟩:=(show ObjOk P w H h a (.ins C dx fs) from hok a _ e)
 exact⟨mA,⟨ob,n,ne⟩,r,q,z,d⟩
end
structure Cls(K:B0)(C:Addr):Prop where
 pg:W.plainGet K C Str.empty=true
 hd:W.hasDictIn K C=true
 po:W.plainOver K C=true
 sa:W.findIn K (.ref C) "__setattr__"=some (some (.builtin "object.__setattr__"))
def Cls.get{K:B0}{C:Addr}(c:Cls K C)(f:Str):W.plainGet K C f=true:=c.pg
def NoAttr(K:B0)(C:Addr)(f:Str):Prop:=W.findIn K (.ref C) f=some none
def NoAttr.taker{K:B0}{C:Addr}{f:Str}(n:NoAttr K C f):W.takerIn K C f=some none:=by
 unfold W.takerIn;rw[show W.findIn K (.ref C) f=some none from n]
 rfl
section
variable{X:Cx}{aaW:A8}{σ:St}{H:Hp}{s:Shared}{a C dx:Addr}{fs:List (Str×V)}{f:Str}{v:V}{A:Around}{E:A3}
def getattr_ok(I:Inv X aaW σ H s)(e:H a=some (.ins C dx fs))(c:Cls X.K C)(n:NoAttr X.K C f)(l:fs.lookup f=some v)
  (h:∀u s',Inv X aaW σ H s'->RelV v u->Q u s'):wpAny X.M A (getAttr (.ref a) f b) Q E s:=by
 obtain⟨mA,O,r,_,_,_⟩:=ins_get I.hok e;obtain⟨u,hu,ru⟩:=RelO.some_of (v:=v) (o:=mA f) (by rw[<-l];exact r f)
 exact get_map I.kIn O (c.get f) c.hd n hu (handed_of ru) (h u _ (I.tok _) ru)
def setattr_ok(I:Inv X aaW σ H s)(e:H a=some (.ins C dx fs))(c:Cls X.K C)(n:NoAttr X.K C f)(hl:fs.length<1000)(ry:RelV y u)
  (h:∀s',Inv X aaW σ (upd H a (.ins C dx (putF f y fs))) s'->Q () s'):wpAny X.M A (setAttr (.ref a) f u) Q E s:=by
 obtain⟨mA,O,r,wi,_,ho⟩:=ins_get I.hok e;have hz:(fs.map (·.1)).length<=sizeLine:=by rw[Wm,Yx];omega
 refine set_map I.kIn O c.sa c.po n.taker c.hd wi hz λh' O' sb=>h _ ?_
 have hd:∃o,h'.get? dx=some o:=let ⟨o,_,_,e',_⟩:=O'.ns;⟨o,e'⟩
 refine I.write (x:=a) (e:=dx) (by rw[e];exact True.intro) (.inr ho) (λb q hb z=>(sb.2 b hb).trans z) hd ?_
 refine⟨by rw[upd_ne O.ne];exact ho,?_,O.ne,O'.obj,_,O'.ns,λg=>?_,λg hg=>?_⟩
 ·have:=length_putF f y fs;omega
 ·show RelO ((putF f y fs).lookup g) (if g=f then some u else mA g)
  rw[lookup_putF];by_cases q:g=f
  ·rw[Wq q,Wq q];exact ry
  ·rw[Ww q,Ww q];exact r g
 ·by_cases q:g=f
  ·rw[q];exact (keys_putF f y fs).1
  ·refine (keys_putF f y fs).2 g (wi g λz=>hg ?_)
   show (if g=f then some u else mA g)=none
   rw[Ww q];exact z
def Inv.made(I:Inv X aaW σ H s):Inv X aaW σ (upd (upd H s.z (.own (s.z+1))) (s.z+1) (.ins C s.z []))
  { s with heap:=(s.heap.push W.emptyDict).push (W.instObj C s.z) }:=by
 have e1:(s.heap.push W.emptyDict).get? s.z=some W.emptyDict:=Wu s.heap rfl;have e2:((s.heap.push W.emptyDict).push (W.instObj C s.z)).get? (s.z+1)=some (W.instObj C s.z):=by
  have:=Wu (s.heap.push W.emptyDict) (o:=W.instObj C s.z) rfl
  rwa [Xr]at this
 have e3:(s.heap.push W.emptyDict).Ns s.z (λx=>none):=⟨W.emptyDict,#[],_,e1,rfl,(λe he=>absurd he (by simp)),λx=>rfl⟩
 have I1:=I.laid (a:=s.z) (o:=.own (s.z+1)) (h':=s.heap.push W.emptyDict) (t':=s.toks) (λb u q=>Wi _ q) (Wn _) ⟨_,e1⟩
 refine I1.laid (a:=s.z+1) (o:=.ins C s.z []) (t':=s.toks) (λb u q=>Wi _ q) (Nat.le_of_eq (Xr _ _)) ?_
 have ne:s.z≠s.z+1:=WL (Yi _);refine⟨by rw[upd_ne ne,upd_same],X3 _,ne,e2,λx=>none,(Heap.Ns1.of_empty e3).at λo q=>Wi _ q,λx=>True.intro,λy hy=>absurd rfl hy⟩
def attr_of(hb:attributeBase e f env (eval e env)=eval e env)
  (h:wq prog w A (eval e env) (λo s₁=>wq prog w A (getAttr o f true) Q E s₁) E s):wq prog w A (eval (.Attribute e f pos) env) Q E s:=
 Attribute_any_ h (by rw[arm_eval_Attribute,hb])
end
def tFld(K:B0)(ta:TE)(f:Str):TE:=λσ H Q=>ta σ H λx H1=>∃a C dx fs v,x=.ref a/\H1 a=some (.ins C dx fs)/\Cls K C/\NoAttr K C f/\fs.lookup f=some v/\Q v H1
def sFld(K:B0)(ta tv:TE)(f:Str):TS:=λD σ H=>tv σ H λy H1=>ta σ H1 λx H2=>∃a C dx fs,x=.ref a/\H2 a=some (.ins C dx fs)/\Cls K C/\NoAttr K C f/\fs.length<1000 /\
 D.nx σ (upd H2 a (.ins C dx (putF f y fs)))
section
variable{X:Cx}{o e value:Expr}{f:Str}{pos pos' oo:Pos}{ta tv:TE}
def pe_fld(he:PE X e ta)(hb:attributeBase e f X.env (eval e X.env)=eval e X.env):PE X (.Attribute e f pos) (tFld X.K ta f):=by
 walk_at "f";refine attr_of hb (thn (he aaW s σ H _ I h) λu s1 ⟨x,H1,I1,rx,a,C,dx,fs,v,ex,ea,c,n,l,q⟩=>?_)
 subst ex;obtain rfl:u=Value.ref a:=rx;exact getattr_ok I1 ea c n l λu' s2 I2 ru=>⟨v,H1,I2,ru,q⟩
def ps_fld(ha:PE X o ta)(hv:PE X value tv)(hs:swapsWith value (some (.Attribute o f pos')) pos.line X.env=pure false):PS X (.Assign [.Attribute o f pos'] value pos) (sFld X.K ta tv f):=by
 intro aaW s σ H D I h;refine plainObj_wpAny_Assign_Attribute (thn (hv aaW s σ H _ I h) λu s1 ⟨y,H1,I1,ry,q⟩=>thn (ha aaW s1 σ H1 _ I1 q) λov s2 ⟨x,H2,I2,rx,a,C,dx,fs,ex,ea,c,n,l,q2⟩=>?_) hs
 subst ex;obtain rfl:ov=Value.ref a:=rx;exact setattr_ok I2 ea c n l ry λs3 I3=>⟨σ,_,I3,q2⟩
end
section
variable{X:Cx}{aaW:A8}{σ:St}{H:Hp}{s:Shared}{A:Around}{E:A3}{Q:A3}{c:Value}{b:Bool}
inductive TyOf(K:B0)(H:Hp):V->Value->Prop where
 |non:TyOf K H .non (.type "NoneType")
 |bl (x:Bool):TyOf K H (.bl x) (.type "bool")
 |int (i:Int):TyOf K H (.int i) (.type "int")
 |str (x:Str):TyOf K H (.str x) (.type "str")
 |flt (x:UInt64):TyOf K H (.flt x) (.type "float")
 |lst {a:Addr}{xs:List V} (e:H a=some (.lst xs)):TyOf K H (.ref a) (.type "list")
 |frz {a:Addr}{o:Obj}{xs:List V} (e:H a=some (.frz o (.lst xs))):TyOf K H (.ref a) (.type "list")
 |tup {a:Addr}{xs:List V} (e:H a=some (.tup xs)):TyOf K H (.ref a) (.type "tuple")
 |dK {a:Addr}{kvs:List (Key×V)} (e:H a=some (.dK kvs)):TyOf K H (.ref a) (.type "dict")
 |dT {a:Addr}{kvs:List (List Key×V)} (e:H a=some (.dT kvs)):TyOf K H (.ref a) (.type "dict")
 |ins {a C dx:Addr}{fs:List (Str×V)} (e:H a=some (.ins C dx fs)) (cl:Cls K C) (ha:W.findIn K (.ref C) "__class__"=some (some (.builtin "object.__class__")))
   (hn:W.specialIn K (.builtin "object.__class__") "__get__"=some (some (.builtin "getset_descriptor.__get__"))) (htk:W.takesIn K (.builtin "object.__class__")=some true)
   (hm:W.mroIn K C (.type "object")=some true):TyOf K H (.ref a) (.ref C)
def isinst_ok(I:Inv X aaW σ H s)(rx:RelV x u)(ty:TyOf X.K H x t)(e:W.kitOne X.K t c=some b)(h:∀ tk,Q (.bool b) { s with toks:=tk }):
  wpAny X.M A (call (.builtin "isinstance") [u,c]) Q E s:=by
 cases ty with
 |non=>cases (show u=Value.none from rx);exact XF W.kitx_none I.kIn True.intro e (λz=>nomatch z) h
 |bl y=>cases (show u=Value.bool y from rx);exact XF W.kitx_bool I.kIn True.intro e (λz=>nomatch z) h
 |int i=>obtain⟨t,q⟩:=(show ∃t,u=Value.int i t from rx);cases q;exact XF W.kitx_int I.kIn True.intro e (λz=>nomatch z) h
 |str y=>obtain⟨t,q⟩:=(show ∃t,u=Value.str y t from rx);cases q;exact XF W.kitx_str I.kIn True.intro e (λz=>nomatch z) h
 |flt y=>obtain⟨t,q⟩:=(show ∃t,u=Value.float y t from rx);cases q;exact XF W.kitx_float I.kIn True.intro e (λz=>nomatch z) h
 | @lst a xs ea=>
   cases (show u=Value.ref a from rx)
   obtain⟨_,_,n,_,h1⟩:=(show ObjOk X.prog X.w H s.heap a (.lst xs) from I.hok a _ ea)
   exact XF W.kitx_list I.kIn ⟨_,h1,rfl⟩ e (λz=>nomatch z) h
 | @frz a ob xs ea=>
   cases (show u=Value.ref a from rx)
   obtain⟨_,_,_,n,_,h1⟩:=(show ObjOk X.prog X.w H s.heap a (.frz ob (.lst xs)) from I.hok a _ ea)
   exact XF W.kitx_list I.kIn ⟨_,h1,rfl⟩ e (λz=>nomatch z) h
 | @tup a xs ea=>
   cases (show u=Value.ref a from rx)
   obtain⟨_,_,_,p⟩:=(show ObjOk X.prog X.w H s.heap a (.tup xs) from I.hok a _ ea)
   obtain⟨o,h1,h2,_⟩:=p;exact XF W.kitx_tuple I.kIn ⟨o,h1,h2⟩ e (λz=>nomatch z) h
 | @dK a kvs ea=>
   cases (show u=Value.ref a from rx)
   obtain⟨_,_,vs,_,p⟩:=(show ObjOk X.prog X.w H s.heap a (.dK kvs) from I.hok a _ ea)
   obtain⟨o,es,ep,h1,h2,_⟩:=p;exact XF W.kitx_dict I.kIn ⟨o,h1,h2.1⟩ e (λz=>nomatch z) h
 | @dT a kvs ea=>
   cases (show u=Value.ref a from rx)
   obtain⟨_,_,xs,_,o,es,ep,h1,h2,_⟩:=(show ObjOk X.prog X.w H s.heap a (.dT kvs) from I.hok a _ ea)
   exact XF W.kitx_dict I.kIn ⟨o,h1,h2.1⟩ e (λz=>nomatch z) h
 | @ins a C dx fs ea cl ha hn htk hm=>
   cases (show u=Value.ref a from rx)
   obtain⟨mA,O,_⟩:=ins_get I.hok ea;obtain⟨od,J,_⟩:=O.look;exact XF (W.kitx_own (cl.get _) cl.hd ha hn htk hm) I.kIn J e (λz=>nomatch z) h
end
open PyProof.Rows
structure Room(k:Nat)(A:Around):Prop where
 hd:A.handled=none
 dp:A.depth+3*k+5<recursionLimit
 un:A.units+16*k+200<cLine
 gd:A.guards=some []
def Room.mono(r:Room k A)(h:j<=k):Room j A:=⟨r.hd,by have:=r.dp;omega,by have:=r.un;omega,r.gd⟩
theorem Room.deeper(r:Room (k+1) A)(env:Env):Room k (A.deeper env):=
 ⟨r.hd,by have:=r.dp;show A.depth+1+3*k+5<_;omega,by have:=r.un;show A.units+3+16*k+200<_;omega,r.gd⟩
theorem Room.in1(r:Room (k+1) A):Room k A.in1:=
 ⟨r.hd,by have:=r.dp;show A.depth+3*k+5<_;omega,by have:=r.un;show A.units+1+16*k+200<_;omega,r.gd⟩
def make_depth{A:Around}{C:Addr}{us:B5}{kw:List (Str×Value)}:(A.under (.builtin "type.__call__" ⟨.ref C::us,kw⟩)).depth=A.depth+1:=by
 first | rfl | simp[Around.under,Code.weight,Code.isCreation,Code.isGuard,Code.isCaller,Code.frames,Code.isFrame,guardIds]
def make_units{A:Around}{C:Addr}{us:B5}{kw:List (Str×Value)}:(A.under (.builtin "type.__call__" ⟨.ref C::us,kw⟩)).units=A.units+1:=by
 first | rfl | simp[Around.under,Code.cUnits,Code.frames,Code.isFrame]
def Ax{A:Around}{C:Addr}{us:B5}{kw:List (Str×Value)}:(A.under (.builtin "type.__call__" ⟨.ref C::us,kw⟩)).guards=A.guards:=by simp[Around.under,Code.guards,Code.isGuard,guardIds,pushGuards]
def Room.make(r:Room (k+1) A)(C:Addr)(us:B5)(kw:List (Str×Value)):Room k (A.under (.builtin "type.__call__" ⟨.ref C::us,kw⟩)):=
 ⟨r.hd,by have:=r.dp;rw[make_depth];omega,by have:=r.un;rw[make_units];omega,by first | (rw[Ax];exact r.gd) | exact r.gd⟩
theorem Room.depth(r:Room k A):A.depth<recursionLimit:=by have:=r.dp;omega
theorem Room.units(r:Room k A):A.units+64<cLine:=by have:=r.un;omega
def tNil:TA:=λz H Q=>Q [] H
def tCons(ta:TE)(tr:TA):TA:=λσ H Q=>ta σ H λx H1=>tr σ H1 λxs H2=>Q (x::xs) H2
section
variable{X:Cx}{e:Expr}{es:B8}{te:TE}{t:TA}{pos:Pos}
def pa_nil:PA X [] tNil:=λz z z z H Q I h=>Zt ⟨[],H,I,.nil,h⟩
def pa_cons(ha:PE X e te)(hr:PA X es t)(hs:starEach (e::es) X.env=(false,eval e X.env)::starEach es X.env:=by rfl):PA X (e::es) (tCons te t):=by
 intro pos aaW s σ H Q I h;rw[hs];show wpAny _ _ (spliced ((false,eval e X.env)::backTo pos (starEach es X.env))) _ _ s;refine Zj (thn (ha aaW s σ H _ I h) λu s1 ⟨x,H1,I1,r1,q1⟩=>?_)
 exact thn (hr pos aaW s1 σ H1 _ I1 q1) λus s2 ⟨xs,H2,I2,r2,q2⟩=>⟨x::xs,H2,I2,.cons r1 r2,q2⟩
def tTup(t:TA):TE:=λσ H Q=>t σ H λxs H1=>xs.length<=sizeLine/\∀p,H1 p=none->Q (.ref p) (upd H1 p (.tup xs))
def tLst(t:TA):TE:=λσ H Q=>t σ H λxs H1=>xs.length<=sizeLine/\∀p,H1 p=none->Q (.ref p) (upd H1 p (.lst xs))
def pe_tup{x1}(h:PA X es t):PE X (.Tuple es x1 pos) (tTup t):=by
 intro aaW s σ H Q I hq;refine wpAny_Tuple_spliced (thn (h pos aaW s σ H _ I hq) λus s1 ⟨xs,H1,I1,r,z,q⟩=>⟨by rw[<-r.length];exact z,?_⟩)
 have hf:H1 s1.z=none:=I1.hok.fresh (Wn _);refine⟨.ref s1.z,upd H1 s1.z (.tup xs),I1.laid (t':=s1.toks) (λb u e=>Wi _ e) (Wn _) ?_,rfl,q _ hf⟩
 exact⟨z,us,r,⟨_,Wu _ rfl,rfl,_,rfl⟩⟩
def pe_lst(h:PA X es t):PE X (.List es pos) (tLst t):=by
 intro aaW s σ H Q I hq;refine wpAny_List_spliced (thn (h pos aaW s σ H _ I hq) λus s1 ⟨xs,H1,I1,r,z,q⟩=>⟨by rw[<-r.length];exact z,?_⟩)
 have hf:H1 s1.z=none:=I1.hok.fresh (Wn _);refine⟨.ref s1.z,upd H1 s1.z (.lst xs),I1.laid (t':=s1.toks) (λb u e=>Wi _ e) (Wn _) ?_,rfl,q _ hf⟩
 exact⟨z,us,0,r,Wu _ rfl⟩
end
abbrev Sp:=List V->Hp->VK->XK->Prop
abbrev CXT:=C4->Hp->Shared->XK->A3
structure Env0(P:C5)(w:World)(K:B0)(mg:A4)(base:Heap)(A:Around)(outer:C4)(s:Shared)(H:Hp):Prop where
 frames:A.frames=some outer
 mod:Mod K mg base
 bs:∀b o,base.get? b=some o->s.heap.get? b=some o/\H b=none
 bsz:base.objs.size<=s.z
 funs:s.heap.FunFrames base outer
 frf:∀b∈frs outer,H b=none
 hok:HOk P w H s.heap
 bare:AllBare s.gens
def CE(outer:C4)(P:C5)(w:World)(H:Hp)(s:Shared)(Q:VK)(u:Value)(s':Shared):Prop:=
 ∃v H',s'.os=s.os/\AllBare s'.gens/\Un (frs outer) [] H H' s.heap s'.heap/\HOk P w H' s'.heap/\RelV v u/\Q v H'
def CR(CX:CXT)(outer:C4)(P:C5)(w:World)(H:Hp)(s:Shared)(Q:VK)(E:XK)(r:Result)(s':Shared):Prop:=
 match r with
 |.ok (.ret u)=>CE outer P w H s Q u s'
 |.ok _=>False
 |.error e=>CX outer H s E e s'
structure FnOk(P:C5)(w:World)(K:B0)(mg:A4)(base:Heap)(CX:CXT)(k:Nat)(f:Addr)(fd:FuncData)(ps:C3)(sp:Sp):Prop where
 len:∀vs H Q E,sp vs H Q E->vs.length=ps.length
 run:∀(A:Around) (outer:C4) (s:Shared) (H:Hp) (args:Args) (us:B5) (vs:List V) (Q:VK) (E:XK),Room k A->Env0 P w K mg base A outer s H->BindsTo s fd args (ps.zip us)->Vals vs us->sp vs H Q E->
  codeAny (model P w) A (.call (.ref f) args) (CR CX outer P w H s Q E) s
theorem FnOk.mono{P:C5}{w:World}{K:B0}{mg:A4}{base:Heap}{CX:CXT}{j k:Nat}{f:Addr}{fd:FuncData}{ps:C3}{sp:Sp}(F:FnOk P w K mg base CX j f fd ps sp)(h:j<=k):
  FnOk P w K mg base CX k f fd ps sp:=⟨F.len,λA outer s H args us vs Q E hr=>F.run A outer s H args us vs Q E (hr.mono h)⟩
def FnOk.imp{P:C5}{w:World}{K:B0}{mg:A4}{base:Heap}{CX:CXT}{k:Nat}{f:Addr}{fd:FuncData}{ps:C3}{sp sp':Sp}(F:FnOk P w K mg base CX k f fd ps sp)
  (h:∀vs H Q E,sp' vs H Q E->sp vs H Q E):FnOk P w K mg base CX k f fd ps sp':=
 ⟨λvs H Q E q=>F.len vs H Q E (h _ _ _ _ q),λA outer s H args us vs Q E hr he hb hv hs=>F.run A outer s H args us vs Q E hr he hb hv (h _ _ _ _ hs)⟩
def Env0.make{P:C5}{w:World}{K:B0}{mg:A4}{base:Heap}{A:Around}{outer:C4}{s:Shared}{H:Hp}(e:Env0 P w K mg base A outer s H)(C:Addr)(us:B5)(kw:List (Str×Value)):
  Env0 P w K mg base (A.under (.builtin "type.__call__" ⟨.ref C::us,kw⟩)) outer s H:=⟨by first | exact e.frames | (simpa[Around.under,Code.envs,Code.isFrame,pushEnvs] using e.frames),e.mod,e.bs,e.bsz,e.funs,e.frf,e.hok,e.bare⟩
section
variable{X:Cx}{aaW:A8}{σ:St}{H:Hp}{s s':Shared}
def Inv.env0(I:Inv X aaW σ H s):Env0 X.prog X.w X.K X.mg X.base X.A X.stack s H:=
 ⟨I.ok.frames,I.ok.mod,I.bs,W0 I.ok.bsz I.sz,I.stack,I.stkFree,I.hok,I.bare⟩
def Inv.after(I:Inv X aaW σ H s)(h:CE X.stack X.prog X.w H s Q u s'):EP X aaW σ Q u s':=by obtain⟨v,H',os,bare,un,hok,r,q⟩:=h;obtain⟨hh,g,d,t,os'⟩:=s';obtain rfl:os'=s.os:=os;exact⟨v,H',I.call (h':=hh) (g':=g) (d':=d) (t':=t) (ch:=[]) un hok bare (λb z=>absurd z (by simp)),r,q⟩
end
def tCall(sp:Sp)(h8:List V)(E:XK)(t:TA):TE:=λσ H Q=>t σ H λvs H1=>sp (vs++h8) H1 Q E
def tMake(C:Addr)(sp:Sp)(h8:List V)(E:XK)(t:TA):TE:=λσ H Q=>t σ H λvs H1=>∀x dx,H1 x=none->H1 dx=none->dx≠x->
 sp (.ref x::(vs++h8)) (upd (upd H1 dx (.own x)) x (.ins C dx [])) (λv H2=>v=.non/\Q (.ref x) H2) E
def Binds(K:B0)(fd:FuncData)(ps:C3)(ds:B5):Prop:=
 ∀(s:Shared) (us:B5),K.In s.heap->(us++ds).length=ps.length->BindsTo s fd ⟨us,[]⟩ (ps.zip (us++ds))
def Binds.all{K:B0}{fd:FuncData}{ps:C3}(h:∀us:B5,us.length=ps.length->bindArgs fd ⟨us,[]⟩=pure (ps.zip us)):Binds K fd ps []:=λs us z hl=>by
 rw[YK]at hl ⊢
 exact .of_eq (h us hl)
def Passes(CX:CXT)(X:Cx)(E:XK):Prop:=∀(aaW:A8) (σ:St) (H:Hp) (s:Shared) (e:Value) (s':Shared),Inv X aaW σ H s->CX X.stack H s E e s'->X.xe e s'
section
variable{X:Cx}{CX:CXT}{k:Nat}{f C:Addr}{fd:FuncData}{ps:C3}{sp:Sp}{h8:List V}{ds:B5}{E:XK}{x m:Str}{p pos apos:Pos}{e o:Expr}{es:B8}{ta:TE}{t:TA}
def run_fn(F:FnOk X.prog X.w X.K X.mg X.base CX k f fd ps sp)(hr:Room k X.A)(hb:Binds X.K fd ps ds)(hd:Vals h8 ds)(hx:Passes CX X E)
  (I:Inv X aaW σ H s) (r:Vals vs us) (h:sp (vs++h8) H Q E):wpAny X.M X.A (call (.ref f) us) (EP X aaW σ Q) X.xe s:=by
 have r2:Vals (vs++h8) (us++ds):=r.append hd;have hl:(us++ds).length=ps.length:=by rw[<-r2.length];exact F.len _ _ _ _ h
 refine aae (Yu (F.run X.A X.stack s H ⟨us,[]⟩ (us++ds) (vs++h8) Q E hr I.env0 (hb s us I.kIn hl) r2 h) λr s' hq=>?_)
 cases r with
 |error e=>exact hx aaW σ H s e s' I hq
 |ok fl=>
   cases fl with
   |ret u=>exact I.after hq
   |next=>exact False.elim hq
   |brk=>exact False.elim hq
   |cont=>exact False.elim hq
def pe_call(F:FnOk X.prog X.w X.K X.mg X.base CX k f fd ps sp)(hr:Room k X.A)(hg:Gl X x)(hm:X.mg x=some (.ref f))(hk:W.keepIn X.K (.ref f)=true)(hb:Binds X.K fd ps ds)(hd:Vals h8 ds)(hx:Passes CX X E)
  (ha:PA X (e::es) t) (ai:(x==("__debug__":Str))=false:=by decide) (he:starEach (e::es) X.env=(false,eval e X.env)::starEach es X.env:=by rfl) (hpl:(backTo pos (starEach es X.env)).any (·.1)=false:=by rfl) :
  PE X (.Call (.Name x p) (e::es) [] pos) (tCall sp h8 E t):=by
 walk_at "f";refine YF (ld_glob I hg hm ?_ ai);refine Z5 (h₀:=X.base) I.ok.mod.kin hk (thn (ha pos aaW s σ H _ I h) λus s1 ⟨vs,H1,I1,r,q⟩=>⟨I1.kIn,?_⟩) he hpl
 exact run_fn F hr hb hd hx I1 r q
structure Mk(K:B0)(C f:Addr):Prop where
 makes:W.makesIn K C=true
 init:W.findIn K (.ref C) "__init__"=some (some (.ref f))
 fn:W.isFn K (.ref f)=true
 kp:W.keepIn K (.ref C)=true
def run_make(M:Mk X.K C f)(F:FnOk X.prog X.w X.K X.mg X.base CX k f fd ps sp)(hr:Room (k + 1) X.A)(hb:Binds X.K fd ps ds)(hd:Vals h8 ds)
  (hx:Passes CX X E) (I:Inv X aaW σ H s) (r:Vals vs us)
  (h:∀x dx,H x=none->H dx=none->dx≠x->sp (.ref x::(vs++h8)) (upd (upd H dx (.own x)) x (.ins C dx [])) (λv H2=>v=.non/\Q (.ref x) H2) E) :
  wpAny X.M X.A (call (.ref C) us) (EP X aaW σ Q) X.xe s:=by
 have hq:=h (s.z+1) s.z (I.hok.fresh (Nat.le_succ _)) (I.hok.fresh (Wn _)) (WL (Yi _));have I2:=Inv.made (C:=C) I;have r2:Vals (V.ref (s.z+1)::(vs++h8)) (Value.ref (s.z+1)::(us++ds)):=.cons rfl (r.append hd);have hl:(Value.ref (s.z+1)::us++ds).length=ps.length:=by have e:=r2.length;rw[F.len _ _ _ _ hq]at e;exact e.symm
 refine aae (make_map (f:=f) I.kIn M.makes M.init (Zi.mp M.fn) (Yu (F.run _ X.stack _ _ ⟨Value.ref (s.z+1)::us,[]⟩ (Value.ref (s.z+1)::(us++ds)) _ _ E (hr.make C us [])
  (I2.env0.make C us []) (hb _ (Value.ref (s.z+1)::us) I2.kIn hl) r2 hq) λr s' hq'=>?_))
 cases r with
 |error e=>exact hx aaW σ _ _ e s' I2 hq'
 | ok fl=>
   cases fl with
   |ret u=>obtain⟨v,H',I3,rv,ev,q3⟩:=I2.after hq';subst ev;exact⟨rv,⟨V.ref (s.z+1),H',I3,rfl,q3⟩⟩
   |next=>exact False.elim hq'
   |brk=>exact False.elim hq'
   |cont=>exact False.elim hq'
def pe_make(M:Mk X.K C f)(F:FnOk X.prog X.w X.K X.mg X.base CX k f fd ps sp)(hr:Room (k+1) X.A)(hg:Gl X x)(hm:X.mg x=some (.ref C))(hb:Binds X.K fd ps ds)(hd:Vals h8 ds)(hx:Passes CX X E)
  (ha:PA X (e::es) t) (ai:(x==("__debug__":Str))=false:=by decide) (he:starEach (e::es) X.env=(false,eval e X.env)::starEach es X.env:=by rfl) (hpl:(backTo pos (starEach es X.env)).any (·.1)=false:=by rfl) :
  PE X (.Call (.Name x p) (e::es) [] pos) (tMake C sp h8 E t):=by
 walk_at "f";refine YF (ld_glob I hg hm ?_ ai);refine Z5 (h₀:=X.base) I.ok.mod.kin M.kp (thn (ha pos aaW s σ H _ I h) λus s1 ⟨vs,H1,I1,r,q⟩=>⟨I1.kIn,?_⟩) he hpl
 exact run_make M F hr hb hd hx I1 r q
end
structure FnScope(N P:C3)(sc:Scope):Prop where
 kind:sc.kind=.function
 co:sc.isCoroutine=false
 gen:sc.isGenerator=false
 nd:N.Nodup
 pre:N.take P.length=P
 par:∀x∈P,sc.names.lookup x=some .local\/sc.names.lookup x=some .cell
 nofree:∀y∈sc.names,y.2≠.free
theorem bindL_out{kindOf:Str->Option NameKind}:∀ {binds:List (Str×Value)}{m:A4},(∀ v,(x,v)∉binds)->bindL kindOf binds m x=m x
 |[],_,_=>rfl
 | (n,v)::r,m,h=>by
   unfold bindL;rw[bindL_out λw hw=>h w (W6 _ hw)]
   split
   ·have:x≠n:=by rintro rfl;exact h v WP
    simp[this]
   ·rfl
theorem bindC_out{kindOf:Str->Option NameKind}:∀ {binds:List (Str×Value)}{m:A4},(∀ v,(x,v)∉binds)->bindC kindOf binds m x=m x
 |[],_,_=>rfl
 | (n,v)::r,m,h=>by
   unfold bindC;rw[bindC_out λw hw=>h w (W6 _ hw)]
   split
   ·rfl
   ·have:x≠n:=by rintro rfl;exact h v WP
    simp[this]
theorem bindL_get{kindOf:Str->Option NameKind}:∀ {P:C3}{vs:B5}{i:Nat}{m:A4},P.Nodup->P[i]?=some x->vs[i]?=some v->kindOf x=some .local->
  bindL kindOf (P.zip vs) m x=some v
 |[],_,_,_,_,h,_,_=>by simp at h
 |_::_,[],_,_,_,_,h,_=>by simp at h
 |p::P,w::vs,0,m,nd,h1,h2,hk=>by
   simp at h1 h2;subst h1;subst h2;show bindL kindOf ((p,w)::P.zip vs) m p=_;unfold bindL;rw[bindL_out λv hv=>(aaC.mp nd).1 (YL hv).1,Wq hk]
   simp
 |p::P,w::vs,i+1,m,nd,h1,h2,hk=>by show bindL kindOf ((p,w)::P.zip vs) m x=_;unfold bindL;exact bindL_get (i:=i) (aaC.mp nd).2 (by simpa using h1) (by simpa using h2) hk
theorem bindC_get{kindOf:Str->Option NameKind}:∀ {P:C3}{vs:B5}{i:Nat}{m:A4},P.Nodup->P[i]?=some x->vs[i]?=some v->kindOf x≠some .local->
  bindC kindOf (P.zip vs) m x=some v
 |[],_,_,_,_,h,_,_=>by simp at h
 |_::_,[],_,_,_,_,h,_=>by simp at h
 |p::P,w::vs,0,m,nd,h1,h2,hk=>by
   simp at h1 h2;subst h1;subst h2;show bindC kindOf ((p,w)::P.zip vs) m p=_;unfold bindC;rw[bindC_out λv hv=>(aaC.mp nd).1 (YL hv).1,Ww hk]
   simp
 |p::P,w::vs,i+1,m,nd,h1,h2,hk=>by show bindC kindOf ((p,w)::P.zip vs) m x=_;unfold bindC;exact bindC_get (i:=i) (aaC.mp nd).2 (by simpa using h1) (by simpa using h2) hk
def start(N:C3)(vs:List V):St:=vs.map some++List.replicate (N.length-vs.length) none
def cxOf(CX:CXT)(P:C5)(w:World)(K:B0)(mg:A4)(base:Heap)(N:C3)(qual:Str)(scope:Scope)(f:Addr)(cd:Value)(A:Around)(outer:C4)(s:Shared)(H:Hp)(E:XK):Cx where
 prog:=P
 w:=w
 K:=K
 mg:=mg
 base:=base
 A:=A.deeper (envOfC qual scope s.z f cd)
 N:=N
 s₀:=s
 H₀:=H
 env:=envOfC qual scope s.z f cd
 outer:=outer
 stack:=envOfC qual scope s.z f cd::outer
 ex:=[]
 calm:=true
 fn:=λy=>true
 pn:=[]
 xe:=λe s'=>wpAny (model P w) (A.deeper (envOfC qual scope s.z f cd)) (leaving (envOfC qual scope s.z f cd) e) (λy kz=>CX outer H s E e kz) (λe' kz=>CX outer H s E e' kz) s'
def cell_has{sc:Scope}{n:Nat}{x:Str}(h:sc.names.lookup x=some .cell):∃c,(cellsFrom n sc.names []).lookup x=some c:=by have q:=Zn sc.names n [] (.inl h);exact YG.mp q
def inv_start{CX:CXT}{P:C5}{w:World}{K:B0}{mg:A4}{base:Heap}{N ps:C3}{qual:Str}{scope:Scope}{f:Addr}{cd:Value}{A:Around}{outer:C4}{s s1:Shared}{H:Hp}{E:XK}{us:B5}{vs:List V}
  (S:FnScope N ps scope) (hd:A.handled=none) (e0:Env0 P w K mg base A outer s H) (hl:vs.length=ps.length) (r:Vals vs us)
  (x:InCallC s s.z (bindL (envOfC qual scope s.z f cd).kindOf (ps.zip us) λt=>none) (cellsFrom (s.z+1) scope.names []) (bindC (envOfC qual scope s.z f cd).kindOf (ps.zip us) λt=>none) s1) :
  Inv (cxOf CX P w K mg base N qual scope f cd A outer s H E) [] (start N vs) H s1:=by
 have hpl:ps.length<=N.length:=by have:=congrArg List.length S.pre;rw[Yz]at this;omega
 obtain⟨h1,tk,rfl,hk⟩:=x.done;have ox:∀b:Addr,b∉(cxOf CX P w K mg base N qual scope f cd A outer s H E).ex:=λb z=>absurd (show b∈([]:B7) from z) (by simp)
 refine⟨⟨e0.mod,S.kind,rfl,rfl,Wn _,λy z c h1 h2=>?_,λy hy=>?_,λy c t h=>?_,λt=>hd,Around.frames_deeper e0.frames,.inr ⟨rfl,rfl⟩,λb z=>absurd z (ox b),e0.bs,e0.bsz,λb t t=>ox b,λb z=>absurd z (ox b),e0.funs,e0.frf⟩,
  rfl,e0.bare,Un.kept hk,⟨_,x.toInCall.ns,λi y v h1 h2 h3=>?_⟩,λy c h=>⟨_,x.cell y c h⟩,e0.hok.fresh (Wn _),λy c h=>?_,λp hp=>absurd (show p∈([]:A8) from hp) (by simp),e0.hok.kept hk,?_⟩
 ·exact name_of_addr x.apart (XM h1) (XM h2)
 ·have hy:scope.names.lookup y=some .cell\/scope.names.lookup y=some .free:=hy;rcases hy with hy | hy
  ·exact cell_has hy
  ·exact absurd rfl (S.nofree _ (XM hy))
 ·exact YJ (x.above y c (XM h))
 ·have hi:i<vs.length:=by
   unfold start at h2;by_cases hi:i<vs.length
   ·exact hi
   ·rw[Xn (by simpa using hi)]at h2
    rw[X6]at h2;split at h2<;>cases h2
  have ha:vs[i]?=some v:=by
   unfold start at h2;rw[WD (by simpa using hi),WM]at h2
   cases e:vs[i]? with
   |none=>rw[e]at h2;cases h2
   |some a=>rw[e]at h2;cases h2;rfl
  obtain⟨u,hu,rv⟩:=r.get ha;have hp:ps[i]?=some y:=by rw[<-S.pre,List.getElem?_take_of_lt (by omega)];exact h1
  have ndP:ps.Nodup:=by rw[<-S.pre];exact S.nd.sublist (List.take_sublist _ _)
  refine⟨u,rv,?_⟩;rcases S.par y (WR hp) with k | k
  ·exact .inl ⟨k,bindL_get ndP hp hu k⟩
  ·obtain⟨c,e⟩:=cell_has (n:=s.z+1) k;refine .inr ⟨.inl k,c,e,?_⟩;have q:=x.cell y c e;rw[bindC_get ndP hp hu (by show scope.names.lookup y≠_;rw[k];decide)]at q
   exact q
 ·exact e0.hok.fresh (YJ (x.above y c (XM h)))
 ·unfold start;show _=N.length;rw[W3,Wm,XN];omega
def fn_of{CX:CXT}{P:C5}{w:World}{K:B0}{mg:A4}{base:Heap}{k:Nat}{f:Addr}{name qual:Str}{params:Arguments}{body:List Stmt}{scope:Scope}{dV kV doc pm ae ct oc:Value}{an od:B3}
  {bp:Array B1}{N ps:C3}{sp:Sp} (lk:K.lookup f=some ⟨oc,od,.func (W.fnOf name qual params body scope dV kV doc pm an ae ct),bp⟩) (ba:W.codeIn K ae qual=true) (S:FnScope N ps scope)
  (len:∀vs H Q E,sp vs H Q E->vs.length=ps.length)
  (af:∀(A:Around) (outer:C4) (s:Shared) (H:Hp) (vs:List V) (Q:VK) (E:XK),Room k (A.deeper (envOfC qual scope s.z f ae))->sp vs H Q E->
    ∃t,PSs (cxOf CX P w K mg base N qual scope f ae A outer s H E) body t/\t { nx:=λp H'=>Q .non H',rt:=Q } (start N vs) H) :
  FnOk P w K mg base CX (k+1) f (W.fnOf name qual params body scope dV kV doc pm an ae ct) ps sp:=by
 refine⟨len,λA outer s H args us vs Q E hr e0 hb r hsp=>?_⟩
 have hl:=len _ _ _ _ hsp;have KX:K.In s.heap:=e0.mod.kin.keeps λb o e=>(e0.bs b o e).1
 have lim:s.heap.NoLimit:=e0.mod.nolimit.keeps λb o e=>(e0.bs b o e).1
 have fq:∀y∈ps.zip us,scope.names.lookup y.1=some .local\/(scope.names.lookup y.1=some .cell/\((cellsFrom (s.z+1) scope.names []).lookup y.1).isSome=true):=λ⟨n,v⟩ hy=>by
  rcases S.par n (YL hy).1 with q | q
  ·exact .inl q
  ·exact .inr ⟨q,Zn _ _ _ (.inl q)⟩
 refine aay hr.depth (KX _ _ lk) rfl S.co S.gen rfl (W.codeRec_of KX ba) (hb _ _ _ _ ?_);refine ZX S.kind fq λenv he s1 x=>?_
 subst he;refine⟨lim.keeps x.toInCall.keep,codeAny_func ?_⟩;obtain⟨t,ht,hq⟩:=af A outer s H vs Q E (hr.deeper _) hsp;have I:Inv (cxOf CX P w K mg base N qual scope f ae A outer s H E) [] (start N vs) H s1:=inv_start S hr.hd e0 hl r x;refine W5 (ht [] s1 (start N vs) H _ I hq) (λfl s' hs=>?_) λe s' hs=>hs
 have fin:∀{σ':St}{H':Hp}{v:V}{u:Value},Inv (cxOf CX P w K mg base N qual scope f ae A outer s H E) [] σ' H' s'->RelV v u->Q v H'->CE outer P w H s Q u s':=
  λ{σ' H' v u} J rv q=>⟨v,H',J.os,J.bare,J.base,J.hok,rv,q⟩
 cases fl with
 |ret u=>obtain⟨v,σ',H',J,rv,q⟩:=hs;exact fin J rv q
 |next=>obtain⟨σ',H',J,q⟩:=hs;exact fin (v:=V.non) (u:=Value.none) J rfl q
 |brk=>obtain⟨_,_,_,q⟩:=hs;exact False.elim q
 |cont=>obtain⟨_,_,_,q⟩:=hs;exact False.elim q
open PyProof.Rows
section
variable{X:Cx}{x:Str}{p pos:Pos}{e:Expr}{es:B8}{t:TA}{id T:String}{r:List V->Hp->VK->Prop}
def tCB(r:List V->Hp->VK->Prop)(t:TA):TE:=λσ H Q=>t σ H λvs H1=>r vs H1 Q
def pe_callB(hc:CallR X (.builtin id) r)(hg:Gl X x)(hm:X.mg x=none)(hv:bootBuiltins x=some (.builtin id))(ha:PA X (e::es) t)(hn:x≠"__name__":=by decide)(ai:(x==("__debug__":Str))=false:=by decide)
  (he:starEach (e::es) X.env=(false,eval e X.env)::starEach es X.env:=by rfl) (hpl:(backTo pos (starEach es X.env)).any (·.1)=false:=by rfl):PE X (.Call (.Name x p) (e::es) [] pos) (tCB r t):=by
 walk_at "f";refine YF (ld_blt I hg hm hv ?_ hn ai);exact Zh (thn (ha pos aaW s σ H _ I h) λus s1 ⟨vs,H1,I1,r1,q1⟩=>hc aaW s1 σ H1 vs us Q I1 r1 q1) he hpl
def pe_callTy(hc:CallR X (.type T) r)(hg:Gl X x)(hm:X.mg x=none)(hv:bootBuiltins x=some (.type T))(ha:PA X (e::es) t)(hn:x≠"__name__":=by decide)(ai:(x==("__debug__":Str))=false:=by decide)
  (he:starEach (e::es) X.env=(false,eval e X.env)::starEach es X.env:=by rfl) (hpl:(backTo pos (starEach es X.env)).any (·.1)=false:=by rfl):PE X (.Call (.Name x p) (e::es) [] pos) (tCB r t):=by
 walk_at "f";refine YF (ld_blt I hg hm hv ?_ hn ai);exact Xf (thn (ha pos aaW s σ H _ I h) λus s1 ⟨vs,H1,I1,r1,q1⟩=>hc aaW s1 σ H1 vs us Q I1 r1 q1) he hpl
end
end L2
namespace HT
open PySem PyProof.Rows
section
open PySem.SeqAt
open PySem.AutoSeq1 (wpAny_loadPart')
open PySem.MeetsSeq PySem.MeetsSeq2 PySem.MeetsSeq3
end
section
variable{prog:C5}{w:World}{A:Around}{E:A3}{s:Shared}
def cat_tup(ht:IsTup s.heap t vs.toArray)(hb:IsTup s.heap b ws.toArray)(hv:vs≠[])
  (h1:ws=[]->Q (.ref t) s) (h2:ws≠[]->Q (.ref s.z) { s with heap:=s.heap.push { cls:=.type "tuple",data:=.seq (vs++ws).toArray } })
  (hsz:vs.length+ws.length<=sizeLine):wq prog w A (binaryOp .Add (.ref t) (.ref b)) Q E s:=by
 obtain⟨⟨cls,dd,data,sl⟩,ho,hc,n,hd⟩:=id ht;obtain⟨⟨cls2,dd2,data2,oy⟩,ho2,hc2,n2,hd2⟩:=id hb;simp only at hc hd hc2 hd2;subst hc hd hc2 hd2;have e:vs.toArray++ws.toArray=(vs++ws).toArray:=by simp
 by_cases hw:ws=[]
 ·exact concat_meets ⟨_,ho,rfl⟩ ⟨_,ho2,rfl⟩ noFill_tuple_add seq_tuple_add aas aai (aaa _ _)
   (tuple_addW1 t b vs.toArray ws.toArray n n2 dd dd2 sl oy (by simpa using hv) (by simp[hw])) ⟨ho,ho2,h1 hw⟩
 ·refine concat_meets ⟨_,ho,rfl⟩ ⟨_,ho2,rfl⟩ noFill_tuple_add seq_tuple_add aas aai (aaa _ _)
   (tuple_addW2 t b vs.toArray ws.toArray n n2 dd dd2 sl oy (by simpa using hv) (by simpa using hw) (by rw[WX,WX];exact hsz)) ⟨ho,ho2,?_⟩
  rw[e];exact h2 hw
def sIx(n d:Nat):Option Int->Nat
 |none=>d
 |some v=>if v<0 then (v+(n:Int)).toNat else min v.toNat n
end
end HT
namespace L2
open PyProof.Rows
abbrev TO:=St->Hp->(Option Int->Hp->Prop)->Prop
def PO(X:Cx)(e:Option Expr)(t:TO):Prop:=
 ∀(aaW:A8) (s:Shared) (σ:St) (H:Hp) (Q:Option Int->Hp->Prop),Inv X aaW σ H s->t σ H Q->
   wpAny X.M X.A (evalPart e X.env) (λu s'=>∃o H',Inv X aaW σ H' s'/\IsPart u o/\Q o H') X.xe s
def tPart(t:TE):TO:=λσ H Q=>t σ H λx H1=>∃i,x=.int i/\Q (some i) H1
def intsAre_of:∀ {us:B5},Vals (ns.map V.int) us->IntsAre us ns:=by
 induction ns with
 |nil=>intro us r;rw[Zx]at r;cases r;exact .nil
 | cons n ns ih=>
   intro us r;rw[W2]at r;cases r with
   |cons r1 r2=>obtain⟨t,e⟩:=r1;subst e;exact .cons n t (ih r2)
section
variable{X:Cx}{e:Expr}{te:TE}{lo hi:Option Expr}{tl th:TO}{pos p2:Pos}
def po_some(h:PE X e te):PO X (some e) (tPart te):=by
 intro aaW s σ H Q I hw;rw[evalPart_some];refine thn (h aaW s σ H _ I hw) λu s1 ⟨x,H1,I1,r1,q1⟩=>?_
 obtain⟨i,rfl,q⟩:=q1;obtain⟨t,rfl⟩:=r1;exact⟨some i,H1,I1,.int i t,q⟩
def SlR(X:Cx)(r:V->Option Int->Option Int->Hp->VK->Prop):Prop:=
 ∀(aaW:A8) (s:Shared) (σ:St) (H:Hp) (x:V) (v vl vu:Value) (lo hi:Option Int) (sl:Addr) (Q:VK),Inv X aaW σ H s->RelV x v->s.heap.IsSliceOf sl vl vu .none->IsPart vl lo->IsPart vu hi->r x lo hi H Q->
   ∃T id,typeLookup (.type T) "__getitem__"=pure (some (.builtin id))/\s.TypeIs v T/\wpAny X.M X.A (getItem v (.ref sl)) (EP X aaW σ Q) X.xe s
def tSl(r:V->Option Int->Option Int->Hp->VK->Prop)(te:TE)(tl th:TO):TE:=λσ H Q=>te σ H λx H1=>tl σ H1 λl H2=>th σ H2 λu H3=>r x l u H3 Q
def pe_slice(hr:SlR X r)(he:PE X e te)(hl:PO X lo tl)(hu:PO X hi th):PE X (.Subscript e (.Slice lo hi none p2) pos) (tSl r te tl th):=by
 walk_at "f";refine Subscript_ (thn (he aaW s σ H _ I h) λv s1 ⟨x,H1,I1,r1,q1⟩=>?_)
 refine wpAny_Slice (thn (hl aaW s1 σ H1 _ I1 q1) λvl s2 ⟨l,H2,I2,pl,q2⟩=>thn (hu aaW s2 σ H2 _ I2 q2) λvu s3 ⟨u,H3,I3,pu,q3⟩=>?_)
 rw[evalPart_none];refine Wh ?_;have I4:Inv X aaW σ H3 { s3 with heap:=s3.heap.push { cls:=.type "slice",data:=.fields #[vl,vu,.none] } }:=I3.kept (t':=s3.toks) λb ob q=>Wi _ q
 obtain⟨T,id,hT,ht,hg⟩:=hr aaW { s3 with heap:=s3.heap.push { cls:=.type "slice",data:=.fields #[vl,vu,.none] } } σ H3 x v vl vu l u s3.z Q I4 r1 (Heap.IsSliceOf.new ..) pl pu q3
 show wpAny X.M X.A (subscriptTail e (.Slice lo hi none p2) v (.ref s3.z)) (EP X aaW σ Q) X.xe { s3 with heap:=s3.heap.push { cls:=.type "slice",data:=.fields #[vl,vu,.none] } }
 exact tail_any (ops:=[.ref s3.z,v]) ht hT hg (by with_unfolding_all rfl)
def cutV(xs:List V)(lo hi:Option Int):List V:=(xs.drop (HT.sIx xs.length 0 lo)).take (HT.sIx xs.length xs.length hi-HT.sIx xs.length 0 lo)
def cutV_length(xs:List V)(lo hi:Option Int):(cutV xs lo hi).length<=xs.length:=by unfold cutV;rw[Yz,ZJ];omega
def rCatT(K:B0):R2:=λx y H Q=>∃a b xs ys,x=.ref a/\y=.ref b/\SqT K H a xs/\SqT K H b ys/\xs≠[]/\xs.length+ys.length<=sizeLine /\
 (ys=[]->Q (.ref a) H)/\(ys≠[]->∀p,H p=none->Q (.ref p) (upd H p (.tup (xs++ys))))
def Vals.nil_iff(r:Vals xs us):us=[] ↔ xs=[]:=by
 cases r with
 |nil=>simp
 |cons _ _=>simp
def op_catT:OpR X (binaryOp .Add) (rCatT X.K):=by
 walk_at "e";obtain⟨a,b,xs,ys,rfl,rfl,ha,hb,hx,hz,q1,q2⟩:=h;cases rx;cases ry;obtain⟨its,r1,p1,_⟩:=I.tuple ha;obtain⟨dn,r2,p2,_⟩:=I.tuple hb;refine HT.cat_tup p1 p2 (λz=>hx (r1.nil_iff.mp z)) (λz=>⟨.ref a,H,I,rfl,q1 (r2.nil_iff.mp z)⟩) (λz=>?_) (by rw[<-r1.length,<-r2.length];exact hz)
 refine⟨.ref s.z,_,I.laid (t':=s.toks) (o:=.tup (xs++ys)) (λb ob q=>Wi _ q) (Wn _) ?_,rfl,q2 (λw=>z (r2.nil_iff.mpr w)) _ (I.hok.fresh (Wn _))⟩
 exact⟨by rw[W3];exact hz,_,r1.append r2,aaN _ _⟩
end
open PyProof.Rows
def ixN(n:Nat)(i:Int):Option Nat:=if 0<=i then (if i<n then some i.toNat else none) else if -(n:Int)<=i then some (i+n).toNat else none
def atI{α:Type}(xs:List α)(i:Int):Option α:=(ixN xs.length i).bind λj=>xs[j]?
def ixN_seq(h:ixN n i=some j):seqIndex? i n=some j/\j<n/\-(n:Int)<=i/\i<n:=by
 unfold ixN at h;by_cases h0:0<=i
 ·rw[Wq h0]at h;by_cases h1:i<n
  ·rw[Wq h1]at h;have e:i.toNat=j:=Ws h;exact⟨by rw[seqIndex_of h0 h1,e],by omega,by omega,h1⟩
  ·rw[Ww h1]at h;cases h
 ·rw[Ww h0]at h;by_cases h1:-(n:Int)<=i
  ·rw[Wq h1]at h;have e:(i+n).toNat=j:=Ws h;exact⟨by rw[seqIndex_neg (by omega) h1,e],by omega,h1,by omega⟩
  ·rw[Ww h1]at h;cases h
def atI_get(h:atI xs i=some v):∃ j,seqIndex? i xs.length=some j/\xs[j]?=some v/\j<xs.length/\-(xs.length:Int)<=i/\i<xs.length:=by
 unfold atI at h;cases e:ixN xs.length i with
 |none=>rw[e]at h;cases h
 |some j=>rw[e]at h;obtain⟨h1,h2,h3,h4⟩:=ixN_seq e;exact⟨j,h1,h,h2,h3,h4⟩
def PlainIx(b:Expr):Prop:=∀o i,subscripted b false o i=operate [o,i] (getItem o i)
def IxR(X:Cx)(r:R2):Prop:=
 ∀(value slice:Expr) (aaW:A8) (s:Shared) (σ:St) (H:Hp) (x y:V) (v u:Value) (Q:VK),Inv X aaW σ H s->RelV x v->RelV y u->r x y H Q->
   subscripted slice false v u=operate [v,u] (getItem v u)->wpAny X.M X.A (subscriptTail value slice v u) (EP X aaW σ Q) X.xe s
def MtR(X:Cx)(id:String)(r:V->List V->Hp->VK->Prop):Prop:=
 ∀(aaW:A8) (s:Shared) (σ:St) (H:Hp) (x:V) (xs:List V) (v:Value) (us:B5) (Q:VK),Inv X aaW σ H s->RelV x v->Vals xs us->r x xs H Q->
   wpAny X.M X.A (call (.builtin id) (v::us)) (EP X aaW σ Q) X.xe s
section
variable{X:Cx}{a b:Expr}{ta tb:TE}{pos:Pos}
def pe_ix(hr:IxR X r)(ha:PE X a ta)(hb:PE X b tb)(hs:PlainIx b):PE X (.Subscript a b pos) (tOp r ta tb):=by walk_at "f";exact Subscript_ (binT ha hb I h λv u s2 x y H2 I2 rx ry q=>hr a b aaW s2 σ H2 x y v u Q I2 rx ry q (hs _ _))
def rIxL(K:B0):R2:=λx y H Q=>∃p xs i v,x=.ref p/\y=.int i/\SqL K H p xs/\atI xs i=some v/\Q v H
def rIxT(K:B0):R2:=λx y H Q=>∃p xs i v,x=.ref p/\y=.int i/\SqT K H p xs/\atI xs i=some v/\Q v H
def ix_list:IxR X (rIxL X.K):=by
 intro value slice aaW s σ H x y v u Q I rx ry h hs;obtain⟨p,xs,i,z,rfl,rfl,hq,he,q⟩:=h;cases rx;obtain⟨t,rfl⟩:=ry;obtain⟨its,r,pl,hz⟩:=I.list hq;obtain⟨j,h1,h2,h3,h4,h5⟩:=atI_get he;obtain⟨w,ew,fm⟩:=r.get h2;have hl:=r.length;have hn:=line63;have fin:EP X aaW σ Q w s:=⟨z,H,I,fm,q⟩;by_cases h0:0<=i
 ·have hj:i.toNat=j:=by rw[seqIndex_of h0 h5]at h1;exact Ws h1
  exact item_listR pl.isList h0 (by omega) (by rw[hj];simpa using ew) fin hs
 ·have hj:(i+(its.toArray.size:Int)).toNat=j:=by
   rw[seqIndex_neg (by omega) h4]at h1
   rw[WX,<-hl];exact Ws h1
  exact subscriptTail_builtinR (x:=w) pl.isList.typeIs slot_list_getitem.lookup
   (wpAny_getItem_list_neg (Q:=λr s'=>r=w/\EP X aaW σ Q r s') pl.isList (by omega) (by rw[WX]<;>omega) (by omega) (by rw[hj];simpa using ew) ⟨rfl,fin⟩) hs
def ix_tup:IxR X (rIxT X.K):=by
 intro value slice aaW s σ H x y v u Q I rx ry h hs;obtain⟨p,xs,i,z,rfl,rfl,hq,he,q⟩:=h;cases rx;obtain⟨t,rfl⟩:=ry;obtain⟨its,r,pl,hz⟩:=I.tuple hq;obtain⟨j,h1,h2,h3,h4,h5⟩:=atI_get he;obtain⟨w,ew,fm⟩:=r.get h2;have hl:=r.length;have hn:=line63;have fin:EP X aaW σ Q w s:=⟨z,H,I,fm,q⟩;exact subscriptTail_builtinR (x:=w) pl.typeIs slot_tuple_getitem.lookup
  (getItem_tuple (j:=j) (Q:=λr s'=>r=w/\EP X aaW σ Q r s') pl (by omega) (by omega) (by rw[WX,<-hl];exact h1) (by simpa using ew) ⟨rfl,fin⟩) hs
def mapSeq_set(its:B5)(n j:Nat)(u:Value):Obj.mapSeq (·.setIfInBounds j u) { cls:=.type "list",data:=.seq its.toArray n }={ cls:=.type "list",data:=.seq (its.set j u).toArray n }:=by simp[Obj.mapSeq]
theorem Inv.lst(I:Inv X aaW σ H s)(h:H p=some (.lst xs)):
  ∃(its:B5) (n:Nat),Vals xs its/\s.heap.get? p=some { cls:=.type "list",data:=.seq its.toArray n }/\xs.length<=sizeLine:=by
 obtain⟨z,its,n,r,e⟩:=I.hok p _ h;exact⟨its,n,r,e,z⟩
def Inv.lstUpd{aaW:A8}{xs ys:List V}{its its':B5}{n n':Nat}{f:Obj->Obj}(I:Inv X aaW σ H s)(h:H p=some (.lst xs))
  (ho:s.heap.get? p=some { cls:=.type "list",data:=.seq its.toArray n }) (hf:f { cls:=.type "list",data:=.seq its.toArray n }={ cls:=.type "list",data:=.seq its'.toArray n' }) (r:Vals ys its') (hz:ys.length<=sizeLine) (t:Nat) :
  Inv X aaW σ (upd H p (.lst ys)) { s with heap:=s.heap.update p f,toks:=t }:=by
 have e:(s.heap.update p f).get? p=some { cls:=.type "list",data:=.seq its'.toArray n' }:=by rw[Zv f ho (by rw[hf]<;>rfl),hf]
 refine I.write (x:=p) (e:=p) (by rw[h];trivial) (.inl rfl) (λb u hb q=>(Yw _ _ (Ne.symm hb)).trans q) ⟨_,e⟩ ?_
 exact⟨hz,its',n',r,e⟩
def rSetL:V->V->V->Hp->(Hp->Prop)->Prop:=λo i v H Q=>∃p xs k j,o=.ref p/\i=.int k/\H p=some (.lst xs)/\ixN xs.length k=some j/\Q (upd H p (.lst (xs.set j v)))
def set_list:PSet X rSetL:=by
 intro aaW s σ H o i v ov iv u Q I ro ri rv h;obtain⟨p,xs,k,j,rfl,rfl,hp,hj,q⟩:=h;cases ro;obtain⟨t,rfl⟩:=ri;obtain⟨its,n,r,ho,hz⟩:=I.lst hp;obtain⟨h1,h2,h3,h4⟩:=ixN_seq hj;have hl:=r.length;have hn:=line63;have I':Inv X aaW σ (upd H p (.lst (xs.set j v))) { s with heap:=s.heap.update p (Obj.mapSeq (·.setIfInBounds j u)) }:=
  I.lstUpd hp ho (mapSeq_set its n j u) (r.set rv j) (by rw[Ye];exact hz) s.toks
 by_cases h0:0<=k
 ·have hk:k.toNat=j:=by rw[seqIndex_of h0 h4]at h1;exact Ws h1
  exact W.ki_setAt ho h0 (by omega) (by rw[WX,<-hl];exact h4) (by rw[hk];exact⟨_,I',q⟩)
 ·have hk:(k+(its.toArray.size:Int)).toNat=j:=by
   rw[seqIndex_neg (by omega) h3]at h1
   rw[WX,<-hl];exact Ws h1
  exact W.ki_setBack ho (by omega) (by rw[WX,<-hl];exact h3) (by omega) (by rw[hk];exact⟨_,I',q⟩)
def slice_bounds(lo hi:Option Int)(n:Nat):(sliceBounds lo hi none n).1=((HT.sIx n 0 lo:Nat):Int)/\(sliceBounds lo hi none n).2.1=((HT.sIx n n hi:Nat):Int)/\(sliceBounds lo hi none n).2.2=1:=by
 refine⟨?_,?_,rfl⟩
 ·cases lo with
  |none=>simp[sliceBounds,HT.sIx]
  |some i=>
    simp only[sliceBounds,HT.sIx,Option.getD_none,show (1:Int) > 0 by decide,if_true]
    by_cases h:i<0
    ·simp only[h,if_true]<;>omega
    ·simp only[h,if_false]<;>omega
 ·cases hi with
  |none=>simp[sliceBounds,HT.sIx]
  |some i=>
    simp only[sliceBounds,HT.sIx,Option.getD_none,show (1:Int) > 0 by decide,if_true]
    by_cases h:i<0
    ·simp only[h,if_true]<;>omega
    ·simp only[h,if_false]<;>omega
def slicePick_cut(its:B5)(lo hi:Option Int):slicePick its.toArray lo hi none=((its.drop (HT.sIx its.length 0 lo)).take (HT.sIx its.length its.length hi-HT.sIx its.length 0 lo)).toArray:=by obtain⟨h1,h2,h3⟩:=slice_bounds lo hi its.toArray.size;unfold slicePick;rw[h1,h2,h3];simp only[sliceRange_one,pick_run,List.size_toArray]<;>rfl
def rSlL(K:B0):V->Option Int->Option Int->Hp->VK->Prop:=λx lo hi H Q=>∃a xs,x=.ref a/\SqL K H a xs/\∀p,H p=none->Q (.ref p) (upd H p (.lst (cutV xs lo hi)))
def sl_list:SlR X (rSlL X.K):=by
 intro aaW s σ H x v vl vu lo hi sl Q I rx hs pl pu h;obtain⟨a,xs,rfl,hx,q⟩:=h;cases rx;obtain⟨its,r,ht,hz⟩:=I.list hx;have hlen:=r.length;refine⟨"list",_,slot_list_getitem.lookup,ht.isList.typeIs,?_⟩;refine wpAny_getItem_list_slice ht.isList hs pl pu .none (by simp) ?_ (by rw[WX]<;>omega)
 rw[slicePick_cut,<-hlen];refine⟨.ref s.z,_,I.laid (t':=s.toks) (o:=.lst (cutV xs lo hi)) (λb ob q=>Wi _ q) (Wn _) ?_,rfl,q _ (I.hok.fresh (Wn _))⟩
 exact⟨W0 (cutV_length xs lo hi) hz,_,0,(r.drop (HT.sIx xs.length 0 lo)).take (HT.sIx xs.length xs.length hi-HT.sIx xs.length 0 lo),Wu _ rfl⟩
def flatV:V->Bool
 |.non=>true
 |.bl _=>true
 |.int _=>true
 |.str _=>true
 |_=>false
noncomputable def eqV:V->V->Bool
 |.non,.non=>true
 |.bl a,.bl b=>a==b
 |.bl a,.int b=>(if a then 1 else 0)==b
 |.int a,.bl b=>a==(if b then 1 else 0)
 |.int a,.int b=>a==b
 |.str a,.str b=>a==b
 |_,_=>false
def eqAt_V(ry:RelV y u)(rx:RelV x v)(fy:flatV y=true)(fx:flatV x=true):SeqAt.EqAt A s u v (eqV y x):=by
 cases y with
 |non=>
   cases ry;cases x with
   |non=>cases rx;exact SeqAt.EqAt.same _
   |bl b=>cases rx;exact SeqAt.EqAt.none_bool b
   |int b=>obtain⟨t,rfl⟩:=rx;exact SeqAt.EqAt.none_int b t
   |str b=>obtain⟨t,rfl⟩:=rx;exact SeqAt.EqAt.none_str b t
   |_=>exact absurd (show false=true from fx) WT
 |bl a=>
   cases ry;cases x with
   |non=>cases rx;exact SeqAt.EqAt.bool_none a
   |bl b=>cases rx;exact SeqAt.EqAt.bool_bool a b
   |int b=>obtain⟨t,rfl⟩:=rx;exact SeqAt.EqAt.bool_int a b t
   |str b=>obtain⟨t,rfl⟩:=rx;exact SeqAt.EqAt.bool_str a b t
   |_=>exact absurd (show false=true from fx) WT
 |int a=>
   obtain⟨t',rfl⟩:=ry;cases x with
   |non=>cases rx;exact SeqAt.EqAt.int_none a t'
   |bl b=>cases rx;exact SeqAt.EqAt.int_bool a t' b
   |int b=>obtain⟨t,rfl⟩:=rx;exact SeqAt.EqAt.int_int a t' b t
   |str b=>obtain⟨t,rfl⟩:=rx;exact SeqAt.EqAt.int_str a t' b t
   |_=>exact absurd (show false=true from fx) WT
 |str a=>
   obtain⟨t',rfl⟩:=ry;cases x with
   |non=>cases rx;exact SeqAt.EqAt.str_none a t'
   |bl b=>cases rx;exact SeqAt.EqAt.str_bool a t' b
   |int b=>obtain⟨t,rfl⟩:=rx;exact SeqAt.EqAt.str_int a t' b t
   |str b=>obtain⟨t,rfl⟩:=rx;exact SeqAt.EqAt.str_str a t' b t
   |_=>exact absurd (show false=true from fx) WT
 |_=>exact absurd (show false=true from fy) WT
def eqU(x:V)(u:Value):Bool:=match u with
 |.none=>eqV .non x
 |.bool b=>eqV (.bl b) x
 |.int i _=>eqV (.int i) x
 |.str z _=>eqV (.str z) x
 |_=>false
def eqU_of(r:RelV y u)(f:flatV y=true):eqU x u=eqV y x:=by
 cases y with
 |non=>cases r;rfl
 |bl b=>cases r;rfl
 |int i=>obtain⟨t,rfl⟩:=r;rfl
 |str z=>obtain⟨t,rfl⟩:=r;rfl
 |_=>exact absurd (show false=true from f) WT
theorem any_eqU:∀ {xs:List V}{us:B5},Vals xs us->xs.all flatV=true->us.any (eqU x)=xs.any λy=>eqV y x
 |_,_,.nil,_=>rfl
 |y::xs,u::us,.cons r t,f=>by rw[aaV,YC]at f;rw[Zf,Zf,eqU_of r f.1,any_eqU t f.2]
theorem mem_eqAt(rx:RelV x v)(fx:flatV x=true):∀ {xs:List V}{us:B5},Vals xs us->xs.all flatV=true->∀ u∈us,SeqAt.EqAt A s u v (eqU x u)
 |_,_,.nil,_=>λu hu=>by cases hu
 |y::xs,u::us,.cons r t,f=>λu' hu=>by
   rw[aaV,YC]at f;rcases Wz.mp hu with rfl | hu
   ·rw[eqU_of r f.1];exact eqAt_V r rx f.1 fx
   ·exact mem_eqAt rx fx t f.2 u' hu
def inV(x:V)(xs:List V):Bool:=xs.any λy=>eqV y x
def rIn(K:B0)(neg:Bool):R2:=λx y H Q=>∃p xs,y=.ref p/\(SqL K H p xs\/SqT K H p xs)/\flatV x=true/\xs.all flatV=true/\Q (.bl (if neg then !inV x xs else inV x xs)) H
def op_in_seq:OpR X (compareOp .In) (rIn X.K false):=by
 walk_at "e";obtain⟨p,xs,rfl,hq,fx,fs,q⟩:=h;cases ry;rcases hq with hq | hq
 ·obtain⟨its,r,pl,hz⟩:=I.list hq;refine SeqAt.in_listAt (eqU x) pl.isList (λw hw=>mem_eqAt rx fx r fs w (by simpa using hw)) ⟨.bl _,H,I,rfl,?_⟩
  rw[show its.toArray.any (eqU x)=its.any (eqU x) by simp,any_eqU r fs]
  exact q
 ·obtain⟨its,r,pl,hz⟩:=I.tuple hq;refine SeqAt.in_tupleAt (eqU x) pl (λw hw=>mem_eqAt rx fx r fs w (by simpa using hw)) ⟨.bl _,H,I,rfl,?_⟩
  rw[show its.toArray.any (eqU x)=its.any (eqU x) by simp,any_eqU r fs]
  exact q
def op_notIn_seq:OpR X (compareOp .NotIn) (rIn X.K true):=by
 walk_at "e";obtain⟨p,xs,rfl,hq,fx,fs,q⟩:=h;cases ry;rcases hq with hq | hq
 ·obtain⟨its,r,pl,hz⟩:=I.list hq;refine SeqAt.notIn_listAt (eqU x) pl.isList (λw hw=>mem_eqAt rx fx r fs w (by simpa using hw)) ⟨.bl _,H,I,rfl,?_⟩
  rw[show its.toArray.any (eqU x)=its.any (eqU x) by simp,any_eqU r fs]
  exact q
 ·obtain⟨its,r,pl,hz⟩:=I.tuple hq;refine SeqAt.notIn_tupleAt (eqU x) pl (λw hw=>mem_eqAt rx fx r fs w (by simpa using hw)) ⟨.bl _,H,I,rfl,?_⟩
  rw[show its.toArray.any (eqU x)=its.any (eqU x) by simp,any_eqU r fs]
  exact q
def call_len_seq:CallR X (.builtin "len") (λxs H Q=>∃p ys,xs=[.ref p]/\(SqL X.K H p ys\/SqT X.K H p ys)/\Q (.int ys.length) H):=by
 intro aaW s σ H xs us Q I r h;obtain⟨p,ys,rfl,hq,q⟩:=h;obtain⟨u,rfl,rx⟩:=vals1 r;cases rx;have hn:=line63;rcases hq with hq | hq
 ·obtain⟨its,r',pl,hz⟩:=I.list hq;have hlen:=r'.length;exact Calls.call_len_list pl.isList (by simp only[List.size_toArray]<;>omega) ⟨.int ys.length,H,I.tok _,⟨s.toks+1,by rw[WX,hlen]⟩,q⟩
 ·obtain⟨its,r',pl,hz⟩:=I.tuple hq;have hlen:=r'.length;exact len_tuple pl (by simp only[List.size_toArray]<;>omega) ⟨.int ys.length,H,I.tok _,⟨s.toks+1,by rw[WX,hlen]⟩,q⟩
def call_len_str:CallR X (.builtin "len") (λxs H Q=>∃z,xs=[.str z]/\z.length<=sizeLine/\Q (.int z.length) H):=by intro aaW s σ H xs us Q I r h;obtain⟨z,rfl,hz,q⟩:=h;obtain⟨u,rfl,t,rfl⟩:=vals1 r;have hn:=line63;exact len_str (by omega) ⟨.int z.length,H,I.tok _,⟨_,rfl⟩,q⟩
def CallR.or(h:CallR X f r)(h':CallR X f r'):CallR X f (λxs H Q=>r xs H Q\/r' xs H Q):=by
 intro aaW s σ H xs us Q I rs q;rcases q with q | q
 ·exact h aaW s σ H xs us Q I rs q
 ·exact h' aaW s σ H xs us Q I rs q
def call_list_of:CallR X (.type "list") (λxs H Q=>∃ p ys,xs=[.ref p]/\(SqL X.K H p ys\/SqT X.K H p ys)/\∀ l,H l=none->Q (.ref l) (upd H l (.lst ys))):=by
 intro aaW s σ H xs us Q I r h;obtain⟨p,ys,rfl,hq,q⟩:=h;obtain⟨u,rfl,rx⟩:=vals1 r;cases rx;have fin:∀(its:B5),Vals ys its->ys.length<=sizeLine->∀(h':Heap) (c':Nat),(∀b o',s.heap.get? b=some o'->h'.get? b=some o')->
   h'.get? s.z=some { cls:=.type "list",dict:=none,data:=.seq its.toArray c',slots:=#[] }->EP X aaW σ Q (.ref s.z) { s with heap:=h' }:=λits r' hz h' c' kp e=>
  ⟨.ref s.z,_,I.laid (t':=s.toks) kp (Wn _) (show ObjOk X.prog X.w _ h' _ (.lst ys) from⟨hz,its,c',r',e⟩),rfl,q _ (I.hok.fresh (Wn _))⟩
 rcases hq with hq | hq
 ·obtain⟨its,r',pl,hz⟩:=I.list hq;have hlen:=r'.length;obtain⟨o,ho,hc,n,hd⟩:=pl.isList;exact call_list_seq p (.inl rfl) ho hc hd (λh' c' kp e=>fin its r' hz h' c' kp e) (by simp only[List.size_toArray]<;>omega)
 ·obtain⟨its,r',pl,hz⟩:=I.tuple hq;have hlen:=r'.length;obtain⟨o,ho,hc,n,hd⟩:=pl;exact call_list_seq p (.inr rfl) ho hc hd (λh' c' kp e=>fin its r' hz h' c' kp e) (by simp only[List.size_toArray]<;>omega)
def call_tuple_of:CallR X (.type "tuple") (λxs H Q=>∃ p ys,xs=[.ref p]/\((SqL X.K H p ys/\∀ l,H l=none->Q (.ref l) (upd H l (.tup ys)))\/(SqT X.K H p ys/\Q (.ref p) H))):=by
 intro aaW s σ H xs us Q I r h;obtain⟨p,ys,rfl,h⟩:=h;obtain⟨u,rfl,rx⟩:=vals1 r;cases rx;rcases h with ⟨hq,q⟩ | ⟨hq,q⟩
 ·obtain⟨its,r',pl,hz⟩:=I.list hq;have hlen:=r'.length;refine call_tuple_list pl.isList (λh' kp=>?_) (by simp only[List.size_toArray]<;>omega)
  have I1:Inv X aaW σ H { s with heap:=h' }:=I.kept (t':=s.toks) kp
  have I2:Inv X aaW σ (upd H h'.objs.size (.tup ys)) { s with heap:=h'.push { cls:=.type "tuple",data:=.seq its.toArray } }:=
   I1.laid (t':=s.toks) (λb o e=>Wi _ e) (Wn _) (show ObjOk X.prog X.w _ _ _ (.tup ys) from⟨hz,its,r',aaN _ _⟩)
  exact⟨.ref h'.objs.size,_,I2,rfl,q _ (I1.hok.fresh (Wn _))⟩
 ·obtain⟨its,r',pl,hz⟩:=I.tuple hq;exact call_tuple_same pl ⟨.ref p,H,I,rfl,q⟩
def tyV(K:B0)(T:String)(x:V)(H:Hp):Prop:=match x with
 |.str _=>T = "str"
 |.int _=>T = "int"
 |.ref p=>(T = "list"/\∃xs,SqL K H p xs)\/(T = "tuple"/\∃o,K.lookup p=some o/\o.cls=.type "tuple"/\o.dict=none) \/
   (T = "dict"/\((∃kvs,H p=some (.dK kvs))\/∃kvs,H p=some (.dT kvs)))\/(T = "set"/\∃S n,H p=some (.set S n))
 |_=>False
def tyV_is(I:Inv X aaW σ H s)(r:RelV x v)(ty:tyV X.K T x H):
  s.TypeIs v T/\∀a,v=.ref a->∃ob,s.heap.get? a=some ob/\ob.dict=none:=by
 cases x with
 |str z=>
   obtain⟨t,rfl⟩:=r;cases (show T = "str" from ty)
   exact⟨typeIs_str s z t,λy e=>nomatch e⟩
 |int i=>
   obtain⟨t,rfl⟩:=r;cases (show T = "int" from ty)
   exact⟨typeIs_int s i t,λy e=>nomatch e⟩
 | ref p=>
   cases r;rcases ty with ⟨rfl,xs,hq⟩ | ⟨rfl,o,hk,hc,hd⟩ | ⟨rfl,hk⟩ | ⟨rfl,S,n,hk⟩
   ·obtain⟨its,_,pl,_⟩:=I.list hq;refine⟨pl.isList.typeIs,λa e=>?_⟩
    cases e;obtain⟨o,n,e,c,hd,_⟩:=pl;exact⟨o,e,hd⟩
   ·refine⟨⟨o,I.kIn p o hk,hc⟩,λa e=>?_⟩
    cases e;exact⟨o,I.kIn _ o hk,hd⟩
   ·have z:∃ o,s.heap.get? p=some o/\o.ExactDict:=by
     rcases hk with ⟨kvs,hk⟩ | ⟨kvs,hk⟩
     ·obtain⟨_,_,_,_,o,_,_,e,ex,_⟩:=I.hok p _ hk;exact⟨o,e,ex⟩
     ·obtain⟨_,_,_,_,o,_,_,e,ex,_⟩:=I.hok p _ hk;exact⟨o,e,ex⟩
    obtain⟨o,e,ex⟩:=z;refine⟨⟨o,e,ex.1⟩,λa e2=>?_⟩
    cases e2;exact⟨o,e,ex.2.1⟩
   ·obtain⟨o,_,_,_,e,ex,_⟩:=I.hok p _ hk;refine⟨⟨o,e,ex.1⟩,λa e2=>?_⟩
    cases e2;exact⟨o,e,ex.2.1⟩
 |_=>exact False.elim ty
def tBM(K:B0)(T:String)(r:V->List V->Hp->VK->Prop)(to:TE)(t:TA):TE:=λσ H Q=>to σ H λx H1=>tyV K T x H1/\t σ H1 λxs H2=>r x xs H2 Q
variable{o e:Expr}{es:B8}{to:TE}{t:TA}{name:Str}{apos ah:Pos}{T id:String}{r:V->List V->Hp->VK->Prop}
def pe_bm(pa:PlainAttrs T)(slot:Slot T name id)(hty:typeOf (.builtin id)=pure (.type "method_descriptor"))(hm:MtR X id r)(ho:PE X o to)(ha:PA X (e::es) t)
  (bq:attributeBase o name X.env (eval o X.env)=eval o X.env:=by rfl)
  (kb:((backTo ah (starEach (e::es) X.env)).all (fun x=>!x.1)&&(backToKw ah (keywordEach [] X.env)).all (fun x=>x.1.isSome)
   &&decide ((e::es).length+([]:List Keyword).length+(if ([]:List Keyword).isEmpty then 0 else 1)<30))=true:=by rfl)
  (fw:(apos.endLine==ah.line)=true:=by rfl) (hs:starEach (e::es) X.env=(false,eval e X.env)::starEach es X.env:=by rfl) (br:(backTo ah (starEach es X.env)).any (·.1)=false:=by rfl) :
  PE X (.Call (.Attribute o name apos) (e::es) [] ah) (tBM X.K T r to t):=by
 walk_at "f";refine wpAny_Call_method_late bq kb fw rfl (thn (ho aaW s σ H _ I h) λv s1 ⟨x,H1,I1,r1,ty,q1⟩=>?_)
 obtain⟨h1,h2⟩:=tyV_is I1 r1 ty;refine⟨T,id,pa,slot,hty,h1,h2,?_⟩;have hA:=ha ah aaW s1 σ H1 _ I1 q1;rw[hs]at hA ⊢
 refine Calls.callWith_builtin (by show (false || (backTo ah (starEach es X.env)).any (·.1))=false;rw[br]<;>rfl) (Calls.evalArgs_plain ?_)
 exact thn hA λus s2 ⟨vs,H2,I2,r2,q2⟩=>hm aaW s2 σ H2 x vs v us Q I2 r1 r2 q2
end
open PyProof.Rows
def MtM(X:Cx)(id:String)(r:V->List V->Hp->VK->Prop):Prop:=
 ∀(aaW:A8) (s:Shared) (σ:St) (H:Hp) (x:V) (xs:List V) (v:Value) (us:B5) (Q:VK),Inv X aaW σ H s->RelV x v->Vals xs us->r x xs H Q->
   wpAny X.M X.A (call (.builtin id) (v::us)) (EP X aaW σ Q) X.xe s
def Vals.one:∀{x:V}{us:B5},Vals [x] us->∃u,us=[u]/\RelV x u
 |_,_,.cons r .nil=>⟨_,rfl,r⟩
theorem Vals.eraseIdx:∀{xs:List V}{us:B5} (i:Nat),Vals xs us->Vals (xs.eraseIdx i) (us.eraseIdx i)
 |_,_,_,.nil=>.nil
 |_,_,0,.cons _ t=>t
 |_,_,i+1,.cons r t=>.cons r (Vals.eraseIdx i t)
theorem Vals.reverse(h:Vals xs us):Vals xs.reverse us.reverse:=by
 induction h with
 |nil=>exact .nil
 |cons r t ih=>rw[aar,aar];exact Vals.append ih (.cons r .nil)
theorem Vals.rep(h:Vals xs us):∀ k:Nat,Vals (List.replicate k xs).flatten (List.replicate k us).flatten
 |0=>.nil
 |k+1=>by rw[Ys,Ys,Y5,Y5];exact Vals.append h (Vals.rep h k)
theorem len_erase:∀(l:List α) (i:Nat),(l.eraseIdx i).length<=l.length
 |[],_=>Wn _
 |_::_,0=>Nat.le_succ _
 |_::r,i+1=>Nat.succ_le_succ (len_erase r i)
theorem foldl_rep(its:B5):∀ (k:Nat) (acc:B5),
  List.foldl (λx1 x2=>x1++x2) acc.toArray (List.replicate k its.toArray)=(acc++(List.replicate k its).flatten).toArray
 |0,acc=>by simp
 | k + 1,acc=>by
   have e:acc.toArray++its.toArray=(acc++its).toArray:=by simp
   have e2:(acc++its)++(List.replicate k its).flatten=acc++(List.replicate (k+1) its).flatten:=by rw[Ys,Y5,Ym]
   rw[<-e2,<-foldl_rep its k (acc++its),<-e,Ys,Yp]
section
variable{X:Cx}{aaW:A8}{σ:St}{H:Hp}{s:Shared}{l b:Addr}{xs ys zs:List V}
def Inv.lset{its its':B5}{n:Nat}{f:B4->B4}{t':Nat}(I:Inv X aaW σ H s)(hH:H l=some (.lst xs))
  (e:s.heap.get? l=some { cls:=.type "list",data:=.seq its.toArray n }) (hf:f its.toArray=its'.toArray) (hv:Vals ys its') (hz:ys.length<=sizeLine) :
  Inv X aaW σ (upd H l (.lst ys)) { s with heap:=s.heap.update l (Obj.mapSeq f),toks:=t' }:=by
 have q:=PySem.IsL.update e f;rw[hf]at q;refine I.write (x:=l) (e:=l) (by rw[hH];exact trivial) (.inl rfl) (λb' u hb hu=>(Yw s.heap (Obj.mapSeq f) (Ne.symm hb)).trans hu) ⟨_,q⟩ ?_
 exact⟨hz,its',_,hv,q⟩
def Inv.lnew(I:Inv X aaW σ H s)(hv:Vals ys its)(hz:ys.length<=sizeLine):
  Inv X aaW σ (upd H s.z (.lst ys)) { s with heap:=s.heap.push { cls:=.type "list",data:=.seq its.toArray },toks:=t' }:=
 I.laid (λy y q=>Wi _ q) (Wn _) ⟨hz,its,0,hv,Wu _ rfl⟩
theorem Inv.fresh(I:Inv X aaW σ H s):H s.z=none:=I.hok.fresh (Wn _)
def Inv.lstM(I:Inv X aaW σ H s)(hH:H l=some (.lst xs)):xs.length<=sizeLine/\∃(its:B5) (n:Nat),Vals xs its/\xs.length=its.length/\s.heap.get? l=some { cls:=.type "list",data:=.seq its.toArray n }:=by obtain⟨z,its,n,r,e⟩:=I.hok l _ hH;exact⟨z,its,n,r,r.length,e⟩
def notLongL{n:Nat}(h:n<=sizeLine):Builtin.List.listTooLong n=false:=by unfold Builtin.List.listTooLong;exact Xo (by omega)
end
section
variable{X:Cx}
def rAppend:V->List V->Hp->VK->Prop:=λx vs H Q=>∃l xs y,x=.ref l/\vs=[y]/\H l=some (.lst xs)/\xs.length<sizeLine/\Q .non (upd H l (.lst (xs++[y])))
def mt_append:MtM X "list.append" rAppend:=by
 intro aaW s σ H x vs v us Q I rx rv h;obtain⟨l,xs,y,rfl,rfl,hH,hz,q⟩:=h;cases rx;obtain⟨u,rfl,ru⟩:=rv.one;obtain⟨z,its,n,r,hl,e⟩:=I.lstM hH;refine aah F.slot_list_append ⟨_,e,rfl⟩ F.entry_list_append (F.args_list_append_2 _ _) (PySem.list_append l its.toArray n u (by rw[WX];omega)) ⟨e,?_⟩
 refine⟨.non,_,I.lset (its':=its++[u]) hH e (by simp) (r.append (.cons ru .nil)) ?_,rfl,q⟩
 rw[W3,List.length_singleton];omega
def rExtend:V->List V->Hp->VK->Prop:=λx vs H Q=>∃l b xs zs,x=.ref l/\vs=[.ref b]/\H l=some (.lst xs)/\H b=some (.lst zs)/\xs.length+zs.length<=sizeLine/\Q .non (upd H l (.lst (xs++zs)))
def mt_extend:MtM X "list.extend" rExtend:=by
 intro aaW s σ H x vs v us Q I rx rv h;obtain⟨l,b,xs,zs,rfl,rfl,hH,hB,hz,q⟩:=h;cases rx;obtain⟨u,rfl,ru⟩:=rv.one;cases ru;obtain⟨z,its,n,r,hl,e⟩:=I.lstM hH;obtain⟨z2,dn,n2,r2,hl2,e2⟩:=I.lstM hB;have hsz:its.toArray.size+dn.toArray.size<=sizeLine:=by rw[WX,WX];omega
 have ke:¬ (!its.toArray.isEmpty&&Builtin.List.listTooLong (its.toArray.size+dn.toArray.size))=true:=by rw[notLongL hsz,Bool.and_false];exact WT
 refine aah F.slot_list_extend ⟨_,e,rfl⟩ F.entry_list_extend (F.args_list_extend_2 _ _)
  (AutoSeq1.list_extend_list_list_0 l its.toArray n b dn.toArray n2 ke (by rw[WX];omega) (by omega)) ⟨e,e2,?_⟩
 refine⟨.non,_,I.lset (its':=its++dn) hH e (by simp) (r.append r2) ?_,rfl,q⟩
 rw[W3];omega
def rPopAt:V->List V->Hp->VK->Prop:=λx vs H Q=>∃l xs i k y,x=.ref l/\vs=[.int i]/\H l=some (.lst xs)/\-(2^63)<=i/\i<2^63/\seqIndex? i xs.length=some k/\xs[k]?=some y/\Q y (upd H l (.lst (xs.eraseIdx k)))
def mt_popAt:MtM X "list.pop" rPopAt:=by
 intro aaW s σ H x vs v us Q I rx rv h;obtain⟨l,xs,i,k,y,rfl,rfl,hH,h1,h2,hk,hy,q⟩:=h;cases rx;obtain⟨u,rfl,ru⟩:=rv.one;obtain⟨t,rfl⟩:=ru;obtain⟨z,its,n,r,hl,e⟩:=I.lstM hH;obtain⟨w,hw,fm⟩:=r.get hy;refine aah F.slot_list_pop ⟨_,e,rfl⟩ F.entry_list_pop (F.args_list_pop_2 _ _)
  (MeetsSeq.list_pop_at l its.toArray n i t k w (fitsIndex_both h1 h2) (by rw[WX,<-hl];exact hk) (by rw[<-Y0];exact hw) (by rw[WX];omega)) ⟨e,?_⟩
 refine⟨y,_,I.lset (its':=its.eraseIdx k) hH e ?_ (r.eraseIdx k) ?_,fm,q⟩
 ·show its.toArray.eraseIdxIfInBounds k=(its.eraseIdx k).toArray;rw[List.eraseIdxIfInBounds_toArray]
 ·have:=len_erase xs k;omega
def rCat:R2:=λx y H Q=>∃l b xs zs,x=.ref l/\y=.ref b/\H l=some (.lst xs)/\H b=some (.lst zs)/\xs.length+zs.length<=sizeLine/\∀p,H p=none->Q (.ref p) (upd H p (.lst (xs++zs)))
def op_cat:OpR X (binaryOp .Add) rCat:=by
 walk_at "e";obtain⟨l,b,xs,zs,rfl,rfl,hH,hB,hz,q⟩:=h;cases rx;cases ry;obtain⟨z,its,n,r,hl,e⟩:=I.lstM hH;obtain⟨z2,dn,n2,r2,hl2,e2⟩:=I.lstM hB;refine PySem.P.add_list e e2 ?_ (by rw[WX,WX];omega)
 have ea:its.toArray++dn.toArray=(its++dn).toArray:=by simp
 rw[ea];exact⟨.ref _,_,I.lnew (t':=s.toks) (r.append r2) (by rw[W3];omega),rfl,q _ I.fresh⟩
def rRep:R2:=λx y H Q=>∃l k xs,x=.ref l/\y=.int k/\H l=some (.lst xs)/\-(2^63)<=k/\k<2^63/\xs.length*k.toNat<=sizeLine /\
 ∀p,H p=none->Q (.ref p) (upd H p (.lst (List.replicate k.toNat xs).flatten))
def len_rep(xs:List α)(k:Nat):(List.replicate k xs).flatten.length=k*xs.length:=by
 induction k with
 |zero=>simp
 |succ k ih=>rw[Ys,Y5,W3,ih,Nat.succ_mul,Nat.add_comm]
def op_rep:OpR X (binaryOp .Mult) rRep:=by
 walk_at "e";obtain⟨l,k,xs,rfl,rfl,hH,h1,h2,hz,q⟩:=h;cases rx;obtain⟨t,rfl⟩:=ry;obtain⟨z,its,n,r,hl,e⟩:=I.lstM hH;have hlen:its.toArray.size*k.toNat<=sizeLine:=by rw[WX,<-hl];exact hz
 have hcap:¬ its.toArray.size*k.toNat > (2^63-1) / 8:=by
  have:(sizeLine:Nat)<=(2^63-1) / 8:=by decide
  omega
 have hfit:¬ (!Builtin.List.listFitsIndex k)=true:=by rw[fitsIndex_both h1 h2];exact WT
 have ke:¬ Builtin.List.listTooLong (its.toArray.size*k.toNat)=true:=by rw[notLongL hlen];exact WT
 have hnew:List.foldl (λx1 x2=>x1++x2) #[] (List.replicate (if its.toArray.isEmpty=true then 0 else k.toNat) its.toArray)=(List.replicate k.toNat its).flatten.toArray:=by
  have f0:∀m:Nat,List.foldl (λx1 x2=>x1++x2) #[] (List.replicate m its.toArray)=(List.replicate m its).flatten.toArray:=λm=>by have:=foldl_rep its m [];rw[aaD]at this;exact this
  rw[f0];cases its with
  |nil=>simp
  |cons a r'=>rw[Ww (by simp)]
 refine wpAny_binaryOp_repeat_ref (T := "list") (U := "int") (by decide) ⟨_,e,rfl⟩ (λs'=>typeIs_int s' k t) noFill_list_mul F.fills_int_mul F.slot_int_rmul repeat_list F.slot_int_index.lookup
  (aah F.slot_int_rmul (typeIs_int s k t) F.entry_int_rmul (F.args_int_rmul_2 _ _) (int___rmul___int_list k t l its.toArray n)
    ⟨e,rfl,⟨_,e,rfl⟩,aah F.slot_list_mul ⟨_,e,rfl⟩ F.entry_list_mul (F.args_list_mul_2 _ _) (AutoListH.list___mul___list_int_3 l its.toArray n k t hfit hcap ke) ⟨e,?_⟩⟩)
 rw[hnew];exact⟨.ref _,_,I.lnew (t':=s.toks) (r.rep k.toNat) (by rw[len_rep,Nat.mul_comm];exact hz),rfl,q _ I.fresh⟩
end
end L2
namespace Att
open PySem PySem.W PySem.Calls PyProof.Rows
def ints_of_wellAll:∀ (ns:C1) (vs:B5),WellAll P h vs (ns.map WData.int)->IntsAre vs ns:=by
 intro ns;induction ns with
 |nil=>intro vs w;rw[Zx]at w;cases w;exact .nil
 | cons n ns ih=>
   intro vs w;rw[W2]at w;cases w with
   |cons a b=>cases a;exact .cons _ _ (ih _ b)
def script_of{l:OpenLaw}{n:Nat}(hn:l.most=some n){P:Params}{h:Heap}{args:List WData}{vals:B5}
  (l7:l.row.toRowW.claim.pre args=true) (hwl:WellAll P h vals args) :
  ∃a vs ns,vals=[Value.ref a]/\args=[WData.list (ns.map WData.int)]/\h.get? a=some { cls:=.type "list",data:=.seq vs.toArray }/\IntsAre vs ns/\ns.length<=n:=by
 have hsh:WShape.hasAll [] args [.list .int]=true:=(pre_splitW l7).1;have hc:l.pre.holds [] { args:=args }=true:=(pre_splitW l7).2;obtain⟨d,r,rfl,h1,h2⟩:=hasAllW_cons hsh;obtain rfl:=hasAllW_nil h2;obtain⟨xs,rfl,h3⟩:=hasW_list h1;obtain⟨ns,rfl⟩:=items_int h3;have hlen:ns.length<=n:=by
  unfold OpenLaw.pre at hc;have h4:(WTm.not (.lt (.lit (.int (n:Int))) (.len (.arg 0)))).holds [] { args:=[.list (ns.map .int)] }=true:=by have h4:=(holds_andW hc).1;rw[hn]at h4;exact h4
  have h5:=condW_of h4 (w_not (w_lt w_lit (w_len_list (w_arg rfl))));rw[Wm]at h5;refine Nat.le_of_not_lt λq=>?_
  have q':(n:Int)<((ns.length:Nat):Int):=by omega
  first
   |(rw[WY q']at h5;exact absurd h5 (by decide))
   |(simp at h5;omega)
 cases hwl with
 |cons w1 w2=>
   cases w2;cases w1 with
   |list ho bo=>exact⟨_,_,ns,rfl,rfl,ho,ints_of_wellAll ns _ bo,hlen⟩
def post_true(l:OpenLaw)(args:List WData):l.row.toRowW.claim.post args (.bool true) args=true:=
 postW_of (r:=l.row.toRowW) (X:=(true==true))
  (show WShape.has [] (.bool true) .bool=true by first | rfl | decide | simp[WShape.has,WShape.arms,WShape.armsAll])
  (show (WTm.eq .res (.lit (.bool true))).value [] { args:=args,res:=some (.bool true),after:=args }=some (.bool (true==true)) from w_eq_bool (w_res rfl) w_lit) rfl
def attach_call{l:OpenLaw}{n:Nat}{q:C5}{loose:C3}{XP:A4->B6}{YP:World->B6}{d:DefRec}
  (hn:l.most=some n) (hdf:d.params.defaults=[])
  (call:∀(w:World) (s₀ s₁:Shared) (mg mb:A4) (fa:Addr) (o:Obj) (pm cd doc:Value) (a:Addr) (vs:B5) (ns:C1),
    Ground q loose [] XP w s₀ mg mb s₁.heap->YP w s₁.heap->
    s₁.heap.get? fa=some o->o.data=.func (docDef d.name d.params d.body d.scope pm cd doc)->s₁.heap.CodeRec cd d.name->mg d.name=some (.ref fa)->
    s₁.heap.get? a=some { cls:=.type "list",data:=.seq vs.toArray }->IntsAre vs ns->ns.length<=n->s₁.gens=#[]->
    codeAny (model l.prog w) callerA (.call (.ref fa) ⟨[.ref a],[]⟩) (λr s'=>r=.ok (.ret (.bool true))/\OldK s₁.heap s'.heap/\s'.os=s₁.os/\AllBare s'.gens) s₁) :
  WalkO q loose XP YP l.row.toRowW d [] (λf vs=>PySem.call f vs):=by
 intro w s₀ s₁ mg mb G Y fa o pm cd doc dV kV ho hd ba hD hmg hg args vals as l7 hlay hrd hwl hlo;obtain rfl:dV=.none:=Dflts.none hD hdf;obtain rfl:kV=.none:=Dflts.noKw hD;obtain⟨a,vs,ns,rfl,rfl,i6,hints,hlen⟩:=script_of hn l7 hwl;refine enter_call (Yu (call w s₀ s₁ mg mb fa o pm cd doc a vs ns G Y ho (fd_plain hd) ba hmg i6 hints hlen hg) λr s' hq=>?_)
 obtain⟨rfl,h2,h3,h4⟩:=hq;exact⟨.inl ⟨.bool true,.bool true,[],rfl,λz=>rfl,.bool true,post_true l _,λz=>⟨List.Pairwise.nil,λz hm=>(nomatch hm)⟩⟩,h2,h3,h4⟩
end Att
namespace L2
open PyProof.Rows
theorem vals_ints:∀{vs:B5}{ns:C1},IntsAre vs ns->Vals (ns.map V.int) vs
 |_,_,.nil=>.nil
 |_,_,.cons n t h=>.cons ⟨t,rfl⟩ (vals_ints h)
open PyProof.Rows
open PyProof.Rows
def inClass(s:Stmt)(j:Nat):Stmt:=match s with
 |.ClassDef _ _ _ body _ _ _ _ _ _ _=>body.getD j (.Pass ⟨0,0,0,0⟩)
 |_=>.Pass ⟨0,0,0,0⟩
def defArgs(s:Stmt):Arguments:=match s with
 |.FunctionDef _ a _ _ _ _ _ _ _ _=>a
 |_=>{ posonlyargs:=[],args:=[],vararg:=none,kwonlyargs:=[],kw_defaults:=[],kwarg:=none,defaults:=[] }
def defBody(s:Stmt):List Stmt:=match s with
 |.FunctionDef _ _ b _ _ _ _ _ _ _=>b
 |_=>[]
def defScope(s:Stmt):Scope:=match s with
 |.FunctionDef _ _ _ _ _ _ sc _ _ _=>sc
 |_=>{ kind:=.function,names:=[],isGenerator:=false,isCoroutine:=false }
abbrev E0:XK:=λ_ _ _=>False
structure Fun(K:B0)(x qual:Str)(st:Stmt)(f:Addr)(fd:FuncData):Prop where
 ex:∃(oc:Value) (od:B3) (kV doc pm:Value) (an:B3) (ae ct:Value) (bp:Array B1),
  fd=W.fnOf x qual (defArgs st) (defBody st) (defScope st) .none kV doc pm an ae ct/\K.lookup f=some ⟨oc,od,.func fd,bp⟩/\W.codeIn K ae qual=true
 kp:W.keepIn K (.ref f)=true
section
variable{P:C5}{w:World}{K:B0}{mg:A4}{base:Heap}
def Fun.binds{x qual:Str}{st:Stmt}{f:Addr}{fd:FuncData}{ps:C3}(F:Fun K x qual st f fd)
  (h:∀(kV doc pm:Value) (an:B3) (ae ct:Value) (us:B5),us.length=ps.length->bindArgs (W.fnOf x qual (defArgs st) (defBody st) (defScope st) .none kV doc pm an ae ct) ⟨us,[]⟩=pure (ps.zip us)):Binds K fd ps []:=by
 obtain⟨oc,od,kV,doc,pm,an,ae,ct,bp,rfl,lk,ba⟩:=F.ex;exact .all (h kV doc pm an ae ct)
def fun_mk{x qual:Str}{st:Stmt}{f:Addr}{oc:Value}{od an:B3}{bp:Array B1}{kV doc pm ae ct:Value}(l:K.lookup f=some ⟨oc,od,.func (W.fnOf x qual (defArgs st) (defBody st) (defScope st) .none kV doc pm an ae ct),bp⟩)
  (c:W.codeIn K ae qual=true) (k:W.keepIn K (.ref f)=true):Fun K x qual st f (W.fnOf x qual (defArgs st) (defBody st) (defScope st) .none kV doc pm an ae ct):=⟨⟨oc,od,kV,doc,pm,an,ae,ct,bp,rfl,l,c⟩,k⟩
end
def iteF{A B:Prop}(h:B):if false=true then A else B:=by rw[Ww WT];exact h
def iteT{A B:Prop}(h:A):if true=true then A else B:=by rw[Wq rfl];exact h
def Same(H H':Hp):Prop:=∀b o,H b=some o->H' b=some o
def Same.refl(H:Hp):Same H H:=λz z h=>h
mutual
inductive Rep(K:B0)(H:Hp):V->PyData->Prop
 |non:Rep K H .non .none
 |bl (b:Bool):Rep K H (.bl b) (.bool b)
 |int (i:Int):Rep K H (.int i) (.int i)
 |str (x:Str):Rep K H (.str x) (.str x)
 |lst {a:Addr}{xs:List V}{ds:List PyData}:SqL K H a xs->Reps K H xs ds->Rep K H (.ref a) (.list ds)
 |tup {a:Addr}{xs:List V}{ds:List PyData}:SqT K H a xs->Reps K H xs ds->Rep K H (.ref a) (.tuple ds)
inductive Reps(K:B0)(H:Hp):List V->List PyData->Prop
 |nil:Reps K H [] []
 |cons {v:V}{d:PyData}{vs:List V}{ds:List PyData}:Rep K H v d->Reps K H vs ds->Reps K H (v::vs) (d::ds)
end
section
variable{X:Cx}{aaW:A8}{σ:St}{H:Hp}{s:Shared}
def Rep.reads(I:Inv X aaW σ H s){v:V}{d:PyData}{u:Value}(h:Rep X.K H v d):RelV v u->∃ as,Reads s.heap u d as:=
 Rep.rec (motive_1:=λv d z=>∀ u,RelV v u->∃ as,Reads s.heap u d as) (motive_2:=λvs ds z=>∀ us,Vals vs us->∃ as,ReadsAll s.heap us ds as)
  (λu r=>by cases r;exact⟨_,.none⟩)
  (λb u r=>by cases r;exact⟨_,.bool b⟩)
  (λi u r=>by obtain⟨t,rfl⟩:=r;exact⟨_,.int i t⟩)
  (λi u r=>by obtain⟨t,rfl⟩:=r;exact⟨_,.str i t⟩)
  (λh hs ih u r=>by cases r;obtain⟨its,rv,⟨o,n,h1,h2,_,h3⟩,_⟩:=I.list h;obtain⟨as,ra⟩:=ih _ rv;exact⟨_,.list h1 h2 h3 ra⟩)
  (λh hs ih u r=>by cases r;obtain⟨its,rv,⟨o,h1,h2,n,h3⟩,_⟩:=I.tuple h;obtain⟨as,ra⟩:=ih _ rv;exact⟨_,.tuple h1 h2 h3 ra⟩)
  (λu r=>by cases r;exact⟨_,.nil⟩)
  (λh hs i1 i2 u r=>by
    cases r with
    |cons r1 r2=>obtain⟨a1,e1⟩:=i1 _ r1;obtain⟨a2,e2⟩:=i2 _ r2;exact⟨_,.cons e1 e2⟩)
  h u
end
def same_new{H:Hp}{p:Addr}(h:H p=none)(o:HO):Same H (upd H p o):=λb u q=>by rw[upd_ne (ne_of_none q h)];exact q
section
variable{X:Cx}
def KZ(K:B0)(neg:Bool):R2:=λx y H Q=>∃da db,Rep K H x da/\Rep K H y db/\da.canLay0=true/\db.canLay0=true/\da.depth<=60/\Q (.bl (if neg then !PyData.eqv da db else PyData.eqv da db)) H
def Ro(hu:X.A.units+64<cLine):OpR X (compareOp .Eq) (KZ X.K false):=by walk_at "e";obtain⟨da,db,ha,hb,la,lb,hd,q⟩:=h;obtain⟨as,ra⟩:=ha.reads I rx;obtain⟨bs,rb⟩:=hb.reads I ry;exact PySem.SeqAt.compareEq_reads ra rb la lb (by lia) ⟨.bl _,H,I,rfl,q⟩
def Hw(hu:X.A.units+64<cLine):OpR X (compareOp .NotEq) (KZ X.K true):=by walk_at "e";obtain⟨da,db,ha,hb,la,lb,hd,q⟩:=h;obtain⟨as,ra⟩:=ha.reads I rx;obtain⟨bs,rb⟩:=hb.reads I ry;exact PySem.SeqAt.compareNe_reads ra rb la lb (by lia) ⟨.bl _,H,I,rfl,q⟩
def Sw(i j:Int):Prop:=IntMulOk i j
def Oo:OpR X (binaryOp .Mult) (rI Sw λi j=>.int (i*j)):=opI λz z z z z z z hc q=>mul_int q hc
def Js:CallR X (.builtin "isinstance") (λxs H Q=>∃x t c b,xs=[x,.ty c]/\TyOf X.K H x t/\W.kitOne X.K t (.type c)=some b/\Q (.bl b) H):=by intro aaW s σ H xs us Q I r h;obtain⟨x,t,c,b,rfl,ty,e,q⟩:=h;obtain⟨u,w',rfl,r1,r2⟩:=vals2 r;cases r2;exact isinst_ok I r1 ty e λtk=>⟨.bl b,H,I.tok _,rfl,q⟩
end
open PyProof.Rows
structure DefAt(K:B0)(mg:A4)(x:Str)(st:Stmt):Prop where
 ex:∃f fd,Fun K x x st f fd/\mg x=some (.ref f)
def JM{K:B0}{h:Heap}{mg:A4}{x:Str}{st:Stmt}{f:Addr}{oc:Value}{od an:B3}{bp:Array B1}{kV doc pm ae ct:Value}(X:K.In h)(G:h.Ns mainGlobals mg)
  (a:W.nsIn K mainGlobals x=some (some (.ref f))) (l:K.lookup f=some ⟨oc,od,.func (W.fnOf x x (defArgs st) (defBody st) (defScope st) .none kV doc pm an ae ct),bp⟩) (c:W.codeIn K ae x=true) (k:W.keepIn K (.ref f)=true):DefAt K mg x st:=
 ⟨f,_,fun_mk l c k,Ze X G a⟩
section
variable{X:Cx}{j k:Nat}{ps:C3}{sp:Sp}{x:Str}{p pos:Pos}{e:Expr}{es:B8}{t:TA}
def UL{id:String}{r:List V->Hp->VK->Prop}(hc:CallR X (.builtin id) r)(hm:X.mg x=none)(ha:PA X (e::es) t)(hg:Gl X x:=by rfl)(hv:bootBuiltins x=some (.builtin id):=by decide +kernel)(hn:x≠"__name__":=by decide)(ai:(x==("__debug__":Str))=false:=by decide)
  (he:starEach (e::es) X.env=(false,eval e X.env)::starEach es X.env:=by rfl) (hpl:(backTo pos (starEach es X.env)).any (·.1)=false:=by rfl) :
  PE X (.Call (.Name x p) (e::es) [] pos) (tCB r t):=pe_callB hc hg hm hv ha hn ai he hpl
def Ti{T:String}(hm:X.mg x=none)(hg:Gl X x:=by rfl)(hv:bootBuiltins x=some (.type T):=by decide +kernel)(hn:x≠"__name__":=by decide)(ai:(x==("__debug__":Str))=false:=by decide):PE X (.Name x pos) (tC (.ty T)):=
 pe_bltn hg hm hv rfl hn ai
end
def ObjOk.there(x:ObjOk P w H h a o):∃u,h.get? a=some u:=by
 induction o with
 |lst xs=>obtain⟨_,_,_,_,e⟩:=x;exact⟨_,e⟩
 |tup xs=>obtain⟨_,_,_,o,e,_⟩:=x;exact⟨_,e⟩
 |dK kvs=>obtain⟨_,_,_,_,o,_,_,e,_⟩:=x;exact⟨_,e⟩
 |dT kvs=>obtain⟨_,_,_,_,o,_,_,e,_⟩:=x;exact⟨_,e⟩
 |set S n=>obtain⟨o,_,_,_,e,_⟩:=x;exact⟨_,e⟩
 |ins C dx fs=>obtain⟨_,_,_,e,_⟩:=x;exact⟨_,e⟩
 |own y=>exact x
 |xd fs=>obtain⟨_,⟨o,es,ep,e,_⟩,_⟩:=x;first | exact⟨_,e⟩ | exact⟨o,es⟩
 |met g y=>exact⟨_,x⟩
 |rng lo hi=>obtain⟨_,_,_,e⟩:=x;exact⟨_,e⟩
 |frz o u ih=>exact⟨_,x.1⟩
 |tbl ps=>obtain⟨_,e,_⟩:=x;exact⟨_,e⟩
 |ext φ=>exact x.2.1
def cG(P:C5)(w:World):CXT:=λouter H s E e s'=>
 ∃(x:Addr) (C a0:Value) (H':Hp) (B:Heap),e=.ref x∧s'.os=s.os∧AllBare s'.gens∧Un (frs outer) [] H H' s.heap s'.heap∧HOk P w H' s'.heap∧Heap.FlyingW B outer x C a0 s'.heap ∧
   (∀b,H' b≠none->∃o,B.get? b=some o)/\(∀b o,s.heap.get? b=some o->b∉frs outer->∃o',B.get? b=some o')/\E C none H'
def tU{env:Env}{l:C4}{L:Addr}(h:env.frame=some L):frs (env::l)=L::frs l:=by unfold frs;rw[Yr,h]
def rK{fs:B7}{H H':Hp}{h0 h h' B:Heap}(u:Un fs [] H H' h0 h)(hB:B.StaysIn h)(nk:B.StaysIn h')(up:h.UpToSlots h')
  (fr:∀b∈fs,∃o,h.get? b=some o/\∀vs,o.data≠.fields vs) (df:∀b o,h0.get? b=some o->b∉fs->∃o',B.get? b=some o'):Un fs [] H H' h0 h' where
 keep b o e n hb hx:=by have h1:=u.keep b o e n hb hx;obtain⟨o',e'⟩:=df b o e hb;have h2:=hB b o' e';rw[h1]at h2;cases h2;exact nk b o e'
 slot b o e n hb hx:=by obtain⟨sl,h1⟩:=u.slot b o e n hb hx;obtain⟨o1,h2,nf⟩:=fr b hb;rw[h1]at h2;cases h2;obtain⟨oy,h3⟩:=up b _ h1 nf;exact⟨oy,h3⟩
 free:=u.free
 there b o e hx:=by
  by_cases hb:b∈fs
  ·obtain⟨o1,h2,nf⟩:=fr b hb;obtain⟨oy,h3⟩:=up b _ h2 nf;exact⟨_,h3⟩
  ·obtain⟨o',e'⟩:=df b o e hb;exact⟨o',nk b o' e'⟩
 tups:=u.tups
 frzs:=u.frzs
 tbls:=u.tbls
def nU{P:C5}{w:World}{H':Hp}{h h' B:Heap}(ok:HOk P w H' h)(hB:B.StaysIn h)(nk:B.StaysIn h')(df:∀ b,H' b≠none->∃ o,B.get? b=some o):HOk P w H' h':=λa o e=>
 (ok a o e).stay (λb u hb hu=>by
   have hn:H' b≠none:=by
    rcases hb with rfl | hb
    ·rw[e];simp
    ·rw[hb];simp
   obtain⟨o',e'⟩:=df b hn;have:=hB b o' e';rw[hu]at this;cases this;exact nk b u e') (λz h=>h) (λz z h=>h)
section
variable{P:C5}{w:World}{K:B0}{mg:A4}{base:Heap}{N:C3}{qual:Str}{scope:Scope}{f:Addr}{cd:Value}{A:Around}{outer:C4}{s:Shared}{H:Hp}{E:XK}
abbrev bV(P:C5)(w:World)(K:B0)(mg:A4)(base:Heap)(N:C3)(qual:Str)(scope:Scope)(f:Addr)(cd:Value)(A:Around)(outer:C4)(s:Shared)(H:Hp)(E:XK):Cx:=
 cxOf (cG P w) P w K mg base N qual scope f cd A outer s H E
def aQ:Passes (cG P w) (bV P w K mg base N qual scope f cd A outer s H E) E:=by
 intro aaW σ H1 s1 e s' I hf;obtain⟨x,C,a0,H',B,rfl,os,bare,un,hok,fl,ci,cii,q⟩:=hf;have J:Inv (bV P w K mg base N qual scope f cd A outer s H E) aaW σ H' s':=I.call' (ch:=[]) os un hok bare (λb z=>absurd z (by simp))
 have l8:(bV P w K mg base N qual scope f cd A outer s H E).A.frames=some ((bV P w K mg base N qual scope f cd A outer s H E).env::outer):=I.ok.frames;have hfs:∀b∈frs outer,∃o,s'.heap.get? b=some o/\∀vs,o.data≠.fields vs:=λb hb=>(fl.2.2.1.2.2.mem hb).2
 have kf:(bV P w K mg base N qual scope f cd A outer s H E).env.frame=some (bV P w K mg base N qual scope f cd A outer s H E).env.locals:=rfl;have df:∀b o,s.heap.get? b=some o->b∉frs outer->∃o',B.get? b=some o':=λb o e hb=>by
  obtain⟨o1,h1⟩:=I.base.there b o e (show b∉([]:B7) by simp)
  refine cii b o1 h1 ?_;show b∉frs ((bV P w K mg base N qual scope f cd A outer s H E).env::outer);rw[tU kf];intro hm;rcases Wz.mp hm with rfl | hm
  ·exact absurd (Wo e) (X7.mpr I.ok.above)
  ·exact hb hm
 show wpAny _ _ (leaving _ (.ref x)) _ _ s';refine wpAny_leaves_onW l8 rfl fl λh' i7 up=>?_
 exact⟨x,C,a0,H',B,rfl,J.os,bare,rK J.base fl.1 i7.1 up hfs df,nU hok fl.1 i7.1 ci,i7,ci,df,q⟩
def RV{aaW:A8}{σ:St}{H1:Hp}{s1:Shared}{h1:Heap}{e:Addr}{C:Value}{args:B5}(I:Inv (bV P w K mg base N qual scope f cd A outer s H E) aaW σ H1 s1)
  (hx:Heap.MadeExcOf s1.heap h1 e C args) (q:E C none H1):(bV P w K mg base N qual scope f cd A outer s H E).xe (.ref e) { s1 with heap:=h1 }:=by
 have l8:(bV P w K mg base N qual scope f cd A outer s H E).A.frames=some ((bV P w K mg base N qual scope f cd A outer s H E).env::outer):=I.ok.frames;have kf:(bV P w K mg base N qual scope f cd A outer s H E).env.frame=some (bV P w K mg base N qual scope f cd A outer s H E).env.locals:=rfl;have ff:s1.heap.FunFrames base ((bV P w K mg base N qual scope f cd A outer s H E).env::outer):=I.stack;have k6:∀env∈((bV P w K mg base N qual scope f cd A outer s H E).env::outer),∀b,env.frame=some b->b∈frs ((bV P w K mg base N qual scope f cd A outer s H E).env::outer):=λenv he b hb=>Z8.mpr ⟨env,he,hb⟩
 have ax:(W.hideAll s1.heap (frs ((bV P w K mg base N qual scope f cd A outer s H E).env::outer))).StaysIn s1.heap:=λb o q=>W.of_hideAll _ q
 have df:∀b o,s.heap.get? b=some o->b∉frs outer->∃o',(W.hideAll s1.heap (frs ((bV P w K mg base N qual scope f cd A outer s H E).env::outer))).get? b=some o':=λb o e hb=>by
  obtain⟨o1,h1⟩:=I.base.there b o e (show b∉([]:B7) by simp)
  refine⟨o1,W.hideAll_get _ h1 ?_⟩;rw[tU kf];intro hm;rcases Wz.mp hm with rfl | hm
  ·exact absurd (Wo e) (X7.mpr I.ok.above)
  ·exact hb hm
 have ci:∀ b,H1 b≠none->∃ o,(W.hideAll s1.heap (frs ((bV P w K mg base N qual scope f cd A outer s H E).env::outer))).get? b=some o:=λb hb=>by
  cases hb':H1 b with
  |none=>exact absurd hb' hb
  |some o=>
    have lt:=I.hok.lt hb';have ex:∃o',s1.heap.get? b=some o':=(I.hok b o hb').there;obtain⟨o',dc⟩:=ex;refine⟨o',W.hideAll_get _ dc λhm=>?_⟩
    have:=I.stkFree b hm;rw[hb']at this;cases this
 have hfs:∀b∈frs outer,∃o,h1.get? b=some o/\∀vs,o.data≠.fields vs:=λb hb=>by obtain⟨_,o,ho,nf⟩:=ff.2.2.mem hb;exact⟨o,hx.keeps _ _ ho,nf⟩
 have I1:Inv (bV P w K mg base N qual scope f cd A outer s H E) aaW σ H1 { s1 with heap:=h1 }:=I.kept (t':=s1.toks) hx.keeps
 show wpAny _ _ (leaving _ (.ref e)) _ _ _;refine wpAny_leaves_madeW l8 rfl ax (W.funFrames_hide ff k6) hx λh' t i7 z z up=>?_
 exact⟨e,C,.ref t,H1,_,rfl,I1.os,I1.bare,rK I1.base (λb o e=>hx.keeps _ _ (ax _ _ e)) i7.1 up hfs df,nU I1.hok (λb o e=>hx.keeps _ _ (ax _ _ e)) i7.1 ci,i7,ci,df,q⟩
end
abbrev wy:B5:=[.type "ValueError",.type "Exception",.type "BaseException",.type "object"]
set_option tactic.hygienic true in
def vR{K:B0}{h:Heap}{mg:A4}{x:Str}{C:Addr}{bmB:B5}{newId:String}(X:K.In h)(m:mg x=some (.ref C))(q:W.excIn K C bmB newId=true):OwnCls x C bmB newId mg h:=by
 refine⟨m,?_⟩;unfold W.excIn at q;split at q
 ·rename_i dd cd sl i6;split at q
  ·rename_i C' tl a0 a1 a2 a3 n a5 oz hslot
   (simp only[Bool.not_eq_true',Bool.and_eq_true,beq_iff_eq]at q)
   obtain⟨⟨⟨⟨⟨rfl,rfl⟩,hnd⟩,ht⟩,ip⟩,k6⟩:=q;obtain⟨c1,c2,c3,c4,c5,c6,c7,c8,c9,c10,c11⟩:=cd;dsimp only at oz hnd ip k6;subst oz hnd;have hslv:sl=#[a0,a1,a2,a3,some (.builtin n),a5]:=by obtain⟨l⟩:=sl;simp only at hslot;rw[hslot]
   subst hslv;exact⟨tl,c4,c1,c5,c2,c6,c7,c8,c9,c10,dd,a0,a1,a2,a3,a5,_,X _ _ i6,.of_isNs (W.isNs_of_in X ip),W.nsMap_none_of_in X ip k6,W.tail_of_in X ht⟩
  ·cases q
 ·cases q
structure XCls(K:B0)(mg:A4)(x:Str)(C:Addr):Prop where
 at_:mg x=some (.ref C)
 exc:W.excIn K C wy "ValueError.__new__"=true
section
variable{P:C5}{w:World}{K:B0}{mg:A4}{base:Heap}{N:C3}{qual:Str}{scope:Scope}{f:Addr}{cd:Value}{A:Around}{outer:C4}{s:Shared}{H:Hp}{E:XK}
def KR{x:Str}{C:Addr}{np ah pos:Pos}{e:Expr}{te:TE}(hc:XCls K mg x C)(he:PE (bV P w K mg base N qual scope f cd A outer s H E) e te)
  (hg:Gl (bV P w K mg base N qual scope f cd A outer s H E) x:=by rfl) (hd:(x==("__debug__":Str))=false:=by decide)
  (ax:starEach [e] (bV P w K mg base N qual scope f cd A outer s H E).env=[(false,eval e (bV P w K mg base N qual scope f cd A outer s H E).env)]:=by rfl) :
  PS (bV P w K mg base N qual scope f cd A outer s H E) (.Raise (some (.Call (.Name x np) [e] [] ah)) none pos) (λ_ σ H1=>te σ H1 λv H2=>[v].length=1/\E (.ref C) none H2):=by
 intro aaW s1 σ H1 D I h;have O:=vR (newId := "ValueError.__new__") (bmB:=wy) (mg:=mg) (x:=x) I.ok.mod.kin hc.at_ hc.exc;obtain⟨tl,Nn,nm,q,bs,hdct,sn,sub,ab,col,dd,k0,k1,k2,k3,k5,mN,hC,hN,hni,T⟩:=O.obj;refine wpAny_Raise_call_subT (C:=C) (nm:=nm) (q:=q) (N:=Nn) (bs:=bs) (bm:=tl) (hdct:=hdct) (sn:=sn) (sub:=sub) (ab:=ab) (col:=col) (dd:=dd) (k0:=k0) (k1:=k1) (k2:=k2) (k3:=k3) (k5:=k5)
  F.excBase_ValueError (mN:=mN) (T.hasType F.excBase_ValueError.hasBase) (I.ok.hd rfl) (by rw[ax];rfl) hni (ld_glob I hg hc.at_ ⟨rfl,?_⟩ hd)
 have hPA:=(pa_cons he pa_nil ax) ah aaW s1 σ H1 (λvs H2=>vs.length=1/\E (.ref C) none H2) I h
 rw[ax]at hPA ⊢
 refine Calls.evalArgs_plain (W5 hPA (λvs s₂ h₂=>?_) λz z y=>y)
 obtain⟨ws,H2,I2,rv,l1,qE⟩:=h₂;have lv:vs.length=1:=by rw[<-rv.length];exact l1
 have kp:∀b o,base.get? b=some o->s₂.heap.get? b=some o:=I2.bk;exact⟨rfl,by rw[lv];decide,kp _ _ hC,hN.keeps kp,T.keeps kp,λh' e hm=>RV I2 hm qE⟩
end
section
variable{X:Cx}{aaW:A8}{σ:St}{H:Hp}{s:Shared}{h' B:Heap}
def Inv.land(I:Inv X aaW σ H s)(hc:X.env.cells=[])(hex:X.ex=[])(hB:B.StaysIn s.heap)(nk:B.StaysIn h')(up:s.heap.UpToSlots h')
  (fr:∀b∈X.fs,∃o,s.heap.get? b=some o/\∀vs,o.data≠.fields vs) (ci:∀b,H b≠none->∃o,B.get? b=some o) (df:∀b o,X.s₀.heap.get? b=some o->b∉X.fs->∃o',B.get? b=some o')
  (cp:∀p∈X.pn++aaW,B.get? p.1=some p.2):Inv X aaW σ H { s with heap:=h' }:=by
 have nc:∀x c,X.env.cells.lookup x=some c->False:=λx c e=>by rw[hc]at e;cases e
 obtain⟨m,hn,hl⟩:=I.loc;have ub:Un X.fs [] X.H₀ H X.s₀.heap s.heap:=by have:=I.base;rw[hex]at this;exact this
 refine⟨I.ok,I.os,I.bare,?_,⟨m,up.ns hn,λi x v h1 h2 h3=>?_⟩,λx c e=>(nc x c e).elim,I.free,λx c e=>(nc x c e).elim,λp hp=>?_,nU I.hok hB nk ci,I.len⟩
 ·rw[hex];exact rK ub hB nk up fr df
 ·obtain⟨u,r,q⟩:=hl i x v h1 h2 h3;refine⟨u,r,?_⟩;rcases q with q | ⟨_,c,e,_⟩
  ·exact .inl q
  ·exact (nc x c e).elim
 ·obtain⟨e,n,ne,nf,d⟩:=I.pin p hp;exact⟨nk _ _ (cp p hp),n,ne,nf,d⟩
def Inv.gone(I:Inv X aaW σ H s)(hN:X.N.Nodup)(hi:X.N[i]?=some n)(hk:X.env.kindOf n=some .local)
  (h:∀s',Inv X aaW (σ.set i none) H s'->Q () s'):wpAny M A (do bindName X.env n .none;unbindBehindTheSuite X.env n pos) Q E s:=by
 obtain⟨m,hn,hl⟩:=id I.loc;have h7:(X.env.scope.kind==.class || (X.env.scope.kind==.module&&X.env.locals != X.env.globals))=false:=by rw[I.ok.kind];rfl
 have cne:=I.cne;obtain⟨oL,_,_,hoL,_⟩:=id hn;refine wpAny_nameGoes_keeps hk hn h7 λh' v i4 hs=>?_
 refine h _ ⟨I.ok,I.os,I.bare,⟨λb o e n hb hx=>?_,λb o e n hb hx=>?_,I.base.free,λb o e hx=>?_,I.base.tups,I.base.frzs,I.base.tbls⟩,⟨_,i4,λj y v' e1 e2 e3=>?_⟩,λy c e=>?_,I.free,I.freeC,λp hp=>?_,λb ob e=>?_,by simpa using I.len⟩
 ·exact (hs.2 b (WL (Wt (Wo e) I.ok.above))).trans (I.base.keep b o e n hb hx)
 ·obtain⟨sl,e1⟩:=I.base.slot b o e n hb hx;exact⟨sl,(hs.2 b (WL (Wt (Wo e) I.ok.above))).trans e1⟩
 ·obtain⟨o',e1⟩:=I.base.there b o e hx;exact⟨o',(hs.2 b (WL (Wt (Wo e) I.ok.above))).trans e1⟩
 ·have hj:j≠i:=λz=>by
   subst z;have cn:j<σ.length:=by rw[I.len];exact (Wj.mp hi).1
   rw[W8 cn]at e2;cases e2
  rw[Xh (Ne.symm hj)]at e2;obtain⟨u',r',q⟩:=hl j y v' e1 e2 e3;refine⟨u',r',?_⟩;rcases q with ⟨k,e⟩ | ⟨k,c,e,z⟩
  ·refine .inl ⟨k,?_⟩;have:y≠n:=λe=>hj (nodup_ix hN e1 (e ▸ hi))
   simp[this,e]
  ·exact .inr ⟨k,c,e,z.sameBut hs (cne y c e)⟩
 ·obtain⟨w',z⟩:=I.cell y c e;exact⟨w',z.sameBut hs (cne y c e)⟩
 ·obtain⟨e,n,ne,nf,d⟩:=I.pin p hp;exact⟨(hs.2 p.1 ne).trans e,n,ne,nf,d⟩
 ·refine (I.hok b ob e).stay (λc w' hc q=>(hs.2 c ?_).trans q) (λx q=>q) λx x q=>q
  rintro rfl;rcases hc with hc | hc
  ·rw[<-hc,I.free]at e;cases e
  ·rw[I.free]at hc;cases hc
end
def Ve(X:Cx)(aaW:A8)(Eh:XK):A3:=λe s'=>
 ∃(σ':St) (H':Hp) (x:Addr) (C a0:Value) (B:Heap),e=.ref x∧Inv X aaW σ' H' s'∧Heap.FlyingW B X.stack x C a0 s'.heap∧(∀b,H' b≠none->∃o,B.get? b=some o) ∧
   (∀b o,X.s₀.heap.get? b=some o->b∉X.fs->∃o',B.get? b=some o')/\(∀p∈X.pn++aaW,B.get? p.1=some p.2)/\Eh C none H'
abbrev Cx.tryC(X:Cx)(aaW:A8)(Eh:XK):Cx:={ X with pn:=X.pn++aaW,xe:=Ve X aaW Eh }
abbrev Cx.sui(X:Cx)(x:Addr)(oe:Obj):Cx:={ X with A:=X.A.mark (some (.ref x)),calm:=false,pn:=X.pn++[(x,oe)],xe:=λ_ _=>False }
section
variable{X:Cx}{aaW:A8}{σ:St}{H:Hp}{s:Shared}{Eh:XK}{P:C5}{w:World}
def Inv.toTry(I:Inv X aaW σ H s):Inv (X.tryC aaW Eh) [] σ H s:=
 ⟨⟨I.ok.mod,I.ok.kind,I.ok.glob,I.ok.blt,I.ok.above,I.ok.inj,I.ok.has,I.ok.cab,I.ok.hd,I.ok.frames,I.ok.stk,I.ok.exf,I.ok.bs,I.ok.bsz,I.ok.noex,I.ok.exfs,I.ok.funs,I.ok.frf⟩,I.os,I.bare,I.base,I.loc,I.cell,I.free,I.freeC,λp hp=>I.pin p (by simpa using hp),I.hok,I.len⟩
def Inv.ofTry(I:Inv (X.tryC aaW Eh) nr σ H s):Inv X aaW σ H s:=
 ⟨⟨I.ok.mod,I.ok.kind,I.ok.glob,I.ok.blt,I.ok.above,I.ok.inj,I.ok.has,I.ok.cab,I.ok.hd,I.ok.frames,I.ok.stk,I.ok.exf,I.ok.bs,I.ok.bsz,I.ok.noex,I.ok.exfs,I.ok.funs,I.ok.frf⟩,I.os,I.bare,I.base,I.loc,I.cell,I.free,I.freeC,λp hp=>I.pin p (Xm _ hp),I.hok,I.len⟩
def Inv.toSui(I:Inv X aaW σ H s)(h:s.heap.get? x=some oe/\H x=none/\x≠X.env.locals/\x∉X.fs/\∀ v,oe.data≠.cell v):Inv (X.sui x oe) aaW σ H s:=
 ⟨⟨I.ok.mod,I.ok.kind,I.ok.glob,I.ok.blt,I.ok.above,I.ok.inj,I.ok.has,I.ok.cab,fun z=>(by cases z),I.ok.frames,I.ok.stk,I.ok.exf,I.ok.bs,I.ok.bsz,I.ok.noex,I.ok.exfs,I.ok.funs,I.ok.frf⟩,I.os,I.bare,I.base,I.loc,I.cell,I.free,I.freeC,fun p hp=>by
  rcases WF.mp hp with hp | hp
  ·rcases WF.mp hp with hp | hp
   ·exact I.pin p (Xm _ hp)
   ·cases Wx.mp hp;exact h
  ·exact I.pin p (Xc _ hp),I.hok,I.len⟩
def Inv.ofSui(ok:X.Ok)(I:Inv (X.sui x oe) aaW σ H s):Inv X aaW σ H s:=
 ⟨ok,I.os,I.bare,I.base,I.loc,I.cell,I.free,I.freeC,fun p hp=>I.pin p (by
  rcases WF.mp hp with hp | hp
  ·exact Xm _ (Xm _ hp)
  ·exact Xc _ hp),I.hok,I.len⟩
def Tf(hex:X.ex=[])(hP:X.prog=P)(hw:X.w=w):Passes (cG P w) (X.tryC aaW Eh) Eh:=by
 subst hP hw;intro nr σ H1 s1 e s' I hf;obtain⟨x,C,a0,H',B,rfl,os,bare,un,hok,fl,ci,cii,q⟩:=hf;have J:Inv (X.tryC aaW Eh) nr σ H' s':=I.call' (ch:=[]) os un hok bare (λb z=>absurd z (by simp))
 have J':=J.ofTry;have cp:∀p∈X.pn++aaW,B.get? p.1=some p.2:=λp hp=>by
  obtain⟨e1,n1,ne1,nf1,d1⟩:=I.ofTry.pin p hp;obtain⟨e2,_⟩:=J'.pin p hp;obtain⟨o',e3⟩:=cii p.1 p.2 e1 (λhm=>by
   rcases Wz.mp (I.ofTry.stkSub _ hm) with z | z
   ·exact ne1 z
   ·exact nf1 z)
  have:=fl.1 _ _ e3;rw[e2]at this;cases this;exact e3
 have df:∀b o,X.s₀.heap.get? b=some o->b∉X.fs->∃o',B.get? b=some o':=λb o e hb=>by
  obtain⟨o1,h1⟩:=I.base.there b o e (by show b∉X.ex;rw[hex];simp)
  refine cii b o1 h1 λhm=>?_
  rcases Wz.mp (I.ofTry.stkSub _ hm) with z | z
  ·exact absurd (Wo e) (by rw[z];exact X7.mpr I.ok.above)
  ·exact hb z
 exact⟨σ,H',x,C,a0,B,rfl,J',fl,ci,df,cp,q⟩
end
section
variable{M:Model}{A:Around}{E:A3}
variable{nm q:Str}{C N:Addr}{bs bm:B5}{hdct:Bool}{sn:C3}{sub:B5}{ab:Bool}{col:Option Bool}{dd:B3}{k0 k1 k2 k3 k5:B1}{newId:String}
variable{nm' q':Str}{C' N':Addr}{bs' bm':B5}{nv:Bool}{sn':C3}{sub':B5}{ab':Bool}{col':Option Bool}{k9:B3}{j0 j1 j2 j3 j5:B1}{pb:String}
def vJ{h:Heap}{g:Array GenState}{d:Drawn}{t:Nat}{os:OsState}{e:Addr}{oe:Obj}{Q:Bool->B2}
  (hC:h.get? C=some (excClassObj nm q C N bs bm hdct sn sub ab col dd k0 k1 k2 k3 k5 newId)) (hC':h.get? C'=some (excClassObj nm' q' C' N' bs' bm' nv sn' sub' ab' col' k9 j0 j1 j2 j3 j5 pb)) (he:h.get? e=some oe) (h7:oe.cls=.ref C)
  (bq:bm'.contains (.type "BaseException")=true) (hsub:(Value.ref C::bm).contains (.ref C')=true)
  (hq:Q true ⟨h,g,d,t,os⟩):wpAny M A (excMatches (.ref e) (.ref C')) Q E ⟨h,g,d,t,os⟩:=by
 have hcB:(Value.ref C'::bm').contains (.type "BaseException")=true:=by rw[aad,bq,Bool.or_true]
 have f:=tc_notTuple;unfold excMatches
 repeat (first | (with_reducible refine Zq he ?_;rw[h7]) | with_reducible refine Zq hC' ?_ | (with_reducible refine wpAny_isSubtype_exc hC' ?_;rw[hcB]) | (with_reducible refine wpAny_isSubtype_exc hC ?_;rw[hsub]) | wp_step)
 all_goals exact hq
end
structure Catches(K:B0)(C F:Addr):Prop where
 exc:W.excIn K C wy "ValueError.__new__"=true
 excF:W.excIn K F wy "ValueError.__new__"=true
 sub:W.mroIn K C (.ref F)=some true
set_option tactic.hygienic true in
def Ed{K:B0}{M:Model}{A:Around}{E:A3}{s:Shared}{C F e:Addr}{oe:Obj}{Q:Bool->B2}(X:K.In s.heap)(c:Catches K C F)(he:s.heap.get? e=some oe)(h7:oe.cls=.ref C)(hq:Q true s):
  wpAny M A (excMatches (.ref e) (.ref F)) Q E s:=by
 obtain⟨bm,N,nm,q,bs,hdct,sn,sub,ab,col,dd,k0,k1,k2,k3,k5,mN,hC,hN,hni,T⟩:=(vR (mg:=λz=>some (.ref C)) (x := "x") X rfl c.exc).obj
 obtain⟨bm',N',nm',q',bs',nv,sn',sub',ab',col',k9,j0,j1,j2,j3,j5,mN',hC',hN',hni',T'⟩:=(vR (mg:=λz=>some (.ref F)) (x := "x") X rfl c.excF).obj
 have hsub:(Value.ref C::bm).contains (.ref F)=true:=by
  have h1:=c.sub;unfold W.mroIn at h1;obtain⟨cd,a,b⟩:=Wv.mp h1;unfold W.clsIn at a;split at a
  ·rename_i c' d' cd' mz ho;have:=X _ _ ho;rw[hC]at this;cases this;cases a;split at b
   ·cases b
   ·exact Ws b
  ·cases a
 obtain⟨hp,g,d,tk,os⟩:=s;exact vJ hC hC' he h7 (T'.hasType PySem.F.excBase_ValueError.hasBase) hsub hq
def U6(X:Cx)(i:Nat)(F:Addr)(Eh:XK)(tb:TS)(th:Addr->Obj->TS):TS:=λD σ H=>
 tb D σ H/\∀(x:Addr) (oe:Obj) (C:Value) (H1:Hp),oe.cls=C->(∃vs,oe.data=.fields vs)->Eh C none H1->(∃c,C=.ref c/\Catches X.K c F) /\
  th x oe { D with nx:=λσ' H'=>D.nx (σ'.set i none) H',bk:=λσ' H'=>D.bk (σ'.set i none) H',ct:=λσ' H'=>D.ct (σ'.set i none) H' } ((List.replicate X.N.length none).set i (some (.ref x))) H1
def Rw(ny:X.calm=true)(bt:X.env.cells=[])(hex:X.ex=[])
  (ax:X.stack=X.env::X.outer) (l8:X.env.frame=some X.env.locals) (hN:X.N.Nodup) (hi:X.N[i]?=some n) (hk:X.env.kindOf n=some .local) (hm:X.mg x=some (.ref F))
  (hb:∀aaW,PSs (X.tryC aaW Eh) body tb) (hs:∀y oe,PSs (X.sui y oe) (b₀::iq) (th y oe)) (hg:Gl X x:=by rfl) (hd:(x==("__debug__":Str))=false:=by decide) :
  PS X (.Try body [.ExceptHandler (some (.Name x np)) (some n) (b₀::iq) p1] [] [] pos) (U6 X i F Eh tb th):=by
 intro aaW s σ H D I h;obtain⟨h1,h2⟩:=h;have Uk:∀{f:Flow}{s':Shared},SP (X.tryC aaW Eh) [] D f s'->SP X aaW D f s':=λ{f s'} z=>by
  cases f with
  |next=>obtain⟨σ',H',J,q⟩:=z;exact⟨σ',H',J.ofTry,q⟩
  |brk=>obtain⟨σ',H',J,q⟩:=z;exact⟨σ',H',J.ofTry,q⟩
  |cont=>obtain⟨σ',H',J,q⟩:=z;exact⟨σ',H',J.ofTry,q⟩
  |ret u=>obtain⟨v,σ',H',J,r,q⟩:=z;exact⟨v,σ',H',J.ofTry,r,q⟩
 refine wpAny_Try_except (W5 ((hb aaW) [] s σ H D I.toTry h1) (λf s₁ hf=>?_) λe s₁ he=>?_)
 ·have hf':=Uk hf;cases f with
  |next=>exact Z3 hf'
  |brk=>exact hf'
  |cont=>exact hf'
  |ret u=>exact hf'
 obtain⟨σ',H',y,C,a0,B,rfl,J,fl,ci,df,cp,q⟩:=he;have hfrs:X.A.frames=some (X.env::X.outer):=by rw[I.ok.frames,ax]
 rw[ax]at fl;have fr:∀b∈X.fs,∃o,s₁.heap.get? b=some o/\∀vs,o.data≠.fields vs:=λb hb=>(fl.2.2.1.2.2.mem hb).2
 refine wpAny_looks_onW hfrs l8 fl λh₄ held up₄=>?_
 refine wpAny_landsW held λh₅ fl₅ up₅=>?_
 have J₅:Inv X aaW σ' H' { s₁ with heap:=h₅ }:=J.land bt hex fl.1 fl₅.1 (up₄.trans up₅) fr ci df cp
 obtain⟨ob,wb,hob,hobc,hobd,_⟩:=fl₅.first;refine wpAny_handleBy_cons (codeAny_handlers_test ?_) (by intro z;cases z)
 have K₅:∀{E:A3}{Q:A3},Q (.ref F) { s₁ with heap:=h₅ }->wpAny X.M (X.A.mark (some (.ref y))) (eval (.Name x np) X.env) Q E { s₁ with heap:=h₅ }:=λhQ=>
  ZZ I.ok.kind hg (by
   have g5:h₅.Ns X.env.globals X.mg:=by rw[I.ok.glob];exact I.ok.mod.glob.keeps J₅.bk
   exact Calls.loadGlobal_global g5 hm hQ) hd
 refine K₅ ?_;obtain⟨⟨c,hCc,cat⟩,_⟩:=h2 y ob C H' hobc ⟨_,hobd⟩ q;subst hCc;refine Ed J₅.kIn cat hob hobc ?_;refine codeAny_handlers_suite_as ?_;refine lands_againW fl₅ λh₆ fl₆ up₆=>?_
 have fr₅:∀b∈X.fs,∃o,h₅.get? b=some o/\∀vs,o.data≠.fields vs:=λb hb=>(fl₅.2.2.1.2.2.mem hb).2
 have fr₆:∀b∈X.fs,∃o,h₆.get? b=some o/\∀vs,o.data≠.fields vs:=λb hb=>(fl₆.2.2.1.2.2.mem hb).2
 have J₆:Inv X aaW σ' H' { s₁ with heap:=h₆ }:=J₅.land (s:={ s₁ with heap:=h₅ }) bt hex fl₅.1 fl₆.1 up₆ fr₅ ci df cp
 have J₇:Inv X aaW (List.replicate X.N.length none) H' { s₁ with heap:=h₆ }:=J₆.weak (by rw[J₆.len];simp) λi v z=>by rw[X6]at z;split at z<;>cases z
 obtain⟨oe,ws,hoe,hoec,kg,hoe0⟩:=fl₆.first;obtain⟨m,⟨oL,es,ep,hoL,hdL,_⟩,_⟩:=id J₇.loc;have ynL:y≠X.env.locals:=λz=>by rw[z]at hoe;rw[hoL]at hoe;cases hoe;rw[hdL]at kg;cases kg
 have ynf:y∉X.fs:=λz=>by obtain⟨o,ho,nf⟩:=fr₆ y z;rw[hoe]at ho;cases ho;exact nf _ kg
 have yH:H' y=none:=by
  cases z:H' y with
  |none=>rfl
  |some o=>
    obtain⟨o',e'⟩:=ci y (by rw[z];simp)
    rw[fl.2.1]at e';cases e'
 refine store_ok2 (v:=.ref y) J₇ hN hi (.inl hk) rfl (λs' I' pe=>?_) (.inr hk)
 obtain⟨a,pe,ha⟩:=pe;have ha':a=X.env.locals:=by
  rcases ha with ha | ha
  ·exact ha
  ·rw[bt]at ha;cases ha
 subst ha';have hoe':s'.heap.get? y=some oe:=(pe.2 y ynL).trans hoe;have IS:=I'.toSui (x:=y) (oe:=oe) ⟨hoe',yH,ynL,ynf,λv z=>by rw[kg]at z;cases z⟩
 refine W5 ((hs y oe) aaW s' _ H' _ IS (h2 y oe (.ref c) H' hoec ⟨_,kg⟩ q).2) (λf s₃ hf=>?_) λw w z=>z.elim
 cases f with
 |next=>obtain⟨σ2,H2,J2,q2⟩:=hf;exact (J2.ofSui I.ok).gone hN hi hk λs4 J4=>⟨_,H2,J4,q2⟩
 |brk=>obtain⟨σ2,H2,J2,q2⟩:=hf;exact (J2.ofSui I.ok).gone hN hi hk λs4 J4=>⟨_,H2,J4,q2⟩
 |cont=>obtain⟨σ2,H2,J2,q2⟩:=hf;exact (J2.ofSui I.ok).gone hN hi hk λs4 J4=>⟨_,H2,J4,q2⟩
 |ret u=>obtain⟨v,σ2,H2,J2,r2,q2⟩:=hf;exact (J2.ofSui I.ok).gone hN hi hk λs4 J4=>⟨v,_,H2,J4,r2,q2⟩
structure XAt(K:B0)(D:Addr):Prop where
 ga:W.findIn K (.ref D) "__getattribute__"=some (some (.builtin "BaseException.__getattribute__"))
 gn:W.findIn K (.ref D) "__getattr__"=some none
 gc:W.findIn K (.ref D) "__class__"=some (some (.builtin "object.__class__"))
 mo:W.mroIn K D (.type "object")=some true
 mb:W.mroIn K D (.type "BaseException")=some true
section
variable{prog:C5}{w:World}{A:Around}{E:A3}{h:Heap}{g:Array GenState}{d:Drawn}{t:Nat}{os:OsState}{x D:Addr}{oe:Obj}{K:B0}
def GD(hx:h.get? x=some oe)(hc:oe.cls=.ref D):W.Looks M h (typeOf (.ref x)) (.ref D):=hc ▸ (W.Looks.ld hx).andThen .now
open PySem.W Builtin.Getset_descriptor Builtin.ObjectAttr Builtin in
def Dy(X:K.In h)(hx:h.get? x=some oe)(hc:oe.cls=.ref D)(hm:mroIn K D (.type "object")=some true)
  (hR:R (.ok (.ret (.ref D))) ⟨h,g,d,t,os⟩):codeAny (model prog w) A (.call (.builtin "getset_descriptor.__get__") ⟨[.builtin "object.__class__",.ref x,tp],[]⟩) R ⟨h,g,d,t,os⟩:=by
 have Lty:=GD (M:=model prog w) hx hc;have Lmr:=looks_mroIn (M:=model prog w) X hm;refine codeAny_call_builtin KF.slot_gs.plain KF.entry_gs (KF.slot_gs.check _ _ _ _ _ _ _ _ KF.type_class (KF.args_gs _ _ _) ?_)
 (unfold Builtin.«getset_descriptor.__get__» descrGet;rw[dga_obj];refine Wg (Wh ?_))
 (unfold descrGetter descrCheckInstance descrNameAndClass isInstance;simp only[KF.owner_class];repeat lk)
 refine⟨Code.quiet_builtin _ (by decide +kernel),X5 KF.entry_class ?_⟩
 (unfold Builtin.«object.__class__» shownTypeOf;repeat lk)
 all_goals first | exact hR | assumption
def Ar(X:K.In h)(T:XAt K D)(hx:h.get? x=some oe)(hc:oe.cls=.ref D)(hq:Q (.done (.ret (.ref D))) ⟨h,g,d,t,os⟩):
  wpAny (model prog w) A (Builtin.«object.__getattribute__» ⟨[.ref x,.str "__class__" tk],[]⟩) Q E ⟨h,g,d,t,os⟩:=by
 have tyc:(⟨h,g,d,t,os⟩:Shared).TypeIs (.builtin "object.__class__") "getset_descriptor":=F.typeOf_object_class;have u5:=F.typeOf_object_class;have u6:=F.slot_gs_get.lookup;have u7:=F.slot_gs_set.lookup;have Lc:=ZG (M:=model prog w) X T.gc
 repeat (any_goals (first | assumption | (with_reducible refine Zq hx ?_;rw[hc]) | with_reducible refine Lc.at ?_ | wp_step))
 refine Dy X hx hc T.mo ?_
 repeat (any_goals (first | wp_step | assumption))
def Jw(X:K.In h)(T:XAt K D)(hx:h.get? x=some oe)(hc:oe.cls=.ref D)(hq:Q () ⟨h,g,d,t,os⟩):
  wpAny M A (checkBuiltinCall "BaseException.__getattribute__" ⟨[.ref x,nameV],[]⟩) Q E ⟨h,g,d,t,os⟩:=by
 have bk:builtinKind "BaseException.__getattribute__"=some .slot:=by decide +kernel
 have lh:splitId "BaseException.__getattribute__"=some ("BaseException", "__getattribute__"):=by decide +kernel
 have ha:=F.args_bexc_ga (.ref x) nameV;have Lb:=W.looks_mroIn (M:=M) X T.mb;simp only[checkBuiltinCall,bk,lh];refine Wg ?_
 ·unfold isInstance
  repeat (first | (with_reducible refine Zq hx ?_;rw[hc]) | with_reducible refine Lb.at ?_ | wp_step)
  exact hq
def Dw(X:K.In h)(T:XAt K D)(hx:h.get? x=some oe)(hc:oe.cls=.ref D)(hq:R (.ok (.ret (.ref D))) ⟨h,g,d,t,os⟩):
  codeAny (model prog w) A (.call (.builtin "BaseException.__getattribute__") ⟨[.ref x,.str "__class__" tk],[]⟩) R ⟨h,g,d,t,os⟩:=
 codeAny_call_builtin F.attrBase_ValueError.ga.plain F.entry_bexc_ga (Jw X T hx hc (Ar X T hx hc hq))
def Jx{fill expr:Bool}{Q:A3}(X:K.In h)(T:XAt K D)(hx:h.get? x=some oe)(hc:oe.cls=.ref D)(hq:Q (.ref D) ⟨h,g,d,t,os⟩):
  wpAny (model prog w) A (getAttrBy (.ref x) (.str "__class__" tk) fill expr) Q E ⟨h,g,d,t,os⟩:=by
 have u3:=F.attrBase_ValueError.ga.bind (.ref x);have ex0:(expr&&onTheHeap (Value.builtin "BaseException.__getattribute__"))=false:=by cases expr<;>rfl
 have ex2:(Value.builtin "BaseException.__getattribute__"==Value.builtin "object.__getattribute__")=false:=by decide +kernel
 have ex1:(onTheHeap (Value.ref D)&&Value.builtin "BaseException.__getattribute__"==Value.builtin "object.__getattribute__")=false:=by rw[ex2];rfl
 have L1:=ZG (M:=model prog w) X T.ga;have L2:=ZG (M:=model prog w) X T.gn
 repeat (any_goals (first | assumption | (with_reducible refine Zq hx ?_;rw[hc]) | with_reducible refine L1.at ?_ | with_reducible refine L2.at ?_ | wp_step))
 refine Dw X T hx hc ?_
 repeat (any_goals (first | wp_step | assumption))
def uF{Q:B1->B2}(X:K.In h)(T:XAt K D)(hx:h.get? x=some oe)(hc:oe.cls=.ref D)(hq:Q (some (.ref D)) ⟨h,g,d,t+1,os⟩):
  wq prog w A (getAttr? (.ref x) "__class__") Q E ⟨h,g,d,t,os⟩:=by
 unfold getAttr? getAttrBy?;refine Wg (wpAny_mkText (Wg (YQ (Jx X T hx hc ?_))))
 repeat (any_goals (first | wp_step | assumption))
end
set_option tactic.hygienic true in
def J6{K:B0}{x D:Addr}{oe:Obj}(T:XAt K D)(hc:oe.cls=.ref D):
  W.KitX K (.ref x) (.ref D) (λh=>h.get? x=some oe) where
 ty:=λy y y I=>GD I hc
 it:=λy y X y=>by
  have h1:=T.mo;unfold W.mroIn at h1;obtain⟨cd,a,b⟩:=Wv.mp h1;unfold W.clsIn at a;split at a
  ·rename_i c' d' cd' mz ho;intro A' Q' E' s' k q;unfold isType loadHead;exact Wg (wpAny_loadPart (k _ _ (X _ _ ho)) (Wh q))
  ·cases a
 ne:=λh tp dd its n sl X lj=>by
  have h1:=T.mo;unfold W.mroIn at h1;obtain⟨cd,a,b⟩:=Wv.mp h1;refine Bool.eq_false_iff.mpr λq=>?_
  cases Value.ref.inj (Zi.mp q);unfold W.clsIn at a;split at a
  ·rename_i c' d' cd' mz ho;have z:=(X _ _ ho).symm.trans lj;cases z
  ·cases a
 ca:=λ{_ _ _ _ _ s} X I k=>by obtain⟨h,g,d,t,os⟩:=s;exact uF X T I hc k
def Rr(h:X.mg x=some (.ref C))(hg:Gl X x:=by rfl)(hd:(x==("__debug__":Str))=false:=by decide):PE X (.Name x pos) (tC (.ref C)):=pe_glob hg h rfl hd
def pick(js:C0)(σ:St):St:=js.map λj=>(σ[j]?).getD none
def Jh(u:Un fs ex H H' h0 h)(hs:Heap.SameBut C h h')(hC:h0.objs.size<=C):Un fs ex H H' h0 h' where
 keep b o e n hb hx:=(hs.2 b (WL (Wt (Wo e) hC))).trans (u.keep b o e n hb hx)
 slot b o e n hb hx:=by obtain⟨sl,e1⟩:=u.slot b o e n hb hx;exact⟨sl,(hs.2 b (WL (Wt (Wo e) hC))).trans e1⟩
 free:=u.free
 there b o e hx:=by obtain⟨o',e1⟩:=u.there b o e hx;exact⟨o',(hs.2 b (WL (Wt (Wo e) hC))).trans e1⟩
 tups:=u.tups
 frzs:=u.frzs
 tbls:=u.tbls
def BK(ok:HOk P w H h)(hs:Heap.SameBut C h h')(hC:H C=none):HOk P w H h':=λb ob e=>
 (ok b ob e).stay (λc w' hc q=>(hs.2 c (by
   rintro rfl;rcases hc with hc | hc
   ·rw[<-hc,hC]at e;cases e
   ·rw[hC]at hc;cases hc)).trans q) (λz q=>q) λz z q=>q
structure DefC(P:C5)(w:World)(K:B0)(mg:A4)(base:Heap)(k:Nat)(x:Str)(ps:C3)(sp:Sp):Prop where
 ex:∃f fd,FnOk P w K mg base (cG P w) k f fd ps sp/\Binds K fd ps []/\W.keepIn K (.ref f)=true/\mg x=some (.ref f)
section
variable{P:C5}{w:World}{K:B0}{mg:A4}{base:Heap}{k:Nat}{x:Str}{N ps:C3}{sp:Sp}{st:Stmt}
def Vu(F:Fun K x x st f fd)(S:FnScope N ps (defScope st))(len:∀ vs H Q E,sp vs H Q E->vs.length=ps.length)
  (af:∀(ae:Value) (A:Around) (outer:C4) (s:Shared) (H:Hp) (vs:List V) (Q:VK) (E:XK),Room k (A.deeper (envOfC x (defScope st) s.z f ae))->sp vs H Q E->
    ∃t,PSs (bV P w K mg base N x (defScope st) f ae A outer s H E) (defBody st) t/\t { nx:=λy H'=>Q .non H',rt:=Q } (start N vs) H):FnOk P w K mg base (cG P w) (k+1) f fd ps sp:=by
 obtain⟨oc,od,kV,doc,pm,an,ae,ct,bp,rfl,l,c⟩:=F.ex;exact fn_of l c S len (af ae)
def DefAt.okE(D:DefAt K mg x st)(S:FnScope N ps (defScope st))(hb:∀ (kV doc pm:Value) (an:B3) (ae ct:Value) (us:B5),us.length=ps.length->bindArgs (W.fnOf x x (defArgs st) (defBody st) (defScope st) .none kV doc pm an ae ct) ⟨us,[]⟩=pure (ps.zip us))
  (len:∀vs H Q E,sp vs H Q E->vs.length=ps.length)
  (af:∀(f:Addr) (ae:Value) (A:Around) (outer:C4) (s:Shared) (H:Hp) (vs:List V) (Q:VK) (E:XK),Room k (A.deeper (envOfC x (defScope st) s.z f ae))->sp vs H Q E->
    ∃t,PSs (bV P w K mg base N x (defScope st) f ae A outer s H E) (defBody st) t/\t { nx:=λy H'=>Q .non H',rt:=Q } (start N vs) H):DefC P w K mg base (k+1) x ps sp:=by
 obtain⟨f,fd,F,m⟩:=D.ex;exact⟨f,fd,Vu F S len (af f),F.binds hb,F.kp,m⟩
end
def uZ:Passes (cG P w) X E0:=λz z z z z z z h=>by obtain⟨_,_,_,_,_,_,_,_,_,_,_,_,_,q⟩:=h;exact q.elim
section
variable{X:Cx}{j k:Nat}{ps:C3}{sp:Sp}{x:Str}{p pos:Pos}{e:Expr}{es:B8}{t:TA}{E:XK}
def Kz(D:DefC X.prog X.w X.K X.mg X.base j x ps sp)(hr:Room k X.A)(hx:Passes (cG X.prog X.w) X E)(ha:PA X (e::es) t)(cq:j<=k:=by decide)(hg:Gl X x:=by rfl)(ai:(x==("__debug__":Str))=false:=by decide)
  (he:starEach (e::es) X.env=(false,eval e X.env)::starEach es X.env:=by rfl) (hpl:(backTo pos (starEach es X.env)).any (·.1)=false:=by rfl) :
  PE X (.Call (.Name x p) (e::es) [] pos) (tCall sp [] E t):=by
 obtain⟨f,fd,F,b,kp,m⟩:=D.ex;exact pe_call F (hr.mono cq) hg m kp b .nil hx ha ai he hpl
end
section
variable{κ:Type}[DecidableEq κ]
def valV(kvs:List (κ×V))(k:κ):Option V:=(kvs.find? λkv=>decide (kv.1=k)).map (·.2)
def putK(kvs:List (κ×V))(k:κ)(v:V):List (κ×V):=
 if (kvs.any λkv=>decide (kv.1=k))=true then kvs.map (λkv=>if kv.1=k then (kv.1,v) else kv) else kvs++[(k,v)]
def valV_pos{r:List (κ×V)}(e:p.1=k):valV (p::r) k=some p.2:=by simp[valV,List.find?_cons,e]
def valV_neg{r:List (κ×V)}(e:¬ p.1=k):valV (p::r) k=valV r k:=by simp[valV,List.find?_cons,e]
theorem valV_any(k:κ):∀ kvs:List (κ×V),(kvs.any λkv=>decide (kv.1=k))=(valV kvs k).isSome
 |[]=>rfl
 |p::r=>by
   rw[Zf];by_cases e:p.1=k
   ·simp only[valV_pos e,decide_eq_true e,Bool.true_or,Option.isSome_some]
   ·rw[valV_neg e,Xo e,Bool.false_or];exact valV_any k r
def length_putK(kvs:List (κ×V))(k:κ)(v:V):(putK kvs k v).length<=kvs.length+1:=by
 unfold putK;split
 ·rw[Wm];lia
 ·rw[W3,XH,List.length_nil];lia
def putK_new{kvs:List (κ×V)}(v:V)(h:valV kvs k=none):putK kvs k v=kvs++[(k,v)]:=by unfold putK;rw[valV_any,h];exact Ww (by decide)
def RelO.isSome_eq(r:RelO o u):o.isSome=u.isSome:=by
 cases o with
 |none=>cases u with
   |none=>rfl
   |some _=>exact (show False from r).elim
 |some _=>cases u with
   |none=>exact (show False from r).elim
   |some _=>rfl
def KV.val{kvs:List (κ×V)}{vs:List (κ×Value)}(r:KV kvs vs)(k:κ):RelO (valV kvs k) (valueAt vs k):=by
 unfold KV at r;induction r with
 |nil=>exact True.intro
 | @cons p q ps qs h t ih=>
   obtain⟨h1,h2⟩:=h;by_cases e:p.1=k
   ·have e':q.1=k:=h1.symm.trans e;have b:valueAt (q::qs) k=some q.2:=by simp[valueAt,List.find?_cons,e']
    rw[valV_pos e,b];exact h2
   ·have e':¬ q.1=k:=λz=>e (h1.trans z)
    have b:valueAt (q::qs) k=valueAt qs k:=by simp[valueAt,List.find?_cons,e']
    rw[valV_neg e,b];exact ih
theorem KV.any(r:KV kvs vs)(k:κ):(kvs.any λkv=>decide (kv.1=k))=vs.any λkv=>decide (kv.1=k):=by
 unfold KV at r;induction r with
 |nil=>rfl
 |cons h t ih=>rw[Zf,Zf,ih,h.1]
def KV.repl(r:KV kvs vs)(k:κ)(ry:RelV y u):
  KV (kvs.map λkv=>if kv.1=k then (kv.1,y) else kv) (vs.map λkv=>if kv.1=k then (kv.1,u) else kv):=by
 unfold KV at r ⊢
 induction r with
 |nil=>exact .nil
 | @cons p q ps qs h t ih=>
   rw[W2,W2];refine .cons ?_ ih;obtain⟨h1,h2⟩:=h;by_cases e:p.1=k
   ·rw[Wq e,Wq (h1.symm.trans e)];exact⟨h1,ry⟩
   ·rw[Ww e,Ww (λz=>e (h1.trans z))];exact⟨h1,h2⟩
def KV.put(r:KV kvs vs)(k:κ)(ry:RelV y u):KV (putK kvs k y) (stored vs k u):=by
 unfold putK stored;rw[r.any k];by_cases e:(vs.any λkv=>decide (kv.1=k))=true
 ·rw[Wq e,Wq e];exact r.repl k ry
 ·rw[Ww e,Ww e];exact Paired.snoc r ⟨rfl,ry⟩
def KV.keys{kvs:List (κ×V)}{vs:List (κ×Value)}(r:KV kvs vs):kvs.map (·.1)=vs.map (·.1):=by
 unfold KV at r;induction r with
 |nil=>rfl
 |cons h t ih=>rw[W2,W2,ih,h.1]
theorem KV.length(r:KV kvs vs):kvs.length=vs.length:=Z0 r
end
def kV_is(r:RelV (kV k) u):(mixKind P w).is k u=true:=by
 cases k with
 |inl i=>obtain⟨t,e⟩:=(show ∃t,u=Value.int i t from r);subst e;exact mixKind_int P w i t
 |inr x=>obtain⟨t,e⟩:=(show ∃t,u=Value.str x t from r);subst e;exact mixKind_str P w x t
theorem items_are:∀ {ks:List Key}{us:B5},Vals (ks.map kV) us->ItemsAre (mixKind P w) ks us
 |[],_,r=>by rw[Zx]at r;cases r;exact .nil
 |k::ks,_,r=>by
   rw[W2]at r;cases r with
   |cons h t=>exact .cons (kV_is h) (items_are t)
abbrev KT(H:Hp):List (List Key×V)->List (List Key×Addr×Value)->Prop:=Paired λp q=>p.1=q.1/\H q.2.1=some (.tup (p.1.map kV))/\RelV p.2 q.2.2
def KT.val{kvs:List (List Key×V)}{xs:List (List Key×Addr×Value)}(r:KT H kvs xs)(k:List Key):RelO (valV kvs k) ((atKey xs k).map (·.2)):=by
 induction r with
 |nil=>exact True.intro
 | @cons p q ps qs h t ih=>
   obtain⟨h1,_,h2⟩:=h;by_cases e:p.1=k
   ·have e':q.1=k:=h1.symm.trans e;have b:atKey (q::qs) k=some q.2:=by simp[atKey,List.find?_cons,e']
    rw[valV_pos e,b];exact h2
   ·have e':¬ q.1=k:=λz=>e (h1.trans z)
    have b:atKey (q::qs) k=atKey qs k:=by simp[atKey,List.find?_cons,e']
    rw[valV_neg e,b];exact ih
def KT.repl(r:KT H kvs xs)(k:List Key)(ry:RelV y u):
  KT H (kvs.map λkv=>if kv.1=k then (kv.1,y) else kv) (xs.map (putAt k u)):=by
 induction r with
 |nil=>exact .nil
 | @cons p q ps qs h t ih=>
   rw[W2,W2];refine .cons ?_ ih;obtain⟨h1,h2,h3⟩:=h;unfold putAt;by_cases e:p.1=k
   ·rw[Wq e,Wq (h1.symm.trans e)];exact⟨h1,h2,ry⟩
   ·rw[Ww e,Ww (λz=>e (h1.trans z))];exact⟨h1,h2,h3⟩
def KT.put(r:KT H kvs xs)(k:List Key)(hb:H b=some (.tup (k.map kV)))(ry:RelV y u):
  KT H (putK kvs k y) (storedH xs k b u):=by
 have e:(kvs.any λkv=>decide (kv.1=k))=(atKey xs k).isSome:=by rw[valV_any,(r.val k).isSome_eq,Option.isSome_map]
 unfold putK storedH;rw[e];by_cases q:(atKey xs k).isSome=true
 ·rw[Wq q,Wq q];exact r.repl k ry
 ·rw[Ww q,Ww q];exact Paired.snoc r ⟨rfl,hb,ry⟩
def KT.keeps(r:KT H kvs xs)(ht:∀b ys,H b=some (.tup ys)->H' b=some (.tup ys)):KT H' kvs xs:=
 Paired.mapP r λy y z=>⟨z.1,ht _ _ z.2.1,z.2.2⟩
section
variable{P:C5}{w:World}{H:Hp}{h:Heap}{a:Addr}
def rd_of(ok:HOk P w H h)(e:Rd H a u):ObjOk P w H h a u:=e.ok ok
def dk_rd(ok:HOk P w H h)(e:Rd H a (.dK kvs)):kvs.length<=sizeLine/\(a==sysModules)=false/\∃vs,KV kvs vs/\h.DictOf (mixKind P w) a vs:=
 show ObjOk P w H h a (.dK kvs) from rd_of ok e
def dk_of(ok:HOk P w H h)(e:H a=some (.dK kvs)):kvs.length<=sizeLine/\(a==sysModules)=false/\∃vs,KV kvs vs/\h.DictOf (mixKind P w) a vs:=dk_rd ok (.inl e)
def key_of(ok:HOk P w H h)(e:H a=some (.tup (ks.map kV))):(tupleKind (mixKind P w)).is h ks a:=by
 obtain⟨_,its,r,o,h1,h2,n,h3⟩:=(show ObjOk P w H h a (.tup (ks.map kV)) from ok a _ e)
 exact⟨o,its.toArray,n,h1,h2,h3,by simpa using items_are r⟩
def dt_rd(ok:HOk P w H h)(e:Rd H a (.dT kvs)):kvs.length<=sizeLine/\(a == sysModules)=false /\
  ∃xs,KT H kvs xs/\h.DictOfH (tupleKind (mixKind P w)) a xs:=by
 obtain⟨z,y,xs,r,o,es,ep,h1,h2,h3,h4,h5⟩:=(show ObjOk P w H h a (.dT kvs) from rd_of ok e)
 refine⟨z,y,xs,r,o,es,ep,h1,h2,h3,h4,λx hx=>?_,h5⟩
 have all:∀ {l:List (List Key×V)}{m:List (List Key×Addr×Value)},KT H l m->∀ x∈m,(tupleKind (mixKind P w)).is h x.1 x.2.1:=by
  intro l m q;induction q with
  |nil=>intro x hx;exact nomatch hx
  | @cons p q ps qs hq t ih=>
    intro x hx;rcases Wz.mp hx with e | hx
    ·subst e;exact key_of ok (by rw[<-hq.1];exact hq.2.1)
    ·exact ih x hx
 exact all r x hx
def dt_of(ok:HOk P w H h)(e:H a=some (.dT kvs)):kvs.length<=sizeLine/\(a==sysModules)=false /\
  ∃xs,KT H kvs xs/\h.DictOfH (tupleKind (mixKind P w)) a xs:=dt_rd ok (.inl e)
end
def DGet(H:Hp)(a:Addr)(y:V)(r:Option V):Prop:=
 (∃kvs k,Rd H a (.dK kvs)/\y=kV k/\r=valV kvs k)\/∃kvs k b,Rd H a (.dT kvs)/\y=.ref b/\H b=some (.tup (k.map kV))/\r=valV kvs k
def DPut(H:Hp)(a:Addr)(y v:V)(H':Hp):Prop:=
 (∃kvs k,H a=some (.dK kvs)/\y=kV k/\kvs.length<sizeLine/\H'=upd H a (.dK (putK kvs k v))) \/
 ∃kvs k b,H a=some (.dT kvs)/\y=.ref b/\H b=some (.tup (k.map kV))/\kvs.length<sizeLine/\H'=upd H a (.dT (putK kvs k v))
theorem DGet.k{H:Hp}{a:Addr}{kvs:List (Key×V)}{k:Key}(e:H a=some (.dK kvs)):DGet H a (kV k) (valV kvs k):=.inl ⟨kvs,k,.inl e,rfl,rfl⟩
theorem DPut.k{H:Hp}{a:Addr}{kvs:List (Key×V)}{k:Key}{v:V}(e:H a=some (.dK kvs))(hl:kvs.length<sizeLine):DPut H a (kV k) v (upd H a (.dK (putK kvs k v))):=.inl ⟨kvs,k,e,rfl,hl,rfl⟩
section
variable{X:Cx}{aaW:A8}{σ:St}{H:Hp}{s:Shared}{a:Addr}{y v:V}{u r:Value}{o:Option V}{A:Around}{E:A3}
def Inv.big(I:Inv X aaW σ H s):sysModules<s.z:=by have h:mainGlobals<s.z:=(I.mod.glob.keeps I.bk).lt;exact ZD (by decide) h
def d_getItem(hu:A.units+1<cLine)(I:Inv X aaW σ H s)(g:DGet H a y (some v))(ry:RelV y u)(h:∀w' s',Inv X aaW σ H s'->RelV v w'->Q w' s'):
  wpAny X.M A (getItem (.ref a) u) Q E s:=by
 rcases g with ⟨kvs,k,e,ey,l⟩ | ⟨kvs,k,b,e,ey,eb,l⟩
 ·subst ey;obtain⟨z,hd,vs,rel,dd⟩:=dk_rd I.hok e;obtain⟨w',hw,fm⟩:=RelO.some_of (v:=v) (o:=valueAt vs k) (by rw[l];exact rel.val k)
  exact wpAny_getItem_of (kV_is ry) dd.mapOf hw (h w' _ (I.tok _) fm)
 ·subst ey;cases (show u=Value.ref b from ry)
  obtain⟨z,hd,xs,rel,dd⟩:=dt_rd I.hok e;obtain⟨w',hw,fm⟩:=RelO.some_of (v:=v) (o:=(atKey xs k).map (·.2)) (by rw[l];exact rel.val k)
  obtain⟨p,hp,hp2⟩:=Wk.mp hw;refine wpAny_getItem_heap (tupleKind_room_in1 hu) (key_of I.hok eb) dd hp ?_;rw[hp2];exact h w' _ (I.tok _) fm
def d_notIn(hu:A.units+1<cLine)(I:Inv X aaW σ H s)(g:DGet H a y o)(ry:RelV y u)(h:∀s',Inv X aaW σ H s'->Q (.bool (!o.isSome)) s'):
  wpAny X.M A (compareOp .NotIn u (.ref a)) Q E s:=by
 rcases g with ⟨kvs,k,e,ey,l⟩ | ⟨kvs,k,b,e,ey,eb,l⟩
 ·subst ey;obtain⟨z,hd,vs,rel,dd⟩:=dk_rd I.hok e;refine wpAny_notIn_of (kV_is ry) hd dd.mapOf ?_;rw[<-(rel.val k).isSome_eq,<-l];exact h _ (I.tok _)
 ·subst ey;cases (show u=Value.ref b from ry)
  obtain⟨z,hd,xs,rel,dd⟩:=dt_rd I.hok e;refine wpAny_notIn_heap (tupleKind_room_in1 hu) (key_of I.hok eb) hd dd ?_;have q:=(rel.val k).isSome_eq;rw[Option.isSome_map]at q;rw[<-q,<-l];exact h _ (I.tok _)
def d_write(I:Inv X aaW σ H s)(mu:Mut (H a))(hs:Heap.SameBut a s.heap h')(he:∃q,h'.get? a=some q)(new:ObjOk X.prog X.w (upd H a ob) h' a ob):
  Inv X aaW σ (upd H a ob) { s with heap:=h',toks:=t' }:=
 I.write (x:=a) (e:=a) mu (.inl rfl) (λb q hb z=>(hs.2 b hb).trans z) he new
def dk_new(z:kvs.length<=sizeLine)(hd:(a==sysModules)=false)(rel:KV kvs vs)(dd:h'.DictOf (mixKind P w) a vs):
  ObjOk P w H' h' a (.dK kvs):=⟨z,hd,vs,rel,dd⟩
def d_setItem(hu:A.units+1<cLine)(I:Inv X aaW σ H s)(g:DPut H a y v H')(ry:RelV y u)(rv:RelV v r)(h:∀s',Inv X aaW σ H' s'->Q () s'):
  wpAny X.M A (setItem (.ref a) u r) Q E s:=by
 rcases g with ⟨kvs,k,e,ey,l,eH⟩ | ⟨kvs,k,b,e,ey,eb,l,eH⟩
 ·subst ey eH;obtain⟨z,hd,vs,rel,dd⟩:=dk_of I.hok e;have hz:vs.length<=sizeLine:=by rw[<-rel.length];exact z
  have hl:(putK kvs k v).length<=sizeLine:=by have:=length_putK kvs k v;lia
  refine wpAny_setItem_pairs (hsz:=hz) (kV_is ry) dd λh' k9 hs=>h _ ?_
  have he:∃q,h'.get? a=some q:=let ⟨q,_,_,hq,_⟩:=k9;⟨q,hq⟩
  exact d_write I (by rw[e];exact True.intro) hs he (dk_new hl hd (rel.put k rv) k9)
 ·subst ey eH;cases (show u=Value.ref b from ry)
  obtain⟨z,hd,xs,rel,dd⟩:=dt_of I.hok e;have hz:xs.length<=sizeLine:=by rw[<-Z0 rel];exact z
  have hl:(putK kvs k v).length<=sizeLine:=by have:=length_putK kvs k v;lia
  refine wpAny_setItem_heap (hsz:=hz) (tupleKind_room_in1 hu) (key_of I.hok eb) dd λh' k9 hs=>h _ ?_
  obtain⟨q,es,ep,hq,h2,h3,h4,_,h5⟩:=k9;refine d_write I (by rw[e];exact True.intro) hs ⟨q,hq⟩ ⟨hl,hd,_,(rel.put k eb rv).keeps λc ys ec=>?_,q,es,ep,hq,h2,h3,h4,h5⟩
  rw[upd_ne (ne_of ec e (λz=>nomatch z))]
  exact ec
end
def NoSl(i:Expr):Prop:=∀ov iv,subscripted i false ov iv=operate [ov,iv] (getItem ov iv)
def subD_of{prog:C5}{w:World}{A:Around}{E:A3}{s:Shared}{env:Env}{value slice:Expr}{pos:Pos}{T id:String}{Q:A3}
  (hl:typeLookup (.type T) "__getitem__"=pure (some (.builtin id))) (hs:NoSl slice)
  (h:wq prog w A (eval value env) (λo s₁=>wq prog w A (eval slice env) (λi s₂=>s₂.TypeIs o T/\wq prog w A (getItem o i) Q E s₂) E s₁) E s) :
  wq prog w A (eval (.Subscript value slice pos) env) Q E s:=by
 refine Subscript_ (W5 h (λo s₁ h₁=>W5 h₁ (λi s₂ h₂=>?_) λz z x=>x) λz z x=>x)
 obtain⟨hT,h₂⟩:=h₂;unfold subscriptTail;refine Wg ?_;rw[getitemInPython_of_ne hT.not_modules];refine Wg (wpAny_specialOf hT hl ?_);have fin:wq prog w A (subscripted slice false o i) (λr s₃=>wq prog w A (letTemporaryGo value o r>>=λz=>pure r) Q E s₃) E s₂:=by rw[hs o i];exact wpAny_operating (W5 h₂ (λr s₃ h₃=>Wg (wpAny_letTemporaryGo (Wh h₃))) λz z x=>x)
 first
  |exact Wh (Wg fin)
  |exact Wg (Wh (Wg fin))
  |exact Wg fin
def dict_typeIs(I:Inv X aaW σ H s)(g:DGet H a y o):s.TypeIs (.ref a) "dict":=by
 rcases g with ⟨kvs,k,e,_,_⟩ | ⟨kvs,k,b,e,_,_,_⟩
 ·obtain⟨_,_,vs,_,dd⟩:=dk_rd I.hok e;exact dd.typeIs
 ·obtain⟨_,_,xs,_,dd⟩:=dt_rd I.hok e;exact dd.typeIs
def tDGet(td ty:TE):TE:=λσ H Q=>td σ H λx H1=>ty σ H1 λy H2=>∃a v,x=.ref a/\DGet H2 a y (some v)/\Q v H2
section
variable{X:Cx}{o i e value:Expr}{pos pos' oo:Pos}{td ty tv:TE}
def pe_dget(hu:X.A.units+1<cLine)(ho:PE X o td)(hi:PE X i ty)(hs:NoSl i):PE X (.Subscript o i pos) (tDGet td ty):=by
 walk_at "f";refine subD_of F.slot_dict_getitem.lookup hs (thn (ho aaW s σ H _ I h) λu s1 ⟨x,H1,I1,rx,q1⟩=>thn (hi aaW s1 σ H1 _ I1 q1) λiv s2 ⟨y,H2,I2,ry,a,v,ex,g,q2⟩=>?_)
 subst ex;obtain rfl:u=Value.ref a:=rx;exact⟨dict_typeIs I2 g,d_getItem hu I2 g ry λw' s3 I3 fm=>⟨v,H2,I3,fm,q2⟩⟩
end
def dk_empty(h:Heap)(hb:sysModules<h.objs.size):ObjOk P w H (h.push { cls:=.type "dict",data:=.dict #[] }) h.objs.size (.dK []):=
 ⟨X3 _,Yd.mpr (Ne.symm (WL hb)),[],.nil,Heap.DictOf.new h⟩
def tPairs:List (TE×TE)->St->Hp->(List (V×V)->Hp->Prop)->Prop
 |[],_,H,Q=>Q [] H
 |(tk,tv)::r,σ,H,Q=>tk σ H λx H1=>tv σ H1 λy H2=>tPairs r σ H2 λps H3=>Q ((x,y)::ps) H3
abbrev VV:List (V×V)->List (Value×Value)->Prop:=Paired λp q=>RelV p.1 q.1/\RelV p.2 q.2
def PPs(X:Cx)(pos:Pos)(keys:List (Option Expr))(values:B8)(pf:List (TE×TE)):Prop:=
 ∀(aaW:A8) (s:Shared) (σ:St) (H:Hp) (Q:List (V×V)->Hp->Prop),Inv X aaW σ H s->tPairs pf σ H Q->
   wpAny X.M X.A (evalPairs (pairTrees keys values X.env pos)) (λvs s'=>∃ps H',Inv X aaW σ H' s'/\VV ps vs/\Q ps H') X.xe s
def pps_nil:PPs X pos [] [] []:=λaaW s σ H Q I h=>pairTrees_nil_walk ⟨[],H,I,.nil,h⟩
def pps_cons(hk:PE X k tk)(hv:PE X v tv)(hr:PPs X pos ks vs pf):
  PPs X pos (some k::ks) (v::vs) ((tk,tv)::pf):=λaaW s σ H Q I h=>
 pairTrees_cons_walk (thn (hk aaW s σ H _ I h) λu s1 ⟨x,H1,I1,rx,q1⟩=>thn (hv aaW s1 σ H1 _ I1 q1) λw2 s2 ⟨y,H2,I2,ry,q2⟩=>
  thn (hr aaW s2 σ H2 _ I2 q2) λws s3 ⟨ps,H3,I3,rel,q3⟩=>⟨(x,y)::ps,H3,I3,.cons ⟨rx,ry⟩ rel,q3⟩)
def mergeK(kvs more:List (Key×V)):List (Key×V):=more.foldl (λacc kv=>putK acc kv.1 kv.2) kvs
def KV.merge:∀ {more:List (Key×V)}{rs:List (Key×Value)}{kvs:List (Key×V)}{vs:List (Key×Value)},KV more rs->KV kvs vs->KV (mergeK kvs more) (merged vs rs):=by
 intro more rs kvs vs r;unfold KV at r;induction r generalizing kvs vs with
 |nil=>intro q;exact q
 | @cons p q ps qs h t ih=>
   intro r0;have e:KV (putK kvs p.1 p.2) (stored vs q.1 q.2):=by have:=r0.put p.1 h.2;rw[<-h.1];exact this
   exact ih e
theorem length_mergeK:∀ (more kvs:List (Key×V)),(mergeK kvs more).length<=kvs.length + more.length
 |[],kvs=>by show kvs.length<=kvs.length+0;lia
 |p::r,kvs=>by have h1:=length_mergeK r (putK kvs p.1 p.2);have h2:=length_putK kvs p.1 p.2;show (mergeK (putK kvs p.1 p.2) r).length<=_;rw[XH];lia
theorem carries_of:∀ {kvs:List (Key×V)}{ws:List (Value×Value)},VV (kvs.map λkv=>(kV kv.1,kv.2)) ws->∃ rs,Carries (mixKind P w) ws rs/\KV kvs rs
 |[],_,r=>by rw[Zx]at r;cases r;exact⟨[],True.intro,.nil⟩
 | p::kvs,_,r=>by
   rw[W2]at r;cases r with
   | @cons a b as bs h t=>obtain⟨rs,c,q⟩:=carries_of (P:=P) (w:=w) t;obtain⟨b1,b2⟩:=b;exact⟨(p.1,b2)::rs,⟨kV_is h.1,rfl,c⟩,.cons ⟨rfl,h.2⟩ q⟩
def tDisp(pf:List (TE×TE)):TE:=λσ H Q=>∀p,H p=none->tPairs pf σ (upd H p (.dK [])) λps H2=>H2 p=some (.dK [])/\∃kvs:List (Key×V),ps=kvs.map (λkv=>(kV kv.1,kv.2))/\kvs.length<=15/\Q (.ref p) (upd H2 p (.dK (mergeK [] kvs)))
def pe_disp(h:PPs X pos keys values pf)(bo:keys.all (·.isSome)=true)(hl:keys.length=values.length)(h0:keys≠[])
  (h15:keys.length<=15):PE X (.Dict keys values pos) (tDisp pf):=by
 intro aaW s σ H Q I q;have hn:=I.hok.fresh (Wn s.z);have I1:=I.laid (a:=s.z) (o:=.dK []) (h':=s.heap.push { cls:=.type "dict",data:=.dict #[] }) (t':=s.toks) (λy y q=>Wi _ q) (Wn _) (dk_empty s.heap I.big)
 refine wpAny_Dict_walk (knd:=mixKind X.prog X.w) bo hl h0 h15 (thn (h aaW _ σ _ _ I1 (q _ hn)) λws s2 ⟨ps,H2,I2,rel,e,kvs,ep,lk,q2⟩=>?_)
 subst ep;obtain⟨rs,c,rk⟩:=carries_of (P:=X.prog) (w:=X.w) rel;obtain⟨z,hd,vs0,r0,dd⟩:=dk_of I2.hok e;cases r0;refine⟨rs,c,dd,λh' k9 hs=>⟨.ref s.z,_,?_,rfl,q2⟩⟩
 have hz:(mergeK [] kvs).length<=sizeLine:=by have h1:=length_mergeK kvs [];rw[List.length_nil]at h1;rw[Yx];lia
 have he:∃q,h'.get? s.z=some q:=let ⟨q,_,_,hq,_⟩:=k9;⟨q,hq⟩
 exact d_write I2 (by rw[e];exact True.intro) hs he (dk_new hz hd (rk.merge .nil) k9)
end L2
namespace HT
open PyProof.Rows PySem.W
section
variable{prog:C5}{w:World}{A:Around}{E:A3}{s:Shared}
def Ju{vs ws:B5}{Q:A3}(ht:IsTup s.heap t vs.toArray)(hb:IsTup s.heap b ws.toArray)(hv:vs=[])
  (h1:Q (.ref b) s):wq prog w A (binaryOp .Add (.ref t) (.ref b)) Q E s:=by
 obtain⟨⟨cls,dd,data,sl⟩,ho,hc,n,hd⟩:=id ht;obtain⟨⟨cls2,dd2,data2,oy⟩,ho2,hc2,n2,hd2⟩:=id hb;simp only at hc hd hc2 hd2;subst hc hd hc2 hd2;exact concat_meets ⟨_,ho,rfl⟩ ⟨_,ho2,rfl⟩ noFill_tuple_add seq_tuple_add aas aai (aaa _ _)
   (tuple_addW0 t b vs.toArray ws.toArray n n2 dd dd2 sl oy (by simp[hv])) ⟨ho,ho2,h1⟩
end
end HT
namespace L2
open PyProof.Rows
section
variable{X:Cx}
def Tj:R2:=λx y H Q=>∃a b xs ys,x=.ref a/\y=.ref b/\H a=some (.tup xs)/\H b=some (.tup ys)/\xs.length+ys.length<=sizeLine/\∀p H',Same H H'->H' p=some (.tup (xs++ys))->Q (.ref p) H'
def Om:OpR X (binaryOp .Add) Tj:=by
 walk_at "e";obtain⟨a,b,xs,ys,rfl,rfl,ha,hb,hz,q⟩:=h;by_cases hx:xs=[]
 ·cases rx;cases ry;obtain⟨its,r1,p1,_⟩:=I.tuple (SqT.of ha);obtain⟨dn,r2,p2,_⟩:=I.tuple (SqT.of hb);exact HT.Ju p1 p2 (r1.nil_iff.mpr hx) ⟨.ref b,H,I,rfl,q b H (Same.refl _) (by rw[hx,aaD];exact hb)⟩
 ·exact op_catT (X:=X) aaW s σ H _ _ v u Q I rx ry ⟨a,b,xs,ys,rfl,rfl,SqT.of ha,SqT.of hb,hx,hz,λe=>q a H (Same.refl _) (by rw[e,YK];exact ha),λz p hp=>q p _ (same_new hp _) upd_same⟩
end
mutual
inductive RepF(H:Hp):Bool->V->PyData->Prop
 |non {f:Bool}:RepF H f .non .none
 |bl {f:Bool} (b:Bool):RepF H f (.bl b) (.bool b)
 |int {f:Bool} (i:Int):RepF H f (.int i) (.int i)
 |str {f:Bool} (x:Str):RepF H f (.str x) (.str x)
 |lst {f:Bool}{a:Addr}{xs:List V}{ds:List PyData}:H a=some (.lst xs)->RepsF H f xs ds->RepF H f (.ref a) (.list ds)
 |tup {f:Bool}{a:Addr}{xs:List V}{ds:List PyData}:H a=some (.tup xs)->RepsF H f xs ds->RepF H f (.ref a) (.tuple ds)
 |d0 {a:Addr}:H a=some (.dK [])->RepF H false (.ref a) (.dict [])
 |d1 {a:Addr}{i j:Int}:H a=some (.dK [(.inl i,.int j)])->RepF H false (.ref a) (.dict [(.int i,.int j)])
inductive RepsF(H:Hp):Bool->List V->List PyData->Prop
 |nil {f:Bool}:RepsF H f [] []
 |cons {f:Bool}{v:V}{d:PyData}{vs:List V}{ds:List PyData}:RepF H f v d->RepsF H f vs ds->RepsF H f (v::vs) (d::ds)
end
section
variable{X:Cx}{aaW:A8}{σ:St}{H:Hp}{s:Shared}
def Oa{P:C5}{w:World}{i:Int}{v:Value}(h:(mixKind P w).is (.inl i) v=true):∃ t,v=.int i t:=by
 cases v with
 | int a t=>
   have e:decide (i=a)=true\/decide (a=i)=true\/(a==i)=true\/(i==a)=true:=by
    first | exact .inl h | exact .inr (.inl h) | exact .inr (.inr (.inl h)) | exact .inr (.inr (.inr h))
   have:a=i:=by rcases e with e | e | e | e<;>simp at e<;>lia
   exact⟨t,by rw[this]⟩
 |_=>first | cases h | (simp[mixKind]at h)
def Es(I:Inv X aaW σ H s){a:Addr}(h:H a=some (.dK [])):∃as,Reads s.heap (.ref a) (.dict []) as/\sysModules∉as:=by
 obtain⟨_,hd,vs,r0,⟨o,es,ep,h1,h2,h3,h4,h5,h6⟩⟩:([]:List (Key×V)).length<=sizeLine/\(a==sysModules)=false/\∃vs,KV [] vs/\s.heap.DictOf (mixKind X.prog X.w) a vs:=I.hok a _ h;cases r0;have he:es.toList=[]:=by cases hx:es.toList with
  |nil=>rfl
  |cons e es'=>rw[hx]at h5;cases h5
 refine⟨_,.dict (kvs:=[]) h1 h2.1 h3 (by rw[he];exact .nil) (by rw[he];exact .nil),?_⟩
 simp only[List.append_nil,List.mem_singleton];exact λz=>(Yd.mp hd) z.symm
set_option tactic.hygienic true in
def Et(I:Inv X aaW σ H s){a:Addr}{i j:Int}(h:H a=some (.dK [(.inl i,.int j)])):∃ as,Reads s.heap (.ref a) (.dict [(.int i,.int j)]) as/\sysModules∉as:=by
 obtain⟨_,hd,vs,r0,⟨o,es,ep,h1,h2,h3,h4,h5,h6⟩⟩:([(Sum.inl i,V.int j)]:List (Key×V)).length<=sizeLine/\(a==sysModules)=false/\∃vs,KV [(Sum.inl i,V.int j)] vs/\s.heap.DictOf (mixKind X.prog X.w) a vs:=I.hok a _ h;cases r0 with
 | @cons p q ps qs hq t=>
   cases t;obtain⟨e1,tv,e2⟩:=hq;obtain⟨q1,q2⟩:=q;dsimp only at e1 e2;subst e1 e2;generalize hx:es.toList=el at h5;cases h5 with
   |cons g1 g2 g3=>
     cases g3;rename_i e;obtain⟨tk,ek⟩:=Oa g1;dsimp only at g2;refine⟨_,.dict (kvs:=[(.int i,.int j)]) h1 h2.1 h3 (as:=[]++[]) (bs:=[]++[]) (by rw[hx];exact .cons (by show Reads _ e.key _ _;rw[ek];exact .int i tk) .nil) (by rw[hx];exact .cons (by show Reads _ e.val _ _;rw[g2];exact .int j tv) .nil),?_⟩
     simp only[List.append_nil,List.mem_singleton];exact λz=>(Yd.mp hd) z.symm
def RepsF.reads(I:Inv X aaW σ H s){f:Bool}{vs:List V}{ds:List PyData}{us:B5}(h:RepsF H f vs ds):Vals vs us->∃ as,ReadsAll s.heap us ds as:=
 RepsF.rec (motive_1:=λf v d z=>∀ u,RelV v u->∃ as,Reads s.heap u d as) (motive_2:=λf vs ds z=>∀ us,Vals vs us->∃ as,ReadsAll s.heap us ds as)
  (λu r=>by cases r;exact⟨_,.none⟩)
  (λb u r=>by cases r;exact⟨_,.bool b⟩)
  (λi u r=>by obtain⟨t,rfl⟩:=r;exact⟨_,.int i t⟩)
  (λi u r=>by obtain⟨t,rfl⟩:=r;exact⟨_,.str i t⟩)
  (λh hs ih u r=>by cases r;obtain⟨its,rv,⟨o,n,h1,h2,_,h3⟩,_⟩:=I.list (SqL.of h);obtain⟨as,ra⟩:=ih _ rv;exact⟨_,.list h1 h2 h3 ra⟩)
  (λh hs ih u r=>by cases r;obtain⟨its,rv,⟨o,h1,h2,n,h3⟩,_⟩:=I.tuple (SqT.of h);obtain⟨as,ra⟩:=ih _ rv;exact⟨_,.tuple h1 h2 h3 ra⟩)
  (λh u r=>by cases r;obtain⟨as,ra,_⟩:=Es I h;exact⟨as,ra⟩)
  (λh u r=>by cases r;obtain⟨as,ra,_⟩:=Et I h;exact⟨as,ra⟩)
  (λu r=>by cases r;exact⟨_,.nil⟩)
  (λh hs i1 i2 u r=>by
    cases r with
    |cons r1 r2=>obtain⟨a1,e1⟩:=i1 _ r1;obtain⟨a2,e2⟩:=i2 _ r2;exact⟨_,.cons e1 e2⟩)
  h us
def xO{a:Addr}{d:PyData}{as bs:B7}{n:Nat}(r:Reads s.heap (.ref a) d as)(hd:d.depth=n+1)(hb:ReadAtMost s.heap n bs):a∉bs/\ReadAtMost s.heap d.depth (a::bs):=
 ⟨not_mem_of_deeper r (by lia) hb,hd ▸ ReadAtMost.cons r (by lia) hb⟩
def RepsF.k(I:Inv X aaW σ H s){f:Bool}{vs:List V}{ds:List PyData}{us:B5}(h:RepsF H f vs ds):Vals vs us->PyData.showableAll ds=true->(∀ t∈PyData.shownAll ds,t.length<=sizeLine)->∃ bs,ReadAtMost s.heap (PyData.depthAll ds) bs/\ReprAllK X.prog X.w bs s.heap (PyData.depthAll ds) us (PyData.shownAll ds):=
 RepsF.rec (motive_1:=λf v d q=>∀ u,RelV v u->d.showable=true->d.shown.length<=sizeLine->∃ bs,ReadAtMost s.heap d.depth bs/\ReprK X.prog X.w bs s.heap d.depth u d.shown) (motive_2:=λf vs ds q=>∀ us,Vals vs us->PyData.showableAll ds=true->(∀ t∈PyData.shownAll ds,t.length<=sizeLine)->∃ bs,ReadAtMost s.heap (PyData.depthAll ds) bs/\ReprAllK X.prog X.w bs s.heap (PyData.depthAll ds) us (PyData.shownAll ds))
  (λu r hs hz=>by cases r;exact Zy .none hs (λz=>by simp[PyData.hasDict]at z) hz)
  (λb u r hs hz=>by cases r;exact Zy (.bool b) hs (λz=>by simp[PyData.hasDict]at z) hz)
  (λi u r hs hz=>by obtain⟨t,rfl⟩:=r;exact Zy (.int i t) hs (λz=>by simp[PyData.hasDict]at z) hz)
  (λi u r hs hz=>by obtain⟨t,rfl⟩:=r;exact Zy (.str i t) hs (λz=>by simp[PyData.hasDict]at z) hz)
  (λ{_ _ _ xs} h hs ih u r ki hz=>by
    cases r;obtain⟨its,rv,⟨o,n,h1,h2,_,h3⟩,_⟩:=I.list (SqL.of h);obtain⟨as,ra⟩:=RepsF.reads I hs rv;have hz':(listText (PyData.shownAll xs)).length<=sizeLine:=by simpa only[PyData.shown] using hz
    obtain⟨bs,hb,hk⟩:=ih _ rv (by simpa only[PyData.showable] using ki) λt ht=>W0 (listText_mem_le ht) hz'
    obtain⟨hn,hc⟩:=xO (.list h1 h2 h3 ra) (by simp only[PyData.depth]) hb
    refine⟨_,hc,?_⟩;simp only[PyData.depth,PyData.shown];cases its with
    |nil=>cases ra;simp only[PyData.shownAll,listText_nil];exact ReprK.listEmpty h1 h2 h3
    |cons x l=>exact ReprK.list h1 h2 h3 hn (by simpa using hk.length_eq) λi y e=>hk.item i y (by simpa using e))
  (λ{_ _ _ xs} h hs ih u r ki hz=>by
    cases r;obtain⟨its,rv,⟨o,h1,h2,n,h3⟩,_⟩:=I.tuple (SqT.of h);obtain⟨as,ra⟩:=RepsF.reads I hs rv;have hz':(tupleText (PyData.shownAll xs)).length<=sizeLine:=by simpa only[PyData.shown] using hz
    obtain⟨bs,hb,hk⟩:=ih _ rv (by simpa only[PyData.showable] using ki) λt ht=>W0 (tupleText_mem_le ht) hz'
    obtain⟨hn,hc⟩:=xO (.tuple h1 h2 h3 ra) (by simp only[PyData.depth]) hb
    refine⟨_,hc,?_⟩;simp only[PyData.depth,PyData.shown];exact ReprK.tuple h1 h2 h3 hn hk)
  (λh u r hs hz=>by cases r;obtain⟨as,ra,n⟩:=Es I h;exact Zy ra hs (λq=>n) hz)
  (λh u r hs hz=>by cases r;obtain⟨as,ra,n⟩:=Et I h;exact Zy ra hs (λq=>n) hz)
  (λus r q q=>by cases r;exact⟨[],(λq h=>nomatch h),by simp only[PyData.shownAll];exact .nil⟩)
  (λ{_ _ d _ ds} h hs i1 i2 us r ki hz=>by
    cases r with
    |cons r1 r2=>
      have hh:d.showable=true/\PyData.showableAll ds=true:=by simpa[PyData.showableAll] using ki
      obtain⟨b1,q1,k1⟩:=i1 _ r1 hh.1 (hz _ (by simp only[PyData.shownAll];exact .head _))
      obtain⟨b2,q2,k2⟩:=i2 _ r2 hh.2 λt ht=>hz t (by simp only[PyData.shownAll];exact .tail _ ht)
      simp only[PyData.depthAll,PyData.shownAll];exact⟨b1++b2,(q1.mono (Nat.le_max_left _ _)).append (q2.mono (Nat.le_max_right _ _)),.cons ((k1.more λb hb=>Xm _ hb).level_le (Nat.le_max_left _ _)) (k2.more_le (λb hb=>Xc _ hb) (Nat.le_max_right _ _))⟩)
  h us
end
def RepF.toRep{K:B0}{H:Hp}{v:V}{d:PyData}(h:RepF H true v d):Rep K H v d:=
 RepF.rec (motive_1:=λf v d z=>f=true->Rep K H v d) (motive_2:=λf vs ds z=>f=true->Reps K H vs ds) (λz=>.non) (λb z=>.bl b) (λb z=>.int b) (λb z=>.str b) (λh z i e=>.lst (SqL.of h) (i e)) (λh z i e=>.tup (SqT.of h) (i e)) (λz e=>nomatch e) (λz e=>nomatch e) (λz=>.nil) (λz z i j e=>.cons (i e) (j e)) h rfl
mutual
def dM:PyData->Nat
 |.none | .bool _=>5
 |.int _=>1921
 |.str x=>(reprText x).length
 |.list xs | .tuple xs=>fW xs+3
 |.dict _=>8000
def fW:List PyData->Nat
 |[]=>0
 |x::xs=>dM x+2+fW xs
end
theorem jo:∀xs:List PyData,(PyData.shownAll xs).length=xs.length
 |[]=>by simp only[PyData.shownAll,List.length_nil]
 |x::xs=>by simp only[PyData.shownAll,List.length_cons,jo xs]
def Ey{H:Hp}{f:Bool}{v:V}{d:PyData}(h:RepF H f v d):d.showable=true->d.shown.length<=dM d:=
 RepF.rec (motive_1:=λz z d z=>d.showable=true->d.shown.length<=dM d) (motive_2:=λz z xs z=>PyData.showableAll xs=true->((PyData.shownAll xs).map (·.length)).sum + 2 * xs.length<=fW xs)
  (λz=>by simp only[PyData.shown,dM];decide +kernel)
  (λb z=>by cases b<;>simp only[PyData.shown,dM]<;>decide +kernel)
  (λi h=>by
    have h':i.natAbs.log2<1920:=by simpa[PyData.showable] using h
    simp only[PyData.shown,dM];exact int_text_len_1921 h')
  (λx z=>by simp only[PyData.shown,dM];exact Wn _)
  (λ{_ _ _ xs} _ hs ih h=>by
    have:=ih (by simpa only[PyData.showable] using h)
    have l:=listText_len_le (PyData.shownAll xs);rw[jo]at l;simp only[PyData.shown,dM]
    lia)
  (λ{_ _ _ xs} _ hs ih h=>by
    have:=ih (by simpa only[PyData.showable] using h)
    have l:=tupleText_len_le (PyData.shownAll xs);rw[jo]at l;simp only[PyData.shown,dM]
    lia)
  (λz z=>by simp only[PyData.shown,PyData.shownKv,dM];decide +kernel)
  (λ{_ i j} _ h=>by
    have h':i.natAbs.log2<1920/\j.natAbs.log2<1920:=by simpa[PyData.showable,PyData.showableKv] using h
    have l1:=int_text_len_1921 h'.1;have l2:=int_text_len_1921 h'.2;have l:=dictText_len_le (PyData.shownKv [(.int i,.int j)]);simp only[PyData.shown,dM];refine W0 l ?_;simp only[PyData.shownKv,PyData.shown,List.map_cons,List.map_nil,List.sum_cons,List.sum_nil,List.length_cons,List.length_nil,strLen_append];have l3:(Str.ofString ": ").length=2:=by decide +kernel
    have l3':(": ":Str).length=2:=by decide +kernel
    lia)
  (λz=>by simp only[PyData.shownAll,List.map_nil,List.sum_nil,List.length_nil,fW];lia)
  (λ{_ _ x _ xs} hx hs i1 i2 h=>by
    have h':x.showable=true/\PyData.showableAll xs=true:=by simpa[PyData.showableAll] using h
    have a:=i1 h'.1;have b:=i2 h'.2;simp only[PyData.shownAll,List.map_cons,List.sum_cons,List.length_cons,fW]
    lia)
  h
section
variable{X:Cx}
def RB:List V->Hp->VK->Prop:=λxs H Q=>∃f v d,xs=[v]/\RepF H f v d/\d.showable=true/\d.depth<=60/\dM d<=sizeLine/\Q (.str d.shown) H
def Dt(hg:X.A.guards=some [])(hu:X.A.units + 64<cLine):CallR X (.builtin "repr") RB:=by
 intro aaW s σ H xs us Q I r h;obtain⟨f,v,d,rfl,rd,ho,hd,hz,q⟩:=h;have hz':=W0 (Ey rd ho) hz;obtain⟨u,rfl,ru⟩:=vals1 r;cases rd with
 |non=>cases ru;exact P.repr_of_none ⟨.str _,H,I.tok _,⟨_,rfl⟩,(by simpa only[PyData.shown] using q)⟩
 |bl b=>cases ru;exact P.repr_of_bool ⟨.str _,H,I.tok _,⟨_,rfl⟩,(by simpa only[PyData.shown] using q)⟩
 |int i=>obtain⟨t,rfl⟩:=ru;exact P.repr_of_int (by simpa[PyData.showable] using ho) ⟨.str _,H,I.tok _,⟨_,rfl⟩,(by simpa only[PyData.shown] using q)⟩
 |str x=>obtain⟨t,rfl⟩:=ru;exact P.repr_of_str ⟨.str _,H,I.tok _,⟨_,rfl⟩,(by simpa only[PyData.shown] using q)⟩ (by simpa only[PyData.shown] using hz')
 | lst h hs=>
   cases ru;obtain⟨its,rv,⟨o,n,h1,h2,_,h3⟩,_⟩:=I.list (SqL.of h);obtain⟨as,ra⟩:=RepsF.reads I hs rv;simp only[PyData.shown]at hz' q;obtain⟨bs,hb,hk⟩:=RepsF.k I hs rv (by simpa only[PyData.showable] using ho) λt ht=>W0 (listText_mem_le ht) hz'
   simp only[PyData.depth]at hd;refine call_repr_slot (by lia) ⟨_,h1,h2⟩ F.slot_list_repr.toG ?_
   cases its with
   |nil=>cases ra;simp only[PyData.shownAll,listText_nil]at q;exact call_list_repr_empty ⟨o,h1,h2⟩ h1 h3 ⟨_,_,rfl,.str _,H,I.kept λz z e=>e,⟨_,rfl⟩,q⟩
   |cons x l=>exact call_list_reprK h1 h2 h3 (xO (.list h1 h2 h3 ra) (by simp only[PyData.depth]) hb).1 (by simpa using hk.length_eq) (λi y e=>hk.item i y (by simpa using e)) hg (λb z=>Clear.nil b) (by show X.A.units+1+_<_;lia) (λz z e=>e) (λh' u tk hk=>⟨_,_,rfl,.str _,H,I.kept hk,⟨_,rfl⟩,q⟩) hz'
 |tup h hs=>
   cases ru;obtain⟨its,rv,⟨o,h1,h2,n,h3⟩,_⟩:=I.tuple (SqT.of h);obtain⟨as,ra⟩:=RepsF.reads I hs rv;simp only[PyData.shown]at hz' q;obtain⟨bs,hb,hk⟩:=RepsF.k I hs rv (by simpa only[PyData.showable] using ho) λt ht=>W0 (tupleText_mem_le ht) hz'
   simp only[PyData.depth]at hd;refine call_repr_slot (by lia) ⟨_,h1,h2⟩ F.slot_tuple_repr ?_
   exact call_tuple_reprK h1 h2 h3 (xO (.tuple h1 h2 h3 ra) (by simp only[PyData.depth]) hb).1 hk hg (λb z=>Clear.nil b) (by show X.A.units+1+_<_;lia) (λz z e=>e) (λh' u tk hk=>⟨_,_,rfl,.str _,H,I.kept hk,⟨_,rfl⟩,q⟩) hz'
 |d0 h=>obtain⟨as,ra,nn⟩:=Es I h;cases ru;exact repr_of_reads' ra ho (λz=>nn) hg (by lia) (λz z e=>e) (λh' u tk hk=>⟨.str _,H,I.kept hk,⟨_,rfl⟩,q⟩) hz'
 |d1 h=>obtain⟨as,ra,nn⟩:=Et I h;cases ru;exact repr_of_reads' ra ho (λz=>nn) hg (by lia) (λz z e=>e) (λh' u tk hk=>⟨.str _,H,I.kept hk,⟨_,rfl⟩,q⟩) hz'
end
def UT(hc:CallR X (.type T) r)(hm:X.mg x=none)(ha:PA X (e::es) t)(hg:Gl X x:=by rfl)(hv:bootBuiltins x=some (.type T):=by decide +kernel)(hn:x≠"__name__":=by decide)(ai:(x==("__debug__":Str))=false:=by decide)
  (he:starEach (e::es) X.env=(false,eval e X.env)::starEach es X.env:=by rfl) (hpl:(backTo pos (starEach es X.env)).any (·.1)=false:=by rfl) :
  PE X (.Call (.Name x p) (e::es) [] pos) (tCB r t):=pe_callTy hc hg hm hv ha hn ai he hpl
def notStar:Expr->Bool
 |.Starred _ _=>false
 |_=>true
def aU(h:notStar e=true):starEach (e::es) env=(false,eval e env)::starEach es env:=by cases e<;>first | rfl | cases h
def zz(ha:PE X e te)(hr:PA X es t)(hs:notStar e=true:=by rfl):PA X (e::es) (tCons te t):=pa_cons ha hr (aU hs)
structure QI(X:Cx)(tg l:Expr)(wi:TI):Prop where
 h:PI X tg l wi
structure QA(X:Cx)(es:B8)(t:TA):Prop where
 h:PA X es t
def HF:QA X [] tNil:=⟨pa_nil⟩
def Rz(ha:PE X e te)(hr:QA X es t)(hs:notStar e=true:=by rfl):QA X (e::es) (tCons te t):=⟨zz ha hr.h hs⟩
section
variable{X:Cx}{j k:Nat}{ps:C3}{sp:Sp}{x:Str}{p pos:Pos}{e:Expr}{es:B8}{t:TA}{E:XK}
def Oz{x1}(h:QA X es t):PE X (.Tuple es x1 pos) (tTup t):=pe_tup h.h
def Cq(h:QA X es t):PE X (.List es pos) (tLst t):=pe_lst h.h
def wR(D:DefC X.prog X.w X.K X.mg X.base j x ps sp)(hr:Room k X.A)(hx:Passes (cG X.prog X.w) X E)(ha:QA X (e::es) t)(cq:j<=k:=by decide)(hg:Gl X x:=by rfl)(ai:(x==("__debug__":Str))=false:=by decide)
  (he:notStar e=true:=by rfl) (hpl:(backTo pos (starEach es X.env)).any (·.1)=false:=by rfl) :
  PE X (.Call (.Name x p) (e::es) [] pos) (tCall sp [] E t):=Kz D hr hx ha.h cq hg ai (aU he) hpl
def LR{id:String}{r:List V->Hp->VK->Prop}(hc:CallR X (.builtin id) r)(hm:X.mg x=none)(ha:QA X (e::es) t)(hg:Gl X x:=by rfl)(hv:bootBuiltins x=some (.builtin id):=by decide +kernel)(hn:x≠"__name__":=by decide)(ai:(x==("__debug__":Str))=false:=by decide)
  (he:notStar e=true:=by rfl) (hpl:(backTo pos (starEach es X.env)).any (·.1)=false:=by rfl) :
  PE X (.Call (.Name x p) (e::es) [] pos) (tCB r t):=UL hc hm ha.h hg hv hn ai (aU he) hpl
def Th(hc:CallR X (.type T) r)(hm:X.mg x=none)(ha:QA X (e::es) t)(hg:Gl X x:=by rfl)(hv:bootBuiltins x=some (.type T):=by decide +kernel)(hn:x≠"__name__":=by decide)(ai:(x==("__debug__":Str))=false:=by decide)
  (he:notStar e=true:=by rfl) (hpl:(backTo pos (starEach es X.env)).any (·.1)=false:=by rfl) :
  PE X (.Call (.Name x p) (e::es) [] pos) (tCB r t):=UT hc hm ha.h hg hv hn ai (aU he) hpl
def Rq{T name id:String}{r:V->List V->Hp->VK->Prop}{o:Expr}{to:TE}{apos ah:Pos}(pa:PlainAttrs T)(slot:Slot T name id)(hty:typeOf (.builtin id)=pure (.type "method_descriptor"))(hm:MtR X id r)(ho:PE X o to)(ha:QA X (e::es) t)
  (bq:attributeBase o name X.env (eval o X.env)=eval o X.env:=by rfl)
  (kb:((backTo ah (starEach (e::es) X.env)).all (fun x=>!x.1)&&(backToKw ah (keywordEach [] X.env)).all (fun x=>x.1.isSome)
   &&decide ((e::es).length+([]:List Keyword).length+(if ([]:List Keyword).isEmpty then 0 else 1)<30))=true:=by rfl)
  (fw:(apos.endLine==ah.line)=true:=by rfl) (hs:notStar e=true:=by rfl) (br:(backTo ah (starEach es X.env)).any (·.1)=false:=by rfl) :
  PE X (.Call (.Attribute o name apos) (e::es) [] ah) (tBM X.K T r to t):=pe_bm pa slot hty hm ho ha.h bq kb fw (aU hs) br
def El(hg:Gl X "range")(hm:X.mg "range"=none)(ha:QA X [a] ta)(hs:notStar a=true:=by rfl):QI X tg (.Call (.Name "range" p) [a] [] pos) (iRng1 ta):=⟨pi_range1 hg hm ha.h (aU hs)⟩
def Em(hg:Gl X "range")(hm:X.mg "range"=none)(ha:QA X [a,b] ta)(hs:notStar a=true:=by rfl)(ij:notStar b=true:=by rfl):QI X tg (.Call (.Name "range" p) [a,b] [] pos) (iRng2 ta):=
 ⟨pi_range2 hg hm ha.h ((aU hs).trans (by rw[aU ij];rfl)) (aU ij)⟩
end
def yp{α:Type}(P:α->Prop):List α->Prop
 |[]=>True
 |a::l=>P a/\yp P l
theorem nF:∀ {l:List α},yp P l->∀ a∈l,P a
 |[],_,_,h=>nomatch h
 |b::l,h,a,hm=>by
   rcases Wz.mp hm with rfl | hm
   ·exact h.1
   ·exact nF h.2 a hm
theorem mem_of_lookup:∀ {l:List (Str×β)},l.lookup y=some c->(y,c)∈l
 |[],h=>by cases h
 | (z,d)::l,h=>by
   rw[YS]at h;split at h
   ·rename_i e;have e':y=z:=by simpa using e
    cases h;rw[e'];exact WP ..
   ·exact W6 _ (mem_of_lookup h)
def Ae{cl cells:A9}(h:yp (λp=>cells.lookup p.1=some p.2) cl):∀y c,cl.lookup y=some c->cells.lookup y=some c:=λy c e=>nF h (y,c) (mem_of_lookup e)
def J3:NameKind->Bool
 |.cell | .free=>true
 |_=>false
def yQ{names:List (Str×NameKind)}{cl:A9}(h:(names.all λp=>!J3 p.2 || (cl.lookup p.1).isSome)=true):∀y,(names.lookup y=some .cell\/names.lookup y=some .free)->∃c,cl.lookup y=some c:=λy e=>by
 have hh:=Yh.mp h;rcases e with e | e
 ·have:=hh _ (mem_of_lookup e);simp only[J3,Bool.not_true,Bool.false_or]at this;exact YG.mp this
 ·have:=hh _ (mem_of_lookup e);simp only[J3,Bool.not_true,Bool.false_or]at this;exact YG.mp this
def yO{js:C0}{fr:C3}{P:Nat->Str->Prop}(h:yp (λp:Nat×Str=>P p.1 p.2) (js.zip fr)):∀(k j:Nat) (y:Str),js[k]?=some j->fr[k]?=some y->P j y:=λk j y h1 h2=>by refine nF h (j,y) (Zz.mpr ⟨k,?_⟩);rw[List.getElem?_zip_eq_some];exact⟨h1,h2⟩
section
variable{X:Cx}
def oW:V->Bool
 |.bl b=>b
 |.int i=>i != 0
 |_=>false
def scS:V->Bool
 |.bl _=>true
 |.int _=>true
 |_=>false
def Jd(h:scS v=true)(r:RelV v u)(q:Q (oW v) s):wq prog w A (truthy u) Q E s:=by
 cases v with
 |bl b=>cases r;exact Yn q
 |int i=>obtain⟨t,rfl⟩:=r;exact PyProof.Rows.truthy_int q
 |_=>cases h
def range_all{xs:List V}{tr:Nat->Bool}(h:∀(i:Nat) (x:V),xs[i]?=some x->tr i=oW x):(List.range xs.length).all tr=xs.all oW:=by
 rw[WW,Yh,Yh];constructor
 ·intro q x hx;obtain⟨i,hi,e⟩:=Xv.mp hx;have:=q i (Wr.mpr hi);rw[h i x (by rw[Wl hi,e])]at this
  exact this
 ·intro q i hi;have hi':=Wr.mp hi;rw[h i xs[i] (Wl hi')];exact q _ (XX hi')
def Ub{xs:List V}{its:B5}(rv:Vals xs its)(hs:∀x∈xs,scS x=true):TruthOf prog w A (λi v=>its.toArray[i]?=some v) (λi=>oW (xs[i]?.getD .non)):=by
 intro i v s Q E hP hQ;have e:its[i]?=some v:=by simpa using hP
 have hl:=rv.length;have hi:i<xs.length:=by rw[hl];exact (Wj.mp e).1
 obtain⟨u,e2,r⟩:=rv.get (Wl hi);rw[e]at e2;cases e2;refine Jd (hs _ (XX hi)) r ?_;have hQ':Q (oW (xs[i]?.getD V.non)) s:=hQ;rw[Wl hi]at hQ';exact hQ'
def Jr(hh:X.A.handled=none):CallR X (.builtin "all") (λvs H Q=>∃l xs,vs=[.ref l]/\H l=some (.lst xs)/\(∀x∈xs,scS x=true)/\Q (.bl (xs.all oW)) H):=by
 intro aaW s σ H vs us Q I r h;obtain⟨l,xs,rfl,hH,hs,q⟩:=h;obtain⟨u,rfl,ru⟩:=vals1 r;cases ru;obtain⟨its,rv,p,hz⟩:=I.list (SqL.of (K:=X.K) hH);have hl:l<s.z:=by obtain⟨o,n,e,_⟩:=p;exact Wo e
 refine call_all_walk (aaq p.isList ?_);refine⟨s.z,[s.z,l],[s.z],its.toArray.size,λi v=>its.toArray[i]?=some v,λi h=>h.IsListIter s.z l i/\h.IsList l its.toArray,λi=>oW (xs[i]?.getD .non),rfl,Walks.list (A:=X.A.in1) hh s.z l (WL hl) its.toArray,⟨⟨_,Wu _ rfl,rfl,rfl⟩,p.isList.at λo e=>Wi _ e⟩,Ub rv hs,λh' tk hk=>?_⟩
 refine⟨.bl (xs.all oW),H,I.kept λb o e=>hk b o (λz=>?_) (Wi _ e),?_,q⟩
 ·have:b=s.z:=by simpa using z
  exact absurd (Wo e) (by rw[this];exact Yy _)
 ·rw[show its.toArray.size=xs.length by rw[WX];exact rv.length.symm]
  show Value.bool _=Value.bool _;rw[range_all λi x e=>by rw[e];rfl]
theorem ww:∀ {bs:List Bool}{its:B5},Vals (bs.map V.bl) its->its=bs.map Value.bool
 |[],_,r=>by rw[Zx]at r;cases r;rfl
 |b::bs,_,r=>by
   rw[W2]at r;cases r with
   |cons r1 r2=>cases r1;rw[ww r2];rfl
def eqB(b:Bool):Value->Bool
 |.bool c=>c==b
 |_=>false
theorem wH(b:Bool):∀bs:List Bool,(bs.map Value.bool).countP (eqB b)=bs.countP (·== b)
 |[]=>rfl
 |c::bs=>by rw[W2,List.countP_cons,List.countP_cons,wH b bs];rfl
def Kg:MtM X "list.count" (λx vs H Q=>∃(l:Addr) (bs:List Bool) (b:Bool),x=.ref l/\vs=[.bl b]/\H l=some (.lst (bs.map V.bl))/\Q (.int (bs.countP (·== b):Nat)) H):=by
 intro aaW s σ H x vs v us Q I rx rv h;obtain⟨l,bs,b,rfl,rfl,hH,q⟩:=h;cases rx;obtain⟨u,rfl,ru⟩:=rv.one;cases ru;obtain⟨z,its,n,r,hl,e⟩:=I.lstM hH;have ei:=ww r;subst ei;refine aah F.slot_list_count ⟨_,e,rfl⟩ F.entry_list_count (F.args_list_count_2 _ _) (PySem.SeqAt.list_countAt l (bs.map Value.bool).toArray n none #[] (.bool b) (eqB b)) ⟨e,λy hy=>?_,?_⟩
 ·have hy':y∈bs.map Value.bool:=by simpa using hy
  obtain⟨c,_,rfl⟩:=WQ.mp hy';exact PySem.SeqAt.EqAt.bool_bool c b
 ·refine⟨.int _,H,I.tok _,⟨s.toks,?_⟩,q⟩;show Value.int (((bs.map Value.bool).toArray.toList.countP (eqB b):Nat):Int) _=_;rw[show (bs.map Value.bool).toArray.toList=bs.map Value.bool from rfl,wH]
def Kh:MtM X "list.index" (λx vs H Q=>∃(l:Addr) (bs:List Bool) (b:Bool) (j:Nat),x=.ref l/\vs=[.bl b]/\H l=some (.lst (bs.map V.bl))/\bs[j]?=some b/\(∀m c,m<j->bs[m]?=some c->(c==b)=false)/\j<1000/\Q (.int (j:Nat)) H):=by
 intro aaW s σ H x vs v us Q I rx rv h;obtain⟨l,bs,b,j,rfl,rfl,hH,hj,hno,h1,q⟩:=h;cases rx;obtain⟨u,rfl,ru⟩:=rv.one;cases ru;obtain⟨z,its,n,r,hl,e⟩:=I.lstM hH;have ei:=ww r;subst ei;obtain⟨lt,ej⟩:=Wj.mp hj;have lt':j<(bs.map Value.bool).toArray.size:=by simpa using lt
 refine aah F.slot_list_index ⟨_,e,rfl⟩ F.entry_list_index (F.args_list_index_2 _ _) (PySem.SeqAt.list_indexAt l (bs.map Value.bool).toArray n none #[] (.bool b) (eqB b) j lt' (by lia) ?_ ?_) ⟨e,λy hy=>?_,?_⟩
 ·simp[eqB,ej]
 ·intro m hm lm;have hm':m<bs.length:=by simpa using hm
  have:=hno m bs[m] lm (Wl hm');simpa[eqB] using this
 ·have hy':y∈bs.map Value.bool:=by simpa using hy
  obtain⟨c,_,rfl⟩:=WQ.mp hy';exact PySem.SeqAt.EqAt.bool_bool c b
 ·exact⟨.int _,H,I.tok _,⟨_,rfl⟩,q⟩
def Tg(h:X.mg x=some (.int i t))(hg:Gl X x:=by rfl)(hd:(x==("__debug__":Str))=false:=by decide):PE X (.Name x pos) (tC (.int i)):=pe_glob hg h ⟨t,rfl⟩ hd
theorem tO:∀{l:List α},(∀x∈l,f x=g x)->l.filterMap f=l.filterMap g
 |[],_=>rfl
 |a::l,h=>by rw[Yr,Yr,h a (WP ..),tO λx hx=>h x (W6 _ hx)]
def KJ(xs:B5):((List.range xs.length).filterMap λ(m:Nat)=>xs.toArray[(((xs.length:Int)-1)+(m:Int)*(-1)).toNat]?)=xs.reverse:=by
 have e:(List.range xs.length).filterMap (λ(m:Nat)=>xs.toArray[(((xs.length:Int)-1)+(m:Int)*(-1)).toNat]?)=(List.range xs.length).filterMap (λ(m:Nat)=>xs.reverse[m]?):=by
  refine tO λm hm=>?_
  have hm':=Wr.mp hm;rw[List.getElem?_reverse hm'];have:(((xs.length:Int)-1)+(m:Int)*(-1)).toNat=xs.length-1-m:=by lia
  rw[this];simp
 rw[e];have q:=pick_run xs.reverse.toArray 0 xs.length;rw[List.filterMap_map]at q;have e2:(List.range xs.length).filterMap (λ(m:Nat)=>xs.reverse[m]?)=(List.range xs.length).filterMap ((λx=>xs.reverse.toArray[x]?) ∘ λx=>0+x):=tO λm z=>by simp
 rw[e2,q];show List.take xs.length (List.drop 0 xs.reverse)=xs.reverse;rw[List.drop_zero];exact XD (by simp)
def uq{E:A3}{n:Nat}{Q:Int×Int×Nat->B2}(hs:s.heap.IsSliceOf sl .none .none (.int (-1) tk))(h:Q (((n:Int)-1),-1,n) s):
  wq prog w A (Builtin.Slice.sliceApplied (.ref sl) (pure (n:Int))) Q E s:=by
 obtain⟨os,hos,hcs,hds⟩:=id hs;unfold Builtin.Slice.sliceApplied Builtin.Slice.sliceFields;refine Wg (Wg (Yb hos hds (x:=.none) rfl (Wg (Yb hos hds (x:=.none) rfl (Wg (Yb hos hds (x:=.int (-1) tk) rfl (Wh ?_)))))));refine Wg (slicePart_int ?_);show wpAny _ _ (if ((-1:Int)==0)=true then _ else _) _ _ s
 rw[Ww (by decide)]
 refine Wg (slicePart_none (Wg (slicePart_none (Wg (Wh ?_)))));have e:Builtin.Slice.slicePlaces ((n:Int)-1) (-1) (-1)=n:=by
  unfold Builtin.Slice.slicePlaces;rw[Ww (by decide),show -(-1:Int)=1 from rfl,Int.ediv_one]
  split<;>lia
 show wpAny _ _ (pure (((n:Int)-1),(-1:Int),Builtin.Slice.slicePlaces ((n:Int)-1) (-1) (-1))) _ _ s;rw[e];exact Wh h
def rM{E:A3}{its:B5}{Q:A3}(ht:IsTup s.heap t its.toArray)(hs:s.heap.IsSliceOf sl .none .none (.int (-1) tk))
  (h:Q (.ref s.z) { s with heap:=s.heap.push { cls:=.type "tuple",data:=.seq its.reverse.toArray } }) (hsz:its.length<=sizeLine):wq prog w A (getItem (.ref t) (.ref sl)) Q E s:=by
 obtain⟨os,hos,hcs,hds⟩:=id hs;have hTs:s.TypeIs (.ref sl) "slice":=⟨os,hos,hcs⟩;unfold getItem
 try with_reducible refine Xw ?_
 first | refine Wg (Wh ?_) | skip
 refine Wg (wpAny_sequenceKey ht.typeIs (by decide) ?_)
 refine Wg (Xp (name:=Str.ofString "__getitem__") ht.typeIs aaA
  (Xl aaA ht.typeIs entry_tuple_getitem ?_ (args_tuple_getitem _ _)))
 show wpAny _ _ (Builtin.Tuple.tupleItemsOf (.ref t)>>=_) _ _ s;refine Wg (tupleItemsOf_ ht ?_);refine Wg (aaH hTs ?_);rw[Wq (by decide)]
 rw[show its.toArray.size=its.length from by simp]
 refine Wg (uq hs ?_);have hno:¬ ((((its.length:Int)-1)==0&&(-1:Int)==1&&its.length==its.length)=true):=by simp
 show wpAny _ _ (if ((((its.length:Int)-1)==0&&(-1:Int)==1&&its.length==its.length)=true) then _ else _) _ _ s
 rw[Ww hno,KJ];have i3:sizeOk (.seq its.reverse.toArray):=by show its.reverse.toArray.size<=sizeLine;rw[WX,List.length_reverse];exact hsz
 first
  |exact Wg (m:=Builtin.Tuple.tupleExact _) (Xb (Wh ⟨_,rfl,Wh h⟩) i3)
  |exact Wg (m:=Builtin.Tuple.tupleExact _) (Xb (Wg (Wh (Wh ⟨_,rfl,Wh h⟩))) i3)
  |exact Wg (Wg (m:=Builtin.Tuple.tupleExact _) (Xb (Wh (Wh ⟨_,rfl,Wh h⟩)) i3))
  |exact Wg (Wg (m:=Builtin.Tuple.tupleExact _) (Xb (Wh ⟨_,rfl,Wh h⟩) i3))
def U5(te:TE):TE:=λσ H Q=>te σ H λx H1=>∃a xs,x=.ref a/\H1 a=some (.tup xs)/\∀p,H1 p=none->Q (.ref p) (upd H1 p (.tup xs.reverse))
def Ru(he:PE X e te):PE X (.Subscript e (.Slice none none (some (.UnaryOp .USub (.Constant (.int 1) j p3) p4)) p2) pos) (U5 te):=by
 walk_at "f";refine Subscript_ (thn (he aaW s σ H _ I h) λv s1 ⟨x,H1,I1,r1,q1⟩=>?_)
 obtain⟨a,xs,rfl,hx,q⟩:=q1;cases r1;refine wpAny_Slice ?_;rw[evalPart_none];refine Wh (Wh ?_);rw[evalPart_some];have hu:PE X (.UnaryOp .USub (.Constant (.int 1) j p3) p4) (tUn (rU λi=>.int (-i)) (tC (.int 1))):=pe_un un_neg pe_int
 refine thn (hu aaW s1 σ H1 (λv H'=>v=.int (-1)/\H'=H1) I1 ⟨1,rfl,rfl,rfl⟩) λu s2 ⟨y,H2,I2,r2,ey,eh⟩=>?_
 subst ey eh;obtain⟨tk,rfl⟩:=r2;have I3:Inv X aaW σ H2 { s2 with heap:=s2.heap.push { cls:=.type "slice",data:=.fields #[.none,.none,.int (-1) tk] } }:=I2.kept (t':=s2.toks) λb ob q=>Wi _ q
 obtain⟨its,r,ht,hz⟩:=I3.tuple (SqT.of (K:=X.K) hx);refine tail_any (ops:=[.ref a,.ref s2.z]) ht.typeIs PyProof.Rows.slot_tuple_getitem.lookup (rM ht (Heap.IsSliceOf.new ..) ?_ (by rw[<-r.length];exact hz)) (by with_unfolding_all rfl)
 refine⟨.ref _,_,I3.laid (t':=s2.toks) (o:=.tup xs.reverse) (λb ob q=>Wi _ q) (Wn _) ?_,rfl,q _ (I3.hok.fresh (Wn _))⟩
 exact⟨by rw[List.length_reverse];exact hz,_,r.reverse,aaN _ _⟩
end
structure MethAt(K:B0)(C:Addr)(x qual:Str)(st:Stmt):Prop where
 ex:∃f fd,Fun K x qual st f fd/\W.findIn K (.ref C) x=some (some (.ref f))/\W.isFn K (.ref f)=true
structure MethC(P:C5)(w:World)(K:B0)(mg:A4)(base:Heap)(k:Nat)(C:Addr)(x:Str)(ps:C3)(sp:Sp):Prop where
 ex:∃f fd,FnOk P w K mg base (cG P w) k f fd ps sp/\Binds K fd ps []/\W.keepIn K (.ref f)=true/\W.findIn K (.ref C) x=some (some (.ref f))/\W.isFn K (.ref f)=true
def Hk{K:B0}{C:Addr}{x qual:Str}{st:Stmt}{f:Addr}{oc:Value}{od an:B3}{bp:Array B1}{kV doc pm ae ct:Value}
  (a:W.findIn K (.ref C) x=some (some (.ref f))) (n:W.isFn K (.ref f)=true) (l:K.lookup f=some ⟨oc,od,.func (W.fnOf x qual (defArgs st) (defBody st) (defScope st) .none kV doc pm an ae ct),bp⟩) (c:W.codeIn K ae qual=true) (k:W.keepIn K (.ref f)=true):MethAt K C x qual st:=
 ⟨f,_,fun_mk l c k,a,n⟩
section
variable{P:C5}{w:World}{K:B0}{mg:A4}{base:Heap}{k:Nat}{C:Addr}{x qual:Str}{N ps:C3}{sp:Sp}{st:Stmt}
def Uz(F:Fun K x qual st f fd)(S:FnScope N ps (defScope st))(len:∀ vs H Q E,sp vs H Q E->vs.length=ps.length)
  (af:∀(ae:Value) (A:Around) (outer:C4) (s:Shared) (H:Hp) (vs:List V) (Q:VK) (E:XK),Room k (A.deeper (envOfC qual (defScope st) s.z f ae))->sp vs H Q E->
    ∃t,PSs (bV P w K mg base N qual (defScope st) f ae A outer s H E) (defBody st) t/\t { nx:=λy H'=>Q .non H',rt:=Q } (start N vs) H):FnOk P w K mg base (cG P w) (k+1) f fd ps sp:=by
 obtain⟨oc,od,kV,doc,pm,an,ae,ct,bp,rfl,l,c⟩:=F.ex;exact fn_of l c S len (af ae)
end
section
variable{X:Cx}{j k:Nat}{C:Addr}{ps:C3}{sp:Sp}{x:Str}{p pos:Pos}{e:Expr}{es:B8}{t:TA}{E:XK}
def KC(D:MethC X.prog X.w X.K X.mg X.base j C "__init__" ps sp)(mk:W.makesIn X.K C=true)(kc:W.keepIn X.K (.ref C)=true)(hm:X.mg x=some (.ref C))(hr:Room k X.A)(hx:Passes (cG X.prog X.w) X E)(ha:QA X (e::es) t)(cq:j+1<=k:=by decide)(hg:Gl X x:=by rfl)(ai:(x==("__debug__":Str))=false:=by decide)
  (he:notStar e=true:=by rfl) (hpl:(backTo pos (starEach es X.env)).any (·.1)=false:=by rfl) :
  PE X (.Call (.Name x p) (e::es) [] pos) (tMake C sp [] E t):=by
 obtain⟨f,fd,F,b,kp,a,n⟩:=D.ex;exact pe_make ⟨mk,a,n,kc⟩ F (hr.mono cq) hg hm b .nil hx ha.h ai (aU he) hpl
end
open PyProof.Rows
section
variable{X:Cx}{CX:CXT}{k:Nat}{f C:Addr}{fd:FuncData}{ps:C3}{sp:Sp}{E:XK}
def Pa(F:FnOk X.prog X.w X.K X.mg X.base CX k f fd ps sp)(hr:Room k X.A.in1)(hb:Binds X.K fd ps [])(hx:Passes CX X E)
  (I:Inv X aaW σ H s) (r:Vals vs us) (h:sp vs H Q E):wpAny X.M X.A.in1 (call (.ref f) us) (EP X aaW σ Q) X.xe s:=by
 have hl:(us++[]).length=ps.length:=by rw[YK,<-r.length];exact F.len _ _ _ _ h
 have hl':us.length=ps.length:=by rw[YK]at hl;exact hl
 have bb:=hb s us I.kIn hl;rw[YK]at bb;refine aae (Yu (F.run X.A.in1 X.stack s H ⟨us,[]⟩ us vs Q E hr ⟨(show X.A.in1.frames=some X.stack from I.ok.frames),I.ok.mod,I.bs,W0 I.ok.bsz I.sz,I.stack,I.stkFree,I.hok,I.bare⟩ bb r h) λr s' hq=>?_)
 cases r with
 |error e=>exact hx aaW σ H s e s' I hq
 |ok fl=>
   cases fl with
   |ret u=>exact I.after hq
   |next=>exact False.elim hq
   |brk=>exact False.elim hq
   |cont=>exact False.elim hq
def Gg(D:MethC X.prog X.w X.K X.mg X.base j C "__len__" ps sp)(hr:Room (j+1) X.A)(hx:Passes (cG X.prog X.w) X E):
  CallR X (.builtin "len") (λvs H Q=>∃x dx fs,vs=[.ref x]/\H x=some (.ins C dx fs)/\sp [.ref x] H (λv H2=>∃n:Int,v=.int n/\(0<=n/\n<2^63)/\Q (.int n) H2) E):=by
 intro aaW s σ H vs us Q I r h;obtain⟨x,dx,fs,rfl,ck,q⟩:=h;obtain⟨f,fd,F,b,kp,a,n⟩:=D.ex;obtain⟨u,rfl,ru⟩:=vals1 r;cases ru;obtain⟨mA,O,_⟩:=ins_get I.hok ck;obtain⟨od,IA,_⟩:=O.look;refine Y9 PySem.kind_len PySem.plain_len PySem.entry_len (PySem.args_len1 _) ?_;unfold Builtin.«len»
 refine Wg (m:=oneArg "len" _) (Wh ?_);refine Wg (m:=callSpecial? (.ref x) (Str.ofString "__len__")) (W.special_fn I.kIn IA a (Zi.mp n) (W5 (Pa (vs:=[.ref x]) F hr.in1 b hx I (.cons rfl .nil) q) (λw' s' hw=>?_) λz z y=>y))
 obtain⟨v,H2,I2,rv,m,rfl,⟨h0,h1⟩,qq⟩:=hw;obtain⟨t,rfl⟩:=rv;refine Wg (Xw (Wh ?_));refine Wg (wpAny_letGo ?_);show wpAny _ _ (if m<0 then _ else _) _ _ _
 rw[Ww (by lia)]
 show wpAny _ _ (if m ≥ 2^63 then _ else _) _ _ _
 rw[Ww (by lia)]
 exact Wg (wpAny_mkInt (Wh ⟨_,rfl,.int m,H2,I2.tok _,⟨_,rfl⟩,qq⟩))
end
theorem cI:∀ (names:List (Str×NameKind)) (n:Nat) (acc:A9),cellsFrom n names acc=cellsFrom n names []++acc
 |[],_,_=>rfl
 |(name,kind)::r,n,acc=>by
   unfold cellsFrom;split
   ·rw[cI r (n+1) ((name,n)::acc),cI r (n+1) [(name,n)],Ym];rfl
   ·exact cI r n acc
def Hq
  (hQ:Q (newEnv scope s.z globals (cellsFrom (s.z+1) scope.names cl) qual none .none (some env) builtinsNs) { s with heap:=pushCells (s.heap.push { cls:=.type "dict",data:=.dict #[] }) scope.names }) :
  wpAny M A (newFunctionEnv scope globals cl [] qual none .none (some env)) Q E s:=by
 simp only[newFunctionEnv,Option.isSome_some,if_true];refine Wg (wpAny_alloc ?_);refine Wg (wpAny_layCells _ (λname kind cells=>by cases hkc:kind==NameKind.cell<;>simp[hkc]) _ _ _ _ ?_)
 rw[show ({ s with heap:=s.heap.push { cls:=.type "dict",data:=.dict #[] } }:Shared).heap.objs.size=s.z+1 from Xr ..]
 refine Wg ?_;rw[List.forIn_nil];exact Wh (Wh hQ)
abbrev Cx.aR(X:Cx)(aaW:A8)(scope:Scope)(cs:A9)(Nc:C3)(fp:B7)(C:Addr)(s₂:Shared)(H₂:Hp):Cx where
 prog:=X.prog
 w:=X.w
 K:=X.K
 mg:=X.mg
 base:=X.base
 A:=X.A
 N:=Nc
 s₀:=s₂
 H₀:=H₂
 env:=compEnvC scope cs C X.env
 outer:=X.stack
 stack:=X.stack
 ex:=fp
 fn:=λy=>scope.names.lookup y==some .cell
 calm:=X.calm
 pn:=X.pn++aaW
 xe:=λ_ _=>False
structure CompG(X:Cx)(scope:Scope)(cl:A9)(own:C3)(js:C0)(fr:C3):Prop where
 kind:scope.kind=.function
 names:∀y∈scope.names,y.2=.local->scope.names.lookup y.1=some .local
 clos:closureFor scope X.env=pure cl
 sub:∀y c,cl.lookup y=some c->X.env.cells.lookup y=some c
 has:∀(m:Nat) y,((relabel scope X.env).names.lookup y=some .cell\/(relabel scope X.env).names.lookup y=some .free)->∃c,(cellsFrom m scope.names cl).lookup y=some c
 nd:(own++fr).Nodup
 len:js.length=fr.length
 newc:∀(m:Nat) y c,(cellsFrom m scope.names []).lookup y=some c->scope.names.lookup y=some .cell
 oldc:∀y c,cl.lookup y=some c->scope.names.lookup y≠some .cell
 fre:∀(k j:Nat) (y:Str),js[k]?=some j->fr[k]?=some y->X.N[j]?=some y/\(X.env.scope.names.lookup y=some .cell\/X.env.scope.names.lookup y=some .free)/\((relabel scope X.env).names.lookup y=some .cell\/(relabel scope X.env).names.lookup y=some .free)/\∃c,cl.lookup y=some c
theorem nZ:∀ {l m:List (Str×α)},(l++m).lookup y=some c->l.lookup y=some c\/(l.lookup y=none/\m.lookup y=some c)
 |[],_,h=>.inr ⟨rfl,h⟩
 |(k,v)::r,m,h=>by
   rw[ZP,YS]at h;rw[YS];split at h
   ·exact .inl h
   ·exact nZ h
theorem kW:∀ {l m:List (Str×α)},l.lookup y=none->(l++m).lookup y=m.lookup y
 |[],_,_=>rfl
 |(k,v)::r,m,h=>by
   rw[YS]at h;rw[ZP,YS];split at h
   ·cases h
   ·exact kW h
section
variable{X:Cx}{aaW:A8}{σ:St}{H:Hp}{s:Shared}{scope:Scope}{cl:A9}{own:C3}{js:C0}{fr:C3}{fp:B7}{C m:Addr}
def Jy{hh:Heap}(T:CompG X scope cl own js fr)(I:Inv X aaW σ H s)(f:∀ b∈fp,FpOk X aaW H b)(cn:∀ b∈fp,b<s.z)(hC:s.z<=C)(hm:m=hh.objs.size)(ly:s.z<=m):
  (X.aR aaW scope (cellsFrom m scope.names cl) (own++fr) fp C s H).Ok:=by
 have ok:CellsOk (pushCells hh scope.names) m (cellsFrom m scope.names []):=by
  have:=cellsFrom_ok scope.names hh m [] ⟨λx x hm=>(nomatch hm),List.Pairwise.nil⟩ (by rw[hm];exact Wn _)
  rw[<-hm]at this;exact this
 have hold:∀y c,cl.lookup y=some c->c<s.z:=λy c e=>by obtain⟨v,q⟩:=I.cell y c (T.sub _ _ e);exact q.lt
 have lh:∀y c,(cellsFrom m scope.names cl).lookup y=some c->(m<=c/\(cellsFrom m scope.names []).lookup y=some c)\/(cl.lookup y=some c/\c<s.z):=λy c e=>by
  rw[cI]at e;rcases nZ e with z | ⟨_,z⟩
  ·exact .inl ⟨(ok.empty _ _ (XM z)).2,z⟩
  ·exact .inr ⟨z,hold _ _ z⟩
 refine⟨I.ok.mod,T.kind,I.ok.glob,I.ok.blt,hC,λy z c h1 h2=>?_,λy h=>T.has m y h,λy c h1 h2=>?_,I.ok.hd,I.ok.frames,.inl rfl,λb hb=>⟨WL (Wt (cn b hb) hC),λy c h=>?_⟩,λb o e=>I.bs b o e,W0 I.ok.bsz I.sz,λb o e hb=>?_,λb hb hm'=>?_,I.stack,I.stkFree⟩
 ·rcases lh _ _ h1 with ⟨a1,a2⟩ | ⟨a1,a2⟩
  ·rcases lh _ _ h2 with ⟨b1,b2⟩ | ⟨b1,b2⟩
   ·exact name_of_addr ok.apart (XM a2) (XM b2)
   ·exact absurd (Wt b2 ly) (X7.mpr a1)
  ·rcases lh _ _ h2 with ⟨b1,b2⟩ | ⟨b1,b2⟩
   ·exact absurd (Wt a2 ly) (X7.mpr b1)
   ·exact I.ok.inj y z c (T.sub _ _ a1) (T.sub _ _ b1)
 ·rcases lh _ _ h2 with ⟨a1,a2⟩ | ⟨a1,a2⟩
  ·exact W0 ly a1
  ·exact absurd (by simpa using h1) (T.oldc _ _ a1)
 ·rcases lh _ _ h with ⟨a1,a2⟩ | ⟨a1,a2⟩
  ·exact λz=>absurd (Wt (cn b hb) ly) (X7.mpr (z ▸ a1))
  ·exact (f b hb).2.2.2.2.1 y c (T.sub _ _ a1)
 ·rcases (f b hb).2.2.2.1 with z | z
  ·exact I.ok.noex b o e z
  ·exact absurd (Wt (Wo e) I.ok.bsz) (X7.mpr z)
 ·rcases Wz.mp (I.stkSub b hm') with z | z
  ·exact (f b hb).2.1 z
  ·exact (f b hb).2.2.1 z
def Dz(T:CompG X scope cl own js fr)(I:Inv X aaW σ H s)(f:∀ b∈fp,FpOk X aaW H b)(cn:∀ b∈fp,b<s.z)
  (k:∀b o,s.heap.get? b=some o->h'.get? b=some o) (ha:s.z<=acc) (hC:s.z<=C) (ay:C≠acc) (hm:m=hh.objs.size) (ly:s.z<=m) (hCm:C<m) (ham:acc<m) (hh':h'=pushCells hh scope.names) (ob:ObjOk X.prog X.w (upd H acc ho) h' acc ho) (ns:h'.Ns C mm) :
  Inv (X.aR aaW scope (cellsFrom m scope.names cl) (own++fr) fp C s H) [] (List.replicate own.length none++pick js σ) (upd H acc ho) { s with heap:=h',toks:=t' }:=by
 have ok:CellsOk (pushCells hh scope.names) m (cellsFrom m scope.names []):=by
  have:=cellsFrom_ok scope.names hh m [] ⟨λx x hm=>(nomatch hm),List.Pairwise.nil⟩ (by rw[hm];exact Wn _)
  rw[<-hm]at this;exact this
 have hold:∀y c,cl.lookup y=some c->c<s.z:=λy c e=>by obtain⟨v,q⟩:=I.cell y c (T.sub _ _ e);exact q.lt
 have lh:∀y c,(cellsFrom m scope.names cl).lookup y=some c->(m<=c/\h'.IsCell c none)\/(cl.lookup y=some c/\c<s.z):=λy c e=>by
  rw[cI]at e;rcases nZ e with z | ⟨_,z⟩
  ·have:=ok.empty _ _ (XM z);exact .inl ⟨this.2,by rw[hh'];exact this.1⟩
  ·exact .inr ⟨z,hold _ _ z⟩
 have hn:H acc=none:=I.hok.fresh ha;have fC:H C=none:=I.hok.fresh hC;refine⟨Jy T I f cn hC hm ly,rfl,I.bare,Un.laid k ha hn,⟨mm,ns,λi y v h1 h2 h3=>?_⟩,λy c e=>?_,by show upd H acc _ C=none;rw[upd_ne ay];exact fC,λy c e=>?_,λp hp=>?_,I.hok.laid k ha ob,?_⟩
 ·have h1:(own++fr)[i]?=some y:=h1;by_cases hi:i<own.length
  ·rw[WD (by rw[XN];exact hi),X6]at h2
   split at h2<;>cases h2
  ·rw [List.getElem?_append_right (by lia)] at h1
   rw[Xn (by rw[XN];lia),XN]at h2
   unfold pick at h2;rw[WM]at h2;cases hj:js[i-own.length]? with
   |none=>rw[hj]at h2;cases h2
   | some j=>
     rw[hj]at h2;have l9:(σ[j]?).getD none=some v:=Ws h2;have h2'':σ[j]?=some (some v):=by
      cases z:σ[j]? with
      |none=>rw[z]at l9;cases l9
      |some w=>rw[z]at l9;exact congrArg some l9
     obtain⟨g1,g2,g3,c,gc⟩:=T.fre _ j y hj h1;obtain⟨mX,_,hl⟩:=I.loc;have vis:Vis X.env.scope y:=g2.elim (λz=>.inr (.inl z)) λz=>.inr (.inr z)
     obtain⟨u,r,q⟩:=hl j y v g1 h2'' vis;refine⟨u,r,.inr ⟨g3,c,?_,?_⟩⟩
     ·show (cellsFrom m scope.names cl).lookup y=some c;rw[cI];cases z:(cellsFrom m scope.names []).lookup y with
      |none=>rw[kW z];exact gc
      |some c'=>exact absurd (T.newc m y c' z) (T.oldc y c gc)
     ·have hc':=T.sub _ _ gc;rcases q with ⟨q,_⟩ | ⟨_,c2,e2,z⟩
      ·have q:X.env.scope.names.lookup y=some .local:=q;rcases g2 with g2 | g2<;>(rw[g2]at q;cases q)
      ·rw[hc']at e2;cases e2;exact z.keeps k
 ·rcases lh y c e with ⟨_,z⟩ | ⟨z,_⟩
  ·exact⟨_,z⟩
  ·obtain⟨v,q⟩:=I.cell y c (T.sub _ _ z);exact⟨v,q.keeps k⟩
 ·rcases lh y c e with ⟨z,_⟩ | ⟨z,lt⟩
  ·show upd H acc _ c=none;rw[upd_ne (λ(q:c=acc)=>absurd ham (X7.mpr (q ▸ z)))]
   exact I.hok.fresh (W0 ly z)
  ·show upd H acc _ c=none;rw[upd_ne (λ(q:c=acc)=>absurd lt (X7.mpr (q ▸ ha)))]
   exact I.freeC y c (T.sub _ _ z)
 ·have hp':p∈X.pn++aaW:=by simpa using hp
  obtain⟨e,n,ne,nf,d⟩:=I.pin p hp';refine⟨k _ _ e,?_,WL (Wt (Wo e) hC),λhm=>?_,d⟩
  ·show upd H acc _ p.1=none;rw[upd_ne (λz=>absurd (Wo e) (by rw[z];exact X7.mpr ha))]
   exact n
  ·rcases Wz.mp (I.stkSub _ hm) with z | z
   ·exact ne z
   ·exact nf z
 ·show (List.replicate own.length none++pick js σ).length=(own++fr).length;unfold pick;rw[W3,XN,Wm,W3,T.len]
end
section
variable{prog:C5}{w:World}{A:Around}{R:Result->B2}{s:Shared}
def wj(ifs:B8)(env:Env):Sem Bool:=forIn ifs true λc r=>if r=true then do let ok <-isTrue c env (eval c env);pure (ForInStep.yield ok) else pure (ForInStep.yield r)
noncomputable def turnOf(g:Comprehension)(bodyK:Sem Fin->Sem Fin)(c:Code)(it:Value)(env:Env):Sem Fin:=do
 standAt g.iter.pos
 match <-pyNext it with
 |none=>pure (.done .next)
 |some v=>
   letOwnedTupleGo g.target it v
   assign g.target env v
   let ok <-wj g.ifs env
   if ok then bodyK (again c) else again c
def uN(elt:Expr)(acc:Value)(env:Env)(k:Sem Fin):Sem Fin:=do
 (do let _ <-call (.builtin "list.append") [acc,<-eval elt env])
 k
def Mw(elt target iter:Expr)(ifs:B8)(scope:Scope)(pos:Pos)(it acc:Value)(env:Env):
  compTurn (.ListComp elt [⟨target,iter,ifs,0⟩] scope pos) 0 it acc env=turnOf ⟨target,iter,ifs,0⟩ (uN elt acc env) (.compLoop (.ListComp elt [⟨target,iter,ifs,0⟩] scope pos) 0 it acc env) it env:=rfl
def jY(prog:C5)(w:World)(A:Around)(bodyK:Sem Fin->Sem Fin)(W:B2->B2):Prop:=
 ∀(k:Sem Fin) (Q:Fin->B2) (E:A3) (s:Shared),W (λs'=>wq prog w A k Q E s') s->wq prog w A (bodyK k) Q E s
def Gx:jY prog w A (uN elt acc env) (λP s=>wq prog w A (eval elt env) (λx s1=>wq prog w A (call (.builtin "list.append") [acc,x]) (λy s2=>P s2) (λy y=>False) s1) (λy y=>False) s):=by intro k Q E s h;unfold uN;exact Wg (Wg (W5 h (λx s1 h1=>Wg (W5 h1 (λy s2 h2=>Wh h2) λy y z=>z.elim)) λy y z=>z.elim))
def Fy(e:Expr):Prop:=(∃a b c d,e=.ListComp a b c d)\/∃a b c d,e=.SetComp a b c d
def Ke(I:Nat->B2)
  (aw:compTurn e depth it acc env=turnOf g bodyK (.compLoop e depth it acc env) it env) (hW:jY prog w A bodyK W)
  (turn:∀ n s,I n s->wq prog w A (pyNext it) (λr s₁=>match r with
    |none=>R (.ok .next) s₁
    |some v=>wq prog w A (letOwnedTupleGo g.target it v) (λz s₂=>wq prog w A (assign g.target env v) (λz s₃=>
      wq prog w A (wj g.ifs env) (λok s₄=>if ok=true then W (λs₅=>∃m,m<n/\I m s₅) s₄ else ∃m,m<n/\I m s₄) (λz z=>False) s₃) (λz z=>False) s₂) (λz z=>False) s₁) (λz z=>False) s)
  (av:∀P P' s,(∀s,P s->P' s)->W P s->W P' s)
  (n:Nat) (h:I n s) (he:Fy e):codeAny (model prog w) A (.compLoop e depth it acc env) R s:=by
 refine codeAny_loop (by rcases he with ⟨_,_,_,_,rfl⟩ | ⟨_,_,_,_,rfl⟩<;>rfl) I (λn s hI=>?_) n h
 suffices q:wq prog w A ((compTurn e depth it acc env).onRaise (λx=>do noteFrame x env;theTreesLotGoes x)) (λfin s'=>match fin with
   |.done f=>R (.ok f) s'
   |.again c'=>c'=Code.compLoop e depth it acc env/\∃m,m<n/\I m s') (λe s'=>R (.error e) s') s by
  rcases he with ⟨_,_,_,_,rfl⟩ | ⟨_,_,_,_,rfl⟩<;>exact q
 refine wpAny_noted ?_;rw[aw];unfold turnOf;refine Wg (Zg (Wg (W5 (turn n s hI) (λr s₁ h₁=>?_) λz z h'=>h'.elim)))
 cases r with
 |none=>exact Wh h₁
 | some v=>
   refine Wg (W5 h₁ (λz s₂ h₂=>Wg (W5 h₂ (λz s₃ h₃=>Wg (W5 h₃ (λok s₄ h₄=>?_) λz z h'=>h'.elim)) λz z h'=>h'.elim)) λz z h'=>h'.elim)
   cases ok with
   |false=>have h₄:∃m,m<n/\I m s₄:=h₄;exact Wh ⟨rfl,h₄⟩
   |true=>
     have h₄:W (λs₅=>∃m,m<n/\I m s₅) s₄:=h₄
     exact hW _ _ _ _ (av _ _ _ (λs₅ h₅=>Wh ⟨rfl,h₅⟩) h₄)
def IK(hg:(clausesOf e)[depth]?=some g)(ha:g.is_async=0)
  (h0:codeAny (model prog w) A (.compLoop e depth it acc env) R s)
  (h:wq prog w A (pyIter it) (λit' s'=>codeAny (model prog w) A (.compLoop e depth it' acc env) R s') (λz z=>False) s) (he:Fy e) :
  codeAny (model prog w) A (.compStart e depth it acc env) R s:=by
 refine aaG ?_
 suffices q:wq prog w A ((compStart e depth it acc env).onRaise (λx=>do noteFrame x env;standAt theWindowsPlace)) (λfin s'=>match fin with
   |.done f=>R (.ok f) s'
   |.again c'=>c'.quiet=true/\codeAny (model prog w) A c' R s') (λe s'=>R (.error e) s') s by
  rcases he with ⟨_,_,_,_,rfl⟩ | ⟨_,_,_,_,rfl⟩<;>exact q
 refine wpAny_notedAt ?_;unfold compStart;have e1:(((clausesOf e)[depth]?).elim false (·.is_async != 0))=false:=by rw[hg];show (g.is_async != 0)=false;rw[ha];rfl
 rw[e1];simp only[Bool.false_eq_true,if_false,pure_bind];refine Wg (YB (wpAny_ite ?_));split
 ·first
   |exact Wg (Wh (Wh (And.intro rfl h0)))
   |exact Wh (And.intro rfl h0)
 ·refine Wg (Y8 ?_);rw[hg];exact Wg (Zg (Wg (W5 h (λit' s' h'=>Wh (And.intro rfl h')) λz z x=>x.elim)))
end
section
variable{prog:C5}{w:World}{A:Around}{E:A3}{s:Shared}
def Ei(hi:IsTupIter s.heap ia t k)(ht:IsTup s.heap t its)(hy:its[k]?=some y)
  (hQ:∀h',IsTupIter h' ia t (k+1)->Heap.SameBut ia s.heap h'->Q y { s with heap:=h' }):wq prog w A (Builtin.SmallTypes.nextOf (.ref ia)) Q E s:=by
 obtain⟨oi,nz,hci,ma⟩:=id hi;obtain⟨ot,pj,_,nt,hdt⟩:=ht;unfold Builtin.SmallTypes.nextOf;refine Wg (Xp (name:=Str.ofString "__next__") hi.typeIs Z1 (Xl Z1 hi.typeIs entry_tupleiter_next ?_ (args_tupleiter_next _)));show wpAny _ _ (field (.ref ia) 0>>=_) _ _ s;refine Wg (Yb nz ma (x:=.ref t) rfl ?_);show wpAny _ _ (if (Value.ref t==Value.none)=true then _ else _) _ _ s
 rw[Ww (λz:(Value.ref t==Value.none)=true=>WT z)]
 show wpAny _ _ (field (.ref ia) 1>>=_) _ _ s;refine Wg (Yb nz ma (x:=.int k 0) rfl ?_);show wpAny _ _ (seqItems? (.ref t)>>=_) _ _ s;refine Wg (aaL pj hdt ?_);simp only[Int.toNat_natCast,hy];refine Wg (X8 nz ma (by simp) (Wh ⟨y,rfl,Wh (hQ _ ⟨_,Zv _ nz (Obj.isFreed_of_fields (Obj.data_mapFields ma _)),(Obj.cls_mapFields ..).trans hci,?_⟩ (X4 ..))⟩))
 rw[Obj.data_mapFields ma];simp[rawInt]
def Ay(hh:A.handled=none)(hi:IsTupIter s.heap ia t k)(ht:IsTup s.heap t its)(hy:its[k]?=none)
  (hE:∀h' e,Heap.ExtBut ia s.heap h'->(∃o,h'.get? e=some o/\o.cls=.type "StopIteration")->E (.ref e) { s with heap:=h' }):wq prog w A (Builtin.SmallTypes.nextOf (.ref ia)) Q E s:=by
 obtain⟨oi,nz,hci,ma⟩:=id hi;obtain⟨ot,pj,_,nt,hdt⟩:=ht;unfold Builtin.SmallTypes.nextOf;refine Wg (Xp (name:=Str.ofString "__next__") hi.typeIs Z1 (Xl Z1 hi.typeIs entry_tupleiter_next ?_ (args_tupleiter_next _)));show wpAny _ _ (field (.ref ia) 0>>=_) _ _ s;refine Wg (Yb nz ma (x:=.ref t) rfl ?_);show wpAny _ _ (if (Value.ref t==Value.none)=true then _ else _) _ _ s
 rw[Ww (λz:(Value.ref t==Value.none)=true=>WT z)]
 show wpAny _ _ (field (.ref ia) 1>>=_) _ _ s;refine Wg (Yb nz ma (x:=.int k 0) rfl ?_);show wpAny _ _ (seqItems? (.ref t)>>=_) _ _ s;refine Wg (aaL pj hdt ?_);simp only[Int.toNat_natCast,hy];refine Wg (Y8 (Wg (X8 nz ma (by simp) ?_)))
 show wpAny _ _ (newExc (.type "StopIteration") ([]:B5)>>=λy=>_) _ _ _
 refine Wg ?_;simp only[newExc,newTuple];refine Wg (Xb ?_ (by size_fits:_))
 refine Wg (m:=firstArgMember _ _) (wpAny_of_eq (a:=Value.none) (by first | rfl | simp only[firstArgMember]) ?_)
 refine Xb ?_ (by size_fits:_)
 simp only[raiseNew];refine Wg (wpAny_handled ?_)
 first | rw[hh] | rw[show A.in1.handled=none from hh]
 refine Wg (Wh (wpAny_throw (hE _ _ (((X4 ..).extBut.push _).push _) ⟨_,Wu _ rfl,rfl⟩)))
end
structure SubIt(P:C5)(w:World)(i l:Addr)(its:B4)(st:Nat->B6):Prop where
 obj:∀k h,st k h->(∃o,h.get? i=some o/\∀v,o.data≠.cell v)/\∃o,h.get? l=some o
 keep:∀k h h',st k h->(∀o,h.get? i=some o->h'.get? i=some o)->(∀o,h.get? l=some o->h'.get? l=some o)->st k h'
 item:∀(A:Around) k (s:Shared) x (Q:A3) (E:A3),st k s.heap->its[k]?=some x->(∀h',st (k+1) h'->Heap.SameBut i s.heap h'->Q x { s with heap:=h' })->wpAny (model P w) A (Builtin.SmallTypes.nextOf (.ref i)) Q E s
 done:∀(A:Around) k (s:Shared) (Q:A3) (E:A3),A.handled=none->st k s.heap->its[k]?=none->(∀h' e,Heap.ExtBut i s.heap h'->(∃o,h'.get? e=some o/\o.cls=.type "StopIteration")->E (.ref e) { s with heap:=h' })->wpAny (model P w) A (Builtin.SmallTypes.nextOf (.ref i)) Q E s
def PL(ay:l≠i)(its:B4):SubIt P w i l its (λk h=>IsTupIter h i l k/\IsTup h l its) where
 obj:=λk h ⟨⟨o,e,_,d⟩,⟨o',e',_⟩⟩=>⟨⟨o,e,λv z=>by rw[d]at z;cases z⟩,o',e'⟩
 keep:=λk h h' ⟨⟨o,e,r⟩,⟨o',e',r'⟩⟩ k1 k2=>⟨⟨o,k1 _ e,r⟩,⟨o',k2 _ e',r'⟩⟩
 item:=λA k s x Q E st hx hQ=>Ei st.1 st.2 hx λh' h1 h2=>hQ h' ⟨h1,st.2.extBut h2.extBut ay⟩ h2
 done:=λA k s Q E hh st hx hE=>Ay hh st.1 st.2 hx hE
def PJ(ay:l≠i)(its:B4):SubIt P w i l its (λk h=>h.IsListIter i l k/\h.IsList l its) where
 obj:=λk h ⟨⟨o,e,_,d⟩,⟨o',e',_⟩⟩=>⟨⟨o,e,λv z=>by rw[d]at z;cases z⟩,o',e'⟩
 keep:=λk h h' ⟨⟨o,e,r⟩,⟨o',e',r'⟩⟩ k1 k2=>⟨⟨o,k1 _ e,r⟩,⟨o',k2 _ e',r'⟩⟩
 item:=λA k s x Q E st hx hQ=>wpAny_nextOf_list_item st.1 st.2 hx λh' h1 h2=>hQ h' ⟨h1,st.2.extBut h2.extBut ay⟩ h2
 done:=λA k s Q E hh st hx hE=>wpAny_nextOf_list_end hh st.1 st.2 hx hE
abbrev Ao(h:Heap)(T1:String)(l1:Addr):Heap:=h.push { cls:=.type T1,data:=.fields #[.ref l1,.int 0 0] }
def j8(b:Bool)(h:Heap)(l:Addr)(xs:B4):Prop:=if b then IsTup h l xs else h.IsList l xs
def Lf(b:Bool)(i l:Addr)(xs:B4)(k:Nat)(h:Heap):Prop:=(if b then IsTupIter h i l k else h.IsListIter i l k)/\j8 b h l xs
def CT(b:Bool)(ay:l≠i)(its:B4):SubIt P w i l its (Lf b i l its):=by
 cases b with
 |true=>exact PL ay its
 |false=>exact PJ ay its
def j8.lt(q:j8 b h l xs):l<h.objs.size:=by
 cases b with
 |true=>obtain⟨o,e,_⟩:=(show IsTup h l xs from q);exact Wo e
 |false=>obtain⟨o,e,_⟩:=(show h.IsList l xs from q);exact Wo e
def j8.keep(q:j8 b h l xs)(k:∀o,h.get? l=some o->h'.get? l=some o):j8 b h' l xs:=by
 cases b with
 |true=>obtain⟨o,e,r⟩:=(show IsTup h l xs from q);exact⟨o,k _ e,r⟩
 |false=>obtain⟨o,e,r⟩:=(show h.IsList l xs from q);exact⟨o,k _ e,r⟩
section
variable{X:Cx}{aaW:A8}{σ:St}{H:Hp}{s:Shared}{h':Heap}
def Inv.turnedL{t':Nat}{ch:B7}(I:Inv X aaW σ H s)(k:∀b o,b∉ch->s.heap.get? b=some o->h'.get? b=some o)(hf:∀b∈ch,FpOk X aaW H b)(hL:∀b∈ch,b≠X.env.locals):Inv X aaW σ H { s with heap:=h',toks:=t' }:=by
 have m3:∀b u,H b=some u->b∉ch:=λb u e z=>by have:=(hf b z).1;rw[e]at this;cases this
 refine I.step (g':=s.gens) (d':=s.drawn) (ch:=ch) (λb hb=>?_) (λb o y y hc e y=>k b o hc e) (λb o y y hc e y=>⟨o.slots,k b o hc e⟩) (λy y y y n=>n)
  (λb o hc e=>⟨o,k b o hc e⟩) (λy y e=>e) (λy y y e=>e) (λb ps e=>⟨#[],by rw[e];simp⟩) (λm hm=>?_) (λb u e=>?_) I.bare
 ·obtain⟨_,f1,_,f3,f4,f5⟩:=hf b hb;exact⟨f3,f1,f4,f5⟩
 ·obtain⟨o,es,ep,ho,r⟩:=hm;exact⟨o,es,ep,k _ o (λz=>(hL _ z) rfl) ho,r⟩
 ·refine (I.hok b u e).stay (λc v hc q=>k c v ?_ q) (λy q=>q) λy y q=>q
  rcases hc with z | z
  ·rw[z];exact m3 b u e
  ·exact m3 c _ z
def Inv.turnedLay{t':Nat}{ch:B7}{p:Addr}{o:HO}(I:Inv X aaW σ H s)(k:∀ b o,b∉ch->s.heap.get? b=some o->h'.get? b=some o)(hf:∀ b∈ch,FpOk X aaW H b)(hp:s.z<=p)(new:ObjOk X.prog X.w (upd H p o) h' p o):Inv X aaW σ (upd H p o) { s with heap:=h',toks:=t' }:=by
 have m3:∀b u,H b=some u->b∉ch:=λb u e z=>by have:=(hf b z).1;rw[e]at this;cases this
 have hn:H p=none:=I.hok.fresh hp;have tr:∀b u,H b=some u->upd H p o b=some u:=λb u e=>by rw[upd_ne (ne_of_none e hn)];exact e
 refine I.step (g':=s.gens) (d':=s.drawn) (ch:=ch) (λb hb=>?_) (λb o x x hc e x=>k b o hc e) (λb o x x hc e x=>⟨o.slots,k b o hc e⟩) (λb u x e n=>by rw[upd_ne (WL (Wt (Wo e) hp))];exact n)
  (λb o hc e=>⟨o,k b o hc e⟩) (λb xs e=>tr b _ e) (λb x x e=>tr b _ e) (λb ps e=>⟨#[],by rw[tr b _ e];simp⟩) (λm hm=>?_) (λb u e=>?_) I.bare
 ·obtain⟨_,f1,_,f3,f4,f5⟩:=hf b hb;exact⟨f3,f1,f4,f5⟩
 ·obtain⟨o,es,ep,ho,r⟩:=hm;exact⟨o,es,ep,k _ o (λz=>(hf _ z).2.1 rfl) ho,r⟩
 ·by_cases z:b=p
  ·subst z;rw[upd_same]at e;cases e;exact new
  ·rw[upd_ne z]at e;refine (I.hok b u e).stay (λc v hc q=>k c v ?_ q) (λc q=>tr c _ q) (λc xs q=>tr c _ q) λc o q=>tr c _ q
   rcases hc with y | y
   ·rw[y];exact m3 b u e
   ·exact m3 c _ y
end
def yo(b:Bool)(K:B0)(H:Hp)(l:Addr)(xs:List V):Prop:=if b then SqT K H l xs else SqL K H l xs
def Inv.seqS{X:Cx}{aaW:A8}{σ:St}{H:Hp}{s:Shared}{b:Bool}{l:Addr}{xs:List V}(I:Inv X aaW σ H s)(h:yo b X.K H l xs):∃its:B5,Vals xs its/\j8 b s.heap l its.toArray/\xs.length<=sizeLine:=by
 cases b with
 |true=>obtain⟨its,r,p,z⟩:=I.tuple (show SqT X.K H l xs from h);exact⟨its,r,p,z⟩
 |false=>obtain⟨its,r,p,z⟩:=I.list (show SqL X.K H l xs from h);exact⟨its,r,p.isList,z⟩
def Inv.seqS_inj{X:Cx}{aaW:A8}{σ:St}{H:Hp}{s:Shared}{b:Bool}{l:Addr}{xs ys:List V}(I:Inv X aaW σ H s)(h:yo b X.K H l xs)(q:yo b X.K H l ys):xs=ys:=by
 cases b with
 |true=>exact I.tuple_inj (show SqT X.K H l xs from h) q
 |false=>exact I.list_inj (show SqL X.K H l xs from h) q
def jF(b:Bool)(i l:Addr)(k:Nat)(h:Heap):Prop:=if b then IsTupIter h i l k else h.IsListIter i l k
def jF.keep{b:Bool}{i l:Addr}{k:Nat}{h h':Heap}(q:jF b i l k h)(kk:∀o,h.get? i=some o->h'.get? i=some o):jF b i l k h':=by
 cases b with
 |true=>obtain⟨o,e,r⟩:=(show IsTupIter h i l k from q);exact⟨o,kk _ e,r⟩
 |false=>obtain⟨o,e,r⟩:=(show h.IsListIter i l k from q);exact⟨o,kk _ e,r⟩
def jF.obj{b:Bool}{i l:Addr}{k:Nat}{h:Heap}(q:jF b i l k h):∃o,h.get? i=some o/\∀v,o.data≠.cell v:=by
 cases b with
 |true=>obtain⟨o,e,_,d⟩:=(show IsTupIter h i l k from q);exact⟨o,e,λv z=>by rw[d]at z;cases z⟩
 |false=>obtain⟨o,e,_,d⟩:=(show h.IsListIter i l k from q);exact⟨o,e,λv z=>by rw[d]at z;cases z⟩
set_option tactic.hygienic true in
def zb(l:Addr)(xs:B4):
  Meets (Builtin.«enumerate.__new__» ⟨[.type "enumerate",.ref l],[]⟩) (λy R s=>IsTup s.heap l xs /\
   R (.ok (.ret (.ref (Ao s.heap "tuple_iterator" l).objs.size))) { s with heap:=(Ao s.heap "tuple_iterator" l).push { cls:=.type "enumerate",data:=.fields #[.none,.bool false,.ref s.z,rawInt 0,.none,.none] } }):=
 .of_wp λprog w A R s h=>by
  obtain⟨hp,gn,dr,tk,os⟩:=s;obtain⟨k1,h⟩:=h;have hsub:=sub_enumerate;have K1:IsTup (Shared.heap ⟨hp,gn,dr,tk,os⟩) l xs:=k1;obtain⟨ot,pj,r⟩:=id K1
  wp_walk using Z9 pj
  refine wpAny_stack_any λsk=>Wh ?_
  split
  ·rename_i c _ _ _ _ _;cases (c==Value.type "enumerate")<;>(wp_walk using Z9 pj,iter_tuple K1;exact⟨_,rfl,h⟩)
  ·wp_walk using Z9 pj,iter_tuple K1
   exact⟨_,rfl,h⟩
section
variable{P:C5}{w:World}{A:Around}{E:A3}{s:Shared}{e it l:Addr}{xs:B4}{st:Nat->B6}
def Do(k1:j8 b s.heap l xs)
  (h:∀h',IsEnum h' (s.z+1) s.z 0 .none->Lf b s.z l xs 0 h'->h'.objs.size=s.z+2->(∀c o,s.heap.get? c=some o->h'.get? c=some o)->Q (.ref (s.z+1)) { s with heap:=h' }) :
  wpAny (model P w) A (call (.type "enumerate") [.ref l]) Q E s:=by
 cases b with
 |false=>exact call_enumerate_list (show s.heap.IsList l xs from k1) λh' a1 a2 a3 a4=>h h' a1 ⟨a2,k1.keep λo q=>a4 _ _ q⟩ a3 a4
 |true=>
   refine callType_new F.called_enumerate (by decide) (F.typeCall_enumerate_1 _) (F.newCall_enumerate_1 _) (λobj=>F.args_object_init_2 obj _) F.entry_enumerate_new (zb l xs) ⟨k1,?_⟩
   have z1:(Ao s.heap "tuple_iterator" l).objs.size=s.z+1:=Xr ..
   have up:∀c o,s.heap.get? c=some o->((Ao s.heap "tuple_iterator" l).push { cls:=.type "enumerate",data:=.fields #[.none,.bool false,.ref s.z,rawInt 0,.none,.none] }).get? c=some o:=λc o q=>Wi _ (Wi _ q)
   have q2:((Ao s.heap "tuple_iterator" l).push { cls:=.type "enumerate",data:=.fields #[.none,.bool false,.ref s.z,rawInt 0,.none,.none] }).get? (Ao s.heap "tuple_iterator" l).objs.size=some _:=Wu _ rfl;have q1:((Ao s.heap "tuple_iterator" l).push { cls:=.type "enumerate",data:=.fields #[.none,.bool false,.ref s.z,rawInt 0,.none,.none] }).get? s.z=some _:=Wi _ (Wu _ rfl);show _/\_;rw[z1]at q2 ⊢
   exact⟨⟨_,q2,rfl⟩,h _ q2 ⟨⟨_,q1,rfl,rfl⟩,k1.keep λo q=>up _ _ q⟩ (by rw[Xr,z1]) up⟩
def DY{i:Nat}{Q:A3}(S:SubIt P w it l xs st)(ne:e≠it)(nl:l≠e)(he:IsEnum s.heap e it i old)(h0:st i s.heap)(hx:xs[i]?=some x)
  (hQ:∀h',IsEnumOut h' e it ((i:Int)+1) x s.z->st (i+1) h'->IsPair h' s.z (.int i s.toks) x->h'.objs.size=s.z+1->
    (∀c o,c≠e->c≠it->s.heap.get? c=some o->h'.get? c=some o)->Q (.ref s.z) { s with heap:=h',toks:=s.toks+1 }) :
  wpAny (model P w) A (Builtin.«enumerate.__next__» ⟨[.ref e],[]⟩) (λfin s'=>∃v,fin=.done (.ret v)/\Q v s') E s:=by
 obtain⟨hp,gn,dr,tk,os⟩:=s;show wpAny _ _ (field (.ref e) 2>>=λy=>_) _ _ _
 refine Wg (Yb he rfl (x:=.ref it) rfl (show _ from ?_))
 refine Wg (S.item _ i _ x _ _ h0 hx λg1 n1 e1=>(show _ from ?_))
 replace e1:Heap.SameBut it hp g1:=e1;have c1:IsEnum g1 e it i old:=e1.extBut _ _ ne he;show wpAny _ _ (field (.ref e) 3>>=λy=>_) _ _ ⟨g1,gn,dr,tk,os⟩
 refine Wg (Yb c1 rfl (x:=rawInt i) rfl (show _ from ?_))
 show wpAny _ _ (field (.ref e) 4>>=λy=>_) _ _ ⟨g1,gn,dr,tk,os⟩
 refine Wg (Yb c1 rfl (x:=.none) rfl (show _ from ?_))
 show wpAny _ _ (mkInt i>>=λy=>_) _ _ ⟨g1,gn,dr,tk,os⟩
 refine Wg (wpAny_mkInt (show _ from ?_))
 show wpAny _ _ (setField (.ref e) 3 (rawInt ((i:Int)+1))>>=λy=>_) _ _ ⟨g1,gn,dr,tk+1,os⟩
 refine Wg (wpAny_setField_rec c1 (by simp) λg2 c2 e2=>?_)
 replace e2:Heap.SameBut e g1 g2:=e2;replace c2:IsEnum g2 e it ((i:Int)+1) old:=c2;show wpAny _ _ (setField (.ref e) 4 .none>>=λy=>_) _ _ ⟨g2,gn,dr,tk+1,os⟩
 refine Wg (wpAny_setField_rec c2 (by simp) λg3 c3 e3=>?_)
 replace e3:Heap.SameBut e g2 g3:=e3;replace c3:IsEnum g3 e it ((i:Int)+1) old:=c3;show wpAny _ _ (newTuple [.int i tk,x]>>=λy=>_) _ _ ⟨g3,gn,dr,tk+1,os⟩
 refine Wg (wpAny_newTuple (show _ from ?_))
 have c4:IsEnum (g3.push { cls:=.type "tuple",data:=.seq #[.int i tk,x] }) e it ((i:Int)+1) old:=Wi _ c3;have sz:g3.objs.size=hp.objs.size:=by rw[e3.1,e2.1,e1.1]
 have el:e<hp.objs.size:=Wo he;have t4:IsPair (g3.push { cls:=.type "tuple",data:=.seq #[.int i tk,x] }) hp.objs.size (.int i tk) x:=by rw[<-sz];exact Wu _ rfl
 have z4:(g3.push { cls:=.type "tuple",data:=.seq #[.int i tk,x] }).objs.size=hp.objs.size+1:=by rw[Xr,sz]
 have k4:∀c o,c≠e->c≠it->hp.get? c=some o->(g3.push { cls:=.type "tuple",data:=.seq #[.int i tk,x] }).get? c=some o:=λc o a1 a2 q=>Wi _ (e3.extBut _ _ a1 (e2.extBut _ _ a1 (e1.extBut _ _ a2 q)))
 have n4:st (i+1) (g3.push { cls:=.type "tuple",data:=.seq #[.int i tk,x] }):=S.keep _ _ _ n1 (λo q=>Wi _ (e3.extBut _ _ ne.symm (e2.extBut _ _ ne.symm q))) λo q=>Wi _ (e3.extBut _ _ nl (e2.extBut _ _ nl q))
 revert c4 t4 z4 k4 n4;generalize g3.push { cls:=.type "tuple",data:=.seq #[.int i tk,x] }=g4;intro c4 t4 z4 k4 n4;show wpAny _ _ (Builtin.SmallTypes.ownedTupleIsFree (.ref e)>>=λy=>_) _ _ ⟨g4,gn,dr,tk+1,os⟩
 rw[sz];refine Wg ?_;unfold Builtin.SmallTypes.ownedTupleIsFree;refine Wg (Yb c4 rfl (x:=.none) rfl (Wh (show _ from ?_)))
 simp only[if_true];refine Wg (Y8 (show _ from ?_))
 refine Wg (Yb c4 rfl (x:=old) rfl (show _ from ?_))
 refine Wg (wpAny_setField_rec c4 (by simp) λg5 c5 e5=>?_)
 replace e5:Heap.SameBut e g4 g5:=e5;replace c5:IsEnum g5 e it ((i:Int)+1) x:=c5;show wpAny _ _ (Builtin.SmallTypes.ownedTupleHandOut (.ref e) (.ref hp.objs.size)>>=λy=>_) _ _ ⟨g5,gn,dr,tk+1,os⟩
 refine Wg ?_;unfold Builtin.SmallTypes.ownedTupleHandOut;refine Wg (wpAny_setField_rec c5 (by simp) λg6 c6 e6=>?_)
 replace e6:Heap.SameBut e g5 g6:=e6;replace c6:IsEnumOut g6 e it ((i:Int)+1) x hp.objs.size:=c6;refine wpAny_setField_rec c6 (by simp) λg7 c7 e7=>?_
 replace e7:Heap.SameBut e g6 g7:=e7;replace c7:IsEnumOut g7 e it ((i:Int)+1) x hp.objs.size:=c7;have up:∀c o,c≠e->g4.get? c=some o->g7.get? c=some o:=λc o a1 q=>e7.extBut _ _ a1 (e6.extBut _ _ a1 (e5.extBut _ _ a1 q))
 refine Wg (wpAny_letGo (Wh ⟨_,rfl,hQ g7 c7 ?_ (up _ _ (Z6 el) t4) (by rw[e7.1,e6.1,e5.1,z4]) λc o a1 a2 q=>up _ _ a1 (k4 _ _ a1 a2 q)⟩))
 exact S.keep _ _ _ n4 (λo q=>up _ _ ne.symm q) λo q=>up _ _ nl q
def zH{i:Nat}{Q:B1->B2}(S:SubIt P w it l xs st)(ne:e≠it)(nl:l≠e)(he:IsEnum s.heap e it i old)(h0:st i s.heap)(hx:xs[i]?=some x)
  (hQ:∀h',IsEnumOut h' e it ((i:Int)+1) x s.z->st (i+1) h'->IsPair h' s.z (.int i s.toks) x->h'.objs.size=s.z+1->
    (∀c o,c≠e->c≠it->s.heap.get? c=some o->h'.get? c=some o)->Q (some (.ref s.z)) { s with heap:=h',toks:=s.toks+1 }):wpAny (model P w) A (pyNext (.ref e)) Q E s:=by
 have T:s.TypeIs (.ref e) "enumerate":=⟨_,he,rfl⟩;unfold pyNext;exact Wg (YQ (Xp (name:=Str.ofString "__next__") T ZC (Xl ZC T F.entry_enumerate_next (DY S ne nl he h0 hx λh' a b c d k=>Wh (hQ h' a b c d k)) (F.args_enumerate_next_1 _))))
def zG{i:Nat}{Q:B1->B2}(hh:A.handled=none)(S:SubIt P w it l xs st)(he:IsEnum s.heap e it i old)(h0:st i s.heap)(hx:xs[i]?=none)
  (hQ:∀h',Heap.ExtBut it s.heap h'->Q none { s with heap:=h' }):wpAny (model P w) A (pyNext (.ref e)) Q E s:=by
 have T:s.TypeIs (.ref e) "enumerate":=⟨_,he,rfl⟩;unfold pyNext;refine Wg (YQ (Xp (name:=Str.ofString "__next__") T ZC (Xl ZC T F.entry_enumerate_next (show _ from ?_) (F.args_enumerate_next_1 _))))
 show wpAny _ _ (field (.ref e) 2>>=λz=>_) _ _ _
 refine Wg (Yb he rfl (x:=.ref it) rfl (show _ from ?_))
 refine Wg (S.done _ i _ _ _ (show A.in1.handled=none from hh) h0 hx λh' y e1 hy=>?_)
 obtain⟨o,ho,hc⟩:=hy;exact Wg (aaQ (T := "StopIteration") (b:=true) ⟨o,ho,hc⟩ isSubtype_stop (Wh (hQ _ e1)))
end
def Uh(K:B0)(b:Bool)(l:Addr):It:=
 ⟨fun i H=>∃xs x,yo b K H l xs∧xs[i]?=some x,
  λi H v H'=>∃p,H p=none/\v=.ref p/\∀xs,yo b K H l xs->∃x,xs[i]?=some x/\H'=upd H p (.tup [.int (i:Int),x]),
  λi H=>∃xs,yo b K H l xs/\xs[i]?=none⟩
def Jf{P:C5}{w:World}{K:B0}{elts:B8}{x1}{tp:Pos}{b:Bool}{e it l:Addr}(ne:e≠it)(nl:l≠e)(ni:l≠it):
  Turn P w K (.Tuple elts x1 tp) (Uh K b l) [e,it] e (λi h=>(∃old,IsEnum h e it i old)/\jF b it l i h) where
 mem:=by simp
 obj:=λi h st c hc=>by
  obtain⟨⟨old,he⟩,h1⟩:=st;simp only[List.mem_cons,List.mem_nil_iff,or_false]at hc;rcases hc with rfl | rfl
  ·exact⟨_,he,λv q=>by cases q⟩
  ·exact h1.obj
 keep:=λi h h' st k=>by obtain⟨⟨old,he⟩,h1⟩:=st;exact⟨⟨old,k e (by simp) _ he⟩,h1.keep λo q=>k it (by simp) o q⟩
 item:=by
  walk_at "d";obtain⟨⟨old,he⟩,h1⟩:=st;obtain⟨xs,x,s1,hx⟩:=hg;obtain⟨mf,r1,q1,_⟩:=I.seqS s1;obtain⟨u1,e1,ru1⟩:=r1.get hx;refine zH (CT b ni mf.toArray) ne nl he ⟨h1,q1⟩ (by simpa using e1) λh' a1 a2 a3 a4 a5=>⟨_,rfl,wpAny_letOwnedTupleGo_enum a1 λkn he' ki=>?_⟩
  have lt:e<s.z:=Wo he;have kk:∀c o,c∉[e,it]->s.heap.get? c=some o->kn.get? c=some o:=λc o hb q=>ki.extBut _ _ (λz=>hb (by simp[z])) (a5 c o (λz=>hb (by simp[z])) (λz=>hb (by simp[z])) q)
  have fresh:H s.z=none:=I.hok.fresh (Wn _);have pr:IsPair kn s.z (.int i s.toks) u1:=ki.extBut _ _ (Z6 lt) a3;have nw:ObjOk X.prog X.w (upd H s.z (.tup [.int (i:Int),x])) kn s.z (.tup [.int (i:Int),x]):=⟨by show 2<=sizeLine;decide,[.int i s.toks,u1],.cons ⟨_,rfl⟩ (.cons ru1 .nil),⟨_,pr,rfl,_,rfl⟩⟩
  have nfp:∀c∈[e,it],c≠s.z:=λc hc z=>by
   obtain⟨o,ho⟩:∃o,s.heap.get? c=some o:=by
    simp only[List.mem_cons,List.mem_nil_iff,or_false]at hc;rcases hc with rfl | rfl
    ·exact⟨_,he⟩
    ·obtain⟨o,q,_⟩:=h1.obj;exact⟨o,q⟩
   exact absurd (Wo ho) (by rw[z];exact Yy _)
  refine⟨.ref s.z,upd H s.z (.tup [.int (i:Int),x]),?_,rfl,⟨_,fresh,rfl,λxs' q1'=>⟨x,by rw[I.seqS_inj q1' s1];exact hx,rfl⟩⟩,⟨⟨_,he'⟩,(show jF b it l (i+1) h' from a2.1).keep λo q=>ki.extBut _ _ ne.symm q⟩,λc hc=>by rw[upd_ne (nfp c hc)];exact (hf c hc).1⟩
  exact I.turnedLay (t':=s.toks+1) kk hf (Wn _) nw
 done:=by
  walk_at "d";obtain⟨⟨old,he⟩,h1⟩:=st;obtain⟨xs,s1,hend⟩:=hg;obtain⟨mf,r1,q1,_⟩:=I.seqS s1;refine zG (I.ok.hd hc) (CT b ni mf.toArray) he ⟨h1,q1⟩ (by simpa using r1.none_of hend) λh' e1=>?_
  exact⟨rfl,I.turnedL (t':=s.toks) (λc o hb q=>e1 _ _ (λz=>hb (by simp[z])) q) hf (λc hc=>(hf c hc).2.1)⟩
 self:=λy y y y y st h=>by obtain⟨⟨old,he⟩,_⟩:=st;exact wpAny_pyIter_enum he h
def Dm:bootBuiltins "list"=some (.type "list"):=by decide +kernel
theorem qK:∀ (vs:B5) (k:Nat),(∀ (j:Nat) v,vs[j]?=some v->∃ t,v=.int ((k + j:Nat):Int) t)->Vals ((List.range' k vs.length).map λi:Nat=>V.int (i:Int)) vs
 |[],k,_=>.nil
 | v::vs,k,h=>by
   have h0:=h 0 v rfl;have ih:=qK vs (k+1) λj u e=>by
    have:=h (j+1) u (by simpa using e)
    rw[show k+1+j=k+(j+1) by lia];exact this
   rw[XH,List.range'_succ,W2];exact .cons h0 ih
section
variable{X:Cx}
def T7(ta:TA):TE:=λσ H Q=>ta σ H λvs H1=>∃j:Int,vs=[.int j]/\j<=2^20/\-(2^62)<=j/\∀l,H1 l=none->Q (.ref l) (upd H1 l (.lst ((List.range j.toNat).map λi:Nat=>V.int (i:Int))))
def Hx(hc:X.calm=true)(f6:Gl X "list")(f7:X.mg "list"=none)(hg:Gl X "range")(hm:X.mg "range"=none)(ha:PA X [a] ta)(hs:notStar a=true:=by rfl):
  PE X (.Call (.Name "list" p1) [.Call (.Name "range" p2) [a] [] ag] [] a9) (T7 ta):=by
 walk_at "f";have ax:starEach [Expr.Call (.Name "range" p2) [a] [] ag] X.env=(false,eval (.Call (.Name "range" p2) [a] [] ag) X.env)::starEach [] X.env:=aU rfl;refine Call_ (ld_blt I f6 f7 Dm (Xf ?_ ax rfl));rw[ax];show wpAny _ _ (spliced ((false,eval (.Call (.Name "range" p2) [a] [] ag) X.env)::[])) _ _ s;refine Zj ?_;refine Call_ (ld_blt I hg hm boot_range (Xf (thn (ha ag aaW s σ H _ I h) λus s1 ⟨vs,H1,I1,r1,q1⟩=>?_) (aU hs) rfl))
 obtain⟨j,e,q1,q2,q⟩:=q1;subst e;cases r1 with
 | cons r rr=>
   cases rr;obtain⟨t,rfl⟩:=r;refine call_range_1 ?_;refine Zt ?_;have rs:Builtin.Range.rangeSize 0 j 1=((j.toNat:Nat):Int):=by rw[rangeSize_one];split<;>lia
   refine call_list_range (n:=j.toNat) (I1.ok.hd hc) (IsRange.new ..) (small_one (by lia) (by lia) q2 (by lia)) rs (by lia) λh' tk acc c k1 k2 k3=>?_
   have vl:Vals ((List.range j.toNat).map λi:Nat=>V.int (i:Int)) acc.toList:=by
    have:=qK acc.toList 0 λi v e=>by
     obtain⟨t,rfl⟩:=k3.2 i v (by simpa using e)
     exact⟨t,by congr 1;lia⟩
    rw[List.range_eq_range'];rw[show acc.toList.length=j.toNat by simpa using k3.1]at this
    exact this
   refine⟨.ref _,upd H1 _ (.lst ((List.range j.toNat).map λi:Nat=>V.int (i:Int))),?_,rfl,q _ (I1.hok.fresh ?_)⟩
   ·refine I1.turnedLay (ch:=[]) (t':=tk) (λb o z e=>k1 b o (Wi _ e)) (λb hb=>nomatch hb) ?_ ⟨?_,acc.toList,c,vl,k2⟩
    ·rw[Xr];lia
    ·rw[Wm,W7];show _<=2^24;lia
   ·rw[Xr];lia
end
end L2
namespace L2
open PyProof.Rows
open PySem.AutoSeq1 (wpAny_loadPart')
section
variable{prog:C5}{w:World}{A:Around}{E:A3}{s:Shared}
def wZ{Q:B5->B2}(r:Addr){a b c:Int}{n:Nat}(hh:A.handled=none)(hr:IsRange s.heap r a b c t u v)(sm:Builtin.Range.small a b c=true)(hn:Builtin.Range.rangeSize a b c=n)(hl:n<=2 ^ 24)
  (hQ:∀(h':Heap) (tk:Nat) (acc:B4),(∀b o',s.heap.get? b=some o'->h'.get? b=some o')->s.z<=h'.objs.size->ItemsOf (λi v=>∃t,v=.int (a+i*c) t) acc n->Q acc.toList { s with heap:=h',toks:=tk }) :
  wq prog w A (collect (.ref r)) Q E s:=by
 unfold collect;refine Wg (aaM (X5 aaz ?_));rw[XS aax _];show wpAny _ A.in1 (newList []>>=λl=>again (.builtin "list.__iadd__" ⟨[l,.ref r],[]⟩)) _ _ s
 refine Wg (Xb ?_);refine Wh ⟨ZW Y7 _,X5 F.entry_list_iadd ?_⟩;rw[XS Y7 _];show wpAny _ A.in1 (Builtin.List.listExtendWith (.ref s.z) (.ref r) (.ref s.z)) _ _ _;have hS:(s.heap.push { cls:=.type "list",data:=.seq ([]:B5).toArray }).get? s.z=some { cls:=.type "list",data:=.seq #[] 0 }:=Wu _ rfl;have fin':∀ h' tk acc c',(∀ b o,b≠s.z->(s.heap.push { cls:=.type "list",data:=.seq ([]:B5).toArray }).get? b=some o->h'.get? b=some o)->h'.get? s.z=some { cls:=.type "list",dict:=none,data:=.seq acc c',slots:=#[] }->ItemsOf (λi v=>∃ t,v=.int (a + i * c) t) acc n->
   wq prog w A (match Value.ref s.z with
   | Value.ref a=>do
     match (<-load a).data with
      |Data.seq xs _=>pure xs.toList
      |_=>unsupported "internal:collect"
   |_=>unsupported "internal:collect") Q E { s with heap:=h',toks:=tk }:=λh' tk acc c' k1 k2 k3=>by
  show wpAny _ A (load s.z>>=_) _ _ _;refine Wg (aaO k2 (Wh ?_));exact hQ h' tk acc (λb o e=>k1 b o (WL (Wo e)) (Wi _ e)) (YJ (Wo k2)) k3
 refine W5 (wpAny_extend_range (A:=A) (R:=λx s'=>x=.ok (.ret (.ref s.z))/\wq prog w A (match Value.ref s.z with
   | Value.ref a=>do
     match (<-load a).data with
      |Data.seq xs _=>pure xs.toList
      |_=>unsupported "internal:collect"
   |_=>unsupported "internal:collect") Q E s')
  (s:={ s with heap:=s.heap.push { cls:=.type "list",data:=.seq ([]:B5).toArray } }) hh (Wi _ hr) sm hn hl s.z _ 0 hS (λh' tk acc c' k1 k2 k3=>⟨rfl,fin' h' tk acc c' k1 k2 k3⟩)) (λfin s' h=>?_) (λe s' h=>?_)
 ·cases fin with
  |done f=>obtain⟨e,q⟩:=h;cases e;exact q
  |again c'=>exact⟨h.1,Yu h.2 λx kz hx=>by obtain⟨rfl,q⟩:=hx;exact q⟩
 ·exact absurd h.1 (by simp)
end
def rN(r:Addr)(a b c:Int)(t u v:Tok)(n:Nat)(sm:Builtin.Range.small a b c=true)(hn:Builtin.Range.rangeSize a b c=n)(hl:n<=2 ^ 24):
  Meets (Builtin.«tuple.__new__» ⟨[.type "tuple",.ref r],[]⟩)
   (λA R s=>A.handled=none/\IsRange s.heap r a b c t u v/\∀(h':Heap) (tk:Nat) (acc:B4),(∀b o',s.heap.get? b=some o'->h'.get? b=some o')->s.z<=h'.objs.size->ItemsOf (λi v=>∃t,v=.int (a+i*c) t) acc n->R (.ok (.ret (.ref h'.objs.size))) { s with heap:=h'.push { cls:=.type "tuple",data:=.seq acc },toks:=tk }):=
 .of_wp λprog w A R s h=>by
  obtain⟨hp,g,d,tk,os⟩:=s;obtain⟨hh,hr,h⟩:=h;have hsub:=sub_tuple_self;have hinit:=init_tuple_lookup;have hmh:=madeHere_tuple;have hT:Shared.TypeIs ⟨hp,g,d,tk,os⟩ (.ref r) "range":=⟨_,hr,rfl⟩;have hh':A.in1.handled=none:=hh
  wp_walk using wpAny_loadPart' hr,aaH hT,wZ (A:=A.in1) (s:=⟨hp,g,d,tk,os⟩) r hh' hr sm hn hl
  intro h' tk' acc hk hz hi;show wpAny _ _ (Builtin.Tuple.tupleExact acc.toList.toArray>>=λv=>ret v) _ _ _
  unfold Builtin.Tuple.tupleExact;have e:acc.toList.toArray=acc:=by simp
  rw[e];refine Wg (Xb ?_ (by show acc.size<=sizeLine;rw[hi.1];exact hl))
  exact Wh ⟨_,rfl,h h' tk' acc hk hz hi⟩
open PyProof.Rows
def tu{E:A3}{Q:A3}{a b c:Int}{n:Nat}(hh:A.handled=none)(hr:IsRange s.heap r a b c t u v)(sm:Builtin.Range.small a b c=true)(hn:Builtin.Range.rangeSize a b c=n)(hl:n<=2^24)
  (hQ:∀(h':Heap) (tk:Nat) (acc:B4),(∀b o',s.heap.get? b=some o'->h'.get? b=some o')->s.heap.objs.size<=h'.objs.size->ItemsOf (λi v=>∃t,v=.int (a+i*c) t) acc n->Q (.ref h'.objs.size) { s with heap:=h'.push { cls:=.type "tuple",data:=.seq acc },toks:=tk }) :
  wq prog w A (call (.type "tuple") [.ref r]) Q E s:=
 callType_new F.called_tuple (by decide) (F.typeCall_tuple_1 _) (F.newCall_tuple_1 _) (λobj=>F.args_object_init_2 obj _) F.entry_tuple_new (rN r a b c t u v n sm hn hl)
  ⟨hh,hr,λh' tk acc k z i=>⟨⟨_,Wu _ rfl,rfl⟩,hQ h' tk acc k z i⟩⟩
def Aq:bootBuiltins "tuple"=some (.type "tuple"):=by decide +kernel
section
variable{X:Cx}
def T9(ta:TA):TE:=λσ H Q=>ta σ H λvs H1=>∃j:Int,vs=[.int j]/\j<=2^20/\-(2^62)<=j/\∀l,H1 l=none->Q (.ref l) (upd H1 l (.tup ((List.range j.toNat).map λi:Nat=>V.int (i:Int))))
def Hy(hc:X.calm=true)(f6:Gl X "tuple")(f7:X.mg "tuple"=none)(hg:Gl X "range")(hm:X.mg "range"=none)(ha:PA X [a] ta)(hs:notStar a=true:=by rfl):
  PE X (.Call (.Name "tuple" p1) [.Call (.Name "range" p2) [a] [] ag] [] a9) (T9 ta):=by
 walk_at "f";have ax:starEach [Expr.Call (.Name "range" p2) [a] [] ag] X.env=(false,eval (.Call (.Name "range" p2) [a] [] ag) X.env)::starEach [] X.env:=aU rfl;refine Call_ (ld_blt I f6 f7 Aq (Xf ?_ ax rfl));rw[ax];show wpAny _ _ (spliced ((false,eval (.Call (.Name "range" p2) [a] [] ag) X.env)::[])) _ _ s;refine Zj ?_;refine Call_ (ld_blt I hg hm boot_range (Xf (thn (ha ag aaW s σ H _ I h) λus s1 ⟨vs,H1,I1,r1,q1⟩=>?_) (aU hs) rfl))
 obtain⟨j,e,q1,q2,q⟩:=q1;subst e;cases r1 with
 | cons r rr=>
   cases rr;obtain⟨t,rfl⟩:=r;refine call_range_1 ?_;refine Zt ?_;have rs:Builtin.Range.rangeSize 0 j 1=((j.toNat:Nat):Int):=by rw[rangeSize_one];split<;>lia
   refine tu (n:=j.toNat) (I1.ok.hd hc) (IsRange.new ..) (small_one (by lia) (by lia) q2 (by lia)) rs (by lia) λh' tk acc k1 k2 k3=>?_
   rw[Xr]at k2;have vl:Vals ((List.range j.toNat).map λi:Nat=>V.int (i:Int)) acc.toList:=by
    have:=qK acc.toList 0 λi v e=>by
     obtain⟨t,rfl⟩:=k3.2 i v (by simpa using e)
     exact⟨t,by congr 1;lia⟩
    rw[List.range_eq_range'];rw[show acc.toList.length=j.toNat by simpa using k3.1]at this
    exact this
   refine⟨.ref _,upd H1 h'.objs.size (.tup ((List.range j.toNat).map λi:Nat=>V.int (i:Int))),?_,rfl,q _ (I1.hok.fresh (by lia))⟩
   refine I1.turnedLay (ch:=[]) (t':=tk) (λb o z e=>Wi _ (k1 b o (Wi _ e))) (λb hb=>nomatch hb) (by lia) ⟨?_,acc.toList,vl,?_⟩
   ·rw[Wm,W7];show _<=2^24;lia
   ·have:=aaN h' acc;simpa using this
end
end L2
namespace LS
open PySem
def mC(xs:B9):Prop:=xs.toList.Pairwise (·< ·)
def mC.lt{xs:B9}(h:mC xs){a b:Nat}(ko:a<b)(hb:b<xs.size):xs[a]<xs[b]:=by
 have:=Yg.mp h a b (by simpa using ZD ko hb) (by simpa using hb) ko
 simpa using this
structure Bel(xs:B9)(j r:Nat):Prop where
 le:r<=xs.size
 lo:∀k (hk:k<xs.size),k<r->xs[k]<j
 hi:∀k (hk:k<xs.size),r<=k->j<=xs[k]
theorem sY{xs:B9}{j:Nat}(h:mC xs):∀ (fuel lo hi:Nat),hi - lo<=fuel->lo<=hi->hi<=xs.size->(∀ k (hk:k<xs.size),k<lo->xs[k]<j)->(∀ k (hk:k<xs.size),hi<=k->j<=xs[k])->Bel xs j (SetTable.below.go xs j fuel lo hi)
 |0,lo,hi,hf,hl,hs,h1,h2=>by
   unfold SetTable.below.go;have:lo=hi:=by lia
   subst this;exact⟨hs,h1,h2⟩
 | fuel + 1,lo,hi,hf,hl,hs,h1,h2=>by
   unfold SetTable.below.go;by_cases c:lo<hi
   ·rw[Wq c];dsimp only;have hm:(lo+hi) / 2<hi:=by lia
    have hm':lo<=(lo+hi) / 2:=by lia
    generalize (lo+hi) / 2=mid at hm hm';have ly:mid<xs.size:=by lia
    have e:xs.getD mid j=xs[mid]:=by rw[Xu,XC ly];rfl
    rw[e];by_cases c2:xs[mid]<j
    ·rw[Wq c2];refine sY h fuel (mid+1) hi (by lia) (by lia) hs (λk hk hkm=>?_) h2
     by_cases q:k=mid
     ·subst q;exact c2
     ·have:=h.lt (show k<mid by lia) ly;lia
    ·rw[Ww c2];refine sY h fuel lo mid (by lia) hm' (by lia) h1 (λk hk hkm=>?_)
     by_cases q:k=mid
     ·subst q;lia
     ·have:=h.lt (show mid<k by lia) hk;lia
   ·rw[Ww c];have:lo=hi:=by lia
    subst this;exact⟨hs,h1,h2⟩
def iH{xs:B9}(h:mC xs)(j:Nat):Bel xs j (SetTable.below xs j):=by unfold SetTable.below;exact sY h xs.size 0 xs.size (by lia) (by lia) (Wn _) (λk hk z=>by lia) (λk hk z=>by lia)
def below_at{xs:B9}(h:mC xs){i:Nat}(hi:i<xs.size):SetTable.below xs xs[i]=i:=by
 have b:=iH h xs[i];generalize SetTable.below xs xs[i]=r at b;rcases aak r i with c | c | c
 ·have:=b.hi r (by lia) (Wn _)
  have:=h.lt c hi
  lia
 ·exact c
 ·have:=b.lo i hi c
  lia
def Dl{xs:B9}(h:mC xs):SetTable.below xs 0=0:=by
 have b:=iH h 0;generalize SetTable.below xs 0=r at b;rcases aab r with c | c
 ·exact c
 ·have:=b.le;have:=b.lo 0 (by lia) c
  lia
def Dk{xs:B9}(h:mC xs){i:Nat}(hi:i<xs.size):SetTable.below xs (xs[i]+1)=i+1:=by
 have b:=iH h (xs[i]+1);generalize SetTable.below xs (xs[i]+1)=r at b;have ble:=b.le;rcases aak r (i+1) with c | c | c
 ·have:=b.hi i hi (by lia)
  lia
 ·exact c
 ·have l:=b.lo (i+1) (by lia) c
  have:=h.lt (show i<i+1 by lia) (show i+1<xs.size by lia)
  lia
def uR{xs:B9}(h:mC xs){j:Nat}(hj:j∉xs.toList):mC (SetTable.insertAt xs (SetTable.below xs j) j):=by
 have b:=iH h j;unfold mC;rw[Z7];generalize SetTable.below xs j=r at b;have h':(xs.toList.take r++xs.toList.drop r).Pairwise (·< ·):=by rw[aaw];exact h
 rw[List.pairwise_append]at h' ⊢
 refine⟨h'.1,Xq.mpr ⟨λx hx=>?_,h'.2.1⟩,λx hx y hy=>?_⟩
 ·obtain⟨k,hk,rfl⟩:=Xv.mp hx;rw[ZJ,Xy]at hk;rw[List.getElem_drop];have:=b.hi (r+k) (by lia) (by lia)
  have ne:xs.toList[r+k]'(by simp;lia)≠j:=λz=>hj (z ▸ XX _)
  simp at this ne ⊢
  lia
 ·have lt:x<j:=by
   obtain⟨k,hk,rfl⟩:=Xv.mp hx;rw[Yz,Xy]at hk;rw[List.getElem_take];have:=b.lo k (by lia) (by lia)
   simpa using this
  rcases Wz.mp hy with rfl | hy
  ·exact lt
  ·exact h'.2.2 x hx y hy
structure TI(L:Bool)(t:SetTable):Prop where
 ris:mC t.place
 dum:t.dummies=#[]
 led:t.led=L
theorem TI.fresh{L:Bool}(f m:Nat):TI L (.fresh f m L):=⟨List.Pairwise.nil,rfl,rfl⟩
theorem TI.standIn{L:Bool}{t:SetTable}(h:TI L t)(n:Nat):TI L (t.standIn n):=⟨by
 unfold mC SetTable.standIn;rw[show (Array.range n).toList=List.range n by simp]
 exact Yv,rfl,h.led⟩
theorem TI.orStandIn{L:Bool}{t:SetTable}(h:TI L t)(n:Nat):TI L (t.orStandIn n):=by
 unfold SetTable.orStandIn;split
 ·exact h
 ·exact h.standIn n
def EY{L:Bool}{t:SetTable}(h:TI L t){j:Nat}(e:t.slot j=.empty):j∉t.place.toList:=λhj=>by
 obtain⟨k,hk,rfl⟩:=Xv.mp hj;have gu:k<t.place.size:=by simpa using hk
 have b:=below_at h.ris gu;unfold SetTable.slot at e;simp only[Array.getElem_toList]at e;rw[b]at e;simp[Array.getElem?_eq_getElem gu]at e
def Ez{L:Bool}{t:SetTable}(h:TI L t)(j:Nat):t.slot j≠.dummy:=λe=>by
 unfold SetTable.slot SetTable.has at e;rw[h.dum]at e;dsimp only at e;split at e
 ·cases e
 ·simp at e
theorem sG{L:Bool}{t:SetTable}(ti:TI L t){ha:Nat->Int}{h:Int}{j:Nat}{d:Option Nat}:∀ (fuel:Nat) (p:SetTable.Probe),p.dummy=none->SetTable.probe.go t ha h fuel p=some (.empty j d)->t.slot j=.empty/\d=none
 |0,p,_,e=>by unfold SetTable.probe.go at e;cases e
 | fuel + 1,p,hp,e=>by
   unfold SetTable.probe.go at e;split at e
   ·rename_i hs;cases e;exact⟨hs,hp⟩
   ·rename_i hs;exact absurd hs (Ez ti _)
   ·split at e
    ·cases e
    ·refine sG ti fuel _ ?_ e;unfold SetTable.advance;split<;>exact hp
set_option tactic.hygienic true in
def G9{L:Bool}{t:SetTable}(h:TI L t)(es:A5)(hs:Int)(x:Value):TI L (layNew t es hs x).2.1:=by
 unfold layNew;split
 ·rename_i slot wd e;unfold SetTable.freeSlot SetTable.probe at e;split at e
  ·rename_i j d em;obtain⟨h1,h2⟩:=sG h _ _ rfl em;subst h2;cases e;dsimp only;refine TI.orStandIn (t:=(t.put (none.getD j)).1) (TI.mk ?_ ?_ h.led) _
   ·exact uR h.ris (EY h h1)
   ·show (if SetTable.has t.dummies _ then _ else _)=_
    rw[h.dum];split
    ·rename_i c;unfold SetTable.has at c;simp at c
    ·rfl
  ·cases e
 ·exact h.standIn _
def BP{L:Bool}{mask finger moves:Nat}{plain:Bool}{hs:Array Int}{r:SetTable×B9}(e:SetTable.laid mask finger moves L plain hs=some r):TI L r.1:=by
 unfold SetTable.laid at e;obtain⟨owner,_,e2⟩:=Wv.mp e;cases e2;refine⟨?_,rfl,rfl⟩;unfold mC;dsimp only;rw[Zo];refine List.Pairwise.filterMap (R:=λ(a b:Nat)=>a<b) _ (λa b ko x hx y hy=>?_) Yv
 obtain⟨_,_,rfl⟩:=Wk.mp hx;obtain⟨_,_,rfl⟩:=Wk.mp hy;exact ko
set_option tactic.hygienic true in
def K3{L:Bool}{t:SetTable}(h:TI L t)(es:A5)(n:Nat):TI L (relayAll t es n).2.1:=by
 unfold relayAll;split
 ·rename_i t' order e;dsimp only;split
  ·unfold SetTable.relaid at e;rw[h.led]at e;exact BP e
  ·exact h.standIn _
 ·exact h.standIn _
end LS
namespace LS
open PyProof.Rows
def vInt:Value->Int
 |.int i _=>i
 |_=>0
def ju(l:List (Int×Value)):C1:=l.map λe=>vInt e.2
abbrev aX(es:A5)(ep:Nat)(t:SetTable):Obj:={ cls:=.type "set",dict:=none,data:=.set es ep t }
structure SetG(prog:C5)(w:World)(L:Bool)(h:Heap)(a:Addr)(ks:C1):Prop where
 ex:∃es ep t,h.get? a=some (aX es ep t)/\ElemsOf (intKind prog w) es.toList/\(ju es.toList).Perm ks/\t.fits es.size=true/\TI L t/\es.size<scanBound
def yU(h:(intKind prog w).is k v=true):∃t,v=.int k t:=by have h':Value.isInt k v=true:=h;cases v<;>simp[Value.isInt]at h';subst h';exact⟨_,rfl⟩
def yF(h:ElemsOf (intKind prog w) l)(he:e∈l):∃t,e.2=.int (vInt e.2) t:=by obtain⟨⟨k,hk,_⟩,_⟩:=h e he;obtain⟨t,q⟩:=yU hk;rw[q];exact⟨t,rfl⟩
def find_key(h:ElemsOf (intKind prog w) l)(k:Int):(l.findIdx? λe=>(intKind prog w).is k e.2).isSome=decide (k∈ju l):=by
 rw[WW,Xk,List.findIdx?_isSome,Zb];unfold ju;rw[WQ];constructor
 ·rintro⟨e,he,q⟩;obtain⟨t,e2⟩:=yU q;exact⟨e,he,by rw[e2];rfl⟩
 ·rintro⟨e,he,rfl⟩;obtain⟨t,q⟩:=yF h he;refine⟨e,he,?_⟩;rw[q];exact aaB _ _ _ _
section
variable{prog:C5}{w:World}{A:Around}{E:A3}{s:Shared}{L:Bool}
def rJ{h:Heap}{a:Addr}{es es1:A5}{ep:Nat}{t t1:SetTable}(ho:h.get? a=some (aX es ep t)):(h.update a (Obj.putSet es1 t1)).get? a=some (aX es1 (ep+1) t1):=by
 have q:=Zv (Obj.putSet es1 t1) ho (by rw[putSet_of es1 t1 rfl];rfl)
 rw[putSet_of es1 t1 rfl]at q;exact q
def I8{g:Bool->Sem Unit}(hg:∀ (b:Bool) (s1:Shared) (R:Unit->B2),R () s1->wq prog w A (g b) R E s1){a:Addr}{es es1:A5}{ep:Nat}{t t2:SetTable}{ks:C1}{wd:Bool}
  (ho:s.heap.get? a=some (aX es ep t)) (mh:ElemsOf (intKind prog w) es1.toList) (hp:(ju es1.toList).Perm ks) (hb:es1.size<scanBound) (hf:t2.fits es1.size=true) (ti:TI L t2) {R:Option Bool->B2}
  (h:∀h',Heap.SameBut a s.heap h'->SetG prog w L h' a ks->R (some true) { s with heap:=h' }) :
  wq prog w A (do
    storeSet a es1 t2
    if (!wd && t2.tooFull)=true then do
        g (relayAll t2 es1 (SetTable.grown es1.size)).2.2
        storeSet a (relayAll t2 es1 (SetTable.grown es1.size)).1 (relayAll t2 es1 (SetTable.grown es1.size)).2.1
        pure (some true)
     else pure (some true)) R E s:=by
 refine Wg (aap ho rfl ?_ (aam hb));have o1:=rJ (es1:=es1) (t1:=t2) ho;have b1:=X4 s.heap a (Obj.putSet es1 t2);split
 ·have p2:=relayAll_perm t2 es1 (SetTable.grown es1.size);have f2:=relayAll_fits t2 es1 (SetTable.grown es1.size);have ti2:=K3 ti es1 (SetTable.grown es1.size);revert p2 f2 ti2;generalize relayAll t2 es1 (SetTable.grown es1.size)=Z;obtain⟨es2,t3,gv⟩:=Z;dsimp only;intro p2 f2 ti2;have sz:es2.size=es1.size:=by rw[<-Xy,p2.length_eq,Xy]
  refine Wg (hg _ _ _ (Wg (aap o1 rfl ?_ (aam (by rw[sz];exact hb)))))
  refine Wh (h _ (b1.trans (X4 _ a _)) ⟨es2,_,t3,rJ o1,mh.perm p2,(p2.map _).trans hp,f2,ti2,by rw[sz];exact hb⟩)
 ·exact Wh (h _ b1 ⟨es1,_,t2,o1,mh,hp,hf,ti,hb⟩)
def add_int(hS:SetG prog w L s.heap a ks)(room:ks.length + 1<scanBound)
  (h:∀h' b,Heap.SameBut a s.heap h'->SetG prog w L h' a (if k∈ks then ks else ks++[k])->Q b { s with heap:=h' }):wq prog w A (setAddHashed a (.int k tk) ((intKind prog w).hash k)) Q E s:=by
 obtain⟨es,ep,t,ho,mh,hp,hf,ti,hb⟩:=hS.ex;have kk:(intKind prog w).is k (.int k tk)=true:=aaB _ _ _ _;have len:es.size=ks.length:=by have:=hp.length_eq;unfold ju at this;rw[Wm,Xy]at this;exact this
 unfold setAddHashed setAddHashedIn;refine Xw (Wg (Xz ho rfl hf ?_));dsimp only;rw[byScan_of (knd:=intKind prog w) (x:=.int k tk) rfl hb mh,Wq rfl];unfold setAddByScan;refine Wg (Wg (Y8 (Wg (wpAny_setScan_of kk ho rfl hf mh ?_))));have fk:=find_key mh k;have mk:k∈ju es.toList ↔ k∈ks:=hp.mem_iff;cases hr:List.findIdx? (λe=>(intKind prog w).is k e.2) es.toList with
 |some j=>
   rw[hr]at fk;have hk:k∈ks:=mk.mp (Xe fk.symm);have q:=h s.heap false (Heap.SameBut.refl a s.heap) (by rw[Wq hk];exact hS)
   have e:s={ s with heap:=s.heap }:=by cases s;rfl
   rw[e];exact Wh (Wh q)
 | none=>
   rw[hr]at fk;have hk:k∉ks:=λz=>by have:=of_decide_eq_false fk.symm;exact this (mk.mpr z)
   rw[Ww hk]at h;dsimp only;have p1:=layNew_perm t es ((intKind prog w).hash k) (.int k tk);have f1:=layNew_fits t es ((intKind prog w).hash k) (.int k tk);have ti1:=G9 ti es ((intKind prog w).hash k) (.int k tk);revert p1 f1 ti1;generalize layNew t es ((intKind prog w).hash k) (.int k tk)=Z;obtain⟨es1,t1,wd,gv⟩:=Z;dsimp only;intro p1 f1 ti1;rw[Array.toList_push]at p1;have el1:ElemsOf (intKind prog w) es1.toList:=(mh.push kk rfl).perm p1;have pk:(ju es1.toList).Perm (ks++[k]):=by refine (p1.map _).trans ?_;rw[XR];exact hp.append_right _
   have b1:es1.size<scanBound:=by rw[<-Xy,p1.length_eq,W3,Xy,len];exact room
   have gw:∀(b:Bool) (s1:Shared) (R:Unit->B2),R () s1->wq prog w A (match b with | true=>rule "set.scan.the-table-gave-way" | false=>pure ()) R E s1:=λb s1 R hq=>by
    cases b
    ·exact Wh hq
    ·exact Y8 hq
   refine Wg (gw gv _ _ ?_);split
   ·refine Wg ?_;rw[hashByValue_scannable 8 (x:=.int k tk) rfl];refine Wh ?_;simp only[plainKind,↓reduceIte];refine I8 ?_ ho el1 pk b1 f1 ti1 ?_
    ·intro b s1 R hq;cases b
     ·exact Wh hq
     ·exact Y8 hq
    ·intro h' sb g;exact Wh (h h' true sb g)
   ·refine Wg (Wh ?_);simp only[↓reduceIte];refine I8 ?_ ho el1 pk b1 f1 ti1 ?_
    ·intro b s1 R hq;cases b
     ·exact Wh hq
     ·exact Y8 hq
    ·intro h' sb g;exact Wh (h h' true sb g)
end
def cC:Slot "set_iterator" "__next__" "set_iterator.__next__":=.of (owner := "set_iterator") (n := "__next__") (by rw[typeLookup_type,builtinLookup_eq_fast];kernel_rfl) (by decide +kernel) (by decide +kernel) (by decide +kernel) (by first | exact .inl (by decide +kernel) | exact .inr (by decide +kernel)) (by rw[isSubtype_type];kernel_rfl)
def CP:Slot "set_iterator" "__iter__" "set_iterator.__iter__":=.of (owner := "set_iterator") (n := "__iter__") (by rw[typeLookup_type,builtinLookup_eq_fast];kernel_rfl) (by decide +kernel) (by decide +kernel) (by decide +kernel) (by first | exact .inl (by decide +kernel) | exact .inr (by decide +kernel)) (by rw[isSubtype_type];kernel_rfl)
def g8:entryFor table "set_iterator.__next__"=some Builtin.«set_iterator.__next__»:=entryFor_of_fast (by kernel_rfl)
def JX:entryFor table "set_iterator.__iter__"=some Builtin.«dict_keyiterator.__iter__»:=entryFor_alias (id' := "dict_keyiterator.__iter__") (by kernel_rfl) rfl (by decide +kernel) (by kernel_rfl)
def w5:entryFor table "set.__iter__"=some Builtin.«frozenset.__iter__»:=entryFor_alias (id' := "frozenset.__iter__") (by kernel_rfl) rfl (by decide +kernel) (by kernel_rfl)
def jz(a:Value):argsOk "set_iterator.__next__" ⟨[a],[]⟩:=by unfold argsOk;kernel_rfl
def MJ(a:Value):argsOk "set_iterator.__iter__" ⟨[a],[]⟩:=by unfold argsOk;kernel_rfl
theorem Cr(next:Nat->Nat):∀ (fuel k:Nat) (left:List α) (out:Array α),left.length=fuel->(pickOrder.go next fuel k left out).toList.Perm (out.toList++left)
 |0,k,left,out,h=>by have:left=[]:=aaj.mp h;subst this;unfold pickOrder.go;simp
 | fuel + 1,k,left,out,h=>by
   unfold pickOrder.go;have hm:next k%left.length<left.length:=Yj _ (by lia)
   generalize next k%left.length=m at hm
   rw[Wl hm];dsimp only;refine (Cr next fuel (k+1) (left.eraseIdx m) (out.push left[m]) (by rw[List.length_eraseIdx,Wq hm];lia)).trans ?_
   rw[Array.toList_push,Ym];refine List.Perm.append_left _ ?_;have:∀ (l:List α) (t:Nat) (ht:t<l.length),(l[t]::l.eraseIdx t).Perm l:=by
    intro l;induction l with
    |nil=>intro t ht;exact absurd ht (by simp)
    |cons a l ih=>
      intro t ht;cases t with
      |zero=>exact .refl _
      |succ t=>exact (List.Perm.swap a _ _).trans ((ih t (by simpa using ht)).cons a)
   exact this left m hm
def HB(next:Nat->Nat)(xs:Array α):(pickOrder next xs).toList.Perm xs.toList:=by unfold pickOrder;exact (Cr next xs.size 0 xs.toList #[] (by simp)).trans (by simp)
section
variable{prog:C5}{w:World}{A:Around}{E:A3}{s:Shared}
def xf(hn:n≠0)(h:∀i d',i<n->Q i { s with drawn:=d' }):wq prog w A (choose src n) Q E s:=λΓ p hΓ=>⟨hn,h _ _ (Yj _ (by lia))⟩
theorem wK:∀ (n:Nat) (xs:C0) {s:Shared}{Q:C0->B2},xs.length=n->(∀ ys d',ys.Perm xs->Q ys { s with drawn:=d' })->wq prog w A (drawOrder n xs) Q E s
 |0,xs,s,Q,h,q=>by have:xs=[]:=aaj.mp h;subst this;unfold drawOrder;exact Wh (q [] s.drawn (.refl _))
 |n+1,[],s,Q,h,q=>by cases h
 | n + 1,x::xs,s,Q,h,q=>by
   unfold drawOrder;refine Wg (xf (by simp) λi d' hi=>?_)
   rw[Wl hi];dsimp only;refine Wg (wK n ((x::xs).eraseIdx i) (by rw[List.length_eraseIdx,Wq hi];simp at h ⊢;lia) λys d2 p=>Wh (q _ d2 ?_))
   refine (p.cons _).trans ?_;have:∀ (l:C0) (t:Nat) (ht:t<l.length),(l[t]::l.eraseIdx t).Perm l:=by
    intro l;induction l with
    |nil=>intro t ht;exact absurd ht (by simp)
    |cons a l ih=>
      intro t ht;cases t with
      |zero=>exact .refl _
      |succ t=>exact (List.Perm.swap a _ _).trans ((ih t (by simpa using ht)).cons a)
   exact this _ i hi
end
abbrev kO(vs:B4):Obj:={ cls:=.type "set_iterator",data:=.fields vs }
abbrev bM(w:World):Bool:=w.params.followText "set-order"
def pC(w:World)(h:Heap)(I a tp:Addr)(es:A5)(ep:Nat)(t:SetTable)(ord:B5)(i:Nat):Prop:=
 (bM w=true/\h.get? I=some (kO #[.int 0 0,.int i 0,.ref a,.int es.size 0,.int ep 0])/\ord=(pickOrder (w.params.setOrder a ep) es).toList.map (·.2))
 \/ (bM w=false/\(!t.plain&&decide (es.size > 1))=false/\∃sl:Nat,h.get? I=some (kO #[.int sl 0,.int i 0,.ref a,.int es.size 0,.int ep 0])/\SetTable.below t.place sl=i/\ord=es.toList.map (·.2))
 \/ (bM w=false/\(!t.plain&&decide (es.size > 1))=true/\∃ps,tp≠I/\h.get? I=some (kO #[.ref tp,.int i 0,.ref a,.int es.size 0,.int ep 0])/\h.get? tp=some { cls:=.type "tuple",data:=.seq ((ps:C0).map λ(p:Nat)=>rawInt (p:Int)).toArray }/\ps.Perm (List.range es.size)/\ord=ps.map (λp=>(es.getD p (0,.none)).2))
section
variable{prog:C5}{w:World}{A:Around}{E:A3}{s:Shared}{I a tp:Addr}{es:A5}{ep:Nat}{t:SetTable}{ord:B5}{i:Nat}
def iV{h:Heap}{vs:B4}{k:Nat}{v:Value}(e:h.get? I=some (kO vs)):(h.update I (Obj.mapFields (·.setIfInBounds k v))).get? I=some (kO (vs.setIfInBounds k v)):=by have q:=Zv (Obj.mapFields (·.setIfInBounds k v)) e (Obj.isFreed_of_fields (Obj.data_mapFields rfl _));rw[q];rfl
def Hs(hb:bM w=true)(ho:s.heap.get? a=some (aX es ep t))(hf:t.fits es.size=true){sl:Nat}{Q:Option (Value×Nat)->B2}(q:Q (((pickOrder (w.params.setOrder a ep) es)[i]?).map λe=>(e.2,sl)) s):
  wq prog w A (setNext a sl i ep) Q E s:=by
 unfold setNext setsByText;refine Wg (Xz ho rfl hf ?_);refine Wg (Wg (YB (Wh ?_)));have hb':(model prog w).w.params.followText "set-order"=true:=hb;rw[Wq hb'];simp only[bne_self_eq_false,Bool.false_eq_true,↓reduceIte];unfold setWalk setsByText;refine Wg (Wg (Xz ho rfl hf ?_));refine Wg (Wg (YB (Wh ?_)));rw[Wq hb'];exact Wg (YB (Wh (Wh q)))
def Ht(hb:bM w=false)(hd:(!t.plain && decide (es.size > 1))=false)(ti:TI (!bM w) t)(ho:s.heap.get? a=some (aX es ep t))(hf:t.fits es.size=true){sl:Nat}{Q:Option (Value×Nat)->B2}
  (q:Q (match es[SetTable.below t.place sl]?,t.place[SetTable.below t.place sl]? with
    |some (_,x),some j=>some (x,j+1)
    |_,_=>none) s):wq prog w A (setNext a sl i ep) Q E s:=by
 unfold setNext setsByText;refine Wg (Xz ho rfl hf ?_);refine Wg (Wg (YB (Wh ?_)));have hb':¬ (model prog w).w.params.followText "set-order"=true:=by rw[show (model prog w).w.params.followText "set-order"=bM w from rfl,hb];decide
 rw[Ww hb'];have hl:t.led=true:=by rw[ti.led,hb];rfl
 show wpAny _ _ (if (!t.plain&&decide (es.size > 1))=true then _ else _) _ _ _
 rw[hd,Ww (by decide)]
 refine Wg ?_;show wpAny _ _ (if (!t.led&&!es.isEmpty)=true then _ else _) _ _ _
 rw[hl];exact Wh (Wh q)
def next_item(ho:s.heap.get? a=some (aX es ep t))(hf:t.fits es.size=true)(ti:TI (!bM w) t)(ay:a≠I)(c:pC w s.heap I a tp es ep t ord i)(hi:i<ord.length){Q:B1->B2}
  (q:∀h',Heap.SameBut I s.heap h'->pC w h' I a tp es ep t ord (i+1)->Q (some ord[i]) { s with heap:=h' }):wq prog w A (pyNext (.ref I)) Q E s:=by
 have dc:∀(k:Nat) (v:Value),(s.heap.update I (Obj.mapFields (·.setIfInBounds k v))).get? a=some (aX es ep t):=λk v=>by rw[Yw _ _ (λz=>ay z.symm)];exact ho
 have sz:(((es.size:Nat):Int) != ((es.size:Nat):Int))=false:=bne_self_eq_false _;have sb2:∀(v1 v2:Value) (k1 k2:Nat),Heap.SameBut I s.heap ((s.heap.update I (Obj.mapFields (·.setIfInBounds k1 v1))).update I (Obj.mapFields (·.setIfInBounds k2 v2))):=λv1 v2 k1 k2=>(X4 _ I _).trans (X4 _ I _)
 rcases c with ⟨hb,hI,e⟩ | ⟨hb,hd,sl,hI,hs,e⟩ | ⟨hb,hd,ps,lj,hI,hT,hp,e⟩
 ·have ty:s.TypeIs (.ref I) "set_iterator":=⟨_,hI,rfl⟩;unfold pyNext;refine Wg (YQ (Xp (name:=Str.ofString "__next__") ty cC (Xl cC ty g8 ?_ (jz _))));unfold Builtin.«set_iterator.__next__» slotArgs;refine Wg (Wh ?_);refine Wg (ZF hI rfl ?_);dsimp only;refine Wg (Yt ho rfl hf ?_);rw[sz,Ww (by decide)]
  refine Wg (Hs hb ho hf ?_);have hi':i<(pickOrder (w.params.setOrder a ep) es).size:=by rw[e]at hi;simpa using hi
  have oi:ord[i]=((pickOrder (w.params.setOrder a ep) es)[i]).2:=by subst e;simp
  rw[show ((i:Int)).toNat=i from Yc i,XC hi']
  dsimp only[Option.map_some];refine Wg (X8 hI rfl (by simp) ?_)
  refine Wg (X8 (iV hI) rfl (by simp) ?_)
  refine Wh ⟨_,rfl,Wh ?_⟩;rw[<-oi];refine q _ (sb2 _ _ _ _) (.inl ⟨hb,?_,e⟩);rw[iV (iV hI)];simp[rawInt]
 ·have ty:s.TypeIs (.ref I) "set_iterator":=⟨_,hI,rfl⟩;unfold pyNext;refine Wg (YQ (Xp (name:=Str.ofString "__next__") ty cC (Xl cC ty g8 ?_ (jz _))));unfold Builtin.«set_iterator.__next__» slotArgs;refine Wg (Wh ?_);refine Wg (ZF hI rfl ?_);dsimp only;refine Wg (Yt ho rfl hf ?_);rw[sz,Ww (by decide)]
  refine Wg (Ht hb hd ti ho hf ?_);have hi':i<es.size:=by rw[e]at hi;simpa using hi
  have hps:t.place.size=es.size:=by simp only[SetTable.fits,Bool.and_eq_true,beq_iff_eq]at hf;exact hf.1
  have hi2:i<t.place.size:=by rw[hps];exact hi'
  have oi:ord[i]=(es[i]).2:=by subst e;simp
  rw[show ((sl:Int)).toNat=sl from Yc sl,hs,XC hi',XC hi2]
  dsimp only;refine Wg (X8 hI rfl (by simp) ?_)
  refine Wg (X8 (iV hI) rfl (by simp) ?_)
  refine Wh ⟨_,rfl,Wh ?_⟩;rw[<-oi];refine q _ (sb2 _ _ _ _) (.inr (.inl ⟨hb,hd,t.place[i]+1,?_,Dk ti.ris hi2,e⟩));rw[iV (iV hI)];simp[rawInt]
 ·have ty:s.TypeIs (.ref I) "set_iterator":=⟨_,hI,rfl⟩;have hpl:ps.length=es.size:=by rw[hp.length_eq,W7]
  have hi':i<ps.length:=by rw[e]at hi;simpa using hi
  have hpi:ps[i]<es.size:=Wr.mp (hp.mem_iff.mp (XX hi'));unfold pyNext;refine Wg (YQ (Xp (name:=Str.ofString "__next__") ty cC (Xl cC ty g8 ?_ (jz _))));unfold Builtin.«set_iterator.__next__» slotArgs;refine Wg (Wh ?_);refine Wg (ZF hI rfl ?_);dsimp only;refine Wg (Yt ho rfl hf ?_);rw[sz,Ww (by decide)]
  refine Wg (aaL hT rfl ?_);have g:((ps.map λ(p:Nat)=>rawInt (p:Int)).toArray)[i]?=some (rawInt (ps[i]:Int)):=by simp[hi']
  rw[show ((i:Int)).toNat=i from Yc i]
  dsimp only;rw[g];dsimp only[rawInt];unfold setNextDrawn;refine Wg (Wg (Xz ho rfl hf ?_));simp only[bne_self_eq_false,Bool.false_eq_true,↓reduceIte,Int.toNat_natCast];rw[XC hpi];dsimp only;refine Wh ?_;refine Wg (X8 hI rfl (by simp) ?_)
  refine Wh ⟨_,rfl,Wh ?_⟩;have oi:ord[i]=(es[ps[i]]).2:=by subst e;simp[hpi]
  rw[<-oi];refine q _ (X4 _ I _) (.inr (.inr ⟨hb,hd,ps,lj,?_,?_,hp,e⟩))
  ·rw[iV hI];simp
  ·rw[Yw _ _ (λz=>lj z.symm)];exact hT
end
section
variable{prog:C5}{w:World}{A:Around}{E:A3}{s:Shared}{I a tp:Addr}{es:A5}{ep:Nat}{t:SetTable}{ord:B5}{i:Nat}
def ut(hh:A.handled=none){R:Fin->B2}{Q:B1->B2}(q:∀h',(∀b o,s.heap.get? b=some o->h'.get? b=some o)->Q none { s with heap:=h' }):
  wpAny (model prog w) A.in1 (do raiseNew (<-newExc (.type "StopIteration") [])) R (λe s'=>wq prog w A (do if <-isInstance e (.type "StopIteration") then pure none else throw e) Q E s') s:=by
 refine Wg ?_;simp only[newExc,newTuple];refine Wg (Xb ?_ (by size_fits))
 refine Wg (m:=firstArgMember _ _) (wpAny_of_eq (a:=.none) (by first | rfl | (simp only[firstArgMember];rfl)) (Xb ?_ (by size_fits)))
 simp only[raiseNew];refine Wg (wpAny_handled ?_);have h1:A.in1.handled=none:=hh;rw[h1];refine Wg (Wh (wpAny_throw ?_));refine Wg (aaQ (T := "StopIteration") (b:=true) ⟨_,Wu _ rfl,rfl⟩ isSubtype_stop ?_);exact Wh (q _ λb o e=>Wi _ (Wi _ e))
def next_end(hh:A.handled=none)(ho:s.heap.get? a=some (aX es ep t))(hf:t.fits es.size=true)(ti:TI (!bM w) t)(c:pC w s.heap I a tp es ep t ord ord.length){Q:B1->B2}
  (q:∀h',(∀b o,b≠I->s.heap.get? b=some o->h'.get? b=some o)->Q none { s with heap:=h' }):wq prog w A (pyNext (.ref I)) Q E s:=by
 have sz:(((es.size:Nat):Int) != ((es.size:Nat):Int))=false:=bne_self_eq_false _;have k1:∀(v1:Value) (k1:Nat) b o,b≠I->s.heap.get? b=some o->(s.heap.update I (Obj.mapFields (·.setIfInBounds k1 v1))).get? b=some o:=λv1 k1 b o hb e=>by rw[Yw _ _ (λz=>hb z.symm)];exact e
 rcases c with ⟨hb,hI,e⟩ | ⟨hb,hd,sl,hI,hs,e⟩ | ⟨hb,hd,ps,lj,hI,hT,hp,e⟩
 ·have ty:s.TypeIs (.ref I) "set_iterator":=⟨_,hI,rfl⟩;unfold pyNext;refine Wg (YQ (Xp (name:=Str.ofString "__next__") ty cC (Xl cC ty g8 ?_ (jz _))));unfold Builtin.«set_iterator.__next__» slotArgs;refine Wg (Wh (Wg (ZF hI rfl ?_)));dsimp only;refine Wg (Yt ho rfl hf ?_);rw[sz,Ww (by decide)]
  refine Wg (Hs hb ho hf ?_);have hi':(pickOrder (w.params.setOrder a ep) es)[((ord.length:Int)).toNat]?=none:=by rw[Yc,ZV,e];simp
  rw[hi'];dsimp only[Option.map_none];refine Wg (X8 hI rfl (by simp) ?_)
  exact ut hh λh' k=>q h' λb o hb e=>k b o (k1 _ _ b o hb e)
 ·have ty:s.TypeIs (.ref I) "set_iterator":=⟨_,hI,rfl⟩;unfold pyNext;refine Wg (YQ (Xp (name:=Str.ofString "__next__") ty cC (Xl cC ty g8 ?_ (jz _))));unfold Builtin.«set_iterator.__next__» slotArgs;refine Wg (Wh (Wg (ZF hI rfl ?_)));dsimp only;refine Wg (Yt ho rfl hf ?_);rw[sz,Ww (by decide)]
  refine Wg (Ht hb hd ti ho hf ?_);have hi':es[ord.length]?=none:=by rw[ZV,e];simp
  rw[show ((sl:Int)).toNat=sl from Yc sl,hs,hi']
  dsimp only;refine Wg (X8 hI rfl (by simp) ?_)
  exact ut hh λh' k=>q h' λb o hb e=>k b o (k1 _ _ b o hb e)
 ·have ty:s.TypeIs (.ref I) "set_iterator":=⟨_,hI,rfl⟩;unfold pyNext;refine Wg (YQ (Xp (name:=Str.ofString "__next__") ty cC (Xl cC ty g8 ?_ (jz _))));unfold Builtin.«set_iterator.__next__» slotArgs;refine Wg (Wh (Wg (ZF hI rfl ?_)));dsimp only;refine Wg (Yt ho rfl hf ?_);rw[sz,Ww (by decide)]
  refine Wg (aaL hT rfl ?_);have g:((ps.map λ(p:Nat)=>rawInt (p:Int)).toArray)[((ord.length:Int)).toNat]?=none:=by rw[Yc,ZV,e];simp
  dsimp only;rw[g];dsimp only;refine Wg (X8 hI rfl (by simp) ?_)
  refine Wg (X8 (iV hI) rfl (by simp) ?_)
  refine ut hh λh' k=>q h' λb o hb e=>k b o ?_
  rw[Yw _ _ (λz=>hb z.symm)]
  exact k1 _ _ b o hb e
def J5(ho:s.heap.get? a=some (aX es ep t))(hf:t.fits es.size=true)(ti:TI (!bM w) t)(hb:es.size<scanBound)
  (q:∀h' d' I tp ord,s.z<=I->(∀b o,s.heap.get? b=some o->h'.get? b=some o)->I<h'.objs.size->(tp=a\/(s.z<=tp/\tp<h'.objs.size))->pC w h' I a tp es ep t ord 0->ord.Perm (es.toList.map (·.2))->Q (.ref I) { s with heap:=h',drawn:=d' }):wq prog w A (pyIter (.ref a)) Q E s:=by
 have ty:s.TypeIs (.ref a) "set":=⟨_,ho,rfl⟩;refine wpAny_pyIter_slot ty F.slot_set_iter (Xl F.slot_set_iter ty w5 ?_ (F.args_set_iter_1 _));unfold Builtin.«frozenset.__iter__» Builtin.Frozenset.slot0 slotArgs Builtin.Frozenset.addrOf Builtin.Frozenset.sizeOf setDrawn setsByText;simp only[List.isEmpty_nil,Bool.not_true,Bool.false_eq_true,↓reduceIte,bind_assoc,List.length_nil,bne_self_eq_false];refine Wg (Wh (Wg (Wh ?_)));refine Wg (Yt ho rfl hf (Wg (Wh ?_)));refine Wg (Xz ho rfl hf ?_);refine Wg (YB (Wg (Wh (Wg (Wh ?_)))));show wpAny _ _ (if (!bM w&&(!t.plain&&decide (es.size > 1)))=true then _ else _) _ _ _
 by_cases hc:(!bM w&&(!t.plain&&decide (es.size > 1)))=true
 ·rw[Wq hc];rw[YC]at hc;have hB:bM w=false:=by simpa using hc.1
  refine Wg (wK es.size (List.range es.size) (by simp) λps d' hp=>?_)
  have pl:ps.length=es.size:=by rw[hp.length_eq,W7]
  simp only[newTuple,newFields];refine Wg (Xb ?_ (by show _<=sizeLine;have:=aam hb;simp;lia))
  have ho1:=Wi { cls:=.type "tuple",data:=.seq ((ps.map λ(i:Nat)=>rawInt (i:Int)).toArray) } ho
  refine Wg (wpAny_setEpoch_of ho1 rfl hf ?_);refine Wg (Xb (Wh ⟨_,rfl, "set_iterator",_,⟨_,Wu _ rfl,rfl⟩,cC.lookup,?_⟩) (by show _<=_;simp[sizeLine_eq]))
  refine q _ d' _ s.z (ps.map (λp=>(es.getD p (0,.none)).2)) (by dsimp only;simp only[Heap.size_push];lia) (λb o e=>Wi _ (Wi _ e)) (by dsimp only;simp only[Heap.size_push];lia) (.inr ⟨Wn _,by dsimp only;simp only[Heap.size_push];exact Yo (Yi _)⟩) (.inr (.inr ⟨hB,hc.2,ps,?_,Wu _ rfl,Wi _ (Wu _ rfl),hp,rfl⟩)) ?_
  ·dsimp only;simp only[Heap.size_push];exact WL (Yi _)
  ·refine (hp.map _).trans (List.Perm.of_eq ?_);apply aao;intro k;by_cases hk:k<es.size
   ·simp[hk,Array.getD]
   ·rw[Xx (by simp;lia),Xx (by simp;lia)]
 ·rw [Ww hc];refine Wg (Wh ?_);simp only[newFields];refine Wg (wpAny_setEpoch_of ho rfl hf ?_);refine Wg (Xb (Wh ⟨_,rfl, "set_iterator",_,⟨_,Wu _ rfl,rfl⟩,cC.lookup,?_⟩) (by show _<=_;simp[sizeLine_eq]))
  have fin:∀ord,pC w (s.heap.push (kO #[.int 0 0,.int 0 0,.ref a,.int es.size 0,.int ep 0])) s.z a a es ep t ord 0->ord.Perm (es.toList.map (·.2))->Q (.ref s.z) { s with heap:=s.heap.push (kO #[.int 0 0,.int 0 0,.ref a,.int es.size 0,.int ep 0]) }:=λord c p=>
   q _ s.drawn s.z a ord (Wn _) (λb o e=>Wi _ e) (by rw[Xr];lia) (.inl rfl) c p
  cases hB:bM w with
  |true=>exact fin _ (.inl ⟨hB,Wu _ rfl,rfl⟩) ((HB _ es).map _)
  |false=>
    rw[hB]at hc;have hd:(!t.plain&&decide (es.size > 1))=false:=by simpa using hc
    exact fin _ (.inr (.inl ⟨hB,hd,0,Wu _ rfl,Dl ti.ris,rfl⟩)) (.refl _)
def pC.at(c:pC w h I a tp es ep t ord i)(k1:∀o,h.get? I=some o->h'.get? I=some o)(k2:∀o,h.get? tp=some o->h'.get? tp=some o):pC w h' I a tp es ep t ord i:=by
 rcases c with ⟨hb,hI,e⟩ | ⟨hb,hd,sl,hI,hs,e⟩ | ⟨hb,hd,ps,lj,hI,hT,hp,e⟩
 ·exact .inl ⟨hb,k1 _ hI,e⟩
 ·exact .inr (.inl ⟨hb,hd,sl,k1 _ hI,hs,e⟩)
 ·exact .inr (.inr ⟨hb,hd,ps,lj,k1 _ hI,k2 _ hT,hp,e⟩)
def pC.ty(c:pC w h I a tp es ep t ord i):∃vs,h.get? I=some (kO vs):=by rcases c with ⟨hb,hI,e⟩ | ⟨hb,hd,sl,hI,hs,e⟩ | ⟨hb,hd,ps,lj,hI,hT,hp,e⟩<;>exact⟨_,hI⟩
def Ji(hh:A.handled=none)(hf:t.fits es.size=true)(ti:TI (!bM w) t)(ay:a≠I):
  Walks prog w A I [I,a,tp] [I] ord.length (λi v=>ord[i]?=some v) (λi h=>h.get? a=some (aX es ep t)/\pC w h I a tp es ep t ord i) where
 sub:=λb hb=>by simp at hb;simp[hb]
 frame:=λz z z st hk=>⟨hk a (by simp) _ st.1,st.2.at (λo e=>hk I (by simp) o e) λo e=>hk tp (by simp) o e⟩
 item:=λi s Q E hi st hQ=>next_item st.1 hf ti ay st.2 hi λh' sb c=>hQ _ h' s.toks (by simp[hi]) ⟨sb.extBut a _ ay st.1,c⟩ λb o hb e=>sb.extBut b o (λh=>hb (by simp[h])) e
 done:=λs Q E st hQ=>next_end hh st.1 hf ti st.2 λh' k=>hQ h' s.toks λb o hb e=>k b o (λh=>hb (by simp[h])) e
 self:=λi s Q E st hQ=>by obtain⟨vs,hI⟩:=st.2.ty;have ty:s.TypeIs (.ref I) "set_iterator":=⟨_,hI,rfl⟩;exact wpAny_pyIter_slot ty CP (Xl CP ty JX (Wh ⟨_,rfl, "set_iterator",_,ty,cC.lookup,hQ⟩) (MJ _))
end
def SetG.at(g:SetG prog w L h a ks)(k:∀o,h.get? a=some o->h'.get? a=some o):SetG prog w L h' a ks:=by obtain⟨es,ep,t,ho,r⟩:=g.ex;exact⟨es,ep,t,k _ ho,r⟩
def ur(ks:C1)(k:Int):(if k∈ks then ks else ks++[k])=step_dedup ks k:=by
 unfold step_dedup;by_cases h:k∈ks
 ·rw[Wq h,Wq (Zb.mpr ⟨k,h,by simp⟩)]
 ·rw[Ww h,Ww (λz=>by obtain⟨x,hx,e⟩:=Zb.mp z;exact h (by rw[<-Zi.mp e];exact hx))]
section
variable{prog:C5}{w:World}{A:Around}{R:Result->B2}{I:Addr}{fp wr:B7}{G:Array GenState->Array GenState->Prop}{n:Nat}{P:Nat->Value->Prop}{St:Nat->B2}{L:Bool}
def Tc(W:WalksS prog w A.in1 I fp wr G n P St)(S:Addr)(hSf:S∉fp)(Sp:Nat->B6)(keep:∀ i h h',Sp i h->(∀ b o,b∉wr->h.get? b=some o->h'.get? b=some o)->Sp i h')
  (add:∀i v s Q E,i<n->P i v->Sp i s.heap->(∀h' tk b,s.toks<=tk->Heap.SameBut S s.heap h'->Sp (i+1) h'->Q b { s with heap:=h',toks:=tk })->wpAny (model prog w) A.in1 (setAdd S v) Q E s):∀(k i:Nat) (s:Shared),n-i=k->i<=n->St i s->Sp i s.heap->
  (∀s',Moved (S::wr) G s s'->Sp n s'.heap->R (.ok (.ret .none)) s')->codeAny (model prog w) A (.builtin "set.update.loop" ⟨[.ref S,.ref I],[]⟩) R s:=by
 have sub:∀b∈wr,b∈S::wr:=λb hb=>.tail _ hb
 intro k;induction k with
 |zero=>
   intro i s hk hi ax g hR;obtain rfl:i=n:=by lia
   refine X5 aac ?_;rw[XS YW _];refine Wg (m:=pyNext (.ref I)) (W.done s _ _ ax λs' hm=>?_)
   exact Wh (hR s' (hm.mono sub) (keep _ _ _ g λb o hb e=>hm.heap b o hb e))
 | succ k ih=>
   intro i s hk hi ax g hR;have lt:i<n:=by lia
   refine X5 aac ?_;rw[XS YW _];refine Wg (m:=pyNext (.ref I)) (W.item i s _ _ lt ax λv s' hP hst' hm=>?_)
   refine Wg (m:=holding [v] (setAdd S v)) (Xw (add i v s' _ _ lt hP (keep _ _ _ g λb o hb e=>hm.heap b o hb e) λh' tk b ht sb g2=>?_))
   refine Wh ⟨ZW YW _,ih (i+1) _ (by lia) lt (W.frame _ s' _ _ hst' ht λc hc o e=>?_) g2 λs2 mi g3=>?_⟩
   ·rw[sb.2 c (λz=>hSf (z ▸ hc))];exact e
   ·refine hR s2 (Moved.trans W.gtrans ((hm.mono sub).then_heap ht λc o hc e=>?_) mi) g3
    rw[sb.2 c (λz=>hc (z ▸ WP))];exact e
def Uu(hv:∃t,v=.int (val i) t)(hb:i+1<scanBound)(g:SetG prog w L s.heap S (firstMet val i))(q:∀h' tk b,s.toks<=tk->Heap.SameBut S s.heap h'->SetG prog w L h' S (firstMet val (i+1))->Q b { s with heap:=h',toks:=tk }):wq prog w A (setAdd S v) Q E s:=by
 obtain⟨t,rfl⟩:=hv;unfold setAdd;refine Xw (Wg ((intKind prog w).pyHash (k:=val i) (aaB _ _ _ _) ?_));refine add_int (s:={ s with toks:=s.toks+1 }) g (by have:=firstMet_length_le val i;lia) λh' b sb g2=>?_
 rw[ur,<-firstMet_succ]at g2;exact q h' _ b (Nat.le_succ _) sb g2
end
section
variable{prog:C5}{w:World}{A:Around}{E:A3}{s:Shared}
def Oh(v:Value)(h:Q (.ref s.z) { s with heap:=s.heap.push (aX #[] 0 (.fresh 0 0 (!bM w))) }):
  codeAny (model prog w) A (.call (.builtin "set.__new__") ⟨[.type "set",v],[]⟩) (wants Q E) s:=by
 refine aaG (Wg (m:=checkBuiltinCall "set.__new__" ⟨[.type "set",v],[]⟩) (wpAny_of_eq (F.newCall_set_1 v) (Wh ⟨ZW F.plain_set_new _,X5 F.entry_set_new ?_⟩)));rw[XS F.plain_set_new _];unfold Builtin.«set.__new__» Builtin.Frozenset.newClass;have hsub:=sub_set_self;obtain⟨hp,g,d,tk,os⟩:=s;dsimp only
 wp_walk
 refine YB (Wh ?_);dsimp only;simp only[newObj];exact Wg (wpAny_alloc (Wh (Wh h)))
def Il{Sf:B6}{Q:A3}
  (k6:Shared.TypeIs { s with heap:=s.heap.push (aX #[] 0 (.fresh 0 0 (!bM w))) } (.ref s.z) "set"->codeAny (model prog w) A.in1 (.call (.builtin "set.__init__") ⟨[.ref s.z]++[.ref l],[]⟩) (wants (λr s2=>r=.none/\∃h' tk,s2={ s with heap:=h',toks:=tk }/\Sf h'/\(∀b o,b<s.z->s.heap.get? b=some o->h'.get? b=some o)) E) { s with heap:=s.heap.push (aX #[] 0 (.fresh 0 0 (!bM w))) })
  (h:∀(h':Heap) (tk:Nat),Sf h'->(∀b o,b<s.z->s.heap.get? b=some o->h'.get? b=some o)->Q (.ref s.z) { s with heap:=h',toks:=tk }) :
  wq prog w A (call (.type "set") [.ref l]) Q E s:=by
 obtain⟨c,tl,oz⟩:=F.called_set.mro;have hmade:=F.called_set.made;have hsub:=F.called_set.sub;refine aae (aaG (Wh ⟨Code.quiet_builtin _ (by decide +kernel),X5 F.entry_type_call ?_⟩))
 rw[Around.under_plain (weight_type_call_type "set" [.ref l] []) rfl];have h1:=F.called_set.notType;have h2:=F.called_set.canCreate;have hct:=F.typeCall_set_1 (.ref l)
 repeat (any_goals (first | assumption | wp_step))
 refine Yu (Oh (.ref l) (E:=E) (Q:=λobj s1=>obj=.ref s.z/\s1={ s with heap:=s.heap.push (aX #[] 0 (.fresh 0 0 (!bM w))) }) ⟨rfl,rfl⟩) λr s1 hr=>?_
 cases r with
 |error e=>exact hr
 | ok fl=>
   cases fl with
   | ret obj=>
     obtain⟨rfl,rfl⟩:=hr;have hS:(s.heap.push (aX #[] 0 (.fresh 0 0 (!bM w)))).get? s.z=some (aX #[] 0 (.fresh 0 0 (!bM w))):=Wu _ rfl;have hT:Shared.TypeIs { s with heap:=s.heap.push (aX #[] 0 (.fresh 0 0 (!bM w))) } (.ref s.z) "set":=⟨_,hS,rfl⟩
     have hli:=F.called_set.init.lookup;have hbi:=F.called_set.init.bind (.ref s.z)
     repeat (any_goals (first | assumption | wp_step))
     refine Yu (k6 hT) λr2 s2 hr2=>?_
     cases r2 with
     |error e=>exact hr2
     | ok fl2=>
       cases fl2 with
       |ret r=>
         obtain⟨rfl,h',tk,rfl,mn,gu⟩:=hr2
         repeat (any_goals (first | assumption | wp_step))
         exact h _ _ mn gu
       |_=>exact hr2.elim
   |_=>exact hr.elim
def wF{items:B4}{Sp:Nat->B6}{Q:A3}(hh:A.handled=none)(hl:s.heap.IsList l items)
  (h0:∀h',h'.get? s.z=some (aX #[] 0 (.fresh 0 0 (!bM w)))->(∀b o,b<s.z->s.heap.get? b=some o->h'.get? b=some o)->Sp 0 h') (keep:∀i h h',Sp i h->(∀b o,b∉[s.z+1]->h.get? b=some o->h'.get? b=some o)->Sp i h')
  (add:∀A' i v s1 Q E,A'.units<=A.units+7->i<items.size->items[i]?=some v->Sp i s1.heap->(∀h' tk b,s1.toks<=tk->Heap.SameBut s.z s1.heap h'->Sp (i+1) h'->Q b { s1 with heap:=h',toks:=tk })->wpAny (model prog w) A' (setAdd s.z v) Q E s1)
  (h:∀(h':Heap) (tk:Nat),Sp items.size h'->(∀b o,b<s.z->s.heap.get? b=some o->h'.get? b=some o)->Q (.ref s.z) { s with heap:=h',toks:=tk }) :
  wq prog w A (call (.type "set") [.ref l]) Q E s:=by
 refine Il (Sf:=Sp items.size) (λhT=>codeAny_call_builtin F.called_set.init.plain F.entry_set_init (check_set_init_1 hT ?_)) h
 have hS:(s.heap.push (aX #[] 0 (.fresh 0 0 (!bM w)))).get? s.z=some (aX #[] 0 (.fresh 0 0 (!bM w))):=Wu _ rfl;obtain⟨ol,l6,jv,nl,hdl⟩:=hl;obtain⟨ocls,odict,odata,pw⟩:=ol;simp only at jv hdl;subst jv;subst hdl;have hol':(s.heap.push (aX #[] 0 (.fresh 0 0 (!bM w)))).get? l=some { cls:=.type "list",dict:=odict,data:=.seq items nl,slots:=pw }:=Wi _ l6;have hsls:=F.sub_list_set;have hslf:=F.sub_list_frozenset;have ay:(Value.type "list"==Value.type "dict")=false:=by decide
 have hl1:(s.heap.push (aX #[] 0 (.fresh 0 0 (!bM w)))).IsList l items:=⟨_,hol',rfl,nl,rfl⟩;unfold Builtin.«set.__init__» noKeywords Builtin.Frozenset.updateFrom;generalize hPI:pyIter=PI
 wp_walk
 subst hPI;refine aaq hl1 (Wg (aaM ?_));have hlS:l<s.z:=Wo l6;have hh3:A.in1.in1.in1.handled=none:=by simp[hh]
 have hneI:l≠(s.heap.push (aX #[] 0 (.fresh 0 0 (!bM w)))).objs.size:=by rw[Xr];exact WL (Yo hlS)
 have hSf:s.z∉[(s.heap.push (aX #[] 0 (.fresh 0 0 (!bM w)))).objs.size,l]:=by rw[Xr];simp only[List.mem_cons,List.mem_singleton,List.not_mem_nil,or_false,not_or];exact⟨WL (Yi _),Z6 hlS⟩
 refine Tc ((Walks.list hh3 _ l hneI items).toS) s.z hSf Sp (λi h h' g k=>keep i h h' g (by rw[Xr]at k;exact k)) (λi v s1 Q E lt hP g q=>add _ i v s1 Q E (by show _<=_;simp) lt hP g q) (items.size-0) 0 _ (by lia) (X3 _) ⟨⟨_,Wu _ rfl,rfl,rfl⟩,(hl1.push _)⟩ (h0 _ (Wi _ hS) λb o y e=>Wi _ (Wi _ e)) λs' hm mn=>?_
 obtain⟨h',g',d',tk',os'⟩:=s';have eg:g'=s.gens:=hm.gens;have ed:d'=s.drawn:=hm.drawn;have eo:os'=s.os:=hm.os;subst eg;subst ed;subst eo;refine Wh (Wh ⟨rfl,h',tk',rfl,mn,λb o hb e=>?_⟩)
 have hb2:b≠(s.heap.push (aX #[] 0 (.fresh 0 0 (!bM w)))).objs.size:=by rw[Xr];exact WL (Yo hb)
 exact hm.heap b o (by simp only[List.mem_cons,List.mem_singleton,List.not_mem_nil,or_false,not_or];exact⟨WL hb,hb2⟩) (Wi _ (Wi _ e))
def Gh{items:B4}{ns:C1}{Q:A3}(hh:A.handled=none)(hl:s.heap.IsList l items)(hi:IntsAre items.toList ns)(hb:items.size+1<scanBound)
  (h:∀(h':Heap) (tk:Nat),SetG prog w (!bM w) h' s.z (firstMet (λi=>ns.getD i 0) items.size)->(∀b o,b<s.z->s.heap.get? b=some o->h'.get? b=some o)->Q (.ref s.z) { s with heap:=h',toks:=tk }) :
  wq prog w A (call (.type "set") [.ref l]) Q E s:=by
 refine wF (Sp:=λi h=>SetG prog w (!bM w) h s.z (firstMet (λi=>ns.getD i 0) i)) hh hl (λh' e y=>⟨#[],0,_,e,(λe he=>by simp at he),.refl _,rfl,TI.fresh 0 0,by decide⟩) (λy y y g k=>g.at λo e=>k _ o (by simp) e) (λA' i v s1 Q E y lt hP g q=>Uu (IntsAre.int_at hi i v (by rw[Y0];exact hP)) (by lia) g q) h
end
theorem ints_of:∀ {l:List (Int×Value)},ElemsOf (intKind prog w) l->IntsAre (l.map (·.2)) (ju l)
 |[],_=>.nil
 |e::l,h=>by
   obtain⟨t,q⟩:=yF h (WP (a:=e) (l:=l));show IntsAre (e.2::l.map (·.2)) (vInt e.2::ju l);have ih:=ints_of (prog:=prog) (w:=w) (l:=l) λx hx=>h x (.tail _ hx)
   rw[q];exact .cons _ _ ih
def GX(h:IntsAre vs ns)(p:gx.Perm vs):∃ d4,IntsAre gx d4/\d4.Perm ns:=by
 have key:∀ {vs:B5}{ns:C1},IntsAre vs ns->ns=vs.map vInt/\∀ v∈vs,∃ t,v=.int (vInt v) t:=λ{vs ns} h=>by
  induction h with
  |nil=>exact⟨rfl,λv hv=>by cases hv⟩
  |cons n t hr ih=>
    refine⟨by rw[W2,<-ih.1];rfl,λv hv=>?_⟩
    rcases Wz.mp hv with rfl | hv
    ·exact⟨t,rfl⟩
    ·exact ih.2 v hv
 obtain⟨e,k⟩:=key h;have back:∀ (l:B5),(∀ v∈l,∃ t,v=.int (vInt v) t)->IntsAre l (l.map vInt):=by
  intro l;induction l with
  |nil=>intro _;exact .nil
  |cons v l ih=>
    intro hl;obtain⟨t,q⟩:=hl v (WP);have r:=ih λx hx=>hl x (.tail _ hx)
    rw[W2];generalize vInt v=i at q ⊢
    subst q;exact .cons _ _ r
 refine⟨gx.map vInt,back gx λv hv=>k v (p.mem_iff.mp hv),?_⟩
 rw[e];exact p.map _
def Ly(h:b+1<=a):a≠b:=by lia
section
variable{prog:C5}{w:World}{A:Around}{E:A3}{s:Shared}
def J1(ho:s.heap.get? a=some (aX es ep t))(q:Q false s):wq prog w A (Builtin.List.listLengthHint (.ref a)) Q E s:=by
 have ty:s.TypeIs (.ref a) "set":=⟨_,ho,rfl⟩;unfold Builtin.List.listLengthHint;refine Wg (wpAny_specialOf ty F.slot_set_len.lookup ?_);have sp:splitId "set.__len__"=some ("set", "__len__"):=by decide +kernel
 dsimp only;rw[sp];dsimp only;refine Wg (aaQ (b:=true) ty sub_set_self ?_);refine Wg (aaH ty ?_);exact Wh q
def pR(hh:A.handled=none)(ho:s.heap.get? a=some (aX es ep t))(hf:t.fits es.size=true)(ti:TI (!bM w) t)(hb:es.size<scanBound)(h:∀ h' tk d' vs,vs.Perm (es.toList.map (·.2))->s.z<=h'.objs.size->(∀ b o,s.heap.get? b=some o->h'.get? b=some o)->Q vs { s with heap:=h',toks:=tk,drawn:=d' }):wq prog w A (collect (.ref a)) Q E s:=by
 unfold collect;refine Wg (aaM (X5 aaz ?_));rw[XS aax _];refine Wg (m:=newList []) (Xb (Wh ⟨ZW Y7 _,X5 F.entry_list_iadd ?_⟩));rw[XS Y7 _];have ha:a<s.z:=Wo ho;have ne:s.z≠a:=λz=>by rw[z]at ha;exact Yy _ ha
 have sr:Builtin.List.listSameRef (.ref s.z) (.ref a)=false:=by simp[Builtin.List.listSameRef,ne]
 have p5:(s.heap.push (seqObj "list" #[] 0)).get? s.z=some (seqObj "list" #[] 0):=Wu _ rfl;have ho1:(s.heap.push (seqObj "list" #[] 0)).get? a=some (aX es ep t):=Wi _ ho;show wpAny _ A.in1 (Builtin.List.listExtendWith (.ref s.z) (.ref a) (.ref s.z)) _ _ { s with heap:=s.heap.push (seqObj "list" #[] 0) }
 unfold Builtin.List.listExtendWith;refine Wg (aaH (T := "set") ⟨_,ho1,rfl⟩ ?_);rw[Ww (by rw[sr];decide)]
 refine Wg (J5 (s:={ s with heap:=s.heap.push (seqObj "list" #[] 0) }) ho1 hf ti hb λh1 d1 I tp ord hI k1 hI1 lj c po=>?_)
 have ho2:=k1 a _ ho1;have lst1:=k1 _ _ p5;have szI:s.z+1<=I:=by have:(s.heap.push (seqObj "list" #[] 0)).objs.size<=I:=hI;rw[Xr]at this;exact this
 refine Wg (Xw (J1 ho2 ?_));dsimp only;refine Wg (m:=rule _) (Y8 ?_);unfold Builtin.List.listTouch;refine Wg (Wg (aat lst1 rfl ?_ (by simp) (by simp)))
 have lst2:=aaS lst1 (λx:B4=>x.push .none)
 refine aat lst2 rfl ?_ (by simp[sizeLine_eq]) (by simp)
 have lst3:=aaS lst2 (λx:B4=>x.pop)
 have up:∀b o,b≠s.z->h1.get? b=some o->((h1.update s.z (Obj.mapSeq λx=>x.push .none)).update s.z (Obj.mapSeq λx=>x.pop)).get? b=some o:=λb o hb e=>by rw[aaJ _ _ _ _ hb,aaJ _ _ _ _ hb];exact e
 have neI:I≠s.z:=Ly szI;have netp:tp≠s.z:=by
  rcases lj with z | ⟨z,_⟩
  ·rw[z];exact λq=>ne q.symm
  ·have:s.z+1<=tp:=by have:(s.heap.push (seqObj "list" #[] 0)).objs.size<=tp:=z;rw[Xr]at this;exact this
   exact Ly this
 have ay:a≠I:=WL (ZD ha szI);have hh1:A.in1.in1.handled=none:=by simp[hh]
 have W:=(Ji (prog:=prog) (w:=w) (A:=A.in1) (I:=I) (a:=a) (tp:=tp) (es:=es) (ep:=ep) (t:=t) (ord:=ord) (by simp[hh]) hf ti ay).toS
 have ol:ord.length=es.size:=by rw[po.length_eq];simp
 refine Wh ⟨ZW F.plain_extend_loop _,codeAny_extend_loopS W (by rw[ol];exact aam hb) s.z (by simp;exact⟨λz=>neI z.symm,ne,λz=>netp z.symm⟩) _ ord.length 0 _ #[] _ rfl (X3 _) ⟨up a _ (λq=>ne q.symm) ho2,c.at (λo e=>up I o neI e) λo e=>up tp o netp e⟩ lst3 (ItemsOf.nil _) λs' acc c' hm mn d5=>?_⟩
 refine Wg (m:=load s.z) (aaO mn ?_);have ea:acc.toList=ord:=by
  apply aao;intro k;by_cases hk:k<acc.size
  ·have:=d5.2 k acc[k] (by rw[XC hk])
   rw[this,Y0,XC hk]
  ·rw[Xx (by simp;lia),Xx (by have:=d5.1;lia)]
 obtain⟨h2,g2,d2,mr,os2⟩:=s';have eg:g2=s.gens:=hm.gens;have ed:d2=d1:=hm.drawn;have eo:os2=s.os:=hm.os;subst eg ed eo;refine Wh (h h2 mr d2 acc.toList (by rw[ea];exact po) (YJ (Wo mn)) λb o e=>?_)
 have lt:b<s.z:=Wo e;refine hm.heap b o (by simp;exact⟨WL lt,WL (ZD lt szI)⟩) (up b o (WL lt) (k1 b o (Wi _ e)))
def Av(hh:A.handled=none)(g:SetG prog w (!bM w) s.heap a ks)(h:∀h' tk d' vs ns,IntsAre vs ns->ns.Perm ks->s.z<=h'.objs.size->(∀b o,s.heap.get? b=some o->h'.get? b=some o)->Q vs { s with heap:=h',toks:=tk,drawn:=d' }):wq prog w A (collect (.ref a)) Q E s:=by
 obtain⟨es,ep,t,ho,mh,hp,hf,ti,hb⟩:=g.ex;refine pR hh ho hf ti hb λh' tk d' vs po hz hk=>?_
 obtain⟨ns,hi,hpn⟩:=GX (ints_of mh) po;exact h h' tk d' vs ns hi (hpn.trans hp) hz hk
def Fd(hh:A.handled=none)(g:SetG prog w (!bM w) s.heap a ks)(h64:ks.length<64)
  (h:∀h' tk d' p n vs ns,s.z<=p->h'.get? p=some (seqObj "list" (vs:B5).toArray n)->IntsAre vs ns->ns.Perm ks->ns.Pairwise (·<= ·)->(∀b o,s.heap.get? b=some o->h'.get? b=some o)->Q (.ref p) { s with heap:=h',toks:=tk,drawn:=d' }) :
  wq prog w A (call (.builtin "sorted") [.ref a]) Q E s:=by
 refine Y9 kind_sorted plain_sorted entry_sorted (args_sorted1 _) ?_;unfold Builtin.«sorted»
 refine Wg (m:=checkCount "sorted" 1 1 _) (Wh ?_);refine Wg (Av (by simp[hh]) g λh1 n5 d1 vs ns hi hp sz k1=>?_)
 have vl:vs.length=ns.length:=aag hi;have nl:ns.length=ks.length:=hp.length_eq;have zl:vs.toArray.size<=sizeLine:=by rw[WX,Yx];lia
 refine Wg (wpAny_newList ?_ zl);have oL:(h1.push (seqObj "list" vs.toArray 0)).get? h1.objs.size=some (seqObj "list" vs.toArray 0):=Wu _ rfl;refine Wg (Xw (Xl slot_list_sort ⟨_,oL,rfl⟩ entry_list_sort (list_sort_tree oL hi (by lia) λout d4 a1 a2 a3=>⟨_,rfl,?_⟩) (args_list_sort _)))
 obtain⟨e,he⟩:=sortedHeap_at (out:=out) oL;refine Wh ⟨_,rfl,h _ _ _ h1.objs.size e out.toList d4 sz (by simpa using he) a1 (a2.trans hp) a3 λb o eb=>?_⟩
 have lt:=Wo (k1 b o eb);rw[sortedHeap_old (WL lt) (by rw[size_push'];exact Yo lt)]
 exact Wi _ (k1 b o eb)
end
end LS
namespace L2
open PyProof.Rows LS
def jH(x:Int):C1->C1
 |[]=>[x]
 |y::r=>if x<=y then x::y::r else y::jH x r
theorem p8(x:Int):∀ l:C1,(jH x l).Perm (x::l)
 |[]=>.refl _
 |y::r=>by
   unfold jH;split
   ·exact .refl _
   ·exact ((p8 x r).cons y).trans (.swap x y r)
theorem wN(x:Int):∀ {l:C1},l.Pairwise (·<= ·)->(jH x l).Pairwise (·<= ·)
 |[],_=>by simp[jH]
 | y::r,h=>by
   unfold jH;split
   ·rename_i c;refine Xq.mpr ⟨λz hz=>?_,h⟩
    rcases Wz.mp hz with rfl | hz
    ·exact c
    ·exact Int.le_trans c ((Xq.mp h).1 z hz)
   ·rename_i c;have h':=Xq.mp h;refine Xq.mpr ⟨λz hz=>?_,wN x h'.2⟩
    rcases Wz.mp ((p8 x r).mem_iff.mp hz) with rfl | hz
    ·lia
    ·exact h'.1 z hz
def iW(ns:C1):C1:=(ns.foldl step_dedup []).foldr jH []
theorem cg:∀ l:C1,(l.foldr jH []).Perm l/\(l.foldr jH []).Pairwise (·<= ·)
 |[]=>⟨.refl _,by simp⟩
 |x::l=>by obtain⟨a,b⟩:=cg l;exact⟨(p8 x _).trans (a.cons x),wN x b⟩
theorem fQ:∀ {a b:C1},a.Perm b->a.Pairwise (·<= ·)->b.Pairwise (·<= ·)->a=b
 |[],b,p,_,_=>p.nil_eq
 |x::a,[],p,_,_=>by have:=p.length_eq;simp at this
 | x::a,y::b,p,ha,hb=>by
   have h1:=Xq.mp ha;have h2:=Xq.mp hb;have xy:x=y:=by
    have m1:x∈y::b:=p.mem_iff.mp (WP);have m2:y∈x::a:=p.mem_iff.mpr (WP);rcases Wz.mp m1 with e | m1
    ·exact e
    ·rcases Wz.mp m2 with e | m2
     ·exact e.symm
     ·exact Int.le_antisymm (h1.1 y m2) (h2.1 x m1)
   subst xy;rw[fQ (List.Perm.cons_inv p) h1.2 h2.2]
def Py(ns:C1):(iW ns).length<=ns.length:=by unfold iW;rw[(cg _).1.length_eq];exact foldl_step_dedup_nil_length_le ns
def yI(ns:C1):firstMet (λi=>ns.getD i 0) ns.length=ns.foldl step_dedup []:=by
 unfold firstMet;congr 1;apply aao;intro k;by_cases hk:k<ns.length
 ·simp[hk]
 ·rw[Xx (by simp;lia),Xx (by lia)]
theorem wO:∀ {ns:C1}{us:B5},Vals (ns.map V.int) us->IntsAre us ns
 |[],_,.nil=>.nil
 |n::ns,_,.cons r rr=>by obtain⟨t,rfl⟩:=r;exact .cons n t (wO rr)
def pP:bootBuiltins "sorted"=some (.builtin "sorted"):=by decide +kernel
def wD:bootBuiltins "set"=some (.type "set"):=by decide +kernel
theorem BL:∀ {vs:B5}{ns:C1},vs.length=ns.length->(∀ (j:Nat) v,vs[j]?=some v->∃ n t,ns[j]?=some n/\v=.int n t)->IntsAre vs ns
 |[],[],_,_=>.nil
 |[],_::_,h,_=>by cases h
 |_::_,[],h,_=>by cases h
 |v::vs,n::ns,h,q=>by obtain⟨m,t,e,rfl⟩:=q 0 v rfl;cases e;exact .cons _ _ (BL (by simpa using h) λj v e=>q (j+1) v e)
section
variable{prog:C5}{w:World}{A:Around}{E:A3}{s:Shared}
def Aw(K:W.KdlSrc prog w T r d n P OK)(hh:A.handled=none)(hok:OK s.heap)(hn:n<=sizeLine)
  (h:∀h' tk (acc:B4),s.z<=h'.objs.size->(∀b o,s.heap.get? b=some o->h'.get? b=some o)->ItemsOf P acc n->Q acc.toList { s with heap:=h',toks:=tk }):wq prog w A (collect (.ref r)) Q E s:=by
 unfold collect;refine Wg (aaM (X5 aaz ?_));rw[XS aax _];refine Wg (m:=newList []) (Xb (Wh ⟨ZW Y7 _,X5 F.entry_list_iadd ?_⟩));rw[XS Y7 _];obtain⟨t1,t2⟩:=K.there _ hok;have p5:(s.heap.push (seqObj "list" #[] 0)).get? s.z=some (seqObj "list" #[] 0):=Wu _ rfl;have ok1:OK (s.heap.push (seqObj "list" #[] 0)):=K.keep _ _ hok λb y o e=>Wi _ e
 show wpAny _ A.in1 (Builtin.List.listExtendWith (.ref s.z) (.ref r) (.ref s.z)) _ _ { s with heap:=s.heap.push (seqObj "list" #[] 0) }
 refine W.kdl_extend (A:=A) (R:=λq s'=>match q with
  | .ok (.ret v)=>wq prog w A (match v with
    | .ref a=>do
      let o <-load a
      match o.data with
       |.seq xs _=>pure xs.toList
       |_=>unsupported "internal:collect"
    |_=>unsupported "internal:collect") Q E s'
  |.ok _=>False
  |.error e=>E e s') (s:={ s with heap:=s.heap.push (seqObj "list" #[] 0) }) K hh ok1 s.z (Z6 t1) (Z6 t2) (.ref s.z) 0 p5 (λh1 n5 acc c1 hk mn d5=>?_) hn
 refine Wg (m:=load s.z) (aaO mn ?_);exact Wh (h h1 n5 acc (YJ (Wo mn)) (λb o e=>hk b o (WL (Wo e)) (Wi _ e)) d5)
def Be(hh:A.handled=none)(dd:s.heap.DictOf (mixKind prog w) a kvs)(lo:(a == sysModules)=false)(hk:kvs.map (·.1)=ks.map Sum.inl)(h64:ks.length<64)
  (h:∀h' tk p n vs ns,s.z<=p->h'.get? p=some (seqObj "list" (vs:B5).toArray n)->IntsAre vs ns->ns.Perm ks->ns.Pairwise (·<= ·)->(∀b o,s.heap.get? b=some o->h'.get? b=some o)->Q (.ref p) { s with heap:=h',toks:=tk }) :
  wq prog w A (call (.builtin "sorted") [.ref a]) Q E s:=by
 refine Y9 kind_sorted plain_sorted entry_sorted (args_sorted1 _) ?_;unfold Builtin.«sorted»
 refine Wg (m:=checkCount "sorted" 1 1 _) (Wh ?_);obtain⟨ep,hat⟩:=dd.dictAt;have kl:kvs.length=ks.length:=by have:=congrArg List.length hk;simpa using this
 refine Wg (Aw (W.kdl_dict (knd:=mixKind prog w) (kvs:=kvs) (ep:=ep) lo) (by simp[hh]) hat (by rw[Yx];lia) λh1 n5 acc sz k1 d5=>?_)
 have hi:IntsAre acc.toList ks:=BL (by rw[Xy,d5.1,kl]) λj v e=>by
  obtain⟨k,x,e1,e2⟩:=d5.2 j v (by rw[<-Y0];exact e)
  have e3:(kvs.map (·.1))[j]?=some k:=by rw[WM,e1];rfl
  rw[hk,WM]at e3;obtain⟨n,e4,rfl⟩:=Wk.mp e3;have e2:keyIs (Sum.inl n) v=true:=by rw[<-mixKind_is prog w];exact e2
  rcases keyIs_shape e2 with ⟨i,t,h1,h2⟩ | ⟨x,t,h1,h2⟩
  ·cases h1;exact⟨n,t,e4,h2⟩
  ·cases h1
 have vl:acc.toList.length=ks.length:=aag hi;have zl:acc.toList.toArray.size<=sizeLine:=by rw[WX,Yx];lia
 refine Wg (wpAny_newList ?_ zl);have oL:(h1.push (seqObj "list" acc.toList.toArray 0)).get? h1.objs.size=some (seqObj "list" acc.toList.toArray 0):=Wu _ rfl;refine Wg (Xw (Xl slot_list_sort ⟨_,oL,rfl⟩ entry_list_sort (list_sort_tree oL hi (by lia) λout d4 a1 a2 a3=>⟨_,rfl,?_⟩) (args_list_sort _)))
 obtain⟨e,he⟩:=sortedHeap_at (out:=out) oL;refine Wh ⟨_,rfl,h _ _ h1.objs.size e out.toList d4 sz (by simpa using he) a1 a2 a3 λb o eb=>?_⟩
 have lt:=Wo (k1 b o eb);rw[sortedHeap_old (WL lt) (by rw[size_push'];exact Yo lt)]
 exact Wi _ (k1 b o eb)
end
def qI(ks:C1):C1:=ks.foldr jH []
def yt(hh:X.A.handled=none):CallR X (.builtin "sorted") (λxs H Q=>∃ (p:Addr) (kvs:List (Key×V)) (ks:C1),xs=[.ref p]/\H p=some (.dK kvs)/\kvs.map (·.1)=ks.map Sum.inl/\ks.length<=60/\∀ l,H l=none->Q (.ref l) (upd H l (.lst ((qI ks).map V.int)))):=by
 intro aaW s σ H xs us Q I r1 h;obtain⟨p,kvs,ks,rfl,hp,hk,hl,q⟩:=h;cases r1 with
 | cons r rr=>
   cases rr;cases r;obtain⟨z,lo,vs,rel,dd⟩:=dk_of I.hok hp;have hkk:vs.map (·.1)=ks.map Sum.inl:=by rw[<-rel.keys,hk]
   refine Be hh dd lo hkk (by lia) λh2 mr l m ws ms eu l6 ims pm so k2=>?_
   have em:ms=qI ks:=fQ (pm.trans (cg _).1.symm) so (cg _).2;have zl:((qI ks).map V.int).length<=sizeLine:=by
    have e:(qI ks).length=ks.length:=(cg ks).1.length_eq;rw[Wm,e];show _<=2^24
    lia
   have I2:=I.call (h':=h2) (t':=mr) (d':=s.drawn) (g':=s.gens) (ch:=[]) (Un.laid k2 eu (I.hok.fresh eu)) (I.hok.laid (o:=.lst ((qI ks).map V.int)) k2 eu ⟨zl,ws,m,by rw[<-em];exact vals_ints ims,l6⟩) I.bare (λy z=>nomatch z)
   exact⟨.ref l,upd H l (.lst ((qI ks).map V.int)),I2,rfl,q l (I.hok.fresh eu)⟩
end L2
namespace LS
open PyProof.Rows
end LS
namespace L2
open PyProof.Rows LS
end L2
namespace L2
open PyProof.Rows
end L2
namespace L2
open PyProof.Rows LS
end L2
namespace L2
open PyProof.Rows
def Dj(l:B5)(h:TriplesOk l)(q:codeAmong pos (l++[rawInt a,rawInt b,c])=some cv):codeAmong pos l=some cv\/cv=c:=by
 fun_induction TriplesOk l with
 |case1=>
   simp only[List.nil_append,codeAmong,rawInt]at q;split at q
   ·exact .inr (Ws q).symm
   ·cases q
 |case2 a' t b' u x rest ih=>
   simp only[List.cons_append,codeAmong]at q ⊢
   split at q
   ·rename_i hc;rw[Wq hc];exact .inl q
   ·rename_i hc;rw[Ww hc];exact ih h q
 |case3 l h1 h2=>exact h.elim
def RecAt.mono(r:RecAt H v)(f:∀b o,H b=some (.frz o (.own b))->H' b=some (.frz o (.own b))):RecAt H' v:=
 let ⟨c,o,fs,q,t,g1,g2,g3⟩:=r;⟨c,o,fs,q,t,g1,f c o g2,g3⟩
def RecAt.rec_(r:RecAt H v)(ok:HOk P w H h):∃q,h.CodeRec v q:=by obtain⟨c,o,fs,q,t,g1,g2,g3,g4⟩:=r;exact⟨q,c,o,fs,t,g1,(ok c _ g2).1,g3,g4⟩
abbrev uT(qual:Str)(params:Arguments)(body:Expr)(scope:Scope)(cl:A9)(pm cv gy:Value):Obj:=
 { cls:=.type "function",data:=.func (W.kla_fn "<lambda>" qual params body scope cl pm cv gy) }
def qL(H:Hp)(g:Addr)(params:Arguments)(body:Expr)(scope:Scope)(cl:A9):Prop:=
 ∃qual pm cv gy,H g=some (.frz (uT qual params body scope cl pm cv gy) (.own g))/\RecAt H cv
theorem qL.mono(r:qL H g params body scope cl)(f:∀b o,H b=some (.frz o (.own b))->H' b=some (.frz o (.own b))):qL H' g params body scope cl:=
 let ⟨qual,pm,cv,gy,g1,g2⟩:=r;⟨qual,pm,cv,gy,f g _ g1,g2.mono f⟩
def R6(P:Addr)(params:Arguments)(body:Expr)(scope:Scope)(cl:A9):TE:=λz H Q=>
 (∃ps,H P=some (.tbl ps))/\∀g H1,H g=none->Same H H1->qL H1 g params body scope cl->Q (.ref g) H1
def Rt(ba:X.env.code=.ref c)(C:W.CodeHd X.base c P)(hP:mainGlobals≠P)(B:X.base.BuiltinsAt X.mg P)
  (jv:closureFor scope X.env=pure cl) (p9:defaultsOf params X.env=([],[]):=by rfl):PE X (.Lambda params body scope pos) (R6 P params body scope cl):=by
 walk_at "f";obtain⟨⟨ps0,hT⟩,q⟩:=h;obtain⟨ps,hP',tr,rc⟩:=I.hok P _ hT;refine W.kla_eval p9 ?_;have hg:s.heap.Ns mainGlobals X.mg:=I.ok.mod.glob.keeps I.bk;have hb:s.heap.BuiltinsAt X.mg P:=let ⟨bm,o,a1,a2,a3,a4,a5,r⟩:=B;⟨bm,o,a1,a2,a3,a4,I.bk _ _ a5,r⟩
 cases hq:codeAmong pos ps.toList with
 | none=>
   refine W.kla_makeFunction jv I.ok.glob hg ba (C.keeps I.bk) hP' tr hq hP hb λc' gy h' tk hx eu cn hrec htb=>?_
   obtain⟨c2,oc,vs,t,e2,og,hd,hv⟩:=hrec;cases e2;have fc:H c'=none:=I.hok.fresh eu;have fg:H h'.objs.size=none:=I.hok.fresh (W0 eu (YJ cn));have ncg:c'≠h'.objs.size:=WL cn;let fo:Obj:=uT (X.env.qual++"<lambda>") params body scope cl ((X.mg "__name__").getD .none) (.ref c') gy
   let H1:Hp:=upd (upd H c' (.frz oc (.own c'))) h'.objs.size (.frz fo (.own h'.objs.size))
   have S:Same H H1:=λb o e=>by show upd (upd H c' _) h'.objs.size _ b=_;rw[upd_ne (ne_of_none e fg),upd_ne (ne_of_none e fc)];exact e
   have kp:∀b o,b≠P->s.heap.get? b=some o->(h'.push fo).get? b=some o:=λb o hb e=>Wi _ (hx b o hb e)
   have nP:∀b,H b=none->b≠P:=λb n z=>by rw[z,hT]at n;cases n
   have g1:H1 h'.objs.size=some (.frz fo (.own h'.objs.size)):=upd_same;have c1:H1 c'=some (.frz oc (.own c')):=by show upd (upd H c' _) h'.objs.size _ c'=_;rw[upd_ne ncg];exact upd_same
   have r1:RecAt H1 (.ref c'):=⟨c',oc,vs,_,t,rfl,c1,hd,hv⟩;have un:Un X.fs [] H H1 s.heap (h'.push fo):=by
    refine⟨λb o e n x x=>kp b o (nP b n) e,λb o e n x x=>⟨o.slots,kp b o (nP b n) e⟩,λb o e n x=>?_,λb o e x=>?_,λb xs e=>S _ _ e,λb o u e=>S _ _ e,λb ps e=>⟨#[],by rw[S _ _ e];simp⟩⟩
    ·have l:=Wo e;show upd (upd H c' _) h'.objs.size _ b=_;rw[upd_ne (WL (ZD (Wt l eu) cn)),upd_ne (WL (Wt l eu))];exact n
    ·by_cases hb':b=P
     ·subst hb';exact⟨_,Wi _ htb⟩
     ·exact⟨o,kp b o hb' e⟩
   have hok:HOk X.prog X.w H1 (h'.push fo):=λb u e=>by
    by_cases bg:b=h'.objs.size
    ·subst bg;rw[g1]at e;cases e;exact⟨Wu _ rfl,_,Wu _ rfl⟩
    by_cases bc:b=c'
    ·subst bc;rw[c1]at e;cases e;exact⟨Wi _ og,_,Wi _ og⟩
    have e':H b=some u:=by have e:upd (upd H c' _) h'.objs.size _ b=some u:=e;rw[upd_ne bg,upd_ne bc]at e;exact e
    by_cases bP:b=P
    ·subst bP;rw[hT]at e';cases e';refine⟨_,Wi _ htb,?_,λpos' cv' z=>?_⟩
     ·rw[Array.toList_append];exact TriplesOk_snoc _ _ _ _ tr
     ·rw[Array.toList_append]at z;rcases Dj _ tr z with z | z
      ·exact (rc _ _ z).mono λb o e=>S _ _ e
      ·rw[z];exact r1
    ·refine (I.hok b u e').stay (λd v de q'=>kp d v ?_ q') (λd z=>S _ _ z) (λd xs z=>S _ _ z) λd o z=>S _ _ z
     rcases de with z | z
     ·rw[z];exact bP
     ·intro y;rw[y,hT]at z;cases z
   exact⟨.ref h'.objs.size,H1,I.un (t':=tk) un hok,rfl,q _ H1 fg S ⟨_,_,_,_,g1,r1⟩⟩
 |some cv=>
   have rcv:=rc _ _ hq;refine W.kla_makeFunctionHit jv I.ok.glob hg ba (C.keeps I.bk) hP' tr hq hb λgy h' tk hk hsz=>?_
   have fg:H h'.objs.size=none:=I.hok.fresh hsz;have S:Same H (upd H h'.objs.size (.frz (uT (X.env.qual++"<lambda>") params body scope cl ((X.mg "__name__").getD .none) cv gy) (.own h'.objs.size))):=same_new fg _;refine⟨.ref h'.objs.size,_,I.laid (t':=tk) (o:=.frz (uT (X.env.qual++"<lambda>") params body scope cl ((X.mg "__name__").getD .none) cv gy) (.own h'.objs.size)) (λb u e=>Wi _ (hk b u e)) hsz ⟨Wu _ rfl,_,Wu _ rfl⟩,rfl,q _ _ fg S ⟨_,_,_,_,upd_same,rcv.mono λb o e=>S _ _ e⟩⟩
def o6(P:C5)(w:World)(K:B0)(mg:A4)(base:Heap)(N:C3)(qual:Str)(scope:Scope)(g:Addr)(cd:Value)(cl:A9)(A:Around)(outer:C4)(s:Shared)(H:Hp)(E:XK):Cx where
 prog:=P
 w:=w
 K:=K
 mg:=mg
 base:=base
 A:=A.deeper (W.envX qual scope s.z g cd cl)
 N:=N
 s₀:=s
 H₀:=H
 env:=W.envX qual scope s.z g cd cl
 outer:=outer
 stack:=W.envX qual scope s.z g cd cl::outer
 ex:=[]
 calm:=true
 fn:=λy=>false
 pn:=[]
 xe:=λe s'=>wpAny (model P w) (A.deeper (W.envX qual scope s.z g cd cl)) (leaving (W.envX qual scope s.z g cd cl) e) (λy kz=>cG P w outer H s E e kz) (λe' kz=>cG P w outer H s E e' kz) s'
structure LamOk(scope:Scope)(cl:A9)(fr:C3):Prop where
 kind:scope.kind=.function
 co:scope.isCoroutine=false
 gen:scope.isGenerator=false
 cell:∀y∈scope.names,y.2≠.cell
 nd:fr.Nodup
 has:∀y,(scope.names.lookup y=some .cell\/scope.names.lookup y=some .free)->∃c,cl.lookup y=some c
 fre:∀y∈fr,scope.names.lookup y=some .free
structure CellsAt(cl:A9)(fr:C3)(σ:St)(H:Hp)(h:Heap):Prop where
 inj:∀x y c,cl.lookup x=some c->cl.lookup y=some c->x=y
 cell:∀x c,cl.lookup x=some c->∃v,h.IsCell c v
 free:∀x c,cl.lookup x=some c->H c=none
 val:∀(i:Nat) x v,fr[i]?=some x->σ[i]?=some (some v)->∃u c,RelV v u/\cl.lookup x=some c/\h.IsCell c (some u)
 len:σ.length=fr.length
section
variable{P:C5}{w:World}{K:B0}{mg:A4}{base:Heap}{A:Around}{outer:C4}{s:Shared}{H:Hp}{E:XK}{Q:VK}{k:Nat}{g:Addr}{params:Arguments}{body:Expr}{scope:Scope}{cl:A9}{fr:C3}{σ:St}
def NB(T:LamOk scope cl fr)(e0:Env0 P w K mg base A outer s H)(hd:A.handled=none)(C:CellsAt cl fr σ H s.heap)(ip:h1.Ns s.z m)(hk:∀b o,s.heap.get? b=some o->h1.get? b=some o):
  Inv (o6 P w K mg base fr qual scope g cd cl A outer s H E) [] σ H { s with heap:=h1,toks:=tk }:=by
 have ox:∀b:Addr,b∉(o6 P w K mg base fr qual scope g cd cl A outer s H E).ex:=λb z=>absurd (show b∈([]:B7) from z) (by simp)
 refine⟨⟨e0.mod,T.kind,rfl,rfl,Wn _,C.inj,T.has,λy c z x=>absurd (show false=true from z) WT,λx=>hd,Around.frames_deeper e0.frames,.inr ⟨rfl,rfl⟩,λb z=>absurd z (ox b),e0.bs,e0.bsz,λb x x=>ox b,λb z=>absurd z (ox b),e0.funs,e0.frf⟩,
  rfl,e0.bare,Un.kept hk,⟨m,ip,λi y v h1 h2 h3=>?_⟩,λy c h=>?_,e0.hok.fresh (Wn _),λy c h=>C.free y c h,λp hp=>absurd (show p∈([]:A8) from hp) (by simp),e0.hok.kept hk,C.len⟩
 ·obtain⟨u,c,r,e,z⟩:=C.val i y v h1 h2;exact⟨u,r,.inr ⟨.inr (T.fre y (WR h1)),c,e,z.keeps hk⟩⟩
 ·obtain⟨v,z⟩:=C.cell y c h;exact⟨v,z.keeps hk⟩
def Pb(T:LamOk scope cl fr)(e0:Env0 P w K mg base A outer s H)(hr:Room (k+1) A)(L:qL H g params body scope cl)(C:CellsAt cl fr σ H s.heap)
  (gg:∀qual pm cv gy,bindArgs (W.kla_fn "<lambda>" qual params body scope cl pm cv gy) ⟨[],[]⟩=pure [])
  (af:∀qual cd,Room k (A.deeper (W.envX qual scope s.z g cd cl))->∃t,PE (o6 P w K mg base fr qual scope g cd cl A outer s H E) body t/\t σ H Q) :
  codeAny (model P w) A (.call (.ref g) ⟨[],[]⟩) (CR (cG P w) outer P w H s Q E) s:=by
 obtain⟨qual,pm,cv,gy,hg,rc⟩:=L;obtain⟨q,ba⟩:=rc.rec_ e0.hok;obtain⟨ho,_⟩:=e0.hok g _ hg;have lim:s.heap.NoLimit:=e0.mod.nolimit.keeps λb o e=>(e0.bs b o e).1
 obtain⟨c,oc,vs,tq,hc,og,hdc,hq⟩:=ba;subst hc;refine aaG ?_;show wpAny _ A.in1 (callAny (.ref g) ⟨[],[]⟩) _ _ s;simp only[callAny];refine Wg (aaO ho ?_);simp only[callFunction,T.co,T.gen];refine Wg (m:=field (.ref c) 1) (Yb og hdc hq (Wg (Wh ?_)));rw[gg];refine Wg (Wh (Wg (wpAny_newFunctionEnv T.cell (λx hx=>by cases hx) (λh1 ip pe=>?_) T.kind)))
 have hk:∀b o,s.heap.get? b=some o->h1.get? b=some o:=λb o e=>pe.extBut b o (WL (Wo e)) (Wi _ e)
 refine Wg (wpAny_enterFrame (lim.keeps hk) hr.depth (Wh (And.intro rfl ?_)));show codeAny _ _ (.expr body (W.envX q scope s.z g (.ref c) cl)) _ _;obtain⟨t,ht,hq⟩:=af q (.ref c) (hr.deeper _);have I:Inv (o6 P w K mg base fr q scope g (.ref c) cl A outer s H E) [] σ H { s with heap:=h1,toks:=s.toks+([]:List (Str×Value)).length }:=NB T e0 hr.hd C ip hk
 refine W.kla_codeExpr (W5 (ht [] _ σ H _ I hq) (λu s' hs=>?_) λe s' hs=>hs)
 obtain⟨v,H',J,rv,q⟩:=hs;exact⟨v,H',J.os,J.bare,J.base,J.hok,rv,q⟩
def LQ:Passes (cG P w) (o6 P w K mg base N qual scope g cd cl A outer s H E) E:=by
 intro aaW σ H1 s1 e s' I hf;obtain⟨x,C,a0,H',B,rfl,os,bare,un,hok,fl,ci,cii,q⟩:=hf;have J:Inv (o6 P w K mg base N qual scope g cd cl A outer s H E) aaW σ H' s':=I.call' (ch:=[]) os un hok bare (λb z=>absurd z (by simp))
 have l8:(o6 P w K mg base N qual scope g cd cl A outer s H E).A.frames=some ((o6 P w K mg base N qual scope g cd cl A outer s H E).env::outer):=I.ok.frames;have hfs:∀b∈frs outer,∃o,s'.heap.get? b=some o/\∀vs,o.data≠.fields vs:=λb hb=>(fl.2.2.1.2.2.mem hb).2
 have kf:(o6 P w K mg base N qual scope g cd cl A outer s H E).env.frame=some (o6 P w K mg base N qual scope g cd cl A outer s H E).env.locals:=rfl;have df:∀b o,s.heap.get? b=some o->b∉frs outer->∃o',B.get? b=some o':=λb o e hb=>by
  obtain⟨o1,h1⟩:=I.base.there b o e (show b∉([]:B7) by simp)
  refine cii b o1 h1 ?_;show b∉frs ((o6 P w K mg base N qual scope g cd cl A outer s H E).env::outer);rw[tU kf];intro hm;rcases Wz.mp hm with rfl | hm
  ·exact absurd (Wo e) (X7.mpr I.ok.above)
  ·exact hb hm
 show wpAny _ _ (leaving _ (.ref x)) _ _ s';refine wpAny_leaves_onW l8 rfl fl λh' i7 up=>?_
 exact⟨x,C,a0,H',B,rfl,J.os,bare,rK J.base fl.1 i7.1 up hfs df,nU hok fl.1 i7.1 ci,i7,ci,df,q⟩
def O9{x:Str}{st:Stmt}{f:Addr}{fd:FuncData}{N ps:C3}{us:B5}{vs:List V}(F:Fun K x x st f fd)(S:FnScope N ps (defScope st))(e0:Env0 P w K mg base A outer s H)(hr:Room (k + 1) A)
  (hb:∀(kV doc pm:Value) (an:B3) (ae ct:Value),bindArgs (W.fnOf x x (defArgs st) (defBody st) (defScope st) .none kV doc pm an ae ct) ⟨us,[]⟩=pure (ps.zip us)) (hl:vs.length=ps.length) (r:Vals vs us)
  (af:∀ae,Room k (A.deeper (envOfC x (defScope st) s.z f ae))->∃t,PSs (bV P w K mg base N x (defScope st) f ae A outer s H E) (defBody st) t/\t { nx:=λp H'=>Q .non H',rt:=Q } (start N vs) H) :
  codeAny (model P w) A (.call (.ref f) ⟨us,[]⟩) (CR (cG P w) outer P w H s Q E) s:=by
 obtain⟨oc,od,kV,doc,pm,an,ae,ct,bp,rfl,lk,ba⟩:=F.ex;have KX:K.In s.heap:=e0.mod.kin.keeps λb o e=>(e0.bs b o e).1
 have lim:s.heap.NoLimit:=e0.mod.nolimit.keeps λb o e=>(e0.bs b o e).1
 have fq:∀y∈ps.zip us,(defScope st).names.lookup y.1=some .local\/((defScope st).names.lookup y.1=some .cell/\((cellsFrom (s.z+1) (defScope st).names []).lookup y.1).isSome=true):=λ⟨n,v⟩ hy=>by
  rcases S.par n (YL hy).1 with q | q
  ·exact .inl q
  ·exact .inr ⟨q,Zn _ _ _ (.inl q)⟩
 refine aay hr.depth (KX _ _ lk) rfl S.co S.gen rfl (W.codeRec_of KX ba) ?_;rw[hb];refine Wh (ZX S.kind fq λenv he s1 x=>?_)
 subst he;refine⟨lim.keeps x.toInCall.keep,codeAny_func ?_⟩;obtain⟨t,ht,hq⟩:=af ae (hr.deeper _);have I:=inv_start (CX:=cG P w) (E:=E) S hr.hd e0 hl r x;refine W5 (ht [] s1 (start N vs) H _ I hq) (λfl s' hs=>?_) λe s' hs=>hs
 cases fl with
 |ret u=>obtain⟨v,σ',H',J,rv,q⟩:=hs;exact⟨v,H',J.os,J.bare,J.base,J.hok,rv,q⟩
 |next=>obtain⟨σ',H',J,q⟩:=hs;exact⟨V.non,H',J.os,J.bare,J.base,J.hok,(rfl:RelV .non Value.none),q⟩
 |brk=>obtain⟨_,_,_,q⟩:=hs;exact False.elim q
 |cont=>obtain⟨_,_,_,q⟩:=hs;exact False.elim q
end
structure TabD(mg:A4)(base:Heap)(c P:Addr):Prop where
 hd:W.CodeHd base c P
 ne:mainGlobals≠P
 bl:base.BuiltinsAt mg P
def G8{P:C5}{w:World}{K:B0}{mg mb:A4}{CX:CXT}{k:Nat}{fa a:Addr}{fd:FuncData}{x:Str}{sp:Sp}{s₁:Shared}{vs:B5}{ns:C1}{tabs:List (Addr×Addr)}
  (KX:K.In s₁.heap) (ip:s₁.heap.Ns mainGlobals mg) (hb:s₁.heap.Ns builtinsNs mb) (hbb:∀x:Str,x≠"__name__"->mb x=bootBuiltins x) (hlim:s₁.heap.NoLimit) (hg:s₁.gens=#[])
  (ha:s₁.heap.get? a=some { cls:=.type "list",data:=.seq vs.toArray }) (hi:IntsAre vs ns) (hl:ns.length<=sizeLine) (hr:Room k callerA) (hT:W.TabsAt tabs s₁.heap) (hKT:∀q∈tabs,K.lookup q.2=none) (hKA:K.lookup a=none)
  (hB:∃bm ob,mg "__builtins__"=some (.ref bm)/\bm≠builtinsNs/\s₁.heap.get? bm=some ob/\ob.cls=.type "module"/\ob.dict=some builtinsNs/\ob.data=.plain)
  (F:∀base:Heap,K.In base->base.Ns mainGlobals mg->(∀q∈tabs,TabD mg base q.1 q.2)->FnOk P w K mg base CX k fa fd [x] sp) (gg:∀(s:Shared) (u:Value),BindsTo s fd ⟨[u],[]⟩ [(x,u)])
  (hsp:∀H:Hp,Rd H a (.lst (ns.map V.int))->(∀q∈tabs,H q.2=some (.tbl #[]))->sp [.ref a] H (λv t=>v=.bl true) λt t t=>False)
  (hCX:∀H e s',CX [] H s₁ (λt t t=>False) e s'->False) :
  codeAny (model P w) callerA (.call (.ref fa) ⟨[.ref a],[]⟩) (λr s'=>r=.ok (.ret (.bool true))/\OldK s₁.heap s'.heap/\s'.os=s₁.os/\AllBare s'.gens) s₁:=by
 have rv:=vals_ints hi;have lenV:=hi.length;let lo:Obj:={ cls:=.type "list",data:=.seq vs.toArray }
 let H:Hp:=λb=>if b∈tabs.map (·.2) then some (.tbl #[]) else if b=a then some (.frz lo (.lst (ns.map V.int))) else none
 have qf:∀b,b∈tabs.map (·.2)->s₁.heap.get? b=some (W.tabObj #[]):=λb hb'=>by obtain⟨q,hq,rfl⟩:=WQ.mp hb';exact (hT q hq).2
 have naT:a∉tabs.map (·.2):=λz=>by have:=qf a z;rw[ha]at this;cases this
 have H1:∀b,b∈tabs.map (·.2)->H b=some (.tbl #[]):=λb z=>Wq z
 have H2:H a=some (.frz lo (.lst (ns.map V.int))):=(Ww naT).trans (Wq rfl);have H3:∀b,b∉tabs.map (·.2)->b≠a->H b=none:=λb h1 h2=>(Ww h1).trans (Ww h2)
 have free:∀{b:Addr}{o:Obj},s₁.heap.get? b=some o->o≠W.tabObj #[]->o≠lo->H b=none:=λ{b o} e h1 h2=>H3 b (λz=>h1 (by have:=qf b z;rw[e]at this;exact Ws this)) (λz=>h2 (by subst z;rw[ha]at e;exact (Ws e).symm))
 have hok:HOk P w H s₁.heap:=λb u e=>by
  by_cases z:b∈tabs.map (·.2)
  ·rw[H1 b z]at e;cases e;exact⟨#[],qf b z,trivial,λpos cv q=>by cases q⟩
  by_cases y:b=a
  ·subst y;rw[H2]at e;cases e;exact⟨ha,by rw[Wm];exact hl,vs,_,rv,ha⟩
  ·rw[H3 b z y]at e;cases e
 have base_of:∀{b:Addr}{o:Obj},s₁.heap.get? b=some o->o≠W.tabObj #[]->o≠lo->(hidT s₁.heap H).get? b=some o:=λe h1 h2=>hidT_get e (free e h1 h2)
 have nsK:∀{b:Addr}{m:A4},s₁.heap.Ns b m->(hidT s₁.heap H).Ns b m:=λ{b m} ⟨o,es,ep,e,d,r⟩=>⟨o,es,ep,base_of e (λz=>by rw[z]at d;cases d) (λz=>by rw[z]at d;cases d),d,r⟩
 have hKb:K.In (hidT s₁.heap H):=λb o e=>hidT_get (KX b o e) (H3 b (λz=>by obtain⟨q,hq,rfl⟩:=WQ.mp z;rw[hKT q hq]at e;cases e) λz=>by rw[z,hKA]at e;cases e)
 have hM:Mod K mg (hidT s₁.heap H):=⟨hKb,nsK ip,⟨mb,nsK hb,hbb⟩,let ⟨mc,h1,h2⟩:=hlim;⟨mc,nsK h1,h2⟩⟩
 have e0:Env0 P w K mg (hidT s₁.heap H) callerA [] s₁ H:=⟨rfl,hM,λb o e=>of_hidT e,Nat.le_of_eq (hidT_size _ _),trivial,λb hb=>absurd (show b∈([]:B7) from hb) (by simp),hok,.of_eq hg⟩
 have hTD:∀ q∈tabs,TabD mg (hidT s₁.heap H) q.1 q.2:=λq hq=>by
  obtain⟨o,gx,file,tf,flags,tg,inF,text,tt,e1,r1,r⟩:=(hT q hq).1;have eP:=(hT q hq).2;refine⟨⟨o,gx,file,tf,flags,tg,inF,text,tt,base_of e1 (λz=>by rw[z]at r1;cases r1) (λz=>by rw[z]at r1;simp[lo]at r1),r1,r⟩,λz=>?_,?_⟩
  ·obtain⟨o',es,ep,e,d,_⟩:=ip;rw[z,eP]at e;cases e;cases d
  ·obtain⟨bm,ob,b1,b2,b3,b4,b5,b6⟩:=hB;refine⟨bm,ob,b1,b2,λz=>?_,λz=>?_,base_of b3 (λz=>by rw[z]at b4;cases b4) (λz=>by rw[z]at b4;simp[lo]at b4),b4,b5,b6⟩
   ·obtain⟨o',es,ep,e,d,_⟩:=ip;rw[z,e]at b3;cases b3;rw[d]at b6;cases b6
   ·rw[z,eP]at b3;cases b3;cases b4
 refine Yu ((F _ hKb (nsK ip) hTD).run callerA [] s₁ H ⟨[.ref a],[]⟩ [.ref a] [.ref a] _ _ hr e0 (gg s₁ (.ref a)) (.cons rfl .nil) (hsp H (.inr ⟨_,H2⟩) λq hq=>H1 _ (Zc hq))) λr s' h=>?_
 cases r with
 |error e=>exact (hCX H e s' h).elim
 | ok fl=>
   cases fl with
   |next=>exact False.elim h
   |brk=>exact False.elim h
   |cont=>exact False.elim h
   | ret u=>
     obtain⟨v,H',os,bare,un,hok',r',q⟩:=h;have q':v=.bl true:=q;subst q';obtain rfl:u=Value.bool true:=r';have kept:∀b o,s₁.heap.get? b=some o->b∉tabs.map (·.2)->s'.heap.get? b=some o:=λb o e z=>by
      by_cases y:b=a
      ·subst y;have z2:=un.frzs b lo _ H2;obtain⟨e2,_⟩:=hok' b _ z2;rw[ha]at e;cases e;exact e2
      ·exact un.keep b o e (H3 b z y) (by intro z;exact absurd (show b∈([]:B7) from z) (by simp)) (by simp)
     have grown:∀b,b∈tabs.map (·.2)->∃ps,s'.heap.get? b=some (W.tabObj ps):=λb z=>by obtain⟨m,e⟩:=un.tbls b _ (H1 b z);obtain⟨ps,e2,_⟩:=hok' b _ e;exact⟨ps,e2⟩
     refine⟨rfl,⟨λb o e=>?_,λb o e=>?_⟩,os,bare⟩
     ·by_cases z:b∈tabs.map (·.2)
      ·obtain⟨ps,e2⟩:=grown b z;obtain⟨q,hq,rfl⟩:=WQ.mp z;have e3:=(hT q hq).2;rw[e]at e3;cases Ws e3;exact .inr (.inl ⟨((hT q hq).1.tab (hT q hq).2).isCodeTable,rfl,#[],ps,rfl,by rw[Array.empty_append];exact e2⟩)
      ·exact .inl (kept b o e z)
     ·by_cases z:b∈tabs.map (·.2)
      ·obtain⟨ps,e2⟩:=grown b z;exact⟨_,e2⟩
      ·exact⟨o,kept b o e z⟩
def Fun.codeC{K:B0}{mg:A4}{x:Str}{st:Stmt}{f:Addr}{fd:FuncData}{c P:Addr}{h:Heap}(F:Fun K x x st f fd)(X:K.In h)(G:h.Ns mainGlobals mg)(m:mg x=some (.ref f))(ht:W.tabIn K x=some (c,P)):fd.code=.ref c:=by obtain⟨oc,od,kV,doc,pm,an,ae,ct,bp,e,lk,_⟩:=F.ex;exact W.law_code X G ht m (X _ _ lk) rfl
def Ld{l:W.OpenLaw}{n k:Nat}{q:C5}{loose:C3}{XP:A4->B6}{YP:World->B6}{d:DefRec}{K:Params->B0}{CX:World->CXT}{sp:List (Addr×Addr)->Sp}{x:Str}{tn:List (Str×Addr×Addr)}
  (hn:l.most=some n) (nh:n<=sizeLine) (hdf:d.params.defaults=[]) (hr:Room k callerA)
  (hY:∀(w:World) (h:Heap),YP w h->(K w.params).In h) (hnl:∀(w:World) (a:Addr) (o:Obj),(K w.params).lookup a=some o->o.cls≠.type "list")
  (h1:∀t∈tn,((recsOf q).find? (λe=>e.name==t.1)).isSome=true) (h2:∀(w:World),∀t∈tn,W.tabIn (K w.params) t.1=some t.2) (h3:∀(w:World),∀t∈tn,(K w.params).lookup t.2.2=none)
  (F:∀ (w:World) (mg:A4) (fa:Addr) (h:Heap),(K w.params).In h->h.Ns mainGlobals mg->mg d.name=some (.ref fa)->
    ∃fd:FuncData,(∀(s:Shared) (u:Value),BindsTo s fd ⟨[u],[]⟩ [(x,u)]) /\
      ∀base:Heap,(K w.params).In base->base.Ns mainGlobals mg->(∀q∈tn.map (·.2),TabD mg base q.1 q.2)->FnOk l.prog w (K w.params) mg base (CX w) k fa fd [x] (sp (tn.map (·.2))))
  (hsp:∀(H:Hp) (a:Addr) (ns:C1),ns.length<=n->Rd H a (.lst (ns.map V.int))->(∀q∈tn.map (·.2),H q.2=some (.tbl #[]))->sp (tn.map (·.2)) [.ref a] H (λv y=>v=.bl true) λy y y=>False)
  (hCX:∀(w:World) (H:Hp) (s:Shared) (e:Value) (s':Shared),CX w [] H s (λy y y=>False) e s'->False) :
  W.WalkO q loose XP YP l.row.toRowW d [] (λf vs=>PySem.call f vs):=by
 refine Att.attach_call hn hdf λw s₀ s₁ mg mb fa o pm cd doc a vs ns G Y ho hd ba hmg i6 hints hlen hg=>?_
 have KX:=hY w _ Y;obtain⟨fd,hb,hF⟩:=F w mg fa _ KX G.T.g hmg;have hKA:(K w.params).lookup a=none:=by
  cases z:(K w.params).lookup a with
  |none=>rfl
  |some oa=>have e:=KX a oa z;rw[i6]at e;cases e;exact absurd rfl (hnl w a _ z)
 have hT:W.TabsAt (tn.map (·.2)) s₁.heap:=λq hq=>by obtain⟨t,ht,rfl⟩:=WQ.mp hq;obtain⟨d',de⟩:=YG.mp (h1 t ht);exact W.tab_of G.T KX de (h2 w t ht)
 exact G8 KX G.T.g G.T.b G.T.builtins G.T.nolimit hg i6 hints (W0 hlen nh) hr hT (λq hq=>by obtain⟨t,ht,rfl⟩:=WQ.mp hq;exact h3 w t ht) hKA G.T.bmain hF hb (λH hS hH=>hsp H a ns hlen hS hH) λH e s'=>hCX w H s₁ e s'
open PyProof.Rows
def IW{K:B0}{x:Str}{f c P:Addr}{oc occ:Value}{od ocd:B3}{bp ocs:Array B1}{fd:FuncData}{vs:B4}(a:W.nsIn K mainGlobals x=some (some (.ref f)))(l:K.lookup f=some ⟨oc,od,.func fd,bp⟩)(hc:fd.code=.ref c)
  (l2:K.lookup c=some ⟨occ,ocd,.fields vs,ocs⟩) (h11:vs[11]?=some (.ref P)):W.tabIn K x=some (c,P):=by
 unfold W.tabIn;rw[a];simp only[l,hc,l2,h11]
def PX(lo c:Int)(n:Nat):It:=⟨λi z=>i<n,λi H x H'=>H'=H/\x=.int (lo+i*c),λi z=>n<=i⟩
def Bf{P:C5}{w:World}{K:B0}{tg:Expr}(it:Addr)(lo c:Int)(n:Nat):Turn P w K tg (PX lo c n) [it] it (λi h=>IsRangeIter h it (lo + (i:Nat) * c) ((n:Int) - (i:Nat)) c) where
 mem:=by simp
 obj:=λi h st b hb=>by
  have e:b=it:=by simpa using hb
  subst e;exact⟨_,st,λv z=>by have z':Data.fields _=Data.cell v:=z;cases z'⟩
 keep:=λi h h' st k=>k it (by simp) _ st
 item:=by
  walk_at "d";obtain⟨f0,f1,f2,f3,f4,f5⟩:=hf it (by simp)
  have W:=Walks.range (prog:=X.prog) (w:=X.w) (I.ok.hd hc) it lo c n;refine W.item i s _ _ hg st λv h' tk hv gp kk=>?_
  obtain⟨t,rfl⟩:=hv;have I1:Inv X aaW σ H { s with heap:=h',toks:=tk }:=I.turned (λb o hb e=>kk b o (by simpa using hb) e) f0 f1 f3 f4 f5
  exact⟨_,rfl,go_of (s:={ s with heap:=h',toks:=tk }) (n := "range_iterator") gp rfl rfl (by decide) ⟨.int (lo+i*c),H,I1,⟨t,rfl⟩,⟨rfl,rfl⟩,gp,λb hb=>(hf b hb).1⟩⟩
 done:=by
  walk_at "d";obtain⟨f0,f1,f2,f3,f4,f5⟩:=hf it (by simp)
  exact wpAny_pyNext_range_end (I.ok.hd hc) st (by have:n<=i:=hg;lia) λh' eb=>⟨rfl,I.turned (t':=s.toks) (λb o hb e=>eb b o hb e) f0 f1 f3 f4 f5⟩
 self:=λy y y y y st h=>wpAny_pyIter_rangeiter st h
section
variable{X:Cx}{tg:Expr}
def zU(lo hi c:Int):Prop:=0<=lo/\lo<2^20/\0<=hi/\hi<2^20/\1<=c/\c<2^20
theorem zU.small{lo hi c:Int}(h:zU lo hi c):Builtin.Range.small lo hi c=true:=by
 obtain⟨h1,h2,h3,h4,h5,h6⟩:=h;have n0:0<=Builtin.Range.rangeSize lo hi c/\Builtin.Range.rangeSize lo hi c<=2^20:=by
  unfold Builtin.Range.rangeSize;rw[Wq (by lia)]
  split
  ·have a:0<=(hi-lo-1) / c:=Int.ediv_nonneg (by lia) (by lia)
   have b:(hi-lo-1) / c<=hi-lo-1:=Int.ediv_le_self _ (by lia)
   lia
  ·lia
 unfold Builtin.Range.small;simp only[Builtin.Range.rangeFitsLong,Bool.and_eq_true,Bool.or_eq_true,decide_eq_true_eq,beq_iff_eq];rw[Wq (by lia)]
 simp only[Bool.and_eq_true,decide_eq_true_eq]
 lia
def S9(ta:TA):TI:=λσ H R=>ta σ H λvs H1=>∃i j c:Int,vs=[.int i,.int j,.int c]/\zU i j c/\R (PX i c (Builtin.Range.rangeSize i j c).toNat) H1
def Hz(hg:Gl X "range")(hm:X.mg "range"=none)(ha:PA X [a,b,c] ta)(hs:notStar a=true:=by rfl)(ij:notStar b=true:=by rfl)(hs3:notStar c=true:=by rfl):
  PI X tg (.Call (.Name "range" p) [a,b,c] [] pos) (S9 ta):=by
 intro aaW s σ H R I h;refine Call_ (ld_blt I hg hm boot_range (Xf (thn (ha pos aaW s σ H _ I h) λus s1 ⟨vs,H1,I1,r1,q1⟩=>?_) (aU hs) (by rw[aU ij,aU hs3];rfl)))
 obtain⟨i,j,k,e,ok,q⟩:=q1;subst e;cases r1 with
 | cons r rr=>
   cases rr with
   | cons r' rr=>
     cases rr with
     | cons r2 rr=>
       cases rr;obtain⟨t,rfl⟩:=r;obtain⟨t',rfl⟩:=r';obtain⟨t2,rfl⟩:=r2;have n0:Builtin.Range.rangeSize i j k=((Builtin.Range.rangeSize i j k).toNat:Int):=rangeSize_toNat _ _ _;refine call_range_3 (by have:=ok.2.2.2.2.1;lia) ?_ (.inl (PyProof.noPylong_small (by have:=ok.2.2.2.2;lia)))
       refine wpAny_pyIter_range (IsRange.new ..) ok.small ?_;let o:Obj:={ cls:=.type "range",data:=.fields #[.int i t,.int j t',.int k t2] }
       have I2:Inv X aaW σ H1 { s1 with heap:=s1.heap.push o,toks:=s1.toks }:=I1.kept λb o e=>Wi _ e
       refine⟨(s1.heap.push o).objs.size,[(s1.heap.push o).objs.size],_,_,H1,rfl,I2.kept (t':=s1.toks) λb o e=>Wi _ e,Bf _ i k (Builtin.Range.rangeSize i j k).toNat,?_,λb hb=>?_,q⟩
       ·show IsRangeIter _ _ (i+((0:Nat):Int)*k) ((((Builtin.Range.rangeSize i j k).toNat:Nat):Int)-((0:Nat):Int)) k;have e1:i+((0:Nat):Int)*k=i:=by simp
        have e2:(((Builtin.Range.rangeSize i j k).toNat:Nat):Int)-((0:Nat):Int)=Builtin.Range.rangeSize i j k:=by rw[<-n0];simp
        rw[e1,e2];exact Wu _ rfl
       ·have e:b=(s1.heap.push o).objs.size:=by simpa using hb
        subst e;exact I2.fpOk (Wn _) (I2.hok.fresh (Wn _))
end
open PyProof.Rows
open PyProof.Rows
end L2
namespace L2
open PyProof.Rows LS
section
variable{X:Cx}
def R7(ta:TA):TE:=λσ H Q=>ta σ H λvs H1=>∃p ns,vs=[.ref p]/\H1 p=some (.lst (ns.map V.int))/\(ns.length<=2000/\(ns.foldl step_dedup []).length<=60)/\∀l,H1 l=none->Q (.ref l) (upd H1 l (.lst ((iW ns).map V.int)))
def zA(hc:X.calm=true)(f6:Gl X "sorted")(f7:X.mg "sorted"=none)(hg:Gl X "set")(hm:X.mg "set"=none)(ha:PA X [a] ta)(hs:notStar a=true:=by rfl):
  PE X (.Call (.Name "sorted" p1) [.Call (.Name "set" p2) [a] [] ag] [] a9) (R7 ta):=by
 walk_at "f";have ax:starEach [Expr.Call (.Name "set" p2) [a] [] ag] X.env=(false,eval (.Call (.Name "set" p2) [a] [] ag) X.env)::starEach [] X.env:=aU rfl;refine Call_ (ld_blt I f6 f7 pP (Zh ?_ ax rfl));rw[ax];show wpAny _ _ (spliced ((false,eval (.Call (.Name "set" p2) [a] [] ag) X.env)::[])) _ _ s;refine Zj ?_;refine Call_ (ld_blt I hg hm wD (Xf (thn (ha ag aaW s σ H _ I h) λus s1 ⟨vs,H1,I1,r1,q1⟩=>?_) (aU hs) rfl))
 obtain⟨p,ns,e,hp,hl,q⟩:=q1;subst e;cases r1 with
 | cons r rr=>
   cases rr;cases r;obtain⟨_,its,n,vl,ho⟩:=I1.hok p _ hp;have ia:=wO vl;have il:its.length=ns.length:=aag ia;have hd:=I1.ok.hd hc;refine Gh (items:=its.toArray) (ns:=ns) hd ⟨_,ho,rfl,n,rfl⟩ (by simpa using ia) (by simp[scanBound];have:=hl.1;lia) λh1 n5 g k1=>?_
   refine Zt ?_;rw[show its.toArray.size=ns.length from by rw[WX];exact il,yI]at g
   have sl:=hl.2;refine Fd (s:={ s1 with heap:=h1,toks:=n5 }) hd g (by lia) λh2 mr d2 l m ws ms eu l6 ims pm so k2=>?_
   have sz:s1.z<=l:=by obtain⟨es,ep,t,hs1,_⟩:=g.ex;exact W0 (YJ (Wo hs1)) eu
   have em:ms=iW ns:=fQ (pm.trans (cg _).1.symm) so (cg _).2;have kk:∀b o,s1.heap.get? b=some o->h2.get? b=some o:=λb o e=>k2 b o (k1 b o (Wo e) e)
   have zl:((iW ns).map V.int).length<=sizeLine:=by
    rw[Wm];have:=Py ns;have:=hl.1;show _<=2^24
    lia
   have I2:=I1.call (h':=h2) (t':=mr) (d':=d2) (g':=s1.gens) (ch:=[]) (Un.laid kk sz (I1.hok.fresh sz)) (I1.hok.laid (o:=.lst ((iW ns).map V.int)) kk sz ⟨zl,ws,m,by rw[<-em];exact vals_ints ims,l6⟩) I1.bare (λy z=>nomatch z)
   exact⟨.ref l,upd H1 l (.lst ((iW ns).map V.int)),I2,rfl,q l (I1.hok.fresh sz)⟩
end
end L2
namespace L2
open PyProof.Rows
end L2
namespace LB
open PySem PySem.W PyProof.Rows
def aO{α:Type}(o:Nat->Nat->Bool):KasT α->α
 |.ret a=>a
 |.ask i j k=>aO o (k (o i j))
theorem gC:∀(t:KasT α),aO o (t.bind f)=aO o (f (aO o t))
 |.ret _=>rfl
 |.ask i j k=>gC (k (o i j))
structure Ord(K:Type) where
 le:K->K->Prop
 dec:∀a b,Decidable (le a b)
 rfl:∀a,le a a
 trans:∀{a b c},le a b->le b c->le a c
 tot:∀a b,le a b\/le b a
section
variable{K:Type}(R:Ord K)(v:Nat->K)
def ans(i j:Nat):Bool:=!(R.dec (v j) (v i)).decide
def V(p:B9)(i:Nat):K:=v (p.getD i 0)
def SU(p:B9)(n:Nat):Prop:=∀i j,i<=j->j<n->R.le (V v p i) (V v p j)
def DU(p:B9)(n:Nat):Prop:=∀i j,i<=j->j<n->R.le (V v p j) (V v p i)
variable{R v}{p:B9}
def xm(h:ans R v i j=true):R.le (v i) (v j):=by
 have n:¬ R.le (v j) (v i):=by simpa[ans] using h
 exact (R.tot _ _).resolve_right n
def uz(h:¬ ans R v i j=true):R.le (v j) (v i):=by simpa[ans] using h
def mQ{p q:B9}{i j:Nat}(h:p[i]?=q[j]?):p.getD i 0=q.getD j 0:=by rw[Xu,Xu,h]
def jr{i j:Nat}(hj:j<=p.size)(k:Nat):V v (kas_rev p i j) k=if i<=k/\k<j then V v p (i+j-1-k) else V v p k:=by
 have h:=getElem?_mirror_all (i:=i) hj k;unfold V kas_rev;split
 ·rename_i c;rw[Wq c]at h;rw[mQ h]
 ·rename_i c;rw[Ww c]at h;rw[mQ h]
def Lg{s d:Nat}(hs:s<p.size)(hd:d<=s)(k:Nat):V v (bubble p s d) k=if k=s-d then V v p s else if s-d<k/\k<=s then V v p (k-1) else V v p k:=by
 have h:=getElem?_bubble hs d hd k;by_cases c:k=s-d
 ·rw[Wq c]at h ⊢;exact congrArg v (mQ h)
 ·rw[Ww c]at h ⊢
  by_cases c2:s-d<k/\k<=s
  ·rw[Wq c2]at h ⊢;exact congrArg v (mQ h)
  ·rw[Ww c2]at h ⊢;exact congrArg v (mQ h)
def ug(i j:Nat):(kas_rev p i j).Perm p:=mirror_perm _ _ _ _
def SU.up(h:SU R v p n)(h1:1<=n)(q:R.le (V v p (n-1)) (V v p n)):SU R v p (n+1):=λi j cm hj=>by
 by_cases c:j<n
 ·exact h i j cm c
 ·obtain rfl:j=n:=by lia
  by_cases d:i=j
  ·subst d;exact R.rfl _
  ·exact R.trans (h i (j-1) (by lia) (by lia)) q
def DU.up(h:DU R v p n)(h1:1<=n)(q:R.le (V v p n) (V v p (n-1))):DU R v p (n+1):=λi j cm hj=>by
 by_cases c:j<n
 ·exact h i j cm c
 ·obtain rfl:j=n:=by lia
  by_cases d:i=j
  ·subst d;exact R.rfl _
  ·exact R.trans q (h i (j-1) (by lia) (by lia))
theorem yr:∀ (f n:Nat),1<=n->SU R v p n->SU R v p (aO (ans R v) (kas_asc p f n))/\n<=aO (ans R v) (kas_asc p f n)/\aO (ans R v) (kas_asc p f n)<=n + f/\(aO (ans R v) (kas_asc p f n)<n + f->R.le (V v p (aO (ans R v) (kas_asc p f n))) (V v p (aO (ans R v) (kas_asc p f n) - 1)))
 |0,n,_,h=>⟨h,Wn _,Wn _,λz=>absurd z (Yy _)⟩
 | f + 1,n,h1,h=>by
   by_cases c:ans R v (p.getD n 0) (p.getD (n-1) 0)=true
   ·have e:aO (ans R v) (kas_asc p (f+1) n)=n:=by
     show aO (ans R v) (if ans R v (p.getD n 0) (p.getD (n-1) 0)=true then .ret n else _)=n
     rw[Wq c];rfl
    rw[e];exact⟨h,Wn _,by lia,λy=>xm c⟩
   ·have e:aO (ans R v) (kas_asc p (f+1) n)=aO (ans R v) (kas_asc p f (n+1)):=by
     show aO (ans R v) (if ans R v (p.getD n 0) (p.getD (n-1) 0)=true then .ret n else _)=_
     rw[Ww c]
    rw[e];obtain⟨a,b,d,g⟩:=yr f (n+1) (by lia) (h.up h1 (uz c))
    exact⟨a,by lia,by lia,λz=>g (by lia)⟩
structure De(R:Ord K)(v:Nat->K)(p₀ p:B9)(n q:Nat):Prop where
 du:DU R v p n
 pm:p.Perm p₀
 le:q+1<=n
 eq:∀k,n-(q+1)<=k->k<n->R.le (V v p k) (V v p (n-1))/\R.le (V v p (n-1)) (V v p k)
def De.rev(h:De R v p₀ p n q)(hn:n<=p₀.size):DU R v (kas_rev p (n-(q+1)) n) n/\(kas_rev p (n-(q+1)) n).Perm p₀:=by
 refine⟨λi j cm hj=>?_,(ug _ _).trans h.pm⟩
 have i4:n<=p.size:=by rw[h.pm.size_eq];exact hn
 have:=h.le;rw[jr i4,jr i4];by_cases a:n-(q+1)<=i/\i<n
 ·rw[Wq a,Wq (by lia)]
  exact R.trans (h.eq _ (by lia) (by lia)).1 (h.eq _ (by lia) (by lia)).2
 ·rw[Ww a];by_cases b:n-(q+1)<=j/\j<n
  ·rw[Wq b];exact h.du _ _ (by lia) (by lia)
  ·rw[Ww b];exact h.du _ _ cm hj
def De.zero(a:DU R v p n)(b:p.Perm p₀)(c:1<=n):De R v p₀ p n 0:=⟨a,b,c,λk h1 h2=>by
 obtain rfl:k=n-1:=by lia
 exact⟨R.rfl _,R.rfl _⟩⟩
def J7(h:De R v p₀ p n q)(hn:n<=p₀.size):R.le (V v p (n-1)) (V v (kas_rev p (n-(q+1)) n) (n-1)):=by
 have i4:n<=p.size:=by rw[h.pm.size_eq];exact hn
 have:=h.le;rw[jr i4,Wq (by lia)]
 exact (h.eq _ (by lia) (by lia)).2
def wB(hj:j<=p.size)(hk:j<=k):V v (kas_rev p i j) k=V v p k:=by rw[jr hj,Ww (by lia)]
theorem qP:∀ (f:Nat) (p:B9) (n q:Nat),n + f<=p₀.size->De R v p₀ p n q->∃ p' n' q',aO (ans R v) (kas_desc f p n q)=(p',n',q')/\n<=n'/\n'<=n + f/\De R v p₀ p' n' q'
 |0,p,n,q,_,h=>⟨p,n,q,rfl,Wn _,Wn _,h⟩
 | f + 1,p,n,q,hs,h=>by
   have h1:=h.le;by_cases c:ans R v (p.getD n 0) (p.getD (n-1) 0)=true
   ·by_cases hq:q > 0
    ·have e:aO (ans R v) (kas_desc (f+1) p n q)=aO (ans R v) (kas_desc f (kas_rev p (n-(q+1)) n) (n+1) 0):=by
      show aO (ans R v) (if ans R v (p.getD n 0) (p.getD (n-1) 0)=true then (if q > 0 then _ else _) else _)=_
      rw[Wq c,Wq hq]
     rw[e];obtain⟨d1,d2⟩:=h.rev (by lia)
     have i4:n<=p.size:=by rw[h.pm.size_eq];lia
     have d3:DU R v (kas_rev p (n-(q+1)) n) (n+1):=d1.up (by lia) (by rw[wB i4 (Wn _)];exact R.trans (xm c) (J7 h (by lia)))
     obtain⟨p',n',q',e1,e2,e3,e4⟩:=qP f _ (n+1) 0 (by lia) (De.zero d3 d2 (by lia))
     exact⟨p',n',q',e1,by lia,by lia,e4⟩
    ·have e:aO (ans R v) (kas_desc (f+1) p n q)=aO (ans R v) (kas_desc f p (n+1) 0):=by
      show aO (ans R v) (if ans R v (p.getD n 0) (p.getD (n-1) 0)=true then (if q > 0 then _ else _) else _)=_
      rw[Wq c,Ww hq]
     rw[e];obtain⟨p',n',q',e1,e2,e3,e4⟩:=qP f p (n+1) 0 (by lia) (De.zero (h.du.up (by lia) (xm c)) h.pm (by lia))
     exact⟨p',n',q',e1,by lia,by lia,e4⟩
   ·by_cases d:ans R v (p.getD (n - 1) 0) (p.getD n 0)=true
    ·refine⟨p,n,q,?_,Wn _,by lia,h⟩
     show aO (ans R v) (if ans R v (p.getD n 0) (p.getD (n-1) 0)=true then _ else _)=_
     rw[Ww c];show aO (ans R v) (if ans R v (p.getD (n-1) 0) (p.getD n 0)=true then _ else _)=_
     rw[Wq d];rfl
    ·have e:aO (ans R v) (kas_desc (f + 1) p n q)=aO (ans R v) (kas_desc f p (n + 1) (q + 1)):=by
      show aO (ans R v) (if ans R v (p.getD n 0) (p.getD (n-1) 0)=true then _ else _)=_
      rw[Ww c];show aO (ans R v) (if ans R v (p.getD (n-1) 0) (p.getD n 0)=true then _ else _)=_
      rw[Ww d]
     rw[e];have x1:R.le (V v p (n-1)) (V v p n):=uz c;have x2:R.le (V v p n) (V v p (n-1)):=uz d;have hh:De R v p₀ p (n+1) (q+1):=⟨h.du.up (by lia) x2,h.pm,by lia,λk hk1 hk2=>by
      show R.le (V v p k) (V v p n)/\R.le (V v p n) (V v p k);by_cases z:k=n
      ·subst z;exact⟨R.rfl _,R.rfl _⟩
      ·obtain⟨y1,y2⟩:=h.eq k (by lia) (by lia)
       exact⟨R.trans y1 x1,R.trans x2 y2⟩⟩
     obtain⟨p',n',q',e1,e2,e3,e4⟩:=qP f p (n+1) (q+1) (by lia) hh
     exact⟨p',n',q',e1,by lia,by lia,e4⟩
def Cn(R:Ord K)(v:Nat->K)(p₀:B9)(r:Nat×B9):Prop:=SU R v r.2 r.1/\r.2.Perm p₀/\r.1<=p₀.size
def CZ(h1:1<=n)(hn:n<=p₀.size)(d:DU R v p n)(pm:p.Perm p₀):Cn R v p₀ (aO (ans R v) (kas_tail3 n p₀.size p)):=by
 have i4:n<=p.size:=by rw[pm.size_eq];exact hn
 have s:SU R v (kas_rev p 0 n) n:=λi j cm hj=>by
  rw[jr i4,jr i4,Wq (by lia),Wq (by lia)]
  exact d _ _ (by lia) (by lia)
 obtain⟨a,b,c,_⟩:=yr (p:=kas_rev p 0 n) (p₀.size-n) n h1 s;unfold kas_tail3;rw[gC];exact⟨a,(ug _ _).trans pm,by show aO _ _<=_;lia⟩
def Cp(h1:1<=n)(hn:n+1<=p₀.size)(d:DU R v p (n+1))(pm:p.Perm p₀):Cn R v p₀ (aO (ans R v) (kas_descPart n p₀.size p)):=by
 obtain⟨p',n',q',e1,e2,e3,e4⟩:=qP (p₀:=p₀) (p₀.size-(n+1)) p (n+1) 0 (by lia) (De.zero d pm (by lia))
 unfold kas_descPart;rw[gC,e1];show Cn R v p₀ (aO _ (if q' > 0 then _ else _))
 split
 ·obtain⟨d1,d2⟩:=e4.rev (by lia)
  exact CZ (n:=n') (by lia) (by lia) d1 d2
 ·exact CZ (n:=n') (by lia) (by lia) e4.du e4.pm
def JD(h1:1<=p₀.size):Cn R v p₀ (aO (ans R v) (kas_count p₀.size p₀)):=by
 have s1:SU R v p₀ 1:=λi j cm hj=>by
  obtain rfl:i=j:=by lia
  exact R.rfl _
 obtain⟨a,b,c,g⟩:=yr (p:=p₀) (p₀.size-1) 1 (Wn _) s1;unfold kas_count;rw[gC];generalize aO (ans R v) (kas_asc p₀ (p₀.size-1) 1)=n at a b c g;by_cases e:(n==p₀.size)=true
 ·rw[Wq e];exact⟨a,.refl _,by show n<=_;lia⟩
 ·rw [Ww e];have ne:n≠p₀.size:=by simpa using e
  have g':=g (by lia)
  by_cases h:n > 1
  ·rw [Wq h];show Cn R v p₀ (aO _ (if ans R v (p₀.getD 0 0) (p₀.getD (n-1) 0)=true then _ else _))
   by_cases x:ans R v (p₀.getD 0 0) (p₀.getD (n-1) 0)=true
   ·rw[Wq x];exact⟨a,.refl _,by show n<=_;lia⟩
   ·rw[Ww x];have al:R.le (V v p₀ (n-1)) (V v p₀ 0):=uz x;have d:DU R v (kas_rev p₀ 0 n) n:=λi j cm hj=>by
     rw[jr (by lia),jr (by lia),Wq (by lia),Wq (by lia)]
     exact a _ _ (by lia) (by lia)
    refine Cp (by lia) (by lia) (d.up (by lia) ?_) (ug _ _)
    rw[wB (by lia) (Wn _),jr (by lia),Wq (by lia)]
    exact R.trans g' (R.trans al (a 0 _ (by lia) (by lia)))
  ·rw[Ww h];obtain rfl:n=1:=by lia
   refine Cp (Wn _) (by lia) ?_ (.refl _)
   have d1:DU R v p₀ 1:=λi j cm hj=>by
    obtain rfl:i=j:=by lia
    exact R.rfl _
   exact d1.up (Wn _) g'
theorem ue(s:SU R v p k):∀ (f l r:Nat),l<=r->r<=k->r - l<=f->(∀ i,i<l->R.le (V v p i) (V v p k))->(∀ i,r<=i->i<k->R.le (V v p k) (V v p i))->
  aO (ans R v) (kas_place p k f l r)<=k/\(∀i,i<aO (ans R v) (kas_place p k f l r)->R.le (V v p i) (V v p k))/\∀i,aO (ans R v) (kas_place p k f l r)<=i->i<k->R.le (V v p k) (V v p i)
 |0,l,r,h1,h2,h3,a,b=>by
   obtain rfl:l=r:=by lia
   exact⟨h2,a,b⟩
 | f + 1,l,r,h1,h2,h3,a,b=>by
   by_cases c:l ≥ r
   ·have e:aO (ans R v) (kas_place p k (f+1) l r)=l:=by
     show aO (ans R v) (if l ≥ r then .ret l else _)=l
     rw[Wq c];rfl
    rw[e];exact⟨by lia,a,λi hi=>b i (by lia)⟩
   ·by_cases d:ans R v (p.getD k 0) (p.getD ((l + r) / 2) 0)=true
    ·have e:aO (ans R v) (kas_place p k (f+1) l r)=aO (ans R v) (kas_place p k f l ((l+r) / 2)):=by
      show aO (ans R v) (if l ≥ r then .ret l else _)=_
      rw[Ww c];show aO (ans R v) (if ans R v (p.getD k 0) (p.getD ((l+r) / 2) 0)=true then _ else _)=_
      rw[Wq d]
     rw[e];have x:R.le (V v p k) (V v p ((l+r) / 2)):=xm d;exact ue s f l _ (by lia) (by lia) (by lia) a λi hi hk=>R.trans x (s _ _ hi hk)
    ·have e:aO (ans R v) (kas_place p k (f+1) l r)=aO (ans R v) (kas_place p k f ((l+r) / 2+1) r):=by
      show aO (ans R v) (if l ≥ r then .ret l else _)=_
      rw[Ww c];show aO (ans R v) (if ans R v (p.getD k 0) (p.getD ((l+r) / 2) 0)=true then _ else _)=_
      rw[Ww d]
     rw[e];have x:R.le (V v p ((l+r) / 2)) (V v p k):=uz d;exact ue s f _ r (by lia) (by lia) (by lia) (λi hi=>R.trans (s i _ (by lia) (by lia)) x) b
theorem Gb:∀ (f:Nat) (p:B9) (k:Nat),k + f=p₀.size->p.Perm p₀->SU R v p k->SU R v (aO (ans R v) (kas_bin f p k)) p₀.size/\(aO (ans R v) (kas_bin f p k)).Perm p₀
 |0,p,k,h,pm,s=>by
   obtain rfl:k=p₀.size:=by lia
   exact⟨s,pm⟩
 | f + 1,p,k,h,pm,s=>by
   obtain⟨a,b,c⟩:=ue s k 0 k (by lia) (Wn _) (by lia) (λi hi=>by lia) (λi h1 h2=>by lia)
   show SU R v (aO (ans R v) ((kas_place p k k 0 k).bind λl=>kas_bin f (bubble p k (k-l)) (k+1))) _/\(aO (ans R v) ((kas_place p k k 0 k).bind λl=>kas_bin f (bubble p k (k-l)) (k+1))).Perm p₀
   rw[gC];generalize aO (ans R v) (kas_place p k k 0 k)=l at a b c;have ks:k<p.size:=by rw[pm.size_eq];lia
   refine Gb f _ (k+1) (by lia) ((bubble_perm _ _ _).trans pm) λi j cm hj=>?_
   rw[Lg ks (by lia),Lg ks (by lia)]
   have el:k-(k-l)=l:=by lia
   rw[el];by_cases c1:i=l
   ·rw[Wq c1];by_cases c2:j=l
    ·rw[Wq c2];exact R.rfl _
    ·rw[Ww c2,Wq (by lia)]
     exact c _ (by lia) (by lia)
   ·rw [Ww c1];by_cases c3:l<i/\i<=k
    ·rw[Wq c3,Ww (by lia),Wq (by lia)]
     exact s _ _ (by lia) (by lia)
    ·rw[Ww c3];by_cases c2:j=l
     ·rw[Wq c2];exact b _ (by lia)
     ·rw[Ww c2];by_cases c4:l<j/\j<=k
      ·rw[Wq c4];exact s _ _ (by lia) (by lia)
      ·rw[Ww c4];exact s _ _ (by lia) (by lia)
def Px(h2:1<=n):SU R v (aO (ans R v) (kas_sort n)) n/\(aO (ans R v) (kas_sort n)).Perm (List.range n).toArray:=by
 have z:(List.range n).toArray.size=n:=by simp
 have c:=JD (R:=R) (v:=v) (p₀:=(List.range n).toArray) (by lia)
 rw[z]at c;unfold kas_sort;rw[gC];revert c;generalize aO (ans R v) (kas_count n (List.range n).toArray)=r;obtain⟨m,p⟩:=r;rintro⟨a,b,d⟩;dsimp only at a b d ⊢
 rw[z]at d;by_cases e:m<n
 ·rw [Wq e];have q:=Gb (R:=R) (v:=v) (p₀:=(List.range n).toArray) (n-max m 1) p (max m 1) (by rw[z];lia) b (by
   by_cases x:1<=m
   ·rw[Nat.max_eq_left x];exact a
   ·have:max m 1=1:=by lia
    rw[this];intro i j cm hj;obtain rfl:i=j:=by lia
    exact R.rfl _)
  rw[z]at q;exact q
 ·rw[Ww e];obtain rfl:m=n:=by lia
  exact⟨a,b⟩
end
def fL{α:Type}(n:Nat)(P:α->Prop):KasT α->Prop
 |.ret a=>P a
 |.ask i j k=>i<n/\j<n/\∀b,fL n P (k b)
theorem fL.bind{α β:Type}{n:Nat}{P:α->Prop}{P':β->Prop}{f:α->KasT β}(hf:∀a,P a->fL n P' (f a)):∀{t:KasT α},fL n P t->fL n P' (t.bind f)
 |.ret a,h=>hf a h
 |.ask _ _ k,h=>⟨h.1,h.2.1,λb=>fL.bind hf (h.2.2 b)⟩
theorem Dh(h:∀i j C,i<n->j<n->C (o i j) s->cmp i j C s):∀(t:KasT α),fL n P t->Q (aO o t) s->t.kasWp cmp Q s
 |.ret _,_,q=>q
 |.ask i j k,b,q=>h i j _ b.1 b.2.1 (Dh h (k (o i j)) (b.2.2 _) q)
def Bd(n:Nat)(p:B9):Prop:=0<n/\∀x∈p.toList,x<n
theorem Bd.at(h:Bd n p)(i:Nat):p.getD i 0<n:=by
 rw[Xu];cases e:p[i]? with
 |none=>exact h.1
 |some x=>exact h.2 x (by rw[ZR]at e;obtain⟨h1,rfl⟩:=e;simp)
def Bd.perm(h:Bd n p)(pm:q.Perm p):Bd n q:=⟨h.1,λx hx=>h.2 x ((Array.perm_iff_toList_perm.mp pm).mem_iff.mp hx)⟩
def Bd.rev(h:Bd n p)(i j:Nat):Bd n (kas_rev p i j):=h.perm (mirror_perm _ _ _ _)
theorem yq(h:Bd n p):∀ (f m:Nat),fL n (λz=>True) (kas_asc p f m)
 |0,_=>trivial
 |f+1,m=>⟨h.at _,h.at _,λb=>by
   cases b
   ·exact yq h f (m+1)
   ·exact trivial⟩
theorem qO:∀ (f:Nat) (p:B9) (m q:Nat),Bd n p->fL n (λr=>Bd n r.1) (kas_desc f p m q)
 |0,p,_,_,h=>h
 | f + 1,p,m,q,h=>⟨h.at _,h.at _,λb=>by
   cases b
   ·exact⟨h.at _,h.at _,λb=>by
     cases b
     ·exact qO f _ _ _ h
     ·exact h⟩
   ·show fL n _ (if q > 0 then _ else _)
    split
    ·exact qO f _ _ _ (h.rev _ _)
    ·exact qO f _ _ _ h⟩
def CW{n m k:Nat}{p:B9}(h:Bd n p):fL n (λr=>Bd n r.2) (kas_tail3 m k p):=by
 unfold kas_tail3;refine fL.bind (P:=λz=>True) (λa z=>?_) (yq (h.rev _ _) _ _)
 show Bd n (kas_rev p 0 m);exact h.rev 0 m
def Cm{n m k:Nat}{p:B9}(h:Bd n p):fL n (λr=>Bd n r.2) (kas_descPart m k p):=fL.bind (P:=λr=>Bd n r.1) (λr hr=>by
 split
 ·exact CW (hr.rev _ _)
 ·exact CW hr) (qO _ _ _ _ h)
def JC{n k:Nat}{p:B9}(h:Bd n p):fL n (λr=>Bd n r.2) (kas_count k p):=fL.bind (P:=λz=>True) (λm z=>by
 split
 ·exact h
 ·split
  ·exact⟨h.at _,h.at _,λb=>by
    cases b
    ·exact Cm (h.rev _ _)
    ·exact h⟩
  ·exact Cm h) (yq h _ _)
theorem ud(h:Bd n p)(k:Nat):∀ (f l r:Nat),fL n (λz=>True) (kas_place p k f l r)
 |0,_,_=>trivial
 | f + 1,l,r=>by
   unfold kas_place;split
   ·exact trivial
   ·exact⟨h.at _,h.at _,λb=>by
     cases b
     ·exact ud h k f _ _
     ·exact ud h k f _ _⟩
theorem Ga{n:Nat}:∀(f:Nat) (p:B9) (k:Nat),Bd n p->fL n (λz=>True) (kas_bin f p k)
 |0,_,_,_=>trivial
 |f+1,p,k,h=>fL.bind (P:=λz=>True) (λl z=>Ga f _ _ (h.perm (bubble_perm _ _ _))) (ud h _ _ _ _)
def Pu{n:Nat}(h:0<n):fL n (λz=>True) (kas_sort n):=by
 have b:Bd n (List.range n).toArray:=⟨h,λx hx=>by simpa using hx⟩
 refine fL.bind (P:=λr=>Bd n r.2) (λr hr=>?_) (JC b)
 split
 ·exact Ga _ _ _ hr
 ·exact trivial
end LB
namespace LB
open PySem PySem.W PySem.Calls PyProof.Rows
def dD:C1->C1->Bool
 |[],[]=>false
 |[],_::_=>true
 |_::_,[]=>false
 |a::x,b::y=>if a=b then dD x y else decide (a<b)
theorem Ca:∀x,dD x x=false
 |[]=>rfl
 |a::x=>by simp[dD,Ca x]
theorem Cd:∀ {x y:C1},dD x y=false->dD y x=false->x=y
 |[],[],_,_=>rfl
 |[],_::_,h,_=>by cases h
 |_::_,[],_,h=>by cases h
 | a::x,b::y,h1,h2=>by
   simp only[dD]at h1 h2;by_cases c:a=b
   ·subst c;rw[Wq rfl]at h1 h2;rw[Cd h1 h2]
   ·rw[Ww c]at h1;rw[Ww (Ne.symm c)]at h2;simp at h1 h2
    lia
theorem uc:∀ {x y:C1},dD x y=true->dD y x=false
 |[],[],h=>by cases h
 |[],_::_,_=>rfl
 |_::_,[],h=>by cases h
 | a::x,b::y,h=>by
   simp only[dD]at h ⊢
   by_cases c:a=b
   ·subst c;rw[Wq rfl]at h ⊢
    exact uc h
   ·rw[Ww c]at h;rw[Ww (Ne.symm c)];simp at h ⊢
    lia
theorem pY:∀ {x y z:C1},dD y x=false->dD z y=false->dD z x=false
 |[],[],[],_,_=>rfl
 |[],[],_::_,_,_=>rfl
 |[],_::_,[],_,h=>by cases h
 |[],_::_,_::_,_,_=>rfl
 |_::_,[],_,h,_=>by cases h
 |_::_,_::_,[],_,h=>by cases h
 | a::x,b::y,c::z,h1,h2=>by
   simp only[dD]at h1 h2 ⊢
   by_cases e1:b=a
   ·subst e1;rw[Wq rfl]at h1;by_cases e2:c=b
    ·subst e2;rw[Wq rfl]at h2 ⊢
     exact pY h1 h2
    ·rw[Ww e2]at h2 ⊢
     exact h2
   ·rw[Ww e1]at h1;by_cases e2:c=b
    ·subst e2;rw[Ww e1];exact h1
    ·rw[Ww e2]at h2;simp at h1 h2;rw[Ww (by lia)]
     simp
     lia
def iu:Ord C1 where
 le x y:=dD y x=false
 dec x y:=inferInstance
 rfl:=Ca
 trans:=pY
 tot x y:=by
  cases h:dD y x
  ·exact .inl rfl
  ·exact .inr (uc h)
def tV(x:C1):A7->A7
 |[]=>[x]
 |y::r=>if dD y x=false then x::y::r else y::tV x r
def wg(l:A7):A7:=l.foldr tV []
theorem p7(x:C1):∀ l,(tV x l).Perm (x::l)
 |[]=>.refl _
 |y::r=>by
   unfold tV;split
   ·exact .refl _
   ·exact ((p7 x r).cons y).trans (.swap x y r)
abbrev lG(l:A7):Prop:=l.Pairwise λx y=>dD y x=false
theorem wM(x:C1):∀ {l:A7},lG l->lG (tV x l)
 |[],_=>by simp[tV,lG]
 | y::r,h=>by
   have h':=Xq.mp h;unfold tV;split
   ·rename_i c;exact Xq.mpr ⟨λz hz=>by
     rcases Wz.mp hz with rfl | hz
     ·exact c
     ·exact pY c (h'.1 z hz),h⟩
   ·rename_i c;refine Xq.mpr ⟨λz hz=>?_,wM x h'.2⟩
    rcases Wz.mp ((p7 x r).mem_iff.mp hz) with rfl | hz
    ·exact uc (by simpa using c)
    ·exact h'.1 z hz
theorem fG:∀ l:A7,(wg l).Perm l/\lG (wg l)
 |[]=>⟨.refl _,List.Pairwise.nil⟩
 |x::l=>by obtain⟨a,b⟩:=fG l;exact⟨(p7 x _).trans (a.cons x),wM x b⟩
theorem qp:∀ {a b:A7},a.Perm b->lG a->lG b->a=b
 |[],b,p,_,_=>(List.nil_perm.mp p).symm
 |x::a,[],p,_,_=>absurd p.length_eq (by simp)
 | x::a,y::b,p,ha,hb=>by
   have ha':=Xq.mp ha;have hb':=Xq.mp hb;have e:x=y:=by
    have m1:y∈x::a:=p.mem_iff.mpr (WP);have m2:x∈y::b:=p.mem_iff.mp (WP);rcases Wz.mp m1 with e | m1
    ·exact e.symm
    ·rcases Wz.mp m2 with e | m2
     ·exact e
     ·exact Cd (hb'.1 x m2) (ha'.1 y m1)
   subst e;rw[qp (List.Perm.cons_inv p) ha'.2 hb'.2]
section
variable{prog:C5}{w:World}{A:Around}{E:A3}{s:Shared}{b fin:Bool}{Q:Bool->B2}
theorem za:∀ {xs ys:B5}{x y:C1} (i:Nat),IntsAre xs x->IntsAre ys y->fin=decide (x.length<y.length)->Q (dD x y) s->KatLex prog w A b fin Q (xs.zip ys) i s
 |[],[],_,_,i,.nil,.nil,hf,q=>by have e:fin=false:=hf;subst e;exact kat_nil q
 |[],_::_,_,_,i,.nil,.cons m u r,hf,q=>by
   have e:fin=true:=by rw[hf];simp
   subst e;exact kat_nil q
 |_::_,[],_,_,i,.cons m u r,.nil,hf,q=>by
   have e:fin=false:=by rw[hf];simp
   subst e;exact kat_nil q
 | _::xs,_::ys,_,_,i,.cons m t (ns:=x) r,.cons n u (ns:=y) r',hf,q=>by
   rw[YZ];refine kat_cons ((intKind prog w).eqBool (a:=m) (b:=n) (aaB _ _ _ _) (aaB _ _ _ _) ?_);by_cases c:m=n
   ·rw[WY c];have q':Q (dD x y) s:=by rw[dD,Wq c]at q;exact q
    exact kat_yes (za (i+1) r r' (by rw[hf];simp) q')
   ·rw[Xo c];have q':Q (decide (m<n)) s:=by rw[dD,Ww c]at q;exact q
    refine kat_no ?_;cases (b&&i==0) with
    |true=>exact oneLt_int q'
    |false=>exact kat_one _ _ (PySem.P.lt_int q')
end
def TupAt(h:Heap)(v:Value)(t:C1):Prop:=t≠[]/\∃a its,v=.ref a/\IsTup h a its/\IntsAre its.toList t
abbrev gD(h:Heap):B5->A7->Prop:=Paired (TupAt h)
theorem ou:∀{xs:List α}{ys:List β}{i:Nat}{x:α}{y:β},Paired R xs ys->xs[i]?=some x->ys[i]?=some y->R x y
 |_,_,0,_,_,.cons r _,e1,e2=>by cases e1;cases e2;exact r
 |_,_,i+1,_,_,.cons _ t,e1,e2=>ou (i:=i) t e1 e2
theorem gD.keep(k:∀a its,IsTup h a its->IsTup h' a its):∀{vs:B5}{ts:A7},gD h vs ts->gD h' vs ts
 |_,_,.nil=>.nil
 |_,_,.cons ⟨n,a,its,e,i,q⟩ t=>.cons ⟨n,a,its,e,k _ _ i,q⟩ (gD.keep k t)
section
variable{prog:C5}{w:World}{A:Around}{E:A3}{s:Shared}
theorem wL:∀ {vs:B5}{ts:A7},gD h vs ts->∃ fs,KatTups h vs fs/\fs.length=vs.length/\∀ v∈fs,∃ i t,v=.int i t
 |_,_,.nil=>⟨[],.nil,rfl,λv hv=>by cases hv⟩
 | _,_,.cons r tl=>by
   obtain⟨fs,k,l,q⟩:=wL tl;obtain⟨ne,a,its,rfl,⟨o,ho,hc,n,hd⟩,hi⟩:=r;obtain⟨l'⟩:=its;cases hi with
   |nil=>exact absurd rfl ne
   |cons i t r2=>
     refine⟨_::fs,KatTups.cons ho hc hd rfl k,by simp[l],λv hv=>?_⟩
     rcases Wz.mp hv with rfl | hv
     ·exact⟨i,t,rfl⟩
     ·exact q v hv
def G7(h:gD s.heap vs ts)(h1:0<vs.length)(q:Q (tuples' true) s):wq prog w A (keyKind' vs.toArray) Q E s:=by obtain⟨fs,k,l,f⟩:=wL h;exact kat_kind (T:=.type "int") k (by lia) (λv hv=>by obtain⟨i,t,rfl⟩:=f v hv;exact Looks.of_pure rfl) (by decide) q
def Jq(h:gD s.heap vs ts)(hi:i<vs.length)(hj:j<vs.length)(q:C (dD (ts.getD i []) (ts.getD j [])) s):kas_ask prog w A (tuples' true) vs i j C s:=by
 have hl:=Z0 h;unfold kas_ask;have e1:vs.getD i Value.none=vs[i]:=by simp[hi]
 have e2:vs.getD j Value.none=vs[j]:=by simp[hj]
 have t1:ts.getD i []=ts[i]'(by lia):=by simp[show i<ts.length by lia]
 have t2:ts.getD j []=ts[j]'(by lia):=by simp[show j<ts.length by lia]
 rw[e1,e2];rw[t1,t2]at q;obtain⟨_,a,its,ea,⟨oa,hoa,_,na,hda⟩,ia⟩:=ou (i:=i) h (Wl hi) (Wl (by lia))
 obtain⟨_,b,jts,eb,⟨ob,hob,_,nb,ai⟩,ib⟩:=ou (i:=j) h (Wl hj) (Wl (by lia))
 rw[ea,eb];refine kat_lt hoa hda hob ai (za 0 ia ib ?_ q);have:=aag ia;have:=aag ib;simp at *;congr 1
 lia
end
def Qg{ts:A7}(i j:Nat):ans iu (λi=>ts.getD i []) i j=dD (ts.getD i []) (ts.getD j []):=by
 by_cases h:dD (ts.getD i []) (ts.getD j [])=true
 ·rw[h];have:¬ iu.le (ts.getD j []) (ts.getD i []):=λz=>by have z:dD (ts.getD i []) (ts.getD j [])=false:=z;rw[h]at z;cases z
  unfold ans;rw[@decide_eq_false _ (iu.dec _ _) this];rfl
 ·have h:dD (ts.getD i []) (ts.getD j [])=false:=by simpa using h
  have:iu.le (ts.getD j []) (ts.getD i []):=h;unfold ans;rw[h,@decide_eq_true _ (iu.dec _ _) this];rfl
def RZ{p:B9}{ts:A7}{n:Nat}(h:SU iu (λi=>ts.getD i []) p n)(hs:p.size=n):lG (p.toList.map λi=>ts.getD i []):=by
 rw[lG,Zo,Yg];intro i j h1 h2 cm;have h1':i<p.size:=by simpa using h1
 have kn:j<p.size:=by simpa using h2
 have z:dD (ts.getD (p.getD j 0) []) (ts.getD (p.getD i 0) [])=false:=h i j (YJ cm) (by lia)
 have e1:p.getD i 0=p.toList[i]:=by simp[Array.getD,h1']
 have e2:p.getD j 0=p.toList[j]:=by simp[Array.getD,kn]
 rw[e1,e2]at z;exact z
section
variable{prog:C5}{w:World}{A:Around}{E:A3}{s:Shared}
structure Srt(vs:B5)(ts:A7)(is:C0):Prop where
 lt:∀i∈is,i<vs.length
 pm:is.Perm (List.range vs.length)
 ris:lG (is.map λi=>ts.getD i [])
def vO(ho:s.heap.get? a=some (seqObj "list" vs.toArray n))
  (hT:gD s.heap vs ts) (h64:vs.length<64)
  (h:∀is,Srt vs ts is->P (.done (.ret .none)) { s with heap:=sortedHeap s.heap a vs (is.map λi=>vs.getD i Value.none).toArray }) :
  wq prog w A (Builtin.«list.sort» ⟨[.ref a],[]⟩) P E s:=by
 have hl:=Z0 hT;rw[list_sort_plain];have ha:a<s.z:=Wo ho;refine Wg (listItems_at ho rfl ?_);refine Wg (aat ho rfl ?_);obtain⟨e1,ho1⟩:∃e1,(s.heap.update a (Obj.mapSeq λy=>#[])).get? a=some (seqObj "list" #[] e1):=⟨_,aaS ho (λy=>#[])⟩
 refine Wg (seqEpoch_at ho1 rfl ?_);refine Wg (wpAny_newTuple ?_);refine Wg (wpAny_newList ?_);refine Xw ?_;have ho6:(((s.heap.update a (Obj.mapSeq λy=>#[])).push (seqObj "tuple" vs.toArray 0)).push (seqObj "list" #[] 0)).get? a=some (seqObj "list" #[] e1):=by
  rw[aal _ _ _ (by rw[size_push',aau];exact WL (Yo ha)),aal _ _ _ (by rw[aau];exact WL ha)]
  exact ho1
 have kp:∀b its,IsTup s.heap b its->IsTup (((s.heap.update a (Obj.mapSeq λy=>#[])).push (seqObj "tuple" vs.toArray 0)).push (seqObj "list" #[] 0)) b its:=λb its hb=>by
  obtain⟨o,hb,hc,r⟩:=hb;have ne:b≠a:=λz=>by subst z;rw[ho]at hb;cases hb;have hc:Value.type "list"=Value.type "tuple":=hc;exact absurd hc (by decide)
  have lt:=Wo hb;refine⟨o,?_,hc,r⟩;rw[aal _ _ _ (by rw[size_push',aau];exact WL (Yo lt)),aal _ _ _ (by rw[aau];exact WL lt),aaJ _ _ _ _ ne]
  exact hb
 have hT':=hT.keep kp;show wq prog w A _ P E { s with heap:=((s.heap.update a (Obj.mapSeq λy=>#[])).push (seqObj "tuple" vs.toArray 0)).push (seqObj "list" #[] 0) }
 dsimp only;have hsz:vs.toArray.size=vs.length:=by simp
 by_cases h2:vs.toArray.size<2
 ·rw[Wq h2,Wq h2];refine Wg (Wh ?_);rw[StateT.run_pure];refine Wg (Wh ?_);dsimp only;refine Wg (seqEpoch_at ho6 rfl ?_);refine Wg (aat ho6 rfl ?_ (hsz2:=by rw[Array.size_map];show (pairsOf vs).size<=_;rw[pairsOf_size,Yx];lia))
  simp only[bne_self_eq_false,Bool.false_eq_true,if_false];have fin:=h (List.range vs.length) ⟨λi hi=>Wr.mp hi,.refl _,by
   rw[hsz]at h2
   match vs,h2 with
   |[],_=>exact List.Pairwise.nil
   |[_],_=>exact List.pairwise_singleton _ _
   |_::_::_,z=>simp at z;lia⟩
  have e:((List.range vs.length).map λi=>vs.getD i Value.none).toArray=(arrOf (SortSt.mk' general' (vs.toArray.zip vs.toArray) #[] 7 none)).map (·.2):=by
   show _=(vs.toArray.zip vs.toArray).map (·.2);rw[hsz]at h2
   match vs,h2 with
   |[],_=>simp
   |[_],_=>simp
   |_::_::_,z=>simp at z;lia
  rw[e]at fin;exact Wh fin
 ·rw [Ww h2,Ww h2];rw[hsz]at h2;refine Wg (G7 hT' (by lia) ?_)
  obtain⟨su,pm⟩:=Px (R:=iu) (v:=λi=>ts.getD i []) (n:=vs.length) (by lia)
  have pl:(aO (ans iu λi=>ts.getD i []) (kas_sort vs.length)).toList.Perm (List.range vs.length):=by simpa using Array.perm_iff_toList_perm.mp pm
  have fin:=h (aO (ans iu λi=>ts.getD i []) (kas_sort vs.length)).toList ⟨λi hi=>Wr.mp (pl.mem_iff.mp hi),pl,by exact RZ su (by have:=pl.length_eq;simp only[Array.length_toList,List.length_range]at this;exact this)⟩
  have ask:(kas_sort vs.length).kasWp (kas_ask prog w A (tuples' true) vs) (λp s'=>p=aO (ans iu λi=>ts.getD i []) (kas_sort vs.length)/\s'={ s with heap:=((s.heap.update a (Obj.mapSeq λy=>#[])).push (seqObj "tuple" vs.toArray 0)).push (seqObj "list" #[] 0) }) { s with heap:=((s.heap.update a (Obj.mapSeq λy=>#[])).push (seqObj "tuple" vs.toArray 0)).push (seqObj "list" #[] 0) }:=
   Dh (o:=ans iu λi=>ts.getD i []) (λi j C hi hj q=>Jq hT' hi hj (by
    have e:ans iu (λi=>ts.getD i []) i j=dD (ts.getD i []) (ts.getD j []):=by exact Qg _ _
    rw[e]at q;exact q)) _ (Pu (by lia)) ⟨rfl,rfl⟩
  refine Wg (W5 (kat_run (Q:=λgp s'=>arrOf gp=(aO (ans iu λi=>ts.getD i []) (kas_sort vs.length)).map (kas_item (vs.toArray.zip vs.toArray))/\failedOf gp=none/\s'={ s with heap:=((s.heap.update a (Obj.mapSeq λy=>#[])).push (seqObj "tuple" vs.toArray 0)).push (seqObj "list" #[] 0) })
   rfl (by lia) h64 (λp' gp s' a1 a2 a3 a4=>by obtain⟨rfl,rfl⟩:=a4;exact⟨a2,a3,rfl⟩) ask) ?_ λy y e=>e)
  rintro⟨⟨⟩,gp⟩ s' ⟨har,hf,rfl⟩;dsimp only;have hout:=kat_snds (vs:=vs) rfl har;refine Wg (seqEpoch_at ho6 rfl ?_);rw[hout];refine Wg (aat ho6 rfl ?_ (hsz2:=by rw[WX,Wm,Yx];have:=pl.length_eq;simp at this ⊢;lia))
  rw[hf];simp only[bne_self_eq_false,Bool.false_eq_true,if_false];exact Wh fin
end
end LB
namespace L2
open PyProof.Rows LS LB
theorem jW:∀ {ns:C1}{us:B5},Vals (ns.map V.int) us->IntsAre us ns
 |[],_,.nil=>.nil
 |n::ns,_,.cons r t=>by obtain⟨k,rfl⟩:=r;exact .cons _ _ (jW t)
end L2
namespace LB
open PySem PySem.W PySem.Calls PyProof.Rows
end LB
namespace L2
open PyProof.Rows LS LB
end L2
namespace LA
open PySem LS
def pI(m:Nat)(p:SetTable.Probe):SetTable.Probe:=
 if p.more > 0 then { p with j:=p.j+1,more:=p.more-1 } else
 { p with j:=(SetTable.leap m p.i p.perturb).1,more:=SetTable.runEnd m (SetTable.leap m p.i p.perturb).1-(SetTable.leap m p.i p.perturb).1,i:=(SetTable.leap m p.i p.perturb).1,perturb:=(SetTable.leap m p.i p.perturb).2 }
def rs(m i q:Nat):SetTable.Probe:={ j:=i,more:=SetTable.runEnd m i-i,i:=i,perturb:=q,dummy:=none }
def st(m:Nat)(h:Int):SetTable.Probe:=rs m (SetTable.bits h%(m+1)) (SetTable.bits h)
def pr(m:Nat)(h:Int):Nat->SetTable.Probe
 |0=>st m h
 |n+1=>pI m (pr m h n)
def J(m:Nat)(h:Int)(n:Nat):Nat:=(pr m h n).j
theorem zB(m:Nat)(h:Int):∀ n,(pr m h n).dummy=none
 |0=>rfl
 |n+1=>by have ih:=zB m h n;show (pI m (pr m h n)).dummy=none;unfold pI;split<;>exact ih
def lp(m:Nat)(h:Int):Nat->Nat×Nat
 |0=>(SetTable.bits h%(m+1),SetTable.bits h)
 |n+1=>SetTable.leap m (lp m h n).1 (lp m h n).2
def R1(m i:Nat):SetTable.runEnd m i-i<=9:=by unfold SetTable.runEnd;split<;>lia
def zW(m i:Nat):i<=SetTable.runEnd m i:=by unfold SetTable.runEnd;split<;>lia
def zX(h:i<=m):SetTable.runEnd m i<=m:=by unfold SetTable.runEnd;split<;>lia
theorem pZ(e:pr m h n=rs m i q):∀ k,k<=SetTable.runEnd m i - i->pr m h (n + k)={ rs m i q with j:=i + k,more:=SetTable.runEnd m i - i - k }
 |0,_=>e
 |k+1,hk=>by
   have ih:=pZ e k (by lia)
   show pI m (pr m h (n+k))=_;rw[ih];unfold pI;rw[Wq (by show SetTable.runEnd m i-i-k > 0;lia)]
   show SetTable.Probe.mk _ _ _ _ _=SetTable.Probe.mk _ _ _ _ _;congr 1
def Ko(e:pr m h n=rs m i q):pr m h (n+(SetTable.runEnd m i-i)+1)=rs m (SetTable.leap m i q).1 (SetTable.leap m i q).2:=by
 have:=pZ e _ (Wn _);show pI m (pr m h (n+(SetTable.runEnd m i-i)))=_;rw[this];unfold pI;rw[Ww (by show ¬ SetTable.runEnd m i-i-(SetTable.runEnd m i-i) > 0;lia)]
 rfl
def bg(m:Nat)(h:Int):Nat->Nat
 |0=>0
 |L+1=>bg m h L+(SetTable.runEnd m (lp m h L).1-(lp m h L).1)+1
theorem Lj(m:Nat)(h:Int):∀L,pr m h (bg m h L)=rs m (lp m h L).1 (lp m h L).2
 |0=>rfl
 |L+1=>Ko (Lj m h L)
theorem Li(m:Nat)(h:Int):∀ L,bg m h L<=10 * L
 |0=>Wn _
 |L+1=>by
   have:=Li m h L;have:=R1 m (lp m h L).1;show bg m h L+(SetTable.runEnd m (lp m h L).1-(lp m h L).1)+1<=_
   lia
def xg(m:Nat)(h:Int)(L k:Nat)(hk:k<=SetTable.runEnd m (lp m h L).1-(lp m h L).1):J m h (bg m h L+k)=(lp m h L).1+k:=by unfold J;rw[pZ (Lj m h L) k hk]
theorem Rb(m:Nat)(h:Int):∀ L,(lp m h L).2=SetTable.bits h / 32 ^ L
 |0=>by simp[lp]
 |L+1=>by show (lp m h L).2 / 32=_;rw[Rb m h L,Nat.div_div_eq_div_mul,Nat.pow_succ]
def Nb(h:Int):SetTable.bits h<2^64:=by
 unfold SetTable.bits;have a:=Int.emod_nonneg h (show (2^64:Int)≠0 by decide)
 have b:=Int.emod_lt_of_pos h (show (0:Int)<2^64 by decide)
 have e:((2^64:Int))=((2^64:Nat):Int):=by norm_cast
 lia
def N6(m:Nat)(h:Int)(L:Nat):(lp m h (13+L)).2=0:=by
 rw[Rb];refine Nat.div_eq_of_lt (Wt (Nb h) ?_);have:(32:Nat)^13<=32^(13+L):=Za (by decide) (by lia)
 exact W0 (by decide) this
def Gm(m:Nat):Nat->Nat->Nat
 |0,i=>i
 |k+1,i=>(Gm m k i*5+1)%(m+1)
theorem Hg(m:Nat)(h:Int):∀ k,(lp m h (13 + k)).1=Gm m k (lp m h 13).1
 |0=>rfl
 |k+1=>by show ((lp m h (13+k)).1*5+1+(lp m h (13+k)).2 / 32)%(m+1)=_;rw[N6,Hg m h k];rfl
def Lw(m:Nat)(h:Int):∀L,(lp m h L).1<=m
 |0=>aan (Yj _ (by lia))
 |L+1=>aan (Yj _ (by lia))
def MK(m:Nat):Prop:=m=7\/m=31
def Ng:∀{m:Nat},MK m->∀i s,i<=m->s<=m->∃k,k<=m/\Gm m k i=s:=by
 intro m hm i s hi hs;have c7:∀i:Fin 8,∀s:Fin 8,((List.range 8).any λk=>Gm 7 k i==s)=true:=by decide
 have c31:∀i:Fin 32,∀s:Fin 32,((List.range 32).any λk=>Gm 31 k i==s)=true:=by decide +kernel
 rcases hm with rfl | rfl
 ·have:=c7 ⟨i,by lia⟩ ⟨s,by lia⟩
  obtain⟨k,hk,e⟩:=Zb.mp this;exact⟨k,by have:=Wr.mp hk;lia,by simpa using e⟩
 ·have:=c31 ⟨i,by lia⟩ ⟨s,by lia⟩
  obtain⟨k,hk,e⟩:=Zb.mp this;exact⟨k,by have:=Wr.mp hk;lia,by simpa using e⟩
def Hf(hm:MK m)(h:Int)(hs:s<=m):∃L,L<m+15/\(lp m h L).1=s:=by obtain⟨k,hk,e⟩:=Ng hm _ s (Lw m h 13) hs;exact⟨13+k,by lia,by rw[Hg];exact e⟩
def visit(hm:MK m)(h:Int)(hs:s<=m):∃n,n<10*(m+15)/\J m h n=s:=by
 obtain⟨L,hL,e⟩:=Hf hm h hs;refine⟨bg m h L,by have:=Li m h L;lia,?_⟩
 have:=xg m h L 0 (X3 _);rw[Nat.add_zero,Nat.add_zero]at this;rw[this,e]
def yJ{P:Nat->Prop}:∀ {n:Nat},P n->∃ k,k<=n/\P k/\∀ m,m<k->¬ P m:=by
 intro n;induction n using Nat.strongRecOn with
 | ind n ih=>
   intro h;by_cases c:∃m,m<n/\P m
   ·obtain⟨m,hm,hp⟩:=c;obtain⟨k,h1,h2,h3⟩:=ih m hm hp;exact⟨k,by lia,h2,h3⟩
   ·exact⟨n,Wn _,h,λm hm hp=>c ⟨m,hm,hp⟩⟩
def HD:∀ (m:Nat) (l:C0),l.length<=m->∃ s,s<=m/\s∉l:=by
 intro m;induction m with
 |zero=>intro l hl;exact⟨0,Wn _,by have:l=[]:=aaj.mp (by lia);rw[this];simp⟩
 | succ m ih=>
   intro l hl;by_cases c:m+1∈l
   ·obtain⟨s,h1,h2⟩:=ih (l.erase (m+1)) (by rw[List.length_erase_of_mem c];lia)
    exact⟨s,by lia,λz=>h2 ((List.mem_erase_of_ne (by lia)).mpr z)⟩
   ·exact⟨m+1,Wn _,c⟩
def JW{m:Nat}(hm:MK m)(h:Int){l:C0}(hl:l.length<=m):∃n,n<10*(m+15)/\J m h n∉l/\∀k,k<n->J m h k∈l:=by
 obtain⟨s,hs,ns⟩:=HD m l hl;obtain⟨n,hn,e⟩:=visit hm h hs;obtain⟨k,h1,h2,h3⟩:=yJ (P:=λn=>J m h n∉l) (n:=n) (by rw[e];exact ns)
 exact⟨k,by lia,h2,λi hi=>Classical.byContradiction λz=>h3 i hi z⟩
def P0:∀ n,J m h n<=m:=by
 have key:∀ n,(pr m h n).i<=m/\(pr m h n).j + (pr m h n).more<=m:=by
  intro n;induction n with
  |zero=>
    have a:SetTable.bits h%(m+1)<=m:=aan (Yj _ (by lia))
    have b:=zX a;have c:=zW m (SetTable.bits h%(m+1));exact⟨a,by show SetTable.bits h%(m+1)+(SetTable.runEnd m _-_)<=m;lia⟩
  | succ n ih=>
    show (pI m (pr m h n)).i<=m/\(pI m (pr m h n)).j+(pI m (pr m h n)).more<=m;unfold pI;split
    ·rename_i c;exact⟨ih.1,by show (pr m h n).j+1+((pr m h n).more-1)<=m;lia⟩
    ·have a:(SetTable.leap m (pr m h n).i (pr m h n).perturb).1<=m:=aan (Yj _ (by lia))
     have b:=zX a;have c:=zW m (SetTable.leap m (pr m h n).i (pr m h n).perturb).1;exact⟨a,by show (SetTable.leap m (pr m h n).i (pr m h n).perturb).1+(SetTable.runEnd m _-_)<=m;lia⟩
 intro n;have:=(key n).2;unfold J
 lia
end LA
namespace LA
open PySem LS PyProof.Rows
def Ip(ti:TI L t)(h:j∈t.place.toList):∃i,t.slot j=.live i/\t.place[i]?=some j:=by
 obtain⟨k,hk,rfl⟩:=Xv.mp h;have gu:k<t.place.size:=by simpa using hk
 have b:=below_at ti.ris gu;refine⟨k,?_,?_⟩
 ·unfold SetTable.slot;simp only[Array.getElem_toList];rw[b];simp[Array.getElem?_eq_getElem gu]
 ·simp[Array.getElem?_eq_getElem gu]
def zZ(ti:TI L t)(h:j∉t.place.toList):t.slot j=.empty:=by
 unfold SetTable.slot;have n:¬ (t.place[SetTable.below t.place j]?==some j)=true:=λz=>by
  have z:t.place[SetTable.below t.place j]?=some j:=by simpa using z
  exact h (by have:=Array.mem_of_getElem? z;simpa using this)
 simp only[n];have:SetTable.has t.dummies j=false:=by rw[ti.dum];unfold SetTable.has;simp
 simp[this]
section
variable{L:Bool}{t:SetTable}{ha:Nat->Int}{h:Int}
theorem vL(ti:TI L t):∀ (k fuel n:Nat),k<=fuel->(∀ m,n<=m->m<n + k->∃ i,t.slot (J t.mask h m)=.live i/\ha i≠h)->SetTable.probe.go t ha h fuel (pr t.mask h n)=SetTable.probe.go t ha h (fuel - k) (pr t.mask h (n + k))
 |0,fuel,n,_,_=>rfl
 |k+1,0,n,hf,_=>by lia
 | k + 1,fuel + 1,n,hf,hs=>by
   obtain⟨i,h1,h2⟩:=hs n (Wn _) (by lia)
   have h1:t.slot (pr t.mask h n).j=.live i:=h1;have h3:(ha i==h)=false:=by simpa using h2
   have e:SetTable.probe.go t ha h (fuel+1) (pr t.mask h n)=SetTable.probe.go t ha h fuel (pr t.mask h (n+1)):=by
    show (match t.slot (pr t.mask h n).j with
     |.empty=>some (SetTable.Met.empty (pr t.mask h n).j (pr t.mask h n).dummy)
     |.dummy=>SetTable.probe.go t ha h fuel (t.advance { pr t.mask h n with dummy:=some (pr t.mask h n).j })
     |.live i=>if ha i==h then some (.candidate (pr t.mask h n).j i (t.advance (pr t.mask h n))) else SetTable.probe.go t ha h fuel (t.advance (pr t.mask h n)))=_
    rw[h1];dsimp only;rw[h3];rfl
   rw[e,vL ti k fuel (n+1) (by lia) λm h1 h2=>hs m (by lia) (by lia)]
   congr 1
   ·lia
   ·congr 1;lia
def JZ(ti:TI L t)(hf:k<fuel)(hs:∀ m,n<=m->m<n + k->∃ i,t.slot (J t.mask h m)=.live i/\ha i≠h)(he:J t.mask h (n + k)∉t.place.toList):SetTable.probe.go t ha h fuel (pr t.mask h n)=some (.empty (J t.mask h (n + k)) none):=by
 rw[vL ti k fuel n (by lia) hs]
 obtain⟨f,e⟩:∃f,fuel-k=f+1:=⟨fuel-k-1,by lia⟩
 rw[e];have h1:t.slot (pr t.mask h (n+k)).j=.empty:=zZ ti he
 show (match t.slot (pr t.mask h (n + k)).j with
       |.empty=>some (SetTable.Met.empty (pr t.mask h (n+k)).j (pr t.mask h (n+k)).dummy)
       |.dummy=>_
       |.live i=>_)=_
 rw[h1];dsimp only;rw[zB];rfl
def Nz(ti:TI L t)(hf:k<fuel)(hs:∀ m,n<=m->m<n + k->∃ i,t.slot (J t.mask h m)=.live i/\ha i≠h)(he:t.slot (J t.mask h (n + k))=.live i)(hh:ha i=h):SetTable.probe.go t ha h fuel (pr t.mask h n)=some (.candidate (J t.mask h (n + k)) i (pr t.mask h (n + k + 1))):=by
 rw[vL ti k fuel n (by lia) hs]
 obtain⟨f,e⟩:∃f,fuel-k=f+1:=⟨fuel-k-1,by lia⟩
 rw[e];have h1:t.slot (pr t.mask h (n+k)).j=.live i:=he
 show (match t.slot (pr t.mask h (n + k)).j with
       |.empty=>_
       |.dummy=>_
       |.live i=>if ha i==h then some (SetTable.Met.candidate (pr t.mask h (n+k)).j i (t.advance (pr t.mask h (n+k)))) else _)=_
 rw[h1];dsimp only;rw[Wq (by simpa using hh)]
 rfl
end
abbrev iK(prog:C5)(w:World):=intKind prog w
def hT(prog:C5)(w:World)(k:C1):Int:=tupleKeyHash (iK prog w) k
def ent(prog:C5)(w:World)(c:Addr×C1):Int×Value:=(hT prog w c.2,.ref c.1)
structure TT(prog:C5)(w:World)(L:Bool)(t:SetTable)(cs:A1):Prop where
 ti:TI L t
 msk:MK t.mask
 len:t.place.size=cs.length
 bd:∀s∈t.place.toList,s<=t.mask
 fl:cs.length<=t.mask
 rc:∀z∈t.place.toList.zip cs,∃n,J t.mask (hT prog w z.2.2) n=z.1/\∀m,m<n->J t.mask (hT prog w z.2.2) m∈t.place.toList
 plain:t.plain=true
abbrev pH(prog:C5)(w:World)(h:Heap)(cs:A1):Prop:=∀c∈cs,IsTupleKey (iK prog w) h c.2 c.1
section
variable{prog:C5}{w:World}{A:Around}{E:A3}{s:Shared}{L:Bool}{t:SetTable}{cs:A1}{a:Addr}{ep:Nat}
def sU(ho:s.heap.get? b=some o)(hd:o.data=.seq items n)(q:Q (some items) s):wq prog w A (seqItems? (.ref b)) Q E s:=by unfold seqItems?;refine Wg (aaO ho ?_);rw[hd];exact Wh q
def items_int(h:ItemsAre (iK prog w) ks vs):∀ v∈vs,∃ i u,v=.int i u:=by
 induction h with
 |nil=>intro v hv;cases hv
 | cons h1 _ ih=>
   intro v hv;rcases Wz.mp hv with rfl | hv
   ·obtain⟨u,e⟩:=yU h1;exact⟨_,u,e⟩
   ·exact ih v hv
def zg(hk:IsTupleKey (iK prog w) s.heap k b)(q:Q false s):wq prog w A (ofAClassStatement 8 (.ref b)) Q E s:=by
 have hT:=hk.typeIs;obtain⟨o,items,n,ho,_,hd,hi⟩:=hk;have ii:=items_int hi;unfold ofAClassStatement;refine Wg (aaH hT ?_);dsimp only;refine Wg (Wh ?_);simp only[Bool.not_true,Bool.false_eq_true,if_false];refine Wg (sU ho hd ?_);dsimp only;refine Wg ?_;rw[<-Array.forIn_toList];refine wpAny_forIn_list _ (λrest r s'=>r=(none,())/\s'=s/\∀v∈rest,∃i u,v=.int i u) _ ?_ ?_ _ _ ⟨rfl,rfl,ii⟩
 ·rintro x rest r s' ⟨rfl,rfl,bo⟩;obtain⟨i,u,rfl⟩:=bo x WP;refine Wg (Wh ?_);exact Wh ⟨rfl,rfl,λv hv=>bo v (W6 _ hv)⟩
 ·rintro r s' ⟨rfl,rfl,_⟩;exact Wh q
def En(hk:IsTupleKey (iK prog w) s.heap k b)(q:Q true s):wq prog w A (hashByValue 8 (.ref b)) Q E s:=by
 have hT:=hk.typeIs;obtain⟨o,items,n,ho,_,hd,hi⟩:=hk;have ii:=items_int hi;unfold hashByValue;refine Wg (wpAny_specialOf hT F.slot_tuple_hash.lookup ?_);dsimp only;refine Wg (sU ho hd ?_);refine Wg ?_;show wpAny _ _ (forIn items _ _) _ _ _;rw[<-Array.forIn_toList];refine wpAny_forIn_list _ (λrest r s'=>r=(none,())/\s'=s/\∀v∈rest,∃i u,v=.int i u) _ ?_ ?_ _ _ ⟨rfl,rfl,ii⟩
 ·rintro x rest r s' ⟨rfl,rfl,bo⟩;obtain⟨i,u,rfl⟩:=bo x WP;refine Wg (Wh ?_);exact Wh ⟨rfl,rfl,λv hv=>bo v (W6 _ hv)⟩
 ·rintro r s' ⟨rfl,rfl,_⟩;exact Wh q
def Kr(hk:IsTupleKey (iK prog w) s.heap k b)(hl:∀ v∈l,∃ b' k',v=.ref b'/\IsTupleKey (iK prog w) s.heap k' b')(q:Q false s):wq prog w A (searchCouldBeSeen (.ref b) l) Q E s:=by
 unfold searchCouldBeSeen;refine Wg ?_;refine wpAny_forIn_list _ (λrest r s'=>r=(none,())/\s'=s/\∀v∈rest,∃b' k',v=.ref b'/\IsTupleKey (iK prog w) s.heap k' b') _ ?_ ?_ _ _ ⟨rfl,rfl,hl⟩
 ·rintro x rest r s' ⟨rfl,rfl,bo⟩;obtain⟨b',k',rfl,gu⟩:=bo x WP;have nx:∀v∈rest,∃b' k',v=.ref b'/\IsTupleKey (iK prog w) s'.heap k' b':=λv hv=>bo v (W6 _ hv)
  dsimp only;split
  ·exact Wh ⟨rfl,rfl,nx⟩
  ·refine Wg (wpAny_eqIsQuiet_tuple hk ?_);simp only[Bool.not_true,Bool.false_eq_true,if_false];refine Wg (wpAny_eqIsQuiet_tuple gu ?_);simp only[Bool.not_true,Bool.false_eq_true,if_false];refine Wg (zg hk ?_);simp only[Bool.false_eq_true,if_false];refine Wg (zg gu ?_);simp only[Bool.false_eq_true,if_false];exact Wh ⟨rfl,rfl,nx⟩
 ·rintro r s' ⟨rfl,rfl,_⟩;exact Wh q
end
abbrev bN(prog:C5)(w:World)(cs:A1):A5:=(cs.map (ent prog w)).toArray
section
variable{prog:C5}{w:World}{A:Around}{E:A3}{s:Shared}{L:Bool}{t:SetTable}{cs:A1}{a:Addr}{ep:Nat}
theorem TT.fits(T:TT prog w L t cs):t.fits (bN prog w cs).size=true:=by unfold SetTable.fits SetTable.fill;have h1:=T.len;have h2:=T.fl;have h3:=T.ti.dum;simp[h3,h1,h2]
def TT.led(T:TT prog w L t cs):t.gaveWay=false:=by unfold SetTable.gaveWay;rcases T.msk with e | e<;>rw[e]<;>rfl
def TT.at(T:TT prog w L t cs){i j:Nat}(h:t.place[i]?=some j):∃c,cs[i]?=some c/\(j,c)∈t.place.toList.zip cs:=by
 have hi:i<t.place.size:=(ZR.mp h).1;have hc:i<cs.length:=by rw[<-T.len];exact hi
 refine⟨cs[i],Wl hc,?_⟩;have e:t.place[i]=j:=by obtain⟨_,e⟩:=ZR.mp h;exact e
 have hz:i<(t.place.toList.zip cs).length:=by simp;lia
 have:(t.place.toList.zip cs)[i]=(j,cs[i]):=by simp[e]
 rw[<-this];exact XX hz
theorem TT.slot(T:TT prog w L t cs){j:Nat}(h:j∈t.place.toList):∃i c,t.slot j=.live i/\cs[i]?=some c/\(j,c)∈t.place.toList.zip cs:=by obtain⟨i,h1,h2⟩:=Ip T.ti h;obtain⟨c,h3,h4⟩:=T.at h2;exact⟨i,c,h1,h3,h4⟩
def TT.of_mem(T:TT prog w L t cs)(h:c∈cs):∃j,(j,c)∈t.place.toList.zip cs:=by
 obtain⟨i,hi,rfl⟩:=Xv.mp h;have hp:i<t.place.size:=by rw[T.len];exact hi
 obtain⟨c',h1,h2⟩:=T.at (i:=i) (j:=t.place[i]) (XC hp);rw[Wl hi]at h1;cases h1;exact⟨_,h2⟩
def TT.inj(T:TT prog w L t cs)(h1:(j,c)∈t.place.toList.zip cs)(h2:(j,c')∈t.place.toList.zip cs):c=c':=by
 obtain⟨i,hi,e⟩:=Xv.mp h1;obtain⟨i',hi',e'⟩:=Xv.mp h2;simp only[List.getElem_zip,Prod.mk.injEq]at e e';have l1:i<t.place.toList.length:=by simp at hi;simp;lia
 have l2:i'<t.place.toList.length:=by simp at hi';simp;lia
 have:i=i':=by
  have r:t.place.toList.Pairwise (·< ·):=T.ti.ris;rcases aak i i' with c | c | c
  ·have:=Yg.mp r i i' l1 l2 c;lia
  ·exact c
  ·have:=Yg.mp r i' i l2 l1 c;lia
 subst this;exact e.2.symm.trans e'.2
def qU{i:Nat}(h:cs[i]?=some c):(bN prog w cs)[i]?=some (ent prog w c):=by simp[h]
def TY{i:Nat}(h:cs[i]?=some c):((bN prog w cs)[i]?.map (·.1)).getD 0=hT prog w c.2:=by rw[qU h];rfl
variable{b:Addr}{k:C1}
theorem sS(hu:A.units<cLine)(ho:s.heap.get? a=some (aX (bN prog w cs) ep t))(T:TT prog w L t cs)(H:pH prog w s.heap cs)(hk:IsTupleKey (iK prog w) s.heap k b){N:Nat}(hN:N<10 * (t.mask + 15))(hN1:J t.mask (hT prog w k) N∉t.place.toList)(hN2:∀ m,m<N->J t.mask (hT prog w k) m∈t.place.toList)
  {Q:SetFound->B2} (q1:k∈cs.map (·.2)->Q (.there none) s) (q2:k∉cs.map (·.2)->Q (.free (J t.mask (hT prog w k) N) false) s) :
  ∀(fuel n:Nat) (sd:Option SetTable.Probe),sd.getD (t.probeStart (hT prog w k))=pr t.mask (hT prog w k) n->n≤N->N-n<fuel->(∀m,m<n->∀c,(J t.mask (hT prog w k) m,c)∈t.place.toList.zip cs->c.2≠k)->
    wq prog w A (setSearchFrom a (.ref b) (hT prog w k) true fuel sd) Q E s
 |0,n,sd,_,_,hf,_=>by lia
 | fuel + 1,n,sd,hs,hn,hf,ay=>by
   unfold setSearchFrom;refine Wg (Xz ho rfl T.fits ?_);dsimp only;rw[T.led];simp only[Bool.false_eq_true,if_false];rw[hs]
   -- the next place that is empty or has the same hash
   obtain⟨m,hm1,mi,hm3⟩:=yJ (P:=λd=>n+d=N\/∃i,t.slot (J t.mask (hT prog w k) (n+d))=.live i/\(((bN prog w cs)[i]?.map (·.1)).getD 0)=hT prog w k) (n:=N-n) (.inl (by lia))
   have nmN:n+m<=N:=by clear mi hm3;lia
   have skip:∀d,n<=d->d<n+m->∃i,t.slot (J t.mask (hT prog w k) d)=.live i/\(((bN prog w cs)[i]?.map (·.1)).getD 0)≠hT prog w k:=λd h1 h2=>by
    have nn:=hm3 (d-n) (by clear mi hm3;lia)
    rw[show n+(d-n)=d by lia]at nn
    obtain⟨i,c,e1,_,_⟩:=T.slot (hN2 d (Wt h2 nmN));exact⟨i,e1,λz=>nn (.inr ⟨i,e1,z⟩)⟩
   have b9:∀d,d<n+m->∀c,(J t.mask (hT prog w k) d,c)∈t.place.toList.zip cs->c.2≠k:=λd h1 c hc=>by
    by_cases z:d<n
    ·exact ay d z c hc
    ·obtain⟨i,e1,e2⟩:=skip d (Nat.le_of_not_lt z) h1;obtain⟨i',c',e1',e3,e4⟩:=T.slot (hN2 d (Wt h1 nmN));rw[e1]at e1';cases e1';have:=T.inj hc e4;subst this;rw[TY e3]at e2;exact λz=>e2 (by rw[z])
   rcases mi with mi | ⟨i,hi,hh⟩
   ·have pg:t.probe (λi=>((bN prog w cs)[i]?.map (·.1)).getD 0) (hT prog w k) (pr t.mask (hT prog w k) n)=some (.empty (J t.mask (hT prog w k) (n + m)) none):=JZ T.ti (by show m<10 * (t.mask + 15);lia) skip (by rw [mi];exact hN1)
    rw[mi]at pg;generalize hpg:SetTable.probe t _ (hT prog w k) (pr t.mask (hT prog w k) n)=X;obtain rfl:X=some (.empty (J t.mask (hT prog w k) N) none):=hpg.symm.trans pg;refine Wh (q2 λz=>?_)
    obtain⟨c,hc,e⟩:=WQ.mp z;obtain⟨j,hj⟩:=T.of_mem hc;obtain⟨n0,e0,h0⟩:=T.rc _ hj;dsimp only at e0 h0;rw[e]at e0 h0;have lt:n0<N:=by
     rcases Nat.lt_or_ge n0 N with x | x
     ·exact x
     ·exfalso
      rcases Nat.lt_or_eq_of_le x with y | y
      ·exact hN1 (h0 N y)
      ·subst y;have:j∈t.place.toList:=(YL hj).1;rw[<-e0]at this;exact hN1 this
    exact b9 n0 (by rw[mi];exact lt) c (by rw[e0];exact hj) e
   ·have hi':=hi;have iN:n+m<N:=by
     rcases Nat.lt_or_eq_of_le nmN with x | x
     ·exact x
     ·rw[x,zZ T.ti hN1]at hi;cases hi
    obtain⟨i',c,e1,e3,e4⟩:=T.slot (hN2 (n+m) iN);rw[hi]at e1;cases e1;have pg:t.probe (λi=>((bN prog w cs)[i]?.map (·.1)).getD 0) (hT prog w k) (pr t.mask (hT prog w k) n)=some (.candidate (J t.mask (hT prog w k) (n+m)) i (pr t.mask (hT prog w k) (n+m+1))):=Nz T.ti (by show m<10*(t.mask+15);clear hm3;lia) skip hi hh
    generalize hpg:SetTable.probe t _ (hT prog w k) (pr t.mask (hT prog w k) n)=X;obtain rfl:X=some (.candidate (J t.mask (hT prog w k) (n+m)) i (pr t.mask (hT prog w k) (n+m+1))):=hpg.symm.trans pg;dsimp only;have hc:IsTupleKey (iK prog w) s.heap c.2 c.1:=H c (YL e4).2;have hl:∀v∈((bN prog w cs).filter (λx=>x.1==hT prog w k)).toList.map (·.2),∃b' k',v=.ref b'/\IsTupleKey (iK prog w) s.heap k' b':=λv hv=>by
     obtain⟨e,he,rfl⟩:=WQ.mp hv;have he:e∈(bN prog w cs).toList:=by have:=Array.mem_toList_iff.mp he;exact Array.mem_toList_iff.mpr (Array.mem_filter.mp this).1
     have he:e∈cs.map (ent prog w):=he;obtain⟨c,hc,rfl⟩:=WQ.mp he;exact⟨c.1,c.2,rfl,H c hc⟩
    have sm:t.sameMemory t.moves t.mask=some true:=by simp[SetTable.sameMemory]
    have rec':=sS hu ho T H hk hN hN1 hN2 q1 q2 fuel (n+m+1) (some (pr t.mask (hT prog w k) (n+m+1))) rfl (by lia) (by clear hm3;lia)
    have mem:c.2=k->k∈cs.map (·.2):=λz=>WQ.mpr ⟨c,(YL e4).2,z⟩
    split
    ·refine Wg (Kr hk hl ?_);simp only[Bool.false_eq_true,if_false];rw[qU e3];dsimp only[ent];refine Wg (Xw (wpAny_eqBool_tuple hu hc hk ?_));refine Wg (Xz ho rfl T.fits ?_);dsimp only;by_cases ek:c.2=k
     ·rw[WY ek];exact Wh (q1 (mem ek))
     ·rw[Xo ek];simp only[Bool.and_false,Bool.false_eq_true,if_false];rw[sm];dsimp only;rw[Wq rfl,hi];dsimp only;rw[qU e3];dsimp only[ent];refine Wg (wpAny_isSame_ref_self ?_);refine Wg (Wh ?_);refine rec' λd hd c' hc'=>?_
      by_cases z:d=n+m
      ·subst z;have:=T.inj hc' e4;rw[this];exact ek
      ·exact b9 d (by lia) c' hc'
    ·rw [qU e3];dsimp only[ent];refine Wg (Xw (wpAny_eqBool_tuple hu hc hk ?_));refine Wg (Xz ho rfl T.fits ?_);dsimp only;by_cases ek:c.2=k
     ·rw[WY ek];exact Wh (q1 (mem ek))
     ·rw[Xo ek];simp only[Bool.and_false,Bool.false_eq_true,if_false];rw[sm];dsimp only;rw[Wq rfl,hi];dsimp only;rw[qU e3];dsimp only[ent];refine Wg (wpAny_isSame_ref_self ?_);refine Wg (Wh ?_);refine rec' λd hd c' hc'=>?_
      by_cases z:d=n+m
      ·subst z;have:=T.inj hc' e4;rw[this];exact ek
      ·exact b9 d (by lia) c' hc'
def Ew(hu:A.units<cLine)(ho:s.heap.get? a=some (aX (bN prog w cs) ep t))(T:TT prog w L t cs)(H:pH prog w s.heap cs)(hk:IsTupleKey (iK prog w) s.heap k b)(q1:k∈cs.map (·.2)->Q (.there none) s)(q2:k∉cs.map (·.2)->∀n,J t.mask (hT prog w k) n∉t.place.toList->(∀m,m<n->J t.mask (hT prog w k) m∈t.place.toList)->Q (.free (J t.mask (hT prog w k) n) false) s):
  wq prog w A (setSearch a (.ref b) (hT prog w k) true) Q E s:=by
 obtain⟨N,h1,h2,h3⟩:=JW T.msk (hT prog w k) (l:=t.place.toList) (by rw[Xy,T.len];exact T.fl)
 unfold setSearch;refine sS hu ho T H hk h1 h2 h3 q1 (λz=>q2 z N h2 h3) 100000 0 none rfl (X3 _) ?_ (λm h=>by lia)
 rcases T.msk with e | e<;>rw[e]at h1<;>lia
end
def NF(t:SetTable)(cs:A1):Prop:=cs.length*5<t.mask*3
def lJ(cs:A1)(p:Nat)(c:Addr×C1):A1:=cs.take p++c::cs.drop p
def p6(cs:A1)(p:Nat)(c:Addr×C1):(lJ cs p c).Perm (cs++[c]):=by unfold lJ;refine List.perm_middle.trans ?_;rw[aaw];exact (List.perm_append_singleton c cs).symm
section
variable{prog:C5}{w:World}{L:Bool}{t:SetTable}{cs:A1}{b:Addr}{k:C1}
def QK(p:Nat):SetTable.insertAt (bN prog w cs) p (hT prog w k,.ref b)=bN prog w (lJ cs p (b,k)):=by apply Array.toList_inj.mp;rw[Z7];simp[lJ,ent,List.map_take,List.map_drop]
def Ry(ti:TI L t)(hj:j∉t.place.toList):t.put j=({ t with place:=SetTable.insertAt t.place (SetTable.below t.place j) j },SetTable.below t.place j):=by
 unfold SetTable.put;have:SetTable.has t.dummies j=false:=by rw[ti.dum];unfold SetTable.has;simp
 rw[this];rfl
def TT.put(T:TT prog w L t cs)(nf:NF t cs)(h1:J t.mask (hT prog w k) n∉t.place.toList)(h2:∀ m,m<n->J t.mask (hT prog w k) m∈t.place.toList):
  TT prog w L { t with place:=SetTable.insertAt t.place (SetTable.below t.place (J t.mask (hT prog w k) n)) (J t.mask (hT prog w k) n) } (lJ cs (SetTable.below t.place (J t.mask (hT prog w k) n)) (b,k)):=by
 have bel:=(iH T.ti.ris (J t.mask (hT prog w k) n)).le;have ris:=uR T.ti.ris h1;have jl:J t.mask (hT prog w k) n<=t.mask:=P0 n;generalize hj:J t.mask (hT prog w k) n=j at h1 bel ris jl;generalize SetTable.below t.place j=p at bel ris;have tl:(SetTable.insertAt t.place p j).toList=t.place.toList.take p++j::t.place.toList.drop p:=Z7 _ _ _;have sub:∀x∈t.place.toList,x∈(SetTable.insertAt t.place p j).toList:=λx hx=>by
  rw[tl,WF,Wz];rw[<-aaw p t.place.toList,WF]at hx;rcases hx with h | h
  ·exact .inl h
  ·exact .inr (.inr h)
 have len:=T.len;have fl:=T.fl;refine⟨⟨ris,T.ti.dum,T.ti.led⟩,T.msk,?_,?_,?_,?_,T.plain⟩
 ·show (SetTable.insertAt t.place p j).size=_;rw[<-Xy,tl,(p6 cs p (b,k)).length_eq];simp
  lia
 ·intro x hx;have hx:x∈t.place.toList.take p++j::t.place.toList.drop p:=tl ▸ hx;rcases WF.mp hx with h | h
  ·exact T.bd x (ZM h)
  ·rcases Wz.mp h with rfl | h
   ·exact jl
   ·exact T.bd x (aaE h)
 ·rw[(p6 cs p (b,k)).length_eq];unfold NF at nf;have:=T.msk;unfold MK at this;simp;show cs.length+1<=t.mask
  lia
 ·intro z hz;have ez:(SetTable.insertAt t.place p j).toList.zip (lJ cs p (b,k))=(t.place.toList.zip cs).take p++(j,(b,k))::(t.place.toList.zip cs).drop p:=by
   rw[tl];unfold lJ;have t1:(t.place.toList.take p).zip (cs.take p)=(t.place.toList.zip cs).take p:=by unfold List.zip;rw[List.take_zipWith]
   have t2:(t.place.toList.drop p).zip (cs.drop p)=(t.place.toList.zip cs).drop p:=by unfold List.zip;rw[List.drop_zipWith]
   rw[List.zip_append (by simp;lia),YZ,t1,t2]
  have hz:z∈(t.place.toList.zip cs).take p++(j,(b,k))::(t.place.toList.zip cs).drop p:=ez ▸ hz;have old:z∈t.place.toList.zip cs->∃n,J t.mask (hT prog w z.2.2) n=z.1/\∀m,m<n->J t.mask (hT prog w z.2.2) m∈(SetTable.insertAt t.place p j).toList:=λh=>by obtain⟨n,e1,e2⟩:=T.rc z h;exact⟨n,e1,λm hm=>sub _ (e2 m hm)⟩
  rcases WF.mp hz with h | h
  ·exact old (ZM h)
  ·rcases Wz.mp h with rfl | h
   ·exact⟨n,hj,λm hm=>sub _ (h2 m hm)⟩
   ·exact old (aaE h)
end
structure Ow(m:Nat)(hs:C1)(sl:C0)(ow:Array (Option Nat)):Prop where
 sz:ow.size=m+1
 len:sl.length=hs.length
 nd:sl.Nodup
 le:∀s∈sl,s<=m
 own:∀(k:Nat) (hk:k<sl.length),ow[sl[k]]?=some (some k)
 non:∀j,j<=m->j∉sl->ow[j]?=some none
 rc:∀(k:Nat) (hk:k<sl.length) (h:Int),hs[k]?=some h->∃n,J m h n=sl[k]/\∀i,i<n->J m h i∈sl
theorem Ow.isNone(o:Ow m hs sl ow)(hj:j<=m):(ow.getD j (some 0)).isNone=decide (j∉sl):=by
 by_cases c:j∈sl
 ·obtain⟨k,hk,rfl⟩:=Xv.mp c;rw[Xu,o.own k hk];simp
 ·rw[Xu,o.non j hj c];simp[c]
theorem By(o:Ow m hs sl ow)(h:Int)(hL0:(lp m h L0).1∉sl):∀ (fuel L:Nat),L<=L0->L0<L + fuel->(∀ i,i<bg m h L->J m h i∈sl)->
  ∃n,SetTable.layClean.free m ow fuel (lp m h L).1 (lp m h L).2=some (J m h n)/\J m h n∉sl/\∀i,i<n->J m h i∈sl
 |0,L,h1,h2,_=>by lia
 | fuel + 1,L,h1,h2,hb=>by
   have il:=Lw m h L;have rg:=zW m (lp m h L).1;have ri:=zX il;unfold SetTable.layClean.free;cases hf:(List.range (SetTable.runEnd m (lp m h L).1+1-(lp m h L).1)).find? (λk=>(ow.getD ((lp m h L).1+k) (some 0)).isNone) with
   | some k=>
     dsimp only;obtain⟨p1,as,bs,e1,e2⟩:=List.find?_eq_some_iff_append.mp hf;have hk:k<SetTable.runEnd m (lp m h L).1+1-(lp m h L).1:=Wr.mp (by rw[e1];simp)
     have hJ:=xg m h L k (by lia)
     have la:as.length=k/\∀i,i<k->i∈as:=by
      have hk2:(List.range (SetTable.runEnd m (lp m h L).1+1-(lp m h L).1))[as.length]?=some k:=by rw[e1];simp
      have al:as.length<SetTable.runEnd m (lp m h L).1+1-(lp m h L).1:=by
       have:=congrArg List.length e1;simp at this
       lia
      rw[XJ al]at hk2;have ek:as.length=k:=by simpa using hk2
      refine⟨ek,λi hi=>?_⟩
      have:(List.range (SetTable.runEnd m (lp m h L).1+1-(lp m h L).1))[i]?=as[i]?:=by rw[e1,WD (by lia)]
      rw[XJ (by lia)]at this
      exact WR this.symm
     refine⟨bg m h L+k,by rw[hJ],?_,λi hi=>?_⟩
     ·rw[hJ];rw[o.isNone (by lia)]at p1
      simpa using p1
     ·by_cases c:i<bg m h L
      ·exact hb i c
      ·have:=e2 (i-bg m h L) (la.2 _ (by lia))
       rw[o.isNone (by lia)]at this
       have hJ2:=xg m h L (i-bg m h L) (by lia)
       rw[show bg m h L+(i-bg m h L)=i by lia]at hJ2
       rw[hJ2];simpa using this
   | none=>
     dsimp only;have all:∀k,k<=SetTable.runEnd m (lp m h L).1-(lp m h L).1->(lp m h L).1+k∈sl:=λk hk=>by
      have:=List.find?_eq_none.mp hf k (Wr.mpr (by lia))
      rw[o.isNone (by lia)]at this
      simpa using this
     have ne:L≠L0:=λz=>by subst z;have:=all 0 (X3 _);exact hL0 this
     have ih:=By o h hL0 fuel (L+1) (by lia) (by lia) λi hi=>by
      by_cases c:i<bg m h L
      ·exact hb i c
      ·have hi:i<bg m h L+(SetTable.runEnd m (lp m h L).1-(lp m h L).1)+1:=hi;have hJ2:=xg m h L (i-bg m h L) (by lia)
       rw[show bg m h L+(i-bg m h L)=i by lia]at hJ2
       rw[hJ2];exact all _ (by lia)
     exact ih
def Ow.zero(m:Nat):Ow m [] [] (Array.replicate (m+1) none):=⟨by simp,rfl,List.nodup_nil,λs h=>(by cases h),λk h=>(by cases h),λj hj z=>by rw[Array.getElem?_replicate,Wq (by lia)],λk h=>(by cases h)⟩
def Ow.add(o:Ow m hs sl ow)(h1:J m h n∉sl)(h2:∀ i,i<n->J m h i∈sl):Ow m (hs++[h]) (sl++[J m h n]) (ow.setIfInBounds (J m h n) (some hs.length)):=by
 have jl:J m h n<=m:=P0 n;have jb:J m h n<ow.size:=by rw[o.sz];lia
 have len:=o.len;refine⟨by simp[o.sz],by simp[o.len],?_,λs ki=>?_,λk hk=>?_,λj hj nj=>?_,λk hk h' eh=>?_⟩
 ·rw[Y6];exact⟨o.nd,by simp,λa ha b hb=>by simp at hb;subst hb;exact λz=>h1 (z ▸ ha)⟩
 ·rcases WF.mp ki with z | z
  ·exact o.le s z
  ·simp at z;lia
 ·by_cases c:k<sl.length
  ·have e:(sl++[J m h n])[k]=sl[k]:=List.getElem_append_left c;have ne:J m h n≠sl[k]:=λz=>h1 (z ▸ XX c)
   rw[e,Array.getElem?_setIfInBounds_ne ne];exact o.own k c
  ·have ek:k=sl.length:=by simp at hk;lia
   subst ek;have e:(sl++[J m h n])[sl.length]=J m h n:=by simp
   rw[e,Array.getElem?_setIfInBounds_self_of_lt jb,o.len]
 ·rw[WF,not_or]at nj;rw[Array.getElem?_setIfInBounds_ne (λz=>nj.2 (by simp[z]))]
  exact o.non j hj nj.1
 ·by_cases c:k<sl.length
  ·have e:(sl++[J m h n])[k]=sl[k]:=List.getElem_append_left c;rw[e];rw[WD (by lia)]at eh
   obtain⟨n',e1,e2⟩:=o.rc k c h' eh;exact⟨n',e1,λi hi=>Xm _ (e2 i hi)⟩
  ·have ek:k=sl.length:=by simp at hk;lia
   subst ek;have e:(sl++[J m h n])[sl.length]=J m h n:=by simp
   rw[e];rw[o.len,List.getElem?_concat_length]at eh;cases eh;exact⟨n,rfl,λi hi=>Xm _ (h2 i hi)⟩
noncomputable def mV(m:Nat)(acc:Option (Array (Option Nat)×Nat))(h:Int):Option (Array (Option Nat)×Nat):=acc.bind λp=>(SetTable.layClean.free m p.1 (SetTable.turns m) (SetTable.bits h%(m+1)) (SetTable.bits h)).bind λj=>some (p.1.setIfInBounds j (some p.2),p.2+1)
theorem yX(hm:MK m):∀ (rest hs:C1) (sl:C0) (ow:Array (Option Nat)),Ow m hs sl ow->hs.length + rest.length<=m->∃ mz ow',rest.foldl (mV m) (some (ow,hs.length))=some (ow',(hs++rest).length)/\Ow m (hs++rest) mz ow'
 |[],hs,sl,ow,o,_=>⟨sl,ow,by simp,by simpa using o⟩
 | h::rest,hs,sl,ow,o,hl=>by
   obtain⟨s,h1,h2⟩:=HD m sl (by rw[o.len];simp at hl;lia)
   obtain⟨L0,h3,h4⟩:=Hf hm h h1;obtain⟨n,e,n1,n2⟩:=By o h (L0:=L0) (by rw[h4];exact h2) (SetTable.turns m) 0 (X3 _) (by unfold SetTable.turns;lia) (λi hi=>by cases hi)
   have e:SetTable.layClean.free m ow (SetTable.turns m) (SetTable.bits h%(m+1)) (SetTable.bits h)=some (J m h n):=e;have o':=o.add n1 n2;obtain⟨mz,ow',e2,o2⟩:=yX hm rest (hs++[h]) _ _ o' (by simp at hl ⊢;lia)
   refine⟨mz,ow',?_,by simpa using o2⟩
   rw[Yp];have es:mV m (some (ow,hs.length)) h=some (ow.setIfInBounds (J m h n) (some hs.length),(hs++[h]).length):=by unfold mV;rw[YT,e,YT];simp
   rw[es,e2];simp
def Q7(hm:MK m)(hl:hs.length<=m):∃sl ow,SetTable.layClean m hs.toArray=some ow/\Ow m hs sl ow:=by
 obtain⟨sl,ow,e,o⟩:=yX hm hs [] [] _ (Ow.zero m) (by simpa using hl)
 refine⟨sl,ow,?_,by simpa using o⟩
 have key:∀(l:C1) (x:Option (Array (Option Nat)×Nat)),List.foldl (λacc h=>do
  let (owner,k) <-acc
  let j <-SetTable.layClean.free m owner (SetTable.turns m) (SetTable.bits h%(m+1)) (SetTable.bits h)
  pure (owner.setIfInBounds j (some k),k+1)) x l=l.foldl (mV m) x:=by
  intro l;induction l with
  |nil=>intro x;rfl
  |cons a l ih=>intro x;exact ih _
 unfold SetTable.layClean;rw[List.foldl_toArray];have:=key hs (some (Array.replicate (m+1) none,0));have e:hs.foldl (mV m) (some (Array.replicate (m+1) none,0))=some (ow,hs.length):=by simpa using e
 exact (congrArg (Option.map (·.1)) (this.trans e))
def bD(m:Nat)(ow:Array (Option Nat)):List (Nat×Nat):=(List.range (m+1)).filterMap λj=>(ow.getD j none).map (j,·)
def Kd(m:Nat)(ow:Array (Option Nat)):(bD m ow).Pairwise λa b=>a.1<b.1:=by
 unfold bD;refine List.Pairwise.filterMap (R:=λ(a b:Nat)=>a<b) _ (λa b ko x hx y hy=>?_) Yv
 obtain⟨_,_,rfl⟩:=Wk.mp hx;obtain⟨_,_,rfl⟩:=Wk.mp hy;exact ko
def eQ(o:Ow m hs sl ow):(j,k)∈bD m ow ↔ sl[k]?=some j:=by
 unfold bD;rw[Z8];constructor
 ·rintro⟨j',hj',e⟩;obtain⟨k',e1,e2⟩:=Wk.mp e;cases e2;have hj':=Wr.mp hj';by_cases c:j∈sl
  ·obtain⟨i,hi,rfl⟩:=Xv.mp c;have:=o.own i hi;rw[Xu,this]at e1;have:i=k:=by simpa using e1
   subst this;exact Wl hi
  ·have:=o.non j (by lia) c
   rw[Xu,this]at e1;cases e1
 ·intro e;obtain⟨hk,rfl⟩:=Wj.mp e;refine⟨sl[k],Wr.mpr (by have:=o.le _ (XX hk);lia),?_⟩
  rw[Xu,o.own k hk];rfl
def Hb(o:Ow m hs sl ow):((bD m ow).map (·.2)).Perm (List.range hs.length):=by
 have nd:((bD m ow).map (·.2)).Nodup:=by
  rw[List.Nodup,Zo];refine List.Pairwise.imp_of_mem ?_ (Kd m ow);rintro⟨j,k⟩ ⟨j',k'⟩ h1 h2 lt e;dsimp only at lt e;subst e;have a:=(eQ o).mp h1;have b:=(eQ o).mp h2;rw[a]at b;cases b
  lia
 refine (ZQ nd List.nodup_range).mpr λk=>?_
 rw[Wr,<-o.len,WQ];constructor
 ·rintro⟨⟨j,k'⟩,h,rfl⟩;exact (Wj.mp ((eQ o).mp h)).1
 ·intro hk;exact⟨(sl[k],k),(eQ o).mpr (Wl hk),rfl⟩
section
variable{prog:C5}{w:World}{A:Around}{E:A3}{s:Shared}{L:Bool}{t:SetTable}{cs:A1}{a b:Addr}{k:C1}
def jP(cs:A1)(m:Nat)(ow:Array (Option Nat)):A1:=(bD m ow).map λz=>cs.getD z.2 (0,[])
def Ib(o:Ow m hs sl ow)(hl:hs.length=cs.length):(jP cs m ow).Perm cs:=by
 have:=(Hb o).map λi=>cs.getD i (0,[])
 unfold jP;rw[W4]at this;refine this.trans ?_;rw[hl];have e:(List.range cs.length).map (λi=>cs.getD i (0,[]))=cs:=by
  apply aav
  ·simp
  ·intro i h1 h2;simp at h1 ⊢
   rw[Wl h1];rfl
 rw[e]
def BW(o:Ow m hs sl ow)(h:z∈bD m ow):z.2<hs.length:=by
 have:=(Wj.mp ((eQ o).mp (show (z.1,z.2)∈bD m ow from h))).1
 rw[o.len]at this;exact this
def Ie(hm:MK m)(T:TT prog w L t cs)(hl:cs.length * 5<m * 3):∃ ow,SetTable.laid m t.finger (t.movedTo m) t.led t.plain ((bN prog w cs).map (·.1))=some ({ mask:=m,place:=((bD m ow).map (·.1)).toArray,dummies:=#[],finger:=t.finger,led:=t.led,moves:=t.movedTo m,plain:=t.plain },((bD m ow).map (·.2)).toArray) /\
  TT prog w L { mask:=m,place:=((bD m ow).map (·.1)).toArray,dummies:=#[],finger:=t.finger,led:=t.led,moves:=t.movedTo m,plain:=t.plain } (jP cs m ow)/\(jP cs m ow).Perm cs/\((bD m ow).map (·.2)).toArray.filterMap ((bN prog w cs)[·]?)=bN prog w (jP cs m ow):=by
 have eh:(bN prog w cs).map (·.1)=(cs.map λc=>hT prog w c.2).toArray:=by simp[ent,Function.comp_def]
 obtain⟨sl,ow,e,o⟩:=Q7 hm (hs:=cs.map λc=>hT prog w c.2) (by simp;lia)
 have la:SetTable.laid m t.finger (t.movedTo m) t.led t.plain ((bN prog w cs).map (·.1))=some ({ mask:=m,place:=((bD m ow).map (·.1)).toArray,dummies:=#[],finger:=t.finger,led:=t.led,moves:=t.movedTo m,plain:=t.plain },((bD m ow).map (·.2)).toArray):=by rw[eh];unfold SetTable.laid;rw[e];rfl
 have hlen:(cs.map λc=>hT prog w c.2).length=cs.length:=by simp
 have pm:=Ib (cs:=cs) o hlen;refine⟨ow,la,⟨?_,hm,?_,?_,?_,?_,T.plain⟩,pm,?_⟩
 ·have:=BP la;rw[T.ti.led]at this;refine⟨this.ris,rfl,T.ti.led⟩
 ·simp[jP]
 ·intro s hs;obtain⟨z,hz,rfl⟩:=WQ.mp (show s∈(bD m ow).map (·.1) by simpa using hs)
  have:=(eQ o).mp (show (z.1,z.2)∈bD m ow from hz)
  exact o.le _ (WR this)
 ·rw[pm.length_eq];show cs.length<=m
  lia
 ·intro z hz;have ez:(((bD m ow).map (·.1)).toArray.toList).zip (jP cs m ow)=(bD m ow).map λz=>(z.1,cs.getD z.2 (0,[])):=by unfold jP;rw[List.zip_map']
  have hz:z∈(bD m ow).map λz=>(z.1,cs.getD z.2 (0,[])):=ez ▸ hz
  obtain⟨y,hy,rfl⟩:=WQ.mp hz;have hy':=(eQ o).mp (show (y.1,y.2)∈bD m ow from hy)
  have yl:=BW o hy;rw[hlen]at yl;obtain⟨hk,ek⟩:=Wj.mp hy';obtain⟨n,e1,e2⟩:=o.rc y.2 hk (hT prog w (cs[y.2]).2) (by rw[WM,Wl yl];rfl)
  have eg:cs.getD y.2 (0,[])=cs[y.2]:=by simp[yl]
  refine⟨n,?_,λi hi=>?_⟩
  ·show J m (hT prog w (cs.getD y.2 (0,[])).2) n=y.1;rw[eg,e1,ek]
  ·show J m (hT prog w (cs.getD y.2 (0,[])).2) i∈_;rw[eg];obtain⟨q,hq,eq⟩:=Xv.mp (e2 i hi);have:(sl[q],q)∈bD m ow:=(eQ o).mpr (Wl hq);show J m (hT prog w (cs[y.2]).2) i∈((bD m ow).map (·.1)).toArray.toList;rw[<-eq];exact WQ.mpr ⟨_,this,rfl⟩
 ·apply Array.toList_inj.mp;rw[Array.toList_filterMap];show List.filterMap _ ((bD m ow).map (·.2))=(jP cs m ow).map (ent prog w);unfold jP;rw[List.filterMap_map,W4];have:∀ l:List (Nat×Nat),(∀ z∈l,z.2<cs.length)->List.filterMap ((λx=>(bN prog w cs)[x]?) ∘ λz:Nat×Nat=>z.2) l=l.map (ent prog w ∘ λz=>cs.getD z.2 (0,[])):=by
   intro l;induction l with
   |nil=>intro _;rfl
   | cons z l ih=>
     intro h;have hz:=h z WP;rw[W2,Yr];have e:((λx=>(bN prog w cs)[x]?) ∘ λz:Nat×Nat=>z.2) z=some (ent prog w (cs.getD z.2 (0,[]))):=by show (bN prog w cs)[z.2]?=_;rw[qU (Wl hz)];simp[hz]
     rw[e,ih λy hy=>h y (W6 _ hy)]
     rfl
  exact this _ λz hz=>by have:=BW o hz;rw[hlen]at this;exact this
def SetT(prog:C5)(w:World)(L:Bool)(h:Heap)(a:Addr)(cs:A1):Prop:=∃cs' ep t,cs'.Perm cs/\h.get? a=some (aX (bN prog w cs') ep t)/\TT prog w L t cs'/\NF t cs'
def Bw(h:cs.length<=18):(bN prog w cs).size<=sizeLine:=by rw[Yx];simp;lia
def Bh(hu:A.units<cLine)(hS:SetT prog w L s.heap a cs)(H:pH prog w s.heap cs)(hk:IsTupleKey (iK prog w) s.heap k b)(room:cs.length + 1<=18)
  (h:∀h' r,Heap.SameBut a s.heap h'->SetT prog w L h' a (if k∈cs.map (·.2) then cs else cs++[(b,k)])->Q r { s with heap:=h' }):wq prog w A (setAddHashed a (.ref b) (hT prog w k)) Q E s:=by
 obtain⟨cs',ep,t,pm,ho,T,nf⟩:=hS;have H':pH prog w s.heap cs':=λc hc=>H c (pm.mem_iff.mp hc)
 have pl:=pm.length_eq;unfold setAddHashed;refine Xw ?_;unfold setAddHashedIn;refine Wg (Xz ho rfl T.fits ?_);dsimp only;have bs:byScan (.ref b) (bN prog w cs')=false:=rfl;rw[bs];simp only[Bool.false_eq_true,if_false];refine Wg (Ew hu ho T H' hk (λm=>?_) λm n n1 n2=>?_)
 ·have m':k∈cs.map (·.2):=(pm.map _).mem_iff.mp m;have q:=h s.heap false (Heap.SameBut.refl a s.heap) (by rw[Wq m'];exact⟨cs',ep,t,pm,ho,T,nf⟩)
  have e:s={ s with heap:=s.heap }:=by cases s;rfl
  rw[e];exact Wh q
 ·have m':k∉cs.map (·.2):=λz=>m ((pm.map _).mem_iff.mpr z)
  rw[Ww m']at h;dsimp only;refine Wg (Xz ho rfl T.fits ?_);dsimp only;rw[Ry T.ti n1];dsimp only;rw[Wq (show t.plain=true from T.plain)]
  refine Wg (En hk ?_);simp only[if_true];have T1:=TT.put (b:=b) T nf n1 n2;rw[QK];have pm1:(lJ cs' (SetTable.below t.place (J t.mask (hT prog w k) n)) (b,k)).Perm (cs++[(b,k)]):=(p6 _ _ _).trans (pm.append_right _);have l1:(lJ cs' (SetTable.below t.place (J t.mask (hT prog w k) n)) (b,k)).length=cs.length+1:=by rw[pm1.length_eq];simp
  generalize hc1:lJ cs' (SetTable.below t.place (J t.mask (hT prog w k) n)) (b,k)=cs1 at T1 pm1 l1;generalize ht1:({ t with place:=SetTable.insertAt t.place (SetTable.below t.place (J t.mask (hT prog w k) n)) (J t.mask (hT prog w k) n) }:SetTable)=t1 at T1
  have e1:t1.mask=t.mask:=by rw[<-ht1]
  refine Wg (aap ho rfl ?_ (Bw (by lia)))
  have o1:=rJ (es1:=bN prog w cs1) (t1:=t1) ho;have b1:=X4 s.heap a (Obj.putSet (bN prog w cs1) t1);have fill:t1.fill=cs1.length:=by unfold SetTable.fill;rw[T1.ti.dum,T1.len];rfl
  have nf0:cs'.length*5<t.mask*3:=nf;by_cases full:t1.tooFull=true
  ·rw[full];simp only[Bool.not_false,Bool.and_true,if_true];have full':t1.mask*3<=cs1.length*5:=by unfold SetTable.tooFull at full;rw[fill]at full;simpa using full
   have m7:t.mask=7/\cs.length=4:=by
    have:=T.msk;unfold MK at this;rw[e1]at full'
    lia
   unfold setRelay;refine Wg (Wg (Xz o1 rfl T1.fits ?_));have sz:(bN prog w cs').size=4:=by simp;lia
   rw[sz];have gr:SetTable.sizeAbove (SetTable.grown (4+1))=32:=by decide
   dsimp only;rw[gr,Ww (by rw[Yx];decide)]
   obtain⟨ow,la,T2,pm2,ef⟩:=Ie (m:=31) (.inr rfl) T1 (by lia)
   have rl:t1.relaid ((bN prog w cs1).map (·.1)) (SetTable.grown (4+1))=some ({ mask:=31,place:=((bD 31 ow).map (·.1)).toArray,dummies:=#[],finger:=t1.finger,led:=t1.led,moves:=t1.movedTo 31,plain:=t1.plain },((bD 31 ow).map (·.2)).toArray):=by unfold SetTable.relaid;rw[gr];exact la
   rw[rl];refine Wg ?_;show wq prog w A (if ((((bD 31 ow).map (·.2)).toArray.filterMap ((bN prog w cs1)[·]?)).size != (bN prog w cs1).size)=true then (unsupported _>>=_) else pure (_,_)) _ _ _
   have sz2:((((bD 31 ow).map (·.2)).toArray.filterMap ((bN prog w cs1)[·]?)).size != (bN prog w cs1).size)=false:=by rw[ef];have:=pm2.length_eq;simp[this]
   rw[sz2,Ww (by decide)]
   refine Wh ?_;dsimp only;rw[ef];refine aap o1 rfl ?_ (Bw (by rw[pm2.length_eq];lia))
   have o2:=rJ (es1:=bN prog w (jP cs1 31 ow)) (t1:={ mask:=31,place:=((bD 31 ow).map (·.1)).toArray,dummies:=#[],finger:=t1.finger,led:=t1.led,moves:=t1.movedTo 31,plain:=t1.plain }) o1;refine Wh (h _ true (b1.trans (X4 _ a _)) ⟨_,_,_,pm2.trans pm1,o2,T2,?_⟩);unfold NF;rw[pm2.length_eq];show cs1.length*5<31*3
   lia
  ·have nfull:(!false&&t1.tooFull)=true ↔ False:=by simp[full]
   rw[Ww (by rw[nfull];exact id)]
   refine Wg (Wh ?_);refine Wh (h _ true b1 ⟨cs1,_,t1,pm1,o1,T1,?_⟩);unfold NF;unfold SetTable.tooFull at full;rw[fill]at full;simpa using full
end
end LA
namespace L2
open PyProof.Rows LS LA LB
section
variable{prog:C5}{w:World}{A:Around}{R:Result->B2}{s:Shared}
noncomputable def uO(elt:Expr)(acc:Value)(env:Env)(k:Sem Fin):Sem Fin:=(eval elt env>>=λv=>standAt elt.pos>>=λz=>call (.builtin "set.add") [acc,v]>>=λz=>pure ())>>=λz=>k
def Sg(elt target iter:Expr)(ifs:B8)(scope:Scope)(pos:Pos)(it acc:Value)(env:Env):
  compTurn (.SetComp elt [⟨target,iter,ifs,0⟩] scope pos) 0 it acc env=turnOf ⟨target,iter,ifs,0⟩ (uO elt acc env) (.compLoop (.SetComp elt [⟨target,iter,ifs,0⟩] scope pos) 0 it acc env) it env:=rfl
def Nx:jY prog w A (uO elt acc env) (λP s=>wq prog w A (eval elt env) (λx s1=>wq prog w A (call (.builtin "set.add") [acc,x]) (λy s2=>P s2) (λy y=>False) s1) (λy y=>False) s):=by intro k Q E s h;unfold uO;exact Wg (Wg (W5 h (λx s1 h1=>Wg (Zg (Wg (W5 h1 (λy s2 h2=>Wh h2) λy y z=>z.elim)))) λy y z=>z.elim))
end
def oV(P:C5)(w:World)(a:Addr)(cs:A1):HO:=.ext λh=>SetT P w (!bM w) h a cs
def wV(h:SetT P w L h1 a cs)(k:∀o,h1.get? a=some o->h2.get? a=some o):SetT P w L h2 a cs:=by obtain⟨cs',ep,t,p,e,r⟩:=h;exact⟨cs',ep,t,p,k _ e,r⟩
def CJ(k:SetT P w (!bM w) h a cs):ObjOk P w H h a (oV P w a cs):=⟨k,by obtain⟨_,_,_,_,e,_⟩:=k;exact⟨_,e⟩,λz z k1 s=>wV k1 s⟩
def uG(cs:A1)(c:Addr×C1):A1:=if c.2∈cs.map (·.2) then cs else cs++[c]
def vN(ok:HOk P w H h)(hb:H b=some (.tup (k.map V.int))):IsTupleKey (iK P w) h k b:=by
 obtain⟨_,its,hv,o,ho,hc,n,hd⟩:=ok _ _ hb;refine⟨o,its.toArray,n,ho,hc,hd,?_⟩;have:∀ {ks:C1}{us:B5},Vals (ks.map V.int) us->ItemsAre (iK P w) ks us:=by
  intro ks;induction ks with
  |nil=>intro us h;cases h;exact .nil
  | cons k ks ih=>
    intro us h;cases h with
    |cons r t=>obtain⟨u,rfl⟩:=r;exact .cons (aaB _ _ _ _) (ih t)
 simpa using this hv
section
variable{X:Cx}
def Pj(hu:X.A.units+1<cLine)(I:Inv X aaW σ H s)(ha:H a=some (oV X.prog X.w a cs))(hb:H b=some (.tup (k.map V.int)))
  (hcs:∀c∈cs,H c.1=some (.tup (c.2.map V.int))) (room:cs.length+1<=18) (q:∀s',Inv X aaW σ (upd H a (oV X.prog X.w a (uG cs (b,k)))) s'->Q .none s') :
  wpAny X.M X.A (call (.builtin "set.add") [.ref a,.ref b]) Q E s:=by
 have hS:SetT X.prog X.w (!bM X.w) s.heap a cs:=(I.hok _ _ ha).1;have tI:s.TypeIs (.ref a) "set":=by obtain⟨_,_,_,_,e,_⟩:=hS;exact⟨_,e,rfl⟩
 have hk:=vN I.hok hb;have hH:pH X.prog X.w s.heap cs:=λc hc=>vN I.hok (hcs c hc)
 refine Xl F.slot_set_add tI F.entry_set_add ?_ (F.args_set_add_2 _ _);unfold Builtin.«set.add» Builtin.Frozenset.oneOther;simp only[List.isEmpty_nil,bind_assoc];unfold Builtin.Frozenset.addrOf setAdd;refine Wg (Wh ?_)
 try dsimp only
 refine Wg (Wh ?_)
 try dsimp only
 refine Wg ?_;refine Xw ?_;refine Wg (wpAny_pyHash_tuple (knd:=iK X.prog X.w) (by simpa using hu) hk ?_)
 refine Bh (s:={ s with toks:=s.toks+(k.length+1) }) (by simpa using hu) hS hH hk room λh' r sb g=>?_
 show wpAny _ _ (ret Value.none) _ _ _;refine Wh ⟨_,rfl,q _ ?_⟩;refine I.write (x:=a) (e:=a) (o:=oV X.prog X.w a (uG cs (b,k))) (by rw[ha];trivial) (.inl rfl) (λb u ne e=>(sb.2 b ne).trans e) (by obtain⟨_,_,_,_,e,_⟩:=g;exact⟨_,e⟩) ?_
 exact CJ (by unfold uG;exact g)
end
end L2
namespace LA
open PyProof.Rows LS LB
section
variable{prog:C5}{w:World}{A:Around}{E:A3}{s:Shared}
def Az:∀ {l:List α}{m:List β},m.Perm (l.map f)->∃ l':List α,l'.Perm l/\m=l'.map f:=by
 intro l m p;generalize e:l.map f=x at p;induction p generalizing l with
 |nil=>exact⟨[],by cases l<;>simp_all,rfl⟩
 | cons x p ih=>
   cases l with
   |nil=>cases e
   |cons a l=>simp only[List.map_cons,List.cons.injEq]at e;obtain⟨l',p',rfl⟩:=ih e.2;exact⟨a::l',p'.cons a,by rw[W2,e.1]⟩
 | swap x y l0=>
   cases l with
   |nil=>cases e
   | cons a l=>
     cases l with
     |nil=>simp at e
     |cons b l=>simp only[List.map_cons,List.cons.injEq]at e;exact⟨b::a::l,.swap a b l,by simp[e]⟩
 |trans p1 p2 ih1 ih2=>obtain⟨l',q1,e1⟩:=ih2 e;obtain⟨l'',q2,e2⟩:=ih1 e1.symm;exact⟨l'',q2.trans q1,e2⟩
def sV(hh:A.handled=none)(g:SetT prog w (!bM w) s.heap a cs)(hT:∀ c∈cs,c.2≠[]/\∃ its,IsTup s.heap c.1 its/\IntsAre its.toList c.2)(hl:cs.length<=60)
  (h:∀h' tk d' p n (cs':A1),cs'.Perm cs->lG (cs'.map (·.2))->s.z<=p->h'.get? p=some (seqObj "list" (cs'.map λc=>Value.ref c.1).toArray n)->(∀b o,s.heap.get? b=some o->h'.get? b=some o)->Q (.ref p) { s with heap:=h',toks:=tk,drawn:=d' }) :
  wq prog w A (call (.builtin "sorted") [.ref a]) Q E s:=by
 obtain⟨c0,ep,t,pm,ho,T,nf⟩:=g;refine Y9 kind_sorted plain_sorted entry_sorted (args_sorted1 _) ?_;unfold Builtin.«sorted»
 refine Wg (m:=checkCount "sorted" 1 1 _) (Wh ?_);have l0:=pm.length_eq;refine Wg (pR (by simp[hh]) ho T.fits T.ti (by simp[scanBound];lia) λh1 n5 d1 vs hp sz k1=>?_)
 have e1:(bN prog w c0).toList.map (·.2)=c0.map λc=>Value.ref c.1:=by simp[ent,Function.comp_def]
 rw[e1]at hp;obtain⟨c1,p1,rfl⟩:=Az hp;have l1:=p1.length_eq;have zl:(c1.map λc=>Value.ref c.1).toArray.size<=sizeLine:=by rw[WX,Wm,Yx];lia
 refine Wg (wpAny_newList ?_ zl);have oL:(h1.push (seqObj "list" (c1.map λc=>Value.ref c.1).toArray 0)).get? h1.objs.size=some (seqObj "list" (c1.map λc=>Value.ref c.1).toArray 0):=Wu _ rfl
 have tups:∀ (l:A1),(∀ c∈l,c∈cs)->gD (h1.push (seqObj "list" (c1.map λc=>Value.ref c.1).toArray 0)) (l.map λc=>Value.ref c.1) (l.map (·.2)):=by
  intro l;induction l with
  |nil=>intro _;exact .nil
  |cons c l ih=>intro hc;obtain⟨ne,its,it,ia⟩:=hT c (hc c WP);exact .cons ⟨ne,c.1,its,rfl,it.keeps λb o e=>Wi _ (k1 b o e),ia⟩ (ih λx hx=>hc x (W6 _ hx))
 have hts:=tups c1 λc hc=>pm.mem_iff.mp (p1.mem_iff.mp hc)
 refine Wg (Xw (Xl slot_list_sort ⟨_,oL,rfl⟩ entry_list_sort (vO oL hts (by rw[Wm];lia) λis si=>⟨_,rfl,?_⟩) (args_list_sort _)))
 obtain⟨e,he⟩:=sortedHeap_at (out:=(is.map λi=>(c1.map λc=>Value.ref c.1).getD i Value.none).toArray) oL
 have sl:=si.lt;rw[Wm]at sl;have ev:(is.map λi=>(c1.map λc=>Value.ref c.1).getD i Value.none)=(is.map λi=>c1.getD i (0,[])).map λc=>Value.ref c.1:=by rw[W4];exact Yq λi hi=>by have:=sl i hi;simp[this]
 have ek:(is.map λi=>(c1.map (·.2)).getD i [])=(is.map λi=>c1.getD i (0,[])).map (·.2):=by rw[W4];exact Yq λi hi=>by have:=sl i hi;simp[this]
 have pk:(is.map λi=>c1.getD i (0,[])).Perm cs:=by
  have sp:=si.pm;rw[Wm]at sp;refine (sp.map _).trans ?_;have e3:(List.range c1.length).map (λi=>c1.getD i (0,[]))=c1:=by
   apply aav
   ·simp
   ·intro i h1 h2;simp at h1 ⊢
    rw[Wl h1];rfl
  rw[e3];exact p1.trans pm
 have ris:=si.ris;rw[ek]at ris;rw[ev]at he ⊢
 refine Wh ⟨_,rfl,h _ _ _ h1.objs.size e _ pk ris sz he λb o eb=>?_⟩
 have lt:=Wo (k1 b o eb);rw[sortedHeap_old (WL lt) (by rw[size_push'];exact Yo lt)]
 exact Wi _ (k1 b o eb)
end
end LA
namespace L2
open PyProof.Rows LS LA LB
def yu(hh:X.A.handled=none):CallR X (.builtin "sorted") (λxs H Q=>∃ (p:Addr) (cs:A1),xs=[.ref p]/\H p=some (oV X.prog X.w p cs)/\(∀ c∈cs,c.2≠[]/\H c.1=some (.tup (c.2.map V.int)))/\cs.length<=60/\∀ (l:Addr) (cs':A1),H l=none->cs'.Perm cs->(cs'.map (·.2))=wg (cs.map (·.2))->Q (.ref l) (upd H l (.lst (cs'.map λc=>V.ref c.1)))):=by
 intro aaW s σ H xs us Q I r1 h;obtain⟨p,cs,rfl,hp,hT,hl,q⟩:=h;cases r1 with
 | cons r rr=>
   cases rr;cases r;have hS:SetT X.prog X.w (!bM X.w) s.heap p cs:=(I.hok _ _ hp).1;refine sV hh hS (λc hc=>?_) hl λh2 mr d2 l m cs' pm ri eu l6 k2=>?_
   ·obtain⟨ne,hc'⟩:=hT c hc;obtain⟨_,its,hv,it⟩:=I.hok _ _ hc';exact⟨ne,its.toArray,it,by simpa using jW hv⟩
   ·have zl:(cs'.map λc=>V.ref c.1).length<=sizeLine:=by
     rw[Wm,pm.length_eq];show _<=2^24
     lia
    have vv:∀l:A1,Vals (l.map λc=>V.ref c.1) (l.map λc=>Value.ref c.1):=by
     intro l;induction l with
     |nil=>exact .nil
     |cons c l ih=>exact .cons rfl ih
    have I2:=I.call (h':=h2) (t':=mr) (d':=d2) (g':=s.gens) (ch:=[]) (Un.laid k2 eu (I.hok.fresh eu)) (I.hok.laid (o:=.lst (cs'.map λc=>V.ref c.1)) k2 eu ⟨zl,_,m,vv cs',l6⟩) I.bare (λy z=>nomatch z)
    exact⟨.ref l,upd H l (.lst (cs'.map λc=>V.ref c.1)),I2,rfl,q l cs' (I.hok.fresh eu) pm (qp ((pm.map _).trans (fG _).1.symm) ri (fG _).2)⟩
end L2
namespace LA
open PyProof.Rows LS
def dN(cs:A1)(c:Addr×C1):A1:=if c.2∈cs.map (·.2) then cs else cs++[(c.1,c.2)]
def wu(x:IsTupleKey (iK prog w) h k b)(kp:∀o,h.get? b=some o->h'.get? b=some o):IsTupleKey (iK prog w) h' k b:=by obtain⟨o,its,n,e,r⟩:=x;exact⟨o,its,n,kp _ e,r⟩
theorem tQ:∀ (l acc:A1),(l.foldl dN acc).length<=acc.length + l.length
 |[],acc=>by simp
 |c::l,acc=>by
   have:=tQ l (dN acc c);have h2:(dN acc c).length<=acc.length+1:=by unfold dN;split<;>simp
   rw[Yp,XH]
   lia
theorem tR:∀ (l acc:A1) {x:Addr×C1}{S:A1},x∈l.foldl dN acc->(x∈acc->x∈S++l)->x∈S++l
 |[],acc,x,S,h,k=>k h
 | c::l,acc,x,S,h,k=>by
   have ih:=tR l (dN acc c) (x:=x) (S:=S++[c]) h λz=>by
    unfold dN at z;have:x∈acc\/x=c:=by
     split at z
     ·exact .inl z
     ·rcases WF.mp z with z | z
      ·exact .inl z
      ·exact .inr (Wx.mp z)
    rcases this with z | rfl
    ·have:=k z;simpa using this
    ·simp
   simpa using ih
section
variable{prog:C5}{w:World}{A:Around}{E:A3}{s:Shared}
def Gj(hh:A.handled=none)(hl:s.heap.IsList l items)(hi:items.toList=all.map λc=>Value.ref c.1)(H:pH prog w s.heap all)(hu:A.units+8<cLine)(hb:all.length<=18)
  (h:∀(h':Heap) (tk:Nat),SetT prog w (!bM w) h' s.z (all.foldl dN [])->(∀b o,b<s.z->s.heap.get? b=some o->h'.get? b=some o)->Q (.ref s.z) { s with heap:=h',toks:=tk }) :
  wq prog w A (call (.type "set") [.ref l]) Q E s:=by
 have il:items.size=all.length:=by rw[<-Xy,hi,Wm]
 have ltc:∀c∈all,c.1<s.z:=λc hc=>by obtain⟨o,_,_,e,_⟩:=H c hc;exact Wo e
 refine wF (Sp:=λi h=>SetT prog w (!bM w) h s.z ((all.take i).foldl dN [])/\pH prog w h all) hh hl (λh' e k=>⟨⟨[],0,.fresh 0 0 (!bM w),.refl _,e,⟨.fresh _ _,.inl rfl,rfl,λs h=>(by cases h),X3 _,λz h=>(by cases h),rfl⟩,by show 0*5<7*3;decide⟩,λc hc=>wu (H c hc) λo e=>k _ o (ltc c hc) e⟩)
  (λi h h' g k=>⟨L2.wV g.1 λo e=>k _ o (by simp) e,λc hc=>wu (g.2 c hc) λo e=>k _ o (λz=>X7.mpr (Nat.le_succ _) (Wx.mp z ▸ ltc c hc)) e⟩) (λA' i v s1 Q E hA lt hP g q=>?_) (λh' tk g k=>h h' tk (by have:=g.1;rw[il,List.take_length]at this;exact this) k)
 obtain⟨c,ec,rfl⟩:∃c,all[i]?=some c/\v=.ref c.1:=by rw[<-Y0,hi,WM]at hP;obtain⟨c,e1,e2⟩:=Wk.mp hP;exact⟨c,e1,e2.symm⟩
 obtain⟨g,HT⟩:=g;have hu':A'.units<cLine:=by lia
 unfold setAdd;have hc:=HT c (WR ec);refine Xw (Wg (wpAny_pyHash_tuple (knd:=iK prog w) hu' hc ?_));have fl:=tQ (all.take i) [];have tl2:(all.take i).length=i:=by rw[Yz];lia
 have fs:∀x∈(all.take i).foldl dN [],x∈all:=λx hx=>ZM (by simpa using tR (all.take i) [] (S:=[]) hx (λz=>by cases z))
 refine Bh (s:={ s1 with toks:=s1.toks+(c.2.length+1) }) hu' g (λx hx=>HT x (fs x hx)) hc (by simp at fl;lia) λh' b sb g2=>?_
 have e2:(all.take (i+1)).foldl dN []=if c.2∈((all.take i).foldl dN []).map (·.2) then (all.take i).foldl dN [] else (all.take i).foldl dN []++[(c.1,c.2)]:=by rw[Zw,ec,Zu];rfl
 rw[<-e2]at g2;exact q h' _ b (Nat.le_add_right _ _) sb ⟨g2,λx hx=>wu (HT x hx) λo e=>(sb.2 _ (WL (ltc x hx))).trans e⟩
end
end LA
namespace L2
open PyProof.Rows LS
end L2
namespace L3
open L2
open PyProof.Rows hiding St
inductive D where
 |non | bl (b:Bool) | int (i:Int) | str (x:Str)
 |tup (l:List D) | lst (l:List D)
 |dic (ks:List Key) (vs:List D)
 |obj (c:Str) (ns:C3) (vs:List D)
 |scr (ns:C1)
 |ref (n:Nat)
 |cls (c:Str) | ty (t:String)
 |exn (a:Addr)
instance:Inhabited D:=⟨.non⟩
inductive DO where
 |lst (l:List D)
 |dic (ks:List Key) (vs:List D)
 |ins (c:Str) (ns:C3) (vs:List D)
abbrev Mo:=List DO
inductive R(α:Type) where
 |ok (a:α) | exc (c:Str)
def DM(α:Type):=Mo->Option (R α×Mo)
@[reducible] def DM.pure{α:Type}(a:α):DM α:=λM=>some (.ok a,M)
noncomputable def DM.bind{α β:Type}(m:DM α)(f:α->DM β):DM β:=λM=>match m M with
 |none=>none
 |some (.exc c,M')=>some (.exc c,M')
 |some (.ok a,M')=>f a M'
instance:Monad DM where
 pure:=DM.pure
 bind:=DM.bind
def rd{α:Type}(f:Mo->Option α):DM α:=λM=>(f M).map λa=>(.ok a,M)
def opt{α:Type}(o:Option α):DM α:=λM=>o.map λa=>(.ok a,M)
def stuck{α:Type}:DM α:=λz=>none
def raise{α:Type}(c:Str):DM α:=λM=>some (.exc c,M)
abbrev aj:=List (Option D)
structure Rh where
 st:B7
 vo:B7
instance:Membership Addr Rh:=⟨λρ a=>a∈ρ.st\/a∈ρ.vo⟩
def Rh.put(ρ:Rh)(p:Addr):Rh:=⟨ρ.st++[p],ρ.vo⟩
def Rh.hold(ρ:Rh)(p:Addr):Rh:=⟨ρ.st,p::ρ.vo⟩
mutual
inductive Cv(mg:A4)(ρ:Rh)(H:Hp):V->D->Prop
 |non:Cv mg ρ H .non .non
 |bl (b:Bool):Cv mg ρ H (.bl b) (.bl b)
 |int (i:Int):Cv mg ρ H (.int i) (.int i)
 |str (x:Str):Cv mg ρ H (.str x) (.str x)
 |tup {a:Addr}{xs:List V}{ds:List D}:a∉ρ->H a=some (.tup xs)->Cvs mg ρ H xs ds->Cv mg ρ H (.ref a) (.tup ds)
 |lst {a:Addr}{xs:List V}{ds:List D}:a∉ρ->H a=some (.lst xs)->Cvs mg ρ H xs ds->Cv mg ρ H (.ref a) (.lst ds)
 |dic {a:Addr}{ks:List Key}{xs:List V}{ds:List D}:a∉ρ->H a=some (.dK (ks.zip xs))->ks.length=xs.length->Cvs mg ρ H xs ds->Cv mg ρ H (.ref a) (.dic ks ds)
 |obj {a C dx:Addr}{c:Str}{ns:C3}{xs:List V}{ds:List D}:a∉ρ->mg c=some (.ref C)->H a=some (.ins C dx (ns.zip xs))->ns.length=xs.length->Cvs mg ρ H xs ds->Cv mg ρ H (.ref a) (.obj c ns ds)
 |scr {a:Addr}{ns:C1}:a∉ρ->Rd H a (.lst (ns.map V.int))->Cv mg ρ H (.ref a) (.scr ns)
 |ref {n:Nat}{a:Addr}:ρ.st[n]?=some a->Cv mg ρ H (.ref a) (.ref n)
 |cls {c:Str}{C:Addr}:mg c=some (.ref C)->Cv mg ρ H (.ref C) (.cls c)
 |ty (t:String):Cv mg ρ H (.ty t) (.ty t)
 |exn (a:Addr):Cv mg ρ H (.ref a) (.exn a)
inductive Cvs(mg:A4)(ρ:Rh)(H:Hp):List V->List D->Prop
 |nil:Cvs mg ρ H [] []
 |cons {v:V}{d:D}{vs:List V}{ds:List D}:Cv mg ρ H v d->Cvs mg ρ H vs ds->Cvs mg ρ H (v::vs) (d::ds)
end
structure Ext(ρ:Rh)(H:Hp)(ρ':Rh)(H':Hp):Prop where
 pre:∃τ,ρ'.st=ρ.st++τ
 vo:ρ'.vo=ρ.vo
 new:∀a,a∈ρ'.st->a∉ρ.st->H a=none
 keep:∀a o,H a=some o->a∉ρ.st->H' a=some o
def Ext.refl:Ext ρ H ρ H:=⟨⟨[],by simp⟩,rfl,λa h n=>absurd h n,λz z h z=>h⟩
def Ext.keeps(e:Ext ρ H ρ' H')(h:H a=some o)(n:a∉ρ):H' a=some o:=e.keep a o h λz=>n (.inl z)
def Ext.out1(e:Ext ρ H ρ' H')(h:H a=some o)(n:a∉ρ.st):a∉ρ'.st:=λz=>by have:=e.new a z n;rw[h]at this;cases this
def Ext.out(e:Ext ρ H ρ' H')(h:H a=some o)(n:a∉ρ):a∉ρ':=λz=>by
 rcases z with z | z
 ·exact e.out1 h (λy=>n (.inl y)) z
 ·rw[e.vo]at z;exact n (.inr z)
theorem Ext.trans(e:Ext ρ H ρ1 H1)(f:Ext ρ1 H1 ρ2 H2):Ext ρ H ρ2 H2:=by
 refine⟨?_,f.vo.trans e.vo,λa h n=>?_,λa o h n=>f.keep a o (e.keep a o h n) (e.out1 h n)⟩
 ·obtain⟨τ,h1⟩:=e.pre;obtain⟨υ,h2⟩:=f.pre;exact⟨τ++υ,by rw[h2,h1,Ym]⟩
 ·by_cases z:a∈ρ1.st
  ·exact e.new a z n
  ·cases q:H a with
   |none=>rfl
   |some o=>have:=f.new a h z;rw[e.keep a o q n]at this;cases this
def Ext.at(e:Ext ρ H ρ' H'){n:Nat}(h:ρ.st[n]?=some a):ρ'.st[n]?=some a:=by obtain⟨τ,h1⟩:=e.pre;rw[h1,WD (Wj.mp h).1];exact h
def Rh.nhold{ρ:Rh}{a p:Addr}(h:a∉ρ)(n:a≠p):a∉ρ.hold p:=λz=>by
 rcases z with z | z
 ·exact h (.inl z)
 ·rcases Wz.mp z with z | z
  ·exact n z
  ·exact h (.inr z)
section
variable{mg:A4}{ρ ρ':Rh}{H H':Hp}
def Cvs.ind{P:List V->List D->Prop}{vs:List V}{ds:List D}(h:Cvs mg ρ H vs ds)(n:P [] [])(c:∀{v d vs ds},Cv mg ρ H v d->Cvs mg ρ H vs ds->P vs ds->P (v::vs) (d::ds)):P vs ds:=
 Cvs.rec (motive_1:=λz z z=>True) (motive_2:=λvs ds z=>P vs ds) ⟨⟩ (λz=>⟨⟩) (λz=>⟨⟩) (λz=>⟨⟩) (λz z z z=>⟨⟩) (λz z z z=>⟨⟩) (λz z z z z=>⟨⟩) (λz z z z z z=>⟨⟩) (λz z=>⟨⟩) (λz=>⟨⟩) (λz=>⟨⟩) (λz=>⟨⟩) (λz=>⟨⟩) n (λa t z i=>c a t i) h
def Cvs.gen(at_:∀(n:Nat) a,ρ.st[n]?=some a->ρ'.st[n]?=some a)(kp:∀a o,H a=some o->a∉ρ->(∀φ,o≠.ext φ)->a∉ρ'/\H' a=some o){vs:List V}{ds:List D}(h:Cvs mg ρ H vs ds):Cvs mg ρ' H' vs ds:=
 Cvs.rec (motive_1:=λv d z=>Cv mg ρ' H' v d) (motive_2:=λvs ds z=>Cvs mg ρ' H' vs ds) .non .bl .int .str (λn h z c=>.tup (kp _ _ h n nofun).1 (kp _ _ h n nofun).2 c) (λn h z c=>.lst (kp _ _ h n nofun).1 (kp _ _ h n nofun).2 c) (λn h l z c=>.dic (kp _ _ h n nofun).1 (kp _ _ h n nofun).2 l c) (λn m h l z c=>.obj (kp _ _ h n nofun).1 m (kp _ _ h n nofun).2 l c)
  (λn h=>h.elim (λh=>.scr (kp _ _ h n nofun).1 (.inl (kp _ _ h n nofun).2)) λ⟨_,h⟩=>.scr (kp _ _ h n nofun).1 (.inr ⟨_,(kp _ _ h n nofun).2⟩)) (λh=>.ref (at_ _ _ h)) .cls .ty .exn .nil (λz z=>.cons) h
def Cvs.hd{v:V}{d:D}{vs:List V}{ds:List D}(h:Cvs mg ρ H (v::vs) (d::ds)):Cv mg ρ H v d:=by cases h;assumption
theorem Cv.gen(at_:∀(n:Nat) a,ρ.st[n]?=some a->ρ'.st[n]?=some a)(kp:∀a o,H a=some o->a∉ρ->(∀φ,o≠.ext φ)->a∉ρ'/\H' a=some o){v:V}{d:D}(h:Cv mg ρ H v d):Cv mg ρ' H' v d:=(Cvs.gen at_ kp (.cons h .nil)).hd
def Cv.mono(e:Ext ρ H ρ' H'){v:V}{d:D}(h:Cv mg ρ H v d):Cv mg ρ' H' v d:=h.gen (λz z=>e.at) λz z h n z=>⟨e.out h n,e.keeps h n⟩
def Cvs.mono(e:Ext ρ H ρ' H'){v:List V}{d:List D}(h:Cvs mg ρ H v d):Cvs mg ρ' H' v d:=h.gen (λz z=>e.at) λz z h n z=>⟨e.out h n,e.keeps h n⟩
def Cvs.len{vs:List V}{ds:List D}(h:Cvs mg ρ H vs ds):vs.length=ds.length:=h.ind (P:=λvs ds=>vs.length=ds.length) rfl λz z=>congrArg (·+ 1)
def Cvs.append{vs us:List V}{ds es:List D}(h:Cvs mg ρ H vs ds)(h2:Cvs mg ρ H us es):Cvs mg ρ H (vs++us) (ds++es):=h.ind (P:=λvs ds=>Cvs mg ρ H (vs++us) (ds++es)) h2 λa z=>.cons a
theorem Cvs.take{vs:List V}{ds:List D}(n:Nat)(h:Cvs mg ρ H vs ds):Cvs mg ρ H (vs.take n) (ds.take n):=h.ind (P:=λvs ds=>∀n,Cvs mg ρ H (vs.take n) (ds.take n)) (λn=>by rw[List.take_nil,List.take_nil];exact .nil) (λa z i n=>by cases n with | zero=>exact .nil | succ n=>exact .cons a (i n)) n
theorem Cvs.drop{vs:List V}{ds:List D}(n:Nat)(h:Cvs mg ρ H vs ds):Cvs mg ρ H (vs.drop n) (ds.drop n):=h.ind (P:=λvs ds=>∀n,Cvs mg ρ H (vs.drop n) (ds.drop n)) (λn=>by rw[List.drop_nil,List.drop_nil];exact .nil) (λa t i n=>by cases n with | zero=>exact .cons a t | succ n=>exact i n) n
def Cvs.get{vs:List V}{ds:List D}{i:Nat}{d:D}(h:Cvs mg ρ H vs ds):ds[i]?=some d->∃v,vs[i]?=some v/\Cv mg ρ H v d:=h.ind (P:=λvs ds=>∀i,ds[i]?=some d->∃v,vs[i]?=some v/\Cv mg ρ H v d) (λz e=>by cases e) (λ{v _ _ _} a _ r i=>by cases i with | zero=>exact λe=>⟨v,rfl,Ws e ▸ a⟩ | succ n=>exact r n) i
theorem Cvs.set{v:V}{d:D}(h:Cv mg ρ H v d){vs:List V}{ds:List D}(i:Nat)(c:Cvs mg ρ H vs ds):Cvs mg ρ H (vs.set i v) (ds.set i d):=c.ind (P:=λvs ds=>∀i,Cvs mg ρ H (vs.set i v) (ds.set i d)) (λz=>.nil) (λa t r i=>by cases i with | zero=>exact .cons h t | succ n=>exact .cons a (r n)) i
theorem Cvs.reverse{vs:List V}{ds:List D}(h:Cvs mg ρ H vs ds):Cvs mg ρ H vs.reverse ds.reverse:=h.ind (P:=λvs ds=>Cvs mg ρ H vs.reverse ds.reverse) .nil λa z i=>by rw[aar,aar];exact i.append (.cons a .nil)
theorem Cvs.ints:∀ns:C1,Cvs mg ρ H (ns.map V.int) (ns.map D.int)
 |[]=>.nil
 |n::ns=>.cons (.int n) (Cvs.ints ns)
def jE(mg:A4)(ρ:Rh)(H:Hp)(a:Addr):DO->Prop
 |.lst l=>∃xs,H a=some (.lst xs)/\Cvs mg ρ H xs l
 |.dic ks l=>∃xs,H a=some (.dK (ks.zip xs))/\ks.length=xs.length/\Cvs mg ρ H xs l
 |.ins c ns l=>∃C dx xs,mg c=some (.ref C)/\H a=some (.ins C dx (ns.zip xs))/\ns.length=xs.length/\Cvs mg ρ H xs l
theorem jE.some{a:Addr}{o:DO}(h:jE mg ρ H a o):∃u,H a=some u:=by
 cases o with
 |lst l=>obtain⟨xs,h,_⟩:=h;exact⟨_,h⟩
 |dic ks l=>obtain⟨xs,h,_⟩:=h;exact⟨_,h⟩
 |ins c ns l=>obtain⟨C,dx,xs,_,h,_⟩:=h;exact⟨_,h⟩
theorem jE.mono{a:Addr}{o:DO}(e:Ext ρ H ρ' H')(k:H' a=H a)(h:jE mg ρ H a o):jE mg ρ' H' a o:=by
 cases o with
 |lst l=>obtain⟨xs,h,c⟩:=h;exact⟨xs,k.trans h,c.mono e⟩
 |dic ks l=>obtain⟨xs,h,q,c⟩:=h;exact⟨xs,k.trans h,q,c.mono e⟩
 |ins c ns l=>obtain⟨C,dx,xs,m,h,q,c⟩:=h;exact⟨C,dx,xs,m,k.trans h,q,c.mono e⟩
structure J(mg:A4)(ρ:Rh)(M:Mo)(H:Hp):Prop where
 len:ρ.st.length=M.length
 nd:ρ.st.Nodup
 obj:∀(n:Nat) a o,ρ.st[n]?=some a->M[n]?=some o->jE mg ρ H a o
 vol:∀a,a∈ρ.vo->a∉ρ.st/\∃xs,H a=some (.lst xs)
theorem J.some{M:Mo}(j:J mg ρ M H){a:Addr}(h:a∈ρ):∃u,H a=some u:=by
 rcases h with h | h
 ·obtain⟨n,hn⟩:=Zz.mp h;have lt:n<M.length:=by rw[<-j.len];exact (Wj.mp hn).1
  exact (j.obj n a M[n] hn (Wl lt)).some
 ·obtain⟨_,xs,e⟩:=j.vol a h;exact⟨_,e⟩
def J.fresh{M:Mo}(j:J mg ρ M H){p:Addr}(h:H p=none):p∉ρ:=λz=>by obtain⟨u,e⟩:=j.some z;rw[h]at e;cases e
def J.inj{M:Mo}(j:J mg ρ M H){n m:Nat}{a:Addr}(h:ρ.st[n]?=Option.some a)(k:ρ.st[m]?=Option.some a):n=m:=by
 obtain⟨h1,e1⟩:=Wj.mp h;obtain⟨h2,e2⟩:=Wj.mp k;have q:∀i k (hi:i<ρ.st.length) (hk:k<ρ.st.length),i<k->ρ.st[i]≠ρ.st[k]:=λi k hi hk lt=>Yg.mp j.nd i k hi hk lt
 rcases aak n m with z | z | z
 ·exact absurd (e1.trans e2.symm) (q n m h1 h2 z)
 ·exact z
 ·exact absurd (e2.trans e1.symm) (q m n h2 h1 z)
def Ext.lay{p:Addr}{o:HO}(h:H p=none):Ext ρ H ρ (upd H p o):=⟨⟨[],by simp⟩,rfl,λa h n=>absurd h n,λa o e z=>by rw[upd_ne (ne_of_none e h)];exact e⟩
def Ext.same(S:Same H H'):Ext ρ H ρ H':=⟨⟨[],by simp⟩,rfl,λa h n=>absurd h n,λa o e z=>S _ _ e⟩
theorem J.same{M:Mo}(j:J mg ρ M H)(S:Same H H'):J mg ρ M H':=⟨j.len,j.nd,λn a o h k=>by have c:=j.obj n a o h k;obtain⟨u,e⟩:=c.some;exact c.mono (Ext.same S) (by rw[e,S _ _ e]),λa h=>let ⟨x,xs,e⟩:=j.vol a h;⟨x,xs,S _ _ e⟩⟩
def J.lay{M:Mo}(j:J mg ρ M H){p:Addr}(o:HO)(h:H p=none):J mg ρ M (upd H p o):=j.same (same_new h o)
theorem Ext.put{p:Addr}{o:HO}(h:H p=none):Ext ρ H (ρ.put p) (upd H p o):=⟨⟨[p],rfl⟩,rfl,λa ha n=>by
 rcases WF.mp ha with z | z
 ·exact absurd z n
 ·rw[Wx.mp z];exact h,λa o e y=>by rw[upd_ne (ne_of_none e h)];exact e⟩
theorem J.put{M:Mo}(j:J mg ρ M H){p:Addr}{o:HO}{u:DO}(h:H p=none)(c:jE mg (ρ.put p) (upd H p o) p u):J mg (ρ.put p) (M++[u]) (upd H p o):=by
 have np:p∉ρ.st:=λz=>j.fresh h (.inl z)
 refine⟨?_,?_,λn a w h1 h2=>?_,λa ha=>?_⟩
 ·show (ρ.st++[p]).length=_;rw[W3,W3,j.len];rfl
 ·show (ρ.st++[p]).Nodup;rw[Y6];exact⟨j.nd,by simp,λx hx y hy e=>by rw[Wx.mp hy]at e;exact np (e ▸ hx)⟩
 ·have h1:(ρ.st++[p])[n]?=Option.some a:=h1;by_cases hn:n<ρ.st.length
  ·rw[WD hn]at h1;rw[WD (by rw[<-j.len];exact hn)]at h2
   have c:=j.obj n a w h1 h2;exact c.mono (Ext.put h) (upd_ne λ(z:a=p)=>np (z ▸ WR h1))
  ·have hl:n<(ρ.st++[p]).length:=(Wj.mp h1).1;rw[W3]at hl;have e:n=ρ.st.length:=by have:[p].length=1:=rfl;lia
   subst e;rw[Xn (Wn _)]at h1;rw[j.len,Xn (Wn _)]at h2;simp at h1 h2;subst h1 h2;exact c
 ·obtain⟨x,xs,e⟩:=j.vol a ha;have ne:a≠p:=ne_of_none e h;refine⟨λz=>?_,xs,by rw[upd_ne ne];exact e⟩
  rcases WF.mp z with z | z
  ·exact x z
  ·exact ne (Wx.mp z)
theorem Ext.upd{p:Addr}{o:HO}(h:p∈ρ.st):Ext ρ H ρ (L2.upd H p o):=⟨⟨[],by simp⟩,rfl,λa h n=>absurd h n,λa u e n=>by rw[upd_ne (λ(z:a=p)=>n (z ▸ h))];exact e⟩
theorem J.upd{M:Mo}(j:J mg ρ M H){n:Nat}{p:Addr}{o:HO}{u:DO}(h:ρ.st[n]?=Option.some p)(c:jE mg ρ (L2.upd H p o) p u):J mg ρ (M.set n u) (L2.upd H p o):=by
 refine⟨by rw[Ye];exact j.len,j.nd,λm a w h1 h2=>?_,λa ha=>?_⟩
 ·by_cases e:m=n
  ·subst e;rw[h]at h1;cases h1;have lt:m<M.length:=by rw[<-j.len];exact (Wj.mp h).1
   rw[W8 lt]at h2;cases h2;exact c
  ·rw[Xh (λz=>e z.symm)]at h2
   have ne:a≠p:=λz=>by subst z;exact e (j.inj h1 h)
   exact (j.obj m a w h1 h2).mono (Ext.upd (WR h)) (by rw[upd_ne ne])
 ·obtain⟨x,xs,e⟩:=j.vol a ha;exact⟨x,xs,by rw[upd_ne (λ(z:a=p)=>x (z ▸ WR h))];exact e⟩
def PP{p a:Addr}{o:HO}(hp:p∈ρ.vo)(n:a∉ρ):L2.upd H p o a=H a:=upd_ne λz=>n (by rw[z];exact .inr hp)
def Cvs.hold{p:Addr}{o:HO}(hp:p∈ρ.vo){v:List V}{d:List D}(h:Cvs mg ρ H v d):Cvs mg ρ (L2.upd H p o) v d:=h.gen (λz z h=>h) λz z h n z=>⟨n,(PP hp n).trans h⟩
def Cvs.less{ρ1:Rh}(hs:ρ1.st=ρ.st)(hv:∀a,a∈ρ1.vo->a∈ρ.vo){v:List V}{d:List D}(h:Cvs mg ρ H v d):Cvs mg ρ1 H v d:=h.gen (λx x h=>hs ▸ h) λx x h n x=>⟨λz=>n (z.elim (λy=>.inl (hs ▸ y)) λy=>.inr (hv _ y)),h⟩
def Cvs.more{p:Addr}(hp:H p=none){v:List V}{d:List D}(h:Cvs mg ρ H v d):Cvs mg (ρ.hold p) H v d:=h.gen (ρ:=ρ) (ρ':=ρ.hold p) (λz z h=>h) λz z h n z=>⟨Rh.nhold n (ne_of_none h hp),h⟩
def jE.map{ρ1:Rh}{H1:Hp}{a:Addr}{o:DO}(k:H1 a=H a)(f:∀vs ds,Cvs mg ρ H vs ds->Cvs mg ρ1 H1 vs ds)(h:jE mg ρ H a o):jE mg ρ1 H1 a o:=by
 cases o with
 |lst l=>obtain⟨xs,h,c⟩:=h;exact⟨xs,k.trans h,f _ _ c⟩
 |dic ks l=>obtain⟨xs,h,q,c⟩:=h;exact⟨xs,k.trans h,q,f _ _ c⟩
 |ins c ns l=>obtain⟨C,dx,xs,m,h,q,c⟩:=h;exact⟨C,dx,xs,m,k.trans h,q,f _ _ c⟩
def J.begin{M:Mo}(j:J mg ρ M H){p:Addr}(hp:H p=none):J mg (ρ.hold p) M (L2.upd H p (.lst [])):=by
 have np:p∉ρ.st:=λz=>j.fresh hp (.inl z)
 refine⟨j.len,j.nd,λn a o h1 h2=>?_,λa ha=>?_⟩
 ·exact (j.obj n a o h1 h2).map (upd_ne λ(z:a=p)=>np (z ▸ WR h1)) λvs ds c=>(c.more hp).hold (.head _)
 ·rcases Wz.mp ha with rfl | ha
  ·exact⟨np,[],upd_same⟩
  ·obtain⟨x,xs,e⟩:=j.vol a ha;exact⟨x,xs,by rw[upd_ne (ne_of_none e hp)];exact e⟩
def J.grow{M:Mo}(j:J mg ρ M H){p:Addr}{ys:List V}(hp:p∈ρ.vo):J mg ρ M (L2.upd H p (.lst ys)):=by
 refine⟨j.len,j.nd,λn a o h1 h2=>?_,λa ha=>?_⟩
 ·exact (j.obj n a o h1 h2).map (upd_ne λ(z:a=p)=>(j.vol p hp).1 (z ▸ WR h1)) λvs ds c=>c.hold hp
 ·by_cases z:a=p
  ·subst z;exact⟨(j.vol a ha).1,ys,upd_same⟩
  ·obtain⟨x,xs,e⟩:=j.vol a ha;exact⟨x,xs,by rw[upd_ne z];exact e⟩
def J.done{M:Mo}{p:Addr}{ρ1:Rh}(j:J mg ρ1 M H)(hv:ρ1.vo=p::ρ.vo):J mg ⟨ρ1.st,ρ.vo⟩ M H:=by
 refine⟨j.len,j.nd,λn a o h1 h2=>?_,λa ha=>?_⟩
 ·exact jE.map (ρ:=ρ1) rfl (λvs ds c=>Cvs.less (ρ:=ρ1) (ρ1:=⟨ρ1.st,ρ.vo⟩) rfl (λa ha=>by rw[hv];exact .tail _ ha) c) (j.obj n a o h1 h2)
 ·obtain⟨x,y⟩:=j.vol a (by rw[hv];exact .tail _ ha)
  exact⟨x,y⟩
end
structure Kp(ρ:Rh)(H:Hp)(ρ':Rh)(H':Hp):Prop where
 pre:∃τ,ρ'.st=ρ.st++τ
 keep:∀a o,H a=some o->a∉ρ->(∀φ,o≠.ext φ)->a∉ρ'/\H' a=some o
def Ext.kp{ρ ρ':Rh}{H H':Hp}(e:Ext ρ H ρ' H'):Kp ρ H ρ' H':=⟨e.pre,λa o h n z=>⟨e.out h n,e.keeps h n⟩⟩
def Kp.trans{ρ ρ1 ρ2:Rh}{H H1 H2:Hp}(a:Kp ρ H ρ1 H1)(b:Kp ρ1 H1 ρ2 H2):Kp ρ H ρ2 H2:=by
 refine⟨?_,λc o h n ne=>let ⟨x,y⟩:=a.keep c o h n ne;b.keep c o y x ne⟩
 obtain⟨τ,h1⟩:=a.pre;obtain⟨υ,h2⟩:=b.pre;exact⟨τ++υ,by rw[h2,h1,Ym]⟩
def Kp.at{ρ ρ':Rh}{H H':Hp}(e:Kp ρ H ρ' H'){n:Nat}{a:Addr}(h:ρ.st[n]?=some a):ρ'.st[n]?=some a:=by obtain⟨τ,h1⟩:=e.pre;rw[h1,WD (Wj.mp h).1];exact h
section
variable{mg:A4}{ρ ρ':Rh}{H H':Hp}
def Cv.kp(e:Kp ρ H ρ' H'){v:V}{d:D}(h:Cv mg ρ H v d):Cv mg ρ' H' v d:=h.gen (λz z=>e.at) e.keep
def Cvs.kp(e:Kp ρ H ρ' H'){v:List V}{d:List D}(h:Cvs mg ρ H v d):Cvs mg ρ' H' v d:=h.gen (λz z=>e.at) e.keep
end
def pG(mg:A4)(ρ:Rh)(H:Hp){α β:Type}(rel:Rh->Hp->β->α->Prop)(Q:β->Hp->Prop)(E:XK):R α×Mo->Prop
 |(.ok a,M')=>∀ρ' H' b,Ext ρ H ρ' H'->J mg ρ' M' H'->rel ρ' H' b a->Q b H'
 |(.exc c,M')=>∀ρ' H' C,Ext ρ H ρ' H'->J mg ρ' M' H'->mg c=some (.ref C)->E (.ref C) none H'
def Go(mg:A4)(E:XK){α β:Type}(rel:Rh->Hp->β->α->Prop)(Q:β->Hp->Prop)(ρ:Rh)(H:Hp)(m:DM α)(M:Mo):Prop:=∃r,m M=some r/\pG mg ρ H rel Q E r
section
variable{mg:A4}{ρ ρ':Rh}{H H':Hp}{E:XK}{α β γ δ':Type}{rel:Rh->Hp->β->α->Prop}{rel':Rh->Hp->δ'->γ->Prop}{Q:δ'->Hp->Prop}{Q':β->Hp->Prop}
def pG.mono{r:R α×Mo}(e:Ext ρ H ρ' H')(h:pG mg ρ H rel Q' E r):pG mg ρ' H' rel Q' E r:=by
 obtain⟨r,M'⟩:=r;cases r with
 |ok a=>exact λρ2 H2 b e2 j c=>h ρ2 H2 b (e.trans e2) j c
 |exc c=>exact λρ2 H2 C e2 j m=>h ρ2 H2 C (e.trans e2) j m
set_option tactic.hygienic true in
theorem Go.bind{m:DM α}{k:α->DM γ}{M:Mo}(g:Go mg E rel' Q ρ H (m>>=k) M)
  (f:∀ρ1 H1 M1 b a,Ext ρ H ρ1 H1->J mg ρ1 M1 H1->rel ρ1 H1 b a->Go mg E rel' Q ρ1 H1 (k a) M1->Q' b H1):Go mg E rel Q' ρ H m M:=by
 obtain⟨r,e,p⟩:=g;have e:DM.bind m k M=some r:=e;unfold DM.bind at e;split at e
 ·cases e
 ·rename_i c M' em;cases e;exact⟨_,em,p⟩
 ·rename_i a M' em;exact⟨_,em,λρ1 H1 b x j c=>f ρ1 H1 M' b a x j c ⟨r,e,p.mono x⟩⟩
theorem Go.rd{f:Mo->Option α}{M:Mo}(g:Go mg E rel Q' ρ H (rd f) M):∃a,f M=some a/\∀ρ' H' b,Ext ρ H ρ' H'->J mg ρ' M H'->rel ρ' H' b a->Q' b H':=by obtain⟨r,e,p⟩:=g;obtain⟨a,e1,rfl⟩:=Wk.mp e;exact⟨a,e1,p⟩
theorem Go.opt{o:Option α}{M:Mo}(g:Go mg E rel Q' ρ H (opt o) M):∃a,o=some a/\∀ρ' H' b,Ext ρ H ρ' H'->J mg ρ' M H'->rel ρ' H' b a->Q' b H':=by obtain⟨r,e,p⟩:=g;obtain⟨a,e1,rfl⟩:=Wk.mp e;exact⟨a,e1,p⟩
theorem Go.pure{a:α}{M:Mo}(g:Go mg E rel Q' ρ H (pure a) M):∀ρ' H' b,Ext ρ H ρ' H'->J mg ρ' M H'->rel ρ' H' b a->Q' b H':=by obtain⟨r,e,p⟩:=g;have e:some (R.ok a,M)=some r:=e;cases e;exact p
end
structure Ev(mg:A4)(ρ:Rh)(H:Hp)(σ:St)(δ:aj):Prop where
 len:σ.length=δ.length
 val:∀(i:Nat) d,δ[i]?=some (some d)->∃v,σ[i]?=some (some v)/\Cv mg ρ H v d
theorem Ev.mono{mg:A4}{ρ ρ':Rh}{H H':Hp}{σ:St}{δ:aj}(e:Ext ρ H ρ' H')(h:Ev mg ρ H σ δ):Ev mg ρ' H' σ δ:=
 ⟨h.len,λi d q=>let ⟨v,a,b⟩:=h.val i d q;⟨v,a,b.mono e⟩⟩
theorem Ev.kp{mg:A4}{ρ ρ':Rh}{H H':Hp}{σ:St}{δ:aj}(e:Kp ρ H ρ' H')(h:Ev mg ρ H σ δ):Ev mg ρ' H' σ δ:=
 ⟨h.len,λi d q=>let ⟨v,a,b⟩:=h.val i d q;⟨v,a,b.kp e⟩⟩
theorem Ev.set{mg:A4}{ρ:Rh}{H:Hp}{σ:St}{δ:aj}{i:Nat}{v:V}{d:D}(h:Ev mg ρ H σ δ)(c:Cv mg ρ H v d):Ev mg ρ H (σ.set i (some v)) (δ.set i (some d)):=by
 refine⟨by rw[Ye,Ye,h.len],λj x q=>?_⟩
 by_cases e:j=i
 ·subst e;have hj:j<(δ.set j (some d)).length:=(Wj.mp q).1;rw[Ye]at hj;rw[W8 hj]at q;cases q;exact⟨v,W8 (by rw[h.len];exact hj),c⟩
 ·rw[Xh (λz=>e z.symm)]at q ⊢
  exact h.val j x q
def tD(mg:A4)(E:XK){α β:Type}(rel:Rh->Hp->β->α->Prop)(f:aj->DM α):St->Hp->(β->Hp->Prop)->Prop:=λσ H Q=>
 ∃ρ δ M,Ev mg ρ H σ δ/\J mg ρ M H/\Go mg E rel Q ρ H (f δ) M
def Bv(_:Rh)(_:Hp)(b a:Bool):Prop:=b=a
structure DE(X:Cx)(E:XK)(e:Expr)(f:aj->DM D):Prop where
 h:PE X e (tD X.mg E (Cv X.mg) f)
structure DA(X:Cx)(E:XK)(es:B8)(f:aj->DM (List D)):Prop where
 h:QA X es (tD X.mg E (Cvs X.mg) f)
structure DT(X:Cx)(E:XK)(e:Expr)(f:aj->DM Bool):Prop where
 h:PT X e (tD X.mg E Bv f)
def PE.mono{X:Cx}{e:Expr}{t t':TE}(h:PE X e t)(f:∀σ H Q,t' σ H Q->t σ H Q):PE X e t':=λaaW s σ H Q I q=>h aaW s σ H Q I (f σ H Q q)
def PT.mono{X:Cx}{e:Expr}{t t':TT}(h:PT X e t)(f:∀σ H Q,t' σ H Q->t σ H Q):PT X e t':=λaaW s σ H Q I q=>h aaW s σ H Q I (f σ H Q q)
def PA.mono{X:Cx}{e:B8}{t t':TA}(h:PA X e t)(f:∀σ H Q,t' σ H Q->t σ H Q):PA X e t':=λp aaW s σ H Q I q=>h p aaW s σ H Q I (f σ H Q q)
mutual
def toPy:D->Option PyData
 |.non=>some .none
 |.bl b=>some (.bool b)
 |.int i=>some (.int i)
 |.str x=>some (.str x)
 |.tup l=>(dW l).map .tuple
 |.lst l=>(dW l).map .list
 |_=>none
def dW:List D->Option (List PyData)
 |[]=>some []
 |d::l=>match toPy d,dW l with
   |some p,some ps=>some (p::ps)
   |_,_=>none
end
mutual
def lC:D->Option PyData
 |.non=>some .none
 |.bl b=>some (.bool b)
 |.int i=>some (.int i)
 |.str x=>some (.str x)
 |.tup l=>(iY l).map .tuple
 |.lst l=>(iY l).map .list
 |.dic [] []=>some (.dict [])
 |.dic [.inl i] [.int j]=>some (.dict [(.int i,.int j)])
 |_=>none
def iY:List D->Option (List PyData)
 |[]=>some []
 |d::l=>match lC d,iY l with
   |some p,some ps=>some (p::ps)
   |_,_=>none
end
section
variable{mg:A4}{ρ:Rh}{H:Hp}
def nO{α:Type}{p:α}{P:Prop}(e:none=some p):P:=nomatch e
def Jb{ks:List Key}{ds:List D}{p:PyData}(e:lC (.dic ks ds)=some p):(ks=[]/\ds=[]/\.dict []=p)\/∃i j,ks=[.inl i]/\ds=[.int j]/\.dict [(.int i,.int j)]=p:=by
 match ks,ds,e with
 |[],[],e=>exact .inl ⟨rfl,rfl,Ws e⟩
 |[.inl i],[.int j],e=>exact .inr ⟨i,j,rfl,rfl,Ws e⟩
def Cvs.repF{vs:List V}{ds:List D}{ps:List PyData}(h:Cvs mg ρ H vs ds):dW ds=some ps->RepsF H true vs ps:=
 Cvs.rec (motive_1:=λv d z=>∀ p,toPy d=some p->RepF H true v p) (motive_2:=λvs ds z=>∀ ps,dW ds=some ps->RepsF H true vs ps)
  (λz e=>Ws e ▸ .non) (λb z e=>Ws e ▸ .bl b) (λb z e=>Ws e ▸ .int b) (λb z e=>Ws e ▸ .str b)
  (λz h z c z e=>by obtain⟨ps,e1,e2⟩:=Wk.mp e;exact e2 ▸ .tup h (c _ e1)) (λz h z c z e=>by obtain⟨ps,e1,e2⟩:=Wk.mp e;exact e2 ▸ .lst h (c _ e1))
  (λz z z z z z e=>nO e) (λz z z z z z z e=>nO e) (λz z z e=>nO e) (λz z e=>nO e) (λz z e=>nO e) (λz z e=>nO e) (λz z e=>nO e)
  (λz e=>Ws e ▸ .nil) (λ{_ d _ l} _ _ i j _ e=>by
    revert e;show (match toPy d,dW l with | some p,some ps=>some (p::ps) | _,_=>none)=_->_
    cases h1:toPy d with
    |none=>exact λe=>nO e
    |some p=>cases h2:dW l with
      |none=>exact λe=>nO e
      |some q=>exact λe=>Ws e ▸ .cons (i _ h1) (j _ h2)) h ps
theorem Cv.repF{v:V}{d:D}{p:PyData}(h:Cv mg ρ H v d)(e:toPy d=some p):RepF H true v p:=by
 have z:dW [d]=some [p]:=by
  show (match toPy d,some [] with | some p,some ps=>some (p::ps) | _,_=>none)=_
  rw[e]
 cases Cvs.repF (.cons h .nil) z;assumption
def Cvs.repD{vs:List V}{ds:List D}{ps:List PyData}(h:Cvs mg ρ H vs ds):iY ds=some ps->RepsF H false vs ps:=
 Cvs.rec (motive_1:=λv d y=>∀ p,lC d=some p->RepF H false v p) (motive_2:=λvs ds y=>∀ ps,iY ds=some ps->RepsF H false vs ps)
  (λy e=>Ws e ▸ .non) (λb y e=>Ws e ▸ .bl b) (λb y e=>Ws e ▸ .int b) (λb y e=>Ws e ▸ .str b)
  (λy h y c y e=>by obtain⟨ps,e1,e2⟩:=Wk.mp e;exact e2 ▸ .tup h (c _ e1)) (λy h y c y e=>by obtain⟨ps,e1,e2⟩:=Wk.mp e;exact e2 ▸ .lst h (c _ e1))
  (λy h y c y y e=>by
    rcases Jb e with ⟨rfl,rfl,z⟩ | ⟨i,j,rfl,rfl,z⟩
    ·cases c;exact z ▸ .d0 h
    ·cases c with
     |cons c1 c2=>cases c2;cases c1;exact z ▸ .d1 h) (λy y y y y y y e=>nO e) (λy y y e=>nO e) (λy y e=>nO e) (λy y e=>nO e) (λy y e=>nO e) (λy y e=>nO e)
  (λy e=>Ws e ▸ .nil) (λ{_ d _ l} _ _ i j _ e=>by
    revert e;show (match lC d,iY l with | some p,some ps=>some (p::ps) | _,_=>none)=_->_
    cases h1:lC d with
    |none=>exact λe=>nO e
    |some p=>cases h2:iY l with
      |none=>exact λe=>nO e
      |some q=>exact λe=>Ws e ▸ .cons (i _ h1) (j _ h2)) h ps
theorem Cv.repD{v:V}{d:D}{p:PyData}(h:Cv mg ρ H v d)(e:lC d=some p):RepF H false v p:=by
 have z:iY [d]=some [p]:=by
  show (match lC d,some [] with | some p,some ps=>some (p::ps) | _,_=>none)=_
  rw[e]
 cases Cvs.repD (.cons h .nil) z;assumption
end
section
variable{X:Cx}{E:XK}{a b c:Expr}{fa fb fc:aj->DM D}{pos:Pos}
def b8(i:Nat)(δ:aj):DM D:=opt ((δ[i]?).join)
def ak(i:Nat){x:Str}(hN:X.N[i]?=some x:=by rfl)(hv:Vis X.env.scope x:=by first | exact Or.inl rfl | exact Or.inr (Or.inl rfl) | exact Or.inr (Or.inr rfl))(hd:(x==("__debug__":Str))=false:=by decide)
  (ba:(x==("__classdict__":Str))=false:=by decide):DE X E (.Name x pos) (b8 i):=⟨PE.mono (pe_var (i:=i) hN hv hd ba) λσ H Q h=>by
 obtain⟨ρ,δ,M,ev,j,g⟩:=h;obtain⟨d,e,q⟩:=g.opt;have e':δ[i]?=some (some d):=by
  cases z:δ[i]? with
  |none=>rw[z]at e;cases e
  |some o=>rw[z]at e;exact congrArg some e
 obtain⟨v,h1,h2⟩:=ev.val i d e';exact⟨v,h1,q ρ H v .refl j h2⟩⟩
def gb{e:Expr}{v:V}{d:D}(h:PE X e (tC v))(hc:∀ρ H,Cv X.mg ρ H v d):DE X E e (λz=>pure d):=⟨PE.mono h λσ H Q h=>by obtain⟨ρ,δ,M,ev,j,g⟩:=h;exact g.pure ρ H v .refl j (hc _ _)⟩
def az{i j}:DE X E (.Constant (.int i) j pos) (λz=>pure (.int i)):=gb pe_int λz z=>.int i
def fX{i j}:DE X E (.Constant (.bool i) j pos) (λz=>pure (.bl i)):=gb pe_bl λz z=>.bl i
def Qz{j}:DE X E (.Constant .none j pos) (λz=>pure .non):=gb pe_non λz z=>.non
def bz{x j}:DE X E (.Constant (.str x) j pos) (λz=>pure (.str x)):=gb pe_str λz z=>.str x
def SQ{x:Str}{i:Int}{t:Tok}(h:X.mg x=some (.int i t))(hg:Gl X x:=by rfl)(hd:(x==("__debug__":Str))=false:=by decide):DE X E (.Name x pos) (λz=>pure (.int i)):=gb (Tg h hg hd) λz z=>.int i
def Qy{x:Str}{C:Addr}(h:X.mg x=some (.ref C))(hg:Gl X x:=by rfl)(hd:(x==("__debug__":Str))=false:=by decide):DE X E (.Name x pos) (λz=>pure (.cls x)):=gb (Rr h hg hd) λz z=>.cls h
def gG{x:Str}{T:String}(hm:X.mg x=none)(hg:Gl X x:=by rfl)(hv:bootBuiltins x=some (.type T):=by decide +kernel)(hn:x≠"__name__":=by decide)(ai:(x==("__debug__":Str))=false:=by decide):DE X E (.Name x pos) (λz=>pure (.ty T)):=
 gb (Ti hm hg hv hn ai) λz z=>.ty T
def rD(mg:A4)(E:XK)(g:D->D->DM D):R2:=λx y H Q=>∃ρ M dx dy,J mg ρ M H/\Cv mg ρ H x dx/\Cv mg ρ H y dy/\Go mg E (Cv mg) Q ρ H (g dx dy) M
def bZ(X:Cx)(E:XK)(f:Value->Value->Sem Value)(g:D->D->DM D):Prop:=OpR X f (rD X.mg E g)
def BJ{g:D->D->DM D}{r:R2}(hr:∀x y H Q,rD X.mg E g x y H Q->r x y H Q){σ:L2.St}{H:Hp}{Q:VK}(h:tD X.mg E (Cv X.mg) (λδ=>fa δ>>=λx=>fb δ>>=λy=>g x y) σ H Q):
  tOp r (tD X.mg E (Cv X.mg) fa) (tD X.mg E (Cv X.mg) fb) σ H Q:=by
 walk_at "b";exact⟨ρ,δ,M,ev,j,g1.bind λρ1 H1 M1 x dx e1 j1 c1 g2=>⟨ρ1,δ,M1,ev.mono e1,j1,g2.bind λρ2 H2 M2 y dy e2 j2 c2 g3=>hr _ _ _ _ ⟨ρ2,M2,dx,dy,j2,c1.mono e2,c2,g3⟩⟩⟩
def aK{op:Operator}{g:D->D->DM D}(ho:bZ X E (binaryOp op) g)(ha:DE X E a fa)(hb:DE X E b fb):DE X E (.BinOp a op b pos) (λδ=>fa δ>>=λx=>fb δ>>=λy=>g x y):=
 ⟨PE.mono (pe_op ho ha.h hb.h) λσ H Q h=>BJ (λw w w w z=>z) h⟩
def jG{op:CmpOp}{g:D->D->DM D}(ho:bZ X E (compareOp op) g)(ha:DE X E a fa)(hb:DE X E b fb)(hm:behindInMarks op b=false:=by first | exact nomark _ | rfl):DE X E (.Compare a [op] [b] pos) (λδ=>fa δ>>=λx=>fb δ>>=λy=>g x y):=
 ⟨PE.mono (pe_cmpR ho ha.h hb.h hm) λσ H Q h=>BJ (λw w w w z=>z) h⟩
def gF:D->DM Bool
 |.bl b=>pure b
 |_=>stuck
theorem Go.gF{mg:A4}{ρ:Rh}{H:Hp}{d:D}{M:Mo}{Q:Bool->Hp->Prop}(g:Go mg E Bv Q ρ H (gF d) M):∃k,d=.bl k/\∀ρ' H',Ext ρ H ρ' H'->J mg ρ' M H'->Q k H':=by
 cases d with
 |bl k=>exact⟨k,rfl,λρ' H' e j=>(show Go mg E Bv Q ρ H (Pure.pure k) M from g).pure ρ' H' k e j rfl⟩
 |_=>obtain⟨r,e,_⟩:=g;cases e
def dt_of{e:Expr}{f:aj->DM D}{t:TE}(h:PT X e (tTest t))(ht:∀σ H Q,tD X.mg E (Cv X.mg) f σ H Q->t σ H Q):DT X E e (λδ=>f δ>>=gF):=⟨PT.mono h λσ H Q h=>by
 walk_at "b";refine ht _ _ _ ⟨ρ,δ,M,ev,j,g1.bind λρ1 H1 M1 x dx e1 j1 c1 g2=>?_⟩
 obtain⟨k,rfl,q⟩:=Go.gF g2;cases c1;exact⟨k,rfl,q ρ1 H1 .refl j1⟩⟩
def bh{op:CmpOp}{g:D->D->DM D}(ho:bZ X E (compareOp op) g)(ha:DE X E a fa)(hb:DE X E b fb)(hm:behindInMarks op b=false:=by first | exact nomark _ | rfl):DT X E (.Compare a [op] [b] pos) (λδ=>(fa δ>>=λx=>fb δ>>=λy=>g x y)>>=gF):=
 dt_of (pt_cmpR ho ha.h hb.h hm) λσ H Q h=>BJ (λw w w w z=>z) h
def Uj{g g':D->D->DM D}{σ:L2.St}{H:Hp}{Q:VK}(h:tD X.mg E (Cv X.mg) (λδ=>fa δ >>= λx=>fb δ >>= λy=>g x y >>= λz=>gF z >>= λk=>if k then fc δ >>= λw=>g' y w else pure (.bl false)) σ H Q):
  tChain (rD X.mg E g) (rD X.mg E g') (tD X.mg E (Cv X.mg) fa) (tD X.mg E (Cv X.mg) fb) (tD X.mg E (Cv X.mg) fc) σ H Q:=by
 walk_at "b";refine⟨ρ,δ,M,ev,j,g1.bind λρ1 H1 M1 x dx e1 j1 c1 g2=>⟨ρ1,δ,M1,ev.mono e1,j1,g2.bind λρ2 H2 M2 y dy e2 j2 c2 g3=>⟨ρ2,M2,dx,dy,j2,c1.mono e2,c2,g3.bind λρ3 H3 M3 z dz e3 j3 c3 g4=>?_⟩⟩⟩
 have g5:=g4.bind (rel:=Bv) (Q':=λk H4=>dz=.bl k/\∃ρ4 M4,Ext ρ3 H3 ρ4 H4/\J X.mg ρ4 M4 H4/\Go X.mg E (Cv X.mg) Q ρ4 H4 (if k then fc δ>>=λw=>g' dy w else pure (.bl false)) M4)
 have key:∃k,dz=.bl k/\Go X.mg E (Cv X.mg) Q ρ3 H3 (if k then fc δ>>=λw=>g' dy w else pure (.bl false)) M3:=by
  cases dz with
  |bl k=>exact⟨k,rfl,g4⟩
  |_=>obtain⟨r,e,_⟩:=g4;cases e
 obtain⟨k,rfl,g6⟩:=key;cases c3;refine⟨k,rfl,?_⟩;cases k with
 |false=>exact iteF (g6.pure ρ3 H3 _ .refl j3 (.bl false))
 |true=>
   have g6:Go X.mg E (Cv X.mg) Q ρ3 H3 (fc δ>>=λw=>g' dy w) M3:=g6
   exact iteT ⟨ρ3,δ,M3,((ev.mono e1).mono e2).mono e3,j3,g6.bind λρ4 H4 M4 w dw e4 j4 c4 g7=>⟨ρ4,M4,dy,dw,j4,(c2.mono e3).mono e4,c4,g7⟩⟩
def JH{op i5:CmpOp}{g g':D->D->DM D}(ho:bZ X E (compareOp op) g)(dc:bZ X E (compareOp i5) g')(ha:DE X E a fa)(hb:DE X E b fb)(hc:DE X E c fc)(hm:lastMarks [op,i5] [b,c]=false:=by with_unfolding_all rfl):
  DE X E (.Compare a [op,i5] [b,c] pos) (λδ=>fa δ>>=λx=>fb δ>>=λy=>g x y>>=λz=>gF z>>=λk=>if k then fc δ>>=λw=>g' y w else pure (.bl false)):=
 ⟨PE.mono (pe_chain ho dc ha.h hb.h hc.h hm) λσ H Q h=>Uj h⟩
def JT{op i5:CmpOp}{g g':D->D->DM D}(ho:bZ X E (compareOp op) g)(dc:bZ X E (compareOp i5) g')(ha:DE X E a fa)(hb:DE X E b fb)(hc:DE X E c fc)(hm:lastMarks [op,i5] [b,c]=false:=by with_unfolding_all rfl):
  DT X E (.Compare a [op,i5] [b,c] pos) (λδ=>(fa δ>>=λx=>fb δ>>=λy=>g x y>>=λz=>gF z>>=λk=>if k then fc δ>>=λw=>g' y w else pure (.bl false))>>=gF):=
 dt_of (pt_chain ho dc ha.h hb.h hc.h hm) λσ H Q h=>Uj h
noncomputable def jV:D->Mo->Option Bool
 |.non,_=>some false
 |.bl b,_=>some b
 |.int i,_=>some (i != 0)
 |.str y,_=>if y.length<=sizeLine then some ((y.length:Int) != 0) else none
 |.tup l,_=>some (!l.isEmpty)
 |.lst l,_=>some (!l.isEmpty)
 |.scr l,_=>some (!l.isEmpty)
 |.dic ks _,_=>some (!ks.isEmpty)
 |.ref n,M=>match M[n]? with
   |some (.lst l)=>some (!l.isEmpty)
   |some (.dic ks _)=>some (!ks.isEmpty)
   |_=>none
 |_,_=>none
def wY{α β:Type}{ks:List α}{xs:List β}(h:ks.length=xs.length):(ks.zip xs).isEmpty=ks.isEmpty:=by
 cases ks with
 |nil=>simp
 |cons k ks=>cases xs with
   |nil=>simp at h
   |cons x xs=>rfl
def Cvs.empty{mg:A4}{ρ:Rh}{H:Hp}{vs:List V}{ds:List D}(c:Cvs mg ρ H vs ds):vs.isEmpty=ds.isEmpty:=by cases c<;>rfl
set_option tactic.hygienic true in
def Sd{K:B0}{mg:A4}{ρ:Rh}{H:Hp}{M:Mo}{x:V}{d:D}{k:Bool}(j:J mg ρ M H)(h:Cv mg ρ H x d)(e:jV d M=some k):TruV K x H k:=by
 cases h with
 |non=>cases e;rfl
 |bl b=>cases e;rfl
 |int i=>cases e;rfl
 |str y=>
   unfold jV at e;dsimp only at e;split at e
   ·cases e;exact⟨‹_›,rfl⟩
   ·cases e
 |tup n h c=>cases e;exact .inr (.inl ⟨_,SqT.of h,by rw[c.empty]⟩)
 |lst n h c=>cases e;exact .inl ⟨_,SqL.of h,by rw[c.empty]⟩
 |scr n h=>cases e;exact .inl ⟨_,.inl h,by simp⟩
 |dic n h l c=>cases e;exact .inr (.inr ⟨_,h,by rw[wY l]⟩)
 | ref q=>
   rename_i n a;unfold jV at e;dsimp only at e;split at e
   ·rename_i l hl;cases e;obtain⟨xs,h,c⟩:=j.obj n a _ q hl;exact .inl ⟨_,SqL.of h,by rw[c.empty]⟩
   ·rename_i ks l hl;cases e;obtain⟨xs,h,z,c⟩:=j.obj n a _ q hl;exact .inr (.inr ⟨_,h,by rw[wY z]⟩)
   ·cases e
 |obj=>cases e
 |cls=>cases e
 |ty=>cases e
 |exn=>cases e
def b7(ha:DE X E a fa)(he:∀whole,isTrue a X.env whole=(do let v <-whole;standAt a.pos;holding [v] (truthy v))):DT X E a (λδ=>fa δ>>=λx=>rd (jV x)):=⟨PT.mono (pt_truth ha.h he) λσ H Q h=>by
 walk_at "a"
 obtain⟨k,e,q⟩:=g2.rd;exact⟨k,Sd j1 c1 e,q ρ1 H1 k .refl j1 rfl⟩⟩
variable{ta tb:aj->DM Bool}
def eN(ha:DT X E a ta):DT X E (.UnaryOp .Not a pos) (λδ=>ta δ>>=λk=>pure (!k)):=⟨PT.mono (pt_not ha.h) λσ H Q h=>by
 walk_at "a"
 have c1:x=dx:=c1;subst c1;exact g2.pure ρ1 H1 _ .refl j1 rfl⟩
structure DW(X:Cx)(E:XK)(e:Expr)(f:aj->DM Bool):Prop where
 h:PW X e (tD X.mg E Bv f)
def PW.mono{e:Expr}{t t':TT}(h:PW X e t)(f:∀σ H Q,t' σ H Q->t σ H Q):PW X e t':=λw aaW s σ H Q I q=>h w aaW s σ H Q I (f σ H Q q)
def DW.dt{e:Expr}(h:DW X E e ta):DT X E e ta:=⟨PW.pt h.h⟩
def Nu(ha:DT X E a ta):DW X E (.BoolOp .And [a] pos) ta:=⟨pw_and1 ha.h⟩
def mO(ha:DT X E a ta):DW X E (.BoolOp .Or [a] pos) ta:=⟨pw_or1 ha.h⟩
variable{rest:B8}
def QH(ha:DT X E a ta)(hb:DW X E (.BoolOp .And (b::rest) pos) tb):DW X E (.BoolOp .And (a::b::rest) pos) (λδ=>ta δ>>=λk=>if k then tb δ else pure false):=⟨PW.mono (pw_and ha.h hb.h) λσ H Q h=>by
 walk_at "a"
 have c1:x=dx:=c1;subst c1;cases x with
 |true=>exact iteT ⟨ρ1,δ,M1,ev.mono e1,j1,g2⟩
 |false=>exact iteF (Go.pure (a:=false) g2 ρ1 H1 _ .refl j1 rfl)⟩
def nR(ha:DT X E a ta)(hb:DW X E (.BoolOp .Or (b::rest) pos) tb):DW X E (.BoolOp .Or (a::b::rest) pos) (λδ=>ta δ>>=λk=>if k then pure true else tb δ):=⟨PW.mono (pw_or ha.h hb.h) λσ H Q h=>by
 walk_at "a"
 have c1:x=dx:=c1;subst c1;cases x with
 |false=>exact iteF ⟨ρ1,δ,M1,ev.mono e1,j1,g2⟩
 |true=>exact iteT (Go.pure (a:=true) g2 ρ1 H1 _ .refl j1 rfl)⟩
def uJ{op:BoolOp}(ha:DE X E a fa):DE X E (.BoolOp op [a] pos) fa:=⟨pe_one ha.h⟩
def Go.isB{mg:A4}{ρ:Rh}{H:Hp}{α β:Type}{rel:Rh->Hp->β->α->Prop}{Q:β->Hp->Prop}{d:D}{M:Mo}{f:Bool->DM α}(g:Go mg E rel Q ρ H (L3.gF d>>=f) M):∃k,d=.bl k/\Go mg E rel Q ρ H (f k) M:=by
 cases d with
 |bl k=>exact⟨k,rfl,g⟩
 |_=>obtain⟨r,e,_⟩:=g;cases e
def uH(ha:DE X E a fa)(hb:DE X E (.BoolOp .And (b::rest) pos) fb):DE X E (.BoolOp .And (a::b::rest) pos) (λδ=>fa δ>>=λx=>gF x>>=λk=>if k then fb δ else pure (.bl false)):=⟨PE.mono (pe_and ha.h hb.h) λσ H Q h=>by
 walk_at "a"
 obtain⟨k,rfl,g3⟩:=Go.isB g2;cases c1;refine⟨k,rfl,?_⟩;cases k with
 |true=>exact iteT ⟨ρ1,δ,M1,ev.mono e1,j1,g3⟩
 |false=>exact iteF (Go.pure (a:=D.bl false) g3 ρ1 H1 _ .refl j1 (.bl false))⟩
def QB(ha:DE X E a fa):DE X E (.UnaryOp .Not a pos) (λδ=>fa δ>>=λx=>gF x>>=λk=>pure (.bl (!k))):=⟨PE.mono (pe_not ha.h) λσ H Q h=>by
 walk_at "a"
 obtain⟨k,rfl,g3⟩:=Go.isB g2;cases c1;exact⟨k,rfl,g3.pure ρ1 H1 _ .refl j1 (.bl _)⟩⟩
def SX(hc:DT X E c ta)(ha:DE X E a fa)(hb:DE X E b fb):DE X E (.IfExp c a b pos) (λδ=>ta δ>>=λk=>if k then fa δ else fb δ):=⟨PE.mono (pe_ifExp hc.h ha.h hb.h) λσ H Q h=>by
 walk_at "a"
 have c1:x=dx:=c1;subst c1;cases x with
 |true=>exact iteT ⟨ρ1,δ,M1,ev.mono e1,j1,g2⟩
 |false=>exact iteF ⟨ρ1,δ,M1,ev.mono e1,j1,g2⟩⟩
def ao:DA X E [] (λz=>pure []):=⟨⟨PA.mono HF.h λσ H Q h=>by obtain⟨ρ,δ,M,ev,j,g⟩:=h;exact g.pure ρ H [] .refl j .nil⟩⟩
def aa{es:B8}{fs:aj->DM (List D)}(ha:DE X E a fa)(hr:DA X E es fs)(hs:notStar a=true:=by rfl):DA X E (a::es) (λδ=>fa δ>>=λx=>fs δ>>=λxs=>pure (x::xs)):=⟨⟨PA.mono (Rz ha.h hr.h hs).h λσ H Q h=>by obtain⟨ρ,δ,M,ev,j,g1⟩:=h;exact⟨ρ,δ,M,ev,j,g1.bind λρ1 H1 M1 x dx e1 j1 c1 g2=>⟨ρ1,δ,M1,ev.mono e1,j1,g2.bind λρ2 H2 M2 xs i8 e2 j2 c2 g3=>g3.pure ρ2 H2 _ .refl j2 (.cons (c1.mono e2) c2)⟩⟩⟩⟩
def eG{α:Type}(l:List α):Bool:=decide (l.length<=sizeLine)
def Hm(l:List D):DM D:=opt (if eG l then some (.tup l) else none)
def iQ(l:List D):DM D:=opt (if eG l then some (.lst l) else none)
def fM(l:List D):DM D:=λM=>if eG l then some (.ok (.ref M.length),M++[.lst l]) else none
def uY{l:List D}{d e:D}(h:(if eG l then some d else none)=some e):l.length<=sizeLine/\d=e:=by
 split at h
 ·cases h;exact⟨Xe ‹_›,rfl⟩
 ·cases h
variable{es:B8}{fs:aj->DM (List D)}
def cT{x1}(h:DA X E es fs):DE X E (.Tuple es x1 pos) (λδ=>fs δ>>=Hm):=⟨PE.mono (Oz h.h) λσ H Q h=>by
 walk_at "b";refine⟨ρ,δ,M,ev,j,g1.bind λρ1 H1 M1 xs i8 e1 j1 c1 g2=>?_⟩
 obtain⟨d,e,q⟩:=Go.opt g2;obtain⟨hz,rfl⟩:=uY e;exact⟨by rw[c1.len];exact hz,λp hp=>q ρ1 _ _ (.lay hp) (j1.lay _ hp) (.tup (j1.fresh hp) upd_same (c1.mono (.lay hp)))⟩⟩
def bJ(h:DA X E es fs):DE X E (.List es pos) (λδ=>fs δ>>=iQ):=⟨PE.mono (Cq h.h) λσ H Q h=>by
 walk_at "b";refine⟨ρ,δ,M,ev,j,g1.bind λρ1 H1 M1 xs i8 e1 j1 c1 g2=>?_⟩
 obtain⟨d,e,q⟩:=Go.opt g2;obtain⟨hz,rfl⟩:=uY e;exact⟨by rw[c1.len];exact hz,λp hp=>q ρ1 _ _ (.lay hp) (j1.lay _ hp) (.lst (j1.fresh hp) upd_same (c1.mono (.lay hp)))⟩⟩
theorem Go.fM{mg:A4}{ρ:Rh}{H:Hp}{M:Mo}{Q:VK}{l:List D}{xs:List V}{p:Addr}(g:Go mg E (Cv mg) Q ρ H (fM l) M)(j:J mg ρ M H)(c:Cvs mg ρ H xs l)(hp:H p=none):l.length<=sizeLine/\Q (.ref p) (upd H p (.lst xs)):=by
 obtain⟨r,e,q⟩:=g;unfold L3.fM at e;split at e
 ·cases e;refine⟨Xe ‹_›,?_⟩;have x:Ext ρ H (ρ.put p) (upd H p (.lst xs)):=.put hp;refine q _ _ _ x (j.put hp ⟨xs,upd_same,c.mono x⟩) (.ref ?_);show (ρ.st++[p])[_]?=_;rw[<-j.len];simp
 ·cases e
def Go.mkR_len{mg:A4}{ρ:Rh}{H:Hp}{M:Mo}{Q:VK}{l:List D}(g:Go mg E (Cv mg) Q ρ H (L3.fM l) M):l.length<=sizeLine:=by
 obtain⟨r,e,q⟩:=g;unfold L3.fM at e;split at e
 ·exact Xe ‹_›
 ·cases e
def jA(h:DA X E es fs):DE X E (.List es pos) (λδ=>fs δ>>=fM):=⟨PE.mono (Cq h.h) λσ H Q h=>by
 walk_at "b";refine⟨ρ,δ,M,ev,j,g1.bind λρ1 H1 M1 xs i8 e1 j1 c1 g2=>?_⟩
 exact⟨by rw[c1.len];exact g2.mkR_len,λp hp=>(g2.fM j1 c1 hp).2⟩⟩
end
section
variable{X:Cx}{E:XK}{mg:A4}{ρ:Rh}{H:Hp}{M:Mo}
def Go.rdb(g:Go mg E rel Q ρ H (L3.rd f>>=k) M):∃a,f M=some a/\Go mg E rel Q ρ H (k a) M:=by
 obtain⟨r,e,p⟩:=g;have e:DM.bind _ _ M=some r:=e;unfold DM.bind L3.rd at e;cases h:f M with
 |none=>rw[h]at e;cases e
 |some a=>rw[h]at e;exact⟨a,rfl,r,e,p⟩
def bZ.of{f:Value->Value->Sem Value}{g:D->D->Mo->Option D}(hr:OpR X f r)
  (h:∀x y H Q ρ M dx dy d,J X.mg ρ M H->Cv X.mg ρ H x dx->Cv X.mg ρ H y dy->g dx dy M=some d->(∀ρ' H' v,Ext ρ H ρ' H'->J X.mg ρ' M H'->Cv X.mg ρ' H' v d->Q v H')->r x y H Q):bZ X E f (λx y=>rd (g x y)):=by
 intro aaW s σ H x y v u Q I rx ry q;obtain⟨ρ,M,dx,dy,j,cx,cy,go⟩:=q;obtain⟨d,e,p⟩:=go.rd;exact hr aaW s σ H x y v u Q I rx ry (h x y H Q ρ M dx dy d j cx cy e p)
def aN:D->Mo->Option (List D)
 |.lst l,_=>some l
 |.ref n,M=>match M[n]? with
   |some (.lst l)=>some l
   |_=>none
 |_,_=>none
set_option tactic.hygienic true in
def cL(j:J mg ρ M H){l:List D}(c:Cv mg ρ H x d)(e:aN d M=some l):∃ a xs,x=.ref a/\H a=some (.lst xs)/\Cvs mg ρ H xs l:=by
 cases c with
 |lst n h c=>cases e;exact⟨_,_,rfl,h,c⟩
 | ref q=>
   unfold aN at e;dsimp only at e;split at e
   ·rename_i l' hl;cases e;obtain⟨xs,h,c⟩:=j.obj _ _ _ q hl;exact⟨_,_,rfl,h,c⟩
   ·cases e
 |_=>cases e
def J.notup(j:J mg ρ M H)(h:H p=Option.some (HO.tup xs)):p∉ρ:=λz=>by
 rcases z with z | z
 rotate_left
 ·obtain⟨_,ys,e⟩:=j.vol p z;rw[h]at e;cases e
 obtain⟨n,hn⟩:=Zz.mp z;have lt:n<M.length:=by rw[<-j.len];exact (Wj.mp hn).1
 have c:=j.obj n p M[n] hn (Wl lt);cases hm:M[n] with
 |lst l=>rw[hm]at c;obtain⟨xs,e,_⟩:=c;rw[h]at e;cases e
 |dic ks l=>rw[hm]at c;obtain⟨xs,e,_⟩:=c;rw[h]at e;cases e
 |ins c' ns l=>rw[hm]at c;obtain⟨_,_,_,_,e,_⟩:=c;rw[h]at e;cases e
def K8(l:List D):Option D:=if eG l then some (.tup l) else none
def Kf(l:List D):Option D:=if eG l then some (.lst l) else none
noncomputable def cX:D->D->Mo->Option D
 |.int i,.int j,_=>some (.int (i+j))
 |.str a,.str b,_=>if a.length+b.length<=sizeLine then some (.str (a++b)) else none
 |.tup l,.tup m,_=>K8 (l++m)
 |x,y,M=>match aN x M,aN y M with
   |some l,some m=>Kf (l++m)
   |_,_=>none
set_option tactic.hygienic true in
def Jm(h:cX x y M=some d):(∃ i j,x=.int i/\y=.int j/\d=.int (i + j))\/(∃ a b,x=.str a/\y=.str b/\a.length + b.length<=sizeLine/\d=.str (a++b))\/(∃ l m,x=.tup l/\y=.tup m/\l.length + m.length<=sizeLine/\d=.tup (l++m)) \/
  ∃l m,aN x M=some l/\aN y M=some m/\l.length+m.length<=sizeLine/\d=.lst (l++m):=by
 unfold cX at h;split at h
 ·cases h;exact .inl ⟨_,_,rfl,rfl,rfl⟩
 ·split at h
  ·cases h;exact .inr (.inl ⟨_,_,rfl,rfl,‹_›,rfl⟩)
  ·cases h
 ·obtain⟨hz,rfl⟩:=uY h;rw[W3]at hz;exact .inr (.inr (.inl ⟨_,_,rfl,rfl,hz,rfl⟩))
 ·split at h
  ·rename_i l m h1 h2;obtain⟨hz,rfl⟩:=uY h;rw[W3]at hz;exact .inr (.inr (.inr ⟨l,m,h1,h2,hz,rfl⟩))
  ·cases h
def bu:bZ X E (binaryOp .Add) (λx y=>rd (cX x y)):=by
 refine bZ.of (op_add.or (op_add_str.or (Om.or op_cat))) λx y H Q ρ M dx dy d j cx cy e q=>?_
 rcases Jm e with ⟨i,k,rfl,rfl,rfl⟩ | ⟨i,k,rfl,rfl,hz,rfl⟩ | ⟨l,m,rfl,rfl,hz,rfl⟩ | ⟨l,m,h1,h2,hz,rfl⟩
 ·cases cx;cases cy;exact .inl ⟨_,_,rfl,rfl,q ρ H _ .refl j (.int _)⟩
 ·cases cx;cases cy;exact .inr (.inl ⟨_,_,rfl,rfl,hz,q ρ H _ .refl j (.str _)⟩)
 ·cases cx with | tup n1 a1 c1=>cases cy with | tup n2 a2 c2=>
  refine .inr (.inr (.inl ⟨_,_,_,_,rfl,rfl,a1,a2,by rw[c1.len,c2.len];exact hz,λp H' S hp=>?_⟩))
  exact q ρ H' _ (.same S) (j.same S) (.tup ((j.same S).notup hp) hp ((c1.append c2).mono (.same S)))
 ·obtain⟨a1,x1,rfl,a2,c1⟩:=cL j cx h1;obtain⟨b1,y1,rfl,b2,c2⟩:=cL j cy h2;refine .inr (.inr (.inr ⟨_,_,_,_,rfl,rfl,a2,b2,by rw[c1.len,c2.len];exact hz,λp hp=>?_⟩))
  exact q ρ _ _ (.lay hp) (j.lay _ hp) (.lst (j.fresh hp) upd_same ((c1.append c2).mono (.lay hp)))
def cY(C:Int->Int->Bool)(g:Int->Int->D):D->D->Mo->Option D
 |.int i,.int j,_=>if C i j then some (g i j) else none
 |_,_,_=>none
def vM(h:cY C g x y M=some d):∃i j,x=.int i/\y=.int j/\C i j=true/\d=g i j:=by
 unfold cY at h;split at h
 ·split at h
  ·cases h;exact⟨_,_,rfl,rfl,‹_›,rfl⟩
  ·cases h
 ·cases h
def rE{f:Value->Value->Sem Value}{C:Int->Int->Bool}{g:Int->Int->Int}{P:Int->Int->Prop}(hr:OpR X f (rI P λi j=>.int (g i j)))(hc:∀i j,C i j=true->P i j):bZ X E f (λx y=>rd (cY C (λi j=>.int (g i j)) x y)):=
 bZ.of hr λx y H Q ρ M dx dy d j cx cy e q=>by obtain⟨i,k,rfl,rfl,hh,rfl⟩:=vM e;cases cx;cases cy;exact⟨_,_,rfl,rfl,hc _ _ hh,q ρ H _ .refl j (.int _)⟩
def zr{f:Value->Value->Sem Value}{g:Int->Int->Int}(hr:OpR X f (rI0 λi j=>.int (g i j))):bZ X E f (λx y=>rd (cY (λz z=>true) (λi j=>.int (g i j)) x y)):=
 bZ.of hr λx y H Q ρ M dx dy d j cx cy e q=>by obtain⟨i,k,rfl,rfl,hh,rfl⟩:=vM e;cases cx;cases cy;exact⟨_,_,rfl,rfl,q ρ H _ .refl j (.int _)⟩
def rB{f:Value->Value->Sem Value}{g:Int->Int->Bool}(hr:OpR X f (rI0 λi j=>.bl (g i j))):bZ X E f (λx y=>rd (cY (λz z=>true) (λi j=>.bl (g i j)) x y)):=
 bZ.of hr λx y H Q ρ M dx dy d j cx cy e q=>by obtain⟨i,k,rfl,rfl,hh,rfl⟩:=vM e;cases cx;cases cy;exact⟨_,_,rfl,rfl,q ρ H _ .refl j (.bl _)⟩
abbrev Ad:D->D->Mo->Option D:=cY (λ_ _=>true) λi j=>.int (i-j)
def vQ:bZ X E (binaryOp .Sub) (λx y=>rd (Ad x y)):=zr op_sub
def fY(i j:Int):Bool:=!(decide (Builtin.Int.intBits i > shortFactorBits)&&decide (Builtin.Int.intBits j > shortFactorBits)&&Builtin.Int.intTooBig (Builtin.Int.intBits i+Builtin.Int.intBits j))
def fY.ok(h:fY i j=true):IntMulOk i j:=λz=>by unfold fY at h;rw[z]at h;cases h
abbrev n6:D->D->Mo->Option D:=cY fY λi j=>.int (i*j)
def m5:bZ X E (binaryOp .Mult) (λx y=>rd (n6 x y)):=rE Oo λi j h=>fY.ok h
def qQ(i j:Int):Bool:=decide (0<j)&&!Builtin.divisionGoesByPylong i j
def Kv:OpR X (binaryOp .FloorDiv) (rI (λi j=>qQ i j=true) λi j=>.int (i / j)):=opI λi j z z z z z hc q=>by
 unfold qQ at hc;have h0:0<j:=by have:=(YC _ _).mp hc;exact Xe this.1
 have h1:Builtin.divisionGoesByPylong i j=false:=by have:=(YC _ _).mp hc;simpa using this.2
 have e:i.fdiv j=i / j:=Int.fdiv_eq_ediv_of_nonneg i (Int.le_of_lt h0);exact floordiv_int (Int.ne_of_gt h0) (by rw[e];exact q) (.inl h1)
abbrev uP:D->D->Mo->Option D:=cY qQ λi j=>.int (i / j)
def oh:bZ X E (binaryOp .FloorDiv) (λx y=>rd (uP x y)):=rE Kv λi j h=>h
abbrev je:D->D->Mo->Option D:=cY (λ_ j=>decide (0<j)) λi j=>.int (i%j)
def dG:bZ X E (binaryOp .Mod) (λx y=>rd (je x y)):=rE op_mod λi j h=>Xe h
def Ma(i j:Int):Bool:=decide (0<=j/\j<=1000000/\i.natAbs<2^64)
abbrev KQ:D->D->Mo->Option D:=cY Ma λi j=>.int (i^j.toNat)
def Ox:bZ X E (binaryOp .Pow) (λx y=>rd (KQ x y)):=rE op_pow λi j h=>Xe (p:=0<=j/\j<=1000000/\i.natAbs<2^64) h
abbrev Rc:D->D->Mo->Option D:=cY (λ_ _=>true) λi j=>.bl (decide (i<j))
abbrev BV:D->D->Mo->Option D:=cY (λ_ _=>true) λi j=>.bl (decide (i<=j))
abbrev mU:D->D->Mo->Option D:=cY (λ_ _=>true) λi j=>.bl (decide (j<i))
abbrev GK:D->D->Mo->Option D:=cY (λ_ _=>true) λi j=>.bl (decide (j<=i))
def zy:bZ X E (compareOp .Lt) (λx y=>rd (Rc x y)):=rB op_lt
def zx:bZ X E (compareOp .LtE) (λx y=>rd (BV x y)):=rB op_le
def qi:bZ X E (compareOp .Gt) (λx y=>rd (mU x y)):=rB op_gt
def zu:bZ X E (compareOp .GtE) (λx y=>rd (GK x y)):=rB op_ge
def eqP(x y:D):Option Bool:=match toPy x,toPy y with
 |some p,some q=>if p.canLay0&&q.canLay0&&decide (p.depth<=60) then some (PyData.eqv p q) else none
 |_,_=>none
def eqB:D->D->Option Bool
 |.str a,.str b=>some (decide (a=b))
 |x,y=>eqP x y
def dg(x y:D)(_:Mo):Option D:=(eqB x y).map .bl
def gQ(x y:D)(_:Mo):Option D:=(eqB x y).map λb=>.bl (!b)
set_option tactic.hygienic true in
def Gz(h:eqP x y=some b):∃ p q,toPy x=some p/\toPy y=some q/\p.canLay0=true/\q.canLay0=true/\p.depth<=60/\b=PyData.eqv p q:=by
 unfold eqP at h;split at h
 ·rename_i p q h1 h2;split at h
  ·rename_i hc;cases h;simp only[Bool.and_eq_true,decide_eq_true_eq]at hc;exact⟨p,q,h1,h2,hc.1.1,hc.1.2,hc.2,rfl⟩
  ·cases h
 ·cases h
def Gy(h:eqB x y=some b):(∃a c,x=.str a/\y=.str c/\b=decide (a=c))\/eqP x y=some b:=by
 unfold eqB at h;split at h
 ·cases h;exact .inl ⟨_,_,rfl,rfl,rfl⟩
 ·exact .inr h
def PB:decide (V.str a=V.str c)=decide (a=c):=by rw[WW];simp
def Cj(h1:OpR X f (λx y H Q=>scal x y=true/\Q (.bl (n ^^ decide (x=y))) H))(h2:OpR X f (KZ X.K n)):bZ X E f (λx y=>rd λz=>(eqB x y).map λb=>.bl (n ^^ b)):=by
 intro aaW s σ H x y v u Q I rx ry q;obtain⟨ρ,M,dx,dy,j,cx,cy,g⟩:=q;obtain⟨d,e,q⟩:=Go.rd g;obtain⟨b,hb,rfl⟩:=Wk.mp e;rcases Gy hb with ⟨a,c,rfl,rfl,rfl⟩ | hb
 ·cases cx;cases cy;refine h1 aaW s σ H _ _ v u Q I rx ry ⟨rfl,?_⟩;rw[PB];exact q ρ H _ .refl j (.bl _)
 ·obtain⟨p,p',k1,k2,h3,h4,h5,rfl⟩:=Gz hb;refine h2 aaW s σ H x y v u Q I rx ry ⟨p,p',(cx.repF k1).toRep,(cy.repF k2).toRep,h3,h4,h5,?_⟩;have:=q ρ H _ .refl j (.bl _);cases n
  ·simpa using this
  ·simpa using this
def cH(hu:X.A.units+64<cLine):bZ X E (compareOp .Eq) (λx y=>rd (dg x y)):=by
 have h:=Cj (X:=X) (E:=E) (n:=false) (f:=compareOp .Eq) (λaaW s σ H x y v u Q I rx ry q=>op_eq (X:=X) aaW s σ H x y v u Q I rx ry ⟨q.1,by simpa using q.2⟩) (Ro hu)
 have e:(λx y=>(rd (dg x y):DM D))=λx y=>rd λz=>(eqB x y).map λb=>.bl (false ^^ b):=by funext x y;show rd _=rd _;congr 1;funext M;simp only[dg,Bool.false_xor,Bool.true_xor]
 rw[e];exact h
def ir(hu:X.A.units+64<cLine):bZ X E (compareOp .NotEq) (λx y=>rd (gQ x y)):=by
 have h:=Cj (X:=X) (E:=E) (n:=true) (f:=compareOp .NotEq) (λaaW s σ H x y v u Q I rx ry q=>op_ne (X:=X) aaW s σ H x y v u Q I rx ry ⟨q.1,by simpa using q.2⟩) (Hw hu)
 have e:(λx y=>(rd (gQ x y):DM D))=λx y=>rd λz=>(eqB x y).map λb=>.bl (true ^^ b):=by funext x y;show rd _=rd _;congr 1;funext M;simp only[gQ,Bool.false_xor,Bool.true_xor]
 rw[e];exact h
theorem Cvs.rep(c:Cv mg ρ H v d):∀n,Cvs mg ρ H (List.replicate n v) (List.replicate n d)
 |0=>.nil
 |n+1=>.cons c (Cvs.rep c n)
def Eu(l:List D)(k:Int):Option (List D):=if decide (-(2^63)<=k/\k<2^63/\l.length*k.toNat<=sizeLine) then some (List.replicate k.toNat l).flatten else none
theorem Cvs.reps{vs:List V}{ds:List D}(c:Cvs mg ρ H vs ds):∀n,Cvs mg ρ H (List.replicate n vs).flatten (List.replicate n ds).flatten
 |0=>.nil
 |n+1=>by rw[Ys,Ys,Y5,Y5];exact c.append (Cvs.reps c n)
def qg(x y:D)(M:Mo):Option (List D):=match aN x M,y with
 |some l,.int k=>Eu l k
 |_,_=>none
set_option tactic.hygienic true in
def Ci{l:List D}(h:qg x y M=some l):∃ m k,aN x M=some m/\y=.int k/\(-(2 ^ 63)<=k/\k<2 ^ 63/\m.length * k.toNat<=sizeLine)/\l=(List.replicate k.toNat m).flatten:=by
 unfold qg at h;split at h
 ·rename_i m k h1;unfold Eu at h;split at h
  ·rename_i hk;cases h;exact⟨m,k,h1,rfl,Xe hk,rfl⟩
  ·cases h
 ·cases h
def Ck:bZ X E (binaryOp .Mult) (λx y=>rd (λM=>(qg x y M).map .lst)):=bZ.of op_rep λx y H Q ρ M dx dy d j cx cy e q=>by
 obtain⟨l,e1,rfl⟩:=Wk.mp e;obtain⟨m,k,h1,rfl,⟨h2,h3,h4⟩,rfl⟩:=Ci e1;obtain⟨a,xs,rfl,ha,c⟩:=cL j cx h1;cases cy;refine⟨_,_,_,rfl,rfl,ha,h2,h3,by rw[c.len];exact h4,λp hp=>?_⟩
 exact q ρ _ _ (.lay hp) (j.lay _ hp) (.lst (j.fresh hp) upd_same ((Cvs.reps c _).mono (.lay hp)))
def Rf(x y:D):DM D:=rd (qg x y)>>=fM
def Oq:bZ X E (binaryOp .Mult) Rf:=by intro aaW s σ H x y v u Q I rx ry q;obtain⟨ρ,M,dx,dy,j,cx,cy,go⟩:=q;obtain⟨l,e1,g⟩:=Go.rdb go;obtain⟨m,k,h1,rfl,⟨h2,h3,h4⟩,rfl⟩:=Ci e1;obtain⟨a,xs,rfl,ha,c⟩:=cL j cx h1;cases cy;exact op_rep (X:=X) aaW s σ H _ _ v u Q I rx ry ⟨_,_,_,rfl,rfl,ha,h2,h3,by rw[c.len];exact h4,λp hp=>(g.fM j (Cvs.reps c _) hp).2⟩
def Km:D->Mo->Option D
 |.int i,_=>some (.int (-i))
 |_,_=>none
def Gq(ha:DE X E a fa):DE X E (.UnaryOp .USub a pos) (λδ=>fa δ>>=λx=>rd (Km x)):=⟨PE.mono (pe_un un_neg ha.h) λσ H Q h=>by
 walk_at "a"
 obtain⟨d,e,q⟩:=g2.rd;unfold Km at e;split at e
 ·cases e;cases c1;exact⟨_,rfl,q ρ1 H1 _ .refl j1 (.int _)⟩
 ·cases e⟩
theorem Cvs.at(c:Cvs mg ρ H vs ds)(h:atI ds i=some d):∃v,atI vs i=some v/\Cv mg ρ H v d:=by
 unfold atI at h ⊢
 rw[c.len];obtain⟨n,hn,e⟩:=Wv.mp h;obtain⟨v,e2,cv⟩:=c.get e;exact⟨v,by rw[hn];exact e2,cv⟩
def dC:D->D->Mo->Option D
 |.tup l,.int i,_=>atI l i
 |.scr l,.int i,_=>(atI l i).map .int
 |x,.int i,M=>(aN x M).bind λl=>atI l i
 |_,_,_=>none
def Ui(X:Cx)(E:XK)(g:D->D->DM D):Prop:=IxR X (rD X.mg E g)
def bU:Ui X E (λx y=>rd (dC x y)):=by
 intro value slice aaW s σ H x y v u Q I rx ry q hs;obtain⟨ρ,M,dx,dy,j,cx,cy,go⟩:=q;obtain⟨d,e,p⟩:=go.rd;unfold dC at e;split at e
 ·cases cy;cases cx with | tup n a c=>
  obtain⟨w,e2,cw⟩:=c.at e;exact ix_tup (X:=X) value slice aaW s σ H _ _ v u Q I rx ry ⟨_,_,_,_,rfl,rfl,SqT.of a,e2,p ρ H _ .refl j cw⟩ hs
 ·rename_i l i;cases cy;cases cx with | scr n a=>
  obtain⟨z,e1,rfl⟩:=Wk.mp e;have e2:atI (l.map V.int) i=some (V.int z):=by
   unfold atI at e1 ⊢
   rw[Wm];obtain⟨n,hn,e⟩:=Wv.mp e1;rw[hn];show (List.map V.int _)[n]?=_;rw[WM,e];rfl
  exact ix_list (X:=X) value slice aaW s σ H _ _ v u Q I rx ry ⟨_,_,_,_,rfl,rfl,.inl a,e2,p ρ H _ .refl j (.int z)⟩ hs
 ·cases cy;obtain⟨l,h1,e1⟩:=Wv.mp e;obtain⟨a,xs,rfl,ha,c⟩:=cL j cx h1;obtain⟨w,e2,cw⟩:=c.at e1;exact ix_list (X:=X) value slice aaW s σ H _ _ v u Q I rx ry ⟨_,_,_,_,rfl,rfl,SqL.of ha,e2,p ρ H _ .refl j cw⟩ hs
 ·cases e
def bx(hi:Ui X E g)(ha:DE X E a fa)(hb:DE X E b fb)(hs:PlainIx b:=by exact λw w=>rfl):DE X E (.Subscript a b pos) (λδ=>fa δ>>=λx=>fb δ>>=λy=>g x y):=
 ⟨PE.mono (pe_ix hi ha.h hb.h hs) λσ H Q h=>BJ (λw w w w z=>z) h⟩
def Qk:D->DM (Option Int)
 |.int i=>pure (some i)
 |_=>stuck
def cutD(xs:List D)(lo hi:Option Int):List D:=(xs.drop (HT.sIx xs.length 0 lo)).take (HT.sIx xs.length xs.length hi-HT.sIx xs.length 0 lo)
def Cvs.cut(c:Cvs mg ρ H vs ds)(lo hi:Option Int):Cvs mg ρ H (cutV vs lo hi) (cutD ds lo hi):=by unfold cutV cutD;rw[c.len];exact (c.drop _).take _
structure DP(X:Cx)(E:XK)(e:Option Expr)(f:aj->DM (Option Int)):Prop where
 h:PO X e (tD X.mg E (λ_ _ (b a:Option Int)=>b=a) f)
def PO.mono(h:PO X e t)(f:∀σ H Q,t' σ H Q->t σ H Q):PO X e t':=λaaW s σ H Q I q=>h aaW s σ H Q I (f σ H Q q)
def Bt(ha:DE X E a fa):DP X E (some a) (λδ=>fa δ>>=Qk):=⟨PO.mono (po_some ha.h) λσ H Q h=>by
 walk_at "a"
 cases dx with
 |int i=>cases c1;exact⟨i,rfl,Go.pure (a:=some i) g2 ρ1 H1 _ .refl j1 rfl⟩
 |_=>obtain⟨r,e,_⟩:=g2;cases e⟩
end
inductive Fl where
 |nx (δ:aj) | rt (d:D) | bk (δ:aj) | ct (δ:aj)
def qM(mg:A4)(ρ:Rh)(H:Hp)(D:Ends)(E:XK):R Fl×Mo->Prop
 |(.ok (.nx δ'),M')=>∀ρ' H' σ',Ext ρ H ρ' H'->J mg ρ' M' H'->Ev mg ρ' H' σ' δ'->D.nx σ' H'
 |(.ok (.bk δ'),M')=>∀ρ' H' σ',Ext ρ H ρ' H'->J mg ρ' M' H'->Ev mg ρ' H' σ' δ'->D.bk σ' H'
 |(.ok (.ct δ'),M')=>∀ρ' H' σ',Ext ρ H ρ' H'->J mg ρ' M' H'->Ev mg ρ' H' σ' δ'->D.ct σ' H'
 |(.ok (.rt d),M')=>∀ρ' H' v,Ext ρ H ρ' H'->J mg ρ' M' H'->Cv mg ρ' H' v d->D.rt v H'
 |(.exc c,M')=>∀ρ' H' C,Ext ρ H ρ' H'->J mg ρ' M' H'->mg c=some (.ref C)->E (.ref C) none H'
def bw(mg:A4)(E:XK)(D:Ends)(ρ:Rh)(H:Hp)(m:DM Fl)(M:Mo):Prop:=∃r,m M=some r/\qM mg ρ H D E r
section
variable{mg:A4}{ρ ρ':Rh}{H H':Hp}{E:XK}{α β:Type}{rel:Rh->Hp->β->α->Prop}{D D':Ends}{Q':β->Hp->Prop}{M:Mo}
def qM.mono(e:Ext ρ H ρ' H')(h:qM mg ρ H D E r):qM mg ρ' H' D E r:=by
 obtain⟨r,M'⟩:=r;cases r with
 |ok a=>cases a<;>exact λρ2 H2 b e2 j c=>h ρ2 H2 b (e.trans e2) j c
 |exc c=>exact λρ2 H2 C e2 j m=>h ρ2 H2 C (e.trans e2) j m
set_option tactic.hygienic true in
theorem bw.bind(g:bw mg E D ρ H (m>>=k) M)
  (f:∀ρ1 H1 M1 b a,Ext ρ H ρ1 H1->J mg ρ1 M1 H1->rel ρ1 H1 b a->bw mg E D ρ1 H1 (k a) M1->Q' b H1):Go mg E rel Q' ρ H m M:=by
 obtain⟨r,e,p⟩:=g;have e:DM.bind m k M=some r:=e;unfold DM.bind at e;split at e
 ·cases e
 ·rename_i c M' em;cases e;exact⟨_,em,p⟩
 ·rename_i a M' em;exact⟨_,em,λρ1 H1 b x j c=>f ρ1 H1 M' b a x j c ⟨r,e,p.mono x⟩⟩
theorem bw.pure(g:bw mg E D ρ H (pure a) M):qM mg ρ H D E (.ok a,M):=by obtain⟨r,e,p⟩:=g;have e:some (R.ok a,M)=some r:=e;cases e;exact p
def qG(f g:aj->DM Fl):aj->DM Fl:=λδ=>f δ>>=λr=>match r with
 |.nx δ'=>g δ'
 |r=>Pure.pure r
set_option tactic.hygienic true in
def bw.seq(g:bw mg E D ρ H (f>>=k) M)
  (hn:∀δ' ρ1 H1 M1 σ1,Ext ρ H ρ1 H1->J mg ρ1 M1 H1->Ev mg ρ1 H1 σ1 δ'->bw mg E D ρ1 H1 (k (.nx δ')) M1->D'.nx σ1 H1)
  (hb:∀δ' ρ1 H1 M1 σ1,Ext ρ H ρ1 H1->J mg ρ1 M1 H1->Ev mg ρ1 H1 σ1 δ'->bw mg E D ρ1 H1 (k (.bk δ')) M1->D'.bk σ1 H1)
  (hc:∀δ' ρ1 H1 M1 σ1,Ext ρ H ρ1 H1->J mg ρ1 M1 H1->Ev mg ρ1 H1 σ1 δ'->bw mg E D ρ1 H1 (k (.ct δ')) M1->D'.ct σ1 H1)
  (hr:∀d ρ1 H1 M1 v,Ext ρ H ρ1 H1->J mg ρ1 M1 H1->Cv mg ρ1 H1 v d->bw mg E D ρ1 H1 (k (.rt d)) M1->D'.rt v H1):bw mg E D' ρ H f M:=by
 obtain⟨r,e,p⟩:=g;have e:DM.bind f k M=some r:=e;unfold DM.bind at e;split at e
 ·cases e
 ·rename_i c M' em;cases e;exact⟨_,em,p⟩
 ·rename_i a M' em;refine⟨_,em,?_⟩;cases a with
  |nx δ'=>exact λρ1 H1 b x j c=>hn δ' ρ1 H1 M' b x j c ⟨r,e,p.mono x⟩
  |bk δ'=>exact λρ1 H1 b x j c=>hb δ' ρ1 H1 M' b x j c ⟨r,e,p.mono x⟩
  |ct δ'=>exact λρ1 H1 b x j c=>hc δ' ρ1 H1 M' b x j c ⟨r,e,p.mono x⟩
  |rt d=>exact λρ1 H1 b x j c=>hr d ρ1 H1 M' b x j c ⟨r,e,p.mono x⟩
end
def tS(mg:A4)(E:XK)(f:aj->DM Fl):TS:=λD σ H=>∃ρ δ M,Ev mg ρ H σ δ/\J mg ρ M H/\bw mg E D ρ H (f δ) M
structure DS(X:Cx)(E:XK)(st:Stmt)(f:aj->DM Fl):Prop where
 h:PS X st (tS X.mg E f)
structure DSs(X:Cx)(E:XK)(st:List Stmt)(f:aj->DM Fl):Prop where
 h:PSs X st (tS X.mg E f)
def PS.mono(h:PS X e t)(f:∀D σ H,t' D σ H->t D σ H):PS X e t':=λaaW s σ H D I q=>h aaW s σ H D I (f D σ H q)
def PSs.mono(h:PSs X e t)(f:∀D σ H,t' D σ H->t D σ H):PSs X e t':=λaaW s σ H D I q=>h aaW s σ H D I (f D σ H q)
section
variable{X:Cx}{E:XK}{st:Stmt}{rest:List Stmt}{f g:aj->DM Fl}{e:Expr}{fe:aj->DM D}{pos:Pos}
def bA:DSs X E [] (λδ=>pure (.nx δ)):=⟨PSs.mono pss_nil λD σ H h=>by obtain⟨ρ,δ,M,ev,j,g⟩:=h;exact g.pure ρ H σ .refl j ev⟩
def aA(h:DS X E st f):DSs X E [st] f:=⟨pss_one h.h⟩
def au(h1:DS X E st f)(h2:DSs X E rest g):DSs X E (st::rest) (qG f g):=⟨PSs.mono (pss_cons h1.h h2.h) λD σ H h=>by
 walk_at "b";refine⟨ρ,δ,M,ev,j,g1.seq (λδ' ρ1 H1 M1 σ1 e1 j1 qh g2=>⟨ρ1,δ',M1,qh,j1,g2⟩) (λδ' ρ1 H1 M1 σ1 e1 j1 qh g2=>?_) (λδ' ρ1 H1 M1 σ1 e1 j1 qh g2=>?_) (λd ρ1 H1 M1 v e1 j1 c1 g2=>?_)⟩
 ·exact bw.pure g2 ρ1 H1 σ1 .refl j1 qh
 ·exact bw.pure g2 ρ1 H1 σ1 .refl j1 qh
 ·exact bw.pure g2 ρ1 H1 v .refl j1 c1⟩
def aL(he:DE X E e fe):DS X E (.Return (some e) pos) (λδ=>fe δ>>=λd=>pure (.rt d)):=⟨PS.mono (L2.ps_ret he.h) λD σ H h=>by obtain⟨ρ,δ,M,ev,j,g1⟩:=h;exact⟨ρ,δ,M,ev,j,g1.bind λρ1 H1 M1 v d e1 j1 c1 g2=>g2.pure ρ1 H1 v .refl j1 c1⟩⟩
def jB(he:DE X E e fe)(hs:swapsWith e none pos.line X.env=pure false:=by rfl):DS X E (.Expr e pos) (λδ=>fe δ>>=λz=>pure (.nx δ)):=⟨PS.mono (ps_expr he.h hs) λD σ H h=>by obtain⟨ρ,δ,M,ev,j,g1⟩:=h;exact⟨ρ,δ,M,ev,j,g1.bind λρ1 H1 M1 v d e1 j1 c1 g2=>g2.pure ρ1 H1 σ .refl j1 (ev.mono e1)⟩⟩
def aH(hN:X.N.Nodup)(hi:X.N[i]?=some x)(hx:Loc X.env.scope x)(he:DE X E e fe)(hs:swapsWith e (some (.Name x pos')) pos.line X.env=pure false:=by rfl)(hf:X.fn x=true\/X.env.scope.names.lookup x=some .local:=by first | exact .inl rfl | exact .inr rfl | assumption):
  DS X E (.Assign [.Name x pos'] e pos) (λδ=>fe δ>>=λd=>pure (.nx (δ.set i (some d)))):=⟨PS.mono (ps_set hN hi hx he.h hs hf) λD σ H h=>by
 walk_at "b";exact⟨ρ,δ,M,ev,j,g1.bind λρ1 H1 M1 v d e1 j1 c1 g2=>g2.pure ρ1 H1 _ .refl j1 ((ev.mono e1).set c1)⟩⟩
def cu(hc:DT X E c tc)(ha:DSs X E a f)(hb:DSs X E b g):DS X E (.If c a b pos) (λδ=>tc δ>>=λk=>if k then f δ else g δ):=⟨PS.mono (L2.ps_if hc.h ha.h hb.h) λD σ H h=>by
 walk_at "a"
 have c1:x=dx:=c1;subst c1;cases x with
 |true=>exact iteT ⟨ρ1,δ,M1,ev.mono e1,j1,g2⟩
 |false=>exact iteF ⟨ρ1,δ,M1,ev.mono e1,j1,g2⟩⟩
def tG(mg:A4)(E:XK)(fg:D->aj->DM aj):TG:=λv σ H Q=>∃ρ δ M d,Ev mg ρ H σ δ/\J mg ρ M H/\Cv mg ρ H v d/\Go mg E (Ev mg) Q ρ H (fg d δ) M
def V1(mg:A4)(E:XK)(fg:List D->aj->DM aj):TGs:=λvs σ H Q=>∃ρ δ M ds,Ev mg ρ H σ δ/\J mg ρ M H/\Cvs mg ρ H vs ds/\Go mg E (Ev mg) Q ρ H (fg ds δ) M
structure DG(X:Cx)(E:XK)(tg:Expr)(fg:D->aj->DM aj):Prop where
 h:PG X tg (tG X.mg E fg)
structure DGs(X:Cx)(E:XK)(tg:B8)(fg:List D->aj->DM aj):Prop where
 h:PGs X tg (V1 X.mg E fg)
def PG.mono(h:PG X tg t)(f:∀v σ H Q,t' v σ H Q->t v σ H Q):PG X tg t':=λaaW s σ H v u Q I r q=>h aaW s σ H v u Q I r (f v σ H Q q)
def PGs.mono(h:PGs X tg t)(f:∀v σ H Q,t' v σ H Q->t v σ H Q):PGs X tg t':=λaaW s σ H v u Q I r q=>h aaW s σ H v u Q I r (f v σ H Q q)
def gN(i:Nat):D->aj->DM aj:=λd δ=>pure (δ.set i (some d))
def aP(hN:X.N.Nodup)(hi:X.N[i]?=some x)(hx:Loc X.env.scope x)(hf:X.fn x=true\/X.env.scope.names.lookup x=some .local:=by first | exact .inl rfl | exact .inr rfl | assumption):DG X E (.Name x pos) (gN i):=
 ⟨PG.mono (pg_name hN hi hx hf) fun v σ H Q h=>by obtain⟨ρ,δ,M,d,ev,j,c,g1⟩:=h;exact Go.pure g1 ρ H _ .refl j (ev.set c)⟩
def xu:List D->aj->DM aj
 |[],δ=>pure δ
 |_,_=>stuck
def mR(f:D->aj->DM aj)(fs:List D->aj->DM aj):List D->aj->DM aj
 |d::l,δ=>f d δ>>=λδ'=>fs l δ'
 |_,_=>stuck
def Nk:DGs X E [] xu:=⟨PGs.mono pgs_nil λvs σ H Q h=>by
 obtain⟨ρ,δ,M,ds,ev,j,c,g1⟩:=h;cases c with
 |nil=>exact⟨rfl,Go.pure (a:=δ) g1 ρ H σ .refl j ev⟩
 |cons _ _=>obtain⟨r,e,_⟩:=g1;cases e⟩
def yC(h1:DG X E e fg)(h2:DGs X E es fgs)(hs:(assignEach (e::es) X.env).map (·.2)=assign e X.env::(assignEach es X.env).map (·.2):=by rfl):DGs X E (e::es) (mR fg fgs):=
 ⟨PGs.mono (pgs_cons h1.h h2.h hs) fun vs σ H Q h=>by
  obtain⟨ρ,δ,M,ds,ev,j,c,g1⟩:=h;cases c with
  |nil=>obtain⟨r,e,_⟩:=g1;cases e
  |cons c1 c2=>
    have g1:Go X.mg E (Ev X.mg) Q ρ H (fg _ δ>>=λδ'=>fgs _ δ') M:=g1
    exact⟨_,_,rfl,ρ,δ,M,_,ev,j,c1,g1.bind λρ1 H1 M1 σ1 δ1 e1 j1 qh g2=>⟨ρ1,δ1,M1,_,qh,j1,c2.mono e1,g2⟩⟩⟩
def gT(n:Nat)(fs:List D->aj->DM aj):D->aj->DM aj
 |.tup l,δ=>if l.length=n then fs l δ else stuck
 |_,_=>stuck
def QD(hc:X.calm=true)(h:DGs X E es fgs)(hn:(assignEach es X.env).length=n:=by rfl)(ax:(assignEach es X.env).findIdx? (·.1)=none:=by rfl):DG X E (.Tuple es k pos) (gT n fgs):=
 ⟨PG.mono (pg_tup hc h.h hn ax) fun v σ H Q h=>by
  obtain⟨ρ,δ,M,d,ev,j,c,g1⟩:=h;cases c with
  | tup nx a c=>
    have g1:Go X.mg E (Ev X.mg) Q ρ H (if _ then _ else _) M:=g1
    split at g1
    ·rename_i hl;exact⟨_,_,rfl,SqT.of a,by rw[c.len];exact hl,ρ,δ,M,_,ev,j,c,g1⟩
    ·obtain⟨r,e,_⟩:=g1;cases e
  |_=>obtain⟨r,e,_⟩:=g1;cases e⟩
def Ex:D->D->D->DM Unit
 | .ref n,.int k,v=>λM=>match M[n]? with
   |some (.lst l)=>match ixN l.length k with
     |some j=>some (.ok (),M.set n (.lst (l.set j v)))
     |none=>none
   |_=>none
 |_,_,_=>stuck
def Ep(mg:A4)(E:XK)(gs:D->D->D->DM Unit):TSet:=λo i v H Q=>∃ρ M dO di dv,J mg ρ M H/\Cv mg ρ H o dO/\Cv mg ρ H i di/\Cv mg ρ H v dv/\Go mg E (λ_ _ (_:Unit) (_:Unit)=>True) (λz H'=>Q H') ρ H (gs dO di dv) M
set_option tactic.hygienic true in
def xG:PSet X (Ep X.mg E Ex):=by
 intro aaW s σ H o i v ov iv u Q I ro ri rv h;obtain⟨ρ,M,dO,di,dv,j,co,ci,cv,r,e,p⟩:=h;cases co with
 | ref hn=>
   cases ci with
   | int k=>
     rename_i n a;have e:(match M[n]? with
      |some (.lst l)=>match ixN l.length k with
        |some j=>some (R.ok (),M.set n (.lst (l.set j dv)))
        |none=>none
      |_=>none)=some r:=e
     split at e
     ·rename_i l hl;split at e
      ·rename_i q hq;cases e;obtain⟨xs,hx,c⟩:=j.obj _ _ _ hn hl;have x:Ext ρ H ρ (upd H a (.lst (xs.set q v))):=.upd (WR hn);exact set_list (X:=X) aaW s σ H _ _ v ov iv u Q I ro ri rv ⟨_,_,_,q,rfl,rfl,hx,by rw[c.len];exact hq,p ρ _ () x (j.upd hn ⟨_,upd_same,(c.set cv q).mono x⟩) trivial⟩
      ·cases e
     ·cases e
   |_=>cases e
 |_=>cases e
def uK(ho:DE X E o fo)(hi:DE X E i fi)(hs:PSet X (Ep X.mg E gs))
  (ha:∀v,assign (.Subscript o i pos) X.env v=(do
    let ov <-holding [v] (eval o X.env)
    let iv <-holding [v,ov] (eval i X.env)
    standAt pos
    holding [v,ov,iv] (setItem ov iv v)
    release [v,ov,iv] []):=by intro _;rfl):DG X E (.Subscript o i pos) (λd δ=>fo δ>>=λo=>fi δ>>=λi=>gs o i d>>=λz=>pure δ):=
 ⟨PG.mono (pg_sub ho.h hi.h hs ha) fun v σ H Q h=>by obtain⟨ρ,δ,M,d,ev,j,c,g1⟩:=h;exact⟨ρ,δ,M,ev,j,g1.bind λρ1 H1 M1 x dx e1 j1 c1 g2=>⟨ρ1,δ,M1,ev.mono e1,j1,g2.bind λρ2 H2 M2 y dy e2 j2 c2 g3=>⟨ρ2,M2,dx,dy,d,j2,c1.mono e2,c2,(c.mono e1).mono e2,g3.bind λρ3 H3 M3 _ _ e3 j3 _ g4=>g4.pure ρ3 H3 σ .refl j3 (((ev.mono e1).mono e2).mono e3)⟩⟩⟩⟩
def uL(he:DE X E e fe)(hg:DG X E tg fg)(hs:swapsWithSole [tg] e pos.line X.env=pure false:=by rfl)(hw:swappedStores [tg] e X.env=pure none:=by rfl)
  (h1:(assignEach [tg] X.env).map (·.2)=[assign tg X.env]:=by rfl):DS X E (.Assign [tg] e pos) (λδ=>fe δ>>=λd=>fg d δ>>=λδ'=>pure (.nx δ')):=⟨PS.mono (ps_asg he.h hg.h hs hw h1) λD σ H h=>by
 walk_at "b";exact⟨ρ,δ,M,ev,j,g1.bind λρ1 H1 M1 v d e1 j1 c1 g2=>⟨ρ1,δ,M1,d,ev.mono e1,j1,c1,g2.bind λρ2 H2 M2 σ2 δ2 e2 j2 i9 g3=>g3.pure ρ2 H2 σ2 .refl j2 i9⟩⟩⟩
def vU(i j:Nat)(fa:aj->DM (List D)):aj->DM Fl:=λδ=>fa δ>>=λl=>match l with
 |[v,w]=>pure (.nx ((δ.set i (some v)).set j (some w)))
 |_=>stuck
def uM{kt k2 pt2}(hc:X.calm=true)(hN:X.N.Nodup)(hi:X.N[i]?=some x)(hj:X.N[j]?=some y)(cm:i≠j)
  (hx:X.env.scope.names.lookup x=some .local) (hy:X.env.scope.names.lookup y=some .local) (ha:DA X E [a,b] fa)
  (hw:swappedStores [.Tuple [.Name x px,.Name y py] kt pt] (.Tuple [a,b] k2 pt2) X.env=pure (some [x,y]))
  (hs:swapsWithSole [.Tuple [.Name x px,.Name y py] kt pt] (.Tuple [a,b] k2 pt2) pos.line X.env=pure false:=by rfl) :
  DS X E (.Assign [.Tuple [.Name x px,.Name y py] kt pt] (.Tuple [a,b] k2 pt2) pos) (vU i j fa):=⟨PS.mono (ps_par hc hN hi hj cm hx hy ha.h.h hw hs) λD σ H h=>by
 walk_at "b";refine⟨ρ,δ,M,ev,j,bw.bind g1 λρ1 H1 M1 v d e1 j1 c1 g2=>?_⟩
 cases c1 with
 |nil=>obtain⟨r,e,_⟩:=g2;cases e
 | cons c1 c2=>cases c2 with
   |nil=>obtain⟨r,e,_⟩:=g2;cases e
   |cons c2 c3=>cases c3 with
     |nil=>exact⟨_,_,rfl,bw.pure (a:=.nx _) g2 ρ1 H1 _ .refl j1 (((ev.mono e1).set c1).set c2)⟩
     |cons _ _=>obtain⟨r,e,_⟩:=g2;cases e⟩
def Kw:bZ X E (inplaceOp .Add) (λx y=>rd (cY (λz z=>true) (λi j=>.int (i+j)) x y)):=zr iop_add
end
inductive Itn where
 |fix (l:List D) | dyn (n:Nat)
def Itn.next:Itn->Nat->Mo->Option (Option D)
 |.fix l,i,_=>some l[i]?
 |.dyn n,i,M=>match M[n]? with
   |some (.lst l)=>some l[i]?
   |_=>none
structure ItOk(mg:A4)(ρ:Rh)(H:Hp)(Jt:It)(it:Itn):Prop where
 item:∀(i:Nat) ρ' H' M' d,Kp ρ H ρ' H'->J mg ρ' M' H'->it.next i M'=some (some d)->Jt.go i H'/\∀x H2,Jt.yld i H' x H2->Ext ρ' H' ρ' H2/\J mg ρ' M' H2/\Cv mg ρ' H2 x d
 stop:∀(i:Nat) ρ' H' M',Kp ρ H ρ' H'->J mg ρ' M' H'->it.next i M'=some none->Jt.stop i H'
def tI(mg:A4)(E:XK)(fi:aj->DM Itn):TI:=λσ H R=>tD mg E (ItOk mg) fi σ H R
structure DI(X:Cx)(E:XK)(tg it:Expr)(fi:aj->DM Itn):Prop where
 h:PI X tg it (tI X.mg E fi)
def PI.mono(h:PI X tg e t)(f:∀σ H Q,t' σ H Q->t σ H Q):PI X tg e t':=λaaW s σ H Q I q=>h aaW s σ H Q I (f σ H Q q)
def Q3{K:B0}{mg:A4}{ρ:Rh}{H:Hp}{a:Addr}{xs:List V}{ds:List D}(n:a∉ρ)(h:H a=some (.lst xs))(c:Cvs mg ρ H xs ds):ItOk mg ρ H (Itl K a) (.fix ds) where
 item:=λi ρ' H' M' d e j q=>by
  have hq:ds[i]?=some d:=Ws q;obtain⟨v,hv,cv⟩:=c.get hq;have h':=(e.keep _ _ h n nofun).2
  refine⟨⟨xs,v,SqL.of h',hv⟩,λx H2 y=>?_⟩
  obtain⟨rfl,y⟩:=y;have:=y xs (SqL.of h');rw[hv]at this;cases this;exact⟨.refl,j,cv.kp e⟩
 stop:=λi ρ' H' M' e j q=>by have hq:ds[i]?=none:=Ws q;exact⟨xs,SqL.of (e.keep _ _ h n nofun).2,by rw[c.len];exact Xi.mp hq⟩
def Q4{K:B0}{mg:A4}{ρ:Rh}{H:Hp}{a:Addr}{xs:List V}{ds:List D}(n:a∉ρ)(h:H a=some (.tup xs))(c:Cvs mg ρ H xs ds):ItOk mg ρ H (Itt K a) (.fix ds) where
 item:=λi ρ' H' M' d e j q=>by
  have hq:ds[i]?=some d:=Ws q;obtain⟨v,hv,cv⟩:=c.get hq;have h':=(e.keep _ _ h n nofun).2
  refine⟨⟨xs,v,SqT.of h',hv⟩,λx H2 y=>?_⟩
  obtain⟨rfl,y⟩:=y;have:=y xs (SqT.of h');rw[hv]at this;cases this;exact⟨.refl,j,cv.kp e⟩
 stop:=λi ρ' H' M' e j q=>by have hq:ds[i]?=none:=Ws q;exact⟨xs,SqT.of (e.keep _ _ h n nofun).2,by rw[c.len];exact Xi.mp hq⟩
set_option tactic.hygienic true in
def Q0{K:B0}{mg:A4}{ρ:Rh}{H:Hp}{a:Addr}{n:Nat}(h:ρ.st[n]?=some a):ItOk mg ρ H (Itl K a) (.dyn n) where
 item:=λi ρ' H' M' d e j q=>by
  have h':=e.at h;unfold Itn.next at q;dsimp only at q;split at q
  ·rename_i l hl;obtain⟨xs,hx,c⟩:=j.obj n a _ h' hl;have hq:l[i]?=some d:=Ws q;obtain⟨v,hv,cv⟩:=c.get hq;refine⟨⟨xs,v,SqL.of hx,hv⟩,λx H2 y=>?_⟩
   obtain⟨rfl,y⟩:=y;have:=y xs (SqL.of hx);rw[hv]at this;cases this;exact⟨.refl,j,cv⟩
  ·cases q
 stop:=λi ρ' H' M' e j q=>by
  have h':=e.at h;unfold Itn.next at q;dsimp only at q;split at q
  ·rename_i l hl;obtain⟨xs,hx,c⟩:=j.obj n a _ h' hl;have hq:l[i]?=none:=Ws q;exact⟨xs,SqL.of hx,by rw[c.len];exact Xi.mp hq⟩
  ·cases q
def oF(lo:Int)(n:Nat):List D:=(List.range n).map λi=>.int (lo+(i:Nat))
def Cz{lo:Int}{n i:Nat}:(oF lo n)[i]?=if i<n then some (.int (lo+(i:Nat))) else none:=by
 unfold oF;rw[WM];by_cases h:i<n
 ·rw[Wq h,XJ h];rfl
 ·rw[Ww h,Xi.mpr (by simp;lia)];rfl
def G3{mg:A4}{lo:Int}{n:Nat}:ItOk mg ρ H (Itr lo n) (.fix (oF lo n)) where
 item:=λi ρ' H' M' d e j q=>by
  have hq:(oF lo n)[i]?=some d:=Ws q;rw[Cz]at hq;split at hq
  ·rename_i h;cases hq;refine⟨h,λx H2 y=>?_⟩
   obtain⟨rfl,rfl⟩:=y;exact⟨.refl,j,.int _⟩
  ·cases hq
 stop:=λi ρ' H' M' e j q=>by
  have hq:(oF lo n)[i]?=none:=Ws q;rw[Cz]at hq;split at hq
  ·cases hq
  ·rename_i h;exact X7.mp h
section
variable{X:Cx}{E:XK}{tg:Expr}
def oH(i:Int):Bool:=decide (-(2^62)<=i/\i<2^62)
def oE:List D->Option Itn
 |[.int j]=>if oH j then some (.fix (oF 0 j.toNat)) else none
 |_=>none
def uh:List D->Option Itn
 |[.int i,.int j]=>if oH i&&oH j then some (.fix (oF i (j-i).toNat)) else none
 |_=>none
def bK(hg:Gl X "range")(hm:X.mg "range"=none)(ha:DA X E [a] fa)(hs:notStar a=true:=by rfl):DI X E tg (.Call (.Name "range" p) [a] [] pos) (λδ=>fa δ >>= λl=>opt (oE l)):=
 ⟨PI.mono (El hg hm ha.h hs).h fun σ H R h=>by
  walk_at "a"
  obtain⟨it,e,q⟩:=g2.opt;unfold oE at e;split at e
  ·split at e
   ·rename_i hk;cases e;cases c1 with | cons c1 c2=>
    cases c2;cases c1;have hk:=Xe hk;exact⟨_,rfl,hk.1,hk.2,q ρ1 H1 _ .refl j1 G3⟩
   ·cases e
  ·cases e⟩
def wJ(hg:Gl X "range")(hm:X.mg "range"=none)(ha:DA X E [a,b] fa)(hs:notStar a=true:=by rfl)(ij:notStar b=true:=by rfl):DI X E tg (.Call (.Name "range" p) [a,b] [] pos) (λδ=>fa δ >>= λl=>opt (uh l)):=
 ⟨PI.mono (Em hg hm ha.h hs ij).h fun σ H R h=>by
  walk_at "a"
  obtain⟨it,e,q⟩:=g2.opt;unfold uh at e;split at e
  ·split at e
   ·rename_i hk;cases e;cases c1 with | cons c1 c2=>cases c2 with | cons c2 c3=>
    cases c3;cases c1;cases c2;have hk:=(YC _ _).mp hk;have h1:=Xe hk.1;have h2:=Xe hk.2;exact⟨_,_,rfl,⟨h1.1,h1.2,h2.1,h2.2⟩,q ρ1 H1 _ .refl j1 G3⟩
   ·cases e
  ·cases e⟩
def gO:D->Option Itn
 |.tup l=>some (.fix l)
 |_=>none
def wC:D->Mo->Option Itn
 |.lst l,_=>some (.fix l)
 |.ref n,M=>match M[n]? with
   |some (.lst _)=>some (.dyn n)
   |_=>none
 |_,_=>none
def cA(hl:DE X E l fl):DI X E tg l (λδ=>fl δ>>=λd=>opt (gO d)):=⟨PI.mono (pi_tup hl.h) λσ H R h=>by
 walk_at "a"
 obtain⟨it,e,q⟩:=g2.opt;unfold gO at e;split at e
 ·cases e;cases c1 with | tup n a c=>
  exact⟨_,rfl,⟨_,SqT.of a⟩,q ρ1 H1 _ .refl j1 (Q4 n a c)⟩
 ·cases e⟩
set_option tactic.hygienic true in
def pW(hl:DE X E l fl):DI X E tg l (λδ=>fl δ >>= λd=>rd (wC d)):=⟨PI.mono (pi_list hl.h) λσ H R h=>by
 walk_at "a"
 obtain⟨it,e,q⟩:=g2.rd;unfold wC at e;split at e
 ·cases e;cases c1 with | lst n a c=>
  exact⟨_,rfl,⟨_,SqL.of a⟩,q ρ1 H1 _ .refl j1 (Q3 n a c)⟩
 ·split at e
  ·rename_i l' hl';cases e;cases c1 with | ref hn=>
   obtain⟨xs,hx,_⟩:=j1.obj _ _ _ hn hl';exact⟨_,rfl,⟨xs,SqL.of hx⟩,q ρ1 H1 _ .refl j1 (Q0 hn)⟩
  ·cases e
 ·cases e⟩
end
def forL(tg:D->aj->DM aj)(fb:aj->DM Fl):List D->aj->DM Fl
 |[],δ=>pure (.nx δ)
 |d::l,δ=>tg d δ>>=λδ1=>fb δ1>>=λr=>match r with
   |.nx δ2=>forL tg fb l δ2
   |.ct δ2=>forL tg fb l δ2
   |.bk δ2=>pure (.nx δ2)
   |.rt d=>pure (.rt d)
def yM(tg:D->aj->DM aj)(fb:aj->DM Fl)(n:Nat):Nat->Nat->aj->DM Fl
 |0,_,_=>stuck
 | k + 1,i,δ=>rd (Itn.next (.dyn n) i) >>= λo=>match o with
   |none=>pure (.nx δ)
   |some d=>tg d δ>>=λδ1=>fb δ1>>=λr=>match r with
     |.nx δ2=>yM tg fb n k (i+1) δ2
     |.ct δ2=>yM tg fb n k (i+1) δ2
     |.bk δ2=>pure (.nx δ2)
     |.rt d=>pure (.rt d)
def QR(N:Nat)(tg:D->aj->DM aj)(fb:aj->DM Fl):Itn->aj->DM Fl
 |.fix l=>forL tg fb l
 |.dyn n=>yM tg fb n N 0
def bw.rdb{mg:A4}{E:XK}{D:Ends}{ρ:Rh}{H:Hp}{M:Mo}{γ:Type}{f:Mo->Option γ}{k:γ->DM Fl}(g:bw mg E D ρ H (L3.rd f>>=k) M):∃a,f M=some a/\bw mg E D ρ H (k a) M:=by
 obtain⟨r,e,p⟩:=g;have e:DM.bind _ _ M=some r:=e;unfold DM.bind L3.rd at e;cases h:f M with
 |none=>rw[h]at e;cases e
 |some a=>rw[h]at e;exact⟨a,rfl,r,e,p⟩
def yN{X:Cx}{E:XK}{fg:D->aj->DM aj}{fb:aj->DM Fl}{D:Ends}{σ:L2.St}{H H':Hp}{ρ:Rh}{δ:aj}{M:Mo}{x:V}{d:L3.D}{N:L2.St->Hp->Prop}{again:aj->DM Fl}
  (ev:Ev X.mg ρ H σ δ) (e1:Ext ρ H ρ H') (j1:J X.mg ρ M H') (c1:Cv X.mg ρ H' x d) (ht:bw X.mg E D ρ H (fg d δ>>=λδ1=>fb δ1>>=λr=>match r with
    |.nx δ2=>again δ2
    |.ct δ2=>again δ2
    |.bk δ2=>pure (.nx δ2)
    |.rt d=>pure (.rt d)) M) (hN:∀ρ2 δ2 M2 σ2 H2,Ext ρ H ρ2 H2->Ev X.mg ρ2 H2 σ2 δ2->J X.mg ρ2 M2 H2->bw X.mg E D ρ2 H2 (again δ2) M2->N σ2 H2) :
  tG X.mg E fg x σ H' λσ2 H2=>tS X.mg E fb { D with nx:=N,ct:=N,bk:=D.nx } σ2 H2:=by
 obtain⟨r,er,p⟩:=ht;have ht':bw X.mg E D ρ H' _ M:=⟨r,er,p.mono e1⟩;refine⟨ρ,δ,M,d,ev.mono e1,j1,c1,bw.bind ht' λρ2 H2 M2 σ2 δ2 e2 j2 i9 g2=>⟨ρ2,δ2,M2,i9,j2,g2.seq (λδ' ρ3 H3 M3 σ3 e3 j3 ev3 g3=>?_) (λδ' ρ3 H3 M3 σ3 e3 j3 ev3 g3=>?_) (λδ' ρ3 H3 M3 σ3 e3 j3 ev3 g3=>?_) (λd' ρ3 H3 M3 v e3 j3 c3 g3=>?_)⟩⟩
 ·exact hN ρ3 δ' M3 σ3 H3 ((e1.trans e2).trans e3) ev3 j3 g3
 ·exact bw.pure (a:=.nx δ') g3 ρ3 H3 σ3 .refl j3 ev3
 ·exact hN ρ3 δ' M3 σ3 H3 ((e1.trans e2).trans e3) ev3 j3 g3
 ·exact bw.pure (a:=.rt d') g3 ρ3 H3 v .refl j3 c3
def cJ{body:List Stmt}{fi:aj->DM Itn}{fg:D->aj->DM aj}{fb:aj->DM Fl}(N:Nat)(hp:PassesOwn X.M X.A X.env X.xe)(hc:X.calm=true)(hi:DI X E tg iter fi)(hg:DG X E tg fg)(hb:DSs X E body fb)
  (hs:∀x,foldedSetIterable iter X.env x=pure x:=by intro _;rfl):DS X E (.For tg iter body [] pos) (λδ=>fi δ>>=λit=>QR N fg fb it δ):=⟨PS.mono (ps_for hp hc hi.h hg.h hb.h hs) λD σ H h=>by
 walk_at "b";refine⟨ρ,δ,M,ev,j,g1.bind λρ1 H1 M1 Jt it e1 j1 kq g2=>?_⟩
 cases it with
 | fix l=>
   refine⟨λi m σ H=>∃ρ' δ' M',Ext ρ1 H1 ρ' H/\Ev X.mg ρ' H σ δ'/\J X.mg ρ' M' H/\m=(l.drop i).length/\bw X.mg E D ρ' H (forL fg fb (l.drop i) δ') M',⟨_,ρ1,δ,M1,.refl,ev.mono e1,j1,rfl,g2⟩,?_⟩
   rintro i m σ2 H2 ⟨ρ2,δ2,M2,e2,i9,j2,rfl,g3⟩;cases hd:l[i]? with
   |none=>have hl:l.drop i=[]:=List.drop_eq_nil_of_le (Xi.mp hd);rw[hl]at g3;exact .inl ⟨kq.stop i ρ2 H2 M2 e2.kp j2 (congrArg some hd),bw.pure (a:=.nx δ2) g3 ρ2 H2 σ2 .refl j2 i9⟩
   |some d=>
     obtain⟨hi',de⟩:=Wj.mp hd;have hl:l.drop i=d::l.drop (i+1):=by rw[<-de];exact aaP hi'
     obtain⟨go,yl⟩:=kq.item i ρ2 H2 M2 d e2.kp j2 (congrArg some hd);rw[hl]at g3;refine .inr ⟨go,λσ' H'=>∃ρ' δ' M',Ext ρ1 H1 ρ' H'/\Ev X.mg ρ' H' σ' δ'/\J X.mg ρ' M' H'/\bw X.mg E D ρ' H' (forL fg fb (l.drop (i+1)) δ') M',λσ' H' ⟨ρ',δ',M',a1,a2,a3,a4⟩=>⟨_,by rw[ZJ,ZJ];lia,ρ',δ',M',a1,a2,a3,rfl,a4⟩,λx H' y=>?_⟩
     obtain⟨x1,x2,x3⟩:=yl x H' y;exact yN i9 x1 x2 x3 g3 λρ3 δ3 M3 σ3 H3 f1 f2 f3 f4=>⟨ρ3,δ3,M3,e2.trans f1,f2,f3,f4⟩
 | dyn n=>
   refine⟨λi m σ H=>∃ρ' δ' M',Ext ρ1 H1 ρ' H/\Ev X.mg ρ' H σ δ'/\J X.mg ρ' M' H/\bw X.mg E D ρ' H (yM fg fb n m i δ') M',⟨N,ρ1,δ,M1,.refl,ev.mono e1,j1,g2⟩,?_⟩
   rintro i m σ2 H2 ⟨ρ2,δ2,M2,e2,i9,j2,g3⟩;cases m with
   |zero=>obtain⟨r,e,_⟩:=g3;cases e
   | succ m=>
     obtain⟨o,eo,g4⟩:=bw.rdb g3;cases o with
     |none=>exact .inl ⟨kq.stop i ρ2 H2 M2 e2.kp j2 eo,bw.pure (a:=.nx δ2) g4 ρ2 H2 σ2 .refl j2 i9⟩
     |some d=>
       obtain⟨go,yl⟩:=kq.item i ρ2 H2 M2 d e2.kp j2 eo;refine .inr ⟨go,λσ' H'=>∃ρ' δ' M',Ext ρ1 H1 ρ' H'/\Ev X.mg ρ' H' σ' δ'/\J X.mg ρ' M' H'/\bw X.mg E D ρ' H' (yM fg fb n m (i+1) δ') M',λσ' H' z=>⟨m,Yi _,z⟩,λx H' y=>?_⟩
       obtain⟨x1,x2,x3⟩:=yl x H' y;exact yN i9 x1 x2 x3 g4 λρ3 δ3 M3 σ3 H3 f1 f2 f3 f4=>⟨ρ3,δ3,M3,e2.trans f1,f2,f3,f4⟩⟩
def dH(c:aj->DM Bool)(fb:aj->DM Fl):Nat->aj->DM Fl
 |0,_=>stuck
 | k + 1,δ=>c δ >>= λb=>if b then (fb δ >>= λr=>match r with
     |.nx δ2=>dH c fb k δ2
     |.ct δ2=>dH c fb k δ2
     |.bk δ2=>pure (.nx δ2)
     |.rt d=>pure (.rt d)) else pure (.nx δ)
def tL(N:Nat)(hp:PassesOwn X.M X.A X.env X.xe)(hc:DT X E c fc)(hb:DSs X E body fb):DS X E (.While c body [] pos) (dH fc fb N):=⟨PS.mono (L2.ps_while hp hc.h hb.h) λD σ H h=>by
 walk_at "b";refine⟨λm σ H=>∃ρ' δ' M',Ev X.mg ρ' H σ δ'/\J X.mg ρ' M' H/\bw X.mg E D ρ' H (dH fc fb m δ') M',⟨N,ρ,δ,M,ev,j,g1⟩,?_⟩
 rintro m σ2 H2 ⟨ρ2,δ2,M2,i9,j2,g3⟩;cases m with
 |zero=>obtain⟨r,e,_⟩:=g3;cases e
 | succ m=>
   refine⟨ρ2,δ2,M2,i9,j2,bw.bind g3 λρ3 H3 M3 b b' e3 j3 cb g4=>?_⟩
   have cb:b=b':=cb;subst cb;cases b with
   |true=>
     refine iteT ⟨λσ' H'=>∃ρ' δ' M',Ev X.mg ρ' H' σ' δ'/\J X.mg ρ' M' H'/\bw X.mg E D ρ' H' (dH fc fb m δ') M',λσ' H' z=>⟨m,Yi _,z⟩,ρ3,δ2,M3,i9.mono e3,j3,?_⟩
     refine bw.seq g4 (λδ' ρ4 H4 M4 σ4 e4 j4 qk g5=>⟨ρ4,δ',M4,qk,j4,g5⟩) (λδ' ρ4 H4 M4 σ4 e4 j4 qk g5=>?_) (λδ' ρ4 H4 M4 σ4 e4 j4 qk g5=>⟨ρ4,δ',M4,qk,j4,g5⟩) (λd' ρ4 H4 M4 v e4 j4 c4 g5=>?_)
     ·exact bw.pure (a:=.nx δ') g5 ρ4 H4 σ4 .refl j4 qk
     ·exact bw.pure (a:=.rt d') g5 ρ4 H4 v .refl j4 c4
   |false=>exact iteF (bw.pure (a:=.nx δ2) g4 ρ3 H3 σ2 .refl j3 (i9.mono e3))⟩
def Aa(mg:A4)(F:List D->DM D):Sp:=λvs H Q E=>∃ρ M ds,Cvs mg ρ H vs ds/\J mg ρ M H/\Go mg E (Cv mg) Q ρ H (F ds) M
structure DefD(P:C5)(w:World)(K:B0)(mg:A4)(base:Heap)(k:Nat)(x:Str)(ps:C3)(F:List D->DM D):Prop where
 h:DefC P w K mg base k x ps (Aa mg F)
def aZ(n:Nat)(ds:List D):aj:=ds.map some++List.replicate (n-ds.length) none
def aD(p n:Nat)(fb:aj->DM Fl)(ds:List D):DM D:=if ds.length=p then fb (aZ n ds)>>=λr=>match r with
 |.nx _=>pure .non
 |.rt d=>pure d
 |_=>stuck else stuck
def ie(c:Cvs mg ρ H vs ds):Ev mg ρ H (L2.start N vs) (aZ N.length ds):=by
 unfold L2.start aZ;refine⟨by simp[c.len],λi d q=>?_⟩
 by_cases hi:i<ds.length
 ·rw[WD (by rw[Wm];exact hi),WM]at q
  obtain⟨d',h1,h2⟩:=Wk.mp q;cases h2;obtain⟨v,hv,cv⟩:=c.get h1;exact⟨v,by rw[WD (by rw[Wm,c.len];exact hi),WM,hv];rfl,cv⟩
 ·rw[Xn (by rw[Wm];lia),X6]at q
  split at q<;>cases q
section
variable{P:C5}{w:World}{K:B0}{mg:A4}{base:Heap}{k:Nat}{x:Str}{N ps:C3}{st:Stmt}
theorem bw.aD(g:Go mg E (Cv mg) Q ρ H (L3.aD p n fb ds) M):ds.length=p/\bw mg E { nx:=λz H'=>Q .non H',rt:=Q } ρ H (fb (aZ n ds)) M:=by
 obtain⟨r,e,p⟩:=g;unfold L3.aD at e;split at e;rotate_left
 ·cases e
 rename_i hl;refine⟨hl,?_⟩;have e:DM.bind _ _ M=some r:=e;unfold DM.bind at e;split at e
 ·cases e
 ·rename_i c M' em;cases e;exact⟨_,em,p⟩
 ·rename_i a M' em;refine⟨_,em,?_⟩;cases a with
  |nx δ'=>cases e;exact λρ1 H1 b x j c=>p ρ1 H1 .non x j .non
  |rt d=>cases e;exact λρ1 H1 b x j c=>p ρ1 H1 b x j c
  |bk δ'=>cases e
  |ct δ'=>cases e
def DefAt.okD(D:DefAt K mg x st)(S:FnScope N ps (defScope st))(hb:∀ (kV doc pm:Value) (an:B3) (ae ct:Value) (us:B5),us.length=ps.length->bindArgs (W.fnOf x x (defArgs st) (defBody st) (defScope st) .none kV doc pm an ae ct) ⟨us,[]⟩=pure (ps.zip us))
  (af:∀(f:Addr) (ae:Value) (A:Around) (outer:C4) (s:Shared) (H:Hp) (E:XK),Room k (A.deeper (envOfC x (defScope st) s.z f ae))->
    DSs (bV P w K mg base N x (defScope st) f ae A outer s H E) E (defBody st) fb):DefD P w K mg base (k+1) x ps (aD ps.length N.length fb):=⟨by
 refine D.okE S hb (λvs H Q E h=>?_) λf ae A outer s H vs Q E hr h=>?_
 ·obtain⟨ρ,M,ds,c,j,g⟩:=h;rw[c.len];exact (bw.aD g).1
 obtain⟨ρ,M,ds,c,j,g⟩:=h;exact⟨_,(af f ae A outer s H E hr).h,ρ,_,M,ie c,j,(bw.aD g).2⟩⟩
def DefAt.okN{F:List D->DM D}{fb:Nat->aj->DM Fl}(D:DefAt K mg x st)(S:FnScope N ps (defScope st))(hb:∀ (kV doc pm:Value) (an:B3) (ae ct:Value) (us:B5),us.length=ps.length->bindArgs (W.fnOf x x (defArgs st) (defBody st) (defScope st) .none kV doc pm an ae ct) ⟨us,[]⟩=pure (ps.zip us))
  (hf:∀ds M r,F ds M=some r->∃n,aD ps.length N.length (fb n) ds M=some r)
  (af:∀(n:Nat) (f:Addr) (ae:Value) (A:Around) (outer:C4) (s:Shared) (H:Hp) (E:XK),Room k (A.deeper (envOfC x (defScope st) s.z f ae))->
    DSs (bV P w K mg base N x (defScope st) f ae A outer s H E) E (defBody st) (fb n)):DefD P w K mg base (k+1) x ps F:=⟨by
 refine D.okE S hb (λvs H Q E h=>?_) λf ae A outer s H vs Q E hr h=>?_
 ·obtain⟨ρ,M,ds,c,j,r,e,p⟩:=h;obtain⟨n,e2⟩:=hf ds M r e;rw[c.len];exact (bw.aD ⟨r,e2,p⟩).1
 obtain⟨ρ,M,ds,c,j,r,e,p⟩:=h;obtain⟨n,e2⟩:=hf ds M r e;exact⟨_,(af n f ae A outer s H E hr).h,ρ,_,M,ie c,j,(bw.aD ⟨r,e2,p⟩).2⟩⟩
end
mutual
inductive Fz(M:Mo)(k:Nat):D->D->Prop
 |non:Fz M k .non .non
 |bl (b:Bool):Fz M k (.bl b) (.bl b)
 |int (i:Int):Fz M k (.int i) (.int i)
 |str (x:Str):Fz M k (.str x) (.str x)
 |tup {l l':List D}:Fzs M k l l'->Fz M k (.tup l) (.tup l')
 |lst {l l':List D}:Fzs M k l l'->Fz M k (.lst l) (.lst l')
 |dic {ks:List Key}{l l':List D}:Fzs M k l l'->Fz M k (.dic ks l) (.dic ks l')
 |obj {c:Str}{ns:C3}{l l':List D}:Fzs M k l l'->Fz M k (.obj c ns l) (.obj c ns l')
 |scr (ns:C1):Fz M k (.scr ns) (.scr ns)
 |old {n:Nat}:n<k->Fz M k (.ref n) (.ref n)
 |new {n:Nat}{l l':List D}:k<=n->M[n]?=some (.lst l)->Fzs M k l l'->Fz M k (.ref n) (.lst l')
 |cls (c:Str):Fz M k (.cls c) (.cls c)
 |ty (c:String):Fz M k (.ty c) (.ty c)
 |exn (a:Addr):Fz M k (.exn a) (.exn a)
inductive Fzs(M:Mo)(k:Nat):List D->List D->Prop
 |nil:Fzs M k [] []
 |cons {d d':D}{l l':List D}:Fz M k d d'->Fzs M k l l'->Fzs M k (d::l) (d'::l')
end
def Vf(M:Mo)(k:Nat):DO->DO->Prop
 |.lst l,.lst l'=>Fzs M k l l'
 |.dic ks l,.dic ja l'=>ks=ja/\Fzs M k l l'
 |.ins c ns l,.ins c' d4 l'=>c=c'/\ns=d4/\Fzs M k l l'
 |_,_=>False
def Ug(M':Mo)(k:Nat)(M1:Mo):Prop:=M1.length=k/\∀(n:Nat) o,M1[n]?=some o->∃o',M'[n]?=some o'/\Vf M' k o' o
section
variable{mg:A4}{ρ ρ':Rh}{H:Hp}{M:Mo}{k:Nat}
structure Sub(ρ ρ':Rh)(k:Nat):Prop where
 st:∃τ,ρ'.st=ρ.st++τ
 vo:ρ'.vo=ρ.vo
 len:ρ.st.length=k
def Sub.out(s:Sub ρ ρ' k)(h:a∉ρ'):a∉ρ:=λz=>by
 obtain⟨τ,e⟩:=s.st;rcases z with z | z
 ·exact h (.inl (by rw[e];exact Xm _ z))
 ·exact h (.inr (by rw[s.vo];exact z))
def Vd(mg:A4)(ρ:Rh)(H:Hp)(v:V)(d:D):Prop:=D.casesOn (motive_1:=λz=>Prop) d (v=.non) (λb=>v=.bl b) (λi=>v=.int i) (λx=>v=.str x) (λds=>∃a xs,v=.ref a/\a∉ρ/\H a=some (.tup xs)/\Cvs mg ρ H xs ds) (λds=>∃a xs,v=.ref a/\a∉ρ/\H a=some (.lst xs)/\Cvs mg ρ H xs ds)
 (λks ds=>∃a xs,v=.ref a/\a∉ρ/\H a=some (.dK (ks.zip xs))/\ks.length=xs.length/\Cvs mg ρ H xs ds) (λc ns ds=>∃a C dx xs,v=.ref a/\a∉ρ/\mg c=some (.ref C)/\H a=some (.ins C dx (ns.zip xs))/\ns.length=xs.length/\Cvs mg ρ H xs ds)
 (λns=>∃a,v=.ref a/\a∉ρ/\Rd H a (.lst (ns.map V.int))) (λn=>∃a,v=.ref a/\ρ.st[n]?=some a) (λc=>∃C,v=.ref C/\mg c=some (.ref C)) (λt=>v=.ty t) (λa=>v=.ref a)
set_option tactic.hygienic true in
def Cv.inv{v:V}{d:D}(h:Cv mg ρ H v d):Vd mg ρ H v d:=by
 cases h
 case non=>exact rfl
 case bl=>exact rfl
 case int=>exact rfl
 case str=>exact rfl
 case tup n h c=>exact⟨_,_,rfl,n,h,c⟩
 case lst n h c=>exact⟨_,_,rfl,n,h,c⟩
 case dic n h l c=>exact⟨_,_,rfl,n,h,l,c⟩
 case obj n m h l c=>exact⟨_,_,_,_,rfl,n,m,h,l,c⟩
 case scr n h=>exact⟨_,rfl,n,h⟩
 case ref h=>exact⟨_,rfl,h⟩
 case cls h=>exact⟨_,rfl,h⟩
 case ty=>exact rfl
 case exn=>exact rfl
def Cvs.inv{v:V}{d:D}{vs:List V}{l:List D}(h:Cvs mg ρ H vs (d::l)):∃v gx,vs=v::gx/\Cv mg ρ H v d/\Cvs mg ρ H gx l:=by cases h with | cons a b=>exact⟨_,_,rfl,a,b⟩
def Cvs.inv0{vs:List V}(h:Cvs mg ρ H vs []):vs=[]:=by cases h;rfl
def Cvs.freeze(s:Sub ρ ρ' k)(j:J mg ρ' M H){d d':List D}{v:List V}(f:Fzs M k d d'):Cvs mg ρ' H v d->Cvs mg ρ H v d':=
 Fzs.rec (motive_1:=λd d' y=>∀ v,Cv mg ρ' H v d->Cv mg ρ H v d') (motive_2:=λd d' y=>∀ v,Cvs mg ρ' H v d->Cvs mg ρ H v d')
  (λy c=>Eq.symm (a:=_) (Cv.inv c) ▸ .non) (λb y c=>Eq.symm (a:=_) (Cv.inv c) ▸ .bl b) (λb y c=>Eq.symm (a:=_) (Cv.inv c) ▸ .int b) (λb y c=>Eq.symm (a:=_) (Cv.inv c) ▸ .str b)
  (λy f v c=>let ⟨_,_,e,n,h,c⟩:=Cv.inv c;e ▸ .tup (s.out n) h (f _ c))
  (λy f v c=>let ⟨_,_,e,n,h,c⟩:=Cv.inv c;e ▸ .lst (s.out n) h (f _ c))
  (λy f v c=>let ⟨_,_,e,n,h,l,c⟩:=Cv.inv c;e ▸ .dic (s.out n) h l (f _ c))
  (λy f v c=>let ⟨_,_,_,_,e,n,m,h,l,c⟩:=Cv.inv c;e ▸ .obj (s.out n) m h l (f _ c))
  (λy v c=>let ⟨_,e,n,h⟩:=Cv.inv c;e ▸ .scr (s.out n) h)
  (λhn v c=>by
    obtain⟨a,rfl,h⟩:=Cv.inv c;obtain⟨τ,e⟩:=s.st;rw[e,WD (by rw[s.len];exact hn)]at h
    exact .ref h)
  (λhn hm y f v c=>by
    obtain⟨a,rfl,h⟩:=Cv.inv c;obtain⟨xs,hx,c⟩:=j.obj _ _ _ h hm;refine .lst (λz=>?_) hx (f _ c)
    rcases z with z | z
    ·obtain⟨m,hm'⟩:=Zz.mp z;obtain⟨τ,e⟩:=s.st;have hl:=(Wj.mp hm').1;have h2:ρ'.st[m]?=some a:=by rw[e,WD hl];exact hm'
     exact X7.mpr hn (j.inj h h2 ▸ s.len ▸ hl)
    ·exact (j.vol a (by rw[s.vo];exact z)).1 (WR h))
  (λy v c=>let ⟨_,e,h⟩:=Cv.inv c;e ▸ .cls h) (λb y c=>Eq.symm (a:=_) (Cv.inv c) ▸ .ty b) (λb y c=>Eq.symm (a:=_) (Cv.inv c) ▸ .exn b)
  (λv c=>Cvs.inv0 c ▸ .nil) (λy y f g v c=>let ⟨_,_,e,a,b⟩:=Cvs.inv (v:=.non) c;e ▸ .cons (f _ a) (g _ b)) f v
theorem J.freeze{M1:Mo}(s:Sub ρ ρ' k)(j:J mg ρ' M H)(hk:ρ.st.length=M1.length)(f:Ug M k M1):J mg ρ M1 H:=by
 obtain⟨τ,e⟩:=s.st;refine⟨hk,?_,λn a o h1 h2=>?_,λa ha=>?_⟩
 ·have:=j.nd;rw[e]at this;exact (Y6.mp this).1
 ·obtain ⟨o',h3,fo⟩:=f.2 n o h2;have hl:=(Wj.mp h1).1;have c:=j.obj n a o' (by rw[e,WD hl];exact h1) h3
  cases o' with
  |lst l=>cases o with
    |lst l'=>obtain⟨xs,hx,c⟩:=c;exact⟨xs,hx,Cvs.freeze s j fo c⟩
    |dic _ _=>exact (show False from fo).elim
    |ins _ _ _=>exact (show False from fo).elim
  |dic ks l=>cases o with
    |lst l'=>exact (show False from fo).elim
    |dic ja l'=>obtain⟨xs,hx,q,c⟩:=c;obtain⟨rfl,fo⟩:=fo;exact⟨xs,hx,q,Cvs.freeze s j fo c⟩
    |ins _ _ _=>exact (show False from fo).elim
  |ins c' ns l=>cases o with
    |lst l'=>exact (show False from fo).elim
    |dic _ _=>exact (show False from fo).elim
    |ins c'' d4 l'=>obtain⟨C,dx,xs,m,hx,q,c⟩:=c;obtain⟨rfl,rfl,fo⟩:=fo;exact⟨C,dx,xs,m,hx,q,Cvs.freeze s j fo c⟩
 ·obtain⟨x,xs,h⟩:=j.vol a (by rw[s.vo];exact ha)
  exact⟨λz=>x (by rw[e];exact Xm _ z),xs,h⟩
end
section
variable{X:Cx}{E:XK}{j k:Nat}{ps:C3}{F:List D->DM D}{x:Str}{p pos:Pos}{e:Expr}{es:B8}{fs:aj->DM (List D)}
def aF(D:DefD X.prog X.w X.K X.mg X.base j x ps F)(hr:Room k X.A)(hx:Passes (cG X.prog X.w) X E)(ha:DA X E (e::es) fs)(cq:j<=k:=by decide)(hg:Gl X x:=by rfl)(ai:(x==("__debug__":Str))=false:=by decide)
  (he:notStar e=true:=by rfl) (hpl:(backTo pos (starEach es X.env)).any (·.1)=false:=by rfl) :
  DE X E (.Call (.Name x p) (e::es) [] pos) (λδ=>fs δ>>=F):=⟨PE.mono (wR D.h hr hx ha.h cq hg ai he hpl) λσ H Q h=>by
 walk_at "b";refine⟨ρ,δ,M,ev,j,g1.bind λρ1 H1 M1 xs i8 e1 j1 c1 g2=>?_⟩
 rw[YK];exact⟨ρ1,M1,i8,c1,j1,g2⟩⟩
def rC(mg:A4)(E:XK)(g:List D->DM D):List V->Hp->VK->Prop:=λvs H Q=>∃ρ M ds,J mg ρ M H/\Cvs mg ρ H vs ds/\Go mg E (Cv mg) Q ρ H (g ds) M
def CallD(X:Cx)(E:XK)(f:Value)(g:List D->DM D):Prop:=CallR X f (rC X.mg E g)
def aM{id:String}{g:List D->DM D}(hc:CallD X E (.builtin id) g)(hm:X.mg x=none)(ha:DA X E (e::es) fs)(hg:Gl X x:=by rfl)(hv:bootBuiltins x=some (.builtin id):=by decide +kernel)(hn:x≠"__name__":=by decide)(ai:(x==("__debug__":Str))=false:=by decide)
  (he:notStar e=true:=by rfl) (hpl:(backTo pos (starEach es X.env)).any (·.1)=false:=by rfl) :
  DE X E (.Call (.Name x p) (e::es) [] pos) (λδ=>fs δ>>=g):=⟨PE.mono (LR hc hm ha.h hg hv hn ai he hpl) λσ H Q h=>by
 walk_at "b";exact⟨ρ,δ,M,ev,j,g1.bind λρ1 H1 M1 xs i8 e1 j1 c1 g2=>⟨ρ1,M1,i8,j1,c1,g2⟩⟩⟩
def fH{T:String}{g:List D->DM D}(hc:CallD X E (.type T) g)(hm:X.mg x=none)(ha:DA X E (e::es) fs)(hg:Gl X x:=by rfl)(hv:bootBuiltins x=some (.type T):=by decide +kernel)(hn:x≠"__name__":=by decide)(ai:(x==("__debug__":Str))=false:=by decide)
  (he:notStar e=true:=by rfl) (hpl:(backTo pos (starEach es X.env)).any (·.1)=false:=by rfl) :
  DE X E (.Call (.Name x p) (e::es) [] pos) (λδ=>fs δ>>=g):=⟨PE.mono (Th hc hm ha.h hg hv hn ai he hpl) λσ H Q h=>by
 walk_at "b";exact⟨ρ,δ,M,ev,j,g1.bind λρ1 H1 M1 xs i8 e1 j1 c1 g2=>⟨ρ1,M1,i8,j1,c1,g2⟩⟩⟩
def CallD.of{f:Value}{r:List V->Hp->VK->Prop}{g:List D->Mo->Option D}(hr:CallR X f r)
  (h:∀vs H Q ρ M ds d,J X.mg ρ M H->Cvs X.mg ρ H vs ds->g ds M=some d->(∀ρ' H' v,Ext ρ H ρ' H'->J X.mg ρ' M H'->Cv X.mg ρ' H' v d->Q v H')->r vs H Q):CallD X E f (λl=>rd (g l)):=by
 intro aaW s σ H vs us Q I rs q;obtain⟨ρ,M,ds,j,c,go⟩:=q;obtain⟨d,e,p⟩:=go.rd;exact hr aaW s σ H vs us Q I rs (h vs H Q ρ M ds d j c e p)
end
section
variable{X:Cx}{E:XK}{mg:A4}{ρ:Rh}{H:Hp}{M:Mo}
def Cvs.one(c:Cvs mg ρ H vs [d]):∃v,vs=[v]/\Cv mg ρ H v d:=by
 cases c with
 |cons c c2=>cases c2;exact⟨_,rfl,c⟩
def Cvs.two(c:Cvs mg ρ H vs [d,e]):∃ v w,vs=[v,w]/\Cv mg ρ H v d/\Cv mg ρ H w e:=by
 cases c with
 |cons c c2=>obtain⟨w,rfl,k⟩:=c2.one;exact⟨_,_,rfl,c,k⟩
noncomputable def ik:List D->Mo->Option D
 |[.tup l],_=>some (.int l.length)
 |[.scr l],_=>some (.int l.length)
 |[.str x],_=>if x.length<=sizeLine then some (.int x.length) else none
 |[d],M=>(aN d M).map λl=>.int l.length
 |_,_=>none
def call_lenD:CallD X E (.builtin "len") (λl=>rd (ik l)):=CallD.of (call_len_seq.or call_len_str) λvs H Q ρ M ds d j c e q=>by
 unfold ik at e;split at e
 ·cases e;obtain⟨v,rfl,k⟩:=c.one;replace c:=k;cases c with | tup n a c=>
  exact .inl ⟨_,_,rfl,.inr (SqT.of a),by rw[c.len];exact q ρ H _ .refl j (.int _)⟩
 ·cases e;obtain⟨v,rfl,k⟩:=c.one;replace c:=k;cases c with | scr n a=>
  exact .inl ⟨_,_,rfl,.inl (.inl a),by rw[Wm];exact q ρ H _ .refl j (.int _)⟩
 ·split at e
  ·cases e;obtain⟨v,rfl,k⟩:=c.one;replace c:=k;cases c;exact .inr ⟨_,rfl,‹_›,q ρ H _ .refl j (.int _)⟩
  ·cases e
 ·obtain⟨l,h1,rfl⟩:=Wk.mp e;obtain⟨v,rfl,k⟩:=c.one;replace c:=k;obtain⟨a,xs,rfl,ha,c⟩:=cL j c h1;exact .inl ⟨_,_,rfl,.inl (SqL.of ha),by rw[c.len];exact q ρ H _ .refl j (.int _)⟩
 ·cases e
def Ut:List D->Mo->Option D
 |[.int i],_=>some (.int (if i<0 then -i else i))
 |_,_=>none
def Ef:List D->Mo->Option D
 |[.int i,.int j],_=>some (.int (if j > i then j else i))
 |_,_=>none
def Td:List D->Mo->Option D
 |[.int i,.int j],_=>some (.int (if j<i then j else i))
 |_,_=>none
def Dr(hc:X.calm=true):CallD X E (.builtin "max") (λl=>rd (Ef l)):=CallD.of (call_max2 hc) λvs H Q ρ M ds d j c e q=>by
 unfold Ef at e;split at e
 ·cases e;obtain⟨v,w,rfl,k,c2⟩:=c.two;replace c:=k;cases c;cases c2;exact⟨_,_,rfl,q ρ H _ .refl j (.int _)⟩
 ·cases e
def iD:D->Mo->Option (List D)
 |.tup l,_=>some l
 |d,M=>aN d M
def vz(j:J mg ρ M H)(c:Cv mg ρ H x d)(e:iD d M=some l):∃a xs,x=.ref a/\(H a=some (.lst xs)\/H a=some (.tup xs))/\Cvs mg ρ H xs l:=by
 unfold iD at e;split at e
 ·cases e;cases c with | tup n a c=>exact⟨_,_,rfl,.inr a,c⟩
 ·obtain⟨a,xs,rfl,ha,c⟩:=cL j c e;exact⟨a,xs,rfl,.inl ha,c⟩
def intsOf:List D->Option C1
 |[]=>some []
 |.int i::l=>(intsOf l).map (i::·)
 |_=>none
theorem ints_of:∀ {xs:List V}{l:List D}{ns:C1},Cvs mg ρ H xs l->intsOf l=some ns->xs=ns.map V.int
 |_,_,_,.nil,e=>by cases e;rfl
 | _,_,_,.cons (d:=d) c cs,e=>by
   cases d with
   |int i=>obtain⟨ms,h1,rfl⟩:=Wk.mp e;cases c;rw[ints_of cs h1];rfl
   |_=>cases e
def Gk(hh:X.A.handled=none):CallR X (.builtin "sum") (λvs H Q=>∃ (l:Addr) (ns:C1),vs=[.ref l]/\(H l=some (.lst (ns.map V.int))\/H l=some (.tup (ns.map V.int)))/\Q (.int ns.sum) H):=by
 intro aaW s σ H vs us Q I r h;obtain⟨l,ns,rfl,hH,q⟩:=h;obtain⟨u,rfl,ru⟩:=vals1 r;cases ru;have fin:∀(its:B5),IntsAre its ns->∃xs,its.toArray=intItems xs/\preSum (numAt xs) xs.size=ns.sum:=λits hi=>by
  obtain⟨xs,hx⟩:=hi.allInts.items;have hn:numsOf its.toArray.toList=ns:=by rw[show its.toArray.toList=its from rfl,hi.numsOf]
  rw[hx]at hn;rw[PySem.nums_intItems]at hn;exact⟨xs,hx,by rw[PySem.preSum_eq,XD (by simp),hn]⟩
 rcases hH with hH | hH
 ·obtain ⟨its,rv,p,hz⟩:=I.list (SqL.of (K:=X.K) hH);obtain⟨xs,hx,hs⟩:=fin its (intsAre_of rv);have hl:=p.isList;rw[hx]at hl;obtain⟨o,ho,hc,n,hd⟩:=id hl;have ay:l≠s.z:=WL (Wo ho);have hsz:(intItems xs).size=xs.size:=by simp[intItems]
  have W:=(Walks.list (prog:=X.prog) (w:=X.w) (A:=X.A.in1) hh s.z l ay (intItems xs)).toS;rw[hsz]at W;refine call_sum_walkAnyS (aaq hl ?_);refine⟨s.z,_,_,_,_,_,_,numAt xs,rfl,W,⟨⟨_,Wu _ rfl,rfl,rfl⟩,hl.at λo e=>Wi _ e⟩,λb hb=>?_,λi v hP=>intItems_at hP,λs' t' hm=>?_⟩
  ·rcases Wz.mp hb with rfl | hb
   ·exact Wo (Wu _ rfl)
   ·obtain rfl:=Wx.mp hb;exact Wo (Wi _ ho)
  ·obtain⟨h',g',d',tk',os'⟩:=s';have e1:g'=s.gens:=hm.gens;have e2:d'=s.drawn:=hm.drawn;have e3:os'=s.os:=hm.os;subst e1 e2 e3;refine⟨.int ns.sum,H,I.kept (h':=h') (t':=tk') λb o e=>hm.heap b o (λhb=>absurd (Wo e) ((Wx.mp hb) ▸ Yy _)) (Wi _ e),⟨t',?_⟩,q⟩
   rw[<-hs]
 ·obtain⟨its,rv,p,hz⟩:=I.tuple (SqT.of (K:=X.K) hH);obtain⟨xs,hx,hs⟩:=fin its (intsAre_of rv);rw[hx]at p;exact PySem.W.ktm_sumG hh (show s.heap.IsTuple l _ from p) λh' tk t' hk=>⟨.int ns.sum,H,I.kept hk,⟨t',by rw[<-hs]⟩,q⟩
def Ff:List D->Mo->Option D
 |[d],M=>(iD d M).bind λl=>(intsOf l).map λns=>.int ns.sum
 |_,_=>none
def pQ(hh:X.A.handled=none):CallD X E (.builtin "sum") (λl=>rd (Ff l)):=CallD.of (Gk hh) λvs H Q ρ M ds d j c e q=>by
 unfold Ff at e;split at e
 ·obtain⟨l,h1,e1⟩:=Wv.mp e;obtain⟨ns,h2,rfl⟩:=Wk.mp e1;obtain⟨v,rfl,k⟩:=c.one;replace c:=k;obtain⟨a,xs,rfl,ha,c⟩:=vz j c h1;have:=ints_of c h2;subst this;exact⟨_,ns,rfl,ha,q ρ H _ .refl j (.int _)⟩
 ·cases e
def K7:D->Option Bool
 |.bl b=>some b
 |.int i=>some (i != 0)
 |_=>none
def gM:List D->Option (List Bool)
 |[]=>some []
 |d::l=>match K7 d,gM l with
   |some b,some bs=>some (b::bs)
   |_,_=>none
theorem Dd:∀ {xs:List V}{l:List D}{bs:List Bool},Cvs mg ρ H xs l->gM l=some bs->(∀ x∈xs,scS x=true)/\xs.map oW=bs
 |_,_,_,.nil,e=>by cases e;exact⟨(λx hx=>nomatch hx),rfl⟩
 | _,_,_,.cons (d:=d) (ds:=ds) (vs:=vs) c cs,e=>by
   unfold gM at e;split at e
   ·rename_i b bs h1 h2;cases e;obtain⟨a1,a2⟩:=Dd cs h2;cases c with
    |bl b'=>cases h1;exact⟨λx hx=>by rcases Wz.mp hx with rfl | hx;rfl;exact a1 x hx,by rw[W2,a2];rfl⟩
    |int b'=>cases h1;exact⟨λx hx=>by rcases Wz.mp hx with rfl | hx;rfl;exact a1 x hx,by rw[W2,a2];rfl⟩
    |_=>cases h1
   ·cases e
def pJ:List D->Mo->Option D
 |[d],M=>(aN d M).bind λl=>(gM l).map λbs=>.bl (bs.all id)
 |_,_=>none
def Qh:List D->Mo->Option D
 |[.tup l],_=>(gM l).map λbs=>.bl (bs.any id)
 |_,_=>none
def gq(hh:X.A.handled=none):CallD X E (.builtin "all") (λl=>rd (pJ l)):=CallD.of (Jr hh) λvs H Q ρ M ds d j c e q=>by
 unfold pJ at e;split at e
 ·obtain⟨l,h1,e1⟩:=Wv.mp e;obtain⟨ns,h2,rfl⟩:=Wk.mp e1;obtain⟨v,rfl,k⟩:=c.one;replace c:=k;obtain⟨a,xs,rfl,ha,c⟩:=cL j c h1;obtain⟨t1,t2⟩:=Dd c h2;subst t2;exact⟨_,xs,rfl,ha,t1,by have z:=q ρ H _ .refl j (.bl _);rw[List.all_map]at z;exact z⟩
 ·cases e
def iZ:List D->Mo->Option D
 |[d],M=>(iD d M).map .tup
 |_,_=>none
def bC:CallD X E (.type "tuple") (λl=>rd (iZ l)):=CallD.of call_tuple_of λvs H Q ρ M ds d j c e q=>by
 unfold iZ at e;split at e
 ·obtain⟨l,h1,rfl⟩:=Wk.mp e;obtain⟨v,rfl,k⟩:=c.one;replace c:=k;unfold iD at h1;split at h1
  ·cases h1;cases c with | tup n a c=>
   exact⟨_,_,rfl,.inr ⟨SqT.of a,q ρ H _ .refl j (.tup n a c)⟩⟩
  ·obtain⟨a,xs,rfl,ha,c⟩:=cL j c h1;exact⟨_,_,rfl,.inl ⟨SqL.of ha,λp hp=>q ρ _ _ (.lay hp) (j.lay _ hp) (.tup (j.fresh hp) upd_same (c.mono (.lay hp)))⟩⟩
 ·cases e
def Ls:List D->Mo->Option (List D)
 |[d],M=>iD d M
 |_,_=>none
def Dq:CallD X E (.type "list") (λl=>rd (λM=>(Ls l M).map .lst)):=CallD.of call_list_of λvs H Q ρ M ds d j c e q=>by
 obtain⟨l,e1,rfl⟩:=Wk.mp e;unfold Ls at e1;split at e1
 ·obtain⟨v,rfl,k⟩:=c.one;replace c:=k;obtain⟨a,xs,rfl,ha,c⟩:=vz j c e1;exact⟨_,_,rfl,ha.imp SqL.of SqT.of,λp hp=>q ρ _ _ (.lay hp) (j.lay _ hp) (.lst (j.fresh hp) upd_same (c.mono (.lay hp)))⟩
 ·cases e1
def KY(d:D):Option PyData:=match toPy d with
 |some p=>some p
 |none=>lC d
def rG:List D->Mo->Option D
 |[d],_=>(KY d).bind λp=>if p.showable&&decide (p.depth<=60)&&decide (dM p<=sizeLine) then some (.str p.shown) else none
 |_,_=>none
def jt(hg:X.A.guards=some [])(hu:X.A.units + 64<cLine):CallD X E (.builtin "repr") (λl=>rd (rG l)):=CallD.of (Dt hg hu) λvs H Q ρ M ds d j c e q=>by
 unfold rG at e;split at e
 ·obtain ⟨p,h1,e1⟩:=Wv.mp e;split at e1
  ·rename_i hk;cases e1;simp only[Bool.and_eq_true,decide_eq_true_eq]at hk;obtain⟨v,rfl,k⟩:=c.one;replace c:=k;have key:∃f,RepF H f v p:=by
    unfold KY at h1;split at h1
    ·rename_i h2;cases h1;exact⟨true,c.repF h2⟩
    ·exact⟨false,c.repD h1⟩
   obtain⟨f,rp⟩:=key;exact⟨f,_,p,rfl,rp,hk.1.1,hk.1.2,hk.2,q ρ H _ .refl j (.str _)⟩
  ·cases e1
 ·cases e
noncomputable def tyOf:D->Mo->Option String
 |.non,_=>some "NoneType"
 |.bl _,_=>some "bool"
 |.int _,_=>some "int"
 |.str _,_=>some "str"
 |.tup _,_=>some "tuple"
 |.lst _,_=>some "list"
 |.scr _,_=>some "list"
 |.dic _ _,_=>some "dict"
 |.ref n,M=>match M[n]? with
   |some (.lst _)=>some "list"
   |some (.dic _ _)=>some "dict"
   |_=>none
 |_,_=>none
set_option tactic.hygienic true in
def Ud{K:B0}(j:J mg ρ M H){x:V}{d:D}{t:String}(c:Cv mg ρ H x d)(e:tyOf d M=some t):TyOf K H x (.type t):=by
 cases c with
 |non=>cases e;exact .non
 |bl b=>cases e;exact .bl b
 |int b=>cases e;exact .int b
 |str b=>cases e;exact .str b
 |tup n h c=>cases e;exact .tup h
 |lst n h c=>cases e;exact .lst h
 |dic n h l c=>cases e;exact .dK h
 |scr n h=>
   cases e;rcases h with h | ⟨o,h⟩
   ·exact .lst h
   ·exact .frz h
 | ref q=>
   unfold tyOf at e;dsimp only at e;split at e
   ·rename_i l hl;cases e;obtain⟨xs,h,_⟩:=j.obj _ _ _ q hl;exact .lst h
   ·rename_i ks l hl;cases e;obtain⟨xs,h,_⟩:=j.obj _ _ _ q hl;exact .dK h
   ·cases e
 |_=>cases e
def Fe(t c:String):Bool:=t==c || (t=="bool"&&c=="int")
def tys:List String:=["NoneType", "bool", "int", "str", "tuple", "list", "dict"]
def ig:List D->Mo->Option D
 |[d,.ty c],M=>(tyOf d M).bind λt=>if tys.contains c then some (.bl (Fe t c)) else none
 |_,_=>none
def K9(e:tyOf d M=some t):t∈tys:=by unfold tyOf at e;split at e<;>first | (cases e;decide) | (split at e<;>first | (cases e;decide) | cases e) | cases e
def Q6{K:B0}:∀t∈tys,∀c∈tys,W.kitOne K (.type t) (.type c)=some (Fe t c):=by intro t ht c hc;simp only[tys,List.mem_cons,List.mem_nil_iff,or_false]at ht hc;rcases ht with rfl | rfl | rfl | rfl | rfl | rfl | rfl<;>rcases hc with rfl | rfl | rfl | rfl | rfl | rfl | rfl<;>rfl
def gA:CallD X E (.builtin "isinstance") (λl=>rd (ig l)):=CallD.of Js λvs H Q ρ M ds d j c e q=>by
 unfold ig at e;split at e
 ·obtain⟨t,h1,e1⟩:=Wv.mp e;split at e1
  ·rename_i hk;cases e1;obtain⟨v,w,rfl,k,c2⟩:=c.two;replace c:=k;cases c2;exact⟨_,_,_,_,rfl,Ud j c h1,Q6 _ (K9 h1) _ (YD.mp hk),q ρ H _ .refl j (.bl _)⟩
  ·cases e1
 ·cases e
def FJ(X:Cx)(E:XK)(id:String)(g:D->List D->DM D):Prop:=MtR X id (λx vs H Q=>∃ρ M d ds,J X.mg ρ M H/\Cv X.mg ρ H x d/\Cvs X.mg ρ H vs ds/\Go X.mg E (Cv X.mg) Q ρ H (g d ds) M)
def Jp:D->List D->DM D
 |.ref n,[v]=>λM=>match M[n]? with
   |some (.lst l)=>if l.length<sizeLine then some (.ok .non,M.set n (.lst (l++[v]))) else none
   |_=>none
 |_,_=>stuck
set_option tactic.hygienic true in
def mZ:FJ X E "list.append" Jp:=by
 intro aaW s σ H x xs v us Q I rx rs q;obtain⟨ρ,M,d,ds,j,cx,cs,r,e,p⟩:=q;cases cx with
 | ref hn=>
   cases cs with
   |nil=>cases e
   | cons c cs=>cases cs with
     |cons _ _=>cases e
     | nil=>
       rename_i n a w dw;have e:(match M[n]? with
        |some (.lst l)=>if l.length<sizeLine then some (R.ok .non,M.set n (.lst (l++[dw]))) else none
        |_=>none)=some r:=e
       split at e
       ·rename_i l hl;split at e
        ·cases e;obtain⟨xs,hx,cl⟩:=j.obj _ _ _ hn hl;have x:Ext ρ H ρ (upd H a (.lst (xs++[w]))):=.upd (WR hn);exact mt_append (X:=X) aaW s σ H _ _ v us Q I rx rs ⟨_,_,_,rfl,rfl,hx,by rw[cl.len];assumption,p ρ _ .non x (j.upd hn ⟨_,upd_same,(cl.append (.cons c .nil)).mono x⟩) .non⟩
        ·cases e
       ·cases e
 |_=>cases e
def KN:D->List D->DM D
 | .ref n,[.int i]=>λM=>match M[n]? with
   | some (.lst l)=>match ixN l.length i with
     |some k=>match l[k]? with
       |some d=>if decide (-(2^63)<=i/\i<2^63) then some (.ok d,M.set n (.lst (l.eraseIdx k))) else none
       |none=>none
     |none=>none
   |_=>none
 |_,_=>stuck
theorem Cvs.erase:∀{vs:List V}{ds:List D} (i:Nat),Cvs mg ρ H vs ds->Cvs mg ρ H (vs.eraseIdx i) (ds.eraseIdx i)
 |_,_,_,.nil=>.nil
 |_,_,0,.cons _ t=>t
 |_,_,i+1,.cons a t=>.cons a (Cvs.erase i t)
set_option tactic.hygienic true in
def Oc:FJ X E "list.pop" KN:=by
 intro aaW s σ H x xs v us Q I rx rs q;obtain⟨ρ,M,d,ds,j,cx,cs,r,e,p⟩:=q;cases cx with
 | ref hn=>
   cases cs with
   |nil=>cases e
   | cons c cs=>cases cs with
     |cons _ _=>cases c<;>cases e
     | nil=>cases c with
       | int i=>
         rename_i n a;have e:(match M[n]? with
          | some (.lst l)=>match ixN l.length i with
            |some k=>match l[k]? with
              |some d=>if decide (-(2^63)<=i/\i<2^63) then some (R.ok d,M.set n (.lst (l.eraseIdx k))) else none
              |none=>none
            |none=>none
          |_=>none)=some r:=e
         split at e
         ·rename_i l hl;split at e
          ·rename_i k hk;split at e
           ·rename_i d hd;split at e
            ·rename_i hb;have hb:=Xe hb;cases e;obtain⟨xs,hx,cl⟩:=j.obj _ _ _ hn hl;obtain⟨w,hw,cw⟩:=cl.get hd;have x:Ext ρ H ρ (upd H a (.lst (xs.eraseIdx k))):=.upd (WR hn);exact mt_popAt (X:=X) aaW s σ H _ _ v us Q I rx rs ⟨_,_,_,k,w,rfl,rfl,hx,hb.1,hb.2,by rw[cl.len];exact (ixN_seq hk).1,hw,p ρ _ w x (j.upd hn ⟨_,upd_same,(cl.erase k).mono x⟩) (cw.mono x)⟩
            ·cases e
           ·cases e
          ·cases e
         ·cases e
       |_=>cases e
 |_=>cases e
def km{name id:String}{g:D->List D->DM D}{o e:Expr}{es:B8}{fo:aj->DM D}{fs:aj->DM (List D)}{apos ah:Pos}(pa:PlainAttrs "list")(slot:Slot "list" name id)(hty:typeOf (.builtin id)=pure (.type "method_descriptor"))(hm:FJ X E id g)(ho:DE X E o fo)(ha:DA X E (e::es) fs)
  (bq:attributeBase o name X.env (eval o X.env)=eval o X.env:=by rfl)
  (kb:((backTo ah (starEach (e::es) X.env)).all (fun x=>!x.1)&&(backToKw ah (keywordEach [] X.env)).all (fun x=>x.1.isSome)
   &&decide ((e::es).length+([]:List Keyword).length+(if ([]:List Keyword).isEmpty then 0 else 1)<30))=true:=by rfl)
  (fw:(apos.endLine==ah.line)=true:=by rfl) (hs:notStar e=true:=by rfl) (br:(backTo ah (starEach es X.env)).any (·.1)=false:=by rfl) :
  DE X E (.Call (.Attribute o name apos) (e::es) [] ah) (λδ=>fo δ>>=λx=>rd (λM=>aN x M)>>=λz=>fs δ>>=λxs=>g x xs):=⟨PE.mono (Rq pa slot hty hm ho.h ha.h bq kb fw hs br) λσ H Q h=>by
 walk_at "a"
 obtain⟨l,hl,g3⟩:=Go.rdb g2;obtain⟨a,xs,rfl,hx,cl⟩:=cL j1 c1 hl;exact⟨.inl ⟨rfl,_,SqL.of hx⟩,ρ1,δ,M1,ev.mono e1,j1,g3.bind λρ2 H2 M2 ys dys e2 j2 c2 g4=>⟨ρ2,M2,dx,dys,j2,c1.mono e2,c2,g4⟩⟩⟩
end
structure ExtB(acc:Addr)(ρ:Rh)(H:Hp)(ρ':Rh)(H':Hp):Prop where
 pre:∃τ,ρ'.st=ρ.st++τ
 vo:ρ'.vo=ρ.vo
 new:∀a,a∈ρ'.st->a∉ρ.st->H a=none
 keep:∀a o,H a=some o->a∉ρ.st->a≠acc->H' a=some o
 na:acc∉ρ'.st
section
variable{acc:Addr}{ρ ρ1 ρ2:Rh}{H H1 H2:Hp}
theorem ExtB.trans(e:ExtB acc ρ H ρ1 H1)(f:ExtB acc ρ1 H1 ρ2 H2):ExtB acc ρ H ρ2 H2:=by
 have out:∀a o,H a=some o->a∉ρ.st->a∉ρ1.st:=λa o h n z=>by have:=e.new a z n;rw[h]at this;cases this
 refine⟨?_,f.vo.trans e.vo,λa h n=>?_,λa o h n na=>f.keep a o (e.keep a o h n na) (out a o h n) na,f.na⟩
 ·obtain⟨τ,h1⟩:=e.pre;obtain⟨υ,h2⟩:=f.pre;exact⟨τ++υ,by rw[h2,h1,Ym]⟩
 ·by_cases z:a∈ρ1.st
  ·exact e.new a z n
  ·cases q:H a with
   |none=>rfl
   |some o=>have:=f.new a h z;rw[e.keep a o q n (λy=>f.na (y ▸ h))]at this;cases this
def Ext.b(e:Ext ρ H ρ1 H1)(na:acc∉ρ1.st):ExtB acc ρ H ρ1 H1:=⟨e.pre,e.vo,e.new,λa o h n z=>e.keep a o h n,na⟩
def ExtB.kp(e:ExtB acc ρ H ρ1 H1)(h:acc∈ρ.vo):Kp ρ H ρ1 H1:=⟨e.pre,λa o q n y=>by
 have ne:a≠acc:=λz=>n (z ▸ .inr h)
 have ns:a∉ρ.st:=λz=>n (.inl z)
 refine⟨λz=>?_,e.keep a o q ns ne⟩
 rcases z with z | z
 ·have:=e.new a z ns;rw[q]at this;cases this
 ·rw[e.vo]at z;exact n (.inr z)⟩
theorem ExtB.refl(na:acc∉ρ.st):ExtB acc ρ H ρ H:=(Ext.refl).b na
def ExtB.grow(na:acc∉ρ.st):ExtB acc ρ H ρ (upd H acc (.lst ys)):=⟨⟨[],by simp⟩,rfl,λa h n=>absurd h n,λa o h z ne=>by rw[upd_ne ne];exact h,na⟩
end
abbrev ZK:=Addr->Rh->Hp->HO->List D->Prop
structure CstG(Z:ZK)(X:Cx)(aaW:A8)(acc:Addr)(ρ0:Rh)(H0:Hp)(δ:aj)(l:List D)(M:Mo)(fp:B7)(s:Shared):Prop where
 ex:∃σ H ρ o,Inv X aaW σ H s/\ExtB acc ρ0 H0 ρ H/\J X.mg ρ M H/\Ev X.mg ρ H σ δ/\H acc=some o/\Z acc ρ H o l/\∀b∈fp,H b=none
def ZK.Ok(Z:ZK):Prop:=∀a ρ H ρ' H' o l,Z a ρ H o l->Ext ρ H ρ' H'->Z a ρ' H' o l
def ZL(mg:A4):ZK:=λ_ ρ H o l=>∃ys,o=.lst ys/\Cvs mg ρ H ys l
def ZL.ok:(ZL mg).Ok:=λ_ _ _ _ _ _ _ ⟨ys,e,c⟩ x=>⟨ys,e,c.mono x⟩
def bB(fg:D->aj->DM aj)(ft:aj->DM Bool)(fb:aj->List D->DM (aj×List D)):List D->aj->List D->DM (aj×List D)
 |[],δ,l=>pure (δ,l)
 |d::ds,δ,l=>fg d δ>>=λδ1=>ft δ1>>=λb=>(if b then fb δ1 l else pure (δ1,l))>>=λp=>bB fg ft fb ds p.1 p.2
def qZ(fg:D->aj->DM aj)(ft:aj->DM Bool)(fb:aj->List D->DM (aj×List D))(n:Nat):Nat->Nat->aj->List D->DM (aj×List D)
 |0,_,_,_=>stuck
 |k+1,i,δ,l=>rd (Itn.next (.dyn n) i)>>=λo=>match o with
   |none=>pure (δ,l)
   |some d=>fg d δ>>=λδ1=>ft δ1>>=λb=>(if b then fb δ1 l else pure (δ1,l))>>=λp=>qZ fg ft fb n k (i+1) p.1 p.2
def cN(fg:D->aj->DM aj)(ft:aj->DM Bool)(fb:aj->List D->DM (aj×List D)):Itn->aj->List D->DM (aj×List D)
 |.fix ds,δ,l=>bB fg ft fb ds δ l
 |.dyn n,δ,l=>rd (λM=>aN (.ref n) M)>>=λm=>qZ fg ft fb n (m.length+1) 0 δ l
def bY(fe:aj->DM D)(δ:aj)(l:List D):DM (aj×List D):=fe δ>>=λd=>if l.length<sizeLine then pure (δ,l++[d]) else stuck
def Vl(X:Cx)(ifs:B8)(t:TT):Prop:=∀(aaW:A8) (s:Shared) (σ:L2.St) (H:Hp) (Q:Bool->Hp->Prop),Inv X aaW σ H s->t σ H Q->wpAny X.M X.A (wj ifs X.env) (TP X aaW σ Q) X.xe s
structure DTs(X:Cx)(E:XK)(ifs:B8)(f:aj->DM Bool):Prop where
 h:Vl X ifs (tD X.mg E Bv f)
def qR:DTs X E [] (λz=>pure true):=⟨λaaW s σ H Q I h=>by obtain⟨ρ,δ,M,ev,j,g⟩:=h;exact Wh ⟨H,I,g.pure ρ H true .refl j rfl⟩⟩
def dF(hc:DT X E c f):DTs X E [c] f:=⟨λaaW s σ H Q I h=>wpAny_tests_one (hc.h aaW s σ H Q I h)⟩
set_option tactic.hygienic true in
def DM.bind_ok{α β:Type}{m:DM α}{k:α->DM β}{M M':Mo}{b:β}(h:(m>>=k) M=some (.ok b,M')):∃a M1,m M=some (.ok a,M1)/\k a M1=some (.ok b,M'):=by
 have h:DM.bind m k M=some (.ok b,M'):=h;unfold DM.bind at h;split at h
 ·cases h
 ·cases h
 ·rename_i a M1 e;exact⟨a,M1,e,h⟩
def uw(Z:ZK)(X:Cx)(acc:Addr)(W:B2->B2)(fb:aj->List D->DM (aj×List D))(ρ0:Rh)(H0:Hp):Prop:=
 ∀aaW δ l M s δ' l' M',CstG Z X aaW acc ρ0 H0 δ l M [] s->fb δ l M=some (.ok (δ',l'),M')->W (λs'=>CstG Z X aaW acc ρ0 H0 δ' l' M' [] s') s
def BodyOk(X:Cx)(acc:Addr)(W:B2->B2)(fb:aj->List D->DM (aj×List D)):Prop:=
 ∀ρ0 H0,acc∈ρ0.vo->uw (ZL X.mg) X acc W fb ρ0 H0
def CstG.unpin(c:CstG Z X (aaW++pl) acc ρ0 H0 δ l M [] s)(h:∀b∈fp,∃o,(b,o)∈pl):
  CstG Z X aaW acc ρ0 H0 δ l M fp s/\∀p∈pl,s.heap.get? p.1=some p.2:=by
 obtain⟨σ,H,ρ,o,I,x,j,ev,ha,cl,_⟩:=c.ex;refine⟨⟨σ,H,ρ,o,I.unpinned,x,j,ev,ha,cl,λb hb=>?_⟩,λp hp=>(I.pin p (Xc _ (Xc _ hp))).1⟩
 obtain⟨o',ho⟩:=h b hb;exact (I.pin (b,o') (Xc _ (Xc _ ho))).2.1
def wA(fg:D->aj->DM aj)(ft:aj->DM Bool)(fb:aj->List D->DM (aj×List D))(δf:aj)(lf:List D)(Mf:Mo):Itn->Nat->Nat->aj->List D->Mo->Prop
 |.fix ds,n,i,δ,l,M=>n=ds.length-i/\bB fg ft fb (ds.drop i) δ l M=some (.ok (δf,lf),Mf)
 |.dyn a,n,i,δ,l,M=>qZ fg ft fb a n i δ l M=some (.ok (δf,lf),Mf)
def wA.step{fg:D->aj->DM aj}{ft:aj->DM Bool}{fb:aj->List D->DM (aj×List D)}{δf δ:aj}{lf l:List D}{Mf M:Mo}{it:Itn}{n i:Nat}(h:wA fg ft fb δf lf Mf it n i δ l M):
  (it.next i M=some none/\δ=δf/\l=lf/\M=Mf)\/∃d δ1 M1 b M2 δ3 l3 M3 m,it.next i M=some (some d)/\fg d δ M=some (.ok δ1,M1)/\ft δ1 M1=some (.ok b,M2)/\(if b then fb δ1 l else pure (δ1,l)) M2=some (.ok (δ3,l3),M3)/\m<n/\wA fg ft fb δf lf Mf it m (i+1) δ3 l3 M3:=by
 cases it with
 | fix ds=>
   obtain⟨rfl,h⟩:=h;cases hd:ds[i]? with
   |none=>rw[List.drop_eq_nil_of_le (Xi.mp hd)]at h;cases h;exact .inl ⟨congrArg some hd,rfl,rfl,rfl⟩
   |some d=>
     obtain⟨hi',de⟩:=Wj.mp hd;have hl:ds.drop i=d::ds.drop (i+1):=by rw[<-de];exact aaP hi'
     rw[hl]at h;obtain⟨δ1,M1,e1,h1⟩:=DM.bind_ok h;obtain⟨b,M2,e2,h2⟩:=DM.bind_ok h1;obtain⟨⟨δ3,l3⟩,M3,e3,h3⟩:=DM.bind_ok h2;exact .inr ⟨d,δ1,M1,b,M2,δ3,l3,M3,ds.length-(i+1),congrArg some hd,e1,e2,e3,by lia,rfl,h3⟩
 | dyn a=>
   cases n with
   |zero=>cases h
   | succ n=>
     obtain⟨o,M0,e0,h⟩:=DM.bind_ok h;obtain⟨o',q,z⟩:=Wk.mp e0;cases z;cases o with
     |none=>cases h;exact .inl ⟨q,rfl,rfl,rfl⟩
     |some d=>obtain⟨δ1,M1,e1,h1⟩:=DM.bind_ok h;obtain⟨b,M2,e2,h2⟩:=DM.bind_ok h1;obtain⟨⟨δ3,l3⟩,M3,e3,h3⟩:=DM.bind_ok h2;exact .inr ⟨d,δ1,M1,b,M2,δ3,l3,M3,n,q,e1,e2,e3,Yi _,h3⟩
def wA.start{fg:D->aj->DM aj}{ft:aj->DM Bool}{fb:aj->List D->DM (aj×List D)}{δf δ:aj}{lf l:List D}{Mf M:Mo}{it:Itn}(h:cN fg ft fb it δ l M=some (.ok (δf,lf),Mf)):∃ n,wA fg ft fb δf lf Mf it n 0 δ l M:=by
 cases it with
 |fix ds=>exact⟨_,rfl,h⟩
 |dyn a=>obtain⟨m,M0,e0,h⟩:=DM.bind_ok h;obtain⟨m',q,z⟩:=Wk.mp e0;cases z;exact⟨_,h⟩
def Ra(hZ:Z.Ok)(hc:X.calm=true)(qo:X.xe=λy y=>False){depth:Nat}{bodyK:Sem Fin->Sem Fin}{W:B2->B2}
  (aw:compTurn e depth (.ref it) (.ref acc) X.env=turnOf g bodyK (.compLoop e depth (.ref it) (.ref acc) X.env) (.ref it) X.env) (hW:jY X.prog X.w X.A bodyK W) (av:∀P P' s,(∀s,P s->P' s)->W P s->W P' s)
  {fg:D->aj->DM aj}{ft:aj->DM Bool}{fb:aj->List D->DM (aj×List D)} (hg:DG X E0 g.target fg) (ht:DTs X E0 g.ifs ft) {fp:B7}{tn:Nat->B6} (T:Turn X.prog X.w X.K g.target Jt fp it tn) (kq:ItOk X.mg ρi Hi Jt itn) (hb:uw Z X acc W fb ρ0 H0) (kp0:∀ρ H,ExtB acc ρ0 H0 ρ H->Kp ρi Hi ρ H) {aaW:A8}
  (fok:∀H',(∀b∈fp,H' b=none)->∀b∈fp,FpOk X aaW H' b) {l:List D} (st:CstG Z X aaW acc ρ0 H0 δ l M fp s) (htn:tn 0 s.heap) {lf:List D} (kr:cN fg ft fb itn δ l M=some (.ok (δf,lf),Mf))
  {R:Result->B2} (he:Fy e) (hR:∀s',CstG Z X aaW acc ρ0 H0 δf lf Mf fp s'->R (.ok .next) s') :
  codeAny X.M X.A (.compLoop e depth (.ref it) (.ref acc) X.env) R s:=by
 obtain⟨n0,rem0⟩:=wA.start kr;refine Ke (λn s=>∃i δ l M,wA fg ft fb δf lf Mf itn n i δ l M/\CstG Z X aaW acc ρ0 H0 δ l M fp s/\tn i s.heap) aw hW ?_ av n0 ⟨0,δ,l,M,rem0,st,htn⟩ he
 rintro n s ⟨i,δ,l,M,rem,st,htn⟩;obtain⟨σ,H,ρ,o,I,x,j,ev,ha,cl,fr⟩:=st.ex;have kp:=kp0 _ _ x;rcases rem.step with ⟨hd,rfl,rfl,rfl⟩ | ⟨d,δ1,M1,b,M2,δ3,l3,M3,m,hd,e1,e2,e3,hm,rem3⟩
 ·refine W5 (T.done X rfl rfl rfl hc i aaW s σ H _ I (fok H fr) htn (kq.stop i ρ H _ kp j hd)) (λr s1 h1=>?_) λy y z=>z
  obtain⟨rfl,I1⟩:=h1;exact hR s1 ⟨σ,H,ρ,o,I1,x,j,ev,ha,cl,fr⟩
 ·obtain ⟨go,yl⟩:=kq.item i ρ H M d kp j hd;refine W5 (T.item X rfl rfl rfl hc i aaW s σ H (λy y=>False) I (fok H fr) htn go) (λr s1 h1=>?_) λy y z=>z
  obtain⟨u,rfl,h1⟩:=h1;refine W5 h1 (λy s2 h2=>?_) λy y z=>z
  obtain⟨xv,H5,I5,r5,y5,tn5,fr5⟩:=h2;obtain⟨x5,j5,c5⟩:=yl xv H5 y5;have I5':=I5.pinned (fok H5 fr5) (T.obj _ _ tn5);refine W5 (hg.h _ s2 σ H5 xv u (λσ6 H6=>∃ρ6,Ext ρ H5 ρ6 H6/\J X.mg ρ6 M1 H6/\Ev X.mg ρ6 H6 σ6 δ1) I5' r5 ⟨ρ,δ,M,d,ev.mono x5,j5,c5,_,e1,λρ6 H6 σ6 a1 a2 a3=>⟨ρ6,a1,a2,a3⟩⟩) (λy s3 h3=>?_) λy y z=>by rw[qo]at z;exact z
  obtain⟨σ6,H6,I6,ρ6,x6,j6,ev6⟩:=h3;refine W5 (ht.h _ s3 σ6 H6 (λb' H7=>b'=b/\∃ρ7,Ext ρ6 H6 ρ7 H7/\J X.mg ρ7 M2 H7) I6 ⟨ρ6,δ1,M1,ev6,j6,_,e2,λρ7 H7 b' a1 a2 a3=>⟨a3,ρ7,a1,a2⟩⟩) (λok s4 h4=>?_) λy y z=>by rw[qo]at z;exact z
  obtain⟨H7,I7,rfl,ρ7,x7,j7⟩:=h4;have cf:acc∉ρ.st:=x.na;have na6:acc∉ρ6.st:=λz=>by have h5:=x5.keep acc _ ha cf;have:=x6.new acc z cf;rw[h5]at this;cases this
  have ha5:=x5.keep acc _ ha cf;have ha6:=x6.keep acc _ ha5 cf;have na7:acc∉ρ7.st:=λz=>by have:=x7.new acc z na6;rw[ha6]at this;cases this
  have ha7:=x7.keep acc _ ha6 na6;have xb:ExtB acc ρ0 H0 ρ7 H7:=((x.trans (x5.b cf)).trans (x6.b na6)).trans (x7.b na7);have ct:CstG Z X (aaW++pinsAt fp s2.heap) acc ρ0 H0 δ1 l M2 [] s4:=⟨σ6,H7,ρ7,o,I7,xb,j7,ev6.mono x7,ha7,hZ _ _ _ _ _ _ _ (hZ _ _ _ _ _ _ _ (hZ _ _ _ _ _ _ _ cl x5) x6) x7,λb hb=>nomatch hb⟩
  have fin:∀s5,CstG Z X (aaW++pinsAt fp s2.heap) acc ρ0 H0 δ3 l3 M3 [] s5->∃m,m<n/\∃i δ l M,wA fg ft fb δf lf Mf itn m i δ l M/\CstG Z X aaW acc ρ0 H0 δ l M fp s5/\tn i s5.heap:=λs5 c5=>by
   obtain⟨c6,pp⟩:=c5.unpin (fp:=fp) λb hb=>by obtain⟨o,eo,_⟩:=T.obj _ _ tn5 b hb;exact⟨o,mem_pinsAt hb eo⟩
   exact⟨m,hm,i+1,δ3,l3,M3,rem3,c6,T.keep _ _ _ tn5 λb hb o eo=>pp (b,o) (mem_pinsAt hb eo)⟩
  cases ok with
  |true=>exact iteT (av _ _ _ fin (hb _ δ1 l M2 s4 δ3 l3 M3 ct e3))
  |false=>cases e3;exact iteF (fin s4 ct)
def Bu{X:Cx}(qo:X.xe=λy y=>False){elt:Expr}{fe:aj->DM D}{acc:Addr}(he:DE X E0 elt fe):
  BodyOk X acc (λP s=>wpAny X.M X.A (eval elt X.env) (λx s1=>wpAny X.M X.A (call (.builtin "list.append") [.ref acc,x]) (λy s2=>P s2) (λy y=>False) s1) (λy y=>False) s) (bY fe):=by
 intro ρ0 H0 d5 aaW δ l M s δ' l' M' ct e;obtain⟨d,M1,e1,e2⟩:=DM.bind_ok e;obtain⟨σ,H,ρ,o,I,x,j,ev,ha,⟨ys,rfl,cl⟩,_⟩:=ct.ex;split at e2;rotate_left
 ·cases e2
 rename_i hz;cases e2;refine W5 (he.h aaW s σ H (λv H1=>∃ρ1,Ext ρ H ρ1 H1/\J X.mg ρ1 M' H1/\Cv X.mg ρ1 H1 v d) I ⟨ρ,δ,M,ev,j,_,e1,λρ1 H1 v a1 a2 a3=>⟨ρ1,a1,a2,a3⟩⟩) (λu s1 h1=>?_) λy y z=>by rw[qo]at z;exact z
 obtain⟨v,H1,I1,rv,ρ1,x1,j1,c1⟩:=h1;have cf:acc∉ρ.st:=x.na;have ha1:=x1.keep acc _ ha cf;have na1:acc∉ρ1.st:=λz=>by have:=x1.new acc z cf;rw[ha]at this;cases this
 have hv1:acc∈ρ1.vo:=by rw[x1.vo,x.vo];exact d5
 refine W5 (mt_append (X:=X) aaW s1 σ H1 (.ref acc) [v] (.ref acc) [u] (λy H'=>H'=upd H1 acc (.lst (ys++[v]))) I1 rfl (.cons rv .nil) ⟨_,ys,v,rfl,rfl,ha1,by rw[cl.len];exact hz,rfl⟩) (λy s2 h2=>?_) λy y z=>by rw[qo]at z;exact z
 obtain⟨_,H2,I2,_,rfl⟩:=h2;exact⟨σ,_,ρ1,_,I2,(x.trans (x1.b na1)).trans (.grow na1),j1.grow hv1,(ev.mono x1).kp ((ExtB.grow na1).kp hv1),upd_same,⟨ys++[v],rfl,((cl.mono x1).append (.cons c1 .nil)).hold hv1⟩,λb hb=>nomatch hb⟩
def dj{α:Type}(m:DM α):DM α:=λM=>match m M with
 |some (.ok a,M')=>some (.ok a,M')
 |_=>none
set_option tactic.hygienic true in
def uU(h:dj m M=some r):∃a M',m M=some (.ok a,M')/\r=(.ok a,M'):=by
 unfold dj at h;split at h
 ·rename_i a M' e;cases h;exact⟨a,M',e,rfl⟩
 ·cases h
def cz(js:C0)(δ:aj):aj:=js.map λj=>(δ[j]?).getD none
def aW(k:Nat)(js:C0)(δ:aj):aj:=List.replicate k none++cz js δ
def Bx(ev:Ev mg ρ H σ δ)(k:Nat)(js:C0):Ev mg ρ H (List.replicate k none++pick js σ) (aW k js δ):=by
 unfold aW pick cz;refine⟨by simp,λi d q=>?_⟩
 by_cases hi:i<k
 ·rw[WD (by rw[XN];exact hi),X6]at q
  split at q<;>cases q
 ·rw [Xn (by rw [XN];lia),XN,WM]at q ⊢
  cases hj:js[i-k]? with
  |none=>rw[hj]at q;cases q
  | some j=>
    rw[hj]at q;have q:(δ[j]?).getD none=some d:=Ws q;have q':δ[j]?=some (some d):=by
     cases z:δ[j]? with
     |none=>rw[z]at q;cases q
     |some o=>rw[z]at q;exact congrArg some q
    obtain⟨v,h1,h2⟩:=ev.val j d q';exact⟨v,by show some ((σ[j]?).getD none)=_;rw[h1];rfl,h2⟩
def yW(hp:H p=none):Kp ρ H (ρ.hold p) (upd H p o):=⟨⟨[],by show ρ.st=_;simp⟩,λa u h n z=>⟨Rh.nhold n (ne_of_none h hp),by rw[upd_ne (ne_of_none h hp)];exact h⟩⟩
inductive Out where
 |val | sto
def Out.run:Out->List D->DM D
 |.val,l=>pure (.lst l)
 |.sto,l=>λM=>some (.ok (.ref M.length),M++[.lst l])
def Out.fin(o:Out)(hf:H2 acc=none)(hn:acc∉ρ1)(x:ExtB acc (ρ1.hold acc) (upd H2 acc (.lst [])) ρ4 H4)(j:J mg ρ4 M H4)(ha:H4 acc=some (.lst ys))(c:Cvs mg ρ4 H4 ys l)
  (g:Go mg E (Cv mg) Q ρ1 H2 (o.run l) M):Q (.ref acc) H4:=by
 have hv:ρ4.vo=acc::ρ1.vo:=x.vo;have na:acc∉ρ1.vo:=λz=>hn (.inr z)
 have nw:∀a,a∈ρ4.st->a∉ρ1.st->H2 a=none:=λa h n=>by
  have:=x.new a h n;by_cases z:a=acc
  ·rw[z,upd_same]at this;cases this
  ·rw[upd_ne z]at this;exact this
 have kp:∀a o,H2 a=some o->a∉ρ1.st->H4 a=some o:=λa o h n=>x.keep a o (by rw[upd_ne (ne_of_none h hf)];exact h) n (ne_of_none h hf)
 cases o with
 | val=>
   have e:Ext ρ1 H2 ⟨ρ4.st,ρ1.vo⟩ H4:=⟨x.pre,rfl,nw,kp⟩;have jd:J mg ⟨ρ4.st,ρ1.vo⟩ M H4:=J.done (ρ:=ρ1) j hv;have cd:Cvs mg ⟨ρ4.st,ρ1.vo⟩ H4 ys l:=Cvs.less (ρ:=ρ4) (ρ1:=⟨ρ4.st,ρ1.vo⟩) rfl (λa h=>by rw[hv];exact .tail _ h) c
   exact Go.pure (a:=D.lst l) g ⟨ρ4.st,ρ1.vo⟩ H4 (.ref acc) e jd (.lst (λz=>by
    rcases z with z | z
    ·exact x.na z
    ·exact na z) ha cd)
 | sto=>
   obtain⟨r,er,p⟩:=g;cases er;have k4:Kp ρ4 H4 ⟨ρ4.st++[acc],ρ1.vo⟩ H4:=⟨⟨[acc],rfl⟩,λa o h n v=>⟨λz=>by
    rcases z with z | z
    ·rcases WF.mp z with z | z
     ·exact n (.inl z)
     ·exact n (.inr (by rw[hv,Wx.mp z];exact .head _))
    ·exact n (.inr (by rw[hv];exact .tail _ z)),h⟩⟩
   have e:Ext ρ1 H2 ⟨ρ4.st++[acc],ρ1.vo⟩ H4:=by
    refine⟨?_,rfl,λa h n=>?_,kp⟩
    ·obtain⟨τ,h1⟩:=x.pre;exact⟨τ++[acc],by show ρ4.st++[acc]=_;rw[h1,Ym];rfl⟩
    ·rcases WF.mp h with z | z
     ·exact nw a z n
     ·rw[Wx.mp z];exact hf
   have jd:J mg ⟨ρ4.st++[acc],ρ1.vo⟩ (M++[.lst l]) H4:=by
    refine⟨by show (ρ4.st++[acc]).length=_;rw[W3,W3,j.len];rfl,?_,λn a w h1 h2=>?_,λa h=>?_⟩
    ·show (ρ4.st++[acc]).Nodup;rw[Y6];exact⟨j.nd,by simp,λx' hx y hy e=>by rw[Wx.mp hy]at e;exact x.na (e ▸ hx)⟩
    ·have h1:(ρ4.st++[acc])[n]?=some a:=h1;by_cases hl:n<ρ4.st.length
     ·rw[WD hl]at h1;rw[WD (by rw[<-j.len];exact hl)]at h2
      exact (j.obj n a w h1 h2).map rfl λvs ds c=>c.kp k4
     ·have hl':n<(ρ4.st++[acc]).length:=(Wj.mp h1).1;rw[W3]at hl';have e:n=ρ4.st.length:=by have:[acc].length=1:=rfl;lia
      subst e;rw[Xn (Wn _)]at h1;rw[j.len,Xn (Wn _)]at h2;simp at h1 h2;subst h1 h2;exact⟨ys,ha,c.kp k4⟩
    ·have h:a∈ρ1.vo:=h;obtain⟨y1,y2⟩:=j.vol a (by rw[hv];exact .tail _ h)
     refine⟨λz=>?_,y2⟩
     rcases WF.mp z with z | z
     ·exact y1 z
     ·exact na (Wx.mp z ▸ h)
   refine p _ H4 (.ref acc) e jd (.ref ?_);show (ρ4.st++[acc])[_]?=_;rw[<-j.len];simp
structure Beg(X:Cx)(Z:ZK)(ob:Obj)(o0:Addr->HO)(g:Rh->Addr->Rh)(mk:Sem Value):Prop where
 ok:Z.Ok
 nw:∀(A:Around) (E:A3) (s:Shared) (Q:A3),Q (.ref s.z) { s with heap:=s.heap.push ob }->wpAny X.M A mk Q E s
 hob:∀(H:Hp) (h:Heap) (a:Addr),h.get? a=some ob->ObjOk X.prog X.w H h a (o0 a)
 fr:ob.isFreed=false
 j:∀{ρ M H a},H a=none->J X.mg ρ M H->J X.mg (g ρ a) M (upd H a (o0 a))
 ev:∀{ρ H a σ δ},H a=none->Ev X.mg ρ H σ δ->Ev X.mg (g ρ a) (upd H a (o0 a)) σ δ
 kp:∀{ρ H a ρ' H'},H a=none->ExtB a (g ρ a) (upd H a (o0 a)) ρ' H'->Kp ρ H ρ' H'
 st:∀ρ a,(g ρ a).st=ρ.st
 z:∀ρ H a,Z a ρ H (o0 a) []
section
variable{X:Cx}{E:XK}{Z:ZK}{ob:Obj}{o0:Addr->HO}{gr:Rh->Addr->Rh}{mk:Sem Value}{scope:Scope}{cl:A9}{own:C3}{js:C0}{fr:C3}{e t0 i0:Expr}{f0:B8}{gs:List Comprehension}{pos:Pos}{fi:aj->DM Itn}{fg:D->aj->DM aj}{ft:aj->DM Bool}{fb:aj->List D->DM (aj×List D)}
  {bodyK:Cx->Addr->Sem Fin->Sem Fin}{W:Cx->Addr->B2->B2}{α:Type}{Rv:Rh->Hp->V->α->Prop}{Q:VK}{fin:List D->DM α}{use:Option (Value->Sem Unit)}{Qs:A3}{aaW:A8}{σ:L2.St}{H:Hp}{s:Shared}{ρ:Rh}{δ:aj}{M:Mo}
def wG(B:Beg X Z ob o0 gr mk)(he:Fy e)(jv:clausesOf e=⟨t0,i0,f0,0⟩::gs)(hc:X.calm=true)(T:CompG X scope cl own js fr)(hi:DI X E t0 i0 fi)
  (aw:∀(Y:Cx) it acc,compTurn e 0 (.ref it) (.ref acc) Y.env=turnOf ⟨t0,i0,f0,0⟩ (bodyK Y acc) (.compLoop e 0 (.ref it) (.ref acc) Y.env) (.ref it) Y.env)
  (hW:∀Y acc,jY Y.prog Y.w Y.A (bodyK Y acc) (W Y acc)) (av:∀Y acc P P' s,(∀s,P s->P' s)->W Y acc P s->W Y acc P' s)
  (hg:∀aaW m fp C s₂ H₂,DG (X.aR aaW scope (cellsFrom m scope.names cl) (own++fr) fp C s₂ H₂) E0 t0 fg) (ht:∀aaW m fp C s₂ H₂,DTs (X.aR aaW scope (cellsFrom m scope.names cl) (own++fr) fp C s₂ H₂) E0 f0 ft)
  (hb:∀aaW m fp C s₂ H₂ acc ρ H0,uw Z (X.aR aaW scope (cellsFrom m scope.names cl) (own++fr) fp C s₂ H₂) acc (W (X.aR aaW scope (cellsFrom m scope.names cl) (own++fr) fp C s₂ H₂) acc) fb (gr ρ acc) H0)
  (hs:∀y,foldedSetIterable i0 X.env y=pure y) (I:Inv X aaW σ H s) (ev:Ev X.mg ρ H σ δ) (j:J X.mg ρ M H) (g1:Go X.mg E Rv Q ρ H (fi δ>>=λit=>dj (cN fg ft fb it (aW own.length js δ) [])>>=λp=>fin p.2) M)
  (hfin:∀s2 H2 fp C m acc ρ1 lf Mf s',Inv X aaW σ H2 s2->(∀b∈fp,FpOk X aaW H2 b)->s2.z<=acc->s2.z<=C->H2 acc=none->acc∉ρ1->(∃δf,CstG Z (X.aR aaW scope (cellsFrom m scope.names cl) (own++fr) fp C s2 H2) [] acc (gr ρ1 acc) (upd H2 acc (o0 acc)) δf lf Mf fp s')->Go X.mg E Rv Q ρ1 H2 (fin lf) Mf->
    compPost X.M X.A X.xe use Qs (.ref acc) C (.ok .next) s') :
  wpAny X.M X.A (comprehension e scope X.env pos mk false (eval i0 X.env) use) Qs X.xe s:=by
 refine wpAny_comprehension_free (cl:=cl) (use:=use) jv hs T.clos T.kind T.names ?_;refine thn (hi.h aaW s σ H (λJt H1=>∃ρ1 M1 it,Ext ρ H ρ1 H1/\J X.mg ρ1 M1 H1/\ItOk X.mg ρ1 H1 Jt it/\Go X.mg E Rv Q ρ1 H1 (dj (cN fg ft fb it (aW own.length js δ) [])>>=λp=>fin p.2) M1) I
  ⟨ρ,δ,M,ev,j,g1.bind λρ1 H1 M1 Jt it e1 j1 kq g2=>⟨ρ1,M1,it,e1,j1,kq,g2⟩⟩) λv s1 h1=>thn h1 λitv s2 h2=>?_
 obtain⟨it,fp,tn,Jt,H2,rfl,I2,Tn,st2,f2,ρ1,M1,itn,x1,j1,kq,g2⟩:=h2;have kr:∃δf lf Mf,cN fg ft fb itn (aW own.length js δ) [] M1=some (.ok (δf,lf),Mf)/\Go X.mg E Rv Q ρ1 H2 (fin lf) Mf:=by
  obtain⟨r,e,p⟩:=g2;have e:DM.bind _ _ M1=some r:=e;unfold DM.bind at e;split at e
  ·cases e
  ·rename_i c M' em;obtain⟨a,M'',_,z⟩:=uU em;cases z
  ·rename_i a M' em;obtain⟨a',M'',e1,z⟩:=uU em;cases z;exact⟨a.1,a.2,M',e1,r,e,p⟩
 obtain⟨δf,lf,Mf,kr,g3⟩:=kr;refine B.nw _ _ _ _ (Hq ?_);have cn:∀b∈fp,b<s2.z:=λb hb=>by obtain⟨o,e,_⟩:=Tn.obj _ _ st2 b hb;exact Wo e
 dsimp only;generalize hP:s2.heap.push ob=a8;have hCs:a8.objs.size=s2.z+1:=by rw[<-hP,Xr]
 have hCe:a8.objs.size+1=(a8.push { cls:=.type "dict",data:=.dict #[] }).objs.size:=by rw[Xr]
 have hC:s2.z<=a8.objs.size:=by lia
 have ay:a8.objs.size≠s2.z:=by lia
 have qr:∀b o,s2.heap.get? b=some o->a8.get? b=some o:=λb o e=>by rw[<-hP];exact Wi _ e
 have old:∀b o,s2.heap.get? b=some o->(pushCells (a8.push { cls:=.type "dict",data:=.dict #[] }) scope.names).get? b=some o:=λb o e=>aaT _ _ _ _ (Wi _ (qr b o e))
 have new:=aaT scope.names _ _ _ (Wi { cls:=.type "dict",data:=.dict #[] } (show a8.get? s2.z=some ob by rw[<-hP];exact Wu _ B.fr))
 have ns:(pushCells (a8.push { cls:=.type "dict",data:=.dict #[] }) scope.names).Ns a8.objs.size λu=>none:=(Heap.Ns.new a8 (.type "dict")).keeps (aaT _ _)
 have ar:H2 s2.z=none:=I2.hok.fresh (Wn _);have IC:=Dz (t':=s2.toks) T I2 f2 cn old (Wn _) hC ay hCe (W0 hC (Nat.le_succ _)) (Yi _) (Nat.lt_succ_of_le hC) rfl (B.hob _ _ _ new) ns;have OK:=IC.ok;have fok:∀H',(∀b∈fp,H' b=none)->∀b∈fp,FpOk (X.aR aaW scope (cellsFrom (a8.objs.size+1) scope.names cl) (own++fr) fp a8.objs.size s2 H2) [] H' b:=λH' hn b hb=>by
  obtain⟨_,g2,g3,g4,g5,g6⟩:=f2 b hb;refine⟨hn b hb,WL (Wt (cn b hb) hC),λhm=>?_,.inl hb,(OK.exf b hb).2,λp hp=>g6 p (by simpa using hp)⟩
  rcases Wz.mp (I2.stkSub _ hm) with z | z
  ·exact g2 z
  ·exact g3 z
 have fp1:∀b∈fp,upd H2 s2.z (o0 s2.z) b=none:=λb hb=>by rw[upd_ne (WL (cn b hb))];exact (f2 b hb).1
 have nf:=j1.fresh ar;have st:CstG Z (X.aR aaW scope (cellsFrom (a8.objs.size+1) scope.names cl) (own++fr) fp a8.objs.size s2 H2) [] s2.z (gr ρ1 s2.z) (upd H2 s2.z (o0 s2.z)) (aW own.length js δ) [] M1 fp
   { s2 with heap:=pushCells (a8.push { cls:=.type "dict",data:=.dict #[] }) scope.names,toks:=s2.toks }:=
  ⟨_,_,_,_,IC,.refl (λz=>nf (.inl (by rw[<-B.st ρ1];exact z))),B.j ar j1,B.ev ar (Bx (ev.mono x1) _ _),upd_same,B.z _ _ _,fp1⟩
 have tn0:tn 0 (pushCells (a8.push { cls:=.type "dict",data:=.dict #[] }) scope.names):=Tn.keep _ _ _ st2 (λb u o e=>old b o e)
 have loop:codeAny X.M X.A (.compLoop e 0 (.ref it) (.ref s2.z) (compEnvC scope (cellsFrom (a8.objs.size+1) scope.names cl) a8.objs.size X.env))
   (compPost X.M X.A X.xe use Qs (.ref s2.z) a8.objs.size) { s2 with heap:=pushCells (a8.push { cls:=.type "dict",data:=.dict #[] }) scope.names,toks:=s2.toks }:=
  Ra (X:=X.aR aaW scope (cellsFrom (a8.objs.size+1) scope.names cl) (own++fr) fp a8.objs.size s2 H2) B.ok hc rfl (aw _ _ _) (hW _ _) (av _ _) (hg ..) (ht ..) Tn kq (hb aaW (a8.objs.size+1) fp a8.objs.size s2 H2 s2.z ρ1 _) (λu u x=>B.kp ar x) fok st tn0 kr he λs' c'=>hfin s2 H2 fp _ _ _ ρ1 lf Mf s' I2 f2 (Wn _) hC ar nf ⟨_,c'⟩ g3
 show codeAny _ _ (.compStart _ 0 (.ref it) (.ref s2.z) (compEnvC scope (cellsFrom (a8.objs.size+1) scope.names cl) a8.objs.size X.env)) _ _;exact IK (by rw[jv];rfl) rfl loop (Tn.self X.A 0 _ _ _ tn0 loop) he
def yx(B:Beg X Z ob o0 gr mk)(he:Fy e)(jv:clausesOf e=⟨t0,i0,f0,0⟩::gs)(hc:X.calm=true)(T:CompG X scope cl own js fr)(hi:DI X E t0 i0 fi)
  (aw:∀(Y:Cx) it acc,compTurn e 0 (.ref it) (.ref acc) Y.env=turnOf ⟨t0,i0,f0,0⟩ (bodyK Y acc) (.compLoop e 0 (.ref it) (.ref acc) Y.env) (.ref it) Y.env)
  (hW:∀Y acc,jY Y.prog Y.w Y.A (bodyK Y acc) (W Y acc)) (av:∀Y acc P P' s,(∀s,P s->P' s)->W Y acc P s->W Y acc P' s)
  (hg:∀aaW m fp C s₂ H₂,DG (X.aR aaW scope (cellsFrom m scope.names cl) (own++fr) fp C s₂ H₂) E0 t0 fg) (ht:∀aaW m fp C s₂ H₂,DTs (X.aR aaW scope (cellsFrom m scope.names cl) (own++fr) fp C s₂ H₂) E0 f0 ft)
  (hb:∀aaW m fp C s₂ H₂ acc ρ H0,uw Z (X.aR aaW scope (cellsFrom m scope.names cl) (own++fr) fp C s₂ H₂) acc (W (X.aR aaW scope (cellsFrom m scope.names cl) (own++fr) fp C s₂ H₂) acc) fb (gr ρ acc) H0)
  (hs:∀y,foldedSetIterable i0 X.env y=pure y)
  (hq:∀(Q:VK) acc H2 ρ1 lf Mf H4 ρ4 o,H2 acc=none->acc∉ρ1->ExtB acc (gr ρ1 acc) (upd H2 acc (o0 acc)) ρ4 H4->J X.mg ρ4 Mf H4->H4 acc=some o->Z acc ρ4 H4 o lf->Go X.mg E Rv Q ρ1 H2 (fin lf) Mf->Q (.ref acc) H4)
  (ee:eval e X.env=comprehension e scope X.env pos mk false (eval i0 X.env) none) :
  PE X e (tD X.mg E Rv λδ=>fi δ>>=λit=>dj (cN fg ft fb it (aW own.length js δ) [])>>=λp=>fin p.2):=by
 walk_at "f";walk_at "b";rw[ee];refine wG B he jv hc T hi aw hW av hg ht hb hs I ev j g1 λs2 H2 fp C m acc ρ1 lf Mf s' I2 f2 hA hC ar nf c' g3=>?_
 obtain⟨δf,c'⟩:=c';obtain⟨σ4,H4,ρ4,o,I4,x4,j4,qk,qv,z4,fr4⟩:=c'.ex;obtain⟨m4,hn4,_⟩:=I4.loc;refine⟨m4,hn4,λh' mv=>?_⟩
 have un:=Jh I4.base mv hC;have ok4:=BK I4.hok mv I4.free;exact⟨.ref acc,H4,I2.call' (s':={ s' with heap:=h' }) (ch:=fp) (I4.os) un ok4 I4.bare (λb hb=>by obtain⟨_,g2,g3,g4,g5,g6⟩:=f2 b hb;exact⟨g4,g2,g5,g6⟩),rfl,hq Q acc H2 ρ1 lf Mf H4 ρ4 o ar nf x4 j4 qv z4 g3⟩
end
theorem Beg.list:Beg X (ZL X.mg) { cls:=.type "list",dict:=none,data:=.seq ([]:B5).toArray } (λy=>.lst []) Rh.hold (newList []) where
 ok:=ZL.ok
 nw:=λA E s Q q=>by unfold newList;exact Xb q
 hob:=λH h a e=>⟨X3 _,[],_,.nil,e⟩
 fr:=rfl
 j:=λh j=>j.begin h
 ev:=λh e=>e.kp (yW h)
 kp:=λh x=>(yW h).trans (x.kp (.head _))
 st:=λy y=>rfl
 z:=λy y y=>⟨[],rfl,.nil⟩
def Jz{cl:A9}{own:C3}{js:C0}{fr:C3}{f0:B8}{gs:List Comprehension}{fi:aj->DM Itn}{fg:D->aj->DM aj}{ft:aj->DM Bool}{fb:aj->List D->DM (aj×List D)}
  {bodyK:Cx->Addr->Sem Fin->Sem Fin}{W:Cx->Addr->B2->B2} (o:Out) (hc:X.calm=true) (T:CompG X scope cl own js fr) (hi:DI X E t0 i0 fi)
  (aw:∀(Y:Cx) it acc,compTurn (.ListComp elt (⟨t0,i0,f0,0⟩::gs) scope pos) 0 (.ref it) (.ref acc) Y.env=turnOf ⟨t0,i0,f0,0⟩ (bodyK Y acc) (.compLoop (.ListComp elt (⟨t0,i0,f0,0⟩::gs) scope pos) 0 (.ref it) (.ref acc) Y.env) (.ref it) Y.env)
  (hW:∀Y acc,jY Y.prog Y.w Y.A (bodyK Y acc) (W Y acc)) (av:∀Y acc P P' s,(∀s,P s->P' s)->W Y acc P s->W Y acc P' s)
  (hg:∀aaW m fp C s₂ H₂,DG (X.aR aaW scope (cellsFrom m scope.names cl) (own++fr) fp C s₂ H₂) E0 t0 fg) (ht:∀aaW m fp C s₂ H₂,DTs (X.aR aaW scope (cellsFrom m scope.names cl) (own++fr) fp C s₂ H₂) E0 f0 ft)
  (hb:∀aaW m fp C s₂ H₂ acc,BodyOk (X.aR aaW scope (cellsFrom m scope.names cl) (own++fr) fp C s₂ H₂) acc (W (X.aR aaW scope (cellsFrom m scope.names cl) (own++fr) fp C s₂ H₂) acc) fb)
  (hs:∀y,foldedSetIterable i0 X.env y=pure y:=by intro _;rfl) :
  DE X E (.ListComp elt (⟨t0,i0,f0,0⟩::gs) scope pos) (λδ=>fi δ>>=λit=>dj (cN fg ft fb it (aW own.length js δ) [])>>=λp=>o.run p.2):=
 ⟨yx Beg.list (.inl ⟨_,_,_,_,rfl⟩) rfl hc T hi aw hW av hg ht (λz z z z z z z z z=>hb _ _ _ _ _ _ _ _ _ (.head _)) hs (λQ acc H2 ρ1 lf Mf H4 ρ4 o' hf nf x4 j4 qv ⟨ys,e,c⟩ g=>o.fin hf nf x4 j4 (e ▸ qv) c g) (eval_ListComp ..)⟩
def cR{cl:A9}{own:C3}{js:C0}{fr:C3}{f0:B8}{fi:aj->DM Itn}{fg:D->aj->DM aj}{ft:aj->DM Bool}{fe:aj->DM D}
  (o:Out) (hc:X.calm=true) (T:CompG X scope cl own js fr) (hi:DI X E t0 i0 fi)
  (hg:∀aaW m fp C s₂ H₂,DG (X.aR aaW scope (cellsFrom m scope.names cl) (own++fr) fp C s₂ H₂) E0 t0 fg) (ht:∀aaW m fp C s₂ H₂,DTs (X.aR aaW scope (cellsFrom m scope.names cl) (own++fr) fp C s₂ H₂) E0 f0 ft)
  (he:∀aaW m fp C s₂ H₂,DE (X.aR aaW scope (cellsFrom m scope.names cl) (own++fr) fp C s₂ H₂) E0 elt fe)
  (hs:∀y,foldedSetIterable i0 X.env y=pure y:=by intro _;rfl) :
  DE X E (.ListComp elt [⟨t0,i0,f0,0⟩] scope pos) (λδ=>fi δ>>=λit=>dj (cN fg ft (bY fe) it (aW own.length js δ) [])>>=λp=>o.run p.2):=
 Jz (bodyK:=λY acc=>uN elt (.ref acc) Y.env) (W:=λY acc P s=>wpAny (model Y.prog Y.w) Y.A (eval elt Y.env) (λx s1=>wpAny (model Y.prog Y.w) Y.A (call (.builtin "list.append") [.ref acc,x]) (λv s2=>P s2) (λv v=>False) s1) (λv v=>False) s) o hc T hi
  (λY it acc=>Mw ..) (λY acc=>Gx) (λY acc P P' s hp h=>W5 h (λx s1 h1=>W5 h1 (λv s2 h2=>hp _ h2) λv v z=>z) λv v z=>z) hg ht (λaaW m fp C s₂ H₂ acc=>Bu rfl (he ..)) hs
def frz:D->Option (Bool×List D)
 |.tup l=>some (true,l)
 |.lst l=>some (false,l)
 |_=>none
def pairs:List D->List D->List D
 |x::xs,y::ys=>.tup [x,y]::pairs xs ys
 |_,_=>[]
def U7:List D->Option Itn
 |[x,y]=>match frz x,frz y with
   |some (_,l),some (_,m)=>some (.fix (pairs l m))
   |_,_=>none
 |_=>none
section
variable{mg:A4}{ρ:Rh}{H:Hp}
def QS{K:B0}{x:V}{d:D}{b:Bool}{l:List D}(c:Cv mg ρ H x d)(e:frz d=some (b,l)):∃a xs,x=.ref a/\a∉ρ/\H a=some (if b then .tup xs else .lst xs)/\Cvs mg ρ H xs l:=by
 cases c with
 |tup n h c=>cases e;exact⟨_,_,rfl,n,h,c⟩
 |lst n h c=>cases e;exact⟨_,_,rfl,n,h,c⟩
 |_=>cases e
def Ms{K:B0}{b:Bool}{a:Addr}{xs:List V}(h:H a=some (if b then .tup xs else .lst xs)):yo b K H a xs:=by
 cases b with
 |true=>exact SqT.of h
 |false=>exact SqL.of h
def ne_if:∀φ,(if b=true then HO.tup xs else HO.lst ys)≠HO.ext φ:=by cases b<;>nofun
end
structure XTab(K:B0)(mg:A4)(ns:C3)(F:Addr):Prop where
 cls:∀a∈ns,∃C,XCls K mg a C/\XAt K C/\Catches K C F
 kit:∀a∈ns,∀b∈ns,∀C D,mg a=some (.ref C)->mg b=some (.ref D)->W.kitOne K (.ref C) (.ref D)=some (a==b)
def JR{P:C5}{w:World}{K:B0}{mg:A4}{base:Heap}{N:C3}{qual:Str}{scope:Scope}{f:Addr}{cd:Value}{A:Around}{outer:C4}{s:Shared}{H:Hp}{E:XK}{ns:C3}{F:Addr}{x:Str}{np ah pos:Pos}{e:Expr}{fe:aj->DM D}
  (T:XTab K mg ns F) (hx:x∈ns) (he:DE (bV P w K mg base N qual scope f cd A outer s H E) E e fe)
  (hg:Gl (bV P w K mg base N qual scope f cd A outer s H E) x:=by rfl) (hd:(x==("__debug__":Str))=false:=by decide)
  (ax:starEach [e] (bV P w K mg base N qual scope f cd A outer s H E).env=[(false,eval e (bV P w K mg base N qual scope f cd A outer s H E).env)]:=by rfl) :
  DS (bV P w K mg base N qual scope f cd A outer s H E) E (.Raise (some (.Call (.Name x np) [e] [] ah)) none pos) (λδ=>fe δ>>=λz=>raise x):=by
 obtain⟨C,xc,_,_⟩:=T.cls x hx;refine⟨PS.mono (L2.KR xc he.h hg hd ax) λD σ H h=>?_⟩
 walk_at "b";refine⟨ρ,δ,M,ev,j,g1.bind λρ1 H1 M1 v d e1 j1 c1 g2=>⟨rfl,?_⟩⟩
 obtain⟨r,er,p⟩:=g2;cases er;exact p ρ1 H1 C .refl j1 xc.at_
def Ev.forget(h:Ev mg ρ H σ δ):Ev mg ρ H (σ.set i none) (δ.set i none):=by
 refine⟨by rw[Ye,Ye,h.len],λj x q=>?_⟩
 by_cases e:j=i
 ·subst e;have hj:j<(δ.set j none).length:=(Wj.mp q).1;rw[Ye]at hj;rw[W8 hj]at q;cases q
 ·rw[Xh (λz=>e z.symm)]at q ⊢
  exact h.val j x q
def Ky(i:Nat):Fl->DM Fl
 |.nx δ=>pure (.nx (δ.set i none))
 |.bk δ=>pure (.bk (δ.set i none))
 |.ct δ=>pure (.ct (δ.set i none))
 |.rt d=>pure (.rt d)
def Aj(ns:C3)(n i:Nat)(fb:aj->DM Fl)(fh:Str->aj->DM Fl)(δ:aj):DM Fl:=λM=>match fb δ M with
 |some (.exc c,M')=>if ns.contains c then (dj (fh c ((List.replicate n none).set i (some (.exn 0))))>>=Ky i) M' else none
 |r=>r
def Wc(ns:C3)(c:Str):List D->Mo->Option D
 |[.exn _,.cls k],_=>if ns.contains k then some (.bl (c==k)) else none
 |_,_=>none
def SJ(a:α)(f:α->DM β):((Pure.pure a:DM α)>>=f)=f a:=rfl
def UJ(a:α):(opt (some a):DM α)=Pure.pure a:=rfl
def Sx(m:DM α)(f:α->DM β)(g:β->DM γ):(m>>=f)>>=g=m>>=λa=>f a>>=g:=by
 funext M;show DM.bind (DM.bind m f) g M=DM.bind m (λa=>DM.bind (f a) g) M
 unfold DM.bind;cases m M with
 |none=>rfl
 |some r=>obtain⟨r,M'⟩:=r;cases r<;>rfl
section
variable{X:Cx}{E:XK}{a b c:Expr}{fa fb fc:aj->DM D}{pos:Pos}
def boolsOf:List D->Option (List Bool)
 |[]=>some []
 |.bl b::l=>(boolsOf l).map (b::·)
 |_=>none
theorem sZ:∀ {xs:List V}{l:List D}{bs:List Bool},Cvs mg ρ H xs l->boolsOf l=some bs->xs=bs.map V.bl
 |_,_,_,.nil,e=>by cases e;rfl
 | _,_,_,.cons (d:=d) c cs,e=>by
   cases d with
   |bl i=>obtain⟨ms,h1,rfl⟩:=Wk.mp e;cases c;rw[sZ cs h1];rfl
   |_=>cases e
def Qw:D->List D->DM D
 |x,[.bl b]=>rd λM=>(aN x M).bind λl=>(boolsOf l).map λbs=>.int (bs.countP (·== b):Nat)
 |_,_=>stuck
def Hn:FJ X E "list.count" Qw:=by
 intro aaW s σ H x xs v us Q I rx rs q;obtain⟨ρ,M,d,ds,j,cx,cs,g⟩:=q;cases cs with
 |nil=>obtain⟨r,e,_⟩:=g;cases e
 | cons c cs=>cases cs with
   |cons _ _=>obtain⟨r,e,_⟩:=g;cases c<;>cases e
   | nil=>cases c with
     |bl b=>obtain⟨d',e,p⟩:=Go.rd g;obtain⟨l,h1,e1⟩:=Wv.mp e;obtain⟨bs,h2,rfl⟩:=Wk.mp e1;obtain⟨a,ys,rfl,ha,cl⟩:=cL j cx h1;have:=sZ cl h2;subst this;exact Kg (X:=X) aaW s σ H _ _ v us Q I rx rs ⟨a,bs,b,rfl,rfl,ha,p ρ H _ .refl j (.int _)⟩
     |_=>obtain⟨r,e,_⟩:=g;cases e
def findB(b:Bool):List Bool->Option Nat
 |[]=>none
 |c::l=>if c==b then some 0 else (findB b l).map (·+ 1)
theorem uQ{b:Bool}:∀ {l:List Bool}{n:Nat},findB b l=some n->l[n]?=some b/\∀ m c,m<n->l[m]?=some c->(c == b)=false
 |[],n,h=>by cases h
 | c::l,n,h=>by
   unfold findB at h;split at h
   ·rename_i hc;cases h;exact⟨by rw[Zi.mp hc];rfl,λm c hm=>absurd hm (Nat.not_lt_zero _)⟩
   ·rename_i hc;obtain⟨k,h1,rfl⟩:=Wk.mp h;obtain⟨a1,a2⟩:=uQ h1;refine⟨by simpa using a1,λm c' hm e=>?_⟩
    cases m with
    |zero=>simp at e;subst e;simpa using hc
    |succ m=>exact a2 m c' (by lia) (by simpa using e)
def QW:D->List D->DM D
 |x,[.bl b]=>rd λM=>(aN x M).bind λl=>(boolsOf l).bind λbs=>(findB b bs).bind λn=>if n<1000 then some (.int (n:Nat)) else none
 |_,_=>stuck
def Ho:FJ X E "list.index" QW:=by
 intro aaW s σ H x xs v us Q I rx rs q;obtain⟨ρ,M,d,ds,j,cx,cs,g⟩:=q;cases cs with
 |nil=>obtain⟨r,e,_⟩:=g;cases e
 | cons c cs=>cases cs with
   |cons _ _=>obtain⟨r,e,_⟩:=g;cases c<;>cases e
   | nil=>cases c with
     | bl b=>
       obtain⟨d',e,p⟩:=Go.rd g;obtain⟨l,h1,e1⟩:=Wv.mp e;obtain⟨bs,h2,e2⟩:=Wv.mp e1;obtain⟨n,h3,e3⟩:=Wv.mp e2;split at e3
       ·rename_i hn;cases e3;obtain⟨a,ys,rfl,ha,cl⟩:=cL j cx h1;have:=sZ cl h2;subst this;obtain⟨f1,f2⟩:=uQ h3;exact Kh (X:=X) aaW s σ H _ _ v us Q I rx rs ⟨a,bs,b,n,rfl,rfl,ha,f1,f2,hn,p ρ H _ .refl j (.int _)⟩
       ·cases e3
     |_=>obtain⟨r,e,_⟩:=g;cases e
end
theorem jc:∀ {names:List (Str×NameKind)}{m:Nat}{y:Str}{c:Addr},(y,c)∈cellsFrom m names []->(y,NameKind.cell)∈names
 |[],_,_,_,h=>nomatch h
 | (n,k)::r,m,y,c,h=>by
   unfold cellsFrom at h;split at h
   ·rename_i hk;rw[cI]at h;rcases WF.mp h with z | z
    ·exact .tail _ (jc z)
    ·cases Wx.mp z;have gu:k=.cell:=by cases k<;>first | rfl | cases hk
     rw[gu];exact .head _
   ·exact .tail _ (jc h)
def isC:NameKind->Bool
 |.cell=>true
 |_=>false
def QX(h:isC k=true):k=.cell:=by cases k<;>first | rfl | cases h
set_option tactic.hygienic true in
def Oi(h:(names.all λp=>!isC p.2 || (match names.lookup p.1 with | some k=>isC k | none=>false))=true):∀(m:Nat) y c,(cellsFrom m names []).lookup y=some c->names.lookup y=some .cell:=λm y c e=>by
 have hm:=jc (XM e);have q:=Yh.mp h _ hm;simp only[isC,Bool.not_true,Bool.false_or]at q;split at q
 ·rename_i k hk;rw[hk,QX q]
 ·cases q
def Ol{cl:A9}{names:List (Str×NameKind)}(h:yp (λp=>(match names.lookup p.1 with | some k=>isC k | none=>false)=false) cl):∀y c,cl.lookup y=some c->names.lookup y≠some .cell:=λy c e z=>by have:=nF h (y,c) (L2.mem_of_lookup e);simp only[z,isC]at this;cases this
end L3
namespace L3
open L2
@[simp] theorem aq(a:α)(f:α->DM β):((Pure.pure a:DM α)>>=f)=f a:=id rfl
@[simp] theorem aG(m:DM α)(f:α->DM β)(g:β->DM γ):(m>>=f)>>=g=m>>=λa=>f a>>=g:=Sx m f g
@[simp] theorem dY(a:α):(opt (some a):DM α)=Pure.pure a:=id rfl
@[simp] theorem Ml(a:α):dj (Pure.pure a:DM α)=Pure.pure a:=id rfl
@[simp] theorem Va(c:Str)(f:α->DM β):((raise c:DM α)>>=f)=raise c:=id rfl
def cB{α:Type}{f:Mo->Option α}{a:α}(h:∀M,f M=some a):(rd f:DM α)=Pure.pure a:=by funext M;show (f M).map _=_;rw[h M];rfl
@[simp] theorem Mp(f g:aj->DM Fl)(δ:aj):qG f g δ=f δ>>=λr=>match r with
 |.nx δ'=>g δ'
 |r=>Pure.pure r:=id rfl
@[simp] theorem bj(i:Nat)(δ:aj):b8 i δ=opt ((δ[i]?).join):=id rfl
@[simp] theorem fu(b:Bool):gF (.bl b)=Pure.pure b:=id rfl
@[simp] theorem HJ(p n:Nat)(fb:aj->DM Fl)(ds:List D):aD p n fb ds=if ds.length=p then fb (aZ n ds)>>=λr=>match r with
 |.nx _=>Pure.pure .non
 |.rt d=>Pure.pure d
 |_=>stuck else stuck:=id rfl
@[simp] theorem Vb(n:Nat)(ds:List D):aZ n ds=ds.map some++List.replicate (n-ds.length) none:=id rfl
@[simp] theorem dU(i:Nat)(d:D)(δ:aj):gN i d δ=Pure.pure (δ.set i (some d)):=id rfl
@[simp] theorem We(n:Nat)(fs:List D->aj->DM aj)(l:List D)(δ:aj):gT n fs (.tup l) δ=if l.length=n then fs l δ else stuck:=id rfl
@[simp] theorem V7(f:D->aj->DM aj)(fs:List D->aj->DM aj)(d:D)(l:List D)(δ:aj):mR f fs (d::l) δ=f d δ>>=λδ'=>fs l δ':=id rfl
@[simp] theorem V8(δ:aj):xu [] δ=Pure.pure δ:=id rfl
@[simp] theorem Mm(i j:Nat)(fa:aj->DM (List D))(δ:aj):vU i j fa δ=fa δ>>=λl=>match l with
 |[v,w]=>Pure.pure (.nx ((δ.set i (some v)).set j (some w)))
 |_=>stuck:=id rfl
@[simp] theorem Tp(i j:Int):(rd (cX (.int i) (.int j)):DM D)=Pure.pure (.int (i+j)):=id rfl
@[simp] theorem TQ(i j:Int):(rd (Ad (.int i) (.int j)):DM D)=Pure.pure (.int (i-j)):=id rfl
@[simp] theorem U3(i j:Int):(rd (Rc (.int i) (.int j)):DM D)=Pure.pure (.bl (decide (i<j))):=id rfl
@[simp] theorem U0(i j:Int):(rd (BV (.int i) (.int j)):DM D)=Pure.pure (.bl (decide (i<=j))):=id rfl
@[simp] theorem UW(i j:Int):(rd (mU (.int i) (.int j)):DM D)=Pure.pure (.bl (decide (j<i))):=id rfl
@[simp] theorem UV(i j:Int):(rd (GK (.int i) (.int j)):DM D)=Pure.pure (.bl (decide (j<=i))):=id rfl
@[simp] theorem Wb(i:Int):(rd (Km (.int i)):DM D)=Pure.pure (.int (-i)):=id rfl
@[simp] theorem V3(i:Int):(rd (Ut [.int i]):DM D)=Pure.pure (.int (if i<0 then -i else i)):=id rfl
@[simp] theorem VH(i j:Int):(rd (Ef [.int i,.int j]):DM D)=Pure.pure (.int (if j > i then j else i)):=id rfl
@[simp] theorem VJ(i j:Int):(rd (Td [.int i,.int j]):DM D)=Pure.pure (.int (if j<i then j else i)):=id rfl
def Tv{i j:Int}(h:0<j):(rd (je (.int i) (.int j)):DM D)=Pure.pure (.int (i%j)):=cB λM=>by simp[cY,h]
def Mj{i j:Int}(h:fY i j=true):(rd (n6 (.int i) (.int j)):DM D)=Pure.pure (.int (i*j)):=cB λM=>by simp[cY,h]
def RM{i j:Int}(h:qQ i j=true):(rd (uP (.int i) (.int j)):DM D)=Pure.pure (.int (i / j)):=cB λM=>by simp[cY,h]
def TF{i j:Int}(h:Ma i j=true):(rd (KQ (.int i) (.int j)):DM D)=Pure.pure (.int (i^j.toNat)):=cB λM=>by simp[cY,h]
def bits_le(h:i.natAbs<2^n):Builtin.Int.intBits i<=n:=by
 unfold Builtin.Int.intBits;split
 ·exact X3 _
 ·rename_i h0;have:i.natAbs≠0:=by intro z;apply h0;simp;lia
  exact (Nat.log2_lt this).mpr h
def U8(h:i.natAbs<2^64):fY i j=true:=by
 unfold fY;have:¬ (Builtin.Int.intBits i > shortFactorBits):=by have:=bits_le h;unfold shortFactorBits;lia
 simp[this]
def Oe(h:j.natAbs<2^64):fY i j=true:=by
 unfold fY;have:¬ (Builtin.Int.intBits j > shortFactorBits):=by have:=bits_le h;unfold shortFactorBits;lia
 simp[this]
def Np(h0:0<j)(h:j.natAbs<2^1000):qQ i j=true:=by
 unfold qQ;have a:Builtin.divisionGoesByPylong i j=false:=by
  unfold Builtin.divisionGoesByPylong;have hj:j.natAbs≠0:=by lia
  have hl:j.natAbs.log2<1000:=(Nat.log2_lt hj).mpr h;have h0':(j==0)=false:=by simp;lia
  simp only[h0'];have:¬ (j.natAbs.log2 / 30+1 > 300):=by lia
  simp[this]
 simp[a,h0]
def zN{a b:Nat}(h0:0<b):(rd (je (.int (a:Int)) (.int (b:Int))):DM D)=Pure.pure (.int ((a%b:Nat):Int)):=by rw[Tv (by lia),Int.natCast_emod]
def nD(n:Nat):D:=.int (n:Int)
def nT(l:C0):D:=.tup (l.map nD)
def pK{α:Type}{l:List α}{i:Nat}{a:α}(h:l[i]?=some a):atI l (i:Int)=some a:=by
 have hi:=(Wj.mp h).1;unfold atI ixN;rw[Wq (by lia),Wq (by lia)]
 simpa using h
def vg{l:List D}{i:Nat}{a:D}(h:l[i]?=some a):(rd (dC (.tup l) (.int (i:Int))):DM D)=Pure.pure a:=cB λM=>pK h
def Tr{l:List D}{i:Nat}{a:D}(h:l[i]?=some a):(rd (dC (.lst l) (.int (i:Int))):DM D)=Pure.pure a:=cB λM=>pK h
def Tt{l:C0}{i:Nat}{a:Nat}(h:l[i]?=some a):(rd (dC (nT l) (.int (i:Int))):DM D)=Pure.pure (nD a):=vg (by simp[h])
@[simp] theorem VG(l:List D):(rd (ik [.tup l]):DM D)=Pure.pure (.int (l.length:Int)):=id rfl
@[simp] theorem VD(l:List D):(rd (ik [.lst l]):DM D)=Pure.pure (.int (l.length:Int)):=id rfl
@[simp] theorem VF(l:C1):(rd (ik [.scr l]):DM D)=Pure.pure (.int (l.length:Int)):=id rfl
@[simp] theorem VP(l:List D):(rd (iZ [.lst l]):DM D)=Pure.pure (.tup l):=id rfl
@[simp] theorem VR(l:List D):(rd (iZ [.tup l]):DM D)=Pure.pure (.tup l):=id rfl
theorem nW:∀l:C1,intsOf (l.map D.int)=some l
 |[]=>rfl
 |i::l=>by simp[intsOf,nW l]
theorem iJ:∀l:C0,intsOf (l.map nD)=some (l.map λn:Nat=>(n:Int))
 |[]=>rfl
 |i::l=>by simp[intsOf,nD];exact iJ l
theorem uv:∀l:C0,(l.map λn:Nat=>(n:Int)).sum=((l.sum:Nat):Int)
 |[]=>rfl
 |i::l=>by simp[uv l]
@[simp] theorem VN(l:C0):(rd (Ff [nT l]):DM D)=Pure.pure (nD l.sum):=cB λM=>by show (intsOf (l.map nD)).map _=_;rw[iJ];simp[nD,uv]
@[simp] theorem VM(l:C0):(rd (Ff [.lst (l.map nD)]):DM D)=Pure.pure (nD l.sum):=cB λM=>by show (intsOf (l.map nD)).map _=_;rw[iJ];simp[nD,uv]
@[simp] theorem vh{n:Nat}(h:n<2^62):oE [.int (n:Int)]=some (.fix ((List.range n).map nD)):=by
 have:oH (n:Int)=true:=by unfold oH;exact WY ⟨by lia,by lia⟩
 simp[oE,this,oF,nD]
@[simp] theorem V4(l:List D):gO (.tup l)=some (.fix l):=id rfl
def Tu(h:l.length<=1000000):Hm l=Pure.pure (.tup l):=by
 have:eG l=true:=by unfold eG;exact WY (by show l.length<=2^24;lia)
 simp[Hm,this]
def fB(h:l.length<=1000000):iQ l=Pure.pure (.lst l):=by
 have:eG l=true:=by unfold eG;exact WY (by show l.length<=2^24;lia)
 simp[iQ,this]
@[simp] theorem vV(fg:D->aj->DM aj)(ft:aj->DM Bool)(fb:aj->List D->DM (aj×List D))(ds:List D)(δ:aj)(l:List D):cN fg ft fb (.fix ds) δ l=bB fg ft fb ds δ l:=id rfl
theorem tZ(S:aj->Prop)(en:D->aj)(p:D->Bool)(e:D->D):∀ (ds:List D) (δ:aj) (l:List D),S δ->l.length + ds.length<=1000000->
  (∀d∈ds,∀δ,S δ->fg d δ=Pure.pure (en d)/\S (en d))->(∀d∈ds,ft (en d)=Pure.pure (p d))->(∀d∈ds,p d=true->fe (en d)=Pure.pure (e d))->∃δ',bB fg ft (bY fe) ds δ l=Pure.pure (δ',l++(ds.filter p).map e)
 |[],δ,l,_,_,_,_,_=>⟨δ,by simp[bB]⟩
 | d::ds,δ,l,s,hl,h0,h1,h2=>by
   have a:=h0 d (WP ..) δ s;have b:=h1 d (WP ..);have hl':l.length+(ds.length+1)<=1000000:=by simpa using hl
   have lt:l.length<sizeLine:=by show l.length<2^24;lia
   have ih:=λl' hl'=>tZ S en p e ds (en d) l' a.2 hl' (λx hx=>h0 x (W6 _ hx)) (λx hx=>h1 x (W6 _ hx)) (λx hx=>h2 x (W6 _ hx))
   by_cases hp:p d=true
   ·have c:=h2 d (WP ..) hp;obtain⟨δ',q⟩:=ih (l++[e d]) (by simp;lia)
    refine⟨δ',?_⟩;simp[bB,a.1,b,hp,bY,c,lt,q]
   ·obtain⟨δ',q⟩:=ih l (by lia)
    refine⟨δ',?_⟩;simp[bB,a.1,b,hp,q]
@[simp] theorem zP(l:List D):Out.run .val l=Pure.pure (.lst l):=id rfl
def SN{ft:aj->DM Bool}{fe:aj->DM D}{x:Option D}{rest:aj}{ds:List D}(p:D->Bool)(e:D->D)(hl:ds.length<=1000000)(h1:∀d∈ds,ft (some d::rest)=Pure.pure (p d))(h2:∀d∈ds,p d=true->fe (some d::rest)=Pure.pure (e d)){β:Type}{k:aj×List D->DM β}{k':List D->DM β}(hk:∀q,k q=k' q.2):
  (dj (bB (gN 0) ft (bY fe) ds (x::rest) [])>>=k)=k' ((ds.filter p).map e):=by
 obtain⟨δ',q⟩:=tZ (fg:=gN 0) (ft:=ft) (fe:=fe) (λδ=>∃x,δ=x::rest) (λd=>some d::rest) p e ds (x::rest) [] ⟨x,rfl⟩ (by simpa using hl) (λd _ δ ⟨x,h⟩=>⟨by subst h;rfl,_,rfl⟩) h1 h2
 rw[q];simp[hk]
@[simp] theorem U9(m:DM α):(m>>=λa=>(Pure.pure a:DM α))=m:=by
 funext M;show DM.bind m _ M=m M;unfold DM.bind;cases m M with
 |none=>rfl
 |some r=>obtain⟨r,M'⟩:=r;cases r<;>rfl
def nY:Option D->List D->Option D
 |x,[]=>x
 |_,d::ds=>nY (some d) ds
theorem eO:∀ (as bs:C1),PyData.eqvAll (as.map .int) (bs.map .int)=decide (as=bs)
 |[],[]=>by simp[PyData.eqvAll]
 |[],b::bs=>by simp[PyData.eqvAll]
 |a::as,[]=>by simp[PyData.eqvAll]
 |a::as,b::bs=>by rw[W2,W2];simp only[PyData.eqvAll,PyData.eqv,eO as bs];by_cases h:a=b<;>by_cases h2:as=bs<;>simp[h,h2]
theorem cO:∀l:C1,dW (l.map D.int)=some (l.map PyData.int)
 |[]=>rfl
 |i::l=>by simp[dW,toPy,cO l]
theorem lay_ints:∀l:C1,PyData.canLayAll0 (l.map PyData.int)=true
 |[]=>rfl
 |i::l=>by simp[PyData.canLayAll0,PyData.canLay0,lay_ints l]
theorem cF:∀ l:C1,PyData.depthAll (l.map PyData.int)<=1
 |[]=>by simp[PyData.depthAll]
 |i::l=>by
   have:=cF l;simp only[List.map_cons,PyData.depthAll,PyData.depth]
   lia
@[simp] theorem Tq(i j:Int):(rd (dg (.int i) (.int j)):DM D)=Pure.pure (.bl (decide (i=j))):=cB λM=>by simp[dg,eqB,eqP,toPy,PyData.canLay0,PyData.depth,PyData.eqv];rw[WW];simp
@[simp] theorem Tw(i j:Int):(rd (gQ (.int i) (.int j)):DM D)=Pure.pure (.bl (!decide (i=j))):=cB λM=>by simp[gQ,eqB,eqP,toPy,PyData.canLay0,PyData.depth,PyData.eqv];rw[WW];simp
@[simp] theorem V6(i j:Str):(rd (dg (.str i) (.str j)):DM D)=Pure.pure (.bl (decide (i=j))):=id rfl
@[simp] theorem Tz(i j:Str):(rd (gQ (.str i) (.str j)):DM D)=Pure.pure (.bl (!decide (i=j))):=id rfl
def yG(a b:C1):eqB (.tup (a.map D.int)) (.tup (b.map D.int))=some (decide (a=b)):=by
 have:=cF a;have h:∀n,n<=1->1+n<=60:=λn h=>by lia
 simp only[eqB,eqP,toPy,cO,Option.map_some,PyData.canLay0,lay_ints,PyData.depth,PyData.eqv,eO];simp
 lia
def jC(l:C0):nT l=.tup ((l.map λn:Nat=>(n:Int)).map D.int):=by simp[nT,nD,Function.comp_def]
def gZ{a b:C0}:(a.map λn:Nat=>(n:Int))=(b.map λn:Nat=>(n:Int)) ↔ a=b:=Zk λx y (h:(x:Int)=(y:Int))=>by lia
@[simp] theorem V5(a b:C0):(rd (dg (nT a) (nT b)):DM D)=Pure.pure (.bl (decide (a=b))):=cB λM=>by rw[jC,jC,dg,yG];simp[gZ]
@[simp] theorem V9(a b:C0):(rd (gQ (nT a) (nT b)):DM D)=Pure.pure (.bl (!decide (a=b))):=cB λM=>by rw[jC,jC,gQ,yG];simp[gZ]
theorem Dc:∀l:List Bool,gM (l.map D.bl)=some l
 |[]=>rfl
 |b::l=>by simp[gM,K7,Dc l]
@[simp] theorem qj(l:List Bool):(rd (pJ [.lst (l.map D.bl)]):DM D)=Pure.pure (.bl (l.all id)):=cB λM=>by simp[pJ,aN,Dc]
theorem Jc:∀ l:C0,gM (l.map nD)=some (l.map λn=>n != 0)
 |[]=>rfl
 |b::l=>by simp only[List.map_cons,gM,Jc l,nD,K7];congr 2;rw[WW];simp
@[simp] theorem VB(l:C0):(rd (Qh [nT l]):DM D)=Pure.pure (.bl (l.any (·!= 0))):=cB λM=>by simp[Qh,nT,Jc,List.any_map]
def xx(h:∀M,tyOf d M=some t)(hc:tys.contains c=true):(rd (ig [d,.ty c]):DM D)=Pure.pure (.bl (Fe t c)):=cB λM=>by simp only[ig,h M,Option.bind_some,hc,if_true]
@[simp] theorem RT(b:Bool):(rd (jV (.bl b)):DM Bool)=Pure.pure b:=id rfl
def my(d:D):Prop:=∃s,(rd (rG [d]):DM D)=Pure.pure (.str s)
def d8(h:toPy d=some p)(h1:p.showable=true)(h2:p.depth<=60)(h3:dM p<=sizeLine):my d:=⟨p.shown,cB λM=>by simp[rG,KY,h,h1,h2,h3]⟩
def qH{l:C1}(h:∀ i∈l,i.natAbs<2 ^ 1000):PyData.showableAll (l.map PyData.int)=true:=by
 induction l with
 |nil=>rfl
 | cons i l ih=>
   have h0:=h i (by simp)
   have:i.natAbs.log2<1920:=by
    rcases aab i.natAbs with z | z
    ·rw[z];decide
    ·exact Wt ((Nat.log2_lt (by lia)).mpr h0) (by decide)
   simp[PyData.showableAll,PyData.showable,this,ih λi hi=>h i (by simp[hi])]
theorem nJ:∀l:C1,fW (l.map PyData.int)=1923*l.length
 |[]=>rfl
 |i::l=>by simp only[List.map_cons,fW,dM,nJ l,List.length_cons];lia
def Im{l:C1}(h:∀i∈l,i.natAbs<2^1000)(hl:l.length<=1000):my (.tup (l.map D.int)):=by
 have d:=cF l;refine d8 (p:=.tuple (l.map PyData.int)) (by simp[toPy,cO]) (by simp only[PyData.showable];exact qH h) (by simp only[PyData.depth];lia) ?_
 simp only[dM,nJ];show _<=2^24
 lia
@[simp] theorem V0(l m:List D):U7 [.tup l,.tup m]=some (.fix (pairs l m)):=id rfl
def Rn{α:Type}(m:DM α)(M:Mo)(Q:α->Mo->Prop):Prop:=∃a M',m M=some (.ok a,M')/\Q a M'
theorem Rn.bind(h:Rn m M Q1)(k:∀a M',Q1 a M'->Rn (f a) M' Q):Rn (m>>=f) M Q:=by obtain⟨a,M',e,q⟩:=h;obtain⟨b,M2,e2,q2⟩:=k a M' q;refine⟨b,M2,?_,q2⟩;show DM.bind m f M=_;unfold DM.bind;rw[e];exact e2
theorem Rn.pure(q:Q a M):Rn (Pure.pure a) M Q:=⟨a,M,rfl,q⟩
def Rn.mono{α:Type}{m:DM α}{Q R:α->Mo->Prop}(h:Rn m M Q)(k:∀a M',Q a M'->R a M'):Rn m M R:=by obtain⟨a,M',e,q⟩:=h;exact⟨a,M',e,k a M' q⟩
theorem Rn.rd(h:f M=some a)(q:Q a M):Rn (L3.rd f) M Q:=⟨a,M,by unfold L3.rd;rw[h];rfl,q⟩
def Rn.bindRd(a:α)(h:f M=some a)(q:Rn (k a) M Q):Rn (L3.rd f>>=k) M Q:=Rn.bind (Rn.rd h (Q:=λb M'=>b=a/\M'=M) ⟨rfl,rfl⟩) (λb M' ⟨e1,e2⟩=>by rw[e1,e2];exact q)
def Rn.call(hp:ds.length=p)(h:Rn (fb (aZ n ds)) M λr M'=>∃d,r=.rt d/\Q d M'):Rn (aD p n fb ds) M Q:=by
 unfold aD;rw[Wq hp];refine Rn.bind h λr M' ⟨d,e,q⟩=>?_
 subst e;exact Rn.pure q
structure Sb(p:Nat)(M M':Mo):Prop where
 le:M.length<=M'.length
 keep:∀q,q≠p->q<M.length->M'[q]?=M[q]?
def Sb.refl:Sb p M M:=⟨Wn _,λz z z=>rfl⟩
theorem Sb.trans(h:Sb p M M1)(k:Sb p M1 M2):Sb p M M2:=⟨W0 h.le k.le,λq hq hl=>(k.keep q hq (Wt hl h.le)).trans (h.keep q hq hl)⟩
theorem Sb.set:Sb p M (M.set p o):=⟨by simp,λq hq hl=>Xh (λz=>hq z.symm)⟩
def Sb.push:Sb p M (M++[o]):=⟨by simp,λq hq hl=>WD hl⟩
def Sb.at(h:Sb p M M')(hq:q≠p)(e:M[q]?=some o):M'[q]?=some o:=(h.keep q hq (Wj.mp e).1).trans e
def Sb.new(h:M'.length=M.length\/M.length<=M'.length)(hq:M.length<=q)(k:Sb q M' M2)(h1:Sb p M M'):Sb p M M2:=⟨W0 h1.le k.le,λr hr hl=>(k.keep r (by lia) (Wt hl h1.le)).trans (h1.keep r hr hl)⟩
def Ob(h:l.length<=1000000):fM l M=some (.ok (.ref M.length),M++[.lst l]):=by
 have:eG l=true:=by unfold eG;exact WY (by show l.length<=2^24;lia)
 unfold fM;rw[Wq this]
theorem Rn.fM(h:l.length<=1000000)(q:Rn (k (.ref M.length)) (M++[.lst l]) Q):Rn (L3.fM l>>=k) M Q:=Rn.bind ⟨_,_,Ob h,(⟨rfl,rfl⟩:D.ref M.length=.ref M.length/\M++[.lst l]=M++[.lst l])⟩ (Q1:=λa M'=>a=.ref M.length/\M'=M++[.lst l]) (λa M' ⟨e1,e2⟩=>by rw[e1,e2];exact q)
def jJ{n:Nat}{l:List D}{i:Nat}(h:M[n]?=some (.lst l))(hi:l[i]?=some a):dC (.ref n) (.int (i:Int)) M=some a:=by show (aN (.ref n) M).bind _=_;simp only[aN,h,Option.bind_some];exact pK hi
def G5(h:i<n):ixN n (i:Int)=some i:=by unfold ixN;rw[Wq (by lia),Wq (by lia)];simp
def rH{n:Nat}{l:List D}{i:Nat}(h:M[n]?=some (.lst l))(hi:i<l.length):Ex (.ref n) (.int (i:Int)) v M=some (.ok (),M.set n (.lst (l.set i v))):=by delta Ex;dsimp only;rw[h];dsimp only;rw[G5 hi]
def mF(h:M[n]?=some (.lst l))(hl:l.length<1000000):Jp (.ref n) [v] M=some (.ok .non,M.set n (.lst (l++[v]))):=by
 have:l.length<sizeLine:=by show l.length<2^24;lia
 delta Jp;dsimp only;rw[h];dsimp only;rw[Wq this]
def Rn.run(h:m M=some (.ok a,M'))(q:Rn (k a) M' Q):Rn (m>>=k) M Q:=Rn.bind (Q1:=λb M2=>b=a/\M2=M') ⟨a,M',h,rfl,rfl⟩ (λb M2 ⟨e1,e2⟩=>by rw[e1,e2];exact q)
theorem bL(I:Nat->aj->Mo->Prop):∀ (ds:List D) (i:Nat) (δ:aj) (M:Mo),I i δ M->(∀ j d δ M,ds[j]?=some d->I (i + j) δ M->Rn (tg d δ >>= fb) M λr M'=>∃ δ',r=.nx δ'/\I (i + j + 1) δ' M')->Rn (forL tg fb ds δ) M λr M'=>∃ δ',r=.nx δ'/\I (i + ds.length) δ' M'
 |[],i,δ,M,h,_=>Rn.pure ⟨δ,rfl,h⟩
 | d::ds,i,δ,M,h,st=>by
   have s:=st 0 d δ M rfl h;have e:forL tg fb (d::ds) δ=(tg d δ>>=fb)>>=λr=>match r with
    |.nx δ2=>forL tg fb ds δ2
    |.ct δ2=>forL tg fb ds δ2
    |.bk δ2=>Pure.pure (.nx δ2)
    |.rt d=>Pure.pure (.rt d):=by rw[aG];rfl
   rw[e];refine Rn.bind s λr M' ⟨δ',e,h'⟩=>?_
   subst e;have ih:=bL I ds (i+1) δ' M' h' (λj d δ M hj hI=>by
    have:=st (j+1) d δ M (by simpa using hj) (by rw[show i+(j+1)=i+1+j by lia];exact hI)
    rw[show i+1+j+1=i+(j+1)+1 by lia];exact this)
   rw[show i+(d::ds).length=i+1+ds.length by simp;lia]
   exact ih
section
variable{X:Cx}{E:XK}
def GQ:PGet X (λx y H Q=>∃p xs i v,x=.ref p/\y=.int i/\0<=i/\SqL X.K H p xs/\atI xs i=some v/\Q v H):=by
 intro aaW s σ H x y ov iv Q I rx ry h;obtain⟨p,xs,i,z,rfl,rfl,h0,hq,he,q⟩:=h;cases rx;obtain⟨t,rfl⟩:=ry;obtain⟨its,r,pl,hz⟩:=I.list hq;obtain⟨j,h1,h2,h3,h4,h5⟩:=atI_get he;obtain⟨w,ew,fm⟩:=r.get h2;have hl:=r.length;have hn:=line63;have fin:EP X aaW σ Q w s:=⟨z,H,I,fm,q⟩;have hj:i.toNat=j:=by rw[seqIndex_of h0 h5]at h1;exact Ws h1
 exact wpAny_getItem_list pl.isList h0 (by lia) (by rw[hj];simpa using ew) fin
def Q5:D->D->Mo->Option D
 |x,.int i,M=>if 0<=i then (aN x M).bind λl=>atI l i else none
 |_,_,_=>none
def S8:PGet X (rD X.mg E (λx y=>rd (Q5 x y))):=by
 intro aaW s σ H x y ov iv Q I rx ry h;obtain⟨ρ,M,dx,dy,j,cx,cy,go⟩:=h;obtain⟨d,e,p⟩:=go.rd;unfold Q5 at e;split at e
 ·cases cy;split at e
  ·rename_i h0;obtain⟨l,h1,e1⟩:=Wv.mp e;obtain⟨a,xs,rfl,ha,c⟩:=cL j cx h1;obtain⟨w,e2,cw⟩:=c.at e1;exact GQ (X:=X) aaW s σ H _ _ ov iv Q I rx ry ⟨_,_,_,_,rfl,rfl,h0,SqL.of ha,e2,p ρ H _ .refl j cw⟩
  ·cases e
 ·cases e
def Nq(ho:DE X E o fo)(hi:DE X E i fi)(hop:bZ X E (inplaceOp op) gop)(he:DE X E e fe)
  (ha:∀ov iv new,augStore i ov iv new=(do holding [new,ov,iv] (setItem ov iv new);release [new,ov,iv] [];pure .next):=by intros;rfl) :
  DS X E (.AugAssign (.Subscript o i oo) op e pos) (λδ=>fo δ>>=λa=>fi δ>>=λk=>rd (Q5 a k)>>=λx=>fe δ>>=λy=>gop x y>>=λz=>Ex a k z>>=λw=>pure (.nx δ)):=
 ⟨PS.mono (ps_augS (tip:=rD X.mg E gop) ho.h hi.h (S8 (E:=E)) he.h hop (xG (E:=E)) ha) fun D σ H h=>by
  walk_at "b";refine⟨ρ,δ,M,ev,j,g1.bind λρ1 H1 M1 a da e1 j1 c1 g2=>⟨ρ1,δ,M1,ev.mono e1,j1,g2.bind λρ2 H2 M2 k dk e2 j2 c2 g3=>⟨ρ2,M2,da,dk,j2,c1.mono e2,c2,g3.bind λρ3 H3 M3 x dx e3 j3 c3 g4=>?_⟩⟩⟩
  have ev3:=((ev.mono e1).mono e2).mono e3;refine⟨ρ3,δ,M3,ev3,j3,g4.bind λρ4 H4 M4 y dy e4 j4 c4 g5=>⟨ρ4,M4,dx,dy,j4,c3.mono e4,c4,g5.bind λρ5 H5 M5 z dz e5 j5 c5 g6=>?_⟩⟩
  refine⟨ρ5,M5,da,dk,dz,j5,(((c1.mono e2).mono e3).mono e4).mono e5,((c2.mono e3).mono e4).mono e5,c5,g6.bind λρ6 H6 M6 _ _ e6 j6 _ g7=>?_⟩
  exact g7.pure ρ6 H6 σ .refl j6 (((ev3.mono e4).mono e5).mono e6)⟩
end
end L3
namespace L3
open L2
open PyProof.Rows hiding St
def Ge:bootBuiltins "enumerate"=some (.type "enumerate"):=by decide +kernel
def jf(i:Nat):List D->List D
 |[]=>[]
 |x::xs=>.tup [.int (i:Int),x]::jf (i+1) xs
def xq:List D->Option Itn
 |[x]=>(frz x).map λp=>.fix (jf 0 p.2)
 |_=>none
theorem vP:∀ (l:List D) (k i:Nat),(jf k l)[i]?=(l[i]?).map λx=>.tup [.int ((k + i:Nat):Int),x]
 |[],k,i=>by simp[jf]
 |x::xs,k,0=>by simp[jf]
 |x::xs,k,i+1=>by simp only[jf,List.getElem?_cons_succ,vP xs (k+1) i];rw[show k+1+i=k+(i+1) by lia]
def NK{mg:A4}{ρ:Rh}{H:Hp}{K:B0}{b:Bool}{l:Addr}{xs:List V}{ds:List D}(n1:l∉ρ)(h1:H l=some (if b then .tup xs else .lst xs))(c1:Cvs mg ρ H xs ds):ItOk mg ρ H (Uh K b l) (.fix (jf 0 ds)) where
 item:=λi ρ' H' M' d e j q=>by
  have hq:(jf 0 ds)[i]?=some d:=Ws q;rw[vP]at hq;obtain⟨dx,e1,rfl⟩:=Wk.mp hq;obtain⟨x,hx,cx⟩:=c1.get e1;have k1:=(e.keep _ _ h1 n1 ne_if).2;refine⟨⟨xs,x,Ms k1,hx⟩,λv H2 z=>?_⟩
  obtain⟨p,hp,rfl,z⟩:=z;obtain⟨x',ck,rfl⟩:=z xs (Ms k1);rw[hx]at ck;cases ck;rw[Xd];exact⟨.lay hp,j.lay _ hp,.tup (j.fresh hp) upd_same (.cons (.int _) (.cons ((cx.kp e).mono (.lay hp)) .nil))⟩
 stop:=λi ρ' H' M' e j q=>by have hq:(jf 0 ds)[i]?=none:=Ws q;rw[vP,Option.map_eq_none_iff]at hq;exact⟨xs,Ms (e.keep _ _ h1 n1 ne_if).2,Xi.mpr (by rw[c1.len];exact Xi.mp hq)⟩
def Nm(hg:Gl X "enumerate")(hm:X.mg "enumerate"=none)(ha:DA X E [a] fa)(hs:notStar a=true:=by rfl):
  DI X E (.Tuple elts kt tp) (.Call (.Name "enumerate" p) [a] [] pos) (λδ=>fa δ>>=λl=>opt (xq l)):=⟨by
 intro aaW s σ H R I h;walk_at "b";refine Call_ (ld_blt I hg hm Ge (Xf (thn (ha.h.h pos aaW s σ H (λvs H1=>∃ρ1 M1 ds,Ext ρ H ρ1 H1/\J X.mg ρ1 M1 H1/\Cvs X.mg ρ1 H1 vs ds/\Go X.mg E (ItOk X.mg) R ρ1 H1 (opt (xq ds)) M1) I ⟨ρ,δ,M,ev,j,g1.bind λρ1 H1 M1 vs ds e1 j1 c1 g2=>⟨ρ1,M1,ds,e1,j1,c1,g2⟩⟩) λus s1 h1=>?_) (aU hs) (by rfl)))
 obtain⟨vs,H1,I1,rv,ρ1,M1,ds,e1,j1,c1,g2⟩:=h1;obtain⟨itn,ei,q⟩:=g2.opt;unfold xq at ei;split at ei;rotate_left
 ·cases ei
 obtain⟨⟨b,l⟩,f1,rfl⟩:=Wk.mp ei;cases c1 with
 |cons k1 c1=>
 cases c1;obtain⟨a1,xs,rfl,n1,h1,cx⟩:=QS (K:=X.K) k1 f1;cases rv with
 |cons r1 rv=>
 cases rv;cases r1;obtain⟨mf,w1,p1,_⟩:=I1.seqS (Ms (K:=X.K) h1);refine Do p1 λh' a1' a2' a3 a4=>wpAny_pyIter_enum a1' ?_
 have lt1:@LT.lt Nat _ a1 s1.z:=p1.lt;have I2:Inv X aaW σ H1 { s1 with heap:=h' }:=I1.kept (t':=s1.toks) a4
 refine⟨_,_,_,_,H1,rfl,I2,Jf (b:=b) (e:=s1.z+1) (it:=s1.z) (l:=a1) (λ(h:@Eq Nat _ _)=>by lia) (λ(h:@Eq Nat _ _)=>by lia) (λ(h:@Eq Nat _ _)=>by lia),⟨⟨_,a1'⟩,a2'.1⟩,λb hb=>?_,q ρ1 H1 _ .refl j1 (NK n1 h1 cx)⟩
 refine I1.fpOk ?_ (I1.hok.fresh ?_)<;>(simp only[List.mem_cons,List.mem_nil_iff,or_false]at hb;rcases hb with rfl | rfl<;>lia)⟩
def JB{i:Nat}{cl:A9}{own:C3}{js:C0}{fr:C3}{f0:B8}{gs:List Comprehension}{fi:aj->DM Itn}{fg:D->aj->DM aj}{ft:aj->DM Bool}{fb:aj->List D->DM (aj×List D)}
  {bodyK:Cx->Addr->Sem Fin->Sem Fin}{W:Cx->Addr->B2->B2} (o:Out) (hN:X.N.Nodup) (hi0:X.N[i]?=some x) (hx:Loc X.env.scope x) (hc:X.calm=true) (T:CompG X scope cl own js fr) (hi:DI X E t0 i0 fi)
  (aw:∀(Y:Cx) it acc,compTurn (.ListComp elt (⟨t0,i0,f0,0⟩::gs) scope pos) 0 (.ref it) (.ref acc) Y.env=turnOf ⟨t0,i0,f0,0⟩ (bodyK Y acc) (.compLoop (.ListComp elt (⟨t0,i0,f0,0⟩::gs) scope pos) 0 (.ref it) (.ref acc) Y.env) (.ref it) Y.env)
  (hW:∀Y acc,jY Y.prog Y.w Y.A (bodyK Y acc) (W Y acc)) (av:∀Y acc P P' s,(∀s,P s->P' s)->W Y acc P s->W Y acc P' s)
  (hg:∀aaW m fp C s₂ H₂,DG (X.aR aaW scope (cellsFrom m scope.names cl) (own++fr) fp C s₂ H₂) E0 t0 fg) (ht:∀aaW m fp C s₂ H₂,DTs (X.aR aaW scope (cellsFrom m scope.names cl) (own++fr) fp C s₂ H₂) E0 f0 ft)
  (hb:∀aaW m fp C s₂ H₂ acc,BodyOk (X.aR aaW scope (cellsFrom m scope.names cl) (own++fr) fp C s₂ H₂) acc (W (X.aR aaW scope (cellsFrom m scope.names cl) (own++fr) fp C s₂ H₂) acc) fb)
  (hsw:swapsWith (.ListComp elt (⟨t0,i0,f0,0⟩::gs) scope pos) (some (.Name x px)) spos.line X.env=pure true:=by rfl)
  (hs:∀y,foldedSetIterable i0 X.env y=pure y:=by intro _;rfl) (hf:X.fn x=true\/X.env.scope.names.lookup x=some .local:=by first | exact .inl rfl | exact .inr rfl | assumption) :
  DS X E (.Assign [.Name x px] (.ListComp elt (⟨t0,i0,f0,0⟩::gs) scope pos) spos) (λδ=>(fi δ>>=λit=>dj (cN fg ft fb it (aW own.length js δ) [])>>=λp=>o.run p.2)>>=λd=>pure (.nx (δ.set i (some d)))):=⟨by
 intro aaW s σ H D I h;obtain⟨ρ,δ,M,ev,j,g0⟩:=h;let Q:VK:=λv H'=>D.nx (σ.set i (some v)) H'
 have g1:Go X.mg E (Cv X.mg) Q ρ H (fi δ>>=λit=>dj (cN fg ft fb it (aW own.length js δ) [])>>=λp=>o.run p.2) M:=g0.bind λρ1 H1 M1 v d e1 j1 c1 g2=>g2.pure ρ1 H1 _ .refl j1 ((ev.mono e1).set c1)
 rw[exec_Assign_Name_used _ _ _ _ hsw];refine Wg (Zg (Wg ?_));show wpAny _ _ (do let _ <-comprehension (.ListComp elt (⟨t0,i0,f0,0⟩::gs) scope pos) scope X.env _ (newList []) false (eval i0 X.env) (some (assign (.Name x px) X.env))) _ _ s
 refine Wg (W5 (wG Beg.list (use:=some (assign (.Name x px) X.env)) (Qs:=λu s'=>∃v H',Inv X aaW (σ.set i (some v)) H' s'/\Q v H') (.inl ⟨_,_,_,_,rfl⟩) rfl hc T hi aw hW av hg ht (λu u u u u u u u u=>hb _ _ _ _ _ _ _ _ _ (.head _)) hs I ev j g1 λs2 H2 fp C m acc ρ1 lf Mf s' I2 f2 hA hC ar nf c' g3=>?_) (λ_ s' ⟨v,H',I',q'⟩=>Wh (Wh ⟨_,H',I',q'⟩)) λu u e=>e)
 obtain⟨δf,c'⟩:=c';obtain⟨σ4,H4,ρ4,_,I4,x4,j4,qk,qv,⟨ys,rfl,cl4⟩,fr4⟩:=c'.ex;obtain⟨m4,hn4,_⟩:=I4.loc;have hsb0:Heap.SameBut C s'.heap s'.heap:=⟨rfl,λu u=>rfl⟩
 have IO:Inv X aaW σ H4 s':=I2.call' (s':=s') (ch:=fp) (I4.os) (Jh I4.base hsb0 hC) (BK I4.hok hsb0 I4.free) I4.bare (λb hb=>by obtain⟨_,g2,g3,g4,g5,g6⟩:=f2 b hb;exact⟨g4,g2,g5,g6⟩)
 obtain⟨fC1,fC2,fC3,fC4,fC5,fC6⟩:=I2.fpOk hC I4.free;show wpAny _ _ (assign (.Name x px) X.env (.ref acc)) _ _ s';refine wpAny_assign_Name (store_ok2 IO hN hi0 hx (v:=.ref acc) rfl (λkz I'' pe=>?_) hf)
 obtain⟨a,sb,ha⟩:=pe;have nC:C≠a:=by
  rcases ha with z | z
  ·rw[z];exact fC2
  ·exact λe=>fC5 x a z e.symm
 exact⟨m4,hn4.sameBut sb nC,λh' mv=>⟨.ref acc,H4,I''.turned (it:=C) (t':=kz.toks) (λb o hb e=>mv.extBut b o hb e) fC1 fC2 fC4 (λy c e=>fC5 y c e) fC6,o.fin ar nf x4 j4 qv cl4 g3⟩⟩⟩
def tK{i:Nat}{cl:A9}{own:C3}{js:C0}{fr:C3}{f0:B8}{fi:aj->DM Itn}{fg:D->aj->DM aj}{ft:aj->DM Bool}{fe:aj->DM D}
  (o:Out) (hN:X.N.Nodup) (hi0:X.N[i]?=some x) (hx:Loc X.env.scope x) (hc:X.calm=true) (T:CompG X scope cl own js fr) (hi:DI X E t0 i0 fi)
  (hg:∀aaW m fp C s₂ H₂,DG (X.aR aaW scope (cellsFrom m scope.names cl) (own++fr) fp C s₂ H₂) E0 t0 fg) (ht:∀aaW m fp C s₂ H₂,DTs (X.aR aaW scope (cellsFrom m scope.names cl) (own++fr) fp C s₂ H₂) E0 f0 ft)
  (he:∀aaW m fp C s₂ H₂,DE (X.aR aaW scope (cellsFrom m scope.names cl) (own++fr) fp C s₂ H₂) E0 elt fe)
  (hsw:swapsWith (.ListComp elt [⟨t0,i0,f0,0⟩] scope pos) (some (.Name x px)) spos.line X.env=pure true:=by rfl)
  (hs:∀y,foldedSetIterable i0 X.env y=pure y:=by intro _;rfl) (hf:X.fn x=true\/X.env.scope.names.lookup x=some .local:=by first | exact .inl rfl | exact .inr rfl | assumption) :
  DS X E (.Assign [.Name x px] (.ListComp elt [⟨t0,i0,f0,0⟩] scope pos) spos) (λδ=>(fi δ>>=λit=>dj (cN fg ft (bY fe) it (aW own.length js δ) [])>>=λp=>o.run p.2)>>=λd=>pure (.nx (δ.set i (some d)))):=
 JB (bodyK:=λY acc=>uN elt (.ref acc) Y.env) (W:=λY acc P s=>wpAny (model Y.prog Y.w) Y.A (eval elt Y.env) (λx s1=>wpAny (model Y.prog Y.w) Y.A (call (.builtin "list.append") [.ref acc,x]) (λv s2=>P s2) (λv v=>False) s1) (λv v=>False) s) o hN hi0 hx hc T hi
  (λY it acc=>Mw ..) (λY acc=>Gx) (λY acc P P' s hp h=>W5 h (λx s1 h1=>W5 h1 (λv s2 h2=>hp _ h2) λv v z=>z) λv v z=>z) hg ht (λaaW m fp C s₂ H₂ acc=>Bu rfl (he ..)) hsw hs hf
end L3
namespace L3
open L2
structure OCls(K:B0)(mg:A4)(c:Str)(C:Addr)(fs:C3):Prop where
 at_:mg c=some (.ref C)
 cls:L2.Cls K C
 no:∀f∈fs,NoAttr K C f
theorem tY:∀ {ns:C3}{xs:List V}{ds:List D}{d:D},Cvs mg ρ H xs ds->(ns.zip ds).lookup f=some d->∃ v,(ns.zip xs).lookup f=some v/\Cv mg ρ H v d
 |[],_,_,_,_,e=>by simp at e
 |n::ns,_,_,_,.nil,e=>by simp at e
 |n::ns,_,_,d,.cons (v:=v) c cs,e=>by
   rw[YZ,YS]at e ⊢
   split at e
   ·cases e;exact⟨v,rfl,c⟩
   ·exact tY cs e
def Ea(c f:Str):D->Mo->Option D
 |.obj k ns vs,_=>if k=c then (ns.zip vs).lookup f else none
 |.ref n,M=>match M[n]? with
   |some (.ins k ns vs)=>if k=c then (ns.zip vs).lookup f else none
   |_=>none
 |_,_=>none
def Gn(O:OCls K mg c C fs)(hf:f∈fs)(he:DE X E e fe)
  (hb:attributeBase e f X.env (eval e X.env)=eval e X.env:=by rfl) (hK:X.K=K:=by rfl) (hM:X.mg=mg:=by rfl):DE X E (.Attribute e f pos) (λδ=>fe δ>>=λx=>rd (Ea c f x)):=by
 subst hK hM;refine⟨PE.mono (pe_fld he.h hb) λσ H Q h=>?_⟩
 walk_at "a"
 obtain⟨d,ed,q⟩:=g2.rd;unfold Ea at ed;split at ed
 ·split at ed
  ·rename_i hk;subst hk;cases c1 with
   |obj n m h l cs=>obtain⟨v,hv,cv⟩:=tY cs ed;rw[O.at_]at m;cases m;exact⟨_,_,_,_,v,rfl,h,O.cls,O.no f hf,hv,q ρ1 H1 _ .refl j1 cv⟩
  ·cases ed
 ·split at ed
  ·split at ed
   ·rename_i hm hk;subst hk;cases c1 with
    |ref hn=>obtain⟨C',dx',xs,m,h,l,cs⟩:=j1.obj _ _ _ hn hm;obtain⟨v,hv,cv⟩:=tY cs ed;rw[O.at_]at m;cases m;exact⟨_,_,_,_,v,rfl,h,O.cls,O.no f hf,hv,q ρ1 H1 _ .refl j1 cv⟩
   ·cases ed
  ·cases ed
 ·cases ed
def jw:List D->Mo->Option (List D)
 |[.int j],_=>if -(2^62)<=j/\j<=2^20 then some ((List.range j.toNat).map nD) else none
 |_,_=>none
theorem vI:∀l:C0,Cvs mg ρ H (l.map λi:Nat=>V.int (i:Int)) (l.map nD)
 |[]=>.nil
 |n::l=>.cons (.int _) (vI l)
section
variable{X:Cx}{E:XK}{a:Expr}{fa:aj->DM (List D)}{p1 p2 a9 ag:Pos}
def wI(hc:X.calm=true)(f7:X.mg "list"=none)(hm:X.mg "range"=none)(ha:DA X E [a] fa)(f6:Gl X "list":=by rfl)(hg:Gl X "range":=by rfl)(hs:notStar a=true:=by rfl):
  DE X E (.Call (.Name "list" p1) [.Call (.Name "range" p2) [a] [] ag] [] a9) (λδ=>fa δ>>=λl=>rd (λM=>(jw l M).map D.lst)):=⟨PE.mono (Hx hc f6 f7 hg hm ha.h.h hs) λσ H Q h=>by
 walk_at "b";refine⟨ρ,δ,M,ev,j,g1.bind λρ1 H1 M1 xs ds e1 j1 c1 g2=>?_⟩
 obtain⟨d,ed,q⟩:=g2.rd;obtain⟨l,el,rfl⟩:=Wk.mp ed;unfold jw at el;split at el
 ·split at el
  ·rename_i hb;cases el;obtain⟨v,rfl,k⟩:=c1.one;cases k;exact⟨_,rfl,hb.2,hb.1,λp hp=>q ρ1 _ _ (.lay hp) (j1.lay _ hp) (.lst (j1.fresh hp) upd_same (vI _))⟩
  ·cases el
 ·cases el⟩
end
section
variable{X:Cx}{E:XK}
def Ec:List D->Mo->Option D
 |[.bl b],_=>some (.int (if b then 1 else 0))
 |_,_=>none
def Gf:CallR X (.type "int") (λxs H Q=>∃ b,xs=[.bl b]/\Q (.int (if b then 1 else 0)) H):=by
 intro aaW s σ H xs us Q I rs h;obtain⟨b,rfl,q⟩:=h;cases rs with
 |cons r rr=>cases rr;cases r;exact call_int_bool ⟨.int (if b then 1 else 0),H,I.tok _,⟨_,rfl⟩,q⟩
def uE:CallD X E (.type "int") (λl=>rd (Ec l)):=CallD.of Gf λvs H Q ρ M ds d j c e q=>by
 unfold Ec at e;split at e
 ·cases e;obtain⟨v,rfl,k⟩:=c.one;cases k;exact⟨_,rfl,q ρ H _ .refl j (.int _)⟩
 ·cases e
end
theorem qb(I:Nat->aj->List D->Mo->Prop):∀ (ds:List D) (i:Nat) (δ:aj) (l:List D) (M:Mo),I i δ l M->
  (∀j d δ l M,ds[j]?=some d->I (i+j) δ l M->Rn (fg d δ>>=λδ1=>ft δ1>>=λb=>if b then fb δ1 l else Pure.pure (δ1,l)) M λp M'=>I (i+j+1) p.1 p.2 M')->Rn (bB fg ft fb ds δ l) M λp M'=>I (i+ds.length) p.1 p.2 M'
 |[],i,δ,l,M,h,_=>Rn.pure h
 | d::ds,i,δ,l,M,h,st=>by
   have s:=st 0 d δ l M rfl h;have e:bB fg ft fb (d::ds) δ l=(fg d δ>>=λδ1=>ft δ1>>=λb=>if b then fb δ1 l else Pure.pure (δ1,l))>>=λp=>bB fg ft fb ds p.1 p.2:=by
    rw[aG];show (fg d δ>>=λδ1=>ft δ1>>=λb=>(if b then fb δ1 l else Pure.pure (δ1,l))>>=λp=>bB fg ft fb ds p.1 p.2)=_
    congr 1;funext δ1;rw[aG]
   rw[e];refine Rn.bind s λp M' h'=>?_
   have ih:=qb I ds (i+1) p.1 p.2 M' h' (λj d δ l M hj hI=>by
    have:=st (j+1) d δ l M (by simpa using hj) (by rw[show i+(j+1)=i+1+j by lia];exact hI)
    rw[show i+1+j+1=i+(j+1)+1 by lia];exact this)
   rw[show i+(d::ds).length=i+1+ds.length by simp;lia]
   exact ih
def mD(h:Rn m M Q):Rn (dj m) M Q:=by obtain⟨a,M',e,q⟩:=h;exact⟨a,M',by unfold dj;rw[e],q⟩
def Kl(hn:n<=1000)(q:Rn (k (.ref M.length)) (M++[.lst ((List.replicate n 0).map nD)]) Q):Rn (Rf (.lst [.int 0]) (nD n)>>=k) M Q:=by
 have e:qg (.lst [.int 0]) (nD n) M=some ((List.replicate n 0).map nD):=by
  show Eu [.int 0] (n:Int)=_;unfold Eu;rw[Wq (WY ⟨by lia,by lia,by show _<=2^24;simp;lia⟩)]
  congr 1;simp[List.flatten_replicate_singleton,nD]
 show Rn ((rd (qg (.lst [.int 0]) (nD n))>>=fM)>>=k) M Q;rw[aG];refine Rn.bindRd _ e ?_;exact Rn.fM (by simp;lia) q
end L3
namespace L3
open L2
open PyProof.Rows hiding St
def putN(f:Str):C3->C3
 |[]=>[f]
 |g::r=>if g=f then g::r else g::putN f r
def jL{α:Type}(f:Str)(v:α):C3->List α->List α
 |[],_=>[v]
 |g::r,x::xs=>if g=f then v::xs else x::jL f v r xs
 |_::_,[]=>[]
theorem zE(f:Str)(v:V):∀ (ns:C3) (xs:List V),ns.length=xs.length->putF f v (ns.zip xs)=(putN f ns).zip (jL f v ns xs)
 |[],[],_=>rfl
 |g::r,x::xs,h=>by
   show putF f v ((g,x)::r.zip xs)=_;unfold putF putN jL;by_cases e:g=f
   ·rw[Wq e,Wq e,Wq e];rfl
   ·rw[Ww e,Ww e,Ww e,zE f v r xs (by simpa using h)];rfl
theorem zF(f:Str)(v:α):∀ (ns:C3) (xs:List α),ns.length=xs.length->(putN f ns).length=(jL f v ns xs).length
 |[],[],_=>rfl
 |g::r,x::xs,h=>by
   unfold putN jL;by_cases e:g=f
   ·rw[Wq e,Wq e];simpa using h
   ·rw[Ww e,Ww e,XH,XH,zF f v r xs (by simpa using h)]
theorem Cvs.put(c:Cv mg ρ H v d):∀ (ns:C3) {xs:List V}{ds:List D},Cvs mg ρ H xs ds->Cvs mg ρ H (jL f v ns xs) (jL f d ns ds)
 |[],_,_,_=>.cons c .nil
 |g::r,_,_,.nil=>.nil
 |g::r,_,_,.cons h t=>by
   unfold jL;by_cases e:g=f
   ·rw[Wq e,Wq e];exact .cons c t
   ·rw[Ww e,Ww e];exact .cons h (Cvs.put c r t)
def xH(c f:Str)(o d:D):DM Unit:=λM=>match o with
 |.ref n=>match M[n]? with
   |some (.ins k ns vs)=>if k=c/\ns.length=vs.length/\ns.length<1000 then some (.ok (),M.set n (.ins k (putN f ns) (jL f d ns vs))) else none
   |_=>none
 |_=>none
section
variable{X:Cx}{E:XK}
set_option tactic.hygienic true in
def Gw{K:B0}{mg:A4}{c f:Str}{C:Addr}{fs:C3}{o value:Expr}{fo fv:aj->DM D}{pos pos':Pos}(O:OCls K mg c C fs)(hf:f∈fs)(ho:DE X E o fo)(hv:DE X E value fv)
  (hs:swapsWith value (some (.Attribute o f pos')) pos.line X.env=pure false:=by rfl) (hK:X.K=K:=by rfl) (hM:X.mg=mg:=by rfl) :
  DS X E (.Assign [.Attribute o f pos'] value pos) (λδ=>fv δ>>=λd=>fo δ>>=λo=>xH c f o d>>=λz=>pure (.nx δ)):=by
 subst hK hM;refine⟨PS.mono (ps_fld ho.h hv.h hs) λD σ H h=>?_⟩
 walk_at "b";refine⟨ρ,δ,M,ev,j,g1.bind λρ1 H1 M1 y dy e1 j1 c1 g2=>⟨ρ1,δ,M1,ev.mono e1,j1,g2.bind λρ2 H2 M2 x dx e2 j2 c2 g3=>?_⟩⟩
 obtain⟨r,e,p⟩:=g3;have e:DM.bind _ _ M2=some r:=e;unfold DM.bind xH at e;cases dx with
 | ref n=>
   dsimp only at e;cases c2 with | ref hn=>
   rename_i a;cases hm:M2[n]? with
   |none=>rw[hm]at e;cases e
   | some u=>
     rw[hm]at e;cases u with
     |lst l=>cases e
     |dic ks l=>cases e
     | ins k ns vs=>
       dsimp only at e;split at e
       ·cases e
       ·rename_i he;split at he<;>cases he
       ·rename_i he;split at he
        ·rename_i hk;obtain⟨rfl,hl,hz⟩:=hk;cases he;cases e;obtain⟨C',dx',xs,m,hx,l,cs⟩:=j2.obj _ _ _ hn hm;rw[O.at_]at m;cases m;have c1':=c1.mono e2;have x:Ext ρ2 H2 ρ2 (upd H2 a (.ins C dx' (putF f y (ns.zip xs)))):=.upd (WR hn);refine⟨a,C,dx',_,rfl,hx,O.cls,O.no f hf,?_,?_⟩
         ·rw[List.length_zip];lia
         refine p ρ2 _ σ x (j2.upd hn ?_) (((ev.mono e1).mono e2).mono x);refine⟨C,dx',jL f y ns xs,O.at_,by rw[upd_same,zE f y ns xs l],zF f y ns xs l,?_⟩
         exact (Cvs.put c1' ns cs).mono x
        ·cases he
 |_=>cases e
end
structure MethD(P:C5)(w:World)(K:B0)(mg:A4)(base:Heap)(k:Nat)(c x qual:Str)(st:Stmt)(ps:C3)(F:List D->DM D):Prop where
 ex:∃C f fd,mg c=some (.ref C)/\FnOk P w K mg base (cG P w) k f fd ps (Aa mg F)/\Fun K x qual st f fd/\W.findIn K (.ref C) x=some (some (.ref f))/\W.isFn K (.ref f)=true/\L2.Cls K C
section
variable{P:C5}{w:World}{K:B0}{mg:A4}{base:Heap}{k:Nat}{C:Addr}{c x qual:Str}{N ps:C3}{st:Stmt}{fb:aj->DM Fl}{f:Addr}{fd:FuncData}{is:C1}
def Ux(F:Fun K x qual st f fd)(S:FnScope N ps (defScope st))
  (af:∀(f:Addr) (ae:Value) (A:Around) (outer:C4) (s:Shared) (H:Hp) (E:XK),Room k (A.deeper (envOfC qual (defScope st) s.z f ae))->
    DSs (bV P w K mg base N qual (defScope st) f ae A outer s H E) E (defBody st) fb):FnOk P w K mg base (cG P w) (k+1) f fd ps (Aa mg (aD ps.length N.length fb)):=by
 refine Uz F S (λvs H Q E h=>?_) λae A outer s H vs Q E hr h=>?_
 ·obtain⟨ρ,M,ds,c,j,g⟩:=h;rw[c.len];exact (bw.aD g).1
 obtain⟨ρ,M,ds,c,j,g⟩:=h;exact⟨_,(af f ae A outer s H E hr).h,ρ,_,M,ie c,j,(bw.aD g).2⟩
def MethAt.okD(T:MethAt K C x qual st)(m:mg c=some (.ref C))(cl:L2.Cls K C)(S:FnScope N ps (defScope st))
  (af:∀(f:Addr) (ae:Value) (A:Around) (outer:C4) (s:Shared) (H:Hp) (E:XK),Room k (A.deeper (envOfC qual (defScope st) s.z f ae))->
    DSs (bV P w K mg base N qual (defScope st) f ae A outer s H E) E (defBody st) fb):MethD P w K mg base (k+1) c x qual st ps (aD ps.length N.length fb):=by
 obtain⟨f,fd,F,a,n⟩:=T.ex;exact⟨C,f,fd,m,Ux F S af,F,a,n,cl⟩
end
structure ClsD(P:C5)(w:World)(K:B0)(mg:A4)(base:Heap)(k:Nat)(c:Str)(F:List D->DM D):Prop where
 ex:∃C ps sp,MethC P w K mg base k C "__init__" ps sp/\W.makesIn K C=true/\W.keepIn K (.ref C)=true/\mg c=some (.ref C) /\
  ∀ρ M H vs ds Q E,Cvs mg ρ H vs ds->J mg ρ M H->Go mg E (Cv mg) Q ρ H (F ds) M->∀x dx,H x=none->H dx=none->dx≠x->sp (.ref x::vs) (upd (upd H dx (.own x)) x (.ins C dx [])) (λv H2=>v=.non/\Q (.ref x) H2) E
def Nj(T:ClsD X.prog X.w X.K X.mg X.base j c F)(hr:Room k X.A)(hx:Passes (cG X.prog X.w) X E)(ha:DA X E (e::es) fs)(cq:j+1<=k:=by decide)(hg:Gl X c:=by rfl)(ai:(c==("__debug__":Str))=false:=by decide)
  (he:notStar e=true:=by rfl) (hpl:(backTo pos (starEach es X.env)).any (·.1)=false:=by rfl) :
  DE X E (.Call (.Name c p) (e::es) [] pos) (λδ=>fs δ>>=F):=by
 obtain⟨C,ps,sp,G,mk,kc,m,h⟩:=T.ex;refine⟨PE.mono (KC G mk kc m hr hx ha.h cq hg ai he hpl) λσ H Q z=>?_⟩
 obtain⟨ρ,δ,M,ev,j,g1⟩:=z;refine⟨ρ,δ,M,ev,j,g1.bind λρ1 H1 M1 xs i8 e1 j1 c1 g2=>λx dx h1 h2 h3=>?_⟩
 rw[YK];exact h ρ1 M1 H1 xs i8 Q E c1 j1 g2 x dx h1 h2 h3
def Uk(c:Str):DM D:=λM=>some (.ok (.ref M.length),M++[.ins c [] []])
section
variable{mg:A4}{ρ:Rh}{H:Hp}{k:Nat}{M':Mo}
def Cvs.fz(hk:ρ.st.length=k){vs:List V}{ds:List D}(h:Cvs mg ρ H vs ds):Fzs M' k ds ds:=
 Cvs.rec (motive_1:=λz d z=>Fz M' k d d) (motive_2:=λz ds z=>Fzs M' k ds ds) .non .bl .int .str (λz z z=>.tup) (λz z z=>.lst) (λz z z z=>.dic) (λz z z z z=>.obj) (λz z=>.scr _) (λh=>.old (hk ▸ (Wj.mp h).1)) (λz=>.cls _) .ty .exn .nil (λz z=>.cons) h
theorem Cv.fz(hk:ρ.st.length=k){v:V}{d:D}(h:Cv mg ρ H v d):Fz M' k d d:=by cases Cvs.fz hk (.cons h .nil);assumption
def Cvs.fz_mem(hk:ρ.st.length=k){vs:List V}{ds:List D}(h:Cvs mg ρ H vs ds):∀d∈ds,Fz M' k d d:=h.ind (P:=λz ds=>∀d∈ds,Fz M' k d d) nofun λa z i d h=>(Wz.mp h).elim (λe=>e ▸ a.fz hk) (i d)
theorem GJ:∀{ds:List D},(∀d∈ds,Fz M' k d d)->Fzs M' k ds ds
 |[],_=>.nil
 |d::ds,h=>.cons (h d (by simp)) (GJ λe he=>h e (by simp[he]))
theorem J.fz(j:J mg ρ M H):Ug (M++[o]) M.length M:=by
 refine⟨rfl,λn u h=>?_⟩
 have hn:=(Wj.mp h).1;refine⟨u,by rw[WD hn];exact h,?_⟩
 have hl:n<ρ.st.length:=by rw[j.len];exact hn
 have c:=j.obj n ρ.st[n] u (Wl hl) h;cases u with
 |lst l=>obtain⟨xs,_,c⟩:=c;exact c.fz j.len
 |dic ks l=>obtain⟨xs,_,_,c⟩:=c;exact⟨rfl,c.fz j.len⟩
 |ins cc ns l=>obtain⟨C,dx,xs,_,_,_,c⟩:=c;exact⟨rfl,rfl,c.fz j.len⟩
end
def Qc(c:Str)(Fi:List D->DM D)(ds:List D)(M:Mo)(r':R D×Mo):Prop:=
 (∃ns vs,Fi (.ref M.length::ds) (M++[.ins c [] []])=some (.ok .non,M++[.ins c ns vs])/\(∀d∈vs,d∈ds\/∃i,d=.int i)/\r'=(.ok (.obj c ns vs),M)) \/
 (∃e o,Fi (.ref M.length::ds) (M++[.ins c [] []])=some (.exc e,M++[o])/\r'=(.exc e,M))
def Uw{P:C5}{w:World}{K:B0}{mg:A4}{base:Heap}{k:Nat}{c qual:Str}{st:Stmt}{ps:C3}{Fi F':List D->DM D}(T:MethD P w K mg base k c "__init__" qual st ps Fi)
  (hb:∀(kV doc pm:Value) (an:B3) (ae ct:Value) (us:B5),us.length=ps.length->bindArgs (W.fnOf "__init__" qual (defArgs st) (defBody st) (defScope st) .none kV doc pm an ae ct) ⟨us,[]⟩=pure (ps.zip us))
  (hm:∀C,mg c=some (.ref C)->W.makesIn K C=true/\W.keepIn K (.ref C)=true) (hf:∀ds M r',F' ds M=some r'->Qc c Fi ds M r'):ClsD P w K mg base k c F':=by
 obtain⟨C,f,fd,mc,G,B,a,n,cl⟩:=T.ex;refine⟨C,ps,_,⟨f,fd,G,B.binds hb,B.kp,a,n⟩,(hm C mc).1,(hm C mc).2,mc,λρ M H vs ds Q E cv j g x dx hx hdx ay=>?_⟩
 obtain⟨r',e,p⟩:=g;have ck:upd H dx (.own x) x=none:=by rw[upd_ne (λz=>ay z.symm)];exact hx
 have x1:Ext ρ H ρ (upd H dx (.own x)):=.lay hdx;have j1:=j.lay (.own x) hdx;have x2:Ext ρ (upd H dx (.own x)) (ρ.put x) (upd (upd H dx (.own x)) x (.ins C dx [])):=.put ck;have j2:J mg (ρ.put x) (M++[.ins c [] []]) (upd (upd H dx (.own x)) x (.ins C dx [])):=j1.put ck ⟨C,dx,[],mc,upd_same,rfl,.nil⟩;have hput:(ρ.put x).st[M.length]?=some x:=by show (ρ.st++[x])[M.length]?=some x;rw[<-j.len,Xn (Wn _)];simp
 refine⟨ρ.put x,M++[.ins c [] []],.ref M.length::ds,.cons (.ref hput) (cv.mono (x1.trans x2)),j2,?_⟩;have sb:∀{ρ2 H2},Ext (ρ.put x) (upd (upd H dx (.own x)) x (.ins C dx [])) ρ2 H2->Sub ρ ρ2 M.length:=λ{ρ2 H2} y=>by obtain⟨τ,ht⟩:=y.pre;exact⟨⟨[x]++τ,by rw[ht];show (ρ.st++[x])++τ=_;simp⟩,y.vo,j.len⟩
 have ex:∀{ρ2 H2},Ext (ρ.put x) (upd (upd H dx (.own x)) x (.ins C dx [])) ρ2 H2->Ext ρ H ρ H2:=λ{ρ2 H2} y=>⟨⟨[],by simp⟩,rfl,λa h n=>absurd h n,λb o hb hn=>y.keep b o (by
  have nx:b≠x:=ne_of_none hb hx;have ndx:b≠dx:=ne_of_none hb hdx;rw[upd_ne nx,upd_ne ndx];exact hb) (λz=>by
  rcases WF.mp z with z | z
  ·exact hn z
  ·exact ne_of_none hb hx (Wx.mp z))⟩
 rcases hf ds M r' e with ⟨ns,gx,e2,hv,rfl⟩ | ⟨er,o,e2,rfl⟩
 ·refine⟨_,e2,λρ2 H2 b y j3 cb=>?_⟩
  cases cb;refine⟨rfl,p ρ H2 (.ref x) (ex y) (j3.freeze (sb y) j.len j.fz) ?_⟩;have h3:ρ2.st[M.length]?=some x:=y.at hput;obtain⟨C',dx',xs,m',hx3,l,cs⟩:=j3.obj M.length x (.ins c ns gx) h3 (by simp)
  refine .obj (j.fresh hx) m' hx3 l (Cvs.freeze (sb y) j3 (GJ λd hd=>?_) cs)
  rcases hv d hd with h | ⟨i,rfl⟩
  ·exact cv.fz_mem j.len d h
  ·exact .int i
 ·refine⟨_,e2,λρ2 H2 C2 y j3 m2=>?_⟩
  exact p ρ H2 C2 (ex y) (j3.freeze (sb y) j.len j.fz) m2
end L3
namespace L3
open L2 LS
def Ac:List D->Mo->Option (List D)
 |[d],M=>(aN d M).bind λl=>(intsOf l).bind λns=>if ns.length<=60 then some ((iW ns).map D.int) else none
 |_,_=>none
theorem kJ:∀ {l:List D}{ns:C1},intsOf l=some ns->l=ns.map D.int
 |[],ns,e=>by cases e;rfl
 | d::l,ns,e=>by
   cases d with
   |int i=>simp only[intsOf,Option.map_eq_some_iff]at e;obtain⟨ms,h,rfl⟩:=e;rw[kJ h];rfl
   |_=>simp[intsOf]at e
theorem f9:∀ {ns:C1}{xs:List V},Cvs mg ρ H xs (ns.map D.int)->xs=ns.map V.int
 |[],_,.nil=>rfl
 |n::ns,_,.cons a t=>by cases a;rw[f9 t];rfl
section
variable{X:Cx}{E:XK}{a:Expr}{fa:aj->DM (List D)}{p1 p2 a9 ag:Pos}
set_option tactic.hygienic true in
def Bs(hc:X.calm=true)(f7:X.mg "sorted"=none)(hm:X.mg "set"=none)(ha:DA X E [a] fa)(f6:Gl X "sorted":=by rfl)(hg:Gl X "set":=by rfl)(hs:notStar a=true:=by rfl):
  DE X E (.Call (.Name "sorted" p1) [.Call (.Name "set" p2) [a] [] ag] [] a9) (λδ=>fa δ>>=λl=>rd (λM=>(Ac l M).map D.lst)):=⟨PE.mono (zA hc f6 f7 hg hm ha.h.h hs) λσ H Q h=>by
 walk_at "b";refine⟨ρ,δ,M,ev,j,g1.bind λρ1 H1 M1 xs ds e1 j1 c1 g2=>?_⟩
 obtain⟨d,ed,q⟩:=g2.rd;obtain⟨l,el,rfl⟩:=Wk.mp ed;unfold Ac at el;split at el
 ·rename_i d0;obtain⟨l0,h0,el⟩:=Wv.mp el;obtain⟨ns,h1,el⟩:=Wv.mp el;split at el
  ·rename_i hn;cases el;have e0:=kJ h1;subst e0;obtain⟨v,rfl,k⟩:=c1.one;have fin:∀p,H1 p=some (.lst (ns.map V.int))->∃p' d4,[V.ref p]=[.ref p']/\H1 p'=some (.lst (d4.map V.int))/\(d4.length<=2000/\(d4.foldl PyProof.Rows.step_dedup []).length<=60)/\∀l,H1 l=none->Q (.ref l) (upd H1 l (.lst ((iW d4).map V.int))):=λp hp=>
    ⟨p,ns,rfl,hp,⟨by lia,W0 (PyProof.Rows.foldl_step_dedup_nil_length_le ns) hn⟩,λl hl=>q ρ1 _ _ (.lay hl) (j1.lay _ hl) (.lst (j1.fresh hl) upd_same (Cvs.ints _))⟩
   obtain⟨p,xs,rfl,hx,c⟩:=cL j1 k h0;exact fin p (by rw[hx,f9 c])
  ·cases el
 ·cases el⟩
end
end L3
namespace L3
open L2
def tX(h:l.length=1):∃a,l=[a]:=match l,h with | [a],_=>⟨a,rfl⟩
def J9(h:l.length=2):∃a b,l=[a,b]:=match l,h with | [a,b],_=>⟨a,b,rfl⟩
def Ka(h:l.length=3):∃a b c,l=[a,b,c]:=match l,h with | [a,b,c],_=>⟨a,b,c,rfl⟩
def Kc(h:l.length=4):∃a b c d,l=[a,b,c,d]:=match l,h with | [a,b,c,d],_=>⟨a,b,c,d,rfl⟩
def Dv:D->DM D
 |.int n=>if 0<=n/\n<2^63 then pure (.int n) else stuck
 |_=>stuck
def yZ(c:Str)(F:List D->DM D):List D->DM D
 |[.obj k ns vs]=>if k=c then F [.obj k ns vs]>>=Dv else stuck
 |l=>rd (ik l)
set_option tactic.hygienic true in
def kj(T:MethD X.prog X.w X.K X.mg X.base j c "__len__" qual st ps F)(hr:Room k X.A)(hx:Passes (cG X.prog X.w) X E)
  (hb:∀(kV doc pm:Value) (an:B3) (ae ct:Value) (us:B5),us.length=ps.length->bindArgs (W.fnOf "__len__" qual (defArgs st) (defBody st) (defScope st) .none kV doc pm an ae ct) ⟨us,[]⟩=pure (ps.zip us))
  (cq:j+1<=k:=by decide):CallD X E (.builtin "len") (yZ c F):=by
 obtain⟨C,f,fd,mc,G,B,a,n,cl⟩:=T.ex;have MC:MethC X.prog X.w X.K X.mg X.base j C "__len__" ps (Aa X.mg F):=⟨f,fd,G,B.binds hb,B.kp,a,n⟩;intro aaW s σ H vs us Q I rs q;obtain⟨ρ,M,ds,j,cv,go⟩:=q;unfold yZ at go;split at go
 ·rename_i k' ns ws;split at go
  ·rename_i hk;subst hk;obtain⟨v,rfl,kv⟩:=cv.one;cases kv with
   | obj hn m hh hl cs=>
     rw[mc]at m;cases m;refine Gg MC (hr.mono cq) hx aaW s σ H _ us Q I rs ⟨_,_,_,rfl,hh,ρ,M,_,cv,j,go.bind λρ1 H1 M1 b d e1 j1 c1 g2=>?_⟩
     unfold Dv at g2;split at g2
     ·split at g2
      ·rename_i nh;cases c1;exact⟨_,rfl,nh,g2.pure ρ1 H1 _ .refl j1 (.int _)⟩
      ·obtain⟨r,e,_⟩:=g2;cases e
     ·obtain⟨r,e,_⟩:=g2;cases e
  ·obtain⟨r,e,_⟩:=go;cases e
 ·exact call_lenD aaW s σ H vs us Q I rs ⟨ρ,M,_,j,cv,go⟩
end L3
namespace L2
open PyProof.Rows
end L2
namespace L3
open L2
end L3
namespace L2
open PyProof.Rows
def T8(i j k:Nat)(ta:TA):TS:=λD σ H=>ta σ H λvs H1=>∃v w z,vs=[v,w,z]/\D.nx (((σ.set i (some v)).set j (some w)).set k (some z)) H1
def OJ{kt k2 pt2}(hc:X.calm=true)(hN:X.N.Nodup)(hi:X.N[i]?=some x)(hj:X.N[j]?=some y)(hk:X.N[k]?=some z)(cm:i≠j)(hik:i≠k)(cq:j≠k)
  (hx:X.env.scope.names.lookup x=some .local) (hy:X.env.scope.names.lookup y=some .local) (hz:X.env.scope.names.lookup z=some .local) (ha:PA X [a,b,c] ta)
  (hw:swappedStores [.Tuple [.Name x px,.Name y py,.Name z pz] kt pt] (.Tuple [a,b,c] k2 pt2) X.env=pure (some [x,y,z]))
  (hs:swapsWithSole [.Tuple [.Name x px,.Name y py,.Name z pz] kt pt] (.Tuple [a,b,c] k2 pt2) pos.line X.env=pure false:=by rfl) :
  PS X (.Assign [.Tuple [.Name x px,.Name y py,.Name z pz] kt pt] (.Tuple [a,b,c] k2 pt2) pos) (T8 i j k ta):=by
 intro aaW s σ H D I h;rw[exec_Assign_arm];refine Wg (Zg ?_);rw[hs];refine Wg (Wh ?_);rw[Ww (by decide)]
 refine Wg (Tuple_ (thn (ha _ aaW s σ H _ I h) λus s1 ⟨vs,H1,I1,r1,q1⟩=>?_))
 obtain⟨v,w,w3,e1,q1⟩:=q1;subst e1;obtain ⟨u1,u2,u3,rfl,rv,fm,rz⟩:∃ u1 u2 u3,us=[u1,u2,u3]/\RelV v u1/\RelV w u2/\RelV w3 u3:=by
  cases r1 with
  | cons p q=>
    cases q with
    | cons p' q'=>
      cases q' with
      |cons p2 q2=>cases q2;exact⟨_,_,_,rfl,p,p',p2⟩
 refine Xb ?_ (by show 3<=sizeLine;decide)
 have I2:Inv X aaW σ H1 { s1 with heap:=s1.heap.push { cls:=.type "tuple",data:=.seq [u1,u2,u3].toArray } }:=I1.kept (t':=s1.toks) λb o e=>Wi _ e
 rw[hw];refine Wg (Wh ?_);show wpAny X.M X.A (do rule "assign.swapped-stores";let items <-unpackItems (.ref s1.z) 3 none;assignInOrder [λv=>bindName X.env z v,λv=>bindName X.env y v,λv=>bindName X.env x v] items.reverse;pure Flow.next) _ _ _
 refine Wg (Y8 (Wg (unpackItems_tuple (items:=#[u1,u2,u3]) (I.ok.hd hc) (aaN s1.heap _) λh' ck=>?_)))
 have I3:=I2.kept (h':=h') (t':=s1.toks) λb o e=>ck b o (WL (Wo e)) e
 show wpAny _ _ (assignInOrder [λv=>bindName X.env z v,λv=>bindName X.env y v,λv=>bindName X.env x v] [u3,u2,u1]>>=λu=>pure Flow.next) _ _ _
 refine Wg (YX (aaf (store_ok I3 hN hk (.inl hz) rz (λs2 I4=>?_) (.inr hz))))
 refine YX (aaf (store_ok I4 hN hj (.inl hy) fm (λs3 I5=>?_) (.inr hy)))
 refine YX (aaf (store_ok I5 hN hi (.inl hx) rv (λs4 I6=>assignInOrder_nil (Wh ?_)) (.inr hx)))
 have e:((σ.set k (some w3)).set j (some w)).set i (some v)=((σ.set i (some v)).set j (some w)).set k (some w3):=by rw[List.set_comm _ _ (Ne.symm cq),List.set_comm _ _ (Ne.symm hik),List.set_comm _ _ (Ne.symm cm)]
 rw[e]at I6;exact⟨_,H1,I6,q1⟩
end L2
namespace L3
open L2
def LK(i j k:Nat)(fa:aj->DM (List D)):aj->DM Fl:=λδ=>fa δ>>=λl=>match l with
 |[v,w,z]=>pure (.nx (((δ.set i (some v)).set j (some w)).set k (some z)))
 |_=>stuck
@[simp] theorem VL(i j k:Nat)(fa:aj->DM (List D))(δ:aj):LK i j k fa δ=fa δ>>=λl=>match l with
 |[v,w,z]=>Pure.pure (.nx (((δ.set i (some v)).set j (some w)).set k (some z)))
 |_=>stuck:=id rfl
def Nr{kt k2 pt2}(hc:X.calm=true)(hN:X.N.Nodup)(hi:X.N[i]?=some x)(hj:X.N[j]?=some y)(hk:X.N[k]?=some z)(cm:i≠j)(hik:i≠k)(cq:j≠k)
  (hx:X.env.scope.names.lookup x=some .local) (hy:X.env.scope.names.lookup y=some .local) (hz:X.env.scope.names.lookup z=some .local) (ha:DA X E [a,b,c] fa)
  (hw:swappedStores [.Tuple [.Name x px,.Name y py,.Name z pz] kt pt] (.Tuple [a,b,c] k2 pt2) X.env=pure (some [x,y,z]))
  (hs:swapsWithSole [.Tuple [.Name x px,.Name y py,.Name z pz] kt pt] (.Tuple [a,b,c] k2 pt2) pos.line X.env=pure false:=by rfl) :
  DS X E (.Assign [.Tuple [.Name x px,.Name y py,.Name z pz] kt pt] (.Tuple [a,b,c] k2 pt2) pos) (LK i j k fa):=⟨PS.mono (OJ hc hN hi hj hk cm hik cq hx hy hz ha.h.h hw hs) λD σ H h=>by
 walk_at "b";refine⟨ρ,δ,M,ev,j,bw.bind g1 λρ1 H1 M1 v d e1 j1 c1 g2=>?_⟩
 cases c1 with
 |nil=>obtain⟨r,e,_⟩:=g2;cases e
 | cons c1 c2=>cases c2 with
   |nil=>obtain⟨r,e,_⟩:=g2;cases e
   | cons c2 c3=>cases c3 with
     |nil=>obtain⟨r,e,_⟩:=g2;cases e
     |cons c3 c4=>cases c4 with
       |nil=>exact⟨_,_,_,rfl,bw.pure (a:=.nx _) g2 ρ1 H1 _ .refl j1 ((((ev.mono e1).set c1).set c2).set c3)⟩
       |cons _ _=>obtain⟨r,e,_⟩:=g2;cases e⟩
end L3
namespace N10
def Vt(f s:C0):Nat:=(List.zipWith (λa b=>a-b) f s).sum
def pl(a b:Nat):Nat×Nat:=(a / Nat.gcd a b,b / Nat.gcd a b)
def LC(x y:Nat):Nat:=x / Nat.gcd x y*y
def Vv(a b:C0):C0:=a.map λw=>w*(LC a.sum b.sum / a.sum)
def Vw(a b:C0):C0:=b.map λw=>w*(LC a.sum b.sum / b.sum)
def ap(a b:C0):Nat×Nat:=pl (Vt (Vv a b) (Vw a b)) (LC a.sum b.sum)
def UG(l:C0):Nat:=l.foldl Nat.gcd 0
def lst(l:C0):C0:=l.map (·/ UG l)
def S:Nat->(Nat->Nat)->Nat
 |0,_=>0
 |n+1,f=>S n f+f n
def up(f:Nat->Nat)(x v:Nat):Nat->Nat:=λi=>if i=x then v else f i
theorem FQ:∀ {n:Nat},(∀ i,i<n->f i=0)->S n f=0
 |0,_=>rfl
 |n+1,h=>by show S n f+f n=0;rw[FQ λi hi=>h i (by lia),h n (by lia)]
theorem FN(f:Nat->Nat):∀ n:Nat,((List.range n).map f).sum=S n f
 |0=>rfl
 |n+1=>by
   rw[aaF,XR,List.sum_append,FN f n];show S n f+(f n+0)=S n f+f n
   lia
structure G where
 A:Nat->Nat->Nat
 L:Nat->Nat
 W:Nat->Nat
end N10
namespace L3
open L2
def nM(R:A6):D:=.tup (R.map nT)
def ga(l:C0)(i:Nat):Nat:=l.getD i 0
def gr(R:A6)(i:Nat):C0:=R.getD i []
def pX(h:i<l.length):ga l i∈l:=by unfold ga;rw[Xa,Wl h];exact XX _
def gr_mem{R:A6}{i:Nat}(h:i<R.length):gr R i∈R:=by unfold gr;rw[Xa,Wl h];exact XX _
def QT(h:l.length<=i):ga l i=0:=by unfold ga;rw[Xa,Xx h];rfl
def qW(h:i<l.length):ga l i=l[i]:=by unfold ga;rw[Xa,Wl h];rfl
def xr{R:A6}{i:Nat}(h:i<R.length):gr R i=R[i]:=by unfold gr;rw[Xa,Wl h];rfl
def Rg(h:nD a=nD b):a=b:=by
 have:=D.int.inj h
 lia
def Rj(h:nT a=nT b):a=b:=(Zk λz z=>Rg).mp (D.tup.inj h)
def Ri(h:nM a=nM b):a=b:=(Zk λz z=>Rj).mp (D.tup.inj h)
theorem Hc{α:Type}{ft:aj->DM Bool}{fe:aj->DM D}{rest:aj}(enc:α->D)(p:α->Bool)(e:α->D):∀ (as:List α) (x:Option D) (l:List D),l.length + as.length<=1000000->(∀ a∈as,ft (some (enc a)::rest)=Pure.pure (p a))->(∀ a∈as,p a=true->fe (some (enc a)::rest)=Pure.pure (e a))->
  bB (gN 0) ft (bY fe) (as.map enc) (x::rest) l=Pure.pure (nY x (as.map enc)::rest,l++(as.filter p).map e)
 |[],x,l,_,_,_=>by simp[bB,nY]
 | d::ds,x,l,hl,h1,h2=>by
   have b:=h1 d (WP ..);have hl':l.length+(ds.length+1)<=1000000:=by simpa using hl
   have lt:l.length<sizeLine:=by show l.length<2^24;lia
   have ih:=λl' hl'=>Hc (rest:=rest) enc p e ds (some (enc d)) l' hl' (λx hx=>h1 x (W6 _ hx)) (λx hx=>h2 x (W6 _ hx))
   by_cases hp:p d=true
   ·have c:=h2 d (WP ..) hp;have q:=ih (l++[e d]) (by simp;lia)
    simp[bB,b,hp,bY,c,lt,q,nY]
   ·have q:=ih l (by lia)
    simp[bB,b,hp,q,nY]
def aR{α:Type}{ft:aj->DM Bool}{fe:aj->DM D}{x:Option D}{rest:aj}{as:List α}(enc:α->D)(p:α->Bool)(e:α->D)(hl:as.length<=1000000)(h1:∀a∈as,ft (some (enc a)::rest)=Pure.pure (p a))(h2:∀a∈as,p a=true->fe (some (enc a)::rest)=Pure.pure (e a)):
  dj (bB (gN 0) ft (bY fe) (as.map enc) (x::rest) [])=Pure.pure (nY x (as.map enc)::rest,(as.filter p).map e):=by
 rw[Hc enc p e as x [] (by simpa using hl) h1 h2];simp
def fj{α:Type}{fe:aj->DM D}{x:Option D}{rest:aj}{as:List α}(enc:α->D)(e:α->D)(hl:as.length<=1000000)(h2:∀a∈as,fe (some (enc a)::rest)=Pure.pure (e a)):
  dj (bB (gN 0) (λz=>Pure.pure true) (bY fe) (as.map enc) (x::rest) [])=Pure.pure (nY x (as.map enc)::rest,as.map e):=by
 rw[aR enc (λz=>true) e hl (λz z=>rfl) λa ha z=>h2 a ha,aaI.mpr (λz z=>rfl)]
def zJ(h0:0<b)(h:b<2^1000):(rd (uP (nD a) (nD b)):DM D)=Pure.pure (nD (a / b)):=by unfold nD;rw[RM (Np (by lia) (by simpa using h)),Int.natCast_ediv]
def H8(h:b<2^64):(rd (n6 (nD a) (nD b)):DM D)=Pure.pure (nD (a*b)):=by unfold nD;rw[Mj (Oe (by simpa using h)),Int.natCast_mul]
def iR(a b:Nat):(rd (cX (nD a) (nD b)):DM D)=Pure.pure (nD (a+b)):=by unfold nD;rw[Tp,Int.natCast_add]
def Cu(a:Nat):(rd (cX (nD a) (.int 1)):DM D)=Pure.pure (nD (a+1)):=iR a 1
def RC(a:Nat):(rd (cX (.int 1) (nD a)):DM D)=Pure.pure (nD (a+1)):=by rw[Nat.add_comm];exact iR 1 a
def zQ(h:b<=a):(rd (Ad (nD a) (nD b)):DM D)=Pure.pure (nD (a-b)):=by
 unfold nD;rw[TQ];have:(a:Int)-(b:Int)=((a-b:Nat):Int):=by lia
 rw[this]
def m9(a b:Nat):(rd (dg (nD a) (nD b)):DM D)=Pure.pure (.bl (decide (a=b))):=by
 unfold nD;rw[Tq];have:decide ((a:Int)=(b:Int))=decide (a=b):=by rw[WW,Xk,Xk];lia
 rw[this]
def H9(a b:Nat):(rd (gQ (nD a) (nD b)):DM D)=Pure.pure (.bl (!decide (a=b))):=by
 unfold nD;rw[Tw];have:decide ((a:Int)=(b:Int))=decide (a=b):=by rw[WW,Xk,Xk];lia
 rw[this]
def zM(a b:Nat):(rd (Rc (nD a) (nD b)):DM D)=Pure.pure (.bl (decide (a<b))):=by
 unfold nD;rw[U3];have:decide ((a:Int)<(b:Int))=decide (a<b):=by rw[WW];simp
 rw[this]
def zL(a b:Nat):(rd (BV (nD a) (nD b)):DM D)=Pure.pure (.bl (decide (a<=b))):=by
 unfold nD;rw[U0];have:decide ((a:Int)<=(b:Int))=decide (a<=b):=by rw[WW];simp
 rw[this]
def qm(a b:Nat):(rd (mU (nD a) (nD b)):DM D)=Pure.pure (.bl (decide (b<a))):=by
 unfold nD;rw[UW];have:decide ((b:Int)<(a:Int))=decide (b<a):=by rw[WW];simp
 rw[this]
def HN(a b:Nat):(rd (GK (nD a) (nD b)):DM D)=Pure.pure (.bl (decide (b<=a))):=by
 unfold nD;rw[UV];have:decide ((b:Int)<=(a:Int))=decide (b<=a):=by rw[WW];simp
 rw[this]
def gB(h:0<b):(rd (je (nD a) (nD b)):DM D)=Pure.pure (nD (a%b)):=zN h
def HY(l:C0):(rd (ik [nT l]):DM D)=Pure.pure (nD l.length):=by simp[nT,nD]
def nq(R:A6):(rd (ik [nM R]):DM D)=Pure.pure (nD R.length):=by simp[nM,nD]
def Er(l:List D):(rd (ig [.tup l,.ty "tuple"]):DM D)=Pure.pure (.bl true):=xx (t := "tuple") (λz=>rfl) (by decide)
def HR(l:C0):(rd (ig [nT l,.ty "tuple"]):DM D)=Pure.pure (.bl true):=Er _
def HQ(R:A6):(rd (ig [nM R,.ty "tuple"]):DM D)=Pure.pure (.bl true):=Er _
def dZ(h:n<2^62):oE [nD n]=some (.fix ((List.range n).map nD)):=vh h
def HH(R:A6):gO (nM R)=some (.fix (R.map nT)):=rfl
def RG(l:List D):(rd (wC (.lst l)):DM Itn)=Pure.pure (.fix l):=rfl
def lu(h:i<l.length):(rd (dC (nT l) (nD i)):DM D)=Pure.pure (nD (ga l i)):=Tt (by unfold ga;rw[Xa,Wl h];rfl)
def Mi{R:A6}{i:Nat}(h:i<R.length):(rd (dC (nM R) (nD i)):DM D)=Pure.pure (nT (gr R i)):=vg (by unfold gr;rw[WM,Xa,Wl h];rfl)
def HX{R:A6}(h:0<R.length):(rd (dC (nM R) (.int 0)):DM D)=Pure.pure (nT (gr R 0)):=Mi h
theorem Ai:∀ R:A6,dW (R.map nT)=some (R.map λl=>PyData.tuple (l.map λn:Nat=>PyData.int (n:Int)))
 |[]=>rfl
 | l::R=>by
   have e:toPy (nT l)=some (PyData.tuple (l.map λn:Nat=>PyData.int (n:Int))):=by rw[jC];simp only[toPy,cO,Option.map_some];rw[W4];rfl
   simp only[List.map_cons,dW,e,Ai R]
theorem yz:∀ R:A6,PyData.depthAll (R.map λl=>PyData.tuple (l.map λn:Nat=>PyData.int (n:Int)))<=2
 |[]=>by simp[PyData.depthAll]
 |l::R=>by
   have:=yz R;have h:=cF (l.map λn:Nat=>(n:Int))
   rw[W4]at h;have h':PyData.depthAll (l.map λn:Nat=>PyData.int (n:Int))<=1:=h
   simp only[List.map_cons,PyData.depthAll,PyData.depth]
   lia
def Pn{R:A6}(h:∀ l∈R,∀ n∈l,n<2 ^ 1000):PyData.showableAll (R.map λl=>PyData.tuple (l.map λn:Nat=>PyData.int (n:Int)))=true:=by
 induction R with
 |nil=>rfl
 | cons l R ih=>
   have hl:=qH (l:=l.map λn:Nat=>(n:Int)) (λi hi=>by
    obtain⟨n,hn,rfl⟩:=WQ.mp hi;have:=h l (by simp) n hn
    rw[Z4];exact this)
   rw[W4]at hl;have hl':PyData.showableAll (l.map λn:Nat=>PyData.int (n:Int))=true:=hl
   simp[PyData.showableAll,PyData.showable,hl',ih λm hm=>h m (by simp[hm])]
theorem FZ:∀ {R:A6},(∀ l∈R,l.length<=c)->fW (R.map λl=>PyData.tuple (l.map λn:Nat=>PyData.int (n:Int)))<=(1923 * c + 100) * R.length
 |[],_=>by simp[fW]
 |l::R,h=>by
   have ih:=FZ (R:=R) λm hm=>h m (by simp[hm])
   have b:=nJ (l.map λn:Nat=>(n:Int))
   rw[W4,Wm]at b;have b':fW (l.map λn:Nat=>PyData.int (n:Int))=1923*l.length:=b
   have hl:=h l (by simp)
   have m:1923*l.length<=1923*c:=Nat.mul_le_mul_left _ hl;simp only[List.map_cons,fW,dM,b',List.length_cons];rw[Nat.mul_add]
   lia
def CN(h:∀n∈l,n<2^1000)(hl:l.length<=1000):my (nT l):=by
 rw[jC];refine Im (λi hi=>?_) (by simpa using hl)
 obtain⟨n,hn,rfl⟩:=WQ.mp hi;rw[Z4];exact h n hn
end L3
namespace LS
open PyProof.Rows PyProof
end LS
namespace L2
open PyProof.Rows
variable{X:Cx}{pos:Pos}
end L2
namespace L3
open PyProof.Rows L2
variable{X:Cx}{E:XK}{pos:Pos}
def gL(n:Nat)(fs:List D->aj->DM aj):D->aj->DM aj
 |.lst l,δ=>if l.length=n then fs l δ else stuck
 |_,_=>stuck
@[simp] theorem Wd(n:Nat)(fs:List D->aj->DM aj)(l:List D)(δ:aj):gL n fs (.lst l) δ=if l.length=n then fs l δ else stuck:=id rfl
def JS{X:Cx}{E:XK}{st:Stmt}:DS X E st (λz=>stuck):=⟨by intro aaW s σ H D I h;obtain⟨ρ,δ,M,ev,j,g1⟩:=h;obtain⟨r,e,_⟩:=g1;cases e⟩
end L3
namespace L3
open L2
abbrev Mg:=A4
abbrev Fn:=List D->DM D
abbrev Nn(mg:Mg)(x:Str):Prop:=mg x=none
abbrev Gi(mg:Mg)(x:Str)(i:Int)(t:Tok):Prop:=mg x=some (.int i t)
abbrev Gc(mg:Mg)(x:Str)(C:Addr):Prop:=mg x=some (.ref C)
abbrev Rm(k:Nat)(A:Around)(q:Str)(st:Stmt)(s:Shared)(f:Addr)(ae:Value):Prop:=Room k (A.deeper (PyProof.Rows.envOfC q (defScope st) s.z f ae))
abbrev Ds(P:C5)(w:World)(K:B0)(mg:Mg)(base:Heap)(N:C3)(q:Str)(st:Stmt)(f:Addr)(ae:Value)(A:Around)(outer:C4)(s:Shared)(H:Hp)(E:XK)(b:aj->DM Fl):Prop:=
 DSs (bV P w K mg base N q (defScope st) f ae A outer s H E) E (defBody st) b
def TV(a:sc.kind=.function)(b:sc.isCoroutine=false)(c:sc.isGenerator=false)(p:N.take P.length=P)(d:(decide N.Nodup&&(decide (∀x∈P,sc.names.lookup x=some .local\/sc.names.lookup x=some .cell)&&decide (∀y∈sc.names,y.2≠.free)))=true):FnScope N P sc:=by simp only[Bool.and_eq_true,decide_eq_true_eq]at d;exact⟨a,b,c,d.1,p,d.2.1,d.2.2⟩
section
variable{X:Cx}{E:XK}{a:Expr}{fa:aj->DM (List D)}{p1 p2 a9 ag:Pos}
def Gu(hc:X.calm=true)(f7:X.mg "tuple"=none)(hm:X.mg "range"=none)(ha:DA X E [a] fa)(f6:Gl X "tuple":=by rfl)(hg:Gl X "range":=by rfl)(hs:notStar a=true:=by rfl):
  DE X E (.Call (.Name "tuple" p1) [.Call (.Name "range" p2) [a] [] ag] [] a9) (λδ=>fa δ>>=λl=>rd (λM=>(jw l M).map D.tup)):=⟨PE.mono (Hy hc f6 f7 hg hm ha.h.h hs) λσ H Q h=>by
 walk_at "b";refine⟨ρ,δ,M,ev,j,g1.bind λρ1 H1 M1 xs ds e1 j1 c1 g2=>?_⟩
 obtain⟨d,ed,q⟩:=g2.rd;obtain⟨l,el,rfl⟩:=Wk.mp ed;unfold jw at el;split at el
 ·split at el
  ·rename_i hb;cases el;obtain⟨v,rfl,k⟩:=c1.one;cases k;exact⟨_,rfl,hb.2,hb.1,λp hp=>q ρ1 _ _ (.lay hp) (j1.lay _ hp) (.tup (j1.fresh hp) upd_same (vI _))⟩
  ·cases el
 ·cases el⟩
end
def inD(x y:D)(M:Mo):Option D:=match x with
 |.int i=>((iD y M).bind intsOf).map λns=>.bl (ns.contains i)
 |_=>none
theorem yR(i:Int):∀ ns:C1,inV (.int i) (ns.map V.int)=ns.contains i
 |[]=>rfl
 |n::ns=>by
   have ih:=yR i ns;unfold inV at ih ⊢
   rw[W2,Zf,ih,aad];congr 1;show eqV (.int n) (.int i)=_;unfold eqV;rw[WW];simp;exact⟨λh=>h.symm,λh=>h.symm⟩
def GF(ns:C1):(ns.map V.int).all flatV=true:=by simp[flatV]
section
variable{X:Cx}{E:XK}
def Hv:bZ X E (compareOp .In) (λx y=>rd (inD x y)):=by
 refine bZ.of op_in_seq λx y H Q ρ M dx dy d j cx cy e q=>?_
 unfold inD at e;split at e
 ·obtain⟨ns,h1,rfl⟩:=Wk.mp e;obtain⟨l,h2,h3⟩:=Wv.mp h1;cases cx;obtain⟨a,xs,rfl,ha,c⟩:=vz j cy h2;have:=ints_of c h3;subst this;refine⟨a,_,rfl,ha.imp (λh=>SqL.of h) (λh=>SqT.of h),rfl,GF ns,?_⟩
  rw[Ww (by simp),yR]
  exact q ρ H _ .refl j (.bl _)
 ·cases e
end
def J0(l:C0)(i:Nat):(l.map λn:Nat=>(n:Int)).contains (i:Int)=l.contains i:=by
 rw[WW];simp;constructor
 ·rintro⟨a,h,e⟩;have:a=i:=by lia
  exact this ▸ h
 ·exact λh=>⟨i,h,rfl⟩
def Mr(lo hi:Option Int):D->Mo->Option D
 |.scr ns,_=>some (.lst (cutD (ns.map D.int) lo hi))
 |_,_=>none
theorem Bl:∀l:C1,Cvs mg ρ H (l.map V.int) (l.map D.int)
 |[]=>.nil
 |n::l=>.cons (.int _) (Bl l)
section
variable{X:Cx}{E:XK}
def U4:SlR X (λx lo hi H Q=>∃ρ M dx d,J X.mg ρ M H/\Cv X.mg ρ H x dx/\Mr lo hi dx M=some d/\∀ρ' H' v,Ext ρ H ρ' H'->J X.mg ρ' M H'->Cv X.mg ρ' H' v d->Q v H'):=by
 intro aaW s σ H x v vl vu lo hi sl Q I rx hs pl pu h;obtain⟨ρ,M,dx,d,j,c,e,q⟩:=h;unfold Mr at e;split at e
 ·cases e;cases c with | scr n rd=>
  refine sl_list (X:=X) aaW s σ H _ v vl vu lo hi sl Q I rx hs pl pu ⟨_,_,rfl,.inl rd,λp hp=>?_⟩
  exact q ρ _ _ (.lay hp) (j.lay _ hp) (.lst (j.fresh hp) upd_same (((Bl _).cut lo hi).mono (.lay hp)))
 ·cases e
def Gr(ha:DE X E a fa)(hl:DP X E lo fl)(hh:DP X E hi fh):
  DE X E (.Subscript a (.Slice lo hi none p2) pos) (λδ=>fa δ>>=λx=>fl δ>>=λl=>fh δ>>=λh=>rd (Mr l h x)):=⟨PE.mono (pe_slice U4 ha.h hl.h hh.h) λσ H Q h=>by
 walk_at "b";refine⟨ρ,δ,M,ev,j,g1.bind λρ1 H1 M1 x dx e1 j1 c1 g2=>⟨ρ1,δ,M1,ev.mono e1,j1,g2.bind λρ2 H2 M2 l dl e2 j2 c2 g3=>⟨ρ2,δ,M2,(ev.mono e1).mono e2,j2,g3.bind λρ3 H3 M3 h dh e3 j3 c3 g4=>?_⟩⟩⟩
 have c2:l=dl:=c2;have c3:h=dh:=c3;subst c2 c3;obtain⟨d,e,q⟩:=g4.rd;exact⟨ρ3,M3,dx,d,j3,(c1.mono e2).mono e3,e,q⟩⟩
end
def TJ(ns:C1)(lo hi:Option Int):(rd (Mr lo hi (.scr ns)):DM D)=Pure.pure (.lst (cutD (ns.map D.int) lo hi)):=rfl
def u1(h:n+64<cLine):n+1<cLine:=by lia
def gH:D->Mo->Option (List Key×List D)
 |.dic ks ds,_=>some (ks,ds)
 |.ref n,M=>match M[n]? with
   |some (.dic ks ds)=>some (ks,ds)
   |_=>none
 |_,_=>none
def lK:D->Option Key
 |.int i=>some (.inl i)
 |.str x=>some (.inr x)
 |_=>none
def dB:List Key->List D->Key->Option D
 |k'::ks,d::ds,k=>if k'=k then some d else dB ks ds k
 |_,_,_=>none
section
variable{mg:A4}{ρ:Rh}{M:Mo}{H:Hp}
set_option tactic.hygienic true in
def yD(j:J mg ρ M H)(c:Cv mg ρ H x d)(e:gH d M=some (ks,l)):∃ a xs,x=.ref a/\H a=some (.dK (ks.zip xs))/\ks.length=xs.length/\Cvs mg ρ H xs l:=by
 unfold gH at e;split at e
 ·cases e;cases c with | dic n h hl c=>exact⟨_,_,rfl,h,hl,c⟩
 ·split at e
  ·rename_i n _ ja ds' h;cases e;cases c with | ref hn=>
   obtain⟨xs,h1,h2,h3⟩:=j.obj _ _ _ hn h;exact⟨_,xs,rfl,h1,h2,h3⟩
  ·cases e
 ·cases e
def qX(c:Cv mg ρ H y d)(e:lK d=some k):y=kV k:=by
 unfold lK at e;split at e
 ·cases e;cases c;rfl
 ·cases e;cases c;rfl
 ·cases e
theorem vC(k:Key):∀ {xs:List V}{ds:List D} (ks:List Key),Cvs mg ρ H xs ds->ks.length=xs.length->(dB ks ds k=none->valV (ks.zip xs) k=none)/\∀ d,dB ks ds k=some d->∃ v,valV (ks.zip xs) k=some v/\Cv mg ρ H v d
 |_,_,[],.nil,_=>⟨λy=>rfl,λd h=>by cases h⟩
 |_,_,[],.cons a t,h=>by cases h
 |_,_,_::_,.nil,h=>by cases h
 | _,_,k'::ks,.cons a t,h=>by
   obtain⟨h1,h2⟩:=vC k ks t (by simpa using h)
   rw[YZ];by_cases e:k'=k
   ·rw[valV_pos (p:=(k',_)) e];refine⟨λz=>?_,λd z=>?_⟩
    ·simp[dB,e]at z
    ·simp only[dB,e,if_true]at z;cases z;exact⟨_,rfl,a⟩
   ·rw[valV_neg (p:=(k',_)) e];simp only[dB,e,if_false];exact⟨h1,h2⟩
end
def JN(x y:D)(M:Mo):Option D:=(gH x M).bind λp=>(lK y).bind λk=>dB p.1 p.2 k
def DR(x y:D)(M:Mo):Option D:=(gH y M).bind λp=>(lK x).map λk=>.bl (!(dB p.1 p.2 k).isSome)
section
variable{X:Cx}{E:XK}
def some_of(k:Key)(c:Cvs mg ρ H xs ds)(h:ks.length=xs.length):(valV (ks.zip xs) k).isSome=(dB ks ds k).isSome:=by
 obtain⟨h1,h2⟩:=vC k ks c h;cases e:dB ks ds k with
 |none=>rw[h1 e];rfl
 |some d=>obtain⟨v,e2,_⟩:=h2 d e;rw[e2];rfl
def Ku(hu:X.A.units+1<cLine):bZ X E (compareOp .NotIn) (λx y=>rd (DR x y)):=by intro aaW s σ H x y v u Q I rx ry q;obtain⟨ρ,M,dx,dy,j,cx,cy,go⟩:=q;obtain⟨d,e,p⟩:=go.rd;obtain⟨⟨ks,ds⟩,h1,h2⟩:=Wv.mp e;obtain⟨k,h3,rfl⟩:=Wk.mp h2;obtain⟨a,xs,rfl,ha,hl,c⟩:=yD j cy h1;obtain rfl:=qX cx h3;obtain rfl:u=Value.ref a:=ry;have so:=some_of k c hl;exact d_notIn hu I (DGet.k (k:=k) ha) rx λs' I'=>⟨.bl _,H,I',rfl,p ρ H _ .refl j (by rw[so];exact .bl _)⟩
def uI(hu:X.A.units+1<cLine)(ha:DE X E a fa)(hb:DE X E b fb)(hs:NoSl b:=by exact λz z=>rfl):DE X E (.Subscript a b pos) (λδ=>fa δ>>=λx=>fb δ>>=λy=>rd (JN x y)):=
 ⟨PE.mono (pe_dget hu ha.h hb.h hs) fun σ H Q h=>by
  walk_at "b";refine⟨ρ,δ,M,ev,j,g1.bind λρ1 H1 M1 x dx e1 j1 c1 g2=>⟨ρ1,δ,M1,ev.mono e1,j1,g2.bind λρ2 H2 M2 y dy e2 j2 c2 g3=>?_⟩⟩
  obtain⟨d,e,p⟩:=g3.rd;obtain⟨⟨ks,ds⟩,h1,h2⟩:=Wv.mp e;obtain⟨k,h3,h4⟩:=Wv.mp h2;obtain⟨a,xs,rfl,ha,hl,c⟩:=yD j2 (c1.mono e2) h1;obtain rfl:=qX c2 h3;obtain⟨v,e3,cv⟩:=(vC k ks c hl).2 d h4;exact⟨a,v,rfl,by rw[<-e3];exact DGet.k ha,p ρ2 H2 _ .refl j2 cv⟩⟩
def DX:D->D->D->DM Unit
 |.ref n,y,v=>λM=>match M[n]?,lK y with
   |some (.dic ks ds),some k=>if dB ks ds k=none/\ks.length<2^20 then some (.ok (),M.set n (.dic (ks++[k]) (ds++[v]))) else none
   |_,_=>none
 |_,_,_=>stuck
theorem Am:∀ {as:List α}{bs:List β} (a:α) (b:β),as.length=bs.length->(as++[a]).zip (bs++[b])=as.zip bs++[(a,b)]
 |[],[],_,_,_=>rfl
 |[],_::_,_,_,h=>by cases h
 |_::_,[],_,_,h=>by cases h
 |x::as,y::bs,a,b,h=>by rw[ZP,ZP,YZ,YZ,Am a b (by simpa using h),ZP]
set_option tactic.hygienic true in
def K6(hu:X.A.units + 1<cLine):PSet X (Ep X.mg E DX):=by
 intro aaW s σ H o i v ov iv u Q I ro ri rv h;obtain⟨ρ,M,dO,di,dv,j,co,ci,cv,r,e,p⟩:=h;cases co with
 | ref hn=>
   rename_i n a;have e:(match M[n]?,lK di with
    |some (.dic ks ds),some k=>if dB ks ds k=none/\ks.length<2^20 then some (R.ok (),M.set n (.dic (ks++[k]) (ds++[dv]))) else none
    |_,_=>none)=some r:=e
   split at e
   ·rename_i ks ds k hm hk;split at e
    ·rename_i hc;cases e;obtain⟨xs,hx,hl,c⟩:=j.obj _ _ _ hn hm;obtain rfl:=qX ci hk;obtain rfl:ov=Value.ref a:=ro;have nn:=(vC k ks c hl).1 hc.1;have pn:=putK_new v nn;have lz:(ks.zip xs).length<sizeLine:=by rw[List.length_zip,<-hl,Nat.min_self];exact ZD hc.2 (by show 2^20<2^24;decide)
     have x:Ext ρ H ρ (upd H a (.dK ((ks++[k]).zip (xs++[v])))):=.upd (WR hn);refine d_setItem hu I (DPut.k (k:=k) hx lz) ri rv λs' I'=>⟨_,I',?_⟩
     rw[pn,<-Am k v hl];exact p ρ _ () x (j.upd hn ⟨_,upd_same,by simp[hl],(c.append (.cons cv .nil)).mono x⟩) trivial
    ·cases e
   ·cases e
 |_=>cases e
def xn(x v:D):DM D:=λM=>match lK x with
 |some k=>some (.ok (.ref M.length),M++[.dic [k] [v]])
 |none=>none
def Ni(i:Nat)(hN:X.N[i]?=some x:=by rfl)(hv:Vis X.env.scope x:=by first | exact Or.inl rfl | exact Or.inr (Or.inl rfl) | exact Or.inr (Or.inr rfl))(hd:(x == ("__debug__":Str))=false:=by decide)
  (ba:(x==("__classdict__":Str))=false:=by decide):DE X E (.Dict [some (.Name x p1)] [.Constant (.int c) cj p2] pos) (λδ=>b8 i δ>>=λy=>xn y (.int c)):=
 ⟨PE.mono (pe_disp (pps_cons (pe_var (i:=i) hN hv hd ba) pe_int pps_nil) rfl rfl (by simp) (by simp)) fun σ H Q h=>by
  obtain⟨ρ,δ,M,ev,j,g⟩:=h;have g:Go X.mg E (Cv X.mg) Q ρ H (opt δ[i]?.join>>=λy=>xn y (.int c)) M:=g
  cases z:δ[i]?.join with
  |none=>rw[z]at g;obtain⟨r,e,_⟩:=g;cases e
  | some d=>
    rw[z]at g;have g:Go X.mg E (Cv X.mg) Q ρ H (xn d (.int c)) M:=g;have e':δ[i]?=some (some d):=by
     cases y:δ[i]? with
     |none=>rw[y]at z;cases z
     |some o=>rw[y]at z;exact congrArg some z
    obtain⟨v,h1,h2⟩:=ev.val i d e';obtain⟨r,e,q⟩:=g;unfold xn at e;split at e
    ·rename_i k hk;cases e;obtain rfl:=qX h2 hk;intro p hp;refine⟨kV k,h1,upd_same,[(k,.int c)],rfl,by simp,?_⟩
     have em:mergeK [] [(k,V.int c)]=[k].zip [V.int c]:=rfl;rw[em,upd_upd];have x:Ext ρ H (ρ.put p) (upd H p (.dK ([k].zip [V.int c]))):=.put hp;refine q _ _ _ x (j.put hp ⟨[.int c],upd_same,rfl,.cons (.int c) .nil⟩) (.ref ?_);show (ρ.st++[p])[_]?=_;rw[<-j.len];simp
    ·cases e⟩
end
def q9:List Key->Option C1
 |[]=>some []
 |.inl i::ks=>(q9 ks).map (i::·)
 |.inr _::_=>none
theorem zm:∀ {ks:List Key}{ns:C1},q9 ks=some ns->ks=ns.map Sum.inl
 |[],ns,e=>by cases e;rfl
 |.inl i::ks,ns,e=>by obtain⟨ms,h,rfl⟩:=Wk.mp e;rw[zm h];rfl
 |.inr _::_,_,e=>by cases e
def xK:List D->Mo->Option D
 |[d],M=>(gH d M).bind λp=>(q9 p.1).bind λns=>if ns.length<=60 then some (.lst ((qI ns).map D.int)) else none
 |_,_=>none
section
variable{X:Cx}{E:XK}
def Du(hh:X.A.handled=none):CallD X E (.builtin "sorted") (λl=>rd (xK l)):=CallD.of (yt hh) λvs H Q ρ M ds d j c e q=>by
 unfold xK at e;split at e
 ·obtain⟨⟨ks,l⟩,h1,e⟩:=Wv.mp e;obtain⟨ns,h2,e⟩:=Wv.mp e;split at e
  ·rename_i hn;cases e;obtain⟨v,rfl,k⟩:=c.one;obtain⟨a,xs,rfl,ha,hl,c'⟩:=yD j k h1;obtain rfl:=zm h2;refine⟨a,_,ns,rfl,ha,?_,hn,λp hp=>q ρ _ _ (.lay hp) (j.lay _ hp) (.lst (j.fresh hp) upd_same (Cvs.ints _))⟩
   rw[List.map_fst_zip (Nat.le_of_eq hl)]
  ·cases e
 ·cases e
end
end L3
namespace L3
open PySem L2
theorem wX{c:aj->DM Bool}{fb:aj->DM Fl}{pG:aj->Mo->Prop}(I:Nat->aj->Mo->Prop)
  (step:∀m δ M,I m δ M->∃b,c δ M=some (.ok b,M)/\(b=true->Rn (fb δ) M λr M'=>∃δ' m',r=.nx δ'/\m'<m/\I m' δ' M')/\(b=false->pG δ M)) :
  ∀(N m:Nat) (δ:aj) (M:Mo),m<N->I m δ M->Rn (dH c fb N δ) M λr M'=>∃δ',r=.nx δ'/\pG δ' M'
 |0,m,δ,M,h,_=>by lia
 | N + 1,m,δ,M,h,i=>by
   obtain⟨b,e,h1,h2⟩:=step m δ M i;unfold dH;refine Rn.bind (Q1:=λb' M'=>b'=b/\M'=M) ⟨b,M,e,rfl,rfl⟩ λb' M' ⟨eb,eM⟩=>?_
   subst eb eM;cases b' with
   |false=>exact Rn.pure ⟨δ,rfl,h2 rfl⟩
   |true=>
     refine Rn.bind (h1 rfl) λr M1 ⟨δ',m',er,hm,i'⟩=>?_
     subst er;exact wX I step N m' δ' M1 (by lia) i'
def kD(ks:C0):List Key:=ks.map λn:Nat=>Sum.inl (n:Int)
theorem qJ(x:Nat):∀ (ks:C0) (ds:List D),ks.length=ds.length->(dB (kD ks) ds (.inl (x:Int))).isSome=ks.contains x
 |[],[],_=>rfl
 |[],_::_,h=>by cases h
 |_::_,[],h=>by cases h
 | k::ks,d::ds,h=>by
   have ih:=qJ x ks ds (by simpa using h)
   show (dB (Sum.inl (k:Int)::kD ks) (d::ds) (.inl (x:Int))).isSome=_;rw[aad];by_cases e:k=x
   ·subst e;simp[dB]
   ·have e1:¬ (Sum.inl (k:Int):Key)=.inl (x:Int):=λq=>e (by have:=Sum.inl.inj q;lia)
    have e2:(x==k)=false:=by simp;exact λq=>e q.symm
    simp only[dB,e1,if_false,ih,e2,Bool.false_or]
def JP(h:M[n]?=some (.dic (kD ks) ds))(hl:ks.length=ds.length):DR (nD x) (.ref n) M=some (.bl (!ks.contains x)):=by
 have e:gH (.ref n) M=some (kD ks,ds):=by simp[gH,h]
 have:=qJ x ks ds hl;unfold DR nD;rw[e];simp only[Option.bind_some,lK,Option.map_some,this]
def JQ(h:M[n]?=some (.dic (kD ks) ds))(hl:ks.length=ds.length)(hx:x∉ks)(hk:ks.length<1000):
  DX (.ref n) (nD x) v M=some (.ok (),M.set n (.dic (kD (ks++[x])) (ds++[v]))):=by
 have e:=qJ x ks ds hl;have e0:ks.contains x=false:=by simpa using hx
 rw[e0,Option.isSome_eq_false_iff,Option.isNone_iff_eq_none]at e;have e1:kD (ks++[x])=kD ks++[Sum.inl (x:Int)]:=by simp[kD]
 delta DX;dsimp only[nD];rw[h];dsimp only[lK];rw[Wq ⟨e,by unfold kD;rw[Wm];exact ZD hk (by decide)⟩,e1]
theorem zp:∀ ks:C0,q9 (kD ks)=some (ks.map λn:Nat=>(n:Int))
 |[]=>rfl
 |k::ks=>by show (q9 (kD ks)).map ((k:Int)::·)=_;rw[zp ks];rfl
def Iu{n:Nat}{ks:C0}{p:Nat->Bool}(nd:ks.Nodup)(hp:∀x,x∈ks ↔ x<n/\p x=true):qI (ks.map λn:Nat=>(n:Int))=((List.range n).filter p).map λn:Nat=>(n:Int):=by
 have f:=cg (ks.map λn:Nat=>(n:Int))
 refine fQ (f.1.trans ?_) f.2 ?_
 ·refine List.Perm.map _ ((ZQ nd (List.nodup_range.filter _)).mpr λx=>?_)
  rw[hp,WN,Wr]
 ·refine List.Pairwise.map _ (λa b (h:a<b)=>?_) (List.Pairwise.sublist List.filter_sublist Yv)
  lia
def Ir{n m:Nat}{ks:C0}{ds:List D}{p:Nat->Bool}(h:M[m]?=some (.dic (kD ks) ds))(hk:ks.length<=60)(nd:ks.Nodup)(hp:∀x,x∈ks ↔ x<n/\p x=true):
  xK [.ref m] M=some (.lst (((List.range n).filter p).map nD)):=by
 have e0:gH (.ref m) M=some (kD ks,ds):=by simp[gH,h]
 unfold xK;dsimp only;rw[e0];show (q9 (kD ks)).bind _=_;rw[zp,YT,Wq (by rw[Wm];exact hk),Iu nd hp,W4]
 rfl
end L3
namespace L3
open L2 LB
def tupI(t:C1):D:=.tup (t.map D.int)
def cU:List D->Option A7
 |[]=>some []
 |.tup l::r=>(intsOf l).bind λt=>if t=[] then none else (cU r).map (t::·)
 |_::_=>none
theorem lE:∀ {l:List D}{ts:A7},cU l=some ts->l=ts.map tupI/\∀ t∈ts,t≠[]
 |[],ts,e=>by cases e;exact⟨rfl,λt h=>by cases h⟩
 | d::l,ts,e=>by
   cases d with
   | tup l0=>
     obtain⟨t,h1,e⟩:=Wv.mp e;split at e
     ·cases e
     ·rename_i ay;obtain⟨ms,h,rfl⟩:=Wk.mp e;obtain⟨h2,h3⟩:=lE h;refine⟨by rw[h2,kJ h1];rfl,λx hx=>?_⟩
      rcases Wz.mp hx with rfl | hx
      ·exact ay
      ·exact h3 x hx
   |_=>simp[cU]at e
theorem jy:∀ {ts:A7},(∀ t∈ts,t≠[])->cU (ts.map tupI)=some ts
 |[],_=>rfl
 |t::ts,h=>by
   have ih:=jy (ts:=ts) λx hx=>h x (.tail _ hx)
   have h1:=h t (WP);show (intsOf (t.map D.int)).bind _=_;rw[nW];show (if t=[] then none else _)=_
   rw[Ww h1,ih];rfl
end L3
namespace L3
open PySem L2
theorem wQ{α:Type}{fe:aj->DM D}{rest:aj}{n:Nat}{M:Mo}{L:List α}(enc e:α->D)(hM:M[n]?=some (.lst (L.map enc)))(hL:L.length<=1000000)(h:∀ a∈L,fe (some (enc a)::rest) M=some (.ok (e a),M)):
  ∀(k i:Nat) (x:Option D) (l:List D),i+k=L.length+1->1<=k->l=(L.take i).map e->∃z,qZ (gN 0) (λy=>Pure.pure true) (bY fe) n k i (x::rest) l M=some (.ok (z::rest,L.map e),M)
 |0,i,x,l,_,h1,_=>by lia
 | k + 1,i,x,l,hk,_,hl=>by
   have rn:rd (Itn.next (.dyn n) i) M=some (.ok ((L.map enc)[i]?),M):=by
    have:Itn.next (.dyn n) i M=some ((L.map enc)[i]?):=by simp only[Itn.next,hM]
    unfold rd;rw[this];rfl
   by_cases c:i<L.length
   ·have e1:(L.map enc)[i]?=some (enc L[i]):=by rw[WM,Wl c];rfl
    rw[e1]at rn;have ih:=wQ enc e hM hL h k (i+1) (some (enc L[i])) (l++[e L[i]]) (by lia) (by lia) (by rw[hl,List.take_succ_eq_append_getElem c,XR];rfl)
    obtain⟨z,ih⟩:=ih;refine⟨z,?_⟩;have hf:=h L[i] (XX c);have lt:l.length<sizeLine:=by show _<2^24;rw[hl];simp;lia
    show DM.bind (rd (Itn.next (.dyn n) i)) _ M=_;unfold DM.bind;rw[rn];show ((gN 0 (enc L[i]) (x::rest))>>=λδ1=>(Pure.pure true:DM Bool)>>=λb=>(if b then bY fe δ1 l else Pure.pure (δ1,l))>>=λp=>qZ _ _ _ n k (i+1) p.1 p.2) M=_
    rw[dU,aq,aq];show ((bY fe (some (enc L[i])::rest) l)>>=λp=>qZ _ _ _ n k (i+1) p.1 p.2) M=_
    unfold bY;rw[aG];show DM.bind (fe _) _ M=_;unfold DM.bind;rw[hf];dsimp only;rw[Wq lt];exact ih
   ·have e1:(L.map enc)[i]?=none:=Xx (by rw[Wm];lia)
    rw[e1]at rn;refine⟨x,?_⟩;show DM.bind (rd (Itn.next (.dyn n) i)) _ M=_;unfold DM.bind;rw[rn];have:L.take i=L:=XD (by lia)
    rw[hl,this];rfl
def Nv{α:Type}{fe:aj->DM D}{rest:aj}{n:Nat}{M:Mo}{L:List α}{x:Option D}(enc e:α->D)(hM:M[n]?=some (.lst (L.map enc)))(hL:L.length<=1000000)(h:∀a∈L,fe (some (enc a)::rest) M=some (.ok (e a),M)){β:Type}{k:aj×List D->DM β}{Q:β->Mo->Prop}(k':List D->DM β)(hk:∀q,k q=k' q.2)(q:Rn (k' (L.map e)) M Q):
  Rn (rd (wC (.ref n))>>=λit=>dj (cN (gN 0) (λy=>Pure.pure true) (bY fe) it (x::rest) [])>>=k) M Q:=by
 refine Rn.bindRd (.dyn n) (by simp only[wC,hM]) ?_
 obtain⟨z,e2⟩:=wQ (rest:=rest) enc e hM hL h (L.length+1) 0 x [] (by lia) (by lia) rfl
 have e1:cN (gN 0) (λy=>Pure.pure true) (bY fe) (.dyn n) (x::rest) [] M=some (.ok (z::rest,L.map e),M):=by
  show DM.bind (rd (λM=>aN (.ref n) M)) _ M=_
  unfold DM.bind rd;simp only[aN,hM,Option.map_some,List.length_map];exact e2
 refine Rn.bind (mD ⟨_,_,e1,rfl,rfl⟩:Rn (dj _) M λp M'=>p=(z::rest,L.map e)/\M'=M) λp M' ⟨e1,e2⟩=>?_
 subst e1 e2;rw[hk];exact q
end L3
namespace L3
open L2 LA LB
open PyProof.Rows hiding St
def iI(acc:A7)(t:C1):A7:=if t∈acc then acc else acc++[t]
def pU(ts:A7):A7:=ts.foldl iI []
def JF(ts:A7)(t:C1):pU (ts++[t])=iI (pU ts) t:=by unfold pU;rw[Zu];rfl
def Br(acc:A7)(t:C1):(iI acc t).length<=acc.length+1:=by unfold iI;split<;>simp
def Bq(ts:A7):(pU ts).length<=ts.length:=by
 have key:∀ (ts acc:A7),(ts.foldl iI acc).length<=acc.length + ts.length:=by
  intro ts;induction ts with
  |nil=>intro acc;simp
  |cons t ts ih=>
    intro acc;have:=ih (iI acc t);have:=Br acc t;rw[Yp,XH]
    lia
 have:=key ts [];simpa[pU] using this
def Bo(cs:A1)(c:Addr×C1):(uG cs c).map (·.2)=iI (cs.map (·.2)) c.2:=by unfold uG iI;split<;>simp
theorem vB:∀ {l:List D}{ts:A7}{d:D}{t:C1},cU l=some ts->cU [d]=some [t]->cU (l++[d])=some (ts++[t])
 |[],ts,d,t,e,e2=>by cases e;exact e2
 | x::l,ts,d,t,e,e2=>by
   cases x with
   | tup l0=>
     obtain⟨u,h1,e⟩:=Wv.mp e;split at e
     ·cases e
     ·rename_i ay;obtain⟨ms,h,rfl⟩:=Wk.mp e;have ih:=vB h e2;show (intsOf l0).bind _=_;rw[h1];show (if u=[] then none else (cU (l++[d])).map (u::·))=_
      rw[Ww ay,ih];rfl
   |_=>simp[cU]at e
def Uc(h:(cU [d]).isSome=true):∃ t,d=tupI t/\t≠[]/\cU [d]=some [t]:=by
 obtain⟨ts,e⟩:=YG.mp h;obtain⟨h1,h2⟩:=lE e;cases ts with
 |nil=>cases h1
 | cons t ts=>
   cases ts with
   |nil=>simp at h1;exact⟨t,h1,h2 t (by simp),e⟩
   |cons u ts=>simp at h1
section
variable{mg:A4}{ρ:Rh}{H:Hp}{acc:Addr}{φ:B6}{o:HO}
def Cvs.x(hp:H acc=some (.ext φ))(h:Cvs mg ρ H vs ds):Cvs mg ρ (L2.upd H acc o) vs ds:=h.gen (λy y h=>h) λa u h n ne=>⟨n,(upd_ne λz=>by rw[z,hp]at h;cases h;exact ne _ rfl).trans h⟩
theorem Cv.x(hp:H acc=some (.ext φ))(h:Cv mg ρ H v d):Cv mg ρ (L2.upd H acc o) v d:=(Cvs.x hp (.cons h .nil)).hd
theorem Ev.x(hp:H acc=some (.ext φ))(h:Ev mg ρ H σ δ):Ev mg ρ (L2.upd H acc o) σ δ:=⟨h.len,λi d q=>let ⟨v,a,b⟩:=h.val i d q;⟨v,a,b.x hp⟩⟩
def jE.ne(hp:H acc=Option.some (HO.ext φ))(h:jE mg ρ H a u):a≠acc:=λz=>by
 subst z;cases u with
 |lst l=>obtain⟨xs,h,_⟩:=h;rw[hp]at h;cases h
 |dic ks l=>obtain⟨xs,h,_⟩:=h;rw[hp]at h;cases h
 |ins c ns l=>obtain⟨C,dx,xs,_,h,_⟩:=h;rw[hp]at h;cases h
theorem J.x(j:J mg ρ M H)(hp:H acc=Option.some (HO.ext φ)):J mg ρ M (L2.upd H acc o):=⟨j.len,j.nd,λn a u h1 h2=>(j.obj n a u h1 h2).map (upd_ne (jE.ne hp (j.obj n a u h1 h2))) λvs ds c=>c.x hp,λa h=>by obtain⟨x,xs,e⟩:=j.vol a h;exact⟨x,xs,by rw[upd_ne λz=>by rw[z,hp]at e;cases e];exact e⟩⟩
end
def xP(ρ:Rh)(H:Hp)(cs:A1)(l:List D):Prop:=∃ts,cU l=some ts/\cs.map (·.2)=pU ts/\cs.length<=18/\∀c∈cs,c.2≠[]/\c.1∉ρ/\H c.1=some (.tup (c.2.map V.int))
def xP.mono(h:xP ρ H cs l)(e:Ext ρ H ρ' H'):xP ρ' H' cs l:=by obtain⟨ts,h1,h2,h0,h3⟩:=h;exact⟨ts,h1,h2,h0,λc hc=>by obtain⟨a,b,d⟩:=h3 c hc;exact⟨a,e.out d b,e.keeps d b⟩⟩
def ZS(P:C5)(w:World):ZK:=λa ρ H o l=>∃cs,o=oV P w a cs/\xP ρ H cs l
def ZS.ok:(ZS P w).Ok:=λ_ _ _ _ _ _ _ ⟨cs,e,c⟩ x=>⟨cs,e,c.mono x⟩
def qT(fe:aj->DM D)(δ:aj)(l:List D):DM (aj×List D):=fe δ>>=λd=>if (cU [d]).isSome=true/\l.length<18 then pure (δ,l++[d]) else stuck
def ExtB.growO(na:acc∉ρ.st):ExtB acc ρ H ρ (upd H acc o):=⟨⟨[],by simp⟩,rfl,λa h n=>absurd h n,λa u h z ne=>by rw[upd_ne ne];exact h,na⟩
set_option tactic.hygienic true in
def JV(qo:X.xe=λy y=>False)(hu:X.A.units + 1<cLine)(he:DE X E0 elt fe):
  ∀ρ0 H0,uw (ZS X.prog X.w) X acc (λP s=>wpAny X.M X.A (eval elt X.env) (λx s1=>wpAny X.M X.A (call (.builtin "set.add") [.ref acc,x]) (λy s2=>P s2) (λy y=>False) s1) (λy y=>False) s) (qT fe) ρ0 H0:=by
 intro ρ0 H0 aaW δ l M s δ' l' M' ct e;obtain⟨d,M1,e1,e2⟩:=DM.bind_ok e;obtain⟨σ,H,ρ,_,I,x,j,ev,ha,⟨cs,rfl,cl⟩,_⟩:=ct.ex;split at e2;rotate_left
 ·cases e2
 rename_i hz;cases e2;refine W5 (he.h aaW s σ H (λv H1=>∃ρ1,Ext ρ H ρ1 H1/\J X.mg ρ1 M' H1/\Cv X.mg ρ1 H1 v d) I ⟨ρ,δ,M,ev,j,_,e1,λρ1 H1 v a1 a2 a3=>⟨ρ1,a1,a2,a3⟩⟩) (λu s1 h1=>?_) λy y z=>by rw[qo]at z;exact z
 obtain⟨v,H1,I1,rv,ρ1,x1,j1,c1⟩:=h1;have cf:acc∉ρ.st:=x.na;have ha1:=x1.keep acc _ ha cf;have na1:acc∉ρ1.st:=λz=>by have:=x1.new acc z cf;rw[ha]at this;cases this
 obtain⟨t,rfl,tne,et⟩:=Uc hz.1;obtain⟨ts,h1,h2,h0,h3⟩:=cl.mono x1;have cl1:cs.length<=l.length:=by
  have a:=congrArg List.length h2;rw[Wm]at a;have b:=Bq ts;have c:=congrArg List.length (lE h1).1;rw[Wm]at c
  lia
 cases c1 with
 | tup nb hb cb=>
   rename_i b xs;rw[f9 cb]at hb;obtain rfl:u=Value.ref b:=rv;refine Pj hu I1 ha1 hb (λc hc=>(h3 c hc).2.2) (by have:=hz.2;lia) λs' I'=>?_
   refine⟨σ,_,ρ1,_,I',(x.trans (x1.b na1)).trans (.growO na1),j1.x ha1,(ev.mono x1).x ha1,upd_same,⟨uG cs (b,t),rfl,ts++[t],vB h1 et,?_,?_,λc hc=>?_⟩,λb hb=>nomatch hb⟩
   ·rw[Bo,JF,h2]
   ·have a:=congrArg List.length (Bo cs (b,t));have c:=Br (cs.map (·.2)) t;rw[Wm]at a c;have:=hz.2;have a:(uG cs (b,t)).length=(iI (cs.map (·.2)) t).length:=a
    lia
   ·have nx:∀ {c:Addr×C1}{ys:List V},H1 c.1=some (.tup ys)->upd H1 acc (oV X.prog X.w acc (uG cs (b,t))) c.1=H1 c.1:=λ{c ys} h=>upd_ne λz=>by rw [z,ha1]at h;cases h
    have hc':c∈cs\/c=(b,t):=by
     unfold uG at hc;split at hc
     ·exact .inl hc
     ·rcases WF.mp hc with h | h
      ·exact .inl h
      ·exact .inr (Wx.mp h)
    rcases hc' with h | rfl
    ·obtain⟨p1,p2,p3⟩:=h3 c h;exact⟨p1,p2,(nx p3).trans p3⟩
    ·exact⟨tne,nb,(nx hb).trans hb⟩
end L3
namespace L3
open L2 LA LB LS
open PyProof.Rows hiding St
def Hr(h:Q (.ref s.z) { s with heap:=s.heap.push (aX #[] 0 (.fresh 0 0 (!bM w))) }):wq prog w A (newSet (.type "set")) Q E s:=by unfold newSet setsByText;refine Wg (Wg (YB (Wh ?_)));exact Xb h
def Uq(X:Cx)(ρ:Rh)(H:Hp)(x:V)(l:List D):Prop:=∃acc cs,x=.ref acc/\H acc=some (oV X.prog X.w acc cs)/\xP ρ H cs l
section
variable{acc:Addr}{ρ ρ1:Rh}{H H1:Hp}{o:HO}
def ExtB.ext(x:ExtB acc ρ (upd H acc o) ρ1 H1)(hf:H acc=none):Ext ρ H ρ1 H1:=⟨x.pre,x.vo,λa h n=>by
  have:=x.new a h n;by_cases z:a=acc
  ·rw[z];exact hf
  ·rw[upd_ne z]at this;exact this,λa u h n=>x.keep a u (by rw[upd_ne (ne_of_none h hf)];exact h) n (ne_of_none h hf)⟩
def ExtB.kpS(x:ExtB acc ρ (upd H acc o) ρ1 H1)(hf:H acc=none):Kp ρ H ρ1 H1:=⟨x.pre,λa u h n z=>⟨(x.ext hf).out h n,(x.ext hf).keeps h n⟩⟩
end
theorem Beg.set:Beg X (ZS X.prog X.w) (aX #[] 0 (.fresh 0 0 (!bM X.w))) (λa=>oV X.prog X.w a []) (λρ _=>ρ) (newSet (.type "set")) where
 ok:=ZS.ok
 nw:=λA E s Q q=>Hr q
 hob:=λH h a e=>CJ ⟨[],0,.fresh 0 0 (!bM X.w),.refl _,e,⟨.fresh _ _,.inl rfl,rfl,λs h=>(by cases h),X3 _,λz h=>(by cases h),rfl⟩,by show 0*5<7*3;decide⟩
 fr:=rfl
 j:=λh j=>j.lay _ h
 ev:=λh e=>e.mono (.lay h)
 kp:=λh x=>x.kpS h
 st:=λy y=>rfl
 z:=λy y y=>⟨[],rfl,[],rfl,rfl,X3 _,λc h=>(by cases h)⟩
def KD
  (hu:X.A.units+1<cLine) (hc:X.calm=true) (T:CompG X scope cl own js fr) (hi:DI X E t0 i0 fi)
  (hg:∀aaW m fp C s₂ H₂,DG (X.aR aaW scope (cellsFrom m scope.names cl) (own++fr) fp C s₂ H₂) E0 t0 fg) (ht:∀aaW m fp C s₂ H₂,DTs (X.aR aaW scope (cellsFrom m scope.names cl) (own++fr) fp C s₂ H₂) E0 f0 ft)
  (he:∀aaW m fp C s₂ H₂,DE (X.aR aaW scope (cellsFrom m scope.names cl) (own++fr) fp C s₂ H₂) E0 elt fe)
  (hs:∀y,foldedSetIterable i0 X.env y=pure y:=by intro _;rfl) :
  PE X (.SetComp elt [⟨t0,i0,f0,0⟩] scope pos) (tD X.mg E (Uq X) (λδ=>fi δ>>=λit=>dj (cN fg ft (qT fe) it (aW own.length js δ) [])>>=λp=>pure p.2)):=
 yx (bodyK:=λY acc=>uO elt (.ref acc) Y.env) (W:=λY acc P s=>wpAny (model Y.prog Y.w) Y.A (eval elt Y.env) (λx s1=>wpAny (model Y.prog Y.w) Y.A (call (.builtin "set.add") [.ref acc,x]) (λv s2=>P s2) (λv v=>False) s1) (λv v=>False) s) Beg.set (.inr ⟨_,_,_,_,rfl⟩) rfl hc T hi (λY it acc=>Sg ..) (λY acc=>Nx) (λY acc P P' s hp h=>W5 h (λx s1 h1=>W5 h1 (λv s2 h2=>hp _ h2) λv v z=>z) λv v z=>z) hg ht
  (λaaW m fp C s₂ H₂ acc ρ H0=>JV (X:=X.aR aaW scope (cellsFrom m scope.names cl) (own++fr) fp C s₂ H₂) rfl hu (he ..) ρ H0) hs (λQ acc H2 ρ1 lf Mf H4 ρ4 o hf nf x4 j4 qv ⟨cs,e,c⟩ g=>Go.pure (a:=lf) g ρ4 H4 (.ref acc) (x4.ext hf) j4 ⟨_,cs,rfl,e ▸ qv,c⟩) (PySem.arm_eval_SetComp ..)
def vA(l:List D):Option D:=(cU l).map λts=>.lst ((wg (pU ts)).map tupI)
theorem tE:∀{cs:A1},(∀c∈cs,c.1∉ρ/\H c.1=some (.tup (c.2.map V.int)))->Cvs mg ρ H (cs.map λc=>V.ref c.1) ((cs.map (·.2)).map tupI)
 |[],_=>.nil
 |c::cs,h=>.cons (.tup (h c WP).1 (h c WP).2 (Cvs.ints _)) (tE λx hx=>h x (W6 _ hx))
def Gs
  (hh:X.A.handled=none) (hu:X.A.units+1<cLine) (hm:X.mg "sorted"=none) (hc:X.calm=true) (T:CompG X scope cl own js fr) (hi:DI X E t0 i0 fi)
  (hg:∀aaW m fp C s₂ H₂,DG (X.aR aaW scope (cellsFrom m scope.names cl) (own++fr) fp C s₂ H₂) E0 t0 fg) (ht:∀aaW m fp C s₂ H₂,DTs (X.aR aaW scope (cellsFrom m scope.names cl) (own++fr) fp C s₂ H₂) E0 f0 ft)
  (he:∀aaW m fp C s₂ H₂,DE (X.aR aaW scope (cellsFrom m scope.names cl) (own++fr) fp C s₂ H₂) E0 elt fe)
  (hs:∀y,foldedSetIterable i0 X.env y=pure y:=by intro _;rfl) (hgl:Gl X "sorted":=by rfl) :
  DE X E (.Call (.Name "sorted" p1) [.SetComp elt [⟨t0,i0,f0,0⟩] scope pos] [] a9) (λδ=>(fi δ>>=λit=>dj (cN fg ft (qT fe) it (aW own.length js δ) [])>>=λp=>pure p.2)>>=λl=>rd (λz=>vA l)):=
 ⟨PE.mono (LR (yu hh) hm (Rz (KD hu hc T hi hg ht he hs) HF) hgl) fun σ H Q h=>by
  walk_at "b";refine⟨ρ,δ,M,ev,j,g1.bind λρ1 H1 M1 x l e1 j1 c1 g2=>?_⟩
  obtain⟨acc,cs,rfl,ha,ts,h1,h2,h0,h3⟩:=c1;obtain⟨d,e,q⟩:=g2.rd;unfold vA at e;rw[h1]at e;cases e;have le:cs.length<=60:=by lia
  refine⟨acc,cs,rfl,ha,λc hc=>⟨(h3 c hc).1,(h3 c hc).2.2⟩,le,λl cs' hl pm es=>q ρ1 _ _ (.lay hl) (j1.lay _ hl) (.lst (j1.fresh hl) upd_same ?_)⟩
  rw[<-h2,<-es];exact (tE λc hc=>(h3 c (pm.mem_iff.mp hc)).2).mono (.lay hl)⟩
end L3
namespace L2
open PyProof.Rows LS LA LB
def R8(ta:TA):TE:=λσ H Q=>ta σ H λxs H1=>∃(p:Addr) (all:A1),xs=[.ref p]/\H1 p=some (.lst (all.map λc=>V.ref c.1))/\(∀c∈all,c.2≠[]/\H1 c.1=some (.tup (c.2.map V.int)))/\all.length<=18/\∀(l:Addr) (cs':A1),H1 l=none->(∀c∈cs',c∈all)->cs'.map (·.2)=wg ((all.foldl dN []).map (·.2))->Q (.ref l) (upd H1 l (.lst (cs'.map λc=>V.ref c.1)))
theorem wW:∀ {all:A1}{us:B5},Vals (all.map λc=>V.ref c.1) us->us=all.map λc=>Value.ref c.1
 |[],_,.nil=>rfl
 |c::all,_,.cons r t=>by obtain rfl:_=Value.ref c.1:=r;rw[wW t];rfl
section
variable{X:Cx}
def KH(hc:X.calm=true)(hu:X.A.units + 8<cLine)(f6:Gl X "sorted")(f7:X.mg "sorted"=none)(hg:Gl X "set")(hm:X.mg "set"=none)(ha:PA X [a] ta)(hs:notStar a=true:=by rfl):
  PE X (.Call (.Name "sorted" p1) [.Call (.Name "set" p2) [a] [] ag] [] a9) (R8 ta):=by
 walk_at "f";have ax:starEach [Expr.Call (.Name "set" p2) [a] [] ag] X.env=(false,eval (.Call (.Name "set" p2) [a] [] ag) X.env)::starEach [] X.env:=aU rfl;refine Call_ (ld_blt I f6 f7 pP (Zh ?_ ax rfl));rw[ax];show wpAny _ _ (spliced ((false,eval (.Call (.Name "set" p2) [a] [] ag) X.env)::[])) _ _ s;refine Zj ?_;refine Call_ (ld_blt I hg hm wD (Xf (thn (ha ag aaW s σ H _ I h) λus s1 ⟨vs,H1,I1,r1,q1⟩=>?_) (aU hs) rfl))
 obtain⟨p,all,e,hp,hT,hl,q⟩:=q1;subst e;cases r1 with
 | cons r rr=>
   cases rr;cases r;obtain⟨_,its,n,vl,ho⟩:=I1.hok p _ hp;have iv:=wW vl;subst iv;have hd:=I1.ok.hd hc;have HT:pH X.prog X.w s1.heap all:=λc hc=>vN I1.hok (hT c hc).2
   refine Gj (items:=(all.map λc=>Value.ref c.1).toArray) (all:=all) hd ⟨_,ho,rfl,n,rfl⟩ (by simp) HT hu hl λh1 n5 g k1=>?_
   refine Zt ?_;have fs:∀x∈all.foldl dN [],x∈all:=λx hx=>by simpa using tR all [] (S:=[]) hx (λz=>by cases z)
   have fl:=tQ all [];refine sV (s:={ s1 with heap:=h1,toks:=n5 }) hd g (λc hc=>?_) (by simp at fl;lia) λh2 mr d2 l m cs' pm ri eu l6 k2=>?_
   ·obtain⟨ne,hc'⟩:=hT c (fs c hc);obtain⟨_,its,hv,it⟩:=I1.hok _ _ hc';exact⟨ne,its.toArray,it.keeps λb o e=>k1 b o (Wo e) e,by simpa using jW hv⟩
   ·have sz:s1.z<=l:=by obtain⟨_,_,_,_,hs1,_⟩:=g;exact W0 (YJ (Wo hs1)) eu
    have kk:∀b o,s1.heap.get? b=some o->h2.get? b=some o:=λb o e=>k2 b o (k1 b o (Wo e) e)
    have zl:(cs'.map λc=>V.ref c.1).length<=sizeLine:=by
     rw[Wm,pm.length_eq];simp at fl;show _<=2^24
     lia
    have vv:∀l:A1,Vals (l.map λc=>V.ref c.1) (l.map λc=>Value.ref c.1):=by
     intro l;induction l with
     |nil=>exact .nil
     |cons c l ih=>exact .cons rfl ih
    have I2:=I1.call (h':=h2) (t':=mr) (d':=d2) (g':=s1.gens) (ch:=[]) (Un.laid kk sz (I1.hok.fresh sz)) (I1.hok.laid (o:=.lst (cs'.map λc=>V.ref c.1)) kk sz ⟨zl,_,m,vv cs',l6⟩) I1.bare (λy z=>nomatch z)
    exact⟨.ref l,upd H1 l (.lst (cs'.map λc=>V.ref c.1)),I2,rfl,q l cs' (I1.hok.fresh sz) (λc hc=>fs c (pm.mem_iff.mp hc)) (qp ((pm.map _).trans (fG _).1.symm) ri (fG _).2)⟩
end
end L2
namespace L3
open L2 LA LB
theorem yL:∀ (l acc:A1),(l.foldl dN acc).map (·.2)=(l.map (·.2)).foldl iI (acc.map (·.2))
 |[],_=>rfl
 |c::l,acc=>by rw[Yp,yL l,W2,Yp];congr 1;unfold dN iI;split<;>simp
def xM:List D->Mo->Option D
 |[d],M=>(aN d M).bind λl=>if l.length<=18 then vA l else none
 |_,_=>none
set_option tactic.hygienic true in
theorem Df:∀ {ts:A7}{xs:List V},(∀ t∈ts,t≠[])->Cvs mg ρ H xs (ts.map tupI)->∃ all:A1,xs=all.map (λc=>V.ref c.1)/\all.map (·.2)=ts/\∀ c∈all,c.2≠[]/\c.1∉ρ/\H c.1=some (.tup (c.2.map V.int))
 |[],_,_,.nil=>⟨[],rfl,rfl,λc h=>by cases h⟩
 | t::ts,_,h,.cons a c=>by
   obtain⟨all,e1,e2,h3⟩:=Df (λx hx=>h x (.tail _ hx)) c
   cases a with
   |tup n ha k=>
     rename_i b xs;refine⟨(b,t)::all,by rw[e1];rfl,by rw[<-e2];rfl,λc hc=>?_⟩
     rcases Wz.mp hc with rfl | hc
     ·exact⟨h t WP,n,by rw[ha,f9 k]⟩
     ·exact h3 c hc
section
variable{X:Cx}{E:XK}{a:Expr}{fa:aj->DM (List D)}{p1 p2 a9 ag:Pos}
set_option tactic.hygienic true in
def JL(hc:X.calm=true)(hu:X.A.units + 64<cLine)(f7:X.mg "sorted"=none)(hm:X.mg "set"=none)(ha:DA X E [a] fa)(f6:Gl X "sorted":=by rfl)(hg:Gl X "set":=by rfl)(hs:notStar a=true:=by rfl):
  DE X E (.Call (.Name "sorted" p1) [.Call (.Name "set" p2) [a] [] ag] [] a9) (λδ=>fa δ>>=λl=>rd (xM l)):=⟨PE.mono (KH hc (by lia) f6 f7 hg hm ha.h.h hs) λσ H Q h=>by
 walk_at "b";refine⟨ρ,δ,M,ev,j,g1.bind λρ1 H1 M1 xs ds e1 j1 c1 g2=>?_⟩
 obtain⟨d,ed,q⟩:=g2.rd;unfold xM at ed;split at ed
 ·rename_i d0;obtain⟨l0,h0,ed⟩:=Wv.mp ed;split at ed
  ·rename_i hn;unfold vA at ed;obtain⟨ts,h1,rfl⟩:=Wk.mp ed;obtain⟨e0,ne⟩:=lE h1;obtain⟨v,rfl,k⟩:=c1.one;obtain⟨p,xs,rfl,hx,c⟩:=cL j1 k h0;rw[e0]at c;obtain⟨all,rfl,et,h3⟩:=Df ne c;refine⟨p,all,rfl,hx,λc hc=>⟨(h3 c hc).1,(h3 c hc).2.2⟩,?_,λl cs' hl sub es=>q ρ1 _ _ (.lay hl) (j1.lay _ hl) (.lst (j1.fresh hl) upd_same ?_)⟩
   ·have:=congrArg List.length et;have:=congrArg List.length e0;simp at *
    lia
   ·have ed:pU ts=(all.foldl dN []).map (·.2):=by rw[yL,et];rfl
    rw[ed,<-es];exact (tE λc hc=>(h3 c (sub c hc)).2).mono (.lay hl)
  ·cases ed
 ·cases ed⟩
end
end L3
namespace L3
open L2
open PyProof.Rows hiding St
end L3
namespace L3
open PyProof.Rows L2
abbrev TB(K:B0)(x:Str):Prop:=W.nsIn K mainGlobals x=some none
def TD(K:B0)(x:Str)(st:Stmt):Prop:=∀{h:Heap}{mg:Mg},K.In h->h.Ns mainGlobals mg->DefAt K mg x st
section
variable{K:B0}{x:Str}{st:Stmt}{f:Addr}{oc:Value}{od an:B3}{bp:Array B1}{kV doc pm ae ct:Value}
def Ua(a:W.nsIn K mainGlobals x=some (some (.ref f)))(l:K.lookup f=some ⟨oc,od,.func (W.fnOf x x (defArgs st) (defBody st) (defScope st) .none kV doc pm an ae ct),bp⟩)(c:W.codeIn K ae x=true)(k:W.keepIn K (.ref f)=true):TD K x st:=
 λX G=>JM X G a l c k
end
section
variable{P:C5}{w:World}{K:B0}{mg:Mg}{base:Heap}{k:Nat}{C:Addr}{c x qual:Str}{N ps:C3}{st:Stmt}{fb:aj->DM Fl}{is:C1}
def okd(T:DefAt K mg x st)(S:FnScope N ps (defScope st))(af:∀{f ae A outer s H E},Rm k A x st s f ae->Ds P w K mg base N x st f ae A outer s H E fb)
  (hb:∀(kV doc pm:Value) (an:B3) (ae ct:Value) (us:B5),us.length=ps.length->bindArgs (W.fnOf x x (defArgs st) (defBody st) (defScope st) .none kV doc pm an ae ct) ⟨us,[]⟩=pure (ps.zip us):=by intro _ _ _ _ _ _ us hl;first | (obtain⟨_,rfl⟩:=tX hl;rfl) | (obtain⟨_,_,rfl⟩:=J9 hl;rfl) | (obtain⟨_,_,_,rfl⟩:=Ka hl;rfl) | (obtain⟨_,_,_,_,rfl⟩:=Kc hl;rfl)) :
  DefD P w K mg base (k+1) x ps (aD ps.length N.length fb):=L3.DefAt.okD T S hb λz z z z z z z=>af
def okn(fb:Nat->aj->DM Fl)(T:DefAt K mg x st)(S:FnScope N ps (defScope st))(hf:∀ds M r,F ds M=some r->∃n,aD ps.length N.length (fb n) ds M=some r)(af:∀n {f ae A outer s H E},Rm k A x st s f ae->Ds P w K mg base N x st f ae A outer s H E (fb n))
  (hb:∀(kV doc pm:Value) (an:B3) (ae ct:Value) (us:B5),us.length=ps.length->bindArgs (W.fnOf x x (defArgs st) (defBody st) (defScope st) .none kV doc pm an ae ct) ⟨us,[]⟩=pure (ps.zip us):=by intro _ _ _ _ _ _ us hl;first | (obtain⟨_,rfl⟩:=tX hl;rfl) | (obtain⟨_,_,rfl⟩:=J9 hl;rfl) | (obtain⟨_,_,_,rfl⟩:=Ka hl;rfl) | (obtain⟨_,_,_,_,rfl⟩:=Kc hl;rfl)) :
  DefD P w K mg base (k+1) x ps F:=L3.DefAt.okN T S hb hf λn z z z z z z z=>af n
def Ul(T:MethAt K C x qual st)(m:mg c=some (.ref C))(cl:L2.Cls K C)(S:FnScope N ps (defScope st))(af:∀{f ae A outer s H E},Rm k A qual st s f ae->Ds P w K mg base N qual st f ae A outer s H E fb):MethD P w K mg base (k+1) c x qual st ps (aD ps.length N.length fb):=L3.MethAt.okD T m cl S λz z z z z z z=>af
end
end L3
namespace LA
open PySem PySem.W PySem.Calls LS PyProof.Rows LB
end LA
namespace L2
open PyProof.Rows LS LA LB
end L2
namespace L3
open L2 LA LB LS
open PyProof.Rows hiding St
end L3
namespace L3
open L2
open PyProof.Rows hiding St
end L3
namespace L3
open L2 LB
end L3
namespace L3
open L2
open PyProof.Rows hiding St
section
variable{X:Cx}{E:XK}{a:Expr}{fa:aj->DM D}{fs:aj->DM (List D)}{pos p1 p2 p3 p4:Pos}
def Wf:D->D->Mo->Option D
 |.tup l,.tup [],_=>some (.bl l.isEmpty)
 |_,_,_=>none
def K4:D->Option D
 |.tup l=>some (.tup l.reverse)
 |_=>none
def QC(ha:DE X E a fa):DE X E (.Subscript a (.Slice none none (some (.UnaryOp .USub (.Constant (.int 1) i p3) p4)) p2) pos) (λδ=>fa δ>>=λx=>opt (K4 x)):=⟨PE.mono (Ru ha.h) λσ H Q h=>by
 walk_at "a"
 obtain⟨d,ed,q⟩:=g2.opt;unfold K4 at ed;split at ed
 ·cases ed;cases c1 with
  |tup n h c=>exact⟨_,_,rfl,h,λp hp=>q ρ1 _ _ (.lay hp) (j1.lay _ hp) (.tup (j1.fresh hp) upd_same (c.reverse.mono (.lay hp)))⟩
 ·cases ed⟩
def nb(b:Bool):Int:=if b=true then 1 else 0
end
end L3
namespace L2
open PyProof.Rows LS
end L2
namespace L3
open L2
end L3
namespace L3
open L2 PyProof.Rows
end L3
namespace L3
open L2
open PyProof.Rows hiding St
structure ThD(P:C5)(w:World)(K:B0)(mg:A4)(base:Heap)(k:Nat)(outer:C4)(s:Shared)(H:Hp)(ρ:Rh)(g:Addr)(th:DM D):Prop where
 fn:∀(s2:Shared) (H2:Hp),Un (frs outer) [] H H2 s.heap s2.heap->HOk P w H2 s2.heap->W.FnAt g s2.heap
 run:∀(A2:Around) (h9:C4) (s2:Shared) (H2:Hp) (ρ2:Rh) (M2:Mo) (Q:VK) (E:XK),Room k A2->Env0 P w K mg base A2 h9 s2 H2->Un (frs outer) [] H H2 s.heap s2.heap->Ext ρ H ρ2 H2->J mg ρ2 M2 H2->
  Go mg E (Cv mg) Q ρ2 H2 th M2->codeAny (model P w) A2 (.call (.ref g) ⟨[],[]⟩) (CR (cG P w) h9 P w H2 s2 Q E) s2
def PQ(i:Nat)(g:Addr)(ρ₀:Rh)(H₀:Hp):L2.St->Rh->Hp->Prop:=λσ ρ H=>σ[i]?=some (some (.ref g))/\Ext ρ₀ H₀ ρ H
abbrev AT:=L2.St->Rh->Hp->Prop
def tA(An:AT)(mg:A4)(E:XK)(f:aj->DM D):TE:=λσ H Q=>∃ρ δ M,An σ ρ H/\Ev mg ρ H σ δ/\J mg ρ M H/\Go mg E (Cv mg) Q ρ H (f δ) M
def Mt(An:AT)(mg:A4)(E:XK)(f:aj->DM Fl):TS:=λD σ H=>∃ρ δ M,An σ ρ H/\Ev mg ρ H σ δ/\J mg ρ M H/\bw mg E D ρ H (f δ) M
structure AE(X:Cx)(E:XK)(An:AT)(e:Expr)(f:aj->DM D):Prop where
 h:PE X e (tA An X.mg E f)
structure AS(X:Cx)(E:XK)(An:AT)(st:Stmt)(f:aj->DM Fl):Prop where
 h:PS X st (Mt An X.mg E f)
structure ASs(X:Cx)(E:XK)(An:AT)(st:List Stmt)(f:aj->DM Fl):Prop where
 h:PSs X st (Mt An X.mg E f)
section
variable{X:Cx}{E:XK}{An:AT}{e:Expr}{fe:aj->DM D}{pos:Pos}{st:Stmt}{rest:List Stmt}{f g:aj->DM Fl}
def Jo{k i:Nat}{y:Str}{p:Pos}{g:Addr}{th:DM D}{ρ₀:Rh}(hr:Room k X.A)(hx:Passes (cG X.prog X.w) X E)(hT:ThD X.prog X.w X.K X.mg X.base k X.outer X.s₀ X.H₀ ρ₀ g th)(hex:X.ex=[]:=by rfl)(hN:X.N[i]?=some y:=by rfl)
  (hv:Vis X.env.scope y:=by exact Or.inl rfl) (hd:(y==("__debug__":Str))=false:=by decide) (ba:(y==("__classdict__":Str))=false:=by decide) :
  AE X E (PQ i g ρ₀ X.H₀) (.Call (.Name y p) [] [] pos) (λz=>th):=⟨by
 walk_at "f";obtain⟨ρ,δ,M,⟨hσ,ex⟩,ev,j,go⟩:=h;refine YF ?_;refine thn (pe_var hN hv hd ba aaW s σ H (λv H1=>v=.ref g/\H1=H) I ⟨.ref g,hσ,rfl,rfl⟩) λu s1 h1=>?_
 obtain⟨v,H1,I1,r,rfl,rfl⟩:=h1;obtain rfl:u=Value.ref g:=r;have un:Un (frs X.outer) [] X.H₀ H1 X.s₀.heap s1.heap:=by have:=I1.base;rw[hex]at this;exact this
 refine W.callWith_F0 (hT.fn s1 H1 un I1.hok) ?_;refine aae (Yu (hT.run X.A X.stack s1 H1 ρ M Q E hr I1.env0 un ex j go) λr s' hq=>?_)
 cases r with
 |error e=>exact hx aaW σ H1 s1 e s' I1 hq
 |ok fl=>
   cases fl with
   |ret u=>exact I1.after hq
   |next=>exact False.elim hq
   |brk=>exact False.elim hq
   |cont=>exact False.elim hq⟩
def Ql(he:AE X E An e fe):AS X E An (.Return (some e) pos) (λδ=>fe δ>>=λd=>pure (.rt d)):=⟨PS.mono (L2.ps_ret he.h) λD σ H h=>by obtain⟨ρ,δ,M,an,ev,j,g1⟩:=h;exact⟨ρ,δ,M,an,ev,j,g1.bind λρ1 H1 M1 v d e1 j1 c1 g2=>g2.pure ρ1 H1 v .refl j1 c1⟩⟩
def Bk(h:AS X E An st f):ASs X E An [st] f:=⟨pss_one h.h⟩
end
set_option tactic.hygienic true in
def Qm(nl:Nat){ns:C3}{fb:aj->DM Fl}{fh:Str->aj->DM Fl}{fy:Addr->Str->aj->DM Fl}{i:Nat}{body iq:List Stmt}(T:XTab X.K X.mg ns F)(ny:X.calm=true)(bt:X.env.cells=[])(hex:X.ex=[])
  (ax:X.stack=X.env::X.outer) (l8:X.env.frame=some X.env.locals) (hN:X.N.Nodup) (hi:X.N[i]?=some n) (hk:X.env.kindOf n=some .local) (hm:X.mg x=some (.ref F))
  (hb:∀aaW Eh,ASs (X.tryC aaW Eh) Eh An body fb) (hs:∀c C y oe,c∈ns->X.mg c=some (.ref C)->oe.cls=.ref C->XAt X.K C->DSs (X.sui y oe) E0 (b₀::iq) (fy y c))
  (hy:∀y c M r,fh c ((List.replicate nl none).set i (some (.exn 0))) M=some r->fy y c ((List.replicate nl none).set i (some (.exn y))) M=some r)
  (hnl:X.N.length=nl:=by rfl) (hg:Gl X x:=by rfl) (hd:(x==("__debug__":Str))=false:=by decide) :
  AS X E An (.Try body [.ExceptHandler (some (.Name x np)) (some n) (b₀::iq) p1] [] [] pos) (Aj ns nl i fb fh):=⟨by
 subst hnl;intro aaW s σ H D I h;obtain⟨ρ,δ,M,an,ev,j,g1⟩:=h;let Eh:XK:=λC' o H'=>∃c C ρ' M' r,c∈ns/\C'=.ref C/\o=none/\X.mg c=some (.ref C)/\J X.mg ρ' M' H'/\(dj (fh c ((List.replicate X.N.length none).set i (some (.exn 0))))>>=Ky i) M'=some r/\qM X.mg ρ' H' D E r
 have key:Mt An X.mg Eh fb D σ H:=by
  obtain⟨r,e,p⟩:=g1;unfold Aj at e;split at e
  ·rename_i c M' em;split at e;rotate_left
   ·cases e
   rename_i hc;refine⟨ρ,δ,M,an,ev,j,_,em,λρ' H' C x' j' m=>⟨c,C,ρ',M',r,YD.mp hc,rfl,rfl,m,j',e,p.mono x'⟩⟩
  ·rename_i em;refine⟨ρ,δ,M,an,ev,j,r,e,?_⟩;obtain⟨r,M'⟩:=r;cases r with
   |ok a=>cases a<;>exact p
   |exc c=>exact absurd e (em c M')
 refine L2.Rw (Eh:=Eh) (tb:=Mt An X.mg Eh fb) (th:=λy oe D σ H=>∃c C,c∈ns/\X.mg c=some (.ref C)/\oe.cls=.ref C/\XAt X.K C/\tS X.mg E0 (fy y c) D σ H) ny bt hex ax l8 hN hi hk hm (λaaW=>(hb aaW Eh).h) (λy oe ka s' σ' H' D' I' q=>?_) hg hd aaW s σ H D I ⟨key,?_⟩
 ·obtain⟨c,C,hc,m,ho,xa,q⟩:=q;exact (hs c C y oe hc m ho xa).h ka s' σ' H' D' I' q
 ·rintro y oe C' H1 jv _ ⟨c,C,ρ',M',r,hc,rfl,_,m,j',e,p⟩;obtain⟨C2,xc,xa,ca⟩:=T.cls c hc;have:C2=C:=by have:=xc.at_;rw[m]at this;cases this;rfl
  subst this;refine⟨⟨C2,rfl,ca⟩,c,C2,hc,m,jv,xa,ρ',(List.replicate X.N.length none).set i (some (.exn y)),M',?_,j',?_⟩
  ·refine ⟨by simp,λk d q=>?_⟩
   by_cases gu:k=i
   ·subst gu;have hl:k<(List.replicate X.N.length (none:Option L3.D)).length:=by have:=(Wj.mp q).1;rw[Ye]at this;exact this
    rw[W8 hl]at q;cases q;refine⟨.ref y,W8 ?_,.exn y⟩;rw[XN]at hl ⊢;exact hl
   ·rw[Xh (λz=>gu z.symm),X6]at q
    split at q<;>cases q
  ·have e:DM.bind _ _ M'=some r:=e;unfold DM.bind at e;split at e
   ·cases e
   ·rename_i em;obtain⟨_,_,_,z⟩:=uU em;cases z
   ·rename_i a M'' em0;obtain⟨a',M3,em,z⟩:=uU em0;cases z;refine⟨_,hy y c _ _ em,?_⟩;cases a with
    |nx δ2=>cases e;exact λρ2 H2 σ2 a1 a2 a3=>p ρ2 H2 (σ2.set i none) a1 a2 a3.forget
    |bk δ2=>cases e;exact λρ2 H2 σ2 a1 a2 a3=>p ρ2 H2 (σ2.set i none) a1 a2 a3.forget
    |ct δ2=>cases e;exact λρ2 H2 σ2 a1 a2 a3=>p ρ2 H2 (σ2.set i none) a1 a2 a3.forget
    |rt d=>cases e;exact λρ2 H2 v a1 a2 a3=>p ρ2 H2 v a1 a2 a3⟩
structure HrdD(P:C5)(w:World)(K:B0)(mg:A4)(base:Heap)(k:Nat)(x:Str)(Fh:DM D->DM D):Prop where
 ex:∃f,mg x=some (.ref f)/\W.keepIn K (.ref f)=true/\∀(A:Around) (outer:C4) (s:Shared) (H:Hp) (ρ:Rh) (M:Mo) (g:Addr) (th:DM D) (Q:VK) (E:XK),Room (k+1) A->Env0 P w K mg base A outer s H->
  ThD P w K mg base k outer s H ρ g th->J mg ρ M H->Go mg E (Cv mg) Q ρ H (Fh th) M->codeAny (model P w) A (.call (.ref f) ⟨[.ref g],[]⟩) (CR (cG P w) outer P w H s Q E) s
def Dn(n:Nat)(fb:DM D->aj->DM Fl)(th:DM D):DM D:=fb th (List.replicate n none)>>=λr=>match r with
 |.nx _=>pure .non
 |.rt d=>pure d
 |_=>stuck
section
variable{P:C5}{w:World}{K:B0}{mg:A4}{base:Heap}{k:Nat}{x y:Str}{N:C3}{st:Stmt}
set_option tactic.hygienic true in
def Vy(T:DefAt K mg x st)(S:FnScope N [y] (defScope st))
  (af:∀{f ae A outer s H E ρ g th},Room k (A.deeper (envOfC x (defScope st) s.z f ae))->ThD P w K mg base k outer s H ρ g th->
    ASs (bV P w K mg base N x (defScope st) f ae A outer s H E) E (PQ 0 g ρ H) (defBody st) (fb th))
  (hb:∀(kV doc pm:Value) (an:B3) (ae ct u:Value),bindArgs (W.fnOf x x (defArgs st) (defBody st) (defScope st) .none kV doc pm an ae ct) ⟨[u],[]⟩=pure ([y].zip [u]):=by intros;rfl):HrdD P w K mg base k x (Dn N.length fb):=by
 obtain⟨f,fd,F,m⟩:=T.ex;refine⟨f,m,F.kp,λA outer s H ρ M g th Q E hr e0 hth j go=>?_⟩
 have hN:1<=N.length:=by have:=congrArg List.length S.pre;rw[Yz]at this;simp at this;lia
 refine O9 (us:=[.ref g]) (vs:=[.ref g]) F S e0 hr (λv v v v v v=>hb _ _ _ _ _ _ _) rfl (.cons rfl .nil) λae hr'=>⟨_,(af hr' hth).h,ρ,List.replicate N.length none,M,⟨rfl,.refl⟩,⟨?_,λi d q=>?_⟩,j,?_⟩
 ·unfold L2.start;simp;lia
 ·rw[X6]at q;split at q<;>cases q
 ·obtain⟨r,e,p⟩:=go;have e:DM.bind _ _ M=some r:=e;unfold DM.bind at e;split at e
  ·cases e
  ·rename_i c M' em;cases e;exact⟨_,em,p⟩
  ·rename_i a M' em;refine⟨_,em,?_⟩;cases a with
   |nx δ'=>cases e;exact λρ1 H1 b x j c=>p ρ1 H1 .non x j .non
   |rt d=>cases e;exact λρ1 H1 b x j c=>p ρ1 H1 b x j c
   |bk δ'=>cases e
   |ct δ'=>cases e
end
structure LamC(X:Cx)(scope:Scope)(cl:A9)(js:C0)(fr:C3):Prop where
 ok:LamOk scope cl fr
 clos:closureFor scope X.env=pure cl
 sub:∀y c,cl.lookup y=some c->X.env.cells.lookup y=some c
 len:js.length=fr.length
 fre:∀(k j:Nat) (y:Str),js[k]?=some j->fr[k]?=some y->X.N[j]?=some y/\X.env.scope.names.lookup y=some .cell/\∃c,cl.lookup y=some c
def Jv{X:Cx}{scope:Scope}{cl:A9}{js:C0}{fr:C3}{aaW:A8}{σ:L2.St}{H H2:Hp}{s s2:Shared}(T:LamC X scope cl js fr)(n9:∀ x,X.fn x=true)(I:Inv X aaW σ H s)(un:Un (frs X.stack) [] H H2 s.heap s2.heap):CellsAt cl fr (pick js σ) H2 s2.heap:=by
 have out:∀y c,cl.lookup y=some c->c∉frs X.stack:=λy c e hm=>by
  rcases Wz.mp (I.stkSub c hm) with z | z
  ·exact I.cne y c (T.sub _ _ e) z
  ·obtain⟨_,o,ho,_⟩:=I.ok.funs.mem z;exact absurd (Wo ho) (X7.mpr (I.ok.cab y c (n9 y) (T.sub _ _ e)))
 have kp:∀y c v,cl.lookup y=some c->s.heap.IsCell c v->s2.heap.IsCell c v:=λy c v e ⟨o,ho,hd⟩=>⟨o,un.keep c o ho (I.freeC y c (T.sub _ _ e)) (out y c e) (by simp),hd⟩
 refine⟨λx y c h1 h2=>I.ok.inj x y c (T.sub _ _ h1) (T.sub _ _ h2),λx c e=>?_,λx c e=>?_,λi x v h1 h2=>?_,?_⟩
 ·obtain⟨v,z⟩:=I.cell x c (T.sub _ _ e);exact⟨v,kp x c v e z⟩
 ·obtain⟨v,o,ho,_⟩:=I.cell x c (T.sub _ _ e);exact un.free c o ho (I.freeC x c (T.sub _ _ e)) (by simp)
 ·unfold pick at h2;rw[WM]at h2;cases hj:js[i]? with
  |none=>rw[hj]at h2;cases h2
  | some j=>
    rw[hj]at h2;have l9:(σ[j]?).getD none=some v:=Ws h2;have kn:σ[j]?=some (some v):=by
     cases z:σ[j]? with
     |none=>rw[z]at l9;cases l9
     |some w=>rw[z]at l9;exact congrArg some l9
    obtain⟨g1,g2,c,g3⟩:=T.fre i j x hj h1;obtain⟨mX,_,hl⟩:=I.loc;obtain⟨u,r,q⟩:=hl j x v g1 kn (.inr (.inl g2));refine⟨u,c,r,g3,kp x c _ g3 ?_⟩;rcases q with ⟨q,_⟩ | ⟨_,c2,e2,z⟩
    ·have:X.env.scope.names.lookup x=some .local:=q;rw[g2]at this;cases this
    ·rw[T.sub _ _ g3]at e2;cases e2;exact z
 ·unfold pick;rw[Wm];exact T.len
def Gp(js:C0)(fr:C3)(Hd:HrdD X.prog X.w X.K X.mg X.base (k + 1) fx Fh)(hr:Room j X.A)(hx:Passes (cG X.prog X.w) X E)
  (T:TabD X.mg X.base c P) (ba:X.env.code=.ref c) (hP:∃ps,X.H₀ P=some (.tbl ps))
  (af:∀{qual g cd A outer s H E},Room k (A.deeper (W.envX qual scope s.z g cd cl))->DE (o6 X.prog X.w X.K X.mg X.base fr qual scope g cd cl A outer s H E) E body tb) (L:LamC X scope cl js fr) (cq:k+2<=j:=by decide) (n9:∀x,X.fn x=true:=by intros;rfl)
  (p9:defaultsOf params X.env=([],[]):=by rfl) (gg:∀qual pm cv gy,bindArgs (W.kla_fn "<lambda>" qual params body scope cl pm cv gy) ⟨[],[]⟩=pure []:=by intros;rfl) (hg:Gl X fx:=by rfl) (ai:(fx==("__debug__":Str))=false:=by decide) :
  DE X E (.Call (.Name fx p) [.Lambda params body scope lpos] [] pos) (λδ=>Fh (tb (cz js δ))):=⟨by
 obtain⟨f,hm,hkp,run⟩:=Hd.ex;walk_at "f";obtain⟨ρ,δ,M,ev,jj,go⟩:=h;refine YF (ld_glob I hg hm ?_ ai);obtain⟨ps0,hP0⟩:=hP;obtain⟨more,hPt⟩:=I.base.tbls P ps0 hP0;have pl:PE X (.Lambda params body scope lpos) (R6 P params body scope cl):=Rt ba T.hd T.ne T.bl L.clos p9;refine Z5 (h₀:=X.base) I.ok.mod.kin hkp (thn (zz pl pa_nil rfl pos aaW s σ H (λvs H1=>∃g,vs=[.ref g]/\H g=none/\Same H H1/\qL H1 g params body scope cl) I ⟨⟨_,hPt⟩,λg H1 a b c=>⟨g,rfl,a,b,c⟩⟩) λus s1 h1=>?_) (aU rfl) rfl
 obtain⟨vs,H1,I1,r,g,rfl,hgn,S,La⟩:=h1;refine⟨I1.kIn,?_⟩;obtain⟨u,rfl,ru⟩:∃u,us=[u]/\RelV (.ref g) u:=by
  cases r with
  |cons r1 r2=>cases r2;exact⟨_,rfl,r1⟩
 obtain rfl:u=Value.ref g:=ru;have x1:Ext ρ H ρ H1:=.same S;have go1:Go X.mg E (Cv X.mg) Q ρ H1 (Fh (tb (cz js δ))) M:=let ⟨r,e,p⟩:=go;⟨r,e,p.mono x1⟩
 have th:ThD X.prog X.w X.K X.mg X.base (k+1) X.stack s1 H1 ρ g (tb (cz js δ)):=by
  refine⟨λs2 H2 un ok=>?_,λA2 h9 s2 H2 ρ2 M2 Q2 E2 hr2 e2 un ex2 j2 BJ=>?_⟩
  ·obtain⟨qual,pm,cv,gy,hgl,_⟩:=La;exact⟨_,_,_,_,(ok g _ (un.frzs g _ _ hgl)).1⟩
  ·refine Pb L.ok e2 hr2 (La.mono λb o e=>un.frzs b o _ e) (Jv L n9 I1 un) gg λqual cd hr3=>⟨_,(af hr3).h,ρ2,cz js δ,M2,?_,j2,BJ⟩
   have:=Bx ((ev.mono x1).mono ex2) 0 js;show Ev X.mg ρ2 H2 (pick js σ) (cz js δ);simpa[aW] using this
 refine aae (Yu (run X.A X.stack s1 H1 ρ M g _ Q E (hr.mono cq) I1.env0 th (jj.same S) go1) λr s' hq=>?_)
 cases r with
 |error e=>exact hx aaW σ H1 s1 e s' I1 hq
 |ok fl=>
   cases fl with
   |ret u=>exact I1.after hq
   |next=>exact False.elim hq
   |brk=>exact False.elim hq
   |cont=>exact False.elim hq⟩
open L2
open PyProof.Rows hiding St
def jQ(lo c:Int)(n:Nat):List D:=(List.range n).map λi=>.int (lo+(i:Nat)*c)
def vX{lo c:Int}{n i:Nat}:(jQ lo c n)[i]?=if i<n then some (.int (lo+(i:Nat)*c)) else none:=by
 unfold jQ;rw[WM];by_cases h:i<n
 ·rw[Wq h,XJ h];rfl
 ·rw[Ww h,Xi.mpr (by simp;lia)];rfl
def NP{mg:A4}{lo c:Int}{n:Nat}:ItOk mg ρ H (PX lo c n) (.fix (jQ lo c n)) where
 item:=λi ρ' H' M' d e j q=>by
  have hq:(jQ lo c n)[i]?=some d:=Ws q;rw[vX]at hq;split at hq
  ·rename_i h;cases hq;refine⟨h,λx H2 y=>?_⟩
   obtain⟨rfl,rfl⟩:=y;exact⟨.refl,j,.int _⟩
  ·cases hq
 stop:=λi ρ' H' M' e j q=>by
  have hq:(jQ lo c n)[i]?=none:=Ws q;rw[vX]at hq;split at hq
  ·cases hq
  ·rename_i h;exact X7.mp h
open Classical in
noncomputable def K5:List D->Option Itn
 |[.int i,.int j,.int c]=>if zU i j c then some (.fix (jQ i c (Builtin.Range.rangeSize i j c).toNat)) else none
 |_=>none
def Gv(hg:Gl X "range")(hm:X.mg "range"=none)(ha:DA X E [a,b,c] fa)(hs:notStar a=true:=by rfl)(ij:notStar b=true:=by rfl)(hs3:notStar c=true:=by rfl):
  DI X E tg (.Call (.Name "range" p) [a,b,c] [] pos) (λδ=>fa δ>>=λl=>opt (K5 l)):=
 ⟨PI.mono (Hz hg hm ha.h.h hs ij hs3) fun σ H R h=>by
  walk_at "a"
  obtain⟨it,e,q⟩:=g2.opt;unfold K5 at e;split at e
  ·split at e
   ·rename_i hk;cases e;cases c1 with | cons c1 c2=>cases c2 with | cons c2 c3=>cases c3 with | cons c3 c4=>
    cases c4;cases c1;cases c2;cases c3;exact⟨_,_,_,rfl,hk,q ρ1 H1 _ .refl j1 NP⟩
   ·cases e
  ·cases e⟩
def xN:List D->Mo->Option (List D)
 |[d],M=>(aN d M).bind λl=>(intsOf l).bind λns=>if ns.length<=2000/\(ns.foldl step_dedup []).length<=60 then some ((iW ns).map D.int) else none
 |_,_=>none
section
variable{X:Cx}{E:XK}{a:Expr}{fa:aj->DM (List D)}{p1 p2 a9 ag:Pos}
set_option tactic.hygienic true in
def JK(hc:X.calm=true)(f7:X.mg "sorted"=none)(hm:X.mg "set"=none)(ha:DA X E [a] fa)(f6:Gl X "sorted":=by rfl)(hg:Gl X "set":=by rfl)(hs:notStar a=true:=by rfl):
  DE X E (.Call (.Name "sorted" p1) [.Call (.Name "set" p2) [a] [] ag] [] a9) (λδ=>fa δ>>=λl=>rd (λM=>(xN l M).map D.lst)):=⟨PE.mono (zA hc f6 f7 hg hm ha.h.h hs) λσ H Q h=>by
 walk_at "b";refine⟨ρ,δ,M,ev,j,g1.bind λρ1 H1 M1 xs ds e1 j1 c1 g2=>?_⟩
 obtain⟨d,ed,q⟩:=g2.rd;obtain⟨l,el,rfl⟩:=Wk.mp ed;unfold xN at el;split at el
 ·rename_i d0;obtain⟨l0,h0,el⟩:=Wv.mp el;obtain⟨ns,h1,el⟩:=Wv.mp el;split at el
  ·rename_i hn;cases el;have e0:=kJ h1;subst e0;obtain⟨v,rfl,k⟩:=c1.one;have fin:∀p,H1 p=some (.lst (ns.map V.int))->∃p' d4,[V.ref p]=[.ref p']/\H1 p'=some (.lst (d4.map V.int))/\(d4.length<=2000/\(d4.foldl step_dedup []).length<=60)/\∀l,H1 l=none->Q (.ref l) (upd H1 l (.lst ((iW d4).map V.int))):=λp hp=>
    ⟨p,ns,rfl,hp,hn,λl hl=>q ρ1 _ _ (.lay hl) (j1.lay _ hl) (.lst (j1.fresh hl) upd_same (Cvs.ints _))⟩
   obtain⟨p,xs,rfl,hx,c⟩:=cL j1 k h0;exact fin p (by rw[hx,f9 c])
  ·cases el
 ·cases el⟩
end
end L3
namespace L2
open PyProof.Rows LS
end L2
namespace L3
open L2
open PyProof.Rows hiding St
open L2
open PyProof.Rows hiding St
end L3
namespace L3
open PyProof.Rows L2
end L3
namespace L3
open L2 LA LB LS
open PyProof.Rows hiding St
def V2(fe:aj->DM D)(δ:aj)(l:List D):DM (aj×List D):=fe δ>>=λd=>match d with
 |.int k=>if l.length<2000 then pure (δ,l++[.int k]) else stuck
 |_=>stuck
def iC:List D->Option C1
 |[]=>some []
 |.int i::l=>(iC l).map (i::·)
 |_::_=>none
theorem kI:∀ns:C1,iC (ns.map D.int)=some ns
 |[]=>rfl
 |n::ns=>by simp only[List.map_cons,iC,kI ns,Option.map_some]
end L3
namespace L3
open L2
open PyProof.Rows hiding St
variable{X:Cx}{E:XK}
theorem zR:∀ {cs:A1}{us:B5},Vals (cs.map λc=>V.ref c.1) us->us=cs.map λc=>Value.ref c.1
 |[],_,h=>by cases h;rfl
 | c::cs,_,h=>by
   cases h with
   |cons r t=>cases r;rw[zR t];rfl
theorem zT{K:B0}{H:Hp}:∀ns:C1,Reps K H (ns.map V.int) (ns.map PyData.int)
 |[]=>.nil
 |n::ns=>.cons (.int n) (zT ns)
def Ot{X:Cx}(hu:X.A.units + 64<cLine):OpR X (compareOp .NotIn) (λx y H Q=>∃ (a p:Addr) (k:C1) (cs:A1),x=.ref a/\y=.ref p/\H a=some (.tup (k.map V.int))/\H p=some (.tup (cs.map λc=>V.ref c.1))/\(∀ c∈cs,H c.1=some (.tup (c.2.map V.int)))/\Q (.bl (!(cs.map (·.2)).contains k)) H):=by
 walk_at "e";obtain⟨a,p,k,cs,rfl,rfl,ha,hp,hc,q⟩:=h;cases rx;cases ry;obtain⟨its,r,pl,hz⟩:=I.tuple (SqT.of (K:=X.K) hp);have ei:=zR r;subst ei;let e:Value->Bool:=λy=>match y with
  |.ref b=>(cs.find? λc=>c.1==b).elim false λc=>decide (c.2=k)
  |_=>false
 have ee:∀ c∈cs,e (.ref c.1)=decide (c.2=k):=λc ic=>by
  show (cs.find? λd=>d.1==c.1).elim false (λc=>decide (c.2=k))=_
  cases hf:cs.find? λd=>d.1==c.1 with
  |none=>exact absurd (List.find?_eq_none.mp hf c ic) (by simp)
  |some d=>
    have h1:d.1=c.1:=by simpa using List.find?_some hf
    have h2:=hc d (List.mem_of_find?_eq_some hf);rw[h1,hc c ic]at h2;have h3:c.2.map V.int=d.2.map V.int:=HO.tup.inj (Ws h2);have h4:c.2=d.2:=(Zk (f:=V.int) λa b h=>V.int.inj h).mp h3
    show decide (d.2=k)=_;rw[h4]
 refine SeqAt.notIn_tupleAt e pl (λw hw=>?_) ⟨.bl _,H,I,rfl,?_⟩
 ·obtain⟨c,ic,rfl⟩:=WQ.mp (show w∈cs.map λc=>Value.ref c.1 by simpa using hw)
  obtain⟨as,ra⟩:=Rep.reads I (Rep.tup (SqT.of (K:=X.K) (hc c ic)) (zT c.2)) rfl;obtain⟨bs,rb⟩:=Rep.reads I (Rep.tup (SqT.of (K:=X.K) ha) (zT k)) rfl;have d1:=cF c.2;have:=SeqAt.eqAt_reads _ _ X.A.in1 s _ _ as bs ra rb (by simp only[PyData.canLay0,lay_ints]) (by simp only[PyData.canLay0,lay_ints]) (by simp only[PyData.depth];show X.A.units+1+_<_;lia)
  rw[ee c ic];simpa only[PyData.eqv,eO] using this
 ·have:(cs.map λc=>Value.ref c.1).toArray.any e=(cs.map (·.2)).contains k:=by rw[WW];simp only[List.any_toArray,List.any_map,List.any_eq_true,List.contains_iff_mem,List.mem_map,Function.comp_def];exact⟨λ⟨c,ic,h⟩=>⟨c,ic,by rw[ee c ic]at h;exact Xe h⟩,λ⟨c,ic,h⟩=>⟨c,ic,by rw[ee c ic];exact WY h⟩⟩
  rw[this];exact q
theorem tW:∀ {l:List D}{ns:C1},iC l=some ns->l=ns.map D.int
 |[],_,h=>by cases h;rfl
 |.int i::l,_,h=>by simp only[iC]at h;obtain⟨ns,e,rfl⟩:=Wk.mp h;rw[tW e];rfl
def tN:List D->Option A7
 |[]=>some []
 |.tup a::l=>(iC a).bind λk=>(tN l).map (k::·)
 |_::_=>none
theorem Mu:∀ {l:List D}{xs:List V}{ts:A7},tN l=some ts->Cvs mg ρ H xs l->∃ cs:A1,xs=cs.map (λc=>V.ref c.1)/\cs.map (·.2)=ts/\∀ c∈cs,H c.1=some (.tup (c.2.map V.int))
 |[],_,_,h,c=>by cases h;rw[Cvs.inv0 c];exact⟨[],rfl,rfl,λz h=>by cases h⟩
 |.tup a::l,_,_,h,c=>by
   simp only[tN]at h;obtain⟨k,e1,h⟩:=Wv.mp h;obtain⟨ts,e2,rfl⟩:=Wk.mp h;obtain⟨v,vs,rfl,c1,c2⟩:=Cvs.inv (v:=.non) c;obtain⟨cs,rfl,rfl,hc⟩:=Mu e2 c2;obtain⟨b,ys,rfl,_,hb,cb⟩:=Cv.inv c1;rw[tW e1]at cb;rw[f9 cb]at hb;refine⟨(b,k)::cs,rfl,rfl,λc ic=>?_⟩
   rcases Wz.mp ic with rfl | ic
   ·exact hb
   ·exact hc c ic
def Ej(x y:D)(M:Mo):Option D:=match x,y with
 |.tup a,.tup l=>(iC a).bind λk=>(tN l).map λts=>.bl (!ts.contains k)
 |_,_=>none
def Ov(hu:X.A.units+64<cLine):bZ X E (compareOp .NotIn) (λx y=>rd (Ej x y)):=by
 refine bZ.of (Ot hu) λx y H Q ρ M dx dy d j cx cy e q=>?_
 unfold Ej at e;split at e
 ·obtain⟨k,e1,e⟩:=Wv.mp e;obtain⟨ts,e2,rfl⟩:=Wk.mp e;obtain⟨a,xs,rfl,_,ha,ca⟩:=Cv.inv cx;obtain⟨p,ys,rfl,_,hp,cp⟩:=Cv.inv cy;rw[tW e1]at ca;rw[f9 ca]at ha;obtain⟨cs,rfl,rfl,hc⟩:=Mu e2 cp;exact⟨a,p,k,cs,rfl,rfl,ha,hp,hc,q ρ H _ .refl j (.bl _)⟩
 ·cases e
end L3
namespace L3
open PyProof.Rows L2
end L3
namespace L3
open L2
open PyProof.Rows hiding St
end L3
namespace L3
open L2
def Lx(x y:D)(M:Mo):Option D:=match x with
 |.ref n=>match M[n]? with
   |some (.lst l)=>gQ (.lst l) y M
   |_=>none
 |_=>none
set_option tactic.hygienic true in
def Rp(hu:X.A.units + 64<cLine):bZ X E (compareOp .NotEq) (λx y=>rd (Lx x y)):=by
 intro aaW s σ H x y v u Q I rx ry q;obtain⟨ρ,M,dx,dy,j,cx,cy,g⟩:=q;obtain⟨d,e,q⟩:=Go.rd g;unfold Lx at e;split at e
 ·split at e
  ·rename_i n _ l hl;cases cx with | ref hn=>
   obtain⟨xs,hx,c⟩:=j.obj _ _ _ hn hl;obtain⟨b,hb,rfl⟩:=Wk.mp e;rcases Gy hb with ⟨_,_,z,_⟩ | hb
   ·cases z
   ·obtain⟨p,p',k1,k2,h3,h4,h5,rfl⟩:=Gz hb;obtain⟨ps,e1,e2⟩:=Wk.mp (show (dW l).map PyData.list=some p from k1)
    have rp:RepF H true _ (PyData.list ps):=.lst hx (c.repF e1);rw[e2]at rp;refine Hw hu aaW s σ H _ y v u Q I rx ry ⟨p,p',rp.toRep,(cy.repF k2).toRep,h3,h4,h5,?_⟩;simpa using q ρ H _ .refl j (.bl _)
  ·cases e
 ·cases e
end L3
namespace L2
open PyProof.Rows
end L2
namespace L3
open L2
end L3
namespace L3
open L2
open PyProof.Rows hiding St
def tH:DE X E e (λz=>stuck):=⟨by intro aaW s σ H D I h;obtain⟨ρ,δ,M,ev,j,g1⟩:=h;obtain⟨r,e,_⟩:=g1;cases e⟩
abbrev Lk(P:C5)(w:World)(K:B0)(mg:A4)(base:Heap)(N:C3)(qual:Str)(scope:Scope)(f:Addr)(cd:Value)(A:Around)(outer:C4)(s:Shared)(H:Hp):Cx:=
 { bV P w K mg base N qual scope f cd A outer s H E0 with calm:=false,xe:=λ_ _=>False }
section
variable{P:C5}{w:World}{K:B0}{mg:A4}{base:Heap}{A:Around}{outer:C4}{s:Shared}{H:Hp}{k:Nat}
def Inv.toN(I:Inv (bV P w K mg base N qual scope f cd A outer s H E) aaW σ H1 s1):Inv (Lk P w K mg base N qual scope f cd (A.mark y) outer s H) aaW σ H1 s1:=
 ⟨⟨I.ok.mod,I.ok.kind,I.ok.glob,I.ok.blt,I.ok.above,I.ok.inj,I.ok.has,I.ok.cab,λz=>(by cases z),I.ok.frames,I.ok.stk,I.ok.exf,I.ok.bs,I.ok.bsz,I.ok.noex,I.ok.exfs,I.ok.funs,I.ok.frf⟩,I.os,I.bare,I.base,I.loc,I.cell,I.free,I.freeC,I.pin,I.hok,I.len⟩
def O8{x:Str}{st:Stmt}{f:Addr}{fd:FuncData}{N ps:C3}{us:B5}{vs:List V}{y:B1}{Q:VK}{E:XK}(F:Fun K x x st f fd)(S:FnScope N ps (defScope st))(e0:Env0 P w K mg base (A.mark y) outer s H)(hr:Room (k + 1) A)
  (hb:∀(kV doc pm:Value) (an:B3) (ae ct:Value),bindArgs (W.fnOf x x (defArgs st) (defBody st) (defScope st) .none kV doc pm an ae ct) ⟨us,[]⟩=pure (ps.zip us)) (hl:vs.length=ps.length) (r:Vals vs us)
  (af:∀ae,Room k (A.deeper (envOfC x (defScope st) s.z f ae))->∃t,PSs (Lk P w K mg base N x (defScope st) f ae (A.mark y) outer s H) (defBody st) t/\t { nx:=λp H'=>Q .non H',rt:=Q } (L2.start N vs) H) :
  codeAny (model P w) (A.mark y) (.call (.ref f) ⟨us,[]⟩) (CR (cG P w) outer P w H s Q E) s:=by
 obtain⟨oc,od,kV,doc,pm,an,ae,ct,bp,rfl,lk,ba⟩:=F.ex;have KX:K.In s.heap:=e0.mod.kin.keeps λb o e=>(e0.bs b o e).1
 have lim:s.heap.NoLimit:=e0.mod.nolimit.keeps λb o e=>(e0.bs b o e).1
 have fq:∀y∈ps.zip us,(defScope st).names.lookup y.1=some .local\/((defScope st).names.lookup y.1=some .cell/\((cellsFrom (s.z+1) (defScope st).names []).lookup y.1).isSome=true):=λ⟨n,v⟩ hy=>by
  rcases S.par n (YL hy).1 with q | q
  ·exact .inl q
  ·exact .inr ⟨q,Zn _ _ _ (.inl q)⟩
 refine aay hr.depth (KX _ _ lk) rfl S.co S.gen rfl (W.codeRec_of KX ba) ?_;rw[hb];refine Wh (ZX S.kind fq λenv he s1 x=>?_)
 subst he;refine⟨lim.keeps x.toInCall.keep,codeAny_func ?_⟩;obtain⟨t,ht,hq⟩:=af ae (hr.deeper _);have e1:Env0 P w K mg base A outer s H:=⟨e0.frames,e0.mod,e0.bs,e0.bsz,e0.funs,e0.frf,e0.hok,e0.bare⟩;have I:=inv_start (CX:=cG P w) (E:=E) S hr.hd e1 hl r x;refine W5 (ht [] s1 (L2.start N vs) H _ (Inv.toN I) hq) (λfl s' hs=>?_) λe s' hs=>hs.elim
 cases fl with
 |ret u=>obtain⟨v,σ',H',J,rv,q⟩:=hs;exact⟨v,H',J.os,J.bare,J.base,J.hok,rv,q⟩
 |next=>obtain⟨σ',H',J,q⟩:=hs;exact⟨V.non,H',J.os,J.bare,J.base,J.hok,(rfl:RelV .non Value.none),q⟩
 |brk=>obtain⟨_,_,_,q⟩:=hs;exact False.elim q
 |cont=>obtain⟨_,_,_,q⟩:=hs;exact False.elim q
end
abbrev Ek:List String:=["LookupError", "TypeError", "ArithmeticError", "RuntimeError"]
structure FlK(K:B0)(mg:A4)(ns:C3)(c:Str)(C:Addr):Prop where
 xa:XAt K C
 kit:∀k∈ns,∀D,mg k=some (.ref D)->W.kitOne K (.ref C) (.ref D)=some (c==k)
 val:W.kitOne K (.ref C) (.type "ValueError")=some true
 oth:W.kitAny K (.ref C) (Ek.map Value.type)=some false
def GC:D->B3
 |.exn a=>some a
 |_=>none
def QL(h:GC d=some y):d=.exn y:=by
 unfold GC at h;split at h
 ·cases h;rfl
 ·cases h
def Mx:D->Option String
 |.ty t=>some t
 |_=>none
def Sh(h:Mx d=some t):d=.ty t:=by
 unfold Mx at h;split at h
 ·cases h;rfl
 ·cases h
noncomputable def QZ(ns:C3)(c:Str):D->Option D
 |.cls k=>if ns.contains k then some (.bl (c==k)) else none
 |.ty t=>if t = "ValueError" then some (.bl true) else none
 |.tup l=>if l.map Mx=Ek.map some then some (.bl false) else none
 |_=>none
def yV(ns:C3)(y:Addr)(c:Str):List D->Mo->Option D
 |[d,k],_=>if GC d=some y then QZ ns c k else none
 |_,_=>none
theorem Jg:∀ {l:List D}{ts:List String},l.map Mx=ts.map some->l=ts.map D.ty
 |[],[],_=>rfl
 |[],_::_,h=>by cases h
 |_::_,[],h=>by cases h
 |d::l,t::ts,h=>by rw[W2,W2]at h;rw[Sh (List.cons.inj h).1,Jg (List.cons.inj h).2];rfl
theorem Bm:∀{ts:List String}{xs:List V},Cvs mg ρ H xs (ts.map D.ty)->xs=ts.map V.ty
 |[],_,.nil=>rfl
 |_::_,_,.cons a t=>by cases a;rw[Bm t];rfl
theorem Ak:∀{ts:List String}{us:B5},Vals (ts.map V.ty) us->us=ts.map Value.type
 |[],_,.nil=>rfl
 |_::_,_,.cons a t=>by cases a;rw[Ak t];rfl
def aY(T:FlK X.K X.mg ns c C)(ho:oe.cls=.ref C)(h0:X.s₀.heap.get? y=some oe)(hn:X.H₀ y=none)(hf:y∉X.fs)(hex:X.ex=[]:=by rfl):CallD X E (.builtin "isinstance") (λl=>rd (yV ns y c l)):=by
 intro aaW s σ H vs us Q I rs q;obtain⟨ρ,M,ds,j,cs,go⟩:=q;obtain⟨d,e,p⟩:=go.rd;have hh:s.heap.get? y=some oe:=I.base.keep y oe h0 hn hf (by rw[hex];simp)
 unfold yV at e;split at e;rotate_left
 ·cases e
 split at e;rotate_left
 ·cases e
 rename_i hk;obtain rfl:=QL hk;obtain⟨v,w,rfl,k1,k2⟩:=cs.two;obtain⟨u,w',rfl,r1,r2⟩:=vals2 rs;cases k1;cases r1;have Z:=J6 (x:=y) T.xa ho;have fin:∀b,d=.bl b->∀tk,EP X aaW σ Q (.bool b) { s with toks:=tk }:=λb e tk=>⟨.bl b,H,I.tok _,rfl,p ρ H _ .refl j (e ▸ .bl b)⟩
 unfold QZ at e;split at e
 ·split at e
  ·rename_i hm;cases k2 with | cls h=>
   cases r2;exact XF Z I.kIn hh (T.kit _ (YD.mp hm) _ h) (λz=>nomatch z) (fin _ (Ws e).symm)
  ·cases e
 ·split at e
  ·rename_i hm;subst hm;cases k2;cases r2;exact XF Z I.kIn hh T.val (λz=>nomatch z) (fin _ (Ws e).symm)
  ·cases e
 ·split at e
  ·rename_i hm;obtain rfl:=Jg hm;cases k2 with | tup hna ha cc=>
   cases r2;rw[Bm cc]at ha;obtain⟨_,its,rv,o,dc,hc',n,de⟩:=I.hok _ _ ha;rw[Ak rv]at de;obtain⟨o1,o2,o3,o4⟩:=o;cases hc';cases de;exact W.kia_tup Z I.kIn hh dc T.oth (λz=>nomatch z) (fin _ (Ws e).symm)
  ·cases e
 ·cases e
structure FlgD(P:C5)(w:World)(K:B0)(mg:A4)(base:Heap)(k:Nat)(x:Str)(rs:C3)(W:Str->D):Prop where
 ex:∃f,mg x=some (.ref f)/\PySem.W.keepIn K (.ref f)=true/\∀(A:Around) (outer:C4) (s:Shared) (H:Hp) (ρ:Rh) (M:Mo) (y:Addr) (oe:Obj) (c:Str) (C:Addr) (Q:VK) (E:XK),Room (k+1) A->Env0 P w K mg base (A.mark (some (.ref y))) outer s H->
  s.heap.get? y=some oe->H y=none->y∉frs outer->c∈rs->mg c=some (.ref C)->oe.cls=.ref C->J mg ρ M H->Go mg E (Cv mg) Q ρ H (pure (W c)) M->
  codeAny (model P w) (A.mark (some (.ref y))) (.call (.ref f) ⟨[.ref y],[]⟩) (CR (cG P w) outer P w H s Q E) s
section
variable{P:C5}{w:World}{K:B0}{mg:A4}{base:Heap}{k:Nat}{x p:Str}{N:C3}{st:Stmt}{rs ns:C3}{W:Str->D}
def Vx{fb:Addr->Str->aj->DM Fl}(T:DefAt K mg x st)(S:FnScope N [p] (defScope st))(hk:∀ c∈rs,∀ C,mg c=some (.ref C)->FlK K mg ns c C)
  (hF:∀y c,c∈rs->fb y c (aZ N.length [.exn y])=pure (.rt (W c)))
  (af:∀{f:Addr}{ae:Value}{A:Around}{outer:C4}{s:Shared}{H:Hp}{y:Addr}{oe:Obj}{c:Str}{C:Addr},Room k (A.deeper (envOfC x (defScope st) s.z f ae))->FlK K mg ns c C->oe.cls=.ref C->s.heap.get? y=some oe->H y=none->y∉frs outer->
    DSs (Lk P w K mg base N x (defScope st) f ae (A.mark (some (.ref y))) outer s H) E0 (defBody st) (fb y c))
  (hb:∀(kV doc pm:Value) (an:B3) (ae ct u:Value),bindArgs (PySem.W.fnOf x x (defArgs st) (defBody st) (defScope st) .none kV doc pm an ae ct) ⟨[u],[]⟩=pure ([p].zip [u]):=by intros;rfl):FlgD P w K mg base k x rs W:=by
 obtain⟨f,fd,F,m⟩:=T.ex;refine⟨f,m,F.kp,λA outer s H ρ M y oe c C Q E hr e0 hy hn hf hc hm ho j go=>?_⟩
 refine O8 (us:=[.ref y]) (vs:=[.ref y]) F S e0 hr (λt t t t t t=>hb _ _ _ _ _ _ _) rfl (.cons rfl .nil) λae hr'=>⟨_,(af (c:=c) hr' (hk c hc C hm) ho hy hn hf).h,ρ,aZ N.length [.exn y],M,ie (.cons (.exn y) .nil),j,?_⟩
 obtain⟨r,e,q⟩:=go;cases e;exact⟨(.ok (.rt (W c)),M),by rw[hF y c hc];rfl,λρ1 H1 v x j c=>q ρ1 H1 v x j c⟩
end
set_option tactic.hygienic true in
def Nt(hr:Room k X.A)(Fg:FlgD X.prog X.w X.K X.mg X.base j x rs W)(hc:c∈rs)(hm:X.mg c=some (.ref C))(ho:oe.cls=.ref C)(cq:j + 1<=k:=by decide)(hN:X.N[i]?=some n:=by rfl)
  (hv:Vis X.env.scope n:=by exact Or.inl rfl) (hd:(n==("__debug__":Str))=false:=by decide) (ba:(n==("__classdict__":Str))=false:=by decide) (hg:Gl X x:=by rfl) (ai:(x==("__debug__":Str))=false:=by decide) :
  DSs (X.sui y oe) E0 [.Return (some (.Call (.Name x p) [.Name n p2] [] pos)) ag] (λδ=>b8 i δ>>=λd=>match d with
   |.exn a=>if a==y then pure (.rt (W c)) else stuck
   |_=>stuck):=by
 refine aA ⟨PS.mono (L2.ps_ret (te:=λσ H Q=>∃ρ M,σ[i]?=some (some (.ref y))/\J X.mg ρ M H/\Go X.mg E0 (Cv X.mg) Q ρ H (pure (W c)) M) ?_) λD σ H h=>?_⟩
 ·obtain ⟨f,hf,hkp,run⟩:=Fg.ex;walk_at "f";obtain⟨ρ,M,hσ,j,go⟩:=h;refine YF (ld_glob I hg hf ?_ ai);refine Z5 (h₀:=X.base) I.ok.mod.kin hkp (thn (zz (X:=X.sui y oe) (pe_var hN hv hd ba) pa_nil rfl pos aaW s σ H (λvs H1=>vs=[.ref y]/\H1=H) I ⟨.ref y,hσ,rfl,rfl⟩) λus s1 h1=>?_) (aU rfl) rfl
  obtain⟨vs,H1,I1,r,rfl,rfl⟩:=h1;refine⟨I1.kIn,?_⟩;obtain⟨u,rfl,ru⟩:∃u,us=[u]/\RelV (.ref y) u:=by
   cases r with
   |cons r1 r2=>cases r2;exact⟨_,rfl,r1⟩
  obtain rfl:u=Value.ref y:=ru;obtain⟨e1,e2,e3,e4,_⟩:=I1.pin (y,oe) (Xm _ (Xc _ WP));have ip:y∉frs X.stack:=λhm=>by
   rcases Wz.mp (I1.stkSub y hm) with z | z
   ·exact e3 z
   ·exact e4 z
  refine aae (Yu (run X.A X.stack s1 H1 ρ M y oe c C Q E0 (hr.mono cq) I1.env0 e1 e2 ip hc hm ho j go) λr s' hq=>?_)
  cases r with
  |error e=>obtain⟨_,_,_,_,_,_,_,_,_,_,_,_,_,q⟩:=hq;exact q.elim
  |ok fl=>
    cases fl with
    |ret u=>exact I1.after hq
    |next=>exact False.elim hq
    |brk=>exact False.elim hq
    |cont=>exact False.elim hq
 ·obtain ⟨ρ,δ,M,ev,j,g1⟩:=h;obtain⟨r,e,q⟩:=g1;have e:DM.bind (b8 i δ) _ M=some r:=e;rename_i e0;clear e0;unfold DM.bind at e;split at e
  ·cases e
  ·rename_i c' M' em;unfold b8 at em;obtain⟨_,_,z⟩:=Wk.mp em;cases z
  ·rename_i a M' em;obtain⟨d,de,z⟩:=Wk.mp em;cases z;have hδ:δ[i]?=some (some a):=by
    cases z:δ[i]? with
    |none=>rw[z]at de;cases de
    |some o=>rw[z]at de;cases o with
      |none=>cases de
      |some b=>cases de;rfl
   obtain⟨v,hv',cv⟩:=ev.val i a hδ;dsimp only at e;split at e
   ·split at e
    ·rename_i a hay;obtain rfl:=Zi.mp hay;have e':=Ws e;subst e';cases cv;exact⟨ρ,M,hv',j,_,rfl,λρ1 H1 v x j c=>q ρ1 H1 v x j c⟩
    ·cases e
   ·cases e
section
variable{X:Cx}{E:XK}{An:AT}{e:Expr}{fe:aj->DM D}{pos:Pos}
def MF{x1}(ha:PE X a (tC (.str wd)))(he:AE X E An e fe)(h1:notStar a=true:=by rfl)(h2:notStar e=true:=by rfl):AE X E An (.Tuple [a,e] x1 pos) (λδ=>fe δ>>=λd=>pure (.tup [.str wd,d])):=
 ⟨PE.mono (L2.pe_tup (zz ha (zz he.h pa_nil h2) h1)) fun σ H Q h=>by obtain⟨ρ,δ,M,an,ev,j,g1⟩:=h;exact⟨ρ,δ,M,an,ev,j,g1.bind λρ1 H1 M1 v d e1 j1 c1 g2=>⟨by show 2<=sizeLine;decide,λp hp=>g2.pure ρ1 _ _ (.lay hp) (j1.lay _ hp) (.tup (j1.fresh hp) upd_same (Cvs.mono (.lay hp) (.cons (.str wd) (.cons c1 .nil))))⟩⟩⟩
end
structure DefT(P:C5)(w:World)(K:B0)(mg:A4)(base:Heap)(k:Nat)(x:Str)(ps:C3)(Pt:Addr)(F:List D->DM D):Prop where
 h:DefC P w K mg base k x ps (λvs H Q E=>Aa mg F vs H Q E/\∃qs,H Pt=some (.tbl qs))
def Vz{P:C5}{w:World}{K:B0}{mg:A4}{base:Heap}{k:Nat}{x:Str}{N ps:C3}{st:Stmt}{fb:aj->DM Fl}{Pt c:Addr}{h:Heap}(T:DefAt K mg x st)(S:FnScope N ps (defScope st))(X:K.In h)(G:h.Ns mainGlobals mg)(ht:W.tabIn K x=some (c,Pt))
  (af:∀{f ae A outer s H E},(∃qs,H Pt=some (.tbl qs))->ae=.ref c->Rm k A x st s f ae->Ds P w K mg base N x st f ae A outer s H E fb)
  (hb:∀(kV doc pm:Value) (an:B3) (ae ct:Value) (us:B5),us.length=ps.length->bindArgs (W.fnOf x x (defArgs st) (defBody st) (defScope st) .none kV doc pm an ae ct) ⟨us,[]⟩=pure (ps.zip us):=by intro _ _ _ _ _ _ us hl;first | (obtain⟨_,rfl⟩:=tX hl;rfl) | (obtain⟨_,_,rfl⟩:=J9 hl;rfl) | (obtain⟨_,_,_,rfl⟩:=Ka hl;rfl) | (obtain⟨_,_,_,_,rfl⟩:=Kc hl;rfl)) :
  DefT P w K mg base (k+1) x ps Pt (aD ps.length N.length fb):=by
 obtain⟨f,fd,F,m⟩:=T.ex;have hc:=F.codeC X G m ht;have Fb:=F.binds hb;have Fk:=F.kp;obtain⟨oc,od,kV,doc,pm,an,ae,ct,bp,rfl,lk,cd⟩:=F.ex;obtain rfl:ae=.ref c:=hc;refine⟨f,_,fn_of lk cd S (λvs H Q E h=>?_) λA outer s H vs Q E hr h=>?_,Fb,Fk,m⟩
 ·obtain⟨⟨ρ,M,ds,c,j,g⟩,_⟩:=h;rw[c.len];exact (bw.aD g).1
 obtain⟨⟨ρ,M,ds,c,j,g⟩,ht⟩:=h;exact⟨_,(af ht rfl hr).h,ρ,_,M,ie c,j,(bw.aD g).2⟩
def Te(j:J mg ρ M H)(h:H a=some (HO.tbl qs)):a∉ρ.st:=λz=>by
 obtain⟨n,hn,e⟩:=Xv.mp z;have hm:n<M.length:=by rw[<-j.len];exact hn
 have c:=j.obj n a M[n] (by rw[Wl hn,e]) (Wl hm)
 cases hM:M[n] with
 |lst l=>rw[hM]at c;obtain⟨_,c,_⟩:=c;rw[h]at c;cases c
 |dic ks l=>rw[hM]at c;obtain⟨_,c,_⟩:=c;rw[h]at c;cases c
 |ins cc ns l=>rw[hM]at c;obtain⟨_,_,_,_,c,_⟩:=c;rw[h]at c;cases c
def JG(D:DefT X.prog X.w X.K X.mg X.base j x ps Pt F)(hP:∃qs,X.H₀ Pt=some (.tbl qs))(hr:Room k X.A)(hx:Passes (cG X.prog X.w) X E)(ha:DA X E (e::es) fs)(cq:j<=k:=by decide)(hg:Gl X x:=by rfl)(ai:(x==("__debug__":Str))=false:=by decide)
  (he:notStar e=true:=by rfl) (hpl:(backTo pos (starEach es X.env)).any (·.1)=false:=by rfl) :
  DE X E (.Call (.Name x p) (e::es) [] pos) (λδ=>fs δ>>=F):=⟨λaaW s σ H Q I h=>by
 obtain⟨qs,hq⟩:=hP;obtain⟨more,hq⟩:=I.base.tbls Pt qs hq;refine wR D.h hr hx ha.h cq hg ai he hpl aaW s σ H Q I ?_;walk_at "b";refine⟨ρ,δ,M,ev,j,g1.bind λρ1 H1 M1 xs i8 e1 j1 c1 g2=>?_⟩
 rw[YK];exact And.intro ⟨ρ1,M1,i8,c1,j1,g2⟩ ⟨_,e1.keep Pt _ hq (Te j hq)⟩⟩
def wz(K:B0)(C:Addr)(c:Str):C3->Prop
 |[]=>True
 |x::xs=>(∃d,W.nsIn K mainGlobals x=some (some (.ref d))/\W.kitOne K (.ref C) (.ref d)=some (c==x))/\wz K C c xs
def bH{K:B0}{C d:Addr}{c x:Str}{xs:C3}(q:Bool)(a:W.nsIn K mainGlobals x=some (some (.ref d)))(b:W.kitOne K (.ref C) (.ref d)=some q)(e:(c==x)=q)(t:wz K C c xs):wz K C c (x::xs):=⟨⟨d,a,b.trans (congrArg some e.symm)⟩,t⟩
theorem wz.at{K:B0}{C:Addr}{c x:Str}:∀{ns:C3},wz K C c ns->x∈ns->∃d,W.nsIn K mainGlobals x=some (some (.ref d))/\W.kitOne K (.ref C) (.ref d)=some (c==x)
 |_::_,h,.head _=>h.1
 |_::_,h,.tail _ m=>wz.at h.2 m
def QQ{K:B0}{mg:A4}{h:Heap}{ns:C3}{c:Str}{C:Addr}(X:K.In h)(G:h.Ns mainGlobals mg)(n:wz K C c ns)(xa:XAt K C)(v:W.kitOne K (.ref C) (.type "ValueError")=some true)(o:W.kitAny K (.ref C) (Ek.map Value.type)=some false):FlK K mg ns c C:=
 ⟨xa,fun k hk D hD=>by obtain⟨d,e1,e2⟩:=n.at hk;have:=(Ze X G e1).symm.trans hD;cases this;exact e2,v,o⟩
def bF{ns:C3}(h:∀x∈ns,∃C,X.mg x=some (.ref C))(hx:ns.contains x=true:=by decide +kernel)(hg:Gl X x:=by rfl)(hd:(x==("__debug__":Str))=false:=by decide):DE X E (.Name x pos) (λz=>pure (.cls x)):=by obtain⟨C,e⟩:=h x (YD.mp hx);exact Qy e hg hd
def strsOf:List D->Option C3
 |[]=>some []
 |.str x::l=>(strsOf l).map (x::·)
 |_=>none
def Kq(x y:D)(M:Mo):Option D:=match x with
 |.str w=>((iD y M).bind strsOf).map λws=>.bl (!ws.contains w)
 |_=>none
theorem CQ:∀ {xs:List V}{l:List D}{ws:C3},Cvs mg ρ H xs l->strsOf l=some ws->xs=ws.map V.str
 |_,_,_,.nil,e=>by cases e;rfl
 | _,_,ws,.cons (d:=d) a t,e=>by
   unfold strsOf at e;split at e
   ·rename_i z;cases z
   ·rename_i z;cases z;obtain⟨ws',e1,rfl⟩:=Wk.mp e;cases a;rw[CQ t e1];rfl
   ·cases e
theorem yS(w:Str):∀ ws:C3,inV (.str w) (ws.map V.str)=ws.contains w
 |[]=>rfl
 |n::ns=>by
   have ih:=yS w ns;unfold inV at ih ⊢
   rw[W2,Zf,ih,aad];congr 1;show eqV (.str n) (.str w)=_;unfold eqV;rw[WW];simp;exact⟨λh=>h.symm,λh=>h.symm⟩
def Ou:bZ X E (compareOp .NotIn) (λx y=>rd (Kq x y)):=by
 refine bZ.of op_notIn_seq λx y H Q ρ M dx dy d j cx cy e q=>?_
 unfold Kq at e;split at e
 ·obtain⟨ns,h1,rfl⟩:=Wk.mp e;obtain⟨l,h2,h3⟩:=Wv.mp h1;cases cx;obtain⟨a,xs,rfl,ha,c⟩:=vz j cy h2;have:=CQ c h3;subst this;refine⟨a,_,rfl,ha.imp (λh=>SqL.of h) (λh=>SqT.of h),rfl,by simp[flatV],?_⟩
  rw[Wq rfl,yS];exact q ρ H _ .refl j (.bl _)
 ·cases e
def Uy{P:C5}{w:World}{K:B0}{mg:A4}{base:Heap}{k:Nat}{x:Str}{N ps:C3}{st:Stmt}{fb:aj->DM Fl}{f:Addr}{fd:FuncData}{ts:List (Addr×Addr)}(F:Fun K x x st f fd)(S:FnScope N ps (defScope st))
  (af:∀(ae:Value) (A:Around) (outer:C4) (s:Shared) (H:Hp) (E:XK),(∀q∈ts,H q.2=some (.tbl #[]))->Room k (A.deeper (envOfC x (defScope st) s.z f ae))->
    DSs (bV P w K mg base N x (defScope st) f ae A outer s H E) E (defBody st) fb):FnOk P w K mg base (cG P w) (k+1) f fd ps (λvs H Q E=>Aa mg (aD ps.length N.length fb) vs H Q E/\∀q∈ts,H q.2=some (.tbl #[])):=by
 obtain⟨oc,od,kV,doc,pm,an,ae,ct,bp,rfl,lk,cd⟩:=F.ex;refine fn_of lk cd S (λvs H Q E h=>?_) λA outer s H vs Q E hr h=>?_
 ·obtain⟨⟨ρ,M,ds,c,j,g⟩,_⟩:=h;rw[c.len];exact (bw.aD g).1
 obtain⟨⟨ρ,M,ds,c,j,g⟩,ht⟩:=h;exact⟨_,(af ae A outer s H E ht hr).h,ρ,_,M,ie c,j,(bw.aD g).2⟩
end L3
namespace N10
end N10
end
namespace K
open PySem L2 L3
abbrev D9:List Str:=["_law_script", "_law_cell", "_law_pen", "_law_turn_here", "_law_rows_here", "_law_walk", "_law_shuts", "_law_shut_here", "_law_dues", "_law_lap"]
abbrev E1:List Str:=["thing", "many"]
abbrev E3:List Str:=["_law_pen", "_law_most", "_law_many", "_law_whole", "_law_way", "_law_rows_here", "_law_x", "_law_some", "_law_row", "_law_ball"]
abbrev E4:List Str:=["_law_rows_here", "_law_shut_here", "_law_turn_here", "_law_lands_here", "_law_found", "_law_side", "_law_some", "_law_steps"]
abbrev E5:List Str:=["_law_rows_here", "_law_shut_here"]
abbrev E6:List Str:=["_law_rows_here", "_law_start", "_law_many", "_law_found", "_law_turn_here"]
abbrev E7:List Str:=["_law_rows_here", "_law_many", "_law_found", "_law_middle", "_law_x"]
abbrev E8:List Str:=["_law_rows_here", "_law_start", "_law_many"]
abbrev E9:List Str:=["_law_walk", "_law_shuts", "_law_bads", "_law_bad", "_law_words"]
abbrev F1:List Str:=["walk", "shut", "nexts", "steps", "turn", "place", "following"]
abbrev F2:List Str:=["nexts", "start", "steps", "waiting", "place", "following"]
abbrev F3:List Str:=["walk", "shut"]
abbrev F4:List Str:=["_law_rows_here", "_law_shut_here", "_law_lands_here"]
abbrev F5:List Str:=["_law_one", "_law_other"]
abbrev F6:List Str:=["_law_e", "_law_marks", "_law_words", "_law_flag"]
abbrev F7:List Str:=["_law_script", "_law_k"]
abbrev F8:List Str:=["_law_rows_here", "_law_led_here", "_law_found"]
abbrev F9:List Str:=["_law_numbers", "_law_found", "_law_number"]
abbrev G0:List Str:=["walk"]
abbrev G1:List Str:=["nexts", "start"]
abbrev G2:List Str:=["_law_rows_here"]
abbrev I0:List Str:=["walk", "thing"]
abbrev K0:List Str:=["one", "other"]
abbrev K2:List Str:=["thing"]
def jK(l:C3)(h:l.Nodup:=by decide):l.Nodup:=h
local macro_rules | `(tactic| trivial)=>`(tactic| refine⟨rfl,by decide +kernel,rfl,Ae ?_,λm_=>yQ rfl,by decide,rfl,Oi rfl,Ol ?_,yO ?_⟩<;>((repeat' apply And.intro)<;>first | exact True.intro | rfl | exact Or.inl rfl | exact Or.inr rfl | exact⟨_,rfl⟩))
def top(i:Nat):Stmt:=PySem.Challenge.pw_fadewalk_k31_turns_and_sides.main.body.getD i (.Pass ⟨0,0,0,0⟩)
abbrev vD:C3:=["NoSet"]
abbrev Qd(k:Nat)(N:C3)(x:Str)(st:Stmt)(Y:C5->World->B0->Mg->Heap->Prop->Prop):={b:aj->DM Fl // ∀{P w K mg base f ae A outer s H E},Y P w K mg base (Rm k A x st s f ae->Ds P w K mg base N x st f ae A outer s H E b)}
abbrev Qe(k:Nat)(N:C3)(x:Str)(st:Stmt)(Y:(Nat->Str->C3->Fn->Prop)->(Str->Prop)->Prop->Prop):=Qd k N x st λP w K m o=>Y (DefD P w K m o) (Nn m)
abbrev Sc(N ps:C3)(st:Stmt):=FnScope N ps (defScope st)
def cM{N P:C3}{sc:Scope}(a:sc.kind=.function:=by exact rfl)(b:sc.isCoroutine=false:=by exact rfl)(c:sc.isGenerator=false:=by exact rfl)(p:N.take P.length=P:=by exact rfl)(d:(decide N.Nodup&&(decide (∀x∈P,sc.names.lookup x=some .local\/sc.names.lookup x=some .cell)&&decide (∀y∈sc.names,y.2≠.free)))=true:=by decide +kernel):FnScope N P sc:=TV a b c p d
def o7{X:Cx}{E:XK}{scope:Scope}{cl:A9}{elt i0:Expr}{p0 pos:Pos}{fi:aj->DM Itn}{fe:aj->DM D}(x:Str)(js:C0)(fr:C3)(hi:DI X E (.Name x p0) i0 fi)
  (he:∀{aaW m fp C s₂ H₂},DE (X.aR aaW scope (cellsFrom m scope.names cl) ([x]++fr) fp C s₂ H₂) E0 elt fe) (T:CompG X scope cl [x] js fr:=by trivial) (hc:X.calm=true:=by exact rfl)
  (nd:([x]++fr).Nodup:=by decide) (hl:∀m C Z,(compEnvC scope (cellsFrom m scope.names cl) C Z).scope.names.lookup x=some .local:=by intros;exact rfl)
  (hs:∀y,foldedSetIterable i0 X.env y=pure y:=by intro _;rfl) :
  DE X E (.ListComp elt [⟨.Name x p0,i0,[],0⟩] scope pos) (λδ=>fi δ>>=λit=>dj (cN (gN 0) (λz=>pure true) (bY fe) it (aW [x].length js δ) [])>>=λp=>Out.val.run p.2):=
 cR (own:=[x]) .val hc T hi (λz z z z z z=>aP (i:=0) nd rfl (Or.inl (hl ..)) (Or.inr (hl ..))) (λz z z z z z=>qR) (λz z z z z z=>he) hs
section
variable(N:Nat)(v0 v1 v2 v3 v4 v5 v6 v7 v8 v9 v10 v11 v12 v13 v14 v15 v16 v17 v18 v19:Fn)
abbrev oO:Stmt:=top 24
def Bc:Sc K2 K2 oO:=cM
@[simp] noncomputable def vf:Qe 0 K2 "is_whole" oO λD n Z=>n "bool"->n "int"->n "isinstance"->Z:=
 ⟨_,λya yb yc hr=>(aA (aL (uH (aM gA yc (aa (ak 0) (aa (gG (T := "int") yb) ao))) (uJ (QB (aM gA yc (aa (ak 0) (aa (gG (T := "bool") ya) ao))))))))⟩
noncomputable def uD:=(vf).1
abbrev eX:Stmt:=top 25
def gU:Sc K0 K0 eX:=cM
@[simp] noncomputable def eU:Qe 0 K0 "greatest_divider" eX fun _ _ Z=>Z:=
 ⟨_,fun  hr=>have nd:=gU.nd;(au (tL N PassesOwn.leaving (b7 (ak 1) (fun _=>rfl)) (aA (uM (i:=0) (j:=1) rfl nd rfl rfl (by decide) rfl rfl (aa (ak 1) (aa (aK dG (ak 0) (ak 1)) ao)) rfl)))
  (aA (aL (ak 0))))⟩
noncomputable def cZ:=(eU N).1
abbrev jm:Stmt:=top 28
def vY:Sc E1 E1 jm:=cM
@[simp] noncomputable def o8:Qe 1 E1 "are_weights" jm fun D n Z=>D 1 "is_whole" K2 v0->n "all"->n "isinstance"->n "len"->n "tuple"->Z:=
 ⟨_,fun ya yb yc yd ye hr=>(au (cu (DW.dt (nR (eN (b7 (aM gA yc (aa (ak 0) (aa (gG (T := "tuple") ye) ao))) (fun _=>rfl))) (mO (bh (ir hr.units) (aM call_lenD yd (aa (ak 0) ao)) (ak 1)))))
  (aA (aL fX))
  bA)
  (aA (aL (aM (gq hr.hd) yb (aa (o7 "weight" [] [] (cA (ak 0)) (uH (aF ya hr uZ (aa (ak 0) ao)) (uJ (jG zu (ak 0) az)))) ao)))))⟩
noncomputable def oZ:=(o8 v0).1
abbrev oM:Stmt:=top 29
def Ba:Sc E1 E1 oM:=cM
@[simp] noncomputable def u9:Qe 2 E1 "are_rows" oM fun D n Z=>D 2 "are_weights" E1 v0->n "all"->n "isinstance"->n "len"->n "tuple"->Z:=
 ⟨_,fun ya yb yc yd ye hr=>(au (cu (DW.dt (nR (eN (b7 (aM gA yc (aa (ak 0) (aa (gG (T := "tuple") ye) ao))) (fun _=>rfl))) (mO (bh (ir hr.units) (aM call_lenD yd (aa (ak 0) ao)) (ak 1)))))
  (aA (aL fX))
  bA)
  (aA (aL (aM (gq hr.hd) yb (aa (o7 "row" [1] ["many"] (cA (ak 0)) (aF ya hr uZ (aa (ak 0) (aa (ak 1) ao)))) ao)))))⟩
noncomputable def uB:=(u9 v0).1
abbrev oN:Stmt:=top 30
def Bb:Sc E1 E1 oN:=cM
@[simp] noncomputable def vd:Qe 1 E1 "is_place" oN λD n Z=>D 1 "is_whole" K2 v0->Z:=
 ⟨_,λya hr=>(aA (aL (uH (aF ya hr aQ (aa (ak 0) ao)) (uJ (JH zx zy az (ak 0) (ak 1))))))⟩
noncomputable def uC:=(vd v0).1
abbrev mj:Stmt:=top 31
def zY:Sc ["things"] ["things"] mj:=cM
@[simp] noncomputable def sI:Qe 0 ["things"] "is_rising" mj λD n Z=>n "all"->n "len"->n "range"->Z:=
 ⟨_,λya yb yc hr=>(aA (aL (aM (gq hr.hd) ya (aa (o7 "at" [0] ["things"] (wJ rfl yc (aa az (aa (aM call_lenD yb (aa (ak 0) ao)) ao))) (jG zy (bx bU (ak 1) (aK vQ (ak 0) az)) (bx bU (ak 1) (ak 0)))) ao))))⟩
noncomputable def lH:=(sI).1
abbrev eF:Stmt:=top 32
def oU:Sc E1 E1 eF:=cM
@[simp] noncomputable def gR:Qe 2 E1 "are_rising_places" eF fun D n Z=>D 2 "is_place" E1 v0->D 1 "is_rising" ["things"] v1->n "all"->n "isinstance"->n "tuple"->Z:=
 ⟨_,fun ya yb yc yd ye hr=>(au (cu (DW.dt (nR (eN (b7 (aM gA yd (aa (ak 0) (aa (gG (T := "tuple") ye) ao))) (fun _=>rfl))) (mO (eN (b7 (aM (gq hr.hd) yc (aa (o7 "place" [1] ["many"] (cA (ak 0)) (aF ya hr uZ (aa (ak 0) (aa (ak 1) ao)))) ao)) (fun _=>rfl))))))
  (aA (aL fX))
  bA)
  (aA (aL (aF yb hr aQ (aa (ak 0) ao)))))⟩
noncomputable def cV:=(gR v0 v1).1
abbrev jn:Stmt:=top 34
def vZ:Sc G0 G0 jn:=cM
@[simp] noncomputable def o9:Qd 0 G0 "next_places" jn λP w K m o Z=>∀{C_Walk},OCls K m "Walk" C_Walk ["rows", "whole"]->Nn m "enumerate"->Nn m "tuple"->Z:=
 ⟨_,λya yb yc hr=>(aA (aL (cR (own:=["row"]) (js:=[]) (fr:=[]) .val rfl (by trivial) (cA (Gn ya (by decide) (ak 0))) (λz z z z z z=>(aP (i:=0) (jK ["row"]) rfl (Or.inl rfl))) (λz z z z z z=>qR) (λz z z z z z=>(fH (T := "tuple") bC yc (aa (cR (own:=["place", "weight"]) (js:=[]) (fr:=[]) .val rfl (by trivial) (Nm rfl yb (aa (ak 0) ao)) (λz z z z z z=>(QD (n:=2) rfl (yC (aP (i:=0) (jK ["place", "weight"]) rfl (Or.inl rfl)) (yC (aP (i:=1) (jK ["place", "weight"]) rfl (Or.inl rfl)) Nk)))) (λz z z z z z=>(dF (bh qi (ak 1) az))) (λz z z z z z=>(ak 0))) ao))))))⟩
noncomputable def o5:=(o9).1
abbrev iB:Stmt:=top 35
def lB:Sc F2 G1 iB:=cM
@[simp] noncomputable def iy:Qe 0 F2 "fewest_steps" iB fun _ _ Z=>Z:=
 ⟨_,fun  hr=>have nd:=lB.nd;(au (aH (i:=2) nd rfl (Or.inl rfl) (Ni 1))
  (au (aH (i:=3) nd rfl (Or.inl rfl) (jA (aa (ak 1) ao)))
  (au (tL N Xj (b7 (ak 3) (λz=>rfl)) (au (aH (i:=4) nd rfl (Or.inl rfl) (km XQ F.slot_list_pop F.type_list_pop Oc (ak 3) (aa az ao)))
  (aA (cJ 0 Xj rfl (cA (bx bU (ak 0) (ak 4))) (aP (i:=5) nd rfl (Or.inl rfl))
  (aA (cu (bh (Ku (u1 hr.units)) (ak 5) (ak 2))
  (au (uL (aK bu (uI (u1 hr.units) (ak 2) (ak 4)) az) (uK (ak 2) (ak 5) (K6 (u1 hr.units))))
  (aA (jB (km XQ YH YM mZ (ak 3) (aa (ak 5) ao)))))
  bA))))))
  (aA (aL (ak 2))))))⟩
noncomputable def eZ:=(iy N).1
abbrev cQ:Stmt:=inClass (top 43) 1
def vm:Sc ["self"] ["self"] cQ:=cM
@[simp] noncomputable def m6:Qd 0 ["self"] "Walk.__len__" cQ λP w K m o Z=>∀{C_Walk},OCls K m "Walk" C_Walk ["rows", "whole"]->Nn m "len"->Z:=
 ⟨_,λya yb hr=>(aA (aL (aM call_lenD yb (aa (Gn ya (by decide) (ak 0)) ao))))⟩
noncomputable def mH:=(m6).1
abbrev um:Stmt:=top 36
def wU:Sc ["walk", "nexts"] G0 um:=cM
@[simp] noncomputable def uf:Qd 2 ["walk", "nexts"] "led_to" um fun P w K m o Z=>DefD P w K m o 1 "next_places" G0 v0->DefD P w K m o 1 "fewest_steps" G1 v1->MethD P w K m o 1 "Walk" "__len__" "Walk.__len__" cQ ["self"] v2->Nn m "len"->Nn m "range"->Nn m "sorted"->Nn m "tuple"->Z:=
 ⟨_,fun ya yb yc yd ye yf yg hr=>have nd:=wU.nd;(au (aH (i:=1) nd rfl (Or.inr rfl) (aF ya hr aQ (aa (ak 0) ao)))
  (aA (aL (fH (T := "tuple") bC yg (aa (o7 "start" [1] ["nexts"] (bK rfl ye (aa (aM (kj yc hr aQ (λz z z z z z us hl=>by obtain⟨_,rfl⟩:=tX hl;rfl)) yd (aa (ak 0) ao)) ao)) (fH (T := "tuple") bC yg (aa (aM (Du hr.hd) yf (aa (aF yb hr uZ (aa (ak 1) (aa (ak 0) ao))) ao)) ao))) ao)))))⟩
noncomputable def sX:=(uf v0 v1 v2).1
abbrev mq:Stmt:=top 37
def qF:Sc ["walk", "led"] G0 mq:=cM
@[simp] noncomputable def lU:Qe 3 ["walk", "led"] "shut_sets" mq fun D n Z=>D 3 "led_to" G0 v0->n "all"->n "sorted"->n "tuple"->Z:=
 ⟨_,fun ya yb yc yd hr=>have nd:=qF.nd;(au (aH (i:=1) nd rfl (Or.inr rfl) (aF ya hr aQ (aa (ak 0) ao)))
  (aA (aL (fH (T := "tuple") bC yd (aa (Gs (own:=["places"]) (js:=[1]) (fr:=["led"]) hr.hd (u1 hr.units) yc rfl (by trivial) (cA (ak 1)) (λz z z z z z=>(aP (i:=0) (jK ["places", "led"]) rfl (Or.inr rfl))) (λz z z z z z=>(dF (b7 (aM (gq hr.hd) yb (aa (o7 "place" [1,0] ["led", "places"] (cA (ak 0)) (jG (cH hr.units) (bx bU (ak 1) (ak 0)) (ak 2))) ao)) (λz=>rfl)))) (λz z z z z z=>(ak 0))) ao)))))⟩
noncomputable def rZ:=(lU v0).1
abbrev gk:Stmt:=top 38
def rO:Sc I0 I0 gk:=cM
@[simp] noncomputable def dR:Qd 4 I0 "refuse_no_shut" gk fun P w K m o Z=>∀{F0},DefD P w K m o 4 "shut_sets" G0 v0->DefD P w K m o 3 "are_rising_places" E1 v1->MethD P w K m o 1 "Walk" "__len__" "Walk.__len__" cQ ["self"] v2->XTab K m vD F0->Nn m "len"->Z:=
 ⟨_,fun ya yb yc yd ye hr=>(aA (cu (DW.dt (nR (eN (b7 (aF yb hr aQ (aa (ak 1) (aa (aM (kj yc hr aQ (fun _ _ _ _ _ _ us hl=>by obtain⟨_,rfl⟩:=tX hl;rfl)) ye (aa (ak 0) ao)) ao))) (fun _=>rfl))) (mO (bh (Ov hr.units) (ak 1) (aF ya hr aQ (aa (ak 0) ao))))))
  (aA (JR yd (by decide) bz))
  bA))⟩
noncomputable def dJ:=(dR v0 v1 v2).1
abbrev qu:Stmt:=top 39
def vq:Sc F1 F3 qu:=cM
@[simp] noncomputable def lq:Qe 5 F1 "turn_of" qu fun D n Z=>D 5 "refuse_no_shut" I0 v0->D 1 "next_places" G0 v1->D 1 "fewest_steps" G1 v2->D 1 "greatest_divider" K0 v3->Z:=
 ⟨_,fun ya yb yc yd hr=>have nd:=vq.nd;(au (jB (aF ya hr aQ (aa (ak 0) (aa (ak 1) ao))))
  (au (aH (i:=2) nd rfl (Or.inl rfl) (aF yb hr aQ (aa (ak 0) ao)))
  (au (aH (i:=3) nd rfl (Or.inl rfl) (aF yc hr aQ (aa (ak 2) (aa (bx bU (ak 1) az) ao))))
  (au (aH (i:=4) nd rfl (Or.inl rfl) az)
  (au (cJ 0 Xj rfl (cA (ak 1)) (aP (i:=5) nd rfl (Or.inl rfl))
  (aA (cJ 0 Xj rfl (cA (bx bU (ak 2) (ak 5))) (aP (i:=6) nd rfl (Or.inl rfl))
  (aA (aH (i:=4) nd rfl (Or.inl rfl) (aF yd hr aQ (aa (ak 4) (aa (aK vQ (aK bu (uI (u1 hr.units) (ak 3) (ak 5)) az) (uI (u1 hr.units) (ak 3) (ak 6))) ao))))))))
  (aA (aL (ak 4))))))))⟩
noncomputable def pO:=(lq v0 v1 v2 v3).1
abbrev oR:Stmt:=top 40
def sO:Sc ["walk", "shut", "turn", "steps"] F3 oR:=cM
@[simp] noncomputable def jx:Qe 6 ["walk", "shut", "turn", "steps"] "sides_of" oR fun D n Z=>D 6 "turn_of" F3 v0->D 1 "next_places" G0 v1->D 1 "fewest_steps" G1 v2->n "range"->n "tuple"->Z:=
 ⟨_,fun ya yb yc yd ye hr=>have nd:=sO.nd;(au (aH (i:=2) nd rfl (Or.inr rfl) (aF ya hr aQ (aa (ak 0) (aa (ak 1) ao))))
  (au (aH (i:=3) nd rfl (Or.inr rfl) (aF yc hr aQ (aa (aF yb hr aQ (aa (ak 0) ao)) (aa (bx bU (ak 1) az) ao))))
  (aA (aL (fH (T := "tuple") bC ye (aa (cR (own:=["side"]) (js:=[1,3,2]) (fr:=["shut", "steps", "turn"]) .val rfl (by trivial) (bK rfl yd (aa (ak 2) ao)) (λz z z z z z=>(aP (i:=0) (jK ["side", "shut", "steps", "turn"]) rfl (Or.inr rfl))) (λz z z z z z=>qR) (λz z z z z z=>(fH (T := "tuple") bC ye (aa (cR (own:=["place"]) (js:=[2,3,0]) (fr:=["steps", "turn", "side"]) .val rfl (by trivial) (cA (ak 1)) (λz z z z z z=>(aP (i:=0) (jK ["place", "steps", "turn", "side"]) rfl (Or.inl rfl))) (λz z z z z z=>(dF (bh (cH hr.units) (aK dG (uI (u1 hr.units) (ak 1) (ak 0)) (ak 2)) (ak 3)))) (λz z z z z z=>(ak 0))) ao)))) ao))))))⟩
noncomputable def nH:=(jx v0 v1 v2).1
abbrev gK:Stmt:=top 42
def jU:Sc ["thing", "whole"] K2 gK:=cM
@[simp] noncomputable def lg:Qd 3 ["thing", "whole"] "can_be_walked" gK fun P w K m o Z=>∀{t_MOST_PLACES},DefD P w K m o 3 "are_rows" E1 v0->Gi m "MOST_PLACES" 25 t_MOST_PLACES->Nn m "all"->Nn m "isinstance"->Nn m "len"->Nn m "sum"->Nn m "tuple"->Z:=
 ⟨_,fun ya yb yc yd ye yf yg hr=>have nd:=jU.nd;(au (cu (DW.dt (nR (eN (b7 (aM gA yd (aa (ak 0) (aa (gG (T := "tuple") yg) ao))) (fun _=>rfl))) (nR (eN (JT zx zx az (aM call_lenD ye (aa (ak 0) ao)) (SQ yb))) (mO (eN (b7 (aF ya hr aQ (aa (ak 0) (aa (aM call_lenD ye (aa (ak 0) ao)) ao))) (fun _=>rfl)))))))
  (aA (aL fX))
  bA)
  (au (aH (i:=1) nd rfl (Or.inr rfl) (aM (pQ hr.hd) yf (aa (bx bU (ak 0) az) ao)))
  (aA (aL (uH (jG zu (ak 1) az) (uJ (aM (gq hr.hd) yc (aa (o7 "row" [1] ["whole"] (cA (ak 0)) (jG (cH hr.units) (aM (pQ hr.hd) yf (aa (ak 0) ao)) (ak 1))) ao))))))))⟩
noncomputable def kh:=(lg v0).1
abbrev gJ:Stmt:=inClass (top 43) 0
def uo:Sc ["self", "rows"] ["self", "rows"] gJ:=cM
@[simp] noncomputable def kZ:Qd 4 ["self", "rows"] "Walk.__init__" gJ fun P w K m o Z=>∀{C_Walk},DefD P w K m o 4 "can_be_walked" K2 v0->OCls K m "Walk" C_Walk ["rows", "whole"]->Nn m "sum"->Z:=
 ⟨_,fun ya yb yc hr=>(au (cu (eN (b7 (aF ya hr aQ (aa (ak 1) ao)) (fun _=>rfl)))
  (aA JS)
  bA)
  (au (Gw yb (by decide) (ak 0) (ak 1))
  (aA (Gw yb (by decide) (ak 0) (aM (pQ hr.hd) yc (aa (bx bU (ak 1) az) ao))))))⟩
noncomputable def j9:=(kZ v0).1
abbrev iz:Stmt:=top 45
def vp:Sc F7 F7 iz:=cM
@[simp] noncomputable def m8:Qe 0 F7 "_law_cell_at" iz fun D n Z=>n "len"->Z:=
 ⟨_,fun ya hr=>(au (cu (bh zy (ak 1) (aM call_lenD ya (aa (ak 0) ao)))
  (aA (aL (bx bU (ak 0) (ak 1))))
  bA)
  (aA (aL az)))⟩
noncomputable def gY:=(m8).1
abbrev lW:Stmt:=top 46
def qx:Sc ["_law_seed"] ["_law_seed"] lW:=cM
@[simp] noncomputable def sH:Qe 0 ["_law_seed"] "_law_next" lW fun _ _ Z=>Z:=
 ⟨_,fun  hr=>have nd:=qx.nd;(au (aH (i:=0) nd rfl (Or.inl rfl) (aK dG (aK bu (ak 0) az) az))
  (aA (aL (aK dG (aK bu (aK bu (aK m5 (ak 0) (ak 0)) (aK m5 az (ak 0))) az) az))))⟩
noncomputable def rQ:=(sH).1
abbrev jk:Stmt:=top 47
def nA:Sc ["_law_cell", "_law_left"] ["_law_cell"] jk:=cM
@[simp] noncomputable def jh:Qe 0 ["_law_cell", "_law_left"] "_law_pen_of" jk fun D n Z=>n "int"->n "max"->Z:=
 ⟨_,fun ya yb hr=>have nd:=nA.nd;(au (aH (i:=1) nd rfl (Or.inl rfl) (aM (Dr rfl) yb (aa (ak 0) (aa (aK vQ az (ak 0)) ao))))
  (aA (aL (jA (aa (ak 1) (aa (fH (T := "int") uE ya (aa (jG zu (ak 1) (aK Ox az az)) ao)) (aa (aK dG (ak 1) az) ao)))))))⟩
noncomputable def oY:=(jh).1
abbrev lV:Stmt:=top 48
def qw:Sc ["_law_pen", "_law_many", "_law_found"] ["_law_pen", "_law_many"] lV:=cM
@[simp] noncomputable def lL:Qe 1 ["_law_pen", "_law_many", "_law_found"] "_law_draw" lV fun D n Z=>D 1 "_law_next" ["_law_seed"] v0->Z:=
 ⟨_,fun ya hr=>have nd:=qw.nd;(au (cu (DW.dt (QH (bh (cH hr.units) (bx bU (ak 0) az) az) (Nu (bh qi (bx bU (ak 0) az) az))))
  (au (aH (i:=2) nd rfl (Or.inl rfl) (aK dG (bx bU (ak 0) az) (ak 1)))
  (au (uL (aK oh (bx bU (ak 0) az) (ak 1)) (uK (ak 0) az xG))
  (aA (aL (ak 2)))))
  bA)
  (au (uL (aF ya hr aQ (aa (aK bu (aF ya hr aQ (aa (bx bU (ak 0) az) ao)) az) ao)) (uK (ak 0) az xG))
  (aA (aL (aK dG (aK oh (bx bU (ak 0) az) az) (ak 1))))))⟩
noncomputable def rP:=(lL v0).1
abbrev lX:Stmt:=top 49
def qy:Sc E3 ["_law_pen", "_law_most"] lX:=cM
@[simp] noncomputable def lM:Qe 2 E3 "_law_rows" lX fun D n Z=>D 2 "_law_draw" ["_law_pen", "_law_many"] v0->n "int"->n "len"->n "list"->n "range"->n "tuple"->Z:=
 ⟨_,fun ya yb yc yd ye yf hr=>have nd:=qy.nd;(au (Nr (i:=2) (j:=3) (k:=4) rfl nd rfl rfl rfl (by decide) (by decide) (by decide) rfl rfl rfl (aa (aK bu az (aF ya hr aQ (aa (ak 0) (aa (ak 1) ao)))) (aa (bx bU (bJ (aa az (aa az (aa az (aa az (aa az (aa az ao))))))) (aF ya hr aQ (aa (ak 0) (aa az ao)))) (aa (aF ya hr aQ (aa (ak 0) (aa az ao))) ao))) rfl)
  (au (aH (i:=5) nd rfl (Or.inl rfl) (jA ao))
  (au (cJ 0 Xj rfl (bK rfl ye (aa (ak 2) ao)) (aP (i:=6) nd rfl (Or.inr rfl))
  (au (aH (i:=7) nd rfl (Or.inl rfl) (wI rfl yd ye (aa (ak 2) ao)))
  (au (cu (bh (cH hr.units) (ak 4) az)
  (aA (aH (i:=7) nd rfl (Or.inl rfl) (bJ (aa (aF ya hr aQ (aa (ak 0) (aa (ak 2) ao))) (aa (aF ya hr aQ (aa (ak 0) (aa (ak 2) ao))) ao)))))
  bA)
  (au (cu (bh (cH hr.units) (ak 4) az)
  (aA (aH (i:=7) nd rfl (Or.inl rfl) (bJ (aa (aK dG (aK bu (ak 6) az) (ak 2)) ao))))
  bA)
  (au (cu (bh (cH hr.units) (ak 4) az)
  (aA (aH (i:=7) nd rfl (Or.inl rfl) (aK bu (cR (own:=["_law_y"]) (js:=[6]) (fr:=["_law_x"]) .val rfl (by trivial) (bK rfl ye (aa (ak 2) ao)) (λz z z z z z=>(aP (i:=0) (jK ["_law_y", "_law_x"]) rfl (Or.inl rfl))) (λz z z z z z=>(dF (bh (ir hr.units) (aK dG (ak 0) az) (aK dG (ak 1) az)))) (λz z z z z z=>(ak 0))) (aK Ck (bJ (aa (ak 6) ao)) (fH (T := "int") uE yb (aa (jG (cH hr.units) (ak 2) az) ao))))))
  bA)
  (au (cu (bh (cH hr.units) (ak 4) az)
  (aA (tK (i:=7) (own:=["_law_y"]) (js:=[6]) (fr:=["_law_x"]) .val nd rfl (Or.inl rfl) rfl (by trivial) (bK rfl ye (aa (ak 2) ao)) (λz z z z z z=>(aP (i:=0) (jK ["_law_y", "_law_x"]) rfl (Or.inl rfl))) (λz z z z z z=>(dF (bh (cH hr.units) (aK oh (ak 0) az) (aK oh (ak 1) az)))) (λz z z z z z=>(ak 0))))
  bA)
  (au (cu (bh (cH hr.units) (ak 4) az)
  (aA (aH (i:=7) nd rfl (Or.inl rfl) (wI rfl yd ye (aa (aK bu (ak 6) az) ao))))
  bA)
  (au (aH (i:=8) nd rfl (Or.inl rfl) (aK Oq (bJ (aa az ao)) (ak 2)))
  (au (cJ 0 Xj rfl (bK rfl ye (aa (ak 3) ao)) (aP (i:=9) nd rfl (Or.inl rfl))
  (aA (Nq (ak 8) (bx bU (ak 7) (aF ya hr aQ (aa (ak 0) (aa (aM call_lenD yc (aa (ak 7) ao)) ao)))) Kw az)))
  (aA (jB (km XQ YH YM mZ (ak 5) (aa (fH (T := "tuple") bC yf (aa (ak 8) ao)) ao)))))))))))))
  (aA (aL (fH (T := "tuple") bC yf (aa (ak 5) ao)))))))⟩
noncomputable def rR:=(lM v0).1
abbrev oK:Stmt:=top 50
def sJ:Sc E7 G2 oK:=cM
@[simp] noncomputable def oA:Qe 0 E7 "_law_led" oK fun D n Z=>n "len"->n "range"->n "set"->n "sorted"->n "tuple"->Z:=
 ⟨_,fun ya yb yc yd ye hr=>have nd:=sJ.nd;(au (aH (i:=1) nd rfl (Or.inr rfl) (aM call_lenD ya (aa (ak 0) ao)))
  (au (tK (i:=2) (own:=["_law_x"]) (js:=[1,0]) (fr:=["_law_many", "_law_rows_here"]) .sto nd rfl (Or.inl rfl) rfl (by trivial) (bK rfl yb (aa (ak 1) ao)) (λz z z z z z=>(aP (i:=0) (jK ["_law_x", "_law_many", "_law_rows_here"]) rfl (Or.inr rfl))) (λz z z z z z=>qR) (λz z z z z z=>(Bs rfl yd yc (aa (aK bu (bJ (aa (ak 0) ao)) (cR (own:=["_law_y"]) (js:=[2,0]) (fr:=["_law_rows_here", "_law_x"]) .val rfl (by trivial) (bK rfl yb (aa (ak 1) ao)) (λz z z z z z=>(aP (i:=0) (jK ["_law_y", "_law_rows_here", "_law_x"]) rfl (Or.inl rfl))) (λz z z z z z=>(dF (bh qi (bx bU (bx bU (ak 1) (ak 2)) (ak 0)) az))) (λz z z z z z=>(ak 0)))) ao))))
  (au (cJ 0 Xj rfl (bK rfl yb (aa (ak 1) ao)) (aP (i:=3) nd rfl (Or.inl rfl))
  (aA (cJ 0 Xj rfl (bK rfl yb (aa (ak 1) ao)) (aP (i:=4) nd rfl (Or.inl rfl))
  (aA (cu (bh Hv (ak 3) (bx bU (ak 2) (ak 4)))
  (aA (uL (Bs rfl yd yc (aa (aK bu (bx bU (ak 2) (ak 4)) (bx bU (ak 2) (ak 3))) ao)) (uK (ak 2) (ak 4) xG)))
  bA)))))
  (aA (aL (fH (T := "tuple") bC ye (aa (o7 "_law_some" [] [] (pW (ak 2)) (fH (T := "tuple") bC ye (aa (ak 0) ao))) ao)))))))⟩
noncomputable def uA:=(oA).1
abbrev lY:Stmt:=top 51
def qC:Sc F8 G2 lY:=cM
@[simp] noncomputable def lO:Qe 1 F8 "_law_shut" lY fun D n Z=>D 1 "_law_led" G2 v0->n "set"->n "sorted"->n "tuple"->Z:=
 ⟨_,fun ya yb yc yd hr=>have nd:=qC.nd;(au (aH (i:=1) nd rfl (Or.inr rfl) (aF ya hr aQ (aa (ak 0) ao)))
  (au (tK (i:=2) (own:=["_law_some"]) (js:=[1]) (fr:=["_law_led_here"]) .val nd rfl (Or.inl rfl) rfl (by trivial) (cA (ak 1)) (λz z z z z z=>(aP (i:=0) (jK ["_law_some", "_law_led_here"]) rfl (Or.inr rfl))) (λz z z z z z=>(dF (bh (cH hr.units) (cR (own:=["_law_y"]) (js:=[1,0]) (fr:=["_law_led_here", "_law_some"]) .val rfl (by trivial) (cA (ak 0)) (λz z z z z z=>(aP (i:=0) (jK ["_law_y", "_law_led_here", "_law_some"]) rfl (Or.inl rfl))) (λz z z z z z=>(dF (bh (ir hr.units) (bx bU (ak 1) (ak 0)) (ak 2)))) (λz z z z z z=>(ak 0))) (bJ ao)))) (λz z z z z z=>(ak 0)))
  (aA (aL (fH (T := "tuple") bC yd (aa (JL rfl hr.units yc yb (aa (ak 2) ao)) ao))))))⟩
noncomputable def rW:=(lO v0).1
abbrev ji:Stmt:=top 52
def nu:Sc F5 F5 ji:=cM
@[simp] noncomputable def jg:Qe 0 F5 "_law_common" ji fun _ _ Z=>Z:=
 ⟨_,fun  hr=>have nd:=nu.nd;(au (tL N PassesOwn.leaving (bh qi (ak 1) az) (aA (uM (i:=0) (j:=1) rfl nd rfl rfl (by decide) rfl rfl (aa (ak 1) (aa (aK dG (ak 0) (ak 1)) ao)) rfl)))
  (aA (aL (ak 0))))⟩
noncomputable def fV:=(jg N).1
abbrev fK:Stmt:=top 53
def iU:Sc F9 ["_law_numbers"] fK:=cM
@[simp] noncomputable def fJ:Qe 1 F9 "_law_all_common" fK fun D n Z=>D 1 "_law_common" F5 v0->Z:=
 ⟨_,fun ya hr=>have nd:=iU.nd;(au (aH (i:=1) nd rfl (Or.inl rfl) az)
  (au (cJ 0 Xj rfl (pW (ak 0)) (aP (i:=2) nd rfl (Or.inl rfl))
  (aA (aH (i:=1) nd rfl (Or.inl rfl) (aF ya hr aQ (aa (ak 1) (aa (ak 2) ao))))))
  (aA (aL (ak 1)))))⟩
noncomputable def jq:=(fJ v0).1
abbrev jR:Stmt:=top 54
def pA:Sc E6 E8 jR:=cM
@[simp] noncomputable def jN:Qe 0 E6 "_law_lands" jR fun D n Z=>n "len"->n "range"->Z:=
 ⟨_,fun ya yb hr=>have nd:=pA.nd;(au (aH (i:=3) nd rfl (Or.inr rfl) (jA (aa (bJ (aa (ak 1) ao)) ao)))
  (au (cJ 0 Xj rfl (bK rfl yb (aa (ak 2) ao)) (aP (i:=4) nd rfl (Or.inl rfl))
  (aA (jB (km XQ YH YM mZ (ak 3) (aa (cR (own:=["_law_y"]) (js:=[3,0]) (fr:=["_law_found", "_law_rows_here"]) .val rfl (by trivial) (bK rfl yb (aa (aM call_lenD ya (aa (ak 0) ao)) ao)) (λz z z z z z=>(aP (i:=0) (jK ["_law_y", "_law_found", "_law_rows_here"]) rfl (Or.inr rfl))) (λz z z z z z=>(dF (bh (ir hr.units) (cR (own:=["_law_x"]) (js:=[2,0]) (fr:=["_law_rows_here", "_law_y"]) .val rfl (by trivial) (pW (bx bU (ak 1) (Gq az))) (λz z z z z z=>(aP (i:=0) (jK ["_law_x", "_law_rows_here", "_law_y"]) rfl (Or.inl rfl))) (λz z z z z z=>(dF (bh qi (bx bU (bx bU (ak 1) (ak 0)) (ak 2)) az))) (λz z z z z z=>(ak 0))) (bJ ao)))) (λz z z z z z=>(ak 0))) ao)))))
  (aA (aL (ak 3)))))⟩
noncomputable def pM:=(jN).1
abbrev lZ:Stmt:=top 55
def qD:Sc F4 E5 lZ:=cM
@[simp] noncomputable def lQ:Qe 2 F4 "_law_turn" lZ fun D n Z=>D 1 "_law_lands" E8 v0->D 2 "_law_all_common" ["_law_numbers"] v1->n "len"->n "range"->Z:=
 ⟨_,fun ya yb yc yd hr=>have nd:=qD.nd;(au (aH (i:=2) nd rfl (Or.inr rfl) (aF ya hr aQ (aa (ak 0) (aa (bx bU (ak 1) az) (aa (aK m5 az (aM call_lenD yc (aa (ak 0) ao))) ao)))))
  (aA (aL (aF yb hr aQ (aa (cR (own:=["_law_steps"]) (js:=[1,2]) (fr:=["_law_shut_here", "_law_lands_here"]) .val rfl (by trivial) (wJ rfl yd (aa az (aa (aM call_lenD yc (aa (ak 2) ao)) ao))) (λz z z z z z=>(aP (i:=0) (jK ["_law_steps", "_law_shut_here", "_law_lands_here"]) rfl (Or.inl rfl))) (λz z z z z z=>(dF (bh Hv (bx bU (ak 1) az) (bx bU (ak 2) (ak 0))))) (λz z z z z z=>(ak 0))) ao)))))⟩
noncomputable def rY:=(lQ v0 v1).1
abbrev jT:Stmt:=top 56
def pB:Sc E4 E5 jT:=cM
@[simp] noncomputable def jO:Qe 3 E4 "_law_sides" jT fun D n Z=>D 1 "_law_lands" E8 v0->D 3 "_law_turn" E5 v1->n "len"->n "range"->n "set"->n "sorted"->n "tuple"->Z:=
 ⟨_,fun ya yb yc yd ye yf yg hr=>have nd:=pB.nd;(au (uM (i:=2) (j:=3) rfl nd rfl rfl (by decide) rfl rfl (aa (aF yb hr aQ (aa (ak 0) (aa (ak 1) ao))) (aa (aF ya hr aQ (aa (ak 0) (aa (bx bU (ak 1) az) (aa (aK bu (aK m5 (aK m5 az (aM call_lenD yc (aa (ak 0) ao))) (aM call_lenD yc (aa (ak 0) ao))) az) ao)))) ao)) rfl)
  (au (aH (i:=4) nd rfl (Or.inl rfl) (jA ao))
  (au (cJ 0 Xj rfl (bK rfl yd (aa (ak 2) ao)) (aP (i:=5) nd rfl (Or.inl rfl))
  (au (aH (i:=6) nd rfl (Or.inl rfl) (bJ ao))
  (au (cJ 0 Xj rfl (Gv rfl yd (aa (ak 5) (aa (aM call_lenD yc (aa (ak 3) ao)) (aa (ak 2) ao)))) (aP (i:=7) nd rfl (Or.inl rfl))
  (aA (aH (i:=6) nd rfl (Or.inl rfl) (aK bu (ak 6) (bx bU (ak 3) (ak 7))))))
  (aA (jB (km XQ YH YM mZ (ak 4) (aa (fH (T := "tuple") bC yg (aa (JK rfl yf ye (aa (ak 6) ao)) ao)) ao)))))))
  (aA (aL (fH (T := "tuple") bC yg (aa (ak 4) ao)))))))⟩
noncomputable def pN:=(jO v0 v1).1
end
abbrev Al:C3:=["BadWalk", "NoBound", "NoDeed", "NoFraction", "NoLine", "NoLot", "NoMark", "NoMove", "NoNumber", "NoParts", "NoPlace", "NoPlan", "NoRest", "NoRule", "NoSet", "NoSteps", "NoText", "NoWalk", "TooMany", "Unlike"]
abbrev eV:Stmt:=top 57
def ph:Sc F6 ["_law_e"] eV:=cM
@[simp] noncomputable def jM:{b:Addr->Str->aj->DM Fl // ∀{P w K mg base f ae A outer s H}{y:Addr}{oe:Obj}{c:Str}{C:Addr} (mL:∀x∈Al,∃C,mg x=some (.ref C)) (x0:Nn mg "ArithmeticError") (x1:Nn mg "LookupError") (x2:Nn mg "RuntimeError") (x3:Nn mg "TypeError") (x4:Nn mg "ValueError") (x5:Nn mg "isinstance") (hr:Rm 0 A "_law_flags" eV s f ae) (FK:FlK K mg Al c C) (ho_:oe.cls=.ref C) (h0_:s.heap.get? y=some oe) (hn_:H y=none) (hf_:y∉frs outer),DSs (Lk P w K mg base F6 "_law_flags" (defScope eV) f ae (A.mark (some (.ref y))) outer s H) E0 (defBody eV) (b y c)}:=
 ⟨fun y c=>_,fun {P w K mg base f ae A outer s H y oe c C} mL x0 x1 x2 x3 x4 x5 hr FK ho_ h0_ hn_ hf_=>have nd:=ph.nd;(au (aH (i:=1) nd rfl (Or.inl rfl) (bJ (aa (aM (aY FK ho_ h0_ hn_ hf_) x5 (aa (ak 0) (aa (bF mL) ao))) (aa (aM (aY FK ho_ h0_ hn_ hf_) x5 (aa (ak 0) (aa (bF mL) ao))) (aa (aM (aY FK ho_ h0_ hn_ hf_) x5 (aa (ak 0) (aa (bF mL) ao))) (aa (aM (aY FK ho_ h0_ hn_ hf_) x5 (aa (ak 0) (aa (bF mL) ao))) ao))))))
  (au (aH (i:=1) nd rfl (Or.inl rfl) (aK bu (ak 1) (bJ (aa (aM (aY FK ho_ h0_ hn_ hf_) x5 (aa (ak 0) (aa (bF mL) ao))) (aa (aM (aY FK ho_ h0_ hn_ hf_) x5 (aa (ak 0) (aa (bF mL) ao))) (aa (aM (aY FK ho_ h0_ hn_ hf_) x5 (aa (ak 0) (aa (bF mL) ao))) (aa (aM (aY FK ho_ h0_ hn_ hf_) x5 (aa (ak 0) (aa (bF mL) ao))) ao)))))))
  (au (aH (i:=1) nd rfl (Or.inl rfl) (aK bu (ak 1) (bJ (aa (aM (aY FK ho_ h0_ hn_ hf_) x5 (aa (ak 0) (aa (bF mL) ao))) (aa (aM (aY FK ho_ h0_ hn_ hf_) x5 (aa (ak 0) (aa (bF mL) ao))) (aa (aM (aY FK ho_ h0_ hn_ hf_) x5 (aa (ak 0) (aa (bF mL) ao))) (aa (aM (aY FK ho_ h0_ hn_ hf_) x5 (aa (ak 0) (aa (bF mL) ao))) ao)))))))
  (au (aH (i:=1) nd rfl (Or.inl rfl) (aK bu (ak 1) (bJ (aa (aM (aY FK ho_ h0_ hn_ hf_) x5 (aa (ak 0) (aa (bF mL) ao))) (aa (aM (aY FK ho_ h0_ hn_ hf_) x5 (aa (ak 0) (aa (bF mL) ao))) (aa (aM (aY FK ho_ h0_ hn_ hf_) x5 (aa (ak 0) (aa (bF mL) ao))) (aa (aM (aY FK ho_ h0_ hn_ hf_) x5 (aa (ak 0) (aa (bF mL) ao))) ao)))))))
  (au (aH (i:=1) nd rfl (Or.inl rfl) (aK bu (ak 1) (bJ (aa (aM (aY FK ho_ h0_ hn_ hf_) x5 (aa (ak 0) (aa (bF mL) ao))) (aa (aM (aY FK ho_ h0_ hn_ hf_) x5 (aa (ak 0) (aa (bF mL) ao))) (aa (aM (aY FK ho_ h0_ hn_ hf_) x5 (aa (ak 0) (aa (bF mL) ao))) (aa (aM (aY FK ho_ h0_ hn_ hf_) x5 (aa (ak 0) (aa (bF mL) ao))) ao)))))))
  (au (cu (DW.dt (nR (eN (b7 (aM (aY FK ho_ h0_ hn_ hf_) x5 (aa (ak 0) (aa (gG (T := "ValueError") x4) ao))) (λz=>rfl))) (mO (b7 (aM (aY FK ho_ h0_ hn_ hf_) x5 (aa (ak 0) (aa (cT (aa (gG (T := "LookupError") x1) (aa (gG (T := "TypeError") x3) (aa (gG (T := "ArithmeticError") x0) (aa (gG (T := "RuntimeError") x2) ao))))) ao))) (λz=>rfl)))))
  (aA (aL (cT (aa bz ao))))
  bA)
  (au (aH (i:=2) nd rfl (Or.inl rfl) (bJ (aa bz (aa bz (aa bz (aa bz (aa bz (aa bz (aa bz (aa bz (aa bz (aa bz (aa bz ao)))))))))))))
  (au (aH (i:=2) nd rfl (Or.inl rfl) (aK bu (ak 2) (bJ (aa bz (aa bz (aa bz (aa bz (aa bz (aa bz (aa bz (aa bz (aa bz ao))))))))))))
  (au (cu (bh (ir hr.units) (km XQ F.slot_list_count F.type_list_count Hn (ak 1) (aa fX ao)) az)
  (aA (aL (cT (aa bz ao))))
  bA)
  (au (aH (i:=3) nd rfl (Or.inl rfl) (bx bU (ak 2) (km XQ F.slot_list_index F.type_list_index Ho (ak 1) (aa fX ao))))
  (au (cu (bh (cH hr.units) (ak 3) bz)
  (aA (aL (cT (aa (ak 3) (aa tH (aa tH ao))))))
  bA)
  (aA (aL (SX (bh (cH hr.units) (ak 3) bz) (cT (aa (ak 3) (aa tH ao))) (cT (aa (ak 3) ao))))))))))))))))⟩
noncomputable def pL:Addr->Str->aj->DM Fl:=(jM).1
abbrev fO:Stmt:=top 58
def qz:Sc ["_law_call", "_law_e"] ["_law_call"] fO:=cM
@[simp] noncomputable def lN(W:Str->D):{b:DM D->aj->DM Fl // ∀{P w K mg base f ae A outer s H E ρ g th k F0} (XT:XTab K mg vD F0) (x6:Gc mg "FadeError" F0) (FG:FlgD P w K mg base 0 "_law_flags" vD W) (hk:1≤k) (ht:ThD P w K mg base k outer s H ρ g th) (hq:Rm k A "_law_said" fO s f ae),ASs (bV P w K mg base ["_law_call", "_law_e"] "_law_said" (defScope fO) f ae A outer s H E) E (PQ 0 g ρ H) (defBody fO) (b th)}:=
 ⟨_,fun XT x6 FG hk ht hq=>have hr:=Room.mono hq hk;have nd:=qz.nd;(Bk (Qm 2 (fh:=fun c=>fun _=>pure (Fl.rt (W c))) (i:=1) XT rfl rfl rfl rfl rfl nd rfl rfl x6 (fun pins_ Eh_=>(Bk (Ql (MF pe_str (Jo hq (Tf rfl rfl rfl) ht)))))
  (λc C y oe hc_ hm_ ho_ xa_=>(Nt (i:=1) hr FG hc_ hm_ ho_)) (λy c M r h=>by rw[<-h];simp[b8,UJ,SJ])))⟩
noncomputable def rT(W:Str->D):DM D->aj->DM Fl:=(lN W).1
abbrev fD:Stmt:=top 59
def lw:Sc E9 ["_law_walk", "_law_shuts"] fD:=cM
local macro_rules | `(tactic| trivial)=>`(tactic| (repeat' apply And.intro)<;>first | exact True.intro | rfl | exact⟨_,rfl⟩ | exact Or.inl rfl)
@[simp] noncomputable def iw(x7 x8 x9:Fn)(x10:DM D->DM D):{b // ∀{P w K mg base f ae A outer s H E c_ P_} (x11:DefD P w K mg base 6 "turn_of" F3 x7) (x12:DefD P w K mg base 7 "sides_of" F3 x8) (x13:MethD P w K mg base 1 "Walk" "__len__" "Walk.__len__" cQ ["self"] x9) (x14:Nn mg "len") (x15:Nn mg "list") (x16:Nn mg "range") (rf:Nn mg "repr") (x18:Nn mg "tuple") (x19:HrdD P w K mg base (7+1) "_law_said" x10) (TB:TabD mg base c_ P_) (hC:ae=.ref c_) (hP:∃ps,H P_=some (.tbl ps)) (hr:Rm 9 A "_law_refused" fD s f ae),Ds P w K mg base E9 "_law_refused" fD f ae A outer s H E b}:=
 ⟨_,fun x11 x12 x13 x14 x15 x16 rf x18 x19 TB hC hP hr=>have nd:=lw.nd;(au (aH (i:=2) nd rfl (Or.inl rfl) (bJ (aa Qz (aa az (aa (cT ao) (aa (cT (aa (aM (kj x13 hr aQ (fun _ _ _ _ _ _ us hl=>by obtain⟨_,rfl⟩:=tX hl;rfl)) x14 (aa (ak 0) ao)) ao)) (aa (cT (aa (Gq az) ao)) (aa bz (aa (bJ (aa az ao)) (aa (cT (aa fX ao)) (aa (cT (aa (cT (aa az ao)) ao)) (aa (Gu rfl x18 x16 (aa (aM (kj x13 hr aQ (fun _ _ _ _ _ _ us hl=>by obtain⟨_,rfl⟩:=tX hl;rfl)) x14 (aa (ak 0) ao)) ao)) (aa (cT (aa az ao)) (aa (cT (aa az (aa az ao))) ao))))))))))))))
  (au (aH (i:=2) nd rfl (Or.inl rfl) (aK bu (aK bu (aK bu (ak 2) (o7 "_law_shut_here" [] [] (cA (ak 1)) (fH (T := "list") Dq x15 (aa (ak 0) ao)))) (o7 "_law_shut_here" [] [] (cA (ak 1)) (QC (ak 0)))) (o7 "_law_shut_here" [] [] (cA (ak 1)) (aK bu (ak 0) (ak 0)))))
  (au (cJ 0 Xj rfl (pW (ak 2)) (aP (i:=3) nd rfl (Or.inr rfl))
  (aA (cu (bh Ou (aM (jt hr.gd hr.units) rf (aa (ak 3) ao)) (o7 "_law_shut_here" [] [] (cA (ak 1)) (aM (jt hr.gd hr.units) rf (aa (ak 0) ao))))
  (au (aH (i:=4) nd rfl (Or.inl rfl) (jA (aa (Gp [0,3] ["_law_walk", "_law_bad"] x19 hr aQ TB hC hP (λhr=>(aF x11 hr LQ (aa (ak 0) (aa (ak 1) ao)))) ⟨⟨rfl,rfl,rfl,by decide +kernel,by decide,yQ rfl,by decide +kernel⟩,rfl,Ae (by trivial),rfl,yO (by trivial)⟩) ao)))
  (au (jB (km XQ YH YM mZ (ak 4) (aa (Gp [0,3] ["_law_walk", "_law_bad"] x19 hr aQ TB hC hP (λhr=>(aF x12 hr LQ (aa (ak 0) (aa (ak 1) ao)))) ⟨⟨rfl,rfl,rfl,by decide +kernel,by decide,yQ rfl,by decide +kernel⟩,rfl,Ae (by trivial),rfl,yO (by trivial)⟩) ao)))
  (aA (cu (bh (Rp hr.units) (ak 4) (aK Ck (bJ (aa (cT (aa bz ao)) ao)) az))
  (aA (aL fX))
  bA))))
  bA)))
  (aA (aL fX)))))⟩
noncomputable def mJ(x7 x8 x9:Fn)(x10:DM D->DM D):aj->DM Fl:=(iw x7 x8 x9 x10).1
abbrev xF:Stmt:=top 60
def Ij:Sc D9 ["_law_script"] xF:=cM
@[simp] noncomputable def Eo(x20 x21 x22 x23 x24 x25 x8 x7 x26:Fn)(x27:Fn):{b // ∀{P w K mg base f ae A outer s H E x28} (x29:DefD P w K mg base 1 "_law_cell_at" F7 x20) (x30:DefD P w K mg base 1 "_law_pen_of" ["_law_cell"] x21) (x31:DefD P w K mg base 3 "_law_rows" ["_law_pen", "_law_most"] x22) (x32:DefD P w K mg base 2 "_law_shut" G2 x23) (x33:DefD P w K mg base 4 "_law_sides" E5 x24) (x34:DefD P w K mg base 3 "_law_turn" E5 x25) (x12:DefD P w K mg base 7 "sides_of" F3 x8) (x11:DefD P w K mg base 6 "turn_of" F3 x7) (x35:ClsD P w K mg base 5 "Walk" x26) (x16:Nn mg "range") (rf:Nn mg "repr")  (x36:DefT P w K mg base 10 "_law_refused" ["_law_walk", "_law_shuts"] x28 x27) (x37:∃qs,H x28=some (.tbl qs)) (hr:Rm 10 A "law" xF s f ae),Ds P w K mg base D9 "law" xF f ae A outer s H E b}:=
 ⟨_,fun x29 x30 x31 x32 x33 x34 x12 x11 x35 x16 rf x36 x37 hr=>have nd:=Ij.nd;(au (cJ 0 PassesOwn.leaving rfl (pW (aK bu (bJ (aa (aF x29 hr aQ (aa (ak 0) (aa az ao))) ao)) (Gr (ak 0) (Bt az) (Bt az)))) (aP (i:=1) nd rfl (Or.inl rfl))
  (au (aH (i:=2) nd rfl (Or.inl rfl) (aF x30 hr aQ (aa (ak 1) ao)))
  (aA (cJ 0 Xj rfl (bK rfl x16 (aa az ao)) (aP (i:=3) nd rfl (Or.inl rfl))
  (au (aH (i:=4) nd rfl (Or.inl rfl) (aF x31 hr aQ (aa (ak 2) (aa az ao))))
  (au (uM (i:=5) (j:=6) rfl nd rfl rfl (by decide) rfl rfl (aa (Nj x35 hr aQ (aa (ak 4) ao)) (aa (aF x32 hr aQ (aa (ak 4) ao)) ao)) rfl)
  (au (cJ 0 Xj rfl (cA (ak 6)) (aP (i:=7) nd rfl (Or.inl rfl))
  (au (aH (i:=8) nd rfl (Or.inl rfl) (bJ (aa (aF x34 hr aQ (aa (ak 4) (aa (ak 7) ao))) (aa (aF x33 hr aQ (aa (ak 4) (aa (ak 7) ao))) ao))))
  (aA (cJ 0 Xj rfl (bK rfl x16 (aa az ao)) (aP (i:=9) nd rfl (Or.inl rfl))
  (aA (cu (bh (ir hr.units) (aM (jt hr.gd hr.units) rf (aa (bJ (aa (aF x11 hr aQ (aa (ak 5) (aa (ak 7) ao))) (aa (aF x12 hr aQ (aa (ak 5) (aa (ak 7) ao))) ao))) ao)) (aM (jt hr.gd hr.units) rf (aa (ak 8) ao)))
  (aA (aL fX))
  bA))))))
  (aA (cu (eN (b7 (JG x36 x37 hr aQ (aa (ak 5) (aa (ak 6) ao))) (λz=>rfl)))
  (aA (aL fX))
  bA)))))))))
  (aA (aL fX)))⟩
noncomputable def Lh(x20 x21 x22 x23 x24 x25 x8 x7 x26:Fn)(x27:Fn):aj->DM Fl:=(Eo x20 x21 x22 x23 x24 x25 x8 x7 x26 x27).1
end K
namespace K
open PySem L2 L3 N10
def bR:(∀(α:Type) (a:α) (l:List α),(a::l)[0]?=some a)/\(∀(α:Type) (a:α) (l:List α) (i:Nat),(a::l)[i+1]?=l[i]?)/\(∀(α:Type) (x:Option α),(some x).join=x)/\(∀(α:Type) (a:α),(opt (some a):DM α)=pure a)/\∀(α β:Type) (a:α) (f:α->DM β),((pure a:DM α)>>=f)=f a:=⟨λz z z=>rfl,λz z z z=>rfl,λz z=>rfl,λz z=>dY _,λz z z z=>aq _ _⟩
def cD:(∀(α:Type) (a b:α) (l:List α) (i:Nat),(a::l).set (i+1) b=a::l.set i b)/\∀(α:Type) (a b:α) (l:List α),(a::l).set 0 b=b::l:=⟨λz z z z z=>rfl,λz z z z=>rfl⟩
noncomputable def xW:=aD 1 1 uD
noncomputable def Bg:=aD 2 2 (oZ xW)
def G4(n:Nat):xW [nD n]=pure (.bl true):=by
 have a:(rd (ig [nD n,.ty "int"]):DM D)=pure (.bl true):=xx (t := "int") (λz=>rfl) (by decide)
 have b:(rd (ig [nD n,.ty "bool"]):DM D)=pure (.bl false):=xx (t := "int") (λz=>rfl) (by decide)
 simp[xW,uD,a,b]
def Qn(hl:l.length<=1000):Bg [nT l,.int (l.length:Int)]=pure (.bl true):=by
 have a:(rd (ig [nT l,.ty "tuple"]):DM D)=pure (.bl true):=xx (t := "tuple") (λz=>rfl) (by decide)
 have ln:(rd (ik [nT l]):DM D)=pure (.int (l.length:Int)):=by simp[nT]
 simp[Bg,oZ,a,ln,aW,cz];show (dj (bB _ _ _ (l.map nD) _ _)>>=_)=_;rw[SN (λz=>true) (λz=>.bl true) (by simpa using W0 hl (by decide)) (λz z=>rfl) (λd hd z=>?_) (k':=λl=>rd (pJ [.lst l])) (λz=>rfl)]
 ·have:((l.map nD).filter (λz=>true)).map (λz=>D.bl true)=(l.map λz=>true).map D.bl:=by rw[aaI.mpr (λz z=>rfl),W4,W4];rfl
  have q:(l.map λz=>true).all id=true:=by rw[Yh];intro x hx;obtain⟨_,_,rfl⟩:=WQ.mp hx;rfl
  rw[this,qj,q]
 ·obtain⟨n,_,rfl⟩:=WQ.mp hd;have:=G4 n;unfold nD at this ⊢
  simp[this]
theorem CV:∀ {l:C0}{n:Nat},n∈l->n<=l.sum
 |a::l,n,h=>by
   rw[aaU];rcases Wz.mp h with rfl | h
   ·lia
   ·have:=CV h;lia
noncomputable def xR:=aD 2 2 gY
def Qq(cs:C1)(k:Nat):∃ c:Int,xR [.scr cs,nD k]=pure (.int c):=by
 by_cases h:k<cs.length
 ·have e:decide ((k:Int)<(cs.length:Int))=true:=WY (by lia)
  have ix:(rd (dC (.scr cs) (.int (k:Int))):DM D)=pure (.int cs[k]):=cB λM=>by show (atI cs (k:Int)).map _=_;rw[pK (Wl h)];rfl
  refine⟨cs[k],?_⟩;simp[xR,gY,nD,e,ix,h]
 ·have e:decide ((k:Int)<(cs.length:Int))=false:=Xo (by lia)
  refine⟨0,?_⟩;simp[xR,gY,nD,e,h]
def aB(h:∀K:Fl->DM Fl,(∀δ',K (.nx δ')=g δ')->Rn (f δ>>=K) M Q):Rn (qG f g δ) M Q:=by
 have:=h (λr=>match r with | .nx δ'=>g δ' | r=>Pure.pure r) (λz=>rfl)
 exact this
structure WK(R:A6)(W:Nat):Prop where
 n1:1<=R.length
 n25:R.length<=25
 row:∀r∈R,r.length=R.length
 sum:∀r∈R,r.sum=W
 w1:1<=W
def WK.head{R:A6}{W:Nat}(h:WK R W):gr R 0∈R:=gr_mem (by have:=h.n1;lia)
noncomputable def Fo:=aD 2 2 (uB Bg)
noncomputable def Fp:=aD 1 2 (kh Fo)
def MT(h:l.length=n)(hl:n<=1000):Bg [nT l,nD n]=pure (.bl true):=by subst h;exact Qn hl
def nG(n:Nat):(rd (pJ [.lst (List.replicate n (.bl true))]):DM D)=pure (.bl true):=by have:=qj (List.replicate n true);rw[List.map_replicate]at this;rw[this];simp
def kY(l:List α)(d:D):(l.map λz=>d)=List.replicate l.length d:=List.map_const' ..
def Qi{R:A6}{W:Nat}(h:WK R W):Fo [nM R,nD R.length]=pure (.bl true):=by
 have:=h.n25;simp[Fo,uB,HQ,nq,H9,HH,aW,cz];rw[fj nT (λz=>.bl true) (by lia) (λr hr=>by simp[MT (h.row r hr) (by lia)])]
 rw[aq,kY,nG]
def Qx{R:A6}{W:Nat}(h:WK R W):Fp [nM R]=pure (.bl true):=by
 have h1:=h.n1;have h2:=h.n25;have e1:(rd (BV (.int 1) (nD R.length)):DM D)=pure (.bl true):=by rw[show D.int 1=nD 1 from rfl,zL,WY h1]
 have e2:(rd (BV (nD R.length) (.int 25)):DM D)=pure (.bl true):=by rw[show D.int 25=nD 25 from rfl,zL,WY h2]
 have e3:(rd (GK (nD W) (.int 1)):DM D)=pure (.bl true):=by rw[show D.int 1=nD 1 from rfl,HN,WY h.w1]
 have e4:∀r∈R,(rd (dg (nD r.sum) (nD W)):DM D)=pure (.bl true):=λr hr=>by rw[m9,h.sum r hr];simp
 simp[Fp,kh,HQ,nq,e1,e2,Qi h,HX (R:=R) (by lia),h.sum _ h.head]
 simp[e3,HH,aW,cz];rw[fj nT (λz=>.bl true) (by lia) (λr hr=>by simp[e4 r hr])]
 rw[aq,kY,nG]
noncomputable def aV(R:A6)(W:Nat):D:=.obj "Walk" ["rows", "whole"] [nM R,nD W]
noncomputable def Fin:=aD 2 2 (j9 Fp)
def CK(hl:ns.length=vs.length)(hz:ns.length<1000):xH "Walk" f (.ref M.length) d (M++[.ins "Walk" ns vs])=some (.ok (),M++[.ins "Walk" (putN f ns) (jL f d ns vs)]):=by
 unfold xH;simp[hl]
 lia
def pZ{R:A6}{W:Nat}(h:WK R W)(M:Mo):Fin (.ref M.length::[nM R]) (M++[.ins "Walk" [] []])=some (.ok .non,M++[.ins "Walk" ["rows", "whole"] [nM R,nD W]]):=by
 have h1:=h.n1;have go:Rn (Fin (.ref M.length::[nM R])) (M++[.ins "Walk" [] []]) λd M'=>d=.non/\M'=M++[.ins "Walk" ["rows", "whole"] [nM R,nD W]]:=by
  simp[Fin,j9,Qx h,HX (R:=R) (by lia)]
  refine Rn.run (CK rfl (by decide)) ?_
  rw[h.sum _ h.head];refine Rn.run (CK rfl (by decide)) ?_
  exact Rn.pure ⟨rfl,rfl⟩
 obtain⟨d,M',e,rfl,rfl⟩:=go;exact e
open Classical in
noncomputable def xQ(ds:List D):DM D:=if h:∃p:A6×Nat,WK p.1 p.2/\ds=[nM p.1] then pure (aV (choose h).1 (choose h).2) else stuck
def Su{R:A6}{W:Nat}(h:WK R W):xQ [nM R]=pure (aV R W):=by
 have q:∃p:A6×Nat,WK p.1 p.2/\[nM R]=[nM p.1]:=⟨(R,W),h,rfl⟩;unfold xQ;rw[dif_pos q];obtain⟨a,b⟩:=Classical.choose_spec q;generalize Classical.choose q=p at a b;have e:R=p.1:=Ri (by simpa using b)
 have w:W=p.2:=by have:=h.sum _ h.head;rw[<-this,e];exact a.sum _ a.head
 rw[<-e,<-w]
def Sv:∀ds M r',xQ ds M=some r'->Qc "Walk" Fin ds M r':=by
 intro ds M r' e;unfold xQ at e;split at e
 ·rename_i q;obtain⟨a,b⟩:=Classical.choose_spec q;generalize Classical.choose q=p at a b e;subst b;cases e;refine .inl ⟨["rows", "whole"],[nM p.1,nD p.2],pZ a M,λd hd=>?_,rfl⟩
  rcases Wz.mp hd with rfl | hd
  ·exact .inl (by simp)
  ·exact .inr ⟨p.2,by simpa[nD] using hd⟩
 ·cases e
def yK(R:A6)(W:Nat):(rd (Ea "Walk" "rows" (aV R W)):DM D)=pure (nM R):=cB λM=>by simp[Ea,aV]
noncomputable def jZ:=aD 1 1 mH
def Q9(R:A6)(W:Nat):jZ [aV R W]=pure (nD R.length):=by simp[jZ,mH,yK,nq]
def mY{R:A6}{W:Nat}(h:R.length<=25):yZ "Walk" jZ [aV R W]=pure (nD R.length):=by
 have e:yZ "Walk" jZ [aV R W]=(if ("Walk":Str) = "Walk" then jZ [aV R W]>>=Dv else stuck):=rfl
 rw[e,Wq rfl,Q9,aq];have q:(0:Int)<=(R.length:Int)/\(R.length:Int)<2^63:=⟨by lia,by lia⟩
 unfold Dv nD;dsimp only;rw[Wq q]
def WK.le{R:A6}{W:Nat}(h:WK R W){r:C0}(hr:r∈R){n:Nat}(hn:n∈r):n<=W:=by rw[<-h.sum r hr];exact CV hn
def WK.at_le{R:A6}{W:Nat}(h:WK R W){r:C0}(hr:r∈R)(y:Nat):ga r y<=W:=by
 by_cases hy:y<r.length
 ·exact h.le hr (pX hy)
 ·rw[QT (by lia)];exact X3 _
def O1(h:∀M,Rn m M λd M'=>d=v/\M'=M):m=pure v:=by funext M;obtain⟨d,M',e,rfl,rfl⟩:=h M;exact e
def Ur:∀l:C0,S l.length (ga l)=l.sum:=λl=>by
 rw[<-FN];congr 1;apply aao;intro k;by_cases hk:k<l.length
 ·rw[WM,XJ hk,Wl hk,Z2,qW hk]
 ·rw[Xx (by simp;lia),Xx (by lia)]
def GR(b:Bool):(rd (Ec [.bl b]):DM D)=pure (nD (if b then 1 else 0)):=by cases b<;>rfl
def Pk(h:i<l.length):(l.set i v).sum + ga l i=l.sum + v:=by
 induction l generalizing i with
 |nil=>simp at h
 | cons a l ih=>
   cases i with
   |zero=>simp[ga];lia
   |succ i=>
     have:=ih (i:=i) (by simpa using h)
     rw[List.set_cons_succ,aaU,aaU];have e:ga (a::l) (i+1)=ga l i:=rfl;rw[e];lia
def oG(h:((List.range n).map nD)[j]?=some d):j<n/\d=nD j:=by
 have hj:j<n:=by have:=(Wj.mp h).1;simpa using this
 rw[WM,XJ hj]at h;exact⟨hj,(Ws h).symm⟩
def T5(ha:a.length=n):a.sum=S n (ga a):=by rw[<-ha,Ur]
def HW(h:i<l.length):(rd (dC (.lst (l.map nD)) (nD i)):DM D)=pure (nD (ga l i)):=Tr (i:=i) (by rw[WM,Wl h,qW h];rfl)
def fF:QR k tg fb (.fix l) δ=forL tg fb l δ:=rfl
def lA:cN fg ft fb (.fix ds) δ l=bB fg ft fb ds δ l:=rfl
def Gd(h:i.natAbs<2^1000):Builtin.Int.intBits i<=1000:=by
 unfold Builtin.Int.intBits;split
 ·exact X3 _
 ·rename_i h0;have:i.natAbs≠0:=by intro z;apply h0;simp;lia
  exact (Nat.log2_lt this).mpr h
def Od(h:i.natAbs<2^1000)(h':j.natAbs<2^1000):fY i j=true:=by
 unfold fY;have h1:=Gd h;have h2:=Gd h';have:Builtin.Int.intTooBig ((Builtin.Int.intBits i:Int)+(Builtin.Int.intBits j:Int))=false:=by
  unfold Builtin.Int.intTooBig;refine Xo λq=>?_
  have hb:2000<=bitsLine:=by decide
  lia
 simp[this]
def zO(h:a<2^1000)(h':b<2^1000):(rd (n6 (nD a) (nD b)):DM D)=pure (nD (a*b)):=by unfold nD;rw[Mj (Od (by simpa using h) (by simpa using h')),Int.natCast_mul]
def vW(ha:a<2^62)(hb:b<2^62):uh [nD a,nD b]=some (.fix ((List.range (b-a)).map λk=>nD (a+k))):=by
 have e:∀x:Nat,x<2^62->oH (x:Int)=true:=λx h=>by unfold oH;simp;lia
 have e2:((b:Int)-(a:Int)).toNat=b-a:=by lia
 simp[uh,nD,e a ha,e b hb,e2,oF]
def Mz(h:∀K:Fl->DM Fl,(∀δ',K (.nx δ')=g δ')->(∀d,K (.rt d)=Pure.pure (.rt d))->Rn (f δ>>=K) M Q):Rn (qG f g δ) M Q:=by
 have:=h (λr=>match r with | .nx δ'=>g δ' | r=>Pure.pure r) (λz=>rfl) (λz=>rfl)
 exact this
noncomputable def Ft:=aD 1 1 rQ
def Hu(h:s<2^40):∃t:Nat,t<2147483629/\Ft [nD s]=pure (nD t):=by
 refine⟨(((s+7919)%2147483647)*((s+7919)%2147483647)+48271*((s+7919)%2147483647)+12345)%2147483629,Yj _ (by decide),?_⟩
 have a1:(rd (cX (nD s) (.int 7919)):DM D)=pure (nD (s+7919)):=iR s 7919;have a2:(rd (je (nD (s+7919)) (.int 2147483647)):DM D)=pure (nD ((s+7919)%2147483647)):=gB (b:=2147483647) (by decide)
 have lt:=Yj (s+7919) (show 2147483647 > 0 by decide)
 generalize (s+7919)%2147483647=x at a2 lt;have a3:(rd (n6 (nD x) (nD x)):DM D)=pure (nD (x*x)):=H8 (by lia)
 have a4:(rd (n6 (.int 48271) (nD x)):DM D)=pure (nD (48271*x)):=H8 (a:=48271) (by lia)
 have a5:∀a b:Nat,(rd (cX (nD a) (nD b)):DM D)=pure (nD (a+b)):=λa b=>iR a b
 have a6:(rd (cX (nD (x*x+48271*x)) (.int 12345)):DM D)=pure (nD (x*x+48271*x+12345)):=iR _ 12345;have a7:(rd (je (nD (x*x+48271*x+12345)) (.int 2147483629)):DM D)=pure (nD ((x*x+48271*x+12345)%2147483629)):=gB (b:=2147483629) (by decide)
 simp[Ft,rQ,a1,a2,a3,a4,a5,a6,a7]
noncomputable def gm(p:Nat)(M:Mo):Prop:=∃a b c:Nat,c<2^40/\M[p]?=some (.lst [nD a,nD b,nD c])
def gm.lt(h:gm p M):p<M.length:=by obtain⟨a,b,c,_,e⟩:=h;exact (Wj.mp e).1
def gm.sb(h:gm p M)(s:Sb q M M')(hq:p≠q):gm p M':=by obtain⟨a,b,c,hc,e⟩:=h;exact⟨a,b,c,hc,s.at hq e⟩
noncomputable def xZ:=aD 1 2 oY
def OD(c:Int)(M:Mo):Rn (xZ [.int c]) M λd M'=>d=.ref M.length/\gm M.length M':=by
 unfold xZ oY jh;walk_at "g";walk_at "c"
 have p18:(rd (KQ (.int 10) (.int 18)):DM D)=pure (.int 1000000000000000000):=by rw[TF (by decide)];rfl
 have st:aZ 2 [D.int c]=[some (.int c),none]:=rfl;rw[st];simp;have en:D.int (if c < -c then -c else c)=nD (if c < -c then -c else c).toNat:=by unfold nD;congr 1;split<;>lia
 rw[en];generalize (if c < -c then -c else c).toNat=n
 walk_at "h";have ge:(rd (GK (nD n) (.int 1000000000000000000)):DM D)=pure (.bl (decide (1000000000000000000<=n))):=HN n 1000000000000000000;have md:(rd (je (nD n) (.int 1000003)):DM D)=pure (nD (n%1000003)):=gB (b:=1000003) (by decide)
 simp[p18,ge,GR,md];refine Rn.fM (by simp) ?_
 have lt:=Yj n (show 1000003 > 0 by decide)
 exact Rn.pure ⟨_,rfl,rfl,n,(if 1000000000000000000<=n then 1 else 0),n%1000003,by lia,by simp⟩
noncomputable def Fq:=aD 2 3 (rP Ft)
def mK(h:gm p M)(h0:0<m)(h1:m<2 ^ 60):Rn (Fq [.ref p,nD m]) M λd M'=>∃ t:Nat,t<m/\d=nD t/\gm p M'/\Sb p M M':=by
 obtain⟨a,b,c,hc,e⟩:=h;have hp:=(Wj.mp e).1;unfold Fq rP lL;walk_at "g";have st:aZ 3 [D.ref p,nD m]=[some (.ref p),some (nD m),none]:=rfl;rw[st];have i0:dC (.ref p) (.int 0) M=some (nD a):=jJ (i:=0) e rfl;have i1:dC (.ref p) (.int 1) M=some (nD b):=jJ (i:=1) e rfl;have i2:dC (.ref p) (.int 2) M=some (nD c):=jJ (i:=2) e rfl;have eb:(rd (dg (nD b) (.int 1)):DM D)=pure (.bl (decide (b=1))):=m9 b 1;have ga:(rd (mU (nD a) (.int 0)):DM D)=pure (.bl (decide (0<a))):=qm a 0;refine Mz λK hK hR=>?_
 have rest:Rn (K (.nx [some (.ref p),some (nD m),none])) M λr M'=>∃d,r=.rt d/\∃t:Nat,t<m/\d=nD t/\gm p M'/\Sb p M M':=by
  rw[hK];clear hK hR K;walk_at "c"
  simp;refine Rn.bindRd _ i2 ?_;obtain⟨t1,l1,e1⟩:=Hu hc;have a7:(rd (cX (nD t1) (.int 7)):DM D)=pure (nD (t1+7)):=iR t1 7;obtain⟨t2,l2,e2⟩:=Hu (s:=t1+7) (by lia)
  simp only[e1,aq,a7,e2];refine Rn.run (rH (i:=2) e (by simp)) ?_
  walk_at "h";simp;have at2:(M.set p (.lst [nD a,nD b,nD t2]))[p]?=some (.lst [nD a,nD b,nD t2]):=W8 hp;refine Rn.bindRd (nD t2) (jJ (i:=2) at2 rfl) ?_;have dv:(rd (uP (nD t2) (.int 64)):DM D)=pure (nD (t2 / 64)):=zJ (b:=64) (by decide) (by decide)
  simp[dv,gB (a:=t2 / 64) (b:=m) h0];exact Rn.pure ⟨_,rfl,_,Yj _ h0,rfl,⟨a,b,t2,by lia,at2⟩,Sb.set⟩
 simp;refine Rn.bindRd _ i1 ?_;simp only[eb,aq,fu];by_cases hb:b=1
 ·simp[hb];refine Rn.bindRd _ i0 ?_;simp only[ga,aq,fu];by_cases ha:0<a
  ·simp[ha];refine Rn.bindRd _ i0 ?_;simp[gB (a:=a) (b:=m) h0];refine Rn.bindRd _ i0 ?_;simp[zJ (a:=a) (b:=m) h0 (Nat.lt_trans h1 (by decide))]
   refine Rn.run (rH (i:=0) e (by simp)) ?_
   have at2:(M.set p (.lst [nD (a / m),nD b,nD c]))[p]?=some (.lst [nD (a / m),nD b,nD c]):=W8 hp;simp;rw[hR];exact Rn.pure ⟨_,rfl,_,Yj _ h0,rfl,⟨_,b,c,hc,at2⟩,Sb.set⟩
  ·simp[ha];exact rest
 ·simp[hb];exact rest
inductive Rch(N:A6)(x:Nat):Nat->Prop
 |here:Rch N x x
 |step {y z:Nat}:Rch N x y->z∈gr N y->Rch N x z
noncomputable def pD:=aD 2 6 (eZ 60)
def S6:∀ds M r,pD ds M=some r->∃n,aD 2 6 (eZ n) ds M=some r:=λz z z h=>⟨60,h⟩
structure Bfs(N:A6)(s n:Nat)(ks q:C0):Prop where
 nd:ks.Nodup
 lt:∀x∈ks,x<n
 rch:∀x∈ks,Rch N s x
 st:s∈ks
 sub:∀x∈q,x∈ks
 done:∀x∈ks,x∉q->∀y∈gr N x,y∈ks
def Bfs.all(b:Bfs N s n ks [])(x:Nat):x∈ks ↔ Rch N s x:=by
 refine⟨b.rch x,λh=>?_⟩
 induction h with
 |here=>exact b.st
 |step h1 h2 ih=>exact b.done _ ih (by simp) _ h2
def n8{n:Nat}{ks:C0}(nd:ks.Nodup)(lt:∀x∈ks,x<n):ks.length<=n:=by
 have:=List.Nodup.length_le_of_subset nd (l₂:=List.range n) λx hx=>Wr.mpr (lt x hx)
 rwa [W7]at this
def HS(h:x<N.length):(rd (dC (.lst (N.map nT)) (nD x)):DM D)=pure (nT (gr N x)):=cB λM=>by
 show (aN (.lst (N.map nT)) M).bind (λl=>atI l (x:Int))=_
 show atI (N.map nT) (x:Int)=_;unfold atI;have e:ixN (N.map nT).length (x:Int)=some x:=by rw[Wm];exact G5 h
 rw[e];show (N.map nT)[x]?=_;rw[WM,Wl h];unfold gr;rw[Xa,Wl h];rfl
structure FsS(M0:Mo)(ks vs q:C0)(M:Mo):Prop where
 dic:M[M0.length]?=some (.dic (kD ks) (vs.map nD))
 que:M[M0.length+1]?=some (.lst (q.map nD))
 len:ks.length=vs.length
 old:∀(j:Nat) (o:DO),M0[j]?=some o->M[j]?=some o
def FsS.setQ(f:FsS M0 ks vs q M)(q':C0):FsS M0 ks vs q' (M.set (M0.length+1) (.lst (q'.map nD))):=
 ⟨by rw[List.getElem?_set_ne (by lia)];exact f.dic,by rw[List.getElem?_set_self (List.getElem?_eq_some_iff.mp f.que).1],f.len,fun j o e=>by have:=(Wj.mp e).1;rw[Xh (by lia)];exact f.old j o e⟩
def FsS.setK(f:FsS M0 ks vs q M)(x v:Nat):FsS M0 (ks++[x]) (vs++[v]) q (M.set M0.length (.dic (kD (ks++[x])) ((vs++[v]).map nD))):=
 ⟨by rw[List.getElem?_set_self (List.getElem?_eq_some_iff.mp f.dic).1],by rw[List.getElem?_set_ne (by lia)];exact f.que,by simp[f.len],fun j o e=>by have:=(Wj.mp e).1;rw[Xh (by lia)];exact f.old j o e⟩
structure Mid(N:A6)(s n x m i:Nat)(ks q:C0):Prop where
 nd:ks.Nodup
 lt:∀y∈ks,y<n
 rch:∀y∈ks,Rch N s y
 st:s∈ks
 me:x∈ks
 sub:∀y∈q,y∈ks
 done:∀y∈ks,y∉q->y≠x->∀z∈gr N y,z∈ks
 seen:∀z∈(gr N x).take i,z∈ks
 ms:q.length+(n-ks.length)+1=m
def Mid.fin(h:Mid N s n x m i ks q)(hi:(gr N x).length<=i):Bfs N s n ks q:=
 ⟨h.nd,h.lt,h.rch,h.st,h.sub,fun y hy hq z hz=>by
  by_cases e:y=x
  ·subst e;exact h.seen z (by rw[XD hi];exact hz)
  ·exact h.done y hy hq e z hz⟩
def Mid.skip(h:Mid N s n x m i ks q)(hy:(gr N x)[i]?=some y)(hk:y∈ks):Mid N s n x m (i+1) ks q:=
 ⟨h.nd,h.lt,h.rch,h.st,h.me,h.sub,h.done,fun z hz=>by
  rw[Zw,hy]at hz;rcases WF.mp hz with z1 | z1
  ·exact h.seen z z1
  ·simp at z1;exact z1 ▸ hk,h.ms⟩
def Mid.add{N:A6}{s n x m i y:Nat}{ks q:C0}(h:Mid N s n x m i ks q)(hy:(gr N x)[i]?=some y)(hk:y∉ks)(hn:y<n):Mid N s n x m (i + 1) (ks++[y]) (q++[y]):=by
 have lk:=n8 h.nd h.lt;have nd':(ks++[y]).Nodup:=Y6.mpr ⟨h.nd,by simp,λa ha b hb e=>hk (by simp at hb;subst hb;exact e ▸ ha)⟩
 have lt':∀z∈ks++[y],z<n:=λz hz=>by
  rcases WF.mp hz with z1 | z1
  ·exact h.lt z z1
  ·simp at z1;lia
 have lk':=n8 nd' lt';refine⟨nd',lt',λz hz=>?_,by simp[h.st],by simp[h.me],λz hz=>?_,λz hz hq hx w hw=>?_,λz hz=>?_,?_⟩
 ·rcases WF.mp hz with z1 | z1
  ·exact h.rch z z1
  ·simp at z1;subst z1;exact .step (h.rch x h.me) (WR hy)
 ·rcases WF.mp hz with z1 | z1
  ·simp[h.sub z z1]
  ·simp at z1;simp[z1]
 ·have hzy:z≠y:=λe=>hq (by simp[e])
  have hzk:z∈ks:=by
   rcases WF.mp hz with z1 | z1
   ·exact z1
   ·simp at z1;exact absurd z1 hzy
  exact WF.mpr (.inl (h.done z hzk (λe=>hq (by simp[e])) hx w hw))
 ·rw[Zw,hy]at hz;rcases WF.mp hz with z1 | z1
  ·simp[h.seen z z1]
  ·simp at z1;simp[z1]
 ·have:=h.ms;simp at lk' ⊢
  lia
def Bfs.mid(h:Bfs N s n ks (x::q)):Mid N s n x ((x::q).length+(n-ks.length)) 0 ks q:=
 ⟨h.nd,h.lt,h.rch,h.st,h.sub x (by simp),λy hy=>h.sub y (by simp[hy]),λy hy hq hx=>h.done y hy (by simp[hx,hq]),λz hz=>by simp at hz,by simp;lia⟩
inductive Wy(N:A6)(s:Nat):Nat->Nat->Prop
 |here:Wy N s 0 s
 |step {k y z:Nat}:Wy N s k y->z∈gr N y->Wy N s (k+1) z
noncomputable def dv(ks vs:C0)(x:Nat):Nat:=vs.getD (ks.idxOf x) 0
def Lr{ks:C0}{x y:Nat}(h:x∈ks):(ks++[y]).idxOf x=ks.idxOf x:=by rw[List.idxOf_append,Wq h]
def G6{ks:C0}{y:Nat}(h:y∉ks):(ks++[y]).idxOf y=ks.length:=by rw[List.idxOf_append,Ww h];simp
def QG{ks vs:C0}{x y v:Nat}(hl:ks.length=vs.length)(h:x∈ks):dv (ks++[y]) (vs++[v]) x=dv ks vs x:=by unfold dv;have i:=List.idxOf_lt_length_of_mem h;rw[Lr h,Xa,Xa,WD (by lia)]
def QF{ks vs:C0}{y v:Nat}(hl:ks.length=vs.length)(h:y∉ks):dv (ks++[y]) (vs++[v]) y=v:=by
 unfold dv;rw[G6 h,Xa,Xn (by lia)]
 simp[hl]
structure Dst(N:A6)(s:Nat)(ks vs q:C0):Prop where
 way:∀x∈ks,Wy N s (dv ks vs x) x
 z0:dv ks vs s=0
 ix:∀x∈ks,dv ks vs x<=ks.idxOf x
 edge:∀x∈ks,x∉q->∀y∈gr N x,dv ks vs y<=dv ks vs x+1
 top:∀x∈q.head?,∀y∈ks,dv ks vs y<=dv ks vs x+1
 ris:q.Pairwise λx y=>dv ks vs x<=dv ks vs y
structure DMd(N:A6)(s x:Nat)(ks vs q:C0):Prop where
 way:∀x∈ks,Wy N s (dv ks vs x) x
 z0:dv ks vs s=0
 ix:∀x∈ks,dv ks vs x<=ks.idxOf x
 edge:∀y∈ks,y∉q->y≠x->∀z∈gr N y,dv ks vs z<=dv ks vs y+1
 top:∀y∈ks,dv ks vs y<=dv ks vs x+1
 lo:∀y∈q,dv ks vs x<=dv ks vs y
 ris:q.Pairwise λx y=>dv ks vs x<=dv ks vs y
def Dst.mid(h:Dst N s ks vs (x::q)):DMd N s x ks vs q:=
 ⟨h.way,h.z0,h.ix,λy hy hq hx=>h.edge y hy (by simp[hx,hq]),h.top x (by simp),(Xq.mp h.ris).1,(Xq.mp h.ris).2⟩
def DMd.fin(h:DMd N s x ks vs q)(hs:∀z∈gr N x,z∈ks):Dst N s ks vs q:=
 ⟨h.way,h.z0,h.ix,fun y hy hq z hz=>by
  by_cases e:y=x
  ·subst e;exact h.top z (hs z hz)
  ·exact h.edge y hy hq e z hz,λa ha y hy=>by
  have:=h.lo a (List.mem_of_mem_head? ha);have:=h.top y hy
  lia,h.ris⟩
def DMd.add{N:A6}{s n x m i y:Nat}{ks vs q:C0}(h:DMd N s x ks vs q)(md:Mid N s n x m i ks q)(hl:ks.length=vs.length)(hy:y∈gr N x)(hk:y∉ks):DMd N s x (ks++[y]) (vs++[dv ks vs x + 1]) (q++[y]):=by
 have o:∀{z:Nat},z∈ks->dv (ks++[y]) (vs++[dv ks vs x+1]) z=dv ks vs z:=λhz=>QG hl hz
 have nw:dv (ks++[y]) (vs++[dv ks vs x+1]) y=dv ks vs x+1:=QF hl hk;have sp:∀{z:Nat},z∈ks++[y]->z∈ks\/z=y:=λhz=>(WF.mp hz).imp id Wx.mp
 refine⟨λz hz=>?_,by rw[o md.st];exact h.z0,λz hz=>?_,λz hz hq hx w hw=>?_,λz hz=>?_,λz hz=>?_,?_⟩
 ·rcases sp hz with z1 | rfl
  ·rw[o z1];exact h.way z z1
  ·rw[nw];exact .step (h.way x md.me) hy
 ·rcases sp hz with z1 | rfl
  ·rw[o z1,Lr z1];exact h.ix z z1
  ·rw[nw,G6 hk];have:=h.ix x md.me;have:=List.idxOf_lt_length_of_mem md.me
   lia
 ·have hzy:z≠y:=λe=>hq (by simp[e])
  have hzk:z∈ks:=(sp hz).resolve_right hzy;have hwk:=md.done z hzk (λe=>hq (by simp[e])) hx w hw
  rw[o hzk,o hwk];exact h.edge z hzk (λe=>hq (by simp[e])) hx w hw
 ·rw[o md.me];rcases sp hz with z1 | rfl
  ·rw[o z1];exact h.top z z1
  ·rw[nw];exact Wn _
 ·rw[o md.me];rcases sp (WF.mpr ((WF.mp hz).imp (md.sub z) id)) with z1 | rfl
  ·rw[o z1];rcases WF.mp hz with z2 | z2
   ·exact h.lo z z2
   ·rw[Wx.mp z2]at z1;exact absurd z1 hk
  ·rw[nw];lia
 ·refine List.pairwise_append.mpr ⟨List.Pairwise.imp_of_mem (λ{a b} ha hb ko=>?_) h.ris,by simp,λa ha b hb=>?_⟩
  ·rw[o (md.sub a ha),o (md.sub b hb)];exact ko
  ·rw[Wx.mp hb,nw,o (md.sub a ha)];exact h.top a (md.sub a ha)
theorem Dg:∀ {ks vs:C0},ks.length=vs.length->x∈ks->dB (kD ks) (vs.map nD) (.inl (x:Int))=some (nD (dv ks vs x))
 |[],_,_,h=>by cases h
 |_::_,[],h,_=>by cases h
 | k::ks,v::vs,h,hx=>by
   show dB (Sum.inl (k:Int)::kD ks) (nD v::vs.map nD) (.inl (x:Int))=_;by_cases e:k=x
   ·subst e;simp[dB,dv]
   ·have e1:¬ (Sum.inl (k:Int):Key)=.inl (x:Int):=λq=>e (by have:=Sum.inl.inj q;lia)
    have ck:x∈ks:=by
     rcases Wz.mp hx with q | q
     ·exact absurd q.symm e
     ·exact q
    have:=Dg (vs:=vs) (by simpa using h) ck
    simp only[dB,e1,if_false,this];unfold dv;rw[List.idxOf_cons,show (k==x)=false from Yd.mpr e]
    rfl
def nQ(h:M[n]?=some (.dic (kD ks) (vs.map nD)))(hl:ks.length=vs.length)(hx:x∈ks):JN (.ref n) (nD x) M=some (nD (dv ks vs x)):=by
 have e0:gH (.ref n) M=some (kD ks,vs.map nD):=by simp[gH,h]
 unfold JN;rw[e0];show (lK (nD x)).bind (λk=>dB (kD ks) (vs.map nD) k)=_
 exact Dg hl hx
noncomputable def Ue(M0:Mo)(N:A6)(s n:Nat)(m:Nat)(δ:aj)(M:Mo):Prop:=m<=25/\∃ks vs q,Bfs N s n ks q/\Dst N s ks vs q/\m=q.length+(n-ks.length)/\FsS M0 ks vs q M/\∃z4 z5,δ=[some (.lst (N.map nT)),some (nD s),some (.ref M0.length),some (.ref (M0.length+1)),z4,z5]
noncomputable def Vk(M0:Mo)(N:A6)(s n x m:Nat)(i:Nat)(δ:aj)(M:Mo):Prop:=(∃ks vs q,Mid N s n x m i ks q/\DMd N s x ks vs q/\FsS M0 ks vs q M)/\∃z5,δ=[some (.lst (N.map nT)),some (nD s),some (.ref M0.length),some (.ref (M0.length+1)),some (nD x),z5]
def yP{N:A6}{s n:Nat}(hN:N.length=n)(hn:n<=25)(hs:s<n)(hg:∀ x,∀ y∈gr N x,y<n)(M0:Mo):
  Rn (pD [.lst (N.map nT),nD s]) M0 λd M'=>d=.ref M0.length/\∃(ks vs:C0),M'[M0.length]?=some (.dic (kD ks) (vs.map nD))/\ks.length=vs.length/\Dst N s ks vs []/\ks.Nodup/\(∀x,x∈ks ↔ Rch N s x)/\(∀x∈ks,x<n)/\∀(j:Nat) (o:DO),M0[j]?=some o->M'[j]?=some o:=by
 unfold pD eZ iy;walk_at "g";have st:aZ 6 [.lst (N.map nT),nD s]=[some (.lst (N.map nT)),some (nD s),none,none,none,none]:=rfl;rw[st];walk_at "c"
 simp only[bR,bj,aG];refine Rn.bind (Q1:=λd M1=>d=.ref M0.length/\M1=M0++[.dic (kD [s]) [nD 0]]) ⟨_,_,rfl,rfl,rfl⟩ λd M1 ⟨e1,e2⟩=>?_
 subst e1 e2;simp only[cD,aq];walk_at "h";walk_at "c"
 simp only[bR,bj,aG];refine Rn.fM (by simp) ?_
 simp only[cD,aq,List.length_append,List.length_cons,List.length_nil,Nat.zero_add];walk_at "h";have init:Ue M0 N s n (1+(n-1)) [some (.lst (N.map nT)),some (nD s),some (.ref M0.length),some (.ref (M0.length+1)),none,none] ((M0++[.dic (kD [s]) [nD 0]])++[.lst [nD s]]):=by
  refine⟨by lia,[s],[0],[s],⟨by simp,by simp;exact hs,λx hx=>by simp at hx;rw[hx];exact .here,by simp,by simp,λx hx hq=>absurd hx hq⟩,⟨λx hx=>by simp at hx;subst hx;simp[dv];exact .here,by simp[dv],λx hx=>by simp at hx;subst hx;simp[dv],λx hx hq=>absurd hx hq,λx hx y hy=>by simp at hx hy;subst hx;subst hy;lia,by simp⟩,rfl,⟨by simp,by simp,rfl,λj o e=>?_⟩,none,none,rfl⟩
  have:=(Wj.mp e).1;rw[Ym,WD this];exact e
 walk_at "c"
 refine Rn.bind (wX (pG:=λδ M=>∃(ks vs:C0) (z4 z5:Option D),Bfs N s n ks []/\Dst N s ks vs []/\FsS M0 ks vs [] M/\δ=[some (.lst (N.map nT)),some (nD s),some (.ref M0.length),some (.ref (M0.length+1)),z4,z5]) (Ue M0 N s n) (λm δ M hI=>?_) 60 _ _ _ (by lia) init) λr M hI=>?_
 rotate_left
 ·obtain⟨δ',rfl,ks,vs,z4,z5,b,ds,f,rfl⟩:=hI;rw[hK];simp only[bR,bj];exact Rn.pure ⟨_,rfl,rfl,ks,vs,f.dic,f.len,ds,b.nd,b.all,b.lt,f.old⟩
 clear hK K init;obtain⟨hm25,ks,vs,q,b,ds,rfl,f,z4,z5,rfl⟩:=hI;have tr:jV (.ref (M0.length+1)) M=some (!(q.map nD).isEmpty):=by unfold jV;dsimp only;rw[f.que]
 refine⟨!(q.map nD).isEmpty,?_,λhb=>?_,λhb=>?_⟩
 ·show (rd (jV (.ref (M0.length+1))):DM Bool) M=_;unfold rd;rw[tr];rfl
 rotate_left
 ·have:q=[]:=by cases q with
   |nil=>rfl
   |cons a l=>simp at hb
  subst this;exact⟨ks,vs,z4,z5,b,ds,f,rfl⟩
 cases q with
 |nil=>simp at hb
 |cons x q=>
 clear hb tr;have mid0:=b.mid;have hx:=b.lt x mid0.me;walk_at "c"
 simp only[bR,bj,aG];have lo:aN (.ref (M0.length+1)) M=some ((x::q).map nD):=by unfold aN;dsimp only;rw[f.que]
 refine Rn.bindRd _ lo ?_;have pp:KN (.ref (M0.length+1)) [.int 0] M=some (.ok (nD x),M.set (M0.length+1) (.lst (q.map nD))):=by
  have ei:ixN ((x::q).map nD).length 0=some 0:=by simp[ixN]
  delta KN;dsimp only;rw[f.que];dsimp only;rw[ei];rfl
 refine Rn.run pp ?_;have f1:=f.setQ q;generalize M.set (M0.length+1) (.lst (q.map nD))=M1 at f1;simp only[cD,aq];walk_at "h";have at':(opt (gO (nT (gr N x))):DM Itn)=pure (.fix ((gr N x).map nD)):=rfl;simp only[bR,bj,aG,HS (N:=N) (x:=x) (by lia),at',fF]
 refine (bL (Vk M0 N s n x ((x::q).length+(n-ks.length))) _ 0 _ _ ⟨⟨ks,vs,q,mid0,ds.mid,f1⟩,_,rfl⟩ (λi d δ M2 hi hI=>?_)).mono (λr M2 hI=>?_)
 rotate_left
 ·obtain⟨δ',rfl,⟨ja,gx,q',md,dm,f'⟩,z5,rfl⟩:=hI;have bf:=md.fin (by simp)
  exact⟨_,q'.length+(n-ja.length),rfl,by have:=md.ms;lia,by have:=md.ms;lia,ja,gx,q',bf,dm.fin (λz hz=>md.seen z (by rw[XD (by simp)];exact hz)),rfl,f',_,_,rfl⟩
 rw[WM]at hi;obtain⟨y,hy,rfl⟩:=Wk.mp hi;obtain⟨⟨ja,gx,q',md,dm,f'⟩,z5,rfl⟩:=hI;rw[Xd]at md ⊢
 have hyn:=hg x y (WR hy);have lk:=n8 md.nd md.lt;rw[dU,aq];simp only[cD,bR,bj,aG];refine Rn.bindRd _ (JP (x:=y) f'.dic (by rw[Wm];exact f'.len)) ?_
 simp only[fu,aq];by_cases hk:y∈ja
 ·have e:ja.contains y=true:=by simpa using hk
  rw[e];simp only[Bool.not_true,Bool.false_eq_true,if_false];exact Rn.pure ⟨_,rfl,⟨ja,gx,q',md.skip hy hk,dm,f'⟩,_,rfl⟩
 ·have e:ja.contains y=false:=by simpa using hk
  rw[e];simp only[Bool.not_false,if_true];walk_at "c"
  have ev:=nQ f'.dic f'.len md.me;have ad:=dm.add md f'.len (WR hy) hk;revert ev ad;generalize dv ja gx x=v;intro ev ad;simp only[bR,bj,aG];refine Rn.bindRd _ ev ?_;have a1:(rd (cX (nD v) (.int 1)):DM D)=pure (nD (v+1)):=iR v 1;simp only[a1,aq];refine Rn.run (JQ (x:=y) (v:=nD (v+1)) f'.dic (by rw[Wm];exact f'.len) hk (by lia)) ?_
  have f2:=f'.setK y (v+1);rw[XR,W2,Zx]at f2;generalize M2.set M0.length (.dic (kD (ja++[y])) (gx.map nD++[nD (v+1)]))=M3 at f2;walk_at "h";have lo2:aN (.ref (M0.length+1)) M3=some (q'.map nD):=by unfold aN;dsimp only;rw[f2.que]
  simp only[bR,bj,aG];refine Rn.bindRd _ lo2 ?_;have ql:q'.length<1000000:=by have:=md.ms;lia
  refine Rn.run (mF (v:=nD y) f2.que (by rw[Wm];exact ql)) ?_
  have f3:=f2.setQ (q'++[y]);rw[XR,W2,Zx]at f3;exact Rn.pure ⟨_,rfl,⟨_,_,_,md.add hy hk hyn,ad,f3⟩,_,rfl⟩
def DK{ft:aj->DM Bool}{rest:aj}{n:Nat}{h:Nat->D}{x y:Option D}(p:Nat->Bool)(hn:n<=1000)(hf:∀ j,j<n->ft (some (nD j)::some (h j)::rest)=pure (p j)):
  ∃δ',dj (bB (gT 2 (mR (gN 0) (mR (gN 1) xu))) ft (bY (b8 0)) ((List.range n).map λj=>.tup [nD j,h j]) (x::y::rest) [])=pure (δ',((List.range n).filter p).map nD):=by
 let f1:D->D:=λd=>match d with | .tup [a,b]=>a | _=>.non
 let f2:D->D:=λd=>match d with | .tup [a,b]=>b | _=>.non
 let pd:D->Bool:=λd=>match d with | .tup [.int i,_]=>p i.toNat | _=>false
 obtain ⟨δ',q⟩:=tZ (fg:=gT 2 (mR (gN 0) (mR (gN 1) xu))) (ft:=ft) (fe:=b8 0) (λδ=>∃ x y,δ=x::y::rest) (λd=>some (f1 d)::some (f2 d)::rest) pd f1 ((List.range n).map λj=>.tup [nD j,h j]) (x::y::rest) [] ⟨x,y,rfl⟩ (by simp;lia)
  (λd hd δ ⟨x,y,hδ⟩=>by
    obtain⟨j,_,rfl⟩:=WQ.mp hd;exact⟨by subst hδ;rfl,_,_,rfl⟩) (λd hd=>by
    obtain⟨j,hj,rfl⟩:=WQ.mp hd;have:=hf j (Wr.mp hj);show ft (some (nD j)::some (h j)::rest)=pure (p (j:Int).toNat);rw[Yc];exact this) (λd hd z=>by
    obtain⟨j,hj,rfl⟩:=WQ.mp hd;rfl)
 refine⟨δ',?_⟩;rw[q,Ml,aaD,List.filter_map,W4];congr 2
open Classical in
noncomputable def rc(N:A6)(x y:Nat):Bool:=decide (Rch N x y)
def iT:rc N x y=true ↔ Rch N x y:=by classical exact⟨λh=>Xe h,λh=>WY h⟩
noncomputable def gh(N:A6)(n:Nat):A6:=(List.range n).map λx=>(List.range n).filter (rc N x)
noncomputable def Vh(M0:Mo)(N:A6)(n:Nat)(i:Nat)(δ:aj)(l:List D)(M:Mo):Prop:=(∃z,δ=[z,some (.lst (N.map nT))])/\l=((gh N n).take i).map nT/\∀(j:Nat) (o:DO),M0[j]?=some o->M[j]?=some o
def NZ{N:A6}{n:Nat}(h1:pF [w]=pure (.lst (N.map nT)))(h2:yZ "Walk" jZ [w]=pure (nD n))(hN:N.length=n)(hn:n<=25)(hg:∀ x,∀ y∈gr N x,y<n)(M0:Mo):
  Rn (aD 1 2 (sX pF pD jZ) [w]) M0 λd M'=>d=nM (gh N n)/\∀(j:Nat) (o:DO),M0[j]?=some o->M'[j]?=some o:=by
 unfold sX uf;walk_at "g";have st:aZ 2 [w]=[some w,none]:=rfl;rw[st];walk_at "c"
 simp only[cD,bR,bj,aG,h1];walk_at "h";simp only[bR,bj,aG];have ce:aW [Str.ofString "start"].length [1] [some w,some (D.lst (N.map nT))]=[none,some (.lst (N.map nT))]:=rfl;have rg:oE [nD n]=some (.fix ((List.range n).map nD)):=vh (n:=n) (by lia)
 rw[h2,aq,rg,dY,aq,ce];simp only[vV];have tl:∀l:List D,(rd (iZ [.lst l]):DM D)=pure (.tup l):=λl=>rfl
 refine Rn.bind (mD (qb (Vh M0 N n) ((List.range n).map nD) 0 _ _ _ ⟨⟨none,rfl⟩,rfl,λv v e=>e⟩ (λi d δ l M hi hI=>?_))) λpr M hI=>?_
 ·obtain⟨⟨z,rfl⟩,rfl,old⟩:=hI;rw[WM]at hi;obtain⟨x,hx,rfl⟩:=Wk.mp hi;have k6:i<n:=by have:=(Wj.mp hx).1;simpa using this
  obtain rfl:i=x:=by rw[XJ k6]at hx;cases hx;rfl
  rw[Xd];rw[dU,aq,aq,Wq rfl];unfold bY;simp only[bR,List.set_cons_zero,aG];refine Rn.bind (yP hN hn k6 hg M) λd M1 ⟨e,ks,vs,hd,_,_,nd,hr,lt,qr⟩=>?_
  subst e;have hp:∀y,y∈ks ↔ y<n/\rc N i y=true:=λy=>by rw[iT,<-hr y];exact⟨λh=>⟨lt y h,h⟩,λh=>h.2⟩
  refine Rn.bindRd _ (Ir hd (by have:=n8 nd lt;lia) nd hp) ?_
  rw[tl,aq];have ll:(gh N n).length=n:=by unfold gh;rw[Wm,W7]
  have lt2:(((gh N n).take i).map nT).length<sizeLine:=by
   rw[Wm,Yz,ll];show _<2^24
   lia
  rw[Wq lt2];refine Rn.pure ⟨⟨_,rfl⟩,?_,λj o e=>qr j o (old j o e)⟩
  have gi:(gh N n)[i]?=some ((List.range n).filter (rc N i)):=by unfold gh;rw[WM,XJ k6];rfl
  rw[Zw,gi,Option.toList_some,XR];rfl
 obtain⟨_,el,old⟩:=hI;have ll:(gh N n).length=n:=by unfold gh;rw[Wm,W7]
 have tk:(gh N n).take (0+((List.range n).map nD).length)=gh N n:=by rw[Xd,Wm,W7];exact XD (by rw[ll];exact Wn n)
 rw[tk]at el;rw[el];simp only[zP,aq,tl];exact Rn.pure ⟨_,rfl,rfl,old⟩
def Pz:x∈iW ns ↔ x∈ns:=by
 unfold iW;rw[(cg _).1.mem_iff];have:∀ (l acc:C1),x∈l.foldl PyProof.Rows.step_dedup acc ↔ x∈acc\/x∈l:=by
  intro l;induction l with
  |nil=>intro acc;simp
  | cons a l ih=>
    intro acc;rw[Yp,ih,<-LS.ur];by_cases h:a∈acc
    ·rw [Wq h];constructor
     ·rintro (h1 | h1)
      ·exact .inl h1
      ·exact .inr (.tail _ h1)
     ·rintro (h1 | h1)
      ·exact .inl h1
      ·rcases Wz.mp h1 with rfl | h1
       ·exact .inl h
       ·exact .inr h1
    ·rw[Ww h,WF,Wx,Wz,or_assoc]
 rw[this];simp
def Iv(ns:C1):(iW ns).Nodup:=by
 unfold iW;rw[(cg _).1.nodup_iff];have:∀ (l acc:C1),acc.Nodup->(l.foldl PyProof.Rows.step_dedup acc).Nodup:=by
  intro l;induction l with
  |nil=>intro acc h;exact h
  | cons a l ih=>
    intro acc h;rw[Yp,<-LS.ur];by_cases q:a∈acc
    ·rw[Wq q];exact ih acc h
    ·rw[Ww q];refine ih _ (Y6.mpr ⟨h,by simp,λx hx y hy e=>?_⟩)
     rw[Wx.mp hy]at e;exact q (e ▸ hx)
 exact this ns [] (by simp)
def RK(a b:C0):(rd (dg (.lst (a.map nD)) (.lst (b.map nD))):DM D)=pure (.bl (decide (a=b))):=cB λM=>by
 have e:∀l:C0,l.map nD=(l.map λn:Nat=>(n:Int)).map D.int:=λl=>by rw[W4];rfl
 have d:=cF (a.map λn:Nat=>(n:Int))
 have q:=eO (a.map λn:Nat=>(n:Int)) (b.map λn:Nat=>(n:Int))
 have c:decide ((a.map λn:Nat=>(n:Int))=(b.map λn:Nat=>(n:Int)))=decide (a=b):=by rw[WW,Xk,Xk];exact gZ
 rw[e a,e b];simp only[dg,L3.eqB,eqP,toPy,cO,Option.map_some,PyData.canLay0,lay_ints,PyData.depth,PyData.eqv];rw[q,c,Wq (by rw[Bool.and_self,Bool.true_and];exact WY (by lia))]
 rfl
def Cw(h:a.length+b.length<=1000000):(rd (cX (.lst a) (.lst b)):DM D)=pure (.lst (a++b)):=cB λM=>by
 have:eG (a++b)=true:=by unfold eG;exact WY (by show (a++b).length<=2^24;rw[W3];lia)
 simp[cX,aN,Kf,this]
theorem uV(h:Nat->D):∀ (n k:Nat),jf k ((List.range' k n).map h)=(List.range' k n).map λj=>.tup [nD j,h j]
 |0,k=>rfl
 |n+1,k=>by rw[List.range'_succ,W2,W2];show D.tup [.int (k:Int),h k]::jf (k+1) _=_;rw[uV h n (k+1)];rfl
end K
set_option exponentiation.threshold 2000
namespace K
open PySem L2 L3 N10 LB
noncomputable def aJ(R:A6):A6:=R.map λr=>(List.range r.length).filter λy=>decide (0<ga r y)
noncomputable def pF:=aD 1 1 o5
def zj{R:A6}{W:Nat}(h:WK R W):pF [aV R W]=pure (.lst ((aJ R).map nT)):=by
 have n25:=h.n25;have as:gO (nM R)=some (.fix (R.map nT)):=rfl;have ce:aW 1 [] [some (aV R W)]=[none]:=rfl;simp[pF,o5,yK,as,lA,ce];rw[fj nT (λr=>nT ((List.range r.length).filter λy=>decide (0<ga r y))) (by lia) λr hr=>?_]
 ·simp[aJ];rfl
 ·have lr:=h.row r hr;have en:xq [nT r]=some (.fix ((List.range r.length).map λj=>.tup [nD j,nD (ga r j)])):=by
   have e:r.map nD=(List.range' 0 r.length).map λj=>nD (ga r j):=by
    apply aav
    ·simp
    ·intro i h1 h2;simp at h1;simp[qW h1]
   show some (Itn.fix (jf 0 (r.map nD)))=_;rw[e,uV,List.range_eq_range']
  have rh:aW 2 [] [some (nT r)]=[none,none]:=rfl;obtain⟨δ',q⟩:=DK (rest:=[]) (n:=r.length) (h:=λj=>nD (ga r j)) (x:=none) (y:=none) (ft:=λδ=>opt δ[1]?.join>>=λa=>rd (mU a (D.int 0))>>=gF) (λy=>decide (0<ga r y)) (by lia) λj hj=>by have gt:(rd (mU (nD (ga r j)) (.int 0)):DM D)=pure (.bl (decide (0<ga r j))):=qm (ga r j) 0;simp[gt]
  simp only[List.getElem?_cons_zero,Option.join_some,dY,aq,en,lA,rh,q];rfl
def jD(R:A6):(aJ R).length=R.length:=by simp[aJ]
def uW{R:A6}{x:Nat}(hx:x<R.length):gr (aJ R) x=(List.range (gr R x).length).filter λy=>decide (0<ga (gr R x) y):=by
 rw[xr (by rw[jD];exact hx),xr hx]
 simp[aJ]
def uX{R:A6}{W:Nat}(h:WK R W)(x:Nat):∀ y∈gr (aJ R) x,y<R.length:=λy hy=>by
 by_cases hx:x<R.length
 ·rw[uW hx]at hy;have:=Wr.mp (WN.mp hy).1;rw[h.row _ (gr_mem hx)]at this;exact this
 ·have:gr (aJ R) x=[]:=by unfold gr;rw[Xa,Xx (by rw[jD];lia)];rfl
  rw[this]at hy;cases hy
noncomputable def Le:=aD 1 2 (sX pF pD jZ)
noncomputable def LD(R:A6):A6:=gh (aJ R) R.length
def iG(R:A6):(LD R).length=R.length:=by simp[LD,gh]
def Q8{R:A6}{W:Nat}(h:WK R W)(M:Mo):Rn (Le [aV R W]) M λd M'=>d=nM (LD R)/\∀(j:Nat) (o:DO),M[j]?=some o->M'[j]?=some o:=NZ (zj h) (mY h.n25) (jD R) h.n25 (uX h) M
def dq(l:C0):C1:=l.map λn:Nat=>(n:Int)
def Eg(l:C0):nT l=tupI (dq l):=by simp[nT,tupI,dq,nD,Function.comp_def]
theorem yw{α:Type}{ft:aj->DM Bool}{fe:aj->DM D}{rest:aj}(enc:α->D)(p:α->Bool)(e:α->C1):∀ (as:List α) (x:Option D) (l:List D),l.length + as.length<=18->(∀ a∈as,ft (some (enc a)::rest)=pure (p a))->(∀ a∈as,p a=true->fe (some (enc a)::rest)=pure (tupI (e a))/\e a≠[])->
  ∃z,bB (gN 0) ft (qT fe) (as.map enc) (x::rest) l=pure (z::rest,l++(as.filter p).map λa=>tupI (e a))
 |[],x,l,_,_,_=>⟨x,by simp[bB]⟩
 | a::as,x,l,hl,h1,h2=>by
   have c:=h1 a (by simp)
   have hl':l.length+(as.length+1)<=18:=by simpa using hl
   cases hp:p a with
   |true=>
     obtain⟨c2,ne⟩:=h2 a (by simp) hp
     have ts:(cU [tupI (e a)]).isSome=true:=by rw[show [tupI (e a)]=[e a].map tupI from rfl,jy (λt ht=>by simp at ht;rw[ht];exact ne)];rfl
     obtain⟨z,q⟩:=yw (rest:=rest) enc p e as (some (enc a)) (l++[tupI (e a)]) (by simp;lia) (λb hb=>h1 b (by simp[hb])) (λb hb=>h2 b (by simp[hb]))
     have lt:l.length<18:=by lia
     exact⟨z,by simp[bB,c,hp,qT,c2,ts,lt,q]⟩
   |false=>
     obtain⟨z,q⟩:=yw (rest:=rest) enc p e as (some (enc a)) l (by lia) (λb hb=>h1 b (by simp[hb])) (λb hb=>h2 b (by simp[hb]))
     exact⟨z,by simp[bB,c,hp,q]⟩
def dX{R:A6}{l:C0}(h:l∈LD R):l≠[]/\l.length<=R.length/\∀y∈l,y<R.length:=by
 obtain⟨x,hx,rfl⟩:=WQ.mp h;have hx:=Wr.mp hx;refine⟨λz=>?_,?_,λy hy=>Wr.mp (WN.mp hy).1⟩
 ·have:x∈(List.range R.length).filter (rc (aJ R) x):=WN.mpr ⟨Wr.mpr hx,iT.mpr .here⟩;rw[z]at this;cases this
 ·have:=Xg (rc (aJ R) x) (List.range R.length)
  rwa [W7]at this
def zK{R:A6}{i:Nat}(h:i<R.length):(rd (dC (nM R) (nD i)):DM D)=pure (nT (gr R i)):=vg (i:=i) (by rw[WM,Wl h,xr h];rfl)
def RL(a b:C0):(rd (dg (nT a) (nT b)):DM D)=pure (.bl (decide (a=b))):=cB λM=>by
 have e:∀l:C0,l.map nD=(l.map λn:Nat=>(n:Int)).map D.int:=λl=>by rw[W4];rfl
 have d:=cF (a.map λn:Nat=>(n:Int))
 have q:=eO (a.map λn:Nat=>(n:Int)) (b.map λn:Nat=>(n:Int))
 have c:decide ((a.map λn:Nat=>(n:Int))=(b.map λn:Nat=>(n:Int)))=decide (a=b):=by rw[WW,Xk,Xk];exact gZ
 unfold nT;rw[e a,e b];simp only[dg,L3.eqB,eqP,toPy,cO,Option.map_some,PyData.canLay0,lay_ints,PyData.depth,PyData.eqv];rw[q,c,Wq (by rw[Bool.and_self,Bool.true_and];exact WY (by lia))]
 rfl
noncomputable def bQ(L:A6)(l:C0):Bool:=l.all λy=>decide (gr L y=l)
noncomputable def bO(L:A6):A7:=wg (pU ((L.filter (bQ L)).map dq))
noncomputable def xJ(δ:aj):DM Bool:=do
 let a <-opt δ[0]?.join
 let a <-opt (gO a)
 let a <-dj (cN (gN 0) (λz=>Pure.pure true) (bY λδ=>do
  let a <-opt δ[1]?.join
  let a_1 <-opt δ[0]?.join
  let x <-rd (dC a a_1)
  let y <-opt δ[2]?.join
  rd (dg x y)) a (aW 1 [1,0] δ) [])
 let x <-rd (pJ [D.lst a.2])
 rd (jV x)
noncomputable def Fx:=aD 1 2 (rZ Le)
def Iw{R:A6}{W:Nat}(h:WK R W)(hn:R.length<=18)(M:Mo):Rn (Fx [aV R W]) M λd M'=>d=.tup ((bO (LD R)).map tupI)/\∀ (j:Nat) (o:DO),M[j]?=some o->M'[j]?=some o:=by
 unfold Fx rZ lU;walk_at "g";have st:aZ 2 [aV R W]=[some (aV R W),none]:=rfl;rw[st];walk_at "c"
 simp;refine Rn.bind (Q8 h M) λd M1 ⟨e,k1⟩=>?_
 subst e;walk_at "h";have as:gO (nM (LD R))=some (.fix ((LD R).map nT)):=rfl;have ce:aW 1 [1] [some (aV R W),some (nM (LD R))]=[none,some (nM (LD R))]:=rfl;simp[as,lA,ce];have T:∀l∈LD R,xJ (some (nT l)::[some (nM (LD R))])=(Pure.pure (bQ (LD R) l):DM Bool):=λl hl=>by
  have hl':=dX hl;have at':gO (nT l)=some (.fix (l.map nD)):=rfl;have rh:aW 1 [1,0] [some (nT l),some (nM (LD R))]=[none,some (nM (LD R)),some (nT l)]:=rfl;simp only[xJ,List.getElem?_cons_zero,Option.join_some,dY,aq,at',lA,rh];rw[fj nD (λy=>.bl (decide (gr (LD R) y=l))) (by lia) λy hy=>by simp[zK (R:=LD R) (i:=y) (by rw[iG];exact hl'.2.2 y hy),RL]]
  have e:l.map (λy=>D.bl (decide (gr (LD R) y=l)))=(l.map λy=>decide (gr (LD R) y=l)).map D.bl:=by rw[W4];rfl
  simp only[aq,e,qj,RT];congr 1;unfold bQ;rw[List.all_map];rfl
 obtain⟨z,q⟩:=yw (rest:=[some (nM (LD R))]) nT (bQ (LD R)) dq (LD R) none [] (by rw[iG];simpa using hn) (ft:=xJ) (fe:=b8 0) T (λl hl x=>⟨by simp[Eg],λz=>(dX hl).1 (by unfold dq at z;simpa using z)⟩)
 refine (show Rn (dj (bB (gN 0) xJ (qT (b8 0)) ((LD R).map nT) [none,some (nM (LD R))] [])>>=_) M1 _ from ?_)
 rw[q];have sl:∀M,(λ_:Mo=>vA (([]:List D)++((LD R).filter (bQ (LD R))).map λa=>tupI (dq a))) M=some (.lst ((bO (LD R)).map tupI)):=λM=>by
  have e:(((LD R).filter (bQ (LD R))).map λa=>tupI (dq a))=((((LD R).filter (bQ (LD R))).map dq)).map tupI:=by rw[W4];rfl
  show vA _=_;rw[aaD,e];unfold vA;rw[jy λt ht=>by obtain⟨l,hl,rfl⟩:=WQ.mp ht;exact λz=>(dX (WN.mp hl).1).1 (by unfold dq at z;simpa using z)]
  rfl
 simp only[Ml,aq];refine Rn.bindRd _ (sl M1) ?_;refine Rn.bindRd (.tup ((bO (LD R)).map tupI)) rfl ?_;exact Rn.pure ⟨_,rfl,rfl,k1⟩
end K
namespace K
open PySem L2 L3 N10
noncomputable def xU:List D->DM D
 |[.int a,.int b]=>if 0<=a/\0<=b then pure (nD (Nat.gcd a.toNat b.toNat)) else stuck
 |_=>stuck
def QV(a b:Nat):xU [nD a,nD b]=pure (nD (Nat.gcd a b)):=by simp[xU,nD]
def Ny(h1:∀ a b:Nat,c [some (nD a),some (nD b)]=pure (b != 0))(h2:∀ a b:Nat,0<b->f [some (nD a),some (nD b)]=pure (.nx [some (nD b),some (nD (a % b))])):
  ∀b a:Nat,∃n,dH c f n [some (nD a),some (nD b)]=pure (.nx [some (nD (Nat.gcd a b)),some (nD 0)]):=by
 intro b;induction b using Nat.strongRecOn with
 | ind b ih=>
   intro a;rcases aab b with rfl | hb
   ·exact⟨1,by simp[dH,h1]⟩
   ·obtain⟨n,hn⟩:=ih (a%b) (Yj _ hb) b;refine⟨n+1,?_⟩;have hb':(b != 0)=true:=by simp;lia
    simp only[dH,h1,aq,hb',if_true,h2 a b hb,hn];rw[Nat.gcd_comm a b,Nat.gcd_rec b a,Nat.gcd_comm]
set_option tactic.hygienic true in
def S7:∀ ds M r,xU ds M=some r->∃ n,aD 2 2 (cZ n) ds M=some r:=by
 intro ds M r h;unfold xU at h;split at h
 ·rename_i a b;split at h
  ·rename_i ko;obtain⟨x,rfl⟩:∃x:Nat,a=x:=⟨a.toNat,by lia⟩
   obtain⟨y,rfl⟩:∃y:Nat,b=y:=⟨b.toNat,by lia⟩
   have h1:∀a b:Nat,(λδ=>(b8 1) δ>>=λx=>rd (jV x)) [some (nD a),some (nD b)]=(pure (b != 0):DM Bool):=λa b=>by
    simp;refine cB λM=>?_
    show some ((b:Int) != 0)=_;congr 1;rw[WW];simp
   have h2:∀a b:Nat,0<b->(vU 0 1 (λδ=>(b8 1) δ>>=λx=>(λδ=>(λδ=>(b8 0) δ>>=λx=>(b8 1) δ>>=λy=>rd (je x y)) δ>>=λx=>(λz=>pure []) δ>>=λxs=>pure (x::xs)) δ>>=λxs=>pure (x::xs))) [some (nD a),some (nD b)]=pure (.nx [some (nD b),some (nD (a%b))]):=λa b hb=>by
    have:=zN (a:=a) hb;simp[nD]at this ⊢
    simp[this]
   obtain⟨n,hn⟩:=Ny (c:=(λδ=>(b8 1) δ>>=λx=>rd (jV x))) (f:=(vU 0 1 (λδ=>(b8 1) δ>>=λx=>(λδ=>(λδ=>(b8 0) δ>>=λx=>(b8 1) δ>>=λy=>rd (je x y)) δ>>=λx=>(λz=>pure []) δ>>=λxs=>pure (x::xs)) δ>>=λxs=>pure (x::xs)))) h1 h2 y x
   refine⟨n,?_⟩;rw[<-h];have:aD 2 2 (cZ n) [.int x,.int y]=pure (nD (Nat.gcd x y)):=by unfold cZ eU;have e:aZ 2 [D.int x,D.int y]=[some (nD x),some (nD y)]:=rfl;simp only[HJ,e,Mp,hn];simp
   rw[this];simp
  ·cases h
 ·cases h
noncomputable def xV:=aD 2 2 (uC xW)
def GZ(x n:Nat):xV [nD x,nD n]=pure (.bl (decide (x<n))):=by
 have e1:(rd (BV (.int 0) (nD x)):DM D)=pure (.bl true):=by rw[show D.int 0=nD 0 from rfl,zL,WY (X3 _)]
 simp[xV,uC,G4,e1,zM]
def Uv(l:C0):gO (nT l)=some (.fix (l.map nD)):=rfl
noncomputable def Fri:=aD 1 1 (lH)
def Ig(h:P.Pairwise (·< ·))(hl:P.length<=1000):Fri [nT P]=pure (.bl true):=by
 have e1:uh [.int 1,nD P.length]=some (.fix ((List.range (P.length-1)).map λk=>nD (1+k))):=vW (a:=1) (by decide) (by lia)
 simp[Fri,lH,aW,cz,HY,e1];rw[fj (λk=>nD (1+k)) (λz=>D.bl true) (by simp;lia) (λk hk=>by
  have hk:k<P.length-1:=by simpa using hk
  have e2:(rd (Ad (nD (1+k)) (.int 1)):DM D)=pure (nD k):=by
   have:=zQ (a:=1+k) (b:=1) (by lia)
   rw[show 1+k-1=k by lia]at this
   exact this
  have e3:ga P k<ga P (1+k):=by
   rw[qW (by lia),qW (by lia)]
   exact Yg.mp h _ _ _ _ (by lia)
  simp[e2,lu (l:=P) (i:=k) (by lia),lu (l:=P) (i:=1+k) (by lia),zM,e3])]
 rw[aq,kY,nG]
noncomputable def fZ:=aD 2 2 (cV xV Fri)
def Qj(lt:∀x∈P,x<n)(up:P.Pairwise (·< ·))(hl:P.length<=25):fZ [nT P,nD n]=pure (.bl true):=by
 simp[fZ,cV,aW,cz,Uv,HR,Ig up (by lia)]
 rw[fj nD (λz=>.bl true) (by lia) (λx hx=>by simp[GZ,lt x hx])]
 rw[aq,kY,nG];simp[Ig up (show P.length<=1000 by lia)]
theorem Ah:∀ ts:A7,tN (ts.map tupI)=some ts
 |[]=>rfl
 |t::ts=>by show (iC (t.map D.int)).bind _=_;rw[kI,YT,Ah ts];rfl
noncomputable def gW:=aD 2 2 (dJ Fx fZ jZ)
def O7{R:A6}{W:Nat}{l:C0}(wk:WK R W)(hn:R.length<=18)(lt:∀x∈l,x<R.length)(up:l.Pairwise (·< ·))(hl:l.length<=25)(hm:dq l∈bO (LD R))(M:Mo):Rn (gW [aV R W,nT l]) M λd M'=>d=.non/\∀(j:Nat) (o:DO),M[j]?=some o->M'[j]?=some o:=by
 unfold gW dJ dR;dsimp only;simp[mY wk.n25,Qj lt up hl];refine Rn.bind (Iw wk hn M) λd M1 ⟨e,k1⟩=>?_
 subst e;have nn:Ej (nT l) (.tup ((bO (LD R)).map tupI)) M1=some (.bl false):=by
  show (iC (l.map nD)).bind (λk=>(tN ((bO (LD R)).map tupI)).map λts=>D.bl (!ts.contains k))=_
  rw[show l.map nD=(dq l).map D.int by unfold dq;rw[W4];rfl,kI,Ah,YT,Z2]
  rw[show (bO (LD R)).contains (dq l)=true by simpa using hm];rfl
 refine Rn.bindRd _ nn ?_;simp;exact Rn.pure ⟨rfl,k1⟩
noncomputable def oX:=aD 2 7 (pO gW pF pD xU)
noncomputable def sE(N:A6)(ks vs:C0)(x:Nat):C0:=(gr N x).map λy=>dv ks vs x+1-dv ks vs y
noncomputable def Vs(M0:Mo)(w:D)(N:A6)(l ks vs:C0)(q:Nat)(i:Nat)(δ:aj)(M:Mo):Prop:=(∃z5 z6,δ=[some w,some (nT l),some (.lst (N.map nT)),some (.ref q),some (nD (((l.take i).flatMap (sE N ks vs)).foldl Nat.gcd 0)),z5,z6])/\M[q]?=some (.dic (kD ks) (vs.map nD))/\∀(j:Nat) (o:DO),M0[j]?=some o->M[j]?=some o
noncomputable def Vr(M0:Mo)(w:D)(N:A6)(l ks vs:C0)(q x g:Nat)(i:Nat)(δ:aj)(M:Mo):Prop:=(∃z6,δ=[some w,some (nT l),some (.lst (N.map nT)),some (.ref q),some (nD (((sE N ks vs x).take i).foldl Nat.gcd g)),some (nD x),z6])/\M[q]?=some (.dic (kD ks) (vs.map nD))/\∀(j:Nat) (o:DO),M0[j]?=some o->M[j]?=some o
def R9{R:A6}{W:Nat}{l:C0}(wk:WK R W)(hn:R.length<=18)(ne:l≠[])(lt:∀ x∈l,x<R.length)(up:l.Pairwise (·< ·))(hl:l.length<=25)(hm:dq l∈bO (LD R))(cl:∀ x∈l,Rch (aJ R) (ga l 0) x)(M0:Mo):
  Rn (oX [aV R W,nT l]) M0 λd M'=>(∃ks vs:C0,ks.length=vs.length/\Dst (aJ R) (ga l 0) ks vs []/\(∀x,x∈ks ↔ Rch (aJ R) (ga l 0) x)/\d=nD ((l.flatMap (sE (aJ R) ks vs)).foldl Nat.gcd 0))/\∀(j:Nat) (o:DO),M0[j]?=some o->M'[j]?=some o:=by
 unfold oX pO lq;walk_at "g";have st:aZ 7 [aV R W,nT l]=[some (aV R W),some (nT l),none,none,none,none,none]:=rfl;rw[st];have l1:1<=l.length:=aaK.mpr ne;walk_at "c"
 simp only[bR,bj,aG];refine Rn.bind (O7 wk hn lt up hl hm M0) λd M1 ⟨_,k1⟩=>?_
 try simp only[aq]
 walk_at "h";walk_at "c"
 simp only[cD,bR,bj,aG,zj wk];walk_at "h";walk_at "c"
 have i0:(rd (dC (nT l) (.int 0)):DM D)=pure (nD (ga l 0)):=lu (i:=0) (by lia)
 simp only[cD,bR,bj,aG,i0];refine Rn.bind (yP (N:=aJ R) (s:=ga l 0) (n:=R.length) (jD R) wk.n25 (lt _ (pX (by lia))) (uX wk) M1) λd M2 ⟨e,ks,vs,hd,hlen,ds,nd,hr,ltk,k2⟩=>?_
 subst e;have k02:∀(j:Nat) (o:DO),M0[j]?=some o->M2[j]?=some o:=λj o h=>k2 j o (k1 j o h)
 try simp only[cD,aq]
 walk_at "h";revert hd;generalize M1.length=q;intro hd;clear k2 k1;walk_at "c"
 simp only[cD,aq];walk_at "h";walk_at "c"
 have as:gO (nT l)=some (.fix (l.map nD)):=rfl;simp only[bR,bj,aG,as,fF];have mem:∀x∈l,x∈ks:=λx hx=>(hr x).mpr (cl x hx)
 refine Rn.bind (bL (Vs M0 (aV R W) (aJ R) l ks vs q) _ 0 _ _ ⟨⟨_,_,rfl⟩,hd,k02⟩ (λi d δ M3 hi hI=>?_)) (λr M3 hI=>?_)
 ·clear hK K;obtain⟨⟨z5,z6,rfl⟩,gz,k3⟩:=hI;rw[WM]at hi;obtain⟨x,hx,rfl⟩:=Wk.mp hi;have hxl:=WR hx;have hxk:=mem x hxl;have hxn:=lt x hxl;rw[Xd];generalize hg:((l.take i).flatMap (sE (aJ R) ks vs)).foldl Nat.gcd 0=g;have at':(opt (gO (nT (gr (aJ R) x))):DM Itn)=pure (.fix ((gr (aJ R) x).map nD)):=rfl;rw[dU,aq];simp only[List.set_cons_succ,List.set_cons_zero,bj,List.getElem?_cons_zero,List.getElem?_cons_succ,Option.join_some,dY,aq,aG,HS (N:=aJ R) (x:=x) (by rw[jD];exact hxn),at',fF]
  refine (bL (Vr M0 (aV R W) (aJ R) l ks vs q x g) _ 0 _ _ ⟨⟨_,rfl⟩,gz,k3⟩ (λe d δ M4 he hI=>?_)).mono (λr M4 hI=>?_)
  ·obtain⟨⟨w6,rfl⟩,at4,k4⟩:=hI;rw[WM]at he;obtain⟨y,hy,rfl⟩:=Wk.mp he;have hyk:y∈ks:=(hr y).mpr (.step ((hr x).mp hxk) (WR hy));have le:=ds.edge x hxk (by simp) y (WR hy)
   rw[Xd];rw[dU,aq];simp only[cD,bR,bj,aG];refine Rn.bindRd _ (nQ at4 hlen hxk) ?_;have a1:(rd (cX (nD (dv ks vs x)) (.int 1)):DM D)=pure (nD (dv ks vs x+1)):=iR _ 1;simp only[a1,aq];refine Rn.bindRd _ (nQ at4 hlen hyk) ?_;simp only[zQ le,aq,QV];refine Rn.pure ⟨_,rfl,⟨some (nD y),?_⟩,at4,k4⟩;have ge:(sE (aJ R) ks vs x)[e]?=some (dv ks vs x+1-dv ks vs y):=by unfold sE;rw[WM,hy];rfl
   rw[Zw,ge,Zu];rfl
  ·obtain⟨δ',rfl,⟨w6,rfl⟩,at4,k4⟩:=hI;refine⟨_,rfl,⟨some (nD x),w6,?_⟩,at4,k4⟩;rw[Xd,Wm,Zw,hx,List.flatMap_append,Zu,hg];have:(sE (aJ R) ks vs x).take (gr (aJ R) x).length=sE (aJ R) ks vs x:=XD (by unfold sE;rw[Wm];exact Wn _)
   rw[this];simp
 ·obtain⟨δ',rfl,⟨z5,z6,rfl⟩,gz,k3⟩:=hI;rw[hK];rw[Xd,Wm,XD (Wn _)];simp only[bR,bj];exact Rn.pure ⟨_,rfl,⟨ks,vs,hlen,ds,hr,rfl⟩,k3⟩
def Wy.rch(h:Wy N s k x):Rch N s x:=by
 induction h with
 |here=>exact .here
 |step _ m ih=>exact .step ih m
def Dst.least(d:Dst N s ks vs [])(hr:∀ x,x∈ks ↔ Rch N s x)(h:Wy N s k x):dv ks vs x<=k:=by
 induction h with
 |here=>rw[d.z0];exact Wn _
 |step h m ih=>
   have:=d.edge _ ((hr _).mpr h.rch) (by simp) _ m
   lia
noncomputable def Vm{α:Type}(M0:Mo)(rest:aj)(p:α->Bool)(e:α->D)(as:List α)(i:Nat)(δ:aj)(l:List D)(M:Mo):Prop:=(∃z,δ=z::rest)/\l=((as.take i).filter p).map e/\M=M0
def qN{α:Type}{ft:aj->DM Bool}{fe:aj->DM D}{rest:aj}{as:List α}(enc:α->D)(p:α->Bool)(e:α->D){M:Mo}{x:Option D}(hn:as.length<=1000)(h1:∀ a∈as,Rn (ft (some (enc a)::rest)) M λb M'=>b=p a/\M'=M)(h2:∀ a∈as,p a=true->Rn (fe (some (enc a)::rest)) M λd M'=>d=e a/\M'=M):
  Rn (bB (gN 0) ft (bY fe) (as.map enc) (x::rest) []) M λq M'=>M'=M/\q.2=(as.filter p).map e:=by
 refine (qb (Vm M rest p e as) (as.map enc) 0 (x::rest) [] M ⟨⟨x,rfl⟩,by simp,rfl⟩ (λj d δ l M1 hj hI=>?_)).mono λq M' hI=>?_
 ·obtain ⟨⟨z,rfl⟩,rfl,rfl⟩:=hI;rw[WM]at hj;obtain⟨y,hy,rfl⟩:=Wk.mp hj;obtain⟨hj',rfl⟩:=Wj.mp hy;have le:=Xg p (as.take (0+j));rw[Yz]at le;have lt:(((as.take (0+j)).filter p).map e).length<sizeLine:=by
   show _<2^24;rw[Wm]
   lia
  have tk:as.take (j+1)=as.take j++[as[j]]:=List.take_succ_eq_append_getElem hj';have hm:=XX hj';rw[dU,aq];refine Rn.bind (h1 _ hm) λb M' ⟨e1,e2⟩=>?_
  subst e1 e2;rw[Xd]at lt ⊢
  cases hp:p as[j] with
  |true=>
    rw[Wq rfl];unfold bY;refine Rn.bind (h2 _ hm hp) λd M2 ⟨e3,e4⟩=>?_
    subst e3 e4;rw[Wq lt];refine Rn.pure ⟨⟨_,rfl⟩,?_,rfl⟩;rw[tk,List.filter_append,XR];simp[hp]
  |false=>
    rw[Ww (by decide)]
    refine Rn.pure ⟨⟨_,rfl⟩,?_,rfl⟩;rw[tk,List.filter_append,XR];simp[hp]
 ·obtain⟨_,e1,e2⟩:=hI;refine⟨e2,?_⟩;rw[e1,Xd,Wm,XD (Wn _)]
noncomputable def dst(N:A6)(s x:Nat):Nat:=Classical.epsilon λk=>Wy N s k x/\∀j,Wy N s j x->k<=j
theorem Dst.dst{N:A6}{s x:Nat}{ks vs:C0}(d:Dst N s ks vs [])(hr:∀x,x∈ks ↔ Rch N s x)(h:Rch N s x):dv ks vs x=K.dst N s x:=by
 have w:∃k,Wy N s k x/\∀j,Wy N s j x->k<=j:=⟨_,d.way x ((hr x).mpr h),λj hj=>d.least hr hj⟩
 have e:=Classical.epsilon_spec w;exact Nat.le_antisymm (d.least hr e.1) (e.2 _ (d.way x ((hr x).mpr h)))
noncomputable def QJ(N:A6)(s x:Nat):C0:=(gr N x).map λy=>dst N s x+1-dst N s y
noncomputable def fU(N:A6)(l:C0):Nat:=(l.flatMap (QJ N (ga l 0))).foldl Nat.gcd 0
def vK{α β:Type}{l:List α}{f g:α->List β}(h:∀x∈l,f x=g x):l.flatMap f=l.flatMap g:=by
 induction l with
 |nil=>rfl
 |cons a l ih=>rw[List.flatMap_cons,List.flatMap_cons,h a (by simp),ih λx hx=>h x (by simp[hx])]
structure Shu(R:A6)(l:C0):Prop where
 ne:l≠[]
 lt:∀x∈l,x<R.length
 up:l.Pairwise (·< ·)
 hl:l.length<=25
 hm:dq l∈bO (LD R)
 cl:∀x∈l,Rch (aJ R) (ga l 0) x
def Ja{R:A6}{W:Nat}{l:C0}(wk:WK R W)(hn:R.length<=18)(sh:Shu R l)(M0:Mo):
  Rn (oX [aV R W,nT l]) M0 λd M'=>d=nD (fU (aJ R) l)/\∀(j:Nat) (o:DO),M0[j]?=some o->M'[j]?=some o:=by
 refine (R9 wk hn sh.ne sh.lt sh.up sh.hl sh.hm sh.cl M0).mono λd M' ⟨⟨ks,vs,hl,ds,hr,e⟩,k⟩=>⟨?_,k⟩
 rw[e];unfold fU;rw[vK (g:=QJ (aJ R) (ga l 0))];intro x hx;unfold sE QJ;refine Yq λy hy=>?_
 have rx:=sh.cl x hx;rw[ds.dst hr rx,ds.dst hr (.step rx hy)]
noncomputable def ux:=aD 2 4 (nH oX pF pD)
noncomputable def vy(N:A6)(l:C0):A6:=(List.range (fU N l)).map λi=>l.filter λx=>decide (dst N (ga l 0) x%fU N l=i)
def RJ(l:C0):(opt (gO (nT l)):DM Itn)=pure (.fix (l.map nD)):=rfl
def R5{R:A6}{W:Nat}{l:C0}(wk:WK R W)(hn:R.length<=18)(sh:Shu R l)(ht:fU (aJ R) l<=1000)(M0:Mo):
  Rn (ux [aV R W,nT l]) M0 λd M'=>d=nM (vy (aJ R) l)/\∀(j:Nat) (o:DO),M0[j]?=some o->M'[j]?=some o:=by
 unfold ux nH jx;walk_at "g";have st:aZ 4 [aV R W,nT l]=[some (aV R W),some (nT l),none,none]:=rfl;rw[st];have l1:1<=l.length:=aaK.mpr sh.ne;walk_at "c"
 simp only[bR,bj,aG];refine Rn.bind (Ja wk hn sh M0) λd M1 ⟨e,k1⟩=>?_
 subst e;simp only[cD,aq];walk_at "h";walk_at "c"
 have i0:(rd (dC (nT l) (.int 0)):DM D)=pure (nD (ga l 0)):=lu (i:=0) (by lia)
 simp only[cD,bR,bj,aG,i0,zj wk];refine Rn.bind (yP (N:=aJ R) (s:=ga l 0) (n:=R.length) (jD R) wk.n25 (sh.lt _ (pX (by lia))) (uX wk) M1) λd M2 ⟨e,ks,vs,hd,hlen,ds,nd,hr,ltk,k2⟩=>?_
 subst e
 try simp only[cD,aq]
 walk_at "h";have rg:oE [nD (fU (aJ R) l)]=some (.fix ((List.range (fU (aJ R) l)).map nD)):=dZ (by lia)
 simp[aW,cz,rg];refine Rn.bind (mD (qN (as:=List.range (fU (aJ R) l)) nD (λz=>true) (λi=>nT (l.filter λx=>decide (dst (aJ R) (ga l 0) x%fU (aJ R) l=i))) (by simpa using ht) (λa z=>Rn.pure ⟨rfl,rfl⟩) (λa ha z=>?_))) λq M3 ⟨e1,e2⟩=>?_
 ·have tp:0<fU (aJ R) l:=by have:=Wr.mp ha;lia
  simp[aW,cz,RJ];refine Rn.bind (mD (qN (as:=l) nD (λx=>decide (dst (aJ R) (ga l 0) x%fU (aJ R) l=a)) nD (by have:=sh.hl;lia) (λx hx=>?_) (λx z z=>?_))) λq M3 ⟨e1,e2⟩=>?_
  ·simp;refine Rn.bindRd _ (nQ hd hlen ((hr x).mpr (sh.cl x hx))) ?_;rw[ds.dst hr (sh.cl x hx)];rw[gB tp,aq,m9];exact Rn.pure ⟨rfl,rfl⟩
  ·exact Rn.pure ⟨rfl,rfl⟩
  ·subst e1;rw[e2];exact Rn.pure ⟨rfl,rfl⟩
 ·subst e1;rw[e2];refine Rn.pure ⟨_,rfl,?_,λj o h=>k2 j o (k1 j o h)⟩
  rw[aaI.mpr (λz z=>rfl)]
  unfold nM vy;rw[W4];rfl
structure Smn(n:Nat)(l:C0):Prop where
 ne:l≠[]
 lt:∀i∈l,i<n
 len:l.length<=100
def Cy(h:n<=1000):(rd (λM=>(jw [nD n] M).map D.lst):DM D)=pure (.lst ((List.range n).map nD)):=cB λM=>by
 have:jw [nD n] M=some ((List.range n).map nD):=by
  unfold nD;show (if -(2^62)<=(n:Int)/\(n:Int)<=2^20 then some ((List.range (n:Int).toNat).map nD) else none)=_
  rw[Wq ⟨by lia,by lia⟩,Yc]
  rfl
 rw[this];rfl
def O3(h:n<=1000):(rd (λM=>(jw [nD n] M).map D.tup):DM D)=pure (nT (List.range n)):=cB λM=>by
 have:jw [nD n] M=some ((List.range n).map nD):=by
  unfold nD;show (if -(2^62)<=(n:Int)/\(n:Int)<=2^20 then some ((List.range (n:Int).toNat).map nD) else none)=_
  rw[Wq ⟨by lia,by lia⟩,Yc]
  rfl
 rw[this];rfl
def O2(a b:Nat):(rd (cY (λz z=>true) (λi j=>.int (i+j)) (nD a) (nD b)):DM D)=pure (nD (a+b)):=cB λM=>by simp[cY,nD]
def rF{a b:C0}(h:a.length+b.length<=1000000):(rd (cX (.lst (a.map nD)) (.lst (b.map nD))):DM D)=pure (.lst ((a++b).map nD)):=cB λM=>by
 have:eG (a.map nD++b.map nD)=true:=by unfold eG;exact WY (by show _<=2^24;rw[W3,Wm,Wm];lia)
 simp[cX,aN,Kf,this]
def O4(x:Nat)(b:Bool):(rd (λM=>(qg (.lst [nD x]) (nD (if b then 1 else 0)) M).map D.lst):DM D)=pure (.lst ((if b then [x] else []).map nD)):=cB λM=>by cases b<;>rfl
noncomputable def yh:=aD 2 10 (rR Fq)
structure RwsS(M0:Mo)(p q n W:Nat)(i:Nat)(M:Mo):Prop where
 pen:gm p M
 sb:Sb p M0 M
 ex:∃R:A6,R.length=i/\M[q]?=some (.lst (R.map nT))/\∀r∈R,r.length=n/\r.sum=W
noncomputable def Di(M0:Mo)(p tp q n W kd:Nat)(i:Nat)(δ:aj)(M:Mo):Prop:=(∃z6 z7 z8 z9,δ=[some (.ref p),some (nD tp),some (nD n),some (nD W),some (nD kd),some (.ref q),z6,z7,z8,z9])/\RwsS M0 p q n W i M
structure BalS(M0:Mo)(p q t n:Nat)(L:A6)(i:Nat)(M:Mo):Prop where
 pen:gm p M
 sb:Sb p M0 M
 atq:M[q]?=some (.lst (L.map nT))
 ex:∃r:C0,M[t]?=some (.lst (r.map nD))/\r.length=n/\r.sum=i
noncomputable def Um(M0:Mo)(p q t n:Nat)(L:A6)(pre:aj)(i:Nat)(δ:aj)(M:Mo):Prop:=(∃z9,δ=pre++[z9])/\BalS M0 p q t n L i M
def Pg{p tp:Nat}(hp:gm p M)(h1:1<=tp)(h2:tp<=6):Rn (yh [.ref p,nD tp]) M λd M'=>∃ (R:A6) (W:Nat),d=nM R/\WK R W/\R.length<=tp/\W<=12/\gm p M'/\Sb p M M':=by
 have hpl:=hp.lt;unfold yh rR lM;walk_at "g";have st:aZ 10 [D.ref p,nD tp]=[some (.ref p),some (nD tp),none,none,none,none,none,none,none,none]:=rfl;rw[st];walk_at "c"
 simp;refine Rn.bind (mK hp (by lia:0<tp) (by lia)) λd1 M1 ⟨t1,g1,e1,a8,s1⟩=>?_
 subst e1;have ml:iQ [.int 1,.int 2,.int 3,.int 4,.int 6,.int 12]=pure (.lst ([1,2,3,4,6,12].map nD)):=fB (by simp)
 simp only[RC,aq,ml];have d6:=mK (m:=6) a8 (by decide) (by decide)
 refine Rn.bind d6 λd2 M2 ⟨t2,g2,e2,hp2,s2⟩=>?_
 subst e2;have ht2:t2<[1,2,3,4,6,12].length:=by simpa using g2
 rw[HW ht2];have hW:1<=ga [1,2,3,4,6,12] t2/\ga [1,2,3,4,6,12] t2<=12:=by
  have:=pX ht2;generalize ga [1,2,3,4,6,12] t2=x at this;simp at this
  lia
 revert hW;generalize ga [1,2,3,4,6,12] t2=W;intro hW;have d7:=mK (m:=7) hp2 (by decide) (by decide)
 simp only[aq];refine Rn.bind d7 λd3 M3 ⟨kd,g3,e3,rj,s3⟩=>?_
 subst e3;rw[hK];clear hK K d6 d7 ml ht2;have sb3:Sb p M M3:=s1.trans (s2.trans s3);have hn1:1<=t1+1:=by lia
 have nh:t1+1<=tp:=by lia
 revert hn1 nh;generalize t1+1=n;intro n1 n2
 -- the list of rows
 walk_at "c"
 simp;refine Rn.fM (by simp) ?_
 have pq:p≠M3.length:=by have:=rj.lt;lia
 have ql:M.length<=M3.length:=sb3.le;have st0:RwsS M p M3.length n W 0 (M3++[.lst []]):=⟨rj.sb (q:=M3.length) Sb.push pq,Sb.new (p:=p) (.inr sb3.le) ql Sb.push sb3,[],rfl,by simp,by simp⟩
 rw[hK];clear hK K a8 hp2 rj s1 s2 s3;revert st0 pq ql;generalize M3.length=q;generalize M3++[DO.lst []]=M4;intro pq ql st0;walk_at "c"
 simp[dZ (n:=n) (by lia),fF]
 refine Rn.bind (bL (Di M p tp q n W kd) _ 0 _ _ ⟨⟨_,_,_,_,rfl⟩,st0⟩ (λx d δ M5 hx hI=>?_)) (λr M5 hI=>?_)
 rotate_left
 ·obtain⟨δ',rfl,⟨z6,z7,z8,z9,rfl⟩,hp5,sb5,R,lR,at5,hR⟩:=hI;walk_at "h";rw[Wm,W7,Xd]at lR;simp;refine Rn.bindRd (nM R) (by show (aN (.ref q) M5).map _=_;simp only[aN,at5];rfl) ?_
  exact Rn.pure ⟨_,rfl,R,rfl,W,⟨by lia,by lia,λr hr=>by rw[(hR r hr).1,lR],λr hr=>(hR r hr).2,hW.1⟩,by lia,hW.2,hp5,sb5⟩
 clear hK K;obtain⟨⟨z6,z7,z8,z9,rfl⟩,hp5,sb5,R,lR,at5,hR⟩:=hI;obtain⟨ck,rfl⟩:=oG hx;rw[Xd]at lR ⊢
 rw[dU,aq];have hQ:∀δ' M',Di M p tp q n W kd (x+1) δ' M'->(λ(r:Fl) (M':Mo)=>∃δ',r=.nx δ'/\Di M p tp q n W kd (x+1) δ' M') (.nx δ') M':=λδ' M' h=>⟨δ',rfl,h⟩
 revert hQ;generalize (λ(r:Fl) (M':Mo)=>∃δ',r=.nx δ'/\Di M p tp q n W kd (x+1) δ' M')=Q
 intro hQ
 -- all places
 walk_at "c"
 simp[Cy (n:=n) (by lia)]
 walk_at "h";have som0:Smn n (List.range n):=⟨by simp;lia,λi hi=>Wr.mp hi,by simp;lia⟩
 let G:(Fl->DM Fl)->Prop:=λK=>∀(l:C0) (M6:Mo),Smn n l->gm p M6->Sb p M5 M6->Rn (K (.nx [some (.ref p),some (nD tp),some (nD n),some (nD W),some (nD kd),some (.ref q),some (nD x),some (.lst (l.map nD)),z8,z9])) M6 Q
 have ev:∀c:Nat,∀b,decide (kd=c)=b->(rd (dg (nD kd) (nD c)):DM D)=pure (.bl b):=λc b h=>h ▸ m9 kd c
 -- 1
 walk_at "c"
 suffices H:G K by
  by_cases h:kd=1
  ·have e:(rd (dg (nD kd) (.int 1)):DM D)=_:=ev 1 _ (WY h);simp[e];refine Rn.bind (mK hp5 (by lia:0<n) (by lia)) λd1 M7 ⟨u1,g1,e1,hp7,s7⟩=>?_
   refine Rn.bind (mK hp7 (by lia:0<n) (by lia)) λd2 M8 ⟨u2,g2,e2,hp8,s8⟩=>?_
   subst e1 e2;have ml:iQ [nD u1,nD u2]=pure (.lst ([u1,u2].map nD)):=fB (by simp)
   simp only[ml,aq];exact H [u1,u2] M8 ⟨by simp,λi hi=>by simp at hi;lia,by simp⟩ hp8 (s7.trans s8)
  ·have e:(rd (dg (nD kd) (.int 1)):DM D)=_:=ev 1 _ (Xo h);simp[e];exact H _ _ som0 hp5 Sb.refl
 intro l1 M6_1 som1 hp6_1 sb6_1;walk_at "h"
 -- 2
 walk_at "c"
 suffices H:G K by
  by_cases h:kd=2
  ·have e:(rd (dg (nD kd) (.int 2)):DM D)=_:=ev 2 _ (WY h);have ml:iQ [nD ((x+1)%n)]=pure (.lst ([(x+1)%n].map nD)):=fB (by simp)
   have hm:=Yj (x+1) (show n > 0 by lia)
   simp[e,Cu,gB (a:=x+1) (b:=n) (by lia),ml]
   exact H [(x+1)%n] _ ⟨by simp,λi hi=>by simp at hi;lia,by simp⟩ hp6_1 sb6_1
  ·have e:(rd (dg (nD kd) (.int 2)):DM D)=_:=ev 2 _ (Xo h);simp[e];exact H _ _ som1 hp6_1 sb6_1
 intro l2 M6_2 som2 hp6_2 sb6_2;walk_at "h"
 -- 3
 walk_at "c"
 suffices H:G K by
  by_cases h:kd=3
  ·have e:(rd (dg (nD kd) (.int 3)):DM D)=_:=ev 3 _ (WY h);have md:∀y:Nat,(rd (je (nD y) (.int 2)):DM D)=pure (nD (y%2)):=λy=>gB (b:=2) (by decide)
   have e1:(rd (dg (nD n) (.int 1)):DM D)=pure (.bl (decide (n=1))):=m9 n 1;have ml:iQ [nD x]=pure (.lst [nD x]):=fB (by simp)
   have fl:((List.range n).filter λy=>!decide (y%2=x%2)).length<=n:=by
    have:=Xg (λy=>!decide (y%2=x%2)) (List.range n)
    rwa [W7]at this
   have il:(if decide (n=1)=true then [x] else []).length<=1:=by split<;>simp
   have ad:=rF (a:=(List.range n).filter λy=>!decide (y%2=x%2)) (b:=if decide (n=1)=true then [x] else []) (by lia)
   have mu:=O4 x (decide (n=1));have ge:=H (((List.range n).filter λy=>!decide (y%2=x%2))++if decide (n=1)=true then [x] else []) M6_2 ⟨λz=>?_,λi hi=>?_,?_⟩ hp6_2 sb6_2
   ·simp only[cD,bR,bj,aG,e,fu,if_true,dZ (n:=n) (by lia),vV,aW,cz,List.length_cons,List.length_nil,List.map_cons,List.map_nil,List.replicate_succ,List.replicate_zero,List.cons_append,List.nil_append,Option.getD_some]
    rw[aR nD (λy=>!decide (y%2=x%2)) nD (by simp;lia) (λy hy=>by simp[md,H9]) (λy hy w=>by simp)]
    simp only[cD,aq,zP,ml,e1,GR,mu,ad];exact ge
   ·rw [List.append_eq_nil_iff] at z
    by_cases h1:n=1
    ·rw[WY h1,Wq rfl]at z;cases z.2
    ·have m:(if x % 2=0 then 1 else 0)∈(List.range n).filter λy=>!decide (y % 2=x % 2):=by
      rw[WN,Wr];constructor
      ·split<;>lia
      ·by_cases h2:x%2=0
       ·simp[h2]
       ·have:x%2=1:=by lia
        simp[this]
     rw[z.1]at m;cases m
   ·rcases WF.mp hi with h2 | h2
    ·exact Wr.mp (WN.mp h2).1
    ·split at h2
     ·simp at h2;lia
     ·cases h2
   ·rw[W3];lia
  ·have e:(rd (dg (nD kd) (.int 3)):DM D)=_:=ev 3 _ (Xo h);simp[e];exact H _ _ som2 hp6_2 sb6_2
 intro l3 M6_3 som3 hp6_3 sb6_3;walk_at "h"
 -- 4
 walk_at "c"
 suffices H:G K by
  by_cases h:kd=4
  ·have e:(rd (dg (nD kd) (.int 4)):DM D)=_:=ev 4 _ (WY h);have dv:∀y:Nat,(rd (uP (nD y) (.int 2)):DM D)=pure (nD (y / 2)):=λy=>zJ (b:=2) (by decide) (by decide)
   have fl:((List.range n).filter λy=>decide (y / 2=x / 2)).length<=n:=by
    have:=Xg (λy=>decide (y / 2=x / 2)) (List.range n)
    rwa [W7]at this
   simp only[cD,bR,bj,aG,e,fu,if_true,dZ (n:=n) (by lia),vV,aW,cz,List.length_cons,List.length_nil,List.map_cons,List.map_nil,List.replicate_succ,List.replicate_zero,List.cons_append,List.nil_append,Option.getD_some]
   rw[aR nD (λy=>decide (y / 2=x / 2)) nD (by simp;lia) (λy hy=>by simp[dv,m9]) (λy hy w=>by simp)]
   simp only[cD,aq,zP];refine H _ _ ⟨λz=>?_,λi hi=>Wr.mp (WN.mp hi).1,by lia⟩ hp6_3 sb6_3
   have m:x∈(List.range n).filter λy=>decide (y / 2=x / 2):=by rw[WN,Wr];exact⟨ck,by simp⟩
   rw[z]at m;cases m
  ·have e:(rd (dg (nD kd) (.int 4)):DM D)=_:=ev 4 _ (Xo h);simp[e];exact H _ _ som3 hp6_3 sb6_3
 intro l4 M6_4 som4 hp6_4 sb6_4;walk_at "h"
 -- 5
 walk_at "c"
 suffices H:G K by
  by_cases h:kd=5
  ·have e:(rd (dg (nD kd) (.int 5)):DM D)=_:=ev 5 _ (WY h);simp[e,Cu,Cy (n:=x+1) (by lia)]
   exact H (List.range (x+1)) _ ⟨by simp,λi hi=>by have:=Wr.mp hi;lia,by simp;lia⟩ hp6_4 sb6_4
  ·have e:(rd (dg (nD kd) (.int 5)):DM D)=_:=ev 5 _ (Xo h);simp[e];exact H _ _ som4 hp6_4 sb6_4
 intro l5 M6_5 rq hp6_5 sb6_5;walk_at "h"
 -- the row
 have q6:q<M6_5.length:=(Wj.mp (sb6_5.at (λz=>pq z.symm) at5)).1
 have at6:=sb6_5.at (λz=>pq z.symm) at5
 have sb6:Sb p M M6_5:=sb5.trans sb6_5;have m0:iQ [.int 0]=pure (.lst [.int 0]):=fB (by simp)
 walk_at "c"
 simp[m0];refine Kl (by lia) ?_
 have pt:p≠M6_5.length:=by have:=hp6_5.lt;lia
 have qt:q≠M6_5.length:=by lia
 have tl:M.length<=M6_5.length:=sb6.le;have bs0:BalS M p q M6_5.length n R 0 (M6_5++[.lst ((List.replicate n 0).map nD)]):=⟨hp6_5.sb (q:=M6_5.length) Sb.push pt,Sb.new (p:=p) (.inr sb6.le) tl Sb.push sb6,by rw[WD q6];exact at6,List.replicate n 0,by simp,by simp,by simp⟩
 walk_at "h";revert bs0 pt qt tl;generalize M6_5.length=t;generalize M6_5++[DO.lst ((List.replicate n 0).map nD)]=M7;intro pt qt tl bs0
 -- ball by ball
 walk_at "c"
 simp[dZ (n:=W) (by lia),fF]
 refine Rn.bind (bL (Um M p q t n R [some (.ref p),some (nD tp),some (nD n),some (nD W),some (nD kd),some (.ref q),some (nD x),some (.lst (l5.map nD)),some (.ref t)]) _ 0 _ _ ⟨⟨z9,rfl⟩,bs0⟩ (λj d δ M8 hj hI=>?_)) (λr M8 hI=>?_)
 ·obtain⟨⟨z9,rfl⟩,hp8,sb8,ku,r,at8,lr,sr⟩:=hI;obtain⟨hj',rfl⟩:=oG hj;rw[Xd]at sr ⊢
  rw[dU,aq];have ln:(rd (ik [.lst (l5.map nD)]):DM D)=pure (nD l5.length):=by simp[nD]
  have l0:0<l5.length:=aaK.mpr rq.ne;simp[ln];refine Rn.bind (mK hp8 l0 (by have:=rq.len;lia)) λd9 M9 ⟨u,g9,e9,hp9,s9⟩=>?_
  subst e9;simp only[HW g9,aq];have ul:ga l5 u<r.length:=by rw[lr];exact rq.lt _ (pX g9)
  have at9:=s9.at (λz=>pt z.symm) at8
  have atq9:=s9.at (λz=>pq z.symm) ku
  have t9:=(Wj.mp at9).1;generalize ga l5 u=v at ul;refine Rn.bindRd (nD (ga r v)) (by
   show (if 0<=(v:Int) then (aN (.ref t) M9).bind λl=>atI l (v:Int) else none)=_
   rw[Wq (by lia)]
   simp only[aN,at9,Option.bind_some];exact pK (by rw[WM,Wl ul,qW ul];rfl)) ?_
  have ia:(rd (cY (λw w=>true) (λi j=>.int (i+j)) (nD (ga r v)) (.int 1)):DM D)=pure (nD (ga r v+1)):=O2 (ga r v) 1
  simp[ia];refine Rn.run (rH at9 (by rw[Wm];exact ul)) ?_
  refine Rn.pure ⟨_,rfl,⟨_,rfl⟩,hp9.sb (q:=t) Sb.set pt,Sb.new (p:=p) (.inr (sb8.trans s9).le) tl Sb.set (sb8.trans s9),by rw[Xh (λz=>qt z.symm)];exact atq9,r.set v (ga r v+1),?_,by rw[Ye];exact lr,?_⟩
  ·rw[W8 t9,List.map_set]
  ·have:=Pk (l:=r) (i:=v) (v:=ga r v+1) ul
   lia
 obtain⟨δ',rfl,⟨z9,rfl⟩,hp8,sb8,ku,r,at8,lr,sr⟩:=hI;rw[Wm,W7,Xd]at sr;walk_at "h";simp;refine Rn.bindRd _ (by simp only[aN,ku];rfl) ?_
 refine Rn.bindRd (nT r) (by show (aN (.ref t) M8).map _=_;simp only[aN,at8];rfl) ?_
 have q8:=(Wj.mp ku).1;refine Rn.run (mF ku (by rw[Wm];lia)) ?_
 refine Rn.pure (hQ _ _ ⟨⟨_,_,_,_,rfl⟩,hp8.sb (q:=q) Sb.set pq,Sb.new (p:=p) (.inr sb8.le) ql Sb.set sb8,R++[r],by simp[lR],by rw[W8 q8];simp,λr' hr'=>?_⟩)
 rcases WF.mp hr' with z | z
 ·exact hR r' z
 ·rw[Wx.mp z];exact⟨lr,sr⟩
end K
namespace K
open PySem L2 L3 N10 LB
def Ab{n:Nat}{l:C0}(h:∀ x∈l,x<n):iW (l.map λn:Nat=>(n:Int))=((List.range n).filter λy=>decide (y∈l)).map λn:Nat=>(n:Int):=by
 refine fQ ((ZQ (Iv _) ?_).mpr λx=>?_) (cg _).2 ?_
 ·rw[List.Nodup,Zo];exact (List.nodup_range.filter _).imp λh z=>h (by lia)
 ·rw[Pz,WQ,WQ];constructor
  ·rintro⟨a,ha,rfl⟩;exact⟨a,WN.mpr ⟨Wr.mpr (h a ha),by simpa using ha⟩,rfl⟩
  ·rintro⟨a,ha,rfl⟩;exact⟨a,by simpa using (WN.mp ha).2,rfl⟩
 ·rw[Zo];refine List.Pairwise.imp (λh=>?_) ((Yv (n:=n)).filter _)
  lia
def ro(n:Nat)(A:Nat->Nat->Bool)(x:Nat):C0:=(List.range n).filter (A x)
noncomputable def cW(n:Nat)(A:Nat->Nat->Bool)(x:Nat):D:=.lst ((ro n A x).map nD)
def Ia{n:Nat}{l:C0}(h:∀x∈l,x<n)(hl:l.length<=60):(λM=>(Ac [.lst (l.map nD)] M).map D.lst) M=some (.lst (((List.range n).filter λy=>decide (y∈l)).map nD)):=by
 have e:l.map nD=(l.map λn:Nat=>(n:Int)).map D.int:=by rw[W4];rfl
 show (Ac [.lst (l.map nD)] M).map D.lst=_;unfold Ac;simp only[aN,Option.bind_some];rw[e,nW,YT,Wq (by simpa using hl),Ab h]
 simp[nD]
def dI(A:Nat->Nat->Bool)(m x:Nat):Nat->Nat->Bool:=λi j=>if i<x then A i j || (A i m&&A m j) else A i j
def jX(A:Nat->Nat->Bool)(n:Nat):Nat->Nat->Nat->Bool
 |0=>A
 |m+1=>dI (jX A n m) m n
structure Wa(n:Nat)(E A:Nat->Nat->Bool)(m:Nat):Prop where
 refl:∀x,x<n->A x x=true
 base:∀x y,x<n->y<n->E x y=true->A x y=true
 tr:∀x y k,x<n->y<n->k<m->A x k=true->A k y=true->A x y=true
def Wa.step(h:Wa n E A m)(hm:m<n):Wa n E (dI A m n) (m + 1):=by
 have e:∀x y,x<n->dI A m n x y=(A x y || (A x m&&A m y)):=λx y hx=>by unfold dI;rw[Wq hx]
 refine⟨λx hx=>by rw[e x x hx,h.refl x hx];rfl,λx y hx hy hb=>by rw[e x y hx,h.base x y hx hy hb];rfl,λx y k hx hy hk h1 h2=>?_⟩
 have hkn:k<n:=by lia
 rw[e x k hx]at h1;rw[e k y hkn]at h2;rw[e x y hx];simp only[Bool.or_eq_true,Bool.and_eq_true]at h1 h2 ⊢
 by_cases c:k=m
 ·subst c;have a1:A x k=true:=by rcases h1 with z | z;exact z;exact z.1
  have a2:A k y=true:=by rcases h2 with z | z;exact z;exact z.2
  exact .inr ⟨a1,a2⟩
 ·have lk:k<m:=by lia
  rcases h1 with h1 | ⟨h1,h1'⟩
  ·rcases h2 with h2 | ⟨h2,kn⟩
   ·exact .inl (h.tr x y k hx hy lk h1 h2)
   ·exact .inr ⟨h.tr x m k hx hm lk h1 h2,kn⟩
  ·rcases h2 with h2 | ⟨h2,kn⟩
   ·exact .inr ⟨h1,h.tr m y k hm hy lk h1' h2⟩
   ·exact .inr ⟨h1,kn⟩
def Rch.trans(h1:Rch N x y)(h2:Rch N y z):Rch N x z:=by
 induction h2 with
 |here=>exact h1
 |step _ e ih=>exact ih.step e
noncomputable def A0(R:A6):Nat->Nat->Bool:=λx y=>decide (y=x) || decide (0<ga (gr R x) y)
theorem lF{R:A6}{W:Nat}(h:WK R W):∀ (m x y:Nat),m<=R.length->x<R.length->y<R.length->jX (A0 R) R.length m x y=true->Rch (aJ R) x y
 | 0,x,y,_,hx,hy,e=>by
   unfold jX A0 at e;simp only[Bool.or_eq_true,decide_eq_true_eq]at e;rcases e with rfl | e
   ·exact .here
   ·refine .step .here ?_;rw[uW hx];exact WN.mpr ⟨Wr.mpr (by rw[h.row _ (gr_mem hx)];exact hy),by simpa using e⟩
 |m+1,x,y,hm,hx,hy,e=>by
   unfold jX dI at e;rw[Wq hx]at e;simp only[Bool.or_eq_true,Bool.and_eq_true]at e;rcases e with e | ⟨e1,e2⟩
   ·exact lF h m x y (by lia) hx hy e
   ·exact (lF h m x m (by lia) hx (by lia) e1).trans (lF h m m y (by lia) (by lia) hy e2)
theorem Jj(R:A6):∀m,m<=R.length->Wa R.length (A0 R) (jX (A0 R) R.length m) m
 |0,_=>⟨λx z=>by simp[jX,A0],λz z z z h=>h,λz z z z z h=>by lia⟩
 |m+1,hm=>(Jj R m (by lia)).step (by lia)
set_option tactic.hygienic true in
def Ss{R:A6}{W:Nat}(h:WK R W){x y:Nat}(hx:x<R.length)(hy:y<R.length):jX (A0 R) R.length R.length x y=rc (aJ R) x y:=by
 rw[WW,iT];refine⟨lF h _ x y (Wn _) hx hy,λr=>?_⟩
 have wa:=Jj R R.length (Wn _);induction r with
 |here=>exact wa.refl x hx
 | step r e ih=>
   rename_i b c;have hb:b<R.length:=by
    cases r with
    |here=>exact hx
    |step _ e=>exact uX h _ _ e
   have b1:=ih hb;rw[uW hb]at e;exact wa.tr x c b hx hy hb b1 (wa.base b c hb hy (by
    unfold A0;have:=(WN.mp e).2;simp at this ⊢
    exact .inr this))
def Sq{R:A6}{W:Nat}(h:WK R W):(List.range R.length).map (ro R.length (jX (A0 R) R.length R.length))=LD R:=by
 unfold LD gh;refine Yq λx hx=>?_
 unfold ro;exact Zr λy hy=>Ss h (Wr.mp hx) (Wr.mp hy)
noncomputable def xX:=aD 1 5 uA
def bW(M M':Mo):Prop:=∀(j:Nat) (o:DO),M[j]?=some o->M'[j]?=some o
def Mh(i:Nat)(l:C0):(rd (inD (nD i) (.lst (l.map nD))):DM D)=Pure.pure (.bl (l.contains i)):=cB λM=>by show ((intsOf (l.map nD))).map _=_;rw[iJ,Z2,J0]
def R0(hm:m<n):(ro n A x).contains m=A x m:=by rw[WW,YD];unfold ro;rw[WN,Wr];exact⟨λh=>h.2,λh=>⟨hm,h⟩⟩
def oJ(h:∀y,y<n->A x y=B x y):cW n A x=cW n B x:=by unfold cW ro;rw[Zr λy hy=>h y (Wr.mp hy)]
def IV(h:i≠x):dI A m (x+1) i j=dI A m x i j:=by
 unfold dI;by_cases c:i<x
 ·rw[Wq c,Wq (by lia)]
 ·rw[Ww c,Ww (by lia)]
def Af:dI A m x x j=A x j:=by unfold dI;rw[Ww (by lia)]
def Ag:dI A m (x+1) x j=(A x j || (A x m&&A m j)):=by unfold dI;rw[Wq (by lia)]
def PN:dI A m x m j=A m j:=by
 unfold dI;split
 ·cases A m j<;>simp
 ·rfl
def zV(hx:x<n)(hd:d=cW n (dI A m (x + 1)) x):((List.range n).map (cW n (dI A m x))).set x d=(List.range n).map (cW n (dI A m (x + 1))):=by
 apply aav
 ·simp
 ·intro i h1 h2;simp at h1;rw[List.getElem_set];split
  ·rename_i e;subst e;rw[hd];simp
  ·rename_i e;simp;exact oJ λy w=>(IV (λz=>e z.symm)).symm
noncomputable def Vj(R:A6)(M0:Mo)(m:Nat)(δ:aj)(M:Mo):Prop:=(∃z3 z4,δ=[some (nM R),some (nD R.length),some (.ref M0.length),z3,z4])/\bW M0 M/\M[M0.length]?=some (.lst ((List.range R.length).map (cW R.length (jX (A0 R) R.length m))))
noncomputable def Vg(R:A6)(M0:Mo)(m x:Nat)(δ:aj)(M:Mo):Prop:=(∃z4,δ=[some (nM R),some (nD R.length),some (.ref M0.length),some (nD m),z4])/\bW M0 M/\M[M0.length]?=some (.lst ((List.range R.length).map (cW R.length (dI (jX (A0 R) R.length m) m x))))
def N5{R:A6}{W:Nat}(h:WK R W)(M:Mo):Rn (xX [nM R]) M λd M'=>d=nM (LD R)/\bW M M':=by
 have n1:=h.n1;have n25:=h.n25;have l0:(rd (ik [nM R]):DM D)=pure (nD R.length):=by simp[nM,nD]
 unfold xX uA oA;walk_at "g";have st:aZ 5 [nM R]=[some (nM R),none,none,none,none]:=rfl;rw[st];walk_at "c"
 simp[l0];walk_at "h";walk_at "c"
 simp[dZ (n:=R.length) (by lia),lA]
 have ce:aW 1 [1,0] [some (nM R),some (nD R.length),none,none,none]=[none,some (nD R.length),some (nM R)]:=rfl;rw[ce,fj nD (cW R.length (A0 R)) (by simp;lia) λx hx=>?_]
 rotate_left
 ·have hx:=Wr.mp hx;have lr:=h.row _ (gr_mem hx);have m1:iQ [nD x]=pure (.lst ([x].map nD)):=fB (by simp)
  have rh:aW 1 [2,0] [some (nD x),some (nD R.length),some (nM R)]=[none,some (nM R),some (nD x)]:=rfl;simp only[bR,m1,dZ (n:=R.length) (by lia),lA,rh]
  rw[aR nD (λy=>decide (0<ga (gr R x) y)) nD (by simp;lia) (λy hy=>?_) (λy hy w=>by simp)]
  rotate_left
  ·have hy:=Wr.mp hy;have gt:(rd (mU (nD (ga (gr R x) y)) (.int 0)):DM D)=pure (.bl (decide (0<ga (gr R x) y))):=qm _ 0;simp[zK (R:=R) (i:=x) hx,lu (l:=gr R x) (i:=y) (by lia),gt]
  have fl:=Xg (λy=>decide (0<ga (gr R x) y)) (List.range R.length)
  rw[W7]at fl;simp only[aq];rw[rF (a:=[x]) (b:=(List.range R.length).filter λy=>decide (0<ga (gr R x) y)) (by simp;lia),aq]
  refine cB λM=>?_
  have i7:([x]++(List.range R.length).filter λy=>decide (0<ga (gr R x) y)).length<=60:=by simp;lia
  refine (Ia (n:=R.length) (λy hy=>?_) i7).trans ?_
  rotate_left
  ·unfold cW ro;congr 3;refine Zr λy hy=>?_
   unfold A0;rw[WW];simp[List.mem_range.mp hy]
  ·rcases WF.mp hy with z | z
   ·simp at z;lia
   ·exact Wr.mp (WN.mp z).1
 simp only[aq];refine Rn.run (a:=.ref M.length) (M':=M++[.lst ((List.range R.length).map (cW R.length (A0 R)))]) rfl ?_;walk_at "h";have kp0:bW M (M++[.lst ((List.range R.length).map (cW R.length (A0 R)))]):=λj o e=>by rw[WD (Wj.mp e).1];exact e
 have r6:(M++[.lst ((List.range R.length).map (cW R.length (A0 R)))])[M.length]?=some (.lst ((List.range R.length).map (cW R.length (jX (A0 R) R.length 0)))):=by simp[jX]
 revert kp0 r6;generalize M++[.lst ((List.range R.length).map (cW R.length (A0 R)))]=M1;intro kp0 r6;walk_at "c"
 simp[dZ (n:=R.length) (by lia),fF]
 refine Rn.bind (bL (Vj R M) _ 0 _ _ ⟨⟨_,_,rfl⟩,kp0,r6⟩ (λm d δ M2 hm hI=>?_)) (λr M2 hI=>?_)
 ·clear hK K;obtain⟨⟨z3,z4,rfl⟩,kp,at2⟩:=hI;obtain⟨hm',rfl⟩:=oG hm;rw[Xd]at at2 ⊢
  simp only[cD,bR,dU,dZ (n:=R.length) (by lia),fF]
  have gz:M2[M.length]?=some (.lst ((List.range R.length).map (cW R.length (dI (jX (A0 R) R.length m) m 0)))):=by rw[at2];congr 3
  refine (bL (Vg R M m) _ 0 _ _ ⟨⟨_,rfl⟩,kp,gz⟩ (λx d δ M3 hx hI=>?_)).mono λr M3 hI=>?_
  ·obtain ⟨⟨z4,rfl⟩,kp3,gz⟩:=hI;obtain⟨ck,rfl⟩:=oG hx;rw[Xd]at gz ⊢
   have q3:=(Wj.mp gz).1;generalize hA:jX (A0 R) R.length m=A at gz;have ix:∀i,i<R.length->dC (.ref M.length) (nD i) M3=some (cW R.length (dI A m x) i):=λi hi=>jJ (i:=i) gz (by rw[WM,XJ hi];rfl)
   have ex:cW R.length (dI A m x) x=cW R.length A x:=oJ λy w=>Af
   have em:cW R.length (dI A m x) m=cW R.length A m:=oJ λy w=>PN
   simp only[cD,bR,dU];refine Rn.bindRd _ (ix x ck) ?_;rw[ex];have inn:(rd (inD (nD m) (cW R.length A x)):DM D)=pure (.bl (A x m)):=by unfold cW;rw[Mh,R0 hm']
   simp only[inn,aq,fu];cases hc:A x m with
   | true=>
     rw[Wq rfl];refine Rn.bindRd _ (ix x ck) ?_;refine Rn.bindRd _ (ix m hm') ?_;rw[ex,em];have f1:=Xg (A x) (List.range R.length);have f2:=Xg (A m) (List.range R.length);rw[W7]at f1 f2;have ad:(rd (cX (cW R.length A x) (cW R.length A m)):DM D)=pure (.lst ((ro R.length A x++ro R.length A m).map nD)):=rF (by unfold ro;lia)
     simp only[ad,aq];refine Rn.bindRd _ (Ia (n:=R.length) (l:=ro R.length A x++ro R.length A m) (λy hy=>?_) (by unfold ro;rw[W3];lia)) ?_
     ·rcases WF.mp hy with z | z
      ·exact Wr.mp (WN.mp z).1
      ·exact Wr.mp (WN.mp z).1
     refine Rn.run (rH (i:=x) gz (by simpa using ck)) ?_
     have er:D.lst (((List.range R.length).filter λy=>decide (y∈ro R.length A x++ro R.length A m)).map nD)=cW R.length (dI A m (x+1)) x:=by
      unfold cW;congr 2;unfold ro;refine Zr λy hy=>?_
      rw[Ag,hc,WW];simp[List.mem_range.mp hy]
     rw[zV ck er];refine Rn.pure ⟨_,rfl,⟨_,rfl⟩,λj o e=>?_,by rw[W8 q3,hA]⟩
     rw[Xh (λz=>by have:=(Wj.mp e).1;lia)]
     exact kp3 j o e
   | false=>
     rw[Ww (by decide)]
     refine Rn.pure ⟨_,rfl,⟨_,rfl⟩,kp3,?_⟩;rw[gz,hA];congr 2;have e:=zV (m:=m) (A:=A) ck (d:=cW R.length (dI A m (x+1)) x) rfl;rw[<-e];symm;have:cW R.length (dI A m (x+1)) x=((List.range R.length).map (cW R.length (dI A m x)))[x]'(by simpa using ck):=by simp;exact oJ λy w=>by rw[Ag,Af,hc];simp
     rw[this,List.set_getElem_self]
  ·obtain⟨δ',rfl,⟨z4,rfl⟩,kp3,gz⟩:=hI;rw[Wm,W7,Xd]at gz;exact⟨_,rfl,⟨_,_,rfl⟩,kp3,gz⟩
 ·obtain⟨δ',rfl,⟨z3,z4,rfl⟩,kp,at2⟩:=hI;rw[Wm,W7,Xd]at at2;walk_at "h";have ce3:aW 1 [] [some (nM R),some (nD R.length),some (D.ref M.length),z3,z4]=[none]:=rfl;simp[ce3];have gz:M2[M.length]?=some (.lst (((List.range R.length).map (ro R.length (jX (A0 R) R.length R.length))).map λl=>.lst (l.map nD))):=by rw[at2,W4];rfl
  refine Nv (λl:C0=>.lst (l.map nD)) nT gz (by simp;lia) (λl w=>?_) (λl=>pure (Fl.rt (D.tup l))) (λq=>rfl) ?_
  ·simp;rfl
  ·refine Rn.pure ⟨_,rfl,?_,kp⟩;rw[Sq h];rfl
noncomputable def xY:=aD 1 3 (rW xX)
def RP(a b:C0):(rd (gQ (nT a) (nT b)):DM D)=pure (.bl (!decide (a=b))):=cB λM=>by
 have e:∀l:C0,l.map nD=(l.map λn:Nat=>(n:Int)).map D.int:=λl=>by rw[W4];rfl
 have d:=cF (a.map λn:Nat=>(n:Int))
 have q:=eO (a.map λn:Nat=>(n:Int)) (b.map λn:Nat=>(n:Int))
 have c:decide ((a.map λn:Nat=>(n:Int))=(b.map λn:Nat=>(n:Int)))=decide (a=b):=by rw[WW,Xk,Xk];exact gZ
 unfold nT;rw[e a,e b];simp only[gQ,L3.eqB,eqP,toPy,cO,Option.map_some,PyData.canLay0,lay_ints,PyData.depth,PyData.eqv];rw[q,c,Wq (by rw[Bool.and_self,Bool.true_and];exact WY (by lia))]
 rfl
def Io{R:A6}:vA (((LD R).filter (bQ (LD R))).map nT)=some (.lst ((bO (LD R)).map tupI)):=by
 have e:((LD R).filter (bQ (LD R))).map nT=((((LD R).filter (bQ (LD R))).map dq)).map tupI:=by rw[W4];exact Yq λl y=>Eg l
 rw[e];unfold vA;rw[jy λt ht=>by obtain⟨l,hl,rfl⟩:=WQ.mp ht;exact λz=>(dX (WN.mp hl).1).1 (by unfold dq at z;simpa using z)]
 rfl
def N7{R:A6}{W:Nat}(h:WK R W)(hn:R.length<=18)(M:Mo):Rn (xY [nM R]) M λd M'=>d=.tup ((bO (LD R)).map tupI)/\bW M M':=by
 unfold xY rW lO;walk_at "g";have st:aZ 3 [nM R]=[some (nM R),none,none]:=rfl;rw[st];walk_at "c"
 simp;refine Rn.bind (N5 h M) λd M1 ⟨e,k1⟩=>?_
 subst e;walk_at "h";walk_at "c"
 have as:gO (nM (LD R))=some (.fix ((LD R).map nT)):=rfl;have ce:aW 1 [1] [some (nM R),some (nM (LD R)),none]=[none,some (nM (LD R))]:=rfl;have m0:iQ []=pure (.lst []):=fB (by simp)
 simp[as,lA,ce];rw[aR nT (bQ (LD R)) nT (by rw[iG];lia) (λl hl=>?_) (λl z z=>by simp)]
 rotate_left
 ·have hl':=dX hl;have at':gO (nT l)=some (.fix (l.map nD)):=rfl;have rh:aW 1 [1,0] [some (nT l),some (nM (LD R))]=[none,some (nM (LD R)),some (nT l)]:=rfl;simp only[List.getElem?_cons_zero,Option.join_some,dY,aq,at',lA,rh];rw[aR nD (λy=>!decide (gr (LD R) y=l)) nD (by lia) (λy hy=>by simp[zK (R:=LD R) (i:=y) (by rw[iG];exact hl'.2.2 y hy),RP]) (λy z z=>by simp)]
  have eq:(rd (dg (.lst ((l.filter λy=>!decide (gr (LD R) y=l)).map nD)) (.lst [])):DM D)=pure (.bl (decide ((l.filter λy=>!decide (gr (LD R) y=l))=[]))):=RK _ []
  simp only[aq,m0,eq,fu];congr 1;unfold bQ;rw[WW,Xk,List.filter_eq_nil_iff,Yh];exact⟨λh y hy=>by simpa using h y hy,λh y hy=>by simpa using h y hy⟩
 simp only[aq];walk_at "h";simp;have fl:=Xg (bQ (LD R)) (LD R);rw[iG]at fl;refine Rn.bindRd (.lst ((bO (LD R)).map tupI)) ?_ ?_
 ·show xM [.lst (((LD R).filter (bQ (LD R))).map nT)] M1=_;simp only[xM,aN,Option.bind_some];rw[Wq (by rw[Wm];lia),Io]
 ·exact Rn.bindRd (.tup ((bO (LD R)).map tupI)) rfl (Rn.pure ⟨_,rfl,rfl,k1⟩)
theorem FW{L:A6}:∀ {l:A7},(∀ t∈l,t∈L.map dq)->∃ Y:A6,l=Y.map dq/\∀ y∈Y,y∈L
 |[],_=>⟨[],rfl,λy h=>by cases h⟩
 | t::l,h=>by
   obtain⟨Y,e,k⟩:=FW (l:=l) λx hx=>h x (.tail _ hx)
   obtain⟨y,hy,rfl⟩:=WQ.mp (h t WP);exact⟨y::Y,by rw[e];rfl,λz hz=>by
    rcases Wz.mp hz with rfl | hz
    ·exact hy
    ·exact k z hz⟩
def Nh{t:C1}{ts:A7}(h:t∈pU ts):t∈ts:=by
 have key:∀ (ts acc:A7),t∈ts.foldl iI acc->t∈acc\/t∈ts:=by
  intro ts;induction ts with
  |nil=>intro acc h;exact .inl h
  | cons u ts ih=>
    intro acc h;rcases ih (iI acc u) h with z | z
    ·unfold iI at z;split at z
     ·exact .inl z
     ·rcases WF.mp z with z | z
      ·exact .inl z
      ·exact .inr (by rw[Wx.mp z];exact WP)
    ·exact .inr (.tail _ z)
 rcases key ts [] h with z | z
 ·cases z
 ·exact z
end K
namespace K
open PySem L2 L3 N10
def RN(a b:C0):(rd (gQ (.lst (a.map nD)) (.lst (b.map nD))):DM D)=pure (.bl (!decide (a=b))):=cB λM=>by
 have e:∀l:C0,l.map nD=(l.map λn:Nat=>(n:Int)).map D.int:=λl=>by rw[W4];rfl
 have d:=cF (a.map λn:Nat=>(n:Int))
 have q:=eO (a.map λn:Nat=>(n:Int)) (b.map λn:Nat=>(n:Int))
 have c:decide ((a.map λn:Nat=>(n:Int))=(b.map λn:Nat=>(n:Int)))=decide (a=b):=by rw[WW,Xk,Xk];exact gZ
 rw[e a,e b];simp only[gQ,L3.eqB,eqP,toPy,cO,Option.map_some,PyData.canLay0,lay_ints,PyData.depth,PyData.eqv];rw[q,c,Wq (by rw[Bool.and_self,Bool.true_and];exact WY (by lia))]
 rfl
def DN{ft:aj->DM Bool}{fe:aj->DM D}{rest:aj}{n:Nat}{p:Nat->Bool}{M:Mo}{x:Option D}(hn:n<=1000)(h:∀j,j<n->Rn (ft (some (nD j)::rest)) M λb M'=>b=p j/\M'=M)(h2:∀j,j<n->fe (some (nD j)::rest)=pure (nD j)):
  Rn (bB (gN 0) ft (bY fe) ((List.range n).map nD) (x::rest) []) M λq M'=>M'=M/\q.2=((List.range n).filter p).map nD:=
 qN nD p nD (by simpa using hn) (λa ha=>h a (Wr.mp ha)) λa ha z=>by rw[h2 a (Wr.mp ha)];exact Rn.pure ⟨rfl,rfl⟩
noncomputable def lD(l:C0):D:=.lst (l.map nD)
def Og(xs:C0):(rd (gQ (lD xs) (.lst [])):DM D)=pure (.bl (!xs.isEmpty)):=by have:=RN xs [];refine this.trans ?_;congr 2;cases xs<;>simp
noncomputable def can(R:A6)(l:C0)(y:Nat):Bool:=!(l.filter λx=>decide (0<ga (gr R x) y)).isEmpty
noncomputable def nxt(R:A6)(l:C0):C0:=(List.range R.length).filter (can R l)
noncomputable def cP(R:A6):Nat->Nat->C0
 |0,x=>[x]
 |k+1,x=>nxt R (cP R k x)
def zq{R:A6}{l:C0}{y:Nat}(h:y∈nxt R l):y<R.length:=Wr.mp (WN.mp h).1
def Oj(R:A6)(l:C0):(nxt R l).length<=R.length:=W0 (Xg _ _) (by simp)
def mW{R:A6}{x:Nat}(hx:x<R.length):∀{k y:Nat},y∈cP R k x->y<R.length
 |0,y,h=>by rw[Wx.mp h];exact hx
 |k+1,y,h=>zq h
def BX{R:A6}{x:Nat}(hx:1<=R.length):∀k:Nat,(cP R k x).length<=R.length
 |0=>hx
 |k+1=>Oj R _
def Ks{R:A6}{W:Nat}{l:C0}(wk:WK R W)(hl:∀x∈l,x<R.length)(hn:l.length<=1000){z:Option D}(y:Nat)(hy:y<R.length):(dj (bB (gN 0) (λδ=>opt δ[1]?.join>>=λa=>opt δ[0]?.join>>=λb=>rd (dC a b)>>=λa=>opt δ[2]?.join>>=λb=>rd (dC a b)>>=λa=>rd (mU a (.int 0))>>=gF) (bY (b8 0)) (l.map nD) [none,some (nM R),some (nD y)] [])>>=λp=>iQ []>>=λb=>rd (gQ (.lst p.2) b)>>=gF)=pure (can R l y):=by
 have c:=aR (x:=none) (rest:=[some (nM R),some (nD y)]) (as:=l) (ft:=λδ=>opt δ[1]?.join>>=λa=>opt δ[0]?.join>>=λb=>rd (dC a b)>>=λa=>opt δ[2]?.join>>=λb=>rd (dC a b)>>=λa=>rd (mU a (.int 0))>>=gF) (fe:=b8 0) nD (λx=>decide (0<ga (gr R x) y)) nD (by lia) (λx hx=>by
  have g:∀a:Nat,(rd (mU (nD a) (.int 0)):DM D)=pure (.bl (decide (0<a))):=λa=>qm a 0
  simp only[bR];simp only[Mi (hl x hx),aq,lu (l:=gr R x) (i:=y) (by rw[wk.row _ (gr_mem (hl x hx))];exact hy),g,fu]) (λw w w=>by simp)
 have m0:iQ []=pure (.lst []):=fB (by simp)
 have:=Og (l.filter λx=>decide (0<ga (gr R x) y))
 unfold lD at this;rw[c,aq,m0,aq,this,aq,fu];rfl
def Cg{R:A6}{l:C0}{y:Nat}(h:y∈nxt R l):∃ z,z∈l/\0<ga (gr R z) y:=by
 have h:=(WN.mp h).2;unfold can at h;cases e:l.filter λx=>decide (0<ga (gr R x) y) with
 |nil=>rw[e]at h;cases h
 |cons a t=>
   have:a∈l.filter λx=>decide (0<ga (gr R x) y):=by rw[e];exact .head _
   rw[WN]at this;exact⟨a,this.1,by simpa using this.2⟩
def NQ(h:M[n]?=some (.lst l))(h0:0<l.length):dC (.ref n) (.int (-1)) M=some (l[l.length-1]'(by lia)):=by
 show (aN (.ref n) M).bind _=_;simp only[aN,h,Option.bind_some];unfold atI;have e:ixN l.length (-1)=some (l.length-1):=by
  unfold ixN;rw[Ww (by lia),Wq (by lia)]
  congr 1
  lia
 rw[e];exact Wl (by lia)
def DQ{ft:aj->DM Bool}{fe:aj->DM D}{rest:aj}{L:C0}{p:Nat->Bool}{M:Mo}{x:Option D}(hn:L.length<=1000)(h:∀y∈L,Rn (ft (some (nD y)::rest)) M λb M'=>b=p y/\M'=M)(h2:∀y∈L,fe (some (nD y)::rest)=pure (nD y)):
  Rn (bB (gN 0) ft (bY fe) (L.map nD) (x::rest) []) M λq M'=>M'=M/\q.2=(L.filter p).map nD:=
 qN nD p nD hn h λa ha z=>by rw[h2 a ha];exact Rn.pure ⟨rfl,rfl⟩
noncomputable def eE(R:A6)(x m:Nat):List D:=(List.range m).map λi=>lD (cP R i x)
noncomputable def sW:=aD 3 5 pM
noncomputable def Vi(R:A6)(M0:Mo)(x m q:Nat)(i:Nat)(δ:aj)(M:Mo):Prop:=(∃z,δ=[some (nM R),some (nD x),some (nD m),some (.ref q),z])/\M[q]?=some (.lst (eE R x (i+1)))/\bW M0 M
theorem bW.set(h:bW M0 M)(hq:M0.length<=q):bW M0 (M.set q o):=λj o' e=>by have hj:=(Wj.mp e).1;rw[Xh (by lia)];exact h j o' e
def bW.push:bW M (M++[o]):=λj o' e=>by rw[WD (Wj.mp e).1];exact e
def bW.refl:bW M M:=λz z e=>e
def bW.trans(a:bW M M1)(b:bW M1 M2):bW M M2:=λj o e=>b j o (a j o e)
def BR{R:A6}{W x m:Nat}(wk:WK R W)(hn:R.length<=6)(hx:x<R.length)(hm:m<=100)(M:Mo):Rn (sW [nM R,nD x,nD m]) M λd M'=>d=.ref M.length/\M'[M.length]?=some (.lst (eE R x (m + 1)))/\bW M M':=by
 have n1:=wk.n1;unfold sW pM jN;walk_at "g";have st:aZ 5 [nM R,nD x,nD m]=[some (nM R),some (nD x),some (nD m),none,none]:=rfl;rw[st];walk_at "c"
 have ml:iQ [nD x]=pure (.lst [nD x]):=fB (by simp)
 simp[ml];refine Rn.fM (by simp) ?_
 walk_at "h";have r6:(M++[DO.lst [.lst [nD x]]])[M.length]?=some (.lst (eE R x 1)):=by simp[eE,cP,lD]
 have k0:bW M (M++[DO.lst [.lst [nD x]]]):=bW.push;have ql:M.length<=M.length:=Wn _;revert r6 k0 ql;generalize hq:M.length=q;generalize M++[DO.lst [.lst [nD x]]]=M1;intro r6 k0 ql;walk_at "c"
 simp[dZ (n:=m) (by lia),fF]
 refine Rn.bind (bL (Vi R M x m q) _ 0 _ _ ⟨⟨_,rfl⟩,r6,k0⟩ (λi d δ M5 hi hI=>?_)) (λr M5 hI=>?_)
 ·obtain⟨⟨z,rfl⟩,a5,k5⟩:=hI;clear hK K;rw[Xd]at a5 ⊢
  rw[dU,aq];simp[nq,dZ (n:=R.length) (by lia),aW,cz]
  refine Rn.bindRd (eE R x (i+1)) (by simp only[aN,a5]) ?_
  have ll:(eE R x (i+1)).length=i+1:=by simp[eE]
  have lst1:dC (.ref q) (.int (-1)) M5=some (lD (cP R i x)):=by
   rw[NQ a5 (by lia)]
   simp[eE]
  have lx:∀z∈cP R i x,z<R.length:=λz hz=>mW hx hz
  have ln:=BX (R:=R) (x:=x) n1 i;refine Rn.bind (mD (DN (n:=R.length) (p:=can R (cP R i x)) (M:=M5) (x:=none) (rest:=[some (.ref q),some (nM R)]) (by lia) (λz hz=>?_) (λz hz=>by simp))) λpr M6 ⟨e1,e2⟩=>?_
  ·simp only[bR,Option.getD_some];refine Rn.bindRd _ lst1 ?_;have al:(rd (wC (lD (cP R i x))):DM Itn)=pure (.fix ((cP R i x).map nD)):=rfl;rw[al,aq];simp only[lA];rw[Ks wk lx (by lia) (z:=none) z hz]
   exact Rn.pure ⟨rfl,rfl⟩
  subst e1;rw[e2];have i20:i<m:=by have:=(Wj.mp hi).1;simpa using this
  refine Rn.run (mF a5 (by lia)) ?_
  refine Rn.pure ⟨_,rfl,⟨_,rfl⟩,?_,k5.set (by lia)⟩
  rw[W8 (Wj.mp a5).1];unfold eE;rw[aaF (n:=i+1),XR];rfl
 ·obtain⟨δ',rfl,⟨z,rfl⟩,a5,k5⟩:=hI;rw[Wm,W7,Xd]at a5;walk_at "h";simp;exact Rn.pure ⟨_,rfl,rfl,a5,k5⟩
end K
namespace K
open PySem L2 L3 N10 LB
theorem QM:∀ {l:List α},(∀ a∈l,p a=true->q a=true)->(l.filter p).length<=(l.filter q).length
 |[],_=>Wn _
 | a::l,h=>by
   have ih:=QM (l:=l) λb hb=>h b (.tail _ hb)
   have ha:=h a (.head _);cases hp:p a with
   |true=>rw[Yk hp,Yk (ha hp)];simp;exact ih
   |false=>
     rw[Zd (by simp[hp])]
     cases hq:q a with
     |true=>rw[Yk hq];simp;lia
     |false=>rw[Zd (by simp[hq])];exact ih
theorem Lp:∀ {l:List α},(∀ a∈l,p a=true->q a=true)->(l.filter q).length<=(l.filter p).length->l.filter p=l.filter q
 |[],_,_=>rfl
 | a::l,h,hl=>by
   have h':∀b∈l,p b=true->q b=true:=λb hb=>h b (.tail _ hb)
   have ha:=h a (.head _);have le:=QM (l:=l) h';cases hp:p a with
   |true=>
     rw[Yk hp,Yk (ha hp)]at hl ⊢
     simp at hl;rw[Lp h' hl]
   | false=>
     rw[Zd (p:=p) (by simp[hp])]at hl ⊢
     cases hq:q a with
     |true=>rw[Yk (p:=q) hq]at hl;simp at hl;lia
     |false=>
       rw[Zd (p:=q) (by simp[hq])]at hl ⊢
       exact Lp h' hl
theorem Hl(f:Nat->Nat):∀ n:Nat,1<=n->∃ x,x<n/\∀ y,y<n->f x<=f y
 |0,h=>by lia
 |1,_=>⟨0,by lia,λy hy=>by rw[show y=0 by lia];exact Wn _⟩
 | n + 2,_=>by
   obtain⟨x,hx,h⟩:=Hl f (n+1) (by lia)
   by_cases c:f x<=f (n+1)
   ·exact⟨x,by lia,λy hy=>by
     by_cases e:y=n+1
     ·rw[e];exact c
     ·exact h y (by lia)⟩
   ·exact⟨n+1,by lia,λy hy=>by
     by_cases e:y=n+1
     ·rw[e];exact Wn _
     ·have:=h y (by lia);lia⟩
def xj{R:A6}{x:Nat}(hx:x<R.length):gr (LD R) x=(List.range R.length).filter (rc (aJ R) x):=by
 rw[xr (by rw[iG];exact hx)]
 simp[LD,gh]
def uy{R:A6}{x y:Nat}(hx:x<R.length):y∈gr (LD R) x ↔ y<R.length/\Rch (aJ R) x y:=by rw[xj hx,WN,Wr,iT]
def Pq{R:A6}{W:Nat}(wk:WK R W):∃y∈LD R,bQ (LD R) y=true:=by
 obtain⟨x,hx,h⟩:=Hl (λx=>(gr (LD R) x).length) R.length wk.n1
 refine⟨gr (LD R) x,gr_mem (by rw[iG];exact hx),?_⟩
 unfold bQ;rw[Yh];intro z hz;obtain⟨hz1,hz2⟩:=(uy hx).mp hz;refine WY ?_;have hl:(gr (LD R) x).length<=(gr (LD R) z).length:=h z hz1;rw[xj hx,xj hz1]at hl ⊢
 exact Lp (λa w ha=>iT.mpr (hz2.trans (iT.mp ha))) hl
def Bp(h:t∈ts):t∈pU ts:=by
 have key:∀ (ts acc:A7),t∈acc\/t∈ts->t∈ts.foldl iI acc:=by
  intro ts;induction ts with
  |nil=>intro acc h;exact h.elim id λz=>by cases z
  | cons u ts ih=>
    intro acc h;refine ih (iI acc u) ?_;unfold iI;rcases h with h | h
    ·split
     ·exact .inl h
     ·exact .inl (Xm _ h)
    ·rcases Wz.mp h with rfl | h
     ·split
      ·rename_i hm;exact .inl hm
      ·exact .inl (Xc _ (Wx.mpr rfl))
     ·exact .inr h
 exact key ts [] (.inr h)
structure Shuts(R Y:A6):Prop where
 ne:Y≠[]
 len:Y.length<=R.length
 mem:∀y∈Y,y∈LD R/\bQ (LD R) y=true
def shuts{R:A6}{W:Nat}(wk:WK R W):∃ Y:A6,D.tup ((bO (LD R)).map tupI)=nM Y/\Shuts R Y:=by
 have sub:∀t∈bO (LD R),t∈((LD R).filter (bQ (LD R))).map dq:=λt ht=>Nh ((fG _).1.mem_iff.mp ht)
 obtain⟨Y,e,k⟩:=FW sub;have l1:(bO (LD R)).length=Y.length:=by rw[e];simp
 refine⟨Y,?_,?_,?_,λy hy=>?_⟩
 ·rw[e,W4];unfold nM;congr 1;exact Yq λl x=>(Eg l).symm
 ·intro z;obtain⟨y,h1,h2⟩:=Pq wk;have:dq y∈bO (LD R):=(fG _).1.mem_iff.mpr (Bp (Zc (WN.mpr ⟨h1,h2⟩)));rw[e,z]at this;cases this
 ·have l2:(bO (LD R)).length<=((LD R).filter (bQ (LD R))).length:=by
   unfold bO;rw[(fG _).1.length_eq];have:=Bq (((LD R).filter (bQ (LD R))).map dq)
   rwa [Wm]at this
  have fl:=Xg (bQ (LD R)) (LD R);rw[iG]at fl
  lia
 ·exact WN.mp (k y hy)
def rA{R:A6}{l:C0}{z y:Nat}(hz:z∈l)(hy:y<R.length)(h:0<ga (gr R z) y):y∈nxt R l:=by
 unfold nxt;rw[WN];refine⟨Wr.mpr hy,?_⟩;unfold can;cases e:l.filter λx=>decide (0<ga (gr R x) y) with
 |nil=>
   have:z∈l.filter λx=>decide (0<ga (gr R x) y):=WN.mpr ⟨hz,by simpa using h⟩
   rw[e]at this;cases this
 |cons a t=>rfl
theorem qY{R:A6}{x w j:Nat}(hw:w∈cP R j x):∀ {k z:Nat},z∈cP R k w->z∈cP R (j + k) x
 |0,z,h=>by rw[Wx.mp h];exact hw
 |k+1,z,h=>by obtain⟨u,hu,h0⟩:=Cg h;exact rA (qY hw hu) (zq h) h0
def rm{R:A6}{W x y:Nat}(wk:WK R W)(hx:x<R.length):y∈gr (aJ R) x ↔ y<R.length/\0<ga (gr R x) y:=by rw[uW hx,WN,Wr,wk.row _ (gr_mem hx)];simp
noncomputable def near(R:A6)(w k z:Nat):Bool:=(List.range (k+1)).any λi=>(cP R i w).contains z
def gj{R:A6}{w k z:Nat}:near R w k z=true ↔ ∃i,i<=k/\z∈cP R i w:=by
 unfold near;rw[Zb];constructor
 ·rintro⟨i,hi,h⟩;exact⟨i,by have:=Wr.mp hi;lia,by simpa using h⟩
 ·rintro⟨i,hi,h⟩;exact⟨i,Wr.mpr (by lia),by simpa using h⟩
theorem zf{R:A6}{W w:Nat}(wk:WK R W)(hw:w<R.length):∀ k:Nat,(∀ z,Rch (aJ R) w z->near R w k z=true)\/k + 1<=((List.range R.length).filter (near R w k)).length
 |0=>by refine .inr ?_;have:w∈(List.range R.length).filter (near R w 0):=WN.mpr ⟨Wr.mpr hw,gj.mpr ⟨0,Wn _,Wx.mpr rfl⟩⟩;exact List.length_pos_of_mem this
 | k + 1=>by
   have mono:∀z,near R w k z=true->near R w (k+1) z=true:=λz h=>by obtain⟨i,hi,hz⟩:=gj.mp h;exact gj.mpr ⟨i,by lia,hz⟩
   rcases zf wk hw k with h | h
   ·exact .inl λz hz=>mono z (h z hz)
   by_cases c:((List.range R.length).filter (near R w (k+1))).length<=((List.range R.length).filter (near R w k)).length
   ·have e:=Lp (l:=List.range R.length) (λa x ha=>mono a ha) c
    refine .inl λz hz=>?_
    refine mono z ?_;induction hz with
    |here=>exact gj.mpr ⟨0,by lia,Wx.mpr rfl⟩
    | @step y z h1 h2 ih=>
      obtain⟨i,hi,hy⟩:=gj.mp ih;have hy':=mW hw hy;obtain⟨hz,h0⟩:=(rm wk hy').mp h2;have:z∈(List.range R.length).filter (near R w (k+1)):=WN.mpr ⟨Wr.mpr hz,gj.mpr ⟨i+1,by lia,rA hy hz h0⟩⟩
      rw[<-e]at this;exact (WN.mp this).2
   ·exact .inr (by lia)
theorem Rch.near{R:A6}{W w z:Nat}(wk:WK R W)(hw:w<R.length)(h:Rch (aJ R) w z):∃k,k<=R.length/\z∈cP R k w:=by
 rcases zf wk hw R.length with q | q
 ·exact gj.mp (q z h)
 ·have:=Xg (K.near R w R.length) (List.range R.length);rw[W7]at this
  lia
def O5{R:A6}{W x:Nat}(wk:WK R W)(hx:x<R.length):∃ y,y<R.length/\0<ga (gr R x) y:=by
 have s:=wk.sum _ (gr_mem hx);have l:=wk.row _ (gr_mem hx);have w1:=wk.w1;cases h:(List.range R.length).find? λy=>decide (0<ga (gr R x) y) with
 |some y=>have a:=List.mem_of_find?_eq_some h;have b:=List.find?_some h;exact⟨y,Wr.mp a,by simpa using b⟩
 | none=>
   have z:=List.find?_eq_none.mp h;have:(gr R x).sum=0:=by rw[T5 l];exact FQ λi hi=>by have:=z i (Wr.mpr hi);simpa using this
   lia
def round{R Y:A6}{W:Nat}{y:C0}(wk:WK R W)(h:y∈LD R)(hs:bQ (LD R) y=true):∃ x,y[0]?=some x/\x<R.length/\∃ k,1<=k/\k<=R.length + 1/\x∈cP R k x:=by
 obtain⟨ay,hlen,cn⟩:=dX h;cases y with
 |nil=>exact absurd rfl ay
 |cons x t=>
   have hx:=cn x (.head _);refine⟨x,rfl,hx,?_⟩;unfold bQ at hs;rw[Yh]at hs;have e1:=Xe (hs x (.head _));obtain⟨w,hw,h0⟩:=O5 wk hx;have r1:Rch (aJ R) x w:=.step .here ((rm wk hx).mpr ⟨hw,h0⟩);have m1:w∈x::t:=by rw[<-e1];exact (uy hx).mpr ⟨hw,r1⟩
   have e2:=Xe (hs w m1);have m2:x∈gr (LD R) w:=by rw[e2];exact .head _
   obtain⟨k,hk,hm⟩:=((uy hw).mp m2).2.near wk hw;refine⟨1+k,by lia,by lia,qY (w:=w) (j:=1) ?_ hm⟩
   exact rA (z:=x) (Wx.mpr rfl) hw h0
end K
namespace K
open PySem L2 L3 N10
noncomputable def xT:List D->DM D
 |[.int a,.int b]=>if 0<=a/\0<=b then pure (nD (Nat.gcd a.toNat b.toNat)) else stuck
 |_=>stuck
def Qv(a b:Nat):xT [nD a,nD b]=pure (nD (Nat.gcd a b)):=by simp[xT,nD]
def Nf(h1:∀ a b:Nat,c [some (nD a),some (nD b)]=pure (b != 0))(h2:∀ a b:Nat,0<b->f [some (nD a),some (nD b)]=pure (.nx [some (nD b),some (nD (a % b))])):
  ∀b a:Nat,∃n,dH c f n [some (nD a),some (nD b)]=pure (.nx [some (nD (Nat.gcd a b)),some (nD 0)]):=by
 intro b;induction b using Nat.strongRecOn with
 | ind b ih=>
   intro a;rcases aab b with rfl | hb
   ·exact⟨1,by simp[dH,h1]⟩
   ·obtain⟨n,hn⟩:=ih (a%b) (Yj _ hb) b;refine⟨n+1,?_⟩;have hb':(b != 0)=true:=by simp;lia
    simp only[dH,h1,aq,hb',if_true,h2 a b hb,hn];rw[Nat.gcd_comm a b,Nat.gcd_rec b a,Nat.gcd_comm]
set_option tactic.hygienic true in
def SM:∀ ds M r,xT ds M=some r->∃ n,aD 2 2 (fV n) ds M=some r:=by
 intro ds M r h;unfold xT at h;split at h
 ·rename_i a b;split at h
  ·rename_i ko;obtain⟨x,rfl⟩:∃x:Nat,a=x:=⟨a.toNat,by lia⟩
   obtain⟨y,rfl⟩:∃y:Nat,b=y:=⟨b.toNat,by lia⟩
   have h1:∀a b:Nat,(λδ=>((b8 1) δ>>=λx=>(λz=>pure (D.int 0)) δ>>=λy=>(λx y=>rd (mU x y)) x y)>>=gF) [some (nD a),some (nD b)]=(pure (b != 0):DM Bool):=λa b=>by have g:(rd (mU (nD b) (.int 0)):DM D)=pure (.bl (decide (0<b))):=qm b 0;simp[g];congr 1;rw[WW];simp;lia
   have h2:∀a b:Nat,0<b->(vU 0 1 (λδ=>(b8 1) δ>>=λx=>(λδ=>(λδ=>(b8 0) δ>>=λx=>(b8 1) δ>>=λy=>rd (je x y)) δ>>=λx=>(λz=>pure []) δ>>=λxs=>pure (x::xs)) δ>>=λxs=>pure (x::xs))) [some (nD a),some (nD b)]=pure (.nx [some (nD b),some (nD (a%b))]):=λa b hb=>by
    have:=zN (a:=a) hb;simp[nD]at this ⊢
    simp[this]
   obtain⟨n,hn⟩:=Nf (c:=(λδ=>((b8 1) δ>>=λx=>(λz=>pure (D.int 0)) δ>>=λy=>(λx y=>rd (mU x y)) x y)>>=gF)) (f:=(vU 0 1 (λδ=>(b8 1) δ>>=λx=>(λδ=>(λδ=>(b8 0) δ>>=λx=>(b8 1) δ>>=λy=>rd (je x y)) δ>>=λx=>(λz=>pure []) δ>>=λxs=>pure (x::xs)) δ>>=λxs=>pure (x::xs)))) h1 h2 y x
   refine⟨n,?_⟩;rw[<-h];have:aD 2 2 (fV n) [.int x,.int y]=pure (nD (Nat.gcd x y)):=by unfold fV jg;have e:aZ 2 [D.int x,D.int y]=[some (nD x),some (nD y)]:=rfl;simp only[HJ,e,Mp,hn];simp
   rw[this];simp
  ·cases h
 ·cases h
end K
namespace K
open PySem L2 L3 N10 LB
noncomputable def Fj:=aD 1 3 (jq xT)
noncomputable def Vc(l:C0)(M0:Mo)(i:Nat)(δ:aj)(M:Mo):Prop:=(∃z,δ=[some (.lst (l.map nD)),some (nD ((l.take i).foldl Nat.gcd 0)),z])/\M=M0
def Qf(l:C0):Fj [.lst (l.map nD)]=pure (nD (l.foldl Nat.gcd 0)):=O1 λM=>by
 unfold Fj jq fJ;walk_at "g";have st:aZ 3 [.lst (l.map nD)]=[some (.lst (l.map nD)),none,none]:=rfl;rw[st];walk_at "c"
 simp;walk_at "h";walk_at "c"
 have al:(rd (wC (.lst (l.map nD))):DM Itn)=pure (.fix (l.map nD)):=rfl;simp[al,fF];refine Rn.bind (bL (Vc l M) _ 0 _ _ ⟨⟨none,rfl⟩,rfl⟩ (λj d δ M1 hj hI=>?_)) (λr M1 hI=>?_)
 ·obtain⟨⟨z,rfl⟩,rfl⟩:=hI;rw[WM]at hj;obtain⟨a,ha,rfl⟩:=Wk.mp hj;rw[Xd,dU,aq];simp[Qv];refine Rn.pure ⟨_,rfl,⟨some (nD a),?_⟩,rfl⟩;rw[List.take_add_one,ha,Zu];rfl
 ·obtain⟨δ',rfl,⟨z,rfl⟩,rfl⟩:=hI;walk_at "h";simp;exact Rn.pure ⟨_,rfl,rfl,rfl⟩
theorem Eb:∀ (l:C0) (a:Nat),l.foldl Nat.gcd a ∣ a/\∀ b∈l,l.foldl Nat.gcd a ∣ b
 |[],a=>⟨Nat.dvd_refl _,λb h=>by cases h⟩
 |c::l,a=>by
   obtain⟨h1,h2⟩:=Eb l (Nat.gcd a c);rw[Yp];refine⟨Nat.dvd_trans h1 (Nat.gcd_dvd_left _ _),λb hb=>?_⟩
   rcases Wz.mp hb with rfl | hb
   ·exact Nat.dvd_trans h1 (Nat.gcd_dvd_right _ _)
   ·exact h2 b hb
def Qa(R:A6)(y:C0)(x:Nat):Prop:=y[0]?=some x/\x<R.length/\∃k,1<=k/\k<=R.length+1/\x∈cP R k x
noncomputable def ym:=aD 2 3 (rY sW Fj)
noncomputable def gP(R:A6)(x:Nat):Nat:=(((List.range (3*R.length)).map λk=>1+k).filter λi=>(cP R i x).contains x).foldl Nat.gcd 0
def BZ{R:A6}{x m i:Nat}(h:i<m):(eE R x m)[i]?=some (lD (cP R i x)):=by unfold eE;rw[WM,XJ h];rfl
def Ha(h:M[q]?=some (.lst l)):ik [.ref q] M=some (.int (l.length:Int)):=by simp[ik,aN,iD,h]
def Je{R:A6}{W x:Nat}{y:C0}(wk:WK R W)(hn:R.length<=6)(hr:Qa R y x)(M:Mo):Rn (ym [nM R,nT y]) M λd M'=>d=nD (gP R x)/\1<=gP R x/\gP R x<=7/\bW M M':=by
 obtain⟨h0,hx,k,k1,k2,kx⟩:=hr;unfold ym rY lQ;walk_at "g";have st:aZ 3 [nM R,nT y]=[some (nM R),some (nT y),none]:=rfl;rw[st];have ix0:(rd (dC (nT y) (.int 0)):DM D)=pure (nD x):=vg (i:=0) (by rw[WM,h0];rfl)
 have mu:(rd (n6 (.int 3) (nD R.length)):DM D)=pure (nD (3*R.length)):=zO (a:=3) (by decide) (Zm hn (by decide))
 walk_at "c"
 simp[ix0,nq,mu];refine Rn.bind (BR wk hn hx (m:=3*R.length) (by lia) M) λd M1 ⟨e,at1,kp⟩=>?_
 subst e;walk_at "h";simp;refine Rn.bindRd _ (Ha at1) ?_;have ll:(eE R x (3*R.length+1)).length=3*R.length+1:=by simp[eE]
 have r2:uh [.int 1,.int ((eE R x (3*R.length+1)).length:Int)]=some (.fix ((List.range (3*R.length)).map λk=>nD (1+k))):=by
  rw[ll];have:=vW (a:=1) (b:=3*R.length+1) (by decide) (by lia)
  rw[show 3*R.length+1-1=3*R.length by lia]at this
  exact this
 simp only[r2,dY,aq,aW,cz,List.replicate,List.map_cons,List.map_nil,List.getElem?_cons_zero,List.getElem?_cons_succ,Option.getD_some,List.length_cons,List.length_nil,List.cons_append,List.nil_append,lA];have em:((List.range (3*R.length)).map λk=>nD (1+k))=((List.range (3*R.length)).map λk=>1+k).map nD:=by rw[W4];rfl
 rw[em];refine Rn.bind (mD (DQ (p:=λi=>(cP R i x).contains x) (M:=M1) (by simp;lia) (λi hi=>?_) (λi hi=>by simp))) λpr M2 ⟨e1,e2⟩=>?_
 ·obtain⟨i',hi',rfl⟩:=WQ.mp hi;have hi'':=Wr.mp hi';simp only[bR,bj,aG,ix0];refine Rn.bindRd _ (jJ (i:=1+i') at1 (BZ (by lia))) ?_
  have:=Mh x (cP R (1+i') x);unfold lD;rw[this,aq,fu];exact Rn.pure ⟨rfl,rfl⟩
 subst e1;simp only[aq,Out.run,e2,Qf];refine Rn.pure ⟨_,rfl,rfl,?_,?_,kp⟩ <;>
 ·unfold gP;have g:=(Eb ((((List.range (3*R.length)).map λk=>1+k)).filter λi=>(cP R i x).contains x) 0).2 k (WN.mpr ⟨WQ.mpr ⟨k-1,Wr.mpr (by lia),by lia⟩,by simpa using kx⟩)
  have:=Nat.le_of_dvd (by lia) g
  have:=Nat.pos_of_dvd_of_pos g (by lia)
  lia
noncomputable def yj:=aD 2 8 (pN sW ym)
def Mq(hc:1<=c)(ha:0<=a)(h:i<(Builtin.Range.rangeSize a b c).toNat):a + i * c<b/\(i:Int)<b:=by
 unfold Builtin.Range.rangeSize at h;rw[Wq (by lia)]at h
 split at h
 ·rename_i ko;have h1:(i:Int)<=(b-a-1) / c:=by lia
  have h2:(i:Int)*c<=b-a-1:=by
   have:=Int.mul_le_mul_of_nonneg_right h1 (show (0:Int)<=c by lia)
   exact Int.le_trans this (Int.ediv_mul_le _ (by lia))
  have h3:(i:Int)<=i*c:=by
   have:=Int.mul_le_mul_of_nonneg_left hc (show (0:Int)<=(i:Int) by lia)
   lia
  lia
 ·simp at h
def Iz{n:Nat}{l:C0}(hn:n<=25)(h:∀x∈l,x<n)(hl:l.length<=2000):(rd (λM=>(xN [.lst (l.map nD)] M).map D.lst):DM D)=pure (.lst (((List.range n).filter λy=>decide (y∈l)).map nD)):=cB λM=>by
 have e:intsOf (l.map nD)=some (l.map λn:Nat=>(n:Int)):=iJ l
 have ss:=Ab h;have le:=Xg (λy=>decide (y∈l)) (List.range n)
 rw[W7]at le;have dl:((l.map λn:Nat=>(n:Int)).foldl PyProof.Rows.step_dedup []).length<=60:=by
  have:=(cg ((l.map λn:Nat=>(n:Int)).foldl PyProof.Rows.step_dedup [])).1.length_eq
  have e2:(((l.map λn:Nat=>(n:Int)).foldl PyProof.Rows.step_dedup []).foldr jH [])=iW (l.map λn:Nat=>(n:Int)):=rfl
  rw[e2,ss,Wm]at this
  lia
 simp only[xN,aN,Option.bind_some,e];rw[Wq ⟨by simpa using hl,dl⟩,ss,Z2,W4]
 rfl
noncomputable def Hj(R:A6)(x t s i:Nat):C0:=(List.range i).flatMap λj=>cP R (s+j*t) x
noncomputable def cnt(m t s:Nat):Nat:=(Builtin.Range.rangeSize (s:Int) (m:Int) (t:Int)).toNat
noncomputable def Hh(R:A6)(x t m s:Nat):C0:=(List.range R.length).filter λy=>decide (y∈Hj R x t s (cnt m t s))
noncomputable def Vq(R:A6)(M0:Mo)(pre:aj)(x t s:Nat)(i:Nat)(δ:aj)(M:Mo):Prop:=(∃(l:C0) (z:Option D),l=Hj R x t s i/\δ=pre++[some (.lst (l.map nD)),z]/\(∀x∈l,x<R.length)/\l.length<=6*i)/\M=M0
noncomputable def Vo(R:A6)(M0:Mo)(y:C0)(x t m q q2:Nat)(i:Nat)(δ:aj)(M:Mo):Prop:=(∃z5 z6 z7,δ=[some (nM R),some (nT y),some (nD t),some (.ref q),some (.ref q2),z5,z6,z7])/\M[q]?=some (.lst (eE R x m))/\bW M0 M/\∃S:A6,S=(List.range i).map (Hh R x t m)/\M[q2]?=some (.lst (S.map nT))
def Pr{R:A6}{W x:Nat}{y:C0}(wk:WK R W)(hn:R.length<=6)(hr:Qa R y x)(M:Mo):Rn (yj [nM R,nT y]) M λd M'=>d=nM ((List.range (gP R x)).map (Hh R x (gP R x) (2 * R.length * R.length + 9 + 1)))/\bW M M':=by
 have n1:=wk.n1;unfold yj pN jO;walk_at "g";have st:aZ 8 [nM R,nT y]=[some (nM R),some (nT y),none,none,none,none,none,none]:=rfl;rw[st];have ix0:(rd (dC (nT y) (.int 0)):DM D)=pure (nD x):=vg (i:=0) (by rw[WM,hr.1];rfl)
 have sq:R.length*R.length<=36:=Nat.mul_le_mul hn hn;have b6:R.length<2^1000:=Zm hn (by decide)
 have mu:(rd (n6 (.int 2) (nD R.length)):DM D)=pure (nD (2*R.length)):=zO (a:=2) (by decide) b6
 have mu2:(rd (n6 (nD (2*R.length)) (nD R.length)):DM D)=pure (nD (2*R.length*R.length)):=zO (Zm (show 2*R.length<=12 by lia) (by decide)) b6
 have ad:(rd (cX (nD (2*R.length*R.length)) (.int 9)):DM D)=pure (nD (2*R.length*R.length+9)):=by funext M;rfl
 have m100:2*R.length*R.length+9<=100:=by rw[Nat.mul_assoc];lia
 walk_at "c"
 simp only[bR,Mm,bj,aG,ix0,nq,mu,mu2,ad];refine Rn.bind (Je wk hn hr M) λd M1 ⟨e,t1,t7,kp1⟩=>?_
 subst e;generalize gP R x=t at t1 t7 ⊢
 refine Rn.bind (BR wk hn hr.2.1 m100 M1) λd M2 ⟨e,at2,kp2⟩=>?_
 subst e;simp only[cD,aq];walk_at "h";have kp:bW M M2:=kp1.trans kp2;have q1:M.length<=M1.length:=by
  cases e:M.length with
  |zero=>lia
  |succ k=>
    have hk:k<M.length:=by lia
    have:=(Wj.mp (kp1 k _ (Wl hk))).1
    lia
 revert q1 at2;generalize M1.length=q;intro at2 q1;clear kp1 kp2;generalize hm:2*R.length*R.length+9+1=m at at2;walk_at "c"
 simp;refine Rn.fM (by simp) ?_
 walk_at "h";have qlt:=(Wj.mp at2).1;have a0:(M2++[DO.lst []])[q]?=some (.lst (eE R x m)):=by rw[WD qlt];exact at2
 have a1:(M2++[DO.lst []])[M2.length]?=some (.lst (([]:A6).map nT)):=by simp
 have k3:bW M (M2++[DO.lst []]):=kp.trans bW.push;have q2:M.length<=M2.length/\q≠M2.length:=⟨by lia,by lia⟩
 revert a0 a1 k3 q2;generalize M2.length=q2;generalize M2++[DO.lst []]=M3;intro a0 a1 k3 q2';walk_at "c"
 simp[dZ (n:=t) (by lia),fF]
 refine Rn.bind (bL (Vo R M y x t m q q2) _ 0 _ _ ⟨⟨_,_,_,rfl⟩,a0,k3,[],rfl,a1⟩ (λi d δ M4 hi hI=>?_)) (λr M4 hI=>?_)
 ·obtain ⟨⟨z5,z6,z7,rfl⟩,b0,k4,S,hS,b1⟩:=hI;obtain⟨hi',rfl⟩:=oG hi;have hSl:S.length<=7:=by rw[hS];simp;lia
  clear hK K;rw[dU,aq];walk_at "c"
  have m0:iQ []=pure (.lst []):=fB (by simp)
  simp[m0];walk_at "h";walk_at "c"
  simp;refine Rn.bindRd _ (Ha b0) ?_;have ll:(eE R x m).length=m:=by simp[eE]
  rw[ll];have rgk:zU (i:Int) (m:Int) (t:Int):=⟨by lia,by lia,by lia,by lia,by lia,by lia⟩
  have r3:K5 [nD i,.int (m:Int),nD t]=some (.fix (jQ (i:Int) (t:Int) (Builtin.Range.rangeSize (i:Int) (m:Int) (t:Int)).toNat)):=Wq rgk;simp only[r3,dY,aq,fF];refine Rn.bind (bL (Vq R M4 [some (nM R),some (nT y),some (nD t),some (.ref q),some (.ref q2),some (nD i)] x t i) _ 0 _ _ ⟨⟨[],_,rfl,rfl,λv h=>(by cases h),Wn _⟩,rfl⟩ (λj d δ M5 hj hI=>?_)) (λr M5 hI=>?_)
  ·obtain⟨⟨l,z,el,rfl,hl,ln⟩,rfl⟩:=hI;clear hK K;rw[vX]at hj;split at hj;rotate_left
   ·cases hj
   rename_i hjl;cases hj;obtain⟨g1,g2⟩:=Mq (a:=(i:Int)) (b:=(m:Int)) (c:=(t:Int)) (by lia) (by lia) hjl
   obtain⟨w,ew,hw⟩:∃w:Nat,w=i+j*t/\(i:Int)+(j:Int)*(t:Int)=(w:Int):=⟨i+j*t,rfl,by push_cast;rfl⟩
   rw[hw]at g1;rw[Xd]at ln el ⊢
   rw[dU,aq,hw];simp only[cD,bR,List.cons_append,List.nil_append,bj,aG];refine Rn.bindRd _ (jJ (i:=w) b0 (BZ (by lia))) ?_
   have lx:∀z∈cP R w x,z<R.length:=λz hz=>mW hr.2.1 hz
   have l2:=BX (R:=R) (x:=x) n1 w;have ap:(rd (cX (.lst (l.map nD)) (lD (cP R w x))):DM D)=pure (.lst ((l++cP R w x).map nD)):=rF (by lia)
   rw[ap,aq];refine Rn.pure ⟨_,rfl,⟨l++cP R w x,_,?_,rfl,λz hz=>?_,?_⟩,rfl⟩
   ·rw[el,ew];unfold Hj;rw[aaF,List.flatMap_append];simp
   ·rcases WF.mp hz with h | h
    ·exact hl z h
    ·exact lx z h
   ·rw[W3];lia
  ·obtain ⟨δ',rfl,⟨l,z,el,rfl,hl,ln⟩,rfl⟩:=hI;walk_at "h";have l2k:l.length<=2000:=by
    have lr:(jQ (i:Int) (t:Int) (Builtin.Range.rangeSize (i:Int) (m:Int) (t:Int)).toNat).length=(Builtin.Range.rangeSize (i:Int) (m:Int) (t:Int)).toNat:=by simp[jQ]
    rw[lr,Xd]at ln el;have:(Builtin.Range.rangeSize (i:Int) (m:Int) (t:Int)).toNat<=m:=by
     cases e:(Builtin.Range.rangeSize (i:Int) (m:Int) (t:Int)).toNat with
     |zero=>lia
     |succ k=>
       have:=Mq (i:=k) (a:=(i:Int)) (b:=(m:Int)) (c:=(t:Int)) (by lia) (by lia) (by lia)
       lia
    lia
   have tp:(rd (iZ [.lst ((((List.range R.length).filter λy=>decide (y∈l))).map nD)]):DM D)=pure (nT ((List.range R.length).filter λy=>decide (y∈l))):=cB λM=>rfl
   simp only[bR,List.cons_append,List.nil_append,bj,aG,Iz (n:=R.length) (by lia) hl l2k,tp]
   refine Rn.bindRd (S.map nT) (by simp only[aN,b1]) ?_
   refine Rn.run (mF b1 (by simp;lia)) ?_
   have le:=Xg (λy=>decide (y∈l)) (List.range R.length)
   rw[W7]at le;refine Rn.pure ⟨_,rfl,⟨_,_,_,rfl⟩,?_,k4.set (by lia),S++[(List.range R.length).filter λy=>decide (y∈l)],?_,?_⟩
   ·rw[Xh (Ne.symm q2'.2)];exact b0
   ·rw[hS,Xd,aaF,XR];congr 1;have lr:(jQ (i:Int) (t:Int) (Builtin.Range.rangeSize (i:Int) (m:Int) (t:Int)).toNat).length=(Builtin.Range.rangeSize (i:Int) (m:Int) (t:Int)).toNat:=by simp[jQ]
    rw[lr,Xd]at el;unfold Hh cnt;rw[List.map_singleton,el]
   ·rw[W8 (Wj.mp b1).1,XR];rfl
 ·obtain⟨δ',rfl,⟨z5,z6,z7,rfl⟩,b0,k4,S,hS,b1⟩:=hI;walk_at "h";rw[Wm,W7,Xd]at hS;simp;have tp:iZ [.ref q2] M4=some (nM S):=by simp[iZ,iD,aN,b1,nM]
  refine Rn.bindRd _ tp ?_;exact Rn.pure ⟨_,rfl,by rw[hS],k4⟩
def J8{P:Nat->Prop}:(∃ k,P k)->∃ k,P k/\∀ j,P j->k<=j:=by
 rintro⟨k,hk⟩;induction k using Nat.strongRecOn with
 | ind k ih=>
   by_cases c:∃j,j<k/\P j
   ·obtain⟨j,h1,h2⟩:=c;exact ih j h1 h2
   ·exact⟨k,hk,λj hj=>Nat.le_of_not_lt λz=>c ⟨j,z,hj⟩⟩
def iM{R:A6}{W x:Nat}(wk:WK R W)(hx:x<R.length):∀ {k z:Nat},z∈cP R k x ↔ Wy (aJ R) x k z:=by
 intro k z;constructor
 ·induction k generalizing z with
  |zero=>intro h;rw[Wx.mp h];exact .here
  |succ k ih=>intro h;obtain⟨u,hu,h0⟩:=Cg h;exact .step (ih hu) ((rm wk (mW hx hu)).mpr ⟨zq h,h0⟩)
 ·intro h;induction h with
  |here=>exact Wx.mpr rfl
  |step h m ih=>obtain⟨hz,h0⟩:=(rm wk (mW hx ih)).mp m;exact rA ih hz h0
structure Sy(R:A6)(y:C0)(x:Nat):Prop where
 x0:y[0]?=some x
 lt:x<R.length
 eq:y=(List.range R.length).filter (rc (aJ R) x)
 bk:∀z∈y,Rch (aJ R) z x
def T6{R:A6}{y:C0}(h:y∈LD R)(hs:bQ (LD R) y=true):∃ x,Sy R y x:=by
 obtain⟨ay,hlen,cn⟩:=dX h;cases y with
 |nil=>exact absurd rfl ay
 |cons x t=>
   have hx:=cn x (.head _);unfold bQ at hs;rw[Yh]at hs;have e1:=Xe (hs x (.head _));refine⟨x,rfl,hx,by rw[<-xj hx];exact e1.symm,λz hz=>?_⟩
   have e2:=Xe (hs z hz);exact ((uy (cn z hz)).mp (by rw[e2];exact .head _)).2
def Sy.ga0{R:A6}{y:C0}{x:Nat}(h:Sy R y x):ga y 0=x:=by unfold ga;rw[Xa,h.x0];rfl
def Sy.mem{R:A6}{y:C0}{x z:Nat}(h:Sy R y x):z∈y ↔ z<R.length/\Rch (aJ R) x z:=by rw[h.eq,WN,Wr,iT]
section
variable{R:A6}{W x z:Nat}{y:C0}
def gf(wk:WK R W)(hx:x<R.length)(h:Rch (aJ R) x z):Wy (aJ R) x (dst (aJ R) x z) z/\∀j,Wy (aJ R) x j z->dst (aJ R) x z<=j:=by obtain⟨k,_,hk⟩:=h.near wk hx;exact Classical.epsilon_spec (J8 (P:=λk=>Wy (aJ R) x k z) ⟨k,(iM wk hx).mp hk⟩)
def yE(wk:WK R W)(hx:x<R.length)(h:Rch (aJ R) x z):dst (aJ R) x z<=R.length:=by obtain⟨k,hk,hm⟩:=h.near wk hx;exact W0 ((gf wk hx h).2 k ((iM wk hx).mp hm)) hk
def Ln(wk:WK R W)(hx:x<R.length):dst (aJ R) x x=0:=Nat.le_zero.mp ((gf wk hx .here).2 0 .here)
def Wy.lt(wk:WK R W)(hx:x<R.length)(h:Wy (aJ R) x k z):z<R.length:=mW hx ((iM wk hx).mpr h)
def Jk(wk:WK R W)(sy:Sy R y x){k:Nat}(h:Wy (aJ R) x k z):k % fU (aJ R) y=dst (aJ R) x z % fU (aJ R) y:=by
 induction h with
 |here=>rw[Ln wk sy.lt]
 | @step k u v h m ih=>
   have hu:u∈y:=sy.mem.mpr ⟨h.lt wk sy.lt,h.rch⟩;have d1:=gf wk sy.lt h.rch;have d2:=(gf wk sy.lt (.step h.rch m)).2 _ (.step d1.1 m);have g:fU (aJ R) y ∣ dst (aJ R) x u+1-dst (aJ R) x v:=by unfold fU;refine (Eb _ 0).2 _ (aaR.mpr ⟨u,hu,?_⟩);rw[sy.ga0];exact WQ.mpr ⟨v,m,rfl⟩
   obtain⟨c,hc⟩:=g;have e:dst (aJ R) x u+1=dst (aJ R) x v+fU (aJ R) y*c:=by lia
   rw[Nat.add_mod,ih,<-Nat.add_mod,e,Nat.add_mul_mod_self_left]
theorem tM:∀{l:C0}{a:Nat},d ∣ a->(∀b∈l,d ∣ b)->d ∣ l.foldl Nat.gcd a
 |[],_,h,_=>h
 |b::l,a,h,k=>tM (l:=l) (Nat.dvd_gcd h (k b (.head _))) λc hc=>k c (.tail _ hc)
def Ce(h1:i<=3*R.length)(h:x∈cP R i x):gP R x ∣ i:=by
 by_cases c:i=0
 ·rw[c];exact Nat.dvd_zero _
 ·unfold gP;exact (Eb _ 0).2 i (WN.mpr ⟨WQ.mpr ⟨i-1,Wr.mpr (by lia),by lia⟩,by simpa using h⟩)
def Mv(wk:WK R W)(sy:Sy R y x):gP R x=fU (aJ R) y:=by
 have n1:=wk.n1;refine Nat.dvd_antisymm ?_ ?_
 ·unfold fU;refine tM (Nat.dvd_zero _) λe he=>?_
  obtain⟨u,hu,hw⟩:=aaR.mp he;rw[sy.ga0]at hw;obtain⟨v,hv,rfl⟩:=WQ.mp hw;obtain⟨hun,hur⟩:=sy.mem.mp hu;have hvr:Rch (aJ R) x v:=.step hur hv;have d1:=gf wk sy.lt hur;have d2:=gf wk sy.lt hvr;have hvn:=d2.1.lt wk sy.lt;obtain⟨b,hb,hm⟩:=(sy.bk v (sy.mem.mpr ⟨hvn,hvr⟩)).near wk hvn;have l1:=yE wk sy.lt hur;have l2:=yE wk sy.lt hvr;have c1:=Ce (R:=R) (i:=dst (aJ R) x u+1+b) (by lia) (qY ((iM wk sy.lt).mpr (.step d1.1 hv)) hm)
  have c2:=Ce (R:=R) (i:=dst (aJ R) x v+b) (by lia) (qY ((iM wk sy.lt).mpr d2.1) hm)
  have:=Nat.dvd_sub c1 c2
  rwa [show dst (aJ R) x u+1+b-(dst (aJ R) x v+b)=dst (aJ R) x u+1-dst (aJ R) x v by lia]at this
 ·unfold gP;refine tM (Nat.dvd_zero _) λi hi=>?_
  have h:=(WN.mp hi).2;have:=Jk wk sy ((iM wk sy.lt).mp (show x∈cP R i x by simpa using h))
  rw[Ln wk sy.lt,Nat.zero_mod]at this;exact Nat.dvd_of_mod_eq_zero this
def N8{t s i:Nat}:z∈Hj R x t s i ↔ ∃j,j<i/\z∈cP R (s+j*t) x:=by unfold Hj;rw[aaR];exact⟨λ⟨j,h1,h2⟩=>⟨j,Wr.mp h1,h2⟩,λ⟨j,h1,h2⟩=>⟨j,Wr.mpr h1,h2⟩⟩
def Qu{m t s j:Nat}(ht:1<=t)(h:s+j*t<m):j<cnt m t s:=by
 unfold cnt Builtin.Range.rangeSize;rw[Wq (by lia),Wq (by lia)]
 have h1:(j:Int)<=((m:Int)-s-1) / t:=by
  rw[Int.le_ediv_iff_mul_le (by lia)]
  have:((s+j*t:Nat):Int)<(m:Int):=by exact_mod_cast h
  push_cast at this
  lia
 lia
def TX(wk:WK R W)(hn:R.length<=6)(sy:Sy R y x)(h1:1<=gP R x):(List.range (gP R x)).map (Hh R x (gP R x) (2 * R.length * R.length + 9 + 1))=vy (aJ R) y:=by
 have e:=Mv wk sy;unfold vy;rw[<-e];refine Yq λs hs=>?_
 have hs:=Wr.mp hs;rw[sy.ga0];unfold Hh
 conv=>rhs;rw[sy.eq]
 rw[List.filter_filter];refine Zr λz hz=>?_
 rw[WW,Xk,N8,YC,Xk,iT];constructor
 ·rintro⟨j,_,h⟩;have w:=(iM wk sy.lt).mp h;have:=Jk wk sy w;rw[<-e,Nat.add_mul_mod_self_right,Nat.mod_eq_of_lt hs]at this;exact⟨this.symm,w.rch⟩
 ·rintro⟨h2,h3⟩;have d:=gf wk sy.lt h3;have l:=yE wk sy.lt h3;have sp:dst (aJ R) x z=s+dst (aJ R) x z / gP R x*gP R x:=by have:=Nat.mod_add_div (dst (aJ R) x z) (gP R x);rw[h2]at this;rw[Nat.mul_comm];exact this.symm
  refine⟨dst (aJ R) x z / gP R x,Qu h1 (by rw[<-sp];lia),?_⟩
  rw[<-sp];exact (iM wk sy.lt).mpr d.1
end
def Rx{α:Type}(m:DM α)(M:Mo)(c:Str)(Q:Mo->Prop):Prop:=∃M',m M=some (.exc c,M')/\Q M'
section
variable{α β:Type}{m:DM α}{f:α->DM β}{M:Mo}{c:Str}{Q:Mo->Prop}
theorem Rx.bind(h:Rx m M c Q):Rx (m>>=f) M c Q:=by obtain⟨M',e,q⟩:=h;refine⟨M',?_,q⟩;show DM.bind m f M=_;unfold DM.bind;rw[e]
def Rn.bindX(h:Rn m M P)(k:∀a M',P a M'->Rx (f a) M' c Q):Rx (m>>=f) M c Q:=by obtain⟨a,M1,e,p⟩:=h;obtain⟨M',e2,q⟩:=k a M1 p;refine⟨M',?_,q⟩;show DM.bind m f M=_;unfold DM.bind;rw[e];exact e2
def Rx.seq{f g:aj->DM Fl}(h:Rx (f δ) M c Q):Rx (qG f g δ) M c Q:=h.bind
def Rx.call(hp:ds.length=p)(h:Rx (fb (aZ n ds)) M c Q):Rx (aD p n fb ds) M c Q:=by unfold aD;rw[Wq hp];exact h.bind
end
def Ik(h:f δ=pure (.nx δ')):qG f g δ=g δ':=by unfold qG;rw[h];rfl
noncomputable def Lq:Str->D:=λz=>.tup [.str "set"]
def S5(y:Addr)(c:Str)(hc:c∈vD):pL y c (aZ 4 [.exn y])=pure (.rt (Lq c)):=by
 have:c = "NoSet":=by simpa[vD] using hc
 subst this;have st:aZ 4 [.exn y]=[some (.exn y),none,none,none]:=rfl;rw[st];have ex:GC (.exn y)=some y:=rfl;have hi:∀k:D,(rd (yV Al y "NoSet" [.exn y,k]):DM D)=rd (yV Al 0 "NoSet" [.exn 0,k]):=λk=>by funext M;simp only[rd,yV,GC,if_true]
 have m4:Hm [.ty "LookupError",.ty "TypeError",.ty "ArithmeticError",.ty "RuntimeError"]=pure (.tup [.ty "LookupError",.ty "TypeError",.ty "ArithmeticError",.ty "RuntimeError"]):=by funext M;rfl
 have ms:∀(m:List D) (w z:Option D) (f g:aj->DM Fl) (m':List D),f [some (.exn y),some (.lst m),w,z]=pure (.nx [some (.exn y),some (.lst m'),w,z])->qG f g [some (.exn y),some (.lst m),w,z]=g [some (.exn y),some (.lst m'),w,z]:=λx x x x x x h=>Ik h
 let F:List D:=List.replicate 4 (.bl false)
 let G:List D:=.bl true::List.replicate 3 (.bl false)
 unfold pL jM;dsimp only;refine (Ik (δ':=[some (.exn y),some (.lst F),none,none]) ?_).trans ((ms _ _ _ _ _ (F++F) ?_).trans ((ms _ _ _ _ _ (F++F++G) ?_).trans ((ms _ _ _ _ _ (F++F++G++F) ?_).trans ((ms _ _ _ _ _ (F++F++G++F++F) ?_).trans ((ms _ _ _ _ _ (F++F++G++F++F) ?_).trans ?_)))))
 all_goals simp only[cD,bR,bj,aG,hi,m4]
 all_goals first | (funext M;rfl) | skip
noncomputable def Fw:=Dn 2 (rT Lq)
def Ii(h:Rx th M "NoSet" Q):Rn (Fw th) M λd M'=>d=.tup [.str "set"]/\Q M':=by
 obtain⟨M',e,q⟩:=h;refine⟨_,M',?_,rfl,q⟩;have hb:∀f:D->DM D,(th>>=f) M=some (.exc "NoSet",M'):=λf=>by show DM.bind th f M=_;unfold DM.bind;rw[e]
 have hb2:∀(f:D->DM D) (g:D->DM Fl),((th>>=f)>>=g) M=some (.exc "NoSet",M'):=λf g=>by show DM.bind (th>>=f) g M=_;unfold DM.bind;rw[hb f]
 unfold Fw Dn rT lN;dsimp only;have hT:∀(fb:aj->DM Fl) (fh:Str->aj->DM Fl) (δ:aj),fb δ M=some (.exc "NoSet",M')->Aj vD 2 1 fb fh δ M=(dj (fh "NoSet" ((List.replicate 2 none).set 1 (some (.exn 0))))>>=Ky 1) M':=λfb fh δ h=>by unfold Aj;rw[h];rfl
 show DM.bind (Aj _ _ _ _ _ _) _ M=_;unfold DM.bind;rw[hT _ _ _ (hb2 _ _)];rfl
def Ih{R:A6}{W:Nat}(wk:WK R W)(h:fZ [d,nD R.length]=pure (.bl false))(M:Mo):Rx (gW [aV R W,d]) M "NoSet" (bW M):=by refine⟨M,?_,bW.refl⟩;simp[gW,dJ,mY wk.n25,h];rfl
def O6{R:A6}{W:Nat}{l:C0}(wk:WK R W)(hn:R.length<=18)(h:fZ [nT l,nD R.length]=pure (.bl true))(hm:dq l∉bO (LD R))(M:Mo):Rx (gW [aV R W,nT l]) M "NoSet" (bW M):=by
 unfold gW dJ dR;dsimp only;simp[mY wk.n25,h];refine Rn.bindX (Iw wk hn M) λd M1 ⟨e,k1⟩=>?_
 subst e;have nn:Ej (nT l) (.tup ((bO (LD R)).map tupI)) M1=some (.bl true):=by
  show (iC (l.map nD)).bind (λk=>(tN ((bO (LD R)).map tupI)).map λts=>D.bl (!ts.contains k))=_
  rw[show l.map nD=(dq l).map D.int by unfold dq;rw[W4];rfl,kI,Ah,YT,Z2]
  rw[show (bO (LD R)).contains (dq l)=false by simpa using hm];rfl
 exact Rn.bindX (P:=λd M'=>d=.bl true/\M'=M1) ⟨_,_,by unfold rd;rw[nn];rfl,rfl,rfl⟩ λd M2 ⟨e1,e2⟩=>by subst e1 e2;exact⟨M2,rfl,k1⟩
def I9{R:A6}{W:Nat}(h:Rx (gW [aV R W,d]) M "NoSet" (bW M)):Rx (oX [aV R W,d]) M "NoSet" (bW M):=by unfold oX pO lq;dsimp only;refine Rx.call rfl (Rx.seq ?_);have st:aZ 7 [aV R W,d]=[some (aV R W),some d,none,none,none,none,none]:=rfl;rw[st];simp only[bR,bj,aG];exact h.bind
def R4{R:A6}{W:Nat}(h:Rx (gW [aV R W,d]) M "NoSet" (bW M)):Rx (ux [aV R W,d]) M "NoSet" (bW M):=by unfold ux nH jx;dsimp only;refine Rx.call rfl (Rx.seq ?_);have st:aZ 4 [aV R W,d]=[some (aV R W),some d,none,none]:=rfl;rw[st];simp only[bR,bj,aG];exact (I9 h).bind
def RD(h:x.length+y.length<=1000000):(rd (cX (nT x) (nT y)):DM D)=pure (nT (x++y)):=cB λM=>by
 show K8 (x.map nD++y.map nD)=_;have:eG (x.map nD++y.map nD)=true:=by unfold eG;exact WY (by show _<=2^24;simp;lia)
 unfold K8;rw[Wq this,<-XR];rfl
def RX(hl:P.length<=1000):∃ b,Fri [nT P]=pure (.bl b):=by
 have e1:uh [.int 1,nD P.length]=some (.fix ((List.range (P.length-1)).map λk=>nD (1+k))):=vW (a:=1) (by decide) (by lia)
 refine⟨((List.range (P.length-1)).map λk=>decide (ga P k<ga P (1+k))).all id,?_⟩
 simp[Fri,lH,aW,cz,HY,e1];rw[fj (λk=>nD (1+k)) (λk=>D.bl (decide (ga P k<ga P (1+k)))) (by simp;lia) (λk hk=>by
  have hk:k<P.length-1:=by simpa using hk
  have e2:(rd (Ad (nD (1+k)) (.int 1)):DM D)=pure (nD k):=by
   have:=zQ (a:=1+k) (b:=1) (by lia)
   rw[show 1+k-1=k by lia]at this
   exact this
  simp[e2,lu (l:=P) (i:=k) (by lia),lu (l:=P) (i:=1+k) (by lia),zM])]
 rw[aq];have:=qj ((List.range (P.length-1)).map λk=>decide (ga P k<ga P (1+k)))
 rw[W4,List.all_map]at this;exact this
def Bj{n:Nat}{as:List (D×Bool)}(hl:as.length<=1000)(h:∀p∈as,xV [p.1,nD n]=pure (.bl p.2)):
  (as.all (·.2)=false->fZ [.tup (as.map (·.1)),nD n]=pure (.bl false))/\(as.all (·.2)=true->∀b,Fri [.tup (as.map (·.1))]=pure (.bl b)->fZ [.tup (as.map (·.1)),nD n]=pure (.bl b)):=by
 have q:(rd (pJ [.lst (as.map λp=>D.bl p.2)]):DM D)=pure (.bl (as.all (·.2))):=by have:=qj (as.map (·.2));rw[W4,List.all_map]at this;exact this
 have at':gO (.tup (as.map (·.1)))=some (.fix (as.map (·.1))):=rfl;refine⟨λhc=>?_,λhc b hb=>?_⟩ <;>
 ·simp[fZ,cV,aW,cz,at',Er];rw[fj (λp:D×Bool=>p.1) (λp=>D.bl p.2) (by lia) (λp hp=>by simp[h p hp])]
  simp only[aq,q,hc];simp
  try exact hb
def MN{n:Nat}{P:C0}(hl:P.length<=1000):∃b,fZ [nT P,nD n]=pure (.bl b):=by
 obtain⟨b,hb⟩:=RX hl;have em:(P.map λx=>(nD x,decide (x<n))).map (·.1)=P.map nD:=by rw[W4];rfl
 obtain⟨h1,h2⟩:=Bj (n:=n) (as:=P.map λx=>(nD x,decide (x<n))) (by simpa using hl) (λp hp=>by obtain⟨x,_,rfl⟩:=WQ.mp hp;exact GZ x n)
 rw[em]at h1 h2;cases hc:(P.map λx=>(nD x,decide (x<n))).all (·.2) with
 |false=>exact⟨_,h1 hc⟩
 |true=>exact⟨b,h2 hc b hb⟩
def vG{n:Nat}(h:xV [d,nD n]=pure (.bl false)):fZ [.tup [d],nD n]=pure (.bl false):=
 (Bj (as:=[(d,false)]) (by simp) (λp hp=>by rw[Wx.mp hp];exact h)).1 rfl
def MP(h:(rd (ig [d,.ty "tuple"]):DM D)=pure (.bl false)):fZ [d,nD n]=pure (.bl false):=by simp[fZ,cV,h]
inductive Bd(n:Nat):D->Prop
 |no {d:D}:fZ [d,nD n]=pure (.bl false)->(∀l,d≠nT l)->my d->Bd n d
 |pl {l:C0}:l.length<=60->(∀z∈l,z<2^64)->Bd n (nT l)
def Bd.sh(h:Bd n d):my d:=by
 cases h with
 |no _ _ s=>exact s
 |pl h1 h2=>exact CN (λz hz=>Wt (h2 z hz) (Za (by decide) (by decide))) (by lia)
def Bd.out{R:A6}{W:Nat}(wk:WK R W)(hn:R.length<=18)(h:Bd R.length d)(hx:∀ l,d=nT l->dq l∉bO (LD R))(M:Mo):Rx (gW [aV R W,d]) M "NoSet" (bW M):=by
 cases h with
 |no h1 _ _=>exact Ih wk h1 M
 | @pl l h1 h2=>
   obtain⟨b,hb⟩:=MN (n:=R.length) (P:=l) (by lia)
   cases b with
   |false=>exact Ih wk hb M
   |true=>exact O6 wk hn hb (hx l rfl) M
noncomputable def vH(n:Nat):List D:=[.non,.int 0,.tup [],.tup [nD n],.tup [.int (-1)],.str "0",.lst [.int 0],.tup [.bl true],.tup [.tup [.int 0]],nT (List.range n),.tup [.int 0],.tup [.int 0,.int 0]]
noncomputable def Qo(n:Nat)(Y:A6):List D:=((vH n++Y.map λl=>D.lst (l.map nD))++Y.map λl=>nT l.reverse)++Y.map λl=>nT (l++l)
def R3{l:C0}(h:∀z∈l,z<2^64)(hl:l.length<=60):my (.lst (l.map nD)):=by
 have d:=cF (l.map λn:Nat=>(n:Int))
 have b:=nJ (l.map λn:Nat=>(n:Int))
 have s:=qH (l:=l.map λn:Nat=>(n:Int)) (λi hi=>by obtain⟨n,hn,rfl⟩:=WQ.mp hi;rw[Z4];exact Wt (h n hn) (Za (by decide) (by decide)))
 rw[Wm]at b;have e:l.map nD=(l.map λn:Nat=>(n:Int)).map D.int:=by rw[W4];rfl
 refine d8 (p:=.list ((l.map λn:Nat=>(n:Int)).map PyData.int)) (by rw[e];simp only[toPy,cO,Option.map_some]) (by simp only[PyData.showable];exact s) (by simp only[PyData.depth];lia) ?_
 simp only[dM];show _<=2^24
 lia
def zc(h:∀x,d≠nD x):∀l,D.tup [d]≠nT l:=λl e=>by
 have e:[d]=l.map nD:=D.tup.inj e;cases l with
 |nil=>cases e
 |cons x l=>exact h x (List.cons.inj e).1
def Qp{R Y:A6}(hn:R.length<=6)(sh:Shuts R Y):∀d∈Qo R.length Y,Bd R.length d:=by
 have nt:∀{d:D}{l:C0},d=nT l->(rd (ig [d,.ty "tuple"]):DM D)=pure (.bl true):=λe=>by rw[e];exact HR _
 have no:∀{d:D},(rd (ig [d,.ty "tuple"]):DM D)=pure (.bl false)->my d->Bd R.length d:=λ{d} h s=>.no (MP h) (λl e=>by rw[nt e]at h;have:=congrFun h [];cases this) s
 have y64:∀l∈Y,l.length<=6/\∀z∈l,z<2^64:=λl hl=>by obtain⟨_,a,b⟩:=dX (sh.mem l hl).1;exact⟨by lia,λz hz=>Wt (b z hz) (W0 hn (by decide))⟩
 intro d hd;simp only[Qo,vH,List.mem_append,List.mem_cons,List.not_mem_nil,or_false]at hd;rcases hd with ((hd | hd) | hd) | hd
 ·rcases hd with rfl | rfl | rfl | rfl | rfl | rfl | rfl | rfl | rfl | rfl | rfl | rfl
  ·exact no (by funext M;rfl) (d8 (p:=.none) rfl rfl (by decide) (by decide))
  ·exact no (by funext M;rfl) (d8 (p:=.int 0) rfl (by decide) (by decide) (by decide))
  ·exact .pl (l:=[]) (by simp) (by simp)
  ·exact .pl (l:=[R.length]) (by simp) (λz hz=>by rw[Wx.mp hz];exact Zm hn (by decide))
  ·exact .no (vG (by funext M;rfl)) (zc λx e=>by have:=D.int.inj e;lia) (d8 (p:=.tuple [.int (-1)]) rfl (by decide) (by decide) (by decide))
  ·exact no (by funext M;rfl) (d8 (p:=.str "0") rfl (by decide) (by decide) (by decide +kernel))
  ·exact no (by funext M;rfl) (d8 (p:=.list [.int 0]) rfl (by decide) (by decide) (by decide))
  ·exact .no (vG (by funext M;rfl)) (zc λx e=>by cases e) (d8 (p:=.tuple [.bool true]) rfl (by decide) (by decide) (by decide))
  ·exact .no (vG (by funext M;rfl)) (zc λx e=>by cases e) (d8 (p:=.tuple [.tuple [.int 0]]) rfl (by decide) (by decide) (by decide))
  ·exact .pl (by simp;lia) (λz hz=>Wt (Wr.mp hz) (W0 hn (by decide)))
  ·exact .pl (l:=[0]) (by simp) (by simp)
  ·exact .pl (l:=[0,0]) (by simp) (by simp)
 ·obtain⟨l,hl,rfl⟩:=WQ.mp hd;obtain⟨a,b⟩:=y64 l hl;exact no (by funext M;rfl) (R3 b (by lia))
 ·obtain⟨l,hl,rfl⟩:=WQ.mp hd;obtain⟨a,b⟩:=y64 l hl;exact .pl (by simp;lia) (λz hz=>b z (List.mem_reverse.mp hz))
 ·obtain⟨l,hl,rfl⟩:=WQ.mp hd;obtain⟨a,b⟩:=y64 l hl;exact .pl (by simp;lia) (λz hz=>b z ((WF.mp hz).elim id id))
theorem strs_map:∀ ws:C3,strsOf (ws.map D.str)=some ws
 |[]=>rfl
 |w::ws=>by show (strsOf (ws.map D.str)).map _=_;rw[strs_map ws];rfl
def RQ(w:Str)(ws:C3):(rd (Kq (.str w) (.lst (ws.map D.str))):DM D)=pure (.bl (!ws.contains w)):=cB λM=>by show ((strsOf (ws.map D.str))).map _=_;rw[strs_map];rfl
def bW.len(h:bW M M'):M.length<=M'.length:=by
 cases e:M.length with
 |zero=>lia
 |succ k=>
   have hk:k<M.length:=by lia
   have:=(Wj.mp (h k _ (Wl hk))).1
   lia
noncomputable def Fv:=aD 2 5 (mJ oX ux jZ Fw)
noncomputable def Vn(M0:Mo)(w y:D)(bs:List D)(i:Nat)(δ:aj)(M:Mo):Prop:=(∃z3 z4,δ=[some w,some y,some (.lst bs),z3,z4])/\bW M0 M
def RW{R Y:A6}{W:Nat}(wk:WK R W)(hn:R.length<=6)(eY:D.tup ((bO (LD R)).map tupI)=nM Y)(sh:Shuts R Y)(M:Mo):Rn (Fv [aV R W,nM Y]) M λd M'=>d=.bl true/\bW M M':=by
 have n25:=wk.n25;have Yl:=sh.len;obtain ⟨f,hf⟩:∃ f:C0->Str,∀ y∈Y,(rd (rG [nT y]):DM D)=pure (.str (f y)):=by
  have h:∀y∈Y,my (nT y):=λy hy=>by obtain⟨_,a,b⟩:=dX (sh.mem y hy).1;exact CN (λz hz=>Wt (b z hz) (W0 hn (W0 (show 6<=2^64 by decide) (Za (by decide) (by decide))))) (by lia)
  have h2:∀y,∃s:Str,y∈Y->(rd (rG [nT y]):DM D)=pure (.str s):=λy=>by
   by_cases hy:y∈Y
   ·obtain⟨s,e⟩:=h y hy;exact⟨s,λw=>e⟩
   ·exact⟨"",λz=>absurd z hy⟩
  exact⟨λy=>(h2 y).choose,λy hy=>(h2 y).choose_spec hy⟩
 unfold Fv mJ iw;walk_at "g";have st:aZ 5 [aV R W,nM Y]=[some (aV R W),some (nM Y),none,none,none]:=rfl;rw[st];have mt:∀l:List D,l.length<=100->Hm l=pure (.tup l):=λl h=>Tu (by lia)
 have ml:∀l:List D,l.length<=100->iQ l=pure (.lst l):=λl h=>fB (by lia)
 walk_at "c"
 have ea:(∀M:Mo,(rd (λM=>(jw [nD R.length] M).map D.tup):DM D)=pure (nT (List.range R.length))):=λw=>O3 (by lia)
 simp[mY n25,mt,ml,ea M];walk_at "h";walk_at "c"
 have as:gO (nM Y)=some (.fix (Y.map nT)):=rfl;have al:∀a b:List D,a.length+b.length<=1000->(rd (cX (.lst a) (.lst b)):DM D)=pure (.lst (a++b)):=λa b h=>Cw (by lia)
 simp only[cD,bR,bj,aG,as,lA,aW,List.length_cons,List.length_nil,cz,List.map_nil,List.append_nil,Out.run,List.replicate];rw[fj nT (λl=>D.lst (l.map nD)) (by lia) (λl w=>by simp;rfl)]
 rw[fj nT (λl=>nT l.reverse) (by lia) (λl w=>by
  have rv:K4 (nT l)=some (nT l.reverse):=by show some (D.tup (l.map nD).reverse)=_;rw[<-List.map_reverse];rfl
  simp[rv])]
 rw[fj nT (λl=>nT (l++l)) (by lia) (λl hl=>by have:=(dX (sh.mem l hl).1).2.1;simp[RD (x:=l) (y:=l) (by lia)])]
 rw[<-vH];have l0:(vH R.length).length=12:=rfl;rw[aq,al _ _ (by rw[Wm];lia),aq,aq,al _ _ (by simp;lia),aq,aq,al _ _ (by simp;lia),aq]
 walk_at "h";have bd:∀d∈((vH R.length++Y.map λl=>D.lst (l.map nD))++Y.map λl=>nT l.reverse)++(Y.map λl=>nT (l++l)),Bd R.length d:=Qp hn sh
 revert bd;generalize ((vH R.length++Y.map λl=>D.lst (l.map nD))++Y.map λl=>nT l.reverse)++(Y.map λl=>nT (l++l))=bs
 intro bd;walk_at "c"
 simp only[cD,bR,bj,aG];have asl:(rd (wC (.lst bs)):DM Itn)=pure (.fix bs):=rfl;rw[asl,aq];simp only[fF];refine Rn.bind (bL (Vn M (aV R W) (nM Y) bs) _ 0 _ _ ⟨⟨_,_,rfl⟩,bW.refl⟩ (λi d δ M1 hi hI=>?_)) (λr M1 hI=>?_)
 rotate_left
 ·obtain⟨δ',rfl,⟨_,_,rfl⟩,k⟩:=hI;rw[hK];exact Rn.pure ⟨_,rfl,rfl,k⟩
 clear hK K;obtain⟨⟨z3,z4,rfl⟩,k1⟩:=hI;have hb:=bd d (WR hi);obtain⟨s,es⟩:=hb.sh;rw[dU,aq];simp only[cD,bR,es,as,lA,aW,List.length_cons,List.length_nil,cz,List.map_nil,List.append_nil,Out.run,List.replicate];rw[fj nT (λl=>D.str (f l)) (by lia) (λl hl=>by simp[hf l hl])]
 simp only[aq];have ns:=RQ s (Y.map f);rw[W4]at ns;rw[show (Y.map λl=>D.str (f l))=Y.map (D.str ∘ f) from rfl,ns,aq,fu,aq]
 cases hc:(Y.map f).contains s with
 |true=>
   rw[Ww (by decide)]
   exact Rn.pure ⟨_,rfl,⟨_,_,rfl⟩,k1⟩
 | false=>
   rw[Wq (by decide)]
   have hx:∀ l,d=nT l->dq l∉bO (LD R):=λl e hm=>by
    have hY:l∈Y:=by
     have m1:tupI (dq l)∈(bO (LD R)).map tupI:=Zc hm;rw[D.tup.inj eY,<-Eg]at m1;obtain⟨y,hy,e2⟩:=WQ.mp m1;have:y=l:=by have e3:y.map nD=l.map nD:=D.tup.inj e2;exact (Zk (f:=nD) λa b h=>by have:=D.int.inj h;lia).mp e3
     exact this ▸ hy
    have:s=f l:=by have e4:=hf l hY;rw[<-e,es]at e4;have:=congrFun e4 [];cases this;rfl
    rw[this]at hc;have:(Y.map f).contains (f l)=true:=by rw[YD];exact Zc hY
    rw[this]at hc;cases hc
   have rx:∀M,Rx (gW [aV R W,d]) M "NoSet" (bW M):=λM=>hb.out wk (by lia) hx M
   walk_at "c"
   simp only[cD,bR,List.map_cons,List.map_nil,Option.getD_some,aG];refine Rn.bind (Ii (I9 (rx M1))) λe M2 ⟨e1,k2⟩=>?_
   subst e1;refine Rn.fM (by simp) ?_
   try simp only[cD,aq]
   walk_at "h";have k3:bW M (M2++[DO.lst [.tup [.str "set"]]]):=(k1.trans k2).trans bW.push;have a3:(M2++[DO.lst [.tup [.str "set"]]])[M2.length]?=some (.lst [.tup [.str "set"]]):=by simp
   have q0:=(k1.trans k2).len;revert k3 a3 q0;generalize M2.length=q;generalize M2++[DO.lst [.tup [.str "set"]]]=M3;intro k3 a3 q0;walk_at "c"
   simp only[cD,bR,List.map_cons,List.map_nil,Option.getD_some,aG];refine Rn.bindRd [.tup [.str "set"]] (by simp only[aN,a3]) ?_
   refine Rn.bind (Ii (R4 (rx M3))) λe M4 ⟨e1,k4⟩=>?_
   subst e1;have a4:=k4 _ _ a3;refine Rn.run (mF a4 (by simp)) ?_
   try simp only[aq]
   walk_at "h";have a5:(M4.set q (.lst ([.tup [.str "set"]]++[.tup [.str "set"]])))[q]?=some (.lst [.tup [.str "set"],.tup [.str "set"]]):=by rw[W8 (Wj.mp a4).1];rfl
   have k5:=(k3.trans k4).set (o:=.lst ([.tup [.str "set"]]++[.tup [.str "set"]])) q0;revert a5 k5;generalize M4.set q (.lst ([.tup [.str "set"]]++[.tup [.str "set"]]))=M5;intro a5 k5;have mu:(rd (λM=>(qg (.lst [.tup [.str "set"]]) (.int 2) M).map D.lst):DM D)=pure (.lst [.tup [.str "set"],.tup [.str "set"]]):=cB λM=>rfl
   have ne:Lx (.ref q) (.lst [.tup [.str "set"],.tup [.str "set"]]) M5=some (.bl false):=by unfold Lx;simp only[a5];simp[gQ,L3.eqB,eqP,toPy,dW,PyData.canLay0,PyData.canLayAll0,PyData.depth,PyData.depthAll,PyData.eqv,PyData.eqvAll];decide +kernel
   simp only[List.getElem?_cons_zero,List.getElem?_cons_succ,Option.join_some,dY,aq,mt [.str "set"] (by simp),ml [.tup [.str "set"]] (by simp),mu]
   refine Rn.bindRd _ ne ?_;rw[fu,aq,Ww (by decide)]
   exact Rn.pure ⟨_,rfl,⟨_,_,rfl⟩,k5⟩
def Sy.shu{R:A6}{y:C0}{x:Nat}(hn:R.length<=25)(h:y∈LD R)(hs:bQ (LD R) y=true)(sy:Sy R y x):Shu R y:=by
 obtain⟨ay,hlen,cn⟩:=dX h;refine⟨ay,cn,?_,by lia,?_,λz hz=>by rw[sy.ga0];exact (sy.mem.mp hz).2⟩
 ·rw[sy.eq];exact List.Pairwise.filter _ Yv
 ·exact (fG _).1.mem_iff.mpr (Bp (Zc (WN.mpr ⟨h,hs⟩)))
def Sy.rnd{R:A6}{W:Nat}{y:C0}{x:Nat}(wk:WK R W)(h:y∈LD R)(hs:bQ (LD R) y=true)(sy:Sy R y x):Qa R y x:=by obtain⟨x',h1,h2,h3⟩:=round (Y:=[]) wk h hs;rw[sy.x0]at h1;cases h1;exact⟨sy.x0,h2,h3⟩
def T3{t:Nat}{S:A6}(ht:t<=7)(h:∀l∈S,∀n∈l,n<2^1000)(hl:∀l∈S,l.length<=30)(hS:S.length<=30):my (.lst [nD t,nM S]):=by
 have d:=yz S;have b:=FZ hl;have:(1923*30+100)*S.length<=(1923*30+100)*30:=Nat.mul_le_mul_left _ hS;refine d8 (p:=.list [.int (t:Int),.tuple (S.map λl=>PyData.tuple (l.map λn:Nat=>PyData.int (n:Int)))]) ?_ ?_ ?_ ?_
 ·unfold nM;simp only[toPy,dW,Ai,Option.map_some];rfl
 ·simp only[PyData.showable,PyData.showableAll,Pn h,Bool.and_self,Bool.and_true];exact WY (Zm (Nat.log2_le_self _) (by rw[Z4];lia))
 ·simp only[PyData.depth,PyData.depthAll];lia
 ·simp only[dM,fW];show _<=2^24
  lia
def Ph(N:A6)(l:C0):(vy N l).length=fU N l:=by unfold vy;simp
def CG(h:s∈vy N l):s.length<=l.length/\∀z∈s,z∈l:=by obtain⟨i,_,rfl⟩:=WQ.mp h;exact⟨Xg _ _,λz hz=>(WN.mp hz).1⟩
noncomputable def Jl:=aD 1 10 (Lh xR xZ yh xY yj ym ux oX xQ Fv)
noncomputable def Up(cs:C1)(i:Nat)(δ:aj)(M:Mo):Prop:=∃x1 x2 x3 x4 x5 x6 x7 x8 x9,δ=[some (.scr cs),x1,x2,x3,x4,x5,x6,x7,x8,x9]
noncomputable def Us(cs:C1)(p:Nat)(i:Nat)(δ:aj)(M:Mo):Prop:=(∃x1 x3 x4 x5 x6 x7 x8 x9,δ=[some (.scr cs),x1,some (.ref p),x3,x4,x5,x6,x7,x8,x9])/\gm p M
noncomputable def Vp(cs:C1)(p:Nat)(R Y:A6)(W:Nat)(i:Nat)(δ:aj)(M:Mo):Prop:=(∃x1 x3 x7 x8 x9,δ=[some (.scr cs),x1,some (.ref p),x3,some (nM R),some (aV R W),some (nM Y),x7,x8,x9])/\gm p M
noncomputable def Uo(cs:C1)(p:Nat)(R Y:A6)(W:Nat)(y:C0)(d:D)(i:Nat)(δ:aj)(M:Mo):Prop:=(∃x1 x3 x9,δ=[some (.scr cs),x1,some (.ref p),x3,some (nM R),some (aV R W),some (nM Y),some (nT y),some d,x9])/\gm p M
def gm.kpt(h:gm p M)(k:bW M M'):gm p M':=by obtain⟨a,b,c,hc,e⟩:=h;exact⟨a,b,c,hc,k _ _ e⟩
def NT(cs:C1)(hcs:cs.length<=100000):Rn (Jl [.scr cs]) [] λd z=>d=.bl true:=by
 unfold Jl Lh Eo;walk_at "g";have st:aZ 10 [D.scr cs]=[some (.scr cs),none,none,none,none,none,none,none,none,none]:=rfl;rw[st];obtain⟨c0,ec⟩:=Qq cs 0;have ec':xR [.scr cs,.int 0]=pure (.int c0):=ec;have l1:∀x:D,iQ [x]=pure (.lst [x]):=λx=>fB (by simp)
 have l2:∀x y:D,iQ [x,y]=pure (.lst [x,y]):=λx y=>fB (by simp)
 have cl:(cutD (cs.map D.int) (some 1) (some 4)).length<=100000:=by
  unfold cutD;rw[Yz,ZJ,Wm]
  lia
 have ci:∀d∈[.int c0]++cutD (cs.map D.int) (some 1) (some 4),∃c:Int,d=.int c:=λd hd=>by
  rcases WF.mp hd with h | h
  ·exact⟨c0,Wx.mp h⟩
  ·unfold cutD at h;obtain⟨c,_,rfl⟩:=WQ.mp (aaE (ZM h));exact⟨c,rfl⟩
 have ad:=Cw (a:=[.int c0]) (b:=cutD (cs.map D.int) (some 1) (some 4)) (by simp;lia)
 have a1:(Qk (.int 1):DM (Option Int))=pure (some 1):=rfl;have a3:(Qk (.int 4):DM (Option Int))=pure (some 4):=rfl;have rg3:oE [.int 3]=some (.fix ((List.range 3).map nD)):=vh (n:=3) (by lia)
 have rg2:oE [.int 2]=some (.fix ((List.range 2).map nD)):=vh (n:=2) (by lia)
 walk_at "c"
 simp[ec',l1,TJ];rw[a1,aq,a3,aq,ad];simp only[aq,RG,fF,dY,List.map_cons,List.map_nil];clear ad cl;generalize [.int c0]++cutD (cs.map D.int) (some 1) (some 4)=cl at ci;refine Rn.bind (bL (Up cs) cl 0 _ _ ⟨_,_,_,_,_,_,_,_,_,rfl⟩ (λj d δ M hj hI=>?_)) (λr M hI=>?_)
 rotate_left
 ·obtain⟨δ',rfl,_⟩:=hI;rw[hK];exact Rn.pure rfl
 clear hK K;obtain⟨c,rfl⟩:=ci d (WR hj);obtain⟨x1,x2,x3,x4,x5,x6,x7,x8,x9,rfl⟩:=hI;generalize 0+j+1=nx;rw[dU,aq];walk_at "c"
 simp only[cD,bR,aG];refine Rn.bind (OD c M) λd M0 ⟨e,hp⟩=>?_
 subst e;revert hp;generalize M.length=p;intro hp
 try simp only[cD,aq]
 walk_at "h";simp only[rg3,dY,aq,fF];refine (bL (Us cs p) _ 0 _ _ ⟨⟨_,_,_,_,_,_,_,_,rfl⟩,hp⟩ (λtn d δ M hj2 hI=>?_)).mono (λr M hI=>?_)
 rotate_left
 ·obtain⟨δ',rfl,⟨_,_,_,_,_,_,_,_,rfl⟩,_⟩:=hI;exact⟨_,rfl,_,_,_,_,_,_,_,_,_,rfl⟩
 obtain⟨⟨x1,x3,x4,x5,x6,x7,x8,x9,rfl⟩,hp⟩:=hI;generalize 0+tn+1=nx2;obtain⟨_,rfl⟩:=oG hj2;rw[dU,aq];walk_at "c"
 simp only[cD,bR,aG];refine Rn.bind (Pg (tp:=6) hp (by decide) (by decide)) λd M1 ⟨R,W,e,wk,hR,hW,a8,_⟩=>?_
 subst e
 try simp only[cD,aq]
 walk_at "h";have n1:=wk.n1;obtain⟨Y,eY,sh⟩:=shuts wk;have Yl:=sh.len;walk_at "c"
 simp only[bR,Mm,bj,aG];rw[Su wk,aq];refine Rn.bind (N7 wk (by lia) M1) λd M2 ⟨e2,k2⟩=>?_
 subst e2;rw[eY];simp only[cD,aq];walk_at "h";have hp2:=a8.kpt k2;walk_at "c"
 have as:gO (nM Y)=some (.fix (Y.map nT)):=rfl;simp only[bR,bj,as,aG,fF];refine Rn.bind (bL (Vp cs p R Y W) _ 0 _ _ ⟨⟨_,_,_,_,_,rfl⟩,hp2⟩ (λi d δ M3 hj3 hI=>?_)) (λr M3 hI=>?_)
 ·obtain ⟨⟨x1,x3,x7,x8,x9,rfl⟩,rj⟩:=hI;clear hK K;rw[WM]at hj3;obtain⟨y,hy,rfl⟩:=Wk.mp hj3;have hyY:=WR hy;obtain⟨m1,m2⟩:=sh.mem y hyY;obtain⟨x,sy⟩:=T6 m1 m2;have su:=sy.shu wk.n25 m1 m2;have rn:=sy.rnd wk m1 m2;have hle:=(dX m1).2;generalize 0+i+1=nx3;rw[dU,aq];refine aB λK hK=>?_
  simp only[cD,bR,bj,aG];refine Rn.bind (Je wk hR rn M3) λd M4 ⟨e4,t1,t7,k4⟩=>?_
  subst e4;refine Rn.bind (Pr wk hR rn M4) λd M5 ⟨e5,k5⟩=>?_
  subst e5;rw[TX wk hR sy t1,Mv wk sy]at *;simp only[cD,l2,aq];walk_at "h";have hp5:=rj.kpt (k4.trans k5);simp only[rg2,dY,aq,fF];obtain⟨sx,es⟩:my (.lst [nD (fU (aJ R) y),nM (vy (aJ R) y)]):=T3 t7 (λl hl n h=>by have:=hle.2 n ((CG hl).2 n h);exact Wt this (W0 hR (W0 (show 6<=2^64 by decide) (Za (by decide) (by decide))))) (λl hl=>by have:=(CG hl).1;lia) (by rw[Ph];lia)
  have ns:(rd (gQ (.str sx) (.str sx)):DM D)=pure (.bl false):=by rw[Tz,WY rfl];rfl
  refine (bL (Uo cs p R Y W y (.lst [nD (fU (aJ R) y),nM (vy (aJ R) y)])) _ 0 _ _ ⟨⟨_,_,_,rfl⟩,hp5⟩ (λlp d δ M6 hj6 hI=>?_)).mono (λr M6 hI=>?_)
  ·obtain⟨⟨x1,x3,x9,rfl⟩,hp6⟩:=hI;obtain⟨_,rfl⟩:=oG hj6;simp only[cD,bR,dU,bj,aG];refine Rn.bind (Ja wk (by lia) su M6) λd M7 ⟨e7,k7⟩=>?_
   subst e7;refine Rn.bind (R5 wk (by lia) su (by lia) M7) λd M8 ⟨e8,k8⟩=>?_
   subst e8;simp only[l2,aq,es,ns,fu];simp;exact Rn.pure ⟨_,rfl,⟨_,_,_,rfl⟩,hp6.kpt λj o e=>k8 j o (k7 j o e)⟩
  ·obtain⟨δ',rfl,⟨x1,x3,x9,rfl⟩,hp6⟩:=hI;exact⟨_,rfl,⟨_,_,_,_,_,rfl⟩,hp6⟩
 ·obtain⟨δ',rfl,⟨x1,x3,x7,x8,x9,rfl⟩,rj⟩:=hI;walk_at "h";simp only[bR,bj,aG];refine Rn.bind (RW wk hR eY sh M3) λd M4 ⟨e4,k4⟩=>?_
  subst e4;simp;exact Rn.pure ⟨_,rfl,⟨_,_,_,_,_,_,_,_,rfl⟩,rj.kpt k4⟩
end K
namespace K
open PySem L2 L3 N10
def Lz(K:B0):Bool:=K.all λp=>!(p.2.cls==.type "list")
def Rk{K:B0}(h:Lz K=true){a:Addr}{o:Obj}(e:K.lookup a=some o):o.cls≠.type "list":=by
 have:∀ (l:A8),(l.all λp=>!(p.2.cls == .type "list"))=true->l.lookup a=some o->o.cls≠.type "list":=by
  intro l;induction l with
  |nil=>intro _ e;cases e
  | cons p l ih=>
    intro h e;rw[aaV,YC]at h;rw[YS]at e;split at e
    ·cases e;intro z;rw[z]at h;exact absurd h.1 (by decide)
    ·exact ih h.2 e
 exact this K h e
structure Cls(K:B0)(mg:A4)(CE_NoSet mw CC_Walk:Addr)(tg_MOST_PLACES:Tok):Prop where
 t:XTab K mg vD mw
 m_FadeError:mg "FadeError"=some (.ref mw)
 fk:∀c∈vD,∀C,mg c=some (.ref C)->FlK K mg Al c C
 mL:∀x∈Al,∃C,mg x=some (.ref C)
 m_MOST_PLACES:mg "MOST_PLACES"=some (.int 25 tg_MOST_PLACES)
 o_Walk:OCls K mg "Walk" CC_Walk ["rows", "whole"]
 k_Walk:W.makesIn K CC_Walk=true/\W.keepIn K (.ref CC_Walk)=true
 nl:Lz K=true
def Qt{K:B0}{h:Heap}{mg:A4}(X:K.In h)(G:h.Ns mainGlobals mg){CE_NoSet mw CC_Walk:Addr}{tg_MOST_PLACES:Tok}
  (cE0:W.nsIn K mainGlobals "FadeError"=some (some (.ref mw)))
  (c_NoSet:W.nsIn K mainGlobals "NoSet"=some (some (.ref CE_NoSet)))
  (eE0:W.excIn K mw wy "ValueError.__new__"=true)
  (e_NoSet:W.excIn K CE_NoSet wy "ValueError.__new__"=true)
  (s_NoSet:W.mroIn K CE_NoSet (.ref mw)=some true)
  (x1_NoSet:W.findIn K (.ref CE_NoSet) "__getattribute__"=some (some (.builtin "BaseException.__getattribute__")))
  (x2_NoSet:W.findIn K (.ref CE_NoSet) "__getattr__"=some none)
  (x3_NoSet:W.findIn K (.ref CE_NoSet) "__class__"=some (some (.builtin "object.__class__")))
  (x4_NoSet:W.mroIn K CE_NoSet (.type "object")=some true)
  (x5_NoSet:W.mroIn K CE_NoSet (.type "BaseException")=some true)
  (v_NoSet_NoSet:W.kitOne K (.ref CE_NoSet) (.ref CE_NoSet)=some true)
  (fv_NoSet:W.kitOne K (.ref CE_NoSet) (.type "ValueError")=some true)
  (fo_NoSet:W.kitAny K (.ref CE_NoSet) (Ek.map Value.type)=some false)
  (nk_NoSet:wz K CE_NoSet "NoSet" Al)
  (g_MOST_PLACES:W.nsIn K mainGlobals "MOST_PLACES"=some (some (.int 25 tg_MOST_PLACES)))
  (cm_Walk:W.nsIn K mainGlobals "Walk"=some (some (.ref CC_Walk)))
  (pg_Walk:W.plainGet K CC_Walk Str.empty=true)
  (hd_Walk:W.hasDictIn K CC_Walk=true)
  (po_Walk:W.plainOver K CC_Walk=true)
  (sa_Walk:W.findIn K (.ref CC_Walk) "__setattr__"=some (some (.builtin "object.__setattr__")))
  (mk_Walk:W.makesIn K CC_Walk=true)
  (kc_Walk:W.keepIn K (.ref CC_Walk)=true)
  (nf_Walk_rows:W.findIn K (.ref CC_Walk) "rows"=some none)
  (nf_Walk_whole:W.findIn K (.ref CC_Walk) "whole"=some none)
  (nl:Lz K=true)
  : Cls K mg CE_NoSet mw CC_Walk tg_MOST_PLACES:=by
 have m_NoSet:=Ze X G c_NoSet;have nof_Walk:∀f∈(["rows", "whole"]:C3),NoAttr K CC_Walk f:=by
  intro f hf;simp only[List.mem_cons,List.not_mem_nil,or_false]at hf;rcases hf with rfl | rfl
  ·exact nf_Walk_rows
  ·exact nf_Walk_whole
 refine⟨⟨λa ha=>?_,λa ha b hb C D hC hD=>?_⟩,Ze X G cE0,λc hc C hC=>?_,λx hx=>let ⟨d,e,_⟩:=nk_NoSet.at hx;⟨d,Ze X G e⟩,Ze X G g_MOST_PLACES,⟨Ze X G cm_Walk,⟨pg_Walk,hd_Walk,po_Walk,sa_Walk⟩,nof_Walk⟩,⟨mk_Walk,kc_Walk⟩,nl⟩
 ·simp only[List.mem_cons,List.not_mem_nil,or_false]at ha;rcases ha with rfl
  ·exact⟨CE_NoSet,⟨m_NoSet,e_NoSet⟩,⟨x1_NoSet,x2_NoSet,x3_NoSet,x4_NoSet,x5_NoSet⟩,⟨e_NoSet,eE0,s_NoSet⟩⟩
 ·simp only[List.mem_cons,List.not_mem_nil,or_false]at ha hb;rcases ha with rfl<;>rcases hb with rfl
  ·rw[m_NoSet]at hC;rw[m_NoSet]at hD;cases hC;cases hD;exact v_NoSet_NoSet
 ·simp only[List.mem_cons,List.not_mem_nil,or_false]at hc;rcases hc with rfl
  ·rw[m_NoSet]at hC;cases hC;exact QQ X G nk_NoSet ⟨x1_NoSet,x2_NoSet,x3_NoSet,x4_NoSet,x5_NoSet⟩ fv_NoSet fo_NoSet
def spLaw(ts:List (Addr×Addr)):Sp:=λvs H Q z=>∃(a:Addr) (ns:C1),vs=[.ref a]/\Rd H a (.lst (ns.map V.int))/\ns.length<=63/\(∀q∈ts,H q.2=some (.tbl #[]))/\∀H',Q (.bl true) H'
def T4{mg:A4}{ts:List (Addr×Addr)}{vs:List V}{H:Hp}{Q:VK}{E:XK}(h:spLaw ts vs H Q E):Aa mg Jl vs H Q E/\∀q∈ts,H q.2=some (.tbl #[]):=by
 obtain⟨a,ns,rfl,rd,hl,ht,q⟩:=h;obtain⟨d,M',e,ed⟩:=NT ns (by omega)
 refine⟨⟨⟨[],[]⟩,[],[.scr ns],.cons (.scr (λz=>by rcases z with z | z<;>cases z) rd) .nil,⟨rfl,List.nodup_nil,λn a o h=>by simp at h,λa h=>by cases h⟩,_,e,λρ' H' b x j c=>?_⟩,ht⟩
 subst ed;cases c;exact q H'
def all_mk{P:C5}{w:World}{K:B0}{mg:Mg}{fa c_ P_:Addr}{CE_NoSet mw CC_Walk:Addr}{tg_MOST_PLACES:Tok}(hfa:mg "law"=some (.ref fa)){h:Heap}(X:K.In h)(G:h.Ns mainGlobals mg)(ht_:W.tabIn K "_law_refused"=some (c_,P_))(t0:TD K "is_whole" oO)(t1:TD K "greatest_divider" eX)(t2:TD K "are_weights" jm)(t3:TD K "are_rows" oM)(t4:TD K "is_place" oN)(t5:TD K "is_rising" mj)(t6:TD K "are_rising_places" eF)(t7:TD K "next_places" jn)(t8:TD K "fewest_steps" iB)(t9:MethAt K CC_Walk "__len__" "Walk.__len__" cQ)(t10:TD K "led_to" um)(t11:TD K "shut_sets" mq)(t12:TD K "refuse_no_shut" gk)(t13:TD K "turn_of" qu)(t14:TD K "sides_of" oR)(t15:TD K "can_be_walked" gK)(t16:MethAt K CC_Walk "__init__" "Walk.__init__" gJ)(t17:TD K "_law_cell_at" iz)(t18:TD K "_law_next" lW)(t19:TD K "_law_pen_of" jk)(t20:TD K "_law_draw" lV)(t21:TD K "_law_rows" lX)(t22:TD K "_law_led" oK)(t23:TD K "_law_shut" lY)(t24:TD K "_law_common" ji)(t25:TD K "_law_all_common" fK)(t26:TD K "_law_lands" jR)(t27:TD K "_law_turn" lZ)(t28:TD K "_law_sides" jT)(t29:TD K "_law_flags" eV)(t30:TD K "_law_said" fO)(t31:TD K "_law_refused" fD)(t32:TD K "law" xF)(z0:TB K "ArithmeticError")(z1:TB K "LookupError")(z2:TB K "RuntimeError")(z3:TB K "TypeError")(z4:TB K "ValueError")(z5:TB K "all")(z6:TB K "bool")(z7:TB K "enumerate")(z8:TB K "int")(z9:TB K "isinstance")(z10:TB K "len")(z11:TB K "list")(z12:TB K "max")(z13:TB K "range")(z14:TB K "repr")(z15:TB K "set")(z16:TB K "sorted")(z17:TB K "sum")(z18:TB K "tuple")(Z:Cls K mg CE_NoSet mw CC_Walk tg_MOST_PLACES):
  ∃fd:FuncData,(∀(s:Shared) (v:Value),BindsTo s fd ⟨[v],[]⟩ [("_law_script",v)])/\∀base:Heap,K.In base->base.Ns mainGlobals mg->(∀q∈[(c_,P_)],TabD mg base q.1 q.2)->FnOk P w K mg base (cG P w) 16 fa fd ["_law_script"] (spLaw [(c_,P_)]):=by
 obtain⟨f,fd,F,m⟩:=(t32 X G).ex;have e:=hfa.symm.trans m;cases e;refine⟨fd,?_,λbase z z TD_=>?_⟩
 ·obtain⟨oc,od,kV,doc,pm,an,ae,ct,bp,rfl,_⟩:=F.ex;exact λs v=>.of_eq rfl
 have yz0:=W9 X G z0;have yz1:=W9 X G z1;have yz2:=W9 X G z2;have yz3:=W9 X G z3;have yz4:=W9 X G z4;have yz5:=W9 X G z5;have yz6:=W9 X G z6;have yz7:=W9 X G z7;have yz8:=W9 X G z8;have yz9:=W9 X G z9;have yz10:=W9 X G z10;have yz11:=W9 X G z11;have yz12:=W9 X G z12;have yz13:=W9 X G z13;have yz14:=W9 X G z14;have yz15:=W9 X G z15;have yz16:=W9 X G z16;have yz17:=W9 X G z17;have yz18:=W9 X G z18;have D0:DefD P w K mg base _ _ _ xW:=okd (t0 X G) Bc ((vf).2 yz6 yz8 yz9);have D1:DefD P w K mg base _ _ _ xU:=okn (λN=>cZ N) (t1 X G) gU S7 λN=>(eU N).2
 have D2:DefD P w K mg base _ _ _ Bg:=okd (t2 X G) vY ((o8 xW).2 D0 yz5 yz9 yz10 yz18);have D3:DefD P w K mg base _ _ _ Fo:=okd (t3 X G) Ba ((u9 Bg).2 D2 yz5 yz9 yz10 yz18);have D4:DefD P w K mg base _ _ _ xV:=okd (t4 X G) Bb ((vd xW).2 D0);have D5:DefD P w K mg base _ _ _ Fri:=okd (t5 X G) zY ((sI).2 yz5 yz10 yz13);have D6:DefD P w K mg base _ _ _ fZ:=okd (t6 X G) oU ((gR xV Fri).2 D4 D5 yz5 yz9 yz18);have D7:DefD P w K mg base _ _ _ pF:=okd (t7 X G) vZ ((o9).2 Z.o_Walk yz7 yz18);have D8:DefD P w K mg base _ _ _ pD:=okn (λN=>eZ N) (t8 X G) lB S6 λN=>(iy N).2
 have M9:MethD P w K mg base _ "Walk" _ _ _ _ jZ:=Ul t9 Z.o_Walk.at_ Z.o_Walk.cls vm ((m6).2 Z.o_Walk yz10);have D10:DefD P w K mg base _ _ _ Le:=okd (t10 X G) wU ((uf pF pD jZ).2 D7 D8 M9 yz10 yz13 yz16 yz18);have D11:DefD P w K mg base _ _ _ Fx:=okd (t11 X G) qF ((lU Le).2 D10 yz5 yz16 yz18);have D12:DefD P w K mg base _ _ _ gW:=okd (t12 X G) rO ((dR Fx fZ jZ).2 D11 D6 M9 Z.t yz10);have D13:DefD P w K mg base _ _ _ oX:=okd (t13 X G) vq ((lq gW pF pD xU).2 D12 D7 D8 D1);have D14:DefD P w K mg base _ _ _ ux:=okd (t14 X G) sO ((jx oX pF pD).2 D13 D7 D8 yz13 yz18);have D15:DefD P w K mg base _ _ _ Fp:=okd (t15 X G) jU ((lg Fo).2 D3 Z.m_MOST_PLACES yz5 yz9 yz10 yz17 yz18);have M16:MethD P w K mg base _ "Walk" _ _ _ _ Fin:=Ul t16 Z.o_Walk.at_ Z.o_Walk.cls uo ((kZ Fp).2 D15 Z.o_Walk yz17);have W_Walk:ClsD P w K mg base _ "Walk" xQ:=Uw M16 (λz z z z z z us hl=>match us,hl with | [_,_],_=>rfl) (λC hC=>by have q:=hC.symm.trans Z.o_Walk.at_;cases q;exact Z.k_Walk) Sv
 have D17:DefD P w K mg base _ _ _ xR:=okd (t17 X G) vp ((m8).2 yz10);have D18:DefD P w K mg base _ _ _ Ft:=okd (t18 X G) qx ((sH).2 );have D19:DefD P w K mg base _ _ _ xZ:=okd (t19 X G) nA ((jh).2 yz8 yz12);have D20:DefD P w K mg base _ _ _ Fq:=okd (t20 X G) qw ((lL Ft).2 D18);have D21:DefD P w K mg base _ _ _ yh:=okd (t21 X G) qy ((lM Fq).2 D20 yz8 yz10 yz11 yz13 yz18);have D22:DefD P w K mg base _ _ _ xX:=okd (t22 X G) sJ ((oA).2 yz10 yz13 yz15 yz16 yz18);have D23:DefD P w K mg base _ _ _ xY:=okd (t23 X G) qC ((lO xX).2 D22 yz15 yz16 yz18);have D24:DefD P w K mg base _ _ _ xT:=okn (λN=>fV N) (t24 X G) nu SM λN=>(jg N).2
 have D25:DefD P w K mg base _ _ _ Fj:=okd (t25 X G) iU ((fJ xT).2 D24);have D26:DefD P w K mg base _ _ _ sW:=okd (t26 X G) pA ((jN).2 yz10 yz13);have D27:DefD P w K mg base _ _ _ ym:=okd (t27 X G) qD ((lQ sW Fj).2 D26 D25 yz10 yz13);have D28:DefD P w K mg base _ _ _ yj:=okd (t28 X G) pB ((jO sW ym).2 D26 D27 yz10 yz13 yz15 yz16 yz18);have FG:FlgD P w K mg base 0 _ vD Lq:=Vx (t29 X G) ph Z.fk S5 λhr FK ho h0 hn hf=>(jM).2 Z.mL yz0 yz1 yz2 yz3 yz4 yz9 hr FK ho h0 hn hf
 have H30:HrdD P w K mg base _ _ Fw:=Vy (k:=8) (t30 X G) qz λhr ht=>(lN Lq).2 Z.t Z.m_FadeError FG (by decide) ht hr
 have T31:DefT P w K mg base _ _ _ P_ Fv:=Vz (t31 X G) lw X G ht_ λhP hc hr=>(iw oX ux jZ Fw).2 D13 D14 M9 yz10 yz11 yz13 yz14 yz18 H30 (TD_ _ (.head _)) hc hP hr
 exact ((Uy (P:=P) (w:=w) (base:=base) (ts:=[(c_,P_)]) F Ij λae A outer s H E ht hr=>(Eo xR xZ yh xY yj ym ux oX xQ Fv).2 D17 D19 D21 D23 D28 D27 D14 D13 W_Walk yz13 yz14 T31 ⟨_,ht _ (.head _)⟩ hr).imp λvs H Q E h=>T4 h).mono (by decide)
def walk{l:W.OpenLaw}{q:C5}{loose:C3}{XP:A4->B6}{YP:World->B6}{d:DefRec}{K:Params->B0}{c_ P_:Addr}(hn:l.most=some 63)(hdf:d.params.defaults=[])
  (hY:∀(w:World) (h:Heap),YP w h->(K w.params).In h) (hnl:∀w:World,Lz (K w.params)=true) (h1:((PyProof.Rows.recsOf q).find? (λe=>e.name==("_law_refused":Str))).isSome=true) (h2:∀w:World,W.tabIn (K w.params) "_law_refused"=some (c_,P_)) (h3:∀w:World,(K w.params).lookup P_=none)
  (F:∀(w:World) (mg:A4) (fa:Addr) (h:Heap),(K w.params).In h->h.Ns mainGlobals mg->mg d.name=some (.ref fa)->
    ∃fd:FuncData,(∀(s:Shared) (u:Value),BindsTo s fd ⟨[u],[]⟩ [("_law_script",u)])/\∀base:Heap,(K w.params).In base->base.Ns mainGlobals mg->(∀q∈[(c_,P_)],TabD mg base q.1 q.2)->FnOk l.prog w (K w.params) mg base (cG l.prog w) 16 fa fd ["_law_script"] (spLaw [(c_,P_)])) :
  W.WalkO q loose XP YP l.row.toRowW d [] (λf vs=>PySem.call f vs):=
 L2.Ld (n:=63) (k:=16) (x := "_law_script") (CX:=λw=>cG l.prog w) (sp:=spLaw) (tn:=[("_law_refused",c_,P_)]) hn (by decide) hdf ⟨rfl,by decide,by decide,rfl⟩ hY (λw a o e=>Rk (hnl w) e) (λt ht=>by rw[Wx.mp ht];exact h1) (λw t ht=>by rw[Wx.mp ht];exact h2 w) (λw t ht=>by rw[Wx.mp ht];exact h3 w) F (λy a ns hl hS hH=>⟨a,ns,rfl,hS,hl,hH,λy=>rfl⟩) λy y y y y z=>by obtain⟨_,_,_,_,_,_,_,_,_,_,_,_,_,q⟩:=z;exact q.elim
end K
open PySem PySem.W PyProof.Rows
set_option maxRecDepth 100000 in
set_option maxHeartbeats 0 in
theorem PySem.Challenge.cw_fadewalk_k31_turns_and_sides_holds : PySem.Challenge.rw_fadewalk_k31_turns_and_sides.Holds := by
 w_on;refine T.cut ?_
 k_fill
 refine' K.walk (l:=PySem.Challenge.rw_fadewalk_k31_turns_and_sides) rfl rfl (λw h Y=>PySem.W.km_in_of Y) ?nl9 ?h1 ?h2 ?h3 ?F
 case h2=>
  intro w
  refine' L2.IW ?qa ?ql ?qc ?qd ?qe
  case qa=>k_is
  case ql=>k_is
  case qc=>exact rfl
  case qd=>k_is
  case qe=>exact rfl
 case nl9=>intro w;first | k_is | kernel_rfl
 case h1=>decide +kernel
 case h3=>intro w;first | k_is | kernel_rfl
 case F=>
  intro w mg fa h KX G hmg
  refine' K.all_mk hmg KX G ?ht ?t0 ?t1 ?t2 ?t3 ?t4 ?t5 ?t6 ?t7 ?t8 ?t9 ?t10 ?t11 ?t12 ?t13 ?t14 ?t15 ?t16 ?t17 ?t18 ?t19 ?t20 ?t21 ?t22 ?t23 ?t24 ?t25 ?t26 ?t27 ?t28 ?t29 ?t30 ?t31 ?t32 ?z0 ?z1 ?z2 ?z3 ?z4 ?z5 ?z6 ?z7 ?z8 ?z9 ?z10 ?z11 ?z12 ?z13 ?z14 ?z15 ?z16 ?z17 ?z18 (K.Qt KX G ?cE0 ?c_NoSet ?eE0 ?e_NoSet ?s_NoSet ?x1_NoSet ?x2_NoSet ?x3_NoSet ?x4_NoSet ?x5_NoSet ?v_NoSet_NoSet ?fv_NoSet ?fo_NoSet ?nk_NoSet ?g_MOST_PLACES ?cm_Walk ?pg_Walk ?hd_Walk ?po_Walk ?sa_Walk ?mk_Walk ?kc_Walk ?nf_Walk_rows ?nf_Walk_whole ?nl)
  case ht=>
   refine' L2.IW ?qa ?ql ?qc ?qd ?qe
   case qa=>k_is
   case ql=>k_is
   case qc=>exact rfl
   case qd=>k_is
   case qe=>exact rfl
  case cm_Walk=>k_is
  case cE0 | c_NoSet | eE0 | e_NoSet | s_NoSet | x1_NoSet | x2_NoSet | x3_NoSet | x4_NoSet | x5_NoSet | v_NoSet_NoSet | fv_NoSet | fo_NoSet | g_MOST_PLACES | pg_Walk | hd_Walk | po_Walk | sa_Walk | mk_Walk | kc_Walk | nf_Walk_rows | nf_Walk_whole | nl=>first | k_is | k_exc | kernel_rfl
  case nk_NoSet=>
   refine' (L3.bH false ?_ ?_ rfl (L3.bH false ?_ ?_ rfl (L3.bH false ?_ ?_ rfl (L3.bH false ?_ ?_ rfl (L3.bH false ?_ ?_ rfl (L3.bH false ?_ ?_ rfl (L3.bH false ?_ ?_ rfl (L3.bH false ?_ ?_ rfl (L3.bH false ?_ ?_ rfl (L3.bH false ?_ ?_ rfl (L3.bH false ?_ ?_ rfl (L3.bH false ?_ ?_ rfl (L3.bH false ?_ ?_ rfl (L3.bH false ?_ ?_ rfl (L3.bH true ?_ ?_ rfl (L3.bH false ?_ ?_ rfl (L3.bH false ?_ ?_ rfl (L3.bH false ?_ ?_ rfl (L3.bH false ?_ ?_ rfl (L3.bH false ?_ ?_ rfl True.intro))))))))))))))))))))
   all_goals try (first | k_is | k_exc | kernel_rfl)
  case t9 | t16=>apply L2.Hk<;>k_is
  case t0 | t1 | t2 | t3 | t4 | t5 | t6 | t7 | t8 | t10 | t11 | t12 | t13 | t14 | t15 | t17 | t18 | t19 | t20 | t21 | t22 | t23 | t24 | t25 | t26 | t27 | t28 | t29 | t30 | t31 | t32=>apply L3.Ua<;>k_is
  case z0 | z1 | z2 | z3 | z4 | z5 | z6 | z7 | z8 | z9 | z10 | z11 | z12 | z13 | z14 | z15 | z16 | z17 | z18=>delta L3.TB;k_is
