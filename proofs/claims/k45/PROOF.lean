import PyProof.Rows.All
import Wide.All
import OpenK.AllK
import Wide.FinOn
import Lean
import PyProof.EqAt
import PyProof.EqKinds
import PyProof.TupleCall
import PyProof.ReprRoads
import PyProof.P3Eq
import PyProof.NeData
import PyProof.ReprLen
import PyProof.Rows.RegStrFacts
import OpenK.KOwn
import PyProof.StationsW
import PyProof.Rows.Catch
import PyProof.Rows.Own
import PyProof.RulesAs
import PyProof.ExcBaseAll.ValueError
import PyProof.NsDelKeeps
import PyProof.ExcArgsOwn
import PyProof.ExcAttrAll.ValueError
import PyProof.CompFree
import PyProof.CompMap
import PyProof.ConsumeWalk
import PyProof.SumWalk
import PyProof.Rows.TupIter
import PyProof.Rows.SumGenD
import PyProof.FString
import PyProof.Rows.FStr
import PyProof.Rows.RuleIs
import PyProof.FactsAll.tuple_iterator_1
import PyProof.FactsAll.tuple_2
import PyProof.FactsAll.list_3
import PyProof.Cells
import PyProof.ZipIter
import PyProof.EnumMake
import PyProof.EnumFor
import PyProof.ListRange
import PyProof.TupleOfSeq
import PyProof.AttrMissHeap
import KE.KDictOf
import KE.KItemsList
import PyProof.DictValues
import PyProof.DictItemsLoops
import PyProof.DictWalks
import PyProof.Rows.SetFrom
import PyProof.Rows.SortShell
import PyProof.CollectWalk
import PyProof.FactsAll.set_1
import PyProof.Rows.SortWalk
import PyProof.FactsAll.set_2
import KE.KDictSum
import KE.KRevIter
import PyProof.FactsAll.range_2
import KE.KSortTup
import PyProof.WalkInts
import PyProof.TupleKey
import PyProof.IsRules
import KE.KTupSum
import PyProof.SeqI3
import PyProof.Conv_int_bool
import PyProof.ListOps
import KE.KDictLaws
import PySem.Challenge.RW_fadewalk_k45_walks_turned_about
set_option linter.defProp false
set_option compiler.extract_closed false
def qAA:Lean.Syntax:=.node .none `Lean.Parser.Tactic.tacticSeq #[.node .none `Lean.Parser.Tactic.tacticSeq1Indented #[.node .none `null #[.node .none `Lean.Parser.Tactic.tacticRfl #[.atom .none "rfl"]]]]
theorem qqq(h:True:=by decide):True:=h
def qAB:Lean.Syntax:=qqq._auto_1
abbrev A1:=List (PySem.Addr×List Int)
abbrev A3:=PySem.Value->PySem.Shared->Prop
abbrev A4:=PySem.Str->Option PySem.Value
abbrev A5:=Array (Int×PySem.Value)
abbrev A6:=List (List Nat)
abbrev A7:=List (List Int)
abbrev A8:=List (PySem.Addr×PySem.Obj)
abbrev A9:=List (PySem.Str×PySem.Addr)
abbrev B0:=PySem.W.Frag
abbrev B1:=Option PySem.Value
abbrev B2:=PySem.Shared->Prop
abbrev B3:=Option PySem.Addr
abbrev B4:=Array PySem.Value
abbrev B5:=List PySem.Value
abbrev B6:=PySem.Heap->Prop
abbrev B7:=List PySem.Addr
abbrev B8:=List PySem.Expr
abbrev B9:=Array Nat
abbrev C0:=List Nat
abbrev C1:=List Int
abbrev C3:=List PySem.Str
abbrev C4:=List PySem.Env
abbrev C5:=PySem.Program
section
open PySem PySem.Spec PySem.W PySem.Calls PyProof.Rows
abbrev _root_.PySem.Shared.z(s:Shared):=s.heap.objs.size
abbrev _root_.wq{α:Type}(p:Program)(w:World)(A:Around)(m:Sem α):=wpAny (model p w) A m
def YF:=@wpAny_bind
def YG:=@wpAny_pure
def YH:=@Heap.get?_push_of_some
def YJ:=@List.getElem?_eq_some_iff
def YK:=@if_pos
def YL:=@Nat.le_refl
def YM:=@Option.map_eq_some_iff
def YQ:=@if_neg
def YS:=@List.getElem?_eq_getElem
def YT:=@List.length_map
def YW:=@Heap.lt_size
def YX:=@List.mem_range
def YZ:=@Heap.get?_push_size
def Y0:=@Nat.lt_of_lt_of_le
def Y4:=@Option.some.inj
def Y5:=@List.mem_cons
def Y6:=@Nat.ne_of_lt
def Y7:=@Option.bind_eq_some_iff
def Y8:=@List.getElem?_map
def Y9:=@List.getElem?_append_left
def Za:=@List.size_toArray
def Zb:=@List.mem_append
def Zc:=@Bool.false_ne_true
def Zd:=@List.mem_cons_self
def Ze:=@List.mem_map
def Zf:=@Bool.eq_iff_iff
def Zg:=@decide_eq_true
def Zh:=@wpAny_mono
def Zi:=@List.mem_singleton
def Zj:=@List.map_cons
def Zk:=@List.mem_of_getElem?
def Zm:=@List.length_append
def Zn:=@List.mem_filter
def Zo:=@List.map_map
def Zq:=@List.mem_cons_of_mem
def Zr:=@List.getElem?_set_self
def Zt:=@PySem.W.mg_none_of
def Zu:=@List.length_range
def Zv:=@List.getD_eq_getElem?_getD
def Zw:=@wpAny_newObj_type
def Zx:=@Nat.le_trans
def Zy:=@wpAny_call_entry
def Zz:=@List.getElem?_set_ne
def ZC:=@List.mem_append_right
def ZD:=@PassesOwn.leaving
def ZF:=@wpAny_holding
def ZG:=@List.getElem?_range
def ZJ:=@List.map_congr_left
def ZM:=@Nat.zero_add
def ZP:=@wpAny_callSpecial?_slot
def ZQ:=@decide_eq_false
def ZR:=@PyProof.Rows.callWith_type1
def ZV:=@List.mem_iff_getElem
def ZW:=@of_decide_eq_true
def ZX:=@Heap.size_push
def ZZ:=@Nat.lt_of_le_of_lt
def Z0:=@List.getElem?_eq_none_iff
def Z1:=@Array.getD_eq_getD_getElem?
def Z2:=@List.mem_append_left
def Z3:=@decide_eq_true_eq
def Z4:=@List.getElem?_append_right
def Z5:=@List.getElem?_eq_none
def Z6:=@Array.length_toList
def Z7:=@List.length_cons
def Z8:=@Nat.zero_le
def Z9:=@List.pairwise_cons
def OZ:=@List.length_set
def Rl:=@Nat.mul_assoc
def NS:=@wpAny_setState_of
def HA:=@Array.getElem?_eq_getElem
def OH:=@PySem.W.kia_one
def OF:=@List.foldl_cons
def OA:=@List.getElem_mem
def L6:=@PySem.mem_of_lookup
def JO:=@List.length_replicate
def JA:=@Around.under_plainId
def FT:=@Nat.eq_of_mul_eq_mul_left
def JI:=@Heap.SameBut.update
def Kx:=@List.replicate_succ
def FH:=@Option.isSome_iff_exists
def IJ:=@List.length_filter_le
def ML:=@codeAny_builtin
def FU:=@List.getElem?_replicate
def LW:=@List.length_take
def OM:=@wpAny_field
def MG:=@wpAny_setField
def JJ:=@wpAny_truthy_bool
def KI:=@Int.toNat_natCast
def PR:=@Nat.not_lt
def Kj:=@Nat.lt_succ_self
def Kb:=@Bool.and_eq_true
def JY:=@wpAny_askSetting
def Kk:=@List.all_eq_true
def NR:=@Nat.le_of_lt
def Kt:=@List.ext_getElem
def MI:=@Nat.lt_irrefl
def Fc:=@Nat.pow_le_pow_right
def Fa:=@Nat.mul_le_mul_right
def OY:=@Nat.mod_lt
def EM:=@PySem.F.plainAttrs_list
def EJ:=@List.filter_cons_of_pos
def IP:=@Nat.lt_succ_of_lt
def IM:=@List.append_assoc
def FS:=@wpAny_setEntries_of
def FF:=@List.filter_eq_self
def MA:=@codeAny_mono
def BQ:=@Heap.get?_update_other
def MH:=@Nat.mul_comm
def MX:=@sizeLine_eq
def GB:=@List.any_eq_true
def FM:=@wpAny_Call_Name_kw
def FV:=@Nat.eq_zero_or_pos
def Bn:=@List.pairwise_iff_getElem
def BC:=@Calls.call_function_entry
def yb:=@PyProof.Rows.slot_tuple_getitem
def CL:=@List.mem_of_mem_take
def EQ:=@PySem.W.looks_findIn
def BH:=@AutoSeq1.wpAny_loadPart'
def FY:=@List.of_mem_zip
def GA:=@List.append_nil
def EH:=@List.range_eq_range'
def KG:=@wpAny_attempt
def AG:=@List.filter_cons_of_neg
def EZ:=@List.lookup_cons
def AZ:=@List.pairwise_lt_range
def ME:=@wpAny_rule
def Cb:=@List.zip_cons_cons
def DD:=@assignInOrder_cons
def BU:=@List.map_inj_right
def vF:=@PyProof.Rows.F.plain_set_update_loop
def AO:=@List.contains_iff_mem
def AH:=@Array.getElem?_toList
def FC:=@List.map_append
def Fu:=@wpAny_passesOwn
def IF:=@PySem.W.mg_of
def CY:=@List.flatten_cons
def CM:=@F.plain_list_iadd
def EI:=@List.nodup_append
def Kn:=@Int.neg_mul
def CB:=@List.length_drop
def BB:=@List.filterMap_cons
def BG:=@beq_eq_false_iff_ne
def FE:=@List.sum_cons
def Fm:=@wpAny_standAt
def EX:=@List.any_cons
def w8:=@PyProof.Rows.callWith_builtin1
def JU:=@beq_iff_eq
def AY:=@Calls.spliced_cons
def x0:=@PySem.W.cellsFrom_some
def y9:=@List.take_of_length_le
def AQ:=@wpAny_loadPart_at
def BF:=@Calls.spliced_nil
def BM:=@List.pairwise_map
def Bi:=@Nat.lt_trichotomy
def ED:=@wpAny_fieldsOf
def yA:=@F.slot_enumerate_next
def EW:=@Int.mul_comm
def FA:=@wpAny_typeOf
def yy:=@List.mem_iff_getElem?
def EN:=@Int.mul_nonneg
def FD:=@List.map_nil
def zS:=@Heap.get?_update_self
def Fs:=@Nat.lt_trans
def HE:=@call_meets
def IQ:=@wpAny_call
def AU:=@List.cons_append
def y7:=@codeAny_call_builtin
def w9:=@Calls.Name_function_global
def wm:=@Array.getElem?_eq_none_iff
def wT:=@wpAny_newFunctionEnv_cells
def DZ:=@Paired.length
def ER:=@plainId_quiet
def xh:=@Array.getElem?_eq_some_iff
def wx:=@List.perm_ext_iff_of_nodup
def EK:=@Nat.dvd_trans
def xy:=@Nat.mul_div_cancel'
def x9:=@slot_tupleiter_next
def vE:=@Int.eq_of_mul_eq_mul_left
def AK:=@wpAny_execs_nil
def DL:=@Int.ne_of_gt
def xw:=@SetTable.toList_insertAt
def xk:=@PySem.F.args_tuple_add_2
def DJ:=@Nat.ne_of_gt
def ab5:=@PyProof.Rows.F.entry_set_update_loop
def At:=@PySem.W.callWith_K
def zo:=@List.mem_filterMap
def C9:=@Int.mul_zero
def Bz:=@wpAny_bindName
def BI:=@IntsAre.length
def wh:=@List.length_eq_zero_iff
def wS:=@PySem.F.entry_tuple_add
def yB:=@Heap.get?_push_ne
def AB:=@List.ext_getElem?
def ya:=@Nat.le_of_lt_succ
def zw:=@wpAny_storeSet_of
def y0:=@fits_of_scanBound
def Ap:=@wpAny_pyIter_list
def xz:=@List.filter_congr
def EE:=@Nat.mul_pos
def ET:=@Int.mul_pos
def wP:=@PySem.F.slot_tuple_add
def BE:=@listUpdate_at
def yT:=@wpAny_isInstance
def zn:=@Option.bind_some
def y8:=@Heap.size_update
def xC:=@List.take_length
def wo:=@List.take_append_drop
def xi:=@F.plain_proto_collect
def w4:=@F.entry_proto_collect
def xt:=@codeAny_call_function
def y6:=@List.nodup_cons
def xA:=@Int.natCast_mul
def wv:=@List.mem_of_mem_drop
def AJ:=@Int.le_of_lt
def C7:=@intKind_is
def zv:=@codeAny_of_tree
def Au:=@List.nil_append
def vT:=@Heap.get?_update_ne
def AD:=@wpAny_seqItems
def AC:=@wpAny_runValue
def Ee:=@IsTup.new
def vS:=@wpAny_pyIter_slot
def BN:=@wpAny_load
def acM:=@List.drop_eq_getElem_cons
def acN:=@PySem.F.type_list_append
def acO:=@PySem.F.slot_list_append
def wc:=@pushCells_keeps
def wn:=@get?_update_seq
def xo:=@List.all_cons
end
noncomputable section
set_option Elab.async false
set_option maxRecDepth 100000
set_option maxHeartbeats 8000000
namespace T
open PySem PySem.W PyProof.Rows
noncomputable def runT(p:C5)(w:World)(m:Nat)(a:B1):Nat->SharedT->Thread->Option SharedT
 |0,_,_=>none
 |n+1,s,t=>match through t with
   |true=>some s
   |false=>match stepOk m a t with
     |false=>none
     |true=>match stepT (denote treeTable) p w s t with
       |some r=>runT p w m a n r.1 r.2
       |none=>none
theorem run_of{p:C5}{w:World}{m:Nat}{a:B1}:∀{n:Nat}{s s':SharedT}{t:Thread},runT p w m a n s t=some s'->topRun treeTable p w m a n s.abs t=some s'.abs
 |0,_,_,_,h=>by cases h
 |n+1,s,s',t,h=>by
   unfold runT at h;unfold topRun;cases ht:through t with
   |true=>rw[ht]at h;cases h;rfl
   |false=>
     rw[ht]at h;cases hk:stepOk m a t with
     |false=>rw[hk]at h;cases h
     |true=>
       rw[hk]at h;cases hs:stepT (denote treeTable) p w s t with
       |none=>rw[hs]at h;cases h
       |some r=>obtain⟨s2,t2⟩:=r;rw[hs]at h;rw[stepT_spec hs];exact run_of h
noncomputable def grow:List Obj->Nat->BT->BT
 |[],_,t=>t
 |o::l,n,t=>grow l (n+1) (t.ins n o)
noncomputable def bootT(B:Heap)(os:OsState):SharedT:=⟨grow B.objs.toList 0 .nil,B.objs.size,B.life,#[],boot_drawn,boot_toks,os⟩
noncomputable def bootA(w:World)(os:OsState):Shared:=⟨boot_heap w.params,#[],boot_drawn,boot_toks,os⟩
def boot_abs(w:World)(os:OsState):(bootT (boot_heap w.params) os).abs=bootA w os:=by kernel_rfl
def boot_ns(w:World):((boot_heap w.params).isNs mainGlobals&&(#[]:Array GenState).size==0)=true:=by kernel_rfl
noncomputable def chk{α:Type}(p q:C5)(loose:C3)(Xt:Shared->Bool)(Yf:Shared->α)(N:Nat)(B:Heap)(w:World)(os:OsState):=
 (runT p w B.objs.size (B.nsMap mainGlobals "__annotations__") N (bootT B os) (topStub p)).map λs=>
   (staticsOk (importedModules p.main.body) B s.abs.heap&&namesBound p s.abs.heap&&gensDone s.abs&&laidKept B s.abs.heap,openSeen q loose (importedModules p.main.body) Xt true s.abs,Yf s.abs)
def left{α:Type}{p q:C5}{loose:C3}{Xt:Shared->Bool}{Yf:Shared->α}{Ya:World->α}{N:Nat}(e:opening p=plainProg p.main.scope.names)(hN:Nat.ble 600 N=true)(f:∀s,fenceModules? p s=some s)
  (h:∀(w:World) (os:OsState),chk p q loose Xt Yf N (boot_heap w.params) w os=some (true,openGood q loose,Ya w)):LeftO p q loose Xt Yf Ya N:=λw=>by
 obtain⟨⟨hh,gs,d,k,os⟩,e1,e2⟩:=YM.mp (boot_open (N:=N) e hN f w);obtain⟨rfl,rfl,rfl,rfl⟩:hh=boot_heap w.params/\gs=#[]/\d=boot_drawn/\k=boot_toks:=by simpa using e2
 obtain⟨s,r1,r2⟩:=YM.mp (h w os);have r:=run_of r1;rw[boot_abs]at r;obtain⟨l1,l2,l3⟩:_/\_/\_:=by simpa only [Prod.mk.injEq]using r2
 unfold openEnds topFrom;rw[e1];show(match(boot_heap w.params).isNs mainGlobals&&(#[]:Array GenState).size==0 with|true=>_|false=>_:Option Shared).map _=_
 rw[boot_ns];show((topRun treeTable p w (boot_heap w.params).objs.size _ N (bootA w os) (topStub p)).bind _).map _=_;rw[r];show(match staticsOk (importedModules p.main.body) (boot_heap w.params) s.abs.heap&&namesBound p s.abs.heap&&gensDone s.abs&&laidKept (boot_heap w.params) s.abs.heap with|true=>_|false=>_:Option Shared).map _=_
 rw[l1];show some (openSeen q loose (importedModules p.main.body) Xt true s.abs,Yf s.abs)=some _;rw[l2,l3]
noncomputable def tp(i:Nat):Stmt:=PySem.Challenge.pw_fadewalk_k45_walks_turned_about.main.body.getD i (.Pass ⟨0,0,0,0⟩)
noncomputable def view:C5:={PySem.Challenge.pw_fadewalk_k45_walks_turned_about with main:={PySem.Challenge.pw_fadewalk_k45_walks_turned_about.main with body:=[tp 0,tp 2,tp 3,tp 4,tp 5,tp 6,tp 7,tp 8,tp 9,tp 10,tp 11,tp 12,tp 13,tp 14,tp 15,tp 16,tp 17,tp 18,tp 19,tp 20,tp 21,tp 22,tp 24,tp 25,tp 26,tp 28,tp 29,tp 30,tp 31,tp 32,tp 33,tp 34,tp 36,tp 37,tp 38,tp 40,tp 42,tp 43,tp 44,tp 45,tp 47,tp 48,tp 49,tp 50,tp 51,tp 53,tp 55,tp 56,tp 57,tp 58,tp 59,tp 60,tp 61,tp 62,tp 63,tp 64,tp 65,tp 66,tp 67]} }
noncomputable def loos:C3:=["Walk"]
noncomputable def lvs:List (Str×WData):=[]
noncomputable def lhs(B:Heap)(as ts:B7)(w:World)(os:OsState):=chk PySem.Challenge.pw_fadewalk_k45_walks_turned_about view loos (λs=>xlAt view lvs s&&recOk (RowW.records (OpenRow.toRowW (OpenLaw.row PySem.Challenge.rw_fadewalk_k45_walks_turned_about))) s) (λs=>(as.map s.heap.get?,ts.map s.heap.get?)) 12266 B w os
noncomputable def rhs(K:Params->Frag)(ts:B7)(w:World):=some (true,openGood view loos,((K w.params).map λp=>some p.2,ts.map λ_=>some (tabObj #[])))
end T
noncomputable def PySem.W.Fast.tw15968470770618178661:PySem.Program:=PySem.Challenge.pw_fadewalk_k45_walks_turned_about
def PySem.W.Fast.te15968470770618178661:PySem.Challenge.pw_fadewalk_k45_walks_turned_about=PySem.W.Fast.tw15968470770618178661:=rfl
namespace T
open PySem PySem.W PyProof.Rows
lay_quick T.lhs T.rhs
def hook{K:Params->Frag}{as:B7}{e:∀P,as=(K P).map (·.1)}{ts:B7}(h:∀(w:World) (os:OsState),PySem.W.Fast.tw12313586583820656202 (boot_heap w.params) as ts w os=PySem.W.Fast.tw7420988445182104193 K ts w):
  LeftO PySem.Challenge.pw_fadewalk_k45_walks_turned_about view loos (λs=>xlAt view lvs s&&recOk (RowW.records (OpenRow.toRowW (OpenLaw.row PySem.Challenge.rw_fadewalk_k45_walks_turned_about))) s) (Hook.obs (kmHook K as e ts)) (Hook.val (kmHook K as e ts)) 12266:=
 left rfl (by decide) (λ_=>rfl) λw os=>by show lhs (boot_heap w.params) as ts w os=rhs K ts w;rw[PySem.W.Fast.te12313586583820656202,PySem.W.Fast.te7420988445182104193];exact h w os
local macro_rules
 | `(tactic| o_head $H)=>`(tactic| (
   refine PySem.W.holds_open (q:=T.view) (loose:=T.loos)
    (Xt:=λs=>PySem.W.xlAt T.view T.lvs s&&PySem.W.recOk (PySem.W.RowW.records (PySem.W.OpenRow.toRowW (PySem.W.OpenLaw.row PySem.Challenge.rw_fadewalk_k45_walks_turned_about))) s)
    (XP:=PySem.W.XL T.view T.lvs) (Yf:=PySem.W.Hook.obs $H) (Ya:=PySem.W.Hook.val $H)
    (YP:=PySem.W.Hook.says $H) (N:=12266) ?hl (PySem.W.Hook.of $H) (PySem.W.Hook.keeps $H)
    (λs e=>PySem.W.xl_of s (Bool.and_eq_true_iff.mp e).1) PySem.W.XL.keeps rfl rfl rfl
    (λs e=>PySem.W.recFacts_of (Bool.and_eq_true_iff.mp e).2) rfl
    (by first|assumption|decide +kernel) (by decide +kernel)
    ⟨rfl,rfl,rfl,rfl,rfl,by decide +kernel⟩ ?hw ?hc;(case hl=>exact T.hook (λw os=>by kernel_rfl))))
open_top cut for PySem.Challenge.rw_fadewalk_k45_walks_turned_about
end T
set_option linter.all false
section
open PySem PySem.Spec
set_option tactic.hygienic false
set_option bootstrap.genMatcherCode false
namespace L2
open PyProof.Rows
abbrev Key:=Sum Int Str
def UQ:Key->Value->Bool
 |.inl k,v=>Value.isInt k v
 |.inr x,v=>Value.isStrOf x v
def xI(w:World):Key->Int
 |.inl k=>hashInt k
 |.inr x=>hashStr w x
def YU:∀{k:Key}{v:Value},UQ k v=true->(∃i t,k=Sum.inl i/\v=Value.int i t)\/(∃x t,k=Sum.inr x/\v=Value.str x t)
 |.inl i,v,h=>by obtain⟨t,e⟩:=Value.isInt_shape (k:=i) (v:=v) h;exact .inl ⟨i,t,rfl,e⟩
 |.inr x,v,h=>by obtain⟨t,e⟩:=Value.isStrOf_shape (x:=x) (v:=v) h;exact .inr ⟨x,t,rfl,e⟩
def Ps(i:Int)(t:Tok):UQ (.inl i) (.int i t)=true:=by simp[UQ,Value.isInt]
def Pf(x:Str)(t:Tok):UQ (.inr x) (.str x t)=true:=by simp[UQ,Value.isStrOf]
def HM(a b:Int):decide ((Sum.inl a:Key)=Sum.inl b)=(a==b):=by
 by_cases e:a=b
 ·subst e;simp
 ·have h:¬(Sum.inl a:Key)=Sum.inl b:=λq=>e (Sum.inl.inj q)
  rw[ZQ h];exact(BG.mpr e).symm
def GS(a b:Str):decide ((Sum.inr a:Key)=Sum.inr b)=decide (a=b):=by
 by_cases e:a=b
 ·subst e;simp
 ·have h:¬(Sum.inr a:Key)=Sum.inr b:=λq=>e (Sum.inr.inj q)
  rw[ZQ h,ZQ e]
def GO(a:Int)(b:Str):decide ((Sum.inl a:Key)=Sum.inr b)=false:=ZQ (λq=>nomatch q)
def Iy(a:Str)(b:Int):decide ((Sum.inr a:Key)=Sum.inl b)=false:=ZQ (λq=>nomatch q)
def YV(prog:C5)(w:World):PySem.KeyKind prog w Key where
 is:=UQ
 hash:=xI w
 inj:=λv a b g f=>by
  rcases YU g with⟨i,t,rfl,rfl⟩|⟨x,t,rfl,rfl⟩
  ·rcases YU f with⟨j,u,rfl,e⟩|⟨y,u,rfl,e⟩
   ·injection e with c _;rw[c]
   ·exact nomatch e
  ·rcases YU f with⟨j,u,rfl,e⟩|⟨y,u,rfl,e⟩
   ·exact nomatch e
   ·injection e with c _;rw[c]
 byValue:=λk v h=>by rcases YU h with⟨i,t,rfl,rfl⟩|⟨x,t,rfl,rfl⟩<;>rfl
 pyHash:=λd h=>by
  rcases YU d with⟨i,t,rfl,rfl⟩|⟨x,t,rfl,rfl⟩
  ·exact wpAny_pyHash_int h
  ·exact wpAny_pyHash_str h
 eqBool:=λl d h=>by
  rcases YU l with⟨i,t,rfl,rfl⟩|⟨x,t,rfl,rfl⟩
  ·rcases YU d with⟨j,u,rfl,rfl⟩|⟨y,u,rfl,rfl⟩
   ·rw[HM]at h;exact wpAny_eqBool_int h
   ·rw[GO]at h;exact SeqAt.EqAt.int_str i t y u _ _ _ _ h
  ·rcases YU d with⟨j,u,rfl,rfl⟩|⟨y,u,rfl,rfl⟩
   ·rw[Iy]at h;exact SeqAt.EqAt.str_int x t j u _ _ _ _ h
   ·rw[GS]at h;exact wpAny_eqBool_str h
 «strs»:=λk x t v h=>by
  rcases YU h with⟨i,u,rfl,e⟩|⟨y,u,rfl,e⟩
  ·exact nomatch e
  ·injection e with c _
   subst c;cases v<;>rfl
def QP(prog:C5)(w:World)(k:Key)(v:Value):(YV prog w).is k v=UQ k v:=rfl
def Sk(prog:C5)(w:World)(i:Int)(t:Tok):(YV prog w).is (.inl i) (.int i t)=true:=Ps i t
def Sm(prog:C5)(w:World)(x:Str)(t:Tok):(YV prog w).is (.inr x) (.str x t)=true:=Pf x t
open PyProof.Rows
inductive V where
 |aT|bl (b:Bool)|int (i:Int)|str (x:Str)|hE (b:Array UInt8)|jI (b:UInt64)|ref (a:Addr)|ty (n:String)
 deriving DecidableEq
def RelV:V->Value->Prop
 |.aT,u=>u=Value.none
 |.bl b,u=>u=Value.bool b
 |.int i,u=>∃t,u=Value.int i t
 |.str x,u=>∃t,u=Value.str x t
 |.hE b,u=>∃t,u=Value.bytes b t
 |.jI b,u=>∃t,u=Value.float b t
 |.ref a,u=>u=Value.ref a
 |.ty n,u=>u=Value.type n
abbrev ZN:List V->B5->Prop:=Paired RelV
theorem ZN.length(r:ZN xs us):xs.length=us.length:=DZ r
theorem ZN.get:∀{xs:List V}{us:B5}{i:Nat}{x:V},ZN xs us->xs[i]?=some x->∃u,us[i]?=some u/\RelV x u
 |_,_,_,_,.nil,e=>by simp at e
 |_,_,0,_,.cons r _,e=>by simp at e;subst e;exact⟨_,rfl,r⟩
 |_,_,i+1,x,.cons _ t,e=>by
   obtain⟨u,h1,h2⟩:=ZN.get (i:=i) (x:=x) t (by simpa using e)
   exact⟨u,by simpa using h1,h2⟩
theorem ZN.set(r:RelV x u):∀{xs:List V}{us:B5} (i:Nat),ZN xs us->ZN (xs.set i x) (us.set i u)
 |_,_,_,.nil=>.nil
 |_,_,0,.cons _ t=>.cons r t
 |_,_,i+1,.cons q t=>.cons q (ZN.set r i t)
theorem ZN.append:∀{xs ys:List V}{us ws:B5},ZN xs us->ZN ys ws->ZN (xs++ys) (us++ws)
 |_,_,_,_,.nil,s=>s
 |_,_,_,_,.cons r t,s=>.cons r (ZN.append t s)
theorem ZN.take:∀{xs:List V}{us:B5} (n:Nat),ZN xs us->ZN (xs.take n) (us.take n)
 |_,_,0,_=>.nil
 |_,_,_+1,.nil=>.nil
 |_,_,n+1,.cons r t=>.cons r (ZN.take n t)
theorem ZN.drop:∀{xs:List V}{us:B5} (n:Nat),ZN xs us->ZN (xs.drop n) (us.drop n)
 |_,_,0,r=>r
 |_,_,_+1,.nil=>.nil
 |_,_,n+1,.cons _ t=>ZN.drop n t
def ZN.none_of:∀{xs:List V}{us:B5}{i:Nat},ZN xs us->xs[i]?=none->us[i]?=none:=λ{xs us i} r e=>by have a:=r.length;have b:xs.length<=i:=Z0.mp e;exact Z0.mpr (by lia)
def UY:Option V->B1->Prop
 |some v,some u=>RelV v u
 |none,none=>True
 |_,_=>False
def KV{a:Type}:List (a×V)->List (a×Value)->Prop:=Paired λ(p:a×V) (q:a×Value)=>p.1=q.1/\RelV p.2 q.2
def kV:Key->V
 |.inl i=>.int i
 |.inr x=>.str x
inductive HO where
 |lst (xs:List V)
 |tup (xs:List V)
 |dK (kvs:List (Key×V))|dT (kvs:List (List Key×V))
 |set (S:Int->Bool) (n:Nat)
 |ins (C dx:Addr) (fs:List (Str×V))
 |own (x:Addr)
 |xd (fs:List (Str×V))
 |met (f x:Addr)
 |mv (lo hi:Int)
 |dA (o:Obj) (u:HO)
 |eT (ps:B4)
 |ext (φ:B6)
abbrev Hp:=Addr->Option HO
def upd(H:Hp)(a:Addr)(o:HO):Hp:=λb=>if b=a then some o else H b
def ZT{H:Hp}{a:Addr}{o:HO}:upd H a o a=some o:=by unfold upd;rw[YK rfl]
def ZU{H:Hp}{a b:Addr}{o:HO}(h:b≠a):upd H a o b=H b:=by unfold upd;rw[YQ h]
def KL:upd (upd H a o) a u=upd H a u:=by funext b;unfold upd;split<;>rfl
def CO{H:Hp}{a b:Addr}{o u:HO}(h:H a=some o)(h':H b=some u)(d:o≠u):a≠b:=by intro e;subst e;rw[h]at h';exact d (Y4 h')
def ZO{H:Hp}{a b:Addr}{o:HO}(h:H a=some o)(h':H b=none):a≠b:=by intro e;subst e;rw[h]at h';cases h'
def RecAt(H:Hp)(v:Value):Prop:=∃c o fs q t,v=.ref c/\H c=some (.dA o (.own c))/\o.data=.fields fs/\fs[1]?=some (.str q t)
section
variable(P:C5)(w:World)
def Y3(H:Hp)(h:Heap)(a:Addr):HO->Prop
 |.lst xs=>xs.length<=sizeLine/\∃(aE:B5) (n:Nat),ZN xs aE/\h.get? a=some {cls:=.type "list",data:=.seq aE.toArray n}
 |.tup xs=>xs.length<=sizeLine/\∃aE:B5,ZN xs aE/\IsTup h a aE.toArray
 |.dK kvs=>kvs.length<=sizeLine/\(a==sysModules)=false/\∃vs,KV kvs vs/\h.DictOf (YV P w) a vs
 |.dT kvs=>kvs.length<=sizeLine/\(a==sysModules)=false/\∃xs:List (List Key×Addr×Value),
   Paired (λ(p:List Key×V) (q:List Key×Addr×Value)=>p.1=q.1/\H q.2.1=some (.tup (p.1.map kV))/\RelV p.2 q.2.2) kvs xs /\
   ∃o es ep,h.get? a=some o/\o.ExactDict/\o.data=.dict es ep/\es.toList=xs.map (entryOfKey (tupleKind (YV P w)))/\(xs.map (·.1)).Nodup
 |.set S n=>h.SetOf (intKind P w) a S n
 |.ins C c fs=>H c=some (.own a)/\fs.length<=1000/\c≠a/\h.get? a=some (W.instObj C c) /\
   ∃b,h.Ns1 c b/\(∀f,UY (fs.lookup f) (b f))/\PySem.Within b (fs.map (·.1))
 |.own _=>∃o,h.get? a=some o
 |.xd fs=>∃b,h.Ns1 a b/\∀f,UY (fs.lookup f) (b f)
 |.mv lo g=>∃t u v,h.get? a=some {cls:=.type "range",data:=.fields #[.int lo t,.int g u,.int 1 v]}
 |.dA o u=>h.get? a=some o/\Y3 H h a u
 |.eT _=>∃ps:B4,h.get? a=some {cls:=.none,data:=.fields ps}/\TriplesOk ps.toList/\∀pos e,codeAmong pos ps.toList=some e->RecAt H e
 |.met f x=>h.get? a=some (W.methodObj (.ref f) (.ref x))
 |.ext d=>d h/\(∃o,h.get? a=some o)/\∀h1 h2:Heap,d h1->(∀o,h1.get? a=some o->h2.get? a=some o)->d h2
def WV(H:Hp)(h:Heap):Prop:=∀a o,H a=some o->Y3 P w H h a o
end
section
variable{P:C5}{w:World}{H H':Hp}{h h':Heap}{a:Addr}{o:HO}
theorem Y3.lt(x:Y3 P w H h a o):a<h.objs.size:=by
 cases o with
 |lst xs=>obtain⟨_,_,_,_,e⟩:=x;exact YW e
 |tup xs=>obtain⟨_,_,_,p⟩:=x;exact p.lt
 |dK kvs=>obtain⟨_,_,_,_,o,_,_,e,_⟩:=x;exact YW e
 |dT kvs=>obtain⟨_,_,_,_,o,_,_,e,_⟩:=x;exact YW e
 |set S n=>obtain⟨o,_,_,_,e,_⟩:=x;exact YW e
 |ins C dx fs=>obtain⟨_,_,_,e,_⟩:=x;exact YW e
 |own y=>obtain⟨_,e⟩:=x;exact YW e
 |xd fs=>obtain⟨_,⟨_,_,_,e,_⟩,_⟩:=x;exact YW e
 |mv lo hi=>obtain⟨_,_,_,e⟩:=x;exact YW e
 |dA ob u=>obtain⟨e,_⟩:=x;exact YW e
 |eT ps=>obtain⟨_,e,_⟩:=x;exact YW e
 |met f y=>exact YW (show h.get? a=some _ from x)
 |ext φ=>obtain⟨_,⟨_,e⟩,_⟩:=x;exact YW e
theorem Paired.ke:∀{c:List α}{l₂:List β},Paired F c l₂->(∀a b,F a b->G a b)->Paired G c l₂
 |_,_,.nil,_=>.nil
 |_,_,.cons r t,f=>.cons (f _ _ r) (Paired.ke t f)
def Y3.fw(x:Y3 P w H h a o)(k:∀b u,(b=a\/H b=some (.own a))->h.get? b=some u->h'.get? b=some u)
  (ho:∀b,H b=some (.own a)->H' b=some (.own a)) (ht:∀b xs,H b=some (.tup xs)->H' b=some (.tup xs)) (hf:∀b o,H b=some (.dA o (.own b))->H' b=some (.dA o (.own b)):=by exactλZ Z q=>q):Y3 P w H' h' a o:=by
 induction o with
 |lst xs=>obtain⟨z,l,n,r,e⟩:=x;exact⟨z,l,n,r,k _ _ (.inl rfl) e⟩
 |tup xs=>obtain⟨z,l,r,g,e,c⟩:=x;exact⟨z,l,r,g,k _ _ (.inl rfl) e,c⟩
 |dK m=>obtain⟨z,y,vs,r,g,i,j,e,c⟩:=x;exact⟨z,y,vs,r,g,i,j,k _ _ (.inl rfl) e,c⟩
 |dT m=>obtain⟨z,y,xs,r,g,i,j,e,c⟩:=x;exact⟨z,y,xs,Paired.ke r λp q z=>⟨z.1,ht _ _ z.2.1,z.2.2⟩,g,i,j,k _ _ (.inl rfl) e,c⟩
 |set S n=>obtain⟨g,i,j,t,e,c⟩:=x;exact⟨g,i,j,t,k _ _ (.inl rfl) e,c⟩
 |ins C dx fs=>obtain⟨d,z,ne,e,s,⟨I,i,j,e2,c⟩,r⟩:=x;exact⟨ho _ d,z,ne,k _ _ (.inl rfl) e,s,⟨I,i,j,k _ _ (.inr d) e2,c⟩,r⟩
 |own y=>obtain⟨g,e⟩:=x;exact⟨g,k _ _ (.inl rfl) e⟩
 |xd fs=>obtain⟨s,⟨I,i,j,e,c⟩,r⟩:=x;exact⟨s,⟨I,i,j,k _ _ (.inl rfl) e,c⟩,r⟩
 |mv lo hi=>obtain⟨t,u,v,e⟩:=x;exact⟨t,u,v,k _ _ (.inl rfl) e⟩
 |dA g u ih=>obtain⟨e,q⟩:=x;exact⟨k _ _ (.inl rfl) e,ih q⟩
 |eT ps=>obtain⟨O,e,z,r⟩:=x;exact⟨O,k a _ (.inl rfl) e,z,λU cv q=>let⟨c,o,fs,q',t,g1,g2,g3⟩:=r U cv q;⟨c,o,fs,q',t,g1,hf c o g2,g3⟩⟩
 |met f y=>have e:h.get? a=some (W.methodObj (.ref f) (.ref y)):=x;show h'.get? a=some (W.methodObj (.ref f) (.ref y));exact k a _ (.inl rfl) e
 |ext φ=>obtain⟨p,⟨o,e⟩,st⟩:=x;exact⟨st _ _ p λo q=>k _ _ (.inl rfl) q,⟨o,k _ _ (.inl rfl) e⟩,st⟩
theorem WV.lt(x:WV P w H h)(e:H a=some o):a<h.objs.size:=(x a o e).lt
def WV.fresh(x:WV P w H h)(e:h.objs.size<=a):H a=none:=by
 cases q:H a with
 |none=>rfl
 |some u=>exact absurd (Y0 (x.lt q) e) (MI _)
def WV.kept(x:WV P w H h)(k:∀b u,h.get? b=some u->h'.get? b=some u):WV P w H h':=λa o e=>
 (x a o e).fw (λb u z q=>k b u q) (λz q=>q) λz z q=>q
def WV.laid(x:WV P w H h)(k:∀b u,h.get? b=some u->h'.get? b=some u)(g:h.objs.size<=a)(d:Y3 P w (upd H a o) h' a o):WV P w (upd H a o) h':=λb u e=>by
 have f:=x.fresh g;by_cases hb:b=a
 ·subst hb;rw[ZT]at e;cases e;exact d
 ·rw[ZU hb]at e;exact(x b u e).fw (λc v z q=>k c v q) (λc q=>by rw[ZU (ZO q f)];exact q) (λc i q=>by rw[ZU (ZO q f)];exact q) λc o q=>by rw[ZU (ZO q f)];exact q
end
def Rd(H:Hp)(a:Addr)(u:HO):Prop:=H a=some u\/∃o,H a=some (.dA o u)
def Rd.ok(r:Rd H a u)(x:WV P w H h):Y3 P w H h a u:=by
 rcases r with r|⟨o,r⟩
 ·exact x a u r
 ·obtain⟨_,q⟩:=x a _ r;exact q
def DC:Option HO->Prop
 |some (.lst _)=>True
 |some (.dK _)=>True
 |some (.dT _)=>True
 |some (.set _ _)=>True
 |some (.ins _ _ _)=>True
 |some (.ext _)=>True
 |_=>False
section
variable{P:C5}{w:World}{H:Hp}{h h':Heap}{x e:Addr}{o':HO}
def WV.write(ok:WV P w H h)(d:DC (H x))(n:e=x\/H e=some (.own x))(k:∀b u,b≠e->h.get? b=some u->h'.get? b=some u)(l:∃u,h'.get? e=some u)
  (m:Y3 P w (upd H x o') h' x o'):WV P w (upd H x o') h':=λb u q=>by
 have a:∀c y,H c=some (.own y)->c≠x:=λc y r z=>by subst z;rw[r]at d;exact d
 have f:∀c i,H c=some (.tup i)->c≠x:=λc i r z=>by subst z;rw[r]at d;exact d
 have g:∀c o u,H c=some (.dA o u)->c≠x:=λc o u r z=>by subst z;rw[r]at d;exact d
 by_cases hb:b=x
 ·subst hb;rw[ZT]at q;cases q;exact m
 ·rw[ZU hb]at q;by_cases hbe:b=e
  ·have p:H b=some (.own x):=by
    rcases n with z|z
    ·exact absurd (hbe.trans z) hb
    ·rw[hbe];exact z
   rw[q]at p;cases p;obtain⟨v,s⟩:=l;exact⟨v,by rw[hbe];exact s⟩
  ·refine(ok b u q).fw (λc v j r=>k c v ?_ r) (λc r=>by rw[ZU (a c b r)];exact r) (λc i r=>by rw[ZU (f c i r)];exact r) λc o r=>by rw[ZU (g c o _ r)];exact r
   rcases j with rfl|j
   ·exact hbe
   ·rintro rfl;rcases n with z|z
    ·exact a c b j z
    ·rw[j]at z;cases z;exact hb rfl
end
structure Un(fs ex:B7)(H H':Hp)(h h':Heap):Prop where
 keep:∀b o,h.get? b=some o->H b=none->b∉fs->b∉ex->h'.get? b=some o
 slot:∀b o,h.get? b=some o->H b=none->b∈fs->b∉ex->∃sl,h'.get? b=some {o with slots:=sl}
 free:∀b o,h.get? b=some o->H b=none->b∉ex->H' b=none
 there:∀b o,h.get? b=some o->b∉ex->∃o',h'.get? b=some o'
 eI:∀b xs,H b=some (.tup xs)->H' b=some (.tup xs)
 ey:∀b o u,H b=some (.dA o u)->H' b=some (.dA o u)
 eA:∀b ps,H b=some (.eT ps)->∃more,H' b=some (.eT (ps++more))
section
variable{fs sh ex ex':B7}{H H1 H2:Hp}{h h1 h2 h':Heap}{a x e:Addr}{o:HO}
def Un.any(u:Un fs ex H H1 h h1)(q:h.get? b=some ob)(n:H b=none)(c:b∉ex):∃d,h1.get? b=some {ob with slots:=d}:=by
 by_cases hb:b∈fs
 ·exact u.slot b ob q n hb c
 ·exact⟨ob.slots,u.keep b ob q n hb c⟩
def Un.kept(k:∀b u,h.get? b=some u->h'.get? b=some u):Un fs ex H H h h':=
 ⟨λb c q z z z=>k b c q,λb c q z z z=>⟨c.slots,k b c q⟩,λz z z n z=>n,λb c q z=>⟨c,k b c q⟩,λz z q=>q,λz z z q=>q,λz d q=>⟨#[],by rw[q];simp⟩⟩
def Un.refl:Un fs ex H H h h:=Un.kept λz z q=>q
def Un.laid(k:∀b u,h.get? b=some u->h'.get? b=some u)(d:h.objs.size<=a)(c:H a=none):Un fs ex H (upd H a o) h h' where
 keep:=λb u q z z z=>k b u q
 slot:=λb u q z z z=>⟨u.slots,k b u q⟩
 free:=λb u q n z=>by rw[ZU (Y6 (Y0 (YW q) d))];exact n
 there:=λb u q z=>⟨u,k b u q⟩
 eI:=λb f q=>by rw[ZU (ZO q c)];exact q
 ey:=λb u f q=>by rw[ZU (ZO q c)];exact q
 eA:=λb g q=>⟨#[],by rw[ZU (ZO q c),q];simp⟩
def Un.write(c:DC (H x))(j:e=x\/H e=some (.own x))(k:∀b u,b≠e->h.get? b=some u->h'.get? b=some u)(d:∃u,h'.get? e=some u):Un fs ex H (upd H x o) h h':=by
 have g:∀b,H b=none->b≠x:=λb n z=>by subst z;rw[n]at c;exact c
 have i:∀b,H b=none->b≠e:=λb n z=>by
  subst z;rcases j with r|r
  ·exact g b n r
  ·rw[n]at r;cases r
 have f:∀b u,H b=some u->¬DC (some u)->b≠x:=λb u q l z=>by subst z;rw[q]at c;exact l c
 refine⟨λb u q n y y=>k b u (i b n) q,λb u q n y y=>⟨u.slots,k b u (i b n) q⟩,λb u q n y=>by rw[ZU (g b n)];exact n,λb u q y=>?_,
  λb m q=>by rw[ZU (f b _ q λz=>z)];exact q,λb u m q=>by rw[ZU (f b _ q λz=>z)];exact q,λb p q=>⟨#[],by rw[ZU (f b _ q λz=>z),q];simp⟩⟩
 by_cases hbe:b=e
 ·subst hbe;exact d
 ·exact⟨u,k b u hbe q⟩
end
def AW(h:Heap)(H:Hp):B7:=(List.range h.objs.size).filter λa=>(H a).isSome
def TR(h:Heap)(H:Hp):Heap:=W.hideAll h (AW h H)
def OO(h:Heap)(H:Hp):(TR h H).objs.size=h.objs.size:=W.hideAll_size _ _
def Sr(e:h.get? b=some o)(n:H b=none):(TR h H).get? b=some o:=
 W.hideAll_get _ e λa=>by have q:(H b).isSome=true:=(Zn.mp a).2;rw[n]at q;simp at q
def LL(e:(TR h H).get? b=some o):h.get? b=some o/\H b=none:=by
 have a:h.get? b=some o:=W.of_hideAll (AW h H) e;refine⟨a,?_⟩;cases q:H b with
 |none=>rfl
 |some x=>
   have c:b∈AW h H:=Zn.mpr ⟨YX.mpr (YW a),by simp[q]⟩
   have z:(TR h H).get? b=none:=W.hideAll_none (AW h H) c;rw[z]at e;cases e
open PyProof.Rows
structure Mod(K:B0)(mg:A4)(base:Heap):Prop where
 iL:K.In base
 glob:base.Ns mainGlobals mg
 blt:∃mb,base.Ns builtinsNs mb/\∀x:Str,x≠"__name__"->mb x=bootBuiltins x
 nolimit:base.NoLimit
structure Cx where
 prog:C5
 w:World
 K:B0
 mg:A4
 base:Heap
 A:Around
 N:C3
 s₀:Shared
 H₀:Hp
 env:Env
 outer:C4
 stack:C4
 ex:B7
 fn:Str->Bool
 calm:Bool
 pn:A8
 xe:A3
abbrev Cx.M(X:Cx):=model X.prog X.w
def WU(l:C4):B7:=l.filterMap (·.frame)
abbrev Cx.fs(X:Cx):B7:=WU X.outer
def JE(a:Scope)(x:Str):Prop:=a.names.lookup x=some .local\/a.names.lookup x=some .cell\/a.names.lookup x=some .free
def Loc(a:Scope)(x:Str):Prop:=a.names.lookup x=some .local\/a.names.lookup x=some .cell
def Look(env:Env)(h:Heap)(m:A4)(x:Str)(u:Value):Prop:=
 (env.kindOf x=some .local/\m x=some u)\/((env.kindOf x=some .cell\/env.kindOf x=some .free)/\∃c,env.cells.lookup x=some c/\h.IsCell c (some u))
structure Cx.Ok(X:Cx):Prop where
 mod:Mod X.K X.mg X.base
 kind:X.env.scope.kind=.function
 glob:X.env.globals=mainGlobals
 blt:X.env.builtins=builtinsNs
 above:X.s₀.heap.objs.size<=X.env.locals
 inj:∀x y c,X.env.cells.lookup x=some c->X.env.cells.lookup y=some c->x=y
 has:∀x,(X.env.kindOf x=some .cell\/X.env.kindOf x=some .free)->∃c,X.env.cells.lookup x=some c
 jS:∀x c,X.fn x=true->X.env.cells.lookup x=some c->X.s₀.heap.objs.size<=c
 hd:X.calm=true->X.A.handled=none
 frames:X.A.frames=some X.stack
 kB:X.stack=X.outer\/(X.stack=X.env::X.outer/\X.env.frame=some X.env.locals)
 kM:∀b∈X.ex,b≠X.env.locals/\∀x c,X.env.cells.lookup x=some c->c≠b
 bs:∀b o,X.base.get? b=some o->X.s₀.heap.get? b=some o/\X.H₀ b=none
 gV:X.base.objs.size<=X.s₀.heap.objs.size
 gX:∀b o,X.base.get? b=some o->b∉X.ex
 h7:∀b∈X.ex,b∉X.fs
 dE:X.s₀.heap.FunFrames X.base X.outer
 h8:∀b∈X.fs,X.H₀ b=none
structure Inv(X:Cx)(aC:A8)(σ:List (Option V))(H:Hp)(s:Shared):Prop where
 ok:X.Ok
 os:s.os=X.s₀.os
 bare:AllBare s.gens
 base:Un X.fs X.ex X.H₀ H X.s₀.heap s.heap
 loc:∃m,s.heap.Ns X.env.locals m/\∀(i:Nat) (x:Str) (v:V),X.N[i]?=some x->σ[i]?=some (some v)->JE X.env.scope x->∃u,RelV v u/\Look X.env s.heap m x u
 cell:∀x c,X.env.cells.lookup x=some c->∃v,s.heap.IsCell c v
 free:H X.env.locals=none
 bT:∀x c,X.env.cells.lookup x=some c->H c=none
 pin:∀p∈X.pn++aC,s.heap.get? p.1=some p.2/\H p.1=none/\p.1≠X.env.locals/\p.1∉X.fs/\∀v,p.2.data≠.cell v
 aI:WV X.prog X.w H s.heap
 len:σ.length=X.N.length
section
variable{X:Cx}{aC:A8}{σ:List (Option V)}{H H':Hp}{s:Shared}{h':Heap}
def Cx.Ok.mP(ok:X.Ok)(e:X.base.get? b=some o):b∉X.fs:=λa=>by have:=(ok.dE.mem a).1;rw[e]at this;cases this
theorem Inv.bs(I:Inv X aC σ H s):∀b o,X.base.get? b=some o->s.heap.get? b=some o/\H b=none:=λb o e=>
 ⟨I.base.keep b o (I.ok.bs b o e).1 (I.ok.bs b o e).2 (I.ok.mP e) (I.ok.gX b o e),I.base.free b o (I.ok.bs b o e).1 (I.ok.bs b o e).2 (I.ok.gX b o e)⟩
def Inv.bk(I:Inv X aC σ H s):∀b o,X.base.get? b=some o->s.heap.get? b=some o:=λb o e=>(I.bs b o e).1
theorem Inv.mod(I:Inv X aC σ H s):Mod X.K X.mg X.base:=I.ok.mod
def Inv.cE(I:Inv X aC σ H s):X.K.In s.heap:=I.ok.mod.iL.keeps I.bk
def Inv.fr(I:Inv X aC σ H s):∃m,Fr X.base X.env.locals s.heap m:=
 let⟨m,hn,_⟩:=I.loc
 ⟨m,hn,I.bk,Zx I.ok.gV I.ok.above⟩
theorem Inv.lt(I:Inv X aC σ H s):X.env.locals<s.z:=let⟨_,hn,_⟩:=I.loc;hn.lt
def Inv.sz(I:Inv X aC σ H s):X.s₀.heap.objs.size<=s.z:=Zx I.ok.above (NR I.lt)
def Inv.mS(I:Inv X aC σ H s)(h:s.z<=a):a∉X.fs:=λb=>by obtain⟨_,o,c,_⟩:=I.ok.dE.mem b;exact absurd (Y0 (YW c) (Zx I.sz h)) (MI _)
def Inv.iO(I:Inv X aC σ H s):∀x c,X.env.cells.lookup x=some c->c≠X.env.locals:=λx c e z=>by obtain⟨v,o,d,f⟩:=I.cell x c e;obtain⟨m,⟨g,h,i,a,b,_⟩,_⟩:=I.loc;rw[z,a]at d;cases d;rw[b]at f;cases f
theorem Inv.dE(I:Inv X aC σ H s):s.heap.FunFrames X.base X.outer:=by
 have all:∀(l:C4),(∀b∈WU l,b∈X.fs)->X.s₀.heap.FunFrames X.base l->s.heap.FunFrames X.base l:=by
  intro l;induction l with
  |nil=>intro _ _;trivial
  |cons env r ih=>
    intro hs hl;obtain⟨hk,⟨L,o,hf,hn,ho,hd⟩,hr⟩:=hl;have hL:L∈X.fs:=hs L (by unfold WU;rw[BB,hf];exact Zd)
    obtain⟨sl,e⟩:=I.base.slot L o ho (I.ok.h8 L hL) hL λz=>I.ok.h7 L z hL
    exact⟨hk,⟨L,_,hf,hn,e,hd⟩,ih (λb hb=>hs b (by unfold WU;rw[BB,hf];exact Zq _ hb)) hr⟩
 exact all X.outer (λy hb=>hb) I.ok.dE
theorem Inv.stack(I:Inv X aC σ H s):s.heap.FunFrames X.base X.stack:=by
 rcases I.ok.kB with e|⟨e,a⟩
 ·rw[e];exact I.dE
 ·rw[e];obtain⟨m,b,_⟩:=I.loc;refine .cons (by rw[I.ok.kind];decide) a b ?_ I.dE
  exact Heap.get?_none_of_le (Zx I.ok.gV I.ok.above)
def Inv.dn(I:Inv X aC σ H s):∀b∈WU X.stack,b∈X.env.locals::X.fs:=λb a=>by
 rcases I.ok.kB with e|⟨e,c⟩
 ·rw[e]at a;exact Zq _ a
 ·rw[e]at a;unfold WU at a;rw[BB,c]at a;exact a
def Inv.eW(I:Inv X aC σ H s):∀b∈WU X.stack,H b=none:=λb a=>by
 rcases Y5.mp (I.dn b a)with e|a
 ·rw[e];exact I.free
 ·obtain⟨_,o,c,_⟩:=I.ok.dE.mem a;exact I.base.free b o c (I.ok.h8 b a) λz=>I.ok.h7 b z a
def Inv.step{g':Array GenState}{t':Nat}{ch:B7}(I:Inv X aC σ H s)
  (f:∀b∈ch,(b∈X.ex\/X.s₀.heap.objs.size<=b)/\b≠X.env.locals/\(∀x c,X.env.cells.lookup x=some c->c≠b)/\∀p∈X.pn++aC,p.1≠b)
  (g:∀b o,b≠X.env.locals->b∉X.fs->b∉ch->s.heap.get? b=some o->H b=none->h'.get? b=some o)
  (O:∀b o,b≠X.env.locals->b∈X.fs->b∉ch->s.heap.get? b=some o->H b=none->∃sl,h'.get? b=some {o with slots:=sl}) (free:∀b o,b∉ch->s.heap.get? b=some o->H b=none->H' b=none)
  (U:∀b o,b∉ch->s.heap.get? b=some o->∃o',h'.get? b=some o')
  (eI:∀b xs,H b=some (.tup xs)->H' b=some (.tup xs)) (ey:∀b o u,H b=some (.dA o u)->H' b=some (.dA o u)) (eA:∀b ps,H b=some (.eT ps)->∃more,H' b=some (.eT (ps++more)))
  (ns:∀m,s.heap.Ns X.env.locals m->h'.Ns X.env.locals m) (aI:WV X.prog X.w H' h') (hg:AllBare g') :
  Inv X aC σ H' {s with heap:=h',gens:=g',drawn:=d',toks:=t'}:=by
 have neL:∀b o,X.s₀.heap.get? b=some o->b≠X.env.locals:=λb o e=>Y6 (Y0 (YW e) I.ok.above)
 have t:∀b o,X.s₀.heap.get? b=some o->b∉X.ex->b∉ch:=λb o e a hb=>by
  rcases(f b hb).1 with z|z
  ·exact a z
  ·exact absurd (Y0 (YW e) z) (MI _)
 have h:∀x c,X.env.cells.lookup x=some c->∀v,s.heap.IsCell c v->h'.IsCell c v:=λx c e v ⟨o,ho,hd⟩=>by
  have j:c∉ch:=λz=>(f c z).2.2.1 x c e rfl
  by_cases hc:c∈X.fs
  ·obtain⟨sl,q⟩:=O c o (I.iO x c e) hc j ho (I.bT x c e);exact⟨_,q,hd⟩
  ·exact⟨o,g c o (I.iO x c e) hc j ho (I.bT x c e),hd⟩
 refine⟨I.ok,I.os,hg,⟨λb o e n hb a=>?_,λb o e n hb a=>?_,λb o e n a=>?_,λb o e a=>?_,λb xs e=>eI b xs (I.base.eI b xs e),λb o xs e=>ey b o xs (I.base.ey b o xs e),λb ps e=>?_⟩,?_,λx c e=>?_,?_,λx c e=>?_,λp hp=>?_,aI,I.len⟩
 ·exact g b o (neL b o e) hb (t b o e a) (I.base.keep b o e n hb a) (I.base.free b o e n a)
 ·obtain⟨sl,y⟩:=I.base.slot b o e n hb a;obtain⟨sl',e2⟩:=O b _ (neL b o e) hb (t b o e a) y (I.base.free b o e n a);exact⟨sl',e2⟩
 ·obtain⟨o',y⟩:=I.base.there b o e a;exact free b o' (t b o e a) y (I.base.free b o e n a)
 ·obtain⟨o',y⟩:=I.base.there b o e a;exact U b o' (t b o e a) y
 ·obtain⟨m1,y⟩:=I.base.eA b ps e;obtain⟨m2,e2⟩:=eA b _ y;exact⟨m1++m2,by rw[e2,Array.append_assoc]⟩
 ·obtain⟨m,hn,hl⟩:=I.loc;refine⟨m,ns m hn,λi x v y e2 e3=>?_⟩
  obtain⟨u,r,l⟩:=hl i x v y e2 e3;refine⟨u,r,?_⟩;rcases l with l|⟨k,c,e,z⟩
  ·exact .inl l
  ·exact .inr ⟨k,c,e,h x c e _ z⟩
 ·obtain⟨v,z⟩:=I.cell x c e;exact⟨v,h x c e v z⟩
 ·obtain⟨m,⟨o,_,_,ho,_⟩,_⟩:=I.loc;exact free _ o (λz=>(f _ z).2.1 rfl) ho I.free
 ·obtain⟨v,o,ho,hd⟩:=I.cell x c e;exact free c o (λz=>(f c z).2.2.1 x c e rfl) ho (I.bT x c e)
 ·obtain⟨e,n,ne,nf,d⟩:=I.pin p hp;have j:p.1∉ch:=λz=>(f p.1 z).2.2.2 p hp rfl
  exact⟨g p.1 p.2 ne nf j e n,free p.1 p.2 j e n,ne,nf,d⟩
def Inv.un{t':Nat}(I:Inv X aC σ H s)(u:Un X.fs [] H H' s.heap h')(c:WV X.prog X.w H' h'):Inv X aC σ H' {s with heap:=h',toks:=t'}:=by
 obtain⟨m,⟨o,l,p,h,r⟩,_⟩:=id I.loc;obtain⟨q,i⟩:=u.any h I.free (by simp)
 exact I.step (g':=s.gens) (d':=s.drawn) (ch:=[]) (λy z=>nomatch z) (λb o y d y e n=>u.keep b o e n d (by simp)) (λb o y d y e n=>u.slot b o e n d (by simp)) (λb o y e n=>u.free b o e n (by simp)) (λb o y e=>u.there b o e (by simp)) u.eI u.ey u.eA (λt j=>by obtain⟨v,f,g,a,k⟩:=j;rw[h]at a;cases a;exact⟨_,f,g,i,k⟩) c I.bare
def Inv.call{g':Array GenState}{t':Nat}{ch:B7}(I:Inv X aC σ H s)(u:Un (WU X.stack) ch H H' s.heap h')(g:WV X.prog X.w H' h')(l:AllBare g')
  (d:∀b∈ch,(b∈X.ex\/X.s₀.heap.objs.size<=b)/\b≠X.env.locals/\(∀x c,X.env.cells.lookup x=some c->c≠b)/\∀p∈X.pn++aC,p.1≠b) :
  Inv X aC σ H' {s with heap:=h',gens:=g',drawn:=d',toks:=t'}:=by
 obtain⟨m,⟨o,y,O,k,r⟩,_⟩:=id I.loc;obtain⟨U,h⟩:=u.any k I.free λz=>(d _ z).2.1 rfl
 exact I.step (ch:=ch) d (λb o h q a e n=>u.keep b o e n (λz=>(Y5.mp (I.dn b z)).elim h q) a) (λb o Z Z a e n=>u.any e n a) (λb o a e n=>u.free b o e n a) (λb o a e=>u.there b o e a) u.eI u.ey u.eA (λm' t=>by obtain⟨o',i,j,f,v⟩:=t;rw[k]at f;cases f;exact⟨_,i,j,h,v⟩) g l
def Inv.turned{t':Nat}(I:Inv X aC σ H s)(k:∀b o,b≠it->s.heap.get? b=some o->h'.get? b=some o)(g:H it=none)(f:it≠X.env.locals)
  (h1:it∈X.ex\/X.s₀.heap.objs.size<=it) (h2:∀x c,X.env.cells.lookup x=some c->c≠it) (h3:∀p∈X.pn++aC,p.1≠it):Inv X aC σ H {s with heap:=h',toks:=t'}:=by
 have d:∀b u,H b=some u->b≠it:=λb u e z=>by rw[z,g]at e;cases e
 refine I.step (g':=s.gens) (d':=s.drawn) (ch:=[it]) (λb h=>?_) (λb o y y a e y=>k b o (λz=>a (by simp[z])) e) (λb o y y a e y=>⟨o.slots,k b o (λz=>a (by simp[z])) e⟩) (λy y y y n=>n)
  (λb o a e=>⟨o,k b o (λz=>a (by simp[z])) e⟩) (λy y e=>e) (λy y y e=>e) (λb w e=>⟨#[],by rw[e];simp⟩) (λm i=>?_) (λb u e=>?_) I.bare
 ·have e:b=it:=by simpa using h
  subst e;exact⟨h1,f,h2,h3⟩
 ·obtain⟨o,j,l,t,r⟩:=i;exact⟨o,j,l,k _ o (Ne.symm f) t,r⟩
 ·refine(I.aI b u e).fw (λc v a q=>k c v ?_ q) (λy q=>q) λy y q=>q
  rcases a with z|z
  ·rw[z];exact d b u e
  ·exact d c _ z
def Inv.tok(I:Inv X aC σ H s)(t:Nat):Inv X aC σ H {s with toks:=t}:=I.un (h':=s.heap) (t':=t) Un.refl I.aI
theorem Inv.kept(I:Inv X aC σ H s)(k:∀b u,s.heap.get? b=some u->h'.get? b=some u):Inv X aC σ H {s with heap:=h',toks:=t'}:=I.un (Un.kept k) (I.aI.kept k)
theorem Inv.laid(I:Inv X aC σ H s)(k:∀b u,s.heap.get? b=some u->h'.get? b=some u)(c:s.z<=a)(d:Y3 X.prog X.w (upd H a o) h' a o):
  Inv X aC σ (upd H a o) {s with heap:=h',toks:=t'}:=I.un (Un.laid k c (I.aI.fresh c)) (I.aI.laid k c d)
theorem Inv.write(I:Inv X aC σ H s)(d:DC (H x))(f:e=x\/H e=some (.own x))(k:∀b u,b≠e->s.heap.get? b=some u->h'.get? b=some u)(a:∃u,h'.get? e=some u)
  (c:Y3 X.prog X.w (upd H x o) h' x o):Inv X aC σ (upd H x o) {s with heap:=h',toks:=t'}:=I.un (Un.write d f k a) (I.aI.write d f k a c)
def Inv.weak(I:Inv X aC σ H s)(hl:σ'.length=σ.length)(w:∀(i:Nat) v,σ'[i]?=some (some v)->σ[i]?=some (some v)):Inv X aC σ' H s:=
 ⟨I.ok,I.os,I.bare,I.base,let⟨m,hn,hl'⟩:=I.loc;⟨m,hn,λi x v a b c=>hl' i x v a (w i v b) c⟩,I.cell,I.free,I.bT,I.pin,I.aI,hl.trans I.len⟩
def Inv.hG(I:Inv X aC σ H s)(h:∀p∈a,s.heap.get? p.1=some p.2/\H p.1=none/\p.1≠X.env.locals/\p.1∉X.fs/\∀v,p.2.data≠.cell v):Inv X a σ H s:=
 ⟨I.ok,I.os,I.bare,I.base,I.loc,I.cell,I.free,I.bT,λp b=>(Zb.mp b).elim (λz=>I.pin p (Z2 _ z)) (h p),I.aI,I.len⟩
def UA{N:C3}(c:N.Nodup){i j:Nat}(a:N[i]?=some x)(b:N[j]?=some x):i=j:=by obtain⟨f,d⟩:=YJ.mp a;obtain⟨g,e⟩:=YJ.mp b;exact(List.getElem_inj c).mp (d.trans e.symm)
def UU{E:A3}{i:Nat}{Q:Unit->B2}(I:Inv X aC σ H s)(hN:X.N.Nodup)(hi:X.N[i]?=some x)(O:Loc X.env.scope x)(r:RelV v u)
  (h:∀s',Inv X aC (σ.set i (some v)) H s'->(∃a,Heap.SameBut a s.heap s'.heap/\(a=X.env.locals\/X.env.cells.lookup x=some a))->Q () s') (hf:X.fn x=true\/X.env.scope.names.lookup x=some .local:=by first|exact .inl rfl|exact .inr rfl|assumption):wpAny M A (storeName X.env x u) Q E s:=by
 obtain⟨m,hn,hl⟩:=id I.loc;have a9:(X.env.scope.kind==.class||(X.env.scope.kind==.module&&X.env.locals != X.env.globals))=false:=by rw[I.ok.kind];rfl
 have hiσ:i<σ.length:=by rw[I.len];exact(YJ.mp hi).1
 have iO:=I.iO;have g:∀{a:Addr}{h':Heap},(∃o,s.heap.get? a=some o/\H a=none)->Heap.SameBut a s.heap h'->WV X.prog X.w H h':=λ{a h'} ha f b ob e=>by
  obtain⟨_,_,U⟩:=ha;refine(I.aI b ob e).fw (λc w' t q=>(f.2 c ?_).trans q) (λZ q=>q) λZ Z q=>q
  rintro rfl;rcases t with rfl|t
  ·rw[U]at e;cases e
  ·rw[U]at t;cases t
 rcases O with hk|hk
 ·refine wpAny_storeName_local hk hn (λh' hn' f=>?_) a9
  obtain⟨oL,_,_,hoL,_⟩:=id hn;refine h _ ⟨I.ok,I.os,I.bare,⟨λb o e n hb O=>?_,λb o e n hb O=>?_,I.base.free,λb o e O=>?_,I.base.eI,I.base.ey,I.base.eA⟩,⟨_,hn',λj y v' l e2 e3=>?_⟩,λy c e=>?_,I.free,I.bT,λp hp=>?_,g ⟨oL,hoL,I.free⟩ f,by simpa using I.len⟩ ⟨_,f,.inl rfl⟩
  ·exact(f.2 b (Y6 (Y0 (YW e) I.ok.above))).trans (I.base.keep b o e n hb O)
  ·obtain⟨sl,l⟩:=I.base.slot b o e n hb O;exact⟨sl,(f.2 b (Y6 (Y0 (YW e) I.ok.above))).trans l⟩
  ·obtain⟨o',l⟩:=I.base.there b o e O;exact⟨o',(f.2 b (Y6 (Y0 (YW e) I.ok.above))).trans l⟩
  ·by_cases hj:j=i
   ·subst hj;rw[hi]at l;cases l;rw[Zr hiσ]at e2;cases e2;exact⟨u,r,.inl ⟨hk,by simp⟩⟩
   ·rw[Zz (Ne.symm hj)]at e2;obtain⟨u',r',q⟩:=hl j y v' l e2 e3;refine⟨u',r',?_⟩;rcases q with⟨k,e⟩|⟨k,c,e,z⟩
    ·refine .inl ⟨k,?_⟩;have:y≠x:=λe=>hj (UA hN l (e▸hi))
     simp[this,e]
    ·exact .inr ⟨k,c,e,z.sameBut f (iO y c e)⟩
  ·obtain⟨w',z⟩:=I.cell y c e;exact⟨w',z.sameBut f (iO y c e)⟩
  ·obtain⟨e,n,ne,nf,d⟩:=I.pin p hp;exact⟨(f.2 p.1 ne).trans e,n,ne,nf,d⟩
 ·have kN:X.fn x=true:=by
   rcases hf with z|z
   ·exact z
   ·rw[z]at hk;cases hk
  obtain⟨c,t⟩:=I.ok.has x (.inl hk);obtain⟨w',z⟩:=I.cell x c t;refine wpAny_storeName_cell I.ok.kind hk t z (λh' hc' f=>?_)
  obtain⟨oc,hoc,hocd⟩:=id z;refine h {s with heap:=h'} ⟨I.ok,I.os,I.bare,⟨λb o e n hb O=>?_,λb o e n hb O=>?_,I.base.free,λb o e O=>?_,I.base.eI,I.base.ey,I.base.eA⟩,⟨m,hn.sameBut f (Ne.symm (iO x c t)),λj y v' l e2 e3=>?_⟩,λy c' e=>?_,I.free,I.bT,λp hp=>?_,g ⟨oc,hoc,I.bT x c t⟩ f,by simpa using I.len⟩ ⟨c,f,.inr t⟩
  ·exact(f.2 b (Y6 (Y0 (YW e) (I.ok.jS x c kN t)))).trans (I.base.keep b o e n hb O)
  ·obtain⟨sl,l⟩:=I.base.slot b o e n hb O;exact⟨sl,(f.2 b (Y6 (Y0 (YW e) (I.ok.jS x c kN t)))).trans l⟩
  ·obtain⟨o',l⟩:=I.base.there b o e O;exact⟨o',(f.2 b (Y6 (Y0 (YW e) (I.ok.jS x c kN t)))).trans l⟩
  ·by_cases hj:j=i
   ·subst hj;rw[hi]at l;cases l;rw[Zr hiσ]at e2;cases e2;exact⟨u,r,.inr ⟨.inl hk,c,t,hc'⟩⟩
   ·rw[Zz (Ne.symm hj)]at e2;obtain⟨u',r',q⟩:=hl j y v' l e2 e3;refine⟨u',r',?_⟩;rcases q with q|⟨k,c',e,z'⟩
    ·exact .inl q
    ·refine .inr ⟨k,c',e,z'.sameBut f ?_⟩;rintro rfl;exact hj (UA hN l (I.ok.inj _ _ _ e t▸hi))
  ·by_cases hcc:c'=c
   ·subst hcc;exact⟨_,hc'⟩
   ·obtain⟨w2,z2⟩:=I.cell y c' e;exact⟨w2,z2.sameBut f hcc⟩
  ·obtain⟨e,n,ne,nf,d⟩:=I.pin p hp;refine⟨(f.2 p.1 ?_).trans e,n,ne,nf,d⟩;intro q;rw[q,hoc]at e;have q':oc=p.2:=Y4 e;exact d w' (by rw[<-q'];exact hocd)
def XY(I:Inv X aC σ H s)(a:X.N.Nodup)(b:X.N[i]?=some x)(c:Loc X.env.scope x)(r:RelV v u)
  (h:∀s',Inv X aC (σ.set i (some v)) H s'->Q () s') (d:X.fn x=true\/X.env.scope.names.lookup x=some .local:=by first|exact .inl rfl|exact .inr rfl|assumption):wpAny M A (storeName X.env x u) Q E s:=
 UU I a b c r (λs' O z=>h s' O) d
def Inv.gz(I:Inv X aC σ H s)(ho:s'.os=s.os)(u:Un (WU X.stack) ch H H' s.heap s'.heap)(a:WV X.prog X.w H' s'.heap)(f:AllBare s'.gens)
  (d:∀b∈ch,(b∈X.ex\/X.s₀.heap.objs.size<=b)/\b≠X.env.locals/\(∀x c,X.env.cells.lookup x=some c->c≠b)/\∀p∈X.pn++aC,p.1≠b):Inv X aC σ H' s':=by
 obtain⟨h',g',d',t',g⟩:=s';have e:g=s.os:=ho;subst e;exact I.call (g':=g') (t':=t') (d':=d') u a f d
end
abbrev XK:=Value->B3->Hp->Prop
abbrev St:=List (Option V)
abbrev VK:=V->Hp->Prop
abbrev TE:=St->Hp->VK->Prop
abbrev TT:=St->Hp->(Bool->Hp->Prop)->Prop
abbrev TA:=St->Hp->(List V->Hp->Prop)->Prop
structure Ends where
 nx:St->Hp->Prop
 rt:VK
 bk:St->Hp->Prop:=λ_ _=>False
 ct:St->Hp->Prop:=λ_ _=>False
abbrev TS:=Ends->St->Hp->Prop
def EP(X:Cx)(a:A8)(b:St)(Q:VK)(u:Value)(s':Shared):Prop:=∃v I,Inv X a b I s'/\RelV v u/\Q v I
def TP(X:Cx)(a:A8)(c:St)(Q:Bool->Hp->Prop)(b:Bool)(s':Shared):Prop:=∃I,Inv X a c I s'/\Q b I
def AP(X:Cx)(a:A8)(c:St)(Q:List V->Hp->Prop)(us:B5)(s':Shared):Prop:=∃b I,Inv X a c I s'/\ZN b us/\Q b I
def SP(X:Cx)(b:A8)(D:Ends)(f:Flow)(s':Shared):Prop:=
 match f with
 |.next=>∃a I,Inv X b a I s'/\D.nx a I
 |.brk=>∃a I,Inv X b a I s'/\D.bk a I
 |.cont=>∃a I,Inv X b a I s'/\D.ct a I
 |.ret u=>∃v a I,Inv X b a I s'/\RelV v u/\D.rt v I
def PE(X:Cx)(e:Expr)(t:TE):Prop:=
 ∀(a:A8) (s:Shared) (b:St) (H:Hp) (Q:VK),Inv X a b H s->t b H Q->wpAny X.M X.A (eval e X.env) (EP X a b Q) X.xe s
def PT(X:Cx)(e:Expr)(t:TT):Prop:=
 ∀(a:A8) (s:Shared) (b:St) (H:Hp) (Q:Bool->Hp->Prop),Inv X a b H s->t b H Q->wpAny X.M X.A (isTrue e X.env (eval e X.env)) (TP X a b Q) X.xe s
def PW(X:Cx)(e:Expr)(t:TT):Prop:=
 ∀(b:Sem Value) (a:A8) (s:Shared) (c:St) (H:Hp) (Q:Bool->Hp->Prop),Inv X a c H s->t c H Q->wpAny X.M X.A (isTrue e X.env b) (TP X a c Q) X.xe s
def PW.pt(h:PW X e t):PT X e t:=h _
def PA(X:Cx)(es:B8)(t:TA):Prop:=
 ∀(b:Pos) (a:A8) (s:Shared) (c:St) (H:Hp) (Q:List V->Hp->Prop),Inv X a c H s->t c H Q->wpAny X.M X.A (spliced (backTo b (starEach es X.env))) (AP X a c Q) X.xe s
def PS(X:Cx)(st:Stmt)(t:TS):Prop:=
 ∀(a:A8) (s:Shared) (b:St) (H:Hp) (D:Ends),Inv X a b H s->t D b H->wpAny X.M X.A (exec st X.env) (SP X a D) X.xe s
def T1(X:Cx)(st:List Stmt)(t:TS):Prop:=
 ∀(a:A8) (s:Shared) (b:St) (H:Hp) (D:Ends),Inv X a b H s->t D b H->wpAny X.M X.A (execs st X.env) (SP X a D) X.xe s
def YO(h:wpAny M A t Q E s)(b:∀a s,Q a s->Q' a s):wpAny M A t Q' E s:=Zh h b λz z x=>x
open PyProof.Rows
section
variable{X:Cx}
def bin(i:PE X a ta)(j:PE X b tb){c:A8}{R:V->V->Hp->Prop}(I:Inv X c σ H s)(h:ta σ H λx U=>tb σ U λy O=>R x y O)
  {α:Type}{Q:α->B2}{f:Value->Value->Sem α}
  (k:∀v u g x y O,Inv X c σ O g->RelV x v->RelV y u->R x y O->wpAny X.M X.A (f v u) Q X.xe g) :
  wpAny X.M X.A (eval a X.env) (λv d=>wpAny X.M X.A (eval b X.env) (λu e=>wpAny X.M X.A (f v u) Q X.xe e) X.xe d) X.xe s:=by
 refine YO (i c s σ H _ I h) λv l ⟨x,U,m,n,o⟩=>?_
 refine YO (j c l σ U _ m o) λu g ⟨y,O,p,q,r⟩=>?_
 exact k v u g x y O p n q r
def ES(i:Nat):TE:=λa H Q=>∃v,a[i]?=some (some v)/\Q v H
def tC(v:V):TE:=λz H Q=>Q v H
def UF(k:X.N[i]?=some x)(n:JE X.env.scope x)(hd:autoParam ((x==("__debug__":Str))=false) qAB)(g:autoParam ((x==("__classdict__":Str))=false) qAB):PE X (.Name x pos) (ES i):=by
 intro f s o H Q I h;obtain⟨v,e,h⟩:=h;obtain⟨m,p,q⟩:=I.loc;obtain⟨u,r,l⟩:=q i x v k e n;have b:EP X f o Q u s:=⟨v,H,I,r,h⟩;rcases l with⟨d,t⟩|⟨d,c,j,a⟩
 ·exact wpAny_Name (wpAny_loadName_local I.ok.kind d p t b) hd
 ·rcases d with d|d
  ·exact wpAny_Name (wpAny_loadName_cell I.ok.kind d j a b) hd
  ·exact wpAny_Name (wpAny_loadName_free I.ok.kind d j a b g) hd
def NY{i j pos}:PE X (.Constant (.int i) j pos) (tC (.int i)):=λz z z H z I h=>wpAny_Constant_int ⟨.int i,H,I.tok _,⟨_,rfl⟩,h⟩
def EF{b j pos}:PE X (.Constant (.bool b) j pos) (tC (.bl b)):=λz z z H z I h=>Constant_bool ⟨.bl b,H,I,rfl,h⟩
def MO{x j pos}:PE X (.Constant (.str x) j pos) (tC (.str x)):=λz z z H z I h=>Calls.Constant_str ⟨.str x,H,I.tok _,⟨_,rfl⟩,h⟩
def Gl(X:Cx)(x:Str):Prop:=X.env.kindOf x=some .globalImplicit
def WE(I:Inv X aC σ H s)(a:Gl X x)(b:X.mg x=some u)(h:Q u s)
  (hd:autoParam ((x==("__debug__":Str))=false) qAB):wpAny X.M X.A (eval (.Name x pos) X.env) Q E s:=
 w9 I.ok.kind a (Calls.loadGlobal_global (by rw[I.ok.glob];exact I.mod.glob.keeps I.bk) b h) hd
def X2(I:Inv X aC σ H s)(a:Gl X x)(b:X.mg x=none)(c:bootBuiltins x=some u)(h:Q u s)
  (d:autoParam (x≠"__name__") qAB) (hd:autoParam ((x==("__debug__":Str))=false) qAB):wpAny X.M X.A (eval (.Name x pos) X.env) Q E s:=by
 obtain⟨g,e,f⟩:=I.mod.blt;exact w9 I.ok.kind a (Calls.loadGlobal_builtin (by rw[I.ok.glob];exact I.mod.glob.keeps I.bk) b (by rw[I.ok.blt];exact e.keeps I.bk) ((f x d).trans c) h) hd
def P5(a:Gl X x)(b:X.mg x=some u)(r:RelV v u)(hd:autoParam ((x==("__debug__":Str))=false) qAB):PE X (.Name x pos) (tC v):=
 λz z z H z I h=>WE I a b ⟨v,H,I,r,h⟩ hd
def LV(a:Gl X x)(b:X.mg x=none)(c:bootBuiltins x=some u)(r:RelV v u)(d:autoParam (x≠"__name__") qAB)(hd:autoParam ((x==("__debug__":Str))=false) qAB):PE X (.Name x pos) (tC v):=
 λz z z H z I h=>X2 I a b c ⟨v,H,I,r,h⟩ d hd
variable{a b:Expr}{ta tb:TE}{pos:Pos}
def tB(t:TE):TT:=λd H Q=>t d H λx I=>∃c,x=.bl c/\Q c I
variable{tA mw:TT}{rest:B8}
def xS(t u:TT):TT:=λd H Q=>t d H λc I=>if c=true then u d I Q else Q false I
def si(t u:TT):TT:=λd H Q=>t d H λc I=>if c=true then Q true I else u d I Q
def ze(t:TT):TT:=λd H Q=>t d H λc I=>Q (!c) I
def K0(f:PT X a tA):PW X (.BoolOp .And [a] pos) tA:=by
 intro i d s g H Q I h;refine isTrue_and (YO (f d s g H Q I h) λc j e=>?_)
 cases c with
 |true=>exact isTrue_and_nil e
 |false=>exact e
def HP(f:PT X a tA):PW X (.BoolOp .Or [a] pos) tA:=by
 intro i d s g H Q I h;refine isTrue_or (YO (f d s g H Q I h) λc j e=>?_)
 cases c with
 |false=>exact isTrue_or_nil e
 |true=>exact e
def IX(g:PT X a tA)(i:PW X (.BoolOp .And (b::rest) pos) mw):PW X (.BoolOp .And (a::b::rest) pos) (xS tA mw):=by
 intro j d s e H Q I h;refine isTrue_and (YO (g d s e H _ I h) λc k ⟨O,U,f⟩=>?_)
 cases c with
 |true=>exact i j d k e O Q U f
 |false=>exact⟨O,U,f⟩
def Cf(g:PT X a tA)(i:PW X (.BoolOp .Or (b::rest) pos) mw):PW X (.BoolOp .Or (a::b::rest) pos) (si tA mw):=by
 intro j d s e H Q I h;refine isTrue_or (YO (g d s e H _ I h) λc k ⟨O,U,f⟩=>?_)
 cases c with
 |true=>exact⟨O,U,f⟩
 |false=>exact i j d k e O Q U f
def HL(e:PT X a tA):PT X (.UnaryOp .Not a pos) (ze tA):=by intro d s f H Q I h;exact isTrue_not (e d s f H (λc O=>Q (!c) O) I h)
def CS(ta tb:TE):TE:=λd H Q=>ta d H λx I=>∃c,x=.bl c/\if c=true then tb d I Q else Q (.bl false) I
def CA(ta:TE):TE:=λd H Q=>ta d H λx I=>∃c,x=.bl c/\Q (.bl (!c)) I
def IB{op}(h:PE X a t):PE X (.BoolOp op [a] pos) t:=λc s d H Q I e=>BoolOp_one (h c s d H Q I e)
def GU(g:PE X a ta)(i:PE X (.BoolOp .And (b::rest) pos) tb):PE X (.BoolOp .And (a::b::rest) pos) (CS ta tb):=by
 intro d s f H Q I h;refine BoolOp_and (YO (g d s f H _ I h) λv j ⟨x,O,U,k,e⟩=>?_)
 obtain⟨c,rfl,e⟩:=e;cases k;refine JJ ?_;cases c with
 |true=>exact i d j f O Q U e
 |false=>exact⟨.bl false,O,U,rfl,e⟩
def Iq(f:PE X a ta):PE X (.UnaryOp .Not a pos) (CA ta):=by
 intro d s g H Q I h;refine UnaryOp_ (YO (f d s g H _ I h) λv j ⟨x,O,U,i,e⟩=>?_)
 obtain⟨c,rfl,e⟩:=e;cases i;exact not_of (JJ ⟨.bl (!c),O,U,rfl,e⟩)
def sj(t:TT)(ta tb:TE):TE:=λd H Q=>t d H λc I=>if c=true then ta d I Q else tb d I Q
def MY(hc:PT X c tA)(j:PE X a ta)(k:PE X b tb):PE X (.IfExp c a b pos) (sj tA ta tb):=by
 intro e s f H Q I h;refine wpAny_IfExp (YO (hc e s f H _ I h) λd g ⟨O,U,i⟩=>?_)
 cases d with
 |true=>exact j e g f O Q U i
 |false=>exact k e g f O Q U i
end
open PyProof.Rows
def XI(K:B0)(H:Hp)(a:Addr)(xs:List V):Prop:=
 Rd H a (.lst xs) \/
  ∃(o:Obj) (b:B4) (n:Nat),K.lookup a=some o/\o.cls=.type "list"/\o.dict=none/\o.data=.seq b n/\b.size<=sizeLine/\ZN xs b.toList
def XO(K:B0)(H:Hp)(a:Addr)(xs:List V):Prop:=
 Rd H a (.tup xs) \/
  ∃(o:Obj) (b:B4) (n:Nat),K.lookup a=some o/\o.cls=.type "tuple"/\o.data=.seq b n/\b.size<=sizeLine/\ZN xs b.toList
def AA:Value->Option V
 |.none=>some .aT
 |.bool b=>some (.bl b)
 |.int i _=>some (.int i)
 |.str x _=>some (.str x)
 |.bytes b _=>some (.hE b)
 |.float b _=>some (.jI b)
 |.ref a=>some (.ref a)
 |.type n=>some (.ty n)
 |_=>none
def RelV.abs(r:RelV x u):AA u=some x:=by
 cases x with
 |aT=>cases r;rfl
 |bl _=>cases r;rfl
 |int _=>obtain⟨t,rfl⟩:=r;rfl
 |str _=>obtain⟨t,rfl⟩:=r;rfl
 |hE _=>obtain⟨t,rfl⟩:=r;rfl
 |jI _=>obtain⟨t,rfl⟩:=r;rfl
 |ref _=>cases r;rfl
 |ty _=>cases r;rfl
def RelV.inj(r:RelV x u)(q:RelV y u):x=y:=Y4 (r.abs.symm.trans q.abs)
theorem ZN.inj:∀{xs ys:List V}{us:B5},ZN xs us->ZN ys us->xs=ys
 |_,_,_,.nil,.nil=>rfl
 |_,_,_,.cons r t,.cons a t'=>by rw[r.inj a,ZN.inj t t']
section
variable{X:Cx}{aC:A8}{σ:St}{H:Hp}{s:Shared}{a:Addr}{xs ys:List V}
def XI.of{K:B0}(h:H a=some (.lst xs)):XI K H a xs:=.inl (.inl h)
def XO.of{K:B0}(h:H a=some (.tup xs)):XO K H a xs:=.inl (.inl h)
def Inv.list(I:Inv X aC σ H s)(h:XI X.K H a xs):∃aE:B5,ZN xs aE/\PlainL s.heap a aE.toArray/\xs.length<=sizeLine:=by
 rcases h with h|⟨o,aE,n,b,c,d,f,g,r⟩
 ·obtain⟨z,aE,n,r,e⟩:=h.ok I.aI;exact⟨aE,r,⟨_,n,e,rfl,rfl,rfl⟩,z⟩
 ·refine⟨aE.toList,r,⟨o,n,I.cE a o b,c,d,by simpa using f⟩,?_⟩
  have e:=r.length;simp only[Array.length_toList]at e
  lia
def Inv.tuple(I:Inv X aC σ H s)(h:XO X.K H a xs):∃aE:B5,ZN xs aE/\IsTup s.heap a aE.toArray/\xs.length<=sizeLine:=by
 rcases h with h|⟨o,aE,n,b,c,d,f,r⟩
 ·obtain⟨z,aE,r,p⟩:=h.ok I.aI;exact⟨aE,r,p,z⟩
 ·refine⟨aE.toList,r,⟨o,I.cE a o b,c,n,by simpa using d⟩,?_⟩
  have e:=r.length;simp only[Array.length_toList]at e
  lia
def Inv.gE(I:Inv X aC σ H s)(h:XI X.K H a xs)(h':XI X.K H a ys):xs=ys:=by
 obtain⟨b,r,⟨o,n,e,_,_,d⟩,_⟩:=I.list h;obtain⟨its',g,⟨j,k,c,_,_,f⟩,_⟩:=I.list h';rw[e]at c;cases c;rw[d]at f;injection f with i _
 have:b=its':=by simpa using congrArg Array.toList i
 subst this;exact r.inj g
def Inv.fN(I:Inv X aC σ H s)(h:XO X.K H a xs)(h':XO X.K H a ys):xs=ys:=by
 obtain⟨b,r,⟨o,e,_,n,d⟩,_⟩:=I.tuple h;obtain⟨its',g,⟨j,c,_,k,f⟩,_⟩:=I.tuple h';rw[e]at c;cases c;rw[d]at f;injection f with i _
 have:b=its':=by simpa using congrArg Array.toList i
 subst this;exact r.inj g
end
section
variable{X:Cx}{st:Stmt}{rest:List Stmt}{t u:TS}{e:Expr}{te:TE}{pos:Pos}
def kP:TS:=λD a H=>D.nx a H
def As(t u:TS):TS:=λD a H=>t {D with nx:=u D} a H
def Mb:T1 X [] kP:=λz z a H z I h=>AK ⟨a,H,I,h⟩
def NI(h1:PS X st t)(h2:T1 X rest u):T1 X (st::rest) (As t u):=by
 intro aC s σ H D I h;refine wpAny_execs_cons (YO (h1 aC s σ H {D with nx:=u D} I h) λf s1 q=>?_)
 cases f with
 |next=>obtain⟨σ',H',I',q⟩:=q;exact h2 aC s1 σ' H' D I' q
 |ret v=>exact q
 |brk=>exact q
 |cont=>exact q
def Qb(h1:PS X st t):T1 X [st] t:=by
 intro aC s σ H D I h;refine wpAny_execs_cons (YO (h1 aC s σ H D I h) λf s1 q=>?_)
 cases f with
 |next=>exact AK q
 |ret v=>exact q
 |brk=>exact q
 |cont=>exact q
def Inv.quiet(I:Inv X aC σ H s):interactive X.env=false:=by simp[interactive,I.ok.kind]
def CC(te:TE):TS:=λD a H=>te a H λz I=>D.nx a I
def L9(c:PE X e te)(hs:autoParam (swapsWith e none pos.line X.env=pure false) qAA):PS X (.Expr e pos) (CC te):=by intro a s b H D I h;exact wpAny_Expr_any (YO (c a s b H _ I h) λv f ⟨x,O,U,g,d⟩=>⟨b,O,U,d⟩) I.quiet hs
def xE(te:TE):TS:=λD a H=>te a H D.rt
def QN(c:PE X e te):PS X (.Return (some e) pos) (xE te):=by intro a s b H D I h;exact wpAny_Return_some (YO (c a s b H _ I h) λv g ⟨x,O,U,d,f⟩=>⟨x,b,O,U,d,f⟩)
def yi(c:TT)(t u:TS):TS:=λD a H=>c a H λb I=>if b=true then t D a I else u D a I
def CD(hc:PT X c tc)(k:T1 X a t)(l:T1 X b u):PS X (.If c a b pos) (yi tc t u):=by
 intro f s g H D I h;refine wpAny_If (YO (hc f s g H _ I h) λd i ⟨O,U,j⟩=>?_)
 cases d with
 |true=>exact k f i g O D U j
 |false=>exact l f i g O D U j
end
abbrev TG:=V->St->Hp->(St->Hp->Prop)->Prop
abbrev kC:=List V->St->Hp->(St->Hp->Prop)->Prop
def PG(X:Cx)(a:Expr)(t:TG):Prop:=
 ∀(b:A8) (s:Shared) (d:St) (H:Hp) (v:V) (u:Value) (Q:St->Hp->Prop),Inv X b d H s->RelV v u->t v d H Q->
   wpAny X.M X.A (assign a X.env u) (λz e=>∃c I,Inv X b c I e/\Q c I) X.xe s
def MB(X:Cx)(ts:B8)(t:kC):Prop:=
 ∀(a:A8) (s:Shared) (c:St) (H:Hp) (d:List V) (e:B5) (Q:St->Hp->Prop),Inv X a c H s->ZN d e->t d c H Q->
   wpAny X.M X.A (assignInOrder ((assignEach ts X.env).map (·.2)) e) (λz f=>∃b I,Inv X a b I f/\Q b I) X.xe s
abbrev iP:=V->V->V->Hp->(Hp->Prop)->Prop
def OX(X:Cx)(t:iP):Prop:=
 ∀(a:A8) (s:Shared) (b:St) (H:Hp) (o i v:V) (c d u:Value) (Q:Hp->Prop),Inv X a b H s->RelV o c->RelV i d->RelV v u->t o i v H Q->
   wpAny X.M X.A (setItem c d u) (λz e=>∃I,Inv X a b I e/\Q I) X.xe s
abbrev q7:=V->V->Hp->VK->Prop
def sq(X:Cx)(op:Operator)(t:q7):Prop:=
 ∀(a:A8) (s:Shared) (b:St) (H:Hp) (x y:V) (v u:Value) (Q:VK),Inv X a b H s->RelV x v->RelV y u->t x y H Q->
   wpAny X.M X.A (inplaceOp op v u) (EP X a b Q) X.xe s
section
variable{X:Cx}{pos:Pos}
def I0(i:Nat):TG:=λv a H Q=>Q (a.set i (some v)) H
def Mc(b:X.N.Nodup)(c:X.N[i]?=some x)(d:Loc X.env.scope x)(e:X.fn x=true\/X.env.scope.names.lookup x=some .local:=by first|exact .inl rfl|exact .inr rfl|assumption):PG X (.Name x pos) (I0 i):=by intro a s f H v u Q I r h;exact wpAny_assign_Name (XY I b c d r (λg O=>⟨_,H,O,h⟩) e)
def mT:kC:=λa b H Q=>a=[]/\Q b H
def Cs(t:TG)(u:kC):kC:=λb c H Q=>∃v r,b=v::r/\t v c H λa I=>u r a I Q
def LF:MB X [] mT:=by intro a s b H c d Q I r h;obtain⟨e,h⟩:=h;subst e;cases r;exact assignInOrder_nil ⟨b,H,I,h⟩
def NM(h1:PG X e t)(h2:MB X es u)
  (hs:autoParam ((assignEach (e::es) X.env).map (·.2)=assign e X.env::(assignEach es X.env).map (·.2)) qAA):MB X (e::es) (Cs t u):=by
 intro aC s σ H vs us Q I r h;obtain⟨v,vr,e1,h⟩:=h;subst e1;cases r with
 |cons r rr=>
   rw[hs];refine DD (YO (h1 aC s σ H _ _ _ I r h) λ_ s1 ⟨σ1,H1,I1,q1⟩=>?_)
   exact h2 aC s1 σ1 H1 _ _ Q I1 rr q1
def zi(K:B0)(n:Nat)(t:kC):TG:=λv c H Q=>∃a b,v=.ref a/\XO K H a b/\b.length=n/\t b c H Q
def IE(hc:X.calm=true)(h:MB X es t)
  (i:autoParam ((assignEach es X.env).length=n) qAA) (d:autoParam ((assignEach es X.env).findIdx? (·.1)=none) qAA):PG X (.Tuple es k pos) (zi X.K n t):=by
 intro c s g H v u Q I r f;obtain⟨a,j,l,m,p,f⟩:=f;subst l;cases r;obtain⟨q,rv,w,z⟩:=I.tuple m;refine assign_Tuple_tuple (I.ok.hd hc) w (by simp[i,<-p,rv.length]) d λx y=>?_
 have O:Inv X c g H {s with heap:=x}:=I.kept (t':=s.toks) λb o e=>y b o (Y6 (YW e)) e
 exact h c _ g H j _ Q O (by simpa using rv) f
def xB(b ti:TE)(t:iP):TG:=λv a H Q=>b a H λo I=>ti a I λi O=>t o i v O λU=>Q a U
def IH(ho:PE X o to)(e:PE X i ti)(hs:OX X t)
  (f:∀v,assign (.Subscript o i pos) X.env v=(do
    let b <-holding [v] (eval o X.env)
    let c <-holding [v,b] (eval i X.env)
    standAt pos
    holding [v,b,c] (setItem b c v)
    release [v,b,c] []):=by intro _;rfl):PG X (.Subscript o i pos) (xB to ti t):=by
 intro a s d H v u Q I r h;rw[f];refine YF (ZF (YO (ho a s d H _ I h) λb g ⟨x,O,U,j,k⟩=>?_))
 refine YF (ZF (YO (e a g d O _ U k) λc l ⟨y,m,n,p,q⟩=>?_))
 refine YF (Fm (YF (ZF (YO (hs a l d m x y v b c u _ n j p r q) λ_ s3 ⟨w,z,q3⟩=>?_))))
 exact wpAny_release ⟨d,w,z,q3⟩
def DB(te:TE)(g:TG):TS:=λD a H=>te a H λx I=>g x a I D.nx
def HU(c:PE X e te)(d:PG X tg g)(hs:autoParam (swapsWithSole [tg] e pos.line X.env=pure false) qAA)(hw:autoParam (swappedStores [tg] e X.env=pure none) qAA)
  (h1:autoParam ((assignEach [tg] X.env).map (·.2)=[assign tg X.env]) qAA):PS X (.Assign [tg] e pos) (DB te g):=by
 intro a s b H D I h;refine wpAny_Assign_stores (YO (c a s b H _ I h) λv f ⟨x,O,U,i,j⟩=>?_) hs hw
 rw[h1];exact YO (d a f b O x v _ U i j) λz k q=>q
def GP(b:X.N.Nodup)(c:X.N[i]?=some x)(d:Loc X.env.scope x)(f:PE X e te)(hs:autoParam (swapsWith e (some (.Name x pos')) pos.line X.env=pure false) qAA)(g:X.fn x=true\/X.env.scope.names.lookup x=some .local:=by first|exact .inl rfl|exact .inr rfl|assumption):
  PS X (.Assign [.Name x pos'] e pos) (DB te (I0 i)):=by
 intro a s j H D I h;refine wpAny_Assign_Name (YO (f a s j H _ I h) λv n ⟨y,O,U,k,l⟩=>?_) hs
 exact XY U b c d k (λo m=>⟨_,O,m,l⟩) g
def zC(i j:Nat)(b:TA):TS:=λD a H=>b a H λc I=>∃v w,c=[v,w]/\D.nx ((a.set i (some v)).set j (some w)) I
def G2{kt k2 pt2}(hc:X.calm=true)(hN:X.N.Nodup)(hi:X.N[i]?=some x)(hj:X.N[j]?=some y)(cf:i≠j)
  (hx:X.env.scope.names.lookup x=some .local) (hy:X.env.scope.names.lookup y=some .local) (ha:PA X [a,b] ta)
  (hw:swappedStores [.Tuple [.Name x px,.Name y py] kt pt] (.Tuple [a,b] k2 pt2) X.env=pure (some [x,y]))
  (hs:autoParam (swapsWithSole [.Tuple [.Name x px,.Name y py] kt pt] (.Tuple [a,b] k2 pt2) pos.line X.env=pure false) qAA) :
  PS X (.Assign [.Tuple [.Name x px,.Name y py] kt pt] (.Tuple [a,b] k2 pt2) pos) (zC i j ta):=by
 intro aC s σ H D I h;rw[exec_Assign_arm];refine YF (Fm ?_);rw[hs];refine YF (YG ?_);rw[YQ (by decide)]
 refine YF (Tuple_ (YO (ha _ aC s σ H _ I h) λus s1 ⟨vs,H1,I1,r1,q1⟩=>?_))
 obtain⟨v,w,e1,q1⟩:=q1;subst e1;obtain⟨u1,u2,rfl,rv,rw'⟩:∃u1 u2,us=[u1,u2]/\RelV v u1/\RelV w u2:=by
  cases r1 with
  |cons p q=>
    cases q with
    |cons p' q'=>cases q';exact⟨_,_,rfl,p,p'⟩
 refine Zw ?_ (by show 2<=sizeLine;decide)
 have I2:Inv X aC σ H1 {s1 with heap:=s1.heap.push {cls:=.type "tuple",data:=.seq [u1,u2].toArray} }:=I1.kept (t':=s1.toks) λb o e=>YH _ e
 rw[hw];refine YF (YG ?_);show wpAny X.M X.A (do rule "assign.swapped-stores";let items <-unpackItems (.ref s1.z) 2 none;assignInOrder [λv=>bindName X.env y v,λv=>bindName X.env x v] items.reverse;pure Flow.next) _ _ _
 refine YF (ME (YF (unpackItems_tuple (items:=#[u1,u2]) (I.ok.hd hc) (Ee s1.heap _) λh' aw=>?_)))
 have I3:=I2.kept (h':=h') (t':=s1.toks) λb o e=>aw b o (Y6 (YW e)) e
 show wpAny _ _ (assignInOrder [λv=>bindName X.env y v,λv=>bindName X.env x v] [u2,u1]>>=λu=>pure Flow.next) _ _ _
 refine YF (DD (Bz (XY I3 hN hj (.inl hy) rw' (λs2 I4=>?_) (.inr hy))))
 refine DD (Bz (XY I4 hN hi (.inl hx) rv (λs3 I5=>assignInOrder_nil (YG ?_)) (.inr hx)))
 rw[List.set_comm _ _ (Ne.symm cf)]at I5;exact⟨_,H1,I5,q1⟩
def EB(d ti te:TE)(a:V->V->Hp->VK->Prop)(tip:q7)(b:iP):TS:=λD c H=>d c H λo I=>ti c I λi O=>a o i O λx U=>te c U λy e=>tip x y e λz f=>b o i z f λg=>D.nx c g
def IY(X:Cx)(t:V->V->Hp->VK->Prop):Prop:=
 ∀(a:A8) (s:Shared) (b:St) (H:Hp) (o i:V) (c d:Value) (Q:VK),Inv X a b H s->RelV o c->RelV i d->t o i H Q->
   wpAny X.M X.A (getItem c d) (EP X a b Q) X.xe s
def LU(ho:PE X o to)(n:PE X i ti)(p:IY X tget)(q:PE X e te)(r:sq X op tip)(hs:OX X tset)
  (t:∀c d b,augStore i c d b=(do holding [b,c,d] (setItem c d b);release [b,c,d] [];pure .next):=by intros;rfl):PS X (.AugAssign (.Subscript o i ck) op e pos) (EB to ti te tget tip tset):=by
 intro a s f H D I h;refine wpAny_AugAssign_SubscriptAny (YO (ho a s f H _ I h) λc u ⟨j,O,U,k,w⟩=>?_) t
 refine YO (n a u f O _ U w) λd x ⟨l,y,z,m,q2⟩=>?_
 refine YO (p a x f y j l c d _ z k m q2) λg s3 ⟨x3,H3,I3,r3,q3⟩=>?_
 refine YO (q a s3 f H3 _ I3 q3) λv s4 ⟨x4,H4,I4,r4,q4⟩=>?_
 refine YO (r a s4 f H4 x3 x4 g v _ I4 r3 r4 q4) λb s5 ⟨x5,H5,I5,r5,q5⟩=>?_
 exact YO (hs a s5 f H5 j l x5 c d b _ I5 k m r5 q5) λ_ s6 ⟨H6,I6,q6⟩=>⟨f,H6,I6,q6⟩
end
section
variable{X:Cx}{pos:Pos}
def GW(c:TT)(tb:TS):TS:=λD a H=>∃W:Nat->St->Hp->Prop,(∃m,W m a H)/\∀m a H,W m a H->
 c a H λb I=>if b=true then∃N:St->Hp->Prop,(∀d O,N d O->∃e,e<m/\W e d O)/\tb {D with nx:=N,ct:=N,bk:=D.nx} a I else D.nx a I
def OB(hp:PassesOwn X.M X.A X.env X.xe)(hc:PT X c tc)(hb:T1 X body tb):PS X (.While c body [] pos) (GW tc tb):=by
 intro aC s σ H D I h;obtain⟨W,⟨m0,w0⟩,turn⟩:=h;refine wpAny_While (codeAny_whileLoop (λn s'=>∃σ' H',Inv X aC σ' H' s'/\W n σ' H') ?_ m0 ⟨σ,H,I,w0⟩)
 rintro n s1 ⟨σ1,H1,I1,w1⟩;refine Fu hp (YO (hc aC s1 σ1 H1 _ I1 (turn n σ1 H1 w1)) λb s2 ⟨H2,I2,q2⟩=>?_)
 cases b with
 |true=>
   obtain⟨N,hN,q2⟩:=q2;rw[YK rfl];refine Fu hp (YO (hb aC s2 σ1 H2 _ I2 q2) λf s3 q3=>?_)
   cases f with
   |next=>obtain⟨σ3,H3,I3,n3⟩:=q3;obtain⟨m',hm,w3⟩:=hN σ3 H3 n3;exact⟨m',hm,σ3,H3,I3,w3⟩
   |cont=>obtain⟨σ3,H3,I3,n3⟩:=q3;obtain⟨m',hm,w3⟩:=hN σ3 H3 n3;exact⟨m',hm,σ3,H3,I3,w3⟩
   |brk=>exact q3
   |ret v=>exact q3
 |false=>rw[YQ Zc];exact AK ⟨σ1,H2,I2,q2⟩
end
structure It where
 go:Nat->Hp->Prop
 nc:Nat->Hp->V->Hp->Prop
 stop:Nat->Hp->Prop
def VE(X:Cx)(a:A8)(H:Hp)(b:Addr):Prop:=
 H b=none/\b≠X.env.locals/\b∉X.fs/\(b∈X.ex\/X.s₀.heap.objs.size<=b)/\(∀x c,X.env.cells.lookup x=some c->c≠b)/\∀p∈X.pn++a,p.1≠b
def Inv.h9(I:Inv X aC σ H s)(a:s.z<=b)(d:H' b=none):VE X aC H' b:=by
 refine⟨d,DJ (Y0 I.lt a),I.mS a,.inr (Zx I.sz a),λx c e z=>?_,λp f z=>?_⟩
 ·obtain⟨v,q⟩:=I.cell x c e;exact absurd (Y0 q.lt (by rw[z];exact a)) (MI _)
 ·exact absurd (Y0 (YW (I.pin p f).1) (by rw[z];exact a)) (MI _)
structure Pp(P:C5)(w:World)(K:B0)(tg:Expr)(J:It)(fp:B7)(it:Addr)(tn:Nat->B6):Prop where
 mem:it∈fp
 obj:∀i h,tn i h->∀b∈fp,∃o,h.get? b=some o/\∀v,o.data≠.cell v
 keep:∀i h h',tn i h->(∀b∈fp,∀o,h.get? b=some o->h'.get? b=some o)->tn i h'
 item:∀(X:Cx),X.prog=P->X.w=w->X.K=K->X.calm=true->∀(i:Nat) (aC:A8) (s:Shared) (σ:St) (H:Hp) (E:A3),Inv X aC σ H s->(∀b∈fp,VE X aC H b)->tn i s.heap->J.go i H->
  wpAny (model P w) X.A (pyNext (.ref it)) (λr s1=>∃u,r=some u /\
   wpAny (model P w) X.A (letOwnedTupleGo tg (.ref it) u) (λ_ s2=>∃x H',Inv X aC σ H' s2/\RelV x u/\J.nc i H x H'/\tn (i+1) s2.heap/\∀b∈fp,H' b=none) E s1) E s
 done:∀(X:Cx),X.prog=P->X.w=w->X.K=K->X.calm=true->∀(i:Nat) (aC:A8) (s:Shared) (σ:St) (H:Hp) (E:A3),Inv X aC σ H s->(∀b∈fp,VE X aC H b)->tn i s.heap->J.stop i H->
  wpAny (model P w) X.A (pyNext (.ref it)) (λr s1=>r=none/\Inv X aC σ H s1) E s
 self:∀(A:Around) (i:Nat) (s:Shared) (Q:A3) (E:A3),tn i s.heap->Q (.ref it) s->wpAny (model P w) A (pyIter (.ref it)) Q E s
abbrev TI:=St->Hp->(It->Hp->Prop)->Prop
def xp(X:Cx)(a:A8)(h:St)(i:Expr)(R:It->Hp->Prop)(c:Value)(d:Shared):Prop:=
 ∃(e:Addr) (f:B7) (g:Nat->B6) (J:It) (I:Hp),c=.ref e/\Inv X a h I d/\Pp X.prog X.w X.K i J f e g/\g 0 d.heap/\(∀b∈f,VE X a I b)/\R J I
def PI(X:Cx)(d b:Expr)(e:TI):Prop:=
 ∀(a:A8) (s:Shared) (c:St) (H:Hp) (R:It->Hp->Prop),Inv X a c H s->e c H R->
   wpAny X.M X.A (eval b X.env) (λv f=>wpAny X.M X.A (pyIter v) (xp X a c d R) X.xe f) X.xe s
def Nd(ho:s.heap.get? it=some o)(hc:o.cls=.type n)(hd:o.data=.fields vs)
  (b:["enumerate","zip","dict_itemiterator","dict_reverseitemiterator","odict_iterator","itertools.zip_longest","itertools.pairwise"].contains n=false) (a:Q () s):wpAny M A (letOwnedTupleGo tg (.ref it) u) Q E s:=by
 unfold letOwnedTupleGo;cases tg<;>first
  |exact YG a
  |(cases u<;>first
      |exact YG a
      |(refine wpAny_bind (wpAny_load ho ?_)
        rw[hc,hd];show wpAny M A (if(["enumerate","zip","dict_itemiterator","dict_reverseitemiterator","odict_iterator","itertools.zip_longest","itertools.pairwise"].contains n&&vs[0]?==some (rawInt _))=true then _ else _) Q E s
        rw[YQ (by intro h;rw[b,Bool.false_and]at h;cases h)]
        exact YG a))
def AR(K:B0)(a:Addr):It:=
 ⟨λi H=>∃b x,XI K H a b/\b[i]?=some x,λi H x I=>I=H/\∀b,XI K H a b->b[i]?=some x,λi H=>∃b,XI K H a b/\b.length<=i⟩
def xD(K:B0)(a:Addr):It:=
 ⟨λi H=>∃b x,XO K H a b/\b[i]?=some x,λi H x I=>I=H/\∀b,XO K H a b->b[i]?=some x,λi H=>∃b,XO K H a b/\b.length<=i⟩
def Ct(lo:Int)(n:Nat):It:=⟨λi z=>i<n,λi H x I=>I=H/\x=.int (lo+i),λi z=>n<=i⟩
def Pw{P:C5}{w:World}{K:B0}{tg:Expr}(a it:Addr):Pp P w K tg (AR K a) [it] it (λi h=>h.IsListIter it a i)where
 mem:=by simp
 obj:=λi h st b g=>by
  have e:b=it:=by simpa using g
  subst e;obtain⟨o,e,c,d⟩:=st;exact⟨o,e,λv z=>by rw[d]at z;cases z⟩
 keep:=λi h l st k=>st.at λo e=>k it (by simp) o e
 item:=by
  intro X q r t hc i f s σ H E I m st y;subst q r t;obtain⟨xs,x,n,O⟩:=y;obtain⟨U,rv,p,hz⟩:=I.list n;obtain⟨u,hu,ru⟩:=rv.get O;obtain⟨f0,f1,f2,f3,f4,f5⟩:=m it (by simp)
  refine wpAny_pyNext_list_item st p.isList (x:=u) (by simpa using hu) λl j sb=>?_
  have I1:Inv X f σ H {s with heap:=l}:=I.turned (t':=s.toks) (λb o g e=>(sb.2 b g).trans e) f0 f1 f3 f4 f5
  obtain⟨o,e,c,d⟩:=id j;exact⟨u,rfl,Nd (s:={s with heap:=l}) e c d (by decide) ⟨x,H,I1,ru,⟨rfl,λys hy=>by rw[I.gE hy n];exact O⟩,j,λb g=>(m b g).1⟩⟩
 done:=by
  intro X q r t hc i f s σ H E I m st y;subst q r t;obtain⟨xs,n,O⟩:=y;obtain⟨U,rv,p,hz⟩:=I.list n;obtain⟨f0,f1,f2,f3,f4,f5⟩:=m it (by simp)
  have hl:=rv.length;exact wpAny_pyNext_list_end (I.ok.hd hc) st p.isList (by simp;lia) λl eb=>⟨rfl,I.turned (t':=s.toks) (λb o g e=>eb b o g e) f0 f1 f3 f4 f5⟩
 self:=λZ Z Z Z Z st h=>wpAny_pyIter_listiter st h
def RE{P:C5}{w:World}{K:B0}{tg:Expr}(a it:Addr):Pp P w K tg (xD K a) [it] it (λi h=>h.IsTupleIter it a i)where
 mem:=by simp
 obj:=λi h st b g=>by
  have e:b=it:=by simpa using g
  subst e;obtain⟨o,e,c,d⟩:=st;exact⟨o,e,λv z=>by rw[d]at z;cases z⟩
 keep:=λi h m st k=>st.at λo e=>k it (by simp) o e
 item:=by
  intro X r t y hc i f s σ H E I n st O;subst r t y;obtain⟨xs,x,q,U⟩:=O;obtain⟨j,rv,p,hz⟩:=I.tuple q;obtain⟨u,hu,ru⟩:=rv.get U;obtain⟨f0,f1,f2,f3,f4,f5⟩:=n it (by simp)
  refine wpAny_pyNext_tuple_item st (show s.heap.IsTuple a j.toArray from p) (x:=u) (by simpa using hu) λm l sb=>?_
  have I1:Inv X f σ H {s with heap:=m}:=I.turned (t':=s.toks) (λb o g e=>(sb.2 b g).trans e) f0 f1 f3 f4 f5
  obtain⟨o,e,c,d⟩:=id l;exact⟨u,rfl,Nd (s:={s with heap:=m}) e c d (by decide) ⟨x,H,I1,ru,⟨rfl,λys hy=>by rw[I.fN hy q];exact U⟩,l,λb g=>(n b g).1⟩⟩
 done:=by
  intro X r t y hc i f s σ H E I n st O;subst r t y;obtain⟨xs,q,U⟩:=O;obtain⟨j,rv,p,hz⟩:=I.tuple q;obtain⟨f0,f1,f2,f3,f4,f5⟩:=n it (by simp)
  have hl:=rv.length;exact wpAny_pyNext_tuple_end (I.ok.hd hc) st (show s.heap.IsTuple a j.toArray from p) (by simp;lia) λm eb=>⟨rfl,I.turned (t':=s.toks) (λb o g e=>eb b o g e) f0 f1 f3 f4 f5⟩
 self:=λZ Z Z Z Z st h=>wpAny_pyIter_tupleiter st h
def Rs{P:C5}{w:World}{K:B0}{tg:Expr}(it:Addr)(lo:Int)(n:Nat):Pp P w K tg (Ct lo n) [it] it (λi h=>IsRangeIter h it (lo+(i:Nat)*1) ((n:Int)-(i:Nat)) 1)where
 mem:=by simp
 obj:=λi h st b c=>by
  have e:b=it:=by simpa using c
  subst e;exact⟨_,st,λv z=>by have z':Data.fields _=Data.cell v:=z;cases z'⟩
 keep:=λi h f st k=>k it (by simp) _ st
 item:=by
  intro X j l m p i a s U H E I g st q;subst j l m;obtain⟨r,u,f2,x,y,O⟩:=g it (by simp)
  have W:=Walks.range (prog:=X.prog) (w:=X.w) (I.ok.hd p) it lo 1 n;refine W.item i s _ _ q st λv f tk hv d kk=>?_
  obtain⟨t,rfl⟩:=hv;have I1:Inv X a U H {s with heap:=f,toks:=tk}:=I.turned (λb o c e=>kk b o (by simpa using c) e) r u x y O
  refine⟨_,rfl,Nd (s:={s with heap:=f,toks:=tk}) (n := "range_iterator") d rfl rfl (by decide) ⟨.int (lo+i),H,I1,⟨t,?_⟩,⟨rfl,rfl⟩,d,λb c=>(g b c).1⟩⟩
  rw[Int.mul_one]
 done:=by
  intro X j l m p i a s U H E I g st q;subst j l m;obtain⟨r,u,f2,x,y,O⟩:=g it (by simp)
  exact wpAny_pyNext_range_end (I.ok.hd p) st (by have:n<=i:=q;lia) λf eb=>⟨rfl,I.turned (t':=s.toks) (λb o c e=>eb b o c e) r u x y O⟩
 self:=λZ Z Z Z Z st h=>wpAny_pyIter_rangeiter st h
open PyProof.Rows
section
variable{X:Cx}{tg:Expr}
def EA(K:B0)(b:TE):TI:=λc H R=>b c H λx I=>∃a,x=.ref a/\(∃d,XI K I a d)/\R (AR K a) I
def zk(K:B0)(b:TE):TI:=λc H R=>b c H λx I=>∃a,x=.ref a/\(∃d,XO K I a d)/\R (xD K a) I
def Lo{l:Expr}{f:TE}(hl:PE X l f):PI X tg l (EA X.K f):=by
 intro c s g H R I h;refine YO (hl c s g H _ I h) λv d ⟨x,U,O,i,j⟩=>?_
 obtain⟨a,e,⟨r,k⟩,q⟩:=j;subst e;cases i;obtain⟨m,rv,p,t⟩:=O.list k;refine Ap p.isList ?_;refine⟨d.heap.objs.size,[d.heap.objs.size],_,_,U,rfl,O.kept (t':=d.toks) λb o e=>YH _ e,Pw a _,⟨_,YZ _ rfl,rfl,rfl⟩,λb n=>?_,q⟩
 have e:b=d.heap.objs.size:=by simpa using n
 subst e;exact O.h9 (YL _) (O.aI.fresh (YL _))
def HG{l:Expr}{g:TE}(hl:PE X l g):PI X tg l (zk X.K g):=by
 intro c s i H R I h;refine YO (hl c s i H _ I h) λv d ⟨x,U,O,j,k⟩=>?_
 obtain⟨a,e,⟨r,m⟩,q⟩:=k;subst e;cases j;obtain⟨f,rv,p,t⟩:=O.tuple m;refine wpAny_pyIter_tuple (show d.heap.IsTuple a f.toArray from p) ?_
 refine⟨d.heap.objs.size,[d.heap.objs.size],_,_,U,rfl,O.kept (t':=d.toks) λb o e=>YH _ e,RE a _,⟨_,YZ _ rfl,rfl,rfl⟩,λb n=>?_,q⟩
 have e:b=d.heap.objs.size:=by simpa using n
 subst e;exact O.h9 (YL _) (O.aI.fresh (YL _))
def Sl{c:A8}{R:It->Hp->Prop}{E:A3}{lo a:Int}{d:Nat}(I:Inv X c σ H s)(h1:-(2^62)<=lo)(h2:lo<2^62)(h3:-(2^62)<=a)(f:a<2^62)
  (q:R (Ct lo (a-lo).toNat) H):wpAny X.M X.A (pyIter (.ref s.z)) (xp X c σ tg R) E {s with heap:=s.heap.push {cls:=.type "range",data:=.fields #[.int lo t,.int a u,.int 1 v]},toks:=d}:=by
 refine wpAny_pyIter_range (IsRange.new ..) (small_one h1 h2 h3 f) ?_;have O:Inv X c σ H {s with heap:=s.heap.push {cls:=.type "range",data:=.fields #[.int lo t,.int a u,.int 1 v]},toks:=d}:=I.kept λb o e=>YH _ e
 refine⟨(s.heap.push {cls:=.type "range",data:=.fields #[.int lo t,.int a u,.int 1 v]}).objs.size,[(s.heap.push {cls:=.type "range",data:=.fields #[.int lo t,.int a u,.int 1 v]}).objs.size],_,_,H,rfl,
  O.kept (t':=d) λb o e=>YH _ e,Rs _ lo (a-lo).toNat,?_,λb g=>?_,q⟩
 ·have h:lo+((0:Nat):Int)*1=lo:=by simp
  have i:(((a-lo).toNat:Nat):Int)-((0:Nat):Int)=Builtin.Range.rangeSize lo a 1:=by rw[rangeSize_one];split<;>lia
  show IsRangeIter _ _ (lo+((0:Nat):Int)*1) ((((a-lo).toNat:Nat):Int)-((0:Nat):Int)) 1;rw[h,i];exact YZ _ rfl
 ·have e:b=(s.heap.push {cls:=.type "range",data:=.fields #[.int lo t,.int a u,.int 1 v]}).objs.size:=by simpa using g
  subst e;exact O.h9 (YL _) (O.aI.fresh (YL _))
def IZ(a:TA):TI:=λb H R=>a b H λc I=>∃j:Int,c=[.int j]/\-(2^62)<=j/\j<2^62/\R (Ct 0 j.toNat) I
def KA(a:TA):TI:=λb H R=>a b H λc I=>∃i j:Int,c=[.int i,.int j]/\(-(2^62)<=i/\i<2^62/\-(2^62)<=j/\j<2^62)/\R (Ct i (j-i).toNat) I
def Pm(hg:Gl X "range")(hm:X.mg "range"=none)(ha:PA X [a] ta)(hs:autoParam (starEach [a] X.env=[(false,eval a X.env)]) qAA):PI X tg (.Call (.Name "range" p) [a] [] pos) (IZ ta):=by
 intro aC s σ H R I h;refine Call_ (X2 I hg hm boot_range (ZR (YO (ha pos aC s σ H _ I h) λus s1 ⟨vs,H1,I1,r1,q1⟩=>?_) hs rfl))
 obtain⟨j,e,q1,q2,q⟩:=q1;subst e;cases r1 with
 |cons r rr=>cases rr;obtain⟨t,rfl⟩:=r;exact call_range_1 (Sl I1 (by lia) (by lia) q1 q2 (by simpa using q))
def OT(hg:Gl X "range")(hm:X.mg "range"=none)(ha:PA X [a,b] ta)(hs:autoParam (starEach [a,b] X.env=[(false,eval a X.env),(false,eval b X.env)]) qAA)(mx:autoParam (starEach [b] X.env=[(false,eval b X.env)]) qAA):
  PI X tg (.Call (.Name "range" p) [a,b] [] pos) (KA ta):=by
 intro aC s σ H R I h;refine Call_ (X2 I hg hm boot_range (ZR (YO (ha pos aC s σ H _ I h) λus s1 ⟨vs,H1,I1,r1,q1⟩=>?_) (by rw[hs,mx]) (by rw[mx];rfl)))
 obtain⟨i,j,e,⟨q1,q2,q3,q4⟩,q⟩:=q1;subst e;cases r1 with
 |cons r rr=>
   cases rr with
   |cons r' rr=>cases rr;obtain⟨t,rfl⟩:=r;obtain⟨t',rfl⟩:=r';exact call_range_2 (Sl I1 q1 q2 q3 q4 q)
def xL(e:TI)(g:TG)(tb:TS):TS:=λD a H=>e a H λJ O=>∃W:Nat->Nat->St->Hp->Prop,(∃m,W 0 m a O)/\∀i m a H,W i m a H->
 (J.stop i H/\D.nx a H)\/(J.go i H/\∃N:St->Hp->Prop,(∀b I,N b I->∃d,d<m/\W (i+1) d b I)/\∀x I,J.nc i H x I->g x a I λc U=>tb {D with nx:=N,ct:=N,bk:=D.nx} c U)
def VC(fp:B7)(h:Heap):A8:=fp.filterMap λb=>(h.get? b).map λo=>(b,o)
def W1(a:b∈fp)(e:h.get? b=some o):(b,o)∈VC fp h:=zo.mpr ⟨b,a,by rw[e];rfl⟩
def OS(a:p∈VC fp h):p.1∈fp/\h.get? p.1=some p.2:=by
 obtain⟨b,c,e⟩:=zo.mp a;cases q:h.get? b with
 |none=>rw[q]at e;cases e
 |some o=>rw[q]at e;have d:(b,o)=p:=Y4 e;subst d;exact⟨c,q⟩
def Inv.pinned(I:Inv X aC σ H s)(f:∀b∈fp,VE X aC H b)(ho:∀b∈fp,∃o,s.heap.get? b=some o/\∀v,o.data≠.cell v):Inv X (aC++VC fp s.heap) σ H s:=
 I.hG λp g=>(Zb.mp g).elim (λz=>I.pin p (ZC _ z)) λz=>by obtain⟨a,e⟩:=OS z;obtain⟨h,i,j,_⟩:=f p.1 a;obtain⟨o,c,d⟩:=ho p.1 a;rw[e]at c;cases c;exact⟨e,h,i,j,d⟩
def Inv.eD(I:Inv X (aC++pl) σ H s):Inv X aC σ H s:=I.hG λp a=>I.pin p (ZC _ (Z2 _ a))
def Is(t:PassesOwn X.M X.A X.env X.xe)(hc:X.calm=true)(hi:PI X tg iter wi)(hg:PG X tg g)(j:T1 X body tb)
  (hs:∀x,foldedSetIterable iter X.env x=pure x:=by intro _;rfl):PS X (.For tg iter body [] pos) (xL wi g tb):=by
 intro a s σ H D I h;refine wpAny_For (YO (hi a s σ H _ I h) λv s1 h1=>YO h1 λitv s2 h2=>?_) hs
 obtain⟨it,y,tn,J,H2,e,I2,T,st2,f2,W,⟨m0,w0⟩,z⟩:=h2;subst e
 -- what stays true of the iterator's objects through the loop
 have fP:∀{H':Hp},(∀b∈y,H' b=none)->∀b∈y,VE X a H' b:=λhn b j=>⟨hn b j,(f2 b j).2⟩
 refine codeAny_forLoop_any (λn s'=>∃i k H',Inv X a k H' s'/\tn i s'.heap/\(∀b∈y,H' b=none)/\W i n k H') ?_ m0 ⟨0,σ,H2,I2,st2,λb j=>(f2 b j).1,w0⟩
 rintro n s3 ⟨i,l,H3,I3,st3,fr3,w3⟩;rcases z i n l H3 w3 with⟨stop,qn⟩|⟨go,N,hN,step⟩
 ·refine Fu t (YO (T.done X rfl rfl rfl hc i a s3 l H3 X.xe I3 (fP fr3) st3 stop) λr s4 ⟨hr,I4⟩=>?_)
  subst hr;exact AK ⟨l,H3,I4,qn⟩
 ·refine Fu t (YO (T.item X rfl rfl rfl hc i a s3 l H3 X.xe I3 (fP fr3) st3 go) λr s4 ⟨u,hr,h4⟩=>?_)
  subst hr;refine Fu t (YO h4 λ_ s5 ⟨x,H5,I5,r5,y5,q,fr5⟩=>?_)
  have I5':=I5.pinned (fP fr5) (T.obj _ _ q);refine Fu t (YO (hg _ s5 l H5 x u _ I5' r5 (step x H5 y5)) λ_ s6 ⟨σ6,H6,I6,q6⟩=>?_)
  refine Fu t (YO (j _ s6 σ6 H6 _ I6 q6) λf s7 p=>?_)
  have again:∀{c:St}{O:Hp},Inv X (a++VC y s5.heap) c O s7->N c O->∃m,m<n/\∃i k H',Inv X a k H' s7/\tn i s7.heap/\(∀b∈y,H' b=none)/\W i m k H':=λ{c O} U n7=>by
   obtain⟨m',hm,w7⟩:=hN c O n7;refine⟨m',hm,i+1,c,O,U.eD,T.keep _ _ _ q λb j o e=>(U.pin (b,o) (ZC _ (ZC _ (W1 j e)))).1,λb j=>?_,w7⟩
   obtain⟨o,e,d⟩:=T.obj _ _ q b j;exact(U.pin (b,o) (ZC _ (ZC _ (W1 j e)))).2.1
  cases f with
  |next=>obtain⟨c,O,U,n7⟩:=p;exact again U n7
  |cont=>obtain⟨c,O,U,n7⟩:=p;exact again U n7
  |brk=>obtain⟨c,O,U,p⟩:=p;exact⟨c,O,U.eD,p⟩
  |ret v=>obtain⟨x7,c,O,U,r7,p⟩:=p;exact⟨x7,c,O,U.eD,r7,p⟩
end
open PyProof.Rows
abbrev R2:=V->V->Hp->VK->Prop
def XV(X:Cx)(f:Value->Value->Sem Value)(r:R2):Prop:=
 ∀(a:A8) (s:Shared) (b:St) (H:Hp) (x y:V) (v u:Value) (Q:VK),Inv X a b H s->RelV x v->RelV y u->r x y H Q->
   wpAny X.M X.A (f v u) (EP X a b Q) X.xe s
def y4(X:Cx)(f:Value->Sem Value)(r:V->Hp->VK->Prop):Prop:=
 ∀(a:A8) (s:Shared) (b:St) (H:Hp) (x:V) (v:Value) (Q:VK),Inv X a b H s->RelV x v->r x H Q->
   wpAny X.M X.A (f v) (EP X a b Q) X.xe s
def YN(X:Cx)(f:Value)(r:List V->Hp->VK->Prop):Prop:=
 ∀(a:A8) (s:Shared) (b:St) (H:Hp) (c:List V) (d:B5) (Q:VK),Inv X a b H s->ZN c d->r c H Q->
   wpAny X.M X.A (call f d) (EP X a b Q) X.xe s
def x8(X:Cx)(r:V->Hp->(Bool->Hp->Prop)->Prop):Prop:=
 ∀(a:A8) (s:Shared) (b:St) (H:Hp) (x:V) (v:Value) (Q:Bool->Hp->Prop),Inv X a b H s->RelV x v->r x H Q->
   wpAny X.M X.A (truthy v) (TP X a b Q) X.xe s
def Dx(r:R2)(b tb:TE):TE:=λa H Q=>b a H λx I=>tb a I λy O=>r x y O Q
def sv(r:V->Hp->VK->Prop)(a:TE):TE:=λb H Q=>a b H λx I=>r x I Q
def rI(C:Int->Int->Prop)(g:Int->Int->V):R2:=λx y H Q=>∃i j,x=.int i/\y=.int j/\C i j/\Q (g i j) H
def NH(g:Int->Int->V):R2:=λx y H Q=>∃i j,x=.int i/\y=.int j/\Q (g i j) H
def rU(g:Int->V):V->Hp->VK->Prop:=λx H Q=>∃i,x=.int i/\Q (g i) H
section
variable{X:Cx}{a b c:Expr}{ta tb tc:TE}{pos:Pos}
def HZ(j:PE X a ta)(k:PE X b tb){d:A8}{R:V->V->Hp->Prop}(I:Inv X d σ H s)
  (h:ta σ H λx U=>tb σ U λy O=>R x y O) {Q:A3}{f:Value->Value->Sem Value}
  (l:∀v u i x y O,Inv X d σ O i->RelV x v->RelV y u->R x y O->wpAny X.M X.A (f v u) Q X.xe i) :
  wpAny X.M X.A (eval a X.env) (λv e=>wpAny X.M X.A (eval b X.env) (λu g=>wpAny X.M X.A (f v u) Q X.xe g) X.xe e) X.xe s:=by
 refine YO (j d s σ H _ I h) λv m ⟨x,U,n,o,p⟩=>?_
 refine YO (k d m σ U _ n p) λu i ⟨y,O,q,r,t⟩=>?_
 exact l v u i x y O q o r t
def Co(ho:XV X (binaryOp op) r)(e:PE X a ta)(f:PE X b tb):PE X (.BinOp a op b pos) (Dx r ta tb):=by intro d s g H Q I h;exact wpAny_BinOp (HZ e f I h λv u i x y O U j k q=>ho d i g O x y v u Q U j k q)
def DF(ho:y4 X (unaryOp op) r)(f:PE X a ta):PE X (.UnaryOp op a pos) (sv r ta):=by intro d s e H Q I h;exact UnaryOp_ (YO (f d s e H _ I h) λv g ⟨x,O,U,i,j⟩=>ho d g e O x v Q U i j)
def AN{f:Value->Value->Sem Value}{C:Int->Int->Prop}{g:Int->Int->Int}
  (rule:∀(i j:Int) (t u:Tok) (s:Shared) (Q:A3) (E:A3),C i j->Q (.int (g i j) s.toks) {s with toks:=s.toks+1}->wpAny X.M X.A (f (.int i t) (.int j u)) Q E s) :
  XV X f (rI C λi j=>.int (g i j)):=by
 intro d s n H x y v u Q I e k h;obtain⟨i,j,rfl,rfl,l,q⟩:=h;obtain⟨t,rfl⟩:=e;obtain⟨m,rfl⟩:=k;exact rule i j t m s _ _ l ⟨.int (g i j),H,I.tok _,⟨_,rfl⟩,q⟩
def ID{f:Value->Value->Sem Value}{g:Int->Int->Int}
  (rule:∀(i j:Int) (t u:Tok) (s:Shared) (Q:A3) (E:A3),Q (.int (g i j) s.toks) {s with toks:=s.toks+1}->wpAny X.M X.A (f (.int i t) (.int j u)) Q E s) :
  XV X f (NH λi j=>.int (g i j)):=by
 intro d s m H x y v u Q I e k h;obtain⟨i,j,rfl,rfl,q⟩:=h;obtain⟨t,rfl⟩:=e;obtain⟨l,rfl⟩:=k;exact rule i j t l s _ _ ⟨.int (g i j),H,I.tok _,⟨_,rfl⟩,q⟩
def Lu{f:Value->Value->Sem Value}{g:Int->Int->Bool}
  (rule:∀(i j:Int) (t u:Tok) (s:Shared) (Q:A3) (E:A3),Q (.bool (g i j)) s->wpAny X.M X.A (f (.int i t) (.int j u)) Q E s) :
  XV X f (NH λi j=>.bl (g i j)):=by
 intro d s m H x y v u Q I e k h;obtain⟨i,j,rfl,rfl,q⟩:=h;obtain⟨t,rfl⟩:=e;obtain⟨l,rfl⟩:=k;exact rule i j t l s _ _ ⟨.bl (g i j),H,I,rfl,q⟩
def zd(i j:Int):Prop:=0<=j/\j<=1000000/\i.natAbs<2^64
def GI:XV X (binaryOp .Add) (NH λi j=>.int (i+j)):=ID λz z z z z z z q=>add_int q
def IT:XV X (binaryOp .Sub) (NH λi j=>.int (i-j)):=ID λz z z z z z z q=>sub_int q
def Ix:XV X (binaryOp .Mod) (rI (λz j=>0<j) λi j=>.int (i%j)):=AN λi j z z z z z d q=>by have e:(0:Int)<j:=d;exact mod_int' (by lia) (by rw[Int.fmod_eq_emod_of_nonneg i (by lia)];exact q)
def Ic:XV X (binaryOp .Pow) (rI zd λi j=>.int (i^j.toNat)):=AN λz z z z z z z d q=>pow_int_small d.1 d.2.1 d.2.2 q
def L4:XV X (inplaceOp .Add) (NH λi j=>.int (i+j)):=ID λz z z z z z z q=>iadd_int q
def sx{f:Value->Sem Value}{g:Int->Int}
  (rule:∀(i:Int) (t:Tok) (s:Shared) (Q:A3) (E:A3),Q (.int (g i) s.toks) {s with toks:=s.toks+1}->wpAny X.M X.A (f (.int i t)) Q E s) :
  y4 X f (rU λi=>.int (g i)):=by
 intro d s j H x v Q I e h;obtain⟨i,rfl,q⟩:=h;obtain⟨t,rfl⟩:=e;exact rule i t s _ _ ⟨.int (g i),H,I.tok _,⟨_,rfl⟩,q⟩
def HV:y4 X (unaryOp .USub) (rU λi=>.int (-i)):=sx λz z z z z q=>neg_int q
end
def GV:V->V->Bool
 |.aT,.aT=>true | .aT,.int _=>true | .int _,.aT=>true | .aT,.bl _=>true | .bl _,.aT=>true | .aT,.str _=>true | .str _,.aT=>true
 |.int _,.int _=>true | .bl _,.bl _=>true | .str _,.str _=>true | .hE _,.hE _=>true
 |.int _,.str _=>true | .str _,.int _=>true | .bl _,.str _=>true | .str _,.bl _=>true
 |_,_=>false
def sA:R2:=λx y H Q=>GV x y=true/\Q (.bl (decide (x=y))) H
def sC:R2:=λx y H Q=>GV x y=true/\Q (.bl (!decide (x=y))) H
def PY:decide (V.int i=V.int j)=(i==j):=by rw[Zf];simp
def MZ:decide (V.bl i=V.bl j)=(i==j):=by rw[Zf];simp
def P6:decide (V.str i=V.str j)=(i==j):=by rw[Zf];simp
def P1:decide (V.hE i=V.hE j)=(i.toList==j.toList):=by rw[Zf];cases i;cases j;simp
section
variable{X:Cx}{a b c:Expr}{ta tb tc:TE}{pos:Pos}
def Zp(I:Inv X aC σ H s)(q:Q (.bl k) H)(e:k=k'):EP X aC σ Q (.bool k') s:=by subst e;exact⟨.bl k,H,I,rfl,q⟩
def CI:XV X (compareOp .Eq) sA:=by
 intro aC s σ H x y v u Q I rx ry h;obtain⟨hs,q⟩:=h;cases x with
 |aT=>
   cases rx;cases y with
   |aT=>cases ry;exact PySem.EqNone.eq_none_none (Zp I q (by simp))
   |bl j=>cases ry;exact PySem.EqNone.eq_none_bool (Zp I q (by simp))
   |int j=>obtain⟨t',rfl⟩:=ry;exact PySem.EqNone.eq_none_int (Zp I q (by simp))
   |str j=>obtain⟨t',rfl⟩:=ry;exact PySem.EqNone.eq_none_str (Zp I q (by simp))
   |_=>exact absurd (show false=true from hs) Zc
 |bl i=>
   cases rx;cases y with
   |aT=>cases ry;exact PySem.EqNone.eq_bool_none (Zp I q (by simp))
   |bl j=>cases ry;exact eq_bool (Zp I q MZ)
   |str j=>obtain⟨t',rfl⟩:=ry;exact PySem.EqMixed.eq_bool_str (Zp I q (by simp))
   |_=>exact absurd (show false=true from hs) Zc
 |int i=>
   obtain⟨t,rfl⟩:=rx;cases y with
   |aT=>cases ry;exact PySem.EqNone.eq_int_none (Zp I q (by simp))
   |int j=>obtain⟨t',rfl⟩:=ry;exact eq_int (Zp I q PY)
   |str j=>obtain⟨t',rfl⟩:=ry;exact PySem.EqMixed.eq_int_str (Zp I q (by simp))
   |_=>exact absurd (show false=true from hs) Zc
 |str i=>
   obtain⟨t,rfl⟩:=rx;cases y with
   |aT=>cases ry;exact PySem.EqNone.eq_str_none (Zp I q (by simp))
   |bl j=>cases ry;exact PySem.EqMixed.eq_str_bool (Zp I q (by simp))
   |int j=>obtain⟨t',rfl⟩:=ry;exact PySem.EqMixed.eq_str_int (Zp I q (by simp))
   |str j=>obtain⟨t',rfl⟩:=ry;exact eq_str (Zp I q P6)
   |_=>exact absurd (show false=true from hs) Zc
 |hE i=>
   obtain⟨t,rfl⟩:=rx;cases y with
   |hE j=>obtain⟨t',rfl⟩:=ry;exact W.eq_bytes (Zp I q P1)
   |_=>exact absurd (show false=true from hs) Zc
 |_=>cases y<;>exact absurd (show false=true from hs) Zc
def EG:XV X (compareOp .NotEq) sC:=by
 intro aC s σ H x y v u Q I rx ry h;obtain⟨hs,q⟩:=h;cases x with
 |aT=>
   cases rx;cases y with
   |aT=>cases ry;exact PySem.EqNone.ne_none_none (Zp I q (by simp))
   |bl j=>cases ry;exact PySem.EqNone.ne_none_bool (Zp I q (by simp))
   |int j=>obtain⟨t',rfl⟩:=ry;exact PySem.EqNone.ne_none_int (Zp I q (by simp))
   |str j=>obtain⟨t',rfl⟩:=ry;exact PySem.EqNone.ne_none_str (Zp I q (by simp))
   |_=>exact absurd (show false=true from hs) Zc
 |bl i=>
   cases rx;cases y with
   |aT=>cases ry;exact PySem.EqNone.ne_bool_none (Zp I q (by simp))
   |bl j=>cases ry;exact ne_bool (Zp I q (congrArg not MZ))
   |str j=>obtain⟨t',rfl⟩:=ry;exact PySem.EqMixed.ne_bool_str (Zp I q (by simp))
   |_=>exact absurd (show false=true from hs) Zc
 |int i=>
   obtain⟨t,rfl⟩:=rx;cases y with
   |aT=>cases ry;exact PySem.EqNone.ne_int_none (Zp I q (by simp))
   |int j=>obtain⟨t',rfl⟩:=ry;exact ne_int (Zp I q (congrArg not PY))
   |str j=>obtain⟨t',rfl⟩:=ry;exact PySem.EqMixed.ne_int_str (Zp I q (by simp))
   |_=>exact absurd (show false=true from hs) Zc
 |str i=>
   obtain⟨t,rfl⟩:=rx;cases y with
   |aT=>cases ry;exact PySem.EqNone.ne_str_none (Zp I q (by simp))
   |bl j=>cases ry;exact PySem.EqMixed.ne_str_bool (Zp I q (by simp))
   |int j=>obtain⟨t',rfl⟩:=ry;exact PySem.EqMixed.ne_str_int (Zp I q (by simp))
   |str j=>obtain⟨t',rfl⟩:=ry;exact ne_str (Zp I q (congrArg not P6))
   |_=>exact absurd (show false=true from hs) Zc
 |hE i=>
   obtain⟨t,rfl⟩:=rx;cases y with
   |hE j=>obtain⟨t',rfl⟩:=ry;exact W.ne_bytes (Zp I q (congrArg not P1))
   |_=>exact absurd (show false=true from hs) Zc
 |_=>cases y<;>exact absurd (show false=true from hs) Zc
def CF:XV X (compareOp .Lt) (NH λi j=>.bl (decide (i<j))):=Lu λz z z z z z z q=>lt_int q
def EO:XV X (compareOp .LtE) (NH λi j=>.bl (decide (i<=j))):=Lu λz z z z z z z q=>le_int q
def BS:XV X (compareOp .Gt) (NH λi j=>.bl (decide (j<i))):=Lu λz z z z z z z q=>gt_int q
def EC:XV X (compareOp .GtE) (NH λi j=>.bl (decide (j<=i))):=Lu λz z z z z z z q=>ge_int q
def XV.or(h:XV X f r)(h':XV X f r'):XV X f (λx y H Q=>r x y H Q\/r' x y H Q):=by
 intro d s e H x y v u Q I g i q;rcases q with q|q
 ·exact h d s e H x y v u Q I g i q
 ·exact h' d s e H x y v u Q I g i q
def MR(b:Expr)(h:autoParam (op≠.In) qAB)(h2:autoParam (op≠.NotIn) qAB):behindInMarks op b=false:=by
 have d:(op==CmpOp.In)=false:=by cases op<;>first|rfl|exact absurd rfl h
 have e:(op==CmpOp.NotIn)=false:=by cases op<;>first|rfl|exact absurd rfl h2
 cases b<;>simp[behindInMarks,d,e]
def KO(ho:XV X (compareOp op) r)(e:PE X a ta)(f:PE X b tb)(g:behindInMarks op b=false):PE X (.Compare a [op] [b] pos) (Dx r ta tb):=by intro d s i H Q I h;exact wpAny_Compare1 (HZ e f I h λv u j x y O U k l q=>ho d j i O x y v u Q U k l q) g
def NV(t:TE):TT:=λd H Q=>t d H λx I=>∃k,x=.bl k/\Q k I
def LY(ho:XV X (compareOp op) r)(g:PE X a ta)(i:PE X b tb)(j:behindInMarks op b=false):PT X (.Compare a [op] [b] pos) (NV (Dx r ta tb)):=by
 intro d s f H Q I h;refine wpAny_isTrue_Compare1 (YO (g d s f H _ I h) λv l ⟨x,O,U,m,n⟩=>YO (i d l f O _ U n) λu o ⟨y,p,q,t,w⟩=>
  YO (ho d o f p x y v u _ q m t w) λc s3 ⟨z,H3,I3,r3,k,e,q3⟩=>?_) j
 subst e;cases r3;exact JJ ⟨H3,I3,q3⟩
def QO(r e:R2)(ta tb tc:TE):TE:=λd H Q=>ta d H λx O=>tb d O λy U=>r x y U λz I=>∃k,z=.bl k /\
 (if k=true then tc d I λf g=>e y f g Q else Q (.bl false) I)
def Of(ho:XV X (compareOp op) r)(i:XV X (compareOp op') r')(m:PE X a ta)(n:PE X b tb)(hc:PE X c tc)
  (o:lastMarks [op,op'] [b,c]=false:=by with_unfolding_all rfl):PE X (.Compare a [op,op'] [b,c] pos) (QO r r' ta tb tc):=by
 intro f s g H Q I h;refine Compare_chain (YO (m f s g H _ I h) λv p ⟨x,q,t,w,q1⟩=>chain_link (YO (n f p g q _ t q1) λu s2 ⟨y,H2,I2,j,q2⟩=>
  YO (ho f s2 g H2 x y v u _ I2 w j q2) λd s3 ⟨z,O,U,r3,k,e,l⟩=>?_)) o
 subst e;cases r3;refine JJ ?_;cases k with
 |false=>exact ite_ff ⟨.bl false,O,U,rfl,l⟩
 |true=>exact ite_tt (chain_last (YO (hc f s3 g O _ U l) λw' s4 ⟨z',H4,I4,r4,q4⟩=>i f s4 g H4 y z' u w' Q I4 j r4 q4))
def OC(ho:XV X (compareOp op) r)(i:XV X (compareOp op') r')(m:PE X a ta)(n:PE X b tb)(hc:PE X c tc)
  (o:lastMarks [op,op'] [b,c]=false:=by with_unfolding_all rfl):PT X (.Compare a [op,op'] [b,c] pos) (NV (QO r r' ta tb tc)):=by
 intro f s g H Q I h;refine isTrue_chain (YO (m f s g H _ I h) λv p ⟨x,q,t,w,q1⟩=>test_link (YO (n f p g q _ t q1) λu s2 ⟨y,H2,I2,j,q2⟩=>
  YO (ho f s2 g H2 x y v u _ I2 w j q2) λd s3 ⟨z,O,U,r3,k,e,l⟩=>?_)) o
 subst e;cases r3;refine JJ ?_;cases k with
 |false=>obtain⟨k',e',q'⟩:=l;cases e';exact ite_ff ⟨O,U,q'⟩
 |true=>
   refine ite_tt (test_last (YO (hc f s3 g O _ U l) λw' s4 ⟨z',H4,I4,r4,q4⟩=>YO (i f s4 g H4 y z' u w' _ I4 j r4 q4) λd' s5 ⟨z2,H5,I5,r5,k2,e2,q5⟩=>?_))
   subst e2;cases r5;exact JJ ⟨H5,I5,q5⟩
def IG(K:B0)(x:V)(H:Hp)(k:Bool):Prop:=
 match x with
 |.aT=>k=false
 |.bl b=>k=b
 |.int i=>k=(i != 0)
 |.str y=>y.length<=sizeLine/\k=((y.length:Int) != 0)
 |.hE y=>y.size<=sizeLine/\k=((y.size:Int) != 0)
 |.ref p=>(∃xs,XI K H p xs/\k=!xs.isEmpty)\/(∃xs,XO K H p xs/\k=!xs.isEmpty)\/∃kvs,H p=some (.dK kvs)/\k=!kvs.isEmpty
 |_=>False
def RU(r:KV kvs vs):(!vs.isEmpty)=!kvs.isEmpty:=by cases r<;>rfl
def Uf(r:ZN xs aE):(!aE.toArray.isEmpty)=!xs.isEmpty:=by cases r<;>simp
def VY:(sizeLine:Nat)<2^63:=by rw[MX];decide
def IU:x8 X (λx H Q=>∃k,IG X.K x H k/\Q k H):=by
 intro aC s σ H x v Q I rx h;obtain⟨k,e,q⟩:=h;have hl:=VY;have hs:sizeLine=16777216:=MX;cases x with
 |aT=>cases rx;have e':k=false:=e;subst e';exact truthy_none ⟨H,I,q⟩
 |bl b=>cases rx;have e':k=b:=e;subst e';exact JJ ⟨H,I,q⟩
 |int i=>obtain⟨t,rfl⟩:=rx;have e':k=(i != 0):=e;subst e';exact PySem.P.truthy_int ⟨H,I,q⟩
 |str y=>obtain⟨t,rfl⟩:=rx;obtain⟨hy,e'⟩:y.length<=sizeLine/\k=((y.length:Int) != 0):=e;subst e';exact PySem.P.truthy_str (by lia) ⟨H,I.tok _,q⟩
 |hE y=>obtain⟨t,rfl⟩:=rx;obtain⟨hy,e'⟩:y.size<=sizeLine/\k=((y.size:Int) != 0):=e;subst e';exact W.truthy_bytes (by lia) ⟨H,I.tok _,q⟩
 |ref p=>
   cases rx;have e':(∃xs,XI X.K H p xs/\k=!xs.isEmpty)\/(∃xs,XO X.K H p xs/\k=!xs.isEmpty)\/∃kvs,H p=some (.dK kvs)/\k=!kvs.isEmpty:=e;rcases e' with⟨xs,hx,e'⟩|⟨xs,hx,e'⟩|⟨kvs,hx,e'⟩
   ·subst e';obtain⟨aE,r,pl,hz⟩:=I.list hx;have hlen:=r.length;exact wpAny_truthy_list pl.isList (by simp only[List.size_toArray];lia) ⟨H,I.tok _,by rw[Uf r];exact q⟩
   ·subst e';obtain⟨aE,r,pl,hz⟩:=I.tuple hx;have hlen:=r.length;exact truthy_tuple pl (by simp only[List.size_toArray];lia) ⟨H,I.tok _,by rw[Uf r];exact q⟩
   ·subst e';obtain⟨hz,hS,vs,r,m⟩:kvs.length<=sizeLine/\(p==sysModules)=false/\∃vs,KV kvs vs/\s.heap.DictOf (YV X.prog X.w) p vs:=I.aI p _ hx;have hlen:kvs.length=vs.length:=DZ r;exact wpAny_truthy_dict hS m (by lia) ⟨H,I.tok _,by rw[RU r];exact q⟩
 |_=>exact(show False from e).elim
def ND(g:PE X a ta)(i:∀d,isTrue a X.env d=(do let v <-d;standAt a.pos;holding [v] (truthy v))):
  PT X a (λf H Q=>ta f H λx O=>∃k,IG X.K x O k/\Q k O):=by
 intro e s f H Q I h;exact isTrue_plain (YO (g e s f H _ I h) λv j ⟨x,U,l,m,n⟩=>IU e j f U x v Q l m n) (i _)
def RF:XV X (binaryOp .Add) (λx y H Q=>∃i j,x=.str i/\y=.str j/\i.length+j.length<=sizeLine/\Q (.str (i++j)) H):=by intro d s l H x y v u Q I e f h;obtain⟨i,j,rfl,rfl,g,q⟩:=h;obtain⟨t,rfl⟩:=e;obtain⟨k,rfl⟩:=f;exact add_str (λk m=>⟨.str (i++j),H,I.tok _,⟨_,rfl⟩,q⟩) g
def vals1(r:ZN [x] us):∃u,us=[u]/\RelV x u:=by
 cases r with
 |cons r1 r2=>cases r2;exact⟨_,rfl,r1⟩
def vals2(r:ZN [x,y] us):∃u w',us=[u,w']/\RelV x u/\RelV y w':=by
 cases r with
 |cons r1 r2=>
   cases r2 with
   |cons r3 r4=>cases r4;exact⟨_,_,rfl,r1,r3⟩
def OL(hc:X.calm=true):YN X (.builtin "max") (λxs H Q=>∃i j,xs=[.int i,.int j]/\Q (.int (if j>i then j else i)) H):=by
 intro d s e H xs f Q I r h;obtain⟨i,j,rfl,q⟩:=h;obtain⟨u,g,rfl,⟨t,rfl⟩,⟨l,rfl⟩⟩:=vals2 r;refine max_two_ints (I.ok.hd hc) λm n k=>⟨_,H,I.kept k,?_,q⟩
 by_cases hj:j>i
 ·rw[YK hj,YK hj];exact⟨_,rfl⟩
 ·rw[YQ hj,YQ hj];exact⟨_,rfl⟩
end
open PyProof.Rows
structure OW(h:Heap)(x dx C:Addr)(mA:A4):Prop where
 obj:h.get? x=some (W.instObj C dx)
 ns:h.Ns1 dx mA
 ne:dx≠x
set_option tactic.hygienic true in
def ON{h:Heap}{c:Addr}{d:A4}(n:h.Ns1 c d):∃od,h.get? c=some od/\∀name,W.lookIn name od=some (d name):=by
 obtain⟨o,f,p,g,i,j,_,k⟩:=n;refine⟨o,g,λname=>?_⟩
 have e:=k name;unfold nsFind findBy at e;rw[<-Array.find?_toList]at e;unfold W.lookIn;rw[i];dsimp only;split
 ·rename_i y q;rw[q]at e;exact congrArg some e
 ·rename_i q;rw[q]at e;have a:f.toList.any (·.refKey)=false:=by rw[List.any_eq_false];intro y l;obtain⟨z,t,b⟩:=j y (Array.mem_toList_iff.mp l);simp[DictEntry.refKey,b]
  have m:¬f.toList.any (·.refKey)=true:=by rw[a];exact Zc
  rw[YQ m];exact congrArg some e
def OW.look(I:OW h x dx C mA):∃od,W.InstAt h x (W.instObj C dx) C (some od)/\∀name,W.lookIn name od=some (mA name):=
 let⟨od,ho,hl⟩:=ON I.ns
 ⟨od,⟨I.obj,rfl,rfl,ho⟩,hl⟩
section
variable{prog:C5}{w:World}{A:Around}{E:A3}{s:Shared}{K:B0}{x dx C f:Addr}{mA:A4}{name:Str}{v:Value}
def LJ(X:K.In s.heap)(I:OW s.heap x dx C mA)(b:W.plainGet K C name=true)(c:W.hasDictIn K C=true)
  (d:W.findIn K (.ref C) name=some none) (e:mA name=some v) (a:W.handedIn v=true) (h:Q v {s with toks:=s.toks+1}) :
  wq prog w A (getAttr (.ref x) name expr) Q E s:=by
 obtain⟨i,J,g⟩:=I.look;exact W.get_value X J (W.plainGet_of b).1 (W.findObj_own c d rfl (by rw[g,e])) a h
def KS(X:K.In s.heap)(I:OW s.heap x dx C mA)
  (hs:W.findIn K (.ref C) "__setattr__"=some (some (.builtin "object.__setattr__"))) (k:W.plainOver K C=true) (ht:W.takerIn K C name=some none) (l:W.hasDictIn K C=true)
  (hw:PySem.Within mA ns) (hsz:ns.length<=sizeLine)
  (h:∀h',OW h' x dx C (λy=>if y=name then some v else mA y)->Heap.SameBut dx s.heap h'->Q () {s with heap:=h',toks:=s.toks+2}) :
  wq prog w A (setAttr (.ref x) name v) Q E s:=by
 obtain⟨q,J,t⟩:=I.look;refine W.set_plain X J hs (W.osa_open (s:={s with toks:=s.toks+1}) (r:=none) X J k ht λb=>?_)
 obtain⟨u,m,e⟩:=W.any_some l;have n:s.heap.get? x=some ⟨.ref C,some dx,.plain,#[]⟩:=I.obj;refine YF (YG (YF (YF (wpAny_loadPart n (YF (W.Looks.here (s:={s with toks:=s.toks+1}) (W.looks_clsIn X m) ?_))))))
 rw[e];refine YG (a:=some dx) (YF (YG (YF ?_)));refine wpAny_nsSet1 (s:={s with toks:=s.toks+1}) I.ns λh' c d=>?_
 obtain⟨z,o,p,g,i,j⟩:=c.count (PySem.Within.cons name v hw);refine YF (wpAny_lookBehind g (by rw[i];exact pastItsLine_dict (Zx j (by rw[Z7];lia))) ?_)
 exact YG (h _ ⟨(d.2 _ (Ne.symm I.ne)).trans I.obj,c,I.ne⟩ d)
def NE(X:K.In s.heap)(b:W.makesIn K C=true)
  (c:W.findIn K (.ref C) "__init__"=some (some (.ref f))) (e:W.typeIn K (.ref f)=some (.type "function"))
  (h:codeAny (model prog w) (A.under (.builtin "type.__call__" ⟨.ref C::vs,kw⟩)) (.call (.ref f) ⟨.ref (s.z+1)::vs,kw⟩) (W.InitBack (s.z+1) R)
    {s with heap:=(s.heap.push W.emptyDict).push (W.instObj C s.z)}) :
  codeAny (model prog w) A (.call (.ref C) ⟨vs,kw⟩) R s:=by
 obtain⟨i,g,d,t,os⟩:=s;exact W.make_core (W.makes_of X b) (EQ X c) (λa=>W.bind_fn X a e) (.inl rfl) h
end
noncomputable def Xs(f:Str)(v:V):List (Str×V)->List (Str×V)
 |[]=>[(f,v)]
 |(g,x)::r=>if g=f then(g,v)::r else(g,x)::Xs f v r
theorem UP(f g:Str)(v:V):∀fs:List (Str×V),(Xs f v fs).lookup g=if g=f then some v else fs.lookup g
 |[]=>by
   show List.lookup g [(f,v)]=_;by_cases h:g=f
   ·have a:(g==f)=true:=JU.mpr h;simp only[List.lookup,a,if_pos h]
   ·have a:(g==f)=false:=BG.mpr h;simp only[List.lookup,a,if_neg h]
 |(k,x)::r=>by
   have b:=UP f g v r;rw[show Xs f v ((k,x)::r)=(if k=f then(k,v)::r else(k,x)::Xs f v r)from rfl]
   by_cases hk:k=f
   ·rw[YK hk];by_cases h:g=k
    ·have a:(g==k)=true:=JU.mpr h;simp only[List.lookup,a,if_pos (h.trans hk)]
    ·have a:(g==k)=false:=BG.mpr h;simp only[List.lookup,a,if_neg (λe:g=f=>h (e.trans hk.symm))]
   ·rw[YQ hk];by_cases h:g=k
    ·have a:(g==k)=true:=JU.mpr h;simp only[List.lookup,a,if_neg (λe:g=f=>hk (h.symm.trans e))]
    ·have a:(g==k)=false:=BG.mpr h;simp only[List.lookup,a];exact b
theorem VA(f:Str)(v:V):∀fs:List (Str×V),f∈(Xs f v fs).map (·.1)/\∀g,g∈fs.map (·.1)->g∈(Xs f v fs).map (·.1)
 |[]=>⟨by simp[Xs],λg h=>by simp at h⟩
 |(k,x)::r=>by
   obtain⟨a,b⟩:=VA f v r;rw[show Xs f v ((k,x)::r)=(if k=f then(k,v)::r else(k,x)::Xs f v r)from rfl]
   by_cases hk:k=f
   ·rw[YK hk];subst hk;exact⟨by simp,λg h=>by simpa using h⟩
   ·rw[YQ hk];refine⟨?_,λg h=>?_⟩
    ·rw[Zj];exact Zq _ a
    ·rw[Zj]at h ⊢
     rcases Y5.mp h with e|e
     ·exact Y5.mpr (.inl e)
     ·exact Zq _ (b g e)
theorem US(f:Str)(v:V):∀fs:List (Str×V),(Xs f v fs).length<=fs.length+1
 |[]=>by simp[Xs]
 |(k,x)::r=>by
   have a:=US f v r;rw[show Xs f v ((k,x)::r)=(if k=f then(k,v)::r else(k,x)::Xs f v r)from rfl]
   by_cases hk:k=f
   ·rw[YK hk,Z7,Z7];lia
   ·rw[YQ hk,Z7,Z7];lia
def UY.some_of(r:UY (some v) o):∃u,o=some u/\RelV v u:=by
 cases o with
 |none=>exact(show False from r).elim
 |some u=>exact⟨u,rfl,r⟩
def OU(r:RelV v u):W.handedIn u=true:=by
 cases v with
 |aT=>cases(show u=Value.none from r);rfl
 |bl b=>cases(show u=Value.bool b from r);rfl
 |int i=>obtain⟨t,e⟩:=(show∃t,u=Value.int i t from r);cases e;rfl
 |str x=>obtain⟨t,e⟩:=(show∃t,u=Value.str x t from r);cases e;rfl
 |hE b=>obtain⟨t,e⟩:=(show∃t,u=Value.bytes b t from r);cases e;rfl
 |jI b=>obtain⟨t,e⟩:=(show∃t,u=Value.float b t from r);cases e;rfl
 |ref a=>cases(show u=Value.ref a from r);rfl
 |ty n=>cases(show u=Value.type n from r);rfl
section
variable{P:C5}{w:World}{H H':Hp}{h h':Heap}{a C dx:Addr}{fs sh:List (Str×V)}
def XU(c:WV P w H h)(e:H a=some (.ins C dx fs)):∃b,OW h a dx C b/\(∀f,UY (fs.lookup f) (b f))/\PySem.Within b (fs.map (·.1))/\fs.length<=1000/\H dx=some (.own a):=by
 obtain⟨d,z,g,i,b,n,r,q⟩:=(show Y3 P w H h a (.ins C dx fs)from c a _ e)
 exact⟨b,⟨i,n,g⟩,r,q,z,d⟩
end
structure Se(K:B0)(C:Addr):Prop where
 pg:W.plainGet K C Str.empty=true
 hd:W.hasDictIn K C=true
 po:W.plainOver K C=true
 sa:W.findIn K (.ref C) "__setattr__"=some (some (.builtin "object.__setattr__"))
def Se.get{K:B0}{C:Addr}(c:Se K C)(f:Str):W.plainGet K C f=true:=c.pg
def WH(K:B0)(C:Addr)(f:Str):Prop:=W.findIn K (.ref C) f=some none
def WH.kQ{K:B0}{C:Addr}{f:Str}(n:WH K C f):W.takerIn K C f=some none:=by
 unfold W.takerIn;rw[show W.findIn K (.ref C) f=some none from n]
 rfl
section
variable{X:Cx}{aC:A8}{σ:St}{H:Hp}{s:Shared}{a C dx:Addr}{fs:List (Str×V)}{f:Str}{v:V}{A:Around}{E:A3}
def Re(I:Inv X aC σ H s)(e:H a=some (.ins C dx fs))(c:Se X.K C)(n:WH X.K C f)(l:fs.lookup f=some v)
  (h:∀u s',Inv X aC σ H s'->RelV v u->Q u s'):wpAny X.M A (getAttr (.ref a) f b) Q E s:=by
 obtain⟨g,O,r,_,_,_⟩:=XU I.aI e;obtain⟨u,i,d⟩:=UY.some_of (v:=v) (o:=g f) (by rw[<-l];exact r f)
 exact LJ I.cE O (c.get f) c.hd n i (OU d) (h u _ (I.tok _) d)
def QE(I:Inv X aC σ H s)(e:H a=some (.ins C dx fs))(c:Se X.K C)(n:WH X.K C f)(hl:fs.length<1000)(k:RelV y u)
  (h:∀s',Inv X aC σ (upd H a (.ins C dx (Xs f y fs))) s'->Q () s'):wpAny X.M A (setAttr (.ref a) f u) Q E s:=by
 obtain⟨d,O,r,i,_,j⟩:=XU I.aI e;have l:(fs.map (·.1)).length<=sizeLine:=by rw[YT,MX];lia
 refine KS I.cE O c.sa c.po n.kQ c.hd i l λm U p=>h _ ?_
 have t:∃o,m.get? dx=some o:=let⟨o,_,_,e',_⟩:=U.ns;⟨o,e'⟩
 refine I.write (x:=a) (e:=dx) (by rw[e];exact True.intro) (.inr j) (λb q hb z=>(p.2 b hb).trans z) t ?_
 refine⟨by rw[ZU O.ne];exact j,?_,O.ne,U.obj,_,U.ns,λg=>?_,λg hg=>?_⟩
 ·have:=US f y fs;lia
 ·show UY ((Xs f y fs).lookup g) (if g=f then some u else d g)
  rw[UP];by_cases q:g=f
  ·rw[YK q,YK q];exact k
  ·rw[YQ q,YQ q];exact r g
 ·by_cases q:g=f
  ·rw[q];exact(VA f y fs).1
  ·refine(VA f y fs).2 g (i g λz=>hg ?_)
   show(if g=f then some u else d g)=none
   rw[YQ q];exact z
def Inv.made(I:Inv X aC σ H s):Inv X aC σ (upd (upd H s.z (.own (s.z+1))) (s.z+1) (.ins C s.z []))
  {s with heap:=(s.heap.push W.emptyDict).push (W.instObj C s.z)}:=by
 have c:(s.heap.push W.emptyDict).get? s.z=some W.emptyDict:=YZ s.heap rfl;have g:((s.heap.push W.emptyDict).push (W.instObj C s.z)).get? (s.z+1)=some (W.instObj C s.z):=by
  have:=YZ (s.heap.push W.emptyDict) (o:=W.instObj C s.z) rfl
  rwa [ZX]at this
 have h:(s.heap.push W.emptyDict).Ns s.z (λx=>none):=⟨W.emptyDict,#[],_,c,rfl,(λe i=>absurd i (by simp)),λx=>rfl⟩
 have O:=I.laid (a:=s.z) (o:=.own (s.z+1)) (h':=s.heap.push W.emptyDict) (t':=s.toks) (λb u q=>YH _ q) (YL _) ⟨_,c⟩
 refine O.laid (a:=s.z+1) (o:=.ins C s.z []) (t':=s.toks) (λb u q=>YH _ q) (Nat.le_of_eq (ZX _ _)) ?_
 have d:s.z≠s.z+1:=Y6 (Kj _);refine⟨by rw[ZU d,ZT],Z8 _,d,g,λx=>none,(Heap.Ns1.of_empty h).at λo q=>YH _ q,λx=>True.intro,λy j=>absurd rfl j⟩
def Me(c:attributeBase e f env (eval e env)=eval e env)
  (h:wq prog w A (eval e env) (λo b=>wq prog w A (getAttr o f true) Q E b) E s):wq prog w A (eval (.Attribute e f pos) env) Q E s:=
 Attribute_any_ h (by rw[arm_eval_Attribute,c])
end
def zI(K:B0)(b:TE)(f:Str):TE:=λc H Q=>b c H λx I=>∃a C d fs v,x=.ref a/\I a=some (.ins C d fs)/\Se K C/\WH K C f/\fs.lookup f=some v/\Q v I
def yY(K:B0)(d e:TE)(f:Str):TS:=λD b H=>e b H λy O=>d b O λx I=>∃a C c fs,x=.ref a/\I a=some (.ins C c fs)/\Se K C/\WH K C f/\fs.length<1000 /\
 D.nx b (upd I a (.ins C c (Xs f y fs)))
section
variable{X:Cx}{o e value:Expr}{f:Str}{pos pos' ck:Pos}{ta tv:TE}
def GG(d:PE X e ta)(g:attributeBase e f X.env (eval e X.env)=eval e X.env):PE X (.Attribute e f pos) (zI X.K ta f):=by
 intro b s i H Q I h;refine Me g (YO (d b s i H _ I h) λu t ⟨x,O,U,j,a,C,w,fs,v,k,m,c,n,l,q⟩=>?_)
 subst k;obtain rfl:u=Value.ref a:=j;exact Re U m c n l λy z p r=>⟨v,O,p,r,q⟩
def GL(g:PE X o ta)(i:PE X value tv)(hs:swapsWith value (some (.Attribute o f pos')) pos.line X.env=pure false):PS X (.Assign [.Attribute o f pos'] value pos) (yY X.K ta tv f):=by
 intro b s d H D I h;refine plainObj_wpAny_Assign_Attribute (YO (i b s d H _ I h) λu j ⟨y,O,U,k,q⟩=>YO (g b j d O _ U q) λm s2 ⟨x,H2,p,r,a,C,dx,fs,t,v,c,n,l,w⟩=>?_) hs
 subst t;obtain rfl:m=Value.ref a:=r;exact QE p v c n l k λs3 z=>⟨d,_,z,w⟩
end
section
variable{X:Cx}{aC:A8}{σ:St}{H:Hp}{s:Shared}{A:Around}{E:A3}{Q:A3}{c:Value}{b:Bool}
inductive WS(K:B0)(H:Hp):V->Value->Prop where
 |aT:WS K H .aT (.type "NoneType")
 |bl (x:Bool):WS K H (.bl x) (.type "bool")
 |int (i:Int):WS K H (.int i) (.type "int")
 |str (x:Str):WS K H (.str x) (.type "str")
 |jI (x:UInt64):WS K H (.jI x) (.type "float")
 |lst {a:Addr}{xs:List V} (e:H a=some (.lst xs)):WS K H (.ref a) (.type "list")
 |dA {a:Addr}{o:Obj}{xs:List V} (e:H a=some (.dA o (.lst xs))):WS K H (.ref a) (.type "list")
 |tup {a:Addr}{xs:List V} (e:H a=some (.tup xs)):WS K H (.ref a) (.type "tuple")
 |dK {a:Addr}{kvs:List (Key×V)} (e:H a=some (.dK kvs)):WS K H (.ref a) (.type "dict")
 |dT {a:Addr}{kvs:List (List Key×V)} (e:H a=some (.dT kvs)):WS K H (.ref a) (.type "dict")
 |ins {a C dx:Addr}{fs:List (Str×V)} (e:H a=some (.ins C dx fs)) (cl:Se K C) (ha:W.findIn K (.ref C) "__class__"=some (some (.builtin "object.__class__")))
   (hn:W.specialIn K (.builtin "object.__class__") "__get__"=some (some (.builtin "getset_descriptor.__get__"))) (rb:W.takesIn K (.builtin "object.__class__")=some true)
   (hm:W.mroIn K C (.type "object")=some true):WS K H (.ref a) (.ref C)
def U1(I:Inv X aC σ H s)(rx:RelV x u)(ty:WS X.K H x t)(e:W.kitOne X.K t c=some b)(h:∀tk,Q (.bool b) {s with toks:=tk}):
  wpAny X.M A (call (.builtin "isinstance") [u,c]) Q E s:=by
 cases ty with
 |aT=>cases(show u=Value.none from rx);exact OH W.kitx_none I.cE True.intro e (λz=>nomatch z) h
 |bl y=>cases(show u=Value.bool y from rx);exact OH W.kitx_bool I.cE True.intro e (λz=>nomatch z) h
 |int i=>obtain⟨t,q⟩:=(show∃t,u=Value.int i t from rx);cases q;exact OH W.kitx_int I.cE True.intro e (λz=>nomatch z) h
 |str y=>obtain⟨t,q⟩:=(show∃t,u=Value.str y t from rx);cases q;exact OH W.kitx_str I.cE True.intro e (λz=>nomatch z) h
 |jI y=>obtain⟨t,q⟩:=(show∃t,u=Value.float y t from rx);cases q;exact OH W.kitx_float I.cE True.intro e (λz=>nomatch z) h
 |@lst a xs ea=>
   cases(show u=Value.ref a from rx)
   obtain⟨_,_,n,_,h1⟩:=(show Y3 X.prog X.w H s.heap a (.lst xs)from I.aI a _ ea)
   exact OH W.kitx_list I.cE ⟨_,h1,rfl⟩ e (λz=>nomatch z) h
 |@dA a ob xs ea=>
   cases(show u=Value.ref a from rx)
   obtain⟨_,_,_,n,_,h1⟩:=(show Y3 X.prog X.w H s.heap a (.dA ob (.lst xs))from I.aI a _ ea)
   exact OH W.kitx_list I.cE ⟨_,h1,rfl⟩ e (λz=>nomatch z) h
 |@tup a xs ea=>
   cases(show u=Value.ref a from rx)
   obtain⟨_,_,_,p⟩:=(show Y3 X.prog X.w H s.heap a (.tup xs)from I.aI a _ ea)
   obtain⟨o,h1,h2,_⟩:=p;exact OH W.kitx_tuple I.cE ⟨o,h1,h2⟩ e (λz=>nomatch z) h
 |@dK a kvs ea=>
   cases(show u=Value.ref a from rx)
   obtain⟨_,_,vs,_,p⟩:=(show Y3 X.prog X.w H s.heap a (.dK kvs)from I.aI a _ ea)
   obtain⟨o,es,ep,h1,h2,_⟩:=p;exact OH W.kitx_dict I.cE ⟨o,h1,h2.1⟩ e (λz=>nomatch z) h
 |@dT a kvs ea=>
   cases(show u=Value.ref a from rx)
   obtain⟨_,_,xs,_,o,es,ep,h1,h2,_⟩:=(show Y3 X.prog X.w H s.heap a (.dT kvs)from I.aI a _ ea)
   exact OH W.kitx_dict I.cE ⟨o,h1,h2.1⟩ e (λz=>nomatch z) h
 |@ins a C dx fs ea cl ha hn rb hm=>
   cases(show u=Value.ref a from rx)
   obtain⟨mA,O,_⟩:=XU I.aI ea;obtain⟨od,J,_⟩:=O.look;exact OH (W.kitx_own (cl.get _) cl.hd ha hn rb hm) I.cE J e (λz=>nomatch z) h
end
open PyProof.Rows
structure ZA(k:Nat)(A:Around):Prop where
 hd:A.handled=none
 dp:A.depth+3*k+5<recursionLimit
 un:A.units+16*k+200<cLine
 gd:A.guards=some []
def ZA.mono(r:ZA k A)(h:j<=k):ZA j A:=⟨r.hd,by have:=r.dp;lia,by have:=r.un;lia,r.gd⟩
theorem ZA.deeper(r:ZA (k+1) A)(env:Env):ZA k (A.deeper env):=
 ⟨r.hd,by have:=r.dp;show A.depth+1+3*k+5<_;lia,by have:=r.un;show A.units+3+16*k+200<_;lia,r.gd⟩
theorem ZA.in1(r:ZA (k+1) A):ZA k A.in1:=
 ⟨r.hd,by have:=r.dp;show A.depth+3*k+5<_;lia,by have:=r.un;show A.units+1+16*k+200<_;lia,r.gd⟩
def RR{A:Around}{C:Addr}{us:B5}{a:List (Str×Value)}:(A.under (.builtin "type.__call__" ⟨.ref C::us,a⟩)).depth=A.depth+1:=by
 first|rfl|simp[Around.under,Code.weight,Code.isCreation,Code.isGuard,Code.isCaller,Code.frames,Code.isFrame,guardIds]
def RH{A:Around}{C:Addr}{us:B5}{a:List (Str×Value)}:(A.under (.builtin "type.__call__" ⟨.ref C::us,a⟩)).units=A.units+1:=by
 first|rfl|simp[Around.under,Code.cUnits,Code.frames,Code.isFrame]
def Dk{A:Around}{C:Addr}{us:B5}{a:List (Str×Value)}:(A.under (.builtin "type.__call__" ⟨.ref C::us,a⟩)).guards=A.guards:=by simp[Around.under,Code.guards,Code.isGuard,guardIds,pushGuards]
def ZA.make(r:ZA (k+1) A)(C:Addr)(us:B5)(a:List (Str×Value)):ZA k (A.under (.builtin "type.__call__" ⟨.ref C::us,a⟩)):=
 ⟨r.hd,by have:=r.dp;rw[RR];lia,by have:=r.un;rw[RH];lia,by first|(rw[Dk];exact r.gd)|exact r.gd⟩
theorem ZA.depth(r:ZA k A):A.depth<recursionLimit:=by have:=r.dp;lia
theorem ZA.units(r:ZA k A):A.units+64<cLine:=by have:=r.un;lia
def kR:TA:=λz H Q=>Q [] H
def NL(b:TE)(tr:TA):TA:=λa H Q=>b a H λx I=>tr a I λc O=>Q (x::c) O
section
variable{X:Cx}{e:Expr}{es:B8}{te:TE}{t:TA}{pos:Pos}
def UE:PA X [] kR:=λz z z z H Q I h=>BF ⟨[],H,I,.nil,h⟩
def PV(c:PE X e te)(d:PA X es t)(hs:autoParam (starEach (e::es) X.env=(false,eval e X.env)::starEach es X.env) qAA):PA X (e::es) (NL te t):=by
 intro pos a s b H Q I h;rw[hs];show wpAny _ _ (spliced ((false,eval e X.env)::backTo pos (starEach es X.env))) _ _ s;refine AY (YO (c a s b H _ I h) λu f ⟨x,O,U,g,i⟩=>?_)
 exact YO (d pos a f b O _ U i) λo p ⟨j,k,l,m,n⟩=>⟨x::j,k,l,.cons g m,n⟩
def BY(t:TA):TE:=λb H Q=>t b H λa I=>a.length<=sizeLine/\∀p,I p=none->Q (.ref p) (upd I p (.tup a))
def DV(t:TA):TE:=λb H Q=>t b H λa I=>a.length<=sizeLine/\∀p,I p=none->Q (.ref p) (upd I p (.lst a))
def NC{x1}(h:PA X es t):PE X (.Tuple es x1 pos) (BY t):=by
 intro a s d H Q I f;refine wpAny_Tuple_spliced (YO (h pos a s d H _ I f) λg c ⟨i,O,U,r,z,q⟩=>⟨by rw[<-r.length];exact z,?_⟩)
 have j:O c.heap.objs.size=none:=U.aI.fresh (YL _);refine⟨.ref c.heap.objs.size,upd O c.heap.objs.size (.tup i),U.laid (t':=c.toks) (λb u e=>YH _ e) (YL _) ?_,rfl,q _ j⟩
 exact⟨z,g,r,⟨_,YZ _ rfl,rfl,_,rfl⟩⟩
def GN(h:PA X es t):PE X (.List es pos) (DV t):=by
 intro a s d H Q I f;refine wpAny_List_spliced (YO (h pos a s d H _ I f) λg c ⟨i,O,U,r,z,q⟩=>⟨by rw[<-r.length];exact z,?_⟩)
 have j:O c.heap.objs.size=none:=U.aI.fresh (YL _);refine⟨.ref c.heap.objs.size,upd O c.heap.objs.size (.lst i),U.laid (t':=c.toks) (λb u e=>YH _ e) (YL _) ?_,rfl,q _ j⟩
 exact⟨z,g,0,r,YZ _ rfl⟩
end
abbrev Sp:=List V->Hp->VK->XK->Prop
abbrev hJ:=C4->Hp->Shared->XK->A3
structure Wp(P:C5)(w:World)(K:B0)(mg:A4)(base:Heap)(A:Around)(outer:C4)(s:Shared)(H:Hp):Prop where
 frames:A.frames=some outer
 mod:Mod K mg base
 bs:∀b o,base.get? b=some o->s.heap.get? b=some o/\H b=none
 gV:base.objs.size<=s.z
 dE:s.heap.FunFrames base outer
 h8:∀b∈WU outer,H b=none
 aI:WV P w H s.heap
 bare:AllBare s.gens
def CE(a:C4)(P:C5)(w:World)(H:Hp)(s:Shared)(Q:VK)(u:Value)(s':Shared):Prop:=
 ∃v I,s'.os=s.os/\AllBare s'.gens/\Un (WU a) [] H I s.heap s'.heap/\WV P w I s'.heap/\RelV v u/\Q v I
def CR(CX:hJ)(a:C4)(P:C5)(w:World)(H:Hp)(s:Shared)(Q:VK)(E:XK)(r:Result)(s':Shared):Prop:=
 match r with
 |.ok (.ret u)=>CE a P w H s Q u s'
 |.ok _=>False
 |.error e=>CX a H s E e s'
structure XW(P:C5)(w:World)(K:B0)(mg:A4)(base:Heap)(CX:hJ)(k:Nat)(f:Addr)(fd:FuncData)(ps:C3)(sp:Sp):Prop where
 len:∀vs H Q E,sp vs H Q E->vs.length=ps.length
 run:∀(A:Around) (outer:C4) (s:Shared) (H:Hp) (args:Args) (us:B5) (vs:List V) (Q:VK) (E:XK),ZA k A->Wp P w K mg base A outer s H->BindsTo s fd args (ps.zip us)->ZN vs us->sp vs H Q E->
  codeAny (model P w) A (.call (.ref f) args) (CR CX outer P w H s Q E) s
theorem XW.mono{P:C5}{w:World}{K:B0}{mg:A4}{base:Heap}{CX:hJ}{j k:Nat}{f:Addr}{c:FuncData}{ps:C3}{sp:Sp}(F:XW P w K mg base CX j f c ps sp)(h:j<=k):
  XW P w K mg base CX k f c ps sp:=⟨F.len,λA a s H b d e Q E g=>F.run A a s H b d e Q E (g.mono h)⟩
def XW.imp{P:C5}{w:World}{K:B0}{mg:A4}{base:Heap}{CX:hJ}{k:Nat}{f:Addr}{c:FuncData}{ps:C3}{sp rf:Sp}(F:XW P w K mg base CX k f c ps sp)
  (h:∀vs H Q E,rf vs H Q E->sp vs H Q E):XW P w K mg base CX k f c ps rf:=
 ⟨λvs H Q E q=>F.len vs H Q E (h _ _ _ _ q),λA a s H b d vs Q E e g i j l=>F.run A a s H b d vs Q E e g i j (h _ _ _ _ l)⟩
def Wp.make{P:C5}{w:World}{K:B0}{mg:A4}{base:Heap}{A:Around}{a:C4}{s:Shared}{H:Hp}(e:Wp P w K mg base A a s H)(C:Addr)(us:B5)(b:List (Str×Value)):
  Wp P w K mg base (A.under (.builtin "type.__call__" ⟨.ref C::us,b⟩)) a s H:=⟨by first|exact e.frames|(simpa[Around.under,Code.envs,Code.isFrame,pushEnvs]using e.frames),e.mod,e.bs,e.gV,e.dE,e.h8,e.aI,e.bare⟩
section
variable{X:Cx}{aC:A8}{σ:St}{H:Hp}{s s':Shared}
def Inv.ib(I:Inv X aC σ H s):Wp X.prog X.w X.K X.mg X.base X.A X.stack s H:=
 ⟨I.ok.frames,I.ok.mod,I.bs,Zx I.ok.gV I.sz,I.stack,I.eW,I.aI,I.bare⟩
def Inv.after(I:Inv X aC σ H s)(h:CE X.stack X.prog X.w H s Q u s'):EP X aC σ Q u s':=by obtain⟨v,O,os,a,un,c,r,q⟩:=h;obtain⟨f,g,d,t,e⟩:=s';obtain rfl:e=s.os:=os;exact⟨v,O,I.call (h':=f) (g':=g) (d':=d) (t':=t) (ch:=[]) un c a (λb z=>absurd z (by simp)),r,q⟩
end
def MV(sp:Sp)(dvs:List V)(E:XK)(t:TA):TE:=λa H Q=>t a H λb I=>sp (b++dvs) I Q E
def Jn(C:Addr)(sp:Sp)(dvs:List V)(E:XK)(t:TA):TE:=λb H Q=>t b H λc I=>∀x a,I x=none->I a=none->a≠x->
 sp (.ref x::(c++dvs)) (upd (upd I a (.own x)) x (.ins C a [])) (λv O=>v=.aT/\Q (.ref x) O) E
def Binds(K:B0)(b:FuncData)(ps:C3)(ds:B5):Prop:=
 ∀(s:Shared) (a:B5),K.In s.heap->(a++ds).length=ps.length->BindsTo s b ⟨a,[]⟩ (ps.zip (a++ds))
def Binds.all{K:B0}{a:FuncData}{ps:C3}(h:∀us:B5,us.length=ps.length->bindArgs a ⟨us,[]⟩=pure (ps.zip us)):Binds K a ps []:=λs us z b=>by
 rw[GA]at b ⊢
 exact .of_eq (h us b)
def YY(CX:hJ)(X:Cx)(E:XK):Prop:=∀(a:A8) (c:St) (H:Hp) (s:Shared) (e:Value) (b:Shared),Inv X a c H s->CX X.stack H s E e b->X.xe e b
section
variable{X:Cx}{CX:hJ}{k:Nat}{f C:Addr}{fd:FuncData}{ps:C3}{sp:Sp}{dvs:List V}{ds:B5}{E:XK}{x m:Str}{p pos apos:Pos}{e o:Expr}{es:B8}{ta:TE}{t:TA}
def NG(F:XW X.prog X.w X.K X.mg X.base CX k f fd ps sp)(hr:ZA k X.A)(hb:Binds X.K fd ps ds)(hd:ZN dvs ds)(hx:YY CX X E)
  (I:Inv X aC σ H s) (r:ZN vs us) (h:sp (vs++dvs) H Q E):wpAny X.M X.A (call (.ref f) us) (EP X aC σ Q) X.xe s:=by
 have r2:ZN (vs++dvs) (us++ds):=r.append hd;have hl:(us++ds).length=ps.length:=by rw[<-r2.length];exact F.len _ _ _ _ h
 refine IQ (MA (F.run X.A X.stack s H ⟨us,[]⟩ (us++ds) (vs++dvs) Q E hr I.ib (hb s us I.cE hl) r2 h) λr s' hq=>?_)
 cases r with
 |error e=>exact hx aC σ H s e s' I hq
 |ok fl=>
   cases fl with
   |ret u=>exact I.after hq
   |next=>exact False.elim hq
   |brk=>exact False.elim hq
   |cont=>exact False.elim hq
def LM(F:XW X.prog X.w X.K X.mg X.base CX k f fd ps sp)(d:ZA k X.A)(g:Gl X x)(i:X.mg x=some (.ref f))(j:W.keepIn X.K (.ref f)=true)(l:Binds X.K fd ps ds)(hd:ZN dvs ds)(n:YY CX X E)
  (u:PA X (e::es) t) (b:autoParam ((x==("__debug__":Str))=false) qAB) (v:autoParam (starEach (e::es) X.env=(false,eval e X.env)::starEach es X.env) qAA) (c:autoParam ((backTo pos (starEach es X.env)).any (·.1)=false) qAA) :
  PE X (.Call (.Name x p) (e::es) [] pos) (MV sp dvs E t):=by
 intro a s y H Q I h;refine FM (WE I g i ?_ b);refine At (h₀:=X.base) I.ok.mod.iL j (YO (u pos a s y H _ I h) λz U ⟨vs,H1,O,r,q⟩=>⟨O.cE,?_⟩) v c
 exact NG F d l hd n O r q
structure Mk(K:B0)(C f:Addr):Prop where
 makes:W.makesIn K C=true
 init:W.findIn K (.ref C) "__init__"=some (some (.ref f))
 fn:W.isFn K (.ref f)=true
 kp:W.keepIn K (.ref C)=true
def NA(M:Mk X.K C f)(F:XW X.prog X.w X.K X.mg X.base CX k f fd ps sp)(hr:ZA (k+1) X.A)(hb:Binds X.K fd ps ds)(hd:ZN dvs ds)
  (hx:YY CX X E) (I:Inv X aC σ H s) (r:ZN vs us)
  (h:∀x dx,H x=none->H dx=none->dx≠x->sp (.ref x::(vs++dvs)) (upd (upd H dx (.own x)) x (.ins C dx [])) (λv H2=>v=.aT/\Q (.ref x) H2) E) :
  wpAny X.M X.A (call (.ref C) us) (EP X aC σ Q) X.xe s:=by
 have hq:=h (s.z+1) s.z (I.aI.fresh (Nat.le_succ _)) (I.aI.fresh (YL _)) (Y6 (Kj _));have I2:=Inv.made (C:=C) I;have r2:ZN (V.ref (s.z+1)::(vs++dvs)) (Value.ref (s.z+1)::(us++ds)):=.cons rfl (r.append hd);have hl:(Value.ref (s.z+1)::us++ds).length=ps.length:=by have e:=r2.length;rw[F.len _ _ _ _ hq]at e;exact e.symm
 refine IQ (NE (f:=f) I.cE M.makes M.init (JU.mp M.fn) (MA (F.run _ X.stack _ _ ⟨Value.ref (s.z+1)::us,[]⟩ (Value.ref (s.z+1)::(us++ds)) _ _ E (hr.make C us [])
  (I2.ib.make C us []) (hb _ (Value.ref (s.z+1)::us) I2.cE hl) r2 hq) λr s' hq'=>?_))
 cases r with
 |error e=>exact hx aC σ _ _ e s' I2 hq'
 |ok fl=>
   cases fl with
   |ret u=>obtain⟨v,H',I3,rv,ev,q3⟩:=I2.after hq';subst ev;exact⟨rv,⟨V.ref (s.z+1),H',I3,rfl,q3⟩⟩
   |next=>exact False.elim hq'
   |brk=>exact False.elim hq'
   |cont=>exact False.elim hq'
def K2(M:Mk X.K C f)(F:XW X.prog X.w X.K X.mg X.base CX k f fd ps sp)(d:ZA (k+1) X.A)(g:Gl X x)(i:X.mg x=some (.ref C))(j:Binds X.K fd ps ds)(hd:ZN dvs ds)(l:YY CX X E)
  (n:PA X (e::es) t) (b:autoParam ((x==("__debug__":Str))=false) qAB) (u:autoParam (starEach (e::es) X.env=(false,eval e X.env)::starEach es X.env) qAA) (c:autoParam ((backTo pos (starEach es X.env)).any (·.1)=false) qAA) :
  PE X (.Call (.Name x p) (e::es) [] pos) (Jn C sp dvs E t):=by
 intro a s v H Q I h;refine FM (WE I g i ?_ b);refine At (h₀:=X.base) I.ok.mod.iL M.kp (YO (n pos a s v H _ I h) λy z ⟨U,H1,O,r,q⟩=>⟨O.cE,?_⟩) u c
 exact NA M F d j hd l O r q
end
structure ZB(N P:C3)(sc:Scope):Prop where
 kind:sc.kind=.function
 co:sc.isCoroutine=false
 gen:sc.isGenerator=false
 nd:N.Nodup
 pre:N.take P.length=P
 par:∀x∈P,sc.names.lookup x=some .local\/sc.names.lookup x=some .cell
 kf:∀y∈sc.names,y.2≠.free
theorem TH{kindOf:Str->Option NameKind}:∀{binds:List (Str×Value)}{m:A4},(∀v,(x,v)∉binds)->bindL kindOf binds m x=m x
 |[],_,_=>rfl
 |(n,v)::r,m,h=>by
   unfold bindL;rw[TH λw hw=>h w (Zq _ hw)]
   split
   ·have:x≠n:=by rintro rfl;exact h v Zd
    simp[this]
   ·rfl
theorem Ts{kindOf:Str->Option NameKind}:∀{binds:List (Str×Value)}{m:A4},(∀v,(x,v)∉binds)->bindC kindOf binds m x=m x
 |[],_,_=>rfl
 |(n,v)::r,m,h=>by
   unfold bindC;rw[Ts λw hw=>h w (Zq _ hw)]
   split
   ·rfl
   ·have:x≠n:=by rintro rfl;exact h v Zd
    simp[this]
theorem Tl{kindOf:Str->Option NameKind}:∀{P:C3}{vs:B5}{i:Nat}{m:A4},P.Nodup->P[i]?=some x->vs[i]?=some v->kindOf x=some .local->
  bindL kindOf (P.zip vs) m x=some v
 |[],_,_,_,_,h,_,_=>by simp at h
 |_::_,[],_,_,_,_,h,_=>by simp at h
 |p::P,w::vs,0,m,a,h1,h2,b=>by
   simp at h1 h2;subst h1;subst h2;show bindL kindOf ((p,w)::P.zip vs) m p=_;unfold bindL;rw[TH λv c=>(y6.mp a).1 (FY c).1,YK b]
   simp
 |p::P,w::vs,i+1,m,a,h1,h2,b=>by show bindL kindOf ((p,w)::P.zip vs) m x=_;unfold bindL;exact Tl (i:=i) (y6.mp a).2 (by simpa using h1) (by simpa using h2) b
theorem Ta{kindOf:Str->Option NameKind}:∀{P:C3}{vs:B5}{i:Nat}{m:A4},P.Nodup->P[i]?=some x->vs[i]?=some v->kindOf x≠some .local->
  bindC kindOf (P.zip vs) m x=some v
 |[],_,_,_,_,h,_,_=>by simp at h
 |_::_,[],_,_,_,_,h,_=>by simp at h
 |p::P,w::vs,0,m,a,h1,h2,b=>by
   simp at h1 h2;subst h1;subst h2;show bindC kindOf ((p,w)::P.zip vs) m p=_;unfold bindC;rw[Ts λv c=>(y6.mp a).1 (FY c).1,YQ b]
   simp
 |p::P,w::vs,i+1,m,a,h1,h2,b=>by show bindC kindOf ((p,w)::P.zip vs) m x=_;unfold bindC;exact Ta (i:=i) (y6.mp a).2 (by simpa using h1) (by simpa using h2) b
def start(N:C3)(vs:List V):St:=vs.map some++List.replicate (N.length-vs.length) none
noncomputable def O0(CX:hJ)(P:C5)(w:World)(K:B0)(mg:A4)(base:Heap)(N:C3)(b:Str)(a:Scope)(f:Addr)(d:Value)(A:Around)(outer:C4)(s:Shared)(H:Hp)(E:XK):Cx where
 prog:=P
 w:=w
 K:=K
 mg:=mg
 base:=base
 A:=A.deeper (envOfC b a s.z f d)
 N:=N
 s₀:=s
 H₀:=H
 env:=envOfC b a s.z f d
 outer:=outer
 stack:=envOfC b a s.z f d::outer
 ex:=[]
 calm:=true
 fn:=λy=>true
 pn:=[]
 xe:=λe g=>wpAny (model P w) (A.deeper (envOfC b a s.z f d)) (leaving (envOfC b a s.z f d) e) (λy c=>CX outer H s E e c) (λh c=>CX outer H s E h c) g
def Sz{a:Scope}{n:Nat}{x:Str}(h:a.names.lookup x=some .cell):∃c,(cellsFrom n a.names []).lookup x=some c:=by have q:=x0 a.names n [] (.inl h);exact FH.mp q
def U2{CX:hJ}{P:C5}{w:World}{K:B0}{mg:A4}{base:Heap}{N ps:C3}{j:Str}{d:Scope}{f:Addr}{U:Value}{A:Around}{g:C4}{s s1:Shared}{H:Hp}{E:XK}{us:B5}{vs:List V}
  (S:ZB N ps d) (hd:A.handled=none) (m:Wp P w K mg base A g s H) (hl:vs.length=ps.length) (r:ZN vs us)
  (x:InCallC s s.z (bindL (envOfC j d s.z f U).kindOf (ps.zip us) λZ=>none) (cellsFrom (s.z+1) d.names []) (bindC (envOfC j d s.z f U).kindOf (ps.zip us) λZ=>none) s1) :
  Inv (O0 CX P w K mg base N j d f U A g s H E) [] (start N vs) H s1:=by
 have hpl:ps.length<=N.length:=by have:=congrArg List.length S.pre;rw[LW]at this;lia
 obtain⟨h1,tk,rfl,hk⟩:=x.done;have o:∀b:Addr,b∉(O0 CX P w K mg base N j d f U A g s H E).ex:=λb z=>absurd (show b∈([]:B7)from z) (by simp)
 refine⟨⟨m.mod,S.kind,rfl,rfl,YL _,λy z c h1 l=>?_,λy t=>?_,λy c Z h=>?_,λZ=>hd,Around.frames_deeper m.frames,.inr ⟨rfl,rfl⟩,λb z=>absurd z (o b),m.bs,m.gV,λb Z Z=>o b,λb z=>absurd z (o b),m.dE,m.h8⟩,
  rfl,m.bare,Un.kept hk,⟨_,x.toInCall.ns,λi y v h1 l h3=>?_⟩,λy c h=>⟨_,x.cell y c h⟩,m.aI.fresh (YL _),λy c h=>?_,λp I=>absurd (show p∈([]:A8)from I) (by simp),m.aI.kept hk,?_⟩
 ·exact name_of_addr x.apart (L6 h1) (L6 l)
 ·have t:d.names.lookup y=some .cell\/d.names.lookup y=some .free:=t;rcases t with t|t
  ·exact Sz t
  ·exact absurd rfl (S.kf _ (L6 t))
 ·exact NR (x.above y c (L6 h))
 ·have hi:i<vs.length:=by
   unfold start at l;by_cases hi:i<vs.length
   ·exact hi
   ·rw[Z4 (by simpa using hi)]at l
    rw[FU]at l;split at l<;>cases l
  have ha:vs[i]?=some v:=by
   unfold start at l;rw[Y9 (by simpa using hi),Y8]at l
   cases e:vs[i]? with
   |none=>rw[e]at l;cases l
   |some a=>rw[e]at l;cases l;rfl
  obtain⟨u,hu,rv⟩:=r.get ha;have I:ps[i]?=some y:=by rw[<-S.pre,List.getElem?_take_of_lt (by lia)];exact h1
  have O:ps.Nodup:=by rw[<-S.pre];exact S.nd.sublist (List.take_sublist _ _)
  refine⟨u,rv,?_⟩;rcases S.par y (Zk I)with k|k
  ·exact .inl ⟨k,Tl O I hu k⟩
  ·obtain⟨c,e⟩:=Sz (n:=s.z+1) k;refine .inr ⟨.inl k,c,e,?_⟩;have q:=x.cell y c e;rw[Ta O I hu (by show d.names.lookup y≠_;rw[k];decide)]at q
   exact q
 ·exact m.aI.fresh (NR (x.above y c (L6 h)))
 ·unfold start;show _=N.length;rw[Zm,YT,JO]
  lia
def PU{CX:hJ}{P:C5}{w:World}{K:B0}{mg:A4}{base:Heap}{k:Nat}{f:Addr}{name d:Str}{h:Arguments}{i:List Stmt}{a:Scope}{dV kV doc pm g ct oc:Value}{an od:B3}
  {br:Array B1}{N ps:C3}{sp:Sp} (lk:K.lookup f=some ⟨oc,od,.func (W.fnOf name d h i a dV kV doc pm an g ct),br⟩) (bt:W.codeIn K g d=true) (S:ZB N ps a)
  (z:∀vs H Q E,sp vs H Q E->vs.length=ps.length)
  (l:∀(A:Around) (c:C4) (s:Shared) (H:Hp) (vs:List V) (Q:VK) (E:XK),ZA k (A.deeper (envOfC d a s.z f g))->sp vs H Q E->
    ∃t,T1 (O0 CX P w K mg base N d a f g A c s H E) i t/\t {nx:=λZ O=>Q .aT O,rt:=Q} (start N vs) H) :
  XW P w K mg base CX (k+1) f (W.fnOf name d h i a dV kV doc pm an g ct) ps sp:=by
 refine⟨z,λA c s H args us vs Q E hr U hb r kE=>?_⟩
 have hl:=z _ _ _ _ kE;have KX:K.In s.heap:=U.mod.iL.keeps λb o e=>(U.bs b o e).1
 have lim:s.heap.NoLimit:=U.mod.nolimit.keeps λb o e=>(U.bs b o e).1
 have m:∀y∈ps.zip us,a.names.lookup y.1=some .local\/(a.names.lookup y.1=some .cell/\((cellsFrom (s.z+1) a.names []).lookup y.1).isSome=true):=λ⟨n,v⟩ hy=>by
  rcases S.par n (FY hy).1 with q|q
  ·exact .inl q
  ·exact .inr ⟨q,x0 _ _ _ (.inl q)⟩
 refine xt hr.depth (KX _ _ lk) rfl S.co S.gen rfl (W.codeRec_of KX bt) (hb _ _ _ _ ?_);refine wT S.kind m λenv he s1 x=>?_
 subst he;refine⟨lim.keeps x.toInCall.keep,codeAny_func ?_⟩;obtain⟨t,ht,hq⟩:=l A c s H vs Q E (hr.deeper _) kE;have I:Inv (O0 CX P w K mg base N d a f g A c s H E) [] (start N vs) H s1:=U2 S hr.hd U hl r x;refine Zh (ht [] s1 (start N vs) H _ I hq) (λfl s' p=>?_) λe s' p=>p
 have fin:∀{j:St}{O:Hp}{v:V}{u:Value},Inv (O0 CX P w K mg base N d a f g A c s H E) [] j O s'->RelV v u->Q v O->CE c P w H s Q u s':=
  λ{j O v u} J rv q=>⟨v,O,J.os,J.bare,J.base,J.aI,rv,q⟩
 cases fl with
 |ret u=>obtain⟨v,j,O,J,rv,q⟩:=p;exact fin J rv q
 |next=>obtain⟨j,O,J,q⟩:=p;exact fin (v:=V.aT) (u:=Value.none) J rfl q
 |brk=>obtain⟨_,_,_,q⟩:=p;exact False.elim q
 |cont=>obtain⟨_,_,_,q⟩:=p;exact False.elim q
open PyProof.Rows
section
variable{X:Cx}{x:Str}{p pos:Pos}{e:Expr}{es:B8}{t:TA}{id T:String}{r:List V->Hp->VK->Prop}
def FP(r:List V->Hp->VK->Prop)(t:TA):TE:=λa H Q=>t a H λb I=>r b I Q
def Op(hc:YN X (.builtin id) r)(f:Gl X x)(g:X.mg x=none)(i:bootBuiltins x=some (.builtin id))(j:PA X (e::es) t)(k:autoParam (x≠"__name__") qAB)(b:autoParam ((x==("__debug__":Str))=false) qAB)
  (l:autoParam (starEach (e::es) X.env=(false,eval e X.env)::starEach es X.env) qAA) (c:autoParam ((backTo pos (starEach es X.env)).any (·.1)=false) qAA):PE X (.Call (.Name x p) (e::es) [] pos) (FP r t):=by
 intro a s d H Q I h;refine FM (X2 I f g i ?_ k b);exact w8 (YO (j pos a s d H _ I h) λm n ⟨o,O,U,q,u⟩=>hc a n d O o m Q U q u) l c
def Pc(hc:YN X (.type T) r)(f:Gl X x)(g:X.mg x=none)(i:bootBuiltins x=some (.type T))(j:PA X (e::es) t)(k:autoParam (x≠"__name__") qAB)(b:autoParam ((x==("__debug__":Str))=false) qAB)
  (l:autoParam (starEach (e::es) X.env=(false,eval e X.env)::starEach es X.env) qAA) (c:autoParam ((backTo pos (starEach es X.env)).any (·.1)=false) qAA):PE X (.Call (.Name x p) (e::es) [] pos) (FP r t):=by
 intro a s d H Q I h;refine FM (X2 I f g i ?_ k b);exact ZR (YO (j pos a s d H _ I h) λm n ⟨o,O,U,q,u⟩=>hc a n d O o m Q U q u) l c
end
end L2
namespace HT
open PySem PyProof.Rows
section
open PySem.SeqAt
open PySem.AutoSeq1 (wpAny_loadPart')
open PySem.MeetsSeq PySem.MeetsSeq2 PySem.MeetsSeq3
end
section
variable{prog:C5}{w:World}{A:Around}{E:A3}{s:Shared}
def Lm(ht:IsTup s.heap t vs.toArray)(q:IsTup s.heap b ws.toArray)(i:vs≠[])
  (h1:ws=[]->Q (.ref t) s) (h2:ws≠[]->Q (.ref s.z) {s with heap:=s.heap.push {cls:=.type "tuple",data:=.seq (vs++ws).toArray} })
  (hsz:vs.length+ws.length<=sizeLine):wq prog w A (binaryOp .Add (.ref t) (.ref b)) Q E s:=by
 obtain⟨⟨cls,j,data,k⟩,h,l,n,m⟩:=id ht;obtain⟨⟨o,c,data2,d⟩,a,f,p,g⟩:=id q;simp only at l m f g;subst l m f g;have e:vs.toArray++ws.toArray=(vs++ws).toArray:=by simp
 by_cases hw:ws=[]
 ·exact concat_meets ⟨_,h,rfl⟩ ⟨_,a,rfl⟩ noFill_tuple_add seq_tuple_add wP wS (xk _ _)
   (tuple_addW1 t b vs.toArray ws.toArray n p j c k d (by simpa using i) (by simp[hw])) ⟨h,a,h1 hw⟩
 ·refine concat_meets ⟨_,h,rfl⟩ ⟨_,a,rfl⟩ noFill_tuple_add seq_tuple_add wP wS (xk _ _)
   (tuple_addW2 t b vs.toArray ws.toArray n p j c k d (by simpa using i) (by simpa using hw) (by rw[Za,Za];exact hsz)) ⟨h,a,?_⟩
  rw[e];exact h2 hw
noncomputable def X9(n d:Nat):Option Int->Nat
 |none=>d
 |some v=>if v<0 then(v+(n:Int)).toNat else min v.toNat n
def HK(n d:Nat)(hd:d<=n)(o:Option Int):X9 n d o<=n:=by
 cases o with
 |none=>exact hd
 |some v=>
   show(if v<0 then(v+(n:Int)).toNat else min v.toNat n)<=n
   by_cases hv:v<0
   ·rw[YK hv];lia
   ·rw[YQ hv];exact Nat.min_le_right _ _
def PK(v:Int)(n d:Nat):(if v<0 then max (v+(n:Int)) 0 else min v (n:Int))=((X9 n d (some v):Nat):Int):=by
 show(if v<0 then max (v+(n:Int)) 0 else min v (n:Int))=(((if v<0 then(v+(n:Int)).toNat else min v.toNat n):Nat):Int)
 by_cases hv:v<0
 ·simp only[if_pos hv];lia
 ·simp only[if_neg hv];lia
def Qr(lo a:Option Int)(n:Nat):Builtin.Slice.sliceAdjust lo a 1 (n:Int)=(((X9 n 0 lo:Nat):Int),((X9 n n a:Nat):Int)):=by
 have b:¬((1:Int)<0):=by lia
 unfold Builtin.Slice.sliceAdjust;simp only[b,if_false];refine Prod.ext ?_ ?_
 ·cases lo with
  |none=>rfl
  |some v=>exact PK v n 0
 ·cases a with
  |none=>rfl
  |some v=>exact PK v n n
def Sa(i j:Nat):Builtin.Slice.slicePlaces (i:Int) (j:Int) 1=j-i:=by
 unfold Builtin.Slice.slicePlaces;have a:(1:Int)>0:=by lia
 simp only[a,if_true,Int.ediv_one];split<;>lia
def TZ(p:IsPart v o)(h:Q o s):wq prog w A (Builtin.Slice.slicePartIndex v) Q E s:=by
 cases p with
 |none=>exact slicePart_none h
 |int i t=>exact slicePart_int h
def XE{lo a:Option Int}{n:Nat}{Q:Int×Int×Nat->B2}(hs:s.heap.IsSliceOf sl vl vu .none)(pl:IsPart vl lo)(d:IsPart vu a)
  (h:Q (((X9 n 0 lo:Nat):Int),1,X9 n n a-X9 n 0 lo) s):wq prog w A (Builtin.Slice.sliceApplied (.ref sl) (pure (n:Int))) Q E s:=by
 obtain⟨os,b,e,c⟩:=id hs;unfold Builtin.Slice.sliceApplied Builtin.Slice.sliceFields;refine YF (YF (OM b c (x:=vl) rfl (YF (OM b c (x:=vu) rfl (YF (OM b c (x:=.none) rfl (YG ?_)))))));refine YF (slicePart_none ?_);show wpAny _ _ (if((1:Int)==0)=true then _ else _) _ _ s
 rw[YQ (by decide)]
 refine YF (TZ pl (YF (TZ d (YF (YG ?_)))));show wpAny _ _ (match Builtin.Slice.sliceAdjust lo a 1 (n:Int)with|(lo,a)=>pure (lo,(1:Int),Builtin.Slice.slicePlaces lo a 1)) _ _ s
 rw[Qr lo a n];show wpAny _ _ (pure (((X9 n 0 lo:Nat):Int),(1:Int),Builtin.Slice.slicePlaces ((X9 n 0 lo:Nat):Int) ((X9 n n a:Nat):Int) 1)) _ _ s;rw[Sa];exact YG h
def MW(xs:B4)(i k:Nat):((List.range k).filterMap λ(m:Nat)=>xs[((i:Int)+(m:Int)*1).toNat]?).toArray=((xs.toList.drop i).take k).toArray:=by
 have e:(λ(m:Nat)=>xs[((i:Int)+(m:Int)*1).toNat]?)=λm=>xs[i+m]?:=by
  funext m;have:((i:Int)+(m:Int)*1).toNat=i+m:=by lia
  rw[this]
 rw[e];have:=pick_run xs i k;rw[List.filterMap_map]at this;have a:((λx=>xs[x]?) ∘ λx=>i+x)=λm=>xs[i+m]?:=rfl
 rw[a]at this;rw[this]
def VO{items:B4}{lo b:Option Int}{Q:A3}(ht:IsTup s.heap t items)(hs:s.heap.IsSliceOf sl vl vu .none)(pl:IsPart vl lo)(g:IsPart vu b)
  (hw:¬(X9 items.size 0 lo=0/\X9 items.size items.size b=items.size))
  (h:Q (.ref s.z) {s with heap:=s.heap.push {cls:=.type "tuple",data:=.seq ((items.toList.drop (X9 items.size 0 lo)).take (X9 items.size items.size b-X9 items.size 0 lo)).toArray} })
  (hsz:items.size<=sizeLine):wq prog w A (getItem (.ref t) (.ref sl)) Q E s:=by
 have a:sizeOk (.seq ((items.toList.drop (X9 items.size 0 lo)).take (X9 items.size items.size b-X9 items.size 0 lo)).toArray):=by
  show((items.toList.drop (X9 items.size 0 lo)).take (X9 items.size items.size b-X9 items.size 0 lo)).toArray.size<=sizeLine;rw[Za,LW,CB,Z6]
  lia
 have j:X9 items.size items.size b<=items.size:=HK _ _ (YL _) b;obtain⟨os,c,d,i⟩:=id hs;have e:s.TypeIs (.ref sl) "slice":=⟨os,c,d⟩;unfold getItem
 try with_reducible refine ZF ?_
 first|refine YF (YG ?_)|skip
 refine YF (wpAny_sequenceKey ht.typeIs (by decide) ?_)
 refine YF (ZP (name:=Str.ofString "__getitem__") ht.typeIs yb
  (Zy yb ht.typeIs entry_tuple_getitem ?_ (args_tuple_getitem _ _)))
 show wpAny _ _ (Builtin.Tuple.tupleItemsOf (.ref t)>>=_) _ _ s;refine YF (tupleItemsOf_ ht ?_);refine YF (FA e ?_);rw[YK (by decide)]
 refine YF (XE hs pl g ?_);have f:¬((((X9 items.size 0 lo:Nat):Int)==0&&(1:Int)==1&&(X9 items.size items.size b-X9 items.size 0 lo)==items.size)=true):=by intro q;rw[Kb,Kb]at q;have k:((X9 items.size 0 lo:Nat):Int)=0:=eq_of_beq q.1.1;have l:X9 items.size items.size b-X9 items.size 0 lo=items.size:=eq_of_beq q.2;exact hw ⟨by lia,by lia⟩
 show wpAny _ _ (if(((X9 items.size 0 lo:Nat):Int)==0&&(1:Int)==1&&(X9 items.size items.size b-X9 items.size 0 lo)==items.size)=true then _ else _) _ _ s
 rw[YQ f,MW]
 first
  |exact YF (m:=Builtin.Tuple.tupleExact _) (Zw (YG ⟨_,rfl,YG h⟩) a)
  |exact YF (m:=Builtin.Tuple.tupleExact _) (Zw (YF (YG (YG ⟨_,rfl,YG h⟩))) a)
  |exact YF (YF (m:=Builtin.Tuple.tupleExact _) (Zw (YG (YG ⟨_,rfl,YG h⟩)) a))
  |exact YF (YF (m:=Builtin.Tuple.tupleExact _) (Zw (YG ⟨_,rfl,YG h⟩) a))
end
end HT
namespace L2
open PyProof.Rows
abbrev TO:=St->Hp->(Option Int->Hp->Prop)->Prop
def PO(X:Cx)(e:Option Expr)(t:TO):Prop:=
 ∀(a:A8) (s:Shared) (b:St) (H:Hp) (Q:Option Int->Hp->Prop),Inv X a b H s->t b H Q->
   wpAny X.M X.A (evalPart e X.env) (λu c=>∃o I,Inv X a b I c/\IsPart u o/\Q o I) X.xe s
def iS:TO:=λz H Q=>Q none H
def EU(t:TE):TO:=λa H Q=>t a H λx I=>∃i,x=.int i/\Q (some i) I
def intsAre_of:∀{us:B5},ZN (ns.map V.int) us->IntsAre us ns:=by
 induction ns with
 |nil=>intro us r;rw[FD]at r;cases r;exact .nil
 |cons n ns ih=>
   intro us r;rw[Zj]at r;cases r with
   |cons r1 r2=>obtain⟨t,e⟩:=r1;subst e;exact .cons n t (ih r2)
section
variable{X:Cx}{e:Expr}{te:TE}{lo hi:Option Expr}{tl th:TO}{pos p2:Pos}
def KW:PO X none iS:=by intro a s b H Q I h;rw[evalPart_none];exact YG ⟨none,H,I,.none,h⟩
def LG(h:PE X e te):PO X (some e) (EU te):=by
 intro a s b H Q I c;rw[evalPart_some];refine YO (h a s b H _ I c) λu g ⟨x,O,U,d,f⟩=>?_
 obtain⟨i,rfl,q⟩:=f;obtain⟨t,rfl⟩:=d;exact⟨some i,O,U,.int i t,q⟩
def Fk(X:Cx)(r:V->Option Int->Option Int->Hp->VK->Prop):Prop:=
 ∀(a:A8) (s:Shared) (b:St) (H:Hp) (x:V) (v c d:Value) (lo hi:Option Int) (f:Addr) (Q:VK),Inv X a b H s->RelV x v->s.heap.IsSliceOf f c d .none->IsPart c lo->IsPart d hi->r x lo hi H Q->
   ∃T id,typeLookup (.type T) "__getitem__"=pure (some (.builtin id))/\s.TypeIs v T/\wpAny X.M X.A (getItem v (.ref f)) (EP X a b Q) X.xe s
def sD(r:V->Option Int->Option Int->Hp->VK->Prop)(te:TE)(tl th:TO):TE:=λa H Q=>te a H λx I=>tl a I λl O=>th a O λu U=>r x l u U Q
def Sn(i:Fk X r)(j:PE X e te)(hl:PO X lo tl)(k:PO X hi th):PE X (.Subscript e (.Slice lo hi none p2) pos) (sD r te tl th):=by
 intro a s d H Q I h;refine Subscript_ (YO (j a s d H _ I h) λv m ⟨x,U,n,o,p⟩=>?_)
 refine wpAny_Slice (YO (hl a m d U _ n p) λf t ⟨l,y,z,pl,q2⟩=>YO (k a t d y _ z q2) λg c ⟨u,O,I3,pu,q3⟩=>?_)
 rw[evalPart_none];refine YG ?_;have I4:Inv X a d O {c with heap:=c.heap.push {cls:=.type "slice",data:=.fields #[f,g,.none]} }:=I3.kept (t':=c.toks) λb ob q=>YH _ q
 obtain⟨T,id,hT,ht,hg⟩:=i a {c with heap:=c.heap.push {cls:=.type "slice",data:=.fields #[f,g,.none]} } d O x v f g l u c.heap.objs.size Q I4 o (Heap.IsSliceOf.new ..) pl pu q3
 show wpAny X.M X.A (subscriptTail e (.Slice lo hi none p2) v (.ref c.heap.objs.size)) (EP X a d Q) X.xe {c with heap:=c.heap.push {cls:=.type "slice",data:=.fields #[f,g,.none]} }
 exact tail_any (ops:=[.ref c.heap.objs.size,v]) ht hT hg (by with_unfolding_all rfl)
def T0(xs:List V)(lo hi:Option Int):List V:=(xs.drop (HT.X9 xs.length 0 lo)).take (HT.X9 xs.length xs.length hi-HT.X9 xs.length 0 lo)
def UO(xs:List V)(lo hi:Option Int):(T0 xs lo hi).length<=xs.length:=by
 unfold T0;rw[LW,CB]
 lia
def zD(K:B0):V->Option Int->Option Int->Hp->VK->Prop:=λx lo hi H Q=>∃a b,x=.ref a/\XO K H a b /\
 ¬(HT.X9 b.length 0 lo=0/\HT.X9 b.length b.length hi=b.length)/\∀p,H p=none->Q (.ref p) (upd H p (.tup (T0 b lo hi)))
def GY:Fk X (zD X.K):=by
 intro g s t H x v u w lo hi y Q I k l pl m h;obtain⟨a,d,rfl,n,p,q⟩:=h;cases k;obtain⟨f,r,i,j⟩:=I.tuple n;have c:f.toArray.size=d.length:=by rw[Za];exact r.length.symm
 refine⟨"tuple",_,PyProof.Rows.slot_tuple_getitem.lookup,i.typeIs,?_⟩;refine HT.VO i l pl m (by rw[c];exact p) ?_ (by rw[c];exact j)
 rw[c];refine⟨.ref s.z,_,I.laid (t':=s.toks) (o:=.tup (T0 d lo hi)) (λb z q=>YH _ q) (YL _) ?_,rfl,q _ (I.aI.fresh (YL _))⟩
 exact⟨Zx (UO d lo hi) j,_,(r.drop (HT.X9 d.length 0 lo)).take (HT.X9 d.length d.length hi-HT.X9 d.length 0 lo),Ee _ _⟩
def BO(K:B0):R2:=λx y H Q=>∃a b d c,x=.ref a/\y=.ref b/\XO K H a d/\XO K H b c/\d≠[]/\d.length+c.length<=sizeLine /\
 (c=[]->Q (.ref a) H)/\(c≠[]->∀p,H p=none->Q (.ref p) (upd H p (.tup (d++c))))
def ZN.e5(r:ZN xs us):us=[]↔xs=[]:=by
 cases r with
 |nil=>simp
 |cons _ _=>simp
def LI:XV X (binaryOp .Add) (BO X.K):=by
 intro f s σ H x y v u Q I j k h;obtain⟨a,b,l,m,rfl,rfl,n,p,r,g,t,O⟩:=h;cases j;cases k;obtain⟨U,d,p1,_⟩:=I.tuple n;obtain⟨i,c,p2,_⟩:=I.tuple p;refine HT.Lm p1 p2 (λz=>r (d.e5.mp z)) (λz=>⟨.ref a,H,I,rfl,t (c.e5.mp z)⟩) (λz=>?_) (by rw[<-d.length,<-c.length];exact g)
 refine⟨.ref s.z,_,I.laid (t':=s.toks) (o:=.tup (l++m)) (λb ob q=>YH _ q) (YL _) ?_,rfl,O (λw=>z (c.e5.mpr w)) _ (I.aI.fresh (YL _))⟩
 exact⟨by rw[Zm];exact g,_,d.append c,Ee _ _⟩
end
open PyProof.Rows
def RY(n:Nat)(i:Int):Option Nat:=if 0<=i then(if i<n then some i.toNat else none)else if -(n:Int)<=i then some (i+n).toNat else none
def TM{α:Type}(xs:List α)(i:Int):Option α:=(RY xs.length i).bind λj=>xs[j]?
def SV(h:RY n i=some j):seqIndex? i n=some j/\j<n/\-(n:Int)<=i/\i<n:=by
 unfold RY at h;by_cases h0:0<=i
 ·rw[YK h0]at h;by_cases h1:i<n
  ·rw[YK h1]at h;have e:i.toNat=j:=Y4 h;exact⟨by rw[seqIndex_of h0 h1,e],by lia,by lia,h1⟩
  ·rw[YQ h1]at h;cases h
 ·rw[YQ h0]at h;by_cases h1:-(n:Int)<=i
  ·rw[YK h1]at h;have e:(i+n).toNat=j:=Y4 h;exact⟨by rw[seqIndex_neg (by lia) h1,e],by lia,h1,by lia⟩
  ·rw[YQ h1]at h;cases h
def SY(h:TM xs i=some v):∃j,seqIndex? i xs.length=some j/\xs[j]?=some v/\j<xs.length/\-(xs.length:Int)<=i/\i<xs.length:=by
 unfold TM at h;cases e:RY xs.length i with
 |none=>rw[e]at h;cases h
 |some j=>rw[e]at h;obtain⟨a,b,c,d⟩:=SV e;exact⟨j,a,h,b,c,d⟩
def PC(b:Expr):Prop:=∀o i,subscripted b false o i=operate [o,i] (getItem o i)
def BA(X:Cx)(r:R2):Prop:=
 ∀(c a:Expr) (b:A8) (s:Shared) (d:St) (H:Hp) (x y:V) (v u:Value) (Q:VK),Inv X b d H s->RelV x v->RelV y u->r x y H Q->
   subscripted a false v u=operate [v,u] (getItem v u)->wpAny X.M X.A (subscriptTail c a v u) (EP X b d Q) X.xe s
def yn(X:Cx)(id:String)(r:V->List V->Hp->VK->Prop):Prop:=
 ∀(a:A8) (s:Shared) (b:St) (H:Hp) (x:V) (c:List V) (v:Value) (d:B5) (Q:VK),Inv X a b H s->RelV x v->ZN c d->r x c H Q->
   wpAny X.M X.A (call (.builtin id) (v::d)) (EP X a b Q) X.xe s
section
variable{X:Cx}{a b:Expr}{ta tb:TE}{pos:Pos}
def CU(d:BA X r)(e:PE X a ta)(f:PE X b tb)(hs:PC b):PE X (.Subscript a b pos) (Dx r ta tb):=by intro c s g H Q I h;exact Subscript_ (HZ e f I h λv u i x y O U j k q=>d a b c i g O x y v u Q U j k q (hs _ _))
def zh(K:B0):R2:=λx y H Q=>∃p c i v,x=.ref p/\y=.int i/\XI K H p c/\TM c i=some v/\Q v H
def y3(K:B0):R2:=λx y H Q=>∃p c i v,x=.ref p/\y=.int i/\XO K H p c/\TM c i=some v/\Q v H
def PH:BA X (zh X.K):=by
 intro f g c s n H x y v u Q I U ry h o;obtain⟨p,xs,i,z,rfl,rfl,hq,he,q⟩:=h;cases U;obtain⟨t,rfl⟩:=ry;obtain⟨k,r,pl,hz⟩:=I.list hq;obtain⟨j,e,h2,h3,h4,h5⟩:=SY he;obtain⟨w,O,l⟩:=r.get h2;have hl:=r.length;have hn:=VY;have d:EP X c n Q w s:=⟨z,H,I,l,q⟩;by_cases h0:0<=i
 ·have m:i.toNat=j:=by rw[seqIndex_of h0 h5]at e;exact Y4 e
  exact item_listR pl.isList h0 (by lia) (by rw[m];simpa using O) d o
 ·have m:(i+(k.toArray.size:Int)).toNat=j:=by
   rw[seqIndex_neg (by lia) h4]at e
   rw[Za,<-hl];exact Y4 e
  exact subscriptTail_builtinR (x:=w) pl.isList.typeIs slot_list_getitem.lookup
   (wpAny_getItem_list_neg (Q:=λr s'=>r=w/\EP X c n Q r s') pl.isList (by lia) (by rw[Za]<;>lia) (by lia) (by rw[m];simpa using O) ⟨rfl,d⟩) o
def He:BA X (y3 X.K):=by
 intro d e c s k H x y v u Q I l m h n;obtain⟨p,xs,i,z,rfl,rfl,o,O,q⟩:=h;cases l;obtain⟨t,rfl⟩:=m;obtain⟨U,r,pl,hz⟩:=I.tuple o;obtain⟨j,h1,h2,h3,h4,h5⟩:=SY O;obtain⟨w,ew,f⟩:=r.get h2;have hl:=r.length;have hn:=VY;have g:EP X c k Q w s:=⟨z,H,I,f,q⟩;exact subscriptTail_builtinR (x:=w) pl.typeIs slot_tuple_getitem.lookup
  (getItem_tuple (j:=j) (Q:=λr s'=>r=w/\EP X c k Q r s') pl (by lia) (by lia) (by rw[Za,<-hl];exact h1) (by simpa using ew) ⟨rfl,g⟩) n
def RI(aE:B5)(n j:Nat)(u:Value):Obj.mapSeq (·.setIfInBounds j u) {cls:=.type "list",data:=.seq aE.toArray n}={cls:=.type "list",data:=.seq (aE.set j u).toArray n}:=by simp[Obj.mapSeq]
theorem Inv.lst(I:Inv X aC σ H s)(h:H p=some (.lst xs)):
  ∃(aE:B5) (n:Nat),ZN xs aE/\s.heap.get? p=some {cls:=.type "list",data:=.seq aE.toArray n}/\xs.length<=sizeLine:=by
 obtain⟨z,aE,n,r,e⟩:=I.aI p _ h;exact⟨aE,n,r,e,z⟩
def Inv.kg{c:A8}{xs ys:List V}{aE its':B5}{n d:Nat}{f:Obj->Obj}(I:Inv X c σ H s)(h:H p=some (.lst xs))
  (ho:s.heap.get? p=some {cls:=.type "list",data:=.seq aE.toArray n}) (g:f {cls:=.type "list",data:=.seq aE.toArray n}={cls:=.type "list",data:=.seq its'.toArray d}) (r:ZN ys its') (hz:ys.length<=sizeLine) (t:Nat) :
  Inv X c σ (upd H p (.lst ys)) {s with heap:=s.heap.update p f,toks:=t}:=by
 have e:(s.heap.update p f).get? p=some {cls:=.type "list",data:=.seq its'.toArray d}:=by rw[zS f ho (by rw[g]<;>rfl),g]
 refine I.write (x:=p) (e:=p) (by rw[h];trivial) (.inl rfl) (λb u i q=>(BQ _ _ (Ne.symm i)).trans q) ⟨_,e⟩ ?_
 exact⟨hz,its',d,r,e⟩
def kS:V->V->V->Hp->(Hp->Prop)->Prop:=λo i v H Q=>∃p c k j,o=.ref p/\i=.int k/\H p=some (.lst c)/\RY c.length k=some j/\Q (upd H p (.lst (c.set j v)))
def NJ:OX X kS:=by
 intro c s y H o i v ov iv u Q I z U rv h;obtain⟨p,xs,k,j,rfl,rfl,m,hj,q⟩:=h;cases z;obtain⟨t,rfl⟩:=U;obtain⟨d,n,r,f,hz⟩:=I.lst m;obtain⟨e,h2,w,x⟩:=SV hj;have g:=r.length;have hn:=VY;have O:Inv X c y (upd H p (.lst (xs.set j v))) {s with heap:=s.heap.update p (Obj.mapSeq (·.setIfInBounds j u))}:=
  I.kg m f (RI d n j u) (r.set rv j) (by rw[OZ];exact hz) s.toks
 by_cases h0:0<=k
 ·have l:k.toNat=j:=by rw[seqIndex_of h0 x]at e;exact Y4 e
  exact W.ki_setAt f h0 (by lia) (by rw[Za,<-g];exact x) (by rw[l];exact⟨_,O,q⟩)
 ·have l:(k+(d.toArray.size:Int)).toNat=j:=by
   rw[seqIndex_neg (by lia) w]at e
   rw[Za,<-g];exact Y4 e
  exact W.ki_setBack f (by lia) (by rw[Za,<-g];exact w) (by lia) (by rw[l];exact⟨_,O,q⟩)
def SW(lo c:Option Int)(n:Nat):(sliceBounds lo c none n).1=((HT.X9 n 0 lo:Nat):Int)/\(sliceBounds lo c none n).2.1=((HT.X9 n n c:Nat):Int)/\(sliceBounds lo c none n).2.2=1:=by
 refine⟨?_,?_,rfl⟩
 ·cases lo with
  |none=>simp[sliceBounds,HT.X9]
  |some i=>
    simp only[sliceBounds,HT.X9,Option.getD_none,show(1:Int)>0 by decide,if_true]
    by_cases h:i<0
    ·simp only[h,if_true]<;>lia
    ·simp only[h,if_false]<;>lia
 ·cases c with
  |none=>simp[sliceBounds,HT.X9]
  |some i=>
    simp only[sliceBounds,HT.X9,Option.getD_none,show(1:Int)>0 by decide,if_true]
    by_cases h:i<0
    ·simp only[h,if_true]<;>lia
    ·simp only[h,if_false]<;>lia
def TN(aE:B5)(lo c:Option Int):slicePick aE.toArray lo c none=((aE.drop (HT.X9 aE.length 0 lo)).take (HT.X9 aE.length aE.length c-HT.X9 aE.length 0 lo)).toArray:=by obtain⟨d,e,f⟩:=SW lo c aE.toArray.size;unfold slicePick;rw[d,e,f];simp only[sliceRange_one,pick_run,List.size_toArray]<;>rfl
def yv(K:B0):V->Option Int->Option Int->Hp->VK->Prop:=λx lo d H Q=>∃a c,x=.ref a/\XI K H a c/\∀p,H p=none->Q (.ref p) (upd H p (.lst (T0 c lo d)))
def P2:Fk X (yv X.K):=by
 intro f s p H x v t u lo e w Q I i j pl k h;obtain⟨a,c,rfl,l,q⟩:=h;cases i;obtain⟨m,r,g,n⟩:=I.list l;have d:=r.length;refine⟨"list",_,slot_list_getitem.lookup,g.isList.typeIs,?_⟩;refine wpAny_getItem_list_slice g.isList j pl k .none (by simp) ?_ (by rw[Za]<;>lia)
 rw[TN,<-d];refine⟨.ref s.z,_,I.laid (t':=s.toks) (o:=.lst (T0 c lo e)) (λb y q=>YH _ q) (YL _) ?_,rfl,q _ (I.aI.fresh (YL _))⟩
 exact⟨Zx (UO c lo e) n,_,0,(r.drop (HT.X9 c.length 0 lo)).take (HT.X9 c.length c.length e-HT.X9 c.length 0 lo),YZ _ rfl⟩
def WB:V->Bool
 |.aT=>true
 |.bl _=>true
 |.int _=>true
 |.str _=>true
 |_=>false
def MD:V->V->Bool
 |.aT,.aT=>true
 |.bl a,.bl b=>a==b
 |.bl a,.int b=>(if a then 1 else 0)==b
 |.int a,.bl b=>a==(if b then 1 else 0)
 |.int a,.int b=>a==b
 |.str a,.str b=>a==b
 |_,_=>false
def FX(e:RelV y u)(c:RelV x v)(fy:WB y=true)(f:WB x=true):SeqAt.EqAt A s u v (MD y x):=by
 cases y with
 |aT=>
   cases e;cases x with
   |aT=>cases c;exact SeqAt.EqAt.same _
   |bl b=>cases c;exact SeqAt.EqAt.none_bool b
   |int b=>obtain⟨t,rfl⟩:=c;exact SeqAt.EqAt.none_int b t
   |str b=>obtain⟨t,rfl⟩:=c;exact SeqAt.EqAt.none_str b t
   |_=>exact absurd (show false=true from f) Zc
 |bl a=>
   cases e;cases x with
   |aT=>cases c;exact SeqAt.EqAt.bool_none a
   |bl b=>cases c;exact SeqAt.EqAt.bool_bool a b
   |int b=>obtain⟨t,rfl⟩:=c;exact SeqAt.EqAt.bool_int a b t
   |str b=>obtain⟨t,rfl⟩:=c;exact SeqAt.EqAt.bool_str a b t
   |_=>exact absurd (show false=true from f) Zc
 |int a=>
   obtain⟨d,rfl⟩:=e;cases x with
   |aT=>cases c;exact SeqAt.EqAt.int_none a d
   |bl b=>cases c;exact SeqAt.EqAt.int_bool a d b
   |int b=>obtain⟨t,rfl⟩:=c;exact SeqAt.EqAt.int_int a d b t
   |str b=>obtain⟨t,rfl⟩:=c;exact SeqAt.EqAt.int_str a d b t
   |_=>exact absurd (show false=true from f) Zc
 |str a=>
   obtain⟨d,rfl⟩:=e;cases x with
   |aT=>cases c;exact SeqAt.EqAt.str_none a d
   |bl b=>cases c;exact SeqAt.EqAt.str_bool a d b
   |int b=>obtain⟨t,rfl⟩:=c;exact SeqAt.EqAt.str_int a d b t
   |str b=>obtain⟨t,rfl⟩:=c;exact SeqAt.EqAt.str_str a d b t
   |_=>exact absurd (show false=true from f) Zc
 |_=>exact absurd (show false=true from fy) Zc
def LH(x:V)(u:Value):Bool:=match u with
 |.none=>MD .aT x
 |.bool b=>MD (.bl b) x
 |.int i _=>MD (.int i) x
 |.str z _=>MD (.str z) x
 |_=>false
def N2(r:RelV y u)(f:WB y=true):LH x u=MD y x:=by
 cases y with
 |aT=>cases r;rfl
 |bl b=>cases r;rfl
 |int i=>obtain⟨t,rfl⟩:=r;rfl
 |str z=>obtain⟨t,rfl⟩:=r;rfl
 |_=>exact absurd (show false=true from f) Zc
theorem SO:∀{xs:List V}{us:B5},ZN xs us->xs.all WB=true->us.any (LH x)=xs.any λy=>MD y x
 |_,_,.nil,_=>rfl
 |y::xs,u::us,.cons r t,f=>by rw[xo,Kb]at f;rw[EX,EX,N2 r f.1,SO t f.2]
theorem UD(d:RelV x v)(e:WB x=true):∀{xs:List V}{us:B5},ZN xs us->xs.all WB=true->∀u∈us,SeqAt.EqAt A s u v (LH x u)
 |_,_,.nil,_=>λu c=>by cases c
 |y::xs,u::us,.cons r t,f=>λg c=>by
   rw[xo,Kb]at f;rcases Y5.mp c with rfl|c
   ·rw[N2 r f.1];exact FX r d f.1 e
   ·exact UD d e t f.2 g c
def AX(x:V)(xs:List V):Bool:=xs.any λy=>MD y x
def sF(K:B0)(d:Bool):R2:=λx y H Q=>∃p c,y=.ref p/\(XI K H p c\/XO K H p c)/\WB x=true/\c.all WB=true/\Q (.bl (if d then !AX x c else AX x c)) H
def OR:XV X (compareOp .In) (sF X.K false):=by
 intro f s l H x y v u Q I g j h;obtain⟨p,m,rfl,d,i,fs,q⟩:=h;cases j;rcases d with d|d
 ·obtain⟨c,r,pl,k⟩:=I.list d;refine SeqAt.in_listAt (LH x) pl.isList (λw e=>UD g i r fs w (by simpa using e)) ⟨.bl _,H,I,rfl,?_⟩
  rw[show c.toArray.any (LH x)=c.any (LH x) by simp,SO r fs]
  exact q
 ·obtain⟨c,r,pl,k⟩:=I.tuple d;refine SeqAt.in_tupleAt (LH x) pl (λw e=>UD g i r fs w (by simpa using e)) ⟨.bl _,H,I,rfl,?_⟩
  rw[show c.toArray.any (LH x)=c.any (LH x) by simp,SO r fs]
  exact q
def SK:YN X (.builtin "len") (λxs H Q=>∃p ys,xs=[.ref p]/\(XI X.K H p ys\/XO X.K H p ys)/\Q (.int ys.length) H):=by
 intro g s k H xs l Q I r h;obtain⟨p,ys,rfl,d,q⟩:=h;obtain⟨u,rfl,i⟩:=vals1 r;cases i;have m:=VY;rcases d with d|d
 ·obtain⟨e,f,pl,j⟩:=I.list d;have c:=f.length;exact Calls.call_len_list pl.isList (by simp only[List.size_toArray]<;>lia) ⟨.int ys.length,H,I.tok _,⟨s.toks+1,by rw[Za,c]⟩,q⟩
 ·obtain⟨e,f,pl,j⟩:=I.tuple d;have c:=f.length;exact len_tuple pl (by simp only[List.size_toArray]<;>lia) ⟨.int ys.length,H,I.tok _,⟨s.toks+1,by rw[Za,c]⟩,q⟩
def SI:YN X (.builtin "len") (λxs H Q=>∃z,xs=[.str z]/\z.length<=sizeLine/\Q (.int z.length) H):=by intro c s d H xs e Q I r h;obtain⟨z,rfl,f,q⟩:=h;obtain⟨u,rfl,t,rfl⟩:=vals1 r;have g:=VY;exact len_str (by lia) ⟨.int z.length,H,I.tok _,⟨_,rfl⟩,q⟩
def YN.or(h:YN X f r)(h':YN X f r'):YN X f (λxs H Q=>r xs H Q\/r' xs H Q):=by
 intro c s d H xs e Q I rs q;rcases q with q|q
 ·exact h c s d H xs e Q I rs q
 ·exact h' c s d H xs e Q I rs q
def TL:YN X (.type "tuple") (λxs H Q=>∃p ys,xs=[.ref p]/\((XI X.K H p ys/\∀l,H l=none->Q (.ref l) (upd H l (.tup ys)))\/(XO X.K H p ys/\Q (.ref p) H))):=by
 intro c s j H xs v Q I r h;obtain⟨p,ys,rfl,h⟩:=h;obtain⟨u,rfl,n⟩:=vals1 r;cases n;rcases h with⟨g,q⟩|⟨g,q⟩
 ·obtain⟨d,i,pl,k⟩:=I.list g;have m:=i.length;refine call_tuple_list pl.isList (λf t=>?_) (by simp only[List.size_toArray]<;>lia)
  have O:Inv X c j H {s with heap:=f}:=I.kept (t':=s.toks) t
  have U:Inv X c j (upd H f.objs.size (.tup ys)) {s with heap:=f.push {cls:=.type "tuple",data:=.seq d.toArray} }:=
   O.laid (t':=s.toks) (λb o e=>YH _ e) (YL _) (show Y3 X.prog X.w _ _ _ (.tup ys)from⟨k,d,i,Ee _ _⟩)
  exact⟨.ref f.objs.size,_,U,rfl,q _ (O.aI.fresh (YL _))⟩
 ·obtain⟨d,i,pl,k⟩:=I.tuple g;exact call_tuple_same pl ⟨.ref p,H,I,rfl,q⟩
def we(K:B0)(T:String)(x:V)(H:Hp):Prop:=match x with
 |.str _=>T = "str"
 |.int _=>T = "int"
 |.ref p=>(T = "list"/\∃d,XI K H p d)\/(T = "tuple"/\∃o,K.lookup p=some o/\o.cls=.type "tuple"/\o.dict=none) \/
   (T = "dict"/\((∃c,H p=some (.dK c))\/∃c,H p=some (.dT c)))\/(T = "set"/\∃S n,H p=some (.set S n))
 |_=>False
def HC(I:Inv X aC σ H s)(r:RelV x v)(ty:we X.K T x H):
  s.TypeIs v T/\∀a,v=.ref a->∃ob,s.heap.get? a=some ob/\ob.dict=none:=by
 cases x with
 |str z=>
   obtain⟨t,rfl⟩:=r;cases(show T = "str" from ty)
   exact⟨typeIs_str s z t,λy e=>nomatch e⟩
 |int i=>
   obtain⟨t,rfl⟩:=r;cases(show T = "int" from ty)
   exact⟨typeIs_int s i t,λy e=>nomatch e⟩
 |ref p=>
   cases r;rcases ty with⟨rfl,q,k⟩|⟨rfl,o,d,l,g⟩|⟨rfl,d⟩|⟨rfl,S,n,d⟩
   ·obtain⟨m,_,pl,_⟩:=I.list k;refine⟨pl.isList.typeIs,λa e=>?_⟩
    cases e;obtain⟨o,n,e,c,g,_⟩:=pl;exact⟨o,e,g⟩
   ·refine⟨⟨o,I.cE p o d,l⟩,λa e=>?_⟩
    cases e;exact⟨o,I.cE _ o d,g⟩
   ·have z:∃o,s.heap.get? p=some o/\o.ExactDict:=by
     rcases d with⟨h,d⟩|⟨h,d⟩
     ·obtain⟨_,_,_,_,o,_,_,e,f,_⟩:=I.aI p _ d;exact⟨o,e,f⟩
     ·obtain⟨_,_,_,_,o,_,_,e,f,_⟩:=I.aI p _ d;exact⟨o,e,f⟩
    obtain⟨o,e,f⟩:=z;refine⟨⟨o,e,f.1⟩,λa j=>?_⟩
    cases j;exact⟨o,e,f.2.1⟩
   ·obtain⟨o,_,_,_,e,f,_⟩:=I.aI p _ d;refine⟨⟨o,e,f.1⟩,λa j=>?_⟩
    cases j;exact⟨o,e,f.2.1⟩
 |_=>exact False.elim ty
def vx(K:B0)(T:String)(r:V->List V->Hp->VK->Prop)(d:TE)(t:TA):TE:=λc H Q=>d c H λx I=>we K T x I/\t c I λe O=>r x e O Q
variable{o e:Expr}{es:B8}{to:TE}{t:TA}{name:Str}{apos af:Pos}{T id:String}{r:V->List V->Hp->VK->Prop}
def C6(p:PlainAttrs T)(i:Slot T name id)(k:typeOf (.builtin id)=pure (.type "method_descriptor"))(q:yn X id r)(ho:PE X o to)(u:PA X (e::es) t)
  (f:autoParam (attributeBase o name X.env (eval o X.env)=eval o X.env) qAA)
  (j:autoParam (((backTo af (starEach (e::es) X.env)).all (fun x=>!x.1)&&(backToKw af (keywordEach [] X.env)).all (fun x=>x.1.isSome)
   &&decide ((e::es).length+([]:List Keyword).length+(if([]:List Keyword).isEmpty then 0 else 1)<30))=true) qAA)
  (g:autoParam ((apos.endLine==af.line)=true) qAA) (hs:autoParam (starEach (e::es) X.env=(false,eval e X.env)::starEach es X.env) qAA) (d:autoParam ((backTo af (starEach es X.env)).any (·.1)=false) qAA) :
  PE X (.Call (.Attribute o name apos) (e::es) [] af) (vx X.K T r to t):=by
 intro c s l H Q I h;refine wpAny_Call_method_late f j g rfl (YO (ho c s l H _ I h) λv w ⟨x,U,O,m,ty,y⟩=>?_)
 obtain⟨z,h2⟩:=HC O m ty;refine⟨T,id,p,i,k,z,h2,?_⟩;have n:=u af c w l U _ O y;rw[hs]at n ⊢
 refine Calls.callWith_builtin (by show(false||(backTo af (starEach es X.env)).any (·.1))=false;rw[d]<;>rfl) (Calls.evalArgs_plain ?_)
 exact YO n λus s2 ⟨vs,H2,I2,r2,q2⟩=>q c s2 l H2 x vs v us Q I2 m r2 q2
end
open PyProof.Rows
def FR(X:Cx)(id:String)(r:V->List V->Hp->VK->Prop):Prop:=
 ∀(a:A8) (s:Shared) (b:St) (H:Hp) (x:V) (c:List V) (v:Value) (d:B5) (Q:VK),Inv X a b H s->RelV x v->ZN c d->r x c H Q->
   wpAny X.M X.A (call (.builtin id) (v::d)) (EP X a b Q) X.xe s
def ZN.one:∀{x:V}{us:B5},ZN [x] us->∃u,us=[u]/\RelV x u
 |_,_,.cons r .nil=>⟨_,rfl,r⟩
theorem ZN.eraseIdx:∀{xs:List V}{us:B5} (i:Nat),ZN xs us->ZN (xs.eraseIdx i) (us.eraseIdx i)
 |_,_,_,.nil=>.nil
 |_,_,0,.cons _ t=>t
 |_,_,i+1,.cons r t=>.cons r (ZN.eraseIdx i t)
theorem ZN.rep(h:ZN xs us):∀k:Nat,ZN (List.replicate k xs).flatten (List.replicate k us).flatten
 |0=>.nil
 |k+1=>by rw[Kx,Kx,CY,CY];exact ZN.append h (ZN.rep h k)
theorem TC:∀(l:List α) (i:Nat),(l.eraseIdx i).length<=l.length
 |[],_=>YL _
 |_::_,0=>Nat.le_succ _
 |_::r,i+1=>Nat.succ_le_succ (TC r i)
theorem foldl_rep(aE:B5):∀(k:Nat) (acc:B5),
  List.foldl (λa b=>a++b) acc.toArray (List.replicate k aE.toArray)=(acc++(List.replicate k aE).flatten).toArray
 |0,acc=>by simp
 |k+1,acc=>by
   have e:acc.toArray++aE.toArray=(acc++aE).toArray:=by simp
   have c:(acc++aE)++(List.replicate k aE).flatten=acc++(List.replicate (k+1) aE).flatten:=by rw[Kx,CY,IM]
   rw[<-c,<-foldl_rep aE k (acc++aE),<-e,Kx,OF]
section
variable{X:Cx}{aC:A8}{σ:St}{H:Hp}{s:Shared}{l b:Addr}{xs ys zs:List V}
def Inv.iX{aE its':B5}{n:Nat}{f:B4->B4}{t':Nat}(I:Inv X aC σ H s)(a:H l=some (.lst xs))
  (e:s.heap.get? l=some {cls:=.type "list",data:=.seq aE.toArray n}) (c:f aE.toArray=its'.toArray) (d:ZN ys its') (hz:ys.length<=sizeLine) :
  Inv X aC σ (upd H l (.lst ys)) {s with heap:=s.heap.update l (Obj.mapSeq f),toks:=t'}:=by
 have q:=PySem.IsL.update e f;rw[c]at q;refine I.write (x:=l) (e:=l) (by rw[a];exact trivial) (.inl rfl) (λi u g h=>(BQ s.heap (Obj.mapSeq f) (Ne.symm g)).trans h) ⟨_,q⟩ ?_
 exact⟨hz,its',_,d,q⟩
def Inv.kT(I:Inv X aC σ H s)(a:ZN ys aE)(hz:ys.length<=sizeLine):
  Inv X aC σ (upd H s.z (.lst ys)) {s with heap:=s.heap.push {cls:=.type "list",data:=.seq aE.toArray},toks:=t'}:=
 I.laid (λy y q=>YH _ q) (YL _) ⟨hz,aE,0,a,YZ _ rfl⟩
theorem Inv.fresh(I:Inv X aC σ H s):H s.z=none:=I.aI.fresh (YL _)
def Inv.fI(I:Inv X aC σ H s)(a:H l=some (.lst xs)):xs.length<=sizeLine/\∃(aE:B5) (n:Nat),ZN xs aE/\xs.length=aE.length/\s.heap.get? l=some {cls:=.type "list",data:=.seq aE.toArray n}:=by obtain⟨z,aE,n,r,e⟩:=I.aI l _ a;exact⟨z,aE,n,r,r.length,e⟩
def TW{n:Nat}(h:n<=sizeLine):Builtin.List.listTooLong n=false:=by unfold Builtin.List.listTooLong;exact ZQ (by lia)
end
section
variable{X:Cx}
def i6:V->List V->Hp->VK->Prop:=λx b H Q=>∃l a y,x=.ref l/\b=[y]/\H l=some (.lst a)/\a.length<sizeLine/\Q .aT (upd H l (.lst (a++[y])))
def Tk:FR X "list.append" i6:=by
 intro b s g H x i v j Q I d rv h;obtain⟨l,k,y,rfl,rfl,c,m,q⟩:=h;cases d;obtain⟨u,rfl,f⟩:=rv.one;obtain⟨z,a,n,r,o,e⟩:=I.fI c;refine HE F.slot_list_append ⟨_,e,rfl⟩ F.entry_list_append (F.args_list_append_2 _ _) (PySem.list_append l a.toArray n u (by rw[Za];lia)) ⟨e,?_⟩
 refine⟨.aT,_,I.iX (its':=a++[u]) c e (by simp) (r.append (.cons f .nil)) ?_,rfl,q⟩
 rw[Zm,List.length_singleton]
 lia
def i7:V->List V->Hp->VK->Prop:=λx d H Q=>∃l b a c,x=.ref l/\d=[.ref b]/\H l=some (.lst a)/\H b=some (.lst c)/\a.length+c.length<=sizeLine/\Q .aT (upd H l (.lst (a++c)))
def FO:FR X "list.extend" i7:=by
 intro aC s σ H x vs v us Q I rx rv h;obtain⟨l,b,xs,zs,rfl,rfl,hH,hB,hz,q⟩:=h;cases rx;obtain⟨u,rfl,ru⟩:=rv.one;cases ru;obtain⟨z,aE,n,r,hl,e⟩:=I.fI hH;obtain⟨z2,ai,n2,r2,hl2,e2⟩:=I.fI hB;have hsz:aE.toArray.size+ai.toArray.size<=sizeLine:=by rw[Za,Za];lia
 have ar:¬(!aE.toArray.isEmpty&&Builtin.List.listTooLong (aE.toArray.size+ai.toArray.size))=true:=by rw[TW hsz,Bool.and_false];exact Zc
 refine HE F.slot_list_extend ⟨_,e,rfl⟩ F.entry_list_extend (F.args_list_extend_2 _ _)
  (AutoSeq1.list_extend_list_list_0 l aE.toArray n b ai.toArray n2 ar (by rw[Za];lia) (by lia)) ⟨e,e2,?_⟩
 refine⟨.aT,_,I.iX (its':=aE++ai) hH e (by simp) (r.append r2) ?_,rfl,q⟩
 rw[Zm]
 lia
def ki:V->List V->Hp->VK->Prop:=λx b H Q=>∃l a i k y,x=.ref l/\b=[.int i]/\H l=some (.lst a)/\-(2^63)<=i/\i<2^63/\seqIndex? i a.length=some k/\a[k]?=some y/\Q y (upd H l (.lst (a.eraseIdx k)))
def N0:FR X "list.pop" ki:=by
 intro c s σ H x vs v us Q I f rv h;obtain⟨l,g,i,k,y,rfl,rfl,d,j,m,o,p,q⟩:=h;cases f;obtain⟨u,rfl,O⟩:=rv.one;obtain⟨t,rfl⟩:=O;obtain⟨z,a,n,r,U,e⟩:=I.fI d;obtain⟨w,hw,b⟩:=r.get p;refine HE F.slot_list_pop ⟨_,e,rfl⟩ F.entry_list_pop (F.args_list_pop_2 _ _)
  (MeetsSeq.list_pop_at l a.toArray n i t k w (fitsIndex_both j m) (by rw[Za,<-U];exact o) (by rw[<-AH];exact hw) (by rw[Za];lia)) ⟨e,?_⟩
 refine⟨y,_,I.iX (its':=a.eraseIdx k) d e ?_ (r.eraseIdx k) ?_,b,q⟩
 ·show a.toArray.eraseIdxIfInBounds k=(a.eraseIdx k).toArray;rw[List.eraseIdxIfInBounds_toArray]
 ·have:=TC g k
  lia
def ng:R2:=λx y H Q=>∃l b a c,x=.ref l/\y=.ref b/\H l=some (.lst a)/\H b=some (.lst c)/\a.length+c.length<=sizeLine/\∀p,H p=none->Q (.ref p) (upd H p (.lst (a++c)))
def HI:XV X (binaryOp .Add) ng:=by
 intro d s t H x y v u Q I f g h;obtain⟨l,b,w,O,rfl,rfl,i,j,U,q⟩:=h;cases f;cases g;obtain⟨z,c,n,r,hl,e⟩:=I.fI i;obtain⟨z2,a,n2,k,m,o⟩:=I.fI j;refine PySem.P.add_list e o ?_ (by rw[Za,Za];lia)
 have p:c.toArray++a.toArray=(c++a).toArray:=by simp
 rw[p];exact⟨.ref _,_,I.kT (t':=s.toks) (r.append k) (by rw[Zm];lia),rfl,q _ I.fresh⟩
def nh:R2:=λx y H Q=>∃l k a,x=.ref l/\y=.int k/\H l=some (.lst a)/\-(2^63)<=k/\k<2^63/\a.length*k.toNat<=sizeLine /\
 ∀p,H p=none->Q (.ref p) (upd H p (.lst (List.replicate k.toNat a).flatten))
def Md(xs:List α)(k:Nat):(List.replicate k xs).flatten.length=k*xs.length:=by
 induction k with
 |zero=>simp
 |succ k ih=>rw[Kx,CY,Zm,ih,Nat.succ_mul,Nat.add_comm]
def OE:XV X (binaryOp .Mult) nh:=by
 intro aC s σ H x y v u Q I rx ry h;obtain⟨l,k,xs,rfl,rfl,hH,h1,h2,hz,q⟩:=h;cases rx;obtain⟨t,rfl⟩:=ry;obtain⟨z,aE,n,r,hl,e⟩:=I.fI hH;have hlen:aE.toArray.size*k.toNat<=sizeLine:=by rw[Za,<-hl];exact hz
 have hcap:¬aE.toArray.size*k.toNat>(2^63-1) / 8:=by
  have:(sizeLine:Nat)<=(2^63-1) / 8:=by decide
  lia
 have hfit:¬(!Builtin.List.listFitsIndex k)=true:=by rw[fitsIndex_both h1 h2];exact Zc
 have ar:¬Builtin.List.listTooLong (aE.toArray.size*k.toNat)=true:=by rw[TW hlen];exact Zc
 have hnew:List.foldl (λx1 x2=>x1++x2) #[] (List.replicate (if aE.toArray.isEmpty=true then 0 else k.toNat) aE.toArray)=(List.replicate k.toNat aE).flatten.toArray:=by
  have f0:∀m:Nat,List.foldl (λx1 x2=>x1++x2) #[] (List.replicate m aE.toArray)=(List.replicate m aE).flatten.toArray:=λm=>by have:=foldl_rep aE m [];rw[Au]at this;exact this
  rw[f0];cases aE with
  |nil=>simp
  |cons a r'=>rw[YQ (by simp)]
 refine wpAny_binaryOp_repeat_ref (T := "list") (U := "int") (by decide) ⟨_,e,rfl⟩ (λs'=>typeIs_int s' k t) noFill_list_mul F.fills_int_mul F.slot_int_rmul repeat_list F.slot_int_index.lookup
  (HE F.slot_int_rmul (typeIs_int s k t) F.entry_int_rmul (F.args_int_rmul_2 _ _) (int___rmul___int_list k t l aE.toArray n)
    ⟨e,rfl,⟨_,e,rfl⟩,HE F.slot_list_mul ⟨_,e,rfl⟩ F.entry_list_mul (F.args_list_mul_2 _ _) (AutoListH.list___mul___list_int_3 l aE.toArray n k t hfit hcap ar) ⟨e,?_⟩⟩)
 rw[hnew];exact⟨.ref _,_,I.kT (t':=s.toks) (r.rep k.toNat) (by rw[Md,MH];exact hz),rfl,q _ I.fresh⟩
end
end L2
namespace Att
open PySem PySem.W PySem.Calls PyProof.Rows
def UN:∀(ns:C1) (vs:B5),WellAll P h vs (ns.map WData.int)->IntsAre vs ns:=by
 intro ns;induction ns with
 |nil=>intro vs w;rw[FD]at w;cases w;exact .nil
 |cons n ns ih=>
   intro vs w;rw[Zj]at w;cases w with
   |cons a b=>cases a;exact .cons _ _ (ih _ b)
def Pe{l:OpenLaw}{n:Nat}(hn:l.most=some n){P:Params}{h:Heap}{args:List WData}{vals:B5}
  (kU:l.row.toRowW.claim.pre args=true) (sL:WellAll P h vals args) :
  ∃a vs ns,vals=[Value.ref a]/\args=[WData.list (ns.map WData.int)]/\h.get? a=some {cls:=.type "list",data:=.seq vs.toArray}/\IntsAre vs ns/\ns.length<=n:=by
 have hsh:WShape.hasAll [] args [.list .int]=true:=(pre_splitW kU).1;have hc:l.pre.holds [] {args:=args}=true:=(pre_splitW kU).2;obtain⟨d,r,rfl,h1,h2⟩:=hasAllW_cons hsh;obtain rfl:=hasAllW_nil h2;obtain⟨xs,rfl,h3⟩:=hasW_list h1;obtain⟨ns,rfl⟩:=items_int h3;have hlen:ns.length<=n:=by
  unfold OpenLaw.pre at hc;have h4:(WTm.not (.lt (.lit (.int (n:Int))) (.len (.arg 0)))).holds [] {args:=[.list (ns.map .int)]}=true:=by have h4:=(holds_andW hc).1;rw[hn]at h4;exact h4
  have h5:=condW_of h4 (w_not (w_lt w_lit (w_len_list (w_arg rfl))));rw[YT]at h5;refine Nat.le_of_not_lt λq=>?_
  have q':(n:Int)<((ns.length:Nat):Int):=by lia
  first
   |(rw[Zg q']at h5;exact absurd h5 (by decide))
   |(simp at h5;lia)
 cases sL with
 |cons w1 w2=>
   cases w2;cases w1 with
   |list ho hall=>exact⟨_,_,ns,rfl,rfl,ho,UN ns _ hall,hlen⟩
def OV(l:OpenLaw)(args:List WData):l.row.toRowW.claim.post args (.bool true) args=true:=
 postW_of (r:=l.row.toRowW) (X:=(true==true))
  (show WShape.has [] (.bool true) .bool=true by first|rfl|decide|simp[WShape.has,WShape.arms,WShape.armsAll])
  (show(WTm.eq .res (.lit (.bool true))).value [] {args:=args,res:=some (.bool true),after:=args}=some (.bool (true==true))from w_eq_bool (w_res rfl) w_lit) rfl
def gI{l:OpenLaw}{n:Nat}{q:C5}{loose:C3}{XP:A4->B6}{YP:World->B6}{d:DefRec}
  (O:l.most=some n) (m:d.params.defaults=[])
  (call:∀(w:World) (c b:Shared) (mg p:A4) (g:Addr) (o:Obj) (s k doc:Value) (a:Addr) (vs:B5) (ns:C1),
    Ground q loose [] XP w c mg p b.heap->YP w b.heap->
    b.heap.get? g=some o->o.data=.func (docDef d.name d.params d.body d.scope s k doc)->b.heap.CodeRec k d.name->mg d.name=some (.ref g)->
    b.heap.get? a=some {cls:=.type "list",data:=.seq vs.toArray}->IntsAre vs ns->ns.length<=n->b.gens=#[]->
    codeAny (model l.prog w) callerA (.call (.ref g) ⟨[.ref a],[]⟩) (λr s'=>r=.ok (.ret (.bool true))/\OldK b.heap s'.heap/\s'.os=b.os/\AllBare s'.gens) b) :
  WalkO q loose XP YP l.row.toRowW d [] (λf vs=>PySem.call f vs):=by
 intro w c b mg p G Y g o s k doc U kV ho hd t x u hg y z as h I hrd v hlo;obtain rfl:U=.none:=Dflts.none x m;obtain rfl:kV=.none:=Dflts.noKw x;obtain⟨a,vs,ns,rfl,rfl,i,e,j⟩:=Pe O h v;refine enter_call (MA (call w c b mg p g o s k doc a vs ns G Y ho (fd_plain hd) t u i e j hg) λr s' hq=>?_)
 obtain⟨rfl,h2,h3,h4⟩:=hq;exact⟨.inl ⟨.bool true,.bool true,[],rfl,λZ=>rfl,.bool true,OV l _,λZ=>⟨List.Pairwise.nil,λZ hm=>(nomatch hm)⟩⟩,h2,h3,h4⟩
end Att
namespace L2
open PyProof.Rows
theorem WG:∀{vs:B5}{ns:C1},IntsAre vs ns->ZN (ns.map V.int) vs
 |_,_,.nil=>.nil
 |_,_,.cons n t h=>.cons ⟨t,rfl⟩ (WG h)
open PyProof.Rows
open PyProof.Rows
def S4(s:Stmt)(j:Nat):Stmt:=match s with
 |.ClassDef _ _ _ a _ _ _ _ _ _ _=>a.getD j (.Pass ⟨0,0,0,0⟩)
 |_=>.Pass ⟨0,0,0,0⟩
def Y2(s:Stmt):Arguments:=match s with
 |.FunctionDef _ a _ _ _ _ _ _ _ _=>a
 |_=>{posonlyargs:=[],args:=[],vararg:=none,kwonlyargs:=[],kw_defaults:=[],kwarg:=none,defaults:=[]}
def ZI(s:Stmt):List Stmt:=match s with
 |.FunctionDef _ _ b _ _ _ _ _ _ _=>b
 |_=>[]
def ZY(s:Stmt):Scope:=match s with
 |.FunctionDef _ _ _ _ _ _ a _ _ _=>a
 |_=>{kind:=.function,names:=[],isGenerator:=false,isCoroutine:=false}
abbrev E0:XK:=λ_ _ _=>False
structure P8(K:B0)(x qual:Str)(st:Stmt)(f:Addr)(fd:FuncData):Prop where
 ex:∃(oc:Value) (od:B3) (kV doc pm:Value) (an:B3) (a7 ct:Value) (br:Array B1),
  fd=W.fnOf x qual (Y2 st) (ZI st) (ZY st) .none kV doc pm an a7 ct/\K.lookup f=some ⟨oc,od,.func fd,br⟩/\W.codeIn K a7 qual=true
 kp:W.keepIn K (.ref f)=true
section
variable{P:C5}{w:World}{K:B0}{mg:A4}{base:Heap}
def P8.binds{x a:Str}{st:Stmt}{f:Addr}{e:FuncData}{ps:C3}(F:P8 K x a st f e)
  (h:∀(kV doc c:Value) (d:B3) (b ct:Value) (us:B5),us.length=ps.length->bindArgs (W.fnOf x a (Y2 st) (ZI st) (ZY st) .none kV doc c d b ct) ⟨us,[]⟩=pure (ps.zip us)):Binds K e ps []:=by
 obtain⟨j,k,kV,doc,c,d,b,ct,g,rfl,l,i⟩:=F.ex;exact .all (h kV doc c d b ct)
def N9{x a:Str}{st:Stmt}{f:Addr}{h:Value}{od e:B3}{d:Array B1}{kV doc g b ct:Value}(l:K.lookup f=some ⟨h,od,.func (W.fnOf x a (Y2 st) (ZI st) (ZY st) .none kV doc g e b ct),d⟩)
  (c:W.codeIn K b a=true) (k:W.keepIn K (.ref f)=true):P8 K x a st f (W.fnOf x a (Y2 st) (ZI st) (ZY st) .none kV doc g e b ct):=⟨⟨h,od,kV,doc,g,e,b,ct,d,rfl,l,c⟩,k⟩
end
section
variable{X:Cx}
def pv(i:Nat)(b:autoParam (X.N[i]?=some x) qAA)(c:JE X.env.scope x:=by first|exact Or.inl rfl|exact Or.inr (Or.inl rfl)|exact Or.inr (Or.inr rfl))(hd:autoParam ((x==("__debug__":Str))=false) qAB)
  (a:autoParam ((x==("__classdict__":Str))=false) qAB):PE X (.Name x pos) (ES i):=UF b c hd a
end
def SA{A B:Prop}(h:B):if false=true then A else B:=by rw[YQ Zc];exact h
def So{A B:Prop}(h:A):if true=true then A else B:=by rw[YK rfl];exact h
def VU(H I:Hp):Prop:=∀b o,H b=some o->I b=some o
def VU.refl(H:Hp):VU H H:=λz z h=>h
mutual
inductive P4(K:B0)(H:Hp):V->PyData->Prop
 |aT:P4 K H .aT .none
 |bl (b:Bool):P4 K H (.bl b) (.bool b)
 |int (i:Int):P4 K H (.int i) (.int i)
 |str (x:Str):P4 K H (.str x) (.str x)
 |lst {a:Addr}{xs:List V}{ds:List PyData}:XI K H a xs->Pl K H xs ds->P4 K H (.ref a) (.list ds)
 |tup {a:Addr}{xs:List V}{ds:List PyData}:XO K H a xs->Pl K H xs ds->P4 K H (.ref a) (.tuple ds)
inductive Pl(K:B0)(H:Hp):List V->List PyData->Prop
 |nil:Pl K H [] []
 |cons {v:V}{d:PyData}{vs:List V}{ds:List PyData}:P4 K H v d->Pl K H vs ds->Pl K H (v::vs) (d::ds)
end
section
variable{X:Cx}{aC:A8}{σ:St}{H:Hp}{s:Shared}
def P4.reads(I:Inv X aC σ H s){v:V}{d:PyData}{u:Value}(h:P4 X.K H v d):RelV v u->∃as,Reads s.heap u d as:=
 P4.rec (motive_1:=λv d z=>∀u,RelV v u->∃as,Reads s.heap u d as) (motive_2:=λvs ds z=>∀us,ZN vs us->∃as,ReadsAll s.heap us ds as)
  (λu r=>by cases r;exact⟨_,.none⟩)
  (λb u r=>by cases r;exact⟨_,.bool b⟩)
  (λi u r=>by obtain⟨t,rfl⟩:=r;exact⟨_,.int i t⟩)
  (λi u r=>by obtain⟨t,rfl⟩:=r;exact⟨_,.str i t⟩)
  (λh hs ih u r=>by cases r;obtain⟨aE,rv,⟨o,n,h1,h2,_,h3⟩,_⟩:=I.list h;obtain⟨as,ra⟩:=ih _ rv;exact⟨_,.list h1 h2 h3 ra⟩)
  (λh hs ih u r=>by cases r;obtain⟨aE,rv,⟨o,h1,h2,n,h3⟩,_⟩:=I.tuple h;obtain⟨as,ra⟩:=ih _ rv;exact⟨_,.tuple h1 h2 h3 ra⟩)
  (λu r=>by cases r;exact⟨_,.nil⟩)
  (λh hs i1 i2 u r=>by
    cases r with
    |cons r1 r2=>obtain⟨a1,e1⟩:=i1 _ r1;obtain⟨a2,e2⟩:=i2 _ r2;exact⟨_,.cons e1 e2⟩)
  h u
end
def VW{H:Hp}{p:Addr}(h:H p=none)(o:HO):VU H (upd H p o):=λb u q=>by rw[ZU (ZO q h)];exact q
section
variable{X:Cx}
def Ol(K:B0)(c:Bool):R2:=λx y H Q=>∃a b,P4 K H x a/\P4 K H y b/\a.canLay0=true/\b.canLay0=true/\a.depth<=60/\Q (.bl (if c then !PyData.eqv a b else PyData.eqv a b)) H
def Uv(k:X.A.units+64<cLine):XV X (compareOp .Eq) (Ol X.K false):=by intro a s l H x y v u Q I b c h;obtain⟨m,n,d,e,f,g,o,q⟩:=h;obtain⟨p,i⟩:=d.reads I b;obtain⟨r,j⟩:=e.reads I c;exact PySem.SeqAt.compareEq_reads i j f g (by lia) ⟨.bl _,H,I,rfl,q⟩
def Uz(k:X.A.units+64<cLine):XV X (compareOp .NotEq) (Ol X.K true):=by intro a s l H x y v u Q I b c h;obtain⟨m,n,d,e,f,g,o,q⟩:=h;obtain⟨p,i⟩:=d.reads I b;obtain⟨r,j⟩:=e.reads I c;exact PySem.SeqAt.compareNe_reads i j f g (by lia) ⟨.bl _,H,I,rfl,q⟩
def VH(i j:Int):Prop:=IntMulOk i j
def Rc:XV X (binaryOp .Mult) (rI VH λi j=>.int (i*j)):=AN λz z z z z z z a q=>mul_int q a
def Lw:YN X (.builtin "isinstance") (λxs H Q=>∃x t c b,xs=[x,.ty c]/\WS X.K H x t/\W.kitOne X.K t (.type c)=some b/\Q (.bl b) H):=by intro a s g H xs i Q I r h;obtain⟨x,t,c,b,rfl,ty,e,q⟩:=h;obtain⟨u,j,rfl,d,f⟩:=vals2 r;cases f;exact U1 I d ty e λk=>⟨.bl b,H,I.tok _,rfl,q⟩
end
open PyProof.Rows
structure XZ(K:B0)(mg:A4)(x:Str)(st:Stmt):Prop where
 ex:∃f fd,P8 K x x st f fd/\mg x=some (.ref f)
def Ms{K:B0}{h:Heap}{mg:A4}{x:Str}{st:Stmt}{f:Addr}{e:Value}{od g:B3}{d:Array B1}{kV doc i b ct:Value}(X:K.In h)(G:h.Ns mainGlobals mg)
  (a:W.nsIn K mainGlobals x=some (some (.ref f))) (l:K.lookup f=some ⟨e,od,.func (W.fnOf x x (Y2 st) (ZI st) (ZY st) .none kV doc i g b ct),d⟩) (c:W.codeIn K b x=true) (k:W.keepIn K (.ref f)=true):XZ K mg x st:=
 ⟨f,_,N9 l c k,IF X G a⟩
section
variable{X:Cx}{j k:Nat}{ps:C3}{sp:Sp}{x:Str}{p pos:Pos}{e:Expr}{es:B8}{t:TA}
def Xi{id:String}{r:List V->Hp->VK->Prop}(hc:YN X (.builtin id) r)(c:X.mg x=none)(d:PA X (e::es) t)(f:autoParam (Gl X x) qAA)(g:bootBuiltins x=some (.builtin id):=by decide +kernel)(h:autoParam (x≠"__name__") qAB)(a:autoParam ((x==("__debug__":Str))=false) qAB)
  (i:autoParam (starEach (e::es) X.env=(false,eval e X.env)::starEach es X.env) qAA) (b:autoParam ((backTo pos (starEach es X.env)).any (·.1)=false) qAA) :
  PE X (.Call (.Name x p) (e::es) [] pos) (FP r t):=Op hc f c g d h a i b
def Wi{T:String}(b:X.mg x=none)(c:autoParam (Gl X x) qAA)(d:bootBuiltins x=some (.type T):=by decide +kernel)(f:autoParam (x≠"__name__") qAB)(a:autoParam ((x==("__debug__":Str))=false) qAB):PE X (.Name x pos) (tC (.ty T)):=
 LV c b d rfl f a
end
def Y3.there(x:Y3 P w H h a o):∃u,h.get? a=some u:=by
 induction o with
 |lst xs=>obtain⟨_,_,_,_,e⟩:=x;exact⟨_,e⟩
 |tup xs=>obtain⟨_,_,_,o,e,_⟩:=x;exact⟨_,e⟩
 |dK kvs=>obtain⟨_,_,_,_,o,_,_,e,_⟩:=x;exact⟨_,e⟩
 |dT kvs=>obtain⟨_,_,_,_,o,_,_,e,_⟩:=x;exact⟨_,e⟩
 |set S n=>obtain⟨o,_,_,_,e,_⟩:=x;exact⟨_,e⟩
 |ins C dx fs=>obtain⟨_,_,_,e,_⟩:=x;exact⟨_,e⟩
 |own y=>exact x
 |xd fs=>obtain⟨_,⟨o,es,ep,e,_⟩,_⟩:=x;first|exact⟨_,e⟩|exact⟨o,es⟩
 |met g y=>exact⟨_,x⟩
 |mv lo hi=>obtain⟨_,_,_,e⟩:=x;exact⟨_,e⟩
 |dA o u ih=>exact⟨_,x.1⟩
 |eT ps=>obtain⟨_,e,_⟩:=x;exact⟨_,e⟩
 |ext φ=>exact x.2.1
def bZ(P:C5)(w:World):hJ:=λa H s E e c=>
 ∃(x:Addr) (C d:Value) (I:Hp) (B:Heap),e=.ref x∧c.os=s.os∧AllBare c.gens∧Un (WU a) [] H I s.heap c.heap∧WV P w I c.heap∧Heap.FlyingW B a x C d c.heap ∧
   (∀b,I b≠none->∃o,B.get? b=some o)/\(∀b o,s.heap.get? b=some o->b∉WU a->∃f,B.get? b=some f)/\E C none I
def uO{env:Env}{l:C4}{L:Addr}(h:env.frame=some L):WU (env::l)=L::WU l:=by unfold WU;rw[BB,h]
def tY{d:B7}{H I:Hp}{l h h' B:Heap}(u:Un d [] H I l h)(q:B.StaysIn h)(f:B.StaysIn h')(up:h.UpToSlots h')
  (fr:∀b∈d,∃o,h.get? b=some o/\∀vs,o.data≠.fields vs) (g:∀b o,l.get? b=some o->b∉d->∃c,B.get? b=some c):Un d [] H I l h' where
 keep b o e n hb hx:=by have j:=u.keep b o e n hb hx;obtain⟨c,k⟩:=g b o e hb;have a:=q b c k;rw[j]at a;cases a;exact f b o k
 slot b o e n hb hx:=by obtain⟨s,j⟩:=u.slot b o e n hb hx;obtain⟨r,a,m⟩:=fr b hb;rw[j]at a;cases a;obtain⟨i,p⟩:=up b _ j m;exact⟨i,p⟩
 free:=u.free
 there b o e hx:=by
  by_cases hb:b∈d
  ·obtain⟨r,a,m⟩:=fr b hb;obtain⟨i,p⟩:=up b _ a m;exact⟨_,p⟩
  ·obtain⟨c,k⟩:=g b o e hb;exact⟨c,f b c k⟩
 eI:=u.eI
 ey:=u.ey
 eA:=u.eA
def pC{P:C5}{w:World}{I:Hp}{h h' B:Heap}(ok:WV P w I h)(i:B.StaysIn h)(c:B.StaysIn h')(d:∀b,I b≠none->∃o,B.get? b=some o):WV P w I h':=λa o e=>
 (ok a o e).fw (λb u f j=>by
   have k:I b≠none:=by
    rcases f with rfl|f
    ·rw[e];simp
    ·rw[f];simp
   obtain⟨l,g⟩:=d b k;have:=i b l g;rw[j]at this;cases this;exact c b u g) (λz h=>h) (λz z h=>h)
section
variable{P:C5}{w:World}{K:B0}{mg:A4}{base:Heap}{N:C3}{qual:Str}{scope:Scope}{f:Addr}{cd:Value}{A:Around}{outer:C4}{s:Shared}{H:Hp}{E:XK}
abbrev bQ(P:C5)(w:World)(K:B0)(mg:A4)(base:Heap)(N:C3)(qual:Str)(scope:Scope)(f:Addr)(cd:Value)(A:Around)(outer:C4)(s:Shared)(H:Hp)(E:XK):Cx:=
 O0 (bZ P w) P w K mg base N qual scope f cd A outer s H E
def aK:YY (bZ P w) (bQ P w K mg base N qual scope f cd A outer s H E) E:=by
 intro d t H1 s1 e s' I u;obtain⟨x,C,v,O,B,rfl,os,a,y,g,j,r,k,q⟩:=u;have J:Inv (bQ P w K mg base N qual scope f cd A outer s H E) d t O s':=I.gz (ch:=[]) os y g a (λb z=>absurd z (by simp))
 have l:(bQ P w K mg base N qual scope f cd A outer s H E).A.frames=some ((bQ P w K mg base N qual scope f cd A outer s H E).env::outer):=I.ok.frames;have m:∀b∈WU outer,∃o,s'.heap.get? b=some o/\∀vs,o.data≠.fields vs:=λb n=>(j.2.2.1.2.2.mem n).2
 have h:(bQ P w K mg base N qual scope f cd A outer s H E).env.frame=some (bQ P w K mg base N qual scope f cd A outer s H E).env.locals:=rfl;have i:∀b o,s.heap.get? b=some o->b∉WU outer->∃o',B.get? b=some o':=λb o e n=>by
  obtain⟨U,h1⟩:=I.base.there b o e (show b∉([]:B7) by simp)
  refine k b U h1 ?_;show b∉WU ((bQ P w K mg base N qual scope f cd A outer s H E).env::outer);rw[uO h];intro p;rcases Y5.mp p with rfl|p
  ·exact absurd (YW e) (PR.mpr I.ok.above)
  ·exact n p
 show wpAny _ _ (leaving _ (.ref x)) _ _ s';refine wpAny_leaves_onW l rfl j λh' c up=>?_
 exact⟨x,C,v,O,B,rfl,J.os,a,tY J.base j.1 c.1 up m i,pC g j.1 c.1 r,c,r,i,q⟩
def Vb{c:A8}{v:St}{O:Hp}{a:Shared}{h1:Heap}{e:Addr}{C:Value}{args:B5}(I:Inv (bQ P w K mg base N qual scope f cd A outer s H E) c v O a)
  (j:Heap.MadeExcOf a.heap h1 e C args) (q:E C none O):(bQ P w K mg base N qual scope f cd A outer s H E).xe (.ref e) {a with heap:=h1}:=by
 have n:(bQ P w K mg base N qual scope f cd A outer s H E).A.frames=some ((bQ P w K mg base N qual scope f cd A outer s H E).env::outer):=I.ok.frames;have k:(bQ P w K mg base N qual scope f cd A outer s H E).env.frame=some (bQ P w K mg base N qual scope f cd A outer s H E).env.locals:=rfl;have x:a.heap.FunFrames base ((bQ P w K mg base N qual scope f cd A outer s H E).env::outer):=I.stack;have p:∀d∈((bQ P w K mg base N qual scope f cd A outer s H E).env::outer),∀b,d.frame=some b->b∈WU ((bQ P w K mg base N qual scope f cd A outer s H E).env::outer):=λd z b g=>zo.mpr ⟨d,z,g⟩
 have h:(W.hideAll a.heap (WU ((bQ P w K mg base N qual scope f cd A outer s H E).env::outer))).StaysIn a.heap:=λb o q=>W.of_hideAll _ q
 have l:∀b o,s.heap.get? b=some o->b∉WU outer->∃o',(W.hideAll a.heap (WU ((bQ P w K mg base N qual scope f cd A outer s H E).env::outer))).get? b=some o':=λb o e g=>by
  obtain⟨o1,h1⟩:=I.base.there b o e (show b∉([]:B7) by simp)
  refine⟨o1,W.hideAll_get _ h1 ?_⟩;rw[uO k];intro m;rcases Y5.mp m with rfl|m
  ·exact absurd (YW e) (PR.mpr I.ok.above)
  ·exact g m
 have y:∀b,O b≠none->∃o,(W.hideAll a.heap (WU ((bQ P w K mg base N qual scope f cd A outer s H E).env::outer))).get? b=some o:=λb g=>by
  cases a8:O b with
  |none=>exact absurd a8 g
  |some o=>
    have lt:=I.aI.lt a8;have ex:∃o',a.heap.get? b=some o':=(I.aI b o a8).there;obtain⟨o',r⟩:=ex;refine⟨o',W.hideAll_get _ r λm=>?_⟩
    have:=I.eW b m;rw[a8]at this;cases this
 have u:∀b∈WU outer,∃o,h1.get? b=some o/\∀vs,o.data≠.fields vs:=λb g=>by obtain⟨_,o,ho,nf⟩:=x.2.2.mem g;exact⟨o,j.keeps _ _ ho,nf⟩
 have U:Inv (bQ P w K mg base N qual scope f cd A outer s H E) c v O {a with heap:=h1}:=I.kept (t':=a.toks) j.keeps
 show wpAny _ _ (leaving _ (.ref e)) _ _ _;refine wpAny_leaves_madeW n rfl h (W.funFrames_hide x p) j λh' t i Z Z up=>?_
 exact⟨e,C,.ref t,O,_,rfl,U.os,U.bare,tY U.base (λb o e=>j.keeps _ _ (h _ _ e)) i.1 up u l,pC U.aI (λb o e=>j.keeps _ _ (h _ _ e)) i.1 y,i,y,l,q⟩
end
abbrev yd:B5:=[.type "ValueError",.type "Exception",.type "BaseException",.type "object"]
set_option tactic.hygienic true in
def xK{K:B0}{h:Heap}{mg:A4}{x:Str}{C:Addr}{bmB:B5}{newId:String}(X:K.In h)(m:mg x=some (.ref C))(q:W.excIn K C bmB newId=true):OwnCls x C bmB newId mg h:=by
 refine⟨m,?_⟩;unfold W.excIn at q;split at q
 ·rename_i t u j d;split at q
  ·rename_i C' v k o p r n s b a
   (simp only[Bool.not_eq_true',Bool.and_eq_true,beq_iff_eq]at q)
   obtain⟨⟨⟨⟨⟨rfl,rfl⟩,e⟩,w⟩,c⟩,f⟩:=q;obtain⟨y,z,c3,I,O,U,c7,c8,c9,i,c11⟩:=u;dsimp only at b e c f;subst b e;have g:j=#[k,o,p,r,some (.builtin n),s]:=by obtain⟨l⟩:=j;simp only at a;rw[a]
   subst g;exact⟨v,I,y,O,z,U,c7,c8,c9,i,t,k,o,p,r,s,_,X _ _ d,.of_isNs (W.isNs_of_in X c),W.nsMap_none_of_in X c f,W.tail_of_in X w⟩
  ·cases q
 ·cases q
structure Db(K:B0)(mg:A4)(x:Str)(C:Addr):Prop where
 at_:mg x=some (.ref C)
 exc:W.excIn K C yd "ValueError.__new__"=true
section
variable{P:C5}{w:World}{K:B0}{mg:A4}{base:Heap}{N:C3}{qual:Str}{scope:Scope}{f:Addr}{cd:Value}{A:Around}{outer:C4}{s:Shared}{H:Hp}{E:XK}
def Oi{x:Str}{C:Addr}{r af pos:Pos}{e:Expr}{te:TE}(hc:Db K mg x C)(t:PE (bQ P w K mg base N qual scope f cd A outer s H E) e te)
  (u:autoParam (Gl (bQ P w K mg base N qual scope f cd A outer s H E) x) qAA) (hd:autoParam ((x==("__debug__":Str))=false) qAB)
  (a:autoParam (starEach [e] (bQ P w K mg base N qual scope f cd A outer s H E).env=[(false,eval e (bQ P w K mg base N qual scope f cd A outer s H E).env)]) qAA) :
  PS (bQ P w K mg base N qual scope f cd A outer s H E) (.Raise (some (.Call (.Name x r) [e] [] af)) none pos) (λZ j k=>te j k λv U=>[v].length=1/\E (.ref C) none U):=by
 intro c z j k D I h;have O:=xK (newId := "ValueError.__new__") (bmB:=yd) (mg:=mg) (x:=x) I.ok.mod.iL hc.at_ hc.exc;obtain⟨tl,Nn,nm,q,bs,hdct,sn,sub,ab,col,dd,k0,k1,k2,k3,k5,mN,hC,hN,l,T⟩:=O.obj;refine wpAny_Raise_call_subT (C:=C) (nm:=nm) (q:=q) (N:=Nn) (bs:=bs) (bm:=tl) (hdct:=hdct) (sn:=sn) (sub:=sub) (ab:=ab) (col:=col) (dd:=dd) (k0:=k0) (k1:=k1) (k2:=k2) (k3:=k3) (k5:=k5)
  F.excBase_ValueError (mN:=mN) (T.hasType F.excBase_ValueError.hasBase) (I.ok.hd rfl) (by rw[a];rfl) l (WE I u hc.at_ ⟨rfl,?_⟩ hd)
 have d:=(PV t UE a) af c z j k (λm U=>m.length=1/\E (.ref C) none U) I h
 rw[a]at d ⊢
 refine Calls.evalArgs_plain (Zh d (λm g i=>?_) λZ Z y=>y)
 obtain⟨ws,U,p,rv,l1,qE⟩:=i;have lv:m.length=1:=by rw[<-rv.length];exact l1
 have n:∀b o,base.get? b=some o->g.heap.get? b=some o:=p.bk;exact⟨rfl,by rw[lv];decide,n _ _ hC,hN.keeps n,T.keeps n,λh' e hm=>Vb p hm qE⟩
end
section
variable{X:Cx}{aC:A8}{σ:St}{H:Hp}{s:Shared}{h' B:Heap}
def Inv.land(I:Inv X aC σ H s)(hc:X.env.cells=[])(f:X.ex=[])(j:B.StaysIn s.heap)(a:B.StaysIn h')(up:s.heap.UpToSlots h')
  (fr:∀b∈X.fs,∃o,s.heap.get? b=some o/\∀vs,o.data≠.fields vs) (l:∀b,H b≠none->∃o,B.get? b=some o) (g:∀b o,X.s₀.heap.get? b=some o->b∉X.fs->∃t,B.get? b=some t)
  (w:∀p∈X.pn++aC,B.get? p.1=some p.2):Inv X aC σ H {s with heap:=h'}:=by
 have h:∀x c,X.env.cells.lookup x=some c->False:=λx c e=>by rw[hc]at e;cases e
 obtain⟨m,y,z⟩:=I.loc;have O:Un X.fs [] X.H₀ H X.s₀.heap s.heap:=by have:=I.base;rw[f]at this;exact this
 refine⟨I.ok,I.os,I.bare,?_,⟨m,up.ns y,λi x v U h2 h3=>?_⟩,λx c e=>(h x c e).elim,I.free,λx c e=>(h x c e).elim,λp k=>?_,pC I.aI j a l,I.len⟩
 ·rw[f];exact tY O j a up fr g
 ·obtain⟨u,r,q⟩:=z i x v U h2 h3;refine⟨u,r,?_⟩;rcases q with q|⟨_,c,e,_⟩
  ·exact .inl q
  ·exact(h x c e).elim
 ·obtain⟨e,n,ne,nf,d⟩:=I.pin p k;exact⟨a _ _ (w p k),n,ne,nf,d⟩
def Inv.gone(I:Inv X aC σ H s)(hN:X.N.Nodup)(U:X.N[i]?=some n)(hk:X.env.kindOf n=some .local)
  (h:∀s',Inv X aC (σ.set i none) H s'->Q () s'):wpAny M A (do bindName X.env n .none;unbindBehindTheSuite X.env n pos) Q E s:=by
 obtain⟨m,hn,hl⟩:=id I.loc;have l:(X.env.scope.kind==.class||(X.env.scope.kind==.module&&X.env.locals != X.env.globals))=false:=by rw[I.ok.kind];rfl
 have r:=I.iO;obtain⟨oL,_,_,hoL,_⟩:=id hn;refine wpAny_nameGoes_keeps hk hn l λh' v w a=>?_
 refine h _ ⟨I.ok,I.os,I.bare,⟨λb o e n x t=>?_,λb o e n x t=>?_,I.base.free,λb o e t=>?_,I.base.eI,I.base.ey,I.base.eA⟩,⟨_,w,λj y v' f u e3=>?_⟩,λy c e=>?_,I.free,I.bT,λp hp=>?_,λb ob e=>?_,by simpa using I.len⟩
 ·exact(a.2 b (Y6 (Y0 (YW e) I.ok.above))).trans (I.base.keep b o e n x t)
 ·obtain⟨sl,f⟩:=I.base.slot b o e n x t;exact⟨sl,(a.2 b (Y6 (Y0 (YW e) I.ok.above))).trans f⟩
 ·obtain⟨o',f⟩:=I.base.there b o e t;exact⟨o',(a.2 b (Y6 (Y0 (YW e) I.ok.above))).trans f⟩
 ·have hj:j≠i:=λz=>by
   subst z;have O:j<σ.length:=by rw[I.len];exact(YJ.mp U).1
   rw[Zr O]at u;cases u
  rw[Zz (Ne.symm hj)]at u;obtain⟨u',r',q⟩:=hl j y v' f u e3;refine⟨u',r',?_⟩;rcases q with⟨k,e⟩|⟨k,c,e,z⟩
  ·refine .inl ⟨k,?_⟩;have:y≠n:=λe=>hj (UA hN f (e▸U))
   simp[this,e]
  ·exact .inr ⟨k,c,e,z.sameBut a (r y c e)⟩
 ·obtain⟨w',z⟩:=I.cell y c e;exact⟨w',z.sameBut a (r y c e)⟩
 ·obtain⟨e,n,ne,nf,d⟩:=I.pin p hp;exact⟨(a.2 p.1 ne).trans e,n,ne,nf,d⟩
 ·refine(I.aI b ob e).fw (λc w' g q=>(a.2 c ?_).trans q) (λZ q=>q) λZ Z q=>q
  rintro rfl;rcases g with g|g
  ·rw[<-g,I.free]at e;cases e
  ·rw[I.free]at g;cases g
end
def XJ(X:Cx)(a:A8)(Eh:XK):A3:=λe d=>
 ∃(c:St) (I:Hp) (x:Addr) (C f:Value) (B:Heap),e=.ref x∧Inv X a c I d∧Heap.FlyingW B X.stack x C f d.heap∧(∀b,I b≠none->∃o,B.get? b=some o) ∧
   (∀b o,X.s₀.heap.get? b=some o->b∉X.fs->∃g,B.get? b=some g)/\(∀p∈X.pn++a,B.get? p.1=some p.2)/\Eh C none I
abbrev Cx.hD(X:Cx)(a:A8)(Eh:XK):Cx:={X with pn:=X.pn++a,xe:=XJ X a Eh}
abbrev Cx.kF(X:Cx)(x:Addr)(oe:Obj):Cx:={X with A:=X.A.mark (some (.ref x)),calm:=false,pn:=X.pn++[(x,oe)],xe:=λ_ _=>False}
section
variable{X:Cx}{aC:A8}{σ:St}{H:Hp}{s:Shared}{Eh:XK}{P:C5}{w:World}
def Inv.kX(I:Inv X aC σ H s):Inv (X.hD aC Eh) [] σ H s:=
 ⟨⟨I.ok.mod,I.ok.kind,I.ok.glob,I.ok.blt,I.ok.above,I.ok.inj,I.ok.has,I.ok.jS,I.ok.hd,I.ok.frames,I.ok.kB,I.ok.kM,I.ok.bs,I.ok.gV,I.ok.gX,I.ok.h7,I.ok.dE,I.ok.h8⟩,I.os,I.bare,I.base,I.loc,I.cell,I.free,I.bT,λp a=>I.pin p (by simpa using a),I.aI,I.len⟩
def Inv.eR(I:Inv (X.hD aC Eh) pins2 σ H s):Inv X aC σ H s:=
 ⟨⟨I.ok.mod,I.ok.kind,I.ok.glob,I.ok.blt,I.ok.above,I.ok.inj,I.ok.has,I.ok.jS,I.ok.hd,I.ok.frames,I.ok.kB,I.ok.kM,I.ok.bs,I.ok.gV,I.ok.gX,I.ok.h7,I.ok.dE,I.ok.h8⟩,I.os,I.bare,I.base,I.loc,I.cell,I.free,I.bT,λp a=>I.pin p (Z2 _ a),I.aI,I.len⟩
def Inv.k6(I:Inv X aC σ H s)(h:s.heap.get? x=some oe/\H x=none/\x≠X.env.locals/\x∉X.fs/\∀v,oe.data≠.cell v):Inv (X.kF x oe) aC σ H s:=
 ⟨⟨I.ok.mod,I.ok.kind,I.ok.glob,I.ok.blt,I.ok.above,I.ok.inj,I.ok.has,I.ok.jS,fun z=>(by cases z),I.ok.frames,I.ok.kB,I.ok.kM,I.ok.bs,I.ok.gV,I.ok.gX,I.ok.h7,I.ok.dE,I.ok.h8⟩,I.os,I.bare,I.base,I.loc,I.cell,I.free,I.bT,fun p a=>by
  rcases Zb.mp a with a|a
  ·rcases Zb.mp a with a|a
   ·exact I.pin p (Z2 _ a)
   ·cases Zi.mp a;exact h
  ·exact I.pin p (ZC _ a),I.aI,I.len⟩
def Inv.hO(ok:X.Ok)(I:Inv (X.kF x oe) aC σ H s):Inv X aC σ H s:=
 ⟨ok,I.os,I.bare,I.base,I.loc,I.cell,I.free,I.bT,fun p a=>I.pin p (by
  rcases Zb.mp a with a|a
  ·exact Z2 _ (Z2 _ a)
  ·exact ZC _ a),I.aI,I.len⟩
def Wf(f:X.ex=[])(r:X.prog=P)(hw:X.w=w):YY (bZ P w) (X.hD aC Eh) Eh:=by
 subst r hw;intro a σ H1 s1 e s' I t;obtain⟨x,C,u,O,B,rfl,os,c,v,g,l,y,d,q⟩:=t;have J:Inv (X.hD aC Eh) a σ O s':=I.gz (ch:=[]) os v g c (λb z=>absurd z (by simp))
 have U:=J.eR;have cp:∀p∈X.pn++aC,B.get? p.1=some p.2:=λp m=>by
  obtain⟨e1,n1,h,i,d1⟩:=I.eR.pin p m;obtain⟨e2,_⟩:=U.pin p m;obtain⟨o',n⟩:=d p.1 p.2 e1 (λj=>by
   rcases Y5.mp (I.eR.dn _ j)with z|z
   ·exact h z
   ·exact i z)
  have:=l.1 _ _ n;rw[e2]at this;cases this;exact n
 have k:∀b o,X.s₀.heap.get? b=some o->b∉X.fs->∃o',B.get? b=some o':=λb o e hb=>by
  obtain⟨o1,h1⟩:=I.base.there b o e (by show b∉X.ex;rw[f];simp)
  refine d b o1 h1 λj=>?_
  rcases Y5.mp (I.eR.dn _ j)with z|z
  ·exact absurd (YW e) (by rw[z];exact PR.mpr I.ok.above)
  ·exact hb z
 exact⟨σ,O,x,C,u,B,rfl,U,l,y,k,cp,q⟩
end
section
variable{M:Model}{A:Around}{E:A3}
variable{nm q:Str}{C N:Addr}{bs bm:B5}{hdct:Bool}{sn:C3}{sub:B5}{ab:Bool}{col:Option Bool}{dd:B3}{k0 k1 k2 k3 k5:B1}{newId:String}
variable{rh q':Str}{C' N':Addr}{rj mz:B5}{b0:Bool}{rp:C3}{k7:B5}{rq:Bool}{k8:Option Bool}{rL:B3}{j0 j1 j2 j3 j5:B1}{cn:String}
def xf{h:Heap}{g:Array GenState}{d:Drawn}{t:Nat}{os:OsState}{e:Addr}{oe:Obj}{Q:Bool->B2}
  (hC:h.get? C=some (excClassObj nm q C N bs bm hdct sn sub ab col dd k0 k1 k2 k3 k5 newId)) (mB:h.get? C'=some (excClassObj rh q' C' N' rj mz b0 rp k7 rq k8 rL j0 j1 j2 j3 j5 cn)) (he:h.get? e=some oe) (a9:oe.cls=.ref C)
  (lb:mz.contains (.type "BaseException")=true) (i8:(Value.ref C::bm).contains (.ref C')=true)
  (hq:Q true ⟨h,g,d,t,os⟩):wpAny M A (excMatches (.ref e) (.ref C')) Q E ⟨h,g,d,t,os⟩:=by
 have hcB:(Value.ref C'::mz).contains (.type "BaseException")=true:=by rw[List.contains_cons,lb,Bool.or_true]
 have f:=tc_notTuple;unfold excMatches
 repeat (first|(with_reducible refine AQ he ?_;rw[a9])|with_reducible refine AQ mB ?_|(with_reducible refine wpAny_isSubtype_exc mB ?_;rw[hcB])|(with_reducible refine wpAny_isSubtype_exc hC ?_;rw[i8])|wp_step)
 all_goals exact hq
end
structure SS(K:B0)(C F:Addr):Prop where
 exc:W.excIn K C yd "ValueError.__new__"=true
 nk:W.excIn K F yd "ValueError.__new__"=true
 sub:W.mroIn K C (.ref F)=some true
set_option tactic.hygienic true in
def GQ{K:B0}{M:Model}{A:Around}{E:A3}{s:Shared}{C F e:Addr}{oe:Obj}{Q:Bool->B2}(X:K.In s.heap)(c:SS K C F)(he:s.heap.get? e=some oe)(a9:oe.cls=.ref C)(hq:Q true s):
  wpAny M A (excMatches (.ref e) (.ref F)) Q E s:=by
 obtain⟨bm,N,nm,q,bs,hdct,sn,sub,ab,col,dd,k0,k1,k2,k3,k5,mN,hC,hN,hni,T⟩:=(xK (mg:=λz=>some (.ref C)) (x := "x") X rfl c.exc).obj
 obtain⟨mz,N',rh,q',rj,b0,rp,k7,rq,k8,rL,j0,j1,j2,j3,j5,mN',mB,hN',hni',T'⟩:=(xK (mg:=λz=>some (.ref F)) (x := "x") X rfl c.nk).obj
 have i8:(Value.ref C::bm).contains (.ref F)=true:=by
  have h1:=c.sub;unfold W.mroIn at h1;obtain⟨cd,a,b⟩:=Y7.mp h1;unfold W.clsIn at a;split at a
  ·rename_i c' d' cd' sl' ho;have:=X _ _ ho;rw[hC]at this;cases this;cases a;split at b
   ·cases b
   ·exact Y4 b
  ·cases a
 obtain⟨hp,g,d,tk,os⟩:=s;exact xf hC mB he a9 (T'.hasType PySem.F.excBase_ValueError.hasBase) i8 hq
def Xu(X:Cx)(i:Nat)(F:Addr)(Eh:XK)(tb:TS)(th:Addr->Obj->TS):TS:=λD σ H=>
 tb D σ H/\∀(x:Addr) (oe:Obj) (C:Value) (H1:Hp),oe.cls=C->(∃vs,oe.data=.fields vs)->Eh C none H1->(∃c,C=.ref c/\SS X.K c F) /\
  th x oe {D with nx:=λσ' H'=>D.nx (σ'.set i none) H',bk:=λσ' H'=>D.bk (σ'.set i none) H',ct:=λσ' H'=>D.ct (σ'.set i none) H'} ((List.replicate X.N.length none).set i (some (.ref x))) H1
def UW(rS:X.calm=true)(ax:X.env.cells=[])(hex:X.ex=[])
  (av:X.stack=X.env::X.outer) (nr:X.env.frame=some X.env.locals) (hN:X.N.Nodup) (hi:X.N[i]?=some n) (hk:X.env.kindOf n=some .local) (hm:X.mg x=some (.ref F))
  (hb:∀aC,T1 (X.hD aC Eh) body tb) (hs:∀y oe,T1 (X.kF y oe) (b₀::suite) (th y oe)) (hg:autoParam (Gl X x) qAA) (hd:autoParam ((x==("__debug__":Str))=false) qAB) :
  PS X (.Try body [.ExceptHandler (some (.Name x np)) (some n) (b₀::suite) p1] [] [] pos) (Xu X i F Eh tb th):=by
 intro aC s σ H D I h;obtain⟨h1,h2⟩:=h;have W2:∀{f:Flow}{s':Shared},SP (X.hD aC Eh) [] D f s'->SP X aC D f s':=λ{f s'} z=>by
  cases f with
  |next=>obtain⟨σ',H',J,q⟩:=z;exact⟨σ',H',J.eR,q⟩
  |brk=>obtain⟨σ',H',J,q⟩:=z;exact⟨σ',H',J.eR,q⟩
  |cont=>obtain⟨σ',H',J,q⟩:=z;exact⟨σ',H',J.eR,q⟩
  |ret u=>obtain⟨v,σ',H',J,r,q⟩:=z;exact⟨v,σ',H',J.eR,r,q⟩
 refine wpAny_Try_except (Zh ((hb aC) [] s σ H D I.kX h1) (λf s₁ hf=>?_) λe s₁ he=>?_)
 ·have hf':=W2 hf;cases f with
  |next=>exact AK hf'
  |brk=>exact hf'
  |cont=>exact hf'
  |ret u=>exact hf'
 obtain⟨σ',H',y,C,a0,B,rfl,J,fl,ci,cov,cp,q⟩:=he;have hfrs:X.A.frames=some (X.env::X.outer):=by rw[I.ok.frames,av]
 rw[av]at fl;have fr:∀b∈X.fs,∃o,s₁.heap.get? b=some o/\∀vs,o.data≠.fields vs:=λb hb=>(fl.2.2.1.2.2.mem hb).2
 refine wpAny_looks_onW hfrs nr fl λh₄ held up₄=>?_
 refine wpAny_landsW held λh₅ fl₅ up₅=>?_
 have J₅:Inv X aC σ' H' {s₁ with heap:=h₅}:=J.land ax hex fl.1 fl₅.1 (up₄.trans up₅) fr ci cov cp
 obtain⟨ob,wb,lh,hobc,hobd,_⟩:=fl₅.first;refine wpAny_handleBy_cons (codeAny_handlers_test ?_) (by intro z;cases z)
 have K₅:∀{E:A3}{Q:A3},Q (.ref F) {s₁ with heap:=h₅}->wpAny X.M (X.A.mark (some (.ref y))) (eval (.Name x np) X.env) Q E {s₁ with heap:=h₅}:=λhQ=>
  w9 I.ok.kind hg (by
   have g5:h₅.Ns X.env.globals X.mg:=by rw[I.ok.glob];exact I.ok.mod.glob.keeps J₅.bk
   exact Calls.loadGlobal_global g5 hm hQ) hd
 refine K₅ ?_;obtain⟨⟨c,hCc,cat⟩,_⟩:=h2 y ob C H' hobc ⟨_,hobd⟩ q;subst hCc;refine GQ J₅.cE cat lh hobc ?_;refine codeAny_handlers_suite_as ?_;refine lands_againW fl₅ λh₆ fl₆ up₆=>?_
 have fr₅:∀b∈X.fs,∃o,h₅.get? b=some o/\∀vs,o.data≠.fields vs:=λb hb=>(fl₅.2.2.1.2.2.mem hb).2
 have fr₆:∀b∈X.fs,∃o,h₆.get? b=some o/\∀vs,o.data≠.fields vs:=λb hb=>(fl₆.2.2.1.2.2.mem hb).2
 have J₆:Inv X aC σ' H' {s₁ with heap:=h₆}:=J₅.land (s:={s₁ with heap:=h₅}) ax hex fl₅.1 fl₆.1 up₆ fr₅ ci cov cp
 have J₇:Inv X aC (List.replicate X.N.length none) H' {s₁ with heap:=h₆}:=J₆.weak (by rw[J₆.len];simp) λi v z=>by rw[FU]at z;split at z<;>cases z
 obtain⟨oe,ws,hoe,hoec,ba,hoe0⟩:=fl₆.first;obtain⟨m,⟨oL,es,ep,hoL,hdL,_⟩,_⟩:=id J₇.loc;have ynL:y≠X.env.locals:=λz=>by rw[z]at hoe;rw[hoL]at hoe;cases hoe;rw[hdL]at ba;cases ba
 have ynf:y∉X.fs:=λz=>by obtain⟨o,ho,nf⟩:=fr₆ y z;rw[hoe]at ho;cases ho;exact nf _ ba
 have yH:H' y=none:=by
  cases z:H' y with
  |none=>rfl
  |some o=>
    obtain⟨o',e'⟩:=ci y (by rw[z];simp)
    rw[fl.2.1]at e';cases e'
 refine UU (v:=.ref y) J₇ hN hi (.inl hk) rfl (λs' I' hsb=>?_) (.inr hk)
 obtain⟨a,hsb,ha⟩:=hsb;have ha':a=X.env.locals:=by
  rcases ha with ha|ha
  ·exact ha
  ·rw[ax]at ha;cases ha
 subst ha';have hoe':s'.heap.get? y=some oe:=(hsb.2 y ynL).trans hoe;have IS:=I'.k6 (x:=y) (oe:=oe) ⟨hoe',yH,ynL,ynf,λv z=>by rw[ba]at z;cases z⟩
 refine Zh ((hs y oe) aC s' _ H' _ IS (h2 y oe (.ref c) H' hoec ⟨_,ba⟩ q).2) (λf s₃ hf=>?_) λw w z=>z.elim
 cases f with
 |next=>obtain⟨σ2,H2,J2,q2⟩:=hf;exact(J2.hO I.ok).gone hN hi hk λs4 J4=>⟨_,H2,J4,q2⟩
 |brk=>obtain⟨σ2,H2,J2,q2⟩:=hf;exact(J2.hO I.ok).gone hN hi hk λs4 J4=>⟨_,H2,J4,q2⟩
 |cont=>obtain⟨σ2,H2,J2,q2⟩:=hf;exact(J2.hO I.ok).gone hN hi hk λs4 J4=>⟨_,H2,J4,q2⟩
 |ret u=>obtain⟨v,σ2,H2,J2,r2,q2⟩:=hf;exact(J2.hO I.ok).gone hN hi hk λs4 J4=>⟨v,_,H2,J4,r2,q2⟩
structure Nw(K:B0)(D:Addr):Prop where
 ga:W.findIn K (.ref D) "__getattribute__"=some (some (.builtin "BaseException.__getattribute__"))
 gn:W.findIn K (.ref D) "__getattr__"=some none
 gc:W.findIn K (.ref D) "__class__"=some (some (.builtin "object.__class__"))
 mo:W.mroIn K D (.type "object")=some true
 mb:W.mroIn K D (.type "BaseException")=some true
section
variable{prog:C5}{w:World}{A:Around}{E:A3}{h:Heap}{g:Array GenState}{d:Drawn}{t:Nat}{os:OsState}{x D:Addr}{oe:Obj}{K:B0}
def I9(hx:h.get? x=some oe)(hc:oe.cls=.ref D):W.Looks M h (typeOf (.ref x)) (.ref D):=hc▸(W.Looks.ld hx).andThen .now
open PySem.W Builtin.Getset_descriptor Builtin.ObjectAttr Builtin in
def Gy(X:K.In h)(hx:h.get? x=some oe)(hc:oe.cls=.ref D)(hm:mroIn K D (.type "object")=some true)
  (hR:R (.ok (.ret (.ref D))) ⟨h,g,d,t,os⟩):codeAny (model prog w) A (.call (.builtin "getset_descriptor.__get__") ⟨[.builtin "object.__class__",.ref x,tp],[]⟩) R ⟨h,g,d,t,os⟩:=by
 have Lty:=I9 (M:=model prog w) hx hc;have Lmr:=looks_mroIn (M:=model prog w) X hm;refine y7 KF.slot_gs.plain KF.entry_gs (KF.slot_gs.check _ _ _ _ _ _ _ _ KF.type_class (KF.args_gs _ _ _) ?_)
 (unfold Builtin.«getset_descriptor.__get__» descrGet;rw[dga_obj];refine YF (YG ?_))
 (unfold descrGetter descrCheckInstance descrNameAndClass isInstance;simp only[KF.owner_class];repeat lk)
 refine⟨Code.quiet_builtin _ (by decide +kernel),ML KF.entry_class ?_⟩
 (unfold Builtin.«object.__class__» shownTypeOf;repeat lk)
 all_goals first|exact hR|assumption
def Dh(X:K.In h)(T:Nw K D)(hx:h.get? x=some oe)(hc:oe.cls=.ref D)(hq:Q (.done (.ret (.ref D))) ⟨h,g,d,t,os⟩):
  wpAny (model prog w) A (Builtin.«object.__getattribute__» ⟨[.ref x,.str "__class__" tk],[]⟩) Q E ⟨h,g,d,t,os⟩:=by
 have tyc:(⟨h,g,d,t,os⟩:Shared).TypeIs (.builtin "object.__class__") "getset_descriptor":=F.typeOf_object_class;have u5:=F.typeOf_object_class;have u6:=F.slot_gs_get.lookup;have u7:=F.slot_gs_set.lookup;have Lc:=EQ (M:=model prog w) X T.gc
 repeat (any_goals (first|assumption|(with_reducible refine AQ hx ?_;rw[hc])|with_reducible refine Lc.at ?_|wp_step))
 refine Gy X hx hc T.mo ?_
 repeat (any_goals (first|wp_step|assumption))
def Lz(X:K.In h)(T:Nw K D)(hx:h.get? x=some oe)(hc:oe.cls=.ref D)(hq:Q () ⟨h,g,d,t,os⟩):
  wpAny M A (checkBuiltinCall "BaseException.__getattribute__" ⟨[.ref x,nameV],[]⟩) Q E ⟨h,g,d,t,os⟩:=by
 have bk:builtinKind "BaseException.__getattribute__"=some .slot:=by decide +kernel
 have spl:splitId "BaseException.__getattribute__"=some ("BaseException","__getattribute__"):=by decide +kernel
 have ha:=F.args_bexc_ga (.ref x) nameV;have Lb:=W.looks_mroIn (M:=M) X T.mb;simp only[checkBuiltinCall,bk,spl];refine YF ?_
 ·unfold isInstance
  repeat (first|(with_reducible refine AQ hx ?_;rw[hc])|with_reducible refine Lb.at ?_|wp_step)
  exact hq
def Gx(X:K.In h)(T:Nw K D)(hx:h.get? x=some oe)(hc:oe.cls=.ref D)(hq:R (.ok (.ret (.ref D))) ⟨h,g,d,t,os⟩):
  codeAny (model prog w) A (.call (.builtin "BaseException.__getattribute__") ⟨[.ref x,.str "__class__" tk],[]⟩) R ⟨h,g,d,t,os⟩:=
 y7 F.attrBase_ValueError.ga.plain F.entry_bexc_ga (Lz X T hx hc (Dh X T hx hc hq))
def LK{fill expr:Bool}{Q:A3}(X:K.In h)(T:Nw K D)(hx:h.get? x=some oe)(hc:oe.cls=.ref D)(hq:Q (.ref D) ⟨h,g,d,t,os⟩):
  wpAny (model prog w) A (getAttrBy (.ref x) (.str "__class__" tk) fill expr) Q E ⟨h,g,d,t,os⟩:=by
 have u3:=F.attrBase_ValueError.ga.bind (.ref x);have ex0:(expr&&onTheHeap (Value.builtin "BaseException.__getattribute__"))=false:=by cases expr<;>rfl
 have ex2:(Value.builtin "BaseException.__getattribute__"==Value.builtin "object.__getattribute__")=false:=by decide +kernel
 have ex1:(onTheHeap (Value.ref D)&&Value.builtin "BaseException.__getattribute__"==Value.builtin "object.__getattribute__")=false:=by rw[ex2];rfl
 have L1:=EQ (M:=model prog w) X T.ga;have L2:=EQ (M:=model prog w) X T.gn
 repeat (any_goals (first|assumption|(with_reducible refine AQ hx ?_;rw[hc])|with_reducible refine L1.at ?_|with_reducible refine L2.at ?_|wp_step))
 refine Gx X T hx hc ?_
 repeat (any_goals (first|wp_step|assumption))
def vQ{Q:B1->B2}(X:K.In h)(T:Nw K D)(hx:h.get? x=some oe)(hc:oe.cls=.ref D)(hq:Q (some (.ref D)) ⟨h,g,d,t+1,os⟩):
  wq prog w A (getAttr? (.ref x) "__class__") Q E ⟨h,g,d,t,os⟩:=by
 unfold getAttr? getAttrBy?;refine YF (wpAny_mkText (YF (KG (LK X T hx hc ?_))))
 repeat (any_goals (first|wp_step|assumption))
end
set_option tactic.hygienic true in
def Nm{K:B0}{x D:Addr}{oe:Obj}(T:Nw K D)(hc:oe.cls=.ref D):
  W.KitX K (.ref x) (.ref D) (λh=>h.get? x=some oe)where
 ty:=λy y y I=>I9 I hc
 it:=λy y X y=>by
  have h1:=T.mo;unfold W.mroIn at h1;obtain⟨cd,a,b⟩:=Y7.mp h1;unfold W.clsIn at a;split at a
  ·rename_i c' d' cd' sl' ho;intro A' Q' E' s' k q;unfold isType loadHead;exact YF (wpAny_loadPart (k _ _ (X _ _ ho)) (YG q))
  ·cases a
 ne:=λh tp dd aE n sl X htp=>by
  have h1:=T.mo;unfold W.mroIn at h1;obtain⟨cd,a,b⟩:=Y7.mp h1;refine Bool.eq_false_iff.mpr λq=>?_
  cases Value.ref.inj (JU.mp q);unfold W.clsIn at a;split at a
  ·rename_i c' d' cd' sl' ho;have z:=(X _ _ ho).symm.trans htp;cases z
  ·cases a
 ca:=λ{_ _ _ _ _ s} X I k=>by obtain⟨h,g,d,t,os⟩:=s;exact vQ X T I hc k
def UT(h:X.mg x=some (.ref C))(hg:autoParam (Gl X x) qAA)(hd:autoParam ((x==("__debug__":Str))=false) qAB):PE X (.Name x pos) (tC (.ref C)):=P5 hg h rfl hd
def TK(js:C0)(a:St):St:=js.map λj=>(a[j]?).getD none
def Le(u:Un fs ex H H' h0 h)(hs:Heap.SameBut C h h')(a:h0.objs.size<=C):Un fs ex H H' h0 h' where
 keep b o e n hb hx:=(hs.2 b (Y6 (Y0 (YW e) a))).trans (u.keep b o e n hb hx)
 slot b o e n hb hx:=by obtain⟨d,c⟩:=u.slot b o e n hb hx;exact⟨d,(hs.2 b (Y6 (Y0 (YW e) a))).trans c⟩
 free:=u.free
 there b o e hx:=by obtain⟨f,c⟩:=u.there b o e hx;exact⟨f,(hs.2 b (Y6 (Y0 (YW e) a))).trans c⟩
 eI:=u.eI
 ey:=u.ey
 eA:=u.eA
def Eo(ok:WV P w H h)(hs:Heap.SameBut C h h')(d:H C=none):WV P w H h':=λb f e=>
 (ok b f e).fw (λc g a q=>(hs.2 c (by
   rintro rfl;rcases a with a|a
   ·rw[<-a,d]at e;cases e
   ·rw[d]at a;cases a)).trans q) (λz q=>q) λz z q=>q
structure N3(P:C5)(w:World)(K:B0)(mg:A4)(base:Heap)(k:Nat)(x:Str)(ps:C3)(sp:Sp):Prop where
 ex:∃f fd,XW P w K mg base (bZ P w) k f fd ps sp/\Binds K fd ps []/\W.keepIn K (.ref f)=true/\mg x=some (.ref f)
section
variable{P:C5}{w:World}{K:B0}{mg:A4}{base:Heap}{k:Nat}{x:Str}{N ps:C3}{sp:Sp}{st:Stmt}
def Yb(F:P8 K x x st f fd)(S:ZB N ps (ZY st))(e:∀vs H Q E,sp vs H Q E->vs.length=ps.length)
  (b:∀(a:Value) (A:Around) (d:C4) (s:Shared) (H:Hp) (vs:List V) (Q:VK) (E:XK),ZA k (A.deeper (envOfC x (ZY st) s.z f a))->sp vs H Q E->
    ∃t,T1 (bQ P w K mg base N x (ZY st) f a A d s H E) (ZI st) t/\t {nx:=λy I=>Q .aT I,rt:=Q} (start N vs) H):XW P w K mg base (bZ P w) (k+1) f fd ps sp:=by
 obtain⟨h,i,kV,doc,j,m,a,ct,g,rfl,l,c⟩:=F.ex;exact PU l c S e (b a)
def XZ.rV(D:XZ K mg x st)(S:ZB N ps (ZY st))(e:∀(kV doc g:Value) (h:B3) (a ct:Value) (us:B5),us.length=ps.length->bindArgs (W.fnOf x x (Y2 st) (ZI st) (ZY st) .none kV doc g h a ct) ⟨us,[]⟩=pure (ps.zip us))
  (d:∀vs H Q E,sp vs H Q E->vs.length=ps.length)
  (b:∀(f:Addr) (a:Value) (A:Around) (c:C4) (s:Shared) (H:Hp) (vs:List V) (Q:VK) (E:XK),ZA k (A.deeper (envOfC x (ZY st) s.z f a))->sp vs H Q E->
    ∃t,T1 (bQ P w K mg base N x (ZY st) f a A c s H E) (ZI st) t/\t {nx:=λy I=>Q .aT I,rt:=Q} (start N vs) H):N3 P w K mg base (k+1) x ps sp:=by
 obtain⟨f,i,F,m⟩:=D.ex;exact⟨f,i,Yb F S d (b f),F.binds e,F.kp,m⟩
end
def BJ:YY (bZ P w) X E0:=λz z z z z z z h=>by obtain⟨_,_,_,_,_,_,_,_,_,_,_,_,_,q⟩:=h;exact q.elim
section
variable{X:Cx}{j k:Nat}{ps:C3}{sp:Sp}{x:Str}{p pos:Pos}{e:Expr}{es:B8}{t:TA}{E:XK}
def N7(D:N3 X.prog X.w X.K X.mg X.base j x ps sp)(g:ZA k X.A)(h:YY (bZ X.prog X.w) X E)(i:PA X (e::es) t)(a:autoParam (j<=k) qAB)(l:autoParam (Gl X x) qAA)(c:autoParam ((x==("__debug__":Str))=false) qAB)
  (n:autoParam (starEach (e::es) X.env=(false,eval e X.env)::starEach es X.env) qAA) (d:autoParam ((backTo pos (starEach es X.env)).any (·.1)=false) qAA) :
  PE X (.Call (.Name x p) (e::es) [] pos) (MV sp [] E t):=by
 obtain⟨f,q,F,b,o,m⟩:=D.ex;exact LM F (g.mono a) l m o b .nil h i c n d
end
section
variable{κ:Type}[DecidableEq κ]
def VZ(kvs:List (κ×V))(k:κ):Option V:=(kvs.find? λa=>decide (a.1=k)).map (·.2)
def WJ(kvs:List (κ×V))(k:κ)(v:V):List (κ×V):=
 if(kvs.any λa=>decide (a.1=k))=true then kvs.map (λa=>if a.1=k then(a.1,v)else a)else kvs++[(k,v)]
def VX{r:List (κ×V)}(e:p.1=k):VZ (p::r) k=some p.2:=by simp[VZ,List.find?_cons,e]
def VQ{r:List (κ×V)}(e:¬p.1=k):VZ (p::r) k=VZ r k:=by simp[VZ,List.find?_cons,e]
theorem UC(k:κ):∀kvs:List (κ×V),(kvs.any λa=>decide (a.1=k))=(VZ kvs k).isSome
 |[]=>rfl
 |p::r=>by
   rw[EX];by_cases e:p.1=k
   ·simp only[VX e,decide_eq_true e,Bool.true_or,Option.isSome_some]
   ·rw[VQ e,ZQ e,Bool.false_or];exact UC k r
def WI(kvs:List (κ×V))(k:κ)(v:V):(WJ kvs k v).length<=kvs.length+1:=by
 unfold WJ;split
 ·rw[YT];lia
 ·rw[Zm,Z7,List.length_nil];lia
def NO{kvs:List (κ×V)}(v:V)(h:VZ kvs k=none):WJ kvs k v=kvs++[(k,v)]:=by unfold WJ;rw[UC,h];exact YQ (by decide)
def UY.eJ(r:UY o u):o.isSome=u.isSome:=by
 cases o with
 |none=>cases u with
   |none=>rfl
   |some _=>exact(show False from r).elim
 |some _=>cases u with
   |none=>exact(show False from r).elim
   |some _=>rfl
def KV.val{kvs:List (κ×V)}{vs:List (κ×Value)}(r:KV kvs vs)(k:κ):UY (VZ kvs k) (valueAt vs k):=by
 unfold KV at r;induction r with
 |nil=>exact True.intro
 |@cons p q ps qs h t ih=>
   obtain⟨h1,h2⟩:=h;by_cases e:p.1=k
   ·have e':q.1=k:=h1.symm.trans e;have b:valueAt (q::qs) k=some q.2:=by simp[valueAt,List.find?_cons,e']
    rw[VX e,b];exact h2
   ·have e':¬q.1=k:=λz=>e (h1.trans z)
    have b:valueAt (q::qs) k=valueAt qs k:=by simp[valueAt,List.find?_cons,e']
    rw[VQ e,b];exact ih
theorem KV.any(r:KV kvs vs)(k:κ):(kvs.any λkv=>decide (kv.1=k))=vs.any λkv=>decide (kv.1=k):=by
 unfold KV at r;induction r with
 |nil=>rfl
 |cons h t ih=>rw[EX,EX,ih,h.1]
def KV.kn(r:KV kvs vs)(k:κ)(ry:RelV y u):
  KV (kvs.map λkv=>if kv.1=k then(kv.1,y)else kv) (vs.map λkv=>if kv.1=k then(kv.1,u)else kv):=by
 unfold KV at r ⊢
 induction r with
 |nil=>exact .nil
 |@cons p q ps qs h t ih=>
   rw[Zj,Zj];refine .cons ?_ ih;obtain⟨h1,h2⟩:=h;by_cases e:p.1=k
   ·rw[YK e,YK (h1.symm.trans e)];exact⟨h1,ry⟩
   ·rw[YQ e,YQ (λz=>e (h1.trans z))];exact⟨h1,h2⟩
def KV.put(r:KV kvs vs)(k:κ)(a:RelV y u):KV (WJ kvs k y) (stored vs k u):=by
 unfold WJ stored;rw[r.any k];by_cases e:(vs.any λb=>decide (b.1=k))=true
 ·rw[YK e,YK e];exact r.kn k a
 ·rw[YQ e,YQ e];exact Paired.snoc r ⟨rfl,a⟩
def KV.keys{kvs:List (κ×V)}{vs:List (κ×Value)}(r:KV kvs vs):kvs.map (·.1)=vs.map (·.1):=by
 unfold KV at r;induction r with
 |nil=>rfl
 |cons h t ih=>rw[Zj,Zj,ih,h.1]
theorem KV.length(r:KV kvs vs):kvs.length=vs.length:=DZ r
end
def SD(r:RelV (kV k) u):(YV P w).is k u=true:=by
 cases k with
 |inl i=>obtain⟨t,e⟩:=(show∃t,u=Value.int i t from r);subst e;exact Sk P w i t
 |inr x=>obtain⟨t,e⟩:=(show∃t,u=Value.str x t from r);subst e;exact Sm P w x t
theorem Tb:∀{ks:List Key}{us:B5},ZN (ks.map kV) us->ItemsAre (YV P w) ks us
 |[],_,r=>by rw[FD]at r;cases r;exact .nil
 |k::ks,_,r=>by
   rw[Zj]at r;cases r with
   |cons h t=>exact .cons (SD h) (Tb t)
abbrev KT(H:Hp):List (List Key×V)->List (List Key×Addr×Value)->Prop:=Paired λp q=>p.1=q.1/\H q.2.1=some (.tup (p.1.map kV))/\RelV p.2 q.2.2
def KT.val{kvs:List (List Key×V)}{xs:List (List Key×Addr×Value)}(r:KT H kvs xs)(k:List Key):UY (VZ kvs k) ((atKey xs k).map (·.2)):=by
 induction r with
 |nil=>exact True.intro
 |@cons p q ps qs h t ih=>
   obtain⟨h1,_,h2⟩:=h;by_cases e:p.1=k
   ·have e':q.1=k:=h1.symm.trans e;have b:atKey (q::qs) k=some q.2:=by simp[atKey,List.find?_cons,e']
    rw[VX e,b];exact h2
   ·have e':¬q.1=k:=λz=>e (h1.trans z)
    have b:atKey (q::qs) k=atKey qs k:=by simp[atKey,List.find?_cons,e']
    rw[VQ e,b];exact ih
def KT.kn(r:KT H kvs xs)(k:List Key)(ry:RelV y u):
  KT H (kvs.map λkv=>if kv.1=k then(kv.1,y)else kv) (xs.map (putAt k u)):=by
 induction r with
 |nil=>exact .nil
 |@cons p q ps qs h t ih=>
   rw[Zj,Zj];refine .cons ?_ ih;obtain⟨h1,h2,h3⟩:=h;unfold putAt;by_cases e:p.1=k
   ·rw[YK e,YK (h1.symm.trans e)];exact⟨h1,h2,ry⟩
   ·rw[YQ e,YQ (λz=>e (h1.trans z))];exact⟨h1,h2,h3⟩
def KT.put(r:KT H kvs xs)(k:List Key)(c:H b=some (.tup (k.map kV)))(a:RelV y u):
  KT H (WJ kvs k y) (storedH xs k b u):=by
 have e:(kvs.any λd=>decide (d.1=k))=(atKey xs k).isSome:=by rw[UC,(r.val k).eJ,Option.isSome_map]
 unfold WJ storedH;rw[e];by_cases q:(atKey xs k).isSome=true
 ·rw[YK q,YK q];exact r.kn k a
 ·rw[YQ q,YQ q];exact Paired.snoc r ⟨rfl,c,a⟩
def KT.keeps(r:KT H kvs xs)(ht:∀b ys,H b=some (.tup ys)->H' b=some (.tup ys)):KT H' kvs xs:=
 Paired.ke r λy y z=>⟨z.1,ht _ _ z.2.1,z.2.2⟩
section
variable{P:C5}{w:World}{H:Hp}{h:Heap}{a:Addr}
def Ki(ok:WV P w H h)(e:Rd H a u):Y3 P w H h a u:=e.ok ok
def PD(ok:WV P w H h)(e:Rd H a (.dK kvs)):kvs.length<=sizeLine/\(a==sysModules)=false/\∃vs,KV kvs vs/\h.DictOf (YV P w) a vs:=
 show Y3 P w H h a (.dK kvs)from Ki ok e
def Oy(ok:WV P w H h)(e:H a=some (.dK kvs)):kvs.length<=sizeLine/\(a==sysModules)=false/\∃vs,KV kvs vs/\h.DictOf (YV P w) a vs:=PD ok (.inl e)
def S0(ok:WV P w H h)(e:H a=some (.tup (ks.map kV))):(tupleKind (YV P w)).is h ks a:=by
 obtain⟨_,b,r,o,c,d,n,f⟩:=(show Y3 P w H h a (.tup (ks.map kV))from ok a _ e)
 exact⟨o,b.toArray,n,c,d,f,by simpa using Tb r⟩
def P7(ok:WV P w H h)(e:Rd H a (.dT kvs)):kvs.length<=sizeLine/\(a==sysModules)=false /\
  ∃xs,KT H kvs xs/\h.DictOfH (tupleKind (YV P w)) a xs:=by
 obtain⟨z,y,xs,r,o,es,ep,h1,h2,h3,h4,h5⟩:=(show Y3 P w H h a (.dT kvs)from Ki ok e)
 refine⟨z,y,xs,r,o,es,ep,h1,h2,h3,h4,λx hx=>?_,h5⟩
 have all:∀{l:List (List Key×V)}{m:List (List Key×Addr×Value)},KT H l m->∀x∈m,(tupleKind (YV P w)).is h x.1 x.2.1:=by
  intro l m q;induction q with
  |nil=>intro x hx;exact nomatch hx
  |@cons p q ps qs hq t ih=>
    intro x hx;rcases Y5.mp hx with e|hx
    ·subst e;exact S0 ok (by rw[<-hq.1];exact hq.2.1)
    ·exact ih x hx
 exact all r x hx
def PM(ok:WV P w H h)(e:H a=some (.dT kvs)):kvs.length<=sizeLine/\(a==sysModules)=false /\
  ∃xs,KT H kvs xs/\h.DictOfH (tupleKind (YV P w)) a xs:=P7 ok (.inl e)
end
def SF(H:Hp)(a:Addr)(y:V)(r:Option V):Prop:=
 (∃c k,Rd H a (.dK c)/\y=kV k/\r=VZ c k)\/∃c k b,Rd H a (.dT c)/\y=.ref b/\H b=some (.tup (k.map kV))/\r=VZ c k
def L7(H:Hp)(a:Addr)(y v:V)(I:Hp):Prop:=
 (∃c k,H a=some (.dK c)/\y=kV k/\c.length<sizeLine/\I=upd H a (.dK (WJ c k v))) \/
 ∃c k b,H a=some (.dT c)/\y=.ref b/\H b=some (.tup (k.map kV))/\c.length<sizeLine/\I=upd H a (.dT (WJ c k v))
theorem SF.k{H:Hp}{a:Addr}{kvs:List (Key×V)}{k:Key}(e:H a=some (.dK kvs)):SF H a (kV k) (VZ kvs k):=.inl ⟨kvs,k,.inl e,rfl,rfl⟩
theorem L7.k{H:Hp}{a:Addr}{kvs:List (Key×V)}{k:Key}{v:V}(e:H a=some (.dK kvs))(hl:kvs.length<sizeLine):L7 H a (kV k) v (upd H a (.dK (WJ kvs k v))):=.inl ⟨kvs,k,e,rfl,hl,rfl⟩
section
variable{X:Cx}{aC:A8}{σ:St}{H:Hp}{s:Shared}{a:Addr}{y v:V}{u r:Value}{o:Option V}{A:Around}{E:A3}
def Inv.big(I:Inv X aC σ H s):sysModules<s.z:=by have h:mainGlobals<s.z:=(I.mod.glob.keeps I.bk).lt;exact Fs (by decide) h
def Pd(O:A.units+1<cLine)(I:Inv X aC σ H s)(g:SF H a y (some v))(x:RelV y u)(h:∀f s',Inv X aC σ H s'->RelV v f->Q f s'):
  wpAny X.M A (getItem (.ref a) u) Q E s:=by
 rcases g with⟨i,k,e,j,l⟩|⟨i,k,b,e,j,U,l⟩
 ·subst j;obtain⟨z,hd,vs,c,m⟩:=PD I.aI e;obtain⟨f,n,d⟩:=UY.some_of (v:=v) (o:=valueAt vs k) (by rw[l];exact c.val k)
  exact wpAny_getItem_of (SD x) m.mapOf n (h f _ (I.tok _) d)
 ·subst j;cases(show u=Value.ref b from x)
  obtain⟨z,hd,xs,c,m⟩:=P7 I.aI e;obtain⟨f,n,d⟩:=UY.some_of (v:=v) (o:=(atKey xs k).map (·.2)) (by rw[l];exact c.val k)
  obtain⟨p,hp,q⟩:=YM.mp n;refine wpAny_getItem_heap (tupleKind_room_in1 O) (S0 I.aI U) m hp ?_;rw[q];exact h f _ (I.tok _) d
def KP(n:A.units+1<cLine)(I:Inv X aC σ H s)(g:SF H a y o)(m:RelV y u)(h:∀s',Inv X aC σ H s'->Q (.bool (!o.isSome)) s'):
  wpAny X.M A (compareOp .NotIn u (.ref a)) Q E s:=by
 rcases g with⟨d,k,e,f,l⟩|⟨d,k,b,e,f,p,l⟩
 ·subst f;obtain⟨z,i,x,c,j⟩:=PD I.aI e;refine wpAny_notIn_of (SD m) i j.mapOf ?_;rw[<-(c.val k).eJ,<-l];exact h _ (I.tok _)
 ·subst f;cases(show u=Value.ref b from m)
  obtain⟨z,i,O,c,j⟩:=P7 I.aI e;refine wpAny_notIn_heap (tupleKind_room_in1 n) (S0 I.aI p) i j ?_;have q:=(c.val k).eJ;rw[Option.isSome_map]at q;rw[<-q,<-l];exact h _ (I.tok _)
def S1(I:Inv X aC σ H s)(d:DC (H a))(hs:Heap.SameBut a s.heap h')(f:∃q,h'.get? a=some q)(c:Y3 X.prog X.w (upd H a ob) h' a ob):
  Inv X aC σ (upd H a ob) {s with heap:=h',toks:=t'}:=
 I.write (x:=a) (e:=a) d (.inl rfl) (λb q g z=>(hs.2 b g).trans z) f c
def N4(z:kvs.length<=sizeLine)(hd:(a==sysModules)=false)(rel:KV kvs vs)(dd:h'.DictOf (YV P w) a vs):
  Y3 P w H' h' a (.dK kvs):=⟨z,hd,vs,rel,dd⟩
def Po(hu:A.units+1<cLine)(I:Inv X aC σ H s)(g:L7 H a y v H')(ry:RelV y u)(rv:RelV v r)(h:∀s',Inv X aC σ H' s'->Q () s'):
  wpAny X.M A (setItem (.ref a) u r) Q E s:=by
 rcases g with⟨d,k,e,m,l,n⟩|⟨d,k,b,e,m,eb,l,n⟩
 ·subst m n;obtain⟨z,p,vs,f,x⟩:=Oy I.aI e;have O:vs.length<=sizeLine:=by rw[<-f.length];exact z
  have U:(WJ d k v).length<=sizeLine:=by have:=WI d k v;lia
  refine wpAny_setItem_pairs (hsz:=O) (SD ry) x λh' i hs=>h _ ?_
  have he:∃q,h'.get? a=some q:=let⟨q,_,_,j,_⟩:=i;⟨q,j⟩
  exact S1 I (by rw[e];exact True.intro) hs he (N4 U p (f.put k rv) i)
 ·subst m n;cases(show u=Value.ref b from ry)
  obtain⟨z,p,xs,f,x⟩:=PM I.aI e;have O:xs.length<=sizeLine:=by rw[<-DZ f];exact z
  have U:(WJ d k v).length<=sizeLine:=by have:=WI d k v;lia
  refine wpAny_setItem_heap (hsz:=O) (tupleKind_room_in1 hu) (S0 I.aI eb) x λh' i hs=>h _ ?_
  obtain⟨q,es,ep,j,h2,h3,h4,_,h5⟩:=i;refine S1 I (by rw[e];exact True.intro) hs ⟨q,j⟩ ⟨U,p,_,(f.put k eb rv).keeps λc ys ec=>?_,q,es,ep,j,h2,h3,h4,h5⟩
  rw[ZU (CO ec e (λz=>nomatch z))]
  exact ec
end
def IN(i:Expr):Prop:=∀a b,subscripted i false a b=operate [a,b] (getItem a b)
def LN{prog:C5}{w:World}{A:Around}{E:A3}{s:Shared}{env:Env}{value a:Expr}{pos:Pos}{T id:String}{Q:A3}
  (hl:typeLookup (.type T) "__getitem__"=pure (some (.builtin id))) (hs:IN a)
  (h:wq prog w A (eval value env) (λo c=>wq prog w A (eval a env) (λi s₂=>s₂.TypeIs o T/\wq prog w A (getItem o i) Q E s₂) E c) E s) :
  wq prog w A (eval (.Subscript value a pos) env) Q E s:=by
 refine Subscript_ (Zh h (λo c f=>Zh f (λi s₂ b=>?_) λz z x=>x) λz z x=>x)
 obtain⟨hT,b⟩:=b;unfold subscriptTail;refine YF ?_;rw[getitemInPython_of_ne hT.not_modules];refine YF (wpAny_specialOf hT hl ?_);have e:wq prog w A (subscripted a false o i) (λr d=>wq prog w A (letTemporaryGo value o r>>=λz=>pure r) Q E d) E s₂:=by rw[hs o i];exact wpAny_operating (Zh b (λr d g=>YF (wpAny_letTemporaryGo (YG g))) λz z x=>x)
 first
  |exact YG (YF e)
  |exact YF (YG (YF e))
  |exact YF e
def SE(I:Inv X aC σ H s)(g:SF H a y o):s.TypeIs (.ref a) "dict":=by
 rcases g with⟨c,k,e,_,_⟩|⟨c,k,b,e,_,_,_⟩
 ·obtain⟨_,_,f,_,d⟩:=PD I.aI e;exact d.typeIs
 ·obtain⟨_,_,h,_,d⟩:=P7 I.aI e;exact d.typeIs
def Dp(c ty:TE):TE:=λb H Q=>c b H λx O=>ty b O λy I=>∃a v,x=.ref a/\SF I a y (some v)/\Q v I
section
variable{X:Cx}{o i e value:Expr}{pos pos' ck:Pos}{td ty tv:TE}
def L5(f:X.A.units+1<cLine)(ho:PE X o td)(j:PE X i ty)(hs:IN i):PE X (.Subscript o i pos) (Dp td ty):=by
 intro b s d H Q I h;refine LN F.slot_dict_getitem.lookup hs (YO (ho b s d H _ I h) λu l ⟨x,U,m,n,p⟩=>YO (j b l d U _ m p) λiv s2 ⟨y,q,O,r,a,v,w,g,z⟩=>?_)
 subst w;obtain rfl:u=Value.ref a:=n;exact⟨SE O g,Pd f O g r λw' s3 I3 c=>⟨v,q,I3,c,z⟩⟩
end
def No(h:Heap)(a:sysModules<h.objs.size):Y3 P w H (h.push {cls:=.type "dict",data:=.dict #[]}) h.objs.size (.dK []):=
 ⟨Z8 _,BG.mpr (Ne.symm (Y6 a)),[],.nil,Heap.DictOf.new h⟩
def RS:List (TE×TE)->St->Hp->(List (V×V)->Hp->Prop)->Prop
 |[],_,H,Q=>Q [] H
 |(b,c)::r,a,H,Q=>b a H λx I=>c a I λy O=>RS r a O λps U=>Q ((x,y)::ps) U
abbrev VV:List (V×V)->List (Value×Value)->Prop:=Paired λp q=>RelV p.1 q.1/\RelV p.2 q.2
def BD(X:Cx)(pos:Pos)(keys:List (Option Expr))(a:B8)(c:List (TE×TE)):Prop:=
 ∀(b:A8) (s:Shared) (d:St) (H:Hp) (Q:List (V×V)->Hp->Prop),Inv X b d H s->RS c d H Q->
   wpAny X.M X.A (evalPairs (pairTrees keys a X.env pos)) (λf g=>∃e I,Inv X b d I g/\VV e f/\Q e I) X.xe s
def L8:BD X pos [] [] []:=λa s b H Q I h=>pairTrees_nil_walk ⟨[],H,I,.nil,h⟩
def NX(d:PE X k tk)(e:PE X v tv)(f:BD X pos ks vs trs):
  BD X pos (some k::ks) (v::vs) ((tk,tv)::trs):=λa s b H Q I h=>
 pairTrees_cons_walk (YO (d a s b H _ I h) λu g ⟨x,O,U,i,j⟩=>YO (e a g b O _ U j) λw2 l ⟨y,m,n,o,p⟩=>
  YO (f a l b m _ n p) λws s3 ⟨q,r,w,c,z⟩=>⟨(x,y)::q,r,w,.cons ⟨i,o⟩ c,z⟩)
def UX(kvs more:List (Key×V)):List (Key×V):=more.foldl (λa b=>WJ a b.1 b.2) kvs
def KV.merge:∀{more:List (Key×V)}{rs:List (Key×Value)}{kvs:List (Key×V)}{vs:List (Key×Value)},KV more rs->KV kvs vs->KV (UX kvs more) (merged vs rs):=by
 intro more rs kvs vs r;unfold KV at r;induction r generalizing kvs vs with
 |nil=>intro q;exact q
 |@cons p q ps qs h t ih=>
   intro r0;have e:KV (WJ kvs p.1 p.2) (stored vs q.1 q.2):=by have:=r0.put p.1 h.2;rw[<-h.1];exact this
   exact ih e
theorem WA:∀(more kvs:List (Key×V)),(UX kvs more).length<=kvs.length+more.length
 |[],kvs=>by show kvs.length<=kvs.length+0;lia
 |p::r,kvs=>by have h1:=WA r (WJ kvs p.1 p.2);have a:=WI kvs p.1 p.2;show(UX (WJ kvs p.1 p.2) r).length<=_;rw[Z7];lia
theorem TU:∀{kvs:List (Key×V)}{ws:List (Value×Value)},VV (kvs.map λkv=>(kV kv.1,kv.2)) ws->∃rs,Carries (YV P w) ws rs/\KV kvs rs
 |[],_,r=>by rw[FD]at r;cases r;exact⟨[],True.intro,.nil⟩
 |p::kvs,_,r=>by
   rw[Zj]at r;cases r with
   |@cons a b as bs h t=>obtain⟨rs,c,q⟩:=TU (P:=P) (w:=w) t;obtain⟨b1,b2⟩:=b;exact⟨(p.1,b2)::rs,⟨SD h.1,rfl,c⟩,.cons ⟨rfl,h.2⟩ q⟩
def Ch(b:List (TE×TE)):TE:=λd H Q=>∀p,H p=none->RS b d (upd H p (.dK [])) λe I=>I p=some (.dK [])/\∃a:List (Key×V),e=a.map (λc=>(kV c.1,c.2))/\a.length<=15/\Q (.ref p) (upd I p (.dK (UX [] a)))
def Lv(h:BD X pos keys values trs)(b:keys.all (·.isSome)=true)(hl:keys.length=values.length)(l:keys≠[])
  (i:keys.length<=15):PE X (.Dict keys values pos) (Ch trs):=by
 intro d s m H Q I q;have n:=I.aI.fresh (YL s.z);have U:=I.laid (a:=s.z) (o:=.dK []) (h':=s.heap.push {cls:=.type "dict",data:=.dict #[]}) (t':=s.toks) (λt t q=>YH _ q) (YL _) (No s.heap I.big)
 refine wpAny_Dict_walk (knd:=YV X.prog X.w) b hl l i (YO (h d _ m _ _ U (q _ n)) λws s2 ⟨ps,H2,O,j,e,f,p,lk,r⟩=>?_)
 subst p;obtain⟨rs,c,rk⟩:=TU (P:=X.prog) (w:=X.w) j;obtain⟨z,u,v,x,y⟩:=Oy O.aI e;cases x;refine⟨rs,c,y,λh' g hs=>⟨.ref s.z,_,?_,rfl,r⟩⟩
 have hz:(UX [] f).length<=sizeLine:=by have h1:=WA f [];rw[List.length_nil]at h1;rw[MX];lia
 have he:∃q,h'.get? s.z=some q:=let⟨q,_,_,hq,_⟩:=g;⟨q,hq⟩
 exact S1 O (by rw[e];exact True.intro) hs he (N4 hz u (rk.merge .nil) g)
end L2
namespace HT
open PyProof.Rows PySem.W
section
variable{prog:C5}{w:World}{A:Around}{E:A3}{s:Shared}
def Lx{vs ws:B5}{Q:A3}(ht:IsTup s.heap t vs.toArray)(l:IsTup s.heap b ws.toArray)(m:vs=[])
  (h1:Q (.ref b) s):wq prog w A (binaryOp .Add (.ref t) (.ref b)) Q E s:=by
 obtain⟨⟨cls,o,g,p⟩,h,i,n,j⟩:=id ht;obtain⟨⟨k,e,data2,f⟩,a,c,q,d⟩:=id l;simp only at i j c d;subst i j c d;exact concat_meets ⟨_,h,rfl⟩ ⟨_,a,rfl⟩ noFill_tuple_add seq_tuple_add wP wS (xk _ _)
   (tuple_addW0 t b vs.toArray ws.toArray n q o e p f (by simp[m])) ⟨h,a,h1⟩
def tZ{items:B4}{lo hi:Option Int}{Q:A3}(ht:IsTup s.heap t items)(hs:s.heap.IsSliceOf sl vl vu .none)(pl:IsPart vl lo)(pu:IsPart vu hi)
  (hw:X9 items.size 0 lo=0/\X9 items.size items.size hi=items.size) (h:Q (.ref t) s):wq prog w A (getItem (.ref t) (.ref sl)) Q E s:=by
 obtain⟨os,hos,hcs,hds⟩:=id hs;obtain⟨ot,hot,hct,nt,hdt⟩:=id ht;have hTs:s.TypeIs (.ref sl) "slice":=⟨os,hos,hcs⟩;have hTt:s.TypeIs (.ref t) "tuple":=⟨ot,hot,hct⟩;unfold getItem
 try with_reducible refine ZF ?_
 first|refine YF (YG ?_)|skip
 refine YF (wpAny_sequenceKey ht.typeIs (by decide) ?_)
 refine YF (ZP (name:=Str.ofString "__getitem__") ht.typeIs yb
  (Zy yb ht.typeIs entry_tuple_getitem ?_ (args_tuple_getitem _ _)))
 show wpAny _ _ (Builtin.Tuple.tupleItemsOf (.ref t)>>=_) _ _ s;refine YF (tupleItemsOf_ ht ?_);refine YF (FA hTs ?_);rw[YK (by decide)]
 refine YF (XE hs pl pu ?_);have hno:((((X9 items.size 0 lo:Nat):Int)==0&&(1:Int)==1&&(X9 items.size items.size hi-X9 items.size 0 lo)==items.size)=true):=by rw[hw.1,hw.2];simp
 show wpAny _ _ (if(((X9 items.size 0 lo:Nat):Int)==0&&(1:Int)==1&&(X9 items.size items.size hi-X9 items.size 0 lo)==items.size)=true then _ else _) _ _ s
 rw[YK hno];unfold Builtin.Tuple.tupleIsExact;refine YF ?_;refine YF (FA hTt (YG ?_));rw[YK (by decide)]
 exact YF (ME (YG ⟨_,rfl,YG h⟩))
end
end HT
namespace L2
open PyProof.Rows
section
variable{X:Cx}
def Mj{xs:List V}{lo a:Option Int}(h:HT.X9 xs.length 0 lo=0/\HT.X9 xs.length xs.length a=xs.length):T0 xs lo a=xs:=by unfold T0;rw[h.1,h.2];simp
def Xl:V->Option Int->Option Int->Hp->VK->Prop:=λx lo c H Q=>∃a b,x=.ref a/\H a=some (.tup b)/\∀p I,VU H I->I p=some (.tup (T0 b lo c))->Q (.ref p) I
def RK:Fk X Xl:=by
 intro c s m H x v n o lo g t Q I i j pl k h;obtain⟨a,b,rfl,e,q⟩:=h;by_cases hw:HT.X9 b.length 0 lo=0/\HT.X9 b.length b.length g=b.length
 ·cases i;obtain⟨f,r,l,w⟩:=I.tuple (XO.of e);have d:f.toArray.size=b.length:=by rw[Za];exact r.length.symm
  refine⟨"tuple",_,PyProof.Rows.slot_tuple_getitem.lookup,l.typeIs,?_⟩;refine HT.tZ l j pl k (by rw[d];exact hw) ⟨.ref a,H,I,rfl,q a H (VU.refl _) (by rw[Mj hw];exact e)⟩
 ·exact GY (X:=X) c s m H _ v n o lo g t Q I i j pl k ⟨a,b,rfl,XO.of e,hw,λp u=>q p _ (VW u _) ZT⟩
def Wj:R2:=λx y H Q=>∃a b c d,x=.ref a/\y=.ref b/\H a=some (.tup c)/\H b=some (.tup d)/\c.length+d.length<=sizeLine/\∀p I,VU H I->I p=some (.tup (c++d))->Q (.ref p) I
def Rb:XV X (binaryOp .Add) Wj:=by
 intro c s l H x y v u Q I g i h;obtain⟨a,b,j,m,rfl,rfl,d,f,n,q⟩:=h;by_cases hx:j=[]
 ·cases g;cases i;obtain⟨o,r,t,_⟩:=I.tuple (XO.of d);obtain⟨k,O,w,_⟩:=I.tuple (XO.of f);exact HT.Lx t w (r.e5.mpr hx) ⟨.ref b,H,I,rfl,q b H (VU.refl _) (by rw[hx,Au];exact f)⟩
 ·exact LI (X:=X) c s l H _ _ v u Q I g i ⟨a,b,j,m,rfl,rfl,XO.of d,XO.of f,hx,n,λe=>q a H (VU.refl _) (by rw[e,GA];exact d),λZ p z=>q p _ (VW z _) ZT⟩
end
mutual
inductive VS(H:Hp):Bool->V->PyData->Prop
 |aT {f:Bool}:VS H f .aT .none
 |bl {f:Bool} (b:Bool):VS H f (.bl b) (.bool b)
 |int {f:Bool} (i:Int):VS H f (.int i) (.int i)
 |str {f:Bool} (x:Str):VS H f (.str x) (.str x)
 |lst {f:Bool}{a:Addr}{xs:List V}{ds:List PyData}:H a=some (.lst xs)->UB H f xs ds->VS H f (.ref a) (.list ds)
 |tup {f:Bool}{a:Addr}{xs:List V}{ds:List PyData}:H a=some (.tup xs)->UB H f xs ds->VS H f (.ref a) (.tuple ds)
 |d0 {a:Addr}:H a=some (.dK [])->VS H false (.ref a) (.dict [])
 |d1 {a:Addr}{i j:Int}:H a=some (.dK [(.inl i,.int j)])->VS H false (.ref a) (.dict [(.int i,.int j)])
inductive UB(H:Hp):Bool->List V->List PyData->Prop
 |nil {f:Bool}:UB H f [] []
 |cons {f:Bool}{v:V}{d:PyData}{vs:List V}{ds:List PyData}:VS H f v d->UB H f vs ds->UB H f (v::vs) (d::ds)
end
def VS.ka{K:B0}{H:Hp}{v:V}{d:PyData}(h:VS H true v d):P4 K H v d:=
 VS.rec (motive_1:=λf v d z=>f=true->P4 K H v d) (motive_2:=λf a c z=>f=true->Pl K H a c) (λz=>.aT) (λb z=>.bl b) (λb z=>.int b) (λb z=>.str b) (λh z i e=>.lst (XI.of h) (i e)) (λh z i e=>.tup (XO.of h) (i e)) (λz e=>nomatch e) (λz e=>nomatch e) (λz=>.nil) (λz z i j e=>.cons (i e) (j e)) h rfl
mutual
def Sw:PyData->Nat
 |.none | .bool _=>5
 |.int _=>1921
 |.str x=>(reprText x).length
 |.list xs | .tuple xs=>Pb xs+3
 |.dict _=>8000
def Pb:List PyData->Nat
 |[]=>0
 |x::xs=>Sw x+2+Pb xs
end
def Xj(hc:YN X (.type T) r)(c:X.mg x=none)(d:PA X (e::es) t)(f:autoParam (Gl X x) qAA)(g:bootBuiltins x=some (.type T):=by decide +kernel)(h:autoParam (x≠"__name__") qAB)(a:autoParam ((x==("__debug__":Str))=false) qAB)
  (i:autoParam (starEach (e::es) X.env=(false,eval e X.env)::starEach es X.env) qAA) (b:autoParam ((backTo pos (starEach es X.env)).any (·.1)=false) qAA) :
  PE X (.Call (.Name x p) (e::es) [] pos) (FP r t):=Pc hc f c g d h a i b
def ZH:Expr->Bool
 |.Starred _ _=>false
 |_=>true
def aZ(h:ZH e=true):starEach (e::es) env=(false,eval e env)::starEach es env:=by cases e<;>first|rfl|cases h
def By(a:PE X e te)(b:PA X es t)(hs:autoParam (ZH e=true) qAA):PA X (e::es) (NL te t):=PV a b (aZ hs)
structure QI(X:Cx)(tg l:Expr)(wi:TI):Prop where
 h:PI X tg l wi
structure QA(X:Cx)(es:B8)(t:TA):Prop where
 h:PA X es t
def J5:QA X [] kR:=⟨UE⟩
def U3(a:PE X e te)(b:QA X es t)(hs:autoParam (ZH e=true) qAA):QA X (e::es) (NL te t):=⟨By a b.h hs⟩
section
variable{X:Cx}{j k:Nat}{ps:C3}{sp:Sp}{x:Str}{p pos:Pos}{e:Expr}{es:B8}{t:TA}{E:XK}
def Ri{x1}(h:QA X es t):PE X (.Tuple es x1 pos) (BY t):=NC h.h
def Fp(h:QA X es t):PE X (.List es pos) (DV t):=GN h.h
def yL(D:N3 X.prog X.w X.K X.mg X.base j x ps sp)(d:ZA k X.A)(f:YY (bZ X.prog X.w) X E)(g:QA X (e::es) t)(a:autoParam (j<=k) qAB)(i:autoParam (Gl X x) qAA)(b:autoParam ((x==("__debug__":Str))=false) qAB)
  (l:autoParam (ZH e=true) qAA) (c:autoParam ((backTo pos (starEach es X.env)).any (·.1)=false) qAA) :
  PE X (.Call (.Name x p) (e::es) [] pos) (MV sp [] E t):=N7 D d f g.h a i b (aZ l) c
def PJ{id:String}{r:List V->Hp->VK->Prop}(hc:YN X (.builtin id) r)(c:X.mg x=none)(d:QA X (e::es) t)(f:autoParam (Gl X x) qAA)(g:bootBuiltins x=some (.builtin id):=by decide +kernel)(i:autoParam (x≠"__name__") qAB)(a:autoParam ((x==("__debug__":Str))=false) qAB)
  (l:autoParam (ZH e=true) qAA) (b:autoParam ((backTo pos (starEach es X.env)).any (·.1)=false) qAA) :
  PE X (.Call (.Name x p) (e::es) [] pos) (FP r t):=Xi hc c d.h f g i a (aZ l) b
def Wh(hc:YN X (.type T) r)(c:X.mg x=none)(d:QA X (e::es) t)(f:autoParam (Gl X x) qAA)(g:bootBuiltins x=some (.type T):=by decide +kernel)(i:autoParam (x≠"__name__") qAB)(a:autoParam ((x==("__debug__":Str))=false) qAB)
  (l:autoParam (ZH e=true) qAA) (b:autoParam ((backTo pos (starEach es X.env)).any (·.1)=false) qAA) :
  PE X (.Call (.Name x p) (e::es) [] pos) (FP r t):=Xj hc c d.h f g i a (aZ l) b
def UL{T name id:String}{r:V->List V->Hp->VK->Prop}{o:Expr}{i:TE}{apos af:Pos}(l:PlainAttrs T)(d:Slot T name id)(g:typeOf (.builtin id)=pure (.type "method_descriptor"))(m:yn X id r)(ho:PE X o i)(n:QA X (e::es) t)
  (b:autoParam (attributeBase o name X.env (eval o X.env)=eval o X.env) qAA)
  (f:autoParam (((backTo af (starEach (e::es) X.env)).all (fun x=>!x.1)&&(backToKw af (keywordEach [] X.env)).all (fun x=>x.1.isSome)
   &&decide ((e::es).length+([]:List Keyword).length+(if([]:List Keyword).isEmpty then 0 else 1)<30))=true) qAA)
  (c:autoParam ((apos.endLine==af.line)=true) qAA) (hs:autoParam (ZH e=true) qAA) (a:autoParam ((backTo af (starEach es X.env)).any (·.1)=false) qAA) :
  PE X (.Call (.Attribute o name apos) (e::es) [] af) (vx X.K T r i t):=C6 l d g m ho n.h b f c (aZ hs) a
def G5(b:Gl X "range")(c:X.mg "range"=none)(d:QA X [a] ta)(hs:autoParam (ZH a=true) qAA):QI X tg (.Call (.Name "range" p) [a] [] pos) (IZ ta):=⟨Pm b c d.h (aZ hs)⟩
def G6(d:Gl X "range")(f:X.mg "range"=none)(g:QA X [a,b] ta)(hs:autoParam (ZH a=true) qAA)(c:autoParam (ZH b=true) qAA):QI X tg (.Call (.Name "range" p) [a,b] [] pos) (KA ta):=
 ⟨OT d f g.h ((aZ hs).trans (by rw[aZ c];rfl)) (aZ c)⟩
end
def off(H:Hp)(p:Addr):Hp:=λa=>if a=p then none else H a
def zW{α:Type}(P:α->Prop):List α->Prop
 |[]=>True
 |a::l=>P a/\zW P l
theorem o5:∀{l:List α},zW P l->∀a∈l,P a
 |[],_,_,h=>nomatch h
 |b::l,h,a,c=>by
   rcases Y5.mp c with rfl|c
   ·exact h.1
   ·exact o5 h.2 a c
set_option tactic.hygienic true in
theorem mem_of_lookup:∀{l:List (Str×β)},l.lookup y=some c->(y,c)∈l
 |[],h=>by cases h
 |(z,d)::l,h=>by
   rw[EZ]at h;split at h
   ·rename_i e;have a:y=z:=by simpa using e
    cases h;rw[a];exact Zd ..
   ·exact Zq _ (mem_of_lookup h)
def KR{cl a:A9}(h:zW (λp=>a.lookup p.1=some p.2) cl):∀y c,cl.lookup y=some c->a.lookup y=some c:=λy c e=>o5 h (y,c) (mem_of_lookup e)
def Nj:NameKind->Bool
 |.cell | .free=>true
 |_=>false
def Jj{names:List (Str×NameKind)}{cl:A9}(h:(names.all λp=>!Nj p.2||(cl.lookup p.1).isSome)=true):∀y,(names.lookup y=some .cell\/names.lookup y=some .free)->∃c,cl.lookup y=some c:=λy e=>by
 have a:=Kk.mp h;rcases e with e|e
 ·have:=a _ (mem_of_lookup e);simp only[Nj,Bool.not_true,Bool.false_or]at this;exact FH.mp this
 ·have:=a _ (mem_of_lookup e);simp only[Nj,Bool.not_true,Bool.false_or]at this;exact FH.mp this
def Jd{js:C0}{fr:C3}{P:Nat->Str->Prop}(h:zW (λp:Nat×Str=>P p.1 p.2) (js.zip fr)):∀(k j:Nat) (y:Str),js[k]?=some j->fr[k]?=some y->P j y:=λk j y a b=>by refine o5 h (j,y) (yy.mpr ⟨k,?_⟩);rw[List.getElem?_zip_eq_some];exact⟨a,b⟩
section
variable{X:Cx}
def MN:entryFor table "tuple_iterator.__iter__"=some Builtin.«dict_keyiterator.__iter__»:=
 entryFor_alias (id' := "dict_keyiterator.__iter__") (by kernel_rfl) rfl (by decide +kernel) (by kernel_rfl)
def xq(a:IsTupIter s.heap it t i)(h:Q (.ref it) s):
  wq prog w A (pyIter (.ref it)) Q E s:=by
 refine vS a.typeIs F.slot_tuple_iterator_iter (Zy F.slot_tuple_iterator_iter a.typeIs MN ?_ (F.args_tuple_iterator_iter_1 _));show wpAny _ _ (ret (.ref it)) _ _ s;exact YG ⟨_,rfl,"tuple_iterator",_,a.typeIs,slot_tupleiter_next.lookup,h⟩
def Lg(q:A.handled=none)(I c:Addr)(k:c≠I)(items:B4):
  Walks prog w A I [I,c] [I] items.size (λi v=>items[i]?=some v) (λi h=>IsTupIter h I c i/\IsTup h c items)where
 sub:=λb a=>by simp at a;simp[a]
 frame:=λi h j st m=>by obtain⟨⟨o,r,t⟩,⟨n,u,y⟩⟩:=st;exact⟨⟨o,m I (by simp) o r,t⟩,⟨n,m c (by simp) n u,y⟩⟩
 item:=λi s Q E p st d=>by
  refine next_tuple_item st.1 st.2 (x:=items[i]) (by simp[p]) λj f g=>?_
  exact d _ j s.toks (by simp[p]) ⟨f,st.2.extBut g.extBut k⟩ λb o a e=>g.extBut b o (λh=>a (by simp[h])) e
 done:=λs Q E st d=>next_tuple_end q st.1 st.2 (by simp) λj l=>d j s.toks λb o a e=>l b o (λh=>a (by simp[h])) e
 self:=λz z z z st d=>xq st.1 d
def iw:V->Bool
 |.bl b=>b
 |.int i=>i != 0
 |_=>false
def DH:V->Bool
 |.bl _=>true
 |.int _=>true
 |_=>false
def K7(h:DH v=true)(r:RelV v u)(q:Q (iw v) s):wq prog w A (truthy u) Q E s:=by
 cases v with
 |bl b=>cases r;exact JJ q
 |int i=>obtain⟨t,rfl⟩:=r;exact PyProof.Rows.truthy_int q
 |_=>cases h
def OQ{xs:List V}{tr:Nat->Bool}(h:∀(i:Nat) (x:V),xs[i]?=some x->tr i=iw x):(List.range xs.length).all tr=xs.all iw:=by
 rw[Zf,Kk,Kk];constructor
 ·intro q x c;obtain⟨i,b,e⟩:=ZV.mp c;have:=q i (YX.mpr b);rw[h i x (by rw[YS b,e])]at this
  exact this
 ·intro q i b;have a:=YX.mp b;rw[h i xs[i] (YS a)];exact q _ (OA a)
def OI{xs:List V}{tr:Nat->Bool}(h:∀(i:Nat) (x:V),xs[i]?=some x->tr i=iw x):(List.range xs.length).any tr=xs.any iw:=by
 rw[Zf,GB,GB];constructor
 ·rintro⟨i,b,e⟩;have a:=YX.mp b;rw[h i xs[i] (YS a)]at e;exact⟨_,OA a,e⟩
 ·rintro⟨x,c,e⟩;obtain⟨i,b,d⟩:=ZV.mp c;refine⟨i,YX.mpr b,?_⟩;rw[h i x (by rw[YS b,d])]
  exact e
def Qh{xs:List V}{aE:B5}(rv:ZN xs aE)(hs:∀x∈xs,DH x=true):TruthOf prog w A (λi v=>aE.toArray[i]?=some v) (λi=>iw (xs[i]?.getD .aT)):=by
 intro i v s Q E d f;have e:aE[i]?=some v:=by simpa using d
 have g:=rv.length;have b:i<xs.length:=by rw[g];exact(YJ.mp e).1
 obtain⟨u,c,r⟩:=rv.get (YS b);rw[e]at c;cases c;refine K7 (hs _ (OA b)) r ?_;have a:Q (iw (xs[i]?.getD V.aT)) s:=f;rw[YS b]at a;exact a
def Lr(d:X.A.handled=none):YN X (.builtin "all") (λvs H Q=>∃l xs,vs=[.ref l]/\H l=some (.lst xs)/\(∀x∈xs,DH x=true)/\Q (.bl (xs.all iw)) H):=by
 intro c s t H vs w Q I r h;obtain⟨l,xs,rfl,f,g,q⟩:=h;obtain⟨u,rfl,j⟩:=vals1 r;cases j;obtain⟨a,rv,p,y⟩:=I.list (XI.of (K:=X.K) f);have k:l<s.z:=by obtain⟨o,n,e,_⟩:=p;exact YW e
 refine call_all_walk (Ap p.isList ?_);refine⟨s.z,[s.z,l],[s.z],a.toArray.size,λi v=>a.toArray[i]?=some v,λi h=>h.IsListIter s.z l i/\h.IsList l a.toArray,λi=>iw (xs[i]?.getD .aT),rfl,Walks.list (A:=X.A.in1) d s.z l (Y6 k) a.toArray,⟨⟨_,YZ _ rfl,rfl,rfl⟩,p.isList.at λo e=>YH _ e⟩,Qh rv g,λO U m=>?_⟩
 refine⟨.bl (xs.all iw),H,I.kept λb o e=>m b o (λz=>?_) (YH _ e),?_,q⟩
 ·have:b=s.z:=by simpa using z
  exact absurd (YW e) (by rw[this];exact MI _)
 ·rw[show a.toArray.size=xs.length by rw[Za];exact rv.length.symm]
  show Value.bool _=Value.bool _;rw[OQ λi x e=>by rw[e];rfl]
def Ls(d:X.A.handled=none):YN X (.builtin "any") (λvs H Q=>∃l xs,vs=[.ref l]/\H l=some (.tup xs)/\(∀x∈xs,DH x=true)/\Q (.bl (xs.any iw)) H):=by
 intro c s y H vs O Q I r h;obtain⟨l,xs,rfl,f,g,q⟩:=h;obtain⟨u,rfl,j⟩:=vals1 r;cases j;obtain⟨a,rv,p,U⟩:=I.tuple (XO.of (K:=X.K) f);have k:l<s.z:=by obtain⟨o,e,_⟩:=p;exact YW e
 refine call_any_walk (iter_tuple p ?_);refine⟨s.z,[s.z,l],[s.z],a.toArray.size,λi v=>a.toArray[i]?=some v,λi h=>IsTupIter h s.z l i/\IsTup h l a.toArray,λi=>iw (xs[i]?.getD .aT),rfl,Lg (A:=X.A.in1) d s.z l (Y6 k) a.toArray,⟨⟨_,YZ _ rfl,rfl,rfl⟩,?_⟩,Qh rv g,λh' tk m=>?_⟩
 ·obtain⟨n,t,w⟩:=p;exact⟨n,YH _ t,w⟩
 refine⟨.bl (xs.any iw),H,I.kept λb o e=>m b o (λz=>?_) (YH _ e),?_,q⟩
 ·have:b=s.z:=by simpa using z
  exact absurd (YW e) (by rw[this];exact MI _)
 ·rw[show a.toArray.size=xs.length by rw[Za];exact rv.length.symm]
  show Value.bool _=Value.bool _;rw[OI λi x e=>by rw[e];rfl]
theorem yc:∀{bs:List Bool}{aE:B5},ZN (bs.map V.bl) aE->aE=bs.map Value.bool
 |[],_,r=>by rw[FD]at r;cases r;rfl
 |b::bs,_,r=>by
   rw[Zj]at r;cases r with
   |cons r1 r2=>cases r1;rw[yc r2];rfl
def UR(b:Bool):Value->Bool
 |.bool c=>c==b
 |_=>false
theorem yt(b:Bool):∀bs:List Bool,(bs.map Value.bool).countP (UR b)=bs.countP (·== b)
 |[]=>rfl
 |c::bs=>by rw[Zj,List.countP_cons,List.countP_cons,yt b bs];rfl
def Ny:FR X "list.count" (λx vs H Q=>∃(l:Addr) (bs:List Bool) (b:Bool),x=.ref l/\vs=[.bl b]/\H l=some (.lst (bs.map V.bl))/\Q (.int (bs.countP (·== b):Nat)) H):=by
 intro d s o H x vs v p Q I f rv h;obtain⟨l,bs,b,rfl,rfl,g,q⟩:=h;cases f;obtain⟨u,rfl,i⟩:=rv.one;cases i;obtain⟨z,j,n,r,t,e⟩:=I.fI g;have k:=yc r;subst k;refine HE F.slot_list_count ⟨_,e,rfl⟩ F.entry_list_count (F.args_list_count_2 _ _) (PySem.SeqAt.list_countAt l (bs.map Value.bool).toArray n none #[] (.bool b) (UR b)) ⟨e,λy m=>?_,?_⟩
 ·have a:y∈bs.map Value.bool:=by simpa using m
  obtain⟨c,_,rfl⟩:=Ze.mp a;exact PySem.SeqAt.EqAt.bool_bool c b
 ·refine⟨.int _,H,I.tok _,⟨s.toks,?_⟩,q⟩;show Value.int (((bs.map Value.bool).toArray.toList.countP (UR b):Nat):Int) _=_;rw[show(bs.map Value.bool).toArray.toList=bs.map Value.bool from rfl,yt]
def Nz:FR X "list.index" (λx vs H Q=>∃(l:Addr) (bs:List Bool) (b:Bool) (j:Nat),x=.ref l/\vs=[.bl b]/\H l=some (.lst (bs.map V.bl))/\bs[j]?=some b/\(∀m c,m<j->bs[m]?=some c->(c==b)=false)/\j<1000/\Q (.int (j:Nat)) H):=by
 intro g s σ H x vs v us Q I i rv h;obtain⟨l,bs,b,j,rfl,rfl,k,o,a,h1,q⟩:=h;cases i;obtain⟨u,rfl,p⟩:=rv.one;cases p;obtain⟨z,t,n,r,hl,e⟩:=I.fI k;have w:=yc r;subst w;obtain⟨O,U⟩:=YJ.mp o;have lt':j<(bs.map Value.bool).toArray.size:=by simpa using O
 refine HE F.slot_list_index ⟨_,e,rfl⟩ F.entry_list_index (F.args_list_index_2 _ _) (PySem.SeqAt.list_indexAt l (bs.map Value.bool).toArray n none #[] (.bool b) (UR b) j lt' (by lia) ?_ ?_) ⟨e,λy hy=>?_,?_⟩
 ·simp[UR,U]
 ·intro m hm lm;have d:m<bs.length:=by simpa using hm
  have:=a m bs[m] lm (YS d);simpa[UR]using this
 ·have f:y∈bs.map Value.bool:=by simpa using hy
  obtain⟨c,_,rfl⟩:=Ze.mp f;exact PySem.SeqAt.EqAt.bool_bool c b
 ·exact⟨.int _,H,I.tok _,⟨_,rfl⟩,q⟩
def Wg(h:X.mg x=some (.int i t))(a:autoParam (Gl X x) qAA)(hd:autoParam ((x==("__debug__":Str))=false) qAB):PE X (.Name x pos) (tC (.int i)):=P5 a h ⟨t,rfl⟩ hd
end
structure MethAt(K:B0)(C:Addr)(x qual:Str)(st:Stmt):Prop where
 ex:∃f fd,P8 K x qual st f fd/\W.findIn K (.ref C) x=some (some (.ref f))/\W.isFn K (.ref f)=true
structure VT(P:C5)(w:World)(K:B0)(mg:A4)(base:Heap)(k:Nat)(C:Addr)(x:Str)(ps:C3)(sp:Sp):Prop where
 ex:∃f fd,XW P w K mg base (bZ P w) k f fd ps sp/\Binds K fd ps []/\W.keepIn K (.ref f)=true/\W.findIn K (.ref C) x=some (some (.ref f))/\W.isFn K (.ref f)=true
def JC{K:B0}{C:Addr}{x b:Str}{st:Stmt}{f:Addr}{g:Value}{od h:B3}{e:Array B1}{kV doc i d ct:Value}
  (a:W.findIn K (.ref C) x=some (some (.ref f))) (n:W.isFn K (.ref f)=true) (l:K.lookup f=some ⟨g,od,.func (W.fnOf x b (Y2 st) (ZI st) (ZY st) .none kV doc i h d ct),e⟩) (c:W.codeIn K d b=true) (k:W.keepIn K (.ref f)=true):MethAt K C x b st:=
 ⟨f,_,N9 l c k,a,n⟩
section
variable{P:C5}{w:World}{K:B0}{mg:A4}{base:Heap}{k:Nat}{C:Addr}{x qual:Str}{N ps:C3}{sp:Sp}{st:Stmt}
def Xg(F:P8 K x qual st f fd)(S:ZB N ps (ZY st))(e:∀vs H Q E,sp vs H Q E->vs.length=ps.length)
  (b:∀(a:Value) (A:Around) (d:C4) (s:Shared) (H:Hp) (vs:List V) (Q:VK) (E:XK),ZA k (A.deeper (envOfC qual (ZY st) s.z f a))->sp vs H Q E->
    ∃t,T1 (bQ P w K mg base N qual (ZY st) f a A d s H E) (ZI st) t/\t {nx:=λy I=>Q .aT I,rt:=Q} (start N vs) H):XW P w K mg base (bZ P w) (k+1) f fd ps sp:=by
 obtain⟨h,i,kV,doc,j,m,a,ct,g,rfl,l,c⟩:=F.ex;exact PU l c S e (b a)
end
section
variable{X:Cx}{j k:Nat}{C:Addr}{ps:C3}{sp:Sp}{x:Str}{p pos:Pos}{e:Expr}{es:B8}{t:TA}{E:XK}
def N8(D:VT X.prog X.w X.K X.mg X.base j C "__init__" ps sp)(i:W.makesIn X.K C=true)(l:W.keepIn X.K (.ref C)=true)(m:X.mg x=some (.ref C))(o:ZA k X.A)(q:YY (bZ X.prog X.w) X E)(r:QA X (e::es) t)(c:autoParam (j+1<=k) qAB)(s:autoParam (Gl X x) qAA)(d:autoParam ((x==("__debug__":Str))=false) qAB)
  (u:autoParam (ZH e=true) qAA) (g:autoParam ((backTo pos (starEach es X.env)).any (·.1)=false) qAA) :
  PE X (.Call (.Name x p) (e::es) [] pos) (Jn C sp [] E t):=by
 obtain⟨f,v,F,b,y,a,n⟩:=D.ex;exact K2 ⟨i,a,n,l⟩ F (o.mono c) s m b .nil q r.h d (aZ u) g
end
open PyProof.Rows
section
variable{X:Cx}{CX:hJ}{k:Nat}{f C:Addr}{fd:FuncData}{ps:C3}{sp:Sp}{E:XK}
def xO(F:XW X.prog X.w X.K X.mg X.base CX k f fd ps sp)(hr:ZA k X.A.in1)(hb:Binds X.K fd ps [])(hx:YY CX X E)
  (I:Inv X aC σ H s) (r:ZN vs us) (h:sp vs H Q E):wpAny X.M X.A.in1 (call (.ref f) us) (EP X aC σ Q) X.xe s:=by
 have hl:(us++[]).length=ps.length:=by rw[GA,<-r.length];exact F.len _ _ _ _ h
 have hl':us.length=ps.length:=by rw[GA]at hl;exact hl
 have bb:=hb s us I.cE hl;rw[GA]at bb;refine IQ (MA (F.run X.A.in1 X.stack s H ⟨us,[]⟩ us vs Q E hr ⟨(show X.A.in1.frames=some X.stack from I.ok.frames),I.ok.mod,I.bs,Zx I.ok.gV I.sz,I.stack,I.eW,I.aI,I.bare⟩ bb r h) λr s' hq=>?_)
 cases r with
 |error e=>exact hx aC σ H s e s' I hq
 |ok fl=>
   cases fl with
   |ret u=>exact I.after hq
   |next=>exact False.elim hq
   |brk=>exact False.elim hq
   |cont=>exact False.elim hq
def Ip(D:VT X.prog X.w X.K X.mg X.base j C "__len__" ps sp)(i:ZA (j+1) X.A)(l:YY (bZ X.prog X.w) X E):
  YN X (.builtin "len") (λvs H Q=>∃x d e,vs=[.ref x]/\H x=some (.ins C d e)/\sp [.ref x] H (λv U=>∃n:Int,v=.int n/\(0<=n/\n<2^63)/\Q (.int n) U) E):=by
 intro g s σ H vs us Q I r h;obtain⟨x,d,e,rfl,c,q⟩:=h;obtain⟨f,fd,F,b,kp,a,n⟩:=D.ex;obtain⟨u,rfl,o⟩:=vals1 r;cases o;obtain⟨mA,O,_⟩:=XU I.aI c;obtain⟨od,p,_⟩:=O.look;refine BC PySem.kind_len PySem.plain_len PySem.entry_len (PySem.args_len1 _) ?_;unfold Builtin.«len»
 refine YF (m:=oneArg "len" _) (YG ?_);refine YF (m:=callSpecial? (.ref x) (Str.ofString "__len__")) (W.special_fn I.cE p a (JU.mp n) (Zh (xO (vs:=[.ref x]) F i.in1 b l I (.cons rfl .nil) q) (λw' s' z=>?_) λk k y=>y))
 obtain⟨v,U,I2,rv,m,rfl,⟨h0,h1⟩,qq⟩:=z;obtain⟨t,rfl⟩:=rv;refine YF (ZF (YG ?_));refine YF (wpAny_letGo ?_);show wpAny _ _ (if m<0 then _ else _) _ _ _
 rw[YQ (by lia)]
 show wpAny _ _ (if m≥2^63 then _ else _) _ _ _
 rw[YQ (by lia)]
 exact YF (wpAny_mkInt (YG ⟨_,rfl,.int m,U,I2.tok _,⟨_,rfl⟩,qq⟩))
end
theorem cO:∀(names:List (Str×NameKind)) (n:Nat) (acc:A9),cellsFrom n names acc=cellsFrom n names []++acc
 |[],_,_=>rfl
 |(name,kind)::r,n,acc=>by
   unfold cellsFrom;split
   ·rw[cO r (n+1) ((name,n)::acc),cO r (n+1) [(name,n)],IM];rfl
   ·exact cO r n acc
def JK
  (d:Q (newEnv scope s.z globals (cellsFrom (s.z+1) scope.names cl) qual none .none (some env) builtinsNs) {s with heap:=pushCells (s.heap.push {cls:=.type "dict",data:=.dict #[]}) scope.names}) :
  wpAny M A (newFunctionEnv scope globals cl [] qual none .none (some env)) Q E s:=by
 simp only[newFunctionEnv,Option.isSome_some,if_true];refine YF (wpAny_alloc ?_);refine YF (wpAny_layCells _ (λc a b=>by cases hkc:a==NameKind.cell<;>simp[hkc]) _ _ _ _ ?_)
 rw[show({s with heap:=s.heap.push {cls:=.type "dict",data:=.dict #[]} }:Shared).heap.objs.size=s.z+1 from ZX ..]
 refine YF ?_;rw[List.forIn_nil];exact YG (YG d)
abbrev Cx.aR(X:Cx)(b:A8)(a:Scope)(cs:A9)(O:C3)(fp:B7)(C:Addr)(c:Shared)(I:Hp):Cx where
 prog:=X.prog
 w:=X.w
 K:=X.K
 mg:=X.mg
 base:=X.base
 A:=X.A
 N:=O
 s₀:=c
 H₀:=I
 env:=compEnvC a cs C X.env
 outer:=X.stack
 stack:=X.stack
 ex:=fp
 fn:=λy=>a.names.lookup y==some .cell
 calm:=X.calm
 pn:=X.pn++b
 xe:=λ_ _=>False
structure WO(X:Cx)(scope:Scope)(cl:A9)(own:C3)(js:C0)(fr:C3):Prop where
 kind:scope.kind=.function
 names:∀y∈scope.names,y.2=.local->scope.names.lookup y.1=some .local
 ko:closureFor scope X.env=pure cl
 sub:∀y c,cl.lookup y=some c->X.env.cells.lookup y=some c
 has:∀(m:Nat) y,((relabel scope X.env).names.lookup y=some .cell\/(relabel scope X.env).names.lookup y=some .free)->∃c,(cellsFrom m scope.names cl).lookup y=some c
 nd:(own++fr).Nodup
 len:js.length=fr.length
 nv:∀(m:Nat) y c,(cellsFrom m scope.names []).lookup y=some c->scope.names.lookup y=some .cell
 lj:∀y c,cl.lookup y=some c->scope.names.lookup y≠some .cell
 ll:∀(k j:Nat) (y:Str),js[k]?=some j->fr[k]?=some y->X.N[j]?=some y/\(X.env.scope.names.lookup y=some .cell\/X.env.scope.names.lookup y=some .free)/\((relabel scope X.env).names.lookup y=some .cell\/(relabel scope X.env).names.lookup y=some .free)/\∃c,cl.lookup y=some c
theorem pG:∀{l m:List (Str×α)},(l++m).lookup y=some c->l.lookup y=some c\/(l.lookup y=none/\m.lookup y=some c)
 |[],_,h=>.inr ⟨rfl,h⟩
 |(k,v)::r,m,h=>by
   rw[AU,EZ]at h;rw[EZ];split at h
   ·exact .inl h
   ·exact pG h
theorem my:∀{l m:List (Str×α)},l.lookup y=none->(l++m).lookup y=m.lookup y
 |[],_,_=>rfl
 |(k,v)::r,m,h=>by
   rw[EZ]at h;rw[AU,EZ];split at h
   ·cases h
   ·exact my h
section
variable{X:Cx}{aC:A8}{σ:St}{H:Hp}{s:Shared}{scope:Scope}{cl:A9}{own:C3}{js:C0}{fr:C3}{fp:B7}{C m:Addr}
def LQ{u:Heap}(T:WO X scope cl own js fr)(I:Inv X aC σ H s)(f:∀b∈fp,VE X aC H b)(k:∀b∈fp,b<s.z)(O:s.z<=C)(r:m=u.objs.size)(g:s.z<=m):
  (X.aR aC scope (cellsFrom m scope.names cl) (own++fr) fp C s H).Ok:=by
 have ok:CellsOk (pushCells u scope.names) m (cellsFrom m scope.names []):=by
  have:=cellsFrom_ok scope.names u m [] ⟨λZ Z r=>(nomatch r),List.Pairwise.nil⟩ (by rw[r];exact YL _)
  rw[<-r]at this;exact this
 have l:∀y c,cl.lookup y=some c->c<s.z:=λy c e=>by obtain⟨v,q⟩:=I.cell y c (T.sub _ _ e);exact q.lt
 have a:∀y c,(cellsFrom m scope.names cl).lookup y=some c->(m<=c/\(cellsFrom m scope.names []).lookup y=some c)\/(cl.lookup y=some c/\c<s.z):=λy c e=>by
  rw[cO]at e;rcases pG e with z|⟨_,z⟩
  ·exact .inl ⟨(ok.empty _ _ (L6 z)).2,z⟩
  ·exact .inr ⟨z,l _ _ z⟩
 refine⟨I.ok.mod,T.kind,I.ok.glob,I.ok.blt,O,λy z c w t=>?_,λy h=>T.has m y h,λy c w t=>?_,I.ok.hd,I.ok.frames,.inl rfl,λb i=>⟨Y6 (Y0 (k b i) O),λy c h=>?_⟩,λb o e=>I.bs b o e,Zx I.ok.gV I.sz,λb o e i=>?_,λb i x=>?_,I.stack,I.eW⟩
 ·rcases a _ _ w with⟨d,j⟩|⟨d,j⟩
  ·rcases a _ _ t with⟨n,p⟩|⟨n,p⟩
   ·exact name_of_addr ok.apart (L6 j) (L6 p)
   ·exact absurd (Y0 p g) (PR.mpr d)
  ·rcases a _ _ t with⟨n,p⟩|⟨n,p⟩
   ·exact absurd (Y0 j g) (PR.mpr n)
   ·exact I.ok.inj y z c (T.sub _ _ d) (T.sub _ _ n)
 ·rcases a _ _ t with⟨d,j⟩|⟨d,j⟩
  ·exact Zx g d
  ·exact absurd (by simpa using w) (T.lj _ _ d)
 ·rcases a _ _ h with⟨d,j⟩|⟨d,j⟩
  ·exactλz=>absurd (Y0 (k b i) g) (PR.mpr (z▸d))
  ·exact(f b i).2.2.2.2.1 y c (T.sub _ _ d)
 ·rcases(f b i).2.2.2.1 with z|z
  ·exact I.ok.gX b o e z
  ·exact absurd (Y0 (YW e) I.ok.gV) (PR.mpr z)
 ·rcases Y5.mp (I.dn b x)with z|z
  ·exact(f b i).2.1 z
  ·exact(f b i).2.2.1 z
def Gz(T:WO X scope cl own js fr)(I:Inv X aC σ H s)(f:∀b∈fp,VE X aC H b)(ly:∀b∈fp,b<s.z)
  (k:∀b o,s.heap.get? b=some o->h'.get? b=some o) (l:s.z<=acc) (hC:s.z<=C) (bp:C≠acc) (h:m=hh.objs.size) (t:s.z<=m) (hCm:C<m) (sM:acc<m) (sN:h'=pushCells hh scope.names) (ob:Y3 X.prog X.w (upd H acc ho) h' acc ho) (ns:h'.Ns C mm) :
  Inv (X.aR aC scope (cellsFrom m scope.names cl) (own++fr) fp C s H) [] (List.replicate own.length none++TK js σ) (upd H acc ho) {s with heap:=h',toks:=t'}:=by
 have ok:CellsOk (pushCells hh scope.names) m (cellsFrom m scope.names []):=by
  have:=cellsFrom_ok scope.names hh m [] ⟨λZ Z h=>(nomatch h),List.Pairwise.nil⟩ (by rw[h];exact YL _)
  rw[<-h]at this;exact this
 have x:∀y c,cl.lookup y=some c->c<s.z:=λy c e=>by obtain⟨v,q⟩:=I.cell y c (T.sub _ _ e);exact q.lt
 have O:∀y c,(cellsFrom m scope.names cl).lookup y=some c->(m<=c/\h'.IsCell c none)\/(cl.lookup y=some c/\c<s.z):=λy c e=>by
  rw[cO]at e;rcases pG e with z|⟨_,z⟩
  ·have:=ok.empty _ _ (L6 z);exact .inl ⟨this.2,by rw[sN];exact this.1⟩
  ·exact .inr ⟨z,x _ _ z⟩
 have hn:H acc=none:=I.aI.fresh l;have fC:H C=none:=I.aI.fresh hC;refine⟨LQ T I f ly hC h t,rfl,I.bare,Un.laid k l hn,⟨mm,ns,λi y v h1 a h3=>?_⟩,λy c e=>?_,by show upd H acc _ C=none;rw[ZU bp];exact fC,λy c e=>?_,λp hp=>?_,I.aI.laid k l ob,?_⟩
 ·have h1:(own++fr)[i]?=some y:=h1;by_cases hi:i<own.length
  ·rw[Y9 (by rw[JO];exact hi),FU]at a
   split at a<;>cases a
  ·rw[List.getElem?_append_right (by lia)]at h1
   rw[Z4 (by rw[JO];lia),JO]at a
   unfold TK at a;rw[Y8]at a;cases hj:js[i-own.length]? with
   |none=>rw[hj]at a;cases a
   |some j=>
     rw[hj]at a;have g:(σ[j]?).getD none=some v:=Y4 a;have U:σ[j]?=some (some v):=by
      cases z:σ[j]? with
      |none=>rw[z]at g;cases g
      |some w=>rw[z]at g;exact congrArg some g
     obtain⟨g1,g2,g3,c,gc⟩:=T.ll _ j y hj h1;obtain⟨mX,_,hl⟩:=I.loc;have vis:JE X.env.scope y:=g2.elim (λz=>.inr (.inl z)) λz=>.inr (.inr z)
     obtain⟨u,r,q⟩:=hl j y v g1 U vis;refine⟨u,r,.inr ⟨g3,c,?_,?_⟩⟩
     ·show(cellsFrom m scope.names cl).lookup y=some c;rw[cO];cases z:(cellsFrom m scope.names []).lookup y with
      |none=>rw[my z];exact gc
      |some c'=>exact absurd (T.nv m y c' z) (T.lj y c gc)
     ·have hc':=T.sub _ _ gc;rcases q with⟨q,_⟩|⟨_,c2,e2,z⟩
      ·have q:X.env.scope.names.lookup y=some .local:=q;rcases g2 with g2|g2<;>(rw[g2]at q;cases q)
      ·rw[hc']at e2;cases e2;exact z.keeps k
 ·rcases O y c e with⟨_,z⟩|⟨z,_⟩
  ·exact⟨_,z⟩
  ·obtain⟨v,q⟩:=I.cell y c (T.sub _ _ z);exact⟨v,q.keeps k⟩
 ·rcases O y c e with⟨z,_⟩|⟨z,lt⟩
  ·show upd H acc _ c=none;rw[ZU (λ(q:c=acc)=>absurd sM (PR.mpr (q▸z)))]
   exact I.aI.fresh (Zx t z)
  ·show upd H acc _ c=none;rw[ZU (λ(q:c=acc)=>absurd lt (PR.mpr (q▸l)))]
   exact I.bT y c (T.sub _ _ z)
 ·have hp':p∈X.pn++aC:=by simpa using hp
  obtain⟨e,n,ne,nf,d⟩:=I.pin p hp';refine⟨k _ _ e,?_,Y6 (Y0 (YW e) hC),λh=>?_,d⟩
  ·show upd H acc _ p.1=none;rw[ZU (λz=>absurd (YW e) (by rw[z];exact PR.mpr l))]
   exact n
  ·rcases Y5.mp (I.dn _ h)with z|z
   ·exact ne z
   ·exact nf z
 ·show(List.replicate own.length none++TK js σ).length=(own++fr).length;unfold TK;rw[Zm,JO,YT,Zm,T.len]
end
section
variable{prog:C5}{w:World}{A:Around}{R:Result->B2}{s:Shared}
noncomputable def xX(a:B8)(env:Env):Sem Bool:=forIn a true λc r=>if r=true then do let ok <-isTrue c env (eval c env);pure (ForInStep.yield ok)else pure (ForInStep.yield r)
def WZ(g:Comprehension)(bodyK:Sem Fin->Sem Fin)(c:Code)(it:Value)(env:Env):Sem Fin:=do
 standAt g.iter.pos
 match <-pyNext it with
 |none=>pure (.done .next)
 |some v=>
   letOwnedTupleGo g.target it v
   assign g.target env v
   let ok <-xX g.ifs env
   if ok then bodyK (again c)else again c
def vV(a:Expr)(acc:Value)(env:Env)(k:Sem Fin):Sem Fin:=do
 (do let _ <-call (.builtin "list.append") [acc,<-eval a env])
 k
def Qi(d a b:Expr)(e:B8)(c:Scope)(pos:Pos)(it acc:Value)(env:Env):
  compTurn (.ListComp d [⟨a,b,e,0⟩] c pos) 0 it acc env=WZ ⟨a,b,e,0⟩ (vV d acc env) (.compLoop (.ListComp d [⟨a,b,e,0⟩] c pos) 0 it acc env) it env:=rfl
def lM(prog:C5)(w:World)(A:Around)(bodyK:Sem Fin->Sem Fin)(W:B2->B2):Prop:=
 ∀(k:Sem Fin) (Q:Fin->B2) (E:A3) (s:Shared),W (λa=>wq prog w A k Q E a) s->wq prog w A (bodyK k) Q E s
def IW:lM prog w A (vV elt acc env) (λP s=>wq prog w A (eval elt env) (λx a=>wq prog w A (call (.builtin "list.append") [acc,x]) (λy b=>P b) (λy y=>False) a) (λy y=>False) s):=by intro k Q E s h;unfold vV;exact YF (YF (Zh h (λx a c=>YF (Zh c (λy b d=>YG d) λy y z=>z.elim)) λy y z=>z.elim))
def HW(e:Expr):Prop:=(∃a b c d,e=.ListComp a b c d)\/∃a b c d,e=.SetComp a b c d
def Nu(I:Nat->B2)
  (k:compTurn e depth it acc env=WZ g bodyK (.compLoop e depth it acc env) it env) (hW:lM prog w A bodyK W)
  (turn:∀n s,I n s->wq prog w A (pyNext it) (λr c=>match r with
    |none=>R (.ok .next) c
    |some v=>wq prog w A (letOwnedTupleGo g.target it v) (λZ d=>wq prog w A (assign g.target env v) (λZ i=>
      wq prog w A (xX g.ifs env) (λok s₄=>if ok=true then W (λb=>∃m,m<n/\I m b) s₄ else∃m,m<n/\I m s₄) (λZ Z=>False) i) (λZ Z=>False) d) (λZ Z=>False) c) (λZ Z=>False) s)
  (l:∀P O s,(∀s,P s->O s)->W P s->W O s)
  (n:Nat) (h:I n s) (U:HW e):codeAny (model prog w) A (.compLoop e depth it acc env) R s:=by
 refine codeAny_loop (by rcases U with⟨_,_,_,_,rfl⟩|⟨_,_,_,_,rfl⟩<;>rfl) I (λn s hI=>?_) n h
 suffices q:wq prog w A ((compTurn e depth it acc env).onRaise (λx=>do noteFrame x env;theTreesLotGoes x)) (λz y=>match z with
   |.done f=>R (.ok f) y
   |.again c'=>c'=Code.compLoop e depth it acc env/\∃m,m<n/\I m y) (λe y=>R (.error e) y) s by
  rcases U with⟨_,_,_,_,rfl⟩|⟨_,_,_,_,rfl⟩<;>exact q
 refine wpAny_noted ?_;rw[k];unfold WZ;refine YF (Fm (YF (Zh (turn n s hI) (λr c j=>?_) λZ Z o=>o.elim)))
 cases r with
 |none=>exact YG j
 |some v=>
   refine YF (Zh j (λZ d p=>YF (Zh p (λZ i t=>YF (Zh t (λok s₄ a=>?_) λZ Z o=>o.elim)) λZ Z o=>o.elim)) λZ Z o=>o.elim)
   cases ok with
   |false=>have a:∃m,m<n/\I m s₄:=a;exact YG ⟨rfl,a⟩
   |true=>
     have a:W (λb=>∃m,m<n/\I m b) s₄:=a
     exact hW _ _ _ _ (l _ _ _ (λb u=>YG ⟨rfl,u⟩) a)
def KQ(c:(clausesOf e)[depth]?=some g)(j:g.is_async=0)
  (d:codeAny (model prog w) A (.compLoop e depth it acc env) R s)
  (h:wq prog w A (pyIter it) (λa s'=>codeAny (model prog w) A (.compLoop e depth a acc env) R s') (λz z=>False) s) (k:HW e) :
  codeAny (model prog w) A (.compStart e depth it acc env) R s:=by
 refine zv ?_
 suffices q:wq prog w A ((compStart e depth it acc env).onRaise (λx=>do noteFrame x env;standAt theWindowsPlace)) (λb s'=>match b with
   |.done f=>R (.ok f) s'
   |.again i=>i.quiet=true/\codeAny (model prog w) A i R s') (λe s'=>R (.error e) s') s by
  rcases k with⟨_,_,_,_,rfl⟩|⟨_,_,_,_,rfl⟩<;>exact q
 refine wpAny_notedAt ?_;unfold compStart;have l:(((clausesOf e)[depth]?).elim false (·.is_async != 0))=false:=by rw[c];show(g.is_async != 0)=false;rw[j];rfl
 rw[l];simp only[Bool.false_eq_true,if_false,pure_bind];refine YF (JY (wpAny_ite ?_));split
 ·first
   |exact YF (YG (YG (And.intro rfl d)))
   |exact YG (And.intro rfl d)
 ·refine YF (ME ?_);rw[c];exact YF (Fm (YF (Zh h (λa s' m=>YG (And.intro rfl m)) λz z x=>x.elim)))
end
section
variable{prog:C5}{w:World}{A:Around}{E:A3}{s:Shared}
def G3(c:IsTupIter s.heap ia t k)(ht:IsTup s.heap t aE)(g:aE[k]?=some y)
  (h:∀h',IsTupIter h' ia t (k+1)->Heap.SameBut ia s.heap h'->Q y {s with heap:=h'}):wq prog w A (Builtin.SmallTypes.nextOf (.ref ia)) Q E s:=by
 obtain⟨i,b,d,a⟩:=id c;obtain⟨j,e,_,l,f⟩:=ht;unfold Builtin.SmallTypes.nextOf;refine YF (ZP (name:=Str.ofString "__next__") c.typeIs x9 (Zy x9 c.typeIs entry_tupleiter_next ?_ (args_tupleiter_next _)));show wpAny _ _ (field (.ref ia) 0>>=_) _ _ s;refine YF (OM b a (x:=.ref t) rfl ?_);show wpAny _ _ (if(Value.ref t==Value.none)=true then _ else _) _ _ s
 rw[YQ (λz:(Value.ref t==Value.none)=true=>Zc z)]
 show wpAny _ _ (field (.ref ia) 1>>=_) _ _ s;refine YF (OM b a (x:=.int k 0) rfl ?_);show wpAny _ _ (seqItems? (.ref t)>>=_) _ _ s;refine YF (AD e f ?_);simp only[Int.toNat_natCast,g];refine YF (MG b a (by simp) (YG ⟨y,rfl,YG (h _ ⟨_,zS _ b (Obj.isFreed_of_fields (Obj.data_mapFields a _)),(Obj.cls_mapFields ..).trans d,?_⟩ (JI ..))⟩))
 rw[Obj.data_mapFields a];simp[rawInt]
def Dl(h:A.handled=none)(d:IsTupIter s.heap ia t k)(ht:IsTup s.heap t aE)(i:aE[k]?=none)
  (j:∀h' e,Heap.ExtBut ia s.heap h'->(∃o,h'.get? e=some o/\o.cls=.type "StopIteration")->E (.ref e) {s with heap:=h'}):wq prog w A (Builtin.SmallTypes.nextOf (.ref ia)) Q E s:=by
 obtain⟨n,b,l,c⟩:=id d;obtain⟨p,f,_,q,g⟩:=ht;unfold Builtin.SmallTypes.nextOf;refine YF (ZP (name:=Str.ofString "__next__") d.typeIs x9 (Zy x9 d.typeIs entry_tupleiter_next ?_ (args_tupleiter_next _)));show wpAny _ _ (field (.ref ia) 0>>=_) _ _ s;refine YF (OM b c (x:=.ref t) rfl ?_);show wpAny _ _ (if(Value.ref t==Value.none)=true then _ else _) _ _ s
 rw[YQ (λz:(Value.ref t==Value.none)=true=>Zc z)]
 show wpAny _ _ (field (.ref ia) 1>>=_) _ _ s;refine YF (OM b c (x:=.int k 0) rfl ?_);show wpAny _ _ (seqItems? (.ref t)>>=_) _ _ s;refine YF (AD f g ?_);simp only[Int.toNat_natCast,i];refine YF (ME (YF (MG b c (by simp) ?_)))
 show wpAny _ _ (newExc (.type "StopIteration") ([]:B5)>>=λy=>_) _ _ _
 refine YF ?_;simp only[newExc,newTuple];refine YF (Zw ?_ (by size_fits:_))
 refine YF (m:=firstArgMember _ _) (wpAny_of_eq (a:=Value.none) (by first|rfl|simp only[firstArgMember]) ?_)
 refine Zw ?_ (by size_fits:_)
 simp only[raiseNew];refine YF (wpAny_handled ?_)
 first|rw[h]|rw[show A.in1.handled=none from h]
 refine YF (YG (wpAny_throw (j _ _ (((JI ..).extBut.push _).push _) ⟨_,YZ _ rfl,rfl⟩)))
end
structure Tx(P:C5)(w:World)(i l:Addr)(aE:B4)(st:Nat->B6):Prop where
 obj:∀k h,st k h->(∃o,h.get? i=some o/\∀v,o.data≠.cell v)/\∃o,h.get? l=some o
 keep:∀k h h',st k h->(∀o,h.get? i=some o->h'.get? i=some o)->(∀o,h.get? l=some o->h'.get? l=some o)->st k h'
 item:∀(A:Around) k (s:Shared) x (Q:A3) (E:A3),st k s.heap->aE[k]?=some x->(∀h',st (k+1) h'->Heap.SameBut i s.heap h'->Q x {s with heap:=h'})->wpAny (model P w) A (Builtin.SmallTypes.nextOf (.ref i)) Q E s
 done:∀(A:Around) k (s:Shared) (Q:A3) (E:A3),A.handled=none->st k s.heap->aE[k]?=none->(∀h' e,Heap.ExtBut i s.heap h'->(∃o,h'.get? e=some o/\o.cls=.type "StopIteration")->E (.ref e) {s with heap:=h'})->wpAny (model P w) A (Builtin.SmallTypes.nextOf (.ref i)) Q E s
def RW(a:l≠i)(aE:B4):Tx P w i l aE (λk h=>IsTupIter h i l k/\IsTup h l aE)where
 obj:=λk h ⟨⟨o,e,_,d⟩,⟨b,c,_⟩⟩=>⟨⟨o,e,λv z=>by rw[d]at z;cases z⟩,b,c⟩
 keep:=λk h g ⟨⟨o,e,r⟩,⟨b,c,m⟩⟩ n p=>⟨⟨o,n _ e,r⟩,⟨b,p _ c,m⟩⟩
 item:=λA k s x Q E st f q=>G3 st.1 st.2 f λg t j=>q g ⟨t,st.2.extBut j.extBut a⟩ j
 done:=λA k s Q E u st f y=>Dl u st.1 st.2 f y
def RV(a:l≠i)(aE:B4):Tx P w i l aE (λk h=>h.IsListIter i l k/\h.IsList l aE)where
 obj:=λk h ⟨⟨o,e,_,d⟩,⟨b,c,_⟩⟩=>⟨⟨o,e,λv z=>by rw[d]at z;cases z⟩,b,c⟩
 keep:=λk h g ⟨⟨o,e,r⟩,⟨b,c,m⟩⟩ n p=>⟨⟨o,n _ e,r⟩,⟨b,p _ c,m⟩⟩
 item:=λA k s x Q E st f q=>wpAny_nextOf_list_item st.1 st.2 f λg t j=>q g ⟨t,st.2.extBut j.extBut a⟩ j
 done:=λA k s Q E u st f y=>wpAny_nextOf_list_end u st.1 st.2 f y
noncomputable abbrev Df(h:Heap)(I:String)(l1:Addr):Heap:=h.push {cls:=.type I,data:=.fields #[.ref l1,.int 0 0]}
def lO(b:Bool)(h:Heap)(l:Addr)(xs:B4):Prop:=if b then IsTup h l xs else h.IsList l xs
def O5(b:Bool)(i l:Addr)(xs:B4)(k:Nat)(h:Heap):Prop:=(if b then IsTupIter h i l k else h.IsListIter i l k)/\lO b h l xs
def FZ(b:Bool)(a:l≠i)(aE:B4):Tx P w i l aE (O5 b i l aE):=by
 cases b with
 |true=>exact RW a aE
 |false=>exact RV a aE
def lO.lt(q:lO b h l xs):l<h.objs.size:=by
 cases b with
 |true=>obtain⟨o,e,_⟩:=(show IsTup h l xs from q);exact YW e
 |false=>obtain⟨o,e,_⟩:=(show h.IsList l xs from q);exact YW e
def lO.keep(q:lO b h l xs)(k:∀o,h.get? l=some o->h'.get? l=some o):lO b h' l xs:=by
 cases b with
 |true=>obtain⟨o,e,r⟩:=(show IsTup h l xs from q);exact⟨o,k _ e,r⟩
 |false=>obtain⟨o,e,r⟩:=(show h.IsList l xs from q);exact⟨o,k _ e,r⟩
section
variable{X:Cx}{aC:A8}{σ:St}{H:Hp}{s:Shared}{h':Heap}
def Inv.i9{t':Nat}{ch:B7}(I:Inv X aC σ H s)(k:∀b o,b∉ch->s.heap.get? b=some o->h'.get? b=some o)(f:∀b∈ch,VE X aC H b)(g:∀b∈ch,b≠X.env.locals):Inv X aC σ H {s with heap:=h',toks:=t'}:=by
 have d:∀b u,H b=some u->b∉ch:=λb u e z=>by have:=(f b z).1;rw[e]at this;cases this
 refine I.step (g':=s.gens) (d':=s.drawn) (ch:=ch) (λb h=>?_) (λb o Z Z a e Z=>k b o a e) (λb o Z Z a e Z=>⟨o.slots,k b o a e⟩) (λZ Z Z Z n=>n)
  (λb o a e=>⟨o,k b o a e⟩) (λZ Z e=>e) (λZ Z Z e=>e) (λb O e=>⟨#[],by rw[e];simp⟩) (λm i=>?_) (λb u e=>?_) I.bare
 ·obtain⟨_,j,_,l,p,t⟩:=f b h;exact⟨l,j,p,t⟩
 ·obtain⟨o,w,x,y,r⟩:=i;exact⟨o,w,x,k _ o (λz=>(g _ z) rfl) y,r⟩
 ·refine(I.aI b u e).fw (λc v a q=>k c v ?_ q) (λZ q=>q) λZ Z q=>q
  rcases a with z|z
  ·rw[z];exact d b u e
  ·exact d c _ z
def Inv.eK{t':Nat}{ch:B7}{p:Addr}{o:HO}(I:Inv X aC σ H s)(k:∀b o,b∉ch->s.heap.get? b=some o->h'.get? b=some o)(f:∀b∈ch,VE X aC H b)(h:s.z<=p)(g:Y3 X.prog X.w (upd H p o) h' p o):Inv X aC σ (upd H p o) {s with heap:=h',toks:=t'}:=by
 have d:∀b u,H b=some u->b∉ch:=λb u e z=>by have:=(f b z).1;rw[e]at this;cases this
 have i:H p=none:=I.aI.fresh h;have tr:∀b u,H b=some u->upd H p o b=some u:=λb u e=>by rw[ZU (ZO e i)];exact e
 refine I.step (g':=s.gens) (d':=s.drawn) (ch:=ch) (λb j=>?_) (λb o Z Z a e Z=>k b o a e) (λb o Z Z a e Z=>⟨o.slots,k b o a e⟩) (λb u Z e n=>by rw[ZU (Y6 (Y0 (YW e) h))];exact n)
  (λb o a e=>⟨o,k b o a e⟩) (λb l e=>tr b _ e) (λb Z Z e=>tr b _ e) (λb ps e=>⟨#[],by rw[tr b _ e];simp⟩) (λm t=>?_) (λb u e=>?_) I.bare
 ·obtain⟨_,x,_,O,U,f5⟩:=f b j;exact⟨O,x,U,f5⟩
 ·obtain⟨o,es,ep,ho,r⟩:=t;exact⟨o,es,ep,k _ o (λz=>(f _ z).2.1 rfl) ho,r⟩
 ·by_cases z:b=p
  ·subst z;rw[ZT]at e;cases e;exact g
  ·rw[ZU z]at e;refine(I.aI b u e).fw (λc v a q=>k c v ?_ q) (λc q=>tr c _ q) (λc l q=>tr c _ q) λc o q=>tr c _ q
   rcases a with y|y
   ·rw[y];exact d b u e
   ·exact d c _ y
end
def zV(b:Bool)(K:B0)(H:Hp)(l:Addr)(xs:List V):Prop:=if b then XO K H l xs else XI K H l xs
def Inv.kq{X:Cx}{a:A8}{c:St}{H:Hp}{s:Shared}{b:Bool}{l:Addr}{xs:List V}(I:Inv X a c H s)(h:zV b X.K H l xs):∃aE:B5,ZN xs aE/\lO b s.heap l aE.toArray/\xs.length<=sizeLine:=by
 cases b with
 |true=>obtain⟨aE,r,p,z⟩:=I.tuple (show XO X.K H l xs from h);exact⟨aE,r,p,z⟩
 |false=>obtain⟨aE,r,p,z⟩:=I.list (show XI X.K H l xs from h);exact⟨aE,r,p.isList,z⟩
def Inv.ic{X:Cx}{a:A8}{c:St}{H:Hp}{s:Shared}{b:Bool}{l:Addr}{xs ys:List V}(I:Inv X a c H s)(h:zV b X.K H l xs)(q:zV b X.K H l ys):xs=ys:=by
 cases b with
 |true=>exact I.fN (show XO X.K H l xs from h) q
 |false=>exact I.gE (show XI X.K H l xs from h) q
def jZ(b:Bool)(i l:Addr)(k:Nat)(h:Heap):Prop:=if b then IsTupIter h i l k else h.IsListIter i l k
def jZ.keep{b:Bool}{i l:Addr}{k:Nat}{h h':Heap}(q:jZ b i l k h)(a:∀o,h.get? i=some o->h'.get? i=some o):jZ b i l k h':=by
 cases b with
 |true=>obtain⟨o,e,r⟩:=(show IsTupIter h i l k from q);exact⟨o,a _ e,r⟩
 |false=>obtain⟨o,e,r⟩:=(show h.IsListIter i l k from q);exact⟨o,a _ e,r⟩
def jZ.obj{b:Bool}{i l:Addr}{k:Nat}{h:Heap}(q:jZ b i l k h):∃o,h.get? i=some o/\∀v,o.data≠.cell v:=by
 cases b with
 |true=>obtain⟨o,e,_,d⟩:=(show IsTupIter h i l k from q);exact⟨o,e,λv z=>by rw[d]at z;cases z⟩
 |false=>obtain⟨o,e,_,d⟩:=(show h.IsListIter i l k from q);exact⟨o,e,λv z=>by rw[d]at z;cases z⟩
set_option tactic.hygienic true in
def Bo(l:Addr)(xs:B4):
  Meets (Builtin.«enumerate.__new__» ⟨[.type "enumerate",.ref l],[]⟩) (λy R s=>IsTup s.heap l xs /\
   R (.ok (.ret (.ref (Df s.heap "tuple_iterator" l).objs.size))) {s with heap:=(Df s.heap "tuple_iterator" l).push {cls:=.type "enumerate",data:=.fields #[.none,.bool false,.ref s.z,rawInt 0,.none,.none]} }):=
 .of_wp λb w A R s h=>by
  obtain⟨e,f,g,i,os⟩:=s;obtain⟨j,h⟩:=h;have d:=sub_enumerate;have I:IsTup (Shared.heap ⟨e,f,g,i,os⟩) l xs:=j;obtain⟨k,a,r⟩:=id I
  wp_walk using BH a
  refine wpAny_stack_any λsk=>YG ?_
  split
  ·rename_i c _ _ _ _ _;cases(c==Value.type "enumerate")<;>(wp_walk using BH a,iter_tuple I;exact⟨_,rfl,h⟩)
  ·wp_walk using BH a,iter_tuple I
   exact⟨_,rfl,h⟩
section
variable{P:C5}{w:World}{A:Around}{E:A3}{s:Shared}{e it l:Addr}{xs:B4}{st:Nat->B6}
def Gs(k1:lO b s.heap l xs)
  (h:∀h',IsEnum h' (s.z+1) s.z 0 .none->O5 b s.z l xs 0 h'->h'.objs.size=s.z+2->(∀c o,s.heap.get? c=some o->h'.get? c=some o)->Q (.ref (s.z+1)) {s with heap:=h'}) :
  wpAny (model P w) A (call (.type "enumerate") [.ref l]) Q E s:=by
 cases b with
 |false=>exact call_enumerate_list (show s.heap.IsList l xs from k1) λh' i j k f=>h h' i ⟨j,k1.keep λo q=>f _ _ q⟩ k f
 |true=>
   refine callType_new F.called_enumerate (by decide) (F.typeCall_enumerate_1 _) (F.newCall_enumerate_1 _) (λa=>F.args_object_init_2 a _) F.entry_enumerate_new (Bo l xs) ⟨k1,?_⟩
   have g:(Df s.heap "tuple_iterator" l).objs.size=s.z+1:=ZX ..
   have up:∀c o,s.heap.get? c=some o->((Df s.heap "tuple_iterator" l).push {cls:=.type "enumerate",data:=.fields #[.none,.bool false,.ref s.z,rawInt 0,.none,.none]}).get? c=some o:=λc o q=>YH _ (YH _ q)
   have d:((Df s.heap "tuple_iterator" l).push {cls:=.type "enumerate",data:=.fields #[.none,.bool false,.ref s.z,rawInt 0,.none,.none]}).get? (Df s.heap "tuple_iterator" l).objs.size=some _:=YZ _ rfl;have m:((Df s.heap "tuple_iterator" l).push {cls:=.type "enumerate",data:=.fields #[.none,.bool false,.ref s.z,rawInt 0,.none,.none]}).get? s.z=some _:=YH _ (YZ _ rfl);show _/\_;rw[g]at d ⊢
   exact⟨⟨_,d,rfl⟩,h _ d ⟨⟨_,m,rfl,rfl⟩,k1.keep λo q=>up _ _ q⟩ (by rw[ZX,g]) up⟩
def GJ{i:Nat}{Q:A3}(S:Tx P w it l xs st)(n:e≠it)(nl:l≠e)(u:IsEnum s.heap e it i old)(h0:st i s.heap)(hx:xs[i]?=some x)
  (hQ:∀h',IsEnumOut h' e it ((i:Int)+1) x s.z->st (i+1) h'->IsPair h' s.z (.int i s.toks) x->h'.objs.size=s.z+1->
    (∀c o,c≠e->c≠it->s.heap.get? c=some o->h'.get? c=some o)->Q (.ref s.z) {s with heap:=h',toks:=s.toks+1}) :
  wpAny (model P w) A (Builtin.«enumerate.__next__» ⟨[.ref e],[]⟩) (λfin s'=>∃v,fin=.done (.ret v)/\Q v s') E s:=by
 obtain⟨b,f,g,a,os⟩:=s;show wpAny _ _ (field (.ref e) 2>>=λZ=>_) _ _ _
 refine YF (OM u rfl (x:=.ref it) rfl (show _ from ?_))
 refine YF (S.item _ i _ x _ _ h0 hx λg1 n1 k=>(show _ from ?_))
 replace k:Heap.SameBut it b g1:=k;have y:IsEnum g1 e it i old:=k.extBut _ _ n u;show wpAny _ _ (field (.ref e) 3>>=λZ=>_) _ _ ⟨g1,f,g,a,os⟩
 refine YF (OM y rfl (x:=rawInt i) rfl (show _ from ?_))
 show wpAny _ _ (field (.ref e) 4>>=λZ=>_) _ _ ⟨g1,f,g,a,os⟩
 refine YF (OM y rfl (x:=.none) rfl (show _ from ?_))
 show wpAny _ _ (mkInt i>>=λZ=>_) _ _ ⟨g1,f,g,a,os⟩
 refine YF (wpAny_mkInt (show _ from ?_))
 show wpAny _ _ (setField (.ref e) 3 (rawInt ((i:Int)+1))>>=λZ=>_) _ _ ⟨g1,f,g,a+1,os⟩
 refine YF (wpAny_setField_rec y (by simp) λg2 z h=>?_)
 replace h:Heap.SameBut e g1 g2:=h;replace z:IsEnum g2 e it ((i:Int)+1) old:=z;show wpAny _ _ (setField (.ref e) 4 .none>>=λZ=>_) _ _ ⟨g2,f,g,a+1,os⟩
 refine YF (wpAny_setField_rec z (by simp) λg3 I j=>?_)
 replace j:Heap.SameBut e g2 g3:=j;replace I:IsEnum g3 e it ((i:Int)+1) old:=I;show wpAny _ _ (newTuple [.int i a,x]>>=λZ=>_) _ _ ⟨g3,f,g,a+1,os⟩
 refine YF (wpAny_newTuple (show _ from ?_))
 have m:IsEnum (g3.push {cls:=.type "tuple",data:=.seq #[.int i a,x]}) e it ((i:Int)+1) old:=YH _ I;have O:g3.objs.size=b.objs.size:=by rw[j.1,h.1,k.1]
 have el:e<b.objs.size:=YW u;have U:IsPair (g3.push {cls:=.type "tuple",data:=.seq #[.int i a,x]}) b.objs.size (.int i a) x:=by rw[<-O];exact YZ _ rfl
 have z4:(g3.push {cls:=.type "tuple",data:=.seq #[.int i a,x]}).objs.size=b.objs.size+1:=by rw[ZX,O]
 have k4:∀c o,c≠e->c≠it->b.get? c=some o->(g3.push {cls:=.type "tuple",data:=.seq #[.int i a,x]}).get? c=some o:=λc o d a2 q=>YH _ (j.extBut _ _ d (h.extBut _ _ d (k.extBut _ _ a2 q)))
 have n4:st (i+1) (g3.push {cls:=.type "tuple",data:=.seq #[.int i a,x]}):=S.keep _ _ _ n1 (λo q=>YH _ (j.extBut _ _ n.symm (h.extBut _ _ n.symm q))) λo q=>YH _ (j.extBut _ _ nl (h.extBut _ _ nl q))
 revert m U z4 k4 n4;generalize g3.push {cls:=.type "tuple",data:=.seq #[.int i a,x]}=g4;intro m U z4 k4 n4;show wpAny _ _ (Builtin.SmallTypes.ownedTupleIsFree (.ref e)>>=λZ=>_) _ _ ⟨g4,f,g,a+1,os⟩
 rw[O];refine YF ?_;unfold Builtin.SmallTypes.ownedTupleIsFree;refine YF (OM m rfl (x:=.none) rfl (YG (show _ from ?_)))
 simp only[if_true];refine YF (ME (show _ from ?_))
 refine YF (OM m rfl (x:=old) rfl (show _ from ?_))
 refine YF (wpAny_setField_rec m (by simp) λg5 c5 p=>?_)
 replace p:Heap.SameBut e g4 g5:=p;replace c5:IsEnum g5 e it ((i:Int)+1) x:=c5;show wpAny _ _ (Builtin.SmallTypes.ownedTupleHandOut (.ref e) (.ref b.objs.size)>>=λZ=>_) _ _ ⟨g5,f,g,a+1,os⟩
 refine YF ?_;unfold Builtin.SmallTypes.ownedTupleHandOut;refine YF (wpAny_setField_rec c5 (by simp) λg6 c6 r=>?_)
 replace r:Heap.SameBut e g5 g6:=r;replace c6:IsEnumOut g6 e it ((i:Int)+1) x b.objs.size:=c6;refine wpAny_setField_rec c6 (by simp) λg7 c7 t=>?_
 replace t:Heap.SameBut e g6 g7:=t;replace c7:IsEnumOut g7 e it ((i:Int)+1) x b.objs.size:=c7;have up:∀c o,c≠e->g4.get? c=some o->g7.get? c=some o:=λc o d q=>t.extBut _ _ d (r.extBut _ _ d (p.extBut _ _ d q))
 refine YF (wpAny_letGo (YG ⟨_,rfl,hQ g7 c7 ?_ (up _ _ (DJ el) U) (by rw[t.1,r.1,p.1,z4]) λc o d a2 q=>up _ _ d (k4 _ _ d a2 q)⟩))
 exact S.keep _ _ _ n4 (λo q=>up _ _ n.symm q) λo q=>up _ _ nl q
def BX{i:Nat}{Q:B1->B2}(S:Tx P w it l xs st)(g:e≠it)(nl:l≠e)(f:IsEnum s.heap e it i old)(h:st i s.heap)(j:xs[i]?=some x)
  (m:∀h',IsEnumOut h' e it ((i:Int)+1) x s.z->st (i+1) h'->IsPair h' s.z (.int i s.toks) x->h'.objs.size=s.z+1->
    (∀c o,c≠e->c≠it->s.heap.get? c=some o->h'.get? c=some o)->Q (some (.ref s.z)) {s with heap:=h',toks:=s.toks+1}):wpAny (model P w) A (pyNext (.ref e)) Q E s:=by
 have T:s.TypeIs (.ref e) "enumerate":=⟨_,f,rfl⟩;unfold pyNext;exact YF (KG (ZP (name:=Str.ofString "__next__") T yA (Zy yA T F.entry_enumerate_next (GJ S g nl f h j λh' a b c d k=>YG (m h' a b c d k)) (F.args_enumerate_next_1 _))))
def BW{i:Nat}{Q:B1->B2}(c:A.handled=none)(S:Tx P w it l xs st)(a:IsEnum s.heap e it i old)(d:st i s.heap)(f:xs[i]?=none)
  (g:∀h',Heap.ExtBut it s.heap h'->Q none {s with heap:=h'}):wpAny (model P w) A (pyNext (.ref e)) Q E s:=by
 have T:s.TypeIs (.ref e) "enumerate":=⟨_,a,rfl⟩;unfold pyNext;refine YF (KG (ZP (name:=Str.ofString "__next__") T yA (Zy yA T F.entry_enumerate_next (show _ from ?_) (F.args_enumerate_next_1 _))))
 show wpAny _ _ (field (.ref e) 2>>=λz=>_) _ _ _
 refine YF (OM a rfl (x:=.ref it) rfl (show _ from ?_))
 refine YF (S.done _ i _ _ _ (show A.in1.handled=none from c) d f λh' y h j=>?_)
 obtain⟨o,k,m⟩:=j;exact YF (yT (T := "StopIteration") (b:=true) ⟨o,k,m⟩ isSubtype_stop (YG (g _ h)))
end
def WW(K:B0)(b:Bool)(l:Addr):It:=
 ⟨fun i H=>∃a x,zV b K H l a∧a[i]?=some x,
  λi H v I=>∃p,H p=none/\v=.ref p/\∀a,zV b K H l a->∃x,a[i]?=some x/\I=upd H p (.tup [.int (i:Int),x]),
  λi H=>∃a,zV b K H l a/\a[i]?=none⟩
def K9{P:C5}{w:World}{K:B0}{p:B8}{x1}{tp:Pos}{b:Bool}{e it l:Addr}(ne:e≠it)(nl:l≠e)(ni:l≠it):
  Pp P w K (.Tuple p x1 tp) (WW K b l) [e,it] e (λi h=>(∃a,IsEnum h e it i a)/\jZ b it l i h)where
 mem:=by simp
 obj:=λi h st c d=>by
  obtain⟨⟨a,f⟩,j⟩:=st;simp only[List.mem_cons,List.mem_nil_iff,or_false]at d;rcases d with rfl|rfl
  ·exact⟨_,f,λv q=>by cases q⟩
  ·exact j.obj
 keep:=λi h U st k=>by obtain⟨⟨a,f⟩,j⟩:=st;exact⟨⟨a,k e (by simp) _ f⟩,j.keep λo q=>k it (by simp) o q⟩
 item:=by
  intro X hP hw hK d i r s σ H E I t st hg;subst hP hw hK;obtain⟨⟨a,f⟩,j⟩:=st;obtain⟨xs,x,O,hx⟩:=hg;obtain⟨g,r1,q1,_⟩:=I.kq O;obtain⟨u1,e1,ru1⟩:=r1.get hx;refine BX (FZ b ni g.toArray) ne nl f ⟨j,q1⟩ (by simpa using e1) λU a1 a2 a3 a4 a5=>⟨_,rfl,wpAny_letOwnedTupleGo_enum a1 λm he' n=>?_⟩
  have lt:e<s.z:=YW f;have kk:∀c o,c∉[e,it]->s.heap.get? c=some o->m.get? c=some o:=λc o u q=>n.extBut _ _ (λz=>u (by simp[z])) (a5 c o (λz=>u (by simp[z])) (λz=>u (by simp[z])) q)
  have fresh:H s.z=none:=I.aI.fresh (YL _);have pr:IsPair m s.z (.int i s.toks) u1:=n.extBut _ _ (DJ lt) a3;have nw:Y3 X.prog X.w (upd H s.z (.tup [.int (i:Int),x])) m s.z (.tup [.int (i:Int),x]):=⟨by show 2<=sizeLine;decide,[.int i s.toks,u1],.cons ⟨_,rfl⟩ (.cons ru1 .nil),⟨_,pr,rfl,_,rfl⟩⟩
  have nfp:∀c∈[e,it],c≠s.z:=λc d z=>by
   obtain⟨o,ho⟩:∃o,s.heap.get? c=some o:=by
    simp only[List.mem_cons,List.mem_nil_iff,or_false]at d;rcases d with rfl|rfl
    ·exact⟨_,f⟩
    ·obtain⟨o,q,_⟩:=j.obj;exact⟨o,q⟩
   exact absurd (YW ho) (by rw[z];exact MI _)
  refine⟨.ref s.z,upd H s.z (.tup [.int (i:Int),x]),?_,rfl,⟨_,fresh,rfl,λxs' q1'=>⟨x,by rw[I.ic q1' O];exact hx,rfl⟩⟩,⟨⟨_,he'⟩,(show jZ b it l (i+1) U from a2.1).keep λo q=>n.extBut _ _ ne.symm q⟩,λc d=>by rw[ZU (nfp c d)];exact(t c d).1⟩
  exact I.eK (t':=s.toks+1) kk t (YL _) nw
 done:=by
  intro X hP hw hK d i r s σ H E I t st hg;subst hP hw hK;obtain⟨⟨a,f⟩,j⟩:=st;obtain⟨xs,O,y⟩:=hg;obtain⟨g,r1,q1,_⟩:=I.kq O;refine BW (I.ok.hd d) (FZ b ni g.toArray) f ⟨j,q1⟩ (by simpa using r1.none_of y) λU e1=>?_
  exact⟨rfl,I.i9 (t':=s.toks) (λc o u q=>e1 _ _ (λz=>u (by simp[z])) q) t (λc d=>(t c d).2.1)⟩
 self:=λZ Z Z Z Z st h=>by obtain⟨⟨a,f⟩,_⟩:=st;exact wpAny_pyIter_enum f h
def Gr:bootBuiltins "list"=some (.type "list"):=by decide +kernel
theorem sG:∀(vs:B5) (k:Nat),(∀(j:Nat) v,vs[j]?=some v->∃t,v=.int ((k+j:Nat):Int) t)->ZN ((List.range' k vs.length).map λi:Nat=>V.int (i:Int)) vs
 |[],k,_=>.nil
 |v::vs,k,h=>by
   have a:=h 0 v rfl;have b:=sG vs (k+1) λj u e=>by
    have:=h (j+1) u (by simpa using e)
    rw[show k+1+j=k+(j+1) by lia];exact this
   rw[Z7,List.range'_succ,Zj];exact .cons a b
section
variable{X:Cx}
def WD(a:TA):TE:=λb H Q=>a b H λc I=>∃j:Int,c=[.int j]/\j<=2^20/\-(2^62)<=j/\∀l,I l=none->Q (.ref l) (upd I l (.lst ((List.range j.toNat).map λi:Nat=>V.int (i:Int))))
def JX(hc:X.calm=true)(lI:Gl X "list")(lP:X.mg "list"=none)(hg:Gl X "range")(hm:X.mg "range"=none)(ha:PA X [a] ta)(hs:autoParam (ZH a=true) qAA):
  PE X (.Call (.Name "list" p1) [.Call (.Name "range" p2) [a] [] ae] [] ah) (WD ta):=by
 intro aC s σ H Q I h;have av:starEach [Expr.Call (.Name "range" p2) [a] [] ae] X.env=(false,eval (.Call (.Name "range" p2) [a] [] ae) X.env)::starEach [] X.env:=aZ rfl;refine Call_ (X2 I lI lP Gr (ZR ?_ av rfl));rw[av];show wpAny _ _ (spliced ((false,eval (.Call (.Name "range" p2) [a] [] ae) X.env)::[])) _ _ s;refine AY ?_;refine Call_ (X2 I hg hm boot_range (ZR (YO (ha ae aC s σ H _ I h) λus s1 ⟨vs,H1,I1,r1,q1⟩=>?_) (aZ hs) rfl))
 obtain⟨j,e,q1,q2,q⟩:=q1;subst e;cases r1 with
 |cons r rr=>
   cases rr;obtain⟨t,rfl⟩:=r;refine call_range_1 ?_;refine BF ?_;have rs:Builtin.Range.rangeSize 0 j 1=((j.toNat:Nat):Int):=by rw[rangeSize_one];split<;>lia
   refine call_list_range (n:=j.toNat) (I1.ok.hd hc) (IsRange.new ..) (small_one (by lia) (by lia) q2 (by lia)) rs (by lia) λh' tk acc c k1 k2 k3=>?_
   have vl:ZN ((List.range j.toNat).map λi:Nat=>V.int (i:Int)) acc.toList:=by
    have:=sG acc.toList 0 λi v e=>by
     obtain⟨t,rfl⟩:=k3.2 i v (by simpa using e)
     exact⟨t,by congr 1;lia⟩
    rw[EH];rw[show acc.toList.length=j.toNat by simpa using k3.1]at this
    exact this
   refine⟨.ref _,upd H1 _ (.lst ((List.range j.toNat).map λi:Nat=>V.int (i:Int))),?_,rfl,q _ (I1.aI.fresh ?_)⟩
   ·refine I1.eK (ch:=[]) (t':=tk) (λb o z e=>k1 b o (YH _ e)) (λb hb=>nomatch hb) ?_ ⟨?_,acc.toList,c,vl,k2⟩
    ·rw[ZX];lia
    ·rw[YT,Zu];show _<=2^24;lia
   ·rw[ZX];lia
end
end L2
namespace L2
open PyProof.Rows
open PySem.AutoSeq1 (wpAny_loadPart')
section
variable{prog:C5}{w:World}{A:Around}{E:A3}{s:Shared}
def yU{Q:B5->B2}(r:Addr){a b c:Int}{n:Nat}(U:A.handled=none)(hr:IsRange s.heap r a b c t u v)(sm:Builtin.Range.small a b c=true)(hn:Builtin.Range.rangeSize a b c=n)(hl:n<=2^24)
  (hQ:∀(h':Heap) (d:Nat) (acc:B4),(∀b O,s.heap.get? b=some O->h'.get? b=some O)->s.heap.objs.size<=h'.objs.size->ItemsOf (λi v=>∃t,v=.int (a+i*c) t) acc n->Q acc.toList {s with heap:=h',toks:=d}) :
  wpAny (model prog w) A (collect (.ref r)) Q E s:=by
 unfold collect;refine YF (AC (ML w4 ?_));rw[JA xi _];show wpAny _ A.in1 (newList []>>=λl=>again (.builtin "list.__iadd__" ⟨[l,.ref r],[]⟩)) _ _ s
 refine YF (Zw ?_);refine YG ⟨ER CM _,ML F.entry_list_iadd ?_⟩;rw[JA CM _];show wpAny _ A.in1 (Builtin.List.listExtendWith (.ref s.heap.objs.size) (.ref r) (.ref s.heap.objs.size)) _ _ _;have hS:(s.heap.push {cls:=.type "list",data:=.seq ([]:B5).toArray}).get? s.heap.objs.size=some {cls:=.type "list",data:=.seq #[] 0}:=YZ _ rfl;have g:∀h' d acc j,(∀b o,b≠s.heap.objs.size->(s.heap.push {cls:=.type "list",data:=.seq ([]:B5).toArray}).get? b=some o->h'.get? b=some o)->h'.get? s.heap.objs.size=some {cls:=.type "list",dict:=none,data:=.seq acc j,slots:=#[]}->ItemsOf (λi v=>∃t,v=.int (a+i*c) t) acc n->
   wpAny (model prog w) A (match Value.ref s.heap.objs.size with
   |Value.ref a=>do
     match(<-load a).data with
      |Data.seq m _=>pure m.toList
      |_=>unsupported "internal:collect"
   |_=>unsupported "internal:collect") Q E {s with heap:=h',toks:=d}:=λh' d acc j p k y=>by
  show wpAny _ A (load s.heap.objs.size>>=_) _ _ _;refine YF (BN k (YG ?_));exact hQ h' d acc (λb o e=>p b o (Y6 (YW e)) (YH _ e)) (NR (YW k)) y
 refine Zh (wpAny_extend_range (A:=A) (R:=λx z=>x=.ok (.ret (.ref s.heap.objs.size))/\wpAny (model prog w) A (match Value.ref s.heap.objs.size with
   |Value.ref a=>do
     match(<-load a).data with
      |Data.seq m _=>pure m.toList
      |_=>unsupported "internal:collect"
   |_=>unsupported "internal:collect") Q E z)
  (s:={s with heap:=s.heap.push {cls:=.type "list",data:=.seq ([]:B5).toArray} }) U (YH _ hr) sm hn hl s.heap.objs.size _ 0 hS (λh' d acc j p k y=>⟨rfl,g h' d acc j p k y⟩)) (λI z h=>?_) (λe z h=>?_)
 ·cases I with
  |done f=>obtain⟨e,q⟩:=h;cases e;exact q
  |again j=>exact⟨h.1,MA h.2 λx s'' hx=>by obtain⟨rfl,q⟩:=hx;exact q⟩
 ·exact absurd h.1 (by simp)
end
def uc(r:Addr)(a b c:Int)(t u v:Tok)(n:Nat)(z:Builtin.Range.small a b c=true)(I:Builtin.Range.rangeSize a b c=n)(hl:n<=2^24):
  Meets (Builtin.«tuple.__new__» ⟨[.type "tuple",.ref r],[]⟩)
   (λA R s=>A.handled=none/\IsRange s.heap r a b c t u v/\∀(h':Heap) (f:Nat) (acc:B4),(∀b o,s.heap.get? b=some o->h'.get? b=some o)->s.heap.objs.size<=h'.objs.size->ItemsOf (λi v=>∃t,v=.int (a+i*c) t) acc n->R (.ok (.ret (.ref h'.objs.size))) {s with heap:=h'.push {cls:=.type "tuple",data:=.seq acc},toks:=f}):=
 .of_wp λp w A R s h=>by
  obtain⟨q,g,d,f,os⟩:=s;obtain⟨O,j,h⟩:=h;have x:=sub_tuple_self;have k:=init_tuple_lookup;have U:=madeHere_tuple;have hT:Shared.TypeIs ⟨q,g,d,f,os⟩ (.ref r) "range":=⟨_,j,rfl⟩;have l:A.in1.handled=none:=O
  wp_walk using wpAny_loadPart' j,FA hT,yU (A:=A.in1) (s:=⟨q,g,d,f,os⟩) r l j z I hl
  intro h' m acc hk hz y;show wpAny _ _ (Builtin.Tuple.tupleExact acc.toList.toArray>>=λv=>ret v) _ _ _
  unfold Builtin.Tuple.tupleExact;have e:acc.toList.toArray=acc:=by simp
  rw[e];refine YF (Zw ?_ (by show acc.size<=sizeLine;rw[y.1];exact hl))
  exact YG ⟨_,rfl,h h' m acc hk hz y⟩
open PyProof.Rows
def uI{E:A3}{Q:A3}{a b c:Int}{n:Nat}(g:A.handled=none)(h:IsRange s.heap r a b c t u v)(j:Builtin.Range.small a b c=true)(l:Builtin.Range.rangeSize a b c=n)(hl:n<=2^24)
  (m:∀(h':Heap) (d:Nat) (acc:B4),(∀b f,s.heap.get? b=some f->h'.get? b=some f)->s.heap.objs.size<=h'.objs.size->ItemsOf (λi v=>∃t,v=.int (a+i*c) t) acc n->Q (.ref h'.objs.size) {s with heap:=h'.push {cls:=.type "tuple",data:=.seq acc},toks:=d}) :
  wpAny (model prog w) A (call (.type "tuple") [.ref r]) Q E s:=
 callType_new F.called_tuple (by decide) (F.typeCall_tuple_1 _) (F.newCall_tuple_1 _) (λe=>F.args_object_init_2 e _) F.entry_tuple_new (uc r a b c t u v n j l hl)
  ⟨g,h,λh' d acc k z i=>⟨⟨_,YZ _ rfl,rfl⟩,m h' d acc k z i⟩⟩
def Dg:bootBuiltins "tuple"=some (.type "tuple"):=by decide +kernel
section
variable{X:Cx}
def WL(a:TA):TE:=λb H Q=>a b H λc I=>∃j:Int,c=[.int j]/\j<=2^20/\-(2^62)<=j/\∀l,I l=none->Q (.ref l) (upd I l (.tup ((List.range j.toNat).map λi:Nat=>V.int (i:Int))))
def JZ(hc:X.calm=true)(lI:Gl X "tuple")(lP:X.mg "tuple"=none)(hg:Gl X "range")(hm:X.mg "range"=none)(ha:PA X [a] ta)(hs:autoParam (ZH a=true) qAA):
  PE X (.Call (.Name "tuple" p1) [.Call (.Name "range" p2) [a] [] ae] [] ah) (WL ta):=by
 intro aC s σ H Q I h;have av:starEach [Expr.Call (.Name "range" p2) [a] [] ae] X.env=(false,eval (.Call (.Name "range" p2) [a] [] ae) X.env)::starEach [] X.env:=aZ rfl;refine Call_ (X2 I lI lP Dg (ZR ?_ av rfl));rw[av];show wpAny _ _ (spliced ((false,eval (.Call (.Name "range" p2) [a] [] ae) X.env)::[])) _ _ s;refine AY ?_;refine Call_ (X2 I hg hm boot_range (ZR (YO (ha ae aC s σ H _ I h) λus s1 ⟨vs,H1,I1,r1,q1⟩=>?_) (aZ hs) rfl))
 obtain⟨j,e,q1,q2,q⟩:=q1;subst e;cases r1 with
 |cons r rr=>
   cases rr;obtain⟨t,rfl⟩:=r;refine call_range_1 ?_;refine BF ?_;have rs:Builtin.Range.rangeSize 0 j 1=((j.toNat:Nat):Int):=by rw[rangeSize_one];split<;>lia
   refine uI (n:=j.toNat) (I1.ok.hd hc) (IsRange.new ..) (small_one (by lia) (by lia) q2 (by lia)) rs (by lia) λh' tk acc k1 k2 k3=>?_
   rw[ZX]at k2;have vl:ZN ((List.range j.toNat).map λi:Nat=>V.int (i:Int)) acc.toList:=by
    have:=sG acc.toList 0 λi v e=>by
     obtain⟨t,rfl⟩:=k3.2 i v (by simpa using e)
     exact⟨t,by congr 1;lia⟩
    rw[EH];rw[show acc.toList.length=j.toNat by simpa using k3.1]at this
    exact this
   refine⟨.ref _,upd H1 h'.objs.size (.tup ((List.range j.toNat).map λi:Nat=>V.int (i:Int))),?_,rfl,q _ (I1.aI.fresh (by lia))⟩
   refine I1.eK (ch:=[]) (t':=tk) (λb o z e=>YH _ (k1 b o (YH _ e))) (λb hb=>nomatch hb) (by lia) ⟨?_,acc.toList,vl,?_⟩
   ·rw[YT,Zu];show _<=2^24;lia
   ·have:=Ee h' acc;simpa using this
end
end L2
namespace L2
open PyProof.Rows
end L2
namespace LS
open PySem
def nW(xs:B9):Prop:=xs.toList.Pairwise (·< ·)
def nW.lt{xs:B9}(h:nW xs){a b:Nat}(c:a<b)(d:b<xs.size):xs[a]<xs[b]:=by
 have:=Bn.mp h a b (by simpa using Fs c d) (by simpa using d) c
 simpa using this
structure xl(xs:B9)(j r:Nat):Prop where
 le:r<=xs.size
 lo:∀k (hk:k<xs.size),k<r->xs[k]<j
 hi:∀k (hk:k<xs.size),r<=k->j<=xs[k]
theorem uG{xs:B9}{j:Nat}(h:nW xs):∀(a lo hi:Nat),hi-lo<=a->lo<=hi->hi<=xs.size->(∀k (f:k<xs.size),k<lo->xs[k]<j)->(∀k (f:k<xs.size),hi<=k->j<=xs[k])->xl xs j (SetTable.below.go xs j a lo hi)
 |0,lo,hi,i,hl,hs,h1,h2=>by
   unfold SetTable.below.go;have:lo=hi:=by lia
   subst this;exact⟨hs,h1,h2⟩
 |a+1,lo,hi,i,hl,hs,h1,h2=>by
   unfold SetTable.below.go;by_cases c:lo<hi
   ·rw[YK c];dsimp only;have l:(lo+hi) / 2<hi:=by lia
    have b:lo<=(lo+hi) / 2:=by lia
    generalize(lo+hi) / 2=mid at l b;have d:mid<xs.size:=by lia
    have e:xs.getD mid j=xs[mid]:=by rw[Z1,HA d];rfl
    rw[e];by_cases c2:xs[mid]<j
    ·rw[YK c2];refine uG h a (mid+1) hi (by lia) (by lia) hs (λk f g=>?_) h2
     by_cases q:k=mid
     ·subst q;exact c2
     ·have:=h.lt (show k<mid by lia) d;lia
    ·rw[YQ c2];refine uG h a lo mid (by lia) b (by lia) h1 (λk f g=>?_)
     by_cases q:k=mid
     ·subst q;lia
     ·have:=h.lt (show mid<k by lia) f;lia
   ·rw[YQ c];have:lo=hi:=by lia
    subst this;exact⟨hs,h1,h2⟩
def jg{xs:B9}(h:nW xs)(j:Nat):xl xs j (SetTable.below xs j):=by unfold SetTable.below;exact uG h xs.size 0 xs.size (by lia) (by lia) (YL _) (λk a z=>by lia) (λk a z=>by lia)
def Sj{xs:B9}(h:nW xs){i:Nat}(a:i<xs.size):SetTable.below xs xs[i]=i:=by
 have b:=jg h xs[i];generalize SetTable.below xs xs[i]=r at b;rcases Bi r i with c|c|c
 ·have:=b.hi r (by lia) (YL _)
  have:=h.lt c a
  lia
 ·exact c
 ·have:=b.lo i a c
  lia
def Gq{xs:B9}(h:nW xs):SetTable.below xs 0=0:=by
 have b:=jg h 0;generalize SetTable.below xs 0=r at b;rcases FV r with c|c
 ·exact c
 ·have:=b.le;have:=b.lo 0 (by lia) c
  lia
def Gp{xs:B9}(h:nW xs){i:Nat}(a:i<xs.size):SetTable.below xs (xs[i]+1)=i+1:=by
 have b:=jg h (xs[i]+1);generalize SetTable.below xs (xs[i]+1)=r at b;have d:=b.le;rcases Bi r (i+1)with c|c|c
 ·have:=b.hi i a (by lia)
  lia
 ·exact c
 ·have l:=b.lo (i+1) (by lia) c
  have:=h.lt (show i<i+1 by lia) (show i+1<xs.size by lia)
  lia
def vZ{xs:B9}(h:nW xs){j:Nat}(f:j∉xs.toList):nW (SetTable.insertAt xs (SetTable.below xs j) j):=by
 have b:=jg h j;unfold nW;rw[xw];generalize SetTable.below xs j=r at b;have a:(xs.toList.take r++xs.toList.drop r).Pairwise (·< ·):=by rw[wo];exact h
 rw[List.pairwise_append]at a ⊢
 refine⟨a.1,Z9.mpr ⟨λx c=>?_,a.2.1⟩,λx c y d=>?_⟩
 ·obtain⟨k,e,rfl⟩:=ZV.mp c;rw[CB,Z6]at e;rw[List.getElem_drop];have:=b.hi (r+k) (by lia) (by lia)
  have g:xs.toList[r+k]'(by simp;lia)≠j:=λz=>f (z▸OA _)
  simp at this g ⊢
  lia
 ·have lt:x<j:=by
   obtain⟨k,e,rfl⟩:=ZV.mp c;rw[LW,Z6]at e;rw[List.getElem_take];have:=b.lo k (by lia) (by lia)
   simpa using this
  rcases Y5.mp d with rfl|d
  ·exact lt
  ·exact a.2.2 x c y d
structure TI(L:Bool)(t:SetTable):Prop where
 ij:nW t.place
 kr:t.dummies=#[]
 led:t.led=L
theorem TI.fresh{L:Bool}(f m:Nat):TI L (.fresh f m L):=⟨List.Pairwise.nil,rfl,rfl⟩
theorem TI.standIn{L:Bool}{t:SetTable}(h:TI L t)(n:Nat):TI L (t.standIn n):=⟨by
 unfold nW SetTable.standIn;rw[show(Array.range n).toList=List.range n by simp]
 exact AZ,rfl,h.led⟩
theorem TI.orStandIn{L:Bool}{t:SetTable}(h:TI L t)(n:Nat):TI L (t.orStandIn n):=by
 unfold SetTable.orStandIn;split
 ·exact h
 ·exact h.standIn n
def Hn{L:Bool}{t:SetTable}(h:TI L t){j:Nat}(e:t.slot j=.empty):j∉t.place.toList:=λc=>by
 obtain⟨k,d,rfl⟩:=ZV.mp c;have a:k<t.place.size:=by simpa using d
 have b:=Sj h.ij a;unfold SetTable.slot at e;simp only[Array.getElem_toList]at e;rw[b]at e;simp[Array.getElem?_eq_getElem a]at e
def Hm{L:Bool}{t:SetTable}(h:TI L t)(j:Nat):t.slot j≠.dummy:=λe=>by
 unfold SetTable.slot SetTable.has at e;rw[h.kr]at e;dsimp only at e;split at e
 ·cases e
 ·simp at e
set_option tactic.hygienic true in
theorem ur{L:Bool}{t:SetTable}(ti:TI L t){c:Nat->Int}{h:Int}{j:Nat}{d:Option Nat}:∀(a:Nat) (p:SetTable.Probe),p.dummy=none->SetTable.probe.go t c h a p=some (.empty j d)->t.slot j=.empty/\d=none
 |0,p,_,e=>by unfold SetTable.probe.go at e;cases e
 |a+1,p,b,e=>by
   unfold SetTable.probe.go at e;split at e
   ·rename_i hs;cases e;exact⟨hs,b⟩
   ·rename_i hs;exact absurd hs (Hm ti _)
   ·split at e
    ·cases e
    ·refine ur ti a _ ?_ e;unfold SetTable.advance;split<;>exact b
set_option tactic.hygienic true in
def Ju{L:Bool}{t:SetTable}(h:TI L t)(es:A5)(hs:Int)(x:Value):TI L (layNew t es hs x).2.1:=by
 unfold layNew;split
 ·rename_i a i e;unfold SetTable.freeSlot SetTable.probe at e;split at e
  ·rename_i j d b;obtain⟨f,g⟩:=ur h _ _ rfl b;subst g;cases e;dsimp only;refine TI.orStandIn (t:=(t.put (none.getD j)).1) (TI.mk ?_ ?_ h.led) _
   ·exact vZ h.ij (Hn h f)
   ·show(if SetTable.has t.dummies _ then _ else _)=_
    rw[h.kr];split
    ·rename_i c;unfold SetTable.has at c;simp at c
    ·rfl
  ·cases e
 ·exact h.standIn _
def Er{L:Bool}{mask finger moves:Nat}{plain:Bool}{hs:Array Int}{r:SetTable×B9}(e:SetTable.laid mask finger moves L plain hs=some r):TI L r.1:=by
 unfold SetTable.laid at e;obtain⟨c,_,f⟩:=Y7.mp e;cases f;refine⟨?_,rfl,rfl⟩;unfold nW;dsimp only;rw[BM];refine List.Pairwise.filterMap (R:=λ(a b:Nat)=>a<b) _ (λa b d x g y h=>?_) AZ
 obtain⟨_,_,rfl⟩:=YM.mp g;obtain⟨_,_,rfl⟩:=YM.mp h;exact d
set_option tactic.hygienic true in
def Om{L:Bool}{t:SetTable}(h:TI L t)(es:A5)(n:Nat):TI L (relayAll t es n).2.1:=by
 unfold relayAll;split
 ·rename_i b a e;dsimp only;split
  ·unfold SetTable.relaid at e;rw[h.led]at e;exact Er e
  ·exact h.standIn _
 ·exact h.standIn _
end LS
namespace LS
open PyProof.Rows
def vInt:Value->Int
 |.int i _=>i
 |_=>0
def jP(l:List (Int×Value)):C1:=l.map λe=>vInt e.2
abbrev aW(es:A5)(ep:Nat)(t:SetTable):Obj:={cls:=.type "set",dict:=none,data:=.set es ep t}
structure UK(prog:C5)(w:World)(L:Bool)(h:Heap)(a:Addr)(ks:C1):Prop where
 ex:∃es ep t,h.get? a=some (aW es ep t)/\ElemsOf (intKind prog w) es.toList/\(jP es.toList).Perm ks/\t.fits es.size=true/\TI L t/\es.size<scanBound
def Bc(h:(intKind prog w).is k v=true):∃t,v=.int k t:=by have h':Value.isInt k v=true:=h;cases v<;>simp[Value.isInt]at h';subst h';exact⟨_,rfl⟩
def Al(h:ElemsOf (intKind prog w) l)(he:e∈l):∃t,e.2=.int (vInt e.2) t:=by obtain⟨⟨k,hk,_⟩,_⟩:=h e he;obtain⟨t,q⟩:=Bc hk;rw[q];exact⟨t,rfl⟩
def MQ(h:ElemsOf (intKind prog w) l)(k:Int):(l.findIdx? λe=>(intKind prog w).is k e.2).isSome=decide (k∈jP l):=by
 rw[Zf,Z3,List.findIdx?_isSome,GB];unfold jP;rw[Ze];constructor
 ·rintro⟨e,he,q⟩;obtain⟨t,e2⟩:=Bc q;exact⟨e,he,by rw[e2];rfl⟩
 ·rintro⟨e,he,rfl⟩;obtain⟨t,q⟩:=Al h he;refine⟨e,he,?_⟩;rw[q];exact C7 _ _ _ _
section
variable{prog:C5}{w:World}{A:Around}{E:A3}{s:Shared}{L:Bool}
def tW{h:Heap}{a:Addr}{es es1:A5}{ep:Nat}{t t1:SetTable}(ho:h.get? a=some (aW es ep t)):(h.update a (Obj.putSet es1 t1)).get? a=some (aW es1 (ep+1) t1):=by
 have q:=zS (Obj.putSet es1 t1) ho (by rw[putSet_of es1 t1 rfl];rfl)
 rw[putSet_of es1 t1 rfl]at q;exact q
def K4{g:Bool->Sem Unit}(hg:∀(b:Bool) (s1:Shared) (R:Unit->B2),R () s1->wq prog w A (g b) R E s1){a:Addr}{es es1:A5}{ep:Nat}{t t2:SetTable}{ks:C1}{wd:Bool}
  (ho:s.heap.get? a=some (aW es ep t)) (cq:ElemsOf (intKind prog w) es1.toList) (hp:(jP es1.toList).Perm ks) (hb:es1.size<scanBound) (hf:t2.fits es1.size=true) (ti:TI L t2) {R:Option Bool->B2}
  (h:∀h',Heap.SameBut a s.heap h'->UK prog w L h' a ks->R (some true) {s with heap:=h'}) :
  wq prog w A (do
    storeSet a es1 t2
    if(!wd&&t2.tooFull)=true then do
        g (relayAll t2 es1 (SetTable.grown es1.size)).2.2
        storeSet a (relayAll t2 es1 (SetTable.grown es1.size)).1 (relayAll t2 es1 (SetTable.grown es1.size)).2.1
        pure (some true)
     else pure (some true)) R E s:=by
 refine YF (zw ho rfl ?_ (y0 hb));have o1:=tW (es1:=es1) (t1:=t2) ho;have b1:=JI s.heap a (Obj.putSet es1 t2);split
 ·have p2:=relayAll_perm t2 es1 (SetTable.grown es1.size);have f2:=relayAll_fits t2 es1 (SetTable.grown es1.size);have ti2:=Om ti es1 (SetTable.grown es1.size);revert p2 f2 ti2;generalize relayAll t2 es1 (SetTable.grown es1.size)=Z;obtain⟨es2,t3,gv⟩:=Z;dsimp only;intro p2 f2 ti2;have sz:es2.size=es1.size:=by rw[<-Z6,p2.length_eq,Z6]
  refine YF (hg _ _ _ (YF (zw o1 rfl ?_ (y0 (by rw[sz];exact hb)))))
  refine YG (h _ (b1.trans (JI _ a _)) ⟨es2,_,t3,tW o1,cq.perm p2,(p2.map _).trans hp,f2,ti2,by rw[sz];exact hb⟩)
 ·exact YG (h _ b1 ⟨es1,_,t2,o1,cq,hp,hf,ti,hb⟩)
def add_int(hS:UK prog w L s.heap a ks)(room:ks.length+1<scanBound)
  (h:∀h' b,Heap.SameBut a s.heap h'->UK prog w L h' a (if k∈ks then ks else ks++[k])->Q b {s with heap:=h'}):wq prog w A (setAddHashed a (.int k tk) ((intKind prog w).hash k)) Q E s:=by
 obtain⟨es,ep,t,ho,cq,hp,hf,ti,hb⟩:=hS.ex;have kk:(intKind prog w).is k (.int k tk)=true:=C7 _ _ _ _;have len:es.size=ks.length:=by have:=hp.length_eq;unfold jP at this;rw[YT,Z6]at this;exact this
 unfold setAddHashed setAddHashedIn;refine ZF (YF (NS ho rfl hf ?_));dsimp only;rw[byScan_of (knd:=intKind prog w) (x:=.int k tk) rfl hb cq,YK rfl];unfold setAddByScan;refine YF (YF (ME (YF (wpAny_setScan_of kk ho rfl hf cq ?_))));have fk:=MQ cq k;have mk:k∈jP es.toList↔k∈ks:=hp.mem_iff;cases hr:List.findIdx? (λe=>(intKind prog w).is k e.2) es.toList with
 |some j=>
   rw[hr]at fk;have hk:k∈ks:=mk.mp (ZW fk.symm);have q:=h s.heap false (Heap.SameBut.refl a s.heap) (by rw[YK hk];exact hS)
   have e:s={s with heap:=s.heap}:=by cases s;rfl
   rw[e];exact YG (YG q)
 |none=>
   rw[hr]at fk;have hk:k∉ks:=λz=>by have:=of_decide_eq_false fk.symm;exact this (mk.mpr z)
   rw[YQ hk]at h;dsimp only;have p1:=layNew_perm t es ((intKind prog w).hash k) (.int k tk);have f1:=layNew_fits t es ((intKind prog w).hash k) (.int k tk);have ti1:=Ju ti es ((intKind prog w).hash k) (.int k tk);revert p1 f1 ti1;generalize layNew t es ((intKind prog w).hash k) (.int k tk)=Z;obtain⟨es1,t1,wd,gv⟩:=Z;dsimp only;intro p1 f1 ti1;rw[Array.toList_push]at p1;have el1:ElemsOf (intKind prog w) es1.toList:=(cq.push kk rfl).perm p1;have pk:(jP es1.toList).Perm (ks++[k]):=by refine(p1.map _).trans ?_;rw[FC];exact hp.append_right _
   have b1:es1.size<scanBound:=by rw[<-Z6,p1.length_eq,Zm,Z6,len];exact room
   have gw:∀(b:Bool) (s1:Shared) (R:Unit->B2),R () s1->wq prog w A (match b with|true=>rule "set.scan.the-table-gave-way" |false=>pure ()) R E s1:=λb s1 R hq=>by
    cases b
    ·exact YG hq
    ·exact ME hq
   refine YF (gw gv _ _ ?_);split
   ·refine YF ?_;rw[hashByValue_scannable 8 (x:=.int k tk) rfl];refine YG ?_;simp only[plainKind,↓reduceIte];refine K4 ?_ ho el1 pk b1 f1 ti1 ?_
    ·intro b s1 R hq;cases b
     ·exact YG hq
     ·exact ME hq
    ·intro h' sb g;exact YG (h h' true sb g)
   ·refine YF (YG ?_);simp only[↓reduceIte];refine K4 ?_ ho el1 pk b1 f1 ti1 ?_
    ·intro b s1 R hq;cases b
     ·exact YG hq
     ·exact ME hq
    ·intro h' sb g;exact YG (h h' true sb g)
end
def cG:Slot "set_iterator" "__next__" "set_iterator.__next__":=.of (owner := "set_iterator") (n := "__next__") (by rw[typeLookup_type,builtinLookup_eq_fast];kernel_rfl) (by decide +kernel) (by decide +kernel) (by decide +kernel) (by first|exact .inl (by decide +kernel)|exact .inr (by decide +kernel)) (by rw[isSubtype_type];kernel_rfl)
def FW:Slot "set_iterator" "__iter__" "set_iterator.__iter__":=.of (owner := "set_iterator") (n := "__iter__") (by rw[typeLookup_type,builtinLookup_eq_fast];kernel_rfl) (by decide +kernel) (by decide +kernel) (by decide +kernel) (by first|exact .inl (by decide +kernel)|exact .inr (by decide +kernel)) (by rw[isSubtype_type];kernel_rfl)
def iI:entryFor table "set_iterator.__next__"=some Builtin.«set_iterator.__next__»:=entryFor_of_fast (by kernel_rfl)
def MJ:entryFor table "set_iterator.__iter__"=some Builtin.«dict_keyiterator.__iter__»:=entryFor_alias (id' := "dict_keyiterator.__iter__") (by kernel_rfl) rfl (by decide +kernel) (by kernel_rfl)
def yV:entryFor table "set.__iter__"=some Builtin.«frozenset.__iter__»:=entryFor_alias (id' := "frozenset.__iter__") (by kernel_rfl) rfl (by decide +kernel) (by kernel_rfl)
def jW(a:Value):argsOk "set_iterator.__next__" ⟨[a],[]⟩:=by unfold argsOk;kernel_rfl
def Qn(a:Value):argsOk "set_iterator.__iter__" ⟨[a],[]⟩:=by unfold argsOk;kernel_rfl
set_option tactic.hygienic true in
theorem Fq(next:Nat->Nat):∀(fuel k:Nat) (left:List α) (out:Array α),left.length=fuel->(pickOrder.go next fuel k left out).toList.Perm (out.toList++left)
 |0,k,left,out,h=>by have:left=[]:=wh.mp h;subst this;unfold pickOrder.go;simp
 |fuel+1,k,left,out,h=>by
   unfold pickOrder.go;have hm:next k%left.length<left.length:=OY _ (by lia)
   generalize next k%left.length=m at hm
   rw[YS hm];dsimp only;refine(Fq next fuel (k+1) (left.eraseIdx m) (out.push left[m]) (by rw[List.length_eraseIdx,YK hm];lia)).trans ?_
   rw[Array.toList_push,IM];refine List.Perm.append_left _ ?_;have:∀(l:List α) (t:Nat) (ht:t<l.length),(l[t]::l.eraseIdx t).Perm l:=by
    intro l;induction l with
    |nil=>intro t ht;exact absurd ht (by simp)
    |cons a l ih=>
      intro t ht;cases t with
      |zero=>exact .refl _
      |succ t=>exact(List.Perm.swap a _ _).trans ((ih t (by simpa using ht)).cons a)
   exact this left m hm
set_option tactic.hygienic true in
def J0(next:Nat->Nat)(xs:Array α):(pickOrder next xs).toList.Perm xs.toList:=by unfold pickOrder;exact(Fq next xs.size 0 xs.toList #[] (by simp)).trans (by simp)
section
variable{prog:C5}{w:World}{A:Around}{E:A3}{s:Shared}
def yW(a:n≠0)(h:∀i d',i<n->Q i {s with drawn:=d'}):wq prog w A (choose src n) Q E s:=λI p b=>⟨a,h _ _ (OY _ (by lia))⟩
theorem yw:∀(n:Nat) (xs:C0) {s:Shared}{Q:C0->B2},xs.length=n->(∀ys d',ys.Perm xs->Q ys {s with drawn:=d'})->wq prog w A (drawOrder n xs) Q E s
 |0,xs,s,Q,h,q=>by have:xs=[]:=wh.mp h;subst this;unfold drawOrder;exact YG (q [] s.drawn (.refl _))
 |n+1,[],s,Q,h,q=>by cases h
 |n+1,x::xs,s,Q,h,q=>by
   unfold drawOrder;refine YF (yW (by simp) λi d' hi=>?_)
   rw[YS hi];dsimp only;refine YF (yw n ((x::xs).eraseIdx i) (by rw[List.length_eraseIdx,YK hi];simp at h ⊢;lia) λys d2 p=>YG (q _ d2 ?_))
   refine(p.cons _).trans ?_;have:∀(l:C0) (t:Nat) (ht:t<l.length),(l[t]::l.eraseIdx t).Perm l:=by
    intro l;induction l with
    |nil=>intro t ht;exact absurd ht (by simp)
    |cons a l ih=>
      intro t ht;cases t with
      |zero=>exact .refl _
      |succ t=>exact(List.Perm.swap a _ _).trans ((ih t (by simpa using ht)).cons a)
   exact this _ i hi
end
abbrev mq(vs:B4):Obj:={cls:=.type "set_iterator",data:=.fields vs}
abbrev bK(w:World):Bool:=w.params.followText "set-order"
def qy(w:World)(h:Heap)(I a tp:Addr)(es:A5)(ep:Nat)(t:SetTable)(ord:B5)(i:Nat):Prop:=
 (bK w=true/\h.get? I=some (mq #[.int 0 0,.int i 0,.ref a,.int es.size 0,.int ep 0])/\ord=(pickOrder (w.params.setOrder a ep) es).toList.map (·.2))
 \/ (bK w=false/\(!t.plain&&decide (es.size>1))=false/\∃c:Nat,h.get? I=some (mq #[.int c 0,.int i 0,.ref a,.int es.size 0,.int ep 0])/\SetTable.below t.place c=i/\ord=es.toList.map (·.2))
 \/ (bK w=false/\(!t.plain&&decide (es.size>1))=true/\∃b,tp≠I/\h.get? I=some (mq #[.ref tp,.int i 0,.ref a,.int es.size 0,.int ep 0])/\h.get? tp=some {cls:=.type "tuple",data:=.seq ((b:C0).map λ(p:Nat)=>rawInt (p:Int)).toArray}/\b.Perm (List.range es.size)/\ord=b.map (λp=>(es.getD p (0,.none)).2))
section
variable{prog:C5}{w:World}{A:Around}{E:A3}{s:Shared}{I a tp:Addr}{es:A5}{ep:Nat}{t:SetTable}{ord:B5}{i:Nat}
def jq{h:Heap}{vs:B4}{k:Nat}{v:Value}(e:h.get? I=some (mq vs)):(h.update I (Obj.mapFields (·.setIfInBounds k v))).get? I=some (mq (vs.setIfInBounds k v)):=by have q:=zS (Obj.mapFields (·.setIfInBounds k v)) e (Obj.isFreed_of_fields (Obj.data_mapFields rfl _));rw[q];rfl
def JM(f:bK w=true)(ho:s.heap.get? a=some (aW es ep t))(c:t.fits es.size=true){d:Nat}{Q:Option (Value×Nat)->B2}(q:Q (((pickOrder (w.params.setOrder a ep) es)[i]?).map λe=>(e.2,d)) s):
  wq prog w A (setNext a d i ep) Q E s:=by
 unfold setNext setsByText;refine YF (NS ho rfl c ?_);refine YF (YF (JY (YG ?_)));have b:(model prog w).w.params.followText "set-order"=true:=f;rw[YK b];simp only[bne_self_eq_false,Bool.false_eq_true,↓reduceIte];unfold setWalk setsByText;refine YF (YF (NS ho rfl c ?_));refine YF (YF (JY (YG ?_)));rw[YK b];exact YF (JY (YG (YG q)))
def JN(d:bK w=false)(hd:(!t.plain&&decide (es.size>1))=false)(ti:TI (!bK w) t)(ho:s.heap.get? a=some (aW es ep t))(e:t.fits es.size=true){b:Nat}{Q:Option (Value×Nat)->B2}
  (q:Q (match es[SetTable.below t.place b]?,t.place[SetTable.below t.place b]? with
    |some (_,x),some j=>some (x,j+1)
    |_,_=>none) s):wq prog w A (setNext a b i ep) Q E s:=by
 unfold setNext setsByText;refine YF (NS ho rfl e ?_);refine YF (YF (JY (YG ?_)));have c:¬(model prog w).w.params.followText "set-order"=true:=by rw[show(model prog w).w.params.followText "set-order"=bK w from rfl,d];decide
 rw[YQ c];have f:t.led=true:=by rw[ti.led,d];rfl
 show wpAny _ _ (if(!t.plain&&decide (es.size>1))=true then _ else _) _ _ _
 rw[hd,YQ (by decide)]
 refine YF ?_;show wpAny _ _ (if(!t.led&&!es.isEmpty)=true then _ else _) _ _ _
 rw[f];exact YG (YG q)
def OP(ho:s.heap.get? a=some (aW es ep t))(f:t.fits es.size=true)(ti:TI (!bK w) t)(y:a≠I)(c:qy w s.heap I a tp es ep t ord i)(l:i<ord.length){Q:B1->B2}
  (q:∀h',Heap.SameBut I s.heap h'->qy w h' I a tp es ep t ord (i+1)->Q (some ord[i]) {s with heap:=h'}):wq prog w A (pyNext (.ref I)) Q E s:=by
 have ho':∀(k:Nat) (v:Value),(s.heap.update I (Obj.mapFields (·.setIfInBounds k v))).get? a=some (aW es ep t):=λk v=>by rw[BQ _ _ (λz=>y z.symm)];exact ho
 have O:(((es.size:Nat):Int) != ((es.size:Nat):Int))=false:=bne_self_eq_false _;have m:∀(v1 v2:Value) (k1 k2:Nat),Heap.SameBut I s.heap ((s.heap.update I (Obj.mapFields (·.setIfInBounds k1 v1))).update I (Obj.mapFields (·.setIfInBounds k2 v2))):=λv1 v2 k1 k2=>(JI _ I _).trans (JI _ I _)
 rcases c with⟨h,b,e⟩|⟨h,x,U,b,hs,e⟩|⟨h,x,j,n,b,hT,hp,e⟩
 ·have ty:s.TypeIs (.ref I) "set_iterator":=⟨_,b,rfl⟩;unfold pyNext;refine YF (KG (ZP (name:=Str.ofString "__next__") ty cG (Zy cG ty iI ?_ (jW _))));unfold Builtin.«set_iterator.__next__» slotArgs;refine YF (YG ?_);refine YF (ED b rfl ?_);dsimp only;refine YF (FS ho rfl f ?_);rw[O,YQ (by decide)]
  refine YF (JM h ho f ?_);have d:i<(pickOrder (w.params.setOrder a ep) es).size:=by rw[e]at l;simpa using l
  have o:ord[i]=((pickOrder (w.params.setOrder a ep) es)[i]).2:=by subst e;simp
  rw[show((i:Int)).toNat=i from KI i,HA d]
  dsimp only[Option.map_some];refine YF (MG b rfl (by simp) ?_)
  refine YF (MG (jq b) rfl (by simp) ?_)
  refine YG ⟨_,rfl,YG ?_⟩;rw[<-o];refine q _ (m _ _ _ _) (.inl ⟨h,?_,e⟩);rw[jq (jq b)];simp[rawInt]
 ·have ty:s.TypeIs (.ref I) "set_iterator":=⟨_,b,rfl⟩;unfold pyNext;refine YF (KG (ZP (name:=Str.ofString "__next__") ty cG (Zy cG ty iI ?_ (jW _))));unfold Builtin.«set_iterator.__next__» slotArgs;refine YF (YG ?_);refine YF (ED b rfl ?_);dsimp only;refine YF (FS ho rfl f ?_);rw[O,YQ (by decide)]
  refine YF (JN h x ti ho f ?_);have d:i<es.size:=by rw[e]at l;simpa using l
  have hps:t.place.size=es.size:=by simp only[SetTable.fits,Bool.and_eq_true,beq_iff_eq]at f;exact f.1
  have r:i<t.place.size:=by rw[hps];exact d
  have o:ord[i]=(es[i]).2:=by subst e;simp
  rw[show((U:Int)).toNat=U from KI U,hs,HA d,HA r]
  dsimp only;refine YF (MG b rfl (by simp) ?_)
  refine YF (MG (jq b) rfl (by simp) ?_)
  refine YG ⟨_,rfl,YG ?_⟩;rw[<-o];refine q _ (m _ _ _ _) (.inr (.inl ⟨h,x,t.place[i]+1,?_,Gp ti.ij r,e⟩));rw[jq (jq b)];simp[rawInt]
 ·have ty:s.TypeIs (.ref I) "set_iterator":=⟨_,b,rfl⟩;have hpl:j.length=es.size:=by rw[hp.length_eq,Zu]
  have d:i<j.length:=by rw[e]at l;simpa using l
  have u:j[i]<es.size:=YX.mp (hp.mem_iff.mp (OA d));unfold pyNext;refine YF (KG (ZP (name:=Str.ofString "__next__") ty cG (Zy cG ty iI ?_ (jW _))));unfold Builtin.«set_iterator.__next__» slotArgs;refine YF (YG ?_);refine YF (ED b rfl ?_);dsimp only;refine YF (FS ho rfl f ?_);rw[O,YQ (by decide)]
  refine YF (AD hT rfl ?_);have g:((j.map λ(p:Nat)=>rawInt (p:Int)).toArray)[i]?=some (rawInt (j[i]:Int)):=by simp[d]
  rw[show((i:Int)).toNat=i from KI i]
  dsimp only;rw[g];dsimp only[rawInt];unfold setNextDrawn;refine YF (YF (NS ho rfl f ?_));simp only[bne_self_eq_false,Bool.false_eq_true,↓reduceIte,Int.toNat_natCast];rw[HA u];dsimp only;refine YG ?_;refine YF (MG b rfl (by simp) ?_)
  refine YG ⟨_,rfl,YG ?_⟩;have o:ord[i]=(es[j[i]]).2:=by subst e;simp[u]
  rw[<-o];refine q _ (JI _ I _) (.inr (.inr ⟨h,x,j,n,?_,?_,hp,e⟩))
  ·rw[jq b];simp
  ·rw[BQ _ _ (λz=>n z.symm)];exact hT
end
section
variable{prog:C5}{w:World}{A:Around}{E:A3}{s:Shared}{I a tp:Addr}{es:A5}{ep:Nat}{t:SetTable}{ord:B5}{i:Nat}
def vz(c:A.handled=none){R:Fin->B2}{Q:B1->B2}(q:∀h',(∀b o,s.heap.get? b=some o->h'.get? b=some o)->Q none {s with heap:=h'}):
  wpAny (model prog w) A.in1 (do raiseNew (<-newExc (.type "StopIteration") [])) R (λe s'=>wq prog w A (do if <-isInstance e (.type "StopIteration")then pure none else throw e) Q E s') s:=by
 refine YF ?_;simp only[newExc,newTuple];refine YF (Zw ?_ (by size_fits))
 refine YF (m:=firstArgMember _ _) (wpAny_of_eq (a:=.none) (by first|rfl|(simp only[firstArgMember];rfl)) (Zw ?_ (by size_fits)))
 simp only[raiseNew];refine YF (wpAny_handled ?_);have d:A.in1.handled=none:=c;rw[d];refine YF (YG (wpAny_throw ?_));refine YF (yT (T := "StopIteration") (b:=true) ⟨_,YZ _ rfl,rfl⟩ isSubtype_stop ?_);exact YG (q _ λb o e=>YH _ (YH _ e))
def NU(m:A.handled=none)(ho:s.heap.get? a=some (aW es ep t))(l:t.fits es.size=true)(ti:TI (!bK w) t)(c:qy w s.heap I a tp es ep t ord ord.length){Q:B1->B2}
  (q:∀h',(∀b o,b≠I->s.heap.get? b=some o->h'.get? b=some o)->Q none {s with heap:=h'}):wq prog w A (pyNext (.ref I)) Q E s:=by
 have n:(((es.size:Nat):Int) != ((es.size:Nat):Int))=false:=bne_self_eq_false _;have j:∀(u:Value) (j:Nat) b o,b≠I->s.heap.get? b=some o->(s.heap.update I (Obj.mapFields (·.setIfInBounds j u))).get? b=some o:=λu j b o d e=>by rw[BQ _ _ (λz=>d z.symm)];exact e
 rcases c with⟨d,f,e⟩|⟨d,v,r,f,x,e⟩|⟨d,v,y,O,f,hT,U,e⟩
 ·have ty:s.TypeIs (.ref I) "set_iterator":=⟨_,f,rfl⟩;unfold pyNext;refine YF (KG (ZP (name:=Str.ofString "__next__") ty cG (Zy cG ty iI ?_ (jW _))));unfold Builtin.«set_iterator.__next__» slotArgs;refine YF (YG (YF (ED f rfl ?_)));dsimp only;refine YF (FS ho rfl l ?_);rw[n,YQ (by decide)]
  refine YF (JM d ho l ?_);have h:(pickOrder (w.params.setOrder a ep) es)[((ord.length:Int)).toNat]?=none:=by rw[KI,wm,e];simp
  rw[h];dsimp only[Option.map_none];refine YF (MG f rfl (by simp) ?_)
  exact vz m λh' k=>q h' λb o d e=>k b o (j _ _ b o d e)
 ·have ty:s.TypeIs (.ref I) "set_iterator":=⟨_,f,rfl⟩;unfold pyNext;refine YF (KG (ZP (name:=Str.ofString "__next__") ty cG (Zy cG ty iI ?_ (jW _))));unfold Builtin.«set_iterator.__next__» slotArgs;refine YF (YG (YF (ED f rfl ?_)));dsimp only;refine YF (FS ho rfl l ?_);rw[n,YQ (by decide)]
  refine YF (JN d v ti ho l ?_);have h:es[ord.length]?=none:=by rw[wm,e];simp
  rw[show((r:Int)).toNat=r from KI r,x,h]
  dsimp only;refine YF (MG f rfl (by simp) ?_)
  exact vz m λh' k=>q h' λb o d e=>k b o (j _ _ b o d e)
 ·have ty:s.TypeIs (.ref I) "set_iterator":=⟨_,f,rfl⟩;unfold pyNext;refine YF (KG (ZP (name:=Str.ofString "__next__") ty cG (Zy cG ty iI ?_ (jW _))));unfold Builtin.«set_iterator.__next__» slotArgs;refine YF (YG (YF (ED f rfl ?_)));dsimp only;refine YF (FS ho rfl l ?_);rw[n,YQ (by decide)]
  refine YF (AD hT rfl ?_);have g:((y.map λ(p:Nat)=>rawInt (p:Int)).toArray)[((ord.length:Int)).toNat]?=none:=by rw[KI,wm,e];simp
  dsimp only;rw[g];dsimp only;refine YF (MG f rfl (by simp) ?_)
  refine YF (MG (jq f) rfl (by simp) ?_)
  refine vz m λh' k=>q h' λb o d e=>k b o ?_
  rw[BQ _ _ (λz=>d z.symm)]
  exact j _ _ b o d e
def Nk(ho:s.heap.get? a=some (aW es ep t))(g:t.fits es.size=true)(ti:TI (!bK w) t)(m:es.size<scanBound)
  (q:∀h' d' I tp ord,s.z<=I->(∀b o,s.heap.get? b=some o->h'.get? b=some o)->I<h'.objs.size->(tp=a\/(s.z<=tp/\tp<h'.objs.size))->qy w h' I a tp es ep t ord 0->ord.Perm (es.toList.map (·.2))->Q (.ref I) {s with heap:=h',drawn:=d'}):wq prog w A (pyIter (.ref a)) Q E s:=by
 have ty:s.TypeIs (.ref a) "set":=⟨_,ho,rfl⟩;refine vS ty F.slot_set_iter (Zy F.slot_set_iter ty yV ?_ (F.args_set_iter_1 _));unfold Builtin.«frozenset.__iter__» Builtin.Frozenset.slot0 slotArgs Builtin.Frozenset.addrOf Builtin.Frozenset.sizeOf setDrawn setsByText;simp only[List.isEmpty_nil,Bool.not_true,Bool.false_eq_true,↓reduceIte,bind_assoc,List.length_nil,bne_self_eq_false];refine YF (YG (YF (YG ?_)));refine YF (FS ho rfl g (YF (YG ?_)));refine YF (NS ho rfl g ?_);refine YF (JY (YF (YG (YF (YG ?_)))));show wpAny _ _ (if(!bK w&&(!t.plain&&decide (es.size>1)))=true then _ else _) _ _ _
 by_cases hc:(!bK w&&(!t.plain&&decide (es.size>1)))=true
 ·rw[YK hc];rw[Kb]at hc;have d:bK w=false:=by simpa using hc.1
  refine YF (yw es.size (List.range es.size) (by simp) λh d' j=>?_)
  have pl:h.length=es.size:=by rw[j.length_eq,Zu]
  simp only[newTuple,newFields];refine YF (Zw ?_ (by show _<=sizeLine;have:=y0 m;simp;lia))
  have l:=YH {cls:=.type "tuple",data:=.seq ((h.map λ(i:Nat)=>rawInt (i:Int)).toArray)} ho
  refine YF (wpAny_setEpoch_of l rfl g ?_);refine YF (Zw (YG ⟨_,rfl,"set_iterator",_,⟨_,YZ _ rfl,rfl⟩,cG.lookup,?_⟩) (by show _<=_;simp[sizeLine_eq]))
  refine q _ d' _ s.z (h.map (λp=>(es.getD p (0,.none)).2)) (by dsimp only;simp only[Heap.size_push];lia) (λb o e=>YH _ (YH _ e)) (by dsimp only;simp only[Heap.size_push];lia) (.inr ⟨YL _,by dsimp only;simp only[Heap.size_push];exact IP (Kj _)⟩) (.inr (.inr ⟨d,hc.2,h,?_,YZ _ rfl,YH _ (YZ _ rfl),j,rfl⟩)) ?_
  ·dsimp only;simp only[Heap.size_push];exact Y6 (Kj _)
  ·refine(j.map _).trans (List.Perm.of_eq ?_);apply AB;intro k;by_cases hk:k<es.size
   ·simp[hk,Array.getD]
   ·rw[Z5 (by simp;lia),Z5 (by simp;lia)]
 ·rw[YQ hc];refine YF (YG ?_);simp only[newFields];refine YF (wpAny_setEpoch_of ho rfl g ?_);refine YF (Zw (YG ⟨_,rfl,"set_iterator",_,⟨_,YZ _ rfl,rfl⟩,cG.lookup,?_⟩) (by show _<=_;simp[sizeLine_eq]))
  have f:∀ord,qy w (s.heap.push (mq #[.int 0 0,.int 0 0,.ref a,.int es.size 0,.int ep 0])) s.z a a es ep t ord 0->ord.Perm (es.toList.map (·.2))->Q (.ref s.z) {s with heap:=s.heap.push (mq #[.int 0 0,.int 0 0,.ref a,.int es.size 0,.int ep 0])}:=λord c p=>
   q _ s.drawn s.z a ord (YL _) (λb o e=>YH _ e) (by rw[ZX];lia) (.inl rfl) c p
  cases d:bK w with
  |true=>exact f _ (.inl ⟨d,YZ _ rfl,rfl⟩) ((J0 _ es).map _)
  |false=>
    rw[d]at hc;have n:(!t.plain&&decide (es.size>1))=false:=by simpa using hc
    exact f _ (.inr (.inl ⟨d,n,0,YZ _ rfl,Gq ti.ij,rfl⟩)) (.refl _)
def qy.at(c:qy w h I a tp es ep t ord i)(k1:∀o,h.get? I=some o->h'.get? I=some o)(k2:∀o,h.get? tp=some o->h'.get? tp=some o):qy w h' I a tp es ep t ord i:=by
 rcases c with⟨b,d,e⟩|⟨b,f,j,d,k,e⟩|⟨b,f,l,g,d,hT,m,e⟩
 ·exact .inl ⟨b,k1 _ d,e⟩
 ·exact .inr (.inl ⟨b,f,j,k1 _ d,k,e⟩)
 ·exact .inr (.inr ⟨b,f,l,g,k1 _ d,k2 _ hT,m,e⟩)
def qy.ty(c:qy w h I a tp es ep t ord i):∃vs,h.get? I=some (mq vs):=by rcases c with⟨d,b,e⟩|⟨d,f,j,b,k,e⟩|⟨d,f,l,g,b,hT,m,e⟩<;>exact⟨_,b⟩
def Lf(q:A.handled=none)(m:t.fits es.size=true)(ti:TI (!bK w) t)(f:a≠I):
  Walks prog w A I [I,a,tp] [I] ord.length (λi v=>ord[i]?=some v) (λi h=>h.get? a=some (aW es ep t)/\qy w h I a tp es ep t ord i)where
 sub:=λb d=>by simp at d;simp[d]
 frame:=λz z z st j=>⟨j a (by simp) _ st.1,st.2.at (λo e=>j I (by simp) o e) λo e=>j tp (by simp) o e⟩
 item:=λi s Q E n st g=>OP st.1 m ti f st.2 n λl p c=>g _ l s.toks (by simp[n]) ⟨p.extBut a _ f st.1,c⟩ λb o d e=>p.extBut b o (λh=>d (by simp[h])) e
 done:=λs Q E st g=>NU q st.1 m ti st.2 λl k=>g l s.toks λb o d e=>k b o (λh=>d (by simp[h])) e
 self:=λi s Q E st g=>by obtain⟨u,r⟩:=st.2.ty;have ty:s.TypeIs (.ref I) "set_iterator":=⟨_,r,rfl⟩;exact vS ty FW (Zy FW ty MJ (YG ⟨_,rfl,"set_iterator",_,ty,cG.lookup,g⟩) (Qn _))
end
def UK.at(g:UK prog w L h a ks)(k:∀o,h.get? a=some o->h'.get? a=some o):UK prog w L h' a ks:=by obtain⟨b,c,t,d,r⟩:=g.ex;exact⟨b,c,t,k _ d,r⟩
def vy(ks:C1)(k:Int):(if k∈ks then ks else ks++[k])=step_dedup ks k:=by
 unfold step_dedup;by_cases h:k∈ks
 ·rw[YK h,YK (GB.mpr ⟨k,h,by simp⟩)]
 ·rw[YQ h,YQ (λz=>by obtain⟨x,a,e⟩:=GB.mp z;exact h (by rw[<-JU.mp e];exact a))]
section
variable{prog:C5}{w:World}{A:Around}{R:Result->B2}{I:Addr}{fp wr:B7}{G:Array GenState->Array GenState->Prop}{n:Nat}{P:Nat->Value->Prop}{St:Nat->B2}{L:Bool}
def V9(W:WalksS prog w A.in1 I fp wr G n P St)(S:Addr)(sP:S∉fp)(Sp:Nat->B6)(keep:∀i h h',Sp i h->(∀b o,b∉wr->h.get? b=some o->h'.get? b=some o)->Sp i h')
  (add:∀i v s Q E,i<n->P i v->Sp i s.heap->(∀h' tk b,s.toks<=tk->Heap.SameBut S s.heap h'->Sp (i+1) h'->Q b {s with heap:=h',toks:=tk})->wpAny (model prog w) A.in1 (setAdd S v) Q E s):∀(k i:Nat) (s:Shared),n-i=k->i<=n->St i s->Sp i s.heap->
  (∀s',Moved (S::wr) G s s'->Sp n s'.heap->R (.ok (.ret .none)) s')->codeAny (model prog w) A (.builtin "set.update.loop" ⟨[.ref S,.ref I],[]⟩) R s:=by
 have sub:∀b∈wr,b∈S::wr:=λb hb=>.tail _ hb
 intro k;induction k with
 |zero=>
   intro i s hk hi av g hR;obtain rfl:i=n:=by lia
   refine ML ab5 ?_;rw[JA vF _];refine YF (m:=pyNext (.ref I)) (W.done s _ _ av λs' hm=>?_)
   exact YG (hR s' (hm.mono sub) (keep _ _ _ g λb o hb e=>hm.heap b o hb e))
 |succ k ih=>
   intro i s hk hi av g hR;have lt:i<n:=by lia
   refine ML ab5 ?_;rw[JA vF _];refine YF (m:=pyNext (.ref I)) (W.item i s _ _ lt av λv s' hP hst' hm=>?_)
   refine YF (m:=holding [v] (setAdd S v)) (ZF (add i v s' _ _ lt hP (keep _ _ _ g λb o hb e=>hm.heap b o hb e) λh' tk b ht sb g2=>?_))
   refine YG ⟨ER vF _,ih (i+1) _ (by lia) lt (W.frame _ s' _ _ hst' ht λc hc o e=>?_) g2 λs2 hm2 g3=>?_⟩
   ·rw[sb.2 c (λz=>sP (z▸hc))];exact e
   ·refine hR s2 (Moved.trans W.gtrans ((hm.mono sub).then_heap ht λc o hc e=>?_) hm2) g3
    rw[sb.2 c (λz=>hc (z▸Zd))];exact e
def W9(d:∃t,v=.int (val i) t)(f:i+1<scanBound)(g:UK prog w L s.heap S (firstMet val i))(q:∀h' a b,s.toks<=a->Heap.SameBut S s.heap h'->UK prog w L h' S (firstMet val (i+1))->Q b {s with heap:=h',toks:=a}):wq prog w A (setAdd S v) Q E s:=by
 obtain⟨t,rfl⟩:=d;unfold setAdd;refine ZF (YF ((intKind prog w).pyHash (k:=val i) (C7 _ _ _ _) ?_));refine add_int (s:={s with toks:=s.toks+1}) g (by have:=firstMet_length_le val i;lia) λh' b e c=>?_
 rw[vy,<-firstMet_succ]at c;exact q h' _ b (Nat.le_succ _) e c
end
section
variable{prog:C5}{w:World}{A:Around}{E:A3}{s:Shared}
def Q8(v:Value)(h:Q (.ref s.z) {s with heap:=s.heap.push (aW #[] 0 (.fresh 0 0 (!bK w)))}):
  codeAny (model prog w) A (.call (.builtin "set.__new__") ⟨[.type "set",v],[]⟩) (wants Q E) s:=by
 refine zv (YF (m:=checkBuiltinCall "set.__new__" ⟨[.type "set",v],[]⟩) (wpAny_of_eq (F.newCall_set_1 v) (YG ⟨ER F.plain_set_new _,ML F.entry_set_new ?_⟩)));rw[JA F.plain_set_new _];unfold Builtin.«set.__new__» Builtin.Frozenset.newClass;have a:=sub_set_self;obtain⟨b,g,d,c,os⟩:=s;dsimp only
 wp_walk
 refine JY (YG ?_);dsimp only;simp only[newObj];exact YF (wpAny_alloc (YG (YG h)))
def Kw{Sf:B6}{Q:A3}
  (sQ:Shared.TypeIs {s with heap:=s.heap.push (aW #[] 0 (.fresh 0 0 (!bK w)))} (.ref s.z) "set"->codeAny (model prog w) A.in1 (.call (.builtin "set.__init__") ⟨[.ref s.z]++[.ref l],[]⟩) (wants (λr s2=>r=.none/\∃h' tk,s2={s with heap:=h',toks:=tk}/\Sf h'/\(∀b o,b<s.z->s.heap.get? b=some o->h'.get? b=some o)) E) {s with heap:=s.heap.push (aW #[] 0 (.fresh 0 0 (!bK w)))})
  (h:∀(h':Heap) (tk:Nat),Sf h'->(∀b o,b<s.z->s.heap.get? b=some o->h'.get? b=some o)->Q (.ref s.z) {s with heap:=h',toks:=tk}) :
  wq prog w A (call (.type "set") [.ref l]) Q E s:=by
 obtain⟨c,tl,hmro⟩:=F.called_set.mro;have hmade:=F.called_set.made;have i8:=F.called_set.sub;refine IQ (zv (YG ⟨Code.quiet_builtin _ (by decide +kernel),ML F.entry_type_call ?_⟩))
 rw[Around.under_plain (weight_type_call_type "set" [.ref l] []) rfl];have h1:=F.called_set.notType;have h2:=F.called_set.canCreate;have hct:=F.typeCall_set_1 (.ref l)
 repeat (any_goals (first|assumption|wp_step))
 refine MA (Q8 (.ref l) (E:=E) (Q:=λobj s1=>obj=.ref s.z/\s1={s with heap:=s.heap.push (aW #[] 0 (.fresh 0 0 (!bK w)))}) ⟨rfl,rfl⟩) λr s1 hr=>?_
 cases r with
 |error e=>exact hr
 |ok fl=>
   cases fl with
   |ret obj=>
     obtain⟨rfl,rfl⟩:=hr;have hS:(s.heap.push (aW #[] 0 (.fresh 0 0 (!bK w)))).get? s.z=some (aW #[] 0 (.fresh 0 0 (!bK w))):=YZ _ rfl;have hT:Shared.TypeIs {s with heap:=s.heap.push (aW #[] 0 (.fresh 0 0 (!bK w)))} (.ref s.z) "set":=⟨_,hS,rfl⟩
     have hli:=F.called_set.init.lookup;have hbi:=F.called_set.init.bind (.ref s.z)
     repeat (any_goals (first|assumption|wp_step))
     refine MA (sQ hT) λr2 s2 hr2=>?_
     cases r2 with
     |error e=>exact hr2
     |ok fl2=>
       cases fl2 with
       |ret r=>
         obtain⟨rfl,h',tk,rfl,hS',hk'⟩:=hr2
         repeat (any_goals (first|assumption|wp_step))
         exact h _ _ hS' hk'
       |_=>exact hr2.elim
   |_=>exact hr.elim
def yq{items:B4}{Sp:Nat->B6}{Q:A3}(hh:A.handled=none)(hl:s.heap.IsList l items)
  (h0:∀h',h'.get? s.z=some (aW #[] 0 (.fresh 0 0 (!bK w)))->(∀b o,b<s.z->s.heap.get? b=some o->h'.get? b=some o)->Sp 0 h') (f:∀i h h',Sp i h->(∀b o,b∉[s.z+1]->h.get? b=some o->h'.get? b=some o)->Sp i h')
  (z:∀A' i v c Q E,A'.units<=A.units+7->i<items.size->items[i]?=some v->Sp i c.heap->(∀h' x b,c.toks<=x->Heap.SameBut s.z c.heap h'->Sp (i+1) h'->Q b {c with heap:=h',toks:=x})->wpAny (model prog w) A' (setAdd s.z v) Q E c)
  (h:∀(h':Heap) (x:Nat),Sp items.size h'->(∀b o,b<s.z->s.heap.get? b=some o->h'.get? b=some o)->Q (.ref s.z) {s with heap:=h',toks:=x}) :
  wq prog w A (call (.type "set") [.ref l]) Q E s:=by
 refine Kw (Sf:=Sp items.size) (λhT=>y7 F.called_set.init.plain F.entry_set_init (check_set_init_1 hT ?_)) h
 have hS:(s.heap.push (aW #[] 0 (.fresh 0 0 (!bK w)))).get? s.z=some (aW #[] 0 (.fresh 0 0 (!bK w))):=YZ _ rfl;obtain⟨ol,j,m,nl,n⟩:=hl;obtain⟨ocls,d,I,a⟩:=ol;simp only at m n;subst m;subst n;have p:(s.heap.push (aW #[] 0 (.fresh 0 0 (!bK w)))).get? l=some {cls:=.type "list",dict:=d,data:=.seq items nl,slots:=a}:=YH _ j;have hsls:=F.sub_list_set;have hslf:=F.sub_list_frozenset;have bp:(Value.type "list"==Value.type "dict")=false:=by decide
 have r:(s.heap.push (aW #[] 0 (.fresh 0 0 (!bK w)))).IsList l items:=⟨_,p,rfl,nl,rfl⟩;unfold Builtin.«set.__init__» noKeywords Builtin.Frozenset.updateFrom;generalize hPI:pyIter=PI
 wp_walk
 subst hPI;refine Ap r (YF (AC ?_));have t:l<s.z:=YW j;have O:A.in1.in1.in1.handled=none:=by simp[hh]
 have u:l≠(s.heap.push (aW #[] 0 (.fresh 0 0 (!bK w)))).objs.size:=by rw[ZX];exact Y6 (IP t)
 have U:s.z∉[(s.heap.push (aW #[] 0 (.fresh 0 0 (!bK w)))).objs.size,l]:=by rw[ZX];simp only[List.mem_cons,List.mem_singleton,List.not_mem_nil,or_false,not_or];exact⟨Y6 (Kj _),DJ t⟩
 refine V9 ((Walks.list O _ l u items).toS) s.z U Sp (λi h h' g k=>f i h h' g (by rw[ZX]at k;exact k)) (λi v c Q E lt hP g q=>z _ i v c Q E (by show _<=_;simp) lt hP g q) (items.size-0) 0 _ (by lia) (Z8 _) ⟨⟨_,YZ _ rfl,rfl,rfl⟩,(r.push _)⟩ (h0 _ (YH _ hS) λb o Z e=>YH _ (YH _ e)) λs' y hS'=>?_
 obtain⟨h',g',d',tk',os'⟩:=s';have eg:g'=s.gens:=y.gens;have ed:d'=s.drawn:=y.drawn;have eo:os'=s.os:=y.os;subst eg;subst ed;subst eo;refine YG (YG ⟨rfl,h',tk',rfl,hS',λb o hb e=>?_⟩)
 have hb2:b≠(s.heap.push (aW #[] 0 (.fresh 0 0 (!bK w)))).objs.size:=by rw[ZX];exact Y6 (IP hb)
 exact y.heap b o (by simp only[List.mem_cons,List.mem_singleton,List.not_mem_nil,or_false,not_or];exact⟨Y6 hb,hb2⟩) (YH _ (YH _ e))
def Ir{items:B4}{ns:C1}{Q:A3}(a:A.handled=none)(hl:s.heap.IsList l items)(c:IntsAre items.toList ns)(m:items.size+1<scanBound)
  (h:∀(h':Heap) (d:Nat),UK prog w (!bK w) h' s.z (firstMet (λi=>ns.getD i 0) items.size)->(∀b o,b<s.z->s.heap.get? b=some o->h'.get? b=some o)->Q (.ref s.z) {s with heap:=h',toks:=d}) :
  wq prog w A (call (.type "set") [.ref l]) Q E s:=by
 refine yq (Sp:=λi h=>UK prog w (!bK w) h s.z (firstMet (λi=>ns.getD i 0) i)) a hl (λh' e y=>⟨#[],0,_,e,(λe f=>by simp at f),.refl _,rfl,TI.fresh 0 0,by decide⟩) (λy y y g k=>g.at λo e=>k _ o (by simp) e) (λI i v n Q E y p j g q=>W9 (IntsAre.int_at c i v (by rw[AH];exact j)) (by lia) g q) h
end
theorem WC:∀{l:List (Int×Value)},ElemsOf (intKind prog w) l->IntsAre (l.map (·.2)) (jP l)
 |[],_=>.nil
 |e::l,h=>by
   obtain⟨t,q⟩:=Al h (Zd (a:=e) (l:=l));show IntsAre (e.2::l.map (·.2)) (vInt e.2::jP l);have b:=WC (prog:=prog) (w:=w) (l:=l) λx c=>h x (.tail _ c)
   rw[q];exact .cons _ _ b
def Jm(h:IntsAre vs ns)(p:ay.Perm vs):∃ns',IntsAre ay ns'/\ns'.Perm ns:=by
 have key:∀{vs:B5}{ns:C1},IntsAre vs ns->ns=vs.map vInt/\∀v∈vs,∃t,v=.int (vInt v) t:=λ{vs ns} h=>by
  induction h with
  |nil=>exact⟨rfl,λv hv=>by cases hv⟩
  |cons n t hr ih=>
    refine⟨by rw[Zj,<-ih.1];rfl,λv hv=>?_⟩
    rcases Y5.mp hv with rfl|hv
    ·exact⟨t,rfl⟩
    ·exact ih.2 v hv
 obtain⟨e,k⟩:=key h;have back:∀(l:B5),(∀v∈l,∃t,v=.int (vInt v) t)->IntsAre l (l.map vInt):=by
  intro l;induction l with
  |nil=>intro _;exact .nil
  |cons v l ih=>
    intro hl;obtain⟨t,q⟩:=hl v (Zd);have r:=ih λx hx=>hl x (.tail _ hx)
    rw[Zj];generalize vInt v=i at q ⊢
    subst q;exact .cons _ _ r
 refine⟨ay.map vInt,back ay λv hv=>k v (p.mem_iff.mp hv),?_⟩
 rw[e];exact p.map _
def Px(h:b+1<=a):a≠b:=by lia
section
variable{prog:C5}{w:World}{A:Around}{E:A3}{s:Shared}
def Ni(ho:s.heap.get? a=some (aW es ep t))(q:Q false s):wq prog w A (Builtin.List.listLengthHint (.ref a)) Q E s:=by
 have ty:s.TypeIs (.ref a) "set":=⟨_,ho,rfl⟩;unfold Builtin.List.listLengthHint;refine YF (wpAny_specialOf ty F.slot_set_len.lookup ?_);have c:splitId "set.__len__"=some ("set","__len__"):=by decide +kernel
 dsimp only;rw[c];dsimp only;refine YF (yT (b:=true) ty sub_set_self ?_);refine YF (FA ty ?_);exact YG q
def qM(hh:A.handled=none)(ho:s.heap.get? a=some (aW es ep t))(hf:t.fits es.size=true)(ti:TI (!bK w) t)(p:es.size<scanBound)(h:∀h' tk d' vs,vs.Perm (es.toList.map (·.2))->s.z<=h'.objs.size->(∀b o,s.heap.get? b=some o->h'.get? b=some o)->Q vs {s with heap:=h',toks:=tk,drawn:=d'}):wq prog w A (collect (.ref a)) Q E s:=by
 unfold collect;refine YF (AC (ML w4 ?_));rw[JA xi _];refine YF (m:=newList []) (Zw (YG ⟨ER CM _,ML F.entry_list_iadd ?_⟩));rw[JA CM _];have ha:a<s.z:=YW ho;have O:s.z≠a:=λz=>by rw[z]at ha;exact MI _ ha
 have sr:Builtin.List.listSameRef (.ref s.z) (.ref a)=false:=by simp[Builtin.List.listSameRef,O]
 have r:(s.heap.push (seqObj "list" #[] 0)).get? s.z=some (seqObj "list" #[] 0):=YZ _ rfl;have l:(s.heap.push (seqObj "list" #[] 0)).get? a=some (aW es ep t):=YH _ ho;show wpAny _ A.in1 (Builtin.List.listExtendWith (.ref s.z) (.ref a) (.ref s.z)) _ _ {s with heap:=s.heap.push (seqObj "list" #[] 0)}
 unfold Builtin.List.listExtendWith;refine YF (FA (T := "set") ⟨_,l,rfl⟩ ?_);rw[YQ (by rw[sr];decide)]
 refine YF (Nk (s:={s with heap:=s.heap.push (seqObj "list" #[] 0)}) l hf ti p λh1 d1 I tp ord hI k1 hI1 htp c po=>?_)
 have u:=k1 a _ l;have f:=k1 _ _ r;have n:s.z+1<=I:=by have:(s.heap.push (seqObj "list" #[] 0)).objs.size<=I:=hI;rw[ZX]at this;exact this
 refine YF (ZF (Ni u ?_));dsimp only;refine YF (m:=rule _) (ME ?_);unfold Builtin.List.listTouch;refine YF (YF (BE f rfl ?_ (by simp) (by simp)))
 have g:=wn f (λx:B4=>x.push .none)
 refine BE g rfl ?_ (by simp[sizeLine_eq]) (by simp)
 have v:=wn g (λx:B4=>x.pop)
 have up:∀b o,b≠s.z->h1.get? b=some o->((h1.update s.z (Obj.mapSeq λx=>x.push .none)).update s.z (Obj.mapSeq λx=>x.pop)).get? b=some o:=λb o p e=>by rw[vT _ _ _ _ p,vT _ _ _ _ p];exact e
 have neI:I≠s.z:=Px n;have i:tp≠s.z:=by
  rcases htp with z|⟨z,_⟩
  ·rw[z];exactλq=>O q.symm
  ·have:s.z+1<=tp:=by have:(s.heap.push (seqObj "list" #[] 0)).objs.size<=tp:=z;rw[ZX]at this;exact this
   exact Px this
 have bp:a≠I:=Y6 (Fs ha n);have hh1:A.in1.in1.handled=none:=by simp[hh]
 have W:=(Lf (prog:=prog) (w:=w) (A:=A.in1) (I:=I) (a:=a) (tp:=tp) (es:=es) (ep:=ep) (t:=t) (ord:=ord) (by simp[hh]) hf ti bp).toS
 have ol:ord.length=es.size:=by rw[po.length_eq];simp
 refine YG ⟨ER F.plain_extend_loop _,codeAny_extend_loopS W (by rw[ol];exact y0 p) s.z (by simp;exact⟨λz=>neI z.symm,O,λz=>i z.symm⟩) _ ord.length 0 _ #[] _ rfl (Z8 _) ⟨up a _ (λq=>O q.symm) u,c.at (λo e=>up I o neI e) λo e=>up tp o i e⟩ v (ItemsOf.nil _) λs' d c' U y j=>?_⟩
 refine YF (m:=load s.z) (BN y ?_);have ea:d.toList=ord:=by
  apply AB;intro k;by_cases hk:k<d.size
  ·have:=j.2 k d[k] (by rw[HA hk])
   rw[this,AH,HA hk]
  ·rw[Z5 (by simp;lia),Z5 (by have:=j.1;lia)]
 obtain⟨h2,g2,d2,da,os2⟩:=s';have eg:g2=s.gens:=U.gens;have ed:d2=d1:=U.drawn;have eo:os2=s.os:=U.os;subst eg ed eo;refine YG (h h2 da d2 d.toList (by rw[ea];exact po) (NR (YW y)) λb o e=>?_)
 have lt:b<s.z:=YW e;refine U.heap b o (by simp;exact⟨Y6 lt,Y6 (Fs lt n)⟩) (up b o (Y6 lt) (k1 b o (YH _ e)))
def Di(f:A.handled=none)(g:UK prog w (!bK w) s.heap a ks)(h:∀h' c d' vs ns,IntsAre vs ns->ns.Perm ks->s.z<=h'.objs.size->(∀b o,s.heap.get? b=some o->h'.get? b=some o)->Q vs {s with heap:=h',toks:=c,drawn:=d'}):wq prog w A (collect (.ref a)) Q E s:=by
 obtain⟨u,v,t,i,d,j,k,l,m⟩:=g.ex;refine qM f i k l m λh' c d' vs n p q=>?_
 obtain⟨ns,r,e⟩:=Jm (WC d) n;exact h h' c d' vs ns r (e.trans j) p q
def Ho(r:A.handled=none)(g:UK prog w (!bK w) s.heap a ks)(t:ks.length<64)
  (h:∀h' u d' p n vs ns,s.z<=p->h'.get? p=some (seqObj "list" (vs:B5).toArray n)->IntsAre vs ns->ns.Perm ks->ns.Pairwise (·<= ·)->(∀b o,s.heap.get? b=some o->h'.get? b=some o)->Q (.ref p) {s with heap:=h',toks:=u,drawn:=d'}) :
  wq prog w A (call (.builtin "sorted") [.ref a]) Q E s:=by
 refine BC kind_sorted plain_sorted entry_sorted (args_sorted1 _) ?_;unfold Builtin.«sorted»
 refine YF (m:=checkCount "sorted" 1 1 _) (YG ?_);refine YF (Di (by simp[r]) g λc v d1 vs ns i j x k=>?_)
 have vl:vs.length=ns.length:=BI i;have nl:ns.length=ks.length:=j.length_eq;have y:vs.toArray.size<=sizeLine:=by rw[Za,MX];lia
 refine YF (wpAny_newList ?_ y);have d:(c.push (seqObj "list" vs.toArray 0)).get? c.objs.size=some (seqObj "list" vs.toArray 0):=YZ _ rfl;refine YF (ZF (Zy slot_list_sort ⟨_,d,rfl⟩ entry_list_sort (list_sort_tree d i (by lia) λout f z I O=>⟨_,rfl,?_⟩) (args_list_sort _)))
 obtain⟨e,U⟩:=sortedHeap_at (out:=out) d;refine YG ⟨_,rfl,h _ _ _ c.objs.size e out.toList f x (by simpa using U) z (I.trans j) O λb o l=>?_⟩
 have q:=YW (k b o l);rw[sortedHeap_old (Y6 q) (by rw[size_push'];exact IP q)]
 exact YH _ (k b o l)
end
end LS
namespace L2
open PyProof.Rows LS
def m6(x:Int):C1->C1
 |[]=>[x]
 |y::r=>if x<=y then x::y::r else y::m6 x r
theorem q9(x:Int):∀l:C1,(m6 x l).Perm (x::l)
 |[]=>.refl _
 |y::r=>by
   unfold m6;split
   ·exact .refl _
   ·exact((q9 x r).cons y).trans (.swap x y r)
set_option tactic.hygienic true in
theorem yE(x:Int):∀{l:C1},l.Pairwise (·<= ·)->(m6 x l).Pairwise (·<= ·)
 |[],_=>by simp[m6]
 |y::r,h=>by
   unfold m6;split
   ·rename_i c;refine Z9.mpr ⟨λz hz=>?_,h⟩
    rcases Y5.mp hz with rfl|hz
    ·exact c
    ·exact Int.le_trans c ((Z9.mp h).1 z hz)
   ·rename_i c;have h':=Z9.mp h;refine Z9.mpr ⟨λz hz=>?_,yE x h'.2⟩
    rcases Y5.mp ((q9 x r).mem_iff.mp hz)with rfl|hz
    ·lia
    ·exact h'.1 z hz
def mQ(ns:C1):C1:=(ns.foldl step_dedup []).foldr m6 []
theorem cH:∀l:C1,(l.foldr m6 []).Perm l/\(l.foldr m6 []).Pairwise (·<= ·)
 |[]=>⟨.refl _,by simp⟩
 |x::l=>by obtain⟨a,b⟩:=cH l;exact⟨(q9 x _).trans (a.cons x),yE x b⟩
theorem gk:∀{a b:C1},a.Perm b->a.Pairwise (·<= ·)->b.Pairwise (·<= ·)->a=b
 |[],b,p,_,_=>p.nil_eq
 |x::a,[],p,_,_=>by have:=p.length_eq;simp at this
 |x::a,y::b,p,h,i=>by
   have f:=Z9.mp h;have g:=Z9.mp i;have j:x=y:=by
    have c:x∈y::b:=p.mem_iff.mp (Zd);have d:y∈x::a:=p.mem_iff.mpr (Zd);rcases Y5.mp c with e|c
    ·exact e
    ·rcases Y5.mp d with e|d
     ·exact e.symm
     ·exact Int.le_antisymm (f.1 y d) (g.1 x c)
   subst j;rw[gk (List.Perm.cons_inv p) f.2 g.2]
def RP(ns:C1):(mQ ns).length<=ns.length:=by unfold mQ;rw[(cH _).1.length_eq];exact foldl_step_dedup_nil_length_le ns
def Ao(ns:C1):firstMet (λi=>ns.getD i 0) ns.length=ns.foldl step_dedup []:=by
 unfold firstMet;congr 1;apply AB;intro k;by_cases hk:k<ns.length
 ·simp[hk]
 ·rw[Z5 (by simp;lia),Z5 (by lia)]
theorem yF:∀{ns:C1}{us:B5},ZN (ns.map V.int) us->IntsAre us ns
 |[],_,.nil=>.nil
 |n::ns,_,.cons r a=>by obtain⟨t,rfl⟩:=r;exact .cons n t (yF a)
def qK:bootBuiltins "sorted"=some (.builtin "sorted"):=by decide +kernel
def yo:bootBuiltins "set"=some (.type "set"):=by decide +kernel
theorem Ep:∀{vs:B5}{ns:C1},vs.length=ns.length->(∀(j:Nat) v,vs[j]?=some v->∃n t,ns[j]?=some n/\v=.int n t)->IntsAre vs ns
 |[],[],_,_=>.nil
 |[],_::_,h,_=>by cases h
 |_::_,[],h,_=>by cases h
 |v::vs,n::ns,h,q=>by obtain⟨m,t,e,rfl⟩:=q 0 v rfl;cases e;exact .cons _ _ (Ep (by simpa using h) λj v e=>q (j+1) v e)
section
variable{prog:C5}{w:World}{A:Around}{E:A3}{s:Shared}
def Dj(K:W.KdlSrc prog w T r d n P OK)(p:A.handled=none)(c:OK s.heap)(t:n<=sizeLine)
  (h:∀h' u (acc:B4),s.z<=h'.objs.size->(∀b o,s.heap.get? b=some o->h'.get? b=some o)->ItemsOf P acc n->Q acc.toList {s with heap:=h',toks:=u}):wq prog w A (collect (.ref r)) Q E s:=by
 unfold collect;refine YF (AC (ML w4 ?_));rw[JA xi _];refine YF (m:=newList []) (Zw (YG ⟨ER CM _,ML F.entry_list_iadd ?_⟩));rw[JA CM _];obtain⟨x,y⟩:=K.there _ c;have f:(s.heap.push (seqObj "list" #[] 0)).get? s.z=some (seqObj "list" #[] 0):=YZ _ rfl;have j:OK (s.heap.push (seqObj "list" #[] 0)):=K.keep _ _ c λb Z o e=>YH _ e
 show wpAny _ A.in1 (Builtin.List.listExtendWith (.ref s.z) (.ref r) (.ref s.z)) _ _ {s with heap:=s.heap.push (seqObj "list" #[] 0)}
 refine W.kdl_extend (A:=A) (R:=λq l=>match q with
  | .ok (.ret v)=>wq prog w A (match v with
    | .ref a=>do
      let o <-load a
      match o.data with
       |.seq z _=>pure z.toList
       |_=>unsupported "internal:collect"
    |_=>unsupported "internal:collect") Q E l
  |.ok _=>False
  |.error e=>E e l) (s:={s with heap:=s.heap.push (seqObj "list" #[] 0)}) K p j s.z (DJ x) (DJ y) (.ref s.z) 0 f (λI k acc U O g i=>?_) t
 refine YF (m:=load s.z) (BN g ?_);exact YG (h I k acc (NR (YW g)) (λb o e=>O b o (Y6 (YW e)) (YH _ e)) i)
def Dt(hh:A.handled=none)(dd:s.heap.DictOf (YV prog w) a kvs)(lo:(a==sysModules)=false)(u:kvs.map (·.1)=ks.map Sum.inl)(h64:ks.length<64)
  (h:∀h' tk p n vs ns,s.z<=p->h'.get? p=some (seqObj "list" (vs:B5).toArray n)->IntsAre vs ns->ns.Perm ks->ns.Pairwise (·<= ·)->(∀b o,s.heap.get? b=some o->h'.get? b=some o)->Q (.ref p) {s with heap:=h',toks:=tk}) :
  wq prog w A (call (.builtin "sorted") [.ref a]) Q E s:=by
 refine BC kind_sorted plain_sorted entry_sorted (args_sorted1 _) ?_;unfold Builtin.«sorted»
 refine YF (m:=checkCount "sorted" 1 1 _) (YG ?_);obtain⟨ep,g⟩:=dd.dictAt;have kl:kvs.length=ks.length:=by have:=congrArg List.length u;simpa using this
 refine YF (Dj (W.kdl_dict (knd:=YV prog w) (kvs:=kvs) (ep:=ep) lo) (by simp[hh]) g (by rw[MX];lia) λf tk1 c sz y d=>?_)
 have z:IntsAre c.toList ks:=Ep (by rw[Z6,d.1,kl]) λj v e=>by
  obtain⟨k,x,e1,l⟩:=d.2 j v (by rw[<-AH];exact e)
  have I:(kvs.map (·.1))[j]?=some k:=by rw[Y8,e1];rfl
  rw[u,Y8]at I;obtain⟨n,e4,rfl⟩:=YM.mp I;have l:UQ (Sum.inl n) v=true:=by rw[<-QP prog w];exact l
  rcases YU l with⟨i,t,f,O⟩|⟨x,t,f,O⟩
  ·cases f;exact⟨n,t,e4,O⟩
  ·cases f
 have vl:c.toList.length=ks.length:=BI z;have zl:c.toList.toArray.size<=sizeLine:=by rw[Za,MX];lia
 refine YF (wpAny_newList ?_ zl);have q:(f.push (seqObj "list" c.toList.toArray 0)).get? f.objs.size=some (seqObj "list" c.toList.toArray 0):=YZ _ rfl;refine YF (ZF (Zy slot_list_sort ⟨_,q,rfl⟩ entry_list_sort (list_sort_tree q z (by lia) λout r a1 a2 a3=>⟨_,rfl,?_⟩) (args_list_sort _)))
 obtain⟨e,he⟩:=sortedHeap_at (out:=out) q;refine YG ⟨_,rfl,h _ _ f.objs.size e out.toList r sz (by simpa using he) a1 a2 a3 λb o U=>?_⟩
 have lt:=YW (y b o U);rw[sortedHeap_old (Y6 lt) (by rw[size_push'];exact IP lt)]
 exact YH _ (y b o U)
end
def rY(ks:C1):C1:=ks.foldr m6 []
def Ab(hh:X.A.handled=none):YN X (.builtin "sorted") (λxs H Q=>∃(p:Addr) (kvs:List (Key×V)) (ks:C1),xs=[.ref p]/\H p=some (.dK kvs)/\kvs.map (·.1)=ks.map Sum.inl/\ks.length<=60/\∀l,H l=none->Q (.ref l) (upd H l (.lst ((rY ks).map V.int)))):=by
 intro aC s σ H xs us Q I r1 h;obtain⟨p,kvs,ks,rfl,hp,hk,hl,q⟩:=h;cases r1 with
 |cons r rr=>
   cases rr;cases r;obtain⟨z,lo,vs,rel,dd⟩:=Oy I.aI hp;have hkk:vs.map (·.1)=ks.map Sum.inl:=by rw[<-rel.keys,hk]
   refine Dt hh dd lo hkk (by lia) λh2 da l m ws ms bo hol ims pm so k2=>?_
   have em:ms=rY ks:=gk (pm.trans (cH _).1.symm) so (cH _).2;have zl:((rY ks).map V.int).length<=sizeLine:=by
    have e:(rY ks).length=ks.length:=(cH ks).1.length_eq;rw[YT,e];show _<=2^24
    lia
   have I2:=I.call (h':=h2) (t':=da) (d':=s.drawn) (g':=s.gens) (ch:=[]) (Un.laid k2 bo (I.aI.fresh bo)) (I.aI.laid (o:=.lst ((rY ks).map V.int)) k2 bo ⟨zl,ws,m,by rw[<-em];exact WG ims,hol⟩) I.bare (λy z=>nomatch z)
   exact⟨.ref l,upd H l (.lst ((rY ks).map V.int)),I2,rfl,q l (I.aI.fresh bo)⟩
end L2
namespace LS
open PyProof.Rows
end LS
namespace L2
open PyProof.Rows LS
end L2
namespace L2
open PyProof.Rows
section
variable{X:Cx}{CX:hJ}{k:Nat}{f C:Addr}{fd:FuncData}{ps:C3}{sp:Sp}{E:XK}
def VP(D:VT X.prog X.w X.K X.mg X.base j C "__repr__" ps sp)(hu:X.A.units+64<cLine)(p:ZA (j+1) X.A)(z:YY (bZ X.prog X.w) X E):
  YN X (.builtin "repr") (λvs H Q=>∃x d e,vs=[.ref x]/\H x=some (.ins C d e)/\sp [.ref x] H (λv U=>∃n:Str,v=.str n/\Q (.str n) U) E):=by
 intro g s σ H vs us Q I r h;obtain⟨x,d,e,rfl,c,q⟩:=h;obtain⟨f,fd,F,b,kp,a,n⟩:=D.ex;obtain⟨u,rfl,ru⟩:=vals1 r;cases ru;obtain⟨mA,O,_⟩:=XU I.aI c;obtain⟨od,i,_⟩:=O.look;refine BC PySem.F.kind_repr PySem.F.plain_repr PySem.F.entry_repr (PySem.F.args_repr1 _) ?_;unfold Builtin.«repr»
 refine YF (m:=oneArg "repr" _) (YG ?_);refine YF (wpAny_cRoomFor (by show X.A.units+1<cLine;lia) ?_)
 refine YF (YF (i.type.here ((EQ I.cE a).here ?_)));show wpAny _ _ (if(some (Value.ref f)).isNone=true then _ else _) _ _ _
 rw[YQ (by simp)]
 refine YF (m:=callSpecialIfBound? (.ref x) (Str.ofString "__repr__") _) (W.ifBound_K I.cE i a n (Zh (xO (vs:=[.ref x]) F p.in1 b z I (.cons rfl .nil) q) (λw' s' hw=>?_) λk k y=>y))
 obtain⟨v,U,l,rv,m,rfl,o⟩:=hw;obtain⟨t,rfl⟩:=rv;refine YF (yT (typeIs_str _ _ _) isSubtype_str_str ?_)
 first
  |exact YG ⟨_,rfl,.str m,U,l,⟨_,rfl⟩,o⟩
  |(rw[YK rfl];exact YG ⟨_,rfl,.str m,U,l,⟨_,rfl⟩,o⟩)
def WS.lS(I:Inv X aC σ H s)(rx:RelV x u)(ty:WS X.K H x (.type T)):W.Looks X.M s.heap (typeOf u) (.type T):=by
 cases ty with
 |aT=>cases(show u=Value.none from rx);exact W.kitx_none.ty _ _ I.cE True.intro
 |bl y=>cases(show u=Value.bool y from rx);exact W.kitx_bool.ty _ _ I.cE True.intro
 |int i=>obtain⟨t,q⟩:=(show∃t,u=Value.int i t from rx);cases q;exact W.kitx_int.ty _ _ I.cE True.intro
 |str y=>obtain⟨t,q⟩:=(show∃t,u=Value.str y t from rx);cases q;exact W.kitx_str.ty _ _ I.cE True.intro
 |jI y=>obtain⟨t,q⟩:=(show∃t,u=Value.float y t from rx);cases q;exact W.kitx_float.ty _ _ I.cE True.intro
 |@lst a xs ea=>
   cases(show u=Value.ref a from rx)
   obtain⟨_,_,n,_,h1⟩:=(show Y3 X.prog X.w H s.heap a (.lst xs)from I.aI a _ ea)
   exact W.kitx_list.ty _ _ I.cE ⟨_,h1,rfl⟩
 |@dA a ob xs ea=>
   cases(show u=Value.ref a from rx)
   obtain⟨_,_,_,n,_,h1⟩:=(show Y3 X.prog X.w H s.heap a (.dA ob (.lst xs))from I.aI a _ ea)
   exact W.kitx_list.ty _ _ I.cE ⟨_,h1,rfl⟩
 |@tup a xs ea=>
   cases(show u=Value.ref a from rx)
   obtain⟨_,_,_,p⟩:=(show Y3 X.prog X.w H s.heap a (.tup xs)from I.aI a _ ea)
   obtain⟨o,h1,h2,_⟩:=p;exact W.kitx_tuple.ty _ _ I.cE ⟨o,h1,h2⟩
 |@dK a kvs ea=>
   cases(show u=Value.ref a from rx)
   obtain⟨_,_,vs,_,p⟩:=(show Y3 X.prog X.w H s.heap a (.dK kvs)from I.aI a _ ea)
   obtain⟨o,es,ep,h1,h2,_⟩:=p;exact W.kitx_dict.ty _ _ I.cE ⟨o,h1,h2.1⟩
 |@dT a kvs ea=>
   cases(show u=Value.ref a from rx)
   obtain⟨_,_,xs,_,o,es,ep,h1,h2,_⟩:=(show Y3 X.prog X.w H s.heap a (.dT kvs)from I.aI a _ ea)
   exact W.kitx_dict.ty _ _ I.cE ⟨o,h1,h2.1⟩
def zQ(K:B0)(H:Hp)(C:Addr)(y:V):Prop:=(∃b a c,y=.ref b/\H b=some (.ins C a c))\/∃T,WS K H y (.type T)/\W.subIn K (.type T) (.ref C)=some false
def zQ.to(I:Inv X aC σ H s)(a:RelV y u)(h:zQ X.K H C y):∃t,W.Looks X.M s.heap (typeOf u) t/\(t=.ref C\/(t≠.ref C/\W.Looks X.M s.heap (isSubtype t (.ref C)) false)):=by
 rcases h with⟨b,e,g,rfl,c⟩|⟨T,ty,d⟩
 ·cases a;obtain⟨i,O,_⟩:=XU I.aI c;obtain⟨j,U,_⟩:=O.look;exact⟨_,U.type,.inl rfl⟩
 ·exact⟨_,ty.lS I a,.inr ⟨(λz=>by cases z),W.looks_subIn I.cE d⟩⟩
def Uw(D:VT X.prog X.w X.K X.mg X.base j C "__eq__" ps sp)(hu:X.A.units+64<cLine)(hr:ZA j X.A)(hx:YY (bZ X.prog X.w) X E):
  XV X (compareOp .Eq) (λx y H Q=>∃a r z,x=.ref a/\H a=some (.ins C r z)/\zQ X.K H C y/\sp [.ref a,y] H (λv U=>∃b:Bool,v=.bl b/\Q (.bl b) U) E):=by
 intro c s σ H x y v u Q I rx ry h;obtain⟨a,r,z,rfl,i,rg,q⟩:=h;obtain⟨f,fd,F,b,kp,fi,n⟩:=D.ex;cases rx;obtain⟨mA,O,_⟩:=XU I.aI i;obtain⟨od,IA,_⟩:=O.look;obtain⟨t,lt,ht⟩:=rg.to I ry;show wpAny _ _ (richCompare .Eq (.ref a) u) _ _ _;unfold richCompare;simp only[oneThing_ref];refine ZF ?_;refine YF (wpAny_cRoomFor (by lia) ?_)
 rw[cmpInfo_Eq];dsimp only;refine YF (IA.type.here ?_);refine YF (lt.here ?_);have d:wpAny X.M X.A (tryCompare (.ref a) "__eq__" u) (λo g=>∃v,o=some v/\EP X c σ Q v g) X.xe s:=by
  unfold tryCompare;refine YF (W.ifBound_K I.cE IA fi n (Zh (NG (vs:=[.ref a,y]) (dvs:=[]) (ds:=[]) F hr b .nil hx I (.cons rfl (.cons ry .nil)) q) (λw' g hw=>?_) λk k y=>y))
  obtain⟨v,U,I2,rv,m,rfl,qq⟩:=hw;cases(show w'=Value.bool m from rv)
  exact YG ⟨_,rfl,.bl m,U,I2,rfl,qq⟩
 rcases ht with rfl|⟨ne,sb⟩
 ·rw[show(Value.ref C != Value.ref C)=false from by simp]
  simp only[Bool.false_eq_true,if_false];refine YF (YG ?_);simp only[Bool.false_eq_true,if_false];refine YF (Zh d (λo g l=>?_) λk k e=>e)
  obtain⟨v,rfl,p⟩:=l;exact YG p
 ·rw[show(Value.ref C != t)=true from by simpa using Ne.symm ne]
  simp only[if_true];refine YF (sb.here ?_);simp only[Bool.false_eq_true,if_false];refine YF (Zh d (λo g l=>?_) λk k e=>e)
  obtain⟨v,rfl,p⟩:=l;exact YG p
def Jk{M:Model}{A:Around}{E:A3}{s:Shared}{K:B0}{x C:Addr}{e:Obj}{od:Option Obj}{name:Str}{id:String}{args:B5}{Q:B1->B2}(O:K.In s.heap)(I:W.InstAt s.heap x e C od)(hs:W.findIn K (.ref C) name=some (some (.builtin id)))
  (d:∀a,bindSpecial (.builtin id) a=pure (.builtin id,[a])) (h:wpAny M A (call (.builtin id) (.ref x::args)) (λv=>Q (some v)) E s):wpAny M A (callSpecialIfBound? (.ref x) name args) Q E s:=by
 simp only[callSpecialIfBound?,bindSpecialIfBound?];refine ZF (YF (YF (YF (I.type.here ((EQ O hs).here ?_)))));refine YF (JY (wpAny_ite ?_));have b:wpAny M A (call (.builtin id) ([.ref x]++args)>>=λv=>pure (some v)) Q E s:=YF (Zh h (λv g c=>YG c) λz z c=>c)
 split
 ·exact YF ((W.Looks.of_pure (d _)).here (YG (by exact b)))
 ·exact wpAny_tryCatch (YF ((W.Looks.of_pure (d _)).here (YG (by exact b))))
def UG(D:VT X.prog X.w X.K X.mg X.base j C "__eq__" ps sp)(l:W.findIn X.K (.ref C) "__ne__"=some (some (.builtin "object.__ne__")))(hm:W.mroIn X.K C (.type "object")=some true)(hu:X.A.units+64<cLine)(hr:ZA (j+1) X.A)(hx:YY (bZ X.prog X.w) X E):
  XV X (compareOp .NotEq) (λx y H Q=>∃a dx fs,x=.ref a/\H a=some (.ins C dx fs)/\zQ X.K H C y/\sp [.ref a,y] H (λv p=>∃b:Bool,v=.bl b/\Q (.bl (!b)) p) E):=by
 intro c s σ H x y v u Q I rx ry h;obtain⟨a,dx,fs,rfl,r,rg,q⟩:=h;obtain⟨f,fd,F,b,kp,fi,n⟩:=D.ex;cases rx;obtain⟨mA,O,_⟩:=XU I.aI r;obtain⟨od,U,_⟩:=O.look;obtain⟨t,lt,ht⟩:=rg.to I ry;show wpAny _ _ (richCompare .NotEq (.ref a) u) _ _ _;unfold richCompare;simp only[oneThing_ref];refine ZF ?_;refine YF (wpAny_cRoomFor (by lia) ?_)
 rw[cmpInfo_NotEq];dsimp only;refine YF (U.type.here ?_);refine YF (lt.here ?_);have d:wpAny X.M X.A (tryCompare (.ref a) "__ne__" u) (λo g=>∃v,o=some v/\EP X c σ Q v g) X.xe s:=by
  unfold tryCompare;refine YF (Jk I.cE U l PySem.F.cmp_object.ne.bind (IQ (y7 PySem.F.cmp_object.ne.plain PySem.F.cmpEntry_ne (W.check_slot (i := "object.__ne__") (owner := "object") (n := "__ne__") PySem.F.cmpKind_ne PySem.F.cmpSplit_ne (U.type.andThen (W.looks_mroIn I.cE hm)) (PySem.F.cmpArgs_ne _ _) ?_))));unfold Builtin.«object.__ne__»
  refine YF (m:=slotArgs "__ne__" 1 _) (YG ?_);refine YF (m:=cRoomFor _ _) (wpAny_cRoomFor (by show X.A.units+1<cLine;lia) ?_)
  refine YF (m:=callSpecialIfBound? (.ref a) (Str.ofString "__eq__") _) (W.ifBound_K I.cE U fi n (Zh (xO (vs:=[.ref a,y]) F hr.in1 b hx I (.cons rfl (.cons ry .nil)) q) (λw' g hw=>?_) λk k y=>y))
  obtain⟨v,p,I2,rv,m,rfl,qq⟩:=hw;cases(show w'=Value.bool m from rv)
  refine YF (m:=truthy (.bool m)) (JJ ?_);exact YG (YG ⟨_,rfl,.bl (!m),p,I2,rfl,qq⟩)
 rcases ht with rfl|⟨ne,sb⟩
 ·rw[show(Value.ref C != Value.ref C)=false from by simp]
  simp only[Bool.false_eq_true,if_false];refine YF (YG ?_);simp only[Bool.false_eq_true,if_false];refine YF (Zh d (λo g z=>?_) λk k e=>e)
  obtain⟨v,rfl,hv⟩:=z;exact YG hv
 ·rw[show(Value.ref C != t)=true from by simpa using Ne.symm ne]
  simp only[if_true];refine YF (sb.here ?_);simp only[Bool.false_eq_true,if_false];refine YF (Zh d (λo g z=>?_) λk k e=>e)
  obtain⟨v,rfl,hv⟩:=z;exact YG hv
def Io(hc:W.kitOne X.K (.ref C) (.ref C)=some true)(j:W.findIn X.K (.ref C) "__class__"=some (some (.builtin "object.__class__")))(hs:W.specialIn X.K (.builtin "object.__class__") "__get__"=some (some (.builtin "getset_descriptor.__get__")))(b:W.takesIn X.K (.builtin "object.__class__")=some true)
  (l:W.mroIn X.K C (.type "object")=some true) (cl:Se X.K C) :
  YN X (.builtin "isinstance") (λxs H Q=>∃x,xs=[x,.ref C]/\((∃a c d,x=.ref a/\H a=some (.ins C c d)/\Q (.bl true) H)\/∃T,WS X.K H x (.type T)/\W.kitOne X.K (.type T) (.ref C)=some false/\Q (.bl false) H)):=by
 intro g s p H xs t Q I r h;obtain⟨x,rfl,h⟩:=h;obtain⟨u,v,rfl,i,m⟩:=vals2 r;cases m;rcases h with⟨a,c,d,rfl,n,q⟩|⟨T,ty,e,q⟩
 ·exact U1 I i (.ins n cl j hs b l) hc λo=>⟨.bl true,H,I.tok _,rfl,q⟩
 ·exact U1 I i ty e λo=>⟨.bl false,H,I.tok _,rfl,q⟩
end
end L2
namespace L2
open PyProof.Rows LS
end L2
namespace L2
open PyProof.Rows
set_option tactic.hygienic true in
def Gm(l:B5)(h:TriplesOk l)(q:codeAmong pos (l++[rawInt a,rawInt b,c])=some cv):codeAmong pos l=some cv\/cv=c:=by
 fun_induction TriplesOk l with
 |case1=>
   simp only[List.nil_append,codeAmong,rawInt]at q;split at q
   ·exact .inr (Y4 q).symm
   ·cases q
 |case2 a' t b' u x rest ih=>
   simp only[List.cons_append,codeAmong]at q ⊢
   split at q
   ·rename_i hc;rw[YK hc];exact .inl q
   ·rename_i hc;rw[YQ hc];exact ih h q
 |case3 l h1 h2=>exact h.elim
def RecAt.mono(r:RecAt H v)(f:∀b o,H b=some (.dA o (.own b))->H' b=some (.dA o (.own b))):RecAt H' v:=
 let⟨c,o,fs,q,t,g1,g2,g3⟩:=r;⟨c,o,fs,q,t,g1,f c o g2,g3⟩
def RecAt.nB(r:RecAt H v)(ok:WV P w H h):∃q,h.CodeRec v q:=by obtain⟨c,o,a,q,t,b,d,e,f⟩:=r;exact⟨q,c,o,a,t,b,(ok c _ d).1,e,f⟩
abbrev wg(c:Str)(a:Arguments)(d:Expr)(b:Scope)(cl:A9)(f g e:Value):Obj:=
 {cls:=.type "function",data:=.func (W.kla_fn "<lambda>" c a d b cl f g e)}
def sO(H:Hp)(g:Addr)(a:Arguments)(c:Expr)(b:Scope)(cl:A9):Prop:=
 ∃d h f e,H g=some (.dA (wg d a c b cl h f e) (.own g))/\RecAt H f
theorem sO.mono(r:sO H g params body scope cl)(f:∀b o,H b=some (.dA o (.own b))->H' b=some (.dA o (.own b))):sO H' g params body scope cl:=
 let⟨qual,pm,cv,ctv,g1,g2⟩:=r;⟨qual,pm,cv,ctv,f g _ g1,g2.mono f⟩
def Vs(P:Addr)(a:Arguments)(c:Expr)(b:Scope)(cl:A9):TE:=λz H Q=>
 (∃d,H P=some (.eT d))/\∀g I,H g=none->VU H I->sO I g a c b cl->Q (.ref g) I
def UV(k:X.env.code=.ref c)(C:W.CodeHd X.base c P)(hP:mainGlobals≠P)(B:X.base.BuiltinsAt X.mg P)
  (m:closureFor scope X.env=pure cl) (p:autoParam (defaultsOf params X.env=([],[])) qAA):PE X (.Lambda params body scope pos) (Vs P params body scope cl):=by
 intro aC s σ H Q I h;obtain⟨⟨ps0,hT⟩,q⟩:=h;obtain⟨ps,x,tr,rc⟩:=I.aI P _ hT;refine W.kla_eval p ?_;have hg:s.heap.Ns mainGlobals X.mg:=I.ok.mod.glob.keeps I.bk;have hb:s.heap.BuiltinsAt X.mg P:=let⟨bm,o,a1,a2,a3,a4,a5,r⟩:=B;⟨bm,o,a1,a2,a3,a4,I.bk _ _ a5,r⟩
 cases hq:codeAmong pos ps.toList with
 |none=>
   refine W.kla_makeFunction m I.ok.glob hg k (C.keeps I.bk) x tr hq hP hb λf g a tk hx i j O U=>?_
   obtain⟨c2,oc,vs,t,e2,hoc,hd,hv⟩:=O;cases e2;have fc:H f=none:=I.aI.fresh i;have fg:H a.objs.size=none:=I.aI.fresh (Zx i (NR j));have ncg:f≠a.objs.size:=Y6 j;let fo:Obj:=wg (X.env.qual++"<lambda>") params body scope cl ((X.mg "__name__").getD .none) (.ref f) g
   let H1:Hp:=upd (upd H f (.dA oc (.own f))) a.objs.size (.dA fo (.own a.objs.size))
   have S:VU H H1:=λb o e=>by show upd (upd H f _) a.objs.size _ b=_;rw[ZU (ZO e fg),ZU (ZO e fc)];exact e
   have kp:∀b o,b≠P->s.heap.get? b=some o->(a.push fo).get? b=some o:=λb o hb e=>YH _ (hx b o hb e)
   have nP:∀b,H b=none->b≠P:=λb n z=>by rw[z,hT]at n;cases n
   have g1:H1 a.objs.size=some (.dA fo (.own a.objs.size)):=ZT;have c1:H1 f=some (.dA oc (.own f)):=by show upd (upd H f _) a.objs.size _ f=_;rw[ZU ncg];exact ZT
   have r1:RecAt H1 (.ref f):=⟨f,oc,vs,_,t,rfl,c1,hd,hv⟩;have un:Un X.fs [] H H1 s.heap (a.push fo):=by
    refine⟨λb o e n Z Z=>kp b o (nP b n) e,λb o e n Z Z=>⟨o.slots,kp b o (nP b n) e⟩,λb o e n Z=>?_,λb o e Z=>?_,λb xs e=>S _ _ e,λb o u e=>S _ _ e,λb ps e=>⟨#[],by rw[S _ _ e];simp⟩⟩
    ·have l:=YW e;show upd (upd H f _) a.objs.size _ b=_;rw[ZU (Y6 (Fs (Y0 l i) j)),ZU (Y6 (Y0 l i))];exact n
    ·by_cases a8:b=P
     ·subst a8;exact⟨_,YH _ U⟩
     ·exact⟨o,kp b o a8 e⟩
   have aI:WV X.prog X.w H1 (a.push fo):=λb u e=>by
    by_cases bg:b=a.objs.size
    ·subst bg;rw[g1]at e;cases e;exact⟨YZ _ rfl,_,YZ _ rfl⟩
    by_cases bc:b=f
    ·subst bc;rw[c1]at e;cases e;exact⟨YH _ hoc,_,YH _ hoc⟩
    have e':H b=some u:=by have e:upd (upd H f _) a.objs.size _ b=some u:=e;rw[ZU bg,ZU bc]at e;exact e
    by_cases bP:b=P
    ·subst bP;rw[hT]at e';cases e';refine⟨_,YH _ U,?_,λpos' cv' z=>?_⟩
     ·rw[Array.toList_append];exact TriplesOk_snoc _ _ _ _ tr
     ·rw[Array.toList_append]at z;rcases Gm _ tr z with z|z
      ·exact(rc _ _ z).mono λb o e=>S _ _ e
      ·rw[z];exact r1
    ·refine(I.aI b u e').fw (λd v de q'=>kp d v ?_ q') (λd z=>S _ _ z) (λd xs z=>S _ _ z) λd o z=>S _ _ z
     rcases de with z|z
     ·rw[z];exact bP
     ·intro y;rw[y,hT]at z;cases z
   exact⟨.ref a.objs.size,H1,I.un (t':=tk) un aI,rfl,q _ H1 fg S ⟨_,_,_,_,g1,r1⟩⟩
 |some cv=>
   have rcv:=rc _ _ hq;refine W.kla_makeFunctionHit m I.ok.glob hg k (C.keeps I.bk) x tr hq hb λg a tk hk hsz=>?_
   have fg:H a.objs.size=none:=I.aI.fresh hsz;have S:VU H (upd H a.objs.size (.dA (wg (X.env.qual++"<lambda>") params body scope cl ((X.mg "__name__").getD .none) cv g) (.own a.objs.size))):=VW fg _;refine⟨.ref a.objs.size,_,I.laid (t':=tk) (o:=.dA (wg (X.env.qual++"<lambda>") params body scope cl ((X.mg "__name__").getD .none) cv g) (.own a.objs.size)) (λb u e=>YH _ (hk b u e)) hsz ⟨YZ _ rfl,_,YZ _ rfl⟩,rfl,q _ _ fg S ⟨_,_,_,_,ZT,rcv.mono λb o e=>S _ _ e⟩⟩
def qb(P:C5)(w:World)(K:B0)(mg:A4)(base:Heap)(N:C3)(b:Str)(a:Scope)(g:Addr)(d:Value)(cl:A9)(A:Around)(outer:C4)(s:Shared)(H:Hp)(E:XK):Cx where
 prog:=P
 w:=w
 K:=K
 mg:=mg
 base:=base
 A:=A.deeper (W.envX b a s.z g d cl)
 N:=N
 s₀:=s
 H₀:=H
 env:=W.envX b a s.z g d cl
 outer:=outer
 stack:=W.envX b a s.z g d cl::outer
 ex:=[]
 calm:=true
 fn:=λy=>false
 pn:=[]
 xe:=λe f=>wpAny (model P w) (A.deeper (W.envX b a s.z g d cl)) (leaving (W.envX b a s.z g d cl) e) (λy c=>bZ P w outer H s E e c) (λh c=>bZ P w outer H s E h c) f
structure Nl(scope:Scope)(cl:A9)(fr:C3):Prop where
 kind:scope.kind=.function
 co:scope.isCoroutine=false
 gen:scope.isGenerator=false
 cell:∀y∈scope.names,y.2≠.cell
 nd:fr.Nodup
 has:∀y,(scope.names.lookup y=some .cell\/scope.names.lookup y=some .free)->∃c,cl.lookup y=some c
 ll:∀y∈fr,scope.names.lookup y=some .free
structure S2(cl:A9)(fr:C3)(σ:St)(H:Hp)(h:Heap):Prop where
 inj:∀x y c,cl.lookup x=some c->cl.lookup y=some c->x=y
 cell:∀x c,cl.lookup x=some c->∃v,h.IsCell c v
 free:∀x c,cl.lookup x=some c->H c=none
 val:∀(i:Nat) x v,fr[i]?=some x->σ[i]?=some (some v)->∃u c,RelV v u/\cl.lookup x=some c/\h.IsCell c (some u)
 len:σ.length=fr.length
section
variable{P:C5}{w:World}{K:B0}{mg:A4}{base:Heap}{A:Around}{outer:C4}{s:Shared}{H:Hp}{E:XK}{Q:VK}{k:Nat}{g:Addr}{params:Arguments}{body:Expr}{scope:Scope}{cl:A9}{fr:C3}{σ:St}
def QR(T:Nl scope cl fr)(a:Wp P w K mg base A outer s H)(hd:A.handled=none)(C:S2 cl fr σ H s.heap)(j:h1.Ns s.z m)(f:∀b o,s.heap.get? b=some o->h1.get? b=some o):
  Inv (qb P w K mg base fr qual scope g cd cl A outer s H E) [] σ H {s with heap:=h1,toks:=tk}:=by
 have d:∀b:Addr,b∉(qb P w K mg base fr qual scope g cd cl A outer s H E).ex:=λb z=>absurd (show b∈([]:B7)from z) (by simp)
 refine⟨⟨a.mod,T.kind,rfl,rfl,YL _,C.inj,T.has,λy c z x=>absurd (show false=true from z) Zc,λx=>hd,Around.frames_deeper a.frames,.inr ⟨rfl,rfl⟩,λb z=>absurd z (d b),a.bs,a.gV,λb x x=>d b,λb z=>absurd z (d b),a.dE,a.h8⟩,
  rfl,a.bare,Un.kept f,⟨m,j,λi y v h1 l q=>?_⟩,λy c h=>?_,a.aI.fresh (YL _),λy c h=>C.free y c h,λp n=>absurd (show p∈([]:A8)from n) (by simp),a.aI.kept f,C.len⟩
 ·obtain⟨u,c,r,e,z⟩:=C.val i y v h1 l;exact⟨u,r,.inr ⟨.inr (T.ll y (Zk h1)),c,e,z.keeps f⟩⟩
 ·obtain⟨v,z⟩:=C.cell y c h;exact⟨v,z.keeps f⟩
def Rz(T:Nl scope cl fr)(h:Wp P w K mg base A outer s H)(j:ZA (k+1) A)(L:sO H g params body scope cl)(C:S2 cl fr σ H s.heap)
  (d:∀a pm cv i,bindArgs (W.kla_fn "<lambda>" a params body scope cl pm cv i) ⟨[],[]⟩=pure [])
  (f:∀a cd,ZA k (A.deeper (W.envX a scope s.z g cd cl))->∃t,PE (qb P w K mg base fr a scope g cd cl A outer s H E) body t/\t σ H Q) :
  codeAny (model P w) A (.call (.ref g) ⟨[],[]⟩) (CR (bZ P w) outer P w H s Q E) s:=by
 obtain⟨a,pm,cv,i,hg,rc⟩:=L;obtain⟨q,l⟩:=rc.nB h.aI;obtain⟨ho,_⟩:=h.aI g _ hg;have n:s.heap.NoLimit:=h.mod.nolimit.keeps λb o e=>(h.bs b o e).1
 obtain⟨c,oc,vs,tq,hc,p,r,y⟩:=l;subst hc;refine zv ?_;show wpAny _ A.in1 (callAny (.ref g) ⟨[],[]⟩) _ _ s;simp only[callAny];refine YF (BN ho ?_);simp only[callFunction,T.co,T.gen];refine YF (m:=field (.ref c) 1) (OM p r y (YF (YG ?_)));rw[d];refine YF (YG (YF (wpAny_newFunctionEnv T.cell (λx hx=>by cases hx) (λh1 z O=>?_) T.kind)))
 have hk:∀b o,s.heap.get? b=some o->h1.get? b=some o:=λb o e=>O.extBut b o (Y6 (YW e)) (YH _ e)
 refine YF (wpAny_enterFrame (n.keeps hk) j.depth (YG (And.intro rfl ?_)));show codeAny _ _ (.expr body (W.envX q scope s.z g (.ref c) cl)) _ _;obtain⟨t,ht,y⟩:=f q (.ref c) (j.deeper _);have I:Inv (qb P w K mg base fr q scope g (.ref c) cl A outer s H E) [] σ H {s with heap:=h1,toks:=s.toks+([]:List (Str×Value)).length}:=QR T h j.hd C z hk
 refine W.kla_codeExpr (Zh (ht [] _ σ H _ I y) (λu s' U=>?_) λe s' U=>U)
 obtain⟨v,H',J,rv,q⟩:=U;exact⟨v,H',J.os,J.bare,J.base,J.aI,rv,q⟩
def PB:YY (bZ P w) (qb P w K mg base N qual scope g cd cl A outer s H E) E:=by
 intro d σ H1 s1 e s' I u;obtain⟨x,C,v,O,B,rfl,os,a,y,f,j,t,l,q⟩:=u;have J:Inv (qb P w K mg base N qual scope g cd cl A outer s H E) d σ O s':=I.gz (ch:=[]) os y f a (λb z=>absurd z (by simp))
 have m:(qb P w K mg base N qual scope g cd cl A outer s H E).A.frames=some ((qb P w K mg base N qual scope g cd cl A outer s H E).env::outer):=I.ok.frames;have n:∀b∈WU outer,∃o,s'.heap.get? b=some o/\∀vs,o.data≠.fields vs:=λb p=>(j.2.2.1.2.2.mem p).2
 have h:(qb P w K mg base N qual scope g cd cl A outer s H E).env.frame=some (qb P w K mg base N qual scope g cd cl A outer s H E).env.locals:=rfl;have i:∀b o,s.heap.get? b=some o->b∉WU outer->∃o',B.get? b=some o':=λb o e p=>by
  obtain⟨U,h1⟩:=I.base.there b o e (show b∉([]:B7) by simp)
  refine l b U h1 ?_;show b∉WU ((qb P w K mg base N qual scope g cd cl A outer s H E).env::outer);rw[uO h];intro r;rcases Y5.mp r with rfl|r
  ·exact absurd (YW e) (PR.mpr I.ok.above)
  ·exact p r
 show wpAny _ _ (leaving _ (.ref x)) _ _ s';refine wpAny_leaves_onW m rfl j λh' c up=>?_
 exact⟨x,C,v,O,B,rfl,J.os,a,tY J.base j.1 c.1 up n i,pC f j.1 c.1 t,c,t,i,q⟩
def Ry{x:Str}{st:Stmt}{f:Addr}{fd:FuncData}{N ps:C3}{us:B5}{vs:List V}(F:P8 K x x st f fd)(S:ZB N ps (ZY st))(i:Wp P w K mg base A outer s H)(j:ZA (k+1) A)
  (hb:∀(kV doc z:Value) (U:B3) (a ct:Value),bindArgs (W.fnOf x x (Y2 st) (ZI st) (ZY st) .none kV doc z U a ct) ⟨us,[]⟩=pure (ps.zip us)) (hl:vs.length=ps.length) (r:ZN vs us)
  (c:∀a,ZA k (A.deeper (envOfC x (ZY st) s.z f a))->∃t,T1 (bQ P w K mg base N x (ZY st) f a A outer s H E) (ZI st) t/\t {nx:=λg O=>Q .aT O,rt:=Q} (start N vs) H) :
  codeAny (model P w) A (.call (.ref f) ⟨us,[]⟩) (CR (bZ P w) outer P w H s Q E) s:=by
 obtain⟨oc,od,kV,doc,z,U,a,ct,br,rfl,lk,l⟩:=F.ex;have KX:K.In s.heap:=i.mod.iL.keeps λb o e=>(i.bs b o e).1
 have m:s.heap.NoLimit:=i.mod.nolimit.keeps λb o e=>(i.bs b o e).1
 have d:∀y∈ps.zip us,(ZY st).names.lookup y.1=some .local\/((ZY st).names.lookup y.1=some .cell/\((cellsFrom (s.z+1) (ZY st).names []).lookup y.1).isSome=true):=λ⟨n,v⟩ hy=>by
  rcases S.par n (FY hy).1 with q|q
  ·exact .inl q
  ·exact .inr ⟨q,x0 _ _ _ (.inl q)⟩
 refine xt j.depth (KX _ _ lk) rfl S.co S.gen rfl (W.codeRec_of KX l) ?_;rw[hb];refine YG (wT S.kind d λenv he s1 x=>?_)
 subst he;refine⟨m.keeps x.toInCall.keep,codeAny_func ?_⟩;obtain⟨t,ht,hq⟩:=c a (j.deeper _);have I:=U2 (CX:=bZ P w) (E:=E) S j.hd i hl r x;refine Zh (ht [] s1 (start N vs) H _ I hq) (λfl s' h=>?_) λe s' h=>h
 cases fl with
 |ret u=>obtain⟨v,p,O,J,rv,q⟩:=h;exact⟨v,O,J.os,J.bare,J.base,J.aI,rv,q⟩
 |next=>obtain⟨p,O,J,q⟩:=h;exact⟨V.aT,O,J.os,J.bare,J.base,J.aI,(rfl:RelV .aT Value.none),q⟩
 |brk=>obtain⟨_,_,_,q⟩:=h;exact False.elim q
 |cont=>obtain⟨_,_,_,q⟩:=h;exact False.elim q
end
structure QU(mg:A4)(base:Heap)(c P:Addr):Prop where
 hd:W.CodeHd base c P
 ne:mainGlobals≠P
 bl:base.BuiltinsAt mg P
def Js{P:C5}{w:World}{K:B0}{mg mb:A4}{CX:hJ}{k:Nat}{fa a:Addr}{fd:FuncData}{x:Str}{sp:Sp}{s₁:Shared}{vs:B5}{ns:C1}{c:List (Addr×Addr)}
  (KX:K.In s₁.heap) (l:s₁.heap.Ns mainGlobals mg) (hb:s₁.heap.Ns builtinsNs mb) (sR:∀x:Str,x≠"__name__"->mb x=bootBuiltins x) (nE:s₁.heap.NoLimit) (hg:s₁.gens=#[])
  (ha:s₁.heap.get? a=some {cls:=.type "list",data:=.seq vs.toArray}) (hi:IntsAre vs ns) (hl:ns.length<=sizeLine) (hr:ZA k callerA) (hT:W.TabsAt c s₁.heap) (sT:∀q∈c,K.lookup q.2=none) (nI:K.lookup a=none)
  (hB:∃bm ob,mg "__builtins__"=some (.ref bm)/\bm≠builtinsNs/\s₁.heap.get? bm=some ob/\ob.cls=.type "module"/\ob.dict=some builtinsNs/\ob.data=.plain)
  (F:∀base:Heap,K.In base->base.Ns mainGlobals mg->(∀q∈c,QU mg base q.1 q.2)->XW P w K mg base CX k fa fd [x] sp) (I:∀(s:Shared) (u:Value),BindsTo s fd ⟨[u],[]⟩ [(x,u)])
  (kE:∀H:Hp,Rd H a (.lst (ns.map V.int))->(∀q∈c,H q.2=some (.eT #[]))->sp [.ref a] H (λv Z=>v=.bl true) λZ Z Z=>False)
  (nK:∀H e s',CX [] H s₁ (λZ Z Z=>False) e s'->False) :
  codeAny (model P w) callerA (.call (.ref fa) ⟨[.ref a],[]⟩) (λr s'=>r=.ok (.ret (.bool true))/\OldK s₁.heap s'.heap/\s'.os=s₁.os/\AllBare s'.gens) s₁:=by
 have rv:=WG hi;have lenV:=hi.length;let lo:Obj:={cls:=.type "list",data:=.seq vs.toArray}
 let H:Hp:=λb=>if b∈c.map (·.2)then some (.eT #[])else if b=a then some (.dA lo (.lst (ns.map V.int)))else none
 have i:∀b,b∈c.map (·.2)->s₁.heap.get? b=some (W.tabObj #[]):=λb a8=>by obtain⟨q,g,rfl⟩:=Ze.mp a8;exact(hT q g).2
 have naT:a∉c.map (·.2):=λz=>by have:=i a z;rw[ha]at this;cases this
 have H1:∀b,b∈c.map (·.2)->H b=some (.eT #[]):=λb z=>YK z
 have H2:H a=some (.dA lo (.lst (ns.map V.int))):=(YQ naT).trans (YK rfl);have H3:∀b,b∉c.map (·.2)->b≠a->H b=none:=λb O U=>(YQ O).trans (YQ U)
 have free:∀{b:Addr}{o:Obj},s₁.heap.get? b=some o->o≠W.tabObj #[]->o≠lo->H b=none:=λ{b o} e O U=>H3 b (λz=>O (by have:=i b z;rw[e]at this;exact Y4 this)) (λz=>U (by subst z;rw[ha]at e;exact(Y4 e).symm))
 have aI:WV P w H s₁.heap:=λb u e=>by
  by_cases z:b∈c.map (·.2)
  ·rw[H1 b z]at e;cases e;exact⟨#[],i b z,trivial,λpos cv q=>by cases q⟩
  by_cases y:b=a
  ·subst y;rw[H2]at e;cases e;exact⟨ha,by rw[YT];exact hl,vs,_,rv,ha⟩
  ·rw[H3 b z y]at e;cases e
 have f:∀{b:Addr}{o:Obj},s₁.heap.get? b=some o->o≠W.tabObj #[]->o≠lo->(TR s₁.heap H).get? b=some o:=λe O U=>Sr e (free e O U)
 have n:∀{b:Addr}{m:A4},s₁.heap.Ns b m->(TR s₁.heap H).Ns b m:=λ{b m} ⟨o,es,ep,e,d,r⟩=>⟨o,es,ep,f e (λz=>by rw[z]at d;cases d) (λz=>by rw[z]at d;cases d),d,r⟩
 have hKb:K.In (TR s₁.heap H):=λb o e=>Sr (KX b o e) (H3 b (λz=>by obtain⟨q,g,rfl⟩:=Ze.mp z;rw[sT q g]at e;cases e) λz=>by rw[z,nI]at e;cases e)
 have hM:Mod K mg (TR s₁.heap H):=⟨hKb,n l,⟨mb,n hb,sR⟩,let⟨mc,O,U⟩:=nE;⟨mc,n O,U⟩⟩
 have e0:Wp P w K mg (TR s₁.heap H) callerA [] s₁ H:=⟨rfl,hM,λb o e=>LL e,Nat.le_of_eq (OO _ _),trivial,λb hb=>absurd (show b∈([]:B7)from hb) (by simp),aI,.of_eq hg⟩
 have hTD:∀q∈c,QU mg (TR s₁.heap H) q.1 q.2:=λq g=>by
  obtain⟨o,ay,file,tf,flags,tg,inF,text,tt,e1,r1,r⟩:=(hT q g).1;have eP:=(hT q g).2;refine⟨⟨o,ay,file,tf,flags,tg,inF,text,tt,f e1 (λz=>by rw[z]at r1;cases r1) (λz=>by rw[z]at r1;simp[lo]at r1),r1,r⟩,λz=>?_,?_⟩
  ·obtain⟨o',es,ep,e,d,_⟩:=l;rw[z,eP]at e;cases e;cases d
  ·obtain⟨bm,ob,b1,b2,b3,b4,b5,b6⟩:=hB;refine⟨bm,ob,b1,b2,λz=>?_,λz=>?_,f b3 (λz=>by rw[z]at b4;cases b4) (λz=>by rw[z]at b4;simp[lo]at b4),b4,b5,b6⟩
   ·obtain⟨o',es,ep,e,d,_⟩:=l;rw[z,e]at b3;cases b3;rw[d]at b6;cases b6
   ·rw[z,eP]at b3;cases b3;cases b4
 refine MA ((F _ hKb (n l) hTD).run callerA [] s₁ H ⟨[.ref a],[]⟩ [.ref a] [.ref a] _ _ hr e0 (I s₁ (.ref a)) (.cons rfl .nil) (kE H (.inr ⟨_,H2⟩) λq g=>H1 _ (List.mem_map_of_mem g))) λr s' h=>?_
 cases r with
 |error e=>exact(nK H e s' h).elim
 |ok fl=>
   cases fl with
   |next=>exact False.elim h
   |brk=>exact False.elim h
   |cont=>exact False.elim h
   |ret u=>
     obtain⟨v,H',os,bare,un,p,r',q⟩:=h;have q':v=.bl true:=q;subst q';obtain rfl:u=Value.bool true:=r';have t:∀b o,s₁.heap.get? b=some o->b∉c.map (·.2)->s'.heap.get? b=some o:=λb o e z=>by
      by_cases y:b=a
      ·subst y;have z2:=un.ey b lo _ H2;obtain⟨e2,_⟩:=p b _ z2;rw[ha]at e;cases e;exact e2
      ·exact un.keep b o e (H3 b z y) (by intro z;exact absurd (show b∈([]:B7)from z) (by simp)) (by simp)
     have j:∀b,b∈c.map (·.2)->∃ps,s'.heap.get? b=some (W.tabObj ps):=λb z=>by obtain⟨m,e⟩:=un.eA b _ (H1 b z);obtain⟨ps,e2,_⟩:=p b _ e;exact⟨ps,e2⟩
     refine⟨rfl,⟨λb o e=>?_,λb o e=>?_⟩,os,bare⟩
     ·by_cases z:b∈c.map (·.2)
      ·obtain⟨ps,e2⟩:=j b z;obtain⟨q,g,rfl⟩:=Ze.mp z;have e3:=(hT q g).2;rw[e]at e3;cases Y4 e3;exact .inr (.inl ⟨((hT q g).1.tab (hT q g).2).isCodeTable,rfl,#[],ps,rfl,by rw[Array.empty_append];exact e2⟩)
      ·exact .inl (t b o e z)
     ·by_cases z:b∈c.map (·.2)
      ·obtain⟨ps,e2⟩:=j b z;exact⟨_,e2⟩
      ·exact⟨o,t b o e z⟩
def P8.lT{K:B0}{mg:A4}{x:Str}{st:Stmt}{f:Addr}{a:FuncData}{c P:Addr}{h:Heap}(F:P8 K x x st f a)(X:K.In h)(G:h.Ns mainGlobals mg)(m:mg x=some (.ref f))(ht:W.tabIn K x=some (c,P)):a.code=.ref c:=by obtain⟨i,j,kV,doc,k,l,b,ct,d,e,g,_⟩:=F.ex;exact W.law_code X G ht m (X _ _ g) rfl
def Ox{l:W.OpenLaw}{n k:Nat}{q:C5}{loose:C3}{XP:A4->B6}{YP:World->B6}{d:DefRec}{K:Params->B0}{CX:World->hJ}{sp:List (Addr×Addr)->Sp}{x:Str}{tn:List (Str×Addr×Addr)}
  (hn:l.most=some n) (y:n<=sizeLine) (O:d.params.defaults=[]) (hr:ZA k callerA)
  (hY:∀(w:World) (h:Heap),YP w h->(K w.params).In h) (U:∀(w:World) (a:Addr) (o:Obj),(K w.params).lookup a=some o->o.cls≠.type "list")
  (h1:∀t∈tn,((recsOf q).find? (λe=>e.name==t.1)).isSome=true) (h2:∀(w:World),∀t∈tn,W.tabIn (K w.params) t.1=some t.2) (h3:∀(w:World),∀t∈tn,(K w.params).lookup t.2.2=none)
  (F:∀(w:World) (mg:A4) (p:Addr) (h:Heap),(K w.params).In h->h.Ns mainGlobals mg->mg d.name=some (.ref p)->
    ∃fd:FuncData,(∀(s:Shared) (u:Value),BindsTo s fd ⟨[u],[]⟩ [(x,u)]) /\
      ∀base:Heap,(K w.params).In base->base.Ns mainGlobals mg->(∀q∈tn.map (·.2),QU mg base q.1 q.2)->XW l.prog w (K w.params) mg base (CX w) k p fd [x] (sp (tn.map (·.2))))
  (kE:∀(H:Hp) (a:Addr) (ns:C1),ns.length<=n->Rd H a (.lst (ns.map V.int))->(∀q∈tn.map (·.2),H q.2=some (.eT #[]))->sp (tn.map (·.2)) [.ref a] H (λv Z=>v=.bl true) λZ Z Z=>False)
  (nK:∀(w:World) (H:Hp) (s:Shared) (e:Value) (s':Shared),CX w [] H s (λZ Z Z=>False) e s'->False) :
  W.WalkO q loose XP YP l.row.toRowW d [] (λf vs=>PySem.call f vs):=by
 refine Att.gI hn O λw s₀ c mg mb p o pm cd doc a vs ns G Y ho hd bt hmg i m j hg=>?_
 have I:=hY w _ Y;obtain⟨fd,hb,hF⟩:=F w mg p _ I G.T.g hmg;have nI:(K w.params).lookup a=none:=by
  cases z:(K w.params).lookup a with
  |none=>rfl
  |some oa=>have e:=I a oa z;rw[i]at e;cases e;exact absurd rfl (U w a _ z)
 have hT:W.TabsAt (tn.map (·.2)) c.heap:=λq hq=>by obtain⟨t,r,rfl⟩:=Ze.mp hq;obtain⟨d',de⟩:=FH.mp (h1 t r);exact W.tab_of G.T I de (h2 w t r)
 exact Js I G.T.g G.T.b G.T.builtins G.T.nolimit hg i m (Zx j y) hr hT (λq hq=>by obtain⟨t,r,rfl⟩:=Ze.mp hq;exact h3 w t r) nI G.T.bmain hF hb (λH hS hH=>kE H a ns j hS hH) λH e s'=>nK w H c e s'
open PyProof.Rows
def K3{K:B0}{x:Str}{f c P:Addr}{j b:Value}{od d:B3}{e g:Array B1}{i:FuncData}{vs:B4}(a:W.nsIn K mainGlobals x=some (some (.ref f)))(l:K.lookup f=some ⟨j,od,.func i,e⟩)(hc:i.code=.ref c)
  (l2:K.lookup c=some ⟨b,d,.fields vs,g⟩) (h:vs[11]?=some (.ref P)):W.tabIn K x=some (c,P):=by
 unfold W.tabIn;rw[a];simp only[l,hc,l2,h]
end L2
namespace L2
open PyProof.Rows LS
section
variable{X:Cx}
def Vt(b:TA):TE:=λc H Q=>b c H λd I=>∃p a,d=[.ref p]/\I p=some (.lst (a.map V.int))/\(a.length<=2000/\(a.foldl step_dedup []).length<=60)/\∀l,I l=none->Q (.ref l) (upd I l (.lst ((mQ a).map V.int)))
def Ob(hc:X.calm=true)(k:Gl X "sorted")(u:X.mg "sorted"=none)(hg:Gl X "set")(hm:X.mg "set"=none)(ha:PA X [a] ta)(hs:autoParam (ZH a=true) qAA):
  PE X (.Call (.Name "sorted" p1) [.Call (.Name "set" p2) [a] [] ae] [] ah) (Vt ta):=by
 intro d s σ H Q I h;have f:starEach [Expr.Call (.Name "set" p2) [a] [] ae] X.env=(false,eval (.Call (.Name "set" p2) [a] [] ae) X.env)::starEach [] X.env:=aZ rfl;refine Call_ (X2 I k u qK (w8 ?_ f rfl));rw[f];show wpAny _ _ (spliced ((false,eval (.Call (.Name "set" p2) [a] [] ae) X.env)::[])) _ _ s;refine AY ?_;refine Call_ (X2 I hg hm yo (ZR (YO (ha ae d s σ H _ I h) λus i ⟨vs,H1,O,r1,q1⟩=>?_) (aZ hs) rfl))
 obtain⟨p,ns,e,hp,v,q⟩:=q1;subst e;cases r1 with
 |cons r rr=>
   cases rr;cases r;obtain⟨_,c,n,vl,ho⟩:=O.aI p _ hp;have ia:=yF vl;have il:c.length=ns.length:=BI ia;have hd:=O.ok.hd hc;refine Ir (items:=c.toArray) (ns:=ns) hd ⟨_,ho,rfl,n,rfl⟩ (by simpa using ia) (by simp[scanBound];have:=v.1;lia) λh1 w g k1=>?_
   refine BF ?_;rw[show c.toArray.size=ns.length from by rw[Za];exact il,Ao]at g
   have sl:=v.2;refine Ho (s:={i with heap:=h1,toks:=w}) hd g (by lia) λh2 x d2 l m ws ms y U ims pm so k2=>?_
   have j:i.heap.objs.size<=l:=by obtain⟨es,ep,t,hs1,_⟩:=g.ex;exact Zx (NR (YW hs1)) y
   have em:ms=mQ ns:=gk (pm.trans (cH _).1.symm) so (cH _).2;have kk:∀b o,i.heap.get? b=some o->h2.get? b=some o:=λb o e=>k2 b o (k1 b o (YW e) e)
   have zl:((mQ ns).map V.int).length<=sizeLine:=by
    rw[YT];have:=RP ns;have:=v.1;show _<=2^24
    lia
   have I2:=O.call (h':=h2) (t':=x) (d':=d2) (g':=i.gens) (ch:=[]) (Un.laid kk j (O.aI.fresh j)) (O.aI.laid (o:=.lst ((mQ ns).map V.int)) kk j ⟨zl,ws,m,by rw[<-em];exact WG ims,U⟩) O.bare (λZ z=>nomatch z)
   exact⟨.ref l,upd H1 l (.lst ((mQ ns).map V.int)),I2,rfl,q l (O.aI.fresh j)⟩
end
end L2
namespace L2
open PyProof.Rows
end L2
namespace LB
open PySem PySem.W PyProof.Rows
def aP{α:Type}(o:Nat->Nat->Bool):KasT α->α
 |.ret a=>a
 |.ask i j k=>aP o (k (o i j))
theorem gO:∀(t:KasT α),aP o (t.bind f)=aP o (f (aP o t))
 |.ret _=>rfl
 |.ask i j k=>gO (k (o i j))
structure Ord(K:Type)where
 le:K->K->Prop
 dec:∀a b,Decidable (le a b)
 rfl:∀a,le a a
 trans:∀{a b c},le a b->le b c->le a c
 rX:∀a b,le a b\/le b a
section
variable{K:Type}(R:Ord K)(v:Nat->K)
def YI(i j:Nat):Bool:=!(R.dec (v j) (v i)).decide
def V(p:B9)(i:Nat):K:=v (p.getD i 0)
def SU(p:B9)(n:Nat):Prop:=∀i j,i<=j->j<n->R.le (V v p i) (V v p j)
def DU(p:B9)(n:Nat):Prop:=∀i j,i<=j->j<n->R.le (V v p j) (V v p i)
variable{R v}{p:B9}
def yZ(h:YI R v i j=true):R.le (v i) (v j):=by
 have n:¬R.le (v j) (v i):=by simpa[YI]using h
 exact(R.rX _ _).resolve_right n
def vJ(h:¬YI R v i j=true):R.le (v j) (v i):=by simpa[YI]using h
def oG{p q:B9}{i j:Nat}(h:p[i]?=q[j]?):p.getD i 0=q.getD j 0:=by rw[Z1,Z1,h]
set_option tactic.hygienic true in
def jN{i j:Nat}(a:j<=p.size)(k:Nat):V v (kas_rev p i j) k=if i<=k/\k<j then V v p (i+j-1-k)else V v p k:=by
 have h:=getElem?_mirror_all (i:=i) a k;unfold V kas_rev;split
 ·rename_i c;rw[YK c]at h;rw[oG h]
 ·rename_i c;rw[YQ c]at h;rw[oG h]
def O6{s d:Nat}(hs:s<p.size)(hd:d<=s)(k:Nat):V v (bubble p s d) k=if k=s-d then V v p s else if s-d<k/\k<=s then V v p (k-1)else V v p k:=by
 have h:=getElem?_bubble hs d hd k;by_cases c:k=s-d
 ·rw[YK c]at h ⊢;exact congrArg v (oG h)
 ·rw[YQ c]at h ⊢
  by_cases c2:s-d<k/\k<=s
  ·rw[YK c2]at h ⊢;exact congrArg v (oG h)
  ·rw[YQ c2]at h ⊢;exact congrArg v (oG h)
def vd(i j:Nat):(kas_rev p i j).Perm p:=mirror_perm _ _ _ _
def SU.up(h:SU R v p n)(h1:1<=n)(q:R.le (V v p (n-1)) (V v p n)):SU R v p (n+1):=λi j a b=>by
 by_cases c:j<n
 ·exact h i j a c
 ·obtain rfl:j=n:=by lia
  by_cases d:i=j
  ·subst d;exact R.rfl _
  ·exact R.trans (h i (j-1) (by lia) (by lia)) q
def DU.up(h:DU R v p n)(h1:1<=n)(q:R.le (V v p n) (V v p (n-1))):DU R v p (n+1):=λi j a b=>by
 by_cases c:j<n
 ·exact h i j a c
 ·obtain rfl:j=n:=by lia
  by_cases d:i=j
  ·subst d;exact R.rfl _
  ·exact R.trans q (h i (j-1) (by lia) (by lia))
theorem zZ:∀(f n:Nat),1<=n->SU R v p n->SU R v p (aP (YI R v) (kas_asc p f n))/\n<=aP (YI R v) (kas_asc p f n)/\aP (YI R v) (kas_asc p f n)<=n+f/\(aP (YI R v) (kas_asc p f n)<n+f->R.le (V v p (aP (YI R v) (kas_asc p f n))) (V v p (aP (YI R v) (kas_asc p f n)-1)))
 |0,n,_,h=>⟨h,YL _,YL _,λz=>absurd z (MI _)⟩
 |f+1,n,h1,h=>by
   by_cases c:YI R v (p.getD n 0) (p.getD (n-1) 0)=true
   ·have e:aP (YI R v) (kas_asc p (f+1) n)=n:=by
     show aP (YI R v) (if YI R v (p.getD n 0) (p.getD (n-1) 0)=true then .ret n else _)=n
     rw[YK c];rfl
    rw[e];exact⟨h,YL _,by lia,λy=>yZ c⟩
   ·have e:aP (YI R v) (kas_asc p (f+1) n)=aP (YI R v) (kas_asc p f (n+1)):=by
     show aP (YI R v) (if YI R v (p.getD n 0) (p.getD (n-1) 0)=true then .ret n else _)=_
     rw[YQ c]
    rw[e];obtain⟨a,b,d,g⟩:=zZ f (n+1) (by lia) (h.up h1 (vJ c))
    exact⟨a,by lia,by lia,λz=>g (by lia)⟩
structure De(R:Ord K)(v:Nat->K)(p₀ p:B9)(n q:Nat):Prop where
 du:DU R v p n
 pm:p.Perm p₀
 le:q+1<=n
 eq:∀k,n-(q+1)<=k->k<n->R.le (V v p k) (V v p (n-1))/\R.le (V v p (n-1)) (V v p k)
def De.rev(h:De R v p₀ p n q)(e:n<=p₀.size):DU R v (kas_rev p (n-(q+1)) n) n/\(kas_rev p (n-(q+1)) n).Perm p₀:=by
 refine⟨λi j d f=>?_,(vd _ _).trans h.pm⟩
 have c:n<=p.size:=by rw[h.pm.size_eq];exact e
 have:=h.le;rw[jN c,jN c];by_cases a:n-(q+1)<=i/\i<n
 ·rw[YK a,YK (by lia)]
  exact R.trans (h.eq _ (by lia) (by lia)).1 (h.eq _ (by lia) (by lia)).2
 ·rw[YQ a];by_cases b:n-(q+1)<=j/\j<n
  ·rw[YK b];exact h.du _ _ (by lia) (by lia)
  ·rw[YQ b];exact h.du _ _ d f
def De.zero(a:DU R v p n)(b:p.Perm p₀)(c:1<=n):De R v p₀ p n 0:=⟨a,b,c,λk d e=>by
 obtain rfl:k=n-1:=by lia
 exact⟨R.rfl _,R.rfl _⟩⟩
def Np(h:De R v p₀ p n q)(b:n<=p₀.size):R.le (V v p (n-1)) (V v (kas_rev p (n-(q+1)) n) (n-1)):=by
 have a:n<=p.size:=by rw[h.pm.size_eq];exact b
 have:=h.le;rw[jN a,YK (by lia)]
 exact(h.eq _ (by lia) (by lia)).2
def yj(a:j<=p.size)(b:j<=k):V v (kas_rev p i j) k=V v p k:=by rw[jN a,YQ (by lia)]
theorem sZ:∀(f:Nat) (p:B9) (n q:Nat),n+f<=p₀.size->De R v p₀ p n q->∃b a g,aP (YI R v) (kas_desc f p n q)=(b,a,g)/\n<=a/\a<=n+f/\De R v p₀ b a g
 |0,p,n,q,_,h=>⟨p,n,q,rfl,YL _,YL _,h⟩
 |f+1,p,n,q,hs,h=>by
   have h1:=h.le;by_cases c:YI R v (p.getD n 0) (p.getD (n-1) 0)=true
   ·by_cases hq:q>0
    ·have e:aP (YI R v) (kas_desc (f+1) p n q)=aP (YI R v) (kas_desc f (kas_rev p (n-(q+1)) n) (n+1) 0):=by
      show aP (YI R v) (if YI R v (p.getD n 0) (p.getD (n-1) 0)=true then(if q>0 then _ else _)else _)=_
      rw[YK c,YK hq]
     rw[e];obtain⟨s,t⟩:=h.rev (by lia)
     have l:n<=p.size:=by rw[h.pm.size_eq];lia
     have u:DU R v (kas_rev p (n-(q+1)) n) (n+1):=s.up (by lia) (by rw[yj l (YL _)];exact R.trans (yZ c) (Np h (by lia)))
     obtain⟨b,a,g,i,m,o,j⟩:=sZ f _ (n+1) 0 (by lia) (De.zero u t (by lia))
     exact⟨b,a,g,i,by lia,by lia,j⟩
    ·have e:aP (YI R v) (kas_desc (f+1) p n q)=aP (YI R v) (kas_desc f p (n+1) 0):=by
      show aP (YI R v) (if YI R v (p.getD n 0) (p.getD (n-1) 0)=true then(if q>0 then _ else _)else _)=_
      rw[YK c,YQ hq]
     rw[e];obtain⟨b,a,g,i,m,o,j⟩:=sZ f p (n+1) 0 (by lia) (De.zero (h.du.up (by lia) (yZ c)) h.pm (by lia))
     exact⟨b,a,g,i,by lia,by lia,j⟩
   ·by_cases d:YI R v (p.getD (n-1) 0) (p.getD n 0)=true
    ·refine⟨p,n,q,?_,YL _,by lia,h⟩
     show aP (YI R v) (if YI R v (p.getD n 0) (p.getD (n-1) 0)=true then _ else _)=_
     rw[YQ c];show aP (YI R v) (if YI R v (p.getD (n-1) 0) (p.getD n 0)=true then _ else _)=_
     rw[YK d];rfl
    ·have e:aP (YI R v) (kas_desc (f+1) p n q)=aP (YI R v) (kas_desc f p (n+1) (q+1)):=by
      show aP (YI R v) (if YI R v (p.getD n 0) (p.getD (n-1) 0)=true then _ else _)=_
      rw[YQ c];show aP (YI R v) (if YI R v (p.getD (n-1) 0) (p.getD n 0)=true then _ else _)=_
      rw[YQ d]
     rw[e];have w:R.le (V v p (n-1)) (V v p n):=vJ c;have r:R.le (V v p n) (V v p (n-1)):=vJ d;have x:De R v p₀ p (n+1) (q+1):=⟨h.du.up (by lia) r,h.pm,by lia,λk y I=>by
      show R.le (V v p k) (V v p n)/\R.le (V v p n) (V v p k);by_cases z:k=n
      ·subst z;exact⟨R.rfl _,R.rfl _⟩
      ·obtain⟨O,U⟩:=h.eq k (by lia) (by lia)
       exact⟨R.trans O w,R.trans r U⟩⟩
     obtain⟨b,a,g,i,m,o,j⟩:=sZ f p (n+1) (q+1) (by lia) x
     exact⟨b,a,g,i,by lia,by lia,j⟩
def Cn(R:Ord K)(v:Nat->K)(p₀:B9)(r:Nat×B9):Prop:=SU R v r.2 r.1/\r.2.Perm p₀/\r.1<=p₀.size
def Gb(h1:1<=n)(g:n<=p₀.size)(d:DU R v p n)(f:p.Perm p₀):Cn R v p₀ (aP (YI R v) (kas_tail3 n p₀.size p)):=by
 have e:n<=p.size:=by rw[f.size_eq];exact g
 have s:SU R v (kas_rev p 0 n) n:=λi j h k=>by
  rw[jN e,jN e,YK (by lia),YK (by lia)]
  exact d _ _ (by lia) (by lia)
 obtain⟨a,b,c,_⟩:=zZ (p:=kas_rev p 0 n) (p₀.size-n) n h1 s;unfold kas_tail3;rw[gO];exact⟨a,(vd _ _).trans f,by show aP _ _<=_;lia⟩
def Fo(h1:1<=n)(i:n+1<=p₀.size)(d:DU R v p (n+1))(c:p.Perm p₀):Cn R v p₀ (aP (YI R v) (kas_descPart n p₀.size p)):=by
 obtain⟨j,b,e,f,k,l,a⟩:=sZ (p₀:=p₀) (p₀.size-(n+1)) p (n+1) 0 (by lia) (De.zero d c (by lia))
 unfold kas_descPart;rw[gO,f];show Cn R v p₀ (aP _ (if e>0 then _ else _))
 split
 ·obtain⟨g,h⟩:=a.rev (by lia)
  exact Gb (n:=b) (by lia) (by lia) g h
 ·exact Gb (n:=b) (by lia) (by lia) a.du a.pm
def Mi(h1:1<=p₀.size):Cn R v p₀ (aP (YI R v) (kas_count p₀.size p₀)):=by
 have m:SU R v p₀ 1:=λi j f k=>by
  obtain rfl:i=j:=by lia
  exact R.rfl _
 obtain⟨a,b,c,g⟩:=zZ (p:=p₀) (p₀.size-1) 1 (YL _) m;unfold kas_count;rw[gO];generalize aP (YI R v) (kas_asc p₀ (p₀.size-1) 1)=n at a b c g;by_cases e:(n==p₀.size)=true
 ·rw[YK e];exact⟨a,.refl _,by show n<=_;lia⟩
 ·rw[YQ e];have r:n≠p₀.size:=by simpa using e
  have l:=g (by lia)
  by_cases h:n>1
  ·rw[YK h];show Cn R v p₀ (aP _ (if YI R v (p₀.getD 0 0) (p₀.getD (n-1) 0)=true then _ else _))
   by_cases x:YI R v (p₀.getD 0 0) (p₀.getD (n-1) 0)=true
   ·rw[YK x];exact⟨a,.refl _,by show n<=_;lia⟩
   ·rw[YQ x];have o:R.le (V v p₀ (n-1)) (V v p₀ 0):=vJ x;have d:DU R v (kas_rev p₀ 0 n) n:=λi j f k=>by
     rw[jN (by lia),jN (by lia),YK (by lia),YK (by lia)]
     exact a _ _ (by lia) (by lia)
    refine Fo (by lia) (by lia) (d.up (by lia) ?_) (vd _ _)
    rw[yj (by lia) (YL _),jN (by lia),YK (by lia)]
    exact R.trans l (R.trans o (a 0 _ (by lia) (by lia)))
  ·rw[YQ h];obtain rfl:n=1:=by lia
   refine Fo (YL _) (by lia) ?_ (.refl _)
   have q:DU R v p₀ 1:=λi j f k=>by
    obtain rfl:i=j:=by lia
    exact R.rfl _
   exact q.up (YL _) l
theorem uY(s:SU R v p k):∀(f l r:Nat),l<=r->r<=k->r-l<=f->(∀i,i<l->R.le (V v p i) (V v p k))->(∀i,r<=i->i<k->R.le (V v p k) (V v p i))->
  aP (YI R v) (kas_place p k f l r)<=k/\(∀i,i<aP (YI R v) (kas_place p k f l r)->R.le (V v p i) (V v p k))/\∀i,aP (YI R v) (kas_place p k f l r)<=i->i<k->R.le (V v p k) (V v p i)
 |0,l,r,h1,h2,h3,a,b=>by
   obtain rfl:l=r:=by lia
   exact⟨h2,a,b⟩
 |f+1,l,r,h1,h2,h3,a,b=>by
   by_cases c:l≥r
   ·have e:aP (YI R v) (kas_place p k (f+1) l r)=l:=by
     show aP (YI R v) (if l≥r then .ret l else _)=l
     rw[YK c];rfl
    rw[e];exact⟨by lia,a,λi g=>b i (by lia)⟩
   ·by_cases d:YI R v (p.getD k 0) (p.getD ((l+r) / 2) 0)=true
    ·have e:aP (YI R v) (kas_place p k (f+1) l r)=aP (YI R v) (kas_place p k f l ((l+r) / 2)):=by
      show aP (YI R v) (if l≥r then .ret l else _)=_
      rw[YQ c];show aP (YI R v) (if YI R v (p.getD k 0) (p.getD ((l+r) / 2) 0)=true then _ else _)=_
      rw[YK d]
     rw[e];have x:R.le (V v p k) (V v p ((l+r) / 2)):=yZ d;exact uY s f l _ (by lia) (by lia) (by lia) a λi g h=>R.trans x (s _ _ g h)
    ·have e:aP (YI R v) (kas_place p k (f+1) l r)=aP (YI R v) (kas_place p k f ((l+r) / 2+1) r):=by
      show aP (YI R v) (if l≥r then .ret l else _)=_
      rw[YQ c];show aP (YI R v) (if YI R v (p.getD k 0) (p.getD ((l+r) / 2) 0)=true then _ else _)=_
      rw[YQ d]
     rw[e];have x:R.le (V v p ((l+r) / 2)) (V v p k):=vJ d;exact uY s f _ r (by lia) (by lia) (by lia) (λi g=>R.trans (s i _ (by lia) (by lia)) x) b
theorem Ii:∀(f:Nat) (p:B9) (k:Nat),k+f=p₀.size->p.Perm p₀->SU R v p k->SU R v (aP (YI R v) (kas_bin f p k)) p₀.size/\(aP (YI R v) (kas_bin f p k)).Perm p₀
 |0,p,k,h,d,s=>by
   obtain rfl:k=p₀.size:=by lia
   exact⟨s,d⟩
 |f+1,p,k,h,d,s=>by
   obtain⟨a,b,c⟩:=uY s k 0 k (by lia) (YL _) (by lia) (λi n=>by lia) (λi o q=>by lia)
   show SU R v (aP (YI R v) ((kas_place p k k 0 k).bind λl=>kas_bin f (bubble p k (k-l)) (k+1))) _/\(aP (YI R v) ((kas_place p k k 0 k).bind λl=>kas_bin f (bubble p k (k-l)) (k+1))).Perm p₀
   rw[gO];generalize aP (YI R v) (kas_place p k k 0 k)=l at a b c;have e:k<p.size:=by rw[d.size_eq];lia
   refine Ii f _ (k+1) (by lia) ((bubble_perm _ _ _).trans d) λi j g r=>?_
   rw[O6 e (by lia),O6 e (by lia)]
   have m:k-(k-l)=l:=by lia
   rw[m];by_cases c1:i=l
   ·rw[YK c1];by_cases c2:j=l
    ·rw[YK c2];exact R.rfl _
    ·rw[YQ c2,YK (by lia)]
     exact c _ (by lia) (by lia)
   ·rw[YQ c1];by_cases c3:l<i/\i<=k
    ·rw[YK c3,YQ (by lia),YK (by lia)]
     exact s _ _ (by lia) (by lia)
    ·rw[YQ c3];by_cases c2:j=l
     ·rw[YK c2];exact b _ (by lia)
     ·rw[YQ c2];by_cases c4:l<j/\j<=k
      ·rw[YK c4];exact s _ _ (by lia) (by lia)
      ·rw[YQ c4];exact s _ _ (by lia) (by lia)
def RN(h2:1<=n):SU R v (aP (YI R v) (kas_sort n)) n/\(aP (YI R v) (kas_sort n)).Perm (List.range n).toArray:=by
 have z:(List.range n).toArray.size=n:=by simp
 have c:=Mi (R:=R) (v:=v) (p₀:=(List.range n).toArray) (by lia)
 rw[z]at c;unfold kas_sort;rw[gO];revert c;generalize aP (YI R v) (kas_count n (List.range n).toArray)=r;obtain⟨m,p⟩:=r;rintro⟨a,b,d⟩;dsimp only at a b d ⊢
 rw[z]at d;by_cases e:m<n
 ·rw[YK e];have q:=Ii (R:=R) (v:=v) (p₀:=(List.range n).toArray) (n-max m 1) p (max m 1) (by rw[z];lia) b (by
   by_cases x:1<=m
   ·rw[Nat.max_eq_left x];exact a
   ·have:max m 1=1:=by lia
    rw[this];intro i j f g;obtain rfl:i=j:=by lia
    exact R.rfl _)
  rw[z]at q;exact q
 ·rw[YQ e];obtain rfl:m=n:=by lia
  exact⟨a,b⟩
end
def gb{α:Type}(n:Nat)(P:α->Prop):KasT α->Prop
 |.ret a=>P a
 |.ask i j k=>i<n/\j<n/\∀b,gb n P (k b)
theorem gb.bind{α c:Type}{n:Nat}{P:α->Prop}{I:c->Prop}{f:α->KasT c}(d:∀a,P a->gb n I (f a)):∀{t:KasT α},gb n P t->gb n I (t.bind f)
 |.ret a,h=>d a h
 |.ask _ _ k,h=>⟨h.1,h.2.1,λb=>gb.bind d (h.2.2 b)⟩
theorem Gh(h:∀i j C,i<n->j<n->C (o i j) s->cmp i j C s):∀(t:KasT α),gb n P t->Q (aP o t) s->t.kasWp cmp Q s
 |.ret _,_,q=>q
 |.ask i j k,b,q=>h i j _ b.1 b.2.1 (Gh h (k (o i j)) (b.2.2 _) q)
def Bd(n:Nat)(p:B9):Prop:=0<n/\∀x∈p.toList,x<n
theorem Bd.at(h:Bd n p)(i:Nat):p.getD i 0<n:=by
 rw[Z1];cases e:p[i]? with
 |none=>exact h.1
 |some x=>exact h.2 x (by rw[xh]at e;obtain⟨a,rfl⟩:=e;simp)
def Bd.perm(h:Bd n p)(a:q.Perm p):Bd n q:=⟨h.1,λx b=>h.2 x ((Array.perm_iff_toList_perm.mp a).mem_iff.mp b)⟩
def Bd.rev(h:Bd n p)(i j:Nat):Bd n (kas_rev p i j):=h.perm (mirror_perm _ _ _ _)
theorem zY(h:Bd n p):∀(f m:Nat),gb n (λz=>True) (kas_asc p f m)
 |0,_=>trivial
 |f+1,m=>⟨h.at _,h.at _,λb=>by
   cases b
   ·exact zY h f (m+1)
   ·exact trivial⟩
theorem sY:∀(f:Nat) (p:B9) (m q:Nat),Bd n p->gb n (λr=>Bd n r.1) (kas_desc f p m q)
 |0,p,_,_,h=>h
 |f+1,p,m,q,h=>⟨h.at _,h.at _,λb=>by
   cases b
   ·exact⟨h.at _,h.at _,λb=>by
     cases b
     ·exact sY f _ _ _ h
     ·exact h⟩
   ·show gb n _ (if q>0 then _ else _)
    split
    ·exact sY f _ _ _ (h.rev _ _)
    ·exact sY f _ _ _ h⟩
def Ga{n m k:Nat}{p:B9}(h:Bd n p):gb n (λr=>Bd n r.2) (kas_tail3 m k p):=by
 unfold kas_tail3;refine gb.bind (P:=λz=>True) (λa z=>?_) (zY (h.rev _ _) _ _)
 show Bd n (kas_rev p 0 m);exact h.rev 0 m
def Fj{n m k:Nat}{p:B9}(h:Bd n p):gb n (λr=>Bd n r.2) (kas_descPart m k p):=gb.bind (P:=λr=>Bd n r.1) (λr a=>by
 split
 ·exact Ga (a.rev _ _)
 ·exact Ga a) (sY _ _ _ _ h)
def Mh{n k:Nat}{p:B9}(h:Bd n p):gb n (λr=>Bd n r.2) (kas_count k p):=gb.bind (P:=λz=>True) (λm z=>by
 split
 ·exact h
 ·split
  ·exact⟨h.at _,h.at _,λb=>by
    cases b
    ·exact Fj (h.rev _ _)
    ·exact h⟩
  ·exact Fj h) (zY h _ _)
theorem uX(h:Bd n p)(k:Nat):∀(f l r:Nat),gb n (λz=>True) (kas_place p k f l r)
 |0,_,_=>trivial
 |f+1,l,r=>by
   unfold kas_place;split
   ·exact trivial
   ·exact⟨h.at _,h.at _,λb=>by
     cases b
     ·exact uX h k f _ _
     ·exact uX h k f _ _⟩
theorem Ih{n:Nat}:∀(f:Nat) (p:B9) (k:Nat),Bd n p->gb n (λz=>True) (kas_bin f p k)
 |0,_,_,_=>trivial
 |f+1,p,k,h=>gb.bind (P:=λz=>True) (λl z=>Ih f _ _ (h.perm (bubble_perm _ _ _))) (uX h _ _ _ _)
def RM{n:Nat}(h:0<n):gb n (λz=>True) (kas_sort n):=by
 have b:Bd n (List.range n).toArray:=⟨h,λx a=>by simpa using a⟩
 refine gb.bind (P:=λr=>Bd n r.2) (λr c=>?_) (Mh b)
 split
 ·exact Ih _ _ _ c
 ·exact trivial
end LB
namespace LB
open PySem PySem.W PySem.Calls PyProof.Rows
noncomputable def dF:C1->C1->Bool
 |[],[]=>false
 |[],_::_=>true
 |_::_,[]=>false
 |a::x,b::y=>if a=b then dF x y else decide (a<b)
theorem Ey:∀x,dF x x=false
 |[]=>rfl
 |a::x=>by simp[dF,Ey x]
theorem Ez:∀{x y:C1},dF x y=false->dF y x=false->x=y
 |[],[],_,_=>rfl
 |[],_::_,h,_=>by cases h
 |_::_,[],_,h=>by cases h
 |a::x,b::y,h1,h2=>by
   simp only[dF]at h1 h2;by_cases c:a=b
   ·subst c;rw[YK rfl]at h1 h2;rw[Ez h1 h2]
   ·rw[YQ c]at h1;rw[YQ (Ne.symm c)]at h2;simp at h1 h2
    lia
theorem uU:∀{x y:C1},dF x y=true->dF y x=false
 |[],[],h=>by cases h
 |[],_::_,_=>rfl
 |_::_,[],h=>by cases h
 |a::x,b::y,h=>by
   simp only[dF]at h ⊢
   by_cases c:a=b
   ·subst c;rw[YK rfl]at h ⊢
    exact uU h
   ·rw[YQ c]at h;rw[YQ (Ne.symm c)];simp at h ⊢
    lia
theorem qW:∀{x y z:C1},dF y x=false->dF z y=false->dF z x=false
 |[],[],[],_,_=>rfl
 |[],[],_::_,_,_=>rfl
 |[],_::_,[],_,h=>by cases h
 |[],_::_,_::_,_,_=>rfl
 |_::_,[],_,h,_=>by cases h
 |_::_,_::_,[],_,h=>by cases h
 |a::x,b::y,c::z,h1,h2=>by
   simp only[dF]at h1 h2 ⊢
   by_cases e1:b=a
   ·subst e1;rw[YK rfl]at h1;by_cases e2:c=b
    ·subst e2;rw[YK rfl]at h2 ⊢
     exact qW h1 h2
    ·rw[YQ e2]at h2 ⊢
     exact h2
   ·rw[YQ e1]at h1;by_cases e2:c=b
    ·subst e2;rw[YQ e1];exact h1
    ·rw[YQ e2]at h2;simp at h1 h2;rw[YQ (by lia)]
     simp
     lia
def iM:Ord C1 where
 le x y:=dF y x=false
 dec x y:=inferInstance
 rfl:=Ey
 trans:=qW
 rX x y:=by
  cases h:dF y x
  ·exact .inl rfl
  ·exact .inr (uU h)
def uP(x:C1):A7->A7
 |[]=>[x]
 |y::r=>if dF y x=false then x::y::r else y::uP x r
def xV(l:A7):A7:=l.foldr uP []
theorem qZ(x:C1):∀l,(uP x l).Perm (x::l)
 |[]=>.refl _
 |y::r=>by
   unfold uP;split
   ·exact .refl _
   ·exact((qZ x r).cons y).trans (.swap x y r)
abbrev mW(l:A7):Prop:=l.Pairwise λx y=>dF y x=false
set_option tactic.hygienic true in
theorem yD(x:C1):∀{l:A7},mW l->mW (uP x l)
 |[],_=>by simp[uP,mW]
 |y::r,h=>by
   have h':=Z9.mp h;unfold uP;split
   ·rename_i c;exact Z9.mpr ⟨λz a=>by
     rcases Y5.mp a with rfl|a
     ·exact c
     ·exact qW c (h'.1 z a),h⟩
   ·rename_i c;refine Z9.mpr ⟨λz a=>?_,yD x h'.2⟩
    rcases Y5.mp ((qZ x r).mem_iff.mp a)with rfl|a
    ·exact uU (by simpa using c)
    ·exact h'.1 z a
theorem fQ:∀l:A7,(xV l).Perm l/\mW (xV l)
 |[]=>⟨.refl _,List.Pairwise.nil⟩
 |x::l=>by obtain⟨a,b⟩:=fQ l;exact⟨(qZ x _).trans (a.cons x),yD x b⟩
theorem rK:∀{a b:A7},a.Perm b->mW a->mW b->a=b
 |[],b,p,_,_=>(List.nil_perm.mp p).symm
 |x::a,[],p,_,_=>absurd p.length_eq (by simp)
 |x::a,y::b,p,h,i=>by
   have c:=Z9.mp h;have d:=Z9.mp i;have e:x=y:=by
    have f:y∈x::a:=p.mem_iff.mpr (Zd);have g:x∈y::b:=p.mem_iff.mp (Zd);rcases Y5.mp f with e|f
    ·exact e.symm
    ·rcases Y5.mp g with e|g
     ·exact e
     ·exact Ez (d.1 x g) (c.1 y f)
   subst e;rw[rK (List.Perm.cons_inv p) c.2 d.2]
section
variable{prog:C5}{w:World}{A:Around}{E:A3}{s:Shared}{b fin:Bool}{Q:Bool->B2}
theorem Bl:∀{xs ys:B5}{x y:C1} (i:Nat),IntsAre xs x->IntsAre ys y->fin=decide (x.length<y.length)->Q (dF x y) s->KatLex prog w A b fin Q (xs.zip ys) i s
 |[],[],_,_,i,.nil,.nil,d,q=>by have e:fin=false:=d;subst e;exact kat_nil q
 |[],_::_,_,_,i,.nil,.cons m u r,d,q=>by
   have e:fin=true:=by rw[d];simp
   subst e;exact kat_nil q
 |_::_,[],_,_,i,.cons m u r,.nil,d,q=>by
   have e:fin=false:=by rw[d];simp
   subst e;exact kat_nil q
 |_::xs,_::ys,_,_,i,.cons m t (ns:=x) r,.cons n u (ns:=y) r',d,q=>by
   rw[Cb];refine kat_cons ((intKind prog w).eqBool (a:=m) (b:=n) (C7 _ _ _ _) (C7 _ _ _ _) ?_);by_cases c:m=n
   ·rw[Zg c];have f:Q (dF x y) s:=by rw[dF,YK c]at q;exact q
    exact kat_yes (Bl (i+1) r r' (by rw[d];simp) f)
   ·rw[ZQ c];have f:Q (decide (m<n)) s:=by rw[dF,YQ c]at q;exact q
    refine kat_no ?_;cases(b&&i==0)with
    |true=>exact oneLt_int f
    |false=>exact kat_one _ _ (PySem.P.lt_int f)
end
def TupAt(h:Heap)(v:Value)(t:C1):Prop:=t≠[]/\∃a b,v=.ref a/\IsTup h a b/\IntsAre b.toList t
abbrev gQ(h:Heap):B5->A7->Prop:=Paired (TupAt h)
theorem pI:∀{xs:List α}{ys:List β}{i:Nat}{x:α}{y:β},Paired R xs ys->xs[i]?=some x->ys[i]?=some y->R x y
 |_,_,0,_,_,.cons r _,a,b=>by cases a;cases b;exact r
 |_,_,i+1,_,_,.cons _ t,a,b=>pI (i:=i) t a b
theorem gQ.keep(k:∀a aE,IsTup h a aE->IsTup h' a aE):∀{vs:B5}{ts:A7},gQ h vs ts->gQ h' vs ts
 |_,_,.nil=>.nil
 |_,_,.cons ⟨n,a,aE,e,i,q⟩ t=>.cons ⟨n,a,aE,e,k _ _ i,q⟩ (gQ.keep k t)
section
variable{prog:C5}{w:World}{A:Around}{E:A3}{s:Shared}
theorem yx:∀{vs:B5}{ts:A7},gQ h vs ts->∃fs,KatTups h vs fs/\fs.length=vs.length/\∀v∈fs,∃i t,v=.int i t
 |_,_,.nil=>⟨[],.nil,rfl,λv hv=>by cases hv⟩
 |_,_,.cons r tl=>by
   obtain⟨fs,k,l,q⟩:=yx tl;obtain⟨ne,a,aE,rfl,⟨o,ho,hc,n,hd⟩,hi⟩:=r;obtain⟨l'⟩:=aE;cases hi with
   |nil=>exact absurd rfl ne
   |cons i t r2=>
     refine⟨_::fs,KatTups.cons ho hc hd rfl k,by simp[l],λv hv=>?_⟩
     rcases Y5.mp hv with rfl|hv
     ·exact⟨i,t,rfl⟩
     ·exact q v hv
def Jr(h:gQ s.heap vs ts)(h1:0<vs.length)(q:Q (tuples' true) s):wq prog w A (keyKind' vs.toArray) Q E s:=by obtain⟨b,k,l,f⟩:=yx h;exact kat_kind (T:=.type "int") k (by lia) (λv a=>by obtain⟨i,t,rfl⟩:=f v a;exact Looks.of_pure rfl) (by decide) q
def Lq(h:gQ s.heap vs ts)(g:i<vs.length)(k:j<vs.length)(q:C (dF (ts.getD i []) (ts.getD j [])) s):kas_ask prog w A (tuples' true) vs i j C s:=by
 have y:=DZ h;unfold kas_ask;have n:vs.getD i Value.none=vs[i]:=by simp[g]
 have o:vs.getD j Value.none=vs[j]:=by simp[k]
 have p:ts.getD i []=ts[i]'(by lia):=by simp[show i<ts.length by lia]
 have r:ts.getD j []=ts[j]'(by lia):=by simp[show j<ts.length by lia]
 rw[n,o];rw[p,r]at q;obtain⟨_,a,t,u,⟨z,c,_,I,d⟩,l⟩:=pI (i:=i) h (YS g) (YS (by lia))
 obtain⟨_,b,v,x,⟨O,e,_,nb,f⟩,m⟩:=pI (i:=j) h (YS k) (YS (by lia))
 rw[u,x];refine kat_lt c d e f (Bl 0 l m ?_ q);have:=BI l;have:=BI m;simp at *;congr 1
 lia
end
def Sq{ts:A7}(i j:Nat):YI iM (λi=>ts.getD i []) i j=dF (ts.getD i []) (ts.getD j []):=by
 by_cases h:dF (ts.getD i []) (ts.getD j [])=true
 ·rw[h];have:¬iM.le (ts.getD j []) (ts.getD i []):=λz=>by have z:dF (ts.getD i []) (ts.getD j [])=false:=z;rw[h]at z;cases z
  unfold YI;rw[@decide_eq_false _ (iM.dec _ _) this];rfl
 ·have h:dF (ts.getD i []) (ts.getD j [])=false:=by simpa using h
  have:iM.le (ts.getD j []) (ts.getD i []):=h;unfold YI;rw[h,@decide_eq_true _ (iM.dec _ _) this];rfl
def Vf{p:B9}{ts:A7}{n:Nat}(h:SU iM (λi=>ts.getD i []) p n)(hs:p.size=n):mW (p.toList.map λi=>ts.getD i []):=by
 rw[mW,BM,Bn];intro i j d e a;have b:i<p.size:=by simpa using d
 have c:j<p.size:=by simpa using e
 have z:dF (ts.getD (p.getD j 0) []) (ts.getD (p.getD i 0) [])=false:=h i j (NR a) (by lia)
 have f:p.getD i 0=p.toList[i]:=by simp[Array.getD,b]
 have g:p.getD j 0=p.toList[j]:=by simp[Array.getD,c]
 rw[f,g]at z;exact z
section
variable{prog:C5}{w:World}{A:Around}{E:A3}{s:Shared}
structure tj(vs:B5)(ts:A7)(is:C0):Prop where
 lt:∀i∈is,i<vs.length
 pm:is.Perm (List.range vs.length)
 ij:mW (is.map λi=>ts.getD i [])
def xF(ho:s.heap.get? a=some (seqObj "list" vs.toArray n))
  (hT:gQ s.heap vs ts) (I:vs.length<64)
  (h:∀is,tj vs ts is->P (.done (.ret .none)) {s with heap:=sortedHeap s.heap a vs (is.map λi=>vs.getD i Value.none).toArray}) :
  wq prog w A (Builtin.«list.sort» ⟨[.ref a],[]⟩) P E s:=by
 have hl:=DZ hT;rw[list_sort_plain];have ha:a<s.z:=YW ho;refine YF (listItems_at ho rfl ?_);refine YF (BE ho rfl ?_);obtain⟨O,l⟩:∃O,(s.heap.update a (Obj.mapSeq λZ=>#[])).get? a=some (seqObj "list" #[] O):=⟨_,wn ho (λZ=>#[])⟩
 refine YF (seqEpoch_at l rfl ?_);refine YF (wpAny_newTuple ?_);refine YF (wpAny_newList ?_);refine ZF ?_;have c:(((s.heap.update a (Obj.mapSeq λZ=>#[])).push (seqObj "tuple" vs.toArray 0)).push (seqObj "list" #[] 0)).get? a=some (seqObj "list" #[] O):=by
  rw[yB _ _ _ (by rw[size_push',y8];exact Y6 (IP ha)),yB _ _ _ (by rw[y8];exact Y6 ha)]
  exact l
 have kp:∀b aE,IsTup s.heap b aE->IsTup (((s.heap.update a (Obj.mapSeq λZ=>#[])).push (seqObj "tuple" vs.toArray 0)).push (seqObj "list" #[] 0)) b aE:=λb aE k=>by
  obtain⟨o,k,y,r⟩:=k;have ne:b≠a:=λz=>by subst z;rw[ho]at k;cases k;have y:Value.type "list"=Value.type "tuple":=y;exact absurd y (by decide)
  have lt:=YW k;refine⟨o,?_,y,r⟩;rw[yB _ _ _ (by rw[size_push',y8];exact Y6 (IP lt)),yB _ _ _ (by rw[y8];exact Y6 lt),vT _ _ _ _ ne]
  exact k
 have m:=hT.keep kp;show wq prog w A _ P E {s with heap:=((s.heap.update a (Obj.mapSeq λZ=>#[])).push (seqObj "tuple" vs.toArray 0)).push (seqObj "list" #[] 0)}
 dsimp only;have g:vs.toArray.size=vs.length:=by simp
 by_cases h2:vs.toArray.size<2
 ·rw[YK h2,YK h2];refine YF (YG ?_);rw[StateT.run_pure];refine YF (YG ?_);dsimp only;refine YF (seqEpoch_at c rfl ?_);refine YF (BE c rfl ?_ (hsz2:=by rw[Array.size_map];show(pairsOf vs).size<=_;rw[pairsOf_size,MX];lia))
  simp only[bne_self_eq_false,Bool.false_eq_true,if_false];have d:=h (List.range vs.length) ⟨λi t=>YX.mp t,.refl _,by
   rw[g]at h2
   match vs,h2 with
   |[],_=>exact List.Pairwise.nil
   |[_],_=>exact List.pairwise_singleton _ _
   |_::_::_,z=>simp at z;lia⟩
  have e:((List.range vs.length).map λi=>vs.getD i Value.none).toArray=(arrOf (SortSt.mk' general' (vs.toArray.zip vs.toArray) #[] 7 none)).map (·.2):=by
   show _=(vs.toArray.zip vs.toArray).map (·.2);rw[g]at h2
   match vs,h2 with
   |[],_=>simp
   |[_],_=>simp
   |_::_::_,z=>simp at z;lia
  rw[e]at d;exact YG d
 ·rw[YQ h2,YQ h2];rw[g]at h2;refine YF (Jr m (by lia) ?_)
  obtain⟨su,pm⟩:=RN (R:=iM) (v:=λi=>ts.getD i []) (n:=vs.length) (by lia)
  have pl:(aP (YI iM λi=>ts.getD i []) (kas_sort vs.length)).toList.Perm (List.range vs.length):=by simpa using Array.perm_iff_toList_perm.mp pm
  have d:=h (aP (YI iM λi=>ts.getD i []) (kas_sort vs.length)).toList ⟨λi t=>YX.mp (pl.mem_iff.mp t),pl,by exact Vf su (by have:=pl.length_eq;simp only[Array.length_toList,List.length_range]at this;exact this)⟩
  have ask:(kas_sort vs.length).kasWp (kas_ask prog w A (tuples' true) vs) (λp u=>p=aP (YI iM λi=>ts.getD i []) (kas_sort vs.length)/\u={s with heap:=((s.heap.update a (Obj.mapSeq λZ=>#[])).push (seqObj "tuple" vs.toArray 0)).push (seqObj "list" #[] 0)}) {s with heap:=((s.heap.update a (Obj.mapSeq λZ=>#[])).push (seqObj "tuple" vs.toArray 0)).push (seqObj "list" #[] 0)}:=
   Gh (o:=YI iM λi=>ts.getD i []) (λi j C t hj q=>Lq m t hj (by
    have e:YI iM (λi=>ts.getD i []) i j=dF (ts.getD i []) (ts.getD j []):=by exact Sq _ _
    rw[e]at q;exact q)) _ (RM (by lia)) ⟨rfl,rfl⟩
  refine YF (Zh (kat_run (Q:=λf u=>arrOf f=(aP (YI iM λi=>ts.getD i []) (kas_sort vs.length)).map (kas_item (vs.toArray.zip vs.toArray))/\failedOf f=none/\u={s with heap:=((s.heap.update a (Obj.mapSeq λZ=>#[])).push (seqObj "tuple" vs.toArray 0)).push (seqObj "list" #[] 0)})
   rfl (by lia) I (λp' f u a1 a2 a3 a4=>by obtain⟨rfl,rfl⟩:=a4;exact⟨a2,a3,rfl⟩) ask) ?_ λZ Z e=>e)
  rintro⟨⟨⟩,f⟩ u ⟨U,hf,rfl⟩;dsimp only;have x:=kat_snds (vs:=vs) rfl U;refine YF (seqEpoch_at c rfl ?_);rw[x];refine YF (BE c rfl ?_ (hsz2:=by rw[Za,YT,MX];have:=pl.length_eq;simp at this ⊢;lia))
  rw[hf];simp only[bne_self_eq_false,Bool.false_eq_true,if_false];exact YG d
end
end LB
namespace L2
open PyProof.Rows LS LB
theorem lJ:∀{ns:C1}{us:B5},ZN (ns.map V.int) us->IntsAre us ns
 |[],_,.nil=>.nil
 |n::ns,_,.cons r t=>by obtain⟨k,rfl⟩:=r;exact .cons _ _ (lJ t)
end L2
namespace LB
open PySem PySem.W PySem.Calls PyProof.Rows
end LB
namespace L2
open PyProof.Rows LS LB
end L2
namespace LB
open L2
open PyProof.Rows hiding St
open Sem (wp)
end LB
namespace LA
open PySem LS
noncomputable def qG(m:Nat)(p:SetTable.Probe):SetTable.Probe:=
 if p.more>0 then{p with j:=p.j+1,more:=p.more-1}else
 {p with j:=(SetTable.leap m p.i p.perturb).1,more:=SetTable.runEnd m (SetTable.leap m p.i p.perturb).1-(SetTable.leap m p.i p.perturb).1,i:=(SetTable.leap m p.i p.perturb).1,perturb:=(SetTable.leap m p.i p.perturb).2}
def rs(m i q:Nat):SetTable.Probe:={j:=i,more:=SetTable.runEnd m i-i,i:=i,perturb:=q,dummy:=none}
def st(m:Nat)(h:Int):SetTable.Probe:=rs m (SetTable.bits h%(m+1)) (SetTable.bits h)
def pr(m:Nat)(h:Int):Nat->SetTable.Probe
 |0=>st m h
 |n+1=>qG m (pr m h n)
def J(m:Nat)(h:Int)(n:Nat):Nat:=(pr m h n).j
theorem BK(m:Nat)(h:Int):∀n,(pr m h n).dummy=none
 |0=>rfl
 |n+1=>by have a:=BK m h n;show(qG m (pr m h n)).dummy=none;unfold qG;split<;>exact a
def lp(m:Nat)(h:Int):Nat->Nat×Nat
 |0=>(SetTable.bits h%(m+1),SetTable.bits h)
 |n+1=>SetTable.leap m (lp m h n).1 (lp m h n).2
def Vl(m i:Nat):SetTable.runEnd m i-i<=9:=by unfold SetTable.runEnd;split<;>lia
def Cr(m i:Nat):i<=SetTable.runEnd m i:=by unfold SetTable.runEnd;split<;>lia
def Cu(h:i<=m):SetTable.runEnd m i<=m:=by unfold SetTable.runEnd;split<;>lia
theorem qX(e:pr m h n=rs m i q):∀k,k<=SetTable.runEnd m i-i->pr m h (n+k)={rs m i q with j:=i+k,more:=SetTable.runEnd m i-i-k}
 |0,_=>e
 |k+1,b=>by
   have a:=qX e k (by lia)
   show qG m (pr m h (n+k))=_;rw[a];unfold qG;rw[YK (by show SetTable.runEnd m i-i-k>0;lia)]
   show SetTable.Probe.mk _ _ _ _ _=SetTable.Probe.mk _ _ _ _ _;congr 1
def NK(e:pr m h n=rs m i q):pr m h (n+(SetTable.runEnd m i-i)+1)=rs m (SetTable.leap m i q).1 (SetTable.leap m i q).2:=by
 have:=qX e _ (YL _);show qG m (pr m h (n+(SetTable.runEnd m i-i)))=_;rw[this];unfold qG;rw[YQ (by show¬SetTable.runEnd m i-i-(SetTable.runEnd m i-i)>0;lia)]
 rfl
def bg(m:Nat)(h:Int):Nat->Nat
 |0=>0
 |L+1=>bg m h L+(SetTable.runEnd m (lp m h L).1-(lp m h L).1)+1
theorem Pa(m:Nat)(h:Int):∀L,pr m h (bg m h L)=rs m (lp m h L).1 (lp m h L).2
 |0=>rfl
 |L+1=>NK (Pa m h L)
theorem O9(m:Nat)(h:Int):∀L,bg m h L<=10*L
 |0=>YL _
 |L+1=>by
   have:=O9 m h L;have:=Vl m (lp m h L).1;show bg m h L+(SetTable.runEnd m (lp m h L).1-(lp m h L).1)+1<=_
   lia
def yX(m:Nat)(h:Int)(L k:Nat)(a:k<=SetTable.runEnd m (lp m h L).1-(lp m h L).1):J m h (bg m h L+k)=(lp m h L).1+k:=by unfold J;rw[qX (Pa m h L) k a]
theorem Ug(m:Nat)(h:Int):∀L,(lp m h L).2=SetTable.bits h / 32^L
 |0=>by simp[lp]
 |L+1=>by show(lp m h L).2 / 32=_;rw[Ug m h L,Nat.div_div_eq_div_mul,Nat.pow_succ]
def Qp(h:Int):SetTable.bits h<2^64:=by
 unfold SetTable.bits;have a:=Int.emod_nonneg h (show(2^64:Int)≠0 by decide)
 have b:=Int.emod_lt_of_pos h (show(0:Int)<2^64 by decide)
 have e:((2^64:Int))=((2^64:Nat):Int):=by norm_cast
 lia
def Q0(m:Nat)(h:Int)(L:Nat):(lp m h (13+L)).2=0:=by
 rw[Ug];refine Nat.div_eq_of_lt (Y0 (Qp h) ?_);have:(32:Nat)^13<=32^(13+L):=Fc (by decide) (by lia)
 exact Zx (by decide) this
def lX(m:Nat):Nat->Nat->Nat
 |0,i=>i
 |k+1,i=>(lX m k i*5+1)%(m+1)
theorem Jz(m:Nat)(h:Int):∀k,(lp m h (13+k)).1=lX m k (lp m h 13).1
 |0=>rfl
 |k+1=>by show((lp m h (13+k)).1*5+1+(lp m h (13+k)).2 / 32)%(m+1)=_;rw[Q0,Jz m h k];rfl
def Pr(m:Nat)(h:Int):∀L,(lp m h L).1<=m
 |0=>ya (OY _ (by lia))
 |L+1=>ya (OY _ (by lia))
def MK(m:Nat):Prop:=m=7\/m=31
def Qt:∀{m:Nat},MK m->∀i s,i<=m->s<=m->∃k,k<=m/\lX m k i=s:=by
 intro m c i s f g;have d:∀i:Fin 8,∀s:Fin 8,((List.range 8).any λk=>lX 7 k i==s)=true:=by decide
 have a:∀i:Fin 32,∀s:Fin 32,((List.range 32).any λk=>lX 31 k i==s)=true:=by decide +kernel
 rcases c with rfl|rfl
 ·have:=d ⟨i,by lia⟩ ⟨s,by lia⟩
  obtain⟨k,b,e⟩:=GB.mp this;exact⟨k,by have:=YX.mp b;lia,by simpa using e⟩
 ·have:=a ⟨i,by lia⟩ ⟨s,by lia⟩
  obtain⟨k,b,e⟩:=GB.mp this;exact⟨k,by have:=YX.mp b;lia,by simpa using e⟩
def Jy(a:MK m)(h:Int)(hs:s<=m):∃L,L<m+15/\(lp m h L).1=s:=by obtain⟨k,b,e⟩:=Qt a _ s (Pr m h 13) hs;exact⟨13+k,by lia,by rw[Jz];exact e⟩
def CH(a:MK m)(h:Int)(hs:s<=m):∃n,n<10*(m+15)/\J m h n=s:=by
 obtain⟨L,b,e⟩:=Jy a h hs;refine⟨bg m h L,by have:=O9 m h L;lia,?_⟩
 have:=yX m h L 0 (Z8 _);rw[Nat.add_zero,Nat.add_zero]at this;rw[this,e]
def Aq{P:Nat->Prop}:∀{n:Nat},P n->∃k,k<=n/\P k/\∀m,m<k->¬P m:=by
 intro n;induction n using Nat.strongRecOn with
 |ind n ih=>
   intro h;by_cases c:∃m,m<n/\P m
   ·obtain⟨m,hm,hp⟩:=c;obtain⟨k,h1,h2,h3⟩:=ih m hm hp;exact⟨k,by lia,h2,h3⟩
   ·exact⟨n,YL _,h,λm hm hp=>c ⟨m,hm,hp⟩⟩
def J1:∀(m:Nat) (l:C0),l.length<=m->∃s,s<=m/\s∉l:=by
 intro m;induction m with
 |zero=>intro l hl;exact⟨0,YL _,by have:l=[]:=wh.mp (by lia);rw[this];simp⟩
 |succ m ih=>
   intro l hl;by_cases c:m+1∈l
   ·obtain⟨s,h1,h2⟩:=ih (l.erase (m+1)) (by rw[List.length_erase_of_mem c];lia)
    exact⟨s,by lia,λz=>h2 ((List.mem_erase_of_ne (by lia)).mpr z)⟩
   ·exact⟨m+1,YL _,c⟩
def MF{m:Nat}(a:MK m)(h:Int){l:C0}(hl:l.length<=m):∃n,n<10*(m+15)/\J m h n∉l/\∀k,k<n->J m h k∈l:=by
 obtain⟨s,b,c⟩:=J1 m l hl;obtain⟨n,j,e⟩:=CH a h b;obtain⟨k,o,d,f⟩:=Aq (P:=λn=>J m h n∉l) (n:=n) (by rw[e];exact c)
 exact⟨k,by lia,d,λi g=>Classical.byContradiction λz=>f i g z⟩
set_option tactic.hygienic true in
def R4:∀n,J m h n<=m:=by
 have key:∀n,(pr m h n).i<=m/\(pr m h n).j+(pr m h n).more<=m:=by
  intro n;induction n with
  |zero=>
    have a:SetTable.bits h%(m+1)<=m:=ya (OY _ (by lia))
    have b:=Cu a;have c:=Cr m (SetTable.bits h%(m+1));exact⟨a,by show SetTable.bits h%(m+1)+(SetTable.runEnd m _-_)<=m;lia⟩
  |succ n ih=>
    show(qG m (pr m h n)).i<=m/\(qG m (pr m h n)).j+(qG m (pr m h n)).more<=m;unfold qG;split
    ·rename_i c;exact⟨ih.1,by show(pr m h n).j+1+((pr m h n).more-1)<=m;lia⟩
    ·have a:(SetTable.leap m (pr m h n).i (pr m h n).perturb).1<=m:=ya (OY _ (by lia))
     have b:=Cu a;have c:=Cr m (SetTable.leap m (pr m h n).i (pr m h n).perturb).1;exact⟨a,by show(SetTable.leap m (pr m h n).i (pr m h n).perturb).1+(SetTable.runEnd m _-_)<=m;lia⟩
 intro n;have:=(key n).2;unfold J
 lia
end LA
namespace LA
open PySem LS PyProof.Rows
def KC(ti:TI L t)(h:j∈t.place.toList):∃i,t.slot j=.live i/\t.place[i]?=some j:=by
 obtain⟨k,c,rfl⟩:=ZV.mp h;have a:k<t.place.size:=by simpa using c
 have b:=Sj ti.ij a;refine⟨k,?_,?_⟩
 ·unfold SetTable.slot;simp only[Array.getElem_toList];rw[b];simp[Array.getElem?_eq_getElem a]
 ·simp[Array.getElem?_eq_getElem a]
def CG(ti:TI L t)(h:j∉t.place.toList):t.slot j=.empty:=by
 unfold SetTable.slot;have n:¬(t.place[SetTable.below t.place j]?==some j)=true:=λz=>by
  have z:t.place[SetTable.below t.place j]?=some j:=by simpa using z
  exact h (by have:=Array.mem_of_getElem? z;simpa using this)
 simp only[n];have:SetTable.has t.dummies j=false:=by rw[ti.kr];unfold SetTable.has;simp
 simp[this]
section
variable{L:Bool}{t:SetTable}{ha:Nat->Int}{h:Int}
theorem xm(ti:TI L t):∀(k a n:Nat),k<=a->(∀m,n<=m->m<n+k->∃i,t.slot (J t.mask h m)=.live i/\ha i≠h)->SetTable.probe.go t ha h a (pr t.mask h n)=SetTable.probe.go t ha h (a-k) (pr t.mask h (n+k))
 |0,a,n,_,_=>rfl
 |k+1,0,n,b,_=>by lia
 |k+1,a+1,n,b,hs=>by
   obtain⟨i,h1,h2⟩:=hs n (YL _) (by lia)
   have h1:t.slot (pr t.mask h n).j=.live i:=h1;have c:(ha i==h)=false:=by simpa using h2
   have e:SetTable.probe.go t ha h (a+1) (pr t.mask h n)=SetTable.probe.go t ha h a (pr t.mask h (n+1)):=by
    show(match t.slot (pr t.mask h n).j with
     |.empty=>some (SetTable.Met.empty (pr t.mask h n).j (pr t.mask h n).dummy)
     |.dummy=>SetTable.probe.go t ha h a (t.advance {pr t.mask h n with dummy:=some (pr t.mask h n).j})
     |.live i=>if ha i==h then some (.candidate (pr t.mask h n).j i (t.advance (pr t.mask h n)))else SetTable.probe.go t ha h a (t.advance (pr t.mask h n)))=_
    rw[h1];dsimp only;rw[c];rfl
   rw[e,xm ti k a (n+1) (by lia) λm h1 h2=>hs m (by lia) (by lia)]
   congr 1
   ·lia
   ·congr 1;lia
def Ng(ti:TI L t)(c:k<fuel)(hs:∀m,n<=m->m<n+k->∃i,t.slot (J t.mask h m)=.live i/\ha i≠h)(a:J t.mask h (n+k)∉t.place.toList):SetTable.probe.go t ha h fuel (pr t.mask h n)=some (.empty (J t.mask h (n+k)) none):=by
 rw[xm ti k fuel n (by lia) hs]
 obtain⟨f,e⟩:∃f,fuel-k=f+1:=⟨fuel-k-1,by lia⟩
 rw[e];have b:t.slot (pr t.mask h (n+k)).j=.empty:=CG ti a
 show(match t.slot (pr t.mask h (n+k)).j with
      |.empty=>some (SetTable.Met.empty (pr t.mask h (n+k)).j (pr t.mask h (n+k)).dummy)
      |.dummy=>_
      |.live i=>_)=_
 rw[b];dsimp only;rw[BK];rfl
def QQ(ti:TI L t)(d:k<fuel)(hs:∀m,n<=m->m<n+k->∃i,t.slot (J t.mask h m)=.live i/\ha i≠h)(a:t.slot (J t.mask h (n+k))=.live i)(b:ha i=h):SetTable.probe.go t ha h fuel (pr t.mask h n)=some (.candidate (J t.mask h (n+k)) i (pr t.mask h (n+k+1))):=by
 rw[xm ti k fuel n (by lia) hs]
 obtain⟨f,e⟩:∃f,fuel-k=f+1:=⟨fuel-k-1,by lia⟩
 rw[e];have c:t.slot (pr t.mask h (n+k)).j=.live i:=a
 show(match t.slot (pr t.mask h (n+k)).j with
      |.empty=>_
      |.dummy=>_
      |.live i=>if ha i==h then some (SetTable.Met.candidate (pr t.mask h (n+k)).j i (t.advance (pr t.mask h (n+k))))else _)=_
 rw[c];dsimp only;rw[YK (by simpa using b)]
 rfl
end
abbrev iK(prog:C5)(w:World):=intKind prog w
def hT(prog:C5)(w:World)(k:C1):Int:=tupleKeyHash (iK prog w) k
def ent(prog:C5)(w:World)(c:Addr×C1):Int×Value:=(hT prog w c.2,.ref c.1)
structure TT(prog:C5)(w:World)(L:Bool)(t:SetTable)(cs:A1):Prop where
 ti:TI L t
 kG:MK t.mask
 len:t.place.size=cs.length
 bd:∀s∈t.place.toList,s<=t.mask
 fl:cs.length<=t.mask
 rc:∀z∈t.place.toList.zip cs,∃n,J t.mask (hT prog w z.2.2) n=z.1/\∀m,m<n->J t.mask (hT prog w z.2.2) m∈t.place.toList
 plain:t.plain=true
abbrev qF(prog:C5)(w:World)(h:Heap)(cs:A1):Prop:=∀c∈cs,IsTupleKey (iK prog w) h c.2 c.1
section
variable{prog:C5}{w:World}{A:Around}{E:A3}{s:Shared}{L:Bool}{t:SetTable}{cs:A1}{a:Addr}{ep:Nat}
def uy(ho:s.heap.get? b=some o)(hd:o.data=.seq items n)(q:Q (some items) s):wq prog w A (seqItems? (.ref b)) Q E s:=by unfold seqItems?;refine YF (BN ho ?_);rw[hd];exact YG q
def items_int(h:ItemsAre (iK prog w) ks vs):∀v∈vs,∃i u,v=.int i u:=by
 induction h with
 |nil=>intro v hv;cases hv
 |cons h1 _ ih=>
   intro v hv;rcases Y5.mp hv with rfl|hv
   ·obtain⟨u,e⟩:=Bc h1;exact⟨_,u,e⟩
   ·exact ih v hv
def Br(f:IsTupleKey (iK prog w) s.heap k b)(q:Q false s):wq prog w A (ofAClassStatement 8 (.ref b)) Q E s:=by
 have hT:=f.typeIs;obtain⟨o,d,n,g,_,h,j⟩:=f;have l:=items_int j;unfold ofAClassStatement;refine YF (FA hT ?_);dsimp only;refine YF (YG ?_);simp only[Bool.not_true,Bool.false_eq_true,if_false];refine YF (uy g h ?_);dsimp only;refine YF ?_;rw[<-Array.forIn_toList];refine wpAny_forIn_list _ (λrest r e=>r=(none,())/\e=s/\∀v∈rest,∃i u,v=.int i u) _ ?_ ?_ _ _ ⟨rfl,rfl,l⟩
 ·rintro x rest r e ⟨rfl,rfl,c⟩;obtain⟨i,u,rfl⟩:=c x Zd;refine YF (YG ?_);exact YG ⟨rfl,rfl,λv m=>c v (Zq _ m)⟩
 ·rintro r e ⟨rfl,rfl,_⟩;exact YG q
def G7(f:IsTupleKey (iK prog w) s.heap k b)(q:Q true s):wq prog w A (hashByValue 8 (.ref b)) Q E s:=by
 have hT:=f.typeIs;obtain⟨o,d,n,g,_,h,j⟩:=f;have l:=items_int j;unfold hashByValue;refine YF (wpAny_specialOf hT F.slot_tuple_hash.lookup ?_);dsimp only;refine YF (uy g h ?_);refine YF ?_;show wpAny _ _ (forIn d _ _) _ _ _;rw[<-Array.forIn_toList];refine wpAny_forIn_list _ (λrest r e=>r=(none,())/\e=s/\∀v∈rest,∃i u,v=.int i u) _ ?_ ?_ _ _ ⟨rfl,rfl,l⟩
 ·rintro x rest r e ⟨rfl,rfl,c⟩;obtain⟨i,u,rfl⟩:=c x Zd;refine YF (YG ?_);exact YG ⟨rfl,rfl,λv m=>c v (Zq _ m)⟩
 ·rintro r e ⟨rfl,rfl,_⟩;exact YG q
def NQ(f:IsTupleKey (iK prog w) s.heap k b)(hl:∀v∈l,∃b' k',v=.ref b'/\IsTupleKey (iK prog w) s.heap k' b')(q:Q false s):wq prog w A (searchCouldBeSeen (.ref b) l) Q E s:=by
 unfold searchCouldBeSeen;refine YF ?_;refine wpAny_forIn_list _ (λrest r e=>r=(none,())/\e=s/\∀v∈rest,∃b' k',v=.ref b'/\IsTupleKey (iK prog w) s.heap k' b') _ ?_ ?_ _ _ ⟨rfl,rfl,hl⟩
 ·rintro x rest r e ⟨rfl,rfl,c⟩;obtain⟨b',k',rfl,d⟩:=c x Zd;have nx:∀v∈rest,∃b' k',v=.ref b'/\IsTupleKey (iK prog w) e.heap k' b':=λv g=>c v (Zq _ g)
  dsimp only;split
  ·exact YG ⟨rfl,rfl,nx⟩
  ·refine YF (wpAny_eqIsQuiet_tuple f ?_);simp only[Bool.not_true,Bool.false_eq_true,if_false];refine YF (wpAny_eqIsQuiet_tuple d ?_);simp only[Bool.not_true,Bool.false_eq_true,if_false];refine YF (Br f ?_);simp only[Bool.false_eq_true,if_false];refine YF (Br d ?_);simp only[Bool.false_eq_true,if_false];exact YG ⟨rfl,rfl,nx⟩
 ·rintro r e ⟨rfl,rfl,_⟩;exact YG q
end
abbrev bL(prog:C5)(w:World)(cs:A1):A5:=(cs.map (ent prog w)).toArray
section
variable{prog:C5}{w:World}{A:Around}{E:A3}{s:Shared}{L:Bool}{t:SetTable}{cs:A1}{a:Addr}{ep:Nat}
theorem TT.fits(T:TT prog w L t cs):t.fits (bL prog w cs).size=true:=by unfold SetTable.fits SetTable.fill;have b:=T.len;have c:=T.fl;have d:=T.ti.kr;simp[d,b,c]
def TT.led(T:TT prog w L t cs):t.gaveWay=false:=by unfold SetTable.gaveWay;rcases T.kG with e|e<;>rw[e]<;>rfl
def TT.at(T:TT prog w L t cs){i j:Nat}(h:t.place[i]?=some j):∃c,cs[i]?=some c/\(j,c)∈t.place.toList.zip cs:=by
 have b:i<t.place.size:=(xh.mp h).1;have d:i<cs.length:=by rw[<-T.len];exact b
 refine⟨cs[i],YS d,?_⟩;have e:t.place[i]=j:=by obtain⟨_,e⟩:=xh.mp h;exact e
 have f:i<(t.place.toList.zip cs).length:=by simp;lia
 have:(t.place.toList.zip cs)[i]=(j,cs[i]):=by simp[e]
 rw[<-this];exact OA f
theorem TT.slot(T:TT prog w L t cs){j:Nat}(h:j∈t.place.toList):∃i c,t.slot j=.live i/\cs[i]?=some c/\(j,c)∈t.place.toList.zip cs:=by obtain⟨i,b,d⟩:=KC T.ti h;obtain⟨c,e,f⟩:=T.at d;exact⟨i,c,b,e,f⟩
def TT.ku(T:TT prog w L t cs)(h:c∈cs):∃j,(j,c)∈t.place.toList.zip cs:=by
 obtain⟨i,b,rfl⟩:=ZV.mp h;have e:i<t.place.size:=by rw[T.len];exact b
 obtain⟨g,d,f⟩:=T.at (i:=i) (j:=t.place[i]) (HA e);rw[YS b]at d;cases d;exact⟨_,f⟩
def TT.inj(T:TT prog w L t cs)(h1:(j,c)∈t.place.toList.zip cs)(h2:(j,c')∈t.place.toList.zip cs):c=c':=by
 obtain⟨i,h,e⟩:=ZV.mp h1;obtain⟨i',b,d⟩:=ZV.mp h2;simp only[List.getElem_zip,Prod.mk.injEq]at e d;have f:i<t.place.toList.length:=by simp at h;simp;lia
 have g:i'<t.place.toList.length:=by simp at b;simp;lia
 have:i=i':=by
  have r:t.place.toList.Pairwise (·< ·):=T.ti.ij;rcases Bi i i' with c|c|c
  ·have:=Bn.mp r i i' f g c;lia
  ·exact c
  ·have:=Bn.mp r i' i g f c;lia
 subst this;exact e.2.symm.trans d.2
def tK{i:Nat}(h:cs[i]?=some c):(bL prog w cs)[i]?=some (ent prog w c):=by simp[h]
def Ww{i:Nat}(h:cs[i]?=some c):((bL prog w cs)[i]?.map (·.1)).getD 0=hT prog w c.2:=by rw[tK h];rfl
variable{b:Addr}{k:C1}
set_option tactic.hygienic true in
theorem ux(hu:A.units<cLine)(ho:s.heap.get? a=some (aW (bL prog w cs) ep t))(T:TT prog w L t cs)(H:qF prog w s.heap cs)(hk:IsTupleKey (iK prog w) s.heap k b){N:Nat}(hN:N<10*(t.mask+15))(l:J t.mask (hT prog w k) N∉t.place.toList)(q:∀m,m<N->J t.mask (hT prog w k) m∈t.place.toList)
  {Q:SetFound->B2} (q1:k∈cs.map (·.2)->Q (.there none) s) (q2:k∉cs.map (·.2)->Q (.free (J t.mask (hT prog w k) N) false) s) :
  ∀(h n:Nat) (sd:Option SetTable.Probe),sd.getD (t.probeStart (hT prog w k))=pr t.mask (hT prog w k) n->n≤N->N-n<h->(∀m,m<n->∀c,(J t.mask (hT prog w k) m,c)∈t.place.toList.zip cs->c.2≠k)->
    wq prog w A (setSearchFrom a (.ref b) (hT prog w k) true h sd) Q E s
 |0,n,sd,_,_,hf,_=>by lia
 |h+1,n,sd,hs,hn,hf,bp=>by
   unfold setSearchFrom;refine YF (NS ho rfl T.fits ?_);dsimp only;rw[T.led];simp only[Bool.false_eq_true,if_false];rw[hs]
   -- the next place that is empty or has the same hash
   obtain⟨m,hm1,g,o⟩:=Aq (P:=λd=>n+d=N\/∃i,t.slot (J t.mask (hT prog w k) (n+d))=.live i/\(((bL prog w cs)[i]?.map (·.1)).getD 0)=hT prog w k) (n:=N-n) (.inl (by lia))
   have I:n+m<=N:=by clear g o;lia
   have skip:∀d,n<=d->d<n+m->∃i,t.slot (J t.mask (hT prog w k) d)=.live i/\(((bL prog w cs)[i]?.map (·.1)).getD 0)≠hT prog w k:=λd h1 h2=>by
    have nn:=o (d-n) (by clear g o;lia)
    rw[show n+(d-n)=d by lia]at nn
    obtain⟨i,c,O,_,_⟩:=T.slot (q d (Y0 h2 I));exact⟨i,O,λz=>nn (.inr ⟨i,O,z⟩)⟩
   have f:∀d,d<n+m->∀c,(J t.mask (hT prog w k) d,c)∈t.place.toList.zip cs->c.2≠k:=λd h1 c r=>by
    by_cases z:d<n
    ·exact bp d z c r
    ·obtain⟨i,O,e2⟩:=skip d (Nat.le_of_not_lt z) h1;obtain⟨i',c',e1',e3,e4⟩:=T.slot (q d (Y0 h1 I));rw[O]at e1';cases e1';have:=T.inj r e4;subst this;rw[Ww e3]at e2;exactλz=>e2 (by rw[z])
   rcases g with g|⟨i,U,hh⟩
   ·have pg:t.probe (λi=>((bL prog w cs)[i]?.map (·.1)).getD 0) (hT prog w k) (pr t.mask (hT prog w k) n)=some (.empty (J t.mask (hT prog w k) (n+m)) none):=Ng T.ti (by show m<10*(t.mask+15);lia) skip (by rw[g];exact l)
    rw[g]at pg;generalize hpg:SetTable.probe t _ (hT prog w k) (pr t.mask (hT prog w k) n)=X;obtain rfl:X=some (.empty (J t.mask (hT prog w k) N) none):=hpg.symm.trans pg;refine YG (q2 λz=>?_)
    obtain⟨c,r,e⟩:=Ze.mp z;obtain⟨j,hj⟩:=T.ku r;obtain⟨n0,e0,h0⟩:=T.rc _ hj;dsimp only at e0 h0;rw[e]at e0 h0;have lt:n0<N:=by
     rcases Nat.lt_or_ge n0 N with x|x
     ·exact x
     ·exfalso
      rcases Nat.lt_or_eq_of_le x with y|y
      ·exact l (h0 N y)
      ·subst y;have:j∈t.place.toList:=(FY hj).1;rw[<-e0]at this;exact l this
    exact f n0 (by rw[g];exact lt) c (by rw[e0];exact hj) e
   ·have hi':=U;have iN:n+m<N:=by
     rcases Nat.lt_or_eq_of_le I with x|x
     ·exact x
     ·rw[x,CG T.ti l]at U;cases U
    obtain⟨i',c,O,e3,e4⟩:=T.slot (q (n+m) iN);rw[U]at O;cases O;have pg:t.probe (λi=>((bL prog w cs)[i]?.map (·.1)).getD 0) (hT prog w k) (pr t.mask (hT prog w k) n)=some (.candidate (J t.mask (hT prog w k) (n+m)) i (pr t.mask (hT prog w k) (n+m+1))):=QQ T.ti (by show m<10*(t.mask+15);clear o;lia) skip U hh
    generalize hpg:SetTable.probe t _ (hT prog w k) (pr t.mask (hT prog w k) n)=X;obtain rfl:X=some (.candidate (J t.mask (hT prog w k) (n+m)) i (pr t.mask (hT prog w k) (n+m+1))):=hpg.symm.trans pg;dsimp only;have r:IsTupleKey (iK prog w) s.heap c.2 c.1:=H c (FY e4).2;have hl:∀v∈((bL prog w cs).filter (λx=>x.1==hT prog w k)).toList.map (·.2),∃b' k',v=.ref b'/\IsTupleKey (iK prog w) s.heap k' b':=λv hv=>by
     obtain⟨e,he,rfl⟩:=Ze.mp hv;have he:e∈(bL prog w cs).toList:=by have:=Array.mem_toList_iff.mp he;exact Array.mem_toList_iff.mpr (Array.mem_filter.mp this).1
     have he:e∈cs.map (ent prog w):=he;obtain⟨c,r,rfl⟩:=Ze.mp he;exact⟨c.1,c.2,rfl,H c r⟩
    have sm:t.sameMemory t.moves t.mask=some true:=by simp[SetTable.sameMemory]
    have u:=ux hu ho T H hk hN l q q1 q2 h (n+m+1) (some (pr t.mask (hT prog w k) (n+m+1))) rfl (by lia) (by clear o;lia)
    have mem:c.2=k->k∈cs.map (·.2):=λz=>Ze.mpr ⟨c,(FY e4).2,z⟩
    split
    ·refine YF (NQ hk hl ?_);simp only[Bool.false_eq_true,if_false];rw[tK e3];dsimp only[ent];refine YF (ZF (wpAny_eqBool_tuple hu r hk ?_));refine YF (NS ho rfl T.fits ?_);dsimp only;by_cases ek:c.2=k
     ·rw[Zg ek];exact YG (q1 (mem ek))
     ·rw[ZQ ek];simp only[Bool.and_false,Bool.false_eq_true,if_false];rw[sm];dsimp only;rw[YK rfl,U];dsimp only;rw[tK e3];dsimp only[ent];refine YF (wpAny_isSame_ref_self ?_);refine YF (YG ?_);refine u λd hd c' p=>?_
      by_cases z:d=n+m
      ·subst z;have:=T.inj p e4;rw[this];exact ek
      ·exact f d (by lia) c' p
    ·rw[tK e3];dsimp only[ent];refine YF (ZF (wpAny_eqBool_tuple hu r hk ?_));refine YF (NS ho rfl T.fits ?_);dsimp only;by_cases ek:c.2=k
     ·rw[Zg ek];exact YG (q1 (mem ek))
     ·rw[ZQ ek];simp only[Bool.and_false,Bool.false_eq_true,if_false];rw[sm];dsimp only;rw[YK rfl,U];dsimp only;rw[tK e3];dsimp only[ent];refine YF (wpAny_isSame_ref_self ?_);refine YF (YG ?_);refine u λd hd c' p=>?_
      by_cases z:d=n+m
      ·subst z;have:=T.inj p e4;rw[this];exact ek
      ·exact f d (by lia) c' p
def Hj(g:A.units<cLine)(ho:s.heap.get? a=some (aW (bL prog w cs) ep t))(T:TT prog w L t cs)(H:qF prog w s.heap cs)(i:IsTupleKey (iK prog w) s.heap k b)(j:k∈cs.map (·.2)->Q (.there none) s)(o:k∉cs.map (·.2)->∀n,J t.mask (hT prog w k) n∉t.place.toList->(∀m,m<n->J t.mask (hT prog w k) m∈t.place.toList)->Q (.free (J t.mask (hT prog w k) n) false) s):
  wq prog w A (setSearch a (.ref b) (hT prog w k) true) Q E s:=by
 obtain⟨N,c,d,f⟩:=MF T.kG (hT prog w k) (l:=t.place.toList) (by rw[Z6,T.len];exact T.fl)
 unfold setSearch;refine ux g ho T H i c d f j (λz=>o z N d f) 100000 0 none rfl (Z8 _) ?_ (λm h=>by lia)
 rcases T.kG with e|e<;>rw[e]at c<;>lia
end
def NF(t:SetTable)(cs:A1):Prop:=cs.length*5<t.mask*3
def m5(cs:A1)(p:Nat)(c:Addr×C1):A1:=cs.take p++c::cs.drop p
def qY(cs:A1)(p:Nat)(c:Addr×C1):(m5 cs p c).Perm (cs++[c]):=by unfold m5;refine List.perm_middle.trans ?_;rw[wo];exact(List.perm_append_singleton c cs).symm
section
variable{prog:C5}{w:World}{L:Bool}{t:SetTable}{cs:A1}{b:Addr}{k:C1}
def Th(p:Nat):SetTable.insertAt (bL prog w cs) p (hT prog w k,.ref b)=bL prog w (m5 cs p (b,k)):=by apply Array.toList_inj.mp;rw[xw];simp[m5,ent,List.map_take,List.map_drop]
def U0(ti:TI L t)(a:j∉t.place.toList):t.put j=({t with place:=SetTable.insertAt t.place (SetTable.below t.place j) j},SetTable.below t.place j):=by
 unfold SetTable.put;have:SetTable.has t.dummies j=false:=by rw[ti.kr];unfold SetTable.has;simp
 rw[this];rfl
def TT.put(T:TT prog w L t cs)(o:NF t cs)(h1:J t.mask (hT prog w k) n∉t.place.toList)(h2:∀m,m<n->J t.mask (hT prog w k) m∈t.place.toList):
  TT prog w L {t with place:=SetTable.insertAt t.place (SetTable.below t.place (J t.mask (hT prog w k) n)) (J t.mask (hT prog w k) n)} (m5 cs (SetTable.below t.place (J t.mask (hT prog w k) n)) (b,k)):=by
 have d:=(jg T.ti.ij (J t.mask (hT prog w k) n)).le;have a:=vZ T.ti.ij h1;have l:J t.mask (hT prog w k) n<=t.mask:=R4 n;generalize hj:J t.mask (hT prog w k) n=j at h1 d a l;generalize SetTable.below t.place j=p at d a;have f:(SetTable.insertAt t.place p j).toList=t.place.toList.take p++j::t.place.toList.drop p:=xw _ _ _;have sub:∀x∈t.place.toList,x∈(SetTable.insertAt t.place p j).toList:=λx c=>by
  rw[f,Zb,Y5];rw[<-wo p t.place.toList,Zb]at c;rcases c with h|h
  ·exact .inl h
  ·exact .inr (.inr h)
 have q:=T.len;have I:=T.fl;refine⟨⟨a,T.ti.kr,T.ti.led⟩,T.kG,?_,?_,?_,?_,T.plain⟩
 ·show(SetTable.insertAt t.place p j).size=_;rw[<-Z6,f,(qY cs p (b,k)).length_eq];simp
  lia
 ·intro x c;have c:x∈t.place.toList.take p++j::t.place.toList.drop p:=f▸c;rcases Zb.mp c with h|h
  ·exact T.bd x (CL h)
  ·rcases Y5.mp h with rfl|h
   ·exact l
   ·exact T.bd x (wv h)
 ·rw[(qY cs p (b,k)).length_eq];unfold NF at o;have:=T.kG;unfold MK at this;simp;show cs.length+1<=t.mask
  lia
 ·intro z g;have r:(SetTable.insertAt t.place p j).toList.zip (m5 cs p (b,k))=(t.place.toList.zip cs).take p++(j,(b,k))::(t.place.toList.zip cs).drop p:=by
   rw[f];unfold m5;have s:(t.place.toList.take p).zip (cs.take p)=(t.place.toList.zip cs).take p:=by unfold List.zip;rw[List.take_zipWith]
   have u:(t.place.toList.drop p).zip (cs.drop p)=(t.place.toList.zip cs).drop p:=by unfold List.zip;rw[List.drop_zipWith]
   rw[List.zip_append (by simp;lia),Cb,s,u]
  have g:z∈(t.place.toList.zip cs).take p++(j,(b,k))::(t.place.toList.zip cs).drop p:=r▸g;have e:z∈t.place.toList.zip cs->∃n,J t.mask (hT prog w z.2.2) n=z.1/\∀m,m<n->J t.mask (hT prog w z.2.2) m∈(SetTable.insertAt t.place p j).toList:=λh=>by obtain⟨n,v,y⟩:=T.rc z h;exact⟨n,v,λm i=>sub _ (y m i)⟩
  rcases Zb.mp g with h|h
  ·exact e (CL h)
  ·rcases Y5.mp h with rfl|h
   ·exact⟨n,hj,λm i=>sub _ (h2 m i)⟩
   ·exact e (wv h)
end
structure Ow(m:Nat)(hs:C1)(sl:C0)(ow:Array (Option Nat)):Prop where
 sz:ow.size=m+1
 len:sl.length=hs.length
 nd:sl.Nodup
 le:∀s∈sl,s<=m
 own:∀(k:Nat) (hk:k<sl.length),ow[sl[k]]?=some (some k)
 aT:∀j,j<=m->j∉sl->ow[j]?=some none
 rc:∀(k:Nat) (hk:k<sl.length) (h:Int),hs[k]?=some h->∃n,J m h n=sl[k]/\∀i,i<n->J m h i∈sl
theorem Ow.isNone(o:Ow m hs sl ow)(a:j<=m):(ow.getD j (some 0)).isNone=decide (j∉sl):=by
 by_cases c:j∈sl
 ·obtain⟨k,b,rfl⟩:=ZV.mp c;rw[Z1,o.own k b];simp
 ·rw[Z1,o.aT j a c];simp[c]
theorem El(o:Ow m hs sl ow)(h:Int)(d:(lp m h L0).1∉sl):∀(a L:Nat),L<=L0->L0<L+a->(∀i,i<bg m h L->J m h i∈sl)->
  ∃n,SetTable.layClean.free m ow a (lp m h L).1 (lp m h L).2=some (J m h n)/\J m h n∉sl/\∀i,i<n->J m h i∈sl
 |0,L,h1,h2,_=>by lia
 |a+1,L,h1,h2,l=>by
   have r:=Pr m h L;have y:=Cr m (lp m h L).1;have I:=Cu r;unfold SetTable.layClean.free;cases hf:(List.range (SetTable.runEnd m (lp m h L).1+1-(lp m h L).1)).find? (λk=>(ow.getD ((lp m h L).1+k) (some 0)).isNone)with
   |some k=>
     dsimp only;obtain⟨p,as,O,g,s⟩:=List.find?_eq_some_iff_append.mp hf;have t:k<SetTable.runEnd m (lp m h L).1+1-(lp m h L).1:=YX.mp (by rw[g];simp)
     have q:=yX m h L k (by lia)
     have u:as.length=k/\∀i,i<k->i∈as:=by
      have e:(List.range (SetTable.runEnd m (lp m h L).1+1-(lp m h L).1))[as.length]?=some k:=by rw[g];simp
      have v:as.length<SetTable.runEnd m (lp m h L).1+1-(lp m h L).1:=by
       have:=congrArg List.length g;simp at this
       lia
      rw[ZG v]at e;have w:as.length=k:=by simpa using e
      refine⟨w,λi j=>?_⟩
      have:(List.range (SetTable.runEnd m (lp m h L).1+1-(lp m h L).1))[i]?=as[i]?:=by rw[g,Y9 (by lia)]
      rw[ZG (by lia)]at this
      exact Zk this.symm
     refine⟨bg m h L+k,by rw[q],?_,λi j=>?_⟩
     ·rw[q];rw[o.isNone (by lia)]at p
      simpa using p
     ·by_cases c:i<bg m h L
      ·exact l i c
      ·have:=s (i-bg m h L) (u.2 _ (by lia))
       rw[o.isNone (by lia)]at this
       have b:=yX m h L (i-bg m h L) (by lia)
       rw[show bg m h L+(i-bg m h L)=i by lia]at b
       rw[b];simpa using this
   |none=>
     dsimp only;have f:∀k,k<=SetTable.runEnd m (lp m h L).1-(lp m h L).1->(lp m h L).1+k∈sl:=λk t=>by
      have:=List.find?_eq_none.mp hf k (YX.mpr (by lia))
      rw[o.isNone (by lia)]at this
      simpa using this
     have U:L≠L0:=λz=>by subst z;have:=f 0 (Z8 _);exact d this
     have x:=El o h d a (L+1) (by lia) (by lia) λi j=>by
      by_cases c:i<bg m h L
      ·exact l i c
      ·have j:i<bg m h L+(SetTable.runEnd m (lp m h L).1-(lp m h L).1)+1:=j;have b:=yX m h L (i-bg m h L) (by lia)
       rw[show bg m h L+(i-bg m h L)=i by lia]at b
       rw[b];exact f _ (by lia)
     exact x
def Ow.zero(m:Nat):Ow m [] [] (Array.replicate (m+1) none):=⟨by simp,rfl,List.nodup_nil,λs h=>(by cases h),λk h=>(by cases h),λj a z=>by rw[Array.getElem?_replicate,YK (by lia)],λk h=>(by cases h)⟩
def Ow.add(o:Ow m hs sl ow)(h1:J m h n∉sl)(h2:∀i,i<n->J m h i∈sl):Ow m (hs++[h]) (sl++[J m h n]) (ow.setIfInBounds (J m h n) (some hs.length)):=by
 have jl:J m h n<=m:=R4 n;have t:J m h n<ow.size:=by rw[o.sz];lia
 have u:=o.len;refine⟨by simp[o.sz],by simp[o.len],?_,λs f=>?_,λk g=>?_,λj v l=>?_,λk g w d=>?_⟩
 ·rw[EI];exact⟨o.nd,by simp,λa x b r=>by simp at r;subst r;exactλz=>h1 (z▸x)⟩
 ·rcases Zb.mp f with z|z
  ·exact o.le s z
  ·simp at z;lia
 ·by_cases c:k<sl.length
  ·have e:(sl++[J m h n])[k]=sl[k]:=List.getElem_append_left c;have y:J m h n≠sl[k]:=λz=>h1 (z▸OA c)
   rw[e,Array.getElem?_setIfInBounds_ne y];exact o.own k c
  ·have p:k=sl.length:=by simp at g;lia
   subst p;have e:(sl++[J m h n])[sl.length]=J m h n:=by simp
   rw[e,Array.getElem?_setIfInBounds_self_of_lt t,o.len]
 ·rw[Zb,not_or]at l;rw[Array.getElem?_setIfInBounds_ne (λz=>l.2 (by simp[z]))]
  exact o.aT j v l.1
 ·by_cases c:k<sl.length
  ·have e:(sl++[J m h n])[k]=sl[k]:=List.getElem_append_left c;rw[e];rw[Y9 (by lia)]at d
   obtain⟨I,O,U⟩:=o.rc k c w d;exact⟨I,O,λi q=>Z2 _ (U i q)⟩
  ·have p:k=sl.length:=by simp at g;lia
   subst p;have e:(sl++[J m h n])[sl.length]=J m h n:=by simp
   rw[e];rw[o.len,List.getElem?_concat_length]at d;cases d;exact⟨n,rfl,λi q=>Z2 _ (h2 i q)⟩
noncomputable def oH(m:Nat)(acc:Option (Array (Option Nat)×Nat))(h:Int):Option (Array (Option Nat)×Nat):=acc.bind λp=>(SetTable.layClean.free m p.1 (SetTable.turns m) (SetTable.bits h%(m+1)) (SetTable.bits h)).bind λj=>some (p.1.setIfInBounds j (some p.2),p.2+1)
theorem Bh(f:MK m):∀(rest hs:C1) (d:C0) (b:Array (Option Nat)),Ow m hs d b->hs.length+rest.length<=m->∃c a,rest.foldl (oH m) (some (b,hs.length))=some (a,(hs++rest).length)/\Ow m (hs++rest) c a
 |[],hs,d,b,o,_=>⟨d,b,by simp,by simpa using o⟩
 |h::rest,hs,d,b,o,hl=>by
   obtain⟨s,h1,h2⟩:=J1 m d (by rw[o.len];simp at hl;lia)
   obtain⟨L0,u,g⟩:=Jy f h h1;obtain⟨n,e,j,k⟩:=El o h (L0:=L0) (by rw[g];exact h2) (SetTable.turns m) 0 (Z8 _) (by unfold SetTable.turns;lia) (λi l=>by cases l)
   have e:SetTable.layClean.free m b (SetTable.turns m) (SetTable.bits h%(m+1)) (SetTable.bits h)=some (J m h n):=e;have p:=o.add j k;obtain⟨c,a,q,r⟩:=Bh f rest (hs++[h]) _ _ p (by simp at hl ⊢;lia)
   refine⟨c,a,?_,by simpa using r⟩
   rw[OF];have t:oH m (some (b,hs.length)) h=some (b.setIfInBounds (J m h n) (some hs.length),(hs++[h]).length):=by unfold oH;rw[zn,e,zn];simp
   rw[t,q];simp
def T8(hm:MK m)(hl:hs.length<=m):∃sl ow,SetTable.layClean m hs.toArray=some ow/\Ow m hs sl ow:=by
 obtain⟨sl,ow,e,o⟩:=Bh hm hs [] [] _ (Ow.zero m) (by simpa using hl)
 refine⟨sl,ow,?_,by simpa using o⟩
 have key:∀(l:C1) (x:Option (Array (Option Nat)×Nat)),List.foldl (λacc h=>do
  let(owner,k) <-acc
  let j <-SetTable.layClean.free m owner (SetTable.turns m) (SetTable.bits h%(m+1)) (SetTable.bits h)
  pure (owner.setIfInBounds j (some k),k+1)) x l=l.foldl (oH m) x:=by
  intro l;induction l with
  |nil=>intro x;rfl
  |cons a l ih=>intro x;exact ih _
 unfold SetTable.layClean;rw[List.foldl_toArray];have:=key hs (some (Array.replicate (m+1) none,0));have e:hs.foldl (oH m) (some (Array.replicate (m+1) none,0))=some (ow,hs.length):=by simpa using e
 exact(congrArg (Option.map (·.1)) (this.trans e))
def bF(m:Nat)(a:Array (Option Nat)):List (Nat×Nat):=(List.range (m+1)).filterMap λj=>(a.getD j none).map (j,·)
def Nt(m:Nat)(d:Array (Option Nat)):(bF m d).Pairwise λa b=>a.1<b.1:=by
 unfold bF;refine List.Pairwise.filterMap (R:=λ(a b:Nat)=>a<b) _ (λa b c x e y f=>?_) AZ
 obtain⟨_,_,rfl⟩:=YM.mp e;obtain⟨_,_,rfl⟩:=YM.mp f;exact c
def fG(o:Ow m hs sl ow):(j,k)∈bF m ow↔sl[k]?=some j:=by
 unfold bF;rw[zo];constructor
 ·rintro⟨h,a,e⟩;obtain⟨l,b,g⟩:=YM.mp e;cases g;have a:=YX.mp a;by_cases c:j∈sl
  ·obtain⟨i,d,rfl⟩:=ZV.mp c;have:=o.own i d;rw[Z1,this]at b;have:i=k:=by simpa using b
   subst this;exact YS d
  ·have:=o.aT j (by lia) c
   rw[Z1,this]at b;cases b
 ·intro e;obtain⟨f,rfl⟩:=YJ.mp e;refine⟨sl[k],YX.mpr (by have:=o.le _ (OA f);lia),?_⟩
  rw[Z1,o.own k f];rfl
def Jv(o:Ow m hs sl ow):((bF m ow).map (·.2)).Perm (List.range hs.length):=by
 have c:((bF m ow).map (·.2)).Nodup:=by
  rw[List.Nodup,BM];refine List.Pairwise.imp_of_mem ?_ (Nt m ow);rintro⟨j,k⟩ ⟨n,d⟩ f g i e;dsimp only at i e;subst e;have a:=(fG o).mp f;have b:=(fG o).mp g;rw[a]at b;cases b
  lia
 refine(wx c List.nodup_range).mpr λk=>?_
 rw[YX,<-o.len,Ze];constructor
 ·rintro⟨⟨j,d⟩,h,rfl⟩;exact(YJ.mp ((fG o).mp h)).1
 ·intro l;exact⟨(sl[k],k),(fG o).mpr (YS l),rfl⟩
section
variable{prog:C5}{w:World}{A:Around}{E:A3}{s:Shared}{L:Bool}{t:SetTable}{cs:A1}{a b:Addr}{k:C1}
def lG(cs:A1)(m:Nat)(c:Array (Option Nat)):A1:=(bF m c).map λz=>cs.getD z.2 (0,[])
def Kg(o:Ow m hs sl ow)(hl:hs.length=cs.length):(lG cs m ow).Perm cs:=by
 have:=(Jv o).map λi=>cs.getD i (0,[])
 unfold lG;rw[Zo]at this;refine this.trans ?_;rw[hl];have e:(List.range cs.length).map (λi=>cs.getD i (0,[]))=cs:=by
  apply Kt
  ·simp
  ·intro i c d;simp at c ⊢
   rw[YS c];rfl
 rw[e]
def Eu(o:Ow m hs sl ow)(h:z∈bF m ow):z.2<hs.length:=by
 have:=(YJ.mp ((fG o).mp (show(z.1,z.2)∈bF m ow from h))).1
 rw[o.len]at this;exact this
def Kh(hm:MK m)(T:TT prog w L t cs)(hl:cs.length*5<m*3):∃ow,SetTable.laid m t.finger (t.movedTo m) t.led t.plain ((bL prog w cs).map (·.1))=some ({mask:=m,place:=((bF m ow).map (·.1)).toArray,dummies:=#[],finger:=t.finger,led:=t.led,moves:=t.movedTo m,plain:=t.plain},((bF m ow).map (·.2)).toArray) /\
  TT prog w L {mask:=m,place:=((bF m ow).map (·.1)).toArray,dummies:=#[],finger:=t.finger,led:=t.led,moves:=t.movedTo m,plain:=t.plain} (lG cs m ow)/\(lG cs m ow).Perm cs/\((bF m ow).map (·.2)).toArray.filterMap ((bL prog w cs)[·]?)=bL prog w (lG cs m ow):=by
 have eh:(bL prog w cs).map (·.1)=(cs.map λc=>hT prog w c.2).toArray:=by simp[ent,Function.comp_def]
 obtain⟨sl,ow,e,o⟩:=T8 hm (hs:=cs.map λc=>hT prog w c.2) (by simp;lia)
 have la:SetTable.laid m t.finger (t.movedTo m) t.led t.plain ((bL prog w cs).map (·.1))=some ({mask:=m,place:=((bF m ow).map (·.1)).toArray,dummies:=#[],finger:=t.finger,led:=t.led,moves:=t.movedTo m,plain:=t.plain},((bF m ow).map (·.2)).toArray):=by rw[eh];unfold SetTable.laid;rw[e];rfl
 have hlen:(cs.map λc=>hT prog w c.2).length=cs.length:=by simp
 have pm:=Kg (cs:=cs) o hlen;refine⟨ow,la,⟨?_,hm,?_,?_,?_,?_,T.plain⟩,pm,?_⟩
 ·have:=Er la;rw[T.ti.led]at this;refine⟨this.ij,rfl,T.ti.led⟩
 ·simp[lG]
 ·intro s hs;obtain⟨z,hz,rfl⟩:=Ze.mp (show s∈(bF m ow).map (·.1) by simpa using hs)
  have:=(fG o).mp (show(z.1,z.2)∈bF m ow from hz)
  exact o.le _ (Zk this)
 ·rw[pm.length_eq];show cs.length<=m
  lia
 ·intro z hz;have ez:(((bF m ow).map (·.1)).toArray.toList).zip (lG cs m ow)=(bF m ow).map λz=>(z.1,cs.getD z.2 (0,[])):=by unfold lG;rw[List.zip_map']
  have hz:z∈(bF m ow).map λz=>(z.1,cs.getD z.2 (0,[])):=ez▸hz
  obtain⟨y,hy,rfl⟩:=Ze.mp hz;have hy':=(fG o).mp (show(y.1,y.2)∈bF m ow from hy)
  have yl:=Eu o hy;rw[hlen]at yl;obtain⟨hk,ek⟩:=YJ.mp hy';obtain⟨n,e1,e2⟩:=o.rc y.2 hk (hT prog w (cs[y.2]).2) (by rw[Y8,YS yl];rfl)
  have eg:cs.getD y.2 (0,[])=cs[y.2]:=by simp[yl]
  refine⟨n,?_,λi hi=>?_⟩
  ·show J m (hT prog w (cs.getD y.2 (0,[])).2) n=y.1;rw[eg,e1,ek]
  ·show J m (hT prog w (cs.getD y.2 (0,[])).2) i∈_;rw[eg];obtain⟨q,hq,eq⟩:=ZV.mp (e2 i hi);have:(sl[q],q)∈bF m ow:=(fG o).mpr (YS hq);show J m (hT prog w (cs[y.2]).2) i∈((bF m ow).map (·.1)).toArray.toList;rw[<-eq];exact Ze.mpr ⟨_,this,rfl⟩
 ·apply Array.toList_inj.mp;rw[Array.toList_filterMap];show List.filterMap _ ((bF m ow).map (·.2))=(lG cs m ow).map (ent prog w);unfold lG;rw[List.filterMap_map,Zo];have:∀l:List (Nat×Nat),(∀z∈l,z.2<cs.length)->List.filterMap ((λx=>(bL prog w cs)[x]?) ∘ λz:Nat×Nat=>z.2) l=l.map (ent prog w ∘ λz=>cs.getD z.2 (0,[])):=by
   intro l;induction l with
   |nil=>intro _;rfl
   |cons z l ih=>
     intro h;have hz:=h z Zd;rw[Zj,BB];have e:((λx=>(bL prog w cs)[x]?) ∘ λz:Nat×Nat=>z.2) z=some (ent prog w (cs.getD z.2 (0,[]))):=by show(bL prog w cs)[z.2]?=_;rw[tK (YS hz)];simp[hz]
     rw[e,ih λy hy=>h y (Zq _ hy)]
     rfl
  exact this _ λz hz=>by have:=Eu o hz;rw[hlen]at this;exact this
def UH(prog:C5)(w:World)(L:Bool)(h:Heap)(a:Addr)(cs:A1):Prop:=∃c d t,c.Perm cs/\h.get? a=some (aW (bL prog w c) d t)/\TT prog w L t c/\NF t c
def Ej(h:cs.length<=18):(bL prog w cs).size<=sizeLine:=by rw[MX];simp;lia
def Dz(hu:A.units<cLine)(hS:UH prog w L s.heap a cs)(H:qF prog w s.heap cs)(y:IsTupleKey (iK prog w) s.heap k b)(O:cs.length+1<=18)
  (h:∀h' r,Heap.SameBut a s.heap h'->UH prog w L h' a (if k∈cs.map (·.2)then cs else cs++[(b,k)])->Q r {s with heap:=h'}):wq prog w A (setAddHashed a (.ref b) (hT prog w k)) Q E s:=by
 obtain⟨eS,ep,t,j,l,T,u⟩:=hS;have H':qF prog w s.heap eS:=λc hc=>H c (j.mem_iff.mp hc)
 have pl:=j.length_eq;unfold setAddHashed;refine ZF ?_;unfold setAddHashedIn;refine YF (NS l rfl T.fits ?_);dsimp only;have bs:byScan (.ref b) (bL prog w eS)=false:=rfl;rw[bs];simp only[Bool.false_eq_true,if_false];refine YF (Hj hu l T H' y (λm=>?_) λm n U n2=>?_)
 ·have v:k∈cs.map (·.2):=(j.map _).mem_iff.mp m;have q:=h s.heap false (Heap.SameBut.refl a s.heap) (by rw[YK v];exact⟨eS,ep,t,j,l,T,u⟩)
  have e:s={s with heap:=s.heap}:=by cases s;rfl
  rw[e];exact YG q
 ·have v:k∉cs.map (·.2):=λz=>m ((j.map _).mem_iff.mpr z)
  rw[YQ v]at h;dsimp only;refine YF (NS l rfl T.fits ?_);dsimp only;rw[U0 T.ti U];dsimp only;rw[YK (show t.plain=true from T.plain)]
  refine YF (G7 y ?_);simp only[if_true];have I:=TT.put (b:=b) T u U n2;rw[Th];have d:(m5 eS (SetTable.below t.place (J t.mask (hT prog w k) n)) (b,k)).Perm (cs++[(b,k)]):=(qY _ _ _).trans (j.append_right _);have l1:(m5 eS (SetTable.below t.place (J t.mask (hT prog w k) n)) (b,k)).length=cs.length+1:=by rw[d.length_eq];simp
  generalize hc1:m5 eS (SetTable.below t.place (J t.mask (hT prog w k) n)) (b,k)=cs1 at I d l1;generalize ht1:({t with place:=SetTable.insertAt t.place (SetTable.below t.place (J t.mask (hT prog w k) n)) (J t.mask (hT prog w k) n)}:SetTable)=t1 at I
  have e1:t1.mask=t.mask:=by rw[<-ht1]
  refine YF (zw l rfl ?_ (Ej (by lia)))
  have p:=tW (es1:=bL prog w cs1) (t1:=t1) l;have b1:=JI s.heap a (Obj.putSet (bL prog w cs1) t1);have fill:t1.fill=cs1.length:=by unfold SetTable.fill;rw[I.ti.kr,I.len];rfl
  have nf0:eS.length*5<t.mask*3:=u;by_cases full:t1.tooFull=true
  ·rw[full];simp only[Bool.not_false,Bool.and_true,if_true];have g:t1.mask*3<=cs1.length*5:=by unfold SetTable.tooFull at full;rw[fill]at full;simpa using full
   have m7:t.mask=7/\cs.length=4:=by
    have:=T.kG;unfold MK at this;rw[e1]at g
    lia
   unfold setRelay;refine YF (YF (NS p rfl I.fits ?_));have sz:(bL prog w eS).size=4:=by simp;lia
   rw[sz];have gr:SetTable.sizeAbove (SetTable.grown (4+1))=32:=by decide
   dsimp only;rw[gr,YQ (by rw[MX];decide)]
   obtain⟨o,la,T2,f,ef⟩:=Kh (m:=31) (.inr rfl) I (by lia)
   have rl:t1.relaid ((bL prog w cs1).map (·.1)) (SetTable.grown (4+1))=some ({mask:=31,place:=((bF 31 o).map (·.1)).toArray,dummies:=#[],finger:=t1.finger,led:=t1.led,moves:=t1.movedTo 31,plain:=t1.plain},((bF 31 o).map (·.2)).toArray):=by unfold SetTable.relaid;rw[gr];exact la
   rw[rl];refine YF ?_;show wq prog w A (if((((bF 31 o).map (·.2)).toArray.filterMap ((bL prog w cs1)[·]?)).size != (bL prog w cs1).size)=true then(unsupported _>>=_)else pure (_,_)) _ _ _
   have x:((((bF 31 o).map (·.2)).toArray.filterMap ((bL prog w cs1)[·]?)).size != (bL prog w cs1).size)=false:=by rw[ef];have:=f.length_eq;simp[this]
   rw[x,YQ (by decide)]
   refine YG ?_;dsimp only;rw[ef];refine zw p rfl ?_ (Ej (by rw[f.length_eq];lia))
   have o2:=tW (es1:=bL prog w (lG cs1 31 o)) (t1:={mask:=31,place:=((bF 31 o).map (·.1)).toArray,dummies:=#[],finger:=t1.finger,led:=t1.led,moves:=t1.movedTo 31,plain:=t1.plain}) p;refine YG (h _ true (b1.trans (JI _ a _)) ⟨_,_,_,f.trans d,o2,T2,?_⟩);unfold NF;rw[f.length_eq];show cs1.length*5<31*3
   lia
  ·have i:(!false&&t1.tooFull)=true↔False:=by simp[full]
   rw[YQ (by rw[i];exact id)]
   refine YF (YG ?_);refine YG (h _ true b1 ⟨cs1,_,t1,d,p,I,?_⟩);unfold NF;unfold SetTable.tooFull at full;rw[fill]at full;simpa using full
end
end LA
namespace L2
open PyProof.Rows LS LA LB
section
variable{prog:C5}{w:World}{A:Around}{R:Result->B2}{s:Shared}
noncomputable def vW(a:Expr)(acc:Value)(env:Env)(k:Sem Fin):Sem Fin:=(eval a env>>=λv=>standAt a.pos>>=λz=>call (.builtin "set.add") [acc,v]>>=λz=>pure ())>>=λz=>k
def Vx(d a b:Expr)(e:B8)(c:Scope)(pos:Pos)(it acc:Value)(env:Env):
  compTurn (.SetComp d [⟨a,b,e,0⟩] c pos) 0 it acc env=WZ ⟨a,b,e,0⟩ (vW d acc env) (.compLoop (.SetComp d [⟨a,b,e,0⟩] c pos) 0 it acc env) it env:=rfl
def QK:lM prog w A (vW elt acc env) (λP s=>wq prog w A (eval elt env) (λx a=>wq prog w A (call (.builtin "set.add") [acc,x]) (λy b=>P b) (λy y=>False) a) (λy y=>False) s):=by intro k Q E s h;unfold vW;exact YF (YF (Zh h (λx a c=>YF (Fm (YF (Zh c (λy b d=>YG d) λy y z=>z.elim)))) λy y z=>z.elim))
end
def pX(P:C5)(w:World)(a:Addr)(cs:A1):HO:=.ext λh=>UH P w (!bK w) h a cs
def yO(h:UH P w L h1 a cs)(k:∀o,h1.get? a=some o->h2.get? a=some o):UH P w L h2 a cs:=by obtain⟨b,c,t,p,e,r⟩:=h;exact⟨b,c,t,p,k _ e,r⟩
def FN(k:UH P w (!bK w) h a cs):Y3 P w H h a (pX P w a cs):=⟨k,by obtain⟨_,_,_,_,e,_⟩:=k;exact⟨_,e⟩,λz z b s=>yO b s⟩
def vR(cs:A1)(c:Addr×C1):A1:=if c.2∈cs.map (·.2)then cs else cs++[c]
def xx(ok:WV P w H h)(hb:H b=some (.tup (k.map V.int))):IsTupleKey (iK P w) h k b:=by
 obtain⟨_,aE,hv,o,ho,hc,n,hd⟩:=ok _ _ hb;refine⟨o,aE.toArray,n,ho,hc,hd,?_⟩;have:∀{ks:C1}{us:B5},ZN (ks.map V.int) us->ItemsAre (iK P w) ks us:=by
  intro ks;induction ks with
  |nil=>intro us h;cases h;exact .nil
  |cons k ks ih=>
    intro us h;cases h with
    |cons r t=>obtain⟨u,rfl⟩:=r;exact .cons (C7 _ _ _ _) (ih t)
 simpa using this hv
section
variable{X:Cx}
def RD(h:X.A.units+1<cLine)(I:Inv X aC σ H s)(i:H a=some (pX X.prog X.w a cs))(m:H b=some (.tup (k.map V.int)))
  (f:∀c∈cs,H c.1=some (.tup (c.2.map V.int))) (d:cs.length+1<=18) (q:∀s',Inv X aC σ (upd H a (pX X.prog X.w a (vR cs (b,k)))) s'->Q .none s') :
  wpAny X.M X.A (call (.builtin "set.add") [.ref a,.ref b]) Q E s:=by
 have j:UH X.prog X.w (!bK X.w) s.heap a cs:=(I.aI _ _ i).1;have tI:s.TypeIs (.ref a) "set":=by obtain⟨_,_,_,_,e,_⟩:=j;exact⟨_,e,rfl⟩
 have l:=xx I.aI m;have n:qF X.prog X.w s.heap cs:=λc p=>xx I.aI (f c p)
 refine Zy F.slot_set_add tI F.entry_set_add ?_ (F.args_set_add_2 _ _);unfold Builtin.«set.add» Builtin.Frozenset.oneOther;simp only[List.isEmpty_nil,bind_assoc];unfold Builtin.Frozenset.addrOf setAdd;refine YF (YG ?_)
 try dsimp only
 refine YF (YG ?_)
 try dsimp only
 refine YF ?_;refine ZF ?_;refine YF (wpAny_pyHash_tuple (knd:=iK X.prog X.w) (by simpa using h) l ?_)
 refine Dz (s:={s with toks:=s.toks+(k.length+1)}) (by simpa using h) j n l d λy r t g=>?_
 show wpAny _ _ (ret Value.none) _ _ _;refine YG ⟨_,rfl,q _ ?_⟩;refine I.write (x:=a) (e:=a) (o:=pX X.prog X.w a (vR cs (b,k))) (by rw[i];trivial) (.inl rfl) (λb u v e=>(t.2 b v).trans e) (by obtain⟨_,_,_,_,e,_⟩:=g;exact⟨_,e⟩) ?_
 exact FN (by unfold vR;exact g)
end
end L2
namespace LA
open PyProof.Rows LS LB
section
variable{prog:C5}{w:World}{A:Around}{E:A3}{s:Shared}
def Dm:∀{l:List α}{m:List β},m.Perm (l.map f)->∃l':List α,l'.Perm l/\m=l'.map f:=by
 intro l m p;generalize e:l.map f=x at p;induction p generalizing l with
 |nil=>exact⟨[],by cases l<;>simp_all,rfl⟩
 |cons x p ih=>
   cases l with
   |nil=>cases e
   |cons a l=>simp only[List.map_cons,List.cons.injEq]at e;obtain⟨l',p',rfl⟩:=ih e.2;exact⟨a::l',p'.cons a,by rw[Zj,e.1]⟩
 |swap x y l0=>
   cases l with
   |nil=>cases e
   |cons a l=>
     cases l with
     |nil=>simp at e
     |cons b l=>simp only[List.map_cons,List.cons.injEq]at e;exact⟨b::a::l,.swap a b l,by simp[e]⟩
 |trans p1 p2 ih1 ih2=>obtain⟨l',q1,e1⟩:=ih2 e;obtain⟨l'',q2,e2⟩:=ih1 e1.symm;exact⟨l'',q2.trans q1,e2⟩
def uz(hh:A.handled=none)(g:UH prog w (!bK w) s.heap a cs)(hT:∀c∈cs,c.2≠[]/\∃aE,IsTup s.heap c.1 aE/\IntsAre aE.toList c.2)(hl:cs.length<=60)
  (h:∀h' tk d' p n (d:A1),d.Perm cs->mW (d.map (·.2))->s.z<=p->h'.get? p=some (seqObj "list" (d.map λc=>Value.ref c.1).toArray n)->(∀b o,s.heap.get? b=some o->h'.get? b=some o)->Q (.ref p) {s with heap:=h',toks:=tk,drawn:=d'}) :
  wq prog w A (call (.builtin "sorted") [.ref a]) Q E s:=by
 obtain⟨c0,ep,t,u,ho,T,nf⟩:=g;refine BC kind_sorted plain_sorted entry_sorted (args_sorted1 _) ?_;unfold Builtin.«sorted»
 refine YF (m:=checkCount "sorted" 1 1 _) (YG ?_);have l0:=u.length_eq;refine YF (qM (by simp[hh]) ho T.fits T.ti (by simp[scanBound];lia) λf tk1 d1 vs hp sz v=>?_)
 have e1:(bL prog w c0).toList.map (·.2)=c0.map λc=>Value.ref c.1:=by simp[ent,Function.comp_def]
 rw[e1]at hp;obtain⟨c1,y,rfl⟩:=Dm hp;have l1:=y.length_eq;have zl:(c1.map λc=>Value.ref c.1).toArray.size<=sizeLine:=by rw[Za,YT,MX];lia
 refine YF (wpAny_newList ?_ zl);have z:(f.push (seqObj "list" (c1.map λc=>Value.ref c.1).toArray 0)).get? f.objs.size=some (seqObj "list" (c1.map λc=>Value.ref c.1).toArray 0):=YZ _ rfl
 have k:∀(l:A1),(∀c∈l,c∈cs)->gQ (f.push (seqObj "list" (c1.map λc=>Value.ref c.1).toArray 0)) (l.map λc=>Value.ref c.1) (l.map (·.2)):=by
  intro l;induction l with
  |nil=>intro _;exact .nil
  |cons c l ih=>intro r;obtain⟨ne,aE,it,ia⟩:=hT c (r c Zd);exact .cons ⟨ne,c.1,aE,rfl,it.keeps λb o e=>YH _ (v b o e),ia⟩ (ih λx hx=>r x (Zq _ hx))
 have I:=k c1 λc r=>u.mem_iff.mp (y.mem_iff.mp r)
 refine YF (ZF (Zy slot_list_sort ⟨_,z,rfl⟩ entry_list_sort (xF z I (by rw[YT];lia) λj O=>⟨_,rfl,?_⟩) (args_list_sort _)))
 obtain⟨e,he⟩:=sortedHeap_at (out:=(j.map λi=>(c1.map λc=>Value.ref c.1).getD i Value.none).toArray) z
 have U:=O.lt;rw[YT]at U;have ev:(j.map λi=>(c1.map λc=>Value.ref c.1).getD i Value.none)=(j.map λi=>c1.getD i (0,[])).map λc=>Value.ref c.1:=by rw[Zo];exact ZJ λi hi=>by have:=U i hi;simp[this]
 have ek:(j.map λi=>(c1.map (·.2)).getD i [])=(j.map λi=>c1.getD i (0,[])).map (·.2):=by rw[Zo];exact ZJ λi hi=>by have:=U i hi;simp[this]
 have pk:(j.map λi=>c1.getD i (0,[])).Perm cs:=by
  have sp:=O.pm;rw[YT]at sp;refine(sp.map _).trans ?_;have e3:(List.range c1.length).map (λi=>c1.getD i (0,[]))=c1:=by
   apply Kt
   ·simp
   ·intro i f h2;simp at f ⊢
    rw[YS f];rfl
  rw[e3];exact y.trans u
 have q:=O.ij;rw[ek]at q;rw[ev]at he ⊢
 refine YG ⟨_,rfl,h _ _ _ f.objs.size e _ pk q sz he λb o eb=>?_⟩
 have lt:=YW (v b o eb);rw[sortedHeap_old (Y6 lt) (by rw[size_push'];exact IP lt)]
 exact YH _ (v b o eb)
end
end LA
namespace L2
open PyProof.Rows LS LA LB
def Ac(hh:X.A.handled=none):YN X (.builtin "sorted") (λxs H Q=>∃(p:Addr) (cs:A1),xs=[.ref p]/\H p=some (pX X.prog X.w p cs)/\(∀c∈cs,c.2≠[]/\H c.1=some (.tup (c.2.map V.int)))/\cs.length<=60/\∀(l:Addr) (eS:A1),H l=none->eS.Perm cs->(eS.map (·.2))=xV (cs.map (·.2))->Q (.ref l) (upd H l (.lst (eS.map λc=>V.ref c.1)))):=by
 intro aC s σ H xs us Q I r1 h;obtain⟨p,cs,rfl,hp,hT,hl,q⟩:=h;cases r1 with
 |cons r rr=>
   cases rr;cases r;have hS:UH X.prog X.w (!bK X.w) s.heap p cs:=(I.aI _ _ hp).1;refine uz hh hS (λc hc=>?_) hl λh2 da d2 l m eS pm ri bo hol k2=>?_
   ·obtain⟨ne,hc'⟩:=hT c hc;obtain⟨_,aE,hv,it⟩:=I.aI _ _ hc';exact⟨ne,aE.toArray,it,by simpa using lJ hv⟩
   ·have zl:(eS.map λc=>V.ref c.1).length<=sizeLine:=by
     rw[YT,pm.length_eq];show _<=2^24
     lia
    have vv:∀l:A1,ZN (l.map λc=>V.ref c.1) (l.map λc=>Value.ref c.1):=by
     intro l;induction l with
     |nil=>exact .nil
     |cons c l ih=>exact .cons rfl ih
    have I2:=I.call (h':=h2) (t':=da) (d':=d2) (g':=s.gens) (ch:=[]) (Un.laid k2 bo (I.aI.fresh bo)) (I.aI.laid (o:=.lst (eS.map λc=>V.ref c.1)) k2 bo ⟨zl,_,m,vv eS,hol⟩) I.bare (λy z=>nomatch z)
    exact⟨.ref l,upd H l (.lst (eS.map λc=>V.ref c.1)),I2,rfl,q l eS (I.aI.fresh bo) pm (rK ((pm.map _).trans (fQ _).1.symm) ri (fQ _).2)⟩
end L2
namespace LA
open PyProof.Rows LS
def dX(cs:A1)(c:Addr×C1):A1:=if c.2∈cs.map (·.2)then cs else cs++[(c.1,c.2)]
def xY(x:IsTupleKey (iK prog w) h k b)(c:∀o,h.get? b=some o->h'.get? b=some o):IsTupleKey (iK prog w) h' k b:=by obtain⟨o,a,n,e,r⟩:=x;exact⟨o,a,n,c _ e,r⟩
theorem uM:∀(l acc:A1),(l.foldl dX acc).length<=acc.length+l.length
 |[],acc=>by simp
 |c::l,acc=>by
   have:=uM l (dX acc c);have a:(dX acc c).length<=acc.length+1:=by unfold dX;split<;>simp
   rw[OF,Z7]
   lia
theorem uN:∀(l acc:A1) {x:Addr×C1}{S:A1},x∈l.foldl dX acc->(x∈acc->x∈S++l)->x∈S++l
 |[],acc,x,S,h,k=>k h
 |c::l,acc,x,S,h,k=>by
   have a:=uN l (dX acc c) (x:=x) (S:=S++[c]) h λz=>by
    unfold dX at z;have:x∈acc\/x=c:=by
     split at z
     ·exact .inl z
     ·rcases Zb.mp z with z|z
      ·exact .inl z
      ·exact .inr (Zi.mp z)
    rcases this with z|rfl
    ·have:=k z;simpa using this
    ·simp
   simpa using a
section
variable{prog:C5}{w:World}{A:Around}{E:A3}{s:Shared}
def Iu(O:A.handled=none)(hl:s.heap.IsList l items)(p:items.toList=all.map λc=>Value.ref c.1)(H:qF prog w s.heap all)(hu:A.units+8<cLine)(hb:all.length<=18)
  (h:∀(h':Heap) (m:Nat),UH prog w (!bK w) h' s.z (all.foldl dX [])->(∀b o,b<s.z->s.heap.get? b=some o->h'.get? b=some o)->Q (.ref s.z) {s with heap:=h',toks:=m}) :
  wq prog w A (call (.type "set") [.ref l]) Q E s:=by
 have U:items.size=all.length:=by rw[<-Z6,p,YT]
 have d:∀c∈all,c.1<s.z:=λc a=>by obtain⟨o,_,_,e,_⟩:=H c a;exact YW e
 refine yq (Sp:=λi h=>UH prog w (!bK w) h s.z ((all.take i).foldl dX [])/\qF prog w h all) O hl (λh' e k=>⟨⟨[],0,.fresh 0 0 (!bK w),.refl _,e,⟨.fresh _ _,.inl rfl,rfl,λs h=>(by cases h),Z8 _,λz h=>(by cases h),rfl⟩,by show 0*5<7*3;decide⟩,λc a=>xY (H c a) λo e=>k _ o (d c a) e⟩)
  (λi h h' g k=>⟨L2.yO g.1 λo e=>k _ o (by simp) e,λc a=>xY (g.2 c a) λo e=>k _ o (λz=>PR.mpr (Nat.le_succ _) (Zi.mp z▸d c a)) e⟩) (λA' i v r Q E hA lt t g q=>?_) (λh' m g k=>h h' m (by have:=g.1;rw[U,xC]at this;exact this) k)
 obtain⟨c,u,rfl⟩:∃c,all[i]?=some c/\v=.ref c.1:=by rw[<-AH,p,Y8]at t;obtain⟨c,e1,n⟩:=YM.mp t;exact⟨c,e1,n.symm⟩
 obtain⟨g,HT⟩:=g;have j:A'.units<cLine:=by lia
 unfold setAdd;have a:=HT c (Zk u);refine ZF (YF (wpAny_pyHash_tuple (knd:=iK prog w) j a ?_));have fl:=uM (all.take i) [];have tl2:(all.take i).length=i:=by rw[LW];lia
 have fs:∀x∈(all.take i).foldl dX [],x∈all:=λx f=>CL (by simpa using uN (all.take i) [] (S:=[]) f (λz=>by cases z))
 refine Dz (s:={r with toks:=r.toks+(c.2.length+1)}) j g (λx f=>HT x (fs x f)) a (by simp at fl;lia) λh' b y I=>?_
 have n:(all.take (i+1)).foldl dX []=if c.2∈((all.take i).foldl dX []).map (·.2)then(all.take i).foldl dX []else(all.take i).foldl dX []++[(c.1,c.2)]:=by rw[List.take_succ,u,List.foldl_append];rfl
 rw[<-n]at I;exact q h' _ b (Nat.le_add_right _ _) y ⟨I,λx f=>xY (HT x f) λo e=>(y.2 _ (Y6 (d x f))).trans e⟩
end
end LA
namespace L2
open PyProof.Rows LS
end L2
namespace L3
open L2
open PyProof.Rows hiding St
inductive D where
 |aT|bl (b:Bool)|int (i:Int)|str (x:Str)
 |tup (l:List D)|lst (l:List D)
 |bG (ks:List Key) (vs:List D)
 |obj (c:Str) (ns:C3) (vs:List D)
 |eB (ns:C1)
 |ref (n:Nat)
 |cls (c:Str)|ty (t:String)
 |dP (a:Addr)
instance:Inhabited D:=⟨.aT⟩
inductive DO where
 |lst (l:List D)
 |bG (ks:List Key) (vs:List D)
 |ins (c:Str) (ns:C3) (vs:List D)
abbrev Mo:=List DO
inductive R(α:Type)where
 |ok (a:α)|exc (c:Str)
def DM(α:Type):=Mo->Option (R α×Mo)
@[reducible] noncomputable def DM.pure{α:Type}(a:α):DM α:=λM=>some (.ok a,M)
noncomputable def DM.bind{α β:Type}(m:DM α)(f:α->DM β):DM β:=λM=>match m M with
 |none=>none
 |some (.exc c,I)=>some (.exc c,I)
 |some (.ok a,I)=>f a I
instance:Monad DM where
 pure:=DM.pure
 bind:=DM.bind
def rd{α:Type}(f:Mo->Option α):DM α:=λM=>(f M).map λa=>(.ok a,M)
def opt{α:Type}(o:Option α):DM α:=λM=>o.map λa=>(.ok a,M)
def stuck{α:Type}:DM α:=λz=>none
def MU{α:Type}(c:Str):DM α:=λM=>some (.exc c,M)
abbrev aj:=List (Option D)
structure Rh where
 st:B7
 vo:B7
instance:Membership Addr Rh:=⟨λb a=>a∈b.st\/a∈b.vo⟩
def Rh.put(ρ:Rh)(p:Addr):Rh:=⟨ρ.st++[p],ρ.vo⟩
def Rh.hold(ρ:Rh)(p:Addr):Rh:=⟨ρ.st,p::ρ.vo⟩
mutual
inductive Cv(mg:A4)(ρ:Rh)(H:Hp):V->D->Prop
 |aT:Cv mg ρ H .aT .aT
 |bl (b:Bool):Cv mg ρ H (.bl b) (.bl b)
 |int (i:Int):Cv mg ρ H (.int i) (.int i)
 |str (x:Str):Cv mg ρ H (.str x) (.str x)
 |tup {a:Addr}{xs:List V}{ds:List D}:a∉ρ->H a=some (.tup xs)->ZE mg ρ H xs ds->Cv mg ρ H (.ref a) (.tup ds)
 |lst {a:Addr}{xs:List V}{ds:List D}:a∉ρ->H a=some (.lst xs)->ZE mg ρ H xs ds->Cv mg ρ H (.ref a) (.lst ds)
 |bG {a:Addr}{ks:List Key}{xs:List V}{ds:List D}:a∉ρ->H a=some (.dK (ks.zip xs))->ks.length=xs.length->ZE mg ρ H xs ds->Cv mg ρ H (.ref a) (.bG ks ds)
 |obj {a C dx:Addr}{c:Str}{ns:C3}{xs:List V}{ds:List D}:a∉ρ->mg c=some (.ref C)->H a=some (.ins C dx (ns.zip xs))->ns.length=xs.length->ZE mg ρ H xs ds->Cv mg ρ H (.ref a) (.obj c ns ds)
 |eB {a:Addr}{ns:C1}:a∉ρ->Rd H a (.lst (ns.map V.int))->Cv mg ρ H (.ref a) (.eB ns)
 |ref {n:Nat}{a:Addr}:ρ.st[n]?=some a->Cv mg ρ H (.ref a) (.ref n)
 |cls {c:Str}{C:Addr}:mg c=some (.ref C)->Cv mg ρ H (.ref C) (.cls c)
 |ty (t:String):Cv mg ρ H (.ty t) (.ty t)
 |dP (a:Addr):Cv mg ρ H (.ref a) (.dP a)
inductive ZE(mg:A4)(ρ:Rh)(H:Hp):List V->List D->Prop
 |nil:ZE mg ρ H [] []
 |cons {v:V}{d:D}{vs:List V}{ds:List D}:Cv mg ρ H v d->ZE mg ρ H vs ds->ZE mg ρ H (v::vs) (d::ds)
end
structure YR(ρ:Rh)(H:Hp)(ρ':Rh)(H':Hp):Prop where
 pre:∃τ,ρ'.st=ρ.st++τ
 vo:ρ'.vo=ρ.vo
 new:∀a,a∈ρ'.st->a∉ρ.st->H a=none
 keep:∀a o,H a=some o->a∉ρ.st->H' a=some o
def YR.refl:YR ρ H ρ H:=⟨⟨[],by simp⟩,rfl,λa h n=>absurd h n,λz z h z=>h⟩
def YR.keeps(e:YR ρ H ρ' H')(h:H a=some o)(n:a∉ρ):H' a=some o:=e.keep a o h λz=>n (.inl z)
def YR.l6(e:YR ρ H ρ' H')(h:H a=some o)(n:a∉ρ.st):a∉ρ'.st:=λz=>by have:=e.new a z n;rw[h]at this;cases this
def YR.out(e:YR ρ H ρ' H')(h:H a=some o)(n:a∉ρ):a∉ρ':=λz=>by
 rcases z with z|z
 ·exact e.l6 h (λy=>n (.inl y)) z
 ·rw[e.vo]at z;exact n (.inr z)
theorem YR.trans(e:YR ρ H ρ1 H1)(f:YR ρ1 H1 ρ2 H2):YR ρ H ρ2 H2:=by
 refine⟨?_,f.vo.trans e.vo,λa h n=>?_,λa o h n=>f.keep a o (e.keep a o h n) (e.l6 h n)⟩
 ·obtain⟨b,c⟩:=e.pre;obtain⟨d,g⟩:=f.pre;exact⟨b++d,by rw[g,c,IM]⟩
 ·by_cases z:a∈ρ1.st
  ·exact e.new a z n
  ·cases q:H a with
   |none=>rfl
   |some o=>have:=f.new a h z;rw[e.keep a o q n]at this;cases this
def YR.at(e:YR ρ H ρ' H'){n:Nat}(h:ρ.st[n]?=some a):ρ'.st[n]?=some a:=by obtain⟨c,b⟩:=e.pre;rw[b,Y9 (YJ.mp h).1];exact h
def Rh.kb{ρ:Rh}{a p:Addr}(h:a∉ρ)(n:a≠p):a∉ρ.hold p:=λz=>by
 rcases z with z|z
 ·exact h (.inl z)
 ·rcases Y5.mp z with z|z
  ·exact n z
  ·exact h (.inr z)
section
variable{mg:A4}{ρ ρ':Rh}{H H':Hp}
def ZE.ind{P:List V->List D->Prop}{vs:List V}{ds:List D}(h:ZE mg ρ H vs ds)(n:P [] [])(c:∀{v d vs ds},Cv mg ρ H v d->ZE mg ρ H vs ds->P vs ds->P (v::vs) (d::ds)):P vs ds:=
 ZE.rec (motive_1:=λz z z=>True) (motive_2:=λvs ds z=>P vs ds) ⟨⟩ (λz=>⟨⟩) (λz=>⟨⟩) (λz=>⟨⟩) (λz z z z=>⟨⟩) (λz z z z=>⟨⟩) (λz z z z z=>⟨⟩) (λz z z z z z=>⟨⟩) (λz z=>⟨⟩) (λz=>⟨⟩) (λz=>⟨⟩) (λz=>⟨⟩) (λz=>⟨⟩) n (λa t z i=>c a t i) h
def ZE.gen(b:∀(n:Nat) a,ρ.st[n]?=some a->ρ'.st[n]?=some a)(kp:∀a o,H a=some o->a∉ρ->(∀e,o≠.ext e)->a∉ρ'/\H' a=some o){vs:List V}{ds:List D}(h:ZE mg ρ H vs ds):ZE mg ρ' H' vs ds:=
 ZE.rec (motive_1:=λv d z=>Cv mg ρ' H' v d) (motive_2:=λvs ds z=>ZE mg ρ' H' vs ds) .aT .bl .int .str (λn h z c=>.tup (kp _ _ h n nofun).1 (kp _ _ h n nofun).2 c) (λn h z c=>.lst (kp _ _ h n nofun).1 (kp _ _ h n nofun).2 c) (λn h l z c=>.bG (kp _ _ h n nofun).1 (kp _ _ h n nofun).2 l c) (λn m h l z c=>.obj (kp _ _ h n nofun).1 m (kp _ _ h n nofun).2 l c)
  (λn h=>h.elim (λh=>.eB (kp _ _ h n nofun).1 (.inl (kp _ _ h n nofun).2)) λ⟨_,h⟩=>.eB (kp _ _ h n nofun).1 (.inr ⟨_,(kp _ _ h n nofun).2⟩)) (λh=>.ref (b _ _ h)) .cls .ty .dP .nil (λz z=>.cons) h
def ZE.hd{v:V}{d:D}{vs:List V}{ds:List D}(h:ZE mg ρ H (v::vs) (d::ds)):Cv mg ρ H v d:=by cases h;assumption
theorem Cv.gen(b:∀(n:Nat) a,ρ.st[n]?=some a->ρ'.st[n]?=some a)(kp:∀a o,H a=some o->a∉ρ->(∀c,o≠.ext c)->a∉ρ'/\H' a=some o){v:V}{d:D}(h:Cv mg ρ H v d):Cv mg ρ' H' v d:=(ZE.gen b kp (.cons h .nil)).hd
def Cv.mono(e:YR ρ H ρ' H'){v:V}{d:D}(h:Cv mg ρ H v d):Cv mg ρ' H' v d:=h.gen (λz z=>e.at) λz z h n z=>⟨e.out h n,e.keeps h n⟩
def ZE.mono(e:YR ρ H ρ' H'){v:List V}{d:List D}(h:ZE mg ρ H v d):ZE mg ρ' H' v d:=h.gen (λz z=>e.at) λz z h n z=>⟨e.out h n,e.keeps h n⟩
def ZE.len{vs:List V}{ds:List D}(h:ZE mg ρ H vs ds):vs.length=ds.length:=h.ind (P:=λvs ds=>vs.length=ds.length) rfl λz z=>congrArg (·+ 1)
def ZE.append{vs us:List V}{ds es:List D}(h:ZE mg ρ H vs ds)(h2:ZE mg ρ H us es):ZE mg ρ H (vs++us) (ds++es):=h.ind (P:=λvs ds=>ZE mg ρ H (vs++us) (ds++es)) h2 λa z=>.cons a
theorem ZE.take{vs:List V}{ds:List D}(n:Nat)(h:ZE mg ρ H vs ds):ZE mg ρ H (vs.take n) (ds.take n):=h.ind (P:=λvs ds=>∀n,ZE mg ρ H (vs.take n) (ds.take n)) (λn=>by rw[List.take_nil,List.take_nil];exact .nil) (λa z i n=>by cases n with|zero=>exact .nil|succ n=>exact .cons a (i n)) n
theorem ZE.drop{vs:List V}{ds:List D}(n:Nat)(h:ZE mg ρ H vs ds):ZE mg ρ H (vs.drop n) (ds.drop n):=h.ind (P:=λvs ds=>∀n,ZE mg ρ H (vs.drop n) (ds.drop n)) (λn=>by rw[List.drop_nil,List.drop_nil];exact .nil) (λa t i n=>by cases n with|zero=>exact .cons a t|succ n=>exact i n) n
def ZE.get{vs:List V}{ds:List D}{i:Nat}{d:D}(h:ZE mg ρ H vs ds):ds[i]?=some d->∃v,vs[i]?=some v/\Cv mg ρ H v d:=h.ind (P:=λvs ds=>∀i,ds[i]?=some d->∃v,vs[i]?=some v/\Cv mg ρ H v d) (λz e=>by cases e) (λ{v _ _ _} a _ r i=>by cases i with|zero=>exactλe=>⟨v,rfl,Y4 e▸a⟩|succ n=>exact r n) i
theorem ZE.set{v:V}{d:D}(h:Cv mg ρ H v d){vs:List V}{ds:List D}(i:Nat)(c:ZE mg ρ H vs ds):ZE mg ρ H (vs.set i v) (ds.set i d):=c.ind (P:=λvs ds=>∀i,ZE mg ρ H (vs.set i v) (ds.set i d)) (λz=>.nil) (λa t r i=>by cases i with|zero=>exact .cons h t|succ n=>exact .cons a (r n)) i
theorem ZE.ints:∀ns:C1,ZE mg ρ H (ns.map V.int) (ns.map D.int)
 |[]=>.nil
 |n::ns=>.cons (.int n) (ZE.ints ns)
def jY(mg:A4)(ρ:Rh)(H:Hp)(a:Addr):DO->Prop
 |.lst l=>∃xs,H a=some (.lst xs)/\ZE mg ρ H xs l
 |.bG ks l=>∃xs,H a=some (.dK (ks.zip xs))/\ks.length=xs.length/\ZE mg ρ H xs l
 |.ins c ns l=>∃C b xs,mg c=some (.ref C)/\H a=some (.ins C b (ns.zip xs))/\ns.length=xs.length/\ZE mg ρ H xs l
theorem jY.some{a:Addr}{o:DO}(h:jY mg ρ H a o):∃u,H a=some u:=by
 cases o with
 |lst l=>obtain⟨xs,h,_⟩:=h;exact⟨_,h⟩
 |bG ks l=>obtain⟨xs,h,_⟩:=h;exact⟨_,h⟩
 |ins c ns l=>obtain⟨C,dx,xs,_,h,_⟩:=h;exact⟨_,h⟩
theorem jY.mono{a:Addr}{o:DO}(e:YR ρ H ρ' H')(k:H' a=H a)(h:jY mg ρ H a o):jY mg ρ' H' a o:=by
 cases o with
 |lst l=>obtain⟨xs,h,c⟩:=h;exact⟨xs,k.trans h,c.mono e⟩
 |bG ks l=>obtain⟨xs,h,q,c⟩:=h;exact⟨xs,k.trans h,q,c.mono e⟩
 |ins c ns l=>obtain⟨C,dx,xs,m,h,q,c⟩:=h;exact⟨C,dx,xs,m,k.trans h,q,c.mono e⟩
structure J(mg:A4)(ρ:Rh)(M:Mo)(H:Hp):Prop where
 len:ρ.st.length=M.length
 nd:ρ.st.Nodup
 obj:∀(n:Nat) a o,ρ.st[n]?=some a->M[n]?=some o->jY mg ρ H a o
 hU:∀a,a∈ρ.vo->a∉ρ.st/\∃xs,H a=some (.lst xs)
theorem J.some{M:Mo}(j:J mg ρ M H){a:Addr}(h:a∈ρ):∃u,H a=some u:=by
 rcases h with h|h
 ·obtain⟨n,b⟩:=yy.mp h;have c:n<M.length:=by rw[<-j.len];exact(YJ.mp b).1
  exact(j.obj n a M[n] b (YS c)).some
 ·obtain⟨_,d,e⟩:=j.hU a h;exact⟨_,e⟩
def J.fresh{M:Mo}(j:J mg ρ M H){p:Addr}(h:H p=none):p∉ρ:=λz=>by obtain⟨u,e⟩:=j.some z;rw[h]at e;cases e
def J.inj{M:Mo}(j:J mg ρ M H){n m:Nat}{a:Addr}(h:ρ.st[n]?=Option.some a)(k:ρ.st[m]?=Option.some a):n=m:=by
 obtain⟨b,c⟩:=YJ.mp h;obtain⟨d,e⟩:=YJ.mp k;have q:∀i k (f:i<ρ.st.length) (g:k<ρ.st.length),i<k->ρ.st[i]≠ρ.st[k]:=λi k f g l=>Bn.mp j.nd i k f g l
 rcases Bi n m with z|z|z
 ·exact absurd (c.trans e.symm) (q n m b d z)
 ·exact z
 ·exact absurd (e.trans c.symm) (q m n d b z)
def YR.lay{p:Addr}{o:HO}(h:H p=none):YR ρ H ρ (upd H p o):=⟨⟨[],by simp⟩,rfl,λa h n=>absurd h n,λa o e z=>by rw[ZU (ZO e h)];exact e⟩
def YR.same(S:VU H H'):YR ρ H ρ H':=⟨⟨[],by simp⟩,rfl,λa h n=>absurd h n,λa o e z=>S _ _ e⟩
theorem J.same{M:Mo}(j:J mg ρ M H)(S:VU H H'):J mg ρ M H':=⟨j.len,j.nd,λn a o h k=>by have c:=j.obj n a o h k;obtain⟨u,e⟩:=c.some;exact c.mono (YR.same S) (by rw[e,S _ _ e]),λa h=>let⟨x,xs,e⟩:=j.hU a h;⟨x,xs,S _ _ e⟩⟩
def J.lay{M:Mo}(j:J mg ρ M H){p:Addr}(o:HO)(h:H p=none):J mg ρ M (upd H p o):=j.same (VW h o)
theorem YR.put{p:Addr}{o:HO}(h:H p=none):YR ρ H (ρ.put p) (upd H p o):=⟨⟨[p],rfl⟩,rfl,λa b n=>by
 rcases Zb.mp b with z|z
 ·exact absurd z n
 ·rw[Zi.mp z];exact h,λa o e y=>by rw[ZU (ZO e h)];exact e⟩
theorem J.put{M:Mo}(j:J mg ρ M H){p:Addr}{o:HO}{u:DO}(h:H p=none)(c:jY mg (ρ.put p) (upd H p o) p u):J mg (ρ.put p) (M++[u]) (upd H p o):=by
 have f:p∉ρ.st:=λz=>j.fresh h (.inl z)
 refine⟨?_,?_,λn a w b d=>?_,λa i=>?_⟩
 ·show(ρ.st++[p]).length=_;rw[Zm,Zm,j.len];rfl
 ·show(ρ.st++[p]).Nodup;rw[EI];exact⟨j.nd,by simp,λx k y l e=>by rw[Zi.mp l]at e;exact f (e▸k)⟩
 ·have b:(ρ.st++[p])[n]?=Option.some a:=b;by_cases hn:n<ρ.st.length
  ·rw[Y9 hn]at b;rw[Y9 (by rw[<-j.len];exact hn)]at d
   have c:=j.obj n a w b d;exact c.mono (YR.put h) (ZU λ(z:a=p)=>f (z▸Zk b))
  ·have m:n<(ρ.st++[p]).length:=(YJ.mp b).1;rw[Zm]at m;have e:n=ρ.st.length:=by have:[p].length=1:=rfl;lia
   subst e;rw[Z4 (YL _)]at b;rw[j.len,Z4 (YL _)]at d;simp at b d;subst b d;exact c
 ·obtain⟨x,q,e⟩:=j.hU a i;have g:a≠p:=ZO e h;refine⟨λz=>?_,q,by rw[ZU g];exact e⟩
  rcases Zb.mp z with z|z
  ·exact x z
  ·exact g (Zi.mp z)
theorem YR.upd{p:Addr}{o:HO}(h:p∈ρ.st):YR ρ H ρ (L2.upd H p o):=⟨⟨[],by simp⟩,rfl,λa h n=>absurd h n,λa u e n=>by rw[ZU (λ(z:a=p)=>n (z▸h))];exact e⟩
theorem J.upd{M:Mo}(j:J mg ρ M H){n:Nat}{p:Addr}{o:HO}{u:DO}(h:ρ.st[n]?=Option.some p)(c:jY mg ρ (L2.upd H p o) p u):J mg ρ (M.set n u) (L2.upd H p o):=by
 refine⟨by rw[OZ];exact j.len,j.nd,λm a w b d=>?_,λa f=>?_⟩
 ·by_cases e:m=n
  ·subst e;rw[h]at b;cases b;have g:m<M.length:=by rw[<-j.len];exact(YJ.mp h).1
   rw[Zr g]at d;cases d;exact c
  ·rw[Zz (λz=>e z.symm)]at d
   have i:a≠p:=λz=>by subst z;exact e (j.inj b h)
   exact(j.obj m a w b d).mono (YR.upd (Zk h)) (by rw[ZU i])
 ·obtain⟨x,k,e⟩:=j.hU a f;exact⟨x,k,by rw[ZU (λ(z:a=p)=>x (z▸Zk h))];exact e⟩
def RZ{p a:Addr}{o:HO}(b:p∈ρ.vo)(n:a∉ρ):L2.upd H p o a=H a:=ZU λz=>n (by rw[z];exact .inr b)
def ZE.hold{p:Addr}{o:HO}(a:p∈ρ.vo){v:List V}{d:List D}(h:ZE mg ρ H v d):ZE mg ρ (L2.upd H p o) v d:=h.gen (λz z h=>h) λz z h n z=>⟨n,(RZ a n).trans h⟩
def ZE.less{ρ1:Rh}(hs:ρ1.st=ρ.st)(b:∀a,a∈ρ1.vo->a∈ρ.vo){v:List V}{d:List D}(h:ZE mg ρ H v d):ZE mg ρ1 H v d:=h.gen (λx x h=>hs▸h) λx x h n x=>⟨λz=>n (z.elim (λy=>.inl (hs▸y)) λy=>.inr (b _ y)),h⟩
def ZE.more{p:Addr}(a:H p=none){v:List V}{d:List D}(h:ZE mg ρ H v d):ZE mg (ρ.hold p) H v d:=h.gen (ρ:=ρ) (ρ':=ρ.hold p) (λz z h=>h) λz z h n z=>⟨Rh.kb n (ZO h a),h⟩
def jY.map{ρ1:Rh}{H1:Hp}{a:Addr}{o:DO}(k:H1 a=H a)(f:∀vs ds,ZE mg ρ H vs ds->ZE mg ρ1 H1 vs ds)(h:jY mg ρ H a o):jY mg ρ1 H1 a o:=by
 cases o with
 |lst l=>obtain⟨xs,h,c⟩:=h;exact⟨xs,k.trans h,f _ _ c⟩
 |bG ks l=>obtain⟨xs,h,q,c⟩:=h;exact⟨xs,k.trans h,q,f _ _ c⟩
 |ins c ns l=>obtain⟨C,dx,xs,m,h,q,c⟩:=h;exact⟨C,dx,xs,m,k.trans h,q,f _ _ c⟩
def J.begin{M:Mo}(j:J mg ρ M H){p:Addr}(b:H p=none):J mg (ρ.hold p) M (L2.upd H p (.lst [])):=by
 have f:p∉ρ.st:=λz=>j.fresh b (.inl z)
 refine⟨j.len,j.nd,λn a o g h=>?_,λa d=>?_⟩
 ·exact(j.obj n a o g h).map (ZU λ(z:a=p)=>f (z▸Zk g)) λk l c=>(c.more b).hold (.head _)
 ·rcases Y5.mp d with rfl|d
  ·exact⟨f,[],ZT⟩
  ·obtain⟨x,i,e⟩:=j.hU a d;exact⟨x,i,by rw[ZU (ZO e b)];exact e⟩
def J.grow{M:Mo}(j:J mg ρ M H){p:Addr}{ys:List V}(b:p∈ρ.vo):J mg ρ M (L2.upd H p (.lst ys)):=by
 refine⟨j.len,j.nd,λn a o d g=>?_,λa f=>?_⟩
 ·exact(j.obj n a o d g).map (ZU λ(z:a=p)=>(j.hU p b).1 (z▸Zk d)) λi k c=>c.hold b
 ·by_cases z:a=p
  ·subst z;exact⟨(j.hU a f).1,ys,ZT⟩
  ·obtain⟨x,h,e⟩:=j.hU a f;exact⟨x,h,by rw[ZU z];exact e⟩
def J.done{M:Mo}{p:Addr}{ρ1:Rh}(j:J mg ρ1 M H)(d:ρ1.vo=p::ρ.vo):J mg ⟨ρ1.st,ρ.vo⟩ M H:=by
 refine⟨j.len,j.nd,λn a o e f=>?_,λa b=>?_⟩
 ·exact jY.map (ρ:=ρ1) rfl (λg h c=>ZE.less (ρ:=ρ1) (ρ1:=⟨ρ1.st,ρ.vo⟩) rfl (λa b=>by rw[d];exact .tail _ b) c) (j.obj n a o e f)
 ·obtain⟨x,y⟩:=j.hU a (by rw[d];exact .tail _ b)
  exact⟨x,y⟩
end
structure Kp(ρ:Rh)(H:Hp)(ρ':Rh)(H':Hp):Prop where
 pre:∃τ,ρ'.st=ρ.st++τ
 keep:∀a o,H a=some o->a∉ρ->(∀φ,o≠.ext φ)->a∉ρ'/\H' a=some o
def YR.kp{ρ ρ':Rh}{H H':Hp}(e:YR ρ H ρ' H'):Kp ρ H ρ' H':=⟨e.pre,λa o h n z=>⟨e.out h n,e.keeps h n⟩⟩
def Kp.trans{ρ ρ1 d:Rh}{H I H2:Hp}(a:Kp ρ H ρ1 I)(b:Kp ρ1 I d H2):Kp ρ H d H2:=by
 refine⟨?_,λc o h n e=>let⟨x,y⟩:=a.keep c o h n e;b.keep c o y x e⟩
 obtain⟨f,g⟩:=a.pre;obtain⟨i,j⟩:=b.pre;exact⟨f++i,by rw[j,g,IM]⟩
def Kp.at{ρ ρ':Rh}{H I:Hp}(e:Kp ρ H ρ' I){n:Nat}{a:Addr}(h:ρ.st[n]?=some a):ρ'.st[n]?=some a:=by obtain⟨c,b⟩:=e.pre;rw[b,Y9 (YJ.mp h).1];exact h
section
variable{mg:A4}{ρ ρ':Rh}{H H':Hp}
def Cv.kp(e:Kp ρ H ρ' H'){v:V}{d:D}(h:Cv mg ρ H v d):Cv mg ρ' H' v d:=h.gen (λz z=>e.at) e.keep
def ZE.kp(e:Kp ρ H ρ' H'){v:List V}{d:List D}(h:ZE mg ρ H v d):ZE mg ρ' H' v d:=h.gen (λz z=>e.at) e.keep
end
def qC(mg:A4)(ρ:Rh)(H:Hp){α d:Type}(rel:Rh->Hp->d->α->Prop)(Q:d->Hp->Prop)(E:XK):R α×Mo->Prop
 |(.ok a,M')=>∀ρ' I b,YR ρ H ρ' I->J mg ρ' M' I->rel ρ' I b a->Q b I
 |(.exc c,M')=>∀ρ' I C,YR ρ H ρ' I->J mg ρ' M' I->mg c=some (.ref C)->E (.ref C) none I
def Go(mg:A4)(E:XK){α a:Type}(rel:Rh->Hp->a->α->Prop)(Q:a->Hp->Prop)(ρ:Rh)(H:Hp)(m:DM α)(M:Mo):Prop:=∃r,m M=some r/\qC mg ρ H rel Q E r
section
variable{mg:A4}{ρ ρ':Rh}{H H':Hp}{E:XK}{α β γ δ':Type}{rel:Rh->Hp->β->α->Prop}{l7:Rh->Hp->δ'->γ->Prop}{Q:δ'->Hp->Prop}{Q':β->Hp->Prop}
def qC.mono{r:R α×Mo}(e:YR ρ H ρ' H')(h:qC mg ρ H rel Q' E r):qC mg ρ' H' rel Q' E r:=by
 obtain⟨r,M'⟩:=r;cases r with
 |ok a=>exactλρ2 H2 b e2 j c=>h ρ2 H2 b (e.trans e2) j c
 |exc c=>exactλρ2 H2 C e2 j m=>h ρ2 H2 C (e.trans e2) j m
set_option tactic.hygienic true in
theorem Go.bind{m:DM α}{k:α->DM γ}{M:Mo}(g:Go mg E l7 Q ρ H (m>>=k) M)
  (f:∀ρ1 I O b a,YR ρ H ρ1 I->J mg ρ1 O I->rel ρ1 I b a->Go mg E l7 Q ρ1 I (k a) O->Q' b I):Go mg E rel Q' ρ H m M:=by
 obtain⟨r,e,p⟩:=g;have e:DM.bind m k M=some r:=e;unfold DM.bind at e;split at e
 ·cases e
 ·rename_i c U d;cases e;exact⟨_,d,p⟩
 ·rename_i a U d;exact⟨_,d,λρ1 I b x j c=>f ρ1 I U b a x j c ⟨r,e,p.mono x⟩⟩
theorem Go.rd{f:Mo->Option α}{M:Mo}(g:Go mg E rel Q' ρ H (rd f) M):∃a,f M=some a/\∀ρ' H' b,YR ρ H ρ' H'->J mg ρ' M H'->rel ρ' H' b a->Q' b H':=by obtain⟨r,e,p⟩:=g;obtain⟨a,c,rfl⟩:=YM.mp e;exact⟨a,c,p⟩
theorem Go.opt{o:Option α}{M:Mo}(g:Go mg E rel Q' ρ H (opt o) M):∃a,o=some a/\∀ρ' H' b,YR ρ H ρ' H'->J mg ρ' M H'->rel ρ' H' b a->Q' b H':=by obtain⟨r,e,p⟩:=g;obtain⟨a,c,rfl⟩:=YM.mp e;exact⟨a,c,p⟩
theorem Go.pure{a:α}{M:Mo}(g:Go mg E rel Q' ρ H (pure a) M):∀ρ' H' b,YR ρ H ρ' H'->J mg ρ' M H'->rel ρ' H' b a->Q' b H':=by obtain⟨r,e,p⟩:=g;have e:some (R.ok a,M)=some r:=e;cases e;exact p
end
structure Ev(mg:A4)(ρ:Rh)(H:Hp)(σ:St)(δ:aj):Prop where
 len:σ.length=δ.length
 val:∀(i:Nat) d,δ[i]?=some (some d)->∃v,σ[i]?=some (some v)/\Cv mg ρ H v d
theorem Ev.mono{mg:A4}{ρ ρ':Rh}{H I:Hp}{c:St}{δ:aj}(e:YR ρ H ρ' I)(h:Ev mg ρ H c δ):Ev mg ρ' I c δ:=
 ⟨h.len,λi d q=>let⟨v,a,b⟩:=h.val i d q;⟨v,a,b.mono e⟩⟩
theorem Ev.kp{mg:A4}{ρ ρ':Rh}{H I:Hp}{c:St}{δ:aj}(e:Kp ρ H ρ' I)(h:Ev mg ρ H c δ):Ev mg ρ' I c δ:=
 ⟨h.len,λi d q=>let⟨v,a,b⟩:=h.val i d q;⟨v,a,b.kp e⟩⟩
theorem Ev.set{mg:A4}{ρ:Rh}{H:Hp}{f:St}{a:aj}{i:Nat}{v:V}{d:D}(h:Ev mg ρ H f a)(c:Cv mg ρ H v d):Ev mg ρ H (f.set i (some v)) (a.set i (some d)):=by
 refine⟨by rw[OZ,OZ,h.len],λj x q=>?_⟩
 by_cases e:j=i
 ·subst e;have b:j<(a.set j (some d)).length:=(YJ.mp q).1;rw[OZ]at b;rw[Zr b]at q;cases q;exact⟨v,Zr (by rw[h.len];exact b),c⟩
 ·rw[Zz (λz=>e z.symm)]at q ⊢
  exact h.val j x q
def tD(mg:A4)(E:XK){α b:Type}(rel:Rh->Hp->b->α->Prop)(f:aj->DM α):St->Hp->(b->Hp->Prop)->Prop:=λd H Q=>
 ∃a c M,Ev mg a H d c/\J mg a M H/\Go mg E rel Q a H (f c) M
def Bv(_:Rh)(_:Hp)(b a:Bool):Prop:=b=a
structure DE(X:Cx)(E:XK)(e:Expr)(f:aj->DM D):Prop where
 h:PE X e (tD X.mg E (Cv X.mg) f)
structure DA(X:Cx)(E:XK)(es:B8)(f:aj->DM (List D)):Prop where
 h:QA X es (tD X.mg E (ZE X.mg) f)
structure DT(X:Cx)(E:XK)(e:Expr)(f:aj->DM Bool):Prop where
 h:PT X e (tD X.mg E Bv f)
def PE.mono{X:Cx}{e:Expr}{t t':TE}(h:PE X e t)(f:∀a H Q,t' a H Q->t a H Q):PE X e t':=λb s a H Q I q=>h b s a H Q I (f a H Q q)
def PT.mono{X:Cx}{e:Expr}{t t':TT}(h:PT X e t)(f:∀a H Q,t' a H Q->t a H Q):PT X e t':=λb s a H Q I q=>h b s a H Q I (f a H Q q)
def PA.mono{X:Cx}{e:B8}{t t':TA}(h:PA X e t)(f:∀a H Q,t' a H Q->t a H Q):PA X e t':=λp b s a H Q I q=>h p b s a H Q I (f a H Q q)
mutual
def XT:D->Option PyData
 |.aT=>some .none
 |.bl b=>some (.bool b)
 |.int i=>some (.int i)
 |.str x=>some (.str x)
 |.tup l=>(gC l).map .tuple
 |.lst l=>(gC l).map .list
 |_=>none
def gC:List D->Option (List PyData)
 |[]=>some []
 |d::l=>match XT d,gC l with
   |some p,some ps=>some (p::ps)
   |_,_=>none
end
mutual
def Qg:D->Option PyData
 |.aT=>some .none
 |.bl b=>some (.bool b)
 |.int i=>some (.int i)
 |.str x=>some (.str x)
 |.tup l=>(CT l).map .tuple
 |.lst l=>(CT l).map .list
 |.bG [] []=>some (.dict [])
 |.bG [.inl i] [.int j]=>some (.dict [(.int i,.int j)])
 |_=>none
def CT:List D->Option (List PyData)
 |[]=>some []
 |d::l=>match Qg d,CT l with
   |some p,some ps=>some (p::ps)
   |_,_=>none
end
section
variable{mg:A4}{ρ:Rh}{H:Hp}
def nO{α:Type}{p:α}{P:Prop}(e:none=some p):P:=nomatch e
def ZE.ja{vs:List V}{ds:List D}{ps:List PyData}(h:ZE mg ρ H vs ds):gC ds=some ps->UB H true vs ps:=
 ZE.rec (motive_1:=λv d z=>∀p,XT d=some p->VS H true v p) (motive_2:=λvs ds z=>∀ps,gC ds=some ps->UB H true vs ps)
  (λz e=>Y4 e ▸ .aT) (λb z e=>Y4 e ▸ .bl b) (λb z e=>Y4 e ▸ .int b) (λb z e=>Y4 e ▸ .str b)
  (λz h z c z e=>by obtain⟨ps,a,f⟩:=YM.mp e;exact f ▸ .tup h (c _ a)) (λz h z c z e=>by obtain⟨ps,a,f⟩:=YM.mp e;exact f ▸ .lst h (c _ a))
  (λz z z z z z e=>nO e) (λz z z z z z z e=>nO e) (λz z z e=>nO e) (λz z e=>nO e) (λz z e=>nO e) (λz z e=>nO e) (λz z e=>nO e)
  (λz e=>Y4 e ▸ .nil) (λ{_ d _ l} _ _ i j _ e=>by
    revert e;show(match XT d,gC l with|some p,some ps=>some (p::ps)|_,_=>none)=_->_
    cases h1:XT d with
    |none=>exactλe=>nO e
    |some p=>cases h2:gC l with
      |none=>exactλe=>nO e
      |some q=>exactλe=>Y4 e ▸ .cons (i _ h1) (j _ h2)) h ps
theorem Cv.ja{v:V}{d:D}{p:PyData}(h:Cv mg ρ H v d)(e:XT d=some p):VS H true v p:=by
 have z:gC [d]=some [p]:=by
  show(match XT d,some []with|some p,some a=>some (p::a)|_,_=>none)=_
  rw[e]
 cases ZE.ja (.cons h .nil) z;assumption
end
section
variable{X:Cx}{E:XK}{a b c:Expr}{fa fb fc:aj->DM D}{pos:Pos}
def cF(i:Nat)(d:aj):DM D:=opt ((d[i]?).join)
def aa(i:Nat){x:Str}(l:autoParam (X.N[i]?=some x) qAA)(m:JE X.env.scope x:=by first|exact Or.inl rfl|exact Or.inr (Or.inl rfl)|exact Or.inr (Or.inr rfl))(hd:autoParam ((x==("__debug__":Str))=false) qAB)
  (f:autoParam ((x==("__classdict__":Str))=false) qAB):DE X E (.Name x pos) (cF i):=⟨PE.mono (UF (i:=i) l m hd f) λu H Q h=>by
 obtain⟨n,k,M,p,j,g⟩:=h;obtain⟨d,e,q⟩:=g.opt;have r:k[i]?=some (some d):=by
  cases z:k[i]? with
  |none=>rw[z]at e;cases e
  |some o=>rw[z]at e;exact congrArg some e
 obtain⟨v,s,t⟩:=p.val i d r;exact⟨v,s,q n H v .refl j t⟩⟩
def iH{e:Expr}{v:V}{d:D}(h:PE X e (tC v))(hc:∀ρ H,Cv X.mg ρ H v d):DE X E e (λz=>pure d):=⟨PE.mono h λf H Q h=>by obtain⟨ρ,i,M,k,j,g⟩:=h;exact g.pure ρ H v .refl j (hc _ _)⟩
def aA{i j}:DE X E (.Constant (.int i) j pos) (λz=>pure (.int i)):=iH NY λz z=>.int i
def iZ{i j}:DE X E (.Constant (.bool i) j pos) (λz=>pure (.bl i)):=iH EF λz z=>.bl i
def bA{x j}:DE X E (.Constant (.str x) j pos) (λz=>pure (.str x)):=iH MO λz z=>.str x
def Pj{x:Str}{i:Int}{t:Tok}(h:X.mg x=some (.int i t))(d:autoParam (Gl X x) qAA)(hd:autoParam ((x==("__debug__":Str))=false) qAB):DE X E (.Name x pos) (λz=>pure (.int i)):=iH (Wg h d hd) λz z=>.int i
def Ag{x:Str}{C:Addr}(h:X.mg x=some (.ref C))(d:autoParam (Gl X x) qAA)(hd:autoParam ((x==("__debug__":Str))=false) qAB):DE X E (.Name x pos) (λz=>pure (.cls x)):=iH (UT h d hd) λz z=>.cls h
def gW{x:Str}{T:String}(e:X.mg x=none)(f:autoParam (Gl X x) qAA)(g:bootBuiltins x=some (.type T):=by decide +kernel)(h:autoParam (x≠"__name__") qAB)(d:autoParam ((x==("__debug__":Str))=false) qAB):DE X E (.Name x pos) (λz=>pure (.ty T)):=
 iH (Wi e f g h d) λz z=>.ty T
def rD(mg:A4)(E:XK)(g:D->D->DM D):R2:=λx y H Q=>∃d M e f,J mg d M H/\Cv mg d H x e/\Cv mg d H y f/\Go mg E (Cv mg) Q d H (g e f) M
def b8(X:Cx)(E:XK)(f:Value->Value->Sem Value)(g:D->D->DM D):Prop:=XV X f (rD X.mg E g)
def En{g:D->D->DM D}{r:R2}(l:∀x y H Q,rD X.mg E g x y H Q->r x y H Q){i:L2.St}{H:Hp}{Q:VK}(h:tD X.mg E (Cv X.mg) (λd=>fa d>>=λx=>fb d>>=λy=>g x y) i H Q):
  Dx r (tD X.mg E (Cv X.mg) fa) (tD X.mg E (Cv X.mg) fb) i H Q:=by
 obtain⟨m,d,M,k,j,n⟩:=h;exact⟨m,d,M,k,j,n.bind λe H1 I x o p q s t=>⟨e,d,I,k.mono p,q,t.bind λf H2 O y u v w z U=>l _ _ _ _ ⟨f,O,o,u,w,s.mono v,z,U⟩⟩⟩
def aM{op:Operator}{g:D->D->DM D}(ho:b8 X E (binaryOp op) g)(e:DE X E a fa)(f:DE X E b fb):DE X E (.BinOp a op b pos) (λd=>fa d>>=λx=>fb d>>=λy=>g x y):=
 ⟨PE.mono (Co ho e.h f.h) λi H Q h=>En (λw w w w z=>z) h⟩
def gh{op:CmpOp}{g:D->D->DM D}(ho:b8 X E (compareOp op) g)(e:DE X E a fa)(f:DE X E b fb)(i:behindInMarks op b=false:=by first|exact MR _|rfl):DE X E (.Compare a [op] [b] pos) (λd=>fa d>>=λx=>fb d>>=λy=>g x y):=
 ⟨PE.mono (KO ho e.h f.h i) λj H Q h=>En (λw w w w z=>z) h⟩
def jG:D->DM Bool
 |.bl b=>pure b
 |_=>stuck
theorem Go.jG{mg:A4}{ρ:Rh}{H:Hp}{d:D}{M:Mo}{Q:Bool->Hp->Prop}(g:Go mg E Bv Q ρ H (jG d) M):∃k,d=.bl k/\∀ρ' H',YR ρ H ρ' H'->J mg ρ' M H'->Q k H':=by
 cases d with
 |bl k=>exact⟨k,rfl,λρ' H' e j=>(show Go mg E Bv Q ρ H (Pure.pure k) M from g).pure ρ' H' k e j rfl⟩
 |_=>obtain⟨r,e,_⟩:=g;cases e
def PM{e:Expr}{f:aj->DM D}{t:TE}(h:PT X e (NV t))(ht:∀d H Q,tD X.mg E (Cv X.mg) f d H Q->t d H Q):DT X E e (λg=>f g>>=jG):=⟨PT.mono h λd H Q h=>by
 obtain⟨l,g,M,m,j,n⟩:=h;refine ht _ _ _ ⟨l,g,M,m,j,n.bind λi I O x s u o p r=>?_⟩
 obtain⟨k,rfl,q⟩:=Go.jG r;cases p;exact⟨k,rfl,q i I .refl o⟩⟩
def bh{op:CmpOp}{g:D->D->DM D}(ho:b8 X E (compareOp op) g)(e:DE X E a fa)(f:DE X E b fb)(i:behindInMarks op b=false:=by first|exact MR _|rfl):DT X E (.Compare a [op] [b] pos) (λd=>(fa d>>=λx=>fb d>>=λy=>g x y)>>=jG):=
 PM (LY ho e.h f.h i) λj H Q h=>En (λw w w w z=>z) h
def W0{g g':D->D->DM D}{u:L2.St}{H:Hp}{Q:VK}(h:tD X.mg E (Cv X.mg) (λi=>fa i >>= λx=>fb i >>= λy=>g x y >>= λz=>jG z >>= λk=>if k then fc i >>= λw=>g' y w else pure (.bl false)) u H Q):
  QO (rD X.mg E g) (rD X.mg E g') (tD X.mg E (Cv X.mg) fa) (tD X.mg E (Cv X.mg) fb) (tD X.mg E (Cv X.mg) fc) u H Q:=by
 obtain⟨ρ,i,M,n,j,g1⟩:=h;refine⟨ρ,i,M,n,j,g1.bind λo H1 M1 x dx v j1 c1 g2=>⟨o,i,M1,n.mono v,j1,g2.bind λp H2 M2 y l e2 j2 c2 g3=>⟨p,M2,dx,l,j2,c1.mono e2,c2,g3.bind λd I M3 z q e3 j3 c3 s=>?_⟩⟩⟩
 have g5:=s.bind (rel:=Bv) (Q':=λk O=>q=.bl k/\∃f U,YR d I f O/\J X.mg f U O/\Go X.mg E (Cv X.mg) Q f O (if k then fc i>>=λw=>g' l w else pure (.bl false)) U)
 have t:∃k,q=.bl k/\Go X.mg E (Cv X.mg) Q d I (if k then fc i>>=λw=>g' l w else pure (.bl false)) M3:=by
  cases q with
  |bl k=>exact⟨k,rfl,s⟩
  |_=>obtain⟨r,e,_⟩:=s;cases e
 obtain⟨k,rfl,m⟩:=t;cases c3;refine⟨k,rfl,?_⟩;cases k with
 |false=>exact SA (m.pure d I _ .refl j3 (.bl false))
 |true=>
   have m:Go X.mg E (Cv X.mg) Q d I (fc i>>=λw=>g' l w) M3:=m
   exact So ⟨d,i,M3,((n.mono v).mono e2).mono e3,j3,m.bind λf O U w dw e4 j4 c4 g7=>⟨f,U,l,dw,j4,(c2.mono e3).mono e4,c4,g7⟩⟩
def Mp{op d:CmpOp}{g g':D->D->DM D}(ho:b8 X E (compareOp op) g)(e:b8 X E (compareOp d) g')(i:DE X E a fa)(j:DE X E b fb)(hc:DE X E c fc)(l:lastMarks [op,d] [b,c]=false:=by with_unfolding_all rfl):
  DE X E (.Compare a [op,d] [b,c] pos) (λf=>fa f>>=λx=>fb f>>=λy=>g x y>>=λz=>jG z>>=λk=>if k then fc f>>=λw=>g' y w else pure (.bl false)):=
 ⟨PE.mono (Of ho e i.h j.h hc.h l) λm H Q h=>W0 h⟩
def Ak{op d:CmpOp}{g g':D->D->DM D}(ho:b8 X E (compareOp op) g)(e:b8 X E (compareOp d) g')(i:DE X E a fa)(j:DE X E b fb)(hc:DE X E c fc)(l:lastMarks [op,d] [b,c]=false:=by with_unfolding_all rfl):
  DT X E (.Compare a [op,d] [b,c] pos) (λf=>(fa f>>=λx=>fb f>>=λy=>g x y>>=λz=>jG z>>=λk=>if k then fc f>>=λw=>g' y w else pure (.bl false))>>=jG):=
 PM (OC ho e i.h j.h hc.h l) λm H Q h=>W0 h
noncomputable def jF:D->Mo->Option Bool
 |.aT,_=>some false
 |.bl b,_=>some b
 |.int i,_=>some (i != 0)
 |.str y,_=>if y.length<=sizeLine then some ((y.length:Int) != 0)else none
 |.tup l,_=>some (!l.isEmpty)
 |.lst l,_=>some (!l.isEmpty)
 |.eB l,_=>some (!l.isEmpty)
 |.bG ks _,_=>some (!ks.isEmpty)
 |.ref n,M=>match M[n]? with
   |some (.lst l)=>some (!l.isEmpty)
   |some (.bG ks _)=>some (!ks.isEmpty)
   |_=>none
 |_,_=>none
def yS{α β:Type}{ks:List α}{xs:List β}(h:ks.length=xs.length):(ks.zip xs).isEmpty=ks.isEmpty:=by
 cases ks with
 |nil=>simp
 |cons k ks=>cases xs with
   |nil=>simp at h
   |cons x xs=>rfl
def ZE.empty{mg:A4}{ρ:Rh}{H:Hp}{vs:List V}{ds:List D}(c:ZE mg ρ H vs ds):vs.isEmpty=ds.isEmpty:=by cases c<;>rfl
set_option tactic.hygienic true in
def Vv{K:B0}{mg:A4}{ρ:Rh}{H:Hp}{M:Mo}{x:V}{d:D}{k:Bool}(j:J mg ρ M H)(h:Cv mg ρ H x d)(e:jF d M=some k):IG K x H k:=by
 cases h with
 |aT=>cases e;rfl
 |bl b=>cases e;rfl
 |int i=>cases e;rfl
 |str y=>
   unfold jF at e;dsimp only at e;split at e
   ·cases e;exact⟨‹_›,rfl⟩
   ·cases e
 |tup n h c=>cases e;exact .inr (.inl ⟨_,XO.of h,by rw[c.empty]⟩)
 |lst n h c=>cases e;exact .inl ⟨_,XI.of h,by rw[c.empty]⟩
 |eB n h=>cases e;exact .inl ⟨_,.inl h,by simp⟩
 |bG n h l c=>cases e;exact .inr (.inr ⟨_,h,by rw[yS l]⟩)
 |ref q=>
   rename_i n a;unfold jF at e;dsimp only at e;split at e
   ·rename_i l hl;cases e;obtain⟨xs,h,c⟩:=j.obj n a _ q hl;exact .inl ⟨_,XI.of h,by rw[c.empty]⟩
   ·rename_i ks l hl;cases e;obtain⟨xs,h,z,c⟩:=j.obj n a _ q hl;exact .inr (.inr ⟨_,h,by rw[yS z]⟩)
   ·cases e
 |obj=>cases e
 |cls=>cases e
 |ty=>cases e
 |dP=>cases e
def bO(l:DE X E a fa)(m:∀d,isTrue a X.env d=(do let v <-d;standAt a.pos;holding [v] (truthy v))):DT X E a (λf=>fa f>>=λx=>rd (jF x)):=⟨PT.mono (ND l.h m) λt H Q h=>by
 obtain⟨n,f,M,o,j,p⟩:=h;refine⟨n,f,M,o,j,p.bind λg I O x u w i r s=>?_⟩
 obtain⟨k,e,q⟩:=s.rd;exact⟨k,Vv i r e,q g I k .refl i rfl⟩⟩
variable{ta tb:aj->DM Bool}
def dJ(g:DT X E a ta):DT X E (.UnaryOp .Not a pos) (λd=>ta d>>=λk=>pure (!k)):=⟨PT.mono (HL g.h) λp H Q h=>by
 obtain⟨i,d,M,l,j,m⟩:=h;refine⟨i,d,M,l,j,m.bind λe I O x dx q n f o=>?_⟩
 have f:x=dx:=f;subst f;exact o.pure e I _ .refl n rfl⟩
structure DW(X:Cx)(E:XK)(e:Expr)(f:aj->DM Bool):Prop where
 h:PW X e (tD X.mg E Bv f)
def PW.mono{e:Expr}{t t':TT}(h:PW X e t)(f:∀d H Q,t' d H Q->t d H Q):PW X e t':=λw g s d H Q I q=>h w g s d H Q I (f d H Q q)
def DW.dt{e:Expr}(h:DW X E e ta):DT X E e ta:=⟨PW.pt h.h⟩
def QH(d:DT X E a ta):DW X E (.BoolOp .And [a] pos) ta:=⟨K0 d.h⟩
def oA(d:DT X E a ta):DW X E (.BoolOp .Or [a] pos) ta:=⟨HP d.h⟩
variable{rest:B8}
def Tc(m:DT X E a ta)(n:DW X E (.BoolOp .And (b::rest) pos) tb):DW X E (.BoolOp .And (a::b::rest) pos) (λd=>ta d>>=λk=>if k then tb d else pure false):=⟨PW.mono (IX m.h n.h) λr H Q h=>by
 obtain⟨o,d,M,g,j,p⟩:=h;refine⟨o,d,M,g,j,p.bind λe I O x dx q i f l=>?_⟩
 have f:x=dx:=f;subst f;cases x with
 |true=>exact So ⟨e,d,O,g.mono q,i,l⟩
 |false=>exact SA (Go.pure (a:=false) l e I _ .refl i rfl)⟩
def jO(m:DT X E a ta)(n:DW X E (.BoolOp .Or (b::rest) pos) tb):DW X E (.BoolOp .Or (a::b::rest) pos) (λd=>ta d>>=λk=>if k then pure true else tb d):=⟨PW.mono (Cf m.h n.h) λr H Q h=>by
 obtain⟨o,d,M,g,j,p⟩:=h;refine⟨o,d,M,g,j,p.bind λe I O x dx q i f l=>?_⟩
 have f:x=dx:=f;subst f;cases x with
 |false=>exact SA ⟨e,d,O,g.mono q,i,l⟩
 |true=>exact So (Go.pure (a:=true) l e I _ .refl i rfl)⟩
def km{op:BoolOp}(d:DE X E a fa):DE X E (.BoolOp op [a] pos) fa:=⟨IB d.h⟩
def Go.r6{mg:A4}{ρ:Rh}{H:Hp}{α h:Type}{rel:Rh->Hp->h->α->Prop}{Q:h->Hp->Prop}{d:D}{M:Mo}{f:Bool->DM α}(g:Go mg E rel Q ρ H (L3.jG d>>=f) M):∃k,d=.bl k/\Go mg E rel Q ρ H (f k) M:=by
 cases d with
 |bl k=>exact⟨k,rfl,g⟩
 |_=>obtain⟨r,e,_⟩:=g;cases e
def kh(l:DE X E a fa)(m:DE X E (.BoolOp .And (b::rest) pos) fb):DE X E (.BoolOp .And (a::b::rest) pos) (λd=>fa d>>=λx=>jG x>>=λk=>if k then fb d else pure (.bl false)):=⟨PE.mono (GU l.h m.h) λs H Q h=>by
 obtain⟨n,d,M,f,j,o⟩:=h;refine⟨n,d,M,f,j,o.bind λe I O x t p g q r=>?_⟩
 obtain⟨k,rfl,i⟩:=Go.r6 r;cases q;refine⟨k,rfl,?_⟩;cases k with
 |true=>exact So ⟨e,d,O,f.mono p,g,i⟩
 |false=>exact SA (Go.pure (a:=D.bl false) i e I _ .refl g (.bl false))⟩
def S8(f:DE X E a fa):DE X E (.UnaryOp .Not a pos) (λd=>fa d>>=λx=>jG x>>=λk=>pure (.bl (!k))):=⟨PE.mono (Iq f.h) λq H Q h=>by
 obtain⟨g,d,M,i,j,l⟩:=h;refine⟨g,d,M,i,j,l.bind λe I O x r s m n o=>?_⟩
 obtain⟨k,rfl,p⟩:=Go.r6 o;cases n;exact⟨k,rfl,p.pure e I _ .refl m (.bl _)⟩⟩
def Pk(hc:DT X E c ta)(n:DE X E a fa)(o:DE X E b fb):DE X E (.IfExp c a b pos) (λd=>ta d>>=λk=>if k then fa d else fb d):=⟨PE.mono (MY hc.h n.h o.h) λr H Q h=>by
 obtain⟨p,d,M,f,j,q⟩:=h;refine⟨p,d,M,f,j,q.bind λe O I x dx i l g m=>?_⟩
 have g:x=dx:=g;subst g;cases x with
 |true=>exact So ⟨e,d,I,f.mono i,l,m⟩
 |false=>exact SA ⟨e,d,I,f.mono i,l,m⟩⟩
def ao:DA X E [] (λz=>pure []):=⟨⟨PA.mono J5.h λe H Q h=>by obtain⟨d,f,M,i,j,g⟩:=h;exact g.pure d H [] .refl j .nil⟩⟩
def ak{es:B8}{g:aj->DM (List D)}(k:DE X E a fa)(l:DA X E es g)(hs:autoParam (ZH a=true) qAA):DA X E (a::es) (λd=>fa d>>=λx=>g d>>=λxs=>pure (x::xs)):=⟨⟨PA.mono (U3 k.h l.h hs).h λy H Q h=>by obtain⟨m,d,M,i,j,n⟩:=h;exact⟨m,d,M,i,j,n.bind λe U I x z o p q r=>⟨e,d,I,i.mono o,p,r.bind λf O M2 xs s t u v w=>w.pure f O _ .refl u (.cons (q.mono t) v)⟩⟩⟩⟩
def f9{α:Type}(l:List α):Bool:=decide (l.length<=sizeLine)
def Bp(l:List D):DM D:=opt (if f9 l then some (.tup l)else none)
def qj(l:List D):DM D:=opt (if f9 l then some (.lst l)else none)
def gZ(l:List D):DM D:=λM=>if f9 l then some (.ok (.ref M.length),M++[.lst l])else none
set_option tactic.hygienic true in
def ww{l:List D}{d e:D}(h:(if f9 l then some d else none)=some e):l.length<=sizeLine/\d=e:=by
 split at h
 ·cases h;exact⟨ZW ‹_›,rfl⟩
 ·cases h
variable{es:B8}{fs:aj->DM (List D)}
def gU{x1}(h:DA X E es fs):DE X E (.Tuple es x1 pos) (λg=>fs g>>=Bp):=⟨PE.mono (Ri h.h) λu H Q h=>by
 obtain⟨m,g,M,n,j,o⟩:=h;refine⟨m,g,M,n,j,o.bind λi I O v r w k l s=>?_⟩
 obtain⟨d,e,q⟩:=Go.opt s;obtain⟨t,rfl⟩:=ww e;exact⟨by rw[l.len];exact t,λp f=>q i _ _ (.lay f) (k.lay _ f) (.tup (k.fresh f) ZT (l.mono (.lay f)))⟩⟩
def cP(h:DA X E es fs):DE X E (.List es pos) (λg=>fs g>>=qj):=⟨PE.mono (Fp h.h) λu H Q h=>by
 obtain⟨m,g,M,n,j,o⟩:=h;refine⟨m,g,M,n,j,o.bind λi I O v r w k l s=>?_⟩
 obtain⟨d,e,q⟩:=Go.opt s;obtain⟨t,rfl⟩:=ww e;exact⟨by rw[l.len];exact t,λp f=>q i _ _ (.lay f) (k.lay _ f) (.lst (k.fresh f) ZT (l.mono (.lay f)))⟩⟩
set_option tactic.hygienic true in
theorem Go.gZ{mg:A4}{ρ:Rh}{H:Hp}{M:Mo}{Q:VK}{l:List D}{xs:List V}{p:Addr}(g:Go mg E (Cv mg) Q ρ H (gZ l) M)(j:J mg ρ M H)(c:ZE mg ρ H xs l)(d:H p=none):l.length<=sizeLine/\Q (.ref p) (upd H p (.lst xs)):=by
 obtain⟨r,e,q⟩:=g;unfold L3.gZ at e;split at e
 ·cases e;refine⟨ZW ‹_›,?_⟩;have x:YR ρ H (ρ.put p) (upd H p (.lst xs)):=.put d;refine q _ _ _ x (j.put d ⟨xs,ZT,c.mono x⟩) (.ref ?_);show(ρ.st++[p])[_]?=_;rw[<-j.len];simp
 ·cases e
set_option tactic.hygienic true in
def Go.jv{mg:A4}{ρ:Rh}{H:Hp}{M:Mo}{Q:VK}{l:List D}(g:Go mg E (Cv mg) Q ρ H (L3.gZ l) M):l.length<=sizeLine:=by
 obtain⟨r,e,q⟩:=g;unfold L3.gZ at e;split at e
 ·exact ZW ‹_›
 ·cases e
def sX(h:DA X E es fs):DE X E (.List es pos) (λd=>fs d>>=gZ):=⟨PE.mono (Fp h.h) λq H Q h=>by
 obtain⟨g,d,M,i,j,k⟩:=h;refine⟨g,d,M,i,j,k.bind λl I O r m s n e f=>?_⟩
 exact⟨by rw[e.len];exact f.jv,λp o=>(f.gZ n e o).2⟩⟩
end
section
variable{X:Cx}{E:XK}{mg:A4}{ρ:Rh}{H:Hp}{M:Mo}
def Go.mE(g:Go mg E rel Q ρ H (L3.rd f>>=k) M):∃a,f M=some a/\Go mg E rel Q ρ H (k a) M:=by
 obtain⟨r,e,p⟩:=g;have e:DM.bind _ _ M=some r:=e;unfold DM.bind L3.rd at e;cases h:f M with
 |none=>rw[h]at e;cases e
 |some a=>rw[h]at e;exact⟨a,rfl,r,e,p⟩
def b8.of{f:Value->Value->Sem Value}{g:D->D->Mo->Option D}(i:XV X f r)
  (h:∀x y H Q ρ M b c d,J X.mg ρ M H->Cv X.mg ρ H x b->Cv X.mg ρ H y c->g b c M=some d->(∀ρ' O v,YR ρ H ρ' O->J X.mg ρ' M O->Cv X.mg ρ' O v d->Q v O)->r x y H Q):b8 X E f (λx y=>rd (g x y)):=by
 intro a s k H x y v u Q I l m q;obtain⟨ρ,M,b,c,j,n,o,t⟩:=q;obtain⟨d,e,p⟩:=t.rd;exact i a s k H x y v u Q I l m (h x y H Q ρ M b c d j n o e p)
noncomputable def aU:D->Mo->Option (List D)
 |.lst l,_=>some l
 |.ref n,M=>match M[n]? with
   |some (.lst l)=>some l
   |_=>none
 |_,_=>none
set_option tactic.hygienic true in
def cR(j:J mg ρ M H){l:List D}(c:Cv mg ρ H x d)(e:aU d M=some l):∃a xs,x=.ref a/\H a=some (.lst xs)/\ZE mg ρ H xs l:=by
 cases c with
 |lst n h c=>cases e;exact⟨_,_,rfl,h,c⟩
 |ref q=>
   unfold aU at e;dsimp only at e;split at e
   ·rename_i f b;cases e;obtain⟨xs,h,c⟩:=j.obj _ _ _ q b;exact⟨_,_,rfl,h,c⟩
   ·cases e
 |_=>cases e
def J.kc(j:J mg ρ M H)(h:H p=Option.some (HO.tup xs)):p∉ρ:=λz=>by
 rcases z with z|z
 rotate_left
 ·obtain⟨_,ys,e⟩:=j.hU p z;rw[h]at e;cases e
 obtain⟨n,hn⟩:=yy.mp z;have lt:n<M.length:=by rw[<-j.len];exact(YJ.mp hn).1
 have c:=j.obj n p M[n] hn (YS lt);cases hm:M[n]with
 |lst l=>rw[hm]at c;obtain⟨xs,e,_⟩:=c;rw[h]at e;cases e
 |bG ks l=>rw[hm]at c;obtain⟨xs,e,_⟩:=c;rw[h]at e;cases e
 |ins c' ns l=>rw[hm]at c;obtain⟨_,_,_,_,e,_⟩:=c;rw[h]at e;cases e
def Xv(l:List D):Option D:=if f9 l then some (.tup l)else none
def Nv(l:List D):Option D:=if f9 l then some (.lst l)else none
def eZ:D->D->Mo->Option D
 |.int i,.int j,_=>some (.int (i+j))
 |.str a,.str b,_=>if a.length+b.length<=sizeLine then some (.str (a++b))else none
 |.tup l,.tup m,_=>Xv (l++m)
 |x,y,M=>match aU x M,aU y M with
   |some l,some m=>Nv (l++m)
   |_,_=>none
set_option tactic.hygienic true in
def Lk(h:eZ x y M=some d):(∃i j,x=.int i/\y=.int j/\d=.int (i+j))\/(∃a b,x=.str a/\y=.str b/\a.length+b.length<=sizeLine/\d=.str (a++b))\/(∃l m,x=.tup l/\y=.tup m/\l.length+m.length<=sizeLine/\d=.tup (l++m)) \/
  ∃l m,aU x M=some l/\aU y M=some m/\l.length+m.length<=sizeLine/\d=.lst (l++m):=by
 unfold eZ at h;split at h
 ·cases h;exact .inl ⟨_,_,rfl,rfl,rfl⟩
 ·split at h
  ·cases h;exact .inr (.inl ⟨_,_,rfl,rfl,‹_›,rfl⟩)
  ·cases h
 ·obtain⟨c,rfl⟩:=ww h;rw[Zm]at c;exact .inr (.inr (.inl ⟨_,_,rfl,rfl,c,rfl⟩))
 ·split at h
  ·rename_i l m e f;obtain⟨c,rfl⟩:=ww h;rw[Zm]at c;exact .inr (.inr (.inr ⟨l,m,e,f,c,rfl⟩))
  ·cases h
def bY:b8 X E (binaryOp .Add) (λx y=>rd (eZ x y)):=by
 refine b8.of (GI.or (RF.or (Rb.or HI))) λx y H Q ρ M u v d j g h e q=>?_
 rcases Lk e with⟨i,k,rfl,rfl,rfl⟩|⟨i,k,rfl,rfl,b,rfl⟩|⟨l,m,rfl,rfl,b,rfl⟩|⟨l,m,r,s,b,rfl⟩
 ·cases g;cases h;exact .inl ⟨_,_,rfl,rfl,q ρ H _ .refl j (.int _)⟩
 ·cases g;cases h;exact .inr (.inl ⟨_,_,rfl,rfl,b,q ρ H _ .refl j (.str _)⟩)
 ·cases g with|tup w o c=>cases h with|tup z n f=>
  refine .inr (.inr (.inl ⟨_,_,_,_,rfl,rfl,o,n,by rw[c.len,f.len];exact b,λp I S a=>?_⟩))
  exact q ρ I _ (.same S) (j.same S) (.tup ((j.same S).kc a) a ((c.append f).mono (.same S)))
 ·obtain⟨o,O,rfl,n,c⟩:=cR j g r;obtain⟨U,y1,rfl,t,f⟩:=cR j h s;refine .inr (.inr (.inr ⟨_,_,_,_,rfl,rfl,n,t,by rw[c.len,f.len];exact b,λp a=>?_⟩))
  exact q ρ _ _ (.lay a) (j.lay _ a) (.lst (j.fresh a) ZT ((c.append f).mono (.lay a)))
noncomputable def dj(C:Int->Int->Bool)(g:Int->Int->D):D->D->Mo->Option D
 |.int i,.int j,_=>if C i j then some (g i j)else none
 |_,_,_=>none
set_option tactic.hygienic true in
def xn(h:dj C g x y M=some d):∃i j,x=.int i/\y=.int j/\C i j=true/\d=g i j:=by
 unfold dj at h;split at h
 ·split at h
  ·cases h;exact⟨_,_,rfl,rfl,‹_›,rfl⟩
  ·cases h
 ·cases h
def tR{f:Value->Value->Sem Value}{C:Int->Int->Bool}{g:Int->Int->Int}{P:Int->Int->Prop}(a:XV X f (rI P λi j=>.int (g i j)))(hc:∀i j,C i j=true->P i j):b8 X E f (λx y=>rd (dj C (λi j=>.int (g i j)) x y)):=
 b8.of a λx y H Q ρ M l m d j b c e q=>by obtain⟨i,k,rfl,rfl,h,rfl⟩:=xn e;cases b;cases c;exact⟨_,_,rfl,rfl,hc _ _ h,q ρ H _ .refl j (.int _)⟩
def Bw{f:Value->Value->Sem Value}{g:Int->Int->Int}(a:XV X f (NH λi j=>.int (g i j))):b8 X E f (λx y=>rd (dj (λz z=>true) (λi j=>.int (g i j)) x y)):=
 b8.of a λx y H Q ρ M h l d j b c e q=>by obtain⟨i,k,rfl,rfl,m,rfl⟩:=xn e;cases b;cases c;exact⟨_,_,rfl,rfl,q ρ H _ .refl j (.int _)⟩
def tQ{f:Value->Value->Sem Value}{g:Int->Int->Bool}(a:XV X f (NH λi j=>.bl (g i j))):b8 X E f (λx y=>rd (dj (λz z=>true) (λi j=>.bl (g i j)) x y)):=
 b8.of a λx y H Q ρ M h l d j b c e q=>by obtain⟨i,k,rfl,rfl,m,rfl⟩:=xn e;cases b;cases c;exact⟨_,_,rfl,rfl,q ρ H _ .refl j (.bl _)⟩
abbrev Vr:D->D->Mo->Option D:=dj (λ_ _=>true) λi j=>.int (i-j)
def xJ:b8 X E (binaryOp .Sub) (λx y=>rd (Vr x y)):=Bw IT
def gA(i j:Int):Bool:=!(decide (Builtin.Int.intBits i>shortFactorBits)&&decide (Builtin.Int.intBits j>shortFactorBits)&&Builtin.Int.intTooBig (Builtin.Int.intBits i+Builtin.Int.intBits j))
def gA.ok(h:gA i j=true):IntMulOk i j:=λz=>by unfold gA at h;rw[z]at h;cases h
abbrev uV:D->D->Mo->Option D:=dj gA λi j=>.int (i*j)
def dM:b8 X E (binaryOp .Mult) (λx y=>rd (uV x y)):=tR Rc λi j h=>gA.ok h
def lY(i j:Int):Bool:=decide (0<j)&&!Builtin.divisionGoesByPylong i j
def NZ:XV X (binaryOp .FloorDiv) (rI (λi j=>lY i j=true) λi j=>.int (i / j)):=AN λi j z z z z z a q=>by
 unfold lY at a;have b:0<j:=by have:=(Kb _ _).mp a;exact ZW this.1
 have c:Builtin.divisionGoesByPylong i j=false:=by have:=(Kb _ _).mp a;simpa using this.2
 have e:i.fdiv j=i / j:=Int.fdiv_eq_ediv_of_nonneg i (AJ b);exact floordiv_int (DL b) (by rw[e];exact q) (.inl c)
abbrev jb:D->D->Mo->Option D:=dj lY λi j=>.int (i / j)
def eE:b8 X E (binaryOp .FloorDiv) (λx y=>rd (jb x y)):=tR NZ λi j h=>h
abbrev jw:D->D->Mo->Option D:=dj (λ_ j=>decide (0<j)) λi j=>.int (i%j)
def eO:b8 X E (binaryOp .Mod) (λx y=>rd (jw x y)):=tR Ix λi j h=>ZW h
def PL(i j:Int):Bool:=decide (0<=j/\j<=1000000/\i.natAbs<2^64)
abbrev Oh:D->D->Mo->Option D:=dj PL λi j=>.int (i^j.toNat)
def Rg:b8 X E (binaryOp .Pow) (λx y=>rd (Oh x y)):=tR Ic λi j h=>ZW (p:=0<=j/\j<=1000000/\i.natAbs<2^64) h
abbrev Uh:D->D->Mo->Option D:=dj (λ_ _=>true) λi j=>.bl (decide (i<j))
abbrev Et:D->D->Mo->Option D:=dj (λ_ _=>true) λi j=>.bl (decide (i<=j))
abbrev uq:D->D->Mo->Option D:=dj (λ_ _=>true) λi j=>.bl (decide (j<i))
abbrev Jh:D->D->Mo->Option D:=dj (λ_ _=>true) λi j=>.bl (decide (j<=i))
def JT:b8 X E (compareOp .Lt) (λx y=>rd (Uh x y)):=tQ CF
def rE:b8 X E (compareOp .LtE) (λx y=>rd (Et x y)):=tQ EO
def wu:b8 X E (compareOp .Gt) (λx y=>rd (uq x y)):=tQ BS
def Bx:b8 X E (compareOp .GtE) (λx y=>rd (Jh x y)):=tQ EC
noncomputable def Na(x y:D):Option Bool:=match XT x,XT y with
 |some p,some q=>if p.canLay0&&q.canLay0&&decide (p.depth<=60)then some (PyData.eqv p q)else none
 |_,_=>none
def UR:D->D->Option Bool
 |.str a,.str b=>some (decide (a=b))
 |x,y=>Na x y
def cM(x y:D)(_:Mo):Option D:=(UR x y).map .bl
def jh(x y:D)(_:Mo):Option D:=(UR x y).map λb=>.bl (!b)
set_option tactic.hygienic true in
def Te(h:Na x y=some b):∃p q,XT x=some p/\XT y=some q/\p.canLay0=true/\q.canLay0=true/\p.depth<=60/\b=PyData.eqv p q:=by
 unfold Na at h;split at h
 ·rename_i p q c d;split at h
  ·rename_i a;cases h;simp only[Bool.and_eq_true,decide_eq_true_eq]at a;exact⟨p,q,c,d,a.1.1,a.1.2,a.2,rfl⟩
  ·cases h
 ·cases h
def Td(h:UR x y=some b):(∃a c,x=.str a/\y=.str c/\b=decide (a=c))\/Na x y=some b:=by
 unfold UR at h;split at h
 ·cases h;exact .inl ⟨_,_,rfl,rfl,rfl⟩
 ·exact .inr h
def RT:decide (V.str a=V.str c)=decide (a=c):=by rw[Zf];simp
def Fe(h1:XV X f (λx y H Q=>GV x y=true/\Q (.bl (n ^^ decide (x=y))) H))(h2:XV X f (Ol X.K n)):b8 X E f (λx y=>rd λZ=>(UR x y).map λb=>.bl (n ^^ b)):=by
 intro h s k H x y v u Q I l m q;obtain⟨ρ,M,dx,dy,j,o,r,g⟩:=q;obtain⟨d,e,q⟩:=Go.rd g;obtain⟨b,i,rfl⟩:=YM.mp e;rcases Td i with⟨a,c,rfl,rfl,rfl⟩|i
 ·cases o;cases r;refine h1 h s k H _ _ v u Q I l m ⟨rfl,?_⟩;rw[RT];exact q ρ H _ .refl j (.bl _)
 ·obtain⟨p,t,w,z,O,U,h5,rfl⟩:=Te i;refine h2 h s k H x y v u Q I l m ⟨p,t,(o.ja w).ka,(r.ja z).ka,O,U,h5,?_⟩;have:=q ρ H _ .refl j (.bl _);cases n
  ·simpa using this
  ·simpa using this
def bN(c:X.A.units+64<cLine):b8 X E (compareOp .Eq) (λx y=>rd (cM x y)):=by
 have h:=Fe (X:=X) (E:=E) (n:=false) (f:=compareOp .Eq) (λa s d H x y v u Q I g i q=>CI (X:=X) a s d H x y v u Q I g i ⟨q.1,by simpa using q.2⟩) (Uv c)
 have e:(λx y=>(rd (cM x y):DM D))=λx y=>rd λz=>(UR x y).map λb=>.bl (false ^^ b):=by funext x y;show rd _=rd _;congr 1;funext M;simp only[cM,Bool.false_xor,Bool.true_xor]
 rw[e];exact h
def dq(c:X.A.units+64<cLine):b8 X E (compareOp .NotEq) (λx y=>rd (jh x y)):=by
 have h:=Fe (X:=X) (E:=E) (n:=true) (f:=compareOp .NotEq) (λa s d H x y v u Q I g i q=>EG (X:=X) a s d H x y v u Q I g i ⟨q.1,by simpa using q.2⟩) (Uz c)
 have e:(λx y=>(rd (jh x y):DM D))=λx y=>rd λz=>(UR x y).map λb=>.bl (true ^^ b):=by funext x y;show rd _=rd _;congr 1;funext M;simp only[jh,Bool.false_xor,Bool.true_xor]
 rw[e];exact h
theorem ZE.rep(c:Cv mg ρ H v d):∀n,ZE mg ρ H (List.replicate n v) (List.replicate n d)
 |0=>.nil
 |n+1=>.cons c (ZE.rep c n)
def Hg(l:List D)(k:Int):Option (List D):=if decide (-(2^63)<=k/\k<2^63/\l.length*k.toNat<=sizeLine)then some (List.replicate k.toNat l).flatten else none
theorem ZE.kx{vs:List V}{ds:List D}(c:ZE mg ρ H vs ds):∀n,ZE mg ρ H (List.replicate n vs).flatten (List.replicate n ds).flatten
 |0=>.nil
 |n+1=>by rw[Kx,Kx,CY,CY];exact c.append (ZE.kx c n)
def uW(x y:D)(M:Mo):Option (List D):=match aU x M,y with
 |some l,.int k=>Hg l k
 |_,_=>none
set_option tactic.hygienic true in
def Fb{l:List D}(h:uW x y M=some l):∃m k,aU x M=some m/\y=.int k/\(-(2^63)<=k/\k<2^63/\m.length*k.toNat<=sizeLine)/\l=(List.replicate k.toNat m).flatten:=by
 unfold uW at h;split at h
 ·rename_i m k a;unfold Hg at h;split at h
  ·rename_i b;cases h;exact⟨m,k,a,rfl,ZW b,rfl⟩
  ·cases h
 ·cases h
def Rf:b8 X E (binaryOp .Mult) (λx y=>rd (λM=>(uW x y M).map .lst)):=b8.of OE λx y H Q ρ M t u d j f g e q=>by
 obtain⟨l,h,rfl⟩:=YM.mp e;obtain⟨m,k,i,rfl,⟨n,o,r⟩,rfl⟩:=Fb h;obtain⟨a,v,rfl,s,c⟩:=cR j f i;cases g;refine⟨_,_,_,rfl,rfl,s,n,o,by rw[c.len];exact r,λp b=>?_⟩
 exact q ρ _ _ (.lay b) (j.lay _ b) (.lst (j.fresh b) ZT ((ZE.kx c _).mono (.lay b)))
def Uk(x y:D):DM D:=rd (uW x y)>>=gZ
def Ff:b8 X E (binaryOp .Mult) Uk:=by intro b s d H x y v u Q I e f q;obtain⟨ρ,M,dx,dy,j,h,i,n⟩:=q;obtain⟨l,o,g⟩:=Go.mE n;obtain⟨m,k,r,rfl,⟨t,w,z⟩,rfl⟩:=Fb o;obtain⟨a,xs,rfl,O,c⟩:=cR j h r;cases i;exact OE (X:=X) b s d H _ _ v u Q I e f ⟨_,_,_,rfl,rfl,O,t,w,by rw[c.len];exact z,λp U=>(g.gZ j (ZE.kx c _) U).2⟩
def NB:D->Mo->Option D
 |.int i,_=>some (.int (-i))
 |_,_=>none
def S7(f:DE X E a fa):DE X E (.UnaryOp .USub a pos) (λb=>fa b>>=λx=>rd (NB x)):=⟨PE.mono (DF HV f.h) λn H Q h=>by
 obtain⟨ρ,b,M,g,j,i⟩:=h;refine⟨ρ,b,M,g,j,i.bind λc I O x o p k l m=>?_⟩
 obtain⟨d,e,q⟩:=m.rd;unfold NB at e;split at e
 ·cases e;cases l;exact⟨_,rfl,q c I _ .refl k (.int _)⟩
 ·cases e⟩
theorem ZE.at(c:ZE mg ρ H vs ds)(h:TM ds i=some d):∃v,TM vs i=some v/\Cv mg ρ H v d:=by
 unfold TM at h ⊢
 rw[c.len];obtain⟨n,a,e⟩:=Y7.mp h;obtain⟨v,b,f⟩:=c.get e;exact⟨v,by rw[a];exact b,f⟩
def fD:D->D->Mo->Option D
 |.tup l,.int i,_=>TM l i
 |.eB l,.int i,_=>(TM l i).map .int
 |x,.int i,M=>(aU x M).bind λl=>TM l i
 |_,_,_=>none
def WX(X:Cx)(E:XK)(g:D->D->DM D):Prop:=BA X (rD X.mg E g)
set_option tactic.hygienic true in
def bj:WX X E (λx y=>rd (fD x y)):=by
 intro b f g s m H x y v u Q I o r q t;obtain⟨ρ,M,dx,dy,j,O,U,go⟩:=q;obtain⟨d,e,p⟩:=go.rd;unfold fD at e;split at e
 ·cases U;cases O with|tup n a c=>
  obtain⟨w,h,cw⟩:=c.at e;exact He (X:=X) b f g s m H _ _ v u Q I o r ⟨_,_,_,_,rfl,rfl,XO.of a,h,p ρ H _ .refl j cw⟩ t
 ·rename_i l i;cases U;cases O with|eB n a=>
  obtain⟨z,k,rfl⟩:=YM.mp e;have h:TM (l.map V.int) i=some (V.int z):=by
   unfold TM at k ⊢
   rw[YT];obtain⟨n,hn,e⟩:=Y7.mp k;rw[hn];show(List.map V.int _)[n]?=_;rw[Y8,e];rfl
  exact PH (X:=X) b f g s m H _ _ v u Q I o r ⟨_,_,_,_,rfl,rfl,.inl a,h,p ρ H _ .refl j (.int z)⟩ t
 ·cases U;obtain⟨l,h1,k⟩:=Y7.mp e;obtain⟨a,xs,rfl,ha,c⟩:=cR j O h1;obtain⟨w,h,cw⟩:=c.at k;exact PH (X:=X) b f g s m H _ _ v u Q I o r ⟨_,_,_,_,rfl,rfl,XI.of ha,h,p ρ H _ .refl j cw⟩ t
 ·cases e
def aQ(d:WX X E g)(e:DE X E a fa)(f:DE X E b fb)(hs:PC b:=by exactλw w=>rfl):DE X E (.Subscript a b pos) (λc=>fa c>>=λx=>fb c>>=λy=>g x y):=
 ⟨PE.mono (CU d e.h f.h hs) λi H Q h=>En (λw w w w z=>z) h⟩
def O7:D->DM (Option Int)
 |.int i=>pure (some i)
 |_=>stuck
def cutD(xs:List D)(lo a:Option Int):List D:=(xs.drop (HT.X9 xs.length 0 lo)).take (HT.X9 xs.length xs.length a-HT.X9 xs.length 0 lo)
def ZE.cut(c:ZE mg ρ H vs ds)(lo a:Option Int):ZE mg ρ H (T0 vs lo a) (cutD ds lo a):=by unfold T0 cutD;rw[c.len];exact(c.drop _).take _
structure DP(X:Cx)(E:XK)(e:Option Expr)(f:aj->DM (Option Int)):Prop where
 h:PO X e (tD X.mg E (λ_ _ (b a:Option Int)=>b=a) f)
def PO.mono(h:PO X e t)(f:∀a H Q,t' a H Q->t a H Q):PO X e t':=λb s a H Q I q=>h b s a H Q I (f a H Q q)
def QB:DP X E none (λz=>pure none):=⟨PO.mono KW λa H Q h=>by obtain⟨ρ,b,M,c,j,g⟩:=h;exact g.pure ρ H none .refl j rfl⟩
def w6(f:DE X E a fa):DP X E (some a) (λb=>fa b>>=O7):=⟨PO.mono (LG f.h) λo H Q h=>by
 obtain⟨ρ,b,M,g,j,k⟩:=h;refine⟨ρ,b,M,g,j,k.bind λc I O x l p m n d=>?_⟩
 cases l with
 |int i=>cases n;exact⟨i,rfl,Go.pure (a:=some i) d c I _ .refl m rfl⟩
 |_=>obtain⟨r,e,_⟩:=d;cases e⟩
def P0(lo a:Option Int):D->Mo->Option D
 |.tup l,_=>some (.tup (cutD l lo a))
 |x,M=>(aU x M).map λl=>.lst (cutD l lo a)
def Xq:Fk X (λx lo g H Q=>∃ρ M i d,J X.mg ρ M H/\Cv X.mg ρ H x i/\P0 lo g i M=some d/\∀ρ' O v,YR ρ H ρ' O->J X.mg ρ' M O->Cv X.mg ρ' O v d->Q v O):=by
 intro b s k H x v m o lo g r Q I t u pl w h;obtain⟨ρ,M,i,d,j,c,e,q⟩:=h;unfold P0 at e;split at e
 ·cases e;cases c with|tup n a c=>
  refine RK (X:=X) b s k H _ v m o lo g r Q I t u pl w ⟨_,_,rfl,a,λp O S f=>?_⟩
  exact q ρ O _ (.same S) (j.same S) (.tup ((j.same S).kc f) f ((c.cut lo g).mono (.same S)))
 ·obtain⟨l,y,rfl⟩:=YM.mp e;obtain⟨a,U,rfl,z,c⟩:=cR j c y;refine P2 (X:=X) b s k H _ v m o lo g r Q I t u pl w ⟨_,_,rfl,XI.of z,λp f=>?_⟩
  exact q ρ _ _ (.lay f) (j.lay _ f) (.lst (j.fresh f) ZT ((c.cut lo g).mono (.lay f)))
def Mq{n:aj->DM D}{lo o:Option Expr}{p fh:aj->DM (Option Int)}(t:DE X E a n)(hl:DP X E lo p)(u:DP X E o fh):
  DE X E (.Subscript a (.Slice lo o none p2) pos) (λb=>n b>>=λx=>p b>>=λl=>fh b>>=λh=>rd (P0 l h x)):=⟨PE.mono (Sn Xq t.h hl.h u.h) λσ H Q h=>by
 obtain⟨ρ,b,M,c,j,v⟩:=h;refine⟨ρ,b,M,c,j,v.bind λf H1 I x w r y z O=>⟨f,b,I,c.mono r,y,O.bind λg H2 U l dl s j2 i g3=>⟨g,b,U,(c.mono r).mono s,j2,g3.bind λk H3 M3 h dh e3 j3 m g4=>?_⟩⟩⟩
 have i:l=dl:=i;have m:h=dh:=m;subst i m;obtain⟨d,e,q⟩:=g4.rd;exact⟨k,M3,w,d,j3,(z.mono s).mono e3,e,q⟩⟩
end
inductive Fl where
 |nx (δ:aj)|rt (d:D)|bk (δ:aj)|ct (δ:aj)
def sS(mg:A4)(ρ:Rh)(H:Hp)(D:Ends)(E:XK):R Fl×Mo->Prop
 |(.ok (.nx δ'),M')=>∀ρ' I a,YR ρ H ρ' I->J mg ρ' M' I->Ev mg ρ' I a δ'->D.nx a I
 |(.ok (.bk δ'),M')=>∀ρ' I a,YR ρ H ρ' I->J mg ρ' M' I->Ev mg ρ' I a δ'->D.bk a I
 |(.ok (.ct δ'),M')=>∀ρ' I a,YR ρ H ρ' I->J mg ρ' M' I->Ev mg ρ' I a δ'->D.ct a I
 |(.ok (.rt d),M')=>∀ρ' I v,YR ρ H ρ' I->J mg ρ' M' I->Cv mg ρ' I v d->D.rt v I
 |(.exc c,M')=>∀ρ' I C,YR ρ H ρ' I->J mg ρ' M' I->mg c=some (.ref C)->E (.ref C) none I
def bz(mg:A4)(E:XK)(D:Ends)(ρ:Rh)(H:Hp)(m:DM Fl)(M:Mo):Prop:=∃r,m M=some r/\sS mg ρ H D E r
section
variable{mg:A4}{ρ ρ':Rh}{H H':Hp}{E:XK}{α β:Type}{rel:Rh->Hp->β->α->Prop}{D D':Ends}{Q':β->Hp->Prop}{M:Mo}
def sS.mono(e:YR ρ H ρ' H')(h:sS mg ρ H D E r):sS mg ρ' H' D E r:=by
 obtain⟨r,M'⟩:=r;cases r with
 |ok a=>cases a<;>exactλρ2 H2 b e2 j c=>h ρ2 H2 b (e.trans e2) j c
 |exc c=>exactλρ2 H2 C e2 j m=>h ρ2 H2 C (e.trans e2) j m
set_option tactic.hygienic true in
theorem bz.bind(g:bz mg E D ρ H (m>>=k) M)
  (f:∀ρ1 I O b a,YR ρ H ρ1 I->J mg ρ1 O I->rel ρ1 I b a->bz mg E D ρ1 I (k a) O->Q' b I):Go mg E rel Q' ρ H m M:=by
 obtain⟨r,e,p⟩:=g;have e:DM.bind m k M=some r:=e;unfold DM.bind at e;split at e
 ·cases e
 ·rename_i c U d;cases e;exact⟨_,d,p⟩
 ·rename_i a U d;exact⟨_,d,λρ1 I b x j c=>f ρ1 I U b a x j c ⟨r,e,p.mono x⟩⟩
theorem bz.pure(g:bz mg E D ρ H (pure a) M):sS mg ρ H D E (.ok a,M):=by obtain⟨r,e,p⟩:=g;have e:some (R.ok a,M)=some r:=e;cases e;exact p
def nQ(f g:aj->DM Fl):aj->DM Fl:=λb=>f b>>=λr=>match r with
 |.nx a=>g a
 |r=>Pure.pure r
set_option tactic.hygienic true in
def bz.seq(g:bz mg E D ρ H (f>>=k) M)
  (l:∀δ' ρ1 I O h,YR ρ H ρ1 I->J mg ρ1 O I->Ev mg ρ1 I h δ'->bz mg E D ρ1 I (k (.nx δ')) O->D'.nx h I)
  (m:∀δ' ρ1 I O h,YR ρ H ρ1 I->J mg ρ1 O I->Ev mg ρ1 I h δ'->bz mg E D ρ1 I (k (.bk δ')) O->D'.bk h I)
  (hc:∀δ' ρ1 I O h,YR ρ H ρ1 I->J mg ρ1 O I->Ev mg ρ1 I h δ'->bz mg E D ρ1 I (k (.ct δ')) O->D'.ct h I)
  (n:∀d ρ1 I O v,YR ρ H ρ1 I->J mg ρ1 O I->Cv mg ρ1 I v d->bz mg E D ρ1 I (k (.rt d)) O->D'.rt v I):bz mg E D' ρ H f M:=by
 obtain⟨r,e,p⟩:=g;have e:DM.bind f k M=some r:=e;unfold DM.bind at e;split at e
 ·cases e
 ·rename_i c U i;cases e;exact⟨_,i,p⟩
 ·rename_i a U i;refine⟨_,i,?_⟩;cases a with
  |nx δ'=>exactλρ1 I b x j c=>l δ' ρ1 I U b x j c ⟨r,e,p.mono x⟩
  |bk δ'=>exactλρ1 I b x j c=>m δ' ρ1 I U b x j c ⟨r,e,p.mono x⟩
  |ct δ'=>exactλρ1 I b x j c=>hc δ' ρ1 I U b x j c ⟨r,e,p.mono x⟩
  |rt d=>exactλρ1 I b x j c=>n d ρ1 I U b x j c ⟨r,e,p.mono x⟩
end
def tS(mg:A4)(E:XK)(f:aj->DM Fl):TS:=λD c H=>∃a b M,Ev mg a H c b/\J mg a M H/\bz mg E D a H (f b) M
structure DS(X:Cx)(E:XK)(st:Stmt)(f:aj->DM Fl):Prop where
 h:PS X st (tS X.mg E f)
structure SG(X:Cx)(E:XK)(st:List Stmt)(f:aj->DM Fl):Prop where
 h:T1 X st (tS X.mg E f)
def PS.mono(h:PS X e t)(f:∀D a H,t' D a H->t D a H):PS X e t':=λb s a H D I q=>h b s a H D I (f D a H q)
def T1.mono(h:T1 X e t)(f:∀D a H,t' D a H->t D a H):T1 X e t':=λb s a H D I q=>h b s a H D I (f D a H q)
section
variable{X:Cx}{E:XK}{st:Stmt}{rest:List Stmt}{f g:aj->DM Fl}{e:Expr}{fe:aj->DM D}{pos:Pos}
def bw:SG X E [] (λa=>pure (.nx a)):=⟨T1.mono Mb λD b H h=>by obtain⟨c,a,M,d,j,g⟩:=h;exact g.pure c H b .refl j d⟩
def au(h:DS X E st f):SG X E [st] f:=⟨Qb h.h⟩
def aq(h1:DS X E st f)(h2:SG X E rest g):SG X E (st::rest) (nQ f g):=⟨T1.mono (NI h1.h h2.h) λD s H h=>by
 obtain⟨n,o,M,p,j,q⟩:=h;refine⟨n,o,M,p,j,q.seq (λi a I O c m k b l=>⟨a,i,O,b,k,l⟩) (λi a I O c m k b l=>?_) (λi a I O c m k b l=>?_) (λd a I O v m k r l=>?_)⟩
 ·exact bz.pure l a I c .refl k b
 ·exact bz.pure l a I c .refl k b
 ·exact bz.pure l a I v .refl k r⟩
def aL(c:DE X E e fe):DS X E (.Return (some e) pos) (λa=>fe a>>=λd=>pure (.rt d)):=⟨PS.mono (L2.QN c.h) λD p H h=>by obtain⟨i,a,M,k,j,l⟩:=h;exact⟨i,a,M,k,j,l.bind λb I O v d q m n o=>o.pure b I v .refl m n⟩⟩
def jX(i:DE X E e fe)(hs:autoParam (swapsWith e none pos.line X.env=pure false) qAA):DS X E (.Expr e pos) (λa=>fe a>>=λz=>pure (.nx a)):=⟨PS.mono (L9 i.h hs) λD k H h=>by obtain⟨l,a,M,c,j,m⟩:=h;exact⟨l,a,M,c,j,m.bind λb I O v d n o q p=>p.pure b I k .refl o (c.mono n)⟩⟩
def aJ(k:X.N.Nodup)(l:X.N[i]?=some x)(m:Loc X.env.scope x)(n:DE X E e fe)(hs:autoParam (swapsWith e (some (.Name x pos')) pos.line X.env=pure false) qAA)(o:X.fn x=true\/X.env.scope.names.lookup x=some .local:=by first|exact .inl rfl|exact .inr rfl|assumption):
  DS X E (.Assign [.Name x pos'] e pos) (λa=>fe a>>=λd=>pure (.nx (a.set i (some d)))):=⟨PS.mono (GP k l m n.h hs o) λD w H h=>by
 obtain⟨p,a,M,c,j,q⟩:=h;exact⟨p,a,M,c,j,q.bind λb I O v d r s t u=>u.pure b I _ .refl s ((c.mono r).set t)⟩⟩
def bU(hc:DT X E c tc)(q:SG X E a f)(r:SG X E b g):DS X E (.If c a b pos) (λd=>tc d>>=λk=>if k then f d else g d):=⟨PS.mono (L2.CD hc.h q.h r.h) λD u H h=>by
 obtain⟨s,d,M,l,j,t⟩:=h;refine⟨s,d,M,l,j,t.bind λi O I x dx n o m p=>?_⟩
 have m:x=dx:=m;subst m;cases x with
 |true=>exact So ⟨i,d,I,l.mono n,o,p⟩
 |false=>exact SA ⟨i,d,I,l.mono n,o,p⟩⟩
def tG(mg:A4)(E:XK)(fg:D->aj->DM aj):TG:=λv c H Q=>∃a b M d,Ev mg a H c b/\J mg a M H/\Cv mg a H v d/\Go mg E (Ev mg) Q a H (fg d b) M
def Yq(mg:A4)(E:XK)(fg:List D->aj->DM aj):kC:=λd h H Q=>∃a b M c,Ev mg a H h b/\J mg a M H/\ZE mg a H d c/\Go mg E (Ev mg) Q a H (fg c b) M
structure DG(X:Cx)(E:XK)(tg:Expr)(fg:D->aj->DM aj):Prop where
 h:PG X tg (tG X.mg E fg)
structure AI(X:Cx)(E:XK)(tg:B8)(fg:List D->aj->DM aj):Prop where
 h:MB X tg (Yq X.mg E fg)
def PG.mono(h:PG X tg t)(f:∀v a H Q,t' v a H Q->t v a H Q):PG X tg t':=λb s a H v u Q I r q=>h b s a H v u Q I r (f v a H Q q)
def MB.mono(h:MB X tg t)(f:∀v a H Q,t' v a H Q->t v a H Q):MB X tg t':=λb s a H v u Q I r q=>h b s a H v u Q I r (f v a H Q q)
def gN(i:Nat):D->aj->DM aj:=λd a=>pure (a.set i (some d))
def aN(a:X.N.Nodup)(b:X.N[i]?=some x)(k:Loc X.env.scope x)(l:X.fn x=true\/X.env.scope.names.lookup x=some .local:=by first|exact .inl rfl|exact .inr rfl|assumption):DG X E (.Name x pos) (gN i):=
 ⟨PG.mono (Mc a b k l) fun v p H Q h=>by obtain⟨m,q,M,d,n,j,c,o⟩:=h;exact Go.pure o m H _ .refl j (n.set c)⟩
def lZ:List D->aj->DM aj
 |[],a=>pure a
 |_,_=>stuck
def eG(f:D->aj->DM aj)(a:List D->aj->DM aj):List D->aj->DM aj
 |d::l,b=>f d b>>=λδ'=>a l δ'
 |_,_=>stuck
def tu:AI X E [] lZ:=⟨MB.mono LF λvs σ H Q h=>by
 obtain⟨ρ,δ,M,ds,ev,j,c,g1⟩:=h;cases c with
 |nil=>exact⟨rfl,Go.pure (a:=δ) g1 ρ H σ .refl j ev⟩
 |cons _ _=>obtain⟨r,e,_⟩:=g1;cases e⟩
def fB(h1:DG X E e fg)(h2:AI X E es fgs)(hs:autoParam ((assignEach (e::es) X.env).map (·.2)=assign e X.env::(assignEach es X.env).map (·.2)) qAA):AI X E (e::es) (eG fg fgs):=
 ⟨MB.mono (NM h1.h h2.h hs) fun vs σ H Q h=>by
  obtain⟨ρ,δ,M,ds,ev,j,c,g1⟩:=h;cases c with
  |nil=>obtain⟨r,e,_⟩:=g1;cases e
  |cons c1 c2=>
    have g1:Go X.mg E (Ev X.mg) Q ρ H (fg _ δ>>=λδ'=>fgs _ δ') M:=g1
    exact⟨_,_,rfl,ρ,δ,M,_,ev,j,c1,g1.bind λρ1 H1 M1 σ1 δ1 e1 j1 ev1 g2=>⟨ρ1,δ1,M1,_,ev1,j1,c2.mono e1,g2⟩⟩⟩
def gT(n:Nat)(a:List D->aj->DM aj):D->aj->DM aj
 |.tup l,b=>if l.length=n then a l b else stuck
 |_,_=>stuck
set_option tactic.hygienic true in
def vU(hc:X.calm=true)(h:AI X E es fgs)(m:autoParam ((assignEach es X.env).length=n) qAA)(i:autoParam ((assignEach es X.env).findIdx? (·.1)=none) qAA):DG X E (.Tuple es k pos) (gT n fgs):=
 ⟨PG.mono (IE hc h.h m i) fun v s H Q h=>by
  obtain⟨l,o,M,d,p,j,c,b⟩:=h;cases c with
  |tup nx a c=>
    have b:Go X.mg E (Ev X.mg) Q l H (if _ then _ else _) M:=b
    split at b
    ·rename_i q;exact⟨_,_,rfl,XO.of a,by rw[c.len];exact q,l,o,M,_,p,j,c,b⟩
    ·obtain⟨r,e,_⟩:=b;cases e
  |_=>obtain⟨r,e,_⟩:=b;cases e⟩
def Hk:D->D->D->DM Unit
 | .ref n,.int k,v=>λM=>match M[n]? with
   |some (.lst l)=>match RY l.length k with
     |some j=>some (.ok (),M.set n (.lst (l.set j v)))
     |none=>none
   |_=>none
 |_,_,_=>stuck
def G9(mg:A4)(E:XK)(d:D->D->D->DM Unit):iP:=λo i v H Q=>∃a M b c dv,J mg a M H/\Cv mg a H o b/\Cv mg a H i c/\Cv mg a H v dv/\Go mg E (λ_ _ (_:Unit) (_:Unit)=>True) (λz I=>Q I) a H (d b c dv) M
set_option tactic.hygienic true in
def wQ:OX X (G9 X.mg E Hk):=by
 intro b s t H o i v w y u Q I z O rv h;obtain⟨d,M,dO,di,dv,j,U,ci,cv,r,e,p⟩:=h;cases U with
 |ref m=>
   cases ci with
   |int k=>
     rename_i n a;have e:(match M[n]? with
      |some (.lst l)=>match RY l.length k with
        |some j=>some (R.ok (),M.set n (.lst (l.set j dv)))
        |none=>none
      |_=>none)=some r:=e
     split at e
     ·rename_i l hl;split at e
      ·rename_i q hq;cases e;obtain⟨xs,hx,c⟩:=j.obj _ _ _ m hl;have x:YR d H d (upd H a (.lst (xs.set q v))):=.upd (Zk m);exact NJ (X:=X) b s t H _ _ v w y u Q I z O rv ⟨_,_,_,q,rfl,rfl,hx,by rw[c.len];exact hq,p d _ () x (j.upd m ⟨_,ZT,(c.set cv q).mono x⟩) trivial⟩
      ·cases e
     ·cases e
   |_=>cases e
 |_=>cases e
def qO(ho:DE X E o fo)(s:DE X E i fi)(hs:OX X (G9 X.mg E gs))
  (t:∀v,assign (.Subscript o i pos) X.env v=(do
    let b <-holding [v] (eval o X.env)
    let k <-holding [v,b] (eval i X.env)
    standAt pos
    holding [v,b,k] (setItem b k v)
    release [v,b,k] []):=by intro _;rfl):DG X E (.Subscript o i pos) (λd a=>fo a>>=λo=>fi a>>=λi=>gs o i d>>=λg=>pure a):=
 ⟨PG.mono (IH ho.h s.h hs t) fun v u H Q h=>by obtain⟨w,a,M,d,l,j,c,z⟩:=h;exact⟨w,a,M,l,j,z.bind λm H1 I x O n U c1 g2=>⟨m,a,I,l.mono n,U,g2.bind λp H2 M2 y dy q j2 c2 g3=>⟨p,M2,O,dy,d,j2,c1.mono q,c2,(c.mono n).mono q,g3.bind λr H3 M3 g g e3 j3 g g4=>g4.pure r H3 u .refl j3 (((l.mono n).mono q).mono e3)⟩⟩⟩⟩
def qP(m:DE X E e fe)(n:DG X E tg fg)(hs:autoParam (swapsWithSole [tg] e pos.line X.env=pure false) qAA)(hw:autoParam (swappedStores [tg] e X.env=pure none) qAA)
  (h1:autoParam ((assignEach [tg] X.env).map (·.2)=[assign tg X.env]) qAA):DS X E (.Assign [tg] e pos) (λa=>fe a>>=λd=>fg d a>>=λδ'=>pure (.nx δ')):=⟨PS.mono (HU m.h n.h hs hw h1) λD y H h=>by
 obtain⟨o,a,M,l,j,p⟩:=h;exact⟨o,a,M,l,j,p.bind λb U I v d q r s t=>⟨b,a,I,d,l.mono q,r,s,t.bind λc O z i u e2 w k x=>x.pure c O i .refl w k⟩⟩⟩
def xM(i j:Nat)(b:aj->DM (List D)):aj->DM Fl:=λa=>b a>>=λl=>match l with
 |[v,w]=>pure (.nx ((a.set i (some v)).set j (some w)))
 |_=>stuck
def Aj{kt k2 pt2}(hc:X.calm=true)(hN:X.N.Nodup)(hi:X.N[i]?=some x)(hj:X.N[j]?=some y)(cf:i≠j)
  (hx:X.env.scope.names.lookup x=some .local) (hy:X.env.scope.names.lookup y=some .local) (ha:DA X E [a,b] fa)
  (hw:swappedStores [.Tuple [.Name x px,.Name y py] kt pt] (.Tuple [a,b] k2 pt2) X.env=pure (some [x,y]))
  (hs:autoParam (swapsWithSole [.Tuple [.Name x px,.Name y py] kt pt] (.Tuple [a,b] k2 pt2) pos.line X.env=pure false) qAA) :
  DS X E (.Assign [.Tuple [.Name x px,.Name y py] kt pt] (.Tuple [a,b] k2 pt2) pos) (xM i j fa):=⟨PS.mono (G2 hc hN hi hj cf hx hy ha.h.h hw hs) λD σ H h=>by
 obtain⟨ρ,δ,M,ev,j,g1⟩:=h;refine⟨ρ,δ,M,ev,j,bz.bind g1 λρ1 H1 M1 v d e1 j1 c1 g2=>?_⟩
 cases c1 with
 |nil=>obtain⟨r,e,_⟩:=g2;cases e
 |cons c1 c2=>cases c2 with
   |nil=>obtain⟨r,e,_⟩:=g2;cases e
   |cons c2 c3=>cases c3 with
     |nil=>exact⟨_,_,rfl,bz.pure (a:=.nx _) g2 ρ1 H1 _ .refl j1 (((ev.mono e1).set c1).set c2)⟩
     |cons _ _=>obtain⟨r,e,_⟩:=g2;cases e⟩
def N5:b8 X E (inplaceOp .Add) (λx y=>rd (dj (λz z=>true) (λi j=>.int (i+j)) x y)):=Bw L4
end
inductive XG where
 |fix (l:List D)|dyn (n:Nat)
noncomputable def XG.next:XG->Nat->Mo->Option (Option D)
 |.fix l,i,_=>some l[i]?
 |.dyn n,i,M=>match M[n]? with
   |some (.lst l)=>some l[i]?
   |_=>none
set_option tactic.hygienic true in
structure S3(mg:A4)(ρ:Rh)(H:Hp)(Jt:It)(it:XG):Prop where
 item:∀(i:Nat) ρ' H' M' d,Kp ρ H ρ' H'->J mg ρ' M' H'->it.next i M'=some (some d)->Jt.go i H'/\∀x H2,Jt.nc i H' x H2->YR ρ' H' ρ' H2/\J mg ρ' M' H2/\Cv mg ρ' H2 x d
 stop:∀(i:Nat) ρ' H' M',Kp ρ H ρ' H'->J mg ρ' M' H'->it.next i M'=some none->Jt.stop i H'
def tI(mg:A4)(E:XK)(fi:aj->DM XG):TI:=λa H R=>tD mg E (S3 mg) fi a H R
structure DI(X:Cx)(E:XK)(tg it:Expr)(fi:aj->DM XG):Prop where
 h:PI X tg it (tI X.mg E fi)
def PI.mono(h:PI X tg e t)(f:∀a H Q,t' a H Q->t a H Q):PI X tg e t':=λb s a H Q I q=>h b s a H Q I (f a H Q q)
def T4{K:B0}{mg:A4}{ρ:Rh}{H:Hp}{a:Addr}{xs:List V}{ds:List D}(n:a∉ρ)(h:H a=some (.lst xs))(c:ZE mg ρ H xs ds):S3 mg ρ H (AR K a) (.fix ds)where
 item:=λi b I O d e j q=>by
  have f:ds[i]?=some d:=Y4 q;obtain⟨v,g,l⟩:=c.get f;have k:=(e.keep _ _ h n nofun).2
  refine⟨⟨xs,v,XI.of k,g⟩,λx U y=>?_⟩
  obtain⟨rfl,y⟩:=y;have:=y xs (XI.of k);rw[g]at this;cases this;exact⟨.refl,j,l.kp e⟩
 stop:=λi b I O e j q=>by have f:ds[i]?=none:=Y4 q;exact⟨xs,XI.of (e.keep _ _ h n nofun).2,by rw[c.len];exact Z0.mp f⟩
def T5{K:B0}{mg:A4}{ρ:Rh}{H:Hp}{a:Addr}{xs:List V}{ds:List D}(n:a∉ρ)(h:H a=some (.tup xs))(c:ZE mg ρ H xs ds):S3 mg ρ H (xD K a) (.fix ds)where
 item:=λi b I O d e j q=>by
  have f:ds[i]?=some d:=Y4 q;obtain⟨v,g,l⟩:=c.get f;have k:=(e.keep _ _ h n nofun).2
  refine⟨⟨xs,v,XO.of k,g⟩,λx U y=>?_⟩
  obtain⟨rfl,y⟩:=y;have:=y xs (XO.of k);rw[g]at this;cases this;exact⟨.refl,j,l.kp e⟩
 stop:=λi b I O e j q=>by have f:ds[i]?=none:=Y4 q;exact⟨xs,XO.of (e.keep _ _ h n nofun).2,by rw[c.len];exact Z0.mp f⟩
set_option tactic.hygienic true in
def T3{K:B0}{mg:A4}{ρ:Rh}{H:Hp}{a:Addr}{n:Nat}(h:ρ.st[n]?=some a):S3 mg ρ H (AR K a) (.dyn n)where
 item:=λi g I O d e j q=>by
  have k:=e.at h;unfold XG.next at q;dsimp only at q;split at q
  ·rename_i l m;obtain⟨b,f,c⟩:=j.obj n a _ k m;have o:l[i]?=some d:=Y4 q;obtain⟨v,p,r⟩:=c.get o;refine⟨⟨b,v,XI.of f,p⟩,λx U y=>?_⟩
   obtain⟨rfl,y⟩:=y;have:=y b (XI.of f);rw[p]at this;cases this;exact⟨.refl,j,r⟩
  ·cases q
 stop:=λi g I O e j q=>by
  have k:=e.at h;unfold XG.next at q;dsimp only at q;split at q
  ·rename_i l m;obtain⟨b,f,c⟩:=j.obj n a _ k m;have o:l[i]?=none:=Y4 q;exact⟨b,XI.of f,by rw[c.len];exact Z0.mp o⟩
  ·cases q
def pL(lo:Int)(n:Nat):List D:=(List.range n).map λi=>.int (lo+(i:Nat))
def Fy{lo:Int}{n i:Nat}:(pL lo n)[i]?=if i<n then some (.int (lo+(i:Nat)))else none:=by
 unfold pL;rw[Y8];by_cases h:i<n
 ·rw[YK h,ZG h];rfl
 ·rw[YQ h,Z0.mpr (by simp;lia)];rfl
set_option tactic.hygienic true in
def Jo{mg:A4}{lo:Int}{n:Nat}:S3 mg ρ H (Ct lo n) (.fix (pL lo n))where
 item:=λi b I O d e j q=>by
  have a:(pL lo n)[i]?=some d:=Y4 q;rw[Fy]at a;split at a
  ·rename_i h;cases a;refine⟨h,λx U y=>?_⟩
   obtain⟨rfl,rfl⟩:=y;exact⟨.refl,j,.int _⟩
  ·cases a
 stop:=λi b I O e j q=>by
  have a:(pL lo n)[i]?=none:=Y4 q;rw[Fy]at a;split at a
  ·cases a
  ·rename_i h;exact PR.mp h
section
variable{X:Cx}{E:XK}{tg:Expr}
noncomputable def pM(i:Int):Bool:=decide (-(2^62)<=i/\i<2^62)
def vf:List D->Option XG
 |[.int j]=>if pM j then some (.fix (pL 0 j.toNat))else none
 |_=>none
def Cm:List D->Option XG
 |[.int i,.int j]=>if pM i&&pM j then some (.fix (pL i (j-i).toNat))else none
 |_=>none
set_option tactic.hygienic true in
def bV(hg:Gl X "range")(hm:X.mg "range"=none)(ha:DA X E [a] fa)(hs:autoParam (ZH a=true) qAA):DI X E tg (.Call (.Name "range" p) [a] [] pos) (λδ=>fa δ >>= λl=>opt (vf l)):=
 ⟨PI.mono (G5 hg hm ha.h hs).h fun σ H R h=>by
  obtain⟨ρ,δ,M,ev,j,g1⟩:=h;refine⟨ρ,δ,M,ev,j,g1.bind λρ1 H1 M1 x dx e1 j1 c1 g2=>?_⟩
  obtain⟨it,e,q⟩:=g2.opt;unfold vf at e;split at e
  ·split at e
   ·rename_i hk;cases e;cases c1 with|cons c1 c2=>
    cases c2;cases c1;have hk:=ZW hk;exact⟨_,rfl,hk.1,hk.2,q ρ1 H1 _ .refl j1 Jo⟩
   ·cases e
  ·cases e⟩
set_option tactic.hygienic true in
def IK(hg:Gl X "range")(hm:X.mg "range"=none)(ha:DA X E [a,b] fa)(hs:autoParam (ZH a=true) qAA)(mx:autoParam (ZH b=true) qAA):DI X E tg (.Call (.Name "range" p) [a,b] [] pos) (λδ=>fa δ >>= λl=>opt (Cm l)):=
 ⟨PI.mono (G6 hg hm ha.h hs mx).h fun σ H R h=>by
  obtain⟨ρ,δ,M,ev,j,g1⟩:=h;refine⟨ρ,δ,M,ev,j,g1.bind λρ1 H1 M1 x dx e1 j1 c1 g2=>?_⟩
  obtain⟨it,e,q⟩:=g2.opt;unfold Cm at e;split at e
  ·split at e
   ·rename_i hk;cases e;cases c1 with|cons c1 c2=>cases c2 with|cons c2 c3=>
    cases c3;cases c1;cases c2;have hk:=(Kb _ _).mp hk;have h1:=ZW hk.1;have h2:=ZW hk.2;exact⟨_,_,rfl,⟨h1.1,h1.2,h2.1,h2.2⟩,q ρ1 H1 _ .refl j1 Jo⟩
   ·cases e
  ·cases e⟩
def jH:D->Option XG
 |.tup l=>some (.fix l)
 |_=>none
noncomputable def DN:D->Mo->Option XG
 |.lst l,_=>some (.fix l)
 |.ref n,M=>match M[n]? with
   |some (.lst _)=>some (.dyn n)
   |_=>none
 |_,_=>none
def cg(hl:DE X E l fl):DI X E tg l (λb=>fl b>>=λd=>opt (jH d)):=⟨PI.mono (HG hl.h) λr H R h=>by
 obtain⟨g,b,M,i,j,k⟩:=h;refine⟨g,b,M,i,j,k.bind λf I O x s t m o p=>?_⟩
 obtain⟨u,e,q⟩:=p.opt;unfold jH at e;split at e
 ·cases e;cases o with|tup n a c=>
  exact⟨_,rfl,⟨_,XO.of a⟩,q f I _ .refl m (T5 n a c)⟩
 ·cases e⟩
set_option tactic.hygienic true in
def oh(hl:DE X E l fl):DI X E tg l (λf=>fl f >>= λd=>rd (DN d)):=⟨PI.mono (Lo hl.h) λv H R h=>by
 obtain⟨o,f,M,p,j,r⟩:=h;refine⟨o,f,M,p,j,r.bind λb I O x w y g k s=>?_⟩
 obtain⟨z,e,q⟩:=s.rd;unfold DN at e;split at e
 ·cases e;cases k with|lst n a c=>
  exact⟨_,rfl,⟨_,XI.of a⟩,q b I _ .refl g (T4 n a c)⟩
 ·split at e
  ·rename_i U i;cases e;cases k with|ref m=>
   obtain⟨t,u,_⟩:=g.obj _ _ _ m i;exact⟨_,rfl,⟨t,XI.of u⟩,q b I _ .refl g (T3 m)⟩
  ·cases e
 ·cases e⟩
end
def XA(b:D->aj->DM aj)(fb:aj->DM Fl):List D->aj->DM Fl
 |[],c=>pure (.nx c)
 |d::l,c=>b d c>>=λe=>fb e>>=λr=>match r with
   |.nx a=>XA b fb l a
   |.ct a=>XA b fb l a
   |.bk a=>pure (.nx a)
   |.rt d=>pure (.rt d)
def mZ(b:D->aj->DM aj)(fb:aj->DM Fl)(n:Nat):Nat->Nat->aj->DM Fl
 |0,_,_=>stuck
 |k+1,i,e=>rd (XG.next (.dyn n) i) >>= λo=>match o with
   |none=>pure (.nx e)
   |some d=>b d e>>=λc=>fb c>>=λr=>match r with
     |.nx a=>mZ b fb n k (i+1) a
     |.ct a=>mZ b fb n k (i+1) a
     |.bk a=>pure (.nx a)
     |.rt d=>pure (.rt d)
def Av(N:Nat)(a:D->aj->DM aj)(fb:aj->DM Fl):XG->aj->DM Fl
 |.fix l=>XA a fb l
 |.dyn n=>mZ a fb n N 0
def bz.mE{mg:A4}{E:XK}{D:Ends}{ρ:Rh}{H:Hp}{M:Mo}{b:Type}{f:Mo->Option b}{k:b->DM Fl}(g:bz mg E D ρ H (L3.rd f>>=k) M):∃a,f M=some a/\bz mg E D ρ H (k a) M:=by
 obtain⟨r,e,p⟩:=g;have e:DM.bind _ _ M=some r:=e;unfold DM.bind L3.rd at e;cases h:f M with
 |none=>rw[h]at e;cases e
 |some a=>rw[h]at e;exact⟨a,rfl,r,e,p⟩
def Ax{X:Cx}{E:XK}{fg:D->aj->DM aj}{fb:aj->DM Fl}{D:Ends}{u:L2.St}{H O:Hp}{ρ:Rh}{o:aj}{M:Mo}{x:V}{d:L3.D}{N:L2.St->Hp->Prop}{again:aj->DM Fl}
  (z:Ev X.mg ρ H u o) (m:YR ρ H ρ O) (j1:J X.mg ρ M O) (c1:Cv X.mg ρ O x d) (ht:bz X.mg E D ρ H (fg d o>>=λq=>fb q>>=λr=>match r with
    |.nx b=>again b
    |.ct b=>again b
    |.bk b=>pure (.nx b)
    |.rt d=>pure (.rt d)) M) (w:∀e b n f H2,YR ρ H e H2->Ev X.mg e H2 f b->J X.mg e n H2->bz X.mg E D e H2 (again b) n->N f H2) :
  tG X.mg E fg x u O λf H2=>tS X.mg E fb {D with nx:=N,ct:=N,bk:=D.nx} f H2:=by
 obtain⟨r,er,p⟩:=ht;have s:bz X.mg E D ρ O _ M:=⟨r,er,p.mono m⟩;refine⟨ρ,o,M,d,z.mono m,j1,c1,bz.bind s λe H2 n f b y j2 t g2=>⟨e,b,n,t,j2,g2.seq (λg c I U h l j i k=>?_) (λg c I U h l j i k=>?_) (λg c I U h l j i k=>?_) (λd' c I U v l j c3 k=>?_)⟩⟩
 ·exact w c g U h I ((m.trans y).trans l) i j k
 ·exact bz.pure (a:=.nx g) k c I h .refl j i
 ·exact w c g U h I ((m.trans y).trans l) i j k
 ·exact bz.pure (a:=.rt d') k c I v .refl j c3
def cQ{s:List Stmt}{fi:aj->DM XG}{fg:D->aj->DM aj}{fb:aj->DM Fl}(N:Nat)(hp:PassesOwn X.M X.A X.env X.xe)(hc:X.calm=true)(hi:DI X E tg iter fi)(hg:DG X E tg fg)(hb:SG X E s fb)
  (hs:∀x,foldedSetIterable iter X.env x=pure x:=by intro _;rfl):DS X E (.For tg iter s [] pos) (λδ=>fi δ>>=λit=>Av N fg fb it δ):=⟨PS.mono (Is hp hc hi.h hg.h hb.h hs) λD σ H h=>by
 obtain⟨ρ,δ,M,ev,j,g1⟩:=h;refine⟨ρ,δ,M,ev,j,g1.bind λg H1 M1 Jt it e1 j1 q g2=>?_⟩
 cases it with
 |fix l=>
   refine⟨λi m σ H=>∃b c O,YR g H1 b H/\Ev X.mg b H σ c/\J X.mg b O H/\m=(l.drop i).length/\bz X.mg E D b H (XA fg fb (l.drop i) c) O,⟨_,g,δ,M1,.refl,ev.mono e1,j1,rfl,g2⟩,?_⟩
   rintro i m t U ⟨f,u,M2,v,k,j2,rfl,g3⟩;cases hd:l[i]? with
   |none=>have hl:l.drop i=[]:=List.drop_eq_nil_of_le (Z0.mp hd);rw[hl]at g3;exact .inl ⟨q.stop i f U M2 v.kp j2 (congrArg some hd),bz.pure (a:=.nx u) g3 f U t .refl j2 k⟩
   |some d=>
     obtain⟨hi',de⟩:=YJ.mp hd;have hl:l.drop i=d::l.drop (i+1):=by rw[<-de];exact acM hi'
     obtain⟨go,yl⟩:=q.item i f U M2 d v.kp j2 (congrArg some hd);rw[hl]at g3;refine .inr ⟨go,λp I=>∃b c O,YR g H1 b I/\Ev X.mg b I p c/\J X.mg b O I/\bz X.mg E D b I (XA fg fb (l.drop (i+1)) c) O,λp I ⟨b,c,O,a1,a2,a3,a4⟩=>⟨_,by rw[CB,CB];lia,b,c,O,a1,a2,a3,rfl,a4⟩,λx I y=>?_⟩
     obtain⟨x1,x2,x3⟩:=yl x I y;exact Ax k x1 x2 x3 g3 λρ3 δ3 M3 σ3 H3 f1 f2 f3 f4=>⟨ρ3,δ3,M3,v.trans f1,f2,f3,f4⟩
 |dyn n=>
   refine⟨λi m σ H=>∃b c O,YR g H1 b H/\Ev X.mg b H σ c/\J X.mg b O H/\bz X.mg E D b H (mZ fg fb n m i c) O,⟨N,g,δ,M1,.refl,ev.mono e1,j1,g2⟩,?_⟩
   rintro i m t U ⟨f,u,M2,v,k,j2,g3⟩;cases m with
   |zero=>obtain⟨r,e,_⟩:=g3;cases e
   |succ m=>
     obtain⟨o,eo,g4⟩:=bz.mE g3;cases o with
     |none=>exact .inl ⟨q.stop i f U M2 v.kp j2 eo,bz.pure (a:=.nx u) g4 f U t .refl j2 k⟩
     |some d=>
       obtain⟨go,yl⟩:=q.item i f U M2 d v.kp j2 eo;refine .inr ⟨go,λp I=>∃b c O,YR g H1 b I/\Ev X.mg b I p c/\J X.mg b O I/\bz X.mg E D b I (mZ fg fb n m (i+1) c) O,λp I z=>⟨m,Kj _,z⟩,λx I y=>?_⟩
       obtain⟨x1,x2,x3⟩:=yl x I y;exact Ax k x1 x2 x3 g4 λρ3 δ3 M3 σ3 H3 f1 f2 f3 f4=>⟨ρ3,δ3,M3,v.trans f1,f2,f3,f4⟩⟩
def cJ(c:aj->DM Bool)(fb:aj->DM Fl):Nat->aj->DM Fl
 |0,_=>stuck
 |k+1,e=>c e >>= λb=>if b then(fb e >>= λr=>match r with
     |.nx a=>cJ c fb k a
     |.ct a=>cJ c fb k a
     |.bk a=>pure (.nx a)
     |.rt d=>pure (.rt d))else pure (.nx e)
def o9(N:Nat)(hp:PassesOwn X.M X.A X.env X.xe)(hc:DT X E c fc)(hb:SG X E body fb):DS X E (.While c body [] pos) (cJ fc fb N):=⟨PS.mono (L2.OB hp hc.h hb.h) λD σ H h=>by
 obtain⟨ρ,δ,M,ev,j,g1⟩:=h;refine⟨λm σ H=>∃f d I,Ev X.mg f H σ d/\J X.mg f I H/\bz X.mg E D f H (cJ fc fb m d) I,⟨N,ρ,δ,M,ev,j,g1⟩,?_⟩
 rintro m u H2 ⟨x,k,M2,l,j2,g3⟩;cases m with
 |zero=>obtain⟨r,e,_⟩:=g3;cases e
 |succ m=>
   refine⟨x,k,M2,l,j2,bz.bind g3 λq H3 M3 b b' e3 j3 y g4=>?_⟩
   have y:b=b':=y;subst y;cases b with
   |true=>
     refine So ⟨λs t=>∃f d I,Ev X.mg f t s d/\J X.mg f I t/\bz X.mg E D f t (cJ fc fb m d) I,λs t z=>⟨m,Kj _,z⟩,q,k,M3,l.mono e3,j3,?_⟩
     refine bz.seq g4 (λd g O U n e4 o i p=>⟨g,d,U,i,o,p⟩) (λd g O U n e4 o i p=>?_) (λd g O U n e4 o i p=>⟨g,d,U,i,o,p⟩) (λd' g O U v e4 o c4 p=>?_)
     ·exact bz.pure (a:=.nx d) p g O n .refl o i
     ·exact bz.pure (a:=.rt d') p g O v .refl o c4
   |false=>exact SA (bz.pure (a:=.nx k) g4 q H3 u .refl j3 (l.mono e3))⟩
def wR(mg:A4)(F:List D->DM D):Sp:=λc H Q E=>∃a M b,ZE mg a H c b/\J mg a M H/\Go mg E (Cv mg) Q a H (F b) M
structure Zs(P:C5)(w:World)(K:B0)(mg:A4)(base:Heap)(k:Nat)(x:Str)(ps:C3)(F:List D->DM D):Prop where
 h:N3 P w K mg base k x ps (wR mg F)
def bu(n:Nat)(ds:List D):aj:=ds.map some++List.replicate (n-ds.length) none
def aD(p n:Nat)(fb:aj->DM Fl)(ds:List D):DM D:=if ds.length=p then fb (bu n ds)>>=λr=>match r with
 |.nx _=>pure .aT
 |.rt d=>pure d
 |_=>stuck else stuck
def iJ(c:ZE mg ρ H vs ds):Ev mg ρ H (L2.start N vs) (bu N.length ds):=by
 unfold L2.start bu;refine⟨by simp[c.len],λi d q=>?_⟩
 by_cases hi:i<ds.length
 ·rw[Y9 (by rw[YT];exact hi),Y8]at q
  obtain⟨g,a,b⟩:=YM.mp q;cases b;obtain⟨v,e,f⟩:=c.get a;exact⟨v,by rw[Y9 (by rw[YT,c.len];exact hi),Y8,e];rfl,f⟩
 ·rw[Z4 (by rw[YT];lia),FU]at q
  split at q<;>cases q
section
variable{P:C5}{w:World}{K:B0}{mg:A4}{base:Heap}{k:Nat}{x:Str}{N ps:C3}{st:Stmt}
set_option tactic.hygienic true in
theorem bz.aD(g:Go mg E (Cv mg) Q ρ H (L3.aD p n fb ds) M):ds.length=p/\bz mg E {nx:=λz O=>Q .aT O,rt:=Q} ρ H (fb (bu n ds)) M:=by
 obtain⟨r,e,p⟩:=g;unfold L3.aD at e;split at e;rotate_left
 ·cases e
 rename_i l;refine⟨l,?_⟩;have e:DM.bind _ _ M=some r:=e;unfold DM.bind at e;split at e
 ·cases e
 ·rename_i c U i;cases e;exact⟨_,i,p⟩
 ·rename_i a U i;refine⟨_,i,?_⟩;cases a with
  |nx h=>cases e;exactλf I b x j c=>p f I .aT x j .aT
  |rt d=>cases e;exactλf I b x j c=>p f I b x j c
  |bk h=>cases e
  |ct h=>cases e
def XZ.nL(D:XZ K mg x st)(S:ZB N ps (ZY st))(i:∀(kV doc l:Value) (m:B3) (b ct:Value) (us:B5),us.length=ps.length->bindArgs (W.fnOf x x (Y2 st) (ZI st) (ZY st) .none kV doc l m b ct) ⟨us,[]⟩=pure (ps.zip us))
  (d:∀(f:Addr) (b:Value) (A:Around) (a:C4) (s:Shared) (H:Hp) (E:XK),ZA k (A.deeper (envOfC x (ZY st) s.z f b))->
    SG (bQ P w K mg base N x (ZY st) f b A a s H E) E (ZI st) fb):Zs P w K mg base (k+1) x ps (aD ps.length N.length fb):=⟨by
 refine D.rV S i (λn H Q E h=>?_) λf b A a s H n Q E o h=>?_
 ·obtain⟨e,M,p,c,j,g⟩:=h;rw[c.len];exact(bz.aD g).1
 obtain⟨e,M,p,c,j,g⟩:=h;exact⟨_,(d f b A a s H E o).h,e,_,M,iJ c,j,(bz.aD g).2⟩⟩
def XZ.okN{F:List D->DM D}{fb:Nat->aj->DM Fl}(D:XZ K mg x st)(S:ZB N ps (ZY st))(m:∀(kV doc o:Value) (q:B3) (b ct:Value) (us:B5),us.length=ps.length->bindArgs (W.fnOf x x (Y2 st) (ZI st) (ZY st) .none kV doc o q b ct) ⟨us,[]⟩=pure (ps.zip us))
  (i:∀ds M r,F ds M=some r->∃n,aD ps.length N.length (fb n) ds M=some r)
  (d:∀(n:Nat) (f:Addr) (b:Value) (A:Around) (a:C4) (s:Shared) (H:Hp) (E:XK),ZA k (A.deeper (envOfC x (ZY st) s.z f b))->
    SG (bQ P w K mg base N x (ZY st) f b A a s H E) E (ZI st) (fb n)):Zs P w K mg base (k+1) x ps F:=⟨by
 refine D.rV S m (λt H Q E h=>?_) λf b A a s H t Q E u h=>?_
 ·obtain⟨l,M,ds,c,j,r,e,p⟩:=h;obtain⟨n,g⟩:=i ds M r e;rw[c.len];exact(bz.aD ⟨r,g,p⟩).1
 obtain⟨l,M,ds,c,j,r,e,p⟩:=h;obtain⟨n,g⟩:=i ds M r e;exact⟨_,(d n f b A a s H E u).h,l,_,M,iJ c,j,(bz.aD ⟨r,g,p⟩).2⟩⟩
end
mutual
inductive Fz(M:Mo)(k:Nat):D->D->Prop
 |aT:Fz M k .aT .aT
 |bl (b:Bool):Fz M k (.bl b) (.bl b)
 |int (i:Int):Fz M k (.int i) (.int i)
 |str (x:Str):Fz M k (.str x) (.str x)
 |tup {l l':List D}:Si M k l l'->Fz M k (.tup l) (.tup l')
 |lst {l l':List D}:Si M k l l'->Fz M k (.lst l) (.lst l')
 |bG {ks:List Key}{l l':List D}:Si M k l l'->Fz M k (.bG ks l) (.bG ks l')
 |obj {c:Str}{ns:C3}{l l':List D}:Si M k l l'->Fz M k (.obj c ns l) (.obj c ns l')
 |eB (ns:C1):Fz M k (.eB ns) (.eB ns)
 |old {n:Nat}:n<k->Fz M k (.ref n) (.ref n)
 |new {n:Nat}{l l':List D}:k<=n->M[n]?=some (.lst l)->Si M k l l'->Fz M k (.ref n) (.lst l')
 |cls (c:Str):Fz M k (.cls c) (.cls c)
 |ty (c:String):Fz M k (.ty c) (.ty c)
 |dP (a:Addr):Fz M k (.dP a) (.dP a)
inductive Si(M:Mo)(k:Nat):List D->List D->Prop
 |nil:Si M k [] []
 |cons {d d':D}{l l':List D}:Fz M k d d'->Si M k l l'->Si M k (d::l) (d'::l')
end
def XM(M:Mo)(k:Nat):DO->DO->Prop
 |.lst l,.lst a=>Si M k l a
 |.bG ks l,.bG b a=>ks=b/\Si M k l a
 |.ins c ns l,.ins e d a=>c=e/\ns=d/\Si M k l a
 |_,_=>False
def WT(M':Mo)(k:Nat)(I:Mo):Prop:=I.length=k/\∀(n:Nat) o,I[n]?=some o->∃a,M'[n]?=some a/\XM M' k a o
section
variable{mg:A4}{ρ ρ':Rh}{H:Hp}{M:Mo}{k:Nat}
structure Sub(ρ ρ':Rh)(k:Nat):Prop where
 st:∃τ,ρ'.st=ρ.st++τ
 vo:ρ'.vo=ρ.vo
 len:ρ.st.length=k
def Sub.out(s:Sub ρ ρ' k)(h:a∉ρ'):a∉ρ:=λz=>by
 obtain⟨b,e⟩:=s.st;rcases z with z|z
 ·exact h (.inl (by rw[e];exact Z2 _ z))
 ·exact h (.inr (by rw[s.vo];exact z))
def XH(mg:A4)(ρ:Rh)(H:Hp)(v:V)(d:D):Prop:=D.casesOn (motive_1:=λz=>Prop) d (v=.aT) (λb=>v=.bl b) (λi=>v=.int i) (λx=>v=.str x) (λf=>∃a e,v=.ref a/\a∉ρ/\H a=some (.tup e)/\ZE mg ρ H e f) (λf=>∃a e,v=.ref a/\a∉ρ/\H a=some (.lst e)/\ZE mg ρ H e f)
 (λh f=>∃a e,v=.ref a/\a∉ρ/\H a=some (.dK (h.zip e))/\h.length=e.length/\ZE mg ρ H e f) (λc g f=>∃a C j e,v=.ref a/\a∉ρ/\mg c=some (.ref C)/\H a=some (.ins C j (g.zip e))/\g.length=e.length/\ZE mg ρ H e f)
 (λg=>∃a,v=.ref a/\a∉ρ/\Rd H a (.lst (g.map V.int))) (λn=>∃a,v=.ref a/\ρ.st[n]?=some a) (λc=>∃C,v=.ref C/\mg c=some (.ref C)) (λt=>v=.ty t) (λa=>v=.ref a)
set_option tactic.hygienic true in
def Cv.inv{v:V}{d:D}(h:Cv mg ρ H v d):XH mg ρ H v d:=by
 cases h
 case aT=>exact rfl
 case bl=>exact rfl
 case int=>exact rfl
 case str=>exact rfl
 case tup n h c=>exact⟨_,_,rfl,n,h,c⟩
 case lst n h c=>exact⟨_,_,rfl,n,h,c⟩
 case bG n h l c=>exact⟨_,_,rfl,n,h,l,c⟩
 case obj n m h l c=>exact⟨_,_,_,_,rfl,n,m,h,l,c⟩
 case eB n h=>exact⟨_,rfl,n,h⟩
 case ref h=>exact⟨_,rfl,h⟩
 case cls h=>exact⟨_,rfl,h⟩
 case ty=>exact rfl
 case dP=>exact rfl
def ZE.inv{v:V}{d:D}{vs:List V}{l:List D}(h:ZE mg ρ H vs (d::l)):∃v ay,vs=v::ay/\Cv mg ρ H v d/\ZE mg ρ H ay l:=by cases h with|cons a b=>exact⟨_,_,rfl,a,b⟩
def ZE.nN{vs:List V}(h:ZE mg ρ H vs []):vs=[]:=by cases h;rfl
def ZE.freeze(s:Sub ρ ρ' k)(j:J mg ρ' M H){d d':List D}{v:List V}(f:Si M k d d'):ZE mg ρ' H v d->ZE mg ρ H v d':=
 Si.rec (motive_1:=λd d' y=>∀v,Cv mg ρ' H v d->Cv mg ρ H v d') (motive_2:=λd d' y=>∀v,ZE mg ρ' H v d->ZE mg ρ H v d')
  (λy c=>Eq.symm (a:=_) (Cv.inv c) ▸ .aT) (λb y c=>Eq.symm (a:=_) (Cv.inv c) ▸ .bl b) (λb y c=>Eq.symm (a:=_) (Cv.inv c) ▸ .int b) (λb y c=>Eq.symm (a:=_) (Cv.inv c) ▸ .str b)
  (λy f v c=>let⟨_,_,e,n,h,c⟩:=Cv.inv c;e ▸ .tup (s.out n) h (f _ c))
  (λy f v c=>let⟨_,_,e,n,h,c⟩:=Cv.inv c;e ▸ .lst (s.out n) h (f _ c))
  (λy f v c=>let⟨_,_,e,n,h,l,c⟩:=Cv.inv c;e ▸ .bG (s.out n) h l (f _ c))
  (λy f v c=>let⟨_,_,_,_,e,n,m,h,l,c⟩:=Cv.inv c;e ▸ .obj (s.out n) m h l (f _ c))
  (λy v c=>let⟨_,e,n,h⟩:=Cv.inv c;e ▸ .eB (s.out n) h)
  (λo v c=>by
    obtain⟨a,rfl,h⟩:=Cv.inv c;obtain⟨q,e⟩:=s.st;rw[e,Y9 (by rw[s.len];exact o)]at h
    exact .ref h)
  (λo r y f v c=>by
    obtain⟨a,rfl,h⟩:=Cv.inv c;obtain⟨w,t,c⟩:=j.obj _ _ _ h r;refine .lst (λz=>?_) t (f _ c)
    rcases z with z|z
    ·obtain⟨m,i⟩:=yy.mp z;obtain⟨q,e⟩:=s.st;have p:=(YJ.mp i).1;have u:ρ'.st[m]?=some a:=by rw[e,Y9 p];exact i
     exact PR.mpr o (j.inj h u▸s.len▸p)
    ·exact(j.hU a (by rw[s.vo];exact z)).1 (Zk h))
  (λy v c=>let⟨_,e,h⟩:=Cv.inv c;e ▸ .cls h) (λb y c=>Eq.symm (a:=_) (Cv.inv c) ▸ .ty b) (λb y c=>Eq.symm (a:=_) (Cv.inv c) ▸ .dP b)
  (λv c=>ZE.nN c ▸ .nil) (λy y f g v c=>let⟨_,_,e,a,b⟩:=ZE.inv (v:=.aT) c;e ▸ .cons (f _ a) (g _ b)) f v
theorem J.freeze{M1:Mo}(s:Sub ρ ρ' k)(j:J mg ρ' M H)(hk:ρ.st.length=M1.length)(f:WT M k M1):J mg ρ M1 H:=by
 obtain⟨τ,e⟩:=s.st;refine⟨hk,?_,λn a o h1 h2=>?_,λa ha=>?_⟩
 ·have:=j.nd;rw[e]at this;exact(EI.mp this).1
 ·obtain⟨o',h3,fo⟩:=f.2 n o h2;have hl:=(YJ.mp h1).1;have c:=j.obj n a o' (by rw[e,Y9 hl];exact h1) h3
  cases o' with
  |lst l=>cases o with
    |lst l'=>obtain⟨xs,hx,c⟩:=c;exact⟨xs,hx,ZE.freeze s j fo c⟩
    |bG _ _=>exact(show False from fo).elim
    |ins _ _ _=>exact(show False from fo).elim
  |bG ks l=>cases o with
    |lst l'=>exact(show False from fo).elim
    |bG bq l'=>obtain⟨xs,hx,q,c⟩:=c;obtain⟨rfl,fo⟩:=fo;exact⟨xs,hx,q,ZE.freeze s j fo c⟩
    |ins _ _ _=>exact(show False from fo).elim
  |ins c' ns l=>cases o with
    |lst l'=>exact(show False from fo).elim
    |bG _ _=>exact(show False from fo).elim
    |ins c'' ns' l'=>obtain⟨C,dx,xs,m,hx,q,c⟩:=c;obtain⟨rfl,rfl,fo⟩:=fo;exact⟨C,dx,xs,m,hx,q,ZE.freeze s j fo c⟩
 ·obtain⟨x,xs,h⟩:=j.hU a (by rw[s.vo];exact ha)
  exact⟨λz=>x (by rw[e];exact Z2 _ z),xs,h⟩
end
section
variable{X:Cx}{E:XK}{j k:Nat}{ps:C3}{F:List D->DM D}{x:Str}{p pos:Pos}{e:Expr}{es:B8}{fs:aj->DM (List D)}
def aG(D:Zs X.prog X.w X.K X.mg X.base j x ps F)(i:ZA k X.A)(l:YY (bZ X.prog X.w) X E)(m:DA X E (e::es) fs)(a:autoParam (j<=k) qAB)(n:autoParam (Gl X x) qAA)(b:autoParam ((x==("__debug__":Str))=false) qAB)
  (o:autoParam (ZH e=true) qAA) (c:autoParam ((backTo pos (starEach es X.env)).any (·.1)=false) qAA) :
  DE X E (.Call (.Name x p) (e::es) [] pos) (λd=>fs d>>=F):=⟨PE.mono (yL D.h i l m.h a n b o c) λy H Q h=>by
 obtain⟨q,d,M,r,j,s⟩:=h;refine⟨q,d,M,r,j,s.bind λf O I z g U t u v=>?_⟩
 rw[GA];exact⟨f,I,g,u,t,v⟩⟩
def rC(mg:A4)(E:XK)(g:List D->DM D):List V->Hp->VK->Prop:=λc H Q=>∃a M b,J mg a M H/\ZE mg a H c b/\Go mg E (Cv mg) Q a H (g b) M
def YE(X:Cx)(E:XK)(f:Value)(g:List D->DM D):Prop:=YN X f (rC X.mg E g)
def aO{id:String}{g:List D->DM D}(hc:YE X E (.builtin id) g)(i:X.mg x=none)(l:DA X E (e::es) fs)(m:autoParam (Gl X x) qAA)(n:bootBuiltins x=some (.builtin id):=by decide +kernel)(o:autoParam (x≠"__name__") qAB)(a:autoParam ((x==("__debug__":Str))=false) qAB)
  (q:autoParam (ZH e=true) qAA) (b:autoParam ((backTo pos (starEach es X.env)).any (·.1)=false) qAA) :
  DE X E (.Call (.Name x p) (e::es) [] pos) (λc=>fs c>>=g):=⟨PE.mono (PJ hc i l.h m n o a q b) λy H Q h=>by
 obtain⟨r,c,M,s,j,t⟩:=h;exact⟨r,c,M,s,j,t.bind λd O I z f U u v w=>⟨d,I,f,u,v,w⟩⟩⟩
def dY{T:String}{g:List D->DM D}(hc:YE X E (.type T) g)(i:X.mg x=none)(l:DA X E (e::es) fs)(m:autoParam (Gl X x) qAA)(n:bootBuiltins x=some (.type T):=by decide +kernel)(o:autoParam (x≠"__name__") qAB)(a:autoParam ((x==("__debug__":Str))=false) qAB)
  (q:autoParam (ZH e=true) qAA) (b:autoParam ((backTo pos (starEach es X.env)).any (·.1)=false) qAA) :
  DE X E (.Call (.Name x p) (e::es) [] pos) (λc=>fs c>>=g):=⟨PE.mono (Wh hc i l.h m n o a q b) λy H Q h=>by
 obtain⟨r,c,M,s,j,t⟩:=h;exact⟨r,c,M,s,j,t.bind λd O I z f U u v w=>⟨d,I,f,u,v,w⟩⟩⟩
def YE.of{f:Value}{r:List V->Hp->VK->Prop}{g:List D->Mo->Option D}(b:YN X f r)
  (h:∀vs H Q ρ M ds d,J X.mg ρ M H->ZE X.mg ρ H vs ds->g ds M=some d->(∀ρ' O v,YR ρ H ρ' O->J X.mg ρ' M O->Cv X.mg ρ' O v d->Q v O)->r vs H Q):YE X E f (λl=>rd (g l)):=by
 intro a s i H vs m Q I rs q;obtain⟨ρ,M,ds,j,c,n⟩:=q;obtain⟨d,e,p⟩:=n.rd;exact b a s i H vs m Q I rs (h vs H Q ρ M ds d j c e p)
end
section
variable{X:Cx}{E:XK}{mg:A4}{ρ:Rh}{H:Hp}{M:Mo}
def ZE.one(c:ZE mg ρ H vs [d]):∃v,vs=[v]/\Cv mg ρ H v d:=by
 cases c with
 |cons c c2=>cases c2;exact⟨_,rfl,c⟩
def ZE.two(c:ZE mg ρ H vs [d,e]):∃v w,vs=[v,w]/\Cv mg ρ H v d/\Cv mg ρ H w e:=by
 cases c with
 |cons c c2=>obtain⟨w,rfl,k⟩:=c2.one;exact⟨_,_,rfl,c,k⟩
def ju:List D->Mo->Option D
 |[.tup l],_=>some (.int l.length)
 |[.eB l],_=>some (.int l.length)
 |[.str x],_=>if x.length<=sizeLine then some (.int x.length)else none
 |[d],M=>(aU d M).map λl=>.int l.length
 |_,_=>none
set_option tactic.hygienic true in
def Y1:YE X E (.builtin "len") (λl=>rd (ju l)):=YE.of (SK.or SI) λg H Q ρ M h d j c e q=>by
 unfold ju at e;split at e
 ·cases e;obtain⟨v,rfl,k⟩:=c.one;replace c:=k;cases c with|tup n a c=>
  exact .inl ⟨_,_,rfl,.inr (XO.of a),by rw[c.len];exact q ρ H _ .refl j (.int _)⟩
 ·cases e;obtain⟨v,rfl,k⟩:=c.one;replace c:=k;cases c with|eB n a=>
  exact .inl ⟨_,_,rfl,.inl (.inl a),by rw[YT];exact q ρ H _ .refl j (.int _)⟩
 ·split at e
  ·cases e;obtain⟨v,rfl,k⟩:=c.one;replace c:=k;cases c;exact .inr ⟨_,rfl,‹_›,q ρ H _ .refl j (.int _)⟩
  ·cases e
 ·obtain⟨l,b,rfl⟩:=YM.mp e;obtain⟨v,rfl,k⟩:=c.one;replace c:=k;obtain⟨a,i,rfl,f,c⟩:=cR j c b;exact .inl ⟨_,_,rfl,.inl (XI.of f),by rw[c.len];exact q ρ H _ .refl j (.int _)⟩
 ·cases e
noncomputable def W8:List D->Mo->Option D
 |[.int i],_=>some (.int (if i<0 then -i else i))
 |_,_=>none
noncomputable def GR:List D->Mo->Option D
 |[.int i,.int j],_=>some (.int (if j>i then j else i))
 |_,_=>none
def Wb:List D->Mo->Option D
 |[.int i,.int j],_=>some (.int (if j<i then j else i))
 |_,_=>none
def Gu(hc:X.calm=true):YE X E (.builtin "max") (λl=>rd (GR l)):=YE.of (OL hc) λb H Q ρ M f d j c e q=>by
 unfold GR at e;split at e
 ·cases e;obtain⟨v,w,rfl,k,a⟩:=c.two;replace c:=k;cases c;cases a;exact⟨_,_,rfl,q ρ H _ .refl j (.int _)⟩
 ·cases e
def tU:D->Mo->Option (List D)
 |.tup l,_=>some l
 |d,M=>aU d M
def Kv(j:J mg ρ M H)(c:Cv mg ρ H x d)(e:tU d M=some l):∃a xs,x=.ref a/\(H a=some (.lst xs)\/H a=some (.tup xs))/\ZE mg ρ H xs l:=by
 unfold tU at e;split at e
 ·cases e;cases c with|tup n a c=>exact⟨_,_,rfl,.inr a,c⟩
 ·obtain⟨a,xs,rfl,b,c⟩:=cR j c e;exact⟨a,xs,rfl,.inl b,c⟩
noncomputable def YA:List D->Option C1
 |[]=>some []
 |.int i::l=>(YA l).map (i::·)
 |_=>none
theorem WC:∀{xs:List V}{l:List D}{ns:C1},ZE mg ρ H xs l->YA l=some ns->xs=ns.map V.int
 |_,_,_,.nil,e=>by cases e;rfl
 |_,_,_,.cons (d:=d) c cs,e=>by
   cases d with
   |int i=>obtain⟨a,h1,rfl⟩:=YM.mp e;cases c;rw[WC cs h1];rfl
   |_=>cases e
def Iv(hh:X.A.handled=none):YN X (.builtin "sum") (λvs H Q=>∃(l:Addr) (ns:C1),vs=[.ref l]/\(H l=some (.lst (ns.map V.int))\/H l=some (.tup (ns.map V.int)))/\Q (.int ns.sum) H):=by
 intro aC s σ H vs us Q I r h;obtain⟨l,ns,rfl,f,q⟩:=h;obtain⟨u,rfl,ru⟩:=vals1 r;cases ru;have g:∀(a:B5),IntsAre a ns->∃c,a.toArray=intItems c/\preSum (numAt c) c.size=ns.sum:=λa hi=>by
  obtain⟨c,d⟩:=hi.allInts.items;have t:numsOf a.toArray.toList=ns:=by rw[show a.toArray.toList=a from rfl,hi.numsOf]
  rw[d]at t;rw[PySem.nums_intItems]at t;exact⟨c,d,by rw[PySem.preSum_eq,y9 (by simp),t]⟩
 rcases f with f|f
 ·obtain⟨a,rv,p,hz⟩:=I.list (XI.of (K:=X.K) f);obtain⟨c,d,x⟩:=g a (intsAre_of rv);have k:=p.isList;rw[d]at k;obtain⟨o,ho,hc,n,hd⟩:=id k;have y:l≠s.z:=Y6 (YW ho);have z:(intItems c).size=c.size:=by simp[intItems]
  have W:=(Walks.list (prog:=X.prog) (w:=X.w) (A:=X.A.in1) hh s.z l y (intItems c)).toS;rw[z]at W;refine call_sum_walkAnyS (Ap k ?_);refine⟨s.z,_,_,_,_,_,_,numAt c,rfl,W,⟨⟨_,YZ _ rfl,rfl,rfl⟩,k.at λo e=>YH _ e⟩,λb j=>?_,λi v hP=>intItems_at hP,λs' t' m=>?_⟩
  ·rcases Y5.mp j with rfl|j
   ·exact YW (YZ _ rfl)
   ·obtain rfl:=Zi.mp j;exact YW (YH _ ho)
  ·obtain⟨h',g',d',O,U⟩:=s';have e1:g'=s.gens:=m.gens;have e2:d'=s.drawn:=m.drawn;have e3:U=s.os:=m.os;subst e1 e2 e3;refine⟨.int ns.sum,H,I.kept (h':=h') (t':=O) λb o e=>m.heap b o (λj=>absurd (YW e) ((Zi.mp j)▸MI _)) (YH _ e),⟨t',?_⟩,q⟩
   rw[<-x]
 ·obtain⟨a,rv,p,hz⟩:=I.tuple (XO.of (K:=X.K) f);obtain⟨c,d,x⟩:=g a (intsAre_of rv);rw[d]at p;exact PySem.W.ktm_sumG hh (show s.heap.IsTuple l _ from p) λh' tk t' hk=>⟨.int ns.sum,H,I.kept hk,⟨t',by rw[<-x]⟩,q⟩
def Hr:List D->Mo->Option D
 |[d],M=>(tU d M).bind λl=>(YA l).map λns=>.int ns.sum
 |_,_=>none
def qL(b:X.A.handled=none):YE X E (.builtin "sum") (λl=>rd (Hr l)):=YE.of (Iv b) λn H Q ρ M o d j c e q=>by
 unfold Hr at e;split at e
 ·obtain⟨l,f,g⟩:=Y7.mp e;obtain⟨h,i,rfl⟩:=YM.mp g;obtain⟨v,rfl,k⟩:=c.one;replace c:=k;obtain⟨a,p,rfl,m,c⟩:=Kv j c f;have:=WC c i;subst this;exact⟨_,h,rfl,m,q ρ H _ .refl j (.int _)⟩
 ·cases e
def Ou:D->Option Bool
 |.bl b=>some b
 |.int i=>some (i != 0)
 |_=>none
def iy:List D->Option (List Bool)
 |[]=>some []
 |d::l=>match Ou d,iy l with
   |some b,some bs=>some (b::bs)
   |_,_=>none
set_option tactic.hygienic true in
theorem xZ:∀{xs:List V}{l:List D}{bs:List Bool},ZE mg ρ H xs l->iy l=some bs->(∀x∈xs,DH x=true)/\xs.map iw=bs
 |_,_,_,.nil,e=>by cases e;exact⟨(λx a=>nomatch a),rfl⟩
 |_,_,_,.cons (d:=d) (ds:=ds) (vs:=vs) c cs,e=>by
   unfold iy at e;split at e
   ·rename_i b bs h1 h2;cases e;obtain⟨a1,a2⟩:=xZ cs h2;cases c with
    |bl f=>cases h1;exact⟨λx a=>by rcases Y5.mp a with rfl|a;rfl;exact a1 x a,by rw[Zj,a2];rfl⟩
    |int f=>cases h1;exact⟨λx a=>by rcases Y5.mp a with rfl|a;rfl;exact a1 x a,by rw[Zj,a2];rfl⟩
    |_=>cases h1
   ·cases e
def uD:List D->Mo->Option D
 |[d],M=>(aU d M).bind λl=>(iy l).map λbs=>.bl (bs.all id)
 |_,_=>none
def Gn:List D->Mo->Option D
 |[.tup l],_=>(iy l).map λbs=>.bl (bs.any id)
 |_,_=>none
def lW(b:X.A.handled=none):YE X E (.builtin "all") (λl=>rd (uD l)):=YE.of (Lr b) λp H Q ρ M r d j c e q=>by
 unfold uD at e;split at e
 ·obtain⟨l,f,g⟩:=Y7.mp e;obtain⟨s,h,rfl⟩:=YM.mp g;obtain⟨v,rfl,k⟩:=c.one;replace c:=k;obtain⟨a,i,rfl,m,c⟩:=cR j c f;obtain⟨n,o⟩:=xZ c h;subst o;exact⟨_,i,rfl,m,n,by have z:=q ρ H _ .refl j (.bl _);rw[List.all_map]at z;exact z⟩
 ·cases e
def Il(a:X.A.handled=none):YE X E (.builtin "any") (λl=>rd (Gn l)):=YE.of (Ls a) λi H Q ρ M m d j c e q=>by
 unfold Gn at e;split at e
 ·obtain⟨o,b,rfl⟩:=YM.mp e;obtain⟨v,rfl,k⟩:=c.one;replace c:=k;cases c with|tup n f c=>
  obtain⟨g,h⟩:=xZ c b;subst h;exact⟨_,_,rfl,f,g,by have z:=q ρ H _ .refl j (.bl _);rw[List.any_map]at z;exact z⟩
 ·cases e
def sy:List D->Mo->Option D
 |[d],M=>(tU d M).map .tup
 |_,_=>none
def aY:YE X E (.type "tuple") (λl=>rd (sy l)):=YE.of TL λh H Q ρ M i d j c e q=>by
 unfold sy at e;split at e
 ·obtain⟨l,b,rfl⟩:=YM.mp e;obtain⟨v,rfl,k⟩:=c.one;replace c:=k;unfold tU at b;split at b
  ·cases b;cases c with|tup n a c=>
   exact⟨_,_,rfl,.inr ⟨XO.of a,q ρ H _ .refl j (.tup n a c)⟩⟩
  ·obtain⟨a,m,rfl,g,c⟩:=cR j c b;exact⟨_,_,rfl,.inl ⟨XI.of g,λp f=>q ρ _ _ (.lay f) (j.lay _ f) (.tup (j.fresh f) ZT (c.mono (.lay f)))⟩⟩
 ·cases e
noncomputable def Xk(d:D):Option PyData:=match XT d with
 |some p=>some p
 |none=>Qg d
def Wv:List D->Mo->Option D
 |[d],_=>(Xk d).bind λp=>if p.showable&&decide (p.depth<=60)&&decide (Sw p<=sizeLine)then some (.str p.shown)else none
 |_,_=>none
noncomputable def RA:D->Mo->Option String
 |.aT,_=>some "NoneType"
 |.bl _,_=>some "bool"
 |.int _,_=>some "int"
 |.str _,_=>some "str"
 |.tup _,_=>some "tuple"
 |.lst _,_=>some "list"
 |.eB _,_=>some "list"
 |.bG _ _,_=>some "dict"
 |.ref n,M=>match M[n]? with
   |some (.lst _)=>some "list"
   |some (.bG _ _)=>some "dict"
   |_=>none
 |_,_=>none
set_option tactic.hygienic true in
def Hu{K:B0}(j:J mg ρ M H){x:V}{d:D}{t:String}(c:Cv mg ρ H x d)(e:RA d M=some t):WS K H x (.type t):=by
 cases c with
 |aT=>cases e;exact .aT
 |bl b=>cases e;exact .bl b
 |int b=>cases e;exact .int b
 |str b=>cases e;exact .str b
 |tup n h c=>cases e;exact .tup h
 |lst n h c=>cases e;exact .lst h
 |bG n h l c=>cases e;exact .dK h
 |eB n h=>
   cases e;rcases h with h|⟨o,h⟩
   ·exact .lst h
   ·exact .dA h
 |ref q=>
   unfold RA at e;dsimp only at e;split at e
   ·rename_i l hl;cases e;obtain⟨xs,h,_⟩:=j.obj _ _ _ q hl;exact .lst h
   ·rename_i ks l hl;cases e;obtain⟨xs,h,_⟩:=j.obj _ _ _ q hl;exact .dK h
   ·cases e
 |_=>cases e
def Hq(t c:String):Bool:=t==c||(t=="bool"&&c=="int")
def KU:List String:=["NoneType","bool","int","str","tuple","list","dict"]
def jt:List D->Mo->Option D
 |[d,.ty c],M=>(RA d M).bind λt=>if KU.contains c then some (.bl (Hq t c))else none
 |_,_=>none
def vB(e:RA d M=some t):t∈KU:=by unfold RA at e;split at e<;>first|(cases e;decide)|(split at e<;>first|(cases e;decide)|cases e)|cases e
def T7{K:B0}:∀t∈KU,∀c∈KU,W.kitOne K (.type t) (.type c)=some (Hq t c):=by intro t a c b;simp only[KU,List.mem_cons,List.mem_nil_iff,or_false]at a b;rcases a with rfl|rfl|rfl|rfl|rfl|rfl|rfl<;>rcases b with rfl|rfl|rfl|rfl|rfl|rfl|rfl<;>rfl
set_option tactic.hygienic true in
def fj:YE X E (.builtin "isinstance") (λl=>rd (jt l)):=YE.of Lw λh H Q ρ M i d j c e q=>by
 unfold jt at e;split at e
 ·obtain⟨t,b,a⟩:=Y7.mp e;split at a
  ·rename_i f;cases a;obtain⟨v,w,rfl,k,g⟩:=c.two;replace c:=k;cases g;exact⟨_,_,_,_,rfl,Hu j c b,T7 _ (vB b) _ (AO.mp f),q ρ H _ .refl j (.bl _)⟩
  ·cases a
 ·cases e
def Dw(X:Cx)(E:XK)(id:String)(g:D->List D->DM D):Prop:=yn X id (λx b H Q=>∃ρ M d a,J X.mg ρ M H/\Cv X.mg ρ H x d/\ZE X.mg ρ H b a/\Go X.mg E (Cv X.mg) Q ρ H (g d a) M)
noncomputable def Lp:D->List D->DM D
 |.ref n,[v]=>λM=>match M[n]? with
   |some (.lst l)=>if l.length<sizeLine then some (.ok .aT,M.set n (.lst (l++[v])))else none
   |_=>none
 |_,_=>stuck
set_option tactic.hygienic true in
def EY:Dw X E "list.append" Lp:=by
 intro aC s σ H x xs v us Q I rx rs q;obtain⟨ρ,M,d,ds,j,cx,cs,r,e,p⟩:=q;cases cx with
 |ref hn=>
   cases cs with
   |nil=>cases e
   |cons c cs=>cases cs with
     |cons _ _=>cases e
     |nil=>
       rename_i n a w dw;have e:(match M[n]? with
        |some (.lst l)=>if l.length<sizeLine then some (R.ok .aT,M.set n (.lst (l++[dw])))else none
        |_=>none)=some r:=e
       split at e
       ·rename_i l hl;split at e
        ·cases e;obtain⟨xs,hx,cl⟩:=j.obj _ _ _ hn hl;have x:YR ρ H ρ (upd H a (.lst (xs++[w]))):=.upd (Zk hn);exact Tk (X:=X) aC s σ H _ _ v us Q I rx rs ⟨_,_,_,rfl,rfl,hx,by rw[cl.len];assumption,p ρ _ .aT x (j.upd hn ⟨_,ZT,(cl.append (.cons c .nil)).mono x⟩) .aT⟩
        ·cases e
       ·cases e
 |_=>cases e
def Og:D->List D->DM D
 | .ref n,[.int i]=>λM=>match M[n]? with
   |some (.lst l)=>match RY l.length i with
     |some k=>match l[k]? with
       |some d=>if decide (-(2^63)<=i/\i<2^63)then some (.ok d,M.set n (.lst (l.eraseIdx k)))else none
       |none=>none
     |none=>none
   |_=>none
 |_,_=>stuck
theorem ZE.erase:∀{vs:List V}{ds:List D} (i:Nat),ZE mg ρ H vs ds->ZE mg ρ H (vs.eraseIdx i) (ds.eraseIdx i)
 |_,_,_,.nil=>.nil
 |_,_,0,.cons _ t=>t
 |_,_,i+1,.cons a t=>.cons a (ZE.erase i t)
set_option tactic.hygienic true in
def Q6:Dw X E "list.pop" Og:=by
 intro aC s σ H x xs v us Q I rx rs q;obtain⟨ρ,M,d,ds,j,cx,cs,r,e,p⟩:=q;cases cx with
 |ref hn=>
   cases cs with
   |nil=>cases e
   |cons c cs=>cases cs with
     |cons _ _=>cases c<;>cases e
     |nil=>cases c with
       |int i=>
         rename_i n a;have e:(match M[n]? with
          |some (.lst l)=>match RY l.length i with
            |some k=>match l[k]? with
              |some d=>if decide (-(2^63)<=i/\i<2^63)then some (R.ok d,M.set n (.lst (l.eraseIdx k)))else none
              |none=>none
            |none=>none
          |_=>none)=some r:=e
         split at e
         ·rename_i l hl;split at e
          ·rename_i k hk;split at e
           ·rename_i d hd;split at e
            ·rename_i hb;have hb:=ZW hb;cases e;obtain⟨xs,hx,cl⟩:=j.obj _ _ _ hn hl;obtain⟨w,hw,cw⟩:=cl.get hd;have x:YR ρ H ρ (upd H a (.lst (xs.eraseIdx k))):=.upd (Zk hn);exact N0 (X:=X) aC s σ H _ _ v us Q I rx rs ⟨_,_,_,k,w,rfl,rfl,hx,hb.1,hb.2,by rw[cl.len];exact(SV hk).1,hw,p ρ _ w x (j.upd hn ⟨_,ZT,(cl.erase k).mono x⟩) (cw.mono x)⟩
            ·cases e
           ·cases e
          ·cases e
         ·cases e
       |_=>cases e
 |_=>cases e
def sW{name id:String}{g:D->List D->DM D}{o e:Expr}{es:B8}{r:aj->DM D}{s:aj->DM (List D)}{apos af:Pos}(w:PlainAttrs "list")(f:Slot "list" name id)(m:typeOf (.builtin id)=pure (.type "method_descriptor"))(y:Dw X E id g)(ho:DE X E o r)(z:DA X E (e::es) s)
  (c:autoParam (attributeBase o name X.env (eval o X.env)=eval o X.env) qAA)
  (i:autoParam (((backTo af (starEach (e::es) X.env)).all (fun x=>!x.1)&&(backToKw af (keywordEach [] X.env)).all (fun x=>x.1.isSome)
   &&decide ((e::es).length+([]:List Keyword).length+(if([]:List Keyword).isEmpty then 0 else 1)<30))=true) qAA)
  (d:autoParam ((apos.endLine==af.line)=true) qAA) (hs:autoParam (ZH e=true) qAA) (b:autoParam ((backTo af (starEach es X.env)).any (·.1)=false) qAA) :
  DE X E (.Call (.Attribute o name apos) (e::es) [] af) (λk=>r k>>=λx=>rd (λM=>aU x M)>>=λZ=>s k>>=λxs=>g x xs):=⟨PE.mono (UL w f m y ho.h z.h c i d hs b) λσ H Q h=>by
 obtain⟨ρ,k,M,t,j,I⟩:=h;refine⟨ρ,k,M,t,j,I.bind λn H1 O x U e1 u v g2=>?_⟩
 obtain⟨l,hl,g3⟩:=Go.mE g2;obtain⟨a,xs,rfl,hx,cl⟩:=cR u v hl;exact⟨.inl ⟨rfl,_,XI.of hx⟩,n,k,O,t.mono e1,u,g3.bind λp H2 M2 ys q e2 j2 c2 g4=>⟨p,M2,U,q,j2,v.mono e2,c2,g4⟩⟩⟩
end
structure X0(acc:Addr)(ρ:Rh)(H:Hp)(ρ':Rh)(H':Hp):Prop where
 pre:∃τ,ρ'.st=ρ.st++τ
 vo:ρ'.vo=ρ.vo
 new:∀a,a∈ρ'.st->a∉ρ.st->H a=none
 keep:∀a o,H a=some o->a∉ρ.st->a≠acc->H' a=some o
 na:acc∉ρ'.st
section
variable{acc:Addr}{ρ ρ1 ρ2:Rh}{H H1 H2:Hp}
theorem X0.trans(e:X0 acc ρ H ρ1 H1)(f:X0 acc ρ1 H1 ρ2 H2):X0 acc ρ H ρ2 H2:=by
 have c:∀a o,H a=some o->a∉ρ.st->a∉ρ1.st:=λa o h n z=>by have:=e.new a z n;rw[h]at this;cases this
 refine⟨?_,f.vo.trans e.vo,λa h n=>?_,λa o h n d=>f.keep a o (e.keep a o h n d) (c a o h n) d,f.na⟩
 ·obtain⟨g,i⟩:=e.pre;obtain⟨j,k⟩:=f.pre;exact⟨g++j,by rw[k,i,IM]⟩
 ·by_cases z:a∈ρ1.st
  ·exact e.new a z n
  ·cases q:H a with
   |none=>rfl
   |some o=>have:=f.new a h z;rw[e.keep a o q n (λy=>f.na (y▸h))]at this;cases this
def YR.b(e:YR ρ H ρ1 H1)(c:acc∉ρ1.st):X0 acc ρ H ρ1 H1:=⟨e.pre,e.vo,e.new,λa o h n z=>e.keep a o h n,c⟩
def X0.kp(e:X0 acc ρ H ρ1 H1)(h:acc∈ρ.vo):Kp ρ H ρ1 H1:=⟨e.pre,λa o q n y=>by
 have d:a≠acc:=λz=>n (z ▸ .inr h)
 have c:a∉ρ.st:=λz=>n (.inl z)
 refine⟨λz=>?_,e.keep a o q c d⟩
 rcases z with z|z
 ·have:=e.new a z c;rw[q]at this;cases this
 ·rw[e.vo]at z;exact n (.inr z)⟩
theorem X0.refl(a:acc∉ρ.st):X0 acc ρ H ρ H:=(YR.refl).b a
def X0.grow(c:acc∉ρ.st):X0 acc ρ H ρ (upd H acc (.lst ys)):=⟨⟨[],by simp⟩,rfl,λa h n=>absurd h n,λa o h z d=>by rw[ZU d];exact h,c⟩
end
abbrev ZK:=Addr->Rh->Hp->HO->List D->Prop
structure UZ(Z:ZK)(X:Cx)(aC:A8)(acc:Addr)(ρ0:Rh)(H0:Hp)(δ:aj)(l:List D)(M:Mo)(fp:B7)(s:Shared):Prop where
 ex:∃σ H ρ o,Inv X aC σ H s/\X0 acc ρ0 H0 ρ H/\J X.mg ρ M H/\Ev X.mg ρ H σ δ/\H acc=some o/\Z acc ρ H o l/\∀b∈fp,H b=none
def ZK.Ok(Z:ZK):Prop:=∀a d H c I o l,Z a d H o l->YR d H c I->Z a c I o l
def ZL(mg:A4):ZK:=λz c H o l=>∃a,o=.lst a/\ZE mg c H a l
def ZL.ok:(ZL mg).Ok:=λ_ _ _ _ _ _ _ ⟨a,e,c⟩ x=>⟨a,e,c.mono x⟩
def bM(fg:D->aj->DM aj)(ft:aj->DM Bool)(fb:aj->List D->DM (aj×List D)):List D->aj->List D->DM (aj×List D)
 |[],c,l=>pure (c,l)
 |d::ds,c,l=>fg d c>>=λa=>ft a>>=λb=>(if b then fb a l else pure (a,l))>>=λp=>bM fg ft fb ds p.1 p.2
def tM(fg:D->aj->DM aj)(ft:aj->DM Bool)(fb:aj->List D->DM (aj×List D))(n:Nat):Nat->Nat->aj->List D->DM (aj×List D)
 |0,_,_,_=>stuck
 |k+1,i,c,l=>rd (XG.next (.dyn n) i)>>=λo=>match o with
   |none=>pure (c,l)
   |some d=>fg d c>>=λa=>ft a>>=λb=>(if b then fb a l else pure (a,l))>>=λp=>tM fg ft fb n k (i+1) p.1 p.2
def cT(fg:D->aj->DM aj)(ft:aj->DM Bool)(fb:aj->List D->DM (aj×List D)):XG->aj->List D->DM (aj×List D)
 |.fix ds,a,l=>bM fg ft fb ds a l
 |.dyn n,a,l=>rd (λM=>aU (.ref n) M)>>=λm=>tM fg ft fb n (m.length+1) 0 a l
def cL(fe:aj->DM D)(a:aj)(l:List D):DM (aj×List D):=fe a>>=λd=>if l.length<sizeLine then pure (a,l++[d])else stuck
def XS(X:Cx)(c:B8)(t:TT):Prop:=∀(a:A8) (s:Shared) (d:L2.St) (H:Hp) (Q:Bool->Hp->Prop),Inv X a d H s->t d H Q->wpAny X.M X.A (xX c X.env) (TP X a d Q) X.xe s
structure NW(X:Cx)(E:XK)(ifs:B8)(f:aj->DM Bool):Prop where
 h:XS X ifs (tD X.mg E Bv f)
def gJ:NW X E [] (λz=>pure true):=⟨λa s d H Q I h=>by obtain⟨c,e,M,f,j,g⟩:=h;exact YG ⟨H,I,g.pure c H true .refl j rfl⟩⟩
def gK(hc:DT X E c f):NW X E [c] f:=⟨λa s d H Q I h=>wpAny_tests_one (hc.h a s d H Q I h)⟩
set_option tactic.hygienic true in
def DM.bS{α c:Type}{m:DM α}{k:α->DM c}{M M':Mo}{b:c}(h:(m>>=k) M=some (.ok b,M')):∃a I,m M=some (.ok a,I)/\k a I=some (.ok b,M'):=by
 have h:DM.bind m k M=some (.ok b,M'):=h;unfold DM.bind at h;split at h
 ·cases h
 ·cases h
 ·rename_i a I e;exact⟨a,I,e,h⟩
def vC(Z:ZK)(X:Cx)(acc:Addr)(W:B2->B2)(fb:aj->List D->DM (aj×List D))(c:Rh)(I:Hp):Prop:=
 ∀a e l M s d f O,UZ Z X a acc c I e l M [] s->fb e l M=some (.ok (d,f),O)->W (λg=>UZ Z X a acc c I d f O [] g) s
def BodyOk(X:Cx)(acc:Addr)(W:B2->B2)(fb:aj->List D->DM (aj×List D)):Prop:=
 ∀a I,acc∈a.vo->vC (ZL X.mg) X acc W fb a I
def UZ.l8(c:UZ Z X (aC++pl) acc ρ0 H0 δ l M [] s)(h:∀b∈fp,∃o,(b,o)∈pl):
  UZ Z X aC acc ρ0 H0 δ l M fp s/\∀p∈pl,s.heap.get? p.1=some p.2:=by
 obtain⟨a,H,d,o,I,x,j,e,f,g,_⟩:=c.ex;refine⟨⟨a,H,d,o,I.eD,x,j,e,f,g,λb i=>?_⟩,λp k=>(I.pin p (ZC _ (ZC _ k))).1⟩
 obtain⟨m,n⟩:=h b i;exact(I.pin (b,m) (ZC _ (ZC _ n))).2.1
def yh(fg:D->aj->DM aj)(ft:aj->DM Bool)(fb:aj->List D->DM (aj×List D))(c:aj)(e:List D)(I:Mo):XG->Nat->Nat->aj->List D->Mo->Prop
 |.fix ds,n,i,d,l,M=>n=ds.length-i/\bM fg ft fb (ds.drop i) d l M=some (.ok (c,e),I)
 |.dyn a,n,i,d,l,M=>tM fg ft fb a n i d l M=some (.ok (c,e),I)
set_option tactic.hygienic true in
def yh.step{fg:D->aj->DM aj}{ft:aj->DM Bool}{fb:aj->List D->DM (aj×List D)}{δf δ:aj}{lf l:List D}{Mf M:Mo}{it:XG}{n i:Nat}(h:yh fg ft fb δf lf Mf it n i δ l M):
  (it.next i M=some none/\δ=δf/\l=lf/\M=Mf)\/∃d δ1 M1 b M2 δ3 l3 M3 m,it.next i M=some (some d)/\fg d δ M=some (.ok δ1,M1)/\ft δ1 M1=some (.ok b,M2)/\(if b then fb δ1 l else pure (δ1,l)) M2=some (.ok (δ3,l3),M3)/\m<n/\yh fg ft fb δf lf Mf it m (i+1) δ3 l3 M3:=by
 cases it with
 |fix ds=>
   obtain⟨rfl,h⟩:=h;cases hd:ds[i]? with
   |none=>rw[List.drop_eq_nil_of_le (Z0.mp hd)]at h;cases h;exact .inl ⟨congrArg some hd,rfl,rfl,rfl⟩
   |some d=>
     obtain⟨hi',de⟩:=YJ.mp hd;have hl:ds.drop i=d::ds.drop (i+1):=by rw[<-de];exact acM hi'
     rw[hl]at h;obtain⟨δ1,M1,e1,h1⟩:=DM.bS h;obtain⟨b,M2,e2,h2⟩:=DM.bS h1;obtain⟨⟨δ3,l3⟩,M3,e3,h3⟩:=DM.bS h2;exact .inr ⟨d,δ1,M1,b,M2,δ3,l3,M3,ds.length-(i+1),congrArg some hd,e1,e2,e3,by lia,rfl,h3⟩
 |dyn a=>
   cases n with
   |zero=>cases h
   |succ n=>
     obtain⟨o,M0,e0,h⟩:=DM.bS h;obtain⟨o',q,z⟩:=YM.mp e0;cases z;cases o with
     |none=>cases h;exact .inl ⟨q,rfl,rfl,rfl⟩
     |some d=>obtain⟨δ1,M1,e1,h1⟩:=DM.bS h;obtain⟨b,M2,e2,h2⟩:=DM.bS h1;obtain⟨⟨δ3,l3⟩,M3,e3,h3⟩:=DM.bS h2;exact .inr ⟨d,δ1,M1,b,M2,δ3,l3,M3,n,q,e1,e2,e3,Kj _,h3⟩
def yh.start{fg:D->aj->DM aj}{ft:aj->DM Bool}{fb:aj->List D->DM (aj×List D)}{δf δ:aj}{lf l:List D}{Mf M:Mo}{it:XG}(h:cT fg ft fb it δ l M=some (.ok (δf,lf),Mf)):∃n,yh fg ft fb δf lf Mf it n 0 δ l M:=by
 cases it with
 |fix ds=>exact⟨_,rfl,h⟩
 |dyn a=>obtain⟨m,M0,e0,h⟩:=DM.bS h;obtain⟨m',q,z⟩:=YM.mp e0;cases z;exact⟨_,h⟩
def Ue(hZ:Z.Ok)(hc:X.calm=true)(r8:X.xe=λY Y=>False){p:Nat}{bodyK:Sem Fin->Sem Fin}{W:B2->B2}
  (l9:compTurn e p (.ref it) (.ref acc) X.env=WZ g bodyK (.compLoop e p (.ref it) (.ref acc) X.env) (.ref it) X.env) (hW:lM X.prog X.w X.A bodyK W) (q:∀P P' s,(∀s,P s->P' s)->W P s->W P' s)
  {fg:D->aj->DM aj}{ft:aj->DM Bool}{fb:aj->List D->DM (aj×List D)} (hg:DG X E0 g.target fg) (ht:NW X E0 g.ifs ft) {fp:B7}{tn:Nat->B6} (T:Pp X.prog X.w X.K g.target Jt fp it tn) (kH:S3 X.mg ρi Hi Jt itn) (U:vC Z X acc W fb ρ0 H0) (tm:∀ρ H,X0 acc ρ0 H0 ρ H->Kp ρi Hi ρ H) {a:A8}
  (ma:∀H',(∀b∈fp,H' b=none)->∀b∈fp,VE X a H' b) {l:List D} (st:UZ Z X a acc ρ0 H0 v l M fp s) (y:tn 0 s.heap) {lf:List D} (nS:cT fg ft fb itn v l M=some (.ok (δf,lf),Mf))
  {R:Result->B2} (he:HW e) (hR:∀s',UZ Z X a acc ρ0 H0 δf lf Mf fp s'->R (.ok .next) s') :
  codeAny X.M X.A (.compLoop e p (.ref it) (.ref acc) X.env) R s:=by
 obtain⟨n0,rem0⟩:=yh.start nS;refine Nu (λn s=>∃i v l M,yh fg ft fb δf lf Mf itn n i v l M/\UZ Z X a acc ρ0 H0 v l M fp s/\tn i s.heap) l9 hW ?_ q n0 ⟨0,v,l,M,rem0,st,y⟩ he
 rintro n s ⟨i,v,l,M,rem,st,y⟩;obtain⟨σ,H,ρ,o,I,x,j,ev,ha,cl,fr⟩:=st.ex;have kp:=tm _ _ x;rcases rem.step with⟨hd,rfl,rfl,rfl⟩|⟨d,O,M1,b,M2,δ3,l3,M3,m,hd,e1,e2,e3,hm,rem3⟩
 ·refine Zh (T.done X rfl rfl rfl hc i a s σ H _ I (ma H fr) y (kH.stop i ρ H _ kp j hd)) (λr s1 h1=>?_) λY Y z=>z
  obtain⟨rfl,I1⟩:=h1;exact hR s1 ⟨σ,H,ρ,o,I1,x,j,ev,ha,cl,fr⟩
 ·obtain⟨go,yl⟩:=kH.item i ρ H M d kp j hd;refine Zh (T.item X rfl rfl rfl hc i a s σ H (λY Y=>False) I (ma H fr) y go) (λr s1 h1=>?_) λY Y z=>z
  obtain⟨u,rfl,h1⟩:=h1;refine Zh h1 (λY s2 h2=>?_) λY Y z=>z
  obtain⟨xv,H5,I5,r5,y5,tn5,fr5⟩:=h2;obtain⟨x5,j5,c5⟩:=yl xv H5 y5;have I5':=I5.pinned (ma H5 fr5) (T.obj _ _ tn5);refine Zh (hg.h _ s2 σ H5 xv u (λt H6=>∃c,YR ρ H5 c H6/\J X.mg c M1 H6/\Ev X.mg c H6 t O) I5' r5 ⟨ρ,v,M,d,ev.mono x5,j5,c5,_,e1,λc H6 t a1 a2 a3=>⟨c,a1,a2,a3⟩⟩) (λY s3 h3=>?_) λY Y z=>by rw[r8]at z;exact z
  obtain⟨t,H6,I6,c,x6,j6,ev6⟩:=h3;refine Zh (ht.h _ s3 t H6 (λb' H7=>b'=b/\∃f,YR c H6 f H7/\J X.mg f M2 H7) I6 ⟨c,O,M1,ev6,j6,_,e2,λf H7 b' a1 a2 a3=>⟨a3,f,a1,a2⟩⟩) (λok s4 h4=>?_) λY Y z=>by rw[r8]at z;exact z
  obtain⟨H7,I7,rfl,f,x7,j7⟩:=h4;have k:acc∉ρ.st:=x.na;have na6:acc∉c.st:=λz=>by have h5:=x5.keep acc _ ha k;have:=x6.new acc z k;rw[h5]at this;cases this
  have ha5:=x5.keep acc _ ha k;have ha6:=x6.keep acc _ ha5 k;have na7:acc∉f.st:=λz=>by have:=x7.new acc z na6;rw[ha6]at this;cases this
  have ha7:=x7.keep acc _ ha6 na6;have xb:X0 acc ρ0 H0 f H7:=((x.trans (x5.b k)).trans (x6.b na6)).trans (x7.b na7);have ct:UZ Z X (a++VC fp s2.heap) acc ρ0 H0 O l M2 [] s4:=⟨t,H7,f,o,I7,xb,j7,ev6.mono x7,ha7,hZ _ _ _ _ _ _ _ (hZ _ _ _ _ _ _ _ (hZ _ _ _ _ _ _ _ cl x5) x6) x7,λb U=>nomatch U⟩
  have fin:∀s5,UZ Z X (a++VC fp s2.heap) acc ρ0 H0 δ3 l3 M3 [] s5->∃m,m<n/\∃i v l M,yh fg ft fb δf lf Mf itn m i v l M/\UZ Z X a acc ρ0 H0 v l M fp s5/\tn i s5.heap:=λs5 c5=>by
   obtain⟨c6,pp⟩:=c5.l8 (fp:=fp) λb U=>by obtain⟨o,eo,_⟩:=T.obj _ _ tn5 b U;exact⟨o,W1 U eo⟩
   exact⟨m,hm,i+1,δ3,l3,M3,rem3,c6,T.keep _ _ _ tn5 λb U o eo=>pp (b,o) (W1 U eo)⟩
  cases ok with
  |true=>exact So (q _ _ _ fin (U _ O l M2 s4 δ3 l3 M3 ct e3))
  |false=>cases e3;exact SA (fin s4 ct)
set_option tactic.hygienic true in
def Ei{X:Cx}(m:X.xe=λw w=>False){n:Expr}{fe:aj->DM D}{acc:Addr}(he:DE X E0 n fe):
  BodyOk X acc (λP s=>wpAny X.M X.A (eval n X.env) (λx q=>wpAny X.M X.A (call (.builtin "list.append") [.ref acc,x]) (λw s2=>P s2) (λw w=>False) q) (λw w=>False) s) (cL fe):=by
 intro ρ0 H0 p c δ l M s δ' l' M' ct e;obtain⟨d,M1,e1,r⟩:=DM.bS e;obtain⟨t,H,y,o,I,x,j,ev,ha,⟨U,rfl,cl⟩,_⟩:=ct.ex;split at r;rotate_left
 ·cases r
 rename_i hz;cases r;refine Zh (he.h c s t H (λv O=>∃a,YR y H a O/\J X.mg a M' O/\Cv X.mg a O v d) I ⟨y,δ,M,ev,j,_,e1,λa O v a1 a2 a3=>⟨a,a1,a2,a3⟩⟩) (λu q h1=>?_) λw w z=>by rw[m]at z;exact z
 obtain⟨v,O,I1,rv,a,k,j1,c1⟩:=h1;have f:acc∉y.st:=x.na;have ha1:=k.keep acc _ ha f;have g:acc∉a.st:=λz=>by have:=k.new acc z f;rw[ha]at this;cases this
 have i:acc∈a.vo:=by rw[k.vo,x.vo];exact p
 refine Zh (Tk (X:=X) c q t O (.ref acc) [v] (.ref acc) [u] (λw H'=>H'=upd O acc (.lst (U++[v]))) I1 rfl (.cons rv .nil) ⟨_,U,v,rfl,rfl,ha1,by rw[cl.len];exact hz,rfl⟩) (λw s2 h2=>?_) λw w z=>by rw[m]at z;exact z
 obtain⟨_,H2,I2,_,rfl⟩:=h2;exact⟨t,_,a,_,I2,(x.trans (k.b g)).trans (.grow g),j1.grow i,(ev.mono k).kp ((X0.grow g).kp i),ZT,⟨U++[v],rfl,((cl.mono k).append (.cons c1 .nil)).hold i⟩,λb hb=>nomatch hb⟩
def dG{α:Type}(m:DM α):DM α:=λM=>match m M with
 |some (.ok a,I)=>some (.ok a,I)
 |_=>none
set_option tactic.hygienic true in
def wj(h:dG m M=some r):∃a M',m M=some (.ok a,M')/\r=(.ok a,M'):=by
 unfold dG at h;split at h
 ·rename_i a M' e;cases h;exact⟨a,M',e,rfl⟩
 ·cases h
def cZ(js:C0)(a:aj):aj:=js.map λj=>(a[j]?).getD none
def aV(k:Nat)(js:C0)(a:aj):aj:=List.replicate k none++cZ js a
def Ek(a:Ev mg ρ H σ δ)(k:Nat)(js:C0):Ev mg ρ H (List.replicate k none++TK js σ) (aV k js δ):=by
 unfold aV TK cZ;refine⟨by simp,λi d q=>?_⟩
 by_cases hi:i<k
 ·rw[Y9 (by rw[JO];exact hi),FU]at q
  split at q<;>cases q
 ·rw[Z4 (by rw[JO];lia),JO,Y8]at q ⊢
  cases hj:js[i-k]? with
  |none=>rw[hj]at q;cases q
  |some j=>
    rw[hj]at q;have q:(δ[j]?).getD none=some d:=Y4 q;have b:δ[j]?=some (some d):=by
     cases z:δ[j]? with
     |none=>rw[z]at q;cases q
     |some o=>rw[z]at q;exact congrArg some q
    obtain⟨v,c,e⟩:=a.val j d b;exact⟨v,by show some ((σ[j]?).getD none)=_;rw[c];rfl,e⟩
def Bf(b:H p=none):Kp ρ H (ρ.hold p) (upd H p o):=⟨⟨[],by show ρ.st=_;simp⟩,λa u h n z=>⟨Rh.kb n (ZO h b),by rw[ZU (ZO h b)];exact h⟩⟩
inductive My where
 |val|nV
def My.run:My->List D->DM D
 |.val,l=>pure (.lst l)
 |.nV,l=>λM=>some (.ok (.ref M.length),M++[.lst l])
def My.fin(o:My)(hf:H2 acc=none)(hn:acc∉ρ1)(x:X0 acc (ρ1.hold acc) (upd H2 acc (.lst [])) ρ4 H4)(j:J mg ρ4 M H4)(ha:H4 acc=some (.lst ys))(c:ZE mg ρ4 H4 ys l)
  (g:Go mg E (Cv mg) Q ρ1 H2 (o.run l) M):Q (.ref acc) H4:=by
 have hv:ρ4.vo=acc::ρ1.vo:=x.vo;have na:acc∉ρ1.vo:=λz=>hn (.inr z)
 have nw:∀a,a∈ρ4.st->a∉ρ1.st->H2 a=none:=λa h n=>by
  have:=x.new a h n;by_cases z:a=acc
  ·rw[z,ZT]at this;cases this
  ·rw[ZU z]at this;exact this
 have kp:∀a o,H2 a=some o->a∉ρ1.st->H4 a=some o:=λa o h n=>x.keep a o (by rw[ZU (ZO h hf)];exact h) n (ZO h hf)
 cases o with
 |val=>
   have e:YR ρ1 H2 ⟨ρ4.st,ρ1.vo⟩ H4:=⟨x.pre,rfl,nw,kp⟩;have jd:J mg ⟨ρ4.st,ρ1.vo⟩ M H4:=J.done (ρ:=ρ1) j hv;have cd:ZE mg ⟨ρ4.st,ρ1.vo⟩ H4 ys l:=ZE.less (ρ:=ρ4) (ρ1:=⟨ρ4.st,ρ1.vo⟩) rfl (λa h=>by rw[hv];exact .tail _ h) c
   exact Go.pure (a:=D.lst l) g ⟨ρ4.st,ρ1.vo⟩ H4 (.ref acc) e jd (.lst (λz=>by
    rcases z with z|z
    ·exact x.na z
    ·exact na z) ha cd)
 |nV=>
   obtain⟨r,er,p⟩:=g;cases er;have k4:Kp ρ4 H4 ⟨ρ4.st++[acc],ρ1.vo⟩ H4:=⟨⟨[acc],rfl⟩,λa o h n v=>⟨λz=>by
    rcases z with z|z
    ·rcases Zb.mp z with z|z
     ·exact n (.inl z)
     ·exact n (.inr (by rw[hv,Zi.mp z];exact .head _))
    ·exact n (.inr (by rw[hv];exact .tail _ z)),h⟩⟩
   have e:YR ρ1 H2 ⟨ρ4.st++[acc],ρ1.vo⟩ H4:=by
    refine⟨?_,rfl,λa h n=>?_,kp⟩
    ·obtain⟨τ,h1⟩:=x.pre;exact⟨τ++[acc],by show ρ4.st++[acc]=_;rw[h1,IM];rfl⟩
    ·rcases Zb.mp h with z|z
     ·exact nw a z n
     ·rw[Zi.mp z];exact hf
   have jd:J mg ⟨ρ4.st++[acc],ρ1.vo⟩ (M++[.lst l]) H4:=by
    refine⟨by show(ρ4.st++[acc]).length=_;rw[Zm,Zm,j.len];rfl,?_,λn a w h1 h2=>?_,λa h=>?_⟩
    ·show(ρ4.st++[acc]).Nodup;rw[EI];exact⟨j.nd,by simp,λx' hx y hy e=>by rw[Zi.mp hy]at e;exact x.na (e▸hx)⟩
    ·have h1:(ρ4.st++[acc])[n]?=some a:=h1;by_cases hl:n<ρ4.st.length
     ·rw[Y9 hl]at h1;rw[Y9 (by rw[<-j.len];exact hl)]at h2
      exact(j.obj n a w h1 h2).map rfl λvs ds c=>c.kp k4
     ·have hl':n<(ρ4.st++[acc]).length:=(YJ.mp h1).1;rw[Zm]at hl';have e:n=ρ4.st.length:=by have:[acc].length=1:=rfl;lia
      subst e;rw[Z4 (YL _)]at h1;rw[j.len,Z4 (YL _)]at h2;simp at h1 h2;subst h1 h2;exact⟨ys,ha,c.kp k4⟩
    ·have h:a∈ρ1.vo:=h;obtain⟨y1,y2⟩:=j.hU a (by rw[hv];exact .tail _ h)
     refine⟨λz=>?_,y2⟩
     rcases Zb.mp z with z|z
     ·exact y1 z
     ·exact na (Zi.mp z▸h)
   refine p _ H4 (.ref acc) e jd (.ref ?_);show(ρ4.st++[acc])[_]?=_;rw[<-j.len];simp
structure LO(X:Cx)(Z:ZK)(ob:Obj)(o0:Addr->HO)(g:Rh->Addr->Rh)(mk:Sem Value):Prop where
 ok:Z.Ok
 nw:∀(A:Around) (E:A3) (s:Shared) (Q:A3),Q (.ref s.z) {s with heap:=s.heap.push ob}->wpAny X.M A mk Q E s
 lh:∀(H:Hp) (h:Heap) (a:Addr),h.get? a=some ob->Y3 X.prog X.w H h a (o0 a)
 fr:ob.isFreed=false
 j:∀{ρ M H a},H a=none->J X.mg ρ M H->J X.mg (g ρ a) M (upd H a (o0 a))
 ev:∀{ρ H a σ δ},H a=none->Ev X.mg ρ H σ δ->Ev X.mg (g ρ a) (upd H a (o0 a)) σ δ
 kp:∀{ρ H a ρ' H'},H a=none->X0 a (g ρ a) (upd H a (o0 a)) ρ' H'->Kp ρ H ρ' H'
 st:∀ρ a,(g ρ a).st=ρ.st
 z:∀ρ H a,Z a ρ H (o0 a) []
section
variable{X:Cx}{E:XK}{Z:ZK}{ob:Obj}{o0:Addr->HO}{gr:Rh->Addr->Rh}{mk:Sem Value}{scope:Scope}{cl:A9}{own:C3}{js:C0}{fr:C3}{e t0 i0:Expr}{f0:B8}{gs:List Comprehension}{pos:Pos}{fi:aj->DM XG}{fg:D->aj->DM aj}{ft:aj->DM Bool}{fb:aj->List D->DM (aj×List D)}
  {bodyK:Cx->Addr->Sem Fin->Sem Fin}{W:Cx->Addr->B2->B2}{α:Type}{Rv:Rh->Hp->V->α->Prop}{Q:VK}{fin:List D->DM α}{use:Option (Value->Sem Unit)}{Qs:A3}{aC:A8}{σ:L2.St}{H:Hp}{s:Shared}{ρ:Rh}{δ:aj}{M:Mo}
set_option tactic.hygienic true in
def yr(B:LO X Z ob o0 gr mk)(he:HW e)(mG:clausesOf e=⟨t0,i0,f0,0⟩::gs)(hc:X.calm=true)(T:WO X scope cl own js fr)(hi:DI X E t0 i0 fi)
  (t:∀(Y:Cx) it acc,compTurn e 0 (.ref it) (.ref acc) Y.env=WZ ⟨t0,i0,f0,0⟩ (bodyK Y acc) (.compLoop e 0 (.ref it) (.ref acc) Y.env) (.ref it) Y.env)
  (hW:∀Y acc,lM Y.prog Y.w Y.A (bodyK Y acc) (W Y acc)) (u:∀Y acc P P' s,(∀s,P s->P' s)->W Y acc P s->W Y acc P' s)
  (hg:∀aC m fp C g O,DG (X.aR aC scope (cellsFrom m scope.names cl) (own++fr) fp C g O) E0 t0 fg) (ht:∀aC m fp C g O,NW (X.aR aC scope (cellsFrom m scope.names cl) (own++fr) fp C g O) E0 f0 ft)
  (i:∀aC m fp C g O acc ρ H0,vC Z (X.aR aC scope (cellsFrom m scope.names cl) (own++fr) fp C g O) acc (W (X.aR aC scope (cellsFrom m scope.names cl) (own++fr) fp C g O) acc) fb (gr ρ acc) H0)
  (hs:∀y,foldedSetIterable i0 X.env y=pure y) (I:Inv X aC σ H s) (ev:Ev X.mg ρ H σ δ) (j:J X.mg ρ M H) (g1:Go X.mg E Rv Q ρ H (fi δ>>=λit=>dG (cT fg ft fb it (aV own.length js δ) [])>>=λp=>fin p.2) M)
  (nX:∀d U fp C m acc ρ1 lf Mf s',Inv X aC σ U d->(∀b∈fp,VE X aC U b)->d.heap.objs.size<=acc->d.heap.objs.size<=C->U acc=none->acc∉ρ1->(∃l,UZ Z (X.aR aC scope (cellsFrom m scope.names cl) (own++fr) fp C d U) [] acc (gr ρ1 acc) (upd U acc (o0 acc)) l lf Mf fp s')->Go X.mg E Rv Q ρ1 U (fin lf) Mf->
    compPost X.M X.A X.xe use Qs (.ref acc) C (.ok .next) s') :
  wpAny X.M X.A (comprehension e scope X.env pos mk false (eval i0 X.env) use) Qs X.xe s:=by
 refine wpAny_comprehension_free (cl:=cl) (use:=use) mG hs T.ko T.kind T.names ?_;refine YO (hi.h aC s σ H (λJt H1=>∃ρ1 n it,YR ρ H ρ1 H1/\J X.mg ρ1 n H1/\S3 X.mg ρ1 H1 Jt it/\Go X.mg E Rv Q ρ1 H1 (dG (cT fg ft fb it (aV own.length js δ) [])>>=λp=>fin p.2) n) I
  ⟨ρ,δ,M,ev,j,g1.bind λρ1 H1 n Jt it e1 j1 kH g2=>⟨ρ1,n,it,e1,j1,kH,g2⟩⟩) λv s1 h1=>YO h1 λitv d h2=>?_
 obtain⟨it,fp,tn,Jt,U,rfl,I2,Tn,st2,f2,ρ1,n,itn,x1,j1,kH,g2⟩:=h2;have k:∃l lf Mf,cT fg ft fb itn (aV own.length js δ) [] n=some (.ok (l,lf),Mf)/\Go X.mg E Rv Q ρ1 U (fin lf) Mf:=by
  obtain⟨r,e,p⟩:=g2;have e:DM.bind _ _ n=some r:=e;unfold DM.bind at e;split at e
  ·cases e
  ·rename_i c M' em;obtain⟨a,M'',_,z⟩:=wj em;cases z
  ·rename_i a M' em;obtain⟨a',M'',e1,z⟩:=wj em;cases z;exact⟨a.1,a.2,M',e1,r,e,p⟩
 obtain⟨l,lf,Mf,k,g3⟩:=k;refine B.nw _ _ _ _ (JK ?_);have ly:∀b∈fp,b<d.heap.objs.size:=λb i=>by obtain⟨o,e,_⟩:=Tn.obj _ _ st2 b i;exact YW e
 dsimp only;generalize hP:d.heap.push ob=ag;have hCs:ag.objs.size=d.heap.objs.size+1:=by rw[<-hP,ZX]
 have hCe:ag.objs.size+1=(ag.push {cls:=.type "dict",data:=.dict #[]}).objs.size:=by rw[ZX]
 have hC:d.heap.objs.size<=ag.objs.size:=by lia
 have bp:ag.objs.size≠d.heap.objs.size:=by lia
 have old1:∀b o,d.heap.get? b=some o->ag.get? b=some o:=λb o e=>by rw[<-hP];exact YH _ e
 have old:∀b o,d.heap.get? b=some o->(pushCells (ag.push {cls:=.type "dict",data:=.dict #[]}) scope.names).get? b=some o:=λb o e=>wc _ _ _ _ (YH _ (old1 b o e))
 have new:=wc scope.names _ _ _ (YH {cls:=.type "dict",data:=.dict #[]} (show ag.get? d.heap.objs.size=some ob by rw[<-hP];exact YZ _ B.fr))
 have ns:(pushCells (ag.push {cls:=.type "dict",data:=.dict #[]}) scope.names).Ns ag.objs.size λV=>none:=(Heap.Ns.new ag (.type "dict")).keeps (wc _ _)
 have f:U d.heap.objs.size=none:=I2.aI.fresh (YL _);have IC:=Gz (t':=d.toks) T I2 f2 ly old (YL _) hC bp hCe (Zx hC (Nat.le_succ _)) (Kj _) (Nat.lt_succ_of_le hC) rfl (B.lh _ _ _ new) ns;have OK:=IC.ok;have ma:∀H',(∀b∈fp,H' b=none)->∀b∈fp,VE (X.aR aC scope (cellsFrom (ag.objs.size+1) scope.names cl) (own++fr) fp ag.objs.size d U) [] H' b:=λH' hn b i=>by
  obtain⟨_,g2,g3,g4,g5,g6⟩:=f2 b i;refine⟨hn b i,Y6 (Y0 (ly b i) hC),λhm=>?_,.inl i,(OK.kM b i).2,λp hp=>g6 p (by simpa using hp)⟩
  rcases Y5.mp (I2.dn _ hm)with z|z
  ·exact g2 z
  ·exact g3 z
 have fp1:∀b∈fp,upd U d.heap.objs.size (o0 d.heap.objs.size) b=none:=λb i=>by rw[ZU (Y6 (ly b i))];exact(f2 b i).1
 have nf:=j1.fresh f;have st:UZ Z (X.aR aC scope (cellsFrom (ag.objs.size+1) scope.names cl) (own++fr) fp ag.objs.size d U) [] d.heap.objs.size (gr ρ1 d.heap.objs.size) (upd U d.heap.objs.size (o0 d.heap.objs.size)) (aV own.length js δ) [] n fp
   {d with heap:=pushCells (ag.push {cls:=.type "dict",data:=.dict #[]}) scope.names,toks:=d.toks}:=
  ⟨_,_,_,_,IC,.refl (λz=>nf (.inl (by rw[<-B.st ρ1];exact z))),B.j f j1,B.ev f (Ek (ev.mono x1) _ _),ZT,B.z _ _ _,fp1⟩
 have tn0:tn 0 (pushCells (ag.push {cls:=.type "dict",data:=.dict #[]}) scope.names):=Tn.keep _ _ _ st2 (λb V o e=>old b o e)
 have q:codeAny X.M X.A (.compLoop e 0 (.ref it) (.ref d.heap.objs.size) (compEnvC scope (cellsFrom (ag.objs.size+1) scope.names cl) ag.objs.size X.env))
   (compPost X.M X.A X.xe use Qs (.ref d.heap.objs.size) ag.objs.size) {d with heap:=pushCells (ag.push {cls:=.type "dict",data:=.dict #[]}) scope.names,toks:=d.toks}:=
  Ue (X:=X.aR aC scope (cellsFrom (ag.objs.size+1) scope.names cl) (own++fr) fp ag.objs.size d U) B.ok hc rfl (t _ _ _) (hW _ _) (u _ _) (hg ..) (ht ..) Tn kH (i aC (ag.objs.size+1) fp ag.objs.size d U d.heap.objs.size ρ1 _) (λV V x=>B.kp f x) ma st tn0 k he λs' c'=>nX d U fp _ _ _ ρ1 lf Mf s' I2 f2 (YL _) hC f nf ⟨_,c'⟩ g3
 show codeAny _ _ (.compStart _ 0 (.ref it) (.ref d.heap.objs.size) (compEnvC scope (cellsFrom (ag.objs.size+1) scope.names cl) ag.objs.size X.env)) _ _;exact KQ (by rw[mG];rfl) rfl q (Tn.self X.A 0 _ _ _ tn0 q) he
def Af(B:LO X Z ob o0 gr mk)(he:HW e)(r:clausesOf e=⟨t0,i0,f0,0⟩::gs)(hc:X.calm=true)(T:WO X scope cl own js fr)(hi:DI X E t0 i0 fi)
  (f:∀(Y:Cx) it acc,compTurn e 0 (.ref it) (.ref acc) Y.env=WZ ⟨t0,i0,f0,0⟩ (bodyK Y acc) (.compLoop e 0 (.ref it) (.ref acc) Y.env) (.ref it) Y.env)
  (hW:∀Y acc,lM Y.prog Y.w Y.A (bodyK Y acc) (W Y acc)) (g:∀Y acc P P' s,(∀s,P s->P' s)->W Y acc P s->W Y acc P' s)
  (hg:∀aC m fp C a O,DG (X.aR aC scope (cellsFrom m scope.names cl) (own++fr) fp C a O) E0 t0 fg) (ht:∀aC m fp C a O,NW (X.aR aC scope (cellsFrom m scope.names cl) (own++fr) fp C a O) E0 f0 ft)
  (t:∀aC m fp C a O acc ρ H0,vC Z (X.aR aC scope (cellsFrom m scope.names cl) (own++fr) fp C a O) acc (W (X.aR aC scope (cellsFrom m scope.names cl) (own++fr) fp C a O) acc) fb (gr ρ acc) H0)
  (hs:∀y,foldedSetIterable i0 X.env y=pure y)
  (hq:∀(Q:VK) acc l ρ1 n q U c o,l acc=none->acc∉ρ1->X0 acc (gr ρ1 acc) (upd l acc (o0 acc)) c U->J X.mg c q U->U acc=some o->Z acc c U o n->Go X.mg E Rv Q ρ1 l (fin n) q->Q (.ref acc) U)
  (ee:eval e X.env=comprehension e scope X.env pos mk false (eval i0 X.env) none) :
  PE X e (tD X.mg E Rv λδ=>fi δ>>=λit=>dG (cT fg ft fb it (aV own.length js δ) [])>>=λp=>fin p.2):=by
 intro aC s σ H Q I h;obtain⟨ρ,δ,M,ev,j,g1⟩:=h;rw[ee];refine yr B he r hc T hi f hW g hg ht t hs I ev j g1 λs2 l fp C m acc ρ1 n q s' I2 f2 hA hC i nf u g3=>?_
 obtain⟨δf,u⟩:=u;obtain⟨σ4,U,c,o,k,x4,j4,ev4,v,z4,fr4⟩:=u.ex;obtain⟨m4,x,_⟩:=k.loc;refine⟨m4,x,λh' d=>?_⟩
 have un:=Le k.base d hC;have z:=Eo k.aI d k.free;exact⟨.ref acc,U,I2.gz (s':={s' with heap:=h'}) (ch:=fp) (k.os) un z k.bare (λb t=>by obtain⟨_,g2,g3,g4,g5,g6⟩:=f2 b t;exact⟨g4,g2,g5,g6⟩),rfl,hq Q acc l ρ1 n q U c o i nf x4 j4 v z4 g3⟩
end
theorem LO.list:LO X (ZL X.mg) {cls:=.type "list",dict:=none,data:=.seq ([]:B5).toArray} (λy=>.lst []) Rh.hold (newList [])where
 ok:=ZL.ok
 nw:=λA E s Q q=>by unfold newList;exact Zw q
 lh:=λH h a e=>⟨Z8 _,[],_,.nil,e⟩
 fr:=rfl
 j:=λh j=>j.begin h
 ev:=λh e=>e.kp (Bf h)
 kp:=λh x=>(Bf h).trans (x.kp (.head _))
 st:=λy y=>rfl
 z:=λy y y=>⟨[],rfl,.nil⟩
def LR{cl:A9}{own:C3}{js:C0}{fr:C3}{h:B8}{i:List Comprehension}{fi:aj->DM XG}{fg:D->aj->DM aj}{ft:aj->DM Bool}{fb:aj->List D->DM (aj×List D)}
  {bodyK:Cx->Addr->Sem Fin->Sem Fin}{W:Cx->Addr->B2->B2} (o:My) (hc:X.calm=true) (T:WO X scope cl own js fr) (l:DI X E t0 i0 fi)
  (d:∀(Y:Cx) it acc,compTurn (.ListComp elt (⟨t0,i0,h,0⟩::i) scope pos) 0 (.ref it) (.ref acc) Y.env=WZ ⟨t0,i0,h,0⟩ (bodyK Y acc) (.compLoop (.ListComp elt (⟨t0,i0,h,0⟩::i) scope pos) 0 (.ref it) (.ref acc) Y.env) (.ref it) Y.env)
  (n:∀Y acc,lM Y.prog Y.w Y.A (bodyK Y acc) (W Y acc)) (f:∀Y acc P O s,(∀s,P s->O s)->W Y acc P s->W Y acc O s)
  (q:∀a m fp C b I,DG (X.aR a scope (cellsFrom m scope.names cl) (own++fr) fp C b I) E0 t0 fg) (ht:∀a m fp C b I,NW (X.aR a scope (cellsFrom m scope.names cl) (own++fr) fp C b I) E0 h ft)
  (r:∀a m fp C b I acc,BodyOk (X.aR a scope (cellsFrom m scope.names cl) (own++fr) fp C b I) acc (W (X.aR a scope (cellsFrom m scope.names cl) (own++fr) fp C b I) acc) fb)
  (hs:∀y,foldedSetIterable i0 X.env y=pure y:=by intro _;rfl) :
  DE X E (.ListComp elt (⟨t0,i0,h,0⟩::i) scope pos) (λk=>fi k>>=λit=>dG (cT fg ft fb it (aV own.length js k) [])>>=λp=>o.run p.2):=
 ⟨Af LO.list (.inl ⟨_,_,_,_,rfl⟩) rfl hc T l d n f q ht (λZ Z Z Z Z Z Z Z Z=>r _ _ _ _ _ _ _ _ _ (.head _)) hs (λQ acc H2 t lf Mf H4 u o' v x z U j ⟨ys,e,c⟩ g=>o.fin v x z U (e▸j) c g) (eval_ListComp ..)⟩
def cV{cl:A9}{own:C3}{js:C0}{fr:C3}{d:B8}{fi:aj->DM XG}{fg:D->aj->DM aj}{ft:aj->DM Bool}{fe:aj->DM D}
  (o:My) (hc:X.calm=true) (T:WO X scope cl own js fr) (i:DI X E t0 i0 fi)
  (j:∀a m fp C b I,DG (X.aR a scope (cellsFrom m scope.names cl) (own++fr) fp C b I) E0 t0 fg) (ht:∀a m fp C b I,NW (X.aR a scope (cellsFrom m scope.names cl) (own++fr) fp C b I) E0 d ft)
  (k:∀a m fp C b I,DE (X.aR a scope (cellsFrom m scope.names cl) (own++fr) fp C b I) E0 elt fe)
  (hs:∀y,foldedSetIterable i0 X.env y=pure y:=by intro _;rfl) :
  DE X E (.ListComp elt [⟨t0,i0,d,0⟩] scope pos) (λe=>fi e>>=λit=>dG (cT fg ft (cL fe) it (aV own.length js e) [])>>=λp=>o.run p.2):=
 LR (bodyK:=λY c=>vV elt (.ref c) Y.env) (W:=λY c P s=>wpAny (model Y.prog Y.w) Y.A (eval elt Y.env) (λx f=>wpAny (model Y.prog Y.w) Y.A (call (.builtin "list.append") [.ref c,x]) (λv g=>P g) (λv v=>False) f) (λv v=>False) s) o hc T i
  (λY it c=>Qi ..) (λY c=>IW) (λY c P O s l h=>Zh h (λx f n=>Zh n (λv g q=>l _ q) λv v z=>z) λv v z=>z) j ht (λa m fp C b I c=>Ei rfl (k ..)) hs
noncomputable def dA:D->Option (Bool×List D)
 |.tup l=>some (true,l)
 |.lst l=>some (false,l)
 |_=>none
noncomputable def N1:List D->List D->List D
 |x::xs,y::ys=>.tup [x,y]::N1 xs ys
 |_,_=>[]
def Xw:List D->Option XG
 |[x,y]=>match dA x,dA y with
   |some (_,l),some (_,m)=>some (.fix (N1 l m))
   |_,_=>none
 |_=>none
section
variable{mg:A4}{ρ:Rh}{H:Hp}
def Tw{K:B0}{x:V}{d:D}{b:Bool}{l:List D}(c:Cv mg ρ H x d)(e:dA d=some (b,l)):∃a xs,x=.ref a/\a∉ρ/\H a=some (if b then .tup xs else .lst xs)/\ZE mg ρ H xs l:=by
 cases c with
 |tup n h c=>cases e;exact⟨_,_,rfl,n,h,c⟩
 |lst n h c=>cases e;exact⟨_,_,rfl,n,h,c⟩
 |_=>cases e
def Qc{K:B0}{b:Bool}{a:Addr}{xs:List V}(h:H a=some (if b then .tup xs else .lst xs)):zV b K H a xs:=by
 cases b with
 |true=>exact XO.of h
 |false=>exact XI.of h
def ne_if:∀φ,(if b=true then HO.tup xs else HO.lst ys)≠HO.ext φ:=by cases b<;>nofun
end
structure NN(K:B0)(mg:A4)(ns:C3)(F:Addr):Prop where
 cls:∀a∈ns,∃C,Db K mg a C/\Nw K C/\SS K C F
 mI:∀a∈ns,∀b∈ns,∀C D,mg a=some (.ref C)->mg b=some (.ref D)->W.kitOne K (.ref C) (.ref D)=some (a==b)
def Mw{P:C5}{w:World}{K:B0}{mg:A4}{base:Heap}{N:C3}{c:Str}{a:Scope}{f:Addr}{g:Value}{A:Around}{b:C4}{s:Shared}{H:Hp}{E:XK}{ns:C3}{F:Addr}{x:Str}{n af pos:Pos}{e:Expr}{fe:aj->DM D}
  (T:NN K mg ns F) (o:x∈ns) (q:DE (bQ P w K mg base N c a f g A b s H E) E e fe)
  (t:autoParam (Gl (bQ P w K mg base N c a f g A b s H E) x) qAA) (hd:autoParam ((x==("__debug__":Str))=false) qAB)
  (i:autoParam (starEach [e] (bQ P w K mg base N c a f g A b s H E).env=[(false,eval e (bQ P w K mg base N c a f g A b s H E).env)]) qAA) :
  DS (bQ P w K mg base N c a f g A b s H E) E (.Raise (some (.Call (.Name x n) [e] [] af)) none pos) (λk=>fe k>>=λZ=>MU x):=by
 obtain⟨C,m,_,_⟩:=T.cls x o;refine⟨PS.mono (L2.Oi m q.h t hd i) λD σ H h=>?_⟩
 obtain⟨u,k,M,y,j,z⟩:=h;refine⟨u,k,M,y,j,z.bind λl I M1 v d e1 O c1 U=>⟨rfl,?_⟩⟩
 obtain⟨r,er,p⟩:=U;cases er;exact p l I C .refl O m.at_
def Ev.forget(h:Ev mg ρ H σ δ):Ev mg ρ H (σ.set i none) (δ.set i none):=by
 refine⟨by rw[OZ,OZ,h.len],λj x q=>?_⟩
 by_cases e:j=i
 ·subst e;have a:j<(δ.set j none).length:=(YJ.mp q).1;rw[OZ]at a;rw[Zr a]at q;cases q
 ·rw[Zz (λz=>e z.symm)]at q ⊢
  exact h.val j x q
def N6(i:Nat):Fl->DM Fl
 |.nx a=>pure (.nx (a.set i none))
 |.bk a=>pure (.bk (a.set i none))
 |.ct a=>pure (.ct (a.set i none))
 |.rt d=>pure (.rt d)
def rZ(ns:C3)(n i:Nat)(fb:aj->DM Fl)(fh:Str->aj->DM Fl)(a:aj):DM Fl:=λM=>match fb a M with
 |some (.exc c,I)=>if ns.contains c then(dG (fh c ((List.replicate n none).set i (some (.dP 0))))>>=N6 i) I else none
 |r=>r
noncomputable def YB(ns:C3)(c:Str):List D->Mo->Option D
 |[.dP _,.cls k],_=>if ns.contains k then some (.bl (c==k))else none
 |_,_=>none
def VN(a:α)(f:α->DM β):((Pure.pure a:DM α)>>=f)=f a:=rfl
def Xh(a:α):(opt (some a):DM α)=Pure.pure a:=rfl
def VM(m:DM α)(f:α->DM β)(g:β->DM γ):(m>>=f)>>=g=m>>=λa=>f a>>=g:=by
 funext M;show DM.bind (DM.bind m f) g M=DM.bind m (λa=>DM.bind (f a) g) M
 unfold DM.bind;cases m M with
 |none=>rfl
 |some r=>obtain⟨r,I⟩:=r;cases r<;>rfl
section
variable{X:Cx}{E:XK}{a b c:Expr}{fa fb fc:aj->DM D}{pos:Pos}
def UI:List D->Option (List Bool)
 |[]=>some []
 |.bl b::l=>(UI l).map (b::·)
 |_=>none
theorem uH:∀{xs:List V}{l:List D}{bs:List Bool},ZE mg ρ H xs l->UI l=some bs->xs=bs.map V.bl
 |_,_,_,.nil,e=>by cases e;rfl
 |_,_,_,.cons (d:=d) c cs,e=>by
   cases d with
   |bl i=>obtain⟨f,h1,rfl⟩:=YM.mp e;cases c;rw[uH cs h1];rfl
   |_=>cases e
def SM:D->List D->DM D
 |x,[.bl b]=>rd λM=>(aU x M).bind λl=>(UI l).map λbs=>.int (bs.countP (·== b):Nat)
 |_,_=>stuck
def JF:Dw X E "list.count" SM:=by
 intro aC s σ H x xs v us Q I rx rs q;obtain⟨ρ,M,d,ds,j,cx,cs,g⟩:=q;cases cs with
 |nil=>obtain⟨r,e,_⟩:=g;cases e
 |cons c cs=>cases cs with
   |cons _ _=>obtain⟨r,e,_⟩:=g;cases c<;>cases e
   |nil=>cases c with
     |bl b=>obtain⟨d',e,p⟩:=Go.rd g;obtain⟨l,h1,e1⟩:=Y7.mp e;obtain⟨bs,h2,rfl⟩:=YM.mp e1;obtain⟨a,ys,rfl,ha,cl⟩:=cR j cx h1;have:=uH cl h2;subst this;exact Ny (X:=X) aC s σ H _ _ v us Q I rx rs ⟨a,bs,b,rfl,rfl,ha,p ρ H _ .refl j (.int _)⟩
     |_=>obtain⟨r,e,_⟩:=g;cases e
def P9(b:Bool):List Bool->Option Nat
 |[]=>none
 |c::l=>if c==b then some 0 else(P9 b l).map (·+ 1)
set_option tactic.hygienic true in
theorem vX{b:Bool}:∀{l:List Bool}{n:Nat},P9 b l=some n->l[n]?=some b/\∀m c,m<n->l[m]?=some c->(c==b)=false
 |[],n,h=>by cases h
 |c::l,n,h=>by
   unfold P9 at h;split at h
   ·rename_i hc;cases h;exact⟨by rw[JU.mp hc];rfl,λm c hm=>absurd hm (Nat.not_lt_zero _)⟩
   ·rename_i hc;obtain⟨k,h1,rfl⟩:=YM.mp h;obtain⟨a1,a2⟩:=vX h1;refine⟨by simpa using a1,λm c' hm e=>?_⟩
    cases m with
    |zero=>simp at e;subst e;simpa using hc
    |succ m=>exact a2 m c' (by lia) (by simpa using e)
def TQ:D->List D->DM D
 |x,[.bl b]=>rd λM=>(aU x M).bind λl=>(UI l).bind λbs=>(P9 b bs).bind λn=>if n<1000 then some (.int (n:Nat))else none
 |_,_=>stuck
set_option tactic.hygienic true in
def JG:Dw X E "list.index" TQ:=by
 intro aC s σ H x xs v us Q I rx rs q;obtain⟨ρ,M,d,ds,j,cx,cs,g⟩:=q;cases cs with
 |nil=>obtain⟨r,e,_⟩:=g;cases e
 |cons c cs=>cases cs with
   |cons _ _=>obtain⟨r,e,_⟩:=g;cases c<;>cases e
   |nil=>cases c with
     |bl b=>
       obtain⟨d',e,p⟩:=Go.rd g;obtain⟨l,h1,e1⟩:=Y7.mp e;obtain⟨bs,h2,e2⟩:=Y7.mp e1;obtain⟨n,h3,e3⟩:=Y7.mp e2;split at e3
       ·rename_i hn;cases e3;obtain⟨a,ys,rfl,ha,cl⟩:=cR j cx h1;have:=uH cl h2;subst this;obtain⟨f1,f2⟩:=vX h3;exact Nz (X:=X) aC s σ H _ _ v us Q I rx rs ⟨a,bs,b,n,rfl,rfl,ha,f1,f2,hn,p ρ H _ .refl j (.int _)⟩
       ·cases e3
     |_=>obtain⟨r,e,_⟩:=g;cases e
end
set_option tactic.hygienic true in
theorem jr:∀{names:List (Str×NameKind)}{m:Nat}{y:Str}{c:Addr},(y,c)∈cellsFrom m names []->(y,NameKind.cell)∈names
 |[],_,_,_,h=>nomatch h
 |(n,k)::r,m,y,c,h=>by
   unfold cellsFrom at h;split at h
   ·rename_i b;rw[cO]at h;rcases Zb.mp h with z|z
    ·exact .tail _ (jr z)
    ·cases Zi.mp z;have a:k=.cell:=by cases k<;>first|rfl|cases b
     rw[a];exact .head _
   ·exact .tail _ (jr h)
def FL:NameKind->Bool
 |.cell=>true
 |_=>false
def TX(h:FL k=true):k=.cell:=by cases k<;>first|rfl|cases h
set_option tactic.hygienic true in
def Q9(h:(names.all λp=>!FL p.2||(match names.lookup p.1 with|some k=>FL k|none=>false))=true):∀(m:Nat) y c,(cellsFrom m names []).lookup y=some c->names.lookup y=some .cell:=λm y c e=>by
 have a:=jr (L6 e);have q:=Kk.mp h _ a;simp only[FL,Bool.not_true,Bool.false_or]at q;split at q
 ·rename_i k b;rw[b,TX q]
 ·cases q
def Ra{cl:A9}{names:List (Str×NameKind)}(h:zW (λp=>(match names.lookup p.1 with|some k=>FL k|none=>false)=false) cl):∀y c,cl.lookup y=some c->names.lookup y≠some .cell:=λy c e z=>by have:=o5 h (y,c) (L2.mem_of_lookup e);simp only[z,FL]at this;cases this
end L3
namespace L3
open L2
@[simp] theorem az(a:α)(f:α->DM β):((Pure.pure a:DM α)>>=f)=f a:=id rfl
@[simp] theorem aH(m:DM α)(f:α->DM β)(g:β->DM γ):(m>>=f)>>=g=m>>=λa=>f a>>=g:=VM m f g
@[simp] theorem jm(a:α):(opt (some a):DM α)=Pure.pure a:=id rfl
@[simp] theorem PP(a:α):dG (Pure.pure a:DM α)=Pure.pure a:=id rfl
@[simp] theorem Xz(c:Str)(f:α->DM β):((MU c:DM α)>>=f)=MU c:=id rfl
def b7{α:Type}{f:Mo->Option α}{a:α}(h:∀M,f M=some a):(rd f:DM α)=Pure.pure a:=by funext M;show(f M).map _=_;rw[h M];rfl
@[simp] theorem PQ(f g:aj->DM Fl)(a:aj):nQ f g a=f a>>=λr=>match r with
 |.nx δ'=>g δ'
 |r=>Pure.pure r:=id rfl
@[simp] theorem bD(i:Nat)(a:aj):cF i a=opt ((a[i]?).join):=id rfl
@[simp] theorem dI(b:Bool):jG (.bl b)=Pure.pure b:=id rfl
@[simp] theorem J6(p n:Nat)(fb:aj->DM Fl)(ds:List D):aD p n fb ds=if ds.length=p then fb (bu n ds)>>=λr=>match r with
 |.nx _=>Pure.pure .aT
 |.rt d=>Pure.pure d
 |_=>stuck else stuck:=id rfl
@[simp] theorem XC(n:Nat)(ds:List D):bu n ds=ds.map some++List.replicate (n-ds.length) none:=id rfl
@[simp] theorem lD(i:Nat)(d:D)(a:aj):gN i d a=Pure.pure (a.set i (some d)):=id rfl
@[simp] theorem YD(n:Nat)(a:List D->aj->DM aj)(l:List D)(b:aj):gT n a (.tup l) b=if l.length=n then a l b else stuck:=id rfl
@[simp] theorem Yv(f:D->aj->DM aj)(a:List D->aj->DM aj)(d:D)(l:List D)(b:aj):eG f a (d::l) b=f d b>>=λδ'=>a l δ':=id rfl
@[simp] theorem Yw(δ:aj):lZ [] δ=Pure.pure δ:=id rfl
@[simp] theorem Ws(i j:Nat)(b:aj->DM (List D))(a:aj):xM i j b a=b a>>=λl=>match l with
 |[v,w]=>Pure.pure (.nx ((a.set i (some v)).set j (some w)))
 |_=>stuck:=id rfl
@[simp] theorem Wk(i j:Int):(rd (eZ (.int i) (.int j)):DM D)=Pure.pure (.int (i+j)):=id rfl
@[simp] theorem PX(i j:Int):(rd (Vr (.int i) (.int j)):DM D)=Pure.pure (.int (i-j)):=id rfl
@[simp] theorem Xp(i j:Int):(rd (Uh (.int i) (.int j)):DM D)=Pure.pure (.bl (decide (i<j))):=id rfl
@[simp] theorem Xo(i j:Int):(rd (Et (.int i) (.int j)):DM D)=Pure.pure (.bl (decide (i<=j))):=id rfl
@[simp] theorem Xn(i j:Int):(rd (uq (.int i) (.int j)):DM D)=Pure.pure (.bl (decide (j<i))):=id rfl
@[simp] theorem Xm(i j:Int):(rd (Jh (.int i) (.int j)):DM D)=Pure.pure (.bl (decide (j<=i))):=id rfl
@[simp] theorem Wr(i:Int):(rd (NB (.int i)):DM D)=Pure.pure (.int (-i)):=id rfl
@[simp] theorem Yr(i:Int):(rd (W8 [.int i]):DM D)=Pure.pure (.int (if i<0 then -i else i)):=id rfl
@[simp] theorem Yj(i j:Int):(rd (GR [.int i,.int j]):DM D)=Pure.pure (.int (if j>i then j else i)):=id rfl
@[simp] theorem Yk(i j:Int):(rd (Wb [.int i,.int j]):DM D)=Pure.pure (.int (if j<i then j else i)):=id rfl
def Wo{i j:Int}(h:0<j):(rd (jw (.int i) (.int j)):DM D)=Pure.pure (.int (i%j)):=b7 λM=>by simp[dj,h]
def Hf{i j:Int}(h:gA i j=true):(rd (uV (.int i) (.int j)):DM D)=Pure.pure (.int (i*j)):=b7 λM=>by simp[dj,h]
def Cg{i j:Int}(h:lY i j=true):(rd (jb (.int i) (.int j)):DM D)=Pure.pure (.int (i / j)):=b7 λM=>by simp[dj,h]
def Wt{i j:Int}(h:PL i j=true):(rd (Oh (.int i) (.int j)):DM D)=Pure.pure (.int (i^j.toNat)):=b7 λM=>by simp[dj,h]
set_option tactic.hygienic true in
def PZ(h:i.natAbs<2^n):Builtin.Int.intBits i<=n:=by
 unfold Builtin.Int.intBits;split
 ·exact Z8 _
 ·rename_i a;have:i.natAbs≠0:=by intro z;apply a;simp;lia
  exact(Nat.log2_lt this).mpr h
def Xx(h:i.natAbs<2^64):gA i j=true:=by
 unfold gA;have:¬(Builtin.Int.intBits i>shortFactorBits):=by have:=PZ h;unfold shortFactorBits;lia
 simp[this]
def Q7(h:j.natAbs<2^64):gA i j=true:=by
 unfold gA;have:¬(Builtin.Int.intBits j>shortFactorBits):=by have:=PZ h;unfold shortFactorBits;lia
 simp[this]
def Qy(c:0<j)(h:j.natAbs<2^1000):lY i j=true:=by
 unfold lY;have a:Builtin.divisionGoesByPylong i j=false:=by
  unfold Builtin.divisionGoesByPylong;have d:j.natAbs≠0:=by lia
  have e:j.natAbs.log2<1000:=(Nat.log2_lt d).mpr h;have b:(j==0)=false:=by simp;lia
  simp only[b];have:¬(j.natAbs.log2 / 30+1>300):=by lia
  simp[this]
 simp[a,c]
def Ck{a b:Nat}(c:0<b):(rd (jw (.int (a:Int)) (.int (b:Int))):DM D)=Pure.pure (.int ((a%b:Nat):Int)):=by rw[Wo (by lia),Int.natCast_emod]
noncomputable def nD(n:Nat):D:=.int (n:Int)
def nT(l:C0):D:=.tup (l.map nD)
def qH{α:Type}{l:List α}{i:Nat}{a:α}(h:l[i]?=some a):TM l (i:Int)=some a:=by
 have b:=(YJ.mp h).1;unfold TM RY;rw[YK (by lia),YK (by lia)]
 simpa using h
def Hb{l:List D}{i:Nat}{a:D}(h:l[i]?=some a):(rd (fD (.tup l) (.int (i:Int))):DM D)=Pure.pure a:=b7 λM=>qH h
def Ha{l:List D}{i:Nat}{a:D}(h:l[i]?=some a):(rd (fD (.lst l) (.int (i:Int))):DM D)=Pure.pure a:=b7 λM=>qH h
def Wn{l:C0}{i:Nat}{a:Nat}(h:l[i]?=some a):(rd (fD (nT l) (.int (i:Int))):DM D)=Pure.pure (nD a):=Hb (by simp[h])
@[simp] theorem Yi(l:List D):(rd (ju [.tup l]):DM D)=Pure.pure (.int (l.length:Int)):=id rfl
@[simp] theorem U8(l:List D):(rd (ju [.lst l]):DM D)=Pure.pure (.int (l.length:Int)):=id rfl
@[simp] theorem Yh(l:C1):(rd (ju [.eB l]):DM D)=Pure.pure (.int (l.length:Int)):=id rfl
@[simp] theorem Kf(l:List D):(rd (sy [.lst l]):DM D)=Pure.pure (.tup l):=id rfl
@[simp] theorem Yo(l:List D):(rd (sy [.tup l]):DM D)=Pure.pure (.tup l):=id rfl
theorem pD:∀l:C1,YA (l.map D.int)=some l
 |[]=>rfl
 |i::l=>by simp[YA,pD l]
theorem mj:∀l:C0,YA (l.map nD)=some (l.map λn:Nat=>(n:Int))
 |[]=>rfl
 |i::l=>by simp[YA,nD];exact mj l
theorem vA:∀l:C0,(l.map λn:Nat=>(n:Int)).sum=((l.sum:Nat):Int)
 |[]=>rfl
 |i::l=>by simp[vA l]
@[simp] theorem Yn(l:C0):(rd (Hr [nT l]):DM D)=Pure.pure (nD l.sum):=b7 λM=>by show(YA (l.map nD)).map _=_;rw[mj];simp[nD,vA]
@[simp] theorem Ym(l:C0):(rd (Hr [.lst (l.map nD)]):DM D)=Pure.pure (nD l.sum):=b7 λM=>by show(YA (l.map nD)).map _=_;rw[mj];simp[nD,vA]
@[simp] theorem Kd{n:Nat}(h:n<2^62):vf [.int (n:Int)]=some (.fix ((List.range n).map nD)):=by
 have:pM (n:Int)=true:=by unfold pM;exact Zg ⟨by lia,by lia⟩
 simp[vf,this,pL,nD]
@[simp] theorem Ys(l:List D):jH (.tup l)=some (.fix l):=id rfl
def Hc(h:l.length<=1000000):Bp l=Pure.pure (.tup l):=by
 have:f9 l=true:=by unfold f9;exact Zg (by show l.length<=2^24;lia)
 simp[Bp,this]
def jR(h:l.length<=1000000):qj l=Pure.pure (.lst l):=by
 have:f9 l=true:=by unfold f9;exact Zg (by show l.length<=2^24;lia)
 simp[qj,this]
@[simp] theorem iT(fg:D->aj->DM aj)(ft:aj->DM Bool)(fb:aj->List D->DM (aj×List D))(ds:List D)(a:aj)(l:List D):cT fg ft fb (.fix ds) a l=bM fg ft fb ds a l:=id rfl
theorem uT(S:aj->Prop)(en:D->aj)(p:D->Bool)(e:D->D):∀(ds:List D) (f:aj) (l:List D),S f->l.length+ds.length<=1000000->
  (∀d∈ds,∀f,S f->fg d f=Pure.pure (en d)/\S (en d))->(∀d∈ds,ft (en d)=Pure.pure (p d))->(∀d∈ds,p d=true->fe (en d)=Pure.pure (e d))->∃δ',bM fg ft (cL fe) ds f l=Pure.pure (δ',l++(ds.filter p).map e)
 |[],f,l,_,_,_,_,_=>⟨f,by simp[bM]⟩
 |d::ds,f,l,s,hl,i,h1,h2=>by
   have a:=i d (Zd ..) f s;have b:=h1 d (Zd ..);have g:l.length+(ds.length+1)<=1000000:=by simpa using hl
   have k:l.length<sizeLine:=by show l.length<2^24;lia
   have j:=λm g=>uT S en p e ds (en d) m a.2 g (λx h=>i x (Zq _ h)) (λx h=>h1 x (Zq _ h)) (λx h=>h2 x (Zq _ h))
   by_cases hp:p d=true
   ·have c:=h2 d (Zd ..) hp;obtain⟨δ',q⟩:=j (l++[e d]) (by simp;lia)
    refine⟨δ',?_⟩;simp[bM,a.1,b,hp,cL,c,k,q]
   ·obtain⟨δ',q⟩:=j l (by lia)
    refine⟨δ',?_⟩;simp[bM,a.1,b,hp,q]
@[simp] theorem rJ(l:List D):My.run .val l=Pure.pure (.lst l):=id rfl
def Pg{ft:aj->DM Bool}{fe:aj->DM D}{x:Option D}{rest:aj}{ds:List D}(p:D->Bool)(e:D->D)(hl:ds.length<=1000000)(h1:∀d∈ds,ft (some d::rest)=Pure.pure (p d))(h2:∀d∈ds,p d=true->fe (some d::rest)=Pure.pure (e d)){a:Type}{k:aj×List D->DM a}{k':List D->DM a}(c:∀q,k q=k' q.2):
  (dG (bM (gN 0) ft (cL fe) ds (x::rest) [])>>=k)=k' ((ds.filter p).map e):=by
 obtain⟨f,q⟩:=uT (fg:=gN 0) (ft:=ft) (fe:=fe) (λb=>∃x,b=x::rest) (λd=>some d::rest) p e ds (x::rest) [] ⟨x,rfl⟩ (by simpa using hl) (λd _ b ⟨x,h⟩=>⟨by subst h;rfl,_,rfl⟩) h1 h2
 rw[q];simp[c]
@[simp] theorem Xy(m:DM α):(m>>=λa=>(Pure.pure a:DM α))=m:=by
 funext M;show DM.bind m _ M=m M;unfold DM.bind;cases m M with
 |none=>rfl
 |some r=>obtain⟨r,I⟩:=r;cases r<;>rfl
def pF:Option D->List D->Option D
 |x,[]=>x
 |_,d::ds=>pF (some d) ds
theorem gM:∀(as bs:C1),PyData.eqvAll (as.map .int) (bs.map .int)=decide (as=bs)
 |[],[]=>by simp[PyData.eqvAll]
 |[],b::bs=>by simp[PyData.eqvAll]
 |a::as,[]=>by simp[PyData.eqvAll]
 |a::as,b::bs=>by rw[Zj,Zj];simp only[PyData.eqvAll,PyData.eqv,gM as bs];by_cases h:a=b<;>by_cases h2:as=bs<;>simp[h,h2]
theorem fU:∀l:C1,gC (l.map D.int)=some (l.map PyData.int)
 |[]=>rfl
 |i::l=>by simp[gC,XT,fU l]
theorem XB:∀l:C1,PyData.canLayAll0 (l.map PyData.int)=true
 |[]=>rfl
 |i::l=>by simp[PyData.canLayAll0,PyData.canLay0,XB l]
theorem fM:∀l:C1,PyData.depthAll (l.map PyData.int)<=1
 |[]=>by simp[PyData.depthAll]
 |i::l=>by
   have:=fM l;simp only[List.map_cons,PyData.depthAll,PyData.depth]
   lia
@[simp] theorem PN(i j:Int):(rd (cM (.int i) (.int j)):DM D)=Pure.pure (.bl (decide (i=j))):=b7 λM=>by simp[cM,UR,Na,XT,PyData.canLay0,PyData.depth,PyData.eqv];rw[Zf];simp
@[simp] theorem Wq(i j:Int):(rd (jh (.int i) (.int j)):DM D)=Pure.pure (.bl (!decide (i=j))):=b7 λM=>by simp[jh,UR,Na,XT,PyData.canLay0,PyData.depth,PyData.eqv];rw[Zf];simp
@[simp] theorem Yu(i j:Str):(rd (cM (.str i) (.str j)):DM D)=Pure.pure (.bl (decide (i=j))):=id rfl
@[simp] theorem Yy(i j:Str):(rd (jh (.str i) (.str j)):DM D)=Pure.pure (.bl (!decide (i=j))):=id rfl
def Am(a b:C1):UR (.tup (a.map D.int)) (.tup (b.map D.int))=some (decide (a=b)):=by
 have:=fM a;have h:∀n,n<=1->1+n<=60:=λn h=>by lia
 simp only[UR,Na,XT,fU,Option.map_some,PyData.canLay0,XB,PyData.depth,PyData.eqv,gM];simp
 lia
def oK(l:C0):nT l=.tup ((l.map λn:Nat=>(n:Int)).map D.int):=by simp[nT,nD,Function.comp_def]
def iG{a b:C0}:(a.map λn:Nat=>(n:Int))=(b.map λn:Nat=>(n:Int))↔a=b:=BU λx y (h:(x:Int)=(y:Int))=>by lia
@[simp] theorem Yt(a b:C0):(rd (cM (nT a) (nT b)):DM D)=Pure.pure (.bl (decide (a=b))):=b7 λM=>by rw[oK,oK,cM,Am];simp[iG]
@[simp] theorem Yx(a b:C0):(rd (jh (nT a) (nT b)):DM D)=Pure.pure (.bl (!decide (a=b))):=b7 λM=>by rw[oK,oK,jh,Am];simp[iG]
theorem Ge:∀l:List Bool,iy (l.map D.bl)=some l
 |[]=>rfl
 |b::l=>by simp[iy,Ou,Ge l]
@[simp] theorem Ca(l:List Bool):(rd (uD [.lst (l.map D.bl)]):DM D)=Pure.pure (.bl (l.all id)):=b7 λM=>by simp[uD,aU,Ge]
theorem K6:∀l:C0,iy (l.map nD)=some (l.map λn=>n != 0)
 |[]=>rfl
 |b::l=>by simp only[List.map_cons,iy,K6 l,nD,Ou];congr 2;rw[Zf];simp
@[simp] theorem Yg(l:C0):(rd (Gn [nT l]):DM D)=Pure.pure (.bl (l.any (·!= 0))):=b7 λM=>by simp[Gn,nT,K6,List.any_map]
theorem wZ:∀l:C0,l.any (·!= 0)=decide (0<l.sum)
 |[]=>rfl
 |a::l=>by
   rw[EX,wZ l,Zf];simp only[Bool.or_eq_true,bne_iff_ne,decide_eq_true_eq,ne_eq];rw[FE]
   lia
def wI(h:∀M,RA d M=some t)(hc:KU.contains c=true):(rd (jt [d,.ty c]):DM D)=Pure.pure (.bl (Hq t c)):=b7 λM=>by simp only[jt,h M,Option.bind_some,hc,if_true]
@[simp] theorem wK(b:Bool):(rd (jF (.bl b)):DM Bool)=Pure.pure b:=id rfl
@[simp] theorem Yp(l m:List D):Xw [.tup l,.tup m]=some (.fix (N1 l m)):=id rfl
def Rn{α:Type}(m:DM α)(M:Mo)(Q:α->Mo->Prop):Prop:=∃a I,m M=some (.ok a,I)/\Q a I
theorem Rn.bind(h:Rn m M Q1)(k:∀a M',Q1 a M'->Rn (f a) M' Q):Rn (m>>=f) M Q:=by obtain⟨a,M',e,q⟩:=h;obtain⟨b,I,c,d⟩:=k a M' q;refine⟨b,I,?_,d⟩;show DM.bind m f M=_;unfold DM.bind;rw[e];exact c
theorem Rn.pure(q:Q a M):Rn (Pure.pure a) M Q:=⟨a,M,rfl,q⟩
def Rn.mono{α:Type}{m:DM α}{Q R:α->Mo->Prop}(h:Rn m M Q)(k:∀a M',Q a M'->R a M'):Rn m M R:=by obtain⟨a,M',e,q⟩:=h;exact⟨a,M',e,k a M' q⟩
theorem Rn.rd(h:f M=some a)(q:Q a M):Rn (L3.rd f) M Q:=⟨a,M,by unfold L3.rd;rw[h];rfl,q⟩
def Rn.aS(a:α)(h:f M=some a)(q:Rn (k a) M Q):Rn (L3.rd f>>=k) M Q:=Rn.bind (Rn.rd h (Q:=λb I=>b=a/\I=M) ⟨rfl,rfl⟩) (λb I ⟨c,d⟩=>by rw[c,d];exact q)
def Rn.call(a:ds.length=p)(h:Rn (fb (bu n ds)) M λr M'=>∃d,r=.rt d/\Q d M'):Rn (aD p n fb ds) M Q:=by
 unfold aD;rw[YK a];refine Rn.bind h λr M' ⟨d,e,q⟩=>?_
 subst e;exact Rn.pure q
structure Sb(p:Nat)(M M':Mo):Prop where
 le:M.length<=M'.length
 keep:∀q,q≠p->q<M.length->M'[q]?=M[q]?
def Sb.refl:Sb p M M:=⟨YL _,λz z z=>rfl⟩
theorem Sb.trans(h:Sb p M M1)(k:Sb p M1 M2):Sb p M M2:=⟨Zx h.le k.le,λq a b=>(k.keep q a (Y0 b h.le)).trans (h.keep q a b)⟩
theorem Sb.set:Sb p M (M.set p o):=⟨by simp,λq a b=>Zz (λz=>a z.symm)⟩
def Sb.push:Sb p M (M++[o]):=⟨by simp,λq b a=>Y9 a⟩
def Sb.at(h:Sb p M M')(a:q≠p)(e:M[q]?=some o):M'[q]?=some o:=(h.keep q a (YJ.mp e).1).trans e
def Sb.new(h:M'.length=M.length\/M.length<=M'.length)(c:M.length<=q)(k:Sb q M' M2)(h1:Sb p M M'):Sb p M M2:=⟨Zx h1.le k.le,λr b a=>(k.keep r (by lia) (Y0 a h1.le)).trans (h1.keep r b a)⟩
def Q3(h:l.length<=1000000):gZ l M=some (.ok (.ref M.length),M++[.lst l]):=by
 have:f9 l=true:=by unfold f9;exact Zg (by show l.length<=2^24;lia)
 unfold gZ;rw[YK this]
theorem Rn.gZ(h:l.length<=1000000)(q:Rn (k (.ref M.length)) (M++[.lst l]) Q):Rn (L3.gZ l>>=k) M Q:=Rn.bind ⟨_,_,Q3 h,(⟨rfl,rfl⟩:D.ref M.length=.ref M.length/\M++[.lst l]=M++[.lst l])⟩ (Q1:=λa I=>a=.ref M.length/\I=M++[.lst l]) (λa I ⟨b,c⟩=>by rw[b,c];exact q)
def rn{n:Nat}{l:List D}{i:Nat}(h:M[n]?=some (.lst l))(b:l[i]?=some a):fD (.ref n) (.int (i:Int)) M=some a:=by show(aU (.ref n) M).bind _=_;simp only[aU,h,Option.bind_some];exact qH b
def Jq(h:i<n):RY n (i:Int)=some i:=by unfold RY;rw[YK (by lia),YK (by lia)];simp
def oY{n:Nat}{l:List D}{i:Nat}(h:M[n]?=some (.lst l))(a:i<l.length):Hk (.ref n) (.int (i:Int)) v M=some (.ok (),M.set n (.lst (l.set i v))):=by delta Hk;dsimp only;rw[h];dsimp only;rw[Jq a]
def DK(h:M[n]?=some (.lst l))(hl:l.length<1000000):Lp (.ref n) [v] M=some (.ok .aT,M.set n (.lst (l++[v]))):=by
 have:l.length<sizeLine:=by show l.length<2^24;lia
 delta Lp;dsimp only;rw[h];dsimp only;rw[YK this]
def Rn.run(h:m M=some (.ok a,M'))(q:Rn (k a) M' Q):Rn (m>>=k) M Q:=Rn.bind (Q1:=λb I=>b=a/\I=M') ⟨a,M',h,rfl,rfl⟩ (λb I ⟨c,d⟩=>by rw[c,d];exact q)
theorem cD(I:Nat->aj->Mo->Prop):∀(ds:List D) (i:Nat) (a:aj) (M:Mo),I i a M->(∀j d a M,ds[j]?=some d->I (i+j) a M->Rn (tg d a >>= fb) M λr M'=>∃δ',r=.nx δ'/\I (i+j+1) δ' M')->Rn (XA tg fb ds a) M λr M'=>∃δ',r=.nx δ'/\I (i+ds.length) δ' M'
 |[],i,a,M,h,_=>Rn.pure ⟨a,rfl,h⟩
 |d::ds,i,a,M,h,st=>by
   have s:=st 0 d a M rfl h;have e:XA tg fb (d::ds) a=(tg d a>>=fb)>>=λr=>match r with
    |.nx b=>XA tg fb ds b
    |.ct b=>XA tg fb ds b
    |.bk b=>Pure.pure (.nx b)
    |.rt d=>Pure.pure (.rt d):=by rw[aH];rfl
   rw[e];refine Rn.bind s λr M' ⟨δ',e,c⟩=>?_
   subst e;have f:=cD I ds (i+1) δ' M' c (λj d a M g k=>by
    have:=st (j+1) d a M (by simpa using g) (by rw[show i+(j+1)=i+1+j by lia];exact k)
    rw[show i+1+j+1=i+(j+1)+1 by lia];exact this)
   rw[show i+(d::ds).length=i+1+ds.length by simp;lia]
   exact f
section
variable{X:Cx}{E:XK}
def Ji:IY X (λx y H Q=>∃p xs i v,x=.ref p/\y=.int i/\0<=i/\XI X.K H p xs/\TM xs i=some v/\Q v H):=by
 intro a s f H x y ov iv Q I g k h;obtain⟨p,xs,i,z,rfl,rfl,d,l,m,q⟩:=h;cases g;obtain⟨t,rfl⟩:=k;obtain⟨n,r,pl,hz⟩:=I.list l;obtain⟨j,e,o,h3,h4,u⟩:=SY m;obtain⟨w,O,b⟩:=r.get o;have hl:=r.length;have hn:=VY;have c:EP X a f Q w s:=⟨z,H,I,b,q⟩;have U:i.toNat=j:=by rw[seqIndex_of d u]at e;exact Y4 e
 exact wpAny_getItem_list pl.isList d (by lia) (by rw[U];simpa using O) c
def T6:D->D->Mo->Option D
 |x,.int i,M=>if 0<=i then(aU x M).bind λl=>TM l i else none
 |_,_,_=>none
set_option tactic.hygienic true in
def V6:IY X (rD X.mg E (λx y=>rd (T6 x y))):=by
 intro b s f H x y g i Q I k m h;obtain⟨n,M,dx,dy,j,o,q,r⟩:=h;obtain⟨d,e,p⟩:=r.rd;unfold T6 at e;split at e
 ·cases q;split at e
  ·rename_i t;obtain⟨l,u,v⟩:=Y7.mp e;obtain⟨a,xs,rfl,z,c⟩:=cR j o u;obtain⟨w,O,U⟩:=c.at v;exact Ji (X:=X) b s f H _ _ g i Q I k m ⟨_,_,_,_,rfl,rfl,t,XI.of z,O,p n H _ .refl j U⟩
  ·cases e
 ·cases e
def QC(ho:DE X E o fo)(hi:DE X E i fi)(m:b8 X E (inplaceOp op) gop)(he:DE X E e fe)
  (ha:∀f g b,augStore i f g b=(do holding [b,f,g] (setItem f g b);release [b,f,g] [];pure .next):=by intros;rfl) :
  DS X E (.AugAssign (.Subscript o i ck) op e pos) (λc=>fo c>>=λa=>fi c>>=λk=>rd (T6 a k)>>=λx=>fe c>>=λy=>gop x y>>=λz=>Hk a k z>>=λZ=>pure (.nx c)):=
 ⟨PS.mono (LU (tip:=rD X.mg E gop) ho.h hi.h (V6 (E:=E)) he.h m (wQ (E:=E)) ha) fun D σ H h=>by
  obtain⟨ρ,c,M,n,j,g1⟩:=h;refine⟨ρ,c,M,n,j,g1.bind λp H1 M1 a O U j1 c1 g2=>⟨p,c,M1,n.mono U,j1,g2.bind λq H2 M2 k dk r j2 c2 g3=>⟨q,M2,O,dk,j2,c1.mono r,c2,g3.bind λs H3 M3 x dx t j3 c3 g4=>?_⟩⟩⟩
  have d:=((n.mono U).mono r).mono t;refine⟨s,c,M3,d,j3,g4.bind λu H4 M4 y dy l j4 c4 g5=>⟨u,M4,dx,dy,j4,c3.mono l,c4,g5.bind λv H5 M5 z dz w j5 c5 g6=>?_⟩⟩
  refine⟨v,M5,O,dk,dz,j5,(((c1.mono r).mono t).mono l).mono w,((c2.mono t).mono l).mono w,c5,g6.bind λI H6 M6 Z Z e6 j6 Z g7=>?_⟩
  exact g7.pure I H6 σ .refl j6 (((d.mono l).mono w).mono e6)⟩
end
end L3
namespace L3
open L2
open PyProof.Rows hiding St
def Ik:bootBuiltins "enumerate"=some (.type "enumerate"):=by decide +kernel
def gF(i:Nat):List D->List D
 |[]=>[]
 |x::xs=>.tup [.int (i:Int),x]::gF (i+1) xs
def ph:List D->Option XG
 |[x]=>(dA x).map λp=>.fix (gF 0 p.2)
 |_=>none
theorem xG:∀(l:List D) (k i:Nat),(gF k l)[i]?=(l[i]?).map λx=>.tup [.int ((k+i:Nat):Int),x]
 |[],k,i=>by simp[gF]
 |x::xs,k,0=>by simp[gF]
 |x::xs,k,i+1=>by simp only[gF,List.getElem?_cons_succ,xG xs (k+1) i];rw[show k+1+i=k+(i+1) by lia]
def QS{mg:A4}{ρ:Rh}{H:Hp}{K:B0}{b:Bool}{l:Addr}{xs:List V}{ds:List D}(h:l∉ρ)(h1:H l=some (if b then .tup xs else .lst xs))(c1:ZE mg ρ H xs ds):S3 mg ρ H (WW K b l) (.fix (gF 0 ds))where
 item:=λi g I O d e j q=>by
  have a:(gF 0 ds)[i]?=some d:=Y4 q;rw[xG]at a;obtain⟨r,n,rfl⟩:=YM.mp a;obtain⟨x,k,o⟩:=c1.get n;have m:=(e.keep _ _ h1 h ne_if).2;refine⟨⟨xs,x,Qc m,k⟩,λv U z=>?_⟩
  obtain⟨p,f,rfl,z⟩:=z;obtain⟨s,c,rfl⟩:=z xs (Qc m);rw[k]at c;cases c;rw[ZM];exact⟨.lay f,j.lay _ f,.tup (j.fresh f) ZT (.cons (.int _) (.cons ((o.kp e).mono (.lay f)) .nil))⟩
 stop:=λi g I O e j q=>by have a:(gF 0 ds)[i]?=none:=Y4 q;rw[xG,Option.map_eq_none_iff]at a;exact⟨xs,Qc (e.keep _ _ h1 h ne_if).2,Z0.mpr (by rw[c1.len];exact Z0.mp a)⟩
def tE(hg:Gl X "enumerate")(hm:X.mg "enumerate"=none)(ha:DA X E [a] fa)(hs:autoParam (ZH a=true) qAA):
  DI X E (.Tuple elts kt tp) (.Call (.Name "enumerate" p) [a] [] pos) (λδ=>fa δ>>=λl=>opt (ph l)):=⟨by
 intro aC s σ H R I h;obtain⟨ρ,δ,M,ev,j,g1⟩:=h;refine Call_ (X2 I hg hm Ik (ZR (YO (ha.h.h pos aC s σ H (λvs H1=>∃ρ1 M1 ds,YR ρ H ρ1 H1/\J X.mg ρ1 M1 H1/\ZE X.mg ρ1 H1 vs ds/\Go X.mg E (S3 X.mg) R ρ1 H1 (opt (ph ds)) M1) I ⟨ρ,δ,M,ev,j,g1.bind λρ1 H1 M1 vs ds e1 j1 c1 g2=>⟨ρ1,M1,ds,e1,j1,c1,g2⟩⟩) λus s1 h1=>?_) (aZ hs) (by rfl)))
 obtain⟨vs,H1,I1,rv,ρ1,M1,ds,e1,j1,c1,g2⟩:=h1;obtain⟨itn,ei,q⟩:=g2.opt;unfold ph at ei;split at ei;rotate_left
 ·cases ei
 obtain⟨⟨b,l⟩,f1,rfl⟩:=YM.mp ei;cases c1 with
 |cons k1 c1=>
 cases c1;obtain⟨a1,xs,rfl,n1,h1,cx⟩:=Tw (K:=X.K) k1 f1;cases rv with
 |cons r1 rv=>
 cases rv;cases r1;obtain⟨its1,w1,p1,_⟩:=I1.kq (Qc (K:=X.K) h1);refine Gs p1 λh' a1' a2' a3 a4=>wpAny_pyIter_enum a1' ?_
 have lt1:@LT.lt Nat _ a1 s1.z:=p1.lt;have I2:Inv X aC σ H1 {s1 with heap:=h'}:=I1.kept (t':=s1.toks) a4
 refine⟨_,_,_,_,H1,rfl,I2,K9 (b:=b) (e:=s1.z+1) (it:=s1.z) (l:=a1) (λ(h:@Eq Nat _ _)=>by lia) (λ(h:@Eq Nat _ _)=>by lia) (λ(h:@Eq Nat _ _)=>by lia),⟨⟨_,a1'⟩,a2'.1⟩,λb hb=>?_,q ρ1 H1 _ .refl j1 (QS n1 h1 cx)⟩
 refine I1.h9 ?_ (I1.aI.fresh ?_)<;>(simp only[List.mem_cons,List.mem_nil_iff,or_false]at hb;rcases hb with rfl|rfl<;>lia)⟩
def Ma{i:Nat}{cl:A9}{own:C3}{js:C0}{fr:C3}{l:B8}{gs:List Comprehension}{fi:aj->DM XG}{fg:D->aj->DM aj}{ft:aj->DM Bool}{fb:aj->List D->DM (aj×List D)}
  {bodyK:Cx->Addr->Sem Fin->Sem Fin}{W:Cx->Addr->B2->B2} (o:My) (hN:X.N.Nodup) (tF:X.N[i]?=some x) (hx:Loc X.env.scope x) (hc:X.calm=true) (T:WO X scope cl own js fr) (hi:DI X E t0 i0 fi)
  (n:∀(Y:Cx) it acc,compTurn (.ListComp elt (⟨t0,i0,l,0⟩::gs) scope pos) 0 (.ref it) (.ref acc) Y.env=WZ ⟨t0,i0,l,0⟩ (bodyK Y acc) (.compLoop (.ListComp elt (⟨t0,i0,l,0⟩::gs) scope pos) 0 (.ref it) (.ref acc) Y.env) (.ref it) Y.env)
  (hW:∀Y acc,lM Y.prog Y.w Y.A (bodyK Y acc) (W Y acc)) (q:∀Y acc P P' s,(∀s,P s->P' s)->W Y acc P s->W Y acc P' s)
  (hg:∀f m fp C g O,DG (X.aR f scope (cellsFrom m scope.names cl) (own++fr) fp C g O) E0 t0 fg) (ht:∀f m fp C g O,NW (X.aR f scope (cellsFrom m scope.names cl) (own++fr) fp C g O) E0 l ft)
  (hb:∀f m fp C g O acc,BodyOk (X.aR f scope (cellsFrom m scope.names cl) (own++fr) fp C g O) acc (W (X.aR f scope (cellsFrom m scope.names cl) (own++fr) fp C g O) acc) fb)
  (tJ:autoParam (swapsWith (.ListComp elt (⟨t0,i0,l,0⟩::gs) scope pos) (some (.Name x px)) spos.line X.env=pure true) qAA)
  (hs:∀y,foldedSetIterable i0 X.env y=pure y:=by intro _;rfl) (hf:X.fn x=true\/X.env.scope.names.lookup x=some .local:=by first|exact .inl rfl|exact .inr rfl|assumption) :
  DS X E (.Assign [.Name x px] (.ListComp elt (⟨t0,i0,l,0⟩::gs) scope pos) spos) (λt=>(fi t>>=λit=>dG (cT fg ft fb it (aV own.length js t) [])>>=λp=>o.run p.2)>>=λd=>pure (.nx (t.set i (some d)))):=⟨by
 intro f s σ H D I h;obtain⟨ρ,t,M,ev,j,g0⟩:=h;let Q:VK:=λv u=>D.nx (σ.set i (some v)) u
 have g1:Go X.mg E (Cv X.mg) Q ρ H (fi t>>=λit=>dG (cT fg ft fb it (aV own.length js t) [])>>=λp=>o.run p.2) M:=g0.bind λρ1 H1 M1 v d e1 j1 c1 g2=>g2.pure ρ1 H1 _ .refl j1 ((ev.mono e1).set c1)
 rw[exec_Assign_Name_used _ _ _ _ tJ];refine YF (Fm (YF ?_));show wpAny _ _ (do let _ <-comprehension (.ListComp elt (⟨t0,i0,l,0⟩::gs) scope pos) scope X.env _ (newList []) false (eval i0 X.env) (some (assign (.Name x px) X.env))) _ _ s
 refine YF (Zh (yr LO.list (use:=some (assign (.Name x px) X.env)) (Qs:=λZ s'=>∃v u,Inv X f (σ.set i (some v)) u s'/\Q v u) (.inl ⟨_,_,_,_,rfl⟩) rfl hc T hi n hW q hg ht (λZ Z Z Z Z Z Z Z Z=>hb _ _ _ _ _ _ _ _ _ (.head _)) hs I ev j g1 λs2 H2 fp C m acc ρ1 lf Mf s' I2 f2 hA hC r nf c' g3=>?_) (λ_ s' ⟨v,u,I',q'⟩=>YG (YG ⟨_,u,I',q'⟩)) λZ Z e=>e)
 obtain⟨δf,c'⟩:=c';obtain⟨σ4,H4,ρ4,_,U,x4,j4,ev4,ha4,⟨ys,rfl,cl4⟩,fr4⟩:=c'.ex;obtain⟨m4,hn4,_⟩:=U.loc;have k:Heap.SameBut C s'.heap s'.heap:=⟨rfl,λZ Z=>rfl⟩
 have IO:Inv X f σ H4 s':=I2.gz (s':=s') (ch:=fp) (U.os) (Le U.base k hC) (Eo U.aI k U.free) U.bare (λb hb=>by obtain⟨_,g2,g3,g4,g5,g6⟩:=f2 b hb;exact⟨g4,g2,g5,g6⟩)
 obtain⟨fC1,fC2,fC3,fC4,fC5,fC6⟩:=I2.h9 hC U.free;show wpAny _ _ (assign (.Name x px) X.env (.ref acc)) _ _ s';refine wpAny_assign_Name (UU IO hN tF hx (v:=.ref acc) rfl (λs'' I'' hsb=>?_) hf)
 obtain⟨a,sb,ha⟩:=hsb;have nC:C≠a:=by
  rcases ha with z|z
  ·rw[z];exact fC2
  ·exactλe=>fC5 x a z e.symm
 exact⟨m4,hn4.sameBut sb nC,λh' hsb'=>⟨.ref acc,H4,I''.turned (it:=C) (t':=s''.toks) (λb o hb e=>hsb'.extBut b o hb e) fC1 fC2 fC4 (λy c e=>fC5 y c e) fC6,o.fin r nf x4 j4 ha4 cl4 g3⟩⟩⟩
def o8{i:Nat}{cl:A9}{own:C3}{js:C0}{fr:C3}{e:B8}{fi:aj->DM XG}{fg:D->aj->DM aj}{ft:aj->DM Bool}{fe:aj->DM D}
  (o:My) (n:X.N.Nodup) (f:X.N[i]?=some x) (q:Loc X.env.scope x) (hc:X.calm=true) (T:WO X scope cl own js fr) (r:DI X E t0 i0 fi)
  (t:∀a m fp C b I,DG (X.aR a scope (cellsFrom m scope.names cl) (own++fr) fp C b I) E0 t0 fg) (ht:∀a m fp C b I,NW (X.aR a scope (cellsFrom m scope.names cl) (own++fr) fp C b I) E0 e ft)
  (u:∀a m fp C b I,DE (X.aR a scope (cellsFrom m scope.names cl) (own++fr) fp C b I) E0 elt fe)
  (g:autoParam (swapsWith (.ListComp elt [⟨t0,i0,e,0⟩] scope pos) (some (.Name x px)) spos.line X.env=pure true) qAA)
  (hs:∀y,foldedSetIterable i0 X.env y=pure y:=by intro _;rfl) (v:X.fn x=true\/X.env.scope.names.lookup x=some .local:=by first|exact .inl rfl|exact .inr rfl|assumption) :
  DS X E (.Assign [.Name x px] (.ListComp elt [⟨t0,i0,e,0⟩] scope pos) spos) (λj=>(fi j>>=λit=>dG (cT fg ft (cL fe) it (aV own.length js j) [])>>=λp=>o.run p.2)>>=λd=>pure (.nx (j.set i (some d)))):=
 Ma (bodyK:=λY c=>vV elt (.ref c) Y.env) (W:=λY c P s=>wpAny (model Y.prog Y.w) Y.A (eval elt Y.env) (λx k=>wpAny (model Y.prog Y.w) Y.A (call (.builtin "list.append") [.ref c,x]) (λZ l=>P l) (λZ Z=>False) k) (λZ Z=>False) s) o n f q hc T r
  (λY it c=>Qi ..) (λY c=>IW) (λY c P P' s O h=>Zh h (λx k U=>Zh U (λZ l h2=>O _ h2) λZ Z z=>z) λZ Z z=>z) t ht (λa m fp C b I c=>Ei rfl (u ..)) g hs v
end L3
namespace L3
open L2
structure UM(K:B0)(mg:A4)(c:Str)(C:Addr)(fs:C3):Prop where
 at_:mg c=some (.ref C)
 cls:L2.Se K C
 no:∀f∈fs,WH K C f
theorem uR:∀{ns:C3}{xs:List V}{ds:List D}{d:D},ZE mg ρ H xs ds->(ns.zip ds).lookup f=some d->∃v,(ns.zip xs).lookup f=some v/\Cv mg ρ H v d
 |[],_,_,_,_,e=>by simp at e
 |n::ns,_,_,_,.nil,e=>by simp at e
 |n::ns,_,_,d,.cons (v:=v) c cs,e=>by
   rw[Cb,EZ]at e ⊢
   split at e
   ·cases e;exact⟨v,rfl,c⟩
   ·exact uR cs e
noncomputable def xg(c f:Str):D->Mo->Option D
 |.obj k ns vs,_=>if k=c then(ns.zip vs).lookup f else none
 |.ref n,M=>match M[n]? with
   |some (.ins k ns vs)=>if k=c then(ns.zip vs).lookup f else none
   |_=>none
 |_,_=>none
set_option tactic.hygienic true in
def cW(O:UM K mg c C fs)(s:f∈fs)(u:DE X E e fe)
  (w:autoParam (attributeBase e f X.env (eval e X.env)=eval e X.env) qAA) (y:autoParam (X.K=K) qAA) (z:autoParam (X.mg=mg) qAA):DE X E (.Attribute e f pos) (λg=>fe g>>=λx=>rd (xg c f x)):=by
 subst y z;refine⟨PE.mono (GG u.h w) λσ H Q h=>?_⟩
 obtain⟨U,g,M,ev,j,g1⟩:=h;refine⟨U,g,M,ev,j,g1.bind λb I M1 x dx e1 i t g2=>?_⟩
 obtain⟨d,a,q⟩:=g2.rd;unfold xg at a;split at a
 ·split at a
  ·rename_i k;subst k;cases t with
   |obj n m h l o=>obtain⟨v,p,r⟩:=uR o a;rw[O.at_]at m;cases m;exact⟨_,_,_,_,v,rfl,h,O.cls,O.no f s,p,q b I _ .refl i r⟩
  ·cases a
 ·split at a
  ·split at a
   ·rename_i hm k;subst k;cases t with
    |ref hn=>obtain⟨C',dx',xs,m,h,l,o⟩:=i.obj _ _ _ hn hm;obtain⟨v,p,r⟩:=uR o a;rw[O.at_]at m;cases m;exact⟨_,_,_,_,v,rfl,h,O.cls,O.no f s,p,q b I _ .refl i r⟩
   ·cases a
  ·cases a
 ·cases a
def mC:List D->Mo->Option (List D)
 |[.int j],_=>if -(2^62)<=j/\j<=2^20 then some ((List.range j.toNat).map nD)else none
 |_,_=>none
theorem w5:∀l:C0,ZE mg ρ H (l.map λi:Nat=>V.int (i:Int)) (l.map nD)
 |[]=>.nil
 |n::l=>.cons (.int _) (w5 l)
section
variable{X:Cx}{E:XK}{a:Expr}{fa:aj->DM (List D)}{p1 p2 ah ae:Pos}
set_option tactic.hygienic true in
def yu(hc:X.calm=true)(c:X.mg "list"=none)(o:X.mg "range"=none)(r:DA X E [a] fa)(e:autoParam (Gl X "list") qAA)(s:autoParam (Gl X "range") qAA)(hs:autoParam (ZH a=true) qAA):
  DE X E (.Call (.Name "list" p1) [.Call (.Name "range" p2) [a] [] ae] [] ah) (λf=>fa f>>=λl=>rd (λM=>(mC l M).map D.lst)):=⟨PE.mono (JX hc e c s o r.h.h hs) λI H Q h=>by
 obtain⟨t,f,M,u,j,w⟩:=h;refine⟨t,f,M,u,j,w.bind λg O U xs ds e1 m x y=>?_⟩
 obtain⟨d,z,q⟩:=y.rd;obtain⟨l,b,rfl⟩:=YM.mp z;unfold mC at b;split at b
 ·split at b
  ·rename_i n;cases b;obtain⟨v,rfl,k⟩:=x.one;cases k;exact⟨_,rfl,n.2,n.1,λp i=>q g _ _ (.lay i) (m.lay _ i) (.lst (m.fresh i) ZT (w5 _))⟩
  ·cases b
 ·cases b⟩
end
section
variable{X:Cx}{E:XK}
def GK:List D->Mo->Option D
 |[.bl b],_=>some (.int (if b then 1 else 0))
 |_,_=>none
def Im:YN X (.type "int") (λxs H Q=>∃b,xs=[.bl b]/\Q (.int (if b then 1 else 0)) H):=by
 intro aC s σ H xs us Q I rs h;obtain⟨b,rfl,q⟩:=h;cases rs with
 |cons r rr=>cases rr;cases r;exact call_int_bool ⟨.int (if b then 1 else 0),H,I.tok _,⟨_,rfl⟩,q⟩
def vP:YE X E (.type "int") (λl=>rd (GK l)):=YE.of Im λb H Q a M f d j c e q=>by
 unfold GK at e;split at e
 ·cases e;obtain⟨v,rfl,k⟩:=c.one;cases k;exact⟨_,rfl,q a H _ .refl j (.int _)⟩
 ·cases e
end
theorem yI(I:Nat->aj->List D->Mo->Prop):∀(ds:List D) (i:Nat) (c:aj) (l:List D) (M:Mo),I i c l M->
  (∀j d c l M,ds[j]?=some d->I (i+j) c l M->Rn (fg d c>>=λa=>ft a>>=λb=>if b then fb a l else Pure.pure (a,l)) M λp M'=>I (i+j+1) p.1 p.2 M')->Rn (bM fg ft fb ds c l) M λp M'=>I (i+ds.length) p.1 p.2 M'
 |[],i,c,l,M,h,_=>Rn.pure h
 |d::ds,i,c,l,M,h,st=>by
   have s:=st 0 d c l M rfl h;have e:bM fg ft fb (d::ds) c l=(fg d c>>=λa=>ft a>>=λb=>if b then fb a l else Pure.pure (a,l))>>=λp=>bM fg ft fb ds p.1 p.2:=by
    rw[aH];show(fg d c>>=λa=>ft a>>=λb=>(if b then fb a l else Pure.pure (a,l))>>=λp=>bM fg ft fb ds p.1 p.2)=_
    congr 1;funext a;rw[aH]
   rw[e];refine Rn.bind s λp M' f=>?_
   have g:=yI I ds (i+1) p.1 p.2 M' f (λj d c l M k m=>by
    have:=st (j+1) d c l M (by simpa using k) (by rw[show i+(j+1)=i+1+j by lia];exact m)
    rw[show i+1+j+1=i+(j+1)+1 by lia];exact this)
   rw[show i+(d::ds).length=i+1+ds.length by simp;lia]
   exact g
def H8(h:Rn m M Q):Rn (dG m) M Q:=by obtain⟨a,I,e,q⟩:=h;exact⟨a,I,by unfold dG;rw[e],q⟩
def Bq(a:n<=1000)(q:Rn (k (.ref M.length)) (M++[.lst ((List.replicate n 0).map nD)]) Q):Rn (Uk (.lst [.int 0]) (nD n)>>=k) M Q:=by
 have e:uW (.lst [.int 0]) (nD n) M=some ((List.replicate n 0).map nD):=by
  show Hg [.int 0] (n:Int)=_;unfold Hg;rw[YK (Zg ⟨by lia,by lia,by show _<=2^24;simp;lia⟩)]
  congr 1;simp[List.flatten_replicate_singleton,nD]
 show Rn ((rd (uW (.lst [.int 0]) (nD n))>>=gZ)>>=k) M Q;rw[aH];refine Rn.aS _ e ?_;exact Rn.gZ (by simp;lia) q
end L3
namespace L3
open L2
open PyProof.Rows hiding St
def putN(f:Str):C3->C3
 |[]=>[f]
 |g::r=>if g=f then g::r else g::putN f r
noncomputable def kY{α:Type}(f:Str)(v:α):C3->List α->List α
 |[],_=>[v]
 |g::r,x::xs=>if g=f then v::xs else x::kY f v r xs
 |_::_,[]=>[]
theorem BL(f:Str)(v:V):∀(ns:C3) (xs:List V),ns.length=xs.length->Xs f v (ns.zip xs)=(putN f ns).zip (kY f v ns xs)
 |[],[],_=>rfl
 |g::r,x::xs,h=>by
   show Xs f v ((g,x)::r.zip xs)=_;unfold Xs putN kY;by_cases e:g=f
   ·rw[YK e,YK e,YK e];rfl
   ·rw[YQ e,YQ e,YQ e,BL f v r xs (by simpa using h)];rfl
theorem BP(f:Str)(v:α):∀(ns:C3) (xs:List α),ns.length=xs.length->(putN f ns).length=(kY f v ns xs).length
 |[],[],_=>rfl
 |g::r,x::xs,h=>by
   unfold putN kY;by_cases e:g=f
   ·rw[YK e,YK e];simpa using h
   ·rw[YQ e,YQ e,Z7,Z7,BP f v r xs (by simpa using h)]
theorem ZE.put(c:Cv mg ρ H v d):∀(ns:C3) {xs:List V}{ds:List D},ZE mg ρ H xs ds->ZE mg ρ H (kY f v ns xs) (kY f d ns ds)
 |[],_,_,_=>.cons c .nil
 |g::r,_,_,.nil=>.nil
 |g::r,_,_,.cons h t=>by
   unfold kY;by_cases e:g=f
   ·rw[YK e,YK e];exact .cons c t
   ·rw[YQ e,YQ e];exact .cons h (ZE.put c r t)
def zg(c f:Str)(o d:D):DM Unit:=λM=>match o with
 |.ref n=>match M[n]? with
   |some (.ins k a b)=>if k=c/\a.length=b.length/\a.length<1000 then some (.ok (),M.set n (.ins k (putN f a) (kY f d a b)))else none
   |_=>none
 |_=>none
section
variable{X:Cx}{E:XK}
set_option tactic.hygienic true in
def IV{K:B0}{mg:A4}{c f:Str}{C:Addr}{fs:C3}{o value:Expr}{fo fv:aj->DM D}{pos b:Pos}(O:UM K mg c C fs)(hf:f∈fs)(ho:DE X E o fo)(hv:DE X E value fv)
  (hs:autoParam (swapsWith value (some (.Attribute o f b)) pos.line X.env=pure false) qAA) (hK:autoParam (X.K=K) qAA) (hM:autoParam (X.mg=mg) qAA) :
  DS X E (.Assign [.Attribute o f b] value pos) (λq=>fv q>>=λd=>fo q>>=λo=>zg c f o d>>=λZ=>pure (.nx q)):=by
 subst hK hM;refine⟨PS.mono (GL ho.h hv.h hs) λD σ H h=>?_⟩
 obtain⟨ρ,q,M,w,j,g1⟩:=h;refine⟨ρ,q,M,w,j,g1.bind λz H1 M1 y dy e1 j1 c1 g2=>⟨z,q,M1,w.mono e1,j1,g2.bind λg H2 M2 x dx e2 j2 c2 g3=>?_⟩⟩
 obtain⟨r,e,p⟩:=g3;have e:DM.bind _ _ M2=some r:=e;unfold DM.bind zg at e;cases dx with
 |ref n=>
   dsimp only at e;cases c2 with|ref I=>
   rename_i a;cases hm:M2[n]? with
   |none=>rw[hm]at e;cases e
   |some u=>
     rw[hm]at e;cases u with
     |lst l=>cases e
     |bG ks l=>cases e
     |ins k t vs=>
       dsimp only at e;split at e
       ·cases e
       ·rename_i s;split at s<;>cases s
       ·rename_i s;split at s
        ·rename_i hk;obtain⟨rfl,hl,hz⟩:=hk;cases s;cases e;obtain⟨C',i,v,m,hx,l,cs⟩:=j2.obj _ _ _ I hm;rw[O.at_]at m;cases m;have U:=c1.mono e2;have x:YR g H2 g (upd H2 a (.ins C i (Xs f y (t.zip v)))):=.upd (Zk I);refine⟨a,C,i,_,rfl,hx,O.cls,O.no f hf,?_,?_⟩
         ·rw[List.length_zip];lia
         refine p g _ σ x (j2.upd I ?_) (((w.mono e1).mono e2).mono x);refine⟨C,i,kY f y t v,O.at_,by rw[ZT,BL f y t v l],BP f y t v l,?_⟩
         exact(ZE.put U t cs).mono x
        ·cases s
 |_=>cases e
end
structure X1(P:C5)(w:World)(K:B0)(mg:A4)(base:Heap)(k:Nat)(c x qual:Str)(st:Stmt)(ps:C3)(F:List D->DM D):Prop where
 ex:∃C f fd,mg c=some (.ref C)/\XW P w K mg base (bZ P w) k f fd ps (wR mg F)/\P8 K x qual st f fd/\W.findIn K (.ref C) x=some (some (.ref f))/\W.isFn K (.ref f)=true/\L2.Se K C
section
variable{P:C5}{w:World}{K:B0}{mg:A4}{base:Heap}{k:Nat}{C:Addr}{c x qual:Str}{N ps:C3}{st:Stmt}{fb:aj->DM Fl}{f:Addr}{fd:FuncData}{is:C1}
def Xe(F:P8 K x qual st f fd)(S:ZB N ps (ZY st))
  (d:∀(f:Addr) (b:Value) (A:Around) (a:C4) (s:Shared) (H:Hp) (E:XK),ZA k (A.deeper (envOfC qual (ZY st) s.z f b))->
    SG (bQ P w K mg base N qual (ZY st) f b A a s H E) E (ZI st) fb):XW P w K mg base (bZ P w) (k+1) f fd ps (wR mg (aD ps.length N.length fb)):=by
 refine Xg F S (λi H Q E h=>?_) λb A a s H i Q E l h=>?_
 ·obtain⟨e,M,m,c,j,g⟩:=h;rw[c.len];exact(bz.aD g).1
 obtain⟨e,M,m,c,j,g⟩:=h;exact⟨_,(d f b A a s H E l).h,e,_,M,iJ c,j,(bz.aD g).2⟩
def MethAt.nL(T:MethAt K C x qual st)(m:mg c=some (.ref C))(cl:L2.Se K C)(S:ZB N ps (ZY st))
  (b:∀(f:Addr) (e:Value) (A:Around) (d:C4) (s:Shared) (H:Hp) (E:XK),ZA k (A.deeper (envOfC qual (ZY st) s.z f e))->
    SG (bQ P w K mg base N qual (ZY st) f e A d s H E) E (ZI st) fb):X1 P w K mg base (k+1) c x qual st ps (aD ps.length N.length fb):=by
 obtain⟨f,fd,F,a,n⟩:=T.ex;exact⟨C,f,fd,m,Xe F S b,F,a,n,cl⟩
end
structure QY(P:C5)(w:World)(K:B0)(mg:A4)(base:Heap)(k:Nat)(c:Str)(F:List D->DM D):Prop where
 ex:∃C ps sp,VT P w K mg base k C "__init__" ps sp/\W.makesIn K C=true/\W.keepIn K (.ref C)=true/\mg c=some (.ref C) /\
  ∀ρ M H vs ds Q E,ZE mg ρ H vs ds->J mg ρ M H->Go mg E (Cv mg) Q ρ H (F ds) M->∀x dx,H x=none->H dx=none->dx≠x->sp (.ref x::vs) (upd (upd H dx (.own x)) x (.ins C dx [])) (λv H2=>v=.aT/\Q (.ref x) H2) E
def n8(T:QY X.prog X.w X.K X.mg X.base j c F)(l:ZA k X.A)(n:YY (bZ X.prog X.w) X E)(o:DA X E (e::es) fs)(a:autoParam (j+1<=k) qAB)(q:autoParam (Gl X c) qAA)(b:autoParam ((c==("__debug__":Str))=false) qAB)
  (r:autoParam (ZH e=true) qAA) (d:autoParam ((backTo pos (starEach es X.env)).any (·.1)=false) qAA) :
  DE X E (.Call (.Name c p) (e::es) [] pos) (λf=>fs f>>=F):=by
 obtain⟨C,ps,sp,G,s,t,m,h⟩:=T.ex;refine⟨PE.mono (N8 G s t m l n o.h a q b r d) λσ H Q z=>?_⟩
 obtain⟨u,f,M,v,j,y⟩:=z;refine⟨u,f,M,v,j,y.bind λg I O U i e1 j1 c1 g2=>λx dx h1 h2 h3=>?_⟩
 rw[GA];exact h g O I U i Q E c1 j1 g2 x dx h1 h2 h3
def W2(c:Str):DM D:=λM=>some (.ok (.ref M.length),M++[.ins c [] []])
section
variable{mg:A4}{ρ:Rh}{H:Hp}{k:Nat}{M':Mo}
def ZE.fz(a:ρ.st.length=k){vs:List V}{ds:List D}(h:ZE mg ρ H vs ds):Si M' k ds ds:=
 ZE.rec (motive_1:=λz d z=>Fz M' k d d) (motive_2:=λz ds z=>Si M' k ds ds) .aT .bl .int .str (λz z z=>.tup) (λz z z=>.lst) (λz z z z=>.bG) (λz z z z z=>.obj) (λz z=>.eB _) (λh=>.old (a▸(YJ.mp h).1)) (λz=>.cls _) .ty .dP .nil (λz z=>.cons) h
theorem Cv.fz(a:ρ.st.length=k){v:V}{d:D}(h:Cv mg ρ H v d):Fz M' k d d:=by cases ZE.fz a (.cons h .nil);assumption
def ZE.ky(b:ρ.st.length=k){vs:List V}{ds:List D}(h:ZE mg ρ H vs ds):∀d∈ds,Fz M' k d d:=h.ind (P:=λz ds=>∀d∈ds,Fz M' k d d) nofun λa z i d h=>(Y5.mp h).elim (λe=>e▸a.fz b) (i d)
theorem Je:∀{ds:List D},(∀d∈ds,Fz M' k d d)->Si M' k ds ds
 |[],_=>.nil
 |d::ds,h=>.cons (h d (by simp)) (Je λe a=>h e (by simp[a]))
theorem J.fz(j:J mg ρ M H):WT (M++[o]) M.length M:=by
 refine⟨rfl,λn u h=>?_⟩
 have hn:=(YJ.mp h).1;refine⟨u,by rw[Y9 hn];exact h,?_⟩
 have hl:n<ρ.st.length:=by rw[j.len];exact hn
 have c:=j.obj n ρ.st[n] u (YS hl) h;cases u with
 |lst l=>obtain⟨xs,_,c⟩:=c;exact c.fz j.len
 |bG ks l=>obtain⟨xs,_,_,c⟩:=c;exact⟨rfl,c.fz j.len⟩
 |ins cc ns l=>obtain⟨C,dx,xs,_,_,_,c⟩:=c;exact⟨rfl,rfl,c.fz j.len⟩
end
def Sg(c:Str)(I:List D->DM D)(ds:List D)(M:Mo)(b:R D×Mo):Prop:=
 (∃f a,I (.ref M.length::ds) (M++[.ins c [] []])=some (.ok .aT,M++[.ins c f a])/\(∀d∈a,d∈ds\/∃i,d=.int i)/\b=(.ok (.obj c f a),M)) \/
 (∃e o,I (.ref M.length::ds) (M++[.ins c [] []])=some (.exc e,M++[o])/\b=(.exc e,M))
def Xc{P:C5}{w:World}{K:B0}{mg:A4}{base:Heap}{k:Nat}{c r:Str}{st:Stmt}{ps:C3}{Fi F':List D->DM D}(T:X1 P w K mg base k c "__init__" r st ps Fi)
  (u:∀(kV doc pm:Value) (an:B3) (a7 ct:Value) (us:B5),us.length=ps.length->bindArgs (W.fnOf "__init__" r (Y2 st) (ZI st) (ZY st) .none kV doc pm an a7 ct) ⟨us,[]⟩=pure (ps.zip us))
  (hm:∀C,mg c=some (.ref C)->W.makesIn K C=true/\W.keepIn K (.ref C)=true) (hf:∀ds M O,F' ds M=some O->Sg c Fi ds M O):QY P w K mg base k c F':=by
 obtain⟨C,f,fd,U,G,B,a,n,cl⟩:=T.ex;refine⟨C,ps,_,⟨f,fd,G,B.binds u,B.kp,a,n⟩,(hm C U).1,(hm C U).2,U,λq M H vs ds Q E cv j g x dx hx t bp=>?_⟩
 obtain⟨O,e,p⟩:=g;have v:upd H dx (.own x) x=none:=by rw[ZU (λz=>bp z.symm)];exact hx
 have x1:YR q H q (upd H dx (.own x)):=.lay t;have j1:=j.lay (.own x) t;have x2:YR q (upd H dx (.own x)) (q.put x) (upd (upd H dx (.own x)) x (.ins C dx [])):=.put v;have j2:J mg (q.put x) (M++[.ins c [] []]) (upd (upd H dx (.own x)) x (.ins C dx [])):=j1.put v ⟨C,dx,[],U,ZT,rfl,.nil⟩;have s:(q.put x).st[M.length]?=some x:=by show(q.st++[x])[M.length]?=some x;rw[<-j.len,Z4 (YL _)];simp
 refine⟨q.put x,M++[.ins c [] []],.ref M.length::ds,.cons (.ref s) (cv.mono (x1.trans x2)),j2,?_⟩;have sb:∀{m H2},YR (q.put x) (upd (upd H dx (.own x)) x (.ins C dx [])) m H2->Sub q m M.length:=λ{m H2} y=>by obtain⟨τ,ht⟩:=y.pre;exact⟨⟨[x]++τ,by rw[ht];show(q.st++[x])++τ=_;simp⟩,y.vo,j.len⟩
 have ex:∀{m H2},YR (q.put x) (upd (upd H dx (.own x)) x (.ins C dx [])) m H2->YR q H q H2:=λ{m H2} y=>⟨⟨[],by simp⟩,rfl,λa h n=>absurd h n,λb o u hn=>y.keep b o (by
  have nx:b≠x:=ZO u hx;have ndx:b≠dx:=ZO u t;rw[ZU nx,ZU ndx];exact u) (λz=>by
  rcases Zb.mp z with z|z
  ·exact hn z
  ·exact ZO u hx (Zi.mp z))⟩
 rcases hf ds M O e with⟨ns,ay,e2,hv,rfl⟩|⟨er,o,e2,rfl⟩
 ·refine⟨_,e2,λm H2 b y I cb=>?_⟩
  cases cb;refine⟨rfl,p q H2 (.ref x) (ex y) (I.freeze (sb y) j.len j.fz) ?_⟩;have h3:m.st[M.length]?=some x:=y.at s;obtain⟨C',dx',xs,m',hx3,l,cs⟩:=I.obj M.length x (.ins c ns ay) h3 (by simp)
  refine .obj (j.fresh hx) m' hx3 l (ZE.freeze (sb y) I (Je λd hd=>?_) cs)
  rcases hv d hd with h|⟨i,rfl⟩
  ·exact cv.ky j.len d h
  ·exact .int i
 ·refine⟨_,e2,λm H2 C2 y I m2=>?_⟩
  exact p q H2 C2 (ex y) (I.freeze (sb y) j.len j.fz) m2
end L3
namespace L3
open L2 LS
def CJ:List D->Mo->Option (List D)
 |[d],M=>(aU d M).bind λl=>(YA l).bind λns=>if ns.length<=60 then some ((mQ ns).map D.int)else none
 |_,_=>none
theorem rm:∀{l:List D}{ns:C1},YA l=some ns->l=ns.map D.int
 |[],ns,e=>by cases e;rfl
 |d::l,ns,e=>by
   cases d with
   |int i=>simp only[YA,Option.map_eq_some_iff]at e;obtain⟨a,h,rfl⟩:=e;rw[rm h];rfl
   |_=>simp[YA]at e
theorem o7:∀{ns:C1}{xs:List V},ZE mg ρ H xs (ns.map D.int)->xs=ns.map V.int
 |[],_,.nil=>rfl
 |n::ns,_,.cons a t=>by cases a;rw[o7 t];rfl
section
variable{X:Cx}{E:XK}{a:Expr}{fa:aj->DM (List D)}{p1 p2 ah ae:Pos}
set_option tactic.hygienic true in
def Ed(hc:X.calm=true)(f:X.mg "sorted"=none)(u:X.mg "set"=none)(w:DA X E [a] fa)(g:autoParam (Gl X "sorted") qAA)(x:autoParam (Gl X "set") qAA)(hs:autoParam (ZH a=true) qAA):
  DE X E (.Call (.Name "sorted" p1) [.Call (.Name "set" p2) [a] [] ae] [] ah) (λi=>fa i>>=λl=>rd (λM=>(CJ l M).map D.lst)):=⟨PE.mono (Ob hc g f x u w.h.h hs) λσ H Q h=>by
 obtain⟨y,i,M,z,j,O⟩:=h;refine⟨y,i,M,z,j,O.bind λm I M1 U ds e1 n c1 g2=>?_⟩
 obtain⟨d,ed,q⟩:=g2.rd;obtain⟨l,b,rfl⟩:=YM.mp ed;unfold CJ at b;split at b
 ·rename_i d0;obtain⟨l0,h0,b⟩:=Y7.mp b;obtain⟨o,h1,b⟩:=Y7.mp b;split at b
  ·rename_i hn;cases b;have e0:=rm h1;subst e0;obtain⟨v,rfl,k⟩:=c1.one;have r:∀p,I p=some (.lst (o.map V.int))->∃t e,[V.ref p]=[.ref t]/\I t=some (.lst (e.map V.int))/\(e.length<=2000/\(e.foldl PyProof.Rows.step_dedup []).length<=60)/\∀l,I l=none->Q (.ref l) (upd I l (.lst ((mQ e).map V.int))):=λp hp=>
    ⟨p,o,rfl,hp,⟨by lia,Zx (PyProof.Rows.foldl_step_dedup_nil_length_le o) hn⟩,λl s=>q m _ _ (.lay s) (n.lay _ s) (.lst (n.fresh s) ZT (ZE.ints _))⟩
   obtain⟨p,U,rfl,hx,c⟩:=cR n k h0;exact r p (by rw[hx,o7 c])
  ·cases b
 ·cases b⟩
end
end L3
namespace L3
open L2
def kW(h:l.length=1):∃a,l=[a]:=match l,h with | [a],_=>⟨a,rfl⟩
def Bj(h:l.length=2):∃a b,l=[a,b]:=match l,h with | [a,b],_=>⟨a,b,rfl⟩
def Nq(h:l.length=3):∃a b c,l=[a,b,c]:=match l,h with | [a,b,c],_=>⟨a,b,c,rfl⟩
def Nr(h:l.length=4):∃a b c d,l=[a,b,c,d]:=match l,h with | [a,b,c,d],_=>⟨a,b,c,d,rfl⟩
def Gw:D->DM D
 |.int n=>if 0<=n/\n<2^63 then pure (.int n)else stuck
 |_=>stuck
def Bk(c:Str)(F:List D->DM D):List D->DM D
 |[.obj k ns vs]=>if k=c then F [.obj k ns vs]>>=Gw else stuck
 |l=>rd (ju l)
set_option tactic.hygienic true in
def dR(T:X1 X.prog X.w X.K X.mg X.base j c "__len__" qual st ps F)(z:ZA k X.A)(O:YY (bZ X.prog X.w) X E)
  (U:∀(kV doc pm:Value) (an:B3) (l ct:Value) (us:B5),us.length=ps.length->bindArgs (W.fnOf "__len__" qual (Y2 st) (ZI st) (ZY st) .none kV doc pm an l ct) ⟨us,[]⟩=pure (ps.zip us))
  (o:autoParam (j+1<=k) qAB):YE X E (.builtin "len") (Bk c F):=by
 obtain⟨C,f,fd,mc,G,B,a,n,cl⟩:=T.ex;have MC:VT X.prog X.w X.K X.mg X.base j C "__len__" ps (wR X.mg F):=⟨f,fd,G,B.binds U,B.kp,a,n⟩;intro g s x H vs us Q I rs q;obtain⟨y,M,ds,j,p,h⟩:=q;unfold Bk at h;split at h
 ·rename_i k' ns ws;split at h
  ·rename_i hk;subst hk;obtain⟨v,rfl,kv⟩:=p.one;cases kv with
   |obj hn m hh hl cs=>
     rw[mc]at m;cases m;refine Ip MC (z.mono o) O g s x H _ us Q I rs ⟨_,_,_,rfl,hh,y,M,_,p,j,h.bind λt H1 M1 b d e1 j1 c1 i=>?_⟩
     unfold Gw at i;split at i
     ·split at i
      ·rename_i u;cases c1;exact⟨_,rfl,u,i.pure t H1 _ .refl j1 (.int _)⟩
      ·obtain⟨r,e,_⟩:=i;cases e
     ·obtain⟨r,e,_⟩:=i;cases e
  ·obtain⟨r,e,_⟩:=h;cases e
 ·exact Y1 g s x H vs us Q I rs ⟨y,M,_,j,p,h⟩
end L3
namespace L2
open PyProof.Rows
end L2
namespace L3
open L2
end L3
namespace L2
open PyProof.Rows
def WF(i j k:Nat)(b:TA):TS:=λD a H=>b a H λc I=>∃v w z,c=[v,w,z]/\D.nx (((a.set i (some v)).set j (some w)).set k (some z)) I
def Ro{kt k2 pt2}(hc:X.calm=true)(hN:X.N.Nodup)(hi:X.N[i]?=some x)(hj:X.N[j]?=some y)(hk:X.N[k]?=some z)(cf:i≠j)(n5:i≠k)(b9:j≠k)
  (hx:X.env.scope.names.lookup x=some .local) (hy:X.env.scope.names.lookup y=some .local) (hz:X.env.scope.names.lookup z=some .local) (ha:PA X [a,b,c] ta)
  (hw:swappedStores [.Tuple [.Name x px,.Name y py,.Name z pz] kt pt] (.Tuple [a,b,c] k2 pt2) X.env=pure (some [x,y,z]))
  (hs:autoParam (swapsWithSole [.Tuple [.Name x px,.Name y py,.Name z pz] kt pt] (.Tuple [a,b,c] k2 pt2) pos.line X.env=pure false) qAA) :
  PS X (.Assign [.Tuple [.Name x px,.Name y py,.Name z pz] kt pt] (.Tuple [a,b,c] k2 pt2) pos) (WF i j k ta):=by
 intro aC s σ H D I h;rw[exec_Assign_arm];refine YF (Fm ?_);rw[hs];refine YF (YG ?_);rw[YQ (by decide)]
 refine YF (Tuple_ (YO (ha _ aC s σ H _ I h) λus s1 ⟨vs,H1,I1,r1,q1⟩=>?_))
 obtain⟨v,w,w3,e1,q1⟩:=q1;subst e1;obtain⟨u1,u2,u3,rfl,rv,rw',rz⟩:∃u1 u2 u3,us=[u1,u2,u3]/\RelV v u1/\RelV w u2/\RelV w3 u3:=by
  cases r1 with
  |cons p q=>
    cases q with
    |cons p' q'=>
      cases q' with
      |cons p2 q2=>cases q2;exact⟨_,_,_,rfl,p,p',p2⟩
 refine Zw ?_ (by show 3<=sizeLine;decide)
 have I2:Inv X aC σ H1 {s1 with heap:=s1.heap.push {cls:=.type "tuple",data:=.seq [u1,u2,u3].toArray} }:=I1.kept (t':=s1.toks) λb o e=>YH _ e
 rw[hw];refine YF (YG ?_);show wpAny X.M X.A (do rule "assign.swapped-stores";let items <-unpackItems (.ref s1.z) 3 none;assignInOrder [λv=>bindName X.env z v,λv=>bindName X.env y v,λv=>bindName X.env x v] items.reverse;pure Flow.next) _ _ _
 refine YF (ME (YF (unpackItems_tuple (items:=#[u1,u2,u3]) (I.ok.hd hc) (Ee s1.heap _) λh' aw=>?_)))
 have I3:=I2.kept (h':=h') (t':=s1.toks) λb o e=>aw b o (Y6 (YW e)) e
 show wpAny _ _ (assignInOrder [λv=>bindName X.env z v,λv=>bindName X.env y v,λv=>bindName X.env x v] [u3,u2,u1]>>=λu=>pure Flow.next) _ _ _
 refine YF (DD (Bz (XY I3 hN hk (.inl hz) rz (λs2 I4=>?_) (.inr hz))))
 refine DD (Bz (XY I4 hN hj (.inl hy) rw' (λs3 I5=>?_) (.inr hy)))
 refine DD (Bz (XY I5 hN hi (.inl hx) rv (λs4 I6=>assignInOrder_nil (YG ?_)) (.inr hx)))
 have e:((σ.set k (some w3)).set j (some w)).set i (some v)=((σ.set i (some v)).set j (some w)).set k (some w3):=by rw[List.set_comm _ _ (Ne.symm b9),List.set_comm _ _ (Ne.symm n5),List.set_comm _ _ (Ne.symm cf)]
 rw[e]at I6;exact⟨_,H1,I6,q1⟩
end L2
namespace L3
open L2
def Pz(i j k:Nat)(b:aj->DM (List D)):aj->DM Fl:=λa=>b a>>=λl=>match l with
 |[v,w,z]=>pure (.nx (((a.set i (some v)).set j (some w)).set k (some z)))
 |_=>stuck
@[simp] theorem Yl(i j k:Nat)(b:aj->DM (List D))(a:aj):Pz i j k b a=b a>>=λl=>match l with
 |[v,w,z]=>Pure.pure (.nx (((a.set i (some v)).set j (some w)).set k (some z)))
 |_=>stuck:=id rfl
def QD{kt k2 pt2}(hc:X.calm=true)(hN:X.N.Nodup)(hi:X.N[i]?=some x)(hj:X.N[j]?=some y)(hk:X.N[k]?=some z)(cf:i≠j)(n5:i≠k)(b9:j≠k)
  (hx:X.env.scope.names.lookup x=some .local) (hy:X.env.scope.names.lookup y=some .local) (hz:X.env.scope.names.lookup z=some .local) (ha:DA X E [a,b,c] fa)
  (hw:swappedStores [.Tuple [.Name x px,.Name y py,.Name z pz] kt pt] (.Tuple [a,b,c] k2 pt2) X.env=pure (some [x,y,z]))
  (hs:autoParam (swapsWithSole [.Tuple [.Name x px,.Name y py,.Name z pz] kt pt] (.Tuple [a,b,c] k2 pt2) pos.line X.env=pure false) qAA) :
  DS X E (.Assign [.Tuple [.Name x px,.Name y py,.Name z pz] kt pt] (.Tuple [a,b,c] k2 pt2) pos) (Pz i j k fa):=⟨PS.mono (Ro hc hN hi hj hk cf n5 b9 hx hy hz ha.h.h hw hs) λD σ H h=>by
 obtain⟨ρ,δ,M,ev,j,g1⟩:=h;refine⟨ρ,δ,M,ev,j,bz.bind g1 λρ1 H1 M1 v d e1 j1 c1 g2=>?_⟩
 cases c1 with
 |nil=>obtain⟨r,e,_⟩:=g2;cases e
 |cons c1 c2=>cases c2 with
   |nil=>obtain⟨r,e,_⟩:=g2;cases e
   |cons c2 c3=>cases c3 with
     |nil=>obtain⟨r,e,_⟩:=g2;cases e
     |cons c3 c4=>cases c4 with
       |nil=>exact⟨_,_,_,rfl,bz.pure (a:=.nx _) g2 ρ1 H1 _ .refl j1 ((((ev.mono e1).set c1).set c2).set c3)⟩
       |cons _ _=>obtain⟨r,e,_⟩:=g2;cases e⟩
end L3
namespace N10
theorem xW(c:Nat):∀(f:C0),(f.map (c * ·)).sum=c*f.sum
 |[]=>rfl
 |a::f=>by simp only[List.map_cons,List.sum_cons,xW c f,Nat.mul_add]
def pl(a b:Nat):Nat×Nat:=(a / Nat.gcd a b,b / Nat.gcd a b)
def cz(l:C0):Nat:=l.foldl Nat.gcd 0
theorem yC(b:Nat):∀(a:C0) (g:Nat),(a.map (b * ·)).foldl Nat.gcd (b*g)=b*a.foldl Nat.gcd g
 |[],g=>rfl
 |m::a,g=>by rw[Zj,OF,OF,Nat.gcd_mul_left,yC b a]
def kJ(b:Nat)(ms:C0):cz (ms.map (b * ·))=b*cz ms:=yC b ms 0
theorem qT:∀(a:C0) (g:Nat),a.foldl Nat.gcd g∣g/\∀m∈a,a.foldl Nat.gcd g∣m
 |[],g=>⟨Nat.dvd_refl _,by simp⟩
 |m::a,g=>by
   have:=qT a (Nat.gcd g m);rw[OF];refine⟨EK this.1 (Nat.gcd_dvd_left _ _),λx b=>?_⟩
   rcases Y5.mp b with rfl|b
   ·exact EK this.1 (Nat.gcd_dvd_right _ _)
   ·exact this.2 x b
def pA(h:m∈ms):cz ms∣m:=(qT ms 0).2 m h
def pB(h:0<ms.sum):0<cz ms:=by
 rcases FV (cz ms)with e|e
 ·have:∀m∈ms,m=0:=λm hm=>by have:=pA hm;rw[e]at this;exact Nat.eq_zero_of_zero_dvd this
  have:ms.sum=0:=by
   clear h e;induction ms with
   |nil=>rfl
   |cons a l ih=>rw[FE,this a (by simp),ih λm hm=>this m (by simp[hm])]
  lia
 ·exact e
def lst(l:C0):C0:=l.map (·/ cz l)
def Nx(l:C0):l=(lst l).map (cz l * ·):=by
 unfold lst;rw[Zo]
 conv=>lhs;rw[<-List.map_id l]
 refine ZJ λm a=>?_
 show m=cz l*(m / cz l);rw[xy (pA a)]
def S:Nat->(Nat->Nat)->Nat
 |0,_=>0
 |n+1,f=>S n f+f n
noncomputable def up(f:Nat->Nat)(x v:Nat):Nat->Nat:=λi=>if i=x then v else f i
theorem sV:∀{n:Nat},(∀i,i<n->f i=g i)->S n f=S n g
 |0,_=>rfl
 |n+1,h=>by show S n f+f n=S n g+g n;rw[sV λi a=>h i (by lia),h n (by lia)]
theorem Lj:∀{n:Nat},(∀i,i<n->f i<=g i)->S n f<=S n g
 |0,_=>YL _
 |n+1,h=>Nat.add_le_add (Lj λi a=>h i (by lia)) (h n (by lia))
theorem zU(f:Nat->Nat):∀n:Nat,((List.range n).map f).sum=S n f
 |0=>rfl
 |n+1=>by
   rw[List.range_succ,FC,List.sum_append,zU f n];show S n f+(f n+0)=S n f+f n
   lia
structure G where
 A:Nat->Nat->Nat
 L:Nat->Nat
 W:Nat->Nat
end N10
namespace L3
open L2
def nM(R:A6):D:=.tup (R.map nT)
def ga(l:C0)(i:Nat):Nat:=l.getD i 0
def gr(R:A6)(i:Nat):C0:=R.getD i []
def qU(h:i<l.length):ga l i∈l:=by unfold ga;rw[Zv,YS h];exact OA _
def Zl{R:A6}{i:Nat}(h:i<R.length):gr R i∈R:=by unfold gr;rw[Zv,YS h];exact OA _
def vY(h:l.length<=i):ga l i=0:=by unfold ga;rw[Zv,Z5 h];rfl
def dH(h:i<l.length):ga l i=l[i]:=by unfold ga;rw[Zv,YS h];rfl
def dZ{R:A6}{i:Nat}(h:i<R.length):gr R i=R[i]:=by unfold gr;rw[Zv,YS h];rfl
def Ul(h:nD a=nD b):a=b:=by
 have:=D.int.inj h
 lia
def Uo(h:nT a=nT b):a=b:=(BU λz z=>Ul).mp (D.tup.inj h)
def Um(h:nM a=nM b):a=b:=(BU λz z=>Uo).mp (D.tup.inj h)
theorem Jx{α:Type}{ft:aj->DM Bool}{fe:aj->DM D}{rest:aj}(f:α->D)(p:α->Bool)(e:α->D):∀(as:List α) (x:Option D) (l:List D),l.length+as.length<=1000000->(∀a∈as,ft (some (f a)::rest)=Pure.pure (p a))->(∀a∈as,p a=true->fe (some (f a)::rest)=Pure.pure (e a))->
  bM (gN 0) ft (cL fe) (as.map f) (x::rest) l=Pure.pure (pF x (as.map f)::rest,l++(as.filter p).map e)
 |[],x,l,_,_,_=>by simp[bM,pF]
 |d::ds,x,l,hl,h1,h2=>by
   have b:=h1 d (Zd ..);have g:l.length+(ds.length+1)<=1000000:=by simpa using hl
   have j:l.length<sizeLine:=by show l.length<2^24;lia
   have i:=λk g=>Jx (rest:=rest) f p e ds (some (f d)) k g (λx h=>h1 x (Zq _ h)) (λx h=>h2 x (Zq _ h))
   by_cases hp:p d=true
   ·have c:=h2 d (Zd ..) hp;have q:=i (l++[e d]) (by simp;lia)
    simp[bM,b,hp,cL,c,j,q,pF]
   ·have q:=i l (by lia)
    simp[bM,b,hp,q,pF]
def aR{α:Type}{ft:aj->DM Bool}{fe:aj->DM D}{x:Option D}{rest:aj}{as:List α}(b:α->D)(p:α->Bool)(e:α->D)(hl:as.length<=1000000)(h1:∀a∈as,ft (some (b a)::rest)=Pure.pure (p a))(h2:∀a∈as,p a=true->fe (some (b a)::rest)=Pure.pure (e a)):
  dG (bM (gN 0) ft (cL fe) (as.map b) (x::rest) [])=Pure.pure (pF x (as.map b)::rest,(as.filter p).map e):=by
 rw[Jx b p e as x [] (by simpa using hl) h1 h2];simp
def dW{α:Type}{fe:aj->DM D}{x:Option D}{rest:aj}{as:List α}(b:α->D)(e:α->D)(hl:as.length<=1000000)(h2:∀a∈as,fe (some (b a)::rest)=Pure.pure (e a)):
  dG (bM (gN 0) (λz=>Pure.pure true) (cL fe) (as.map b) (x::rest) [])=Pure.pure (pF x (as.map b)::rest,as.map e):=by
 rw[aR b (λz=>true) e hl (λz z=>rfl) λa c z=>h2 a c,FF.mpr (λz z=>rfl)]
def Ce(c:0<b)(h:b<2^1000):(rd (jb (nD a) (nD b)):DM D)=Pure.pure (nD (a / b)):=by unfold nD;rw[Cg (Qy (by lia) (by simpa using h)),Int.natCast_ediv]
def Kc(h:b<2^64):(rd (uV (nD a) (nD b)):DM D)=Pure.pure (nD (a*b)):=by unfold nD;rw[Hf (Q7 (by simpa using h)),xA]
def lw(a b:Nat):(rd (eZ (nD a) (nD b)):DM D)=Pure.pure (nD (a+b)):=by unfold nD;rw[Wk,Int.natCast_add]
def Fw(a:Nat):(rd (eZ (nD a) (.int 1)):DM D)=Pure.pure (nD (a+1)):=lw a 1
def U4(a:Nat):(rd (eZ (.int 1) (nD a)):DM D)=Pure.pure (nD (a+1)):=by rw[Nat.add_comm];exact lw 1 a
def lC(a b:Nat):(rd (cM (nD a) (nD b)):DM D)=Pure.pure (.bl (decide (a=b))):=by
 unfold nD;rw[PN];have:decide ((a:Int)=(b:Int))=decide (a=b):=by rw[Zf,Z3,Z3];lia
 rw[this]
def rH(a b:Nat):(rd (jh (nD a) (nD b)):DM D)=Pure.pure (.bl (!decide (a=b))):=by
 unfold nD;rw[Wq];have:decide ((a:Int)=(b:Int))=decide (a=b):=by rw[Zf,Z3,Z3];lia
 rw[this]
def U9(a b:Nat):(rd (Uh (nD a) (nD b)):DM D)=Pure.pure (.bl (decide (a<b))):=by
 unfold nD;rw[Xp];have:decide ((a:Int)<(b:Int))=decide (a<b):=by rw[Zf];simp
 rw[this]
def Cj(a b:Nat):(rd (Et (nD a) (nD b)):DM D)=Pure.pure (.bl (decide (a<=b))):=by
 unfold nD;rw[Xo];have:decide ((a:Int)<=(b:Int))=decide (a<=b):=by rw[Zf];simp
 rw[this]
def wH(a b:Nat):(rd (uq (nD a) (nD b)):DM D)=Pure.pure (.bl (decide (b<a))):=by
 unfold nD;rw[Xn];have:decide ((b:Int)<(a:Int))=decide (b<a):=by rw[Zf];simp
 rw[this]
def J7(a b:Nat):(rd (Jh (nD a) (nD b)):DM D)=Pure.pure (.bl (decide (b<=a))):=by
 unfold nD;rw[Xm];have:decide ((b:Int)<=(a:Int))=decide (b<=a):=by rw[Zf];simp
 rw[this]
def iU(h:0<b):(rd (jw (nD a) (nD b)):DM D)=Pure.pure (nD (a%b)):=Ck h
def oO(R:A6):(rd (ju [nM R]):DM D)=Pure.pure (nD R.length):=by simp[nM,nD]
def Wm(l:List D):(rd (jt [.tup l,.ty "tuple"]):DM D)=Pure.pure (.bl true):=wI (t := "tuple") (λz=>rfl) (by decide)
def J8(R:A6):(rd (jt [nM R,.ty "tuple"]):DM D)=Pure.pure (.bl true):=Wm _
def eN(h:n<2^62):vf [nD n]=some (.fix ((List.range n).map nD)):=Kd h
def Cd(l:C0):jH (nT l)=some (.fix (l.map nD)):=rfl
def wF(R:A6):jH (nM R)=some (.fix (R.map nT)):=rfl
def wD(l:List D):(rd (DN (.lst l)):DM XG)=Pure.pure (.fix l):=rfl
def je(h:i<l.length):(rd (fD (nT l) (nD i)):DM D)=Pure.pure (nD (ga l i)):=Wn (by unfold ga;rw[Zv,YS h];rfl)
def wJ{R:A6}{i:Nat}(h:i<R.length):(rd (fD (nM R) (nD i)):DM D)=Pure.pure (nT (gr R i)):=Hb (by unfold gr;rw[Y8,Zv,YS h];rfl)
def Ka{R:A6}(h:0<R.length):(rd (fD (nM R) (.int 0)):DM D)=Pure.pure (nT (gr R 0)):=wJ h
theorem CV:∀R:A6,gC (R.map nT)=some (R.map λl=>PyData.tuple (l.map λn:Nat=>PyData.int (n:Int)))
 |[]=>rfl
 |l::R=>by
   have e:XT (nT l)=some (PyData.tuple (l.map λn:Nat=>PyData.int (n:Int))):=by rw[oK];simp only[XT,fU,Option.map_some];rw[Zo];rfl
   simp only[List.map_cons,gC,e,CV R]
theorem Ah:∀R:A6,PyData.depthAll (R.map λl=>PyData.tuple (l.map λn:Nat=>PyData.int (n:Int)))<=2
 |[]=>by simp[PyData.depthAll]
 |l::R=>by
   have:=Ah R;have h:=fM (l.map λn:Nat=>(n:Int))
   rw[Zo]at h;have a:PyData.depthAll (l.map λn:Nat=>PyData.int (n:Int))<=1:=h
   simp only[List.map_cons,PyData.depthAll,PyData.depth]
   lia
def qQ(a b:A6)(ha:a.length<=1000000):(rd (jh (nM a) (nM b)):DM D)=Pure.pure (.bl (!decide (a=b))):=b7 λM=>by
 have d:=Ah a;have key:∀a b:A6,PyData.eqvAll (a.map λl=>PyData.tuple (l.map λn:Nat=>PyData.int (n:Int))) (b.map λl=>PyData.tuple (l.map λn:Nat=>PyData.int (n:Int)))=decide (a=b):=by
  intro a;induction a with
  |nil=>intro b;cases b<;>simp[PyData.eqvAll]
  |cons x a ih=>
    intro b;cases b with
    |nil=>simp[PyData.eqvAll]
    |cons y b=>
      have e:=gM (x.map λn:Nat=>(n:Int)) (y.map λn:Nat=>(n:Int))
      rw[Zo,Zo]at e;have e':PyData.eqvAll (x.map λn:Nat=>PyData.int (n:Int)) (y.map λn:Nat=>PyData.int (n:Int))=decide (x=y):=by refine Eq.trans e ?_;rw[Zf,Z3,Z3];exact iG
      simp only[List.map_cons,PyData.eqvAll,PyData.eqv,e',ih b];by_cases h:x=y<;>by_cases h2:a=b<;>simp[h,h2]
 have lay:∀a:A6,PyData.canLayAll0 (a.map λl=>PyData.tuple (l.map λn:Nat=>PyData.int (n:Int)))=true:=by
  intro a;induction a with
  |nil=>rfl
  |cons x a ih=>
    have e:=XB (x.map λn:Nat=>(n:Int))
    rw[Zo]at e;have e':PyData.canLayAll0 (x.map λn:Nat=>PyData.int (n:Int))=true:=e
    simp[PyData.canLayAll0,PyData.canLay0,e',ih]
 unfold nM;simp only[jh,L3.UR,Na,XT,CV,Option.map_some,PyData.canLay0,lay,PyData.depth,PyData.eqv,key];simp
 lia
end L3
namespace LS
open PyProof.Rows PyProof
end LS
namespace L2
open PyProof.Rows
variable{X:Cx}{pos:Pos}
end L2
namespace L3
open PyProof.Rows L2
variable{X:Cx}{E:XK}{pos:Pos}
def gL(n:Nat)(a:List D->aj->DM aj):D->aj->DM aj
 |.lst l,b=>if l.length=n then a l b else stuck
 |_,_=>stuck
@[simp] theorem YC(n:Nat)(a:List D->aj->DM aj)(l:List D)(b:aj):gL n a (.lst l) b=if l.length=n then a l b else stuck:=id rfl
def uL{X:Cx}{E:XK}{st:Stmt}:DS X E st (λz=>stuck):=⟨by intro a s c H D I h;obtain⟨d,f,M,g,j,b⟩:=h;obtain⟨r,e,_⟩:=b;cases e⟩
end L3
namespace L3
open L2
abbrev Mg:=A4
abbrev Fn:=List D->DM D
abbrev Nn(mg:Mg)(x:Str):Prop:=mg x=none
abbrev Gi(mg:Mg)(x:Str)(i:Int)(t:Tok):Prop:=mg x=some (.int i t)
abbrev Gc(mg:Mg)(x:Str)(C:Addr):Prop:=mg x=some (.ref C)
abbrev Rm(k:Nat)(A:Around)(q:Str)(st:Stmt)(s:Shared)(f:Addr)(a:Value):Prop:=ZA k (A.deeper (PyProof.Rows.envOfC q (ZY st) s.z f a))
abbrev Ds(P:C5)(w:World)(K:B0)(mg:Mg)(base:Heap)(N:C3)(q:Str)(st:Stmt)(f:Addr)(c:Value)(A:Around)(a:C4)(s:Shared)(H:Hp)(E:XK)(b:aj->DM Fl):Prop:=
 SG (bQ P w K mg base N q (ZY st) f c A a s H E) E (ZI st) b
def wN(a:sc.kind=.function)(b:sc.isCoroutine=false)(c:sc.isGenerator=false)(p:N.take P.length=P)(d:(decide N.Nodup&&(decide (∀x∈P,sc.names.lookup x=some .local\/sc.names.lookup x=some .cell)&&decide (∀y∈sc.names,y.2≠.free)))=true):ZB N P sc:=by simp only[Bool.and_eq_true,decide_eq_true_eq]at d;exact⟨a,b,c,d.1,p,d.2.1,d.2.2⟩
section
variable{X:Cx}{E:XK}{a:Expr}{fa:aj->DM (List D)}{p1 p2 ah ae:Pos}
set_option tactic.hygienic true in
def qN(hc:X.calm=true)(c:X.mg "tuple"=none)(o:X.mg "range"=none)(r:DA X E [a] fa)(e:autoParam (Gl X "tuple") qAA)(s:autoParam (Gl X "range") qAA)(hs:autoParam (ZH a=true) qAA):
  DE X E (.Call (.Name "tuple" p1) [.Call (.Name "range" p2) [a] [] ae] [] ah) (λf=>fa f>>=λl=>rd (λM=>(mC l M).map D.tup)):=⟨PE.mono (JZ hc e c s o r.h.h hs) λI H Q h=>by
 obtain⟨t,f,M,u,j,w⟩:=h;refine⟨t,f,M,u,j,w.bind λg O U xs ds e1 m x y=>?_⟩
 obtain⟨d,z,q⟩:=y.rd;obtain⟨l,b,rfl⟩:=YM.mp z;unfold mC at b;split at b
 ·split at b
  ·rename_i n;cases b;obtain⟨v,rfl,k⟩:=x.one;cases k;exact⟨_,rfl,n.2,n.1,λp i=>q g _ _ (.lay i) (m.lay _ i) (.tup (m.fresh i) ZT (w5 _))⟩
  ·cases b
 ·cases b⟩
end
def AM(x y:D)(M:Mo):Option D:=match x with
 |.int i=>((tU y M).bind YA).map λa=>.bl (a.contains i)
 |_=>none
theorem Bb(i:Int):∀ns:C1,AX (.int i) (ns.map V.int)=ns.contains i
 |[]=>rfl
 |n::ns=>by
   have a:=Bb i ns;unfold AX at a ⊢
   rw[Zj,EX,a,List.contains_cons];congr 1;show MD (.int n) (.int i)=_;unfold MD;rw[Zf];simp;exact⟨λh=>h.symm,λh=>h.symm⟩
def Jb(ns:C1):(ns.map V.int).all WB=true:=by simp[WB]
section
variable{X:Cx}{E:XK}
def Uy:b8 X E (compareOp .In) (λx y=>rd (AM x y)):=by
 refine b8.of OR λx y H Q b M p r d j f g e q=>?_
 unfold AM at e;split at e
 ·obtain⟨i,k,rfl⟩:=YM.mp e;obtain⟨l,m,n⟩:=Y7.mp k;cases f;obtain⟨a,s,rfl,o,c⟩:=Kv j g m;have:=WC c n;subst this;refine⟨a,_,rfl,o.imp (λh=>XI.of h) (λh=>XO.of h),rfl,Jb i,?_⟩
  rw[YQ (by simp),Bb]
  exact q b H _ .refl j (.bl _)
 ·cases e
end
def Nh(l:C0)(i:Nat):(l.map λn:Nat=>(n:Int)).contains (i:Int)=l.contains i:=by
 rw[Zf];simp;constructor
 ·rintro⟨a,h,e⟩;have:a=i:=by lia
  exact this▸h
 ·exactλh=>⟨i,h,rfl⟩
def Qa(lo a:Option Int):D->Mo->Option D
 |.eB ns,_=>some (.lst (cutD (ns.map D.int) lo a))
 |_,_=>none
theorem DX:∀l:C1,ZE mg ρ H (l.map V.int) (l.map D.int)
 |[]=>.nil
 |n::l=>.cons (.int _) (DX l)
section
variable{X:Cx}{E:XK}
def Xr:Fk X (λx lo b H Q=>∃ρ M g d,J X.mg ρ M H/\Cv X.mg ρ H x g/\Qa lo b g M=some d/\∀ρ' O v,YR ρ H ρ' O->J X.mg ρ' M O->Cv X.mg ρ' O v d->Q v O):=by
 intro a s i H x v k l lo b m Q I o r pl t h;obtain⟨ρ,M,g,d,j,c,e,q⟩:=h;unfold Qa at e;split at e
 ·cases e;cases c with|eB n rd=>
  refine P2 (X:=X) a s i H _ v k l lo b m Q I o r pl t ⟨_,_,rfl,.inl rd,λp f=>?_⟩
  exact q ρ _ _ (.lay f) (j.lay _ f) (.lst (j.fresh f) ZT (((DX _).cut lo b).mono (.lay f)))
 ·cases e
def Iw(p:DE X E a fa)(hl:DP X E lo fl)(r:DP X E hi fh):
  DE X E (.Subscript a (.Slice lo hi none p2) pos) (λb=>fa b>>=λx=>fl b>>=λl=>fh b>>=λh=>rd (Qa l h x)):=⟨PE.mono (Sn Xr p.h hl.h r.h) λσ H Q h=>by
 obtain⟨s,b,M,c,j,t⟩:=h;refine⟨s,b,M,c,j,t.bind λf H1 I x u n v w y=>⟨f,b,I,c.mono n,v,y.bind λg H2 O l dl o z i U=>⟨g,b,O,(c.mono n).mono o,z,U.bind λk H3 M3 h dh e3 j3 m g4=>?_⟩⟩⟩
 have i:l=dl:=i;have m:h=dh:=m;subst i m;obtain⟨d,e,q⟩:=g4.rd;exact⟨k,M3,u,d,j3,(w.mono o).mono e3,e,q⟩⟩
end
def Wu(ns:C1)(lo a:Option Int):(rd (Qa lo a (.eB ns)):DM D)=Pure.pure (.lst (cutD (ns.map D.int) lo a)):=rfl
def u1(h:n+64<cLine):n+1<cLine:=by lia
noncomputable def gY:D->Mo->Option (List Key×List D)
 |.bG ks ds,_=>some (ks,ds)
 |.ref n,M=>match M[n]? with
   |some (.bG ks ds)=>some (ks,ds)
   |_=>none
 |_,_=>none
noncomputable def kO:D->Option Key
 |.int i=>some (.inl i)
 |.str x=>some (.inr x)
 |_=>none
def dD:List Key->List D->Key->Option D
 |k'::ks,d::ds,k=>if k'=k then some d else dD ks ds k
 |_,_,_=>none
section
variable{mg:A4}{ρ:Rh}{M:Mo}{H:Hp}
set_option tactic.hygienic true in
def Ai(j:J mg ρ M H)(c:Cv mg ρ H x d)(e:gY d M=some (ks,l)):∃a xs,x=.ref a/\H a=some (.dK (ks.zip xs))/\ks.length=xs.length/\ZE mg ρ H xs l:=by
 unfold gY at e;split at e
 ·cases e;cases c with|bG n h hl c=>exact⟨_,_,rfl,h,hl,c⟩
 ·split at e
  ·rename_i n _ bq ds' h;cases e;cases c with|ref hn=>
   obtain⟨xs,h1,h2,h3⟩:=j.obj _ _ _ hn h;exact⟨_,xs,rfl,h1,h2,h3⟩
  ·cases e
 ·cases e
def tL(c:Cv mg ρ H y d)(e:kO d=some k):y=kV k:=by
 unfold kO at e;split at e
 ·cases e;cases c;rfl
 ·cases e;cases c;rfl
 ·cases e
theorem wW(k:Key):∀{xs:List V}{ds:List D} (ks:List Key),ZE mg ρ H xs ds->ks.length=xs.length->(dD ks ds k=none->VZ (ks.zip xs) k=none)/\∀d,dD ks ds k=some d->∃v,VZ (ks.zip xs) k=some v/\Cv mg ρ H v d
 |_,_,[],.nil,_=>⟨λy=>rfl,λd h=>by cases h⟩
 |_,_,[],.cons a t,h=>by cases h
 |_,_,_::_,.nil,h=>by cases h
 |_,_,k'::ks,.cons a t,h=>by
   obtain⟨h1,h2⟩:=wW k ks t (by simpa using h)
   rw[Cb];by_cases e:k'=k
   ·rw[VX (p:=(k',_)) e];refine⟨λz=>?_,λd z=>?_⟩
    ·simp[dD,e]at z
    ·simp only[dD,e,if_true]at z;cases z;exact⟨_,rfl,a⟩
   ·rw[VQ (p:=(k',_)) e];simp only[dD,e,if_false];exact⟨h1,h2⟩
end
def Mt(x y:D)(M:Mo):Option D:=(gY x M).bind λp=>(kO y).bind λk=>dD p.1 p.2 k
def GD(x y:D)(M:Mo):Option D:=(gY y M).bind λp=>(kO x).map λk=>.bl (!(dD p.1 p.2 k).isSome)
section
variable{X:Cx}{E:XK}
def some_of(k:Key)(c:ZE mg ρ H xs ds)(h:ks.length=xs.length):(VZ (ks.zip xs) k).isSome=(dD ks ds k).isSome:=by
 obtain⟨a,b⟩:=wW k ks c h;cases e:dD ks ds k with
 |none=>rw[a e];rfl
 |some d=>obtain⟨v,f,_⟩:=b d e;rw[f];rfl
def NT(f:X.A.units+1<cLine):b8 X E (compareOp .NotIn) (λx y=>rd (GD x y)):=by intro b s σ H x y v u Q I g h q;obtain⟨i,M,dx,dy,j,l,m,n⟩:=q;obtain⟨d,e,p⟩:=n.rd;obtain⟨⟨ks,ds⟩,o,r⟩:=Y7.mp e;obtain⟨k,t,rfl⟩:=YM.mp r;obtain⟨a,xs,rfl,w,z,c⟩:=Ai j m o;obtain rfl:=tL l t;obtain rfl:u=Value.ref a:=h;have O:=some_of k c z;exact KP f I (SF.k (k:=k) w) g λs' U=>⟨.bl _,H,U,rfl,p i H _ .refl j (by rw[O];exact .bl _)⟩
def S5(o:X.A.units+1<cLine)(g:DE X E a fa)(q:DE X E b fb)(hs:IN b:=by exactλZ Z=>rfl):DE X E (.Subscript a b pos) (λf=>fa f>>=λx=>fb f>>=λy=>rd (Mt x y)):=
 ⟨PE.mono (L5 o g.h q.h hs) fun σ H Q h=>by
  obtain⟨r,f,M,m,j,s⟩:=h;refine⟨r,f,M,m,j,s.bind λi H1 I x dx t u w z=>⟨i,f,I,m.mono t,u,z.bind λl O M2 y dy U n c2 g3=>?_⟩⟩
  obtain⟨d,e,p⟩:=g3.rd;obtain⟨⟨ks,ds⟩,h1,h2⟩:=Y7.mp e;obtain⟨k,h3,h4⟩:=Y7.mp h2;obtain⟨a,xs,rfl,g,hl,c⟩:=Ai n (w.mono U) h1;obtain rfl:=tL c2 h3;obtain⟨v,e3,cv⟩:=(wW k ks c hl).2 d h4;exact⟨a,v,rfl,by rw[<-e3];exact SF.k g,p l O _ .refl n cv⟩⟩
def GF:D->D->D->DM Unit
 |.ref n,y,v=>λM=>match M[n]?,kO y with
   |some (.bG ks ds),some k=>if dD ks ds k=none/\ks.length<2^20 then some (.ok (),M.set n (.bG (ks++[k]) (ds++[v])))else none
   |_,_=>none
 |_,_,_=>stuck
theorem Dd:∀{as:List α}{bs:List β} (a:α) (b:β),as.length=bs.length->(as++[a]).zip (bs++[b])=as.zip bs++[(a,b)]
 |[],[],_,_,_=>rfl
 |[],_::_,_,_,h=>by cases h
 |_::_,[],_,_,h=>by cases h
 |x::as,y::bs,a,b,h=>by rw[AU,AU,Cb,Cb,Dd a b (by simpa using h),AU]
set_option tactic.hygienic true in
def Oq(w:X.A.units+1<cLine):OX X (G9 X.mg E GF):=by
 intro m s σ H o i v y iv u Q I z O rv h;obtain⟨f,M,dO,U,dv,j,co,ci,cv,r,e,p⟩:=h;cases co with
 |ref g=>
   rename_i n a;have e:(match M[n]?,kO U with
    |some (.bG b l),some k=>if dD b l k=none/\b.length<2^20 then some (R.ok (),M.set n (.bG (b++[k]) (l++[dv])))else none
    |_,_=>none)=some r:=e
   split at e
   ·rename_i b l k hm hk;split at e
    ·rename_i q;cases e;obtain⟨t,hx,d,c⟩:=j.obj _ _ _ g hm;obtain rfl:=tL ci hk;obtain rfl:y=Value.ref a:=z;have nn:=(wW k b c d).1 q.1;have pn:=NO v nn;have lz:(b.zip t).length<sizeLine:=by rw[List.length_zip,<-d,Nat.min_self];exact Fs q.2 (by show 2^20<2^24;decide)
     have x:YR f H f (upd H a (.dK ((b++[k]).zip (t++[v])))):=.upd (Zk g);refine Po w I (L7.k (k:=k) hx lz) O rv λs' I'=>⟨_,I',?_⟩
     rw[pn,<-Dd k v d];exact p f _ () x (j.upd g ⟨_,ZT,by simp[d],(c.append (.cons cv .nil)).mono x⟩) trivial
    ·cases e
   ·cases e
 |_=>cases e
def zb(x v:D):DM D:=λM=>match kO x with
 |some k=>some (.ok (.ref M.length),M++[.bG [k] [v]])
 |none=>none
set_option tactic.hygienic true in
def Qw(i:Nat)(m:autoParam (X.N[i]?=some x) qAA)(n:JE X.env.scope x:=by first|exact Or.inl rfl|exact Or.inr (Or.inl rfl)|exact Or.inr (Or.inr rfl))(hd:autoParam ((x==("__debug__":Str))=false) qAB)
  (f:autoParam ((x==("__classdict__":Str))=false) qAB):DE X E (.Dict [some (.Name x p1)] [.Constant (.int c) cj p2] pos) (λa=>cF i a>>=λy=>zb y (.int c)):=
 ⟨PE.mono (Lv (NX (UF (i:=i) m n hd f) NY L8) rfl rfl (by simp) (by simp)) fun U H Q h=>by
  obtain⟨b,a,M,s,j,g⟩:=h;have g:Go X.mg E (Cv X.mg) Q b H (opt a[i]?.join>>=λy=>zb y (.int c)) M:=g
  cases z:a[i]?.join with
  |none=>rw[z]at g;obtain⟨r,e,_⟩:=g;cases e
  |some d=>
    rw[z]at g;have g:Go X.mg E (Cv X.mg) Q b H (zb d (.int c)) M:=g;have t:a[i]?=some (some d):=by
     cases y:a[i]? with
     |none=>rw[y]at z;cases z
     |some o=>rw[y]at z;exact congrArg some z
    obtain⟨v,u,w⟩:=s.val i d t;obtain⟨r,e,q⟩:=g;unfold zb at e;split at e
    ·rename_i k I;cases e;obtain rfl:=tL w I;intro p l;refine⟨kV k,u,ZT,[(k,.int c)],rfl,by simp,?_⟩
     have O:UX [] [(k,V.int c)]=[k].zip [V.int c]:=rfl;rw[O,KL];have x:YR b H (b.put p) (upd H p (.dK ([k].zip [V.int c]))):=.put l;refine q _ _ _ x (j.put l ⟨[.int c],ZT,rfl,.cons (.int c) .nil⟩) (.ref ?_);show(b.st++[p])[_]?=_;rw[<-j.len];simp
    ·cases e⟩
end
def tO:List Key->Option C1
 |[]=>some []
 |.inl i::ks=>(tO ks).map (i::·)
 |.inr _::_=>none
theorem Bt:∀{ks:List Key}{ns:C1},tO ks=some ns->ks=ns.map Sum.inl
 |[],ns,e=>by cases e;rfl
 |.inl i::ks,ns,e=>by obtain⟨a,h,rfl⟩:=YM.mp e;rw[Bt h];rfl
 |.inr _::_,_,e=>by cases e
def zm:List D->Mo->Option D
 |[d],M=>(gY d M).bind λp=>(tO p.1).bind λns=>if ns.length<=60 then some (.lst ((rY ns).map D.int))else none
 |_,_=>none
section
variable{X:Cx}{E:XK}
set_option tactic.hygienic true in
def Gv(f:X.A.handled=none):YE X E (.builtin "sorted") (λl=>rd (zm l)):=YE.of (Ab f) λs H Q g M t d j c e q=>by
 unfold zm at e;split at e
 ·obtain⟨⟨u,l⟩,h,e⟩:=Y7.mp e;obtain⟨i,m,e⟩:=Y7.mp e;split at e
  ·rename_i n;cases e;obtain⟨v,rfl,k⟩:=c.one;obtain⟨a,w,rfl,o,r,x⟩:=Ai j k h;obtain rfl:=Bt m;refine⟨a,_,i,rfl,o,?_,n,λp b=>q g _ _ (.lay b) (j.lay _ b) (.lst (j.fresh b) ZT (ZE.ints _))⟩
   rw[List.map_fst_zip (Nat.le_of_eq r)]
  ·cases e
 ·cases e
end
end L3
namespace L3
open PySem L2
theorem yR{c:aj->DM Bool}{fb:aj->DM Fl}{qC:aj->Mo->Prop}(I:Nat->aj->Mo->Prop)
  (step:∀m a M,I m a M->∃b,c a M=some (.ok b,M)/\(b=true->Rn (fb a) M λr M'=>∃δ' d,r=.nx δ'/\d<m/\I d δ' M')/\(b=false->qC a M)) :
  ∀(N m:Nat) (a:aj) (M:Mo),m<N->I m a M->Rn (cJ c fb N a) M λr M'=>∃δ',r=.nx δ'/\qC δ' M'
 |0,m,a,M,h,_=>by lia
 |N+1,m,a,M,h,i=>by
   obtain⟨b,e,h1,h2⟩:=step m a M i;unfold cJ;refine Rn.bind (Q1:=λf M'=>f=b/\M'=M) ⟨b,M,e,rfl,rfl⟩ λf M' ⟨g,j⟩=>?_
   subst g j;cases f with
   |false=>exact Rn.pure ⟨a,rfl,h2 rfl⟩
   |true=>
     refine Rn.bind (h1 rfl) λr O ⟨δ',d,k,n,l⟩=>?_
     subst k;exact yR I step N d δ' O (by lia) l
def kD(ks:C0):List Key:=ks.map λn:Nat=>Sum.inl (n:Int)
theorem sE(x:Nat):∀(ks:C0) (ds:List D),ks.length=ds.length->(dD (kD ks) ds (.inl (x:Int))).isSome=ks.contains x
 |[],[],_=>rfl
 |[],_::_,h=>by cases h
 |_::_,[],h=>by cases h
 |k::ks,d::ds,h=>by
   have a:=sE x ks ds (by simpa using h)
   show(dD (Sum.inl (k:Int)::kD ks) (d::ds) (.inl (x:Int))).isSome=_;rw[List.contains_cons];by_cases e:k=x
   ·subst e;simp[dD]
   ·have b:¬(Sum.inl (k:Int):Key)=.inl (x:Int):=λq=>e (by have:=Sum.inl.inj q;lia)
    have c:(x==k)=false:=by simp;exactλq=>e q.symm
    simp only[dD,b,if_false,a,c,Bool.false_or]
def Mu(h:M[n]?=some (.bG (kD ks) ds))(hl:ks.length=ds.length):GD (nD x) (.ref n) M=some (.bl (!ks.contains x)):=by
 have e:gY (.ref n) M=some (kD ks,ds):=by simp[gY,h]
 have:=sE x ks ds hl;unfold GD nD;rw[e];simp only[Option.bind_some,kO,Option.map_some,this]
def Mv(h:M[n]?=some (.bG (kD ks) ds))(hl:ks.length=ds.length)(a:x∉ks)(b:ks.length<1000):
  GF (.ref n) (nD x) v M=some (.ok (),M.set n (.bG (kD (ks++[x])) (ds++[v]))):=by
 have e:=sE x ks ds hl;have c:ks.contains x=false:=by simpa using a
 rw[c,Option.isSome_eq_false_iff,Option.isNone_iff_eq_none]at e;have d:kD (ks++[x])=kD ks++[Sum.inl (x:Int)]:=by simp[kD]
 delta GF;dsimp only[nD];rw[h];dsimp only[kO];rw[YK ⟨e,by unfold kD;rw[YT];exact Fs b (by decide)⟩,d]
theorem CW:∀{ks vs:C0},ks.length=vs.length->x∈ks->∃v∈vs,dD (kD ks) (vs.map nD) (.inl (x:Int))=some (nD v)
 |[],_,_,h=>by cases h
 |_::_,[],h,_=>by cases h
 |k::ks,v::vs,h,b=>by
   show∃u∈v::vs,dD (Sum.inl (k:Int)::kD ks) (nD v::vs.map nD) (.inl (x:Int))=some (nD u);by_cases e:k=x
   ·subst e;exact⟨v,by simp,by simp[dD]⟩
   ·have c:¬(Sum.inl (k:Int):Key)=.inl (x:Int):=λq=>e (by have:=Sum.inl.inj q;lia)
    have a:x∈ks:=by
     rcases Y5.mp b with q|q
     ·exact absurd q.symm e
     ·exact q
    obtain⟨u,d,f⟩:=CW (by simpa using h) a
    exact⟨u,by simp[d],by simp only[dD,c,if_false,f]⟩
def Qz{n x:Nat}{ks vs:C0}(h:M[n]?=some (.bG (kD ks) (vs.map nD)))(hl:ks.length=vs.length)(a:x∈ks):∃v∈vs,Mt (.ref n) (nD x) M=some (nD v):=by
 obtain⟨v,b,e⟩:=CW hl a;refine⟨v,b,?_⟩;have c:gY (.ref n) M=some (kD ks,vs.map nD):=by simp[gY,h]
 unfold Mt;rw[c];show(kO (nD x)).bind (λk=>dD (kD ks) (vs.map nD) k)=_
 exact e
theorem Bu:∀ks:C0,tO (kD ks)=some (ks.map λn:Nat=>(n:Int))
 |[]=>rfl
 |k::ks=>by show(tO (kD ks)).map ((k:Int)::·)=_;rw[Bu ks];rfl
def KH{n:Nat}{ks:C0}{p:Nat->Bool}(c:ks.Nodup)(d:∀x,x∈ks↔x<n/\p x=true):rY (ks.map λn:Nat=>(n:Int))=((List.range n).filter p).map λn:Nat=>(n:Int):=by
 have f:=cH (ks.map λn:Nat=>(n:Int))
 refine gk (f.1.trans ?_) f.2 ?_
 ·refine List.Perm.map _ ((wx c (List.nodup_range.filter _)).mpr λx=>?_)
  rw[d,Zn,YX]
 ·refine List.Pairwise.map _ (λa b (h:a<b)=>?_) (List.Pairwise.sublist List.filter_sublist AZ)
  lia
def KD{n m:Nat}{ks:C0}{ds:List D}{p:Nat->Bool}(h:M[m]?=some (.bG (kD ks) ds))(a:ks.length<=60)(b:ks.Nodup)(c:∀x,x∈ks↔x<n/\p x=true):
  zm [.ref m] M=some (.lst (((List.range n).filter p).map nD)):=by
 have d:gY (.ref m) M=some (kD ks,ds):=by simp[gY,h]
 unfold zm;dsimp only;rw[d];show(tO (kD ks)).bind _=_;rw[Bu,zn,YK (by rw[YT];exact a),KH b c,Zo]
 rfl
end L3
namespace L3
open L2 LB
def tupI(t:C1):D:=.tup (t.map D.int)
def cY:List D->Option A7
 |[]=>some []
 |.tup l::r=>(YA l).bind λt=>if t=[]then none else(cY r).map (t::·)
 |_::_=>none
set_option tactic.hygienic true in
theorem mR:∀{l:List D}{ts:A7},cY l=some ts->l=ts.map tupI/\∀t∈ts,t≠[]
 |[],ts,e=>by cases e;exact⟨rfl,λt h=>by cases h⟩
 |d::l,ts,e=>by
   cases d with
   |tup l0=>
     obtain⟨t,h1,e⟩:=Y7.mp e;split at e
     ·cases e
     ·rename_i a;obtain⟨g,h,rfl⟩:=YM.mp e;obtain⟨c,f⟩:=mR h;refine⟨by rw[c,rm h1];rfl,λx b=>?_⟩
      rcases Y5.mp b with rfl|b
      ·exact a
      ·exact f x b
   |_=>simp[cY]at e
theorem jT:∀{ts:A7},(∀t∈ts,t≠[])->cY (ts.map tupI)=some ts
 |[],_=>rfl
 |t::ts,h=>by
   have a:=jT (ts:=ts) λx b=>h x (.tail _ b)
   have c:=h t (Zd);show(YA (t.map D.int)).bind _=_;rw[pD];show(if t=[]then none else _)=_
   rw[YQ c,a];rfl
end L3
namespace L3
open PySem L2
theorem yJ{α:Type}{fe:aj->DM D}{rest:aj}{n:Nat}{M:Mo}{L:List α}(d e:α->D)(o:M[n]?=some (.lst (L.map d)))(q:L.length<=1000000)(h:∀a∈L,fe (some (d a)::rest) M=some (.ok (e a),M)):
  ∀(k i:Nat) (x:Option D) (l:List D),i+k=L.length+1->1<=k->l=(L.take i).map e->∃z,tM (gN 0) (λy=>Pure.pure true) (cL fe) n k i (x::rest) l M=some (.ok (z::rest,L.map e),M)
 |0,i,x,l,_,h1,_=>by lia
 |k+1,i,x,l,t,_,hl=>by
   have g:rd (XG.next (.dyn n) i) M=some (.ok ((L.map d)[i]?),M):=by
    have:XG.next (.dyn n) i M=some ((L.map d)[i]?):=by simp only[XG.next,o]
    unfold rd;rw[this];rfl
   by_cases c:i<L.length
   ·have j:(L.map d)[i]?=some (d L[i]):=by rw[Y8,YS c];rfl
    rw[j]at g;have m:=yJ d e o q h k (i+1) (some (d L[i])) (l++[e L[i]]) (by lia) (by lia) (by rw[hl,List.take_succ_eq_append_getElem c,FC];rfl)
    obtain⟨z,m⟩:=m;refine⟨z,?_⟩;have r:=h L[i] (OA c);have s:l.length<sizeLine:=by show _<2^24;rw[hl];simp;lia
    show DM.bind (rd (XG.next (.dyn n) i)) _ M=_;unfold DM.bind;rw[g];show((gN 0 (d L[i]) (x::rest))>>=λf=>(Pure.pure true:DM Bool)>>=λb=>(if b then cL fe f l else Pure.pure (f,l))>>=λp=>tM _ _ _ n k (i+1) p.1 p.2) M=_
    rw[lD,az,az];show((cL fe (some (d L[i])::rest) l)>>=λp=>tM _ _ _ n k (i+1) p.1 p.2) M=_
    unfold cL;rw[aH];show DM.bind (fe _) _ M=_;unfold DM.bind;rw[r];dsimp only;rw[YK s];exact m
   ·have j:(L.map d)[i]?=none:=Z5 (by rw[YT];lia)
    rw[j]at g;refine⟨x,?_⟩;show DM.bind (rd (XG.next (.dyn n) i)) _ M=_;unfold DM.bind;rw[g];have:L.take i=L:=y9 (by lia)
    rw[hl,this];rfl
def QJ{α:Type}{fe:aj->DM D}{rest:aj}{n:Nat}{M:Mo}{L:List α}{x:Option D}(b e:α->D)(c:M[n]?=some (.lst (L.map b)))(i:L.length<=1000000)(h:∀a∈L,fe (some (b a)::rest) M=some (.ok (e a),M)){d:Type}{k:aj×List D->DM d}{Q:d->Mo->Prop}(k':List D->DM d)(j:∀q,k q=k' q.2)(q:Rn (k' (L.map e)) M Q):
  Rn (rd (DN (.ref n))>>=λit=>dG (cT (gN 0) (λy=>Pure.pure true) (cL fe) it (x::rest) [])>>=k) M Q:=by
 refine Rn.aS (.dyn n) (by simp only[DN,c]) ?_
 obtain⟨z,f⟩:=yJ (rest:=rest) b e c i h (L.length+1) 0 x [] (by lia) (by lia) rfl
 have g:cT (gN 0) (λy=>Pure.pure true) (cL fe) (.dyn n) (x::rest) [] M=some (.ok (z::rest,L.map e),M):=by
  show DM.bind (rd (λM=>aU (.ref n) M)) _ M=_
  unfold DM.bind rd;simp only[aU,c,Option.map_some,List.length_map];exact f
 refine Rn.bind (H8 ⟨_,_,g,rfl,rfl⟩:Rn (dG _) M λp I=>p=(z::rest,L.map e)/\I=M) λp I ⟨g,f⟩=>?_
 subst g f;rw[j];exact q
end L3
namespace L3
open L2 LA LB
open PyProof.Rows hiding St
def fu(acc:A7)(t:C1):A7:=if t∈acc then acc else acc++[t]
def qi(ts:A7):A7:=ts.foldl fu []
def Ml(ts:A7)(t:C1):qi (ts++[t])=fu (qi ts) t:=by unfold qi;rw[List.foldl_append];rfl
def Ec(acc:A7)(t:C1):(fu acc t).length<=acc.length+1:=by unfold fu;split<;>simp
def Eb(ts:A7):(qi ts).length<=ts.length:=by
 have key:∀(ts acc:A7),(ts.foldl fu acc).length<=acc.length+ts.length:=by
  intro ts;induction ts with
  |nil=>intro acc;simp
  |cons t ts ih=>
    intro acc;have:=ih (fu acc t);have:=Ec acc t;rw[OF,Z7]
    lia
 have:=key ts [];simpa[qi]using this
def Ea(cs:A1)(c:Addr×C1):(vR cs c).map (·.2)=fu (cs.map (·.2)) c.2:=by unfold vR fu;split<;>simp
set_option tactic.hygienic true in
theorem wV:∀{l:List D}{ts:A7}{d:D}{t:C1},cY l=some ts->cY [d]=some [t]->cY (l++[d])=some (ts++[t])
 |[],ts,d,t,e,a=>by cases e;exact a
 |x::l,ts,d,t,e,a=>by
   cases x with
   |tup l0=>
     obtain⟨u,h1,e⟩:=Y7.mp e;split at e
     ·cases e
     ·rename_i b;obtain⟨f,h,rfl⟩:=YM.mp e;have c:=wV h a;show(YA l0).bind _=_;rw[h1];show(if u=[]then none else(cY (l++[d])).map (u::·))=_
      rw[YQ b,c];rfl
   |_=>simp[cY]at e
def WQ(h:(cY [d]).isSome=true):∃t,d=tupI t/\t≠[]/\cY [d]=some [t]:=by
 obtain⟨ts,e⟩:=FH.mp h;obtain⟨h1,h2⟩:=mR e;cases ts with
 |nil=>cases h1
 |cons t ts=>
   cases ts with
   |nil=>simp at h1;exact⟨t,h1,h2 t (by simp),e⟩
   |cons u ts=>simp at h1
section
variable{mg:A4}{ρ:Rh}{H:Hp}{acc:Addr}{φ:B6}{o:HO}
def ZE.x(b:H acc=some (.ext φ))(h:ZE mg ρ H vs ds):ZE mg ρ (L2.upd H acc o) vs ds:=h.gen (λy y h=>h) λa u h n ne=>⟨n,(ZU λz=>by rw[z,b]at h;cases h;exact ne _ rfl).trans h⟩
theorem Cv.x(a:H acc=some (.ext φ))(h:Cv mg ρ H v d):Cv mg ρ (L2.upd H acc o) v d:=(ZE.x a (.cons h .nil)).hd
theorem Ev.x(c:H acc=some (.ext φ))(h:Ev mg ρ H σ δ):Ev mg ρ (L2.upd H acc o) σ δ:=⟨h.len,λi d q=>let⟨v,a,b⟩:=h.val i d q;⟨v,a,b.x c⟩⟩
def jY.ne(hp:H acc=Option.some (HO.ext φ))(h:jY mg ρ H a u):a≠acc:=λz=>by
 subst z;cases u with
 |lst l=>obtain⟨xs,h,_⟩:=h;rw[hp]at h;cases h
 |bG ks l=>obtain⟨xs,h,_⟩:=h;rw[hp]at h;cases h
 |ins c ns l=>obtain⟨C,dx,xs,_,h,_⟩:=h;rw[hp]at h;cases h
theorem J.x(j:J mg ρ M H)(b:H acc=Option.some (HO.ext φ)):J mg ρ M (L2.upd H acc o):=⟨j.len,j.nd,λn a u d f=>(j.obj n a u d f).map (ZU (jY.ne b (j.obj n a u d f))) λi k c=>c.x b,λa h=>by obtain⟨x,g,e⟩:=j.hU a h;exact⟨x,g,by rw[ZU λz=>by rw[z,b]at e;cases e];exact e⟩⟩
end
def zr(ρ:Rh)(H:Hp)(cs:A1)(l:List D):Prop:=∃a,cY l=some a/\cs.map (·.2)=qi a/\cs.length<=18/\∀c∈cs,c.2≠[]/\c.1∉ρ/\H c.1=some (.tup (c.2.map V.int))
def zr.mono(h:zr ρ H cs l)(e:YR ρ H ρ' H'):zr ρ' H' cs l:=by obtain⟨f,g,i,j,k⟩:=h;exact⟨f,g,i,j,λc m=>by obtain⟨a,b,d⟩:=k c m;exact⟨a,e.out d b,e.keeps d b⟩⟩
def ZS(P:C5)(w:World):ZK:=λa c H o l=>∃b,o=pX P w a b/\zr c H b l
def ZS.ok:(ZS P w).Ok:=λ_ _ _ _ _ _ _ ⟨a,e,c⟩ x=>⟨a,e,c.mono x⟩
def tH(fe:aj->DM D)(a:aj)(l:List D):DM (aj×List D):=fe a>>=λd=>if(cY [d]).isSome=true/\l.length<18 then pure (a,l++[d])else stuck
def X0.mf(b:acc∉ρ.st):X0 acc ρ H ρ (upd H acc o):=⟨⟨[],by simp⟩,rfl,λa h n=>absurd h n,λa u h z ne=>by rw[ZU ne];exact h,b⟩
set_option tactic.hygienic true in
def Mz(U:X.xe=λZ Z=>False)(hu:X.A.units+1<cLine)(he:DE X E0 elt fe):
  ∀o H0,vC (ZS X.prog X.w) X acc (λP s=>wpAny X.M X.A (eval elt X.env) (λx s1=>wpAny X.M X.A (call (.builtin "set.add") [.ref acc,x]) (λZ s2=>P s2) (λZ Z=>False) s1) (λZ Z=>False) s) (tH fe) o H0:=by
 intro o H0 p δ l M s δ' l' M' ct e;obtain⟨d,M1,e1,e2⟩:=DM.bS e;obtain⟨σ,H,ρ,_,I,x,j,ev,ha,⟨i,rfl,cl⟩,_⟩:=ct.ex;split at e2;rotate_left
 ·cases e2
 rename_i hz;cases e2;refine Zh (he.h p s σ H (λv O=>∃f,YR ρ H f O/\J X.mg f M' O/\Cv X.mg f O v d) I ⟨ρ,δ,M,ev,j,_,e1,λf O v a1 a2 a3=>⟨f,a1,a2,a3⟩⟩) (λu s1 y=>?_) λZ Z z=>by rw[U]at z;exact z
 obtain⟨v,O,I1,rv,f,q,j1,c1⟩:=y;have k:acc∉ρ.st:=x.na;have g:=q.keep acc _ ha k;have r:acc∉f.st:=λz=>by have:=q.new acc z k;rw[ha]at this;cases this
 obtain⟨t,rfl,tne,et⟩:=WQ hz.1;obtain⟨ts,y,h2,h0,h3⟩:=cl.mono q;have cl1:i.length<=l.length:=by
  have a:=congrArg List.length h2;rw[YT]at a;have b:=Eb ts;have c:=congrArg List.length (mR y).1;rw[YT]at c
  lia
 cases c1 with
 |tup nb m cb=>
   rename_i b xs;rw[o7 cb]at m;obtain rfl:u=Value.ref b:=rv;refine RD hu I1 g m (λc n=>(h3 c n).2.2) (by have:=hz.2;lia) λs' I'=>?_
   refine⟨σ,_,f,_,I',(x.trans (q.b r)).trans (.mf r),j1.x g,(ev.mono q).x g,ZT,⟨vR i (b,t),rfl,ts++[t],wV y et,?_,?_,λc n=>?_⟩,λb m=>nomatch m⟩
   ·rw[Ea,Ml,h2]
   ·have a:=congrArg List.length (Ea i (b,t));have c:=Ec (i.map (·.2)) t;rw[YT]at a c;have:=hz.2;have a:(vR i (b,t)).length=(fu (i.map (·.2)) t).length:=a
    lia
   ·have nx:∀{c:Addr×C1}{ys:List V},O c.1=some (.tup ys)->upd O acc (pX X.prog X.w acc (vR i (b,t))) c.1=O c.1:=λ{c ys} h=>ZU λz=>by rw[z,g]at h;cases h
    have hc':c∈i\/c=(b,t):=by
     unfold vR at n;split at n
     ·exact .inl n
     ·rcases Zb.mp n with h|h
      ·exact .inl h
      ·exact .inr (Zi.mp h)
    rcases hc' with h|rfl
    ·obtain⟨p1,p2,p3⟩:=h3 c h;exact⟨p1,p2,(nx p3).trans p3⟩
    ·exact⟨tne,nb,(nx m).trans m⟩
end L3
namespace L3
open L2 LA LB LS
open PyProof.Rows hiding St
def JL(h:Q (.ref s.z) {s with heap:=s.heap.push (aW #[] 0 (.fresh 0 0 (!bK w)))}):wq prog w A (newSet (.type "set")) Q E s:=by unfold newSet setsByText;refine YF (YF (JY (YG ?_)));exact Zw h
def W6(X:Cx)(ρ:Rh)(H:Hp)(x:V)(l:List D):Prop:=∃a b,x=.ref a/\H a=some (pX X.prog X.w a b)/\zr ρ H b l
section
variable{acc:Addr}{ρ ρ1:Rh}{H H1:Hp}{o:HO}
def X0.ext(x:X0 acc ρ (upd H acc o) ρ1 H1)(b:H acc=none):YR ρ H ρ1 H1:=⟨x.pre,x.vo,λa h n=>by
  have:=x.new a h n;by_cases z:a=acc
  ·rw[z];exact b
  ·rw[ZU z]at this;exact this,λa u h n=>x.keep a u (by rw[ZU (ZO h b)];exact h) n (ZO h b)⟩
def X0.tN(x:X0 acc ρ (upd H acc o) ρ1 H1)(b:H acc=none):Kp ρ H ρ1 H1:=⟨x.pre,λa u h n z=>⟨(x.ext b).out h n,(x.ext b).keeps h n⟩⟩
end
theorem LO.set:LO X (ZS X.prog X.w) (aW #[] 0 (.fresh 0 0 (!bK X.w))) (λa=>pX X.prog X.w a []) (λρ _=>ρ) (newSet (.type "set"))where
 ok:=ZS.ok
 nw:=λA E s Q q=>JL q
 lh:=λH h a e=>FN ⟨[],0,.fresh 0 0 (!bK X.w),.refl _,e,⟨.fresh _ _,.inl rfl,rfl,λs h=>(by cases h),Z8 _,λz h=>(by cases h),rfl⟩,by show 0*5<7*3;decide⟩
 fr:=rfl
 j:=λh j=>j.lay _ h
 ev:=λh e=>e.mono (.lay h)
 kp:=λh x=>x.tN h
 st:=λy y=>rfl
 z:=λy y y=>⟨[],rfl,[],rfl,rfl,Z8 _,λc h=>(by cases h)⟩
def Oa
  (q:X.A.units+1<cLine) (hc:X.calm=true) (T:WO X scope cl own js fr) (r:DI X E t0 i0 fi)
  (t:∀b m fp C d I,DG (X.aR b scope (cellsFrom m scope.names cl) (own++fr) fp C d I) E0 t0 fg) (ht:∀b m fp C d I,NW (X.aR b scope (cellsFrom m scope.names cl) (own++fr) fp C d I) E0 f0 ft)
  (u:∀b m fp C d I,DE (X.aR b scope (cellsFrom m scope.names cl) (own++fr) fp C d I) E0 elt fe)
  (hs:∀y,foldedSetIterable i0 X.env y=pure y:=by intro _;rfl) :
  PE X (.SetComp elt [⟨t0,i0,f0,0⟩] scope pos) (tD X.mg E (W6 X) (λk=>fi k>>=λit=>dG (cT fg ft (tH fe) it (aV own.length js k) [])>>=λp=>pure p.2)):=
 Af (bodyK:=λY f=>vW elt (.ref f) Y.env) (W:=λY f P s=>wpAny (model Y.prog Y.w) Y.A (eval elt Y.env) (λx l=>wpAny (model Y.prog Y.w) Y.A (call (.builtin "set.add") [.ref f,x]) (λZ n=>P n) (λZ Z=>False) l) (λZ Z=>False) s) LO.set (.inr ⟨_,_,_,_,rfl⟩) rfl hc T r (λY it f=>Vx ..) (λY f=>QK) (λY f P P' s v h=>Zh h (λx l O=>Zh O (λZ n U=>v _ U) λZ Z z=>z) λZ Z z=>z) t ht
  (λb m fp C d I f ρ H0=>Mz (X:=X.aR b scope (cellsFrom m scope.names cl) (own++fr) fp C d I) rfl q (u ..) ρ H0) hs (λQ f H2 ρ1 lf Mf H4 i o hf nf x4 j4 j ⟨cs,e,c⟩ g=>Go.pure (a:=lf) g i H4 (.ref f) (x4.ext hf) j4 ⟨_,cs,rfl,e▸j,c⟩) (PySem.arm_eval_SetComp ..)
def wU(l:List D):Option D:=(cY l).map λa=>.lst ((xV (qi a)).map tupI)
theorem uJ:∀{cs:A1},(∀c∈cs,c.1∉ρ/\H c.1=some (.tup (c.2.map V.int)))->ZE mg ρ H (cs.map λc=>V.ref c.1) ((cs.map (·.2)).map tupI)
 |[],_=>.nil
 |c::cs,h=>.cons (.tup (h c Zd).1 (h c Zd).2 (ZE.ints _)) (uJ λx a=>h x (Zq _ a))
def Iz
  (t:X.A.handled=none) (u:X.A.units+1<cLine) (v:X.mg "sorted"=none) (hc:X.calm=true) (T:WO X scope cl own js fr) (w:DI X E t0 i0 fi)
  (z:∀a m fp C b I,DG (X.aR a scope (cellsFrom m scope.names cl) (own++fr) fp C b I) E0 t0 fg) (ht:∀a m fp C b I,NW (X.aR a scope (cellsFrom m scope.names cl) (own++fr) fp C b I) E0 f0 ft)
  (O:∀a m fp C b I,DE (X.aR a scope (cellsFrom m scope.names cl) (own++fr) fp C b I) E0 elt fe)
  (hs:∀y,foldedSetIterable i0 X.env y=pure y:=by intro _;rfl) (i:autoParam (Gl X "sorted") qAA) :
  DE X E (.Call (.Name "sorted" p1) [.SetComp elt [⟨t0,i0,f0,0⟩] scope pos] [] ah) (λf=>(fi f>>=λit=>dG (cT fg ft (tH fe) it (aV own.length js f) [])>>=λp=>pure p.2)>>=λl=>rd (λZ=>wU l)):=
 ⟨PE.mono (PJ (Ac t) v (U3 (Oa u hc T w z ht O hs) J5) i) fun σ H Q h=>by
  obtain⟨U,f,M,ev,j,g1⟩:=h;refine⟨U,f,M,ev,j,g1.bind λk H1 M1 x l e1 r c1 g2=>?_⟩
  obtain⟨n,s,rfl,ha,ts,h1,h2,h0,o⟩:=c1;obtain⟨d,e,q⟩:=g2.rd;unfold wU at e;rw[h1]at e;cases e;have le:s.length<=60:=by lia
  refine⟨n,s,rfl,ha,λc hc=>⟨(o c hc).1,(o c hc).2.2⟩,le,λl eS g pm es=>q k _ _ (.lay g) (r.lay _ g) (.lst (r.fresh g) ZT ?_)⟩
  rw[<-h2,<-es];exact(uJ λc hc=>(o c (pm.mem_iff.mp hc)).2).mono (.lay g)⟩
end L3
namespace L2
open PyProof.Rows LS LA LB
def Vu(d:TA):TE:=λe H Q=>d e H λf I=>∃(p:Addr) (a:A1),f=[.ref p]/\I p=some (.lst (a.map λc=>V.ref c.1))/\(∀c∈a,c.2≠[]/\I c.1=some (.tup (c.2.map V.int)))/\a.length<=18/\∀(l:Addr) (b:A1),I l=none->(∀c∈b,c∈a)->b.map (·.2)=xV ((a.foldl dX []).map (·.2))->Q (.ref l) (upd I l (.lst (b.map λc=>V.ref c.1)))
theorem yQ:∀{all:A1}{us:B5},ZN (all.map λc=>V.ref c.1) us->us=all.map λc=>Value.ref c.1
 |[],_,.nil=>rfl
 |c::all,_,.cons r t=>by obtain rfl:_=Value.ref c.1:=r;rw[yQ t];rfl
section
variable{X:Cx}
def Oc(hc:X.calm=true)(hu:X.A.units+8<cLine)(lI:Gl X "sorted")(lP:X.mg "sorted"=none)(hg:Gl X "set")(hm:X.mg "set"=none)(ha:PA X [a] ta)(hs:autoParam (ZH a=true) qAA):
  PE X (.Call (.Name "sorted" p1) [.Call (.Name "set" p2) [a] [] ae] [] ah) (Vu ta):=by
 intro aC s σ H Q I h;have av:starEach [Expr.Call (.Name "set" p2) [a] [] ae] X.env=(false,eval (.Call (.Name "set" p2) [a] [] ae) X.env)::starEach [] X.env:=aZ rfl;refine Call_ (X2 I lI lP qK (w8 ?_ av rfl));rw[av];show wpAny _ _ (spliced ((false,eval (.Call (.Name "set" p2) [a] [] ae) X.env)::[])) _ _ s;refine AY ?_;refine Call_ (X2 I hg hm yo (ZR (YO (ha ae aC s σ H _ I h) λus s1 ⟨vs,H1,I1,r1,q1⟩=>?_) (aZ hs) rfl))
 obtain⟨p,all,e,hp,hT,hl,q⟩:=q1;subst e;cases r1 with
 |cons r rr=>
   cases rr;cases r;obtain⟨_,aE,n,vl,ho⟩:=I1.aI p _ hp;have iv:=yQ vl;subst iv;have hd:=I1.ok.hd hc;have HT:qF X.prog X.w s1.heap all:=λc hc=>xx I1.aI (hT c hc).2
   refine Iu (items:=(all.map λc=>Value.ref c.1).toArray) (all:=all) hd ⟨_,ho,rfl,n,rfl⟩ (by simp) HT hu hl λh1 tk1 g k1=>?_
   refine BF ?_;have fs:∀x∈all.foldl dX [],x∈all:=λx hx=>by simpa using uN all [] (S:=[]) hx (λz=>by cases z)
   have fl:=uM all [];refine uz (s:={s1 with heap:=h1,toks:=tk1}) hd g (λc hc=>?_) (by simp at fl;lia) λh2 da d2 l m eS pm ri bo hol k2=>?_
   ·obtain⟨ne,hc'⟩:=hT c (fs c hc);obtain⟨_,aE,hv,it⟩:=I1.aI _ _ hc';exact⟨ne,aE.toArray,it.keeps λb o e=>k1 b o (YW e) e,by simpa using lJ hv⟩
   ·have sz:s1.z<=l:=by obtain⟨_,_,_,_,hs1,_⟩:=g;exact Zx (NR (YW hs1)) bo
    have kk:∀b o,s1.heap.get? b=some o->h2.get? b=some o:=λb o e=>k2 b o (k1 b o (YW e) e)
    have zl:(eS.map λc=>V.ref c.1).length<=sizeLine:=by
     rw[YT,pm.length_eq];simp at fl;show _<=2^24
     lia
    have vv:∀l:A1,ZN (l.map λc=>V.ref c.1) (l.map λc=>Value.ref c.1):=by
     intro l;induction l with
     |nil=>exact .nil
     |cons c l ih=>exact .cons rfl ih
    have I2:=I1.call (h':=h2) (t':=da) (d':=d2) (g':=s1.gens) (ch:=[]) (Un.laid kk sz (I1.aI.fresh sz)) (I1.aI.laid (o:=.lst (eS.map λc=>V.ref c.1)) kk sz ⟨zl,_,m,vv eS,hol⟩) I1.bare (λy z=>nomatch z)
    exact⟨.ref l,upd H1 l (.lst (eS.map λc=>V.ref c.1)),I2,rfl,q l eS (I1.aI.fresh sz) (λc hc=>fs c (pm.mem_iff.mp hc)) (rK ((pm.map _).trans (fQ _).1.symm) ri (fQ _).2)⟩
end
end L2
namespace L3
open L2 LA LB
theorem Ar:∀(l acc:A1),(l.foldl dX acc).map (·.2)=(l.map (·.2)).foldl fu (acc.map (·.2))
 |[],_=>rfl
 |c::l,acc=>by rw[OF,Ar l,Zj,OF];congr 1;unfold dX fu;split<;>simp
def zp:List D->Mo->Option D
 |[d],M=>(aU d M).bind λl=>if l.length<=18 then wU l else none
 |_,_=>none
set_option tactic.hygienic true in
theorem Gf:∀{ts:A7}{xs:List V},(∀t∈ts,t≠[])->ZE mg ρ H xs (ts.map tupI)->∃all:A1,xs=all.map (λc=>V.ref c.1)/\all.map (·.2)=ts/\∀c∈all,c.2≠[]/\c.1∉ρ/\H c.1=some (.tup (c.2.map V.int))
 |[],_,_,.nil=>⟨[],rfl,rfl,λc h=>by cases h⟩
 |t::ts,_,h,.cons a c=>by
   obtain⟨all,e,f,h3⟩:=Gf (λx g=>h x (.tail _ g)) c
   cases a with
   |tup n i k=>
     rename_i b xs;refine⟨(b,t)::all,by rw[e];rfl,by rw[<-f];rfl,λc d=>?_⟩
     rcases Y5.mp d with rfl|d
     ·exact⟨h t Zd,n,by rw[i,o7 k]⟩
     ·exact h3 c d
section
variable{X:Cx}{E:XK}{a:Expr}{fa:aj->DM (List D)}{p1 p2 ah ae:Pos}
set_option tactic.hygienic true in
def Mr(hc:X.calm=true)(hu:X.A.units+64<cLine)(g:X.mg "sorted"=none)(u:X.mg "set"=none)(w:DA X E [a] fa)(i:autoParam (Gl X "sorted") qAA)(x:autoParam (Gl X "set") qAA)(hs:autoParam (ZH a=true) qAA):
  DE X E (.Call (.Name "sorted" p1) [.Call (.Name "set" p2) [a] [] ae] [] ah) (λm=>fa m>>=λl=>rd (zp l)):=⟨PE.mono (Oc hc (by lia) i g x u w.h.h hs) λσ H Q h=>by
 obtain⟨y,m,M,z,j,I⟩:=h;refine⟨y,m,M,z,j,I.bind λn H1 M1 O ds e1 o U g2=>?_⟩
 obtain⟨d,b,q⟩:=g2.rd;unfold zp at b;split at b
 ·rename_i d0;obtain⟨l0,h0,b⟩:=Y7.mp b;split at b
  ·rename_i hn;unfold wU at b;obtain⟨ts,h1,rfl⟩:=YM.mp b;obtain⟨s,ne⟩:=mR h1;obtain⟨v,rfl,k⟩:=U.one;obtain⟨p,O,rfl,hx,c⟩:=cR o k h0;rw[s]at c;obtain⟨e,rfl,t,r⟩:=Gf ne c;refine⟨p,e,rfl,hx,λc hc=>⟨(r c hc).1,(r c hc).2.2⟩,?_,λl eS f sub es=>q n _ _ (.lay f) (o.lay _ f) (.lst (o.fresh f) ZT ?_)⟩
   ·have:=congrArg List.length t;have:=congrArg List.length s;simp at *
    lia
   ·have b:qi ts=(e.foldl dX []).map (·.2):=by rw[Ar,t];rfl
    rw[b,<-es];exact(uJ λc hc=>(r c (sub c hc)).2).mono (.lay f)
  ·cases b
 ·cases b⟩
end
end L3
namespace L3
open L2
open PyProof.Rows hiding St
end L3
namespace L3
open PyProof.Rows L2
abbrev TB(K:B0)(x:Str):Prop:=W.nsIn K mainGlobals x=some none
def TD(K:B0)(x:Str)(st:Stmt):Prop:=∀{h:Heap}{a:Mg},K.In h->h.Ns mainGlobals a->XZ K a x st
section
variable{K:B0}{x:Str}{st:Stmt}{f:Addr}{oc:Value}{od an:B3}{br:Array B1}{kV doc pm a7 ct:Value}
def WM(a:W.nsIn K mainGlobals x=some (some (.ref f)))(l:K.lookup f=some ⟨oc,od,.func (W.fnOf x x (Y2 st) (ZI st) (ZY st) .none kV doc pm an a7 ct),br⟩)(c:W.codeIn K a7 x=true)(k:W.keepIn K (.ref f)=true):TD K x st:=
 λX G=>Ms X G a l c k
end
section
variable{P:C5}{w:World}{K:B0}{mg:Mg}{base:Heap}{k:Nat}{C:Addr}{c x qual:Str}{N ps:C3}{st:Stmt}{fb:aj->DM Fl}{is:C1}
def VI(T:XZ K mg x st)(S:ZB N ps (ZY st))(b:∀{f a A d s H E},Rm k A x st s f a->Ds P w K mg base N x st f a A d s H E fb)
  (e:∀(kV doc g:Value) (h:B3) (a ct:Value) (us:B5),us.length=ps.length->bindArgs (W.fnOf x x (Y2 st) (ZI st) (ZY st) .none kV doc g h a ct) ⟨us,[]⟩=pure (ps.zip us):=by intro _ _ _ _ _ _ us hl;first|(obtain⟨_,rfl⟩:=kW hl;rfl)|(obtain⟨_,_,rfl⟩:=Bj hl;rfl)|(obtain⟨_,_,_,rfl⟩:=Nq hl;rfl)|(obtain⟨_,_,_,_,rfl⟩:=Nr hl;rfl)) :
  Zs P w K mg base (k+1) x ps (aD ps.length N.length fb):=L3.XZ.nL T S e λz z z z z z z=>b
def AF(fb:Nat->aj->DM Fl)(T:XZ K mg x st)(S:ZB N ps (ZY st))(e:∀ds M r,F ds M=some r->∃n,aD ps.length N.length (fb n) ds M=some r)(b:∀n {f a A d s H E},Rm k A x st s f a->Ds P w K mg base N x st f a A d s H E (fb n))
  (g:∀(kV doc h:Value) (i:B3) (a ct:Value) (us:B5),us.length=ps.length->bindArgs (W.fnOf x x (Y2 st) (ZI st) (ZY st) .none kV doc h i a ct) ⟨us,[]⟩=pure (ps.zip us):=by intro _ _ _ _ _ _ us hl;first|(obtain⟨_,rfl⟩:=kW hl;rfl)|(obtain⟨_,_,rfl⟩:=Bj hl;rfl)|(obtain⟨_,_,_,rfl⟩:=Nq hl;rfl)|(obtain⟨_,_,_,_,rfl⟩:=Nr hl;rfl)) :
  Zs P w K mg base (k+1) x ps F:=L3.XZ.okN T S g e λn z z z z z z z=>b n
def Uu(T:MethAt K C x qual st)(m:mg c=some (.ref C))(cl:L2.Se K C)(S:ZB N ps (ZY st))(a:∀{f d A b s H E},Rm k A qual st s f d->Ds P w K mg base N qual st f d A b s H E fb):X1 P w K mg base (k+1) c x qual st ps (aD ps.length N.length fb):=L3.MethAt.nL T m cl S λz z z z z z z=>a
end
end L3
namespace LA
open PySem PySem.W PySem.Calls LS PyProof.Rows LB
end LA
namespace L2
open PyProof.Rows LS LA LB
end L2
namespace L3
open L2 LA LB LS
open PyProof.Rows hiding St
end L3
namespace L3
open L2
open PyProof.Rows hiding St
end L3
namespace L3
open L2 LB
end L3
namespace L3
open L2
open PyProof.Rows hiding St
section
variable{X:Cx}{E:XK}{a:Expr}{fa:aj->DM D}{fs:aj->DM (List D)}{pos p1 p2 p3 p4:Pos}
noncomputable def nb(b:Bool):Int:=if b=true then 1 else 0
end
end L3
namespace L2
open PyProof.Rows LS
end L2
namespace L3
open L2
structure IL(K:B0)(C:Addr):Prop where
 ne:W.findIn K (.ref C) "__ne__"=some (some (.builtin "object.__ne__"))
 mro:W.mroIn K C (.type "object")=some true
 cc:W.findIn K (.ref C) "__class__"=some (some (.builtin "object.__class__"))
 gs:W.specialIn K (.builtin "object.__class__") "__get__"=some (some (.builtin "getset_descriptor.__get__"))
 tk:W.takesIn K (.builtin "object.__class__")=some true
 ci:((W.clsIn K C).isSome&&W.typeIn K (.ref C)==some (.type "type"))=true
 cls:L2.Se K C
structure Nc(K:B0)(mg:A4)(c:Str):Prop where
 ex:∃C,mg c=some (.ref C)/\IL K C
def KY:∀t∈KU,W.subIn K (.type t) (.ref C)=some false:=by intro t a;simp only[KU,List.mem_cons,List.mem_nil_iff,or_false]at a;rcases a with rfl|rfl|rfl|rfl|rfl|rfl|rfl<;>rfl
def IL.mI(h:IL K C):∀t∈KU,W.kitOne K (.type t) (.ref C)=some false:=by
 intro t a;unfold W.kitOne;rw[YQ (by simp)]
 unfold W.kitCls;dsimp only;rw[YK h.ci];exact KY t a
def nu(c:Str):D->Mo->Bool
 |.obj k _ _,_=>k==c
 |d,M=>(RA d M).isSome
def LC:D->DM D
 |.bl b=>pure (.bl b)
 |_=>stuck
def NP:D->DM D
 |.bl b=>pure (.bl (!b))
 |_=>stuck
def Xb:D->DM D
 |.str x=>pure (.str x)
 |_=>stuck
def mV{α:Type}(p:Mo->Bool)(m:DM α):DM α:=λM=>if p M=true then m M else none
set_option tactic.hygienic true in
def Go.mh(g:Go mg E rel Q ρ H (mV p m) M):p M=true/\Go mg E rel Q ρ H m M:=by
 obtain⟨r,e,q⟩:=g;unfold mV at e;split at e
 ·exact⟨‹_›,r,e,q⟩
 ·cases e
def Kl{X:Cx}{ρ:Rh}{H:Hp}{M:Mo}{c:Str}{C:Addr}{y:V}{d:D}(mc:X.mg c=some (.ref C))(j:J X.mg ρ M H)(cy:Cv X.mg ρ H y d)(h:nu c d M=true):zQ X.K H C y:=by
 cases d with
 |obj k ns vs=>
   have hk:k=c:=by simpa[nu]using h
   subst hk;cases cy with
   |obj hn m hh hl cs=>rw[mc]at m;cases m;exact .inl ⟨_,_,_,rfl,hh⟩
 |_=>have h':=h;simp only[nu]at h';obtain⟨t,ht⟩:=FH.mp h';exact .inr ⟨t,Hu j cy ht,KY t (vB ht)⟩
section
variable{X:Cx}{E:XK}{j k:Nat}{c qual:Str}{st:Stmt}{ps:C3}{F:List D->DM D}
def Yz(c:Str)(F:List D->DM D):List D->DM D
 |[.obj k ns vs]=>if k=c then F [.obj k ns vs]>>=Xb else stuck
 |l=>rd (Wv l)
def Tf(c:Str)(F:List D->DM D):D->D->DM D
 |.obj k ns vs,y=>if k=c then mV (nu c y) (F [.obj k ns vs,y]>>=LC)else stuck
 |x,y=>rd (cM x y)
def Up(c:Str)(F:List D->DM D):D->D->DM D
 |.obj k ns vs,y=>if k=c then mV (nu c y) (F [.obj k ns vs,y]>>=NP)else stuck
 |x,y=>rd (jh x y)
set_option tactic.hygienic true in
def Ux(T:X1 X.prog X.w X.K X.mg X.base j c "__eq__" qual st ps F)(l:ZA k X.A)(hx:YY (bZ X.prog X.w) X E)
  (hb:∀(kV doc pm:Value) (an:B3) (o ct:Value) (us:B5),us.length=ps.length->bindArgs (W.fnOf "__eq__" qual (Y2 st) (ZI st) (ZY st) .none kV doc pm an o ct) ⟨us,[]⟩=pure (ps.zip us))
  (b9:autoParam (j+1<=k) qAB):b8 X E (compareOp .Eq) (Tf c F):=by
 obtain⟨C,f,fd,p,G,B,a,n,cl⟩:=T.ex;have MC:VT X.prog X.w X.K X.mg X.base j C "__eq__" ps (wR X.mg F):=⟨f,fd,G,B.binds hb,B.kp,a,n⟩;intro g s O H x y v u Q I U ry q;obtain⟨ρ,M,dx,dy,j,cx,t,h⟩:=q;unfold Tf at h;split at h
 ·rename_i k' ns ws;split at h
  ·rename_i hk;subst hk;cases cx with
   |obj hn m hh hl cs=>
     rw[p]at m;cases m;obtain⟨hg,h⟩:=h.mh;refine Uw MC l.units (l.mono (by lia)) hx g s O H _ _ v u Q I U ry ⟨_,_,_,rfl,hh,Kl p j t hg,ρ,M,_,.cons (.obj hn p hh hl cs) (.cons t .nil),j,h.bind λz H1 M1 b d e1 j1 c1 i=>?_⟩
     unfold LC at i;split at i
     ·cases c1;exact⟨_,rfl,i.pure z H1 _ .refl j1 (.bl _)⟩
     ·obtain⟨r,e,_⟩:=i;cases e
  ·obtain⟨r,e,_⟩:=h;cases e
 ·exact bN l.units g s O H x y v u Q I U ry ⟨ρ,M,_,_,j,cx,t,h⟩
set_option tactic.hygienic true in
def UJ(T:X1 X.prog X.w X.K X.mg X.base j c "__eq__" qual st ps F)(O:Nc X.K X.mg c)(p:ZA k X.A)(hx:YY (bZ X.prog X.w) X E)
  (hb:∀(kV doc pm:Value) (an:B3) (t ct:Value) (us:B5),us.length=ps.length->bindArgs (W.fnOf "__eq__" qual (Y2 st) (ZI st) (ZY st) .none kV doc pm an t ct) ⟨us,[]⟩=pure (ps.zip us))
  (z:autoParam (j+1<=k) qAB):b8 X E (compareOp .NotEq) (Up c F):=by
 obtain⟨C,f,fd,l,G,B,a,n,cl⟩:=T.ex;obtain⟨C',i,ok⟩:=O.ex;rw[l]at i;cases i;have MC:VT X.prog X.w X.K X.mg X.base j C "__eq__" ps (wR X.mg F):=⟨f,fd,G,B.binds hb,B.kp,a,n⟩;intro g s σ H x y v u Q I rx ry q;obtain⟨ρ,M,dx,dy,j,cx,U,h⟩:=q;unfold Up at h;split at h
 ·rename_i k' ns ws;split at h
  ·rename_i hk;subst hk;cases cx with
   |obj hn m hh hl cs=>
     rw[l]at m;cases m;obtain⟨hg,h⟩:=h.mh;refine UG MC ok.ne ok.mro p.units (p.mono z) hx g s σ H _ _ v u Q I rx ry ⟨_,_,_,rfl,hh,Kl l j U hg,ρ,M,_,.cons (.obj hn l hh hl cs) (.cons U .nil),j,h.bind λρ1 H1 M1 b d e1 j1 c1 o=>?_⟩
     unfold NP at o;split at o
     ·cases c1;exact⟨_,rfl,o.pure ρ1 H1 _ .refl j1 (.bl _)⟩
     ·obtain⟨r,e,_⟩:=o;cases e
  ·obtain⟨r,e,_⟩:=h;cases e
 ·exact dq p.units g s σ H x y v u Q I rx ry ⟨ρ,M,_,_,j,cx,U,h⟩
def uQ(c:Str):List D->Mo->Option D
 |[d,.cls a],M=>if a=c then(if nu c d M=true then some (.bl (match d with | .obj _ _ _=>true|_=>false))else none)else none
 |l,M=>jt l M
set_option tactic.hygienic true in
def yp(O:Nc X.K X.mg c):YE X E (.builtin "isinstance") (λl=>rd (uQ c l)):=by
 obtain⟨C,mc,ok⟩:=O.ex;intro aC s σ H vs us Q I rs q;obtain⟨ρ,M,ds,j,cv,go⟩:=q;by_cases hd:∃d c',ds=[d,.cls c']
 ·obtain⟨d,c',rfl⟩:=hd;obtain⟨r,e,p⟩:=go.rd;simp only[uQ]at e;split at e
  ·rename_i hc;subst hc;split at e
   ·rename_i hg;cases e;obtain⟨v,w,rfl,k1,k2⟩:=cv.two;cases k2 with
    |cls h=>
      rw[mc]at h;cases h;refine Io (by unfold W.kitOne;rw[YK (by simp)]) ok.cc ok.gs ok.tk ok.mro ok.cls aC s σ H _ us Q I rs ⟨_,rfl,?_⟩
      cases d with
      |obj k' ns ws=>
        have hk:k'=c':=by simpa[nu]using hg
        subst hk;cases k1 with
        |obj hn m hh hl cs=>rw[mc]at m;cases m;exact .inl ⟨_,_,_,rfl,hh,p ρ H _ .refl j (.bl _)⟩
      |_=>simp only[nu]at hg;obtain⟨t,ht⟩:=FH.mp hg;exact .inr ⟨t,Hu j k1 ht,ok.mI t (vB ht),p ρ H _ .refl j (.bl _)⟩
   ·cases e
  ·cases e
 ·have e:(rd (uQ c ds):DM D)=rd (jt ds):=by
   congr 1;funext M;unfold uQ;split
   ·exact absurd ⟨_,_,rfl⟩ hd
   ·rfl
  have go':Go X.mg E _ _ ρ H (rd (uQ c ds)) M:=go;rw[e]at go';exact fj aC s σ H vs us Q I rs ⟨ρ,M,_,j,cv,go'⟩
end
end L3
namespace L3
open L2 PyProof.Rows
end L3
namespace L3
open L2
open PyProof.Rows hiding St
structure EV(P:C5)(w:World)(K:B0)(mg:A4)(base:Heap)(k:Nat)(outer:C4)(s:Shared)(H:Hp)(ρ:Rh)(g:Addr)(th:DM D):Prop where
 fn:∀(s2:Shared) (H2:Hp),Un (WU outer) [] H H2 s.heap s2.heap->WV P w H2 s2.heap->W.FnAt g s2.heap
 run:∀(A2:Around) (a6:C4) (s2:Shared) (H2:Hp) (ρ2:Rh) (M2:Mo) (Q:VK) (E:XK),ZA k A2->Wp P w K mg base A2 a6 s2 H2->Un (WU outer) [] H H2 s.heap s2.heap->YR ρ H ρ2 H2->J mg ρ2 M2 H2->
  Go mg E (Cv mg) Q ρ2 H2 th M2->codeAny (model P w) A2 (.call (.ref g) ⟨[],[]⟩) (CR (bZ P w) a6 P w H2 s2 Q E) s2
def R1(i:Nat)(g:Addr)(a:Rh)(I:Hp):L2.St->Rh->Hp->Prop:=λb c H=>b[i]?=some (some (.ref g))/\YR a I c H
abbrev AT:=L2.St->Rh->Hp->Prop
def tA(I:AT)(mg:A4)(E:XK)(f:aj->DM D):TE:=λb H Q=>∃a c M,I b a H/\Ev mg a H b c/\J mg a M H/\Go mg E (Cv mg) Q a H (f c) M
def Qf(I:AT)(mg:A4)(E:XK)(f:aj->DM Fl):TS:=λD b H=>∃a c M,I b a H/\Ev mg a H b c/\J mg a M H/\bz mg E D a H (f c) M
structure AE(X:Cx)(E:XK)(An:AT)(e:Expr)(f:aj->DM D):Prop where
 h:PE X e (tA An X.mg E f)
structure AS(X:Cx)(E:XK)(An:AT)(st:Stmt)(f:aj->DM Fl):Prop where
 h:PS X st (Qf An X.mg E f)
structure AV(X:Cx)(E:XK)(An:AT)(st:List Stmt)(f:aj->DM Fl):Prop where
 h:T1 X st (Qf An X.mg E f)
section
variable{X:Cx}{E:XK}{An:AT}{e:Expr}{fe:aj->DM D}{pos:Pos}{st:Stmt}{rest:List Stmt}{f g:aj->DM Fl}
def Ln{k i:Nat}{y:Str}{p:Pos}{g:Addr}{th:DM D}{ρ₀:Rh}(hr:ZA k X.A)(hx:YY (bZ X.prog X.w) X E)(hT:EV X.prog X.w X.K X.mg X.base k X.outer X.s₀ X.H₀ ρ₀ g th)(hex:autoParam (X.ex=[]) qAA)(hN:autoParam (X.N[i]?=some y) qAA)
  (hv:JE X.env.scope y:=by exact Or.inl rfl) (hd:autoParam ((y==("__debug__":Str))=false) qAB) (bt:autoParam ((y==("__classdict__":Str))=false) qAB) :
  AE X E (R1 i g ρ₀ X.H₀) (.Call (.Name y p) [] [] pos) (λz=>th):=⟨by
 intro aC s σ H Q I h;obtain⟨ρ,δ,M,⟨hσ,ex⟩,ev,j,go⟩:=h;refine FM ?_;refine YO (UF hN hv hd bt aC s σ H (λv H1=>v=.ref g/\H1=H) I ⟨.ref g,hσ,rfl,rfl⟩) λu s1 h1=>?_
 obtain⟨v,H1,I1,r,rfl,rfl⟩:=h1;obtain rfl:u=Value.ref g:=r;have un:Un (WU X.outer) [] X.H₀ H1 X.s₀.heap s1.heap:=by have:=I1.base;rw[hex]at this;exact this
 refine W.callWith_F0 (hT.fn s1 H1 un I1.aI) ?_;refine IQ (MA (hT.run X.A X.stack s1 H1 ρ M Q E hr I1.ib un ex j go) λr s' hq=>?_)
 cases r with
 |error e=>exact hx aC σ H1 s1 e s' I1 hq
 |ok fl=>
   cases fl with
   |ret u=>exact I1.after hq
   |next=>exact False.elim hq
   |brk=>exact False.elim hq
   |cont=>exact False.elim hq⟩
def Su(c:AE X E An e fe):AS X E An (.Return (some e) pos) (λa=>fe a>>=λd=>pure (.rt d)):=⟨PS.mono (L2.QN c.h) λD q H h=>by obtain⟨i,a,M,k,l,j,m⟩:=h;exact⟨i,a,M,k,l,j,m.bind λb I O v d r n o p=>p.pure b I v .refl n o⟩⟩
def DQ(h:AS X E An st f):AV X E An [st] f:=⟨Qb h.h⟩
end
set_option tactic.hygienic true in
def Sv(nl:Nat){ns:C3}{fb:aj->DM Fl}{fh:Str->aj->DM Fl}{fy:Addr->Str->aj->DM Fl}{i:Nat}{w l:List Stmt}(T:NN X.K X.mg ns F)(U:X.calm=true)(u:X.env.cells=[])(hex:X.ex=[])
  (av:X.stack=X.env::X.outer) (nr:X.env.frame=some X.env.locals) (hN:X.N.Nodup) (hi:X.N[i]?=some n) (hk:X.env.kindOf n=some .local) (hm:X.mg x=some (.ref F))
  (hb:∀b Eh,AV (X.hD b Eh) Eh An w fb) (hs:∀c C y oe,c∈ns->X.mg c=some (.ref C)->oe.cls=.ref C->Nw X.K C->SG (X.kF y oe) E0 (b₀::l) (fy y c))
  (hy:∀y c M r,fh c ((List.replicate nl none).set i (some (.dP 0))) M=some r->fy y c ((List.replicate nl none).set i (some (.dP y))) M=some r)
  (tP:autoParam (X.N.length=nl) qAA) (hg:autoParam (Gl X x) qAA) (hd:autoParam ((x==("__debug__":Str))=false) qAB) :
  AS X E An (.Try w [.ExceptHandler (some (.Name x np)) (some n) (b₀::l) p1] [] [] pos) (rZ ns nl i fb fh):=⟨by
 subst tP;intro b s σ H D I h;obtain⟨ρ,δ,M,an,ev,j,g1⟩:=h;let Eh:XK:=λC' o H'=>∃c C g O r,c∈ns/\C'=.ref C/\o=none/\X.mg c=some (.ref C)/\J X.mg g O H'/\(dG (fh c ((List.replicate X.N.length none).set i (some (.dP 0))))>>=N6 i) O=some r/\sS X.mg g H' D E r
 have key:Qf An X.mg Eh fb D σ H:=by
  obtain⟨r,e,p⟩:=g1;unfold rZ at e;split at e
  ·rename_i c O em;split at e;rotate_left
   ·cases e
   rename_i hc;refine⟨ρ,δ,M,an,ev,j,_,em,λg H' C x' j' m=>⟨c,C,g,O,r,AO.mp hc,rfl,rfl,m,j',e,p.mono x'⟩⟩
  ·rename_i em;refine⟨ρ,δ,M,an,ev,j,r,e,?_⟩;obtain⟨r,O⟩:=r;cases r with
   |ok a=>cases a<;>exact p
   |exc c=>exact absurd e (em c O)
 refine L2.UW (Eh:=Eh) (tb:=Qf An X.mg Eh fb) (th:=λy oe D σ H=>∃c C,c∈ns/\X.mg c=some (.ref C)/\oe.cls=.ref C/\Nw X.K C/\tS X.mg E0 (fy y c) D σ H) U u hex av nr hN hi hk hm (λb=>(hb b Eh).h) (λy oe pins' s' σ' H' D' I' q=>?_) hg hd b s σ H D I ⟨key,?_⟩
 ·obtain⟨c,C,hc,m,ho,xa,q⟩:=q;exact(hs c C y oe hc m ho xa).h pins' s' σ' H' D' I' q
 ·rintro y oe C' H1 mG _ ⟨c,C,g,O,r,hc,rfl,_,m,j',e,p⟩;obtain⟨C2,xc,xa,ca⟩:=T.cls c hc;have:C2=C:=by have:=xc.at_;rw[m]at this;cases this;rfl
  subst this;refine⟨⟨C2,rfl,ca⟩,c,C2,hc,m,mG,xa,g,(List.replicate X.N.length none).set i (some (.dP y)),O,?_,j',?_⟩
  ·refine⟨by simp,λk d q=>?_⟩
   by_cases hk':k=i
   ·subst hk';have hl:k<(List.replicate X.N.length (none:Option L3.D)).length:=by have:=(YJ.mp q).1;rw[OZ]at this;exact this
    rw[Zr hl]at q;cases q;refine⟨.ref y,Zr ?_,.dP y⟩;rw[JO]at hl ⊢;exact hl
   ·rw[Zz (λz=>hk' z.symm),FU]at q
    split at q<;>cases q
  ·have e:DM.bind _ _ O=some r:=e;unfold DM.bind at e;split at e
   ·cases e
   ·rename_i em;obtain⟨_,_,_,z⟩:=wj em;cases z
   ·rename_i a M'' em0;obtain⟨a',M3,em,z⟩:=wj em0;cases z;refine⟨_,hy y c _ _ em,?_⟩;cases a with
    |nx δ2=>cases e;exactλf H2 t a1 a2 a3=>p f H2 (t.set i none) a1 a2 a3.forget
    |bk δ2=>cases e;exactλf H2 t a1 a2 a3=>p f H2 (t.set i none) a1 a2 a3.forget
    |ct δ2=>cases e;exactλf H2 t a1 a2 a3=>p f H2 (t.set i none) a1 a2 a3.forget
    |rt d=>cases e;exactλf H2 v a1 a2 a3=>p f H2 v a1 a2 a3⟩
structure LZ(P:C5)(w:World)(K:B0)(mg:A4)(base:Heap)(k:Nat)(x:Str)(Fh:DM D->DM D):Prop where
 ex:∃f,mg x=some (.ref f)/\W.keepIn K (.ref f)=true/\∀(A:Around) (outer:C4) (s:Shared) (H:Hp) (ρ:Rh) (M:Mo) (g:Addr) (th:DM D) (Q:VK) (E:XK),ZA (k+1) A->Wp P w K mg base A outer s H->
  EV P w K mg base k outer s H ρ g th->J mg ρ M H->Go mg E (Cv mg) Q ρ H (Fh th) M->codeAny (model P w) A (.call (.ref f) ⟨[.ref g],[]⟩) (CR (bZ P w) outer P w H s Q E) s
def za(n:Nat)(fb:DM D->aj->DM Fl)(th:DM D):DM D:=fb th (List.replicate n none)>>=λr=>match r with
 |.nx _=>pure .aT
 |.rt d=>pure d
 |_=>stuck
section
variable{P:C5}{w:World}{K:B0}{mg:A4}{base:Heap}{k:Nat}{x y:Str}{N:C3}{st:Stmt}
set_option tactic.hygienic true in
def Yd(T:XZ K mg x st)(S:ZB N [y] (ZY st))
  (o:∀{f n A l s H E ρ g th},ZA k (A.deeper (envOfC x (ZY st) s.z f n))->EV P w K mg base k l s H ρ g th->
    AV (bQ P w K mg base N x (ZY st) f n A l s H E) E (R1 0 g ρ H) (ZI st) (fb th))
  (hb:∀(kV doc pm:Value) (an:B3) (n ct u:Value),bindArgs (W.fnOf x x (Y2 st) (ZI st) (ZY st) .none kV doc pm an n ct) ⟨[u],[]⟩=pure ([y].zip [u]):=by intros;rfl):LZ P w K mg base k x (za N.length fb):=by
 obtain⟨f,fd,F,m⟩:=T.ex;refine⟨f,m,F.kp,λA l s H ρ M g th Q E hr e0 z j go=>?_⟩
 have hN:1<=N.length:=by have:=congrArg List.length S.pre;rw[LW]at this;simp at this;lia
 refine Ry (us:=[.ref g]) (vs:=[.ref g]) F S e0 hr (λZ Z Z Z Z Z=>hb _ _ _ _ _ _ _) rfl (.cons rfl .nil) λn I=>⟨_,(o I z).h,ρ,List.replicate N.length none,M,⟨rfl,.refl⟩,⟨?_,λi d q=>?_⟩,j,?_⟩
 ·unfold L2.start;simp;lia
 ·rw[FU]at q;split at q<;>cases q
 ·obtain⟨r,e,p⟩:=go;have e:DM.bind _ _ M=some r:=e;unfold DM.bind at e;split at e
  ·cases e
  ·rename_i c M' O;cases e;exact⟨_,O,p⟩
  ·rename_i a M' O;refine⟨_,O,?_⟩;cases a with
   |nx v=>cases e;exactλt U b x j c=>p t U .aT x j .aT
   |rt d=>cases e;exactλt U b x j c=>p t U b x j c
   |bk v=>cases e
   |ct v=>cases e
end
structure C8(X:Cx)(scope:Scope)(cl:A9)(js:C0)(fr:C3):Prop where
 ok:Nl scope cl fr
 ko:closureFor scope X.env=pure cl
 sub:∀y c,cl.lookup y=some c->X.env.cells.lookup y=some c
 len:js.length=fr.length
 ll:∀(k j:Nat) (y:Str),js[k]?=some j->fr[k]?=some y->X.N[j]?=some y/\X.env.scope.names.lookup y=some .cell/\∃c,cl.lookup y=some c
def Ly{X:Cx}{d:Scope}{cl:A9}{js:C0}{fr:C3}{f:A8}{g:L2.St}{H O:Hp}{s k:Shared}(T:C8 X d cl js fr)(l:∀x,X.fn x=true)(I:Inv X f g H s)(U:Un (WU X.stack) [] H O s.heap k.heap):S2 cl fr (TK js g) O k.heap:=by
 have m:∀y c,cl.lookup y=some c->c∉WU X.stack:=λy c e hm=>by
  rcases Y5.mp (I.dn c hm)with z|z
  ·exact I.iO y c (T.sub _ _ e) z
  ·obtain⟨_,o,h,_⟩:=I.ok.dE.mem z;exact absurd (YW h) (PR.mpr (I.ok.jS y c (l y) (T.sub _ _ e)))
 have kp:∀y c v,cl.lookup y=some c->s.heap.IsCell c v->k.heap.IsCell c v:=λy c v e ⟨o,h,hd⟩=>⟨o,U.keep c o h (I.bT y c (T.sub _ _ e)) (m y c e) (by simp),hd⟩
 refine⟨λx y c n b=>I.ok.inj x y c (T.sub _ _ n) (T.sub _ _ b),λx c e=>?_,λx c e=>?_,λi x v n b=>?_,?_⟩
 ·obtain⟨v,z⟩:=I.cell x c (T.sub _ _ e);exact⟨v,kp x c v e z⟩
 ·obtain⟨v,o,h,_⟩:=I.cell x c (T.sub _ _ e);exact U.free c o h (I.bT x c (T.sub _ _ e)) (by simp)
 ·unfold TK at b;rw[Y8]at b;cases hj:js[i]? with
  |none=>rw[hj]at b;cases b
  |some j=>
    rw[hj]at b;have a:(g[j]?).getD none=some v:=Y4 b;have p:g[j]?=some (some v):=by
     cases z:g[j]? with
     |none=>rw[z]at a;cases a
     |some w=>rw[z]at a;exact congrArg some a
    obtain⟨g1,g2,c,t⟩:=T.ll i j x hj n;obtain⟨mX,_,hl⟩:=I.loc;obtain⟨u,r,q⟩:=hl j x v g1 p (.inr (.inl g2));refine⟨u,c,r,t,kp x c _ t ?_⟩;rcases q with⟨q,_⟩|⟨_,c2,e2,z⟩
    ·have:X.env.scope.names.lookup x=some .local:=q;rw[g2]at this;cases this
    ·rw[T.sub _ _ t]at e2;cases e2;exact z
 ·unfold TK;rw[YT];exact T.len
def S6(js:C0)(fr:C3)(Hd:LZ X.prog X.w X.K X.mg X.base (k+1) fx Fh)(hr:ZA j X.A)(hx:YY (bZ X.prog X.w) X E)
  (T:QU X.mg X.base c P) (bt:X.env.code=.ref c) (hP:∃ps,X.H₀ P=some (.eT ps))
  (l:∀{d g cd A m s H E},ZA k (A.deeper (W.envX d scope s.z g cd cl))->DE (qb X.prog X.w X.K X.mg X.base fr d scope g cd cl A m s H E) E body tb) (L:C8 X scope cl js fr) (b9:autoParam (k+2<=j) qAB) (kN:∀x,X.fn x=true:=by intros;rfl)
  (t:autoParam (defaultsOf params X.env=([],[])) qAA) (n:∀d pm cv v,bindArgs (W.kla_fn "<lambda>" d params body scope cl pm cv v) ⟨[],[]⟩=pure []:=by intros;rfl) (hg:autoParam (Gl X fx) qAA) (n9:autoParam ((fx==("__debug__":Str))=false) qAB) :
  DE X E (.Call (.Name fx p) [.Lambda params body scope lpos] [] pos) (λq=>Fh (tb (cZ js q))):=⟨by
 obtain⟨f,hm,hkp,run⟩:=Hd.ex;intro i s σ H Q I h;obtain⟨y,q,M,ev,jj,go⟩:=h;refine FM (WE I hg hm ?_ n9);obtain⟨ps0,hP0⟩:=hP;obtain⟨more,hPt⟩:=I.base.eA P ps0 hP0;have pl:PE X (.Lambda params body scope lpos) (Vs P params body scope cl):=UV bt T.hd T.ne T.bl L.ko t;refine At (h₀:=X.base) I.ok.mod.iL hkp (YO (By pl UE rfl pos i s σ H (λvs H1=>∃g,vs=[.ref g]/\H g=none/\VU H H1/\sO H1 g params body scope cl) I ⟨⟨_,hPt⟩,λg H1 a b c=>⟨g,rfl,a,b,c⟩⟩) λus s1 h1=>?_) (aZ rfl) rfl
 obtain⟨vs,H1,O,r,g,rfl,hgn,S,La⟩:=h1;refine⟨O.cE,?_⟩;obtain⟨u,rfl,ru⟩:∃u,us=[u]/\RelV (.ref g) u:=by
  cases r with
  |cons r1 r2=>cases r2;exact⟨_,rfl,r1⟩
 obtain rfl:u=Value.ref g:=ru;have x1:YR y H y H1:=.same S;have go1:Go X.mg E (Cv X.mg) Q y H1 (Fh (tb (cZ js q))) M:=let⟨r,e,p⟩:=go;⟨r,e,p.mono x1⟩
 have th:EV X.prog X.w X.K X.mg X.base (k+1) X.stack s1 H1 y g (tb (cZ js q)):=by
  refine⟨λs2 H2 un ok=>?_,λA2 a6 s2 H2 z M2 Q2 E2 hr2 e2 un ex2 j2 En=>?_⟩
  ·obtain⟨d,pm,cv,v,hgl,_⟩:=La;exact⟨_,_,_,_,(ok g _ (un.ey g _ _ hgl)).1⟩
  ·refine Rz L.ok e2 hr2 (La.mono λb o e=>un.ey b o _ e) (Ly L kN O un) n λd cd hr3=>⟨_,(l hr3).h,z,cZ js q,M2,?_,j2,En⟩
   have:=Ek ((ev.mono x1).mono ex2) 0 js;show Ev X.mg z H2 (TK js σ) (cZ js q);simpa[aV]using this
 refine IQ (MA (run X.A X.stack s1 H1 y M g _ Q E (hr.mono b9) O.ib th (jj.same S) go1) λr s' U=>?_)
 cases r with
 |error e=>exact hx i σ H1 s1 e s' O U
 |ok fl=>
   cases fl with
   |ret u=>exact O.after U
   |next=>exact False.elim U
   |brk=>exact False.elim U
   |cont=>exact False.elim U⟩
open L2
open PyProof.Rows hiding St
end L3
namespace L2
open PyProof.Rows LS
end L2
namespace L3
open L2
open PyProof.Rows hiding St
open L2
open PyProof.Rows hiding St
end L3
namespace L3
open PyProof.Rows L2
end L3
namespace L3
open L2 LA LB LS
open PyProof.Rows hiding St
end L3
namespace L3
open L2
open PyProof.Rows hiding St
variable{X:Cx}{E:XK}
end L3
namespace L3
open PyProof.Rows L2
end L3
namespace L3
open L2
open PyProof.Rows hiding St
end L3
namespace L3
open L2
end L3
namespace L2
open PyProof.Rows
end L2
namespace L3
open L2
end L3
namespace L3
open L2
open PyProof.Rows hiding St
def uK:DE X E e (λz=>stuck):=⟨by intro a s c H D I h;obtain⟨d,f,M,g,j,b⟩:=h;obtain⟨r,e,_⟩:=b;cases e⟩
abbrev Ph(P:C5)(w:World)(K:B0)(mg:A4)(base:Heap)(N:C3)(c:Str)(a:Scope)(f:Addr)(d:Value)(A:Around)(b:C4)(s:Shared)(H:Hp):Cx:=
 {bQ P w K mg base N c a f d A b s H E0 with calm:=false,xe:=λ_ _=>False}
section
variable{P:C5}{w:World}{K:B0}{mg:A4}{base:Heap}{A:Around}{outer:C4}{s:Shared}{H:Hp}{k:Nat}
def Inv.toN(I:Inv (bQ P w K mg base N qual scope f cd A outer s H E) aC σ H1 s1):Inv (Ph P w K mg base N qual scope f cd (A.mark y) outer s H) aC σ H1 s1:=
 ⟨⟨I.ok.mod,I.ok.kind,I.ok.glob,I.ok.blt,I.ok.above,I.ok.inj,I.ok.has,I.ok.jS,λz=>(by cases z),I.ok.frames,I.ok.kB,I.ok.kM,I.ok.bs,I.ok.gV,I.ok.gX,I.ok.h7,I.ok.dE,I.ok.h8⟩,I.os,I.bare,I.base,I.loc,I.cell,I.free,I.bT,I.pin,I.aI,I.len⟩
def Rw{x:Str}{st:Stmt}{f:Addr}{fd:FuncData}{N ps:C3}{us:B5}{vs:List V}{y:B1}{Q:VK}{E:XK}(F:P8 K x x st f fd)(S:ZB N ps (ZY st))(c:Wp P w K mg base (A.mark y) outer s H)(i:ZA (k+1) A)
  (hb:∀(kV doc p:Value) (z:B3) (a ct:Value),bindArgs (W.fnOf x x (Y2 st) (ZI st) (ZY st) .none kV doc p z a ct) ⟨us,[]⟩=pure (ps.zip us)) (hl:vs.length=ps.length) (r:ZN vs us)
  (d:∀a,ZA k (A.deeper (envOfC x (ZY st) s.z f a))->∃t,T1 (Ph P w K mg base N x (ZY st) f a (A.mark y) outer s H) (ZI st) t/\t {nx:=λZ O=>Q .aT O,rt:=Q} (L2.start N vs) H) :
  codeAny (model P w) (A.mark y) (.call (.ref f) ⟨us,[]⟩) (CR (bZ P w) outer P w H s Q E) s:=by
 obtain⟨oc,od,kV,doc,p,z,a,ct,br,rfl,lk,j⟩:=F.ex;have U:K.In s.heap:=c.mod.iL.keeps λb o e=>(c.bs b o e).1
 have l:s.heap.NoLimit:=c.mod.nolimit.keeps λb o e=>(c.bs b o e).1
 have g:∀y∈ps.zip us,(ZY st).names.lookup y.1=some .local\/((ZY st).names.lookup y.1=some .cell/\((cellsFrom (s.z+1) (ZY st).names []).lookup y.1).isSome=true):=λ⟨n,v⟩ hy=>by
  rcases S.par n (FY hy).1 with q|q
  ·exact .inl q
  ·exact .inr ⟨q,x0 _ _ _ (.inl q)⟩
 refine xt i.depth (U _ _ lk) rfl S.co S.gen rfl (W.codeRec_of U j) ?_;rw[hb];refine YG (wT S.kind g λenv he s1 x=>?_)
 subst he;refine⟨l.keeps x.toInCall.keep,codeAny_func ?_⟩;obtain⟨t,ht,hq⟩:=d a (i.deeper _);have e1:Wp P w K mg base A outer s H:=⟨c.frames,c.mod,c.bs,c.gV,c.dE,c.h8,c.aI,c.bare⟩;have I:=U2 (CX:=bZ P w) (E:=E) S i.hd e1 hl r x;refine Zh (ht [] s1 (L2.start N vs) H _ (Inv.toN I) hq) (λfl s' h=>?_) λe s' h=>h.elim
 cases fl with
 |ret u=>obtain⟨v,m,O,J,rv,q⟩:=h;exact⟨v,O,J.os,J.bare,J.base,J.aI,rv,q⟩
 |next=>obtain⟨m,O,J,q⟩:=h;exact⟨V.aT,O,J.os,J.bare,J.base,J.aI,(rfl:RelV .aT Value.none),q⟩
 |brk=>obtain⟨_,_,_,q⟩:=h;exact False.elim q
 |cont=>obtain⟨_,_,_,q⟩:=h;exact False.elim q
end
abbrev G4:List String:=["LookupError","TypeError","ArithmeticError","RuntimeError"]
structure FI(K:B0)(mg:A4)(ns:C3)(c:Str)(C:Addr):Prop where
 xa:Nw K C
 mI:∀k∈ns,∀D,mg k=some (.ref D)->W.kitOne K (.ref C) (.ref D)=some (c==k)
 val:W.kitOne K (.ref C) (.type "ValueError")=some true
 tT:W.kitAny K (.ref C) (G4.map Value.type)=some false
def I8:D->B3
 |.dP a=>some a
 |_=>none
def Ti(h:I8 d=some y):d=.dP y:=by
 unfold I8 at h;split at h
 ·cases h;rfl
 ·cases h
noncomputable def Qj:D->Option String
 |.ty t=>some t
 |_=>none
def Vy(h:Qj d=some t):d=.ty t:=by
 unfold Qj at h;split at h
 ·cases h;rfl
 ·cases h
def TY(ns:C3)(c:Str):D->Option D
 |.cls k=>if ns.contains k then some (.bl (c==k))else none
 |.ty t=>if t = "ValueError" then some (.bl true)else none
 |.tup l=>if l.map Qj=G4.map some then some (.bl false)else none
 |_=>none
def Be(ns:C3)(y:Addr)(c:Str):List D->Mo->Option D
 |[d,k],_=>if I8 d=some y then TY ns c k else none
 |_,_=>none
theorem Ld:∀{l:List D}{ts:List String},l.map Qj=ts.map some->l=ts.map D.ty
 |[],[],_=>rfl
 |[],_::_,h=>by cases h
 |_::_,[],h=>by cases h
 |d::l,t::ts,h=>by rw[Zj,Zj]at h;rw[Vy (List.cons.inj h).1,Ld (List.cons.inj h).2];rfl
theorem DY:∀{ts:List String}{xs:List V},ZE mg ρ H xs (ts.map D.ty)->xs=ts.map V.ty
 |[],_,.nil=>rfl
 |_::_,_,.cons a t=>by cases a;rw[DY t];rfl
theorem CZ:∀{ts:List String}{us:B5},ZN (ts.map V.ty) us->us=ts.map Value.type
 |[],_,.nil=>rfl
 |_::_,_,.cons a t=>by cases a;rw[CZ t];rfl
set_option tactic.hygienic true in
def aX(T:FI X.K X.mg ns c C)(ho:oe.cls=.ref C)(h0:X.s₀.heap.get? y=some oe)(hn:X.H₀ y=none)(hf:y∉X.fs)(k:autoParam (X.ex=[]) qAA):YE X E (.builtin "isinstance") (λl=>rd (Be ns y c l)):=by
 intro f s σ H vs us Q I rs q;obtain⟨ρ,M,ds,j,cs,go⟩:=q;obtain⟨d,e,p⟩:=go.rd;have m:s.heap.get? y=some oe:=I.base.keep y oe h0 hn hf (by rw[k];simp)
 unfold Be at e;split at e;rotate_left
 ·cases e
 split at e;rotate_left
 ·cases e
 rename_i hk;obtain rfl:=Ti hk;obtain⟨v,w,rfl,k1,r⟩:=cs.two;obtain⟨u,w',rfl,r1,t⟩:=vals2 rs;cases k1;cases r1;have Z:=Nm (x:=y) T.xa ho;have a:∀b,d=.bl b->∀tk,EP X f σ Q (.bool b) {s with toks:=tk}:=λb e tk=>⟨.bl b,H,I.tok _,rfl,p ρ H _ .refl j (e ▸ .bl b)⟩
 unfold TY at e;split at e
 ·split at e
  ·rename_i g;cases r with|cls h=>
   cases t;exact OH Z I.cE m (T.mI _ (AO.mp g) _ h) (λz=>nomatch z) (a _ (Y4 e).symm)
  ·cases e
 ·split at e
  ·rename_i g;subst g;cases r;cases t;exact OH Z I.cE m T.val (λz=>nomatch z) (a _ (Y4 e).symm)
  ·cases e
 ·split at e
  ·rename_i g;obtain rfl:=Ld g;cases r with|tup hna ha cc=>
   cases t;rw[DY cc]at ha;obtain⟨_,aE,rv,o,O,U,n,i⟩:=I.aI _ _ ha;rw[CZ rv]at i;obtain⟨o1,o2,o3,o4⟩:=o;cases U;cases i;exact W.kia_tup Z I.cE m O T.tT (λz=>nomatch z) (a _ (Y4 e).symm)
  ·cases e
 ·cases e
structure Ll(P:C5)(w:World)(K:B0)(mg:A4)(base:Heap)(k:Nat)(x:Str)(rs:C3)(W:Str->D):Prop where
 ex:∃f,mg x=some (.ref f)/\PySem.W.keepIn K (.ref f)=true/\∀(A:Around) (outer:C4) (s:Shared) (H:Hp) (ρ:Rh) (M:Mo) (y:Addr) (oe:Obj) (c:Str) (C:Addr) (Q:VK) (E:XK),ZA (k+1) A->Wp P w K mg base (A.mark (some (.ref y))) outer s H->
  s.heap.get? y=some oe->H y=none->y∉WU outer->c∈rs->mg c=some (.ref C)->oe.cls=.ref C->J mg ρ M H->Go mg E (Cv mg) Q ρ H (pure (W c)) M->
  codeAny (model P w) (A.mark (some (.ref y))) (.call (.ref f) ⟨[.ref y],[]⟩) (CR (bZ P w) outer P w H s Q E) s
section
variable{P:C5}{w:World}{K:B0}{mg:A4}{base:Heap}{k:Nat}{x p:Str}{N:C3}{st:Stmt}{rs ns:C3}{W:Str->D}
def Yc{fb:Addr->Str->aj->DM Fl}(T:XZ K mg x st)(S:ZB N [p] (ZY st))(n:∀c∈rs,∀C,mg c=some (.ref C)->FI K mg ns c C)
  (o:∀y c,c∈rs->fb y c (bu N.length [.dP y])=pure (.rt (W c)))
  (d:∀{f:Addr}{b:Value}{A:Around}{a:C4}{s:Shared}{H:Hp}{y:Addr}{oe:Obj}{c:Str}{C:Addr},ZA k (A.deeper (envOfC x (ZY st) s.z f b))->FI K mg ns c C->oe.cls=.ref C->s.heap.get? y=some oe->H y=none->y∉WU a->
    SG (Ph P w K mg base N x (ZY st) f b (A.mark (some (.ref y))) a s H) E0 (ZI st) (fb y c))
  (t:∀(kV doc z:Value) (I:B3) (b ct u:Value),bindArgs (PySem.W.fnOf x x (Y2 st) (ZI st) (ZY st) .none kV doc z I b ct) ⟨[u],[]⟩=pure ([p].zip [u]):=by intros;rfl):Ll P w K mg base k x rs W:=by
 obtain⟨f,fd,F,m⟩:=T.ex;refine⟨f,m,F.kp,λA a s H O M y oe c C Q E U e0 hy hn hf l hm ho j go=>?_⟩
 refine Rw (us:=[.ref y]) (vs:=[.ref y]) F S e0 U (λZ Z Z Z Z Z=>t _ _ _ _ _ _ _) rfl (.cons rfl .nil) λb g=>⟨_,(d (c:=c) g (n c l C hm) ho hy hn hf).h,O,bu N.length [.dP y],M,iJ (.cons (.dP y) .nil),j,?_⟩
 obtain⟨r,e,q⟩:=go;cases e;exact⟨(.ok (.rt (W c)),M),by rw[o y c l];rfl,λi H1 v x j c=>q i H1 v x j c⟩
end
set_option tactic.hygienic true in
def QF(hr:ZA k X.A)(Fg:Ll X.prog X.w X.K X.mg X.base j x rs W)(hc:c∈rs)(hm:X.mg c=some (.ref C))(ho:oe.cls=.ref C)(b9:autoParam (j+1<=k) qAB)(hN:autoParam (X.N[i]?=some n) qAA)
  (hv:JE X.env.scope n:=by exact Or.inl rfl) (hd:autoParam ((n==("__debug__":Str))=false) qAB) (bt:autoParam ((n==("__classdict__":Str))=false) qAB) (hg:autoParam (Gl X x) qAA) (n9:autoParam ((x==("__debug__":Str))=false) qAB) :
  SG (X.kF y oe) E0 [.Return (some (.Call (.Name x p) [.Name n p2] [] pos)) ae] (λm=>cF i m>>=λd=>match d with
   |.dP a=>if a==y then pure (.rt (W c))else stuck
   |_=>stuck):=by
 refine au ⟨PS.mono (L2.QN (te:=λσ H Q=>∃l M,σ[i]?=some (some (.ref y))/\J X.mg l M H/\Go X.mg E0 (Cv X.mg) Q l H (pure (W c)) M) ?_) λD σ H h=>?_⟩
 ·obtain⟨f,hf,hkp,run⟩:=Fg.ex;intro t s σ H Q I h;obtain⟨l,M,hσ,j,go⟩:=h;refine FM (WE I hg hf ?_ n9);refine At (h₀:=X.base) I.ok.mod.iL hkp (YO (By (X:=X.kF y oe) (UF hN hv hd bt) UE rfl pos t s σ H (λvs O=>vs=[.ref y]/\O=H) I ⟨.ref y,hσ,rfl,rfl⟩) λus s1 h1=>?_) (aZ rfl) rfl
  obtain⟨vs,O,U,r,rfl,rfl⟩:=h1;refine⟨U.cE,?_⟩;obtain⟨u,rfl,ru⟩:∃u,us=[u]/\RelV (.ref y) u:=by
   cases r with
   |cons r1 r2=>cases r2;exact⟨_,rfl,r1⟩
  obtain rfl:u=Value.ref y:=ru;obtain⟨e1,e2,e3,e4,_⟩:=U.pin (y,oe) (Z2 _ (ZC _ Zd));have hns:y∉WU X.stack:=λhm=>by
   rcases Y5.mp (U.dn y hm)with z|z
   ·exact e3 z
   ·exact e4 z
  refine IQ (MA (run X.A X.stack s1 O l M y oe c C Q E0 (hr.mono b9) U.ib e1 e2 hns hc hm ho j go) λr s' hq=>?_)
  cases r with
  |error e=>obtain⟨_,_,_,_,_,_,_,_,_,_,_,_,_,q⟩:=hq;exact q.elim
  |ok fl=>
    cases fl with
    |ret u=>exact U.after hq
    |next=>exact False.elim hq
    |brk=>exact False.elim hq
    |cont=>exact False.elim hq
 ·obtain⟨l,m,M,ev,j,g1⟩:=h;obtain⟨r,e,q⟩:=g1;have e:DM.bind (cF i m) _ M=some r:=e;rename_i e0;clear e0;unfold DM.bind at e;split at e
  ·cases e
  ·rename_i c' M' em;unfold cF at em;obtain⟨_,_,z⟩:=YM.mp em;cases z
  ·rename_i a M' em;obtain⟨d,g,z⟩:=YM.mp em;cases z;have hδ:m[i]?=some (some a):=by
    cases z:m[i]? with
    |none=>rw[z]at g;cases g
    |some o=>rw[z]at g;cases o with
      |none=>cases g
      |some b=>cases g;rfl
   obtain⟨v,hv',cv⟩:=ev.val i a hδ;dsimp only at e;split at e
   ·split at e
    ·rename_i a hay;obtain rfl:=JU.mp hay;have e':=Y4 e;subst e';cases cv;exact⟨l,M,hv',j,_,rfl,λρ1 O v x j c=>q ρ1 O v x j c⟩
    ·cases e
   ·cases e
section
variable{X:Cx}{E:XK}{An:AT}{e:Expr}{fe:aj->DM D}{pos:Pos}
def Qm{x1}(i:PE X a (tC (.str wd)))(k:AE X E An e fe)(h1:autoParam (ZH a=true) qAA)(h2:autoParam (ZH e=true) qAA):AE X E An (.Tuple [a,e] x1 pos) (λc=>fe c>>=λd=>pure (.tup [.str wd,d])):=
 ⟨PE.mono (L2.NC (By i (By k.h UE h2) h1)) fun s H Q h=>by obtain⟨l,c,M,m,n,j,o⟩:=h;exact⟨l,c,M,m,n,j,o.bind λf I O v d t g q r=>⟨by show 2<=sizeLine;decide,λp b=>r.pure f _ _ (.lay b) (g.lay _ b) (.tup (g.fresh b) ZT (ZE.mono (.lay b) (.cons (.str wd) (.cons q .nil))))⟩⟩⟩
end
structure LX(P:C5)(w:World)(K:B0)(mg:A4)(base:Heap)(k:Nat)(x:Str)(ps:C3)(Pt:Addr)(F:List D->DM D):Prop where
 h:N3 P w K mg base k x ps (λvs H Q E=>wR mg F vs H Q E/\∃qs,H Pt=some (.eT qs))
def Ye{P:C5}{w:World}{K:B0}{mg:A4}{base:Heap}{k:Nat}{x:Str}{N ps:C3}{st:Stmt}{fb:aj->DM Fl}{I c:Addr}{h:Heap}(T:XZ K mg x st)(S:ZB N ps (ZY st))(X:K.In h)(G:h.Ns mainGlobals mg)(ht:W.tabIn K x=some (c,I))
  (d:∀{f a A b s H E},(∃n,H I=some (.eT n))->a=.ref c->Rm k A x st s f a->Ds P w K mg base N x st f a A b s H E fb)
  (o:∀(kV doc e:Value) (i:B3) (a ct:Value) (us:B5),us.length=ps.length->bindArgs (W.fnOf x x (Y2 st) (ZI st) (ZY st) .none kV doc e i a ct) ⟨us,[]⟩=pure (ps.zip us):=by intro _ _ _ _ _ _ us hl;first|(obtain⟨_,rfl⟩:=kW hl;rfl)|(obtain⟨_,_,rfl⟩:=Bj hl;rfl)|(obtain⟨_,_,_,rfl⟩:=Nq hl;rfl)|(obtain⟨_,_,_,_,rfl⟩:=Nr hl;rfl)) :
  LX P w K mg base (k+1) x ps I (aD ps.length N.length fb):=by
 obtain⟨f,z,F,m⟩:=T.ex;have p:=F.lT X G m ht;have O:=F.binds o;have U:=F.kp;obtain⟨oc,od,kV,doc,e,i,a,ct,q,rfl,r,t⟩:=F.ex;obtain rfl:a=.ref c:=p;refine⟨f,_,PU r t S (λu H Q E h=>?_) λA b s H u Q E v h=>?_,O,U,m⟩
 ·obtain⟨⟨l,M,y,c,j,g⟩,_⟩:=h;rw[c.len];exact(bz.aD g).1
 obtain⟨⟨l,M,y,c,j,g⟩,ht⟩:=h;exact⟨_,(d ht rfl v).h,l,_,M,iJ c,j,(bz.aD g).2⟩
def Wc(j:J mg ρ M H)(h:H a=some (HO.eT qs)):a∉ρ.st:=λz=>by
 obtain⟨n,hn,e⟩:=ZV.mp z;have hm:n<M.length:=by rw[<-j.len];exact hn
 have c:=j.obj n a M[n] (by rw[YS hn,e]) (YS hm)
 cases hM:M[n]with
 |lst l=>rw[hM]at c;obtain⟨_,c,_⟩:=c;rw[h]at c;cases c
 |bG ks l=>rw[hM]at c;obtain⟨_,c,_⟩:=c;rw[h]at c;cases c
 |ins cc ns l=>rw[hM]at c;obtain⟨_,_,_,_,c,_⟩:=c;rw[h]at c;cases c
def Mm(D:LX X.prog X.w X.K X.mg X.base j x ps O F)(o:∃c,X.H₀ O=some (.eT c))(q:ZA k X.A)(r:YY (bZ X.prog X.w) X E)(t:DA X E (e::es) fs)(d:autoParam (j<=k) qAB)(u:autoParam (Gl X x) qAA)(f:autoParam ((x==("__debug__":Str))=false) qAB)
  (v:autoParam (ZH e=true) qAA) (g:autoParam ((backTo pos (starEach es X.env)).any (·.1)=false) qAA) :
  DE X E (.Call (.Name x p) (e::es) [] pos) (λi=>fs i>>=F):=⟨λa s y H Q I h=>by
 obtain⟨c,b⟩:=o;obtain⟨n,b⟩:=I.base.eA O c b;refine yL D.h q r t.h d u f v g a s y H Q I ?_;obtain⟨z,i,M,U,j,g1⟩:=h;refine⟨z,i,M,U,j,g1.bind λl H1 M1 xs m e1 j1 c1 g2=>?_⟩
 rw[GA];exact And.intro ⟨l,M1,m,c1,j1,g2⟩ ⟨_,e1.keep O _ b (Wc j b)⟩⟩
def yg(K:B0)(C:Addr)(c:Str):C3->Prop
 |[]=>True
 |x::xs=>(∃d,W.nsIn K mainGlobals x=some (some (.ref d))/\W.kitOne K (.ref C) (.ref d)=some (c==x))/\yg K C c xs
def bJ{K:B0}{C d:Addr}{c x:Str}{xs:C3}(q:Bool)(a:W.nsIn K mainGlobals x=some (some (.ref d)))(b:W.kitOne K (.ref C) (.ref d)=some q)(e:(c==x)=q)(t:yg K C c xs):yg K C c (x::xs):=⟨⟨d,a,b.trans (congrArg some e.symm)⟩,t⟩
theorem yg.at{K:B0}{C:Addr}{c x:Str}:∀{ns:C3},yg K C c ns->x∈ns->∃d,W.nsIn K mainGlobals x=some (some (.ref d))/\W.kitOne K (.ref C) (.ref d)=some (c==x)
 |_::_,h,.head _=>h.1
 |_::_,h,.tail _ m=>yg.at h.2 m
def Tr{K:B0}{mg:A4}{h:Heap}{ns:C3}{c:Str}{C:Addr}(X:K.In h)(G:h.Ns mainGlobals mg)(n:yg K C c ns)(a:Nw K C)(v:W.kitOne K (.ref C) (.type "ValueError")=some true)(o:W.kitAny K (.ref C) (G4.map Value.type)=some false):FI K mg ns c C:=
 ⟨a,fun k b D e=>by obtain⟨d,f,g⟩:=n.at b;have:=(IF X G f).symm.trans e;cases this;exact g,v,o⟩
def bH{ns:C3}(h:∀x∈ns,∃C,X.mg x=some (.ref C))(a:ns.contains x=true:=by decide +kernel)(b:autoParam (Gl X x) qAA)(hd:autoParam ((x==("__debug__":Str))=false) qAB):DE X E (.Name x pos) (λz=>pure (.cls x)):=by obtain⟨C,e⟩:=h x (AO.mp a);exact Ag e b hd
def Xf{P:C5}{w:World}{K:B0}{mg:A4}{base:Heap}{k:Nat}{x:Str}{N ps:C3}{st:Stmt}{fb:aj->DM Fl}{f:Addr}{e:FuncData}{ts:List (Addr×Addr)}(F:P8 K x x st f e)(S:ZB N ps (ZY st))
  (d:∀(b:Value) (A:Around) (a:C4) (s:Shared) (H:Hp) (E:XK),(∀q∈ts,H q.2=some (.eT #[]))->ZA k (A.deeper (envOfC x (ZY st) s.z f b))->
    SG (bQ P w K mg base N x (ZY st) f b A a s H E) E (ZI st) fb):XW P w K mg base (bZ P w) (k+1) f e ps (λvs H Q E=>wR mg (aD ps.length N.length fb) vs H Q E/\∀q∈ts,H q.2=some (.eT #[])):=by
 obtain⟨t,u,kV,doc,v,y,b,ct,l,rfl,m,n⟩:=F.ex;refine PU m n S (λvs H Q E h=>?_) λA a s H vs Q E o h=>?_
 ·obtain⟨⟨i,M,p,c,j,g⟩,_⟩:=h;rw[c.len];exact(bz.aD g).1
 obtain⟨⟨i,M,p,c,j,g⟩,r⟩:=h;exact⟨_,(d b A a s H E r o).h,i,_,M,iJ c,j,(bz.aD g).2⟩
end L3
namespace L2
open PyProof.Rows
def Bm(l:Addr)(items:B4)(n:Nat)(b:Addr)(ob:Obj)(a:B4)(k:Nat)(hc:ob.cls=.type "tuple")(hd:ob.data=.seq a k)(m:¬(!items.isEmpty&&Builtin.List.listTooLong (items.size+a.size))=true)(c:items.size<=sizeLine)(e:items.size+a.size<=sizeLine+1):
  Meets (Builtin.«list.extend» ⟨[.ref l,.ref b],[]⟩) (λz R s=>s.heap.get? l=some {cls:=.type "list",dict:=none,data:=.seq items n,slots:=#[]}/\s.heap.get? b=some ob/\R (.ok (.ret Value.none)) {s with heap:=s.heap.update l (Obj.mapSeq λx=>x++a),toks:=s.toks}):=
 .of_wp λi w A R s h=>by
  obtain⟨p,g,d,q,os⟩:=s;obtain⟨j,o,h⟩:=h;have r:=AutoSeq1.idx_int;have t:=AutoSeq1.sub_tuple_tuple;have u:=AutoSeq1.sub_list_list;have v:=AutoSeq1.sub_tuple_list;have y:=AutoSeq1.sub_list_tuple;
  have f:(items++a).size<=sizeLine+1:=by rw[Array.size_append];exact e
  obtain⟨cls,dict,data,slots⟩:=ob;dsimp only at hc hd;subst hc hd
  wp_walk using(wpAny_updateSeq j rfl (hz:=c) (_hz':=f)),BH j,BH o;exact⟨_,rfl,h⟩
def Q5:FR X "list.extend" (λx vs H Q=>∃l b xs zs,x=.ref l/\vs=[.ref b]/\H l=some (.lst xs)/\H b=some (.tup zs)/\xs.length+zs.length<=sizeLine/\Q .aT (upd H l (.lst (xs++zs)))):=by
 intro aC s σ H x vs v us Q I rx rv h;obtain⟨l,b,xs,zs,rfl,rfl,hH,hB,hz,q⟩:=h;cases rx;obtain⟨u,rfl,ru⟩:=rv.one;cases ru;obtain⟨z,aE,n,r,hl,e⟩:=I.fI hH;obtain⟨z2,ai,r2,e2⟩:=I.aI b _ hB;have hl2:=r2.length;have hsz:aE.toArray.size+ai.toArray.size<=sizeLine:=by rw[Za,Za];lia
 have ar:¬(!aE.toArray.isEmpty&&Builtin.List.listTooLong (aE.toArray.size+ai.toArray.size))=true:=by rw[TW hsz,Bool.and_false];exact Zc
 obtain⟨ob,e2,hc2,n2,hd2⟩:=e2;refine HE F.slot_list_extend ⟨_,e,rfl⟩ F.entry_list_extend (F.args_list_extend_2 _ _)
  (Bm l aE.toArray n b ob ai.toArray n2 hc2 hd2 ar (by rw[Za];lia) (by lia)) ⟨e,e2,?_⟩
 refine⟨.aT,_,I.iX (its':=aE++ai) hH e (by simp) (r.append r2) ?_,rfl,q⟩
 rw[Zm]
 lia
end L2
namespace L3
open L2
noncomputable def Tj:D->List D->DM D
 |.ref n,[.tup m]=>λM=>match M[n]? with
   |some (.lst l)=>if l.length+m.length<=sizeLine then some (.ok .aT,M.set n (.lst (l++m)))else none
   |_=>none
 |_,_=>stuck
set_option tactic.hygienic true in
def Q4:Dw X E "list.extend" Tj:=by
 intro aC s σ H x xs v us Q I rx rs q;obtain⟨ρ,M,d,ds,j,cx,cs,r,e,p⟩:=q;cases cx with
 |ref hn=>
   cases cs with
   |nil=>cases e
   |cons c cs=>cases cs with
     |cons _ _=>cases c<;>cases e
     |nil=>
       cases c with
       |tup ha hH cm=>
         rename_i n a b zs dm;have e:(match M[n]? with
          |some (.lst l)=>if l.length+dm.length<=sizeLine then some (R.ok .aT,M.set n (.lst (l++dm)))else none
          |_=>none)=some r:=e
         split at e
         ·rename_i l hl;split at e
          ·rename_i hz;cases e;obtain⟨xs,hx,cl⟩:=j.obj _ _ _ hn hl;have x:YR ρ H ρ (upd H a (.lst (xs++zs))):=.upd (Zk hn);exact Q5 (X:=X) aC s σ H _ _ v us Q I rx rs ⟨_,_,_,_,rfl,rfl,hx,hH,by rw[cl.len,cm.len];exact hz,p ρ _ .aT x (j.upd hn ⟨_,ZT,(cl.append cm).mono x⟩) .aT⟩
          ·cases e
         ·cases e
       |_=>cases e
 |_=>cases e
end L3
namespace L2
open PyProof.Rows
end L2
namespace L3
open L2
section
variable{X:Cx}{E:XK}
def pairsOf:List D->Option (List Key×List D)
 |[]=>some ([],[])
 |.tup [k,d]::r=>match kO k,pairsOf r with
   |some k,some p=>some (k::p.1,d::p.2)
   |_,_=>none
 |_=>none
end
end L3
namespace L3
open L2 LB
open PyProof.Rows hiding St
end L3
namespace L2
open PyProof.Rows
end L2
namespace L3
open L2
end L3
namespace N10
theorem j8(c:Nat)(f:Nat->Nat):∀n:Nat,S n (λy=>c*f y)=c*S n f
 |0=>rfl
 |n+1=>by
   show S n (λy=>c*f y)+c*f n=c*(S n f+f n)
   rw[j8 c f n,Nat.mul_add]
def Sd(c:Nat)(f:Nat->Nat)(n:Nat):S n (λy=>f y*c)=S n f*c:=by rw[MH,<-j8];exact sV λi z=>MH _ _
def MT(hd:0<d)(h1:a*d<=c*b)(h2:c*f<=e*d):a*f<=e*b:=by
 have x1:a*d*f<=c*b*f:=Fa _ h1;have x2:c*f*b<=e*d*b:=Fa _ h2;have x3:d*(a*f)<=d*(e*b):=by
  calc d*(a*f)=a*d*f:=by rw[<-Rl,MH d a]
   _<=c*b*f:=x1
   _=c*f*b:=by rw[Rl,MH b f,<-Rl]
   _<=e*d*b:=x2
   _=d*(e*b):=by rw[MH e d,Rl]
 exact Nat.le_of_mul_le_mul_left x3 hd
def Mn(a r:Nat->Nat)(n z:Nat):Prop:=z<n/\∀y,y<n->a z*r y<=a y*r z
theorem Pu:∀n,0<n->(∀y,y<n->0<r y)->∃z,Mn a r n z
 |0,h,_=>by omega
 |1,_,_=>⟨0,by omega,fun y hy=>by have:y=0:=by omega
                                  subst this;exact YL _⟩
 |n+2,_,h=>by
   obtain⟨z,hz,m⟩:=Pu (a:=a) (r:=r) (n+1) (by omega) λy hy=>h y (by omega)
   by_cases q:a z*r (n+1)<=a (n+1)*r z
   ·refine⟨z,by omega,λy hy=>?_⟩
    by_cases e:y=n+1
    ·subst e;exact q
    ·exact m y (by omega)
   ·refine⟨n+1,by omega,λy hy=>?_⟩
    by_cases e:y=n+1
    ·subst e;exact YL _
    ·exact MT (h z (by omega)) (by omega) (m y (by omega))
end N10
namespace N60
noncomputable def SR(f:Nat->Int):Nat->Nat->Int
 |_,0=>0
 |k,n+1=>f k+SR f (k+1) n
theorem Ib{f g h:Nat->Int}{p q d:Int}:∀(n k:Nat),(∀j,k<=j->j<k+n->d*f j=g j*p-q*h j)->d*SR f k n=SR g k n*p-q*SR h k n
 |0,k,_=>by simp[SR]
 |n+1,k,e=>by
   have e1:=e k (YL _) (by omega)
   have e2:=Ib n (k+1) λj h1 h2=>e j (by omega) (by omega)
   simp only[SR]
   grind
theorem qD{f:Nat->Int}:∀(n k:Nat),(∀j,k<=j->j<k+n->f j<=0)->SR f k n<=0
 |0,k,_=>by simp[SR]
 |n+1,k,e=>by
   have e1:=e k (YL _) (by omega)
   have e2:=qD n (k+1) λj h1 h2=>e j (by omega) (by omega)
   simp only[SR];omega
theorem O3{f:Nat->Int}:∀(n k i:Nat),(∀j,k<=j->j<k+n->f j<=0)->k<=i->i<k+n->SR f k n<=f i
 |0,k,i,_,h1,h2=>by omega
 |n+1,k,i,e,h1,h2=>by
   have e1:=e k (YL _) (by omega)
   simp only[SR];by_cases c:i=k
   ·subst c;have:=qD n (i+1) λj h1 h2=>e j (by omega) (by omega)
    omega
   ·have:=O3 n (k+1) i (λj h1 h2=>e j (by omega) (by omega)) (by omega) (by omega)
    omega
inductive RL(B:Nat->Nat->Int)(k n:Nat):Nat->Prop
 |ip {i:Nat}:0<SR (B i) k n->RL B k n i
 |step {i j:Nat}:k<=j->j<k+n->i≠j->B i j<0->RL B k n j->RL B k n i
structure MS(B:Nat->Nat->Int)(k n:Nat):Prop where
 off:∀i j,k<=i->i<k+n->k<=j->j<k+n->i≠j->B i j<=0
 sum:∀i,k<=i->i<k+n->0<=SR (B i) k n
 iq:∀i,k<=i->i<k+n->RL B k n i
def MS.kd{B:Nat->Nat->Int}{k n:Nat}(h:MS B k (n+1)):0<B k k:=by
 have np:∀j,k+1<=j->j<k+1+n->B k j<=0:=λj h1 h2=>h.off k j (YL _) (by omega) (by omega) (by omega) (by omega)
 have r:=h.iq k (YL _) (by omega)
 cases r with
 |ip l=>simp only[SR]at l;have:=qD n (k+1) np;omega
 |@step _ j h1 h2 ne lt _=>
   have a:=O3 n (k+1) j np (by omega) (by omega)
   have s:=h.sum k (YL _) (by omega)
   simp only[SR]at s;omega
def JH{d x:Int}(hd:0<d)(h:d*x<0):x<0:=by
 rcases Int.lt_or_le x 0 with c|c
 ·exact c
 ·have:=EN (AJ hd) c;omega
def JQ{d x:Int}(hd:0<d)(h:d*x<=0):x<=0:=by
 rcases Int.lt_or_le 0 x with c|c
 ·have:=ET hd c;omega
 ·exact c
def JP{d x:Int}(hd:0<d)(h:0<=d*x):0<=x:=by
 rcases Int.lt_or_le x 0 with c|c
 ·have:=ET hd (show 0 < -x by omega);rw[Int.mul_neg]at this;omega
 ·exact c
def J3{d x:Int}(hd:0<d)(h:0<d*x):0<x:=by
 rcases Int.lt_or_le 0 x with c|c
 ·exact c
 ·have:=EN (AJ hd) (show 0<=-x by omega);rw[Int.mul_neg]at this;omega
set_option tactic.hygienic true in
theorem MS.step{B B':Nat->Nat->Int}{k n:Nat}{d:Int}(h:MS B k (n+1))(hd:0<d)(e:∀i j,k+1<=i->i<k+1+n->k+1<=j->j<k+1+n->d*B' i j=B i j*B k k-B i k*B k j):MS B' (k+1) n:=by
 have p:=h.kd;have lk:=h.sum k (YL _) (by omega)
 have ik:∀i,k+1<=i->i<k+1+n->B i k<=0:=λi h1 h2=>h.off i k (by omega) (by omega) (YL _) (by omega) (by omega)
 have kj:∀i,k+1<=i->i<k+1+n->B k i<=0:=λi h1 h2=>h.off k i (YL _) (by omega) (by omega) (by omega) (by omega)
 have es:∀i,k+1<=i->i<k+1+n->d*SR (B' i) (k+1) n=SR (B i) k (n+1)*B k k-B i k*SR (B k) k (n+1):=λi h1 h2=>by
  have:=Ib (f:=B' i) (g:=B i) (h:=B k) (p:=B k k) (q:=B i k) (d:=d) n (k+1) λj h3 h4=>e i j h1 h2 h3 h4
  simp only[SR]
  grind
 have li:∀i,k+1<=i->i<k+1+n->0<=SR (B i) k (n+1)*B k k:=λi h1 h2=>EN (h.sum i (by omega) (by omega)) (AJ p)
 have lq:∀i,k+1<=i->i<k+1+n->B i k*SR (B k) k (n+1)<=0:=λi h1 h2=>by
  have:=EN (show 0<=-B i k by have:=ik i h1 h2;omega) lk
  rw[Kn]at this;omega
 have pq:∀i j,k+1<=i->i<k+1+n->k+1<=j->j<k+1+n->0<=B i k*B k j:=λi j h1 h2 h3 h4=>by
  have:=EN (show 0<=-B i k by have:=ik i h1 h2;omega) (show 0<=-B k j by have:=kj j h3 h4;omega)
  rw[Int.neg_mul_neg]at this;exact this
 have op:∀i j,k+1<=i->i<k+1+n->k+1<=j->j<k+1+n->i≠j->B i j*B k k<=0:=λi j h1 h2 h3 h4 ne=>by
  have:=EN (show 0<=-B i j by have:=h.off i j (by omega) (by omega) (by omega) (by omega) ne;omega) (AJ p)
  rw[Kn]at this;omega
 have off':∀i j,k+1<=i->i<k+1+n->k+1<=j->j<k+1+n->i≠j->B' i j<=0:=λi j h1 h2 h3 h4 ne=>JQ hd (by rw[e i j h1 h2 h3 h4];have:=op i j h1 h2 h3 h4 ne;have:=pq i j h1 h2 h3 h4;omega)
 refine⟨off',λi h1 h2=>JP hd (by rw[es i h1 h2];have:=li i h1 h2;have:=lq i h1 h2;omega),?_⟩
 have key:∀i,RL B k (n+1) i->k<=i->i<k+1+n->(k+1<=i->RL B' (k+1) n i)/\(i=k->0<SR (B k) k (n+1)\/∃j,k+1<=j/\j<k+1+n/\B k j<0/\RL B' (k+1) n j):=by
  intro i r;induction r with
  |ip l=>
    rename_i i;intro h1 h2;refine⟨λh3=>.ip (J3 hd ?_),λh3=>.inl (h3▸l)⟩
    rw[es i h3 h2];have:=ET l p;have:=lq i h3 h2;omega
  |step g1 g2 ne lt r ih=>
    rename_i i j;intro h1 h2;have ihj:=ih g1 (by omega)
    refine⟨λh3=>?_,λh3=>?_⟩
    ·by_cases c:j=k
     ·rcases ihj.2 c with z|⟨j',a1,a2,a3,a4⟩
      ·refine .ip (J3 hd ?_);rw[es i h3 h2];have:=li i h3 h2;have:=ET (show 0 < -B i k by rw[c]at lt;omega) z
       rw[Kn]at this;omega
      ·by_cases c2:i=j'
       ·rw[c2];exact a4
       ·refine .step a1 a2 c2 (JH hd ?_) a4;rw[e i j' h3 h2 a1 a2];have:=op i j' h3 h2 a1 a2 c2;have:=ET (show 0 < -B i k by rw[c]at lt;omega) (show 0 < -B k j' by omega)
        rw[Int.neg_mul_neg]at this;omega
     ·refine .step (by omega) (by omega) ne (JH hd ?_) (ihj.1 (by omega))
      rw[e i j h3 h2 (by omega) (by omega)]
      have:=pq i j h3 h2 (by omega) (by omega)
      have:=ET (show 0 < -B i j by omega) p
      rw[Kn]at this;omega
    ·have jk:k+1<=j:=by clear ihj ih;omega
     have jn:j<k+1+n:=by clear ihj ih;omega
     exact .inr ⟨j,jk,jn,h3▸lt,ihj.1 jk⟩
 exactλi h1 h2=>(key i (h.iq i (by omega) (by omega)) (by omega) h2).1 h1
def SN(f:Nat->Int):Nat->Int
 |0=>0
 |n+1=>SN f n+f n
theorem cC{f g:Nat->Int}:∀n,(∀i,i<n->f i=g i)->SN f n=SN g n
 |0,_=>rfl
 |n+1,h=>by rw[SN,SN,cC n λi hi=>h i (by omega),h n (by omega)]
theorem H9(f g:Nat->Int):∀n,SN (λi=>f i+g i) n=SN f n+SN g n
 |0=>rfl
 |n+1=>by simp only[SN,H9 f g n];omega
theorem gf(c:Int)(f:Nat->Int):∀n,SN (λi=>c*f i) n=c*SN f n
 |0=>by simp[SN]
 |n+1=>by simp only[SN,gf c f n];rw[Int.mul_add]
theorem jU{f:Nat->Int}:∀n,(∀i,i<n->f i=0)->SN f n=0
 |0,_=>rfl
 |n+1,h=>by rw[SN,jU n λi hi=>h i (by omega),h n (by omega)];rfl
theorem sU(f:Nat->Nat->Int)(m:Nat):∀n,SN (λi=>SN (f i) m) n=SN (λj=>SN (λi=>f i j) n) m
 |0=>(jU m λz z=>rfl).symm
 |n+1=>by
   show SN (λi=>SN (f i) m) n+SN (f n) m=SN (λj=>SN (λi=>f i j) n+f n j) m
   rw[H9,sU f m n]
theorem zR{f:Nat->Int}{x:Nat}:∀n,x<n->(∀i,i<n->i≠x->f i=0)->SN f n=f x
 |n+1,hx,h=>by
   rw[SN];by_cases e:x=n
   ·rw[jU n λi hi=>h i (by omega) (by omega),e];omega
   ·rw[zR n (by omega) λi hi=>h i (by omega),h n (by omega) (by omega)];omega
def Ql{f:Nat->Nat->Int}{n:Nat}(h:∀c e,f c e=-f e c):SN (λc=>SN (f c) n) n=0:=by
 have a:=sU f n n;have b:SN (λj=>SN (λi=>f i j) n) n=-1*SN (λc=>SN (f c) n) n:=by
  rw[<-gf];refine cC n λj z=>?_
  rw[<-gf];exact cC n λi z=>by rw[h i j];omega
 omega
def sg(c:Nat):Int:=1-2*((c%2:Nat):Int)
def xU(c:Nat):sg (c+1)=-sg c:=by unfold sg;omega
def sk(x i:Nat):Nat:=if i<x then i else i+1
def pY{x i:Nat}(h:i<x):sk x i=i:=YK h
def tV{x i:Nat}(h:x<=i):sk x i=i+1:=YQ (by omega)
theorem O2(f:Nat->Int){c:Nat}:∀m,c<=m->SN (λd=>f (sk c d)) m=SN (λe=>if e=c then 0 else f e) (m+1)
 |0,h=>by obtain rfl:c=0:=by omega
          rfl
 |m+1,h=>by
   by_cases q:c<=m
   ·rw[SN,O2 f m q,SN,SN,tV q,SN,YQ (by omega:¬m+1=c)]
   ·obtain rfl:c=m+1:=by omega
    rw[SN.eq_2 _ (m+1),YK rfl,Int.add_zero];exact cC _ λi hi=>by rw[pY hi,YQ (by omega)]
def bx:(Nat->Nat->Int)->Nat->Int
 |_,0=>1
 |A,m+1=>SN (λc=>sg c*A 0 c*bx (λi j=>A (i+1) (sk c j)) m) (m+1)
theorem eX:∀(m:Nat) {A B:Nat->Nat->Int},(∀i j,i<m->j<m->A i j=B i j)->bx A m=bx B m
 |0,_,_,_=>by simp only[bx]
 |m+1,A,B,h=>by simp only[bx];exact cC _ λc hc=>by rw[h 0 c (by omega) hc,eX m λi j hi hj=>h (i+1) (sk c j) (by omega) (by unfold sk;split<;>omega)]
def put(k:Nat)(r:Nat->Int)(A:Nat->Nat->Int):Nat->Nat->Int:=λi=>if i=k then r else A i
def cI{k:Nat}{r:Nat->Int}{A:Nat->Nat->Int}:put k r A k=r:=YK rfl
def cX{k i:Nat}{r:Nat->Int}{A:Nat->Nat->Int}(h:i≠k):put k r A i=A i:=YQ h
def BR{k:Nat}{A:Nat->Nat->Int}:put k (A k) A=A:=by
 funext i;by_cases h:i=k
 ·subst h;exact cI
 ·exact cX h
def Oj(k c:Nat)(r:Nat->Int)(A:Nat->Nat->Int):(λi j=>put (k+1) r A (i+1) (sk c j))=put k (λj=>r (sk c j)) λi j=>A (i+1) (sk c j):=by
 funext i j;simp only[put];by_cases h:i=k
 ·rw[YK h,YK (by omega)]
 ·rw[YQ h,YQ (by omega)]
def BV(c:Nat)(r:Nat->Int)(A:Nat->Nat->Int):(λi j=>put 0 r A (i+1) (sk c j))=λi j=>A (i+1) (sk c j):=by funext i j;simp[put]
theorem sJ(a:Nat->Int)(V:Nat->Nat->Int)(N:Nat):∀(m k:Nat) (A:Nat->Nat->Int),k<m->
  bx (put k (λj=>SN (λy=>a y*V y j) N) A) m=SN (λy=>a y*bx (put k (V y) A) m) N
 |0,_,_,h=>absurd h (Nat.not_lt_zero _)
 |m+1,0,A,_=>by
   simp only[bx,BV,cI];simp only[<-gf];rw[sU];refine cC _ λc z=>?_
   rw[EW,<-gf];exact cC _ λy z=>by ac_rfl
 |m+1,k+1,A,h=>by
   simp only[bx,Oj];simp only[<-gf];rw[sU];refine cC _ λc z=>?_
   rw[sJ a (λy j=>V y (sk c j)) N m k (λi j=>A (i+1) (sk c j)) (by omega),<-gf]
   refine cC _ λy z=>?_
   rw[cX (by omega),cX (by omega)];ac_rfl
def sI{m k:Nat}(h:k<m)(a b:Int)(r t:Nat->Int)(A:Nat->Nat->Int):bx (put k (λj=>a*r j+b*t j) A) m=a*bx (put k r A) m+b*bx (put k t A) m:=by
 have:=sJ (λy=>if y=0 then a else b) (λy=>if y=0 then r else t) 2 m k A h
 simpa[SN]using this
theorem nR:∀(m k:Nat) (A:Nat->Nat->Int),k+1<m->A k=A (k+1)->bx A m=0
 |m+2,0,A,_,e=>by
   simp only[bx];let pos (c e:Nat):Nat:=if e<c then e else e-1
   have ps:∀c d,pos c (sk c d)=d:=λc d=>by
    show(if sk c d<c then sk c d else sk c d-1)=d
    by_cases h:d<c
    ·rw[pY h,YK h]
    ·rw[tV (by omega),YQ (by omega)];rfl
   let F (c e:Nat):Int:=if e=c then 0 else sg c*A 0 c*(sg (pos c e)*A 0 e*bx (λi j=>A (i+1+1) (sk c (sk (pos c e) j))) m)
   have h1:∀c,c<m+2->sg c*A 0 c*SN (λd=>sg d*A (0+1) (sk c d)*bx (λi j=>A (i+1+1) (sk c (sk d j))) m) (m+1)=SN (F c) (m+2):=λc hc=>by
    rw[<-gf];have:=O2 (λe=>sg c*A 0 c*(sg (pos c e)*A 0 e*bx (λi j=>A (i+1+1) (sk c (sk (pos c e) j))) m)) (c:=c) (m+1) (by omega)
    rw[<-this];refine cC _ λd z=>?_
    show _=sg c*A 0 c*(sg (pos c (sk c d))*A 0 (sk c d)*bx (λi j=>A (i+1+1) (sk c (sk (pos c (sk c d)) j))) m)
    rw[ps,<-e]
   rw[cC _ h1];have half:∀c e,c<e->F c e=-F e c:=λc e h=>by
    simp only[F,pos];rw[YQ (by omega:¬e=c),YQ (by omega:¬e<c),YQ (by omega:¬c=e),YK h]
    have s1:sg e=-sg (e-1):=by rw[<-xU];congr 1;omega
    have s2:(λi j=>A (i+1+1) (sk c (sk (e-1) j)))=λi j=>A (i+1+1) (sk e (sk c j)):=by funext i j;congr 1;simp only[sk];(repeat' split)<;>omega
    rw[s1,s2,Kn,Kn,Int.neg_neg];ac_rfl
   refine Ql λc e=>?_
   rcases Bi c e with h|h|h
   ·exact half c e h
   ·subst h;simp[F]
   ·rw[half e c h,Int.neg_neg]
 |m+1,k+1,A,h,e=>by simp only[bx];exact jU _ λc z=>by rw[nR m k _ (by omega) (by funext j;exact congrFun e _),C9]
def zz{m k:Nat}(h:k+1<m)(A:Nat->Nat->Int):bx (put k (A (k+1)) (put (k+1) (A k) A)) m=-bx A m:=by
 have z:=nR m k (put k (λj=>1*A k j+1*A (k+1) j) (put (k+1) (λj=>1*A k j+1*A (k+1) j) A)) h (by rw[cI,cX (by omega),cI])
 have cm:∀r t,put k r (put (k+1) t A)=put (k+1) t (put k r A):=λr t=>by
  funext i;unfold put;by_cases q:i=k
  ·rw[YK q,YQ (by omega),YK q]
  ·rw[YQ q];by_cases q2:i=k+1
   ·rw[YK q2,YK q2]
   ·rw[YQ q2,YQ q2,YQ q]
 rw[sI (by omega),cm,cm,sI h,sI h]at z
 have a1:=nR m k (put (k+1) (A k) (put k (A k) A)) h (by rw[cX (by omega),cI,cI])
 have a2:=nR m k (put (k+1) (A (k+1)) (put k (A (k+1)) A)) h (by rw[cX (by omega),cI,cI])
 have a3:put (k+1) (A (k+1)) (put k (A k) A)=A:=by rw[BR,BR]
 rw[a1,a2,a3,<-cm]at z;omega
theorem zy:∀(n m k:Nat) (A:Nat->Nat->Int),k+n+1<m->A k=A (k+n+1)->bx A m=0
 |0,m,k,A,h,e=>nR m k A h e
 |n+1,m,k,A,h,e=>by
   have s:=zz (k:=k+n+1) h A;have z:=zy n m k (put (k+n+1) (A (k+n+1+1)) (put (k+n+1+1) (A (k+n+1)) A)) (by omega) (by rw[cX (by omega),cX (by omega),cI];exact e)
   omega
def vG{m i j:Nat}{A:Nat->Nat->Int}(h:i<j)(hj:j<m)(e:A i=A j):bx A m=0:=by
 have q:i+(j-i-1)+1=j:=by omega
 exact zy (j-i-1) m i A (by omega) (by rw[q];exact e)
theorem Du:∀(m:Nat) (A:Nat->Nat->Int),0<m->(∀i,i<m->A i 0=0)->bx A m=0
 |m+1,A,_,h=>by
   simp only[bx];refine jU _ λc hc=>?_
   by_cases q:c=0
   ·rw[q,h 0 (by omega)];simp
   ·rw[Du m _ (by omega) λi hi=>by rw[pY (by omega)];exact h (i+1) (by omega),C9]
def zu(A:Nat->Nat->Int):Nat->Nat->Int:=λi j=>A (i+1) (j+1)*A 0 0-A (i+1) 0*A 0 (j+1)
def Rk(A:Nat->Nat->Int)(k:Nat):Nat->Nat->Int:=λi=>if 0<i/\i<=k then(λj=>A 0 0*A i j + -(A i 0)*A 0 j)else A i
theorem HY(A:Nat->Nat->Int)(m:Nat):∀k,k<=m->bx (Rk A k) (m+1)=A 0 0^k*bx A (m+1)
 |0,_=>by
   have:Rk A 0=A:=by funext i;exact YQ (by omega)
   rw[this];simp
 |k+1,h=>by
   have e:Rk A (k+1)=put (k+1) (λj=>A 0 0*A (k+1) j + -(A (k+1) 0)*A 0 j) (Rk A k):=by
    funext i;unfold Rk put;dsimp only;by_cases q:i=k+1
    ·subst q;rw[YK (by omega),YK rfl]
    ·rw[YQ q];by_cases q2:0<i/\i<=k
     ·rw[YK (by omega),YK q2]
     ·rw[YQ (by omega),YQ q2]
   have e1:Rk A k (k+1)=A (k+1):=YQ (by omega)
   have z:bx (put (k+1) (A 0) (Rk A k)) (m+1)=0:=vG (i:=0) (j:=k+1) (by omega) (by omega) (by rw[cX (by omega),cI];exact YQ (by omega))
   rw[e,sI (by omega),z,<-e1,BR,HY A m k (by omega),Int.pow_succ,C9]
   simp only[Int.add_zero];ac_rfl
def Xa(A:Nat->Nat->Int)(m:Nat):A 0 0^m*bx A (m+1)=A 0 0*bx (zu A) m:=by
 rw[<-HY A m m (YL _)];have r0:∀i j,i<m->Rk A m (i+1) j=A 0 0*A (i+1) j + -(A (i+1) 0)*A 0 j:=λi j hi=>congrFun (YK (by omega)) j
 simp only[bx];rw[zR (x:=0) _ (by omega) λc hc ne=>?_]
 ·have:Rk A m 0=A 0:=YQ (by omega)
  rw[this,show sg 0=1 from rfl,Int.one_mul]
  congr 1;refine eX m λi j hi hj=>?_
  rw[r0 _ _ hi,tV (Z8 _)];unfold zu;rw[Kn,EW (A 0 0)];omega
 ·rw[Du m _ (by omega) λi hi=>?_,C9]
  rw[r0 _ _ hi,pY (by omega),Kn,EW];omega
def Mn(A:Nat->Nat->Int)(k i j:Nat):Int:=bx (λa b=>A (if a<k then a else i) (if b<k then b else j)) (k+1)
def iC(A:Nat->Nat->Int)(i j:Nat):Mn A 0 i j=A i j:=by simp[Mn,bx,SN,sg]
def wY{A:Nat->Nat->Int}(h:A 0 0≠0)(k i j:Nat):Mn (zu A) k i j=A 0 0^k*Mn A (k+1) (i+1) (j+1):=by
 have c:=Xa (λa b=>A (if a<k+1 then a else i+1) (if b<k+1 then b else j+1)) (k+1)
 simp only[Nat.zero_lt_succ,if_true]at c;rw[Int.pow_succ,EW (_^k),Int.mul_assoc]at c;have c:=vE h c;unfold Mn;rw[c];refine eX _ λa b z z=>?_
 have s:∀x y:Nat,(if x+1<k+1 then x+1 else y+1)=(if x<k then x else y)+1:=λx y=>by split<;>split<;>omega
 simp only[zu,s,Nat.zero_lt_succ,if_true]
def dv(A:Nat->Nat->Int):Nat->Int
 |0=>1
 |k+1=>Mn A k k k
def QG{A:Nat->Nat->Int}(h:A 0 0≠0):∀k,dv (zu A) k*A 0 0=A 0 0^k*dv A (k+1)
 |0=>by simp[dv,iC]
 |k+1=>by simp only[dv,wY h];rw[Int.pow_succ];ac_rfl
theorem K1:∀(k:Nat) (A:Nat->Nat->Int),(∀l,l<k->Mn A l l l≠0)->∀i j,k<i->k<j->dv A k*Mn A (k+1) i j=Mn A k i j*Mn A k k k-Mn A k i k*Mn A k k j
 |0,A,_,i,j,hi,hj=>by simp[dv,iC];simp[Mn,bx,SN,sg,sk];rw[Kn,EW (A 0 j),EW (A 0 0)];omega
 |k+1,A,h,i+1,j+1,hi,hj=>by
   have a0:A 0 0≠0:=by rw[<-iC A];exact h 0 (by omega)
   have ih:=K1 k (zu A) (λl hl=>by rw[wY a0];exact Int.mul_ne_zero (Int.pow_ne_zero a0) (h (l+1) (by omega))) i j (by omega) (by omega)
   simp only[wY a0]at ih;have dc:=QG a0 k;have nz:A 0 0^k*A 0 0^k≠0:=Int.mul_ne_zero (Int.pow_ne_zero a0) (Int.pow_ne_zero a0);refine vE nz ?_;rw[Int.pow_succ]at ih
   calc _=(A 0 0^k*dv A (k+1))*(A 0 0^k*Mn A (k+1+1) (i+1) (j+1)):=by ac_rfl
    _=dv (zu A) k*(A 0 0^k*A 0 0*Mn A (k+1+1) (i+1) (j+1)):=by rw[<-dc];ac_rfl
    _=_:=by rw[ih,Int.mul_sub];congr 1<;>ac_rfl
def V1{A:Nat->Nat->Int}:∀k,(∀l,l<k->Mn A l l l≠0)->dv A k≠0
 |0,_=>by simp[dv]
 |k+1,h=>h k (by omega)
def VJ{A:Nat->Nat->Int}:∀k,(∀l,l<k->Mn A l l l≠0)->∀i j,k<=i->k<=j->Mn A k i j=Mn (λx y=>A y x) k j i:=λk=>by
 induction k using Nat.strongRecOn with
 |ind k ih=>
   intro h i j hi hj
   match k,ih,h,hi,hj with
   |0,_,_,_,_=>rw[iC,iC]
   |k+1,ih,h,hi,hj=>
     have h':∀l,l<k->Mn A l l l≠0:=λl hl=>h l (by omega)
     have pv:∀l,l<=k->Mn A l l l=Mn (λx y=>A y x) l l l:=λl hl=>ih l (by omega) (λz hz=>h z (by omega)) l l (YL _) (YL _)
     have a:=K1 k A h' i j hi hj;have b:=K1 k (λx y=>A y x) (λl hl=>by rw[<-pv l (by omega)];exact h l (by omega)) j i hj hi
     have d:dv (λx y=>A y x) k=dv A k:=by
      cases k with
      |zero=>rfl
      |succ k=>exact(pv k (by omega)).symm
     have E:=λa b c d=>ih k (by omega) h' a b c d
     rw[d,<-E _ _ (by omega) (by omega),<-E _ _ (by omega) (by omega),<-E _ _ (by omega) (by omega),<-E _ _ (by omega) (by omega)]at b
     refine vE (V1 k h') ?_;rw[a,b,EW (Mn A k i k)]
def vD(A:Nat->Nat->Int)(m:Nat):bx A (m+1)=Mn A m m m:=eX _ λa b ha hb=>by
 have s:∀x:Nat,x<m+1->(if x<m then x else m)=x:=λx hx=>by split<;>omega
 rw[s a ha,s b hb]
theorem MS.kK{A:Nat->Nat->Int}{m:Nat}(h:MS A 0 m):∀k,k<=m->MS (Mn A k) k (m-k)/\∀l,l<k->0<Mn A l l l
 |0,_=>by
   have:Mn A 0=A:=by funext i j;exact iC A i j
   rw[this];exact⟨h,λl hl=>by omega⟩
 |k+1,hk=>by
   obtain⟨a,b⟩:=MS.kK h k (by omega)
   rw[show m-k=m-(k+1)+1 by omega]at a
   have p:∀l,l<k+1->0<Mn A l l l:=λl hl=>by
    by_cases q:l=k
    ·subst q;exact a.kd
    ·exact b l (by omega)
   refine⟨a.step (d:=dv A k) ?_ λi j h1 z h3 z=>K1 k A (λl hl=>DL (b l hl)) i j h1 h3,p⟩
   cases k with
   |zero=>simp[dv]
   |succ k=>exact b k (by omega)
def Qk{A:Nat->Nat->Int}:∀{m:Nat},MS A 0 m->0<bx A m
 |0,_=>by simp[bx]
 |m+1,h=>by rw[vD];exact(h.kK (m+1) (YL _)).2 m (by omega)
def R3{A:Nat->Nat->Int}:∀{m:Nat},MS A 0 m->bx A m=bx (λi j=>A j i) m
 |0,_=>rfl
 |m+1,h=>by rw[vD,vD];exact VJ m (λl hl=>DL ((h.kK (m+1) (YL _)).2 l (by omega))) m m (YL _) (YL _)
theorem O1{f:Nat->Int}{B:Nat}:∀n,(∀i,i<n->(f i).natAbs<=B)->(SN f n).natAbs<=n*B
 |0,_=>by simp[SN]
 |n+1,h=>by
   have a:=O1 n λi hi=>h i (by omega)
   have b:=h n (by omega)
   rw[SN,Nat.succ_mul];omega
theorem zx{p:Nat}:∀(m:Nat) {A:Nat->Nat->Int},m<=8->(∀i j,i<m->j<m->(A i j).natAbs<=2^p)->(bx A m).natAbs<=2^(m*(p+3))
 |0,A,_,_=>by simp[bx]
 |m+1,A,hm,h=>by
   simp only[bx];refine Zx (O1 (B:=2^p*2^(m*(p+3))) _ λc hc=>?_) ?_
   ·rw[Int.natAbs_mul,Int.natAbs_mul];have:(sg c).natAbs=1:=by unfold sg;omega
    rw[this,Nat.one_mul];exact Nat.mul_le_mul (h 0 c (by omega) hc) (zx m (by omega) λi j hi hj=>h (i+1) (sk c j) (by omega) (by unfold sk;split<;>omega))
   ·rw[<-Nat.pow_add,show(m+1)*(p+3)=3+(p+m*(p+3)) by rw[Nat.succ_mul];omega,Nat.pow_add 2 3]
    exact Fa _ (by omega)
def lX(x:Nat)(A:Nat->Nat->Int):Nat->Nat->Int:=λi=>if i=0 then A x else if i<=x then A (i-1)else A i
theorem Dv{m:Nat}:∀(x:Nat) (A:Nat->Nat->Int),x<m->bx (lX x A) m=sg x*bx A m
 |0,A,_=>by
   have:lX 0 A=A:=by
    funext i;unfold lX;by_cases q:i=0
    ·rw[YK q,q]
    ·rw[YQ q,YQ (by omega)]
   rw[this,show sg 0=1 from rfl,Int.one_mul]
 |x+1,A,h=>by
   have:lX (x+1) A=lX x (put x (A (x+1)) (put (x+1) (A x) A)):=by
    funext i;unfold lX put;by_cases q:i=0
    ·rw[YK q,YK q,YK rfl]
    ·rw[YQ q,YQ q];by_cases q1:i<=x
     ·rw[YK (by omega:i<=x+1),YK q1,YQ (by omega:¬i-1=x),YQ (by omega:¬i-1=x+1)]
     ·rw[YQ q1,YQ (by omega:¬i=x)]
      by_cases q2:i=x+1
      ·rw[YK (by omega:i<=x+1),YK q2,q2];rfl
      ·rw[YQ (by omega:¬i<=x+1),YQ q2]
   rw[this,Dv x _ (by omega),zz h,xU]
   simp[Int.mul_neg,Int.neg_mul]
theorem uC(f:Nat->Int):∀n,SN f (n+1)=f 0+SN (λi=>f (i+1)) n
 |0=>by simp[SN]
 |n+1=>by rw[SN,uC f n,SN];omega
def X5{G:Nat->Nat->Int}{m x:Nat}(hx:x<=m)(hs:∀j,j<m+1->SN (λy=>G y j) (m+1)=0):bx (λi j=>G (sk x i) (sk x j)) m=sg x*bx (λi j=>G (i+1) (sk x j)) m:=by
 cases x with
 |zero=>
   rw[show sg 0=1 from rfl,Int.one_mul]
   exact eX m λi j z z=>by rw[tV (i:=i) (Z8 _)]
 |succ x=>
   have e1:bx (λi j=>G (sk (x+1) i) (sk (x+1) j)) m=bx (put 0 (λj=>SN (λy=>-1*G (y+1) (sk (x+1) j)) m) (λi j=>G (sk (x+1) i) (sk (x+1) j))) m:=eX m λi j z hj=>by
    by_cases q:i=0
    ·subst q;rw[cI,gf];have:=hs (sk (x+1) j) (by unfold sk;split<;>omega)
     rw[uC]at this;rw[pY (by omega:0<x+1)];omega
    ·rw[cX q]
   rw[e1,sJ (λz=>-1) (λy j=>G (y+1) (sk (x+1) j)) m m 0 _ (by omega),zR (x:=x) m (by omega) λy hy ne=>?_]
   ·have:put 0 (λj=>G (x+1) (sk (x+1) j)) (λi j=>G (sk (x+1) i) (sk (x+1) j))=lX x (λi j=>G (i+1) (sk (x+1) j)):=by
     funext i;unfold put lX;dsimp only;by_cases q:i=0
     ·rw[YK q,YK q]
     ·rw[YQ q,YQ q];by_cases q1:i<=x
      ·rw[YK q1,pY (by omega:i<x+1),show i-1+1=i by omega]
      ·rw[YQ q1,tV (by omega:x+1<=i)]
    rw[this,Dv x _ (by omega),xU]
    simp[Int.neg_mul]
   ·obtain⟨i,h0,hi,e⟩:∃i,0<i/\i<m/\sk (x+1) i=y+1:=by
     by_cases q:y<x
     ·exact⟨y+1,by omega,by omega,pY (by omega)⟩
     ·exact⟨y,by omega,by omega,tV (by omega)⟩
    rw[vG h0 hi (by rw[cI,cX (by omega),e]),C9]
def Wz{G:Nat->Nat->Int}{m:Nat}(hs:∀j,j<m+1->SN (λy=>G y j) (m+1)=0){y:Nat}(hy:y<m+1):SN (λx=>bx (λi j=>G (sk x i) (sk x j)) m*G y x) (m+1)=0:=by
 have e:SN (λx=>bx (λi j=>G (sk x i) (sk x j)) m*G y x) (m+1)=bx (put 0 (G y) G) (m+1):=by simp only[bx,BV,cI];exact cC _ λx hx=>by rw[X5 (by omega) hs];ac_rfl
 rw[e];by_cases q:y=0
 ·subst q;have e2:bx (put 0 (G 0) G) (m+1)=bx (put 0 (λj=>SN (λy=>-1*G (y+1) j) m) G) (m+1):=eX _ λi j w hj=>by
   by_cases q:i=0
   ·subst q;have:=hs j hj;rw[uC]at this;rw[cI,cI,gf];omega
   ·rw[cX q,cX q]
  rw[e2,sJ (λw=>-1) (λy j=>G (y+1) j) m (m+1) 0 _ (by omega)]
  exact jU _ λz hz=>by rw[vG (i:=0) (j:=z+1) (by omega) (by omega) (by rw[cI,cX (by omega)]),C9]
 ·exact vG (i:=0) (j:=y) (by omega) hy (by rw[cI,cX q])
def wt(L:Nat->Nat->Int)(n x:Nat):Int:=bx (λi j=>L (sk x i) (sk x j)) (n-1)
def fP{L:Nat->Nat->Int}:∀{n:Nat},(∀x,x<n->MS (λi j=>L (sk x i) (sk x j)) 0 (n-1))->(∀x,x<n->SN (L x) n=0)->∀y,y<n->SN (λx=>wt L n x*L x y) n=0
 |m+1,hm,hs,y,hy=>by
   have:=Wz (G:=λa b=>L b a) (m:=m) hs hy
   rw[<-this];refine cC _ λx hx=>?_
   unfold wt;rw[R3 (hm x hx)];rfl
end N60
end
namespace K
open PySem L2 L3
abbrev E1:List Str:=["_law_rows_here","_law_walk","_law_said_here","_law_rest","_law_other","_law_x","_law_row","_law_y","_law_weight","_law_mine","_law_its","_law_weights"]
abbrev E3:List Str:=["_law_pen","_law_most","_law_many","_law_whole","_law_way","_law_rows_here","_law_x","_law_some","_law_row","_law_ball"]
abbrev E4:List Str:=["thing","many"]
abbrev E5:List Str:=["walk"]
abbrev E6:List Str:=["one","other"]
abbrev E7:List Str:=["_law_rows_here","_law_many","_law_found","_law_middle","_law_x"]
abbrev E8:List Str:=["thing"]
abbrev E9:List Str:=["_law_rows_here"]
abbrev F0:List Str:=["nexts","start","steps","waiting","place","following"]
abbrev F1:List Str:=["_law_script","_law_cell","_law_pen","_law_turn"]
abbrev F2:List Str:=["walk","shut","within","weights","at","place"]
abbrev F3:List Str:=["_law_one","_law_other"]
abbrev F4:List Str:=["_law_e","_law_marks","_law_words","_law_flag"]
abbrev F5:List Str:=["_law_script","_law_k"]
abbrev F6:List Str:=["_law_rows_here","_law_led_here","_law_found"]
abbrev F7:List Str:=["_law_numbers","_law_found","_law_number"]
abbrev F8:List Str:=["self"]
abbrev F9:List Str:=["walk","rest","common","weight","many"]
abbrev G0:List Str:=["walk","thing"]
abbrev G1:List Str:=["self","other"]
def jL(l:C3)(h:autoParam (l.Nodup) qAB):l.Nodup:=h
local macro_rules | `(tactic| trivial)=>`(tactic| refine⟨rfl,by decide +kernel,rfl,KR ?_,λm_=>Jj rfl,by decide,rfl,Q9 rfl,Ra ?_,Jd ?_⟩<;>((repeat' apply And.intro)<;>first|exact True.intro|rfl|exact Or.inl rfl|exact Or.inr rfl|exact⟨_,rfl⟩))
noncomputable def top(i:Nat):Stmt:=PySem.Challenge.pw_fadewalk_k45_walks_turned_about.main.body.getD i (.Pass ⟨0,0,0,0⟩)
noncomputable abbrev uA:C3:=["NoRest"]
abbrev Qd(k:Nat)(N:C3)(x:Str)(st:Stmt)(Y:C5->World->B0->Mg->Heap->Prop->Prop):={b:aj->DM Fl // ∀{P w K e a f d A c s H E},Y P w K e a (Rm k A x st s f d->Ds P w K e a N x st f d A c s H E b)}
abbrev Qe(k:Nat)(N:C3)(x:Str)(st:Stmt)(Y:(Nat->Str->C3->Fn->Prop)->(Str->Prop)->Prop->Prop):=Qd k N x st λP w K m o=>Y (Zs P w K m o) (Nn m)
abbrev Sc(N ps:C3)(st:Stmt):=ZB N ps (ZY st)
def cN{N P:C3}{sc:Scope}(a:sc.kind=.function:=by exact rfl)(b:sc.isCoroutine=false:=by exact rfl)(c:sc.isGenerator=false:=by exact rfl)(p:N.take P.length=P:=by exact rfl)(d:(decide N.Nodup&&(decide (∀x∈P,sc.names.lookup x=some .local\/sc.names.lookup x=some .cell)&&decide (∀y∈sc.names,y.2≠.free)))=true:=by decide +kernel):ZB N P sc:=wN a b c p d
def qg{X:Cx}{E:XK}{a:Scope}{cl:A9}{b e:Expr}{f pos:Pos}{fi:aj->DM XG}{fe:aj->DM D}(x:Str)(js:C0)(fr:C3)(h:DI X E (.Name x f) e fi)
  (j:∀{c m fp C d I},DE (X.aR c a (cellsFrom m a.names cl) ([x]++fr) fp C d I) E0 b fe) (T:WO X a cl [x] js fr:=by trivial) (hc:X.calm=true:=by exact rfl)
  (k:autoParam (([x]++fr).Nodup) qAB) (hl:∀m C Z,(compEnvC a (cellsFrom m a.names cl) C Z).scope.names.lookup x=some .local:=by intros;exact rfl)
  (hs:∀y,foldedSetIterable e X.env y=pure y:=by intro _;rfl) :
  DE X E (.ListComp b [⟨.Name x f,e,[],0⟩] a pos) (λg=>fi g>>=λit=>dG (cT (gN 0) (λz=>pure true) (cL fe) it (aV [x].length js g) [])>>=λp=>My.val.run p.2):=
 cV (own:=[x]) .val hc T h (λz z z z z z=>aN (i:=0) k rfl (Or.inl (hl ..)) (Or.inr (hl ..))) (λz z z z z z=>gJ) (λz z z z z z=>j) hs
section
variable(N:Nat)(v0 v1 v2 v3 v4 v5 v6 v7 v8 v9 v10 v11 v12 v13 v14 v15 v16 v17 v18 v19:Fn)
abbrev pR:Stmt:=top 24
def Dq:Sc E8 E8 pR:=cN
@[simp] def wA:Qe 0 E8 "is_whole" pR λD n Z=>n "bool"->n "int"->n "isinstance"->Z:=
 ⟨_,λb c a d=>(au (aL (kh (aO fj a (ak (aa 0) (ak (gW (T := "int") c) ao))) (km (S8 (aO fj a (ak (aa 0) (ak (gW (T := "bool") b) ao))))))))⟩
def vN:=(wA).1
abbrev fK:Stmt:=top 25
def iB:Sc E6 E6 fK:=cN
@[simp] def fH:Qe 0 E6 "greatest_divider" fK fun _ _ Z=>Z:=
 ⟨_,fun  b=>have a:=iB.nd;(aq (o9 N PassesOwn.leaving (bO (aa 1) (fun _=>rfl)) (au (Aj (i:=0) (j:=1) rfl a rfl rfl (by decide) rfl rfl (ak (aa 1) (ak (aM eO (aa 0) (aa 1)) ao)) rfl)))
  (au (aL (aa 0))))⟩
def dB:=(fH N).1
abbrev gG:Stmt:=top 26
def ud:Sc E6 E6 gG:=cN
@[simp] def lu:Qe 1 E6 "least_multiple" gG λD n Z=>D 1 "greatest_divider" E6 v0->Z:=
 ⟨_,λa b=>(au (aL (aM dM (aM eE (aa 0) (aG a b aK (ak (aa 0) (ak (aa 1) ao)))) (aa 1))))⟩
def j9:=(lu v0).1
abbrev jC:Stmt:=top 29
def xR:Sc E4 E4 jC:=cN
@[simp] def qp:Qe 1 E4 "are_weights" jC fun D n Z=>D 1 "is_whole" E8 v0->n "all"->n "isinstance"->n "len"->n "tuple"->Z:=
 ⟨_,fun b c d e f a=>(aq (bU (DW.dt (jO (dJ (bO (aO fj d (ak (aa 0) (ak (gW (T := "tuple") f) ao))) (fun _=>rfl))) (oA (bh (dq a.units) (aO Y1 e (ak (aa 0) ao)) (aa 1)))))
  (au (aL iZ))
  bw)
  (au (aL (aO (lW a.hd) c (ak (qg "weight" [] [] (cg (aa 0)) (kh (aG b a BJ (ak (aa 0) ao)) (km (gh Bx (aa 0) aA)))) ao)))))⟩
def p7:=(qp v0).1
abbrev pP:Stmt:=top 30
def Dn:Sc E4 E4 pP:=cN
@[simp] def wy:Qe 2 E4 "are_rows" pP fun D n Z=>D 2 "are_weights" E4 v0->n "all"->n "isinstance"->n "len"->n "tuple"->Z:=
 ⟨_,fun b c d e f a=>(aq (bU (DW.dt (jO (dJ (bO (aO fj d (ak (aa 0) (ak (gW (T := "tuple") f) ao))) (fun _=>rfl))) (oA (bh (dq a.units) (aO Y1 e (ak (aa 0) ao)) (aa 1)))))
  (au (aL iZ))
  bw)
  (au (aL (aO (lW a.hd) c (ak (qg "row" [1] ["many"] (cg (aa 0)) (aG b a BJ (ak (aa 0) (ak (aa 1) ao)))) ao)))))⟩
def vL:=(wy v0).1
abbrev pQ:Stmt:=top 31
def Do:Sc E4 E4 pQ:=cN
@[simp] def wz:Qe 1 E4 "is_place" pQ λD n Z=>D 1 "is_whole" E8 v0->Z:=
 ⟨_,λa b=>(au (aL (kh (aG a b aK (ak (aa 0) ao)) (km (Mp rE JT aA (aa 0) (aa 1))))))⟩
def vM:=(wz v0).1
abbrev vg:Stmt:=top 32
def Kr:Sc E8 E8 vg:=cN
@[simp] def BZ:Qd 2 E8 "is_lot" vg fun P w K m o Z=>∀{a},Zs P w K m o 2 "are_weights" E4 v0->Gi m "MOST_PLACES" 25 a->Nn m "any"->Nn m "isinstance"->Nn m "len"->Nn m "tuple"->Z:=
 ⟨_,fun d e f g b h c=>(aq (bU (DW.dt (jO (dJ (bO (aO fj g (ak (aa 0) (ak (gW (T := "tuple") h) ao))) (fun _=>rfl))) (oA (dJ (Ak rE rE aA (aO Y1 b (ak (aa 0) ao)) (Pj e))))))
  (au (aL iZ))
  bw)
  (au (aL (kh (aG d c aK (ak (aa 0) (ak (aO Y1 b (ak (aa 0) ao)) ao))) (km (aO (Il c.hd) f (ak (aa 0) ao)))))))⟩
def Aa:=(BZ v0).1
abbrev iu:Stmt:=top 33
def vq:Sc E8 E8 iu:=cN
@[simp] def mH:Qe 3 E8 "refuse_no_lot" iu fun D n Z=>D 3 "is_lot" E8 v0->Z:=
 ⟨_,fun a b=>(au (bU (dJ (bO (aG a b aK (ak (aa 0) ao)) (fun _=>rfl)))
  (au uL)
  bw))⟩
def lV:=(mH v0).1
abbrev xP:Stmt:=top 34
def Cw:Sc ["lot","divider","weight"] ["lot"] xP:=cN
@[simp] def Fv:Qe 4 ["lot","divider","weight"] "least" xP fun D n Z=>D 4 "refuse_no_lot" E8 v0->D 1 "greatest_divider" E6 v1->n "tuple"->Z:=
 ⟨_,fun c d e b=>have a:=Cw.nd;(aq (jX (aG c b aK (ak (aa 0) ao)))
  (aq (aJ (i:=1) a rfl (Or.inr rfl) aA)
  (aq (cQ 0 ZD rfl (cg (aa 0)) (aN (i:=2) a rfl (Or.inl rfl))
  (au (aJ (i:=1) a rfl (Or.inr rfl) (aG d b aK (ak (aa 1) (ak (aa 2) ao))))))
  (au (aL (dY (T := "tuple") aY e (ak (qg "weight" [1] ["divider"] (cg (aa 0)) (aM eE (aa 0) (aa 1))) ao)))))))⟩
def DR:=(Fv v0 v1).1
abbrev ir:Stmt:=top 36
def lH:Sc ["thing","whole"] E8 ir:=cN
@[simp] def mF:Qd 3 ["thing","whole"] "can_be_walked" ir fun P w K m o Z=>∀{a},Zs P w K m o 3 "are_rows" E4 v0->Gi m "MOST_PLACES" 25 a->Nn m "all"->Nn m "isinstance"->Nn m "len"->Nn m "sum"->Nn m "tuple"->Z:=
 ⟨_,fun e f g h c d j b=>have k:=lH.nd;(aq (bU (DW.dt (jO (dJ (bO (aO fj h (ak (aa 0) (ak (gW (T := "tuple") j) ao))) (fun _=>rfl))) (jO (dJ (Ak rE rE aA (aO Y1 c (ak (aa 0) ao)) (Pj f))) (oA (dJ (bO (aG e b aK (ak (aa 0) (ak (aO Y1 c (ak (aa 0) ao)) ao))) (fun _=>rfl)))))))
  (au (aL iZ))
  bw)
  (aq (aJ (i:=1) k rfl (Or.inr rfl) (aO (qL b.hd) d (ak (aQ bj (aa 0) aA) ao)))
  (au (aL (kh (gh Bx (aa 1) aA) (km (aO (lW b.hd) g (ak (qg "row" [1] ["whole"] (cg (aa 0)) (gh (bN b.units) (aO (qL b.hd) d (ak (aa 0) ao)) (aa 1))) ao))))))))⟩
def lU:=(mF v0).1
abbrev bB:Stmt:=S4 (top 38) 1
def wL:Sc F8 F8 bB:=cN
@[simp] def oM:Qd 0 F8 "Walk.__len__" bB λP w K m o Z=>∀{I},UM K m "Walk" I ["rows","whole"]->Nn m "len"->Z:=
 ⟨_,λa b c=>(au (aL (aO Y1 b (ak (cW a (by decide) (aa 0)) ao))))⟩
def nY:=(oM).1
abbrev fZ:Stmt:=top 37
def rT:Sc G0 G0 fZ:=cN
@[simp] def jM:Qd 2 G0 "refuse_no_place" fZ fun P w K m o Z=>Zs P w K m o 2 "is_place" E4 v0->X1 P w K m o 1 "Walk" "__len__" "Walk.__len__" bB F8 v1->Nn m "len"->Z:=
 ⟨_,fun b c d a=>(au (bU (dJ (bO (aG b a aK (ak (aa 1) (ak (aO (dR c a aK (fun _ _ _ _ _ _ f e=>by obtain⟨_,rfl⟩:=kW e;rfl)) d (ak (aa 0) ao)) ao))) (fun _=>rfl)))
  (au uL)
  bw))⟩
def jK:=(jM v0 v1).1
abbrev ie:Stmt:=S4 (top 38) 0
def vp:Sc ["self","rows"] ["self","rows"] ie:=cN
@[simp] def mD:Qd 4 ["self","rows"] "Walk.__init__" ie fun P w K m o Z=>∀{I},Zs P w K m o 4 "can_be_walked" E8 v0->UM K m "Walk" I ["rows","whole"]->Nn m "sum"->Z:=
 ⟨_,fun c a d b=>(aq (bU (dJ (bO (aG c b aK (ak (aa 1) ao)) (fun _=>rfl)))
  (au uL)
  bw)
  (aq (IV a (by decide) (aa 0) (aa 1))
  (au (IV a (by decide) (aa 0) (aO (qL b.hd) d (ak (aQ bj (aa 1) aA) ao))))))⟩
def lQ:=(mD v0).1
abbrev gB:Stmt:=S4 (top 38) 2
def xQ:Sc G1 G1 gB:=cN
@[simp] def qm:Qd 0 G1 "Walk.__eq__" gB λP w K m o Z=>∀{I},Gc m "Walk" I->UM K m "Walk" I ["rows","whole"]->Nc K m "Walk"->Nn m "isinstance"->Z:=
 ⟨_,λb a c d e=>(au (aL (kh (aO (yp c) d (ak (aa 1) (ak (Ag b) ao))) (km (gh (bN e.units) (cW a (by decide) (aa 0)) (cW a (by decide) (aa 1)))))))⟩
def pZ:=(qm).1
abbrev pW:Stmt:=top 40
def uw:Sc ["walk","divider","row","weight"] E5 pW:=cN
@[simp] def wC:Qd 6 ["walk","divider","row","weight"] "plainest" pW fun P w K m o Z=>∀{I},Zs P w K m o 1 "greatest_divider" E6 v0->QY P w K m o 5 "Walk" v1->UM K m "Walk" I ["rows","whole"]->Nn m "tuple"->Z:=
 ⟨_,fun e f b c d=>have a:=uw.nd;(aq (aJ (i:=1) a rfl (Or.inr rfl) aA)
  (aq (cQ 0 ZD rfl (cg (cW b (by decide) (aa 0))) (aN (i:=2) a rfl (Or.inl rfl))
  (au (cQ 0 ZD rfl (cg (aa 2)) (aN (i:=3) a rfl (Or.inl rfl))
  (au (aJ (i:=1) a rfl (Or.inr rfl) (aG e d aK (ak (aa 1) (ak (aa 3) ao))))))))
  (au (aL (n8 f d aK (ak (dY (T := "tuple") aY c (ak (cV (own:=["row"]) (js:=[1]) (fr:=["divider"]) .val rfl (by trivial) (cg (cW b (by decide) (aa 0))) (λz z z z z z=>(aN (i:=0) (jL ["row","divider"]) rfl (Or.inl rfl))) (λz z z z z z=>gJ) (λz z z z z z=>(dY (T := "tuple") aY c (ak (qg "weight" [1] ["divider"] (cg (aa 0)) (aM eE (aa 0) (aa 1))) ao)))) ao)) ao))))))⟩
def vO:=(wC v0 v1).1
abbrev jE:Stmt:=top 42
def xT:Sc E5 E5 jE:=cN
@[simp] def qu:Qd 0 E5 "next_places" jE λP w K m o Z=>∀{I},UM K m "Walk" I ["rows","whole"]->Nn m "enumerate"->Nn m "tuple"->Z:=
 ⟨_,λa b c d=>(au (aL (cV (own:=["row"]) (js:=[]) (fr:=[]) .val rfl (by trivial) (cg (cW a (by decide) (aa 0))) (λz z z z z z=>(aN (i:=0) (jL ["row"]) rfl (Or.inl rfl))) (λz z z z z z=>gJ) (λz z z z z z=>(dY (T := "tuple") aY c (ak (cV (own:=["place","weight"]) (js:=[]) (fr:=[]) .val rfl (by trivial) (tE rfl b (ak (aa 0) ao)) (λz z z z z z=>(vU (n:=2) rfl (fB (aN (i:=0) (jL ["place","weight"]) rfl (Or.inl rfl)) (fB (aN (i:=1) (jL ["place","weight"]) rfl (Or.inl rfl)) tu)))) (λz z z z z z=>(gK (bh wu (aa 1) aA))) (λz z z z z z=>(aa 0))) ao))))))⟩
def p8:=(qu).1
abbrev iW:Stmt:=top 43
def mJ:Sc F0 ["nexts","start"] iW:=cN
@[simp] def iQ:Qe 0 F0 "fewest_steps" iW fun _ _ Z=>Z:=
 ⟨_,fun  b=>have a:=mJ.nd;(aq (aJ (i:=2) a rfl (Or.inl rfl) (Qw 1))
  (aq (aJ (i:=3) a rfl (Or.inl rfl) (sX (ak (aa 1) ao)))
  (aq (o9 N ZD (bO (aa 3) (λz=>rfl)) (aq (aJ (i:=4) a rfl (Or.inl rfl) (sW EM F.slot_list_pop F.type_list_pop Q6 (aa 3) (ak aA ao)))
  (au (cQ 0 ZD rfl (cg (aQ bj (aa 0) (aa 4))) (aN (i:=5) a rfl (Or.inl rfl))
  (au (bU (bh (NT (u1 b.units)) (aa 5) (aa 2))
  (aq (qP (aM bY (S5 (u1 b.units) (aa 2) (aa 4)) aA) (qO (aa 2) (aa 5) (Oq (u1 b.units))))
  (au (jX (sW EM acO acN EY (aa 3) (ak (aa 5) ao)))))
  bw))))))
  (au (aL (aa 2))))))⟩
def fL:=(iQ N).1
abbrev vh:Stmt:=top 44
def yM:Sc ["walk","nexts"] E5 vh:=cN
@[simp] def uZ:Qd 2 ["walk","nexts"] "led_to" vh fun P w K m o Z=>Zs P w K m o 1 "next_places" E5 v0->Zs P w K m o 1 "fewest_steps" ["nexts","start"] v1->X1 P w K m o 1 "Walk" "__len__" "Walk.__len__" bB F8 v2->Nn m "len"->Nn m "range"->Nn m "sorted"->Nn m "tuple"->Z:=
 ⟨_,fun c d e f g h b a=>have j:=yM.nd;(aq (aJ (i:=1) j rfl (Or.inr rfl) (aG c a aK (ak (aa 0) ao)))
  (au (aL (dY (T := "tuple") aY b (ak (qg "start" [1] ["nexts"] (bV rfl g (ak (aO (dR e a aK (λz z z z z z l k=>by obtain⟨_,rfl⟩:=kW k;rfl)) f (ak (aa 0) ao)) ao)) (dY (T := "tuple") aY b (ak (aO (Gv a.hd) h (ak (aG d a BJ (ak (aa 1) (ak (aa 0) ao))) ao)) ao))) ao)))))⟩
def uE:=(uZ v0 v1 v2).1
abbrev nJ:Stmt:=top 45
def rW:Sc ["walk","led"] E5 nJ:=cN
@[simp] def nq:Qe 3 ["walk","led"] "shut_sets" nJ fun D n Z=>D 3 "led_to" E5 v0->n "all"->n "sorted"->n "tuple"->Z:=
 ⟨_,fun b c d e a=>have f:=rW.nd;(aq (aJ (i:=1) f rfl (Or.inr rfl) (aG b a aK (ak (aa 0) ao)))
  (au (aL (dY (T := "tuple") aY e (ak (Iz (own:=["places"]) (js:=[1]) (fr:=["led"]) a.hd (u1 a.units) d rfl (by trivial) (cg (aa 1)) (λz z z z z z=>(aN (i:=0) (jL ["places","led"]) rfl (Or.inr rfl))) (λz z z z z z=>(gK (bO (aO (lW a.hd) c (ak (qg "place" [1,0] ["led","places"] (cg (aa 0)) (gh (bN a.units) (aQ bj (aa 1) (aa 0)) (aa 2))) ao)) (λz=>rfl)))) (λz z z z z z=>(aa 0))) ao)))))⟩
def uo:=(nq v0).1
abbrev jD:Stmt:=top 47
def oX:Sc ["rows","divider","top"] ["rows"] jD:=cN
@[simp] def jz:Qe 0 ["rows","divider","top"] "determinant" jD fun D n Z=>n "len"->n "range"->Z:=
 ⟨_,fun b c d=>have a:=oX.nd;(aq (aJ (i:=1) a rfl (Or.inr rfl) aA)
  (aq (o9 N ZD (bO (aa 0) (λz=>rfl)) (aq (aJ (i:=2) a rfl (Or.inr rfl) (aQ bj (aa 0) aA))
  (aq (bU (bh (bN d.units) (aQ bj (aa 2) aA) aA)
  (au (aL aA))
  bw)
  (aq (o8 (i:=0) (own:=["row"]) (js:=[2,1]) (fr:=["top","divider"]) .val a rfl (Or.inl rfl) rfl (by trivial) (oh (Mq (aa 0) (w6 aA) QB)) (λz z z z z z=>(aN (i:=0) (jL ["row","top","divider"]) rfl (Or.inr rfl))) (λz z z z z z=>gJ) (λz z z z z z=>(qg "at" [0,1,2] ["row","top","divider"] (IK rfl c (ak aA (ak (aO Y1 b (ak (aa 0) ao)) ao))) (aM eE (aM xJ (aM dM (aQ bj (aa 1) (aa 0)) (aQ bj (aa 2) aA)) (aM dM (aQ bj (aa 1) aA) (aQ bj (aa 2) (aa 0)))) (aa 3)))))
  (au (aJ (i:=1) a rfl (Or.inr rfl) (aQ bj (aa 2) aA)))))))
  (au (aL (aa 1)))))⟩
def gq:=(jz N).1
abbrev iY:Stmt:=top 48
def mK:Sc ["walk","place","others"] ["walk","place"] iY:=cN
@[simp] def iR:Qd 3 ["walk","place","others"] "trees_toward" iY fun P w K m o Z=>∀{I},Zs P w K m o 3 "refuse_no_place" G0 v0->Zs P w K m o 1 "determinant" ["rows"] v1->X1 P w K m o 1 "Walk" "__len__" "Walk.__len__" bB F8 v2->UM K m "Walk" I ["rows","whole"]->Nn m "len"->Nn m "range"->Z:=
 ⟨_,fun c d e b f g a=>have h:=mK.nd;(aq (jX (aG c a aK (ak (aa 0) (ak (aa 1) ao))))
  (aq (aJ (i:=2) h rfl (Or.inr rfl) (cV (own:=["other"]) (js:=[1]) (fr:=["place"]) .val rfl (by trivial) (bV rfl g (ak (aO (dR e a aK (λz z z z z z k j=>by obtain⟨_,rfl⟩:=kW j;rfl)) f (ak (aa 0) ao)) ao)) (λz z z z z z=>(aN (i:=0) (jL ["other","place"]) rfl (Or.inl rfl))) (λz z z z z z=>(gK (bh (dq a.units) (aa 0) (aa 1)))) (λz z z z z z=>(aa 0))))
  (au (aL (aG d a aK (ak (cV (own:=["x"]) (js:=[2,0]) (fr:=["others","walk"]) .val rfl (by trivial) (oh (aa 2)) (λz z z z z z=>(aN (i:=0) (jL ["x","others","walk"]) rfl (Or.inr rfl))) (λz z z z z z=>gJ) (λz z z z z z=>(qg "y" [0,2] ["x","walk"] (oh (aa 1)) (Pk (bh (bN a.units) (aa 1) (aa 0)) (aM xJ (cW b (by decide) (aa 2)) (aQ bj (aQ bj (cW b (by decide) (aa 2)) (aa 1)) (aa 1))) (S7 (aQ bj (aQ bj (cW b (by decide) (aa 2)) (aa 1)) (aa 0))))))) ao))))))⟩
def nZ:=(iR v0 v1 v2).1
abbrev rM:Stmt:=top 49
def wO:Sc F2 ["walk","shut"] rM:=cN
@[simp] def rG:Qd 6 F2 "rest_on" rM fun P w K m o Z=>∀{I},Zs P w K m o 4 "trees_toward" ["walk","place"] v0->Zs P w K m o 5 "least" ["lot"] v1->QY P w K m o 5 "Walk" v2->X1 P w K m o 1 "Walk" "__len__" "Walk.__len__" bB F8 v3->UM K m "Walk" I ["rows","whole"]->Nn m "enumerate"->Nn m "len"->Nn m "tuple"->Z:=
 ⟨_,fun d e f g h j k c a=>have b:=wO.nd;(aq (aJ (i:=2) b rfl (Or.inl rfl) (n8 f a aK (ak (dY (T := "tuple") aY c (ak (cV (own:=["x"]) (js:=[1,0]) (fr:=["shut","walk"]) .val rfl (by trivial) (cg (aa 1)) (fun _ _ _ _ _ _=>(aN (i:=0) (jL ["x","shut","walk"]) rfl (Or.inr rfl))) (fun _ _ _ _ _ _=>gJ) (fun _ _ _ _ _ _=>(dY (T := "tuple") aY c (ak (qg "y" [2,0] ["walk","x"] (cg (aa 1)) (aQ bj (aQ bj (cW h (by decide) (aa 1)) (aa 2)) (aa 0))) ao)))) ao)) ao)))
  (aq (aJ (i:=3) b rfl (Or.inl rfl) (aM Ff (cP (ak aA ao)) (aO (dR g a aK (λz z z z z z p l=>by obtain⟨_,rfl⟩:=kW l;rfl)) k (ak (aa 0) ao))))
  (aq (cQ 0 ZD rfl (tE rfl j (ak (aa 1) ao)) (vU (n:=2) rfl (fB (aN (i:=4) b rfl (Or.inl rfl)) (fB (aN (i:=5) b rfl (Or.inl rfl)) tu)))
  (au (qP (aG d a aK (ak (aa 2) (ak (aa 4) ao))) (qO (aa 3) (aa 5) wQ))))
  (au (aL (aG e a aK (ak (dY (T := "tuple") aY c (ak (aa 3) ao)) ao)))))))⟩
def ym:=(rG v0 v1 v2 v3).1
abbrev gH:Stmt:=top 50
def ue:Sc E5 E5 gH:=cN
@[simp] def eF:Qd 4 E5 "refuse_no_rest" gH fun P w K m o Z=>∀{I},Zs P w K m o 4 "shut_sets" E5 v0->X1 P w K m o 1 "Walk" "__len__" "Walk.__len__" bB F8 v1->NN K m uA I->Nn m "len"->Nn m "range"->Nn m "tuple"->Z:=
 ⟨_,fun b c d e f g a=>(au (bU (bh (dq a.units) (aG b a aK (ak (aa 0) ao)) (gU (ak (qN rfl g f (ak (aO (dR c a aK (fun _ _ _ _ _ _ i h=>by obtain⟨_,rfl⟩:=kW h;rfl)) e (ak (aa 0) ao)) ao)) ao)))
  (au (Mw d (by decide) bA))
  bw))⟩
def gD:=(eF v0 v1).1
abbrev pU:Stmt:=top 51
def Dr:Sc E5 E5 pU:=cN
@[simp] def jQ:Qd 7 E5 "one_rest" pU fun P w K m o Z=>Zs P w K m o 5 "refuse_no_rest" E5 v0->Zs P w K m o 7 "rest_on" ["walk","shut"] v1->X1 P w K m o 1 "Walk" "__len__" "Walk.__len__" bB F8 v2->Nn m "len"->Nn m "range"->Nn m "tuple"->Z:=
 ⟨_,fun b c d e f g a=>(aq (jX (aG b a aK (ak (aa 0) ao)))
  (au (aL (aG c a aK (ak (aa 0) (ak (qN rfl g f (ak (aO (dR d a aK (λz z z z z z i h=>by obtain⟨_,rfl⟩:=kW h;rfl)) e (ak (aa 0) ao)) ao)) ao))))))⟩
def o6:=(jQ v0 v1 v2).1
abbrev vm:Stmt:=top 53
def yN:Sc F9 E5 vm:=cN
@[simp] def pK:Qd 8 F9 "turned" vm fun P w K m o Z=>∀{I},Zs P w K m o 8 "one_rest" E5 v0->Zs P w K m o 2 "least_multiple" E6 v1->Zs P w K m o 7 "plainest" E5 v2->QY P w K m o 5 "Walk" v3->X1 P w K m o 1 "Walk" "__len__" "Walk.__len__" bB F8 v4->UM K m "Walk" I ["rows","whole"]->Nn m "len"->Nn m "range"->Nn m "tuple"->Z:=
 ⟨_,fun e f g h j k l c d a=>have b:=yN.nd;(aq (aJ (i:=1) b rfl (Or.inr rfl) (aG e a aK (ak (aa 0) ao)))
  (aq (aJ (i:=2) b rfl (Or.inr rfl) aA)
  (aq (cQ 0 ZD rfl (cg (aa 1)) (aN (i:=3) b rfl (Or.inl rfl))
  (au (aJ (i:=2) b rfl (Or.inr rfl) (aG f a aK (ak (aa 2) (ak (aa 3) ao))))))
  (aq (aJ (i:=4) b rfl (Or.inr rfl) (aO (dR j a aK (λz z z z z z p n=>by obtain⟨_,rfl⟩:=kW n;rfl)) l (ak (aa 0) ao)))
  (au (aL (aG g a aK (ak (n8 h a aK (ak (dY (T := "tuple") aY d (ak (cV (own:=["x"]) (js:=[4,1,0,2]) (fr:=["many","rest","walk","common"]) .val rfl (by trivial) (bV rfl c (ak (aa 4) ao)) (λz z z z z z=>(aN (i:=0) (jL ["x","many","rest","walk","common"]) rfl (Or.inr rfl))) (λz z z z z z=>gJ) (λz z z z z z=>(dY (T := "tuple") aY d (ak (qg "y" [2,3,0,4] ["rest","walk","x","common"] (bV rfl c (ak (aa 1) ao)) (aM dM (aM dM (aQ bj (aa 1) (aa 0)) (aQ bj (aQ bj (cW k (by decide) (aa 2)) (aa 0)) (aa 3))) (aM eE (aa 4) (aQ bj (aa 1) (aa 3))))) ao)))) ao)) ao)) ao))))))))⟩
def uF:=(pK v0 v1 v2 v3 v4).1
abbrev iV:Stmt:=top 55
def wM:Sc F5 F5 iV:=cN
@[simp] def oN:Qe 0 F5 "_law_cell_at" iV fun D n Z=>n "len"->Z:=
 ⟨_,fun a b=>(aq (bU (bh JT (aa 1) (aO Y1 a (ak (aa 0) ao)))
  (au (aL (aQ bj (aa 0) (aa 1))))
  bw)
  (au (aL aA)))⟩
def iD:=(oN).1
abbrev nF:Stmt:=top 56
def rO:Sc ["_law_seed"] ["_law_seed"] nF:=cN
@[simp] def ut:Qe 0 ["_law_seed"] "_law_next" nF fun _ _ Z=>Z:=
 ⟨_,fun  b=>have a:=rO.nd;(aq (aJ (i:=0) a rfl (Or.inl rfl) (aM eO (aM bY (aa 0) aA) aA))
  (au (aL (aM eO (aM bY (aM bY (aM dM (aa 0) (aa 0)) (aM dM aA (aa 0))) aA) aA))))⟩
def ug:=(ut).1
abbrev jB:Stmt:=top 57
def oW:Sc ["_law_cell","_law_left"] ["_law_cell"] jB:=cN
@[simp] def jy:Qe 0 ["_law_cell","_law_left"] "_law_pen_of" jB fun D n Z=>n "int"->n "max"->Z:=
 ⟨_,fun a b d=>have c:=oW.nd;(aq (aJ (i:=1) c rfl (Or.inl rfl) (aO (Gu rfl) b (ak (aa 0) (ak (aM xJ aA (aa 0)) ao))))
  (au (aL (sX (ak (aa 1) (ak (dY (T := "int") vP a (ak (gh Bx (aa 1) (aM Rg aA aA)) ao)) (ak (aM eO (aa 1) aA) ao)))))))⟩
def p6:=(jy).1
abbrev nA:Stmt:=top 58
def rN:Sc ["_law_pen","_law_many","_law_found"] ["_law_pen","_law_many"] nA:=cN
@[simp] def m8:Qe 1 ["_law_pen","_law_many","_law_found"] "_law_draw" nA fun D n Z=>D 1 "_law_next" ["_law_seed"] v0->Z:=
 ⟨_,fun b a=>have c:=rN.nd;(aq (bU (DW.dt (Tc (bh (bN a.units) (aQ bj (aa 0) aA) aA) (QH (bh wu (aQ bj (aa 0) aA) aA))))
  (aq (aJ (i:=2) c rfl (Or.inl rfl) (aM eO (aQ bj (aa 0) aA) (aa 1)))
  (aq (qP (aM eE (aQ bj (aa 0) aA) (aa 1)) (qO (aa 0) aA wQ))
  (au (aL (aa 2)))))
  bw)
  (aq (qP (aG b a aK (ak (aM bY (aG b a aK (ak (aQ bj (aa 0) aA) ao)) aA) ao)) (qO (aa 0) aA wQ))
  (au (aL (aM eO (aM eE (aQ bj (aa 0) aA) aA) (aa 1))))))⟩
def uf:=(m8 v0).1
abbrev nG:Stmt:=top 59
def rP:Sc E3 ["_law_pen","_law_most"] nG:=cN
@[simp] def m9:Qe 2 E3 "_law_rows" nG fun D n Z=>D 2 "_law_draw" ["_law_pen","_law_many"] v0->n "int"->n "len"->n "list"->n "range"->n "tuple"->Z:=
 ⟨_,fun c g h e d f a=>have b:=rP.nd;(aq (QD (i:=2) (j:=3) (k:=4) rfl b rfl rfl rfl (by decide) (by decide) (by decide) rfl rfl rfl (ak (aM bY aA (aG c a aK (ak (aa 0) (ak (aa 1) ao)))) (ak (aQ bj (cP (ak aA (ak aA (ak aA (ak aA (ak aA (ak aA ao))))))) (aG c a aK (ak (aa 0) (ak aA ao)))) (ak (aG c a aK (ak (aa 0) (ak aA ao))) ao))) rfl)
  (aq (aJ (i:=5) b rfl (Or.inl rfl) (sX ao))
  (aq (cQ 0 ZD rfl (bV rfl d (ak (aa 2) ao)) (aN (i:=6) b rfl (Or.inr rfl))
  (aq (aJ (i:=7) b rfl (Or.inl rfl) (yu rfl e d (ak (aa 2) ao)))
  (aq (bU (bh (bN a.units) (aa 4) aA)
  (au (aJ (i:=7) b rfl (Or.inl rfl) (cP (ak (aG c a aK (ak (aa 0) (ak (aa 2) ao))) (ak (aG c a aK (ak (aa 0) (ak (aa 2) ao))) ao)))))
  bw)
  (aq (bU (bh (bN a.units) (aa 4) aA)
  (au (aJ (i:=7) b rfl (Or.inl rfl) (cP (ak (aM eO (aM bY (aa 6) aA) (aa 2)) ao))))
  bw)
  (aq (bU (bh (bN a.units) (aa 4) aA)
  (au (aJ (i:=7) b rfl (Or.inl rfl) (aM bY (cV (own:=["_law_y"]) (js:=[6]) (fr:=["_law_x"]) .val rfl (by trivial) (bV rfl d (ak (aa 2) ao)) (λz z z z z z=>(aN (i:=0) (jL ["_law_y","_law_x"]) rfl (Or.inl rfl))) (λz z z z z z=>(gK (bh (dq a.units) (aM eO (aa 0) aA) (aM eO (aa 1) aA)))) (λz z z z z z=>(aa 0))) (aM Rf (cP (ak (aa 6) ao)) (dY (T := "int") vP g (ak (gh (bN a.units) (aa 2) aA) ao))))))
  bw)
  (aq (bU (bh (bN a.units) (aa 4) aA)
  (au (o8 (i:=7) (own:=["_law_y"]) (js:=[6]) (fr:=["_law_x"]) .val b rfl (Or.inl rfl) rfl (by trivial) (bV rfl d (ak (aa 2) ao)) (λz z z z z z=>(aN (i:=0) (jL ["_law_y","_law_x"]) rfl (Or.inl rfl))) (λz z z z z z=>(gK (bh (bN a.units) (aM eE (aa 0) aA) (aM eE (aa 1) aA)))) (λz z z z z z=>(aa 0))))
  bw)
  (aq (bU (bh (bN a.units) (aa 4) aA)
  (au (aJ (i:=7) b rfl (Or.inl rfl) (yu rfl e d (ak (aM bY (aa 6) aA) ao))))
  bw)
  (aq (aJ (i:=8) b rfl (Or.inl rfl) (aM Ff (cP (ak aA ao)) (aa 2)))
  (aq (cQ 0 ZD rfl (bV rfl d (ak (aa 3) ao)) (aN (i:=9) b rfl (Or.inl rfl))
  (au (QC (aa 8) (aQ bj (aa 7) (aG c a aK (ak (aa 0) (ak (aO Y1 h (ak (aa 7) ao)) ao)))) N5 aA)))
  (au (jX (sW EM acO acN EY (aa 5) (ak (dY (T := "tuple") aY f (ak (aa 8) ao)) ao)))))))))))))
  (au (aL (dY (T := "tuple") aY f (ak (aa 5) ao)))))))⟩
def uh:=(m9 v0).1
abbrev pO:Stmt:=top 60
def uv:Sc E7 E9 pO:=cN
@[simp] def pJ:Qe 0 E7 "_law_led" pO fun D n Z=>n "len"->n "range"->n "set"->n "sorted"->n "tuple"->Z:=
 ⟨_,fun f a c d e g=>have b:=uv.nd;(aq (aJ (i:=1) b rfl (Or.inr rfl) (aO Y1 f (ak (aa 0) ao)))
  (aq (o8 (i:=2) (own:=["_law_x"]) (js:=[1,0]) (fr:=["_law_many","_law_rows_here"]) .nV b rfl (Or.inl rfl) rfl (by trivial) (bV rfl a (ak (aa 1) ao)) (λz z z z z z=>(aN (i:=0) (jL ["_law_x","_law_many","_law_rows_here"]) rfl (Or.inr rfl))) (λz z z z z z=>gJ) (λz z z z z z=>(Ed rfl d c (ak (aM bY (cP (ak (aa 0) ao)) (cV (own:=["_law_y"]) (js:=[2,0]) (fr:=["_law_rows_here","_law_x"]) .val rfl (by trivial) (bV rfl a (ak (aa 1) ao)) (λz z z z z z=>(aN (i:=0) (jL ["_law_y","_law_rows_here","_law_x"]) rfl (Or.inl rfl))) (λz z z z z z=>(gK (bh wu (aQ bj (aQ bj (aa 1) (aa 2)) (aa 0)) aA))) (λz z z z z z=>(aa 0)))) ao))))
  (aq (cQ 0 ZD rfl (bV rfl a (ak (aa 1) ao)) (aN (i:=3) b rfl (Or.inl rfl))
  (au (cQ 0 ZD rfl (bV rfl a (ak (aa 1) ao)) (aN (i:=4) b rfl (Or.inl rfl))
  (au (bU (bh Uy (aa 3) (aQ bj (aa 2) (aa 4)))
  (au (qP (Ed rfl d c (ak (aM bY (aQ bj (aa 2) (aa 4)) (aQ bj (aa 2) (aa 3))) ao)) (qO (aa 2) (aa 4) wQ)))
  bw)))))
  (au (aL (dY (T := "tuple") aY e (ak (qg "_law_some" [] [] (oh (aa 2)) (dY (T := "tuple") aY e (ak (aa 0) ao))) ao)))))))⟩
def vK:=(pJ).1
abbrev nH:Stmt:=top 61
def rR:Sc F6 E9 nH:=cN
@[simp] def nj:Qe 1 F6 "_law_shut" nH fun D n Z=>D 1 "_law_led" E9 v0->n "set"->n "sorted"->n "tuple"->Z:=
 ⟨_,fun c d e f a=>have b:=rR.nd;(aq (aJ (i:=1) b rfl (Or.inr rfl) (aG c a aK (ak (aa 0) ao)))
  (aq (o8 (i:=2) (own:=["_law_some"]) (js:=[1]) (fr:=["_law_led_here"]) .val b rfl (Or.inl rfl) rfl (by trivial) (cg (aa 1)) (λz z z z z z=>(aN (i:=0) (jL ["_law_some","_law_led_here"]) rfl (Or.inr rfl))) (λz z z z z z=>(gK (bh (bN a.units) (cV (own:=["_law_y"]) (js:=[1,0]) (fr:=["_law_led_here","_law_some"]) .val rfl (by trivial) (cg (aa 0)) (λz z z z z z=>(aN (i:=0) (jL ["_law_y","_law_led_here","_law_some"]) rfl (Or.inl rfl))) (λz z z z z z=>(gK (bh (dq a.units) (aQ bj (aa 1) (aa 0)) (aa 2)))) (λz z z z z z=>(aa 0))) (cP ao)))) (λz z z z z z=>(aa 0)))
  (au (aL (dY (T := "tuple") aY f (ak (Mr rfl a.units e d (ak (aa 2) ao)) ao))))))⟩
def um:=(nj v0).1
abbrev jA:Stmt:=top 62
def oV:Sc F3 F3 jA:=cN
@[simp] def jx:Qe 0 F3 "_law_common" jA fun _ _ Z=>Z:=
 ⟨_,fun  b=>have a:=oV.nd;(aq (o9 N PassesOwn.leaving (bh wu (aa 1) aA) (au (Aj (i:=0) (j:=1) rfl a rfl rfl (by decide) rfl rfl (ak (aa 1) (ak (aM eO (aa 0) (aa 1)) ao)) rfl)))
  (au (aL (aa 0))))⟩
def gm:=(jx N).1
abbrev fY:Stmt:=top 63
def jo:Sc F7 ["_law_numbers"] fY:=cN
@[simp] def fX:Qe 1 F7 "_law_all_common" fY fun D n Z=>D 1 "_law_common" F3 v0->Z:=
 ⟨_,fun b c=>have a:=jo.nd;(aq (aJ (i:=1) a rfl (Or.inl rfl) aA)
  (aq (cQ 40 ZD rfl (oh (aa 0)) (aN (i:=2) a rfl (Or.inl rfl))
  (au (aJ (i:=1) a rfl (Or.inl rfl) (aG b c aK (ak (aa 1) (ak (aa 2) ao))))))
  (au (aL (aa 1)))))⟩
def jJ:=(fX v0).1
end
abbrev Dc:C3:=["BadWalk","NoBound","NoDeed","NoFraction","NoLine","NoLot","NoMark","NoMove","NoNumber","NoParts","NoPlace","NoPlan","NoRest","NoRule","NoSet","NoSteps","NoText","NoWalk","TooMany","Unlike"]
abbrev fJ:Stmt:=top 64
def qw:ZB F4 ["_law_e"] (ZY fJ):=wN rfl rfl rfl rfl (by decide +kernel)
@[simp] def kZ:{b:Addr->Str->aj->DM Fl // ∀{P w K mg base f r A p s H}{y:Addr}{oe:Obj}{c:Str}{C:Addr} (o:∀x∈Dc,∃C,mg x=some (.ref C)) (d:Nn mg "ArithmeticError") (l:Nn mg "LookupError") (k:Nn mg "RuntimeError") (n:Nn mg "TypeError") (m:Nn mg "ValueError") (a:Nn mg "isinstance") (t:Rm 0 A "_law_flags" fJ s f r) (I:FI K mg Dc c C) (e:oe.cls=.ref C) (g:s.heap.get? y=some oe) (h:H y=none) (j:y∉WU p),SG (Ph P w K mg base F4 "_law_flags" (ZY fJ) f r (A.mark (some (.ref y))) p s H) E0 (ZI fJ) (b y c)}:=
 ⟨fun y c=>_,fun {P w K mg base f r A p s H y oe c C} o d l k n m a t I e g h j=>have q:=qw.nd;(aq (aJ (i:=1) q rfl (Or.inl rfl) (cP (ak (aO (aX I e g h j) a (ak (aa 0) (ak (bH o) ao))) (ak (aO (aX I e g h j) a (ak (aa 0) (ak (bH o) ao))) (ak (aO (aX I e g h j) a (ak (aa 0) (ak (bH o) ao))) (ak (aO (aX I e g h j) a (ak (aa 0) (ak (bH o) ao))) ao))))))
  (aq (aJ (i:=1) q rfl (Or.inl rfl) (aM bY (aa 1) (cP (ak (aO (aX I e g h j) a (ak (aa 0) (ak (bH o) ao))) (ak (aO (aX I e g h j) a (ak (aa 0) (ak (bH o) ao))) (ak (aO (aX I e g h j) a (ak (aa 0) (ak (bH o) ao))) (ak (aO (aX I e g h j) a (ak (aa 0) (ak (bH o) ao))) ao)))))))
  (aq (aJ (i:=1) q rfl (Or.inl rfl) (aM bY (aa 1) (cP (ak (aO (aX I e g h j) a (ak (aa 0) (ak (bH o) ao))) (ak (aO (aX I e g h j) a (ak (aa 0) (ak (bH o) ao))) (ak (aO (aX I e g h j) a (ak (aa 0) (ak (bH o) ao))) (ak (aO (aX I e g h j) a (ak (aa 0) (ak (bH o) ao))) ao)))))))
  (aq (aJ (i:=1) q rfl (Or.inl rfl) (aM bY (aa 1) (cP (ak (aO (aX I e g h j) a (ak (aa 0) (ak (bH o) ao))) (ak (aO (aX I e g h j) a (ak (aa 0) (ak (bH o) ao))) (ak (aO (aX I e g h j) a (ak (aa 0) (ak (bH o) ao))) (ak (aO (aX I e g h j) a (ak (aa 0) (ak (bH o) ao))) ao)))))))
  (aq (aJ (i:=1) q rfl (Or.inl rfl) (aM bY (aa 1) (cP (ak (aO (aX I e g h j) a (ak (aa 0) (ak (bH o) ao))) (ak (aO (aX I e g h j) a (ak (aa 0) (ak (bH o) ao))) (ak (aO (aX I e g h j) a (ak (aa 0) (ak (bH o) ao))) (ak (aO (aX I e g h j) a (ak (aa 0) (ak (bH o) ao))) ao)))))))
  (aq (bU (DW.dt (jO (dJ (bO (aO (aX I e g h j) a (ak (aa 0) (ak (gW (T := "ValueError") m) ao))) (λz=>rfl))) (oA (bO (aO (aX I e g h j) a (ak (aa 0) (ak (gU (ak (gW (T := "LookupError") l) (ak (gW (T := "TypeError") n) (ak (gW (T := "ArithmeticError") d) (ak (gW (T := "RuntimeError") k) ao))))) ao))) (λz=>rfl)))))
  (au (aL (gU (ak bA ao))))
  bw)
  (aq (aJ (i:=2) q rfl (Or.inl rfl) (cP (ak bA (ak bA (ak bA (ak bA (ak bA (ak bA (ak bA (ak bA (ak bA (ak bA (ak bA ao)))))))))))))
  (aq (aJ (i:=2) q rfl (Or.inl rfl) (aM bY (aa 2) (cP (ak bA (ak bA (ak bA (ak bA (ak bA (ak bA (ak bA (ak bA (ak bA ao))))))))))))
  (aq (bU (bh (dq t.units) (sW EM F.slot_list_count F.type_list_count JF (aa 1) (ak iZ ao)) aA)
  (au (aL (gU (ak bA ao))))
  bw)
  (aq (aJ (i:=3) q rfl (Or.inl rfl) (aQ bj (aa 2) (sW EM F.slot_list_index F.type_list_index JG (aa 1) (ak iZ ao))))
  (aq (bU (bh (bN t.units) (aa 3) bA)
  (au (aL (gU (ak (aa 3) (ak uK (ak uK ao))))))
  bw)
  (au (aL (Pk (bh (bN t.units) (aa 3) bA) (gU (ak (aa 3) (ak uK ao))) (gU (ak (aa 3) ao))))))))))))))))⟩
def qI:Addr->Str->aj->DM Fl:=(kZ).1
abbrev gj:Stmt:=top 65
def rQ:ZB ["_law_call","_law_e"] ["_law_call"] (ZY gj):=wN rfl rfl rfl rfl (by decide +kernel)
@[simp] def jc(W:Str->D):{b:DM D->aj->DM Fl // ∀{P w K mg base f e A d s H E ρ g th k I} (O:NN K mg uA I) (a:Gc mg "FadeError" I) (U:Ll P w K mg base 0 "_law_flags" uA W) (p:1≤k) (ht:EV P w K mg base k d s H ρ g th) (j:Rm k A "_law_said" gj s f e),AV (bQ P w K mg base ["_law_call","_law_e"] "_law_said" (ZY gj) f e A d s H E) E (R1 0 g ρ H) (ZI gj) (b th)}:=
 ⟨_,fun O a U p ht j=>have q:=ZA.mono j p;have t:=rQ.nd;(DQ (Sv 2 (fh:=fun c=>fun _=>pure (Fl.rt (W c))) (i:=1) O rfl rfl rfl rfl rfl t rfl rfl a (fun l u=>(DQ (Su (Qm MO (Ln j (Wf rfl rfl rfl) ht)))))
  (λc C y x m n o v=>(QF (i:=1) q U m n o)) (λy c M r h=>by rw[<-h];simp[cF,Xh,VN])))⟩
def mY(W:Str->D):DM D->aj->DM Fl:=(jc W).1
abbrev ig:Stmt:=top 66
def qx:ZB E1 E9 (ZY ig):=wN rfl rfl rfl rfl (by decide +kernel)
local macro_rules | `(tactic| trivial)=>`(tactic| (repeat' apply And.intro)<;>first|exact True.intro|rfl|exact⟨_,rfl⟩|exact Or.inl rfl)
@[simp] def lg(iA r y z e kz o p:Fn)(t:DM D->DM D):{b // ∀{P w K mg base f a7 A outer s H E c_ P_ C_Walk} (c:Zs P w K mg base 9 "turned" E5 iA) (g:Zs P w K mg base 2 "_law_shut" E9 r) (l:Zs P w K mg base 8 "one_rest" E5 y) (m:Zs P w K mg base 7 "plainest" E5 z) (I:Zs P w K mg base 2 "_law_all_common" ["_law_numbers"] e) (u:QY P w K mg base 5 "Walk" kz) (U:X1 P w K mg base 1 "Walk" "__len__" "Walk.__len__" bB F8 o) (O:X1 P w K mg base 1 "Walk" "__eq__" "Walk.__eq__" gB G1 p) (iE:Gc mg "Walk" C_Walk) (h:UM K mg "Walk" C_Walk ["rows","whole"]) (v:Nc K mg "Walk") (a:Nn mg "enumerate") (d:Nn mg "isinstance") (x:Nn mg "len") (hV:Nn mg "range") (hX:Nn mg "tuple") (k:LZ P w K mg base (9+1) "_law_said" t) (TB:QU mg base c_ P_) (hC:a7=.ref c_) (hP:∃ps,H P_=some (.eT ps)) (q:Rm 11 A "_law_right" ig s f a7),Ds P w K mg base E1 "_law_right" ig f a7 A outer s H E b}:=
 ⟨_,fun c g l m I u U O iE h v a d x hV hX k TB hC hP q=>have nd:=qx.nd;(aq (Aj (i:=1) (j:=2) rfl nd rfl rfl (by decide) rfl rfl (ak (n8 u q aK (ak (aa 0) ao)) (ak (S6 [0] E9 k q aK TB hC hP (fun q=>(aG c q PB (ak (n8 u q PB (ak (aa 0) ao)) ao))) ⟨⟨rfl,rfl,rfl,by decide +kernel,by decide,Jj rfl,by decide +kernel⟩,rfl,KR (by trivial),rfl,Jd (by trivial)⟩) ao)) rfl)
  (aq (bU (bh (dq q.units) (aG g q aK (ak (aa 0) ao)) (gU (ak (qN rfl hX hV (ak (aO Y1 x (ak (aa 0) ao)) ao)) ao)))
  (au (aL (gh (bN q.units) (aa 2) (gU (ak bA ao)))))
  bw)
  (aq (aJ (i:=3) nd rfl (Or.inl rfl) (aG l q aK (ak (aa 1) ao)))
  (aq (bU (DW.dt (jO (bh (dq q.units) (aQ bj (aa 2) aA) bA) (jO (dJ (bO (aO (yp v) d (ak (aQ bj (aa 2) aA) (ak (Ag iE) ao))) (λZ=>rfl))) (jO (bh (UJ O v q aK (λZ Z Z Z Z Z us hl=>by obtain⟨_,_,rfl⟩:=Bj hl;rfl)) (aG c q aK (ak (aa 1) ao)) (aQ bj (aa 2) aA)) (oA (bh (dq q.units) (aO (dR U q aK (λZ Z Z Z Z Z us hl=>by obtain⟨_,rfl⟩:=kW hl;rfl)) x (ak (aQ bj (aa 2) aA) ao)) (aO Y1 x (ak (aa 0) ao))))))))
  (au (aL iZ))
  bw)
  (aq (aJ (i:=4) nd rfl (Or.inl rfl) (aQ bj (aa 2) aA))
  (aq (cQ 0 ZD rfl (tE rfl a (ak (cW h (by decide) (aa 4)) ao)) (vU (n:=2) rfl (fB (aN (i:=5) nd rfl (Or.inl rfl)) (fB (aN (i:=6) nd rfl (Or.inl rfl)) tu)))
  (au (cQ 0 ZD rfl (tE rfl a (ak (aa 6) ao)) (vU (n:=2) rfl (fB (aN (i:=7) nd rfl (Or.inl rfl)) (fB (aN (i:=8) nd rfl (Or.inl rfl)) tu)))
  (aq (aJ (i:=9) nd rfl (Or.inl rfl) (aM dM (aM dM (aa 8) (aQ bj (aa 3) (aa 5))) (cW h (by decide) (aa 1))))
  (aq (aJ (i:=10) nd rfl (Or.inl rfl) (aM dM (aM dM (aQ bj (aa 3) (aa 7)) (aQ bj (aQ bj (aa 0) (aa 7)) (aa 5))) (cW h (by decide) (aa 4))))
  (au (bU (bh (dq q.units) (aa 9) (aa 10))
  (au (aL iZ))
  bw)))))))
  (aq (aJ (i:=11) nd rfl (Or.inl rfl) (sX ao))
  (aq (cQ 0 ZD rfl (cg (cW h (by decide) (aa 4))) (aN (i:=6) nd rfl (Or.inl rfl))
  (au (jX (sW EM F.slot_list_extend F.type_list_extend Q4 (aa 11) (ak (aa 6) ao)))))
  (au (aL (kh (gh (bN q.units) (aG I q aK (ak (aa 11) ao)) aA) (km (gh (Ux O q aK (λZ Z Z Z Z Z us hl=>by obtain⟨_,_,rfl⟩:=Bj hl;rfl)) (aG c q aK (ak (aa 4) ao)) (aG m q aK (ak (aa 1) ao)))))))))))))))⟩
def qJ(e a c d I f O U:Fn)(b:DM D->DM D):aj->DM Fl:=(lg e a c d I f O U b).1
abbrev zf:Stmt:=top 67
def Ks:ZB F1 ["_law_script"] (ZY zf):=wN rfl rfl rfl rfl (by decide +kernel)
@[simp] def G8(e g j:Fn)(h:Fn):{b // ∀{P w K mg base f m A l s H E U} (I:Zs P w K mg base 1 "_law_cell_at" F5 e) (O:Zs P w K mg base 1 "_law_pen_of" ["_law_cell"] g) (d:Zs P w K mg base 3 "_law_rows" ["_law_pen","_law_most"] j) (k:Nn mg "range")  (c:LX P w K mg base 12 "_law_right" E9 U h) (a:∃p,H U=some (.eT p)) (n:Rm 12 A "law" zf s f m),Ds P w K mg base F1 "law" zf f m A l s H E b}:=
 ⟨_,fun I O d k c a n=>have o:=Ks.nd;(aq (cQ 0 PassesOwn.leaving rfl (oh (aM bY (cP (ak (aG I n aK (ak (aa 0) (ak aA ao))) ao)) (Iw (aa 0) (w6 aA) (w6 aA)))) (aN (i:=1) o rfl (Or.inl rfl))
  (aq (aJ (i:=2) o rfl (Or.inl rfl) (aG O n aK (ak (aa 1) ao)))
  (au (cQ 0 ZD rfl (bV rfl k (ak aA ao)) (aN (i:=3) o rfl (Or.inl rfl))
  (au (bU (dJ (bO (Mm c a n aK (ak (aG d n aK (ak (aa 2) (ak aA ao))) ao)) (λz=>rfl)))
  (au (aL iZ))
  bw))))))
  (au (aL iZ)))⟩
def O8(I O a:Fn)(U:Fn):aj->DM Fl:=(G8 I O a U).1
end K
set_option exponentiation.threshold 20000
namespace K
open PySem L2 L3 N10
def bR:(∀(α:Type) (a:α) (l:List α),(a::l)[0]?=some a)/\(∀(α:Type) (a:α) (l:List α) (i:Nat),(a::l)[i+1]?=l[i]?)/\(∀(α:Type) (x:Option α),(some x).join=x)/\(∀(α:Type) (a:α),(opt (some a):DM α)=pure a)/\∀(α β:Type) (a:α) (f:α->DM β),((pure a:DM α)>>=f)=f a:=⟨λz z z=>rfl,λz z z z=>rfl,λz z=>rfl,λz z=>jm _,λz z z z=>az _ _⟩
def cU:(∀(α:Type) (a b:α) (l:List α) (i:Nat),(a::l).set (i+1) b=a::l.set i b)/\∀(α:Type) (a b:α) (l:List α),(a::l).set 0 b=b::l:=⟨λz z z z z=>rfl,λz z z z=>rfl⟩
noncomputable def zG:=aD 1 1 vN
noncomputable def yf:=aD 2 2 (p7 zG)
def Jp(n:Nat):zG [nD n]=pure (.bl true):=by
 have a:(rd (jt [nD n,.ty "int"]):DM D)=pure (.bl true):=wI (t := "int") (λz=>rfl) (by decide)
 have b:(rd (jt [nD n,.ty "bool"]):DM D)=pure (.bl false):=wI (t := "int") (λz=>rfl) (by decide)
 simp[zG,vN,a,b]
def Ie(hl:l.length<=1000):yf [nT l,.int (l.length:Int)]=pure (.bl true):=by
 have a:(rd (jt [nT l,.ty "tuple"]):DM D)=pure (.bl true):=wI (t := "tuple") (λz=>rfl) (by decide)
 have b:(rd (ju [nT l]):DM D)=pure (.int (l.length:Int)):=by simp[nT]
 simp[yf,p7,a,b,aV,cZ];show(dG (bM _ _ _ (l.map nD) _ _)>>=_)=_;rw[Pg (λz=>true) (λz=>.bl true) (by simpa using Zx hl (by decide)) (λz z=>rfl) (λd c z=>?_) (k':=λl=>rd (uD [.lst l])) (λz=>rfl)]
 ·have:((l.map nD).filter (λz=>true)).map (λz=>D.bl true)=(l.map λz=>true).map D.bl:=by rw[FF.mpr (λz z=>rfl),Zo,Zo];rfl
  have q:(l.map λz=>true).all id=true:=by rw[Kk];intro x e;obtain⟨_,_,rfl⟩:=Ze.mp e;rfl
  rw[this,Ca,q]
 ·obtain⟨n,_,rfl⟩:=Ze.mp c;have:=Jp n;unfold nD at this ⊢
  simp[this]
theorem tX:∀{l:C0}{n:Nat},n∈l->n<=l.sum
 |a::l,n,h=>by
   rw[FE];rcases Y5.mp h with rfl|h
   ·lia
   ·have:=tX h;lia
noncomputable def zA:=aD 2 2 iD
def Sx(cs:C1)(k:Nat):∃c:Int,zA [.eB cs,nD k]=pure (.int c):=by
 by_cases h:k<cs.length
 ·have e:decide ((k:Int)<(cs.length:Int))=true:=Zg (by lia)
  have a:(rd (fD (.eB cs) (.int (k:Int))):DM D)=pure (.int cs[k]):=b7 λM=>by show(TM cs (k:Int)).map _=_;rw[qH (YS h)];rfl
  refine⟨cs[k],?_⟩;simp[zA,iD,nD,e,a,h]
 ·have e:decide ((k:Int)<(cs.length:Int))=false:=ZQ (by lia)
  refine⟨0,?_⟩;simp[zA,iD,nD,e,h]
def aF(h:∀K:Fl->DM Fl,(∀δ',K (.nx δ')=g δ')->Rn (f δ>>=K) M Q):Rn (nQ f g δ) M Q:=by
 have:=h (λr=>match r with | .nx δ'=>g δ'|r=>Pure.pure r) (λz=>rfl)
 exact this
structure WK(R:A6)(W:Nat):Prop where
 n1:1<=R.length
 fR:R.length<=25
 row:∀r∈R,r.length=R.length
 sum:∀r∈R,r.sum=W
 w1:1<=W
def WK.head{R:A6}{W:Nat}(h:WK R W):gr R 0∈R:=Zl (by have:=h.n1;lia)
noncomputable def Hw:=aD 2 2 (vL yf)
noncomputable def Hx:=aD 1 2 (lU Hw)
def Qo(h:l.length=n)(hl:n<=1000):yf [nT l,nD n]=pure (.bl true):=by subst h;exact Ie hl
def zX(n:Nat):(rd (uD [.lst (List.replicate n (.bl true))]):DM D)=pure (.bl true):=by have:=Ca (List.replicate n true);rw[List.map_replicate]at this;rw[this];simp
def yK(l:List α)(d:D):(l.map λz=>d)=List.replicate l.length d:=List.map_const' ..
def Ss{R:A6}{W:Nat}(h:WK R W):Hw [nM R,nD R.length]=pure (.bl true):=by
 have:=h.fR;simp[Hw,vL,J8,oO,rH,wF,aV,cZ];rw[dW nT (λz=>.bl true) (by lia) (λr a=>by simp[Qo (h.row r a) (by lia)])]
 rw[az,yK,zX]
def SQ{R:A6}{W:Nat}(h:WK R W):Hx [nM R]=pure (.bl true):=by
 have b:=h.n1;have c:=h.fR;have d:(rd (Et (.int 1) (nD R.length)):DM D)=pure (.bl true):=by rw[show D.int 1=nD 1 from rfl,Cj,Zg b]
 have e:(rd (Et (nD R.length) (.int 25)):DM D)=pure (.bl true):=by rw[show D.int 25=nD 25 from rfl,Cj,Zg c]
 have f:(rd (Jh (nD W) (.int 1)):DM D)=pure (.bl true):=by rw[show D.int 1=nD 1 from rfl,J7,Zg h.w1]
 have g:∀r∈R,(rd (cM (nD r.sum) (nD W)):DM D)=pure (.bl true):=λr a=>by rw[lC,h.sum r a];simp
 simp[Hx,lU,J8,oO,d,e,Ss h,Ka (R:=R) (by lia),h.sum _ h.head]
 simp[f,wF,aV,cZ];rw[dW nT (λz=>.bl true) (by lia) (λr a=>by simp[g r a])]
 rw[az,yK,zX]
noncomputable def aB(R:A6)(W:Nat):D:=.obj "Walk" ["rows","whole"] [nM R,nD W]
noncomputable def Fin:=aD 2 2 (lQ Hx)
def FQ(hl:ns.length=vs.length)(hz:ns.length<1000):zg "Walk" f (.ref M.length) d (M++[.ins "Walk" ns vs])=some (.ok (),M++[.ins "Walk" (putN f ns) (kY f d ns vs)]):=by
 unfold zg;simp[hl]
 lia
def qX{R:A6}{W:Nat}(h:WK R W)(M:Mo):Fin (.ref M.length::[nM R]) (M++[.ins "Walk" [] []])=some (.ok .aT,M++[.ins "Walk" ["rows","whole"] [nM R,nD W]]):=by
 have b:=h.n1;have a:Rn (Fin (.ref M.length::[nM R])) (M++[.ins "Walk" [] []]) λd I=>d=.aT/\I=M++[.ins "Walk" ["rows","whole"] [nM R,nD W]]:=by
  simp[Fin,lQ,SQ h,Ka (R:=R) (by lia)]
  refine Rn.run (FQ rfl (by decide)) ?_
  rw[h.sum _ h.head];refine Rn.run (FQ rfl (by decide)) ?_
  exact Rn.pure ⟨rfl,rfl⟩
 obtain⟨d,I,e,rfl,rfl⟩:=a;exact e
open Classical in
noncomputable def nU(ds:List D):DM D:=if h:∃p:A6×Nat,WK p.1 p.2/\ds=[nM p.1]then pure (aB (choose h).1 (choose h).2)else stuck
def wX{R:A6}{W:Nat}(h:WK R W):nU [nM R]=pure (aB R W):=by
 have q:∃p:A6×Nat,WK p.1 p.2/\[nM R]=[nM p.1]:=⟨(R,W),h,rfl⟩;unfold nU;rw[dif_pos q];obtain⟨a,b⟩:=Classical.choose_spec q;generalize Classical.choose q=p at a b;have e:R=p.1:=Um (by simpa using b)
 have w:W=p.2:=by have:=h.sum _ h.head;rw[<-this,e];exact a.sum _ a.head
 rw[<-e,<-w]
set_option tactic.hygienic true in
def VD:∀ds M r',nU ds M=some r'->Sg "Walk" Fin ds M r':=by
 intro ds M r' e;unfold nU at e;split at e
 ·rename_i q;obtain⟨a,b⟩:=Classical.choose_spec q;generalize Classical.choose q=p at a b e;subst b;cases e;refine .inl ⟨["rows","whole"],[nM p.1,nD p.2],qX a M,λd c=>?_,rfl⟩
  rcases Y5.mp c with rfl|c
  ·exact .inl (by simp)
  ·exact .inr ⟨p.2,by simpa[nD]using c⟩
 ·cases e
def dC(R:A6)(W:Nat):(rd (xg "Walk" "rows" (aB R W)):DM D)=pure (nM R):=b7 λM=>by simp[xg,aB]
def qR(R:A6)(W:Nat):(rd (xg "Walk" "whole" (aB R W)):DM D)=pure (nD W):=b7 λM=>by
 have:((Str.ofString "whole")==(Str.ofString "rows"))=false:=by decide
 simp[xg,aB,List.lookup,this]
noncomputable def eU:=aD 1 1 nY
def Ud(R:A6)(W:Nat):eU [aB R W]=pure (nD R.length):=by simp[eU,nY,dC,oO]
def fO{R:A6}{W:Nat}(h:R.length<=25):Bk "Walk" eU [aB R W]=pure (nD R.length):=by
 have e:Bk "Walk" eU [aB R W]=(if("Walk":Str) = "Walk" then eU [aB R W]>>=Gw else stuck):=rfl
 rw[e,YK rfl,Ud,az];have q:(0:Int)<=(R.length:Int)/\(R.length:Int)<2^63:=⟨by lia,by lia⟩
 unfold Gw nD;dsimp only;rw[YK q]
def WK.le{R:A6}{W:Nat}(h:WK R W){r:C0}(a:r∈R){n:Nat}(b:n∈r):n<=W:=by rw[<-h.sum r a];exact tX b
def WK.fA{R:A6}{W:Nat}(h:WK R W){r:C0}(a:r∈R)(y:Nat):ga r y<=W:=by
 by_cases hy:y<r.length
 ·exact h.le a (qU hy)
 ·rw[vY (by lia)];exact Z8 _
def Rp(h:∀M,Rn m M λd M'=>d=v/\M'=M):m=pure v:=by funext M;obtain⟨d,M',e,rfl,rfl⟩:=h M;exact e
def R9:∀l:C0,S l.length (ga l)=l.sum:=λl=>by
 rw[<-zU];congr 1;apply AB;intro k;by_cases hk:k<l.length
 ·rw[Y8,ZG hk,YS hk,Option.map_some,dH hk]
 ·rw[Z5 (by simp;lia),Z5 (by lia)]
def Jl(b:Bool):(rd (GK [.bl b]):DM D)=pure (nD (if b then 1 else 0)):=by cases b<;>rfl
def RG(h:i<l.length):(l.set i v).sum+ga l i=l.sum+v:=by
 induction l generalizing i with
 |nil=>simp at h
 |cons a l ih=>
   cases i with
   |zero=>simp[ga];lia
   |succ i=>
     have:=ih (i:=i) (by simpa using h)
     rw[List.set_cons_succ,FE,FE];have e:ga (a::l) (i+1)=ga l i:=rfl;rw[e];lia
def Vn(h:i≠j):ga (l.set i v) j=ga l j:=by unfold ga;rw[Zv,Zv,Zz h]
def kI(hl:a.length=b.length)(h:∀i,i<a.length->ga a i=ga b i):a=b:=by
 apply Kt hl;intro i c d;have:=h i c
 rwa [dH c,dH d]at this
def CK{l:C0}{c:Nat}(h:∀n∈l,n<=c):l.sum<=l.length*c:=by
 induction l with
 |nil=>simp
 |cons a l ih=>
   have:=ih λn hn=>h n (by simp[hn])
   have:=h a (by simp)
   rw[FE,Z7,Nat.add_mul]
   lia
def zc(h:((List.range n).map nD)[j]?=some d):j<n/\d=nD j:=by
 have a:j<n:=by have:=(YJ.mp h).1;simpa using this
 rw[Y8,ZG a]at h;exact⟨a,(Y4 h).symm⟩
def Hs(b:a.length=n):a.sum=S n (ga a):=by rw[<-b,R9]
def bW(h:a<2^b)(hc:b<=c):a<2^c:=Y0 h (Fc (by decide) hc)
def mul_pow(d:x<2^a)(e:y<2^b)(hc:a+b<=c):x*y<2^c:=bW (Nat.pow_add 2 a b▸Nat.mul_lt_mul_of_lt_of_lt d e) hc
def J9(h:i<l.length):(rd (fD (.lst (l.map nD)) (nD i)):DM D)=pure (nD (ga l i)):=Ha (i:=i) (by rw[Y8,YS h,dH h];rfl)
def fF:Av k tg fb (.fix l) δ=XA tg fb l δ:=rfl
def lA:cT fg ft fb (.fix ds) δ l=bM fg ft fb ds δ l:=rfl
set_option tactic.hygienic true in
def Ij(h:i.natAbs<2^8000):Builtin.Int.intBits i<=8000:=by
 unfold Builtin.Int.intBits;split
 ·exact Z8 _
 ·rename_i a;have:i.natAbs≠0:=by intro z;apply a;simp;lia
  exact(Nat.log2_lt this).mpr h
def Fd(h:i.natAbs<2^8000)(h':j.natAbs<2^8000):gA i j=true:=by
 unfold gA;have a:=Ij h;have b:=Ij h';have:Builtin.Int.intTooBig ((Builtin.Int.intBits i:Int)+(Builtin.Int.intBits j:Int))=false:=by
  unfold Builtin.Int.intTooBig;refine ZQ λq=>?_
  have c:16000<=bitsLine:=by decide
  lia
 simp[this]
def lE(h:a<2^8000)(h':b<2^8000):(rd (uV (nD a) (nD b)):DM D)=pure (nD (a*b)):=by unfold nD;rw[Hf (Fd (by simpa using h) (by simpa using h')),xA]
def Ef(c:0<j)(h:j.natAbs<2^8000):lY i j=true:=by
 unfold lY;have a:Builtin.divisionGoesByPylong i j=false:=by
  unfold Builtin.divisionGoesByPylong;have d:j.natAbs≠0:=by lia
  have e:j.natAbs.log2<8000:=(Nat.log2_lt d).mpr h;have b:(j==0)=false:=by simp;lia
  simp only[b];have:¬(j.natAbs.log2 / 30+1>300):=by lia
  simp[this]
 simp[a,c]
def wG(c:0<b)(h:b<2^8000):(rd (jb (nD a) (nD b)):DM D)=pure (nD (a / b)):=by unfold nD;rw[Cg (Ef (by lia) (by simpa using h)),Int.natCast_ediv]
def Ru(c:a<2^62)(d:b<2^62):Cm [nD a,nD b]=some (.fix ((List.range (b-a)).map λk=>nD (a+k))):=by
 have e:∀x:Nat,x<2^62->pM (x:Int)=true:=λx h=>by unfold pM;simp;lia
 have f:((b:Int)-(a:Int)).toNat=b-a:=by lia
 simp[Cm,nD,e a c,e b d,f,pL]
def Dy(h:∀K:Fl->DM Fl,(∀δ',K (.nx δ')=g δ')->(∀d,K (.rt d)=Pure.pure (.rt d))->Rn (f δ>>=K) M Q):Rn (nQ f g δ) M Q:=by
 have:=h (λr=>match r with | .nx δ'=>g δ'|r=>Pure.pure r) (λz=>rfl) (λz=>rfl)
 exact this
noncomputable def HH:=aD 1 1 ug
def JR(h:s<2^40):∃t:Nat,t<2147483629/\HH [nD s]=pure (nD t):=by
 refine⟨(((s+7919)%2147483647)*((s+7919)%2147483647)+48271*((s+7919)%2147483647)+12345)%2147483629,OY _ (by decide),?_⟩
 have d:(rd (eZ (nD s) (.int 7919)):DM D)=pure (nD (s+7919)):=lw s 7919;have c:(rd (jw (nD (s+7919)) (.int 2147483647)):DM D)=pure (nD ((s+7919)%2147483647)):=iU (b:=2147483647) (by decide)
 have lt:=OY (s+7919) (show 2147483647>0 by decide)
 generalize(s+7919)%2147483647=x at c lt;have e:(rd (uV (nD x) (nD x)):DM D)=pure (nD (x*x)):=Kc (by lia)
 have f:(rd (uV (.int 48271) (nD x)):DM D)=pure (nD (48271*x)):=Kc (a:=48271) (by lia)
 have g:∀a b:Nat,(rd (eZ (nD a) (nD b)):DM D)=pure (nD (a+b)):=λa b=>lw a b
 have i:(rd (eZ (nD (x*x+48271*x)) (.int 12345)):DM D)=pure (nD (x*x+48271*x+12345)):=lw _ 12345;have j:(rd (jw (nD (x*x+48271*x+12345)) (.int 2147483629)):DM D)=pure (nD ((x*x+48271*x+12345)%2147483629)):=iU (b:=2147483629) (by decide)
 simp[HH,ug,d,c,e,f,g,i,j]
noncomputable def iz(p:Nat)(M:Mo):Prop:=∃a b c:Nat,c<2^40/\M[p]?=some (.lst [nD a,nD b,nD c])
def iz.lt(h:iz p M):p<M.length:=by obtain⟨a,b,c,_,e⟩:=h;exact(YJ.mp e).1
def iz.sb(h:iz p M)(s:Sb q M M')(d:p≠q):iz p M':=by obtain⟨a,b,c,f,e⟩:=h;exact⟨a,b,c,f,s.at d e⟩
noncomputable def zM:=aD 1 2 p6
def Rj(c:Int)(M:Mo):Rn (zM [.int c]) M λd M'=>d=.ref M.length/\iz M.length M':=by
 unfold zM p6 jy;dsimp only;refine Rn.call rfl ?_;refine aF λK e=>?_
 have a:(rd (Oh (.int 10) (.int 18)):DM D)=pure (.int 1000000000000000000):=by rw[Wt (by decide)];rfl
 have st:bu 2 [D.int c]=[some (.int c),none]:=rfl;rw[st];simp;have en:D.int (if c < -c then -c else c)=nD (if c < -c then -c else c).toNat:=by unfold nD;congr 1;split<;>lia
 rw[en];generalize(if c < -c then -c else c).toNat=n
 rw[e];clear e K;have f:(rd (Jh (nD n) (.int 1000000000000000000)):DM D)=pure (.bl (decide (1000000000000000000<=n))):=J7 n 1000000000000000000;have g:(rd (jw (nD n) (.int 1000003)):DM D)=pure (nD (n%1000003)):=iU (b:=1000003) (by decide)
 simp[a,f,Jl,g];refine Rn.gZ (by simp) ?_
 have lt:=OY n (show 1000003>0 by decide)
 exact Rn.pure ⟨_,rfl,rfl,n,(if 1000000000000000000<=n then 1 else 0),n%1000003,by lia,by simp⟩
noncomputable def Hy:=aD 2 3 (uf HH)
def ou(h:iz p M)(j:0<m)(h1:m<2^60):Rn (Hy [.ref p,nD m]) M λd M'=>∃t:Nat,t<m/\d=nD t/\iz p M'/\Sb p M M':=by
 obtain⟨a,b,c,o,e⟩:=h;have q:=(YJ.mp e).1;unfold Hy uf m8;dsimp only;refine Rn.call rfl ?_;have st:bu 3 [D.ref p,nD m]=[some (.ref p),some (nD m),none]:=rfl;rw[st];have n:fD (.ref p) (.int 0) M=some (nD a):=rn (i:=0) e rfl;have v:fD (.ref p) (.int 1) M=some (nD b):=rn (i:=1) e rfl;have w:fD (.ref p) (.int 2) M=some (nD c):=rn (i:=2) e rfl;have x:(rd (cM (nD b) (.int 1)):DM D)=pure (.bl (decide (b=1))):=lC b 1;have ga:(rd (uq (nD a) (.int 0)):DM D)=pure (.bl (decide (0<a))):=wH a 0;refine Dy λK k u=>?_
 have rest:Rn (K (.nx [some (.ref p),some (nD m),none])) M λr M'=>∃d,r=.rt d/\∃t:Nat,t<m/\d=nD t/\iz p M'/\Sb p M M':=by
  rw[k];clear k u K;refine aF λK k=>?_
  simp;refine Rn.aS _ w ?_;obtain⟨l,O,y⟩:=JR o;have z:(rd (eZ (nD l) (.int 7)):DM D)=pure (nD (l+7)):=lw l 7;obtain⟨g,U,I⟩:=JR (s:=l+7) (by lia)
  simp only[y,az,z,I];refine Rn.run (oY (i:=2) e (by simp)) ?_
  rw[k];clear k K;simp;have f:(M.set p (.lst [nD a,nD b,nD g]))[p]?=some (.lst [nD a,nD b,nD g]):=Zr q;refine Rn.aS (nD g) (rn (i:=2) f rfl) ?_;have dv:(rd (jb (nD g) (.int 64)):DM D)=pure (nD (g / 64)):=Ce (b:=64) (by decide) (by decide)
  simp[dv,iU (a:=g / 64) (b:=m) j];exact Rn.pure ⟨_,rfl,_,OY _ j,rfl,⟨a,b,g,by lia,f⟩,Sb.set⟩
 simp;refine Rn.aS _ v ?_;simp only[x,az,dI];by_cases hb:b=1
 ·simp[hb];refine Rn.aS _ n ?_;simp only[ga,az,dI];by_cases ha:0<a
  ·simp[ha];refine Rn.aS _ n ?_;simp[iU (a:=a) (b:=m) j];refine Rn.aS _ n ?_;simp[Ce (a:=a) (b:=m) j (Nat.lt_trans h1 (by decide))]
   refine Rn.run (oY (i:=0) e (by simp)) ?_
   have f:(M.set p (.lst [nD (a / m),nD b,nD c]))[p]?=some (.lst [nD (a / m),nD b,nD c]):=Zr q;simp;rw[u];exact Rn.pure ⟨_,rfl,_,OY _ j,rfl,⟨_,b,c,o,f⟩,Sb.set⟩
  ·simp[ha];exact rest
 ·simp[hb];exact rest
inductive SH(N:A6)(x:Nat):Nat->Prop
 |here:SH N x x
 |step {y z:Nat}:SH N x y->z∈gr N y->SH N x z
noncomputable def zF:=aD 2 6 (fL 60)
def V3:∀ds M r,zF ds M=some r->∃n,aD 2 6 (fL n) ds M=some r:=λz z z h=>⟨60,h⟩
structure GH(N:A6)(s n:Nat)(ks q:C0):Prop where
 nd:ks.Nodup
 lt:∀x∈ks,x<n
 iq:∀x∈ks,SH N s x
 st:s∈ks
 sub:∀x∈q,x∈ks
 done:∀x∈ks,x∉q->∀y∈gr N x,y∈ks
def GH.all(b:GH N s n ks [])(x:Nat):x∈ks↔SH N s x:=by
 refine⟨b.iq x,λh=>?_⟩
 induction h with
 |here=>exact b.st
 |step h1 h2 ih=>exact b.done _ ih (by simp) _ h2
def pH{n:Nat}{ks:C0}(a:ks.Nodup)(lt:∀x∈ks,x<n):ks.length<=n:=by
 have:=List.Nodup.length_le_of_subset a (l₂:=List.range n) λx b=>YX.mpr (lt x b)
 rwa [Zu]at this
def U7(h:x<N.length):(rd (fD (.lst (N.map nT)) (nD x)):DM D)=pure (nT (gr N x)):=b7 λM=>by
 show(aU (.lst (N.map nT)) M).bind (λl=>TM l (x:Int))=_
 show TM (N.map nT) (x:Int)=_;unfold TM;have e:RY (N.map nT).length (x:Int)=some x:=by rw[YT];exact Jq h
 rw[e];show(N.map nT)[x]?=_;rw[Y8,YS h];unfold gr;rw[Zv,YS h];rfl
structure LP(M0:Mo)(ks vs q:C0)(M:Mo):Prop where
 bG:M[M0.length]?=some (.bG (kD ks) (vs.map nD))
 kA:M[M0.length+1]?=some (.lst (q.map nD))
 len:ks.length=vs.length
 old:∀(j:Nat) (o:DO),M0[j]?=some o->M[j]?=some o
def LP.mi(f:LP M0 ks vs q M)(a:C0):LP M0 ks vs a (M.set (M0.length+1) (.lst (a.map nD))):=
 ⟨by rw[List.getElem?_set_ne (by lia)];exact f.bG,by rw[List.getElem?_set_self (List.getElem?_eq_some_iff.mp f.kA).1],f.len,fun j o e=>by have:=(YJ.mp e).1;rw[Zz (by lia)];exact f.old j o e⟩
def LP.og(f:LP M0 ks vs q M)(x v:Nat):LP M0 (ks++[x]) (vs++[v]) q (M.set M0.length (.bG (kD (ks++[x])) ((vs++[v]).map nD))):=
 ⟨by rw[List.getElem?_set_self (List.getElem?_eq_some_iff.mp f.bG).1],by rw[List.getElem?_set_ne (by lia)];exact f.kA,by simp[f.len],fun j o e=>by have:=(YJ.mp e).1;rw[Zz (by lia)];exact f.old j o e⟩
noncomputable def WR(M0:Mo)(N:A6)(s n:Nat)(m:Nat)(b:aj)(M:Mo):Prop:=m<=25/\∃a c q,GH N s n a q/\m=q.length+(n-a.length)/\LP M0 a c q M/\∃d e,b=[some (.lst (N.map nT)),some (nD s),some (.ref M0.length),some (.ref (M0.length+1)),d,e]
structure MM(N:A6)(s n x m i:Nat)(ks q:C0):Prop where
 nd:ks.Nodup
 lt:∀y∈ks,y<n
 iq:∀y∈ks,SH N s y
 st:s∈ks
 me:x∈ks
 sub:∀y∈q,y∈ks
 done:∀y∈ks,y∉q->y≠x->∀z∈gr N y,z∈ks
 seen:∀z∈(gr N x).take i,z∈ks
 ms:q.length+(n-ks.length)+1=m
def MM.fin(h:MM N s n x m i ks q)(b:(gr N x).length<=i):GH N s n ks q:=
 ⟨h.nd,h.lt,h.iq,h.st,h.sub,fun y c d z a=>by
  by_cases e:y=x
  ·subst e;exact h.seen z (by rw[y9 b];exact a)
  ·exact h.done y c d e z a⟩
def MM.skip(h:MM N s n x m i ks q)(c:(gr N x)[i]?=some y)(d:y∈ks):MM N s n x m (i+1) ks q:=
 ⟨h.nd,h.lt,h.iq,h.st,h.me,h.sub,h.done,fun z b=>by
  rw[List.take_succ,c]at b;rcases Zb.mp b with a|a
  ·exact h.seen z a
  ·simp at a;exact a▸d,h.ms⟩
def MM.add{N:A6}{s n x m i y:Nat}{ks q:C0}(h:MM N s n x m i ks q)(l:(gr N x)[i]?=some y)(r:y∉ks)(I:y<n):MM N s n x m (i+1) (ks++[y]) (q++[y]):=by
 have O:=pH h.nd h.lt;have f:(ks++[y]).Nodup:=EI.mpr ⟨h.nd,by simp,λa t b o e=>r (by simp at o;subst o;exact e▸t)⟩
 have lt':∀z∈ks++[y],z<n:=λz d=>by
  rcases Zb.mp d with c|c
  ·exact h.lt z c
  ·simp at c;lia
 have g:=pH f lt';refine⟨f,lt',λz d=>?_,by simp[h.st],by simp[h.me],λz d=>?_,λz d p u w v=>?_,λz d=>?_,?_⟩
 ·rcases Zb.mp d with c|c
  ·exact h.iq z c
  ·simp at c;subst c;exact .step (h.iq x h.me) (Zk l)
 ·rcases Zb.mp d with c|c
  ·simp[h.sub z c]
  ·simp at c;simp[c]
 ·have j:z≠y:=λe=>p (by simp[e])
  have k:z∈ks:=by
   rcases Zb.mp d with c|c
   ·exact c
   ·simp at c;exact absurd c j
  exact Zb.mpr (.inl (h.done z k (λe=>p (by simp[e])) u w v))
 ·rw[List.take_succ,l]at d;rcases Zb.mp d with c|c
  ·simp[h.seen z c]
  ·simp at c;simp[c]
 ·have:=h.ms;simp at g ⊢
  lia
def GH.mid(h:GH N s n ks (x::q)):MM N s n x ((x::q).length+(n-ks.length)) 0 ks q:=
 ⟨h.nd,h.lt,h.iq,h.st,h.sub x (by simp),λy a=>h.sub y (by simp[a]),λy a b c=>h.done y a (by simp[c,b]),λz d=>by simp at d,by simp;lia⟩
noncomputable def W5(M0:Mo)(N:A6)(s n x m:Nat)(i:Nat)(b:aj)(M:Mo):Prop:=(∃a c q,MM N s n x m i a q/\LP M0 a c q M)/\∃d,b=[some (.lst (N.map nT)),some (nD s),some (.ref M0.length),some (.ref (M0.length+1)),some (nD x),d]
def Tz{N:A6}{s n:Nat}(hN:N.length=n)(hn:n<=25)(hs:s<n)(hg:∀x,∀y∈gr N x,y<n)(M0:Mo):
  Rn (zF [.lst (N.map nT),nD s]) M0 λd M'=>d=.ref M0.length/\∃(ks vs:C0),M'[M0.length]?=some (.bG (kD ks) (vs.map nD))/\ks.Nodup/\(∀x,x∈ks↔SH N s x)/\(∀x∈ks,x<n)/\∀(j:Nat) (o:DO),M0[j]?=some o->M'[j]?=some o:=by
 unfold zF fL iQ;dsimp only;refine Rn.call rfl ?_;have st:bu 6 [.lst (N.map nT),nD s]=[some (.lst (N.map nT)),some (nD s),none,none,none,none]:=rfl;rw[st];refine aF λK hK=>?_
 simp only[bR,bD,aH];refine Rn.bind (Q1:=λd M1=>d=.ref M0.length/\M1=M0++[.bG (kD [s]) [nD 0]]) ⟨_,_,rfl,rfl,rfl⟩ λd M1 ⟨e1,e2⟩=>?_
 subst e1 e2;simp only[cU,az];rw[hK];clear hK K;refine aF λK hK=>?_
 simp only[bR,bD,aH];refine Rn.gZ (by simp) ?_
 simp only[cU,az,List.length_append,List.length_cons,List.length_nil,Nat.zero_add];rw[hK];clear hK K;have init:WR M0 N s n (1+(n-1)) [some (.lst (N.map nT)),some (nD s),some (.ref M0.length),some (.ref (M0.length+1)),none,none] ((M0++[.bG (kD [s]) [nD 0]])++[.lst [nD s]]):=by
  refine⟨by lia,[s],[0],[s],⟨by simp,by simp;exact hs,λx hx=>by simp at hx;rw[hx];exact .here,by simp,by simp,λx hx hq=>absurd hx hq⟩,rfl,⟨by simp,by simp,rfl,λj o e=>?_⟩,none,none,rfl⟩
  have:=(YJ.mp e).1;rw[IM,Y9 this];exact e
 refine aF λK hK=>?_
 refine Rn.bind (yR (qC:=λδ M=>∃(ks vs:C0) (z4 z5:Option D),GH N s n ks []/\LP M0 ks vs [] M/\δ=[some (.lst (N.map nT)),some (nD s),some (.ref M0.length),some (.ref (M0.length+1)),z4,z5]) (WR M0 N s n) (λm δ M hI=>?_) 60 _ _ _ (by lia) init) λr M hI=>?_
 rotate_left
 ·obtain⟨δ',rfl,ks,vs,z4,z5,b,f,rfl⟩:=hI;rw[hK];simp only[bR,bD];exact Rn.pure ⟨_,rfl,rfl,ks,vs,f.bG,b.nd,b.all,b.lt,f.old⟩
 clear hK K init;obtain⟨hm25,ks,vs,q,b,rfl,f,z4,z5,rfl⟩:=hI;have tr:jF (.ref (M0.length+1)) M=some (!(q.map nD).isEmpty):=by unfold jF;dsimp only;rw[f.kA]
 refine⟨!(q.map nD).isEmpty,?_,λhb=>?_,λhb=>?_⟩
 ·show(rd (jF (.ref (M0.length+1))):DM Bool) M=_;unfold rd;rw[tr];rfl
 rotate_left
 ·have:q=[]:=by cases q with
   |nil=>rfl
   |cons a l=>simp at hb
  subst this;exact⟨ks,vs,z4,z5,b,f,rfl⟩
 cases q with
 |nil=>simp at hb
 |cons x q=>
 clear hb tr;have mid0:=b.mid;have hx:=b.lt x mid0.me;refine aF λK hK=>?_
 simp only[bR,bD,aH];have lo:aU (.ref (M0.length+1)) M=some ((x::q).map nD):=by unfold aU;dsimp only;rw[f.kA]
 refine Rn.aS _ lo ?_;have pp:Og (.ref (M0.length+1)) [.int 0] M=some (.ok (nD x),M.set (M0.length+1) (.lst (q.map nD))):=by
  have ei:RY ((x::q).map nD).length 0=some 0:=by simp[RY]
  delta Og;dsimp only;rw[f.kA];dsimp only;rw[ei];rfl
 refine Rn.run pp ?_;have f1:=f.mi q;generalize M.set (M0.length+1) (.lst (q.map nD))=M1 at f1;simp only[cU,az];rw[hK];clear hK K;have at':(opt (jH (nT (gr N x))):DM XG)=pure (.fix ((gr N x).map nD)):=rfl;simp only[bR,bD,aH,U7 (N:=N) (x:=x) (by lia),at',fF]
 refine(cD (W5 M0 N s n x ((x::q).length+(n-ks.length))) _ 0 _ _ ⟨⟨ks,vs,q,mid0,f1⟩,_,rfl⟩ (λi d δ M2 hi hI=>?_)).mono (λr M2 hI=>?_)
 rotate_left
 ·obtain⟨δ',rfl,⟨bq,ay,q',md,f'⟩,z5,rfl⟩:=hI;have bf:=md.fin (by simp)
  exact⟨_,q'.length+(n-bq.length),rfl,by have:=md.ms;lia,by have:=md.ms;lia,bq,ay,q',bf,rfl,f',_,_,rfl⟩
 rw[Y8]at hi;obtain⟨y,hy,rfl⟩:=YM.mp hi;obtain⟨⟨bq,ay,q',md,f'⟩,z5,rfl⟩:=hI;rw[ZM]at md ⊢
 have hyn:=hg x y (Zk hy);have lk:=pH md.nd md.lt;rw[lD,az];simp only[cU,bR,bD,aH];refine Rn.aS _ (Mu (x:=y) f'.bG (by rw[YT];exact f'.len)) ?_
 simp only[dI,az];by_cases hk:y∈bq
 ·have e:bq.contains y=true:=by simpa using hk
  rw[e];simp only[Bool.not_true,Bool.false_eq_true,if_false];exact Rn.pure ⟨_,rfl,⟨bq,ay,q',md.skip hy hk,f'⟩,_,rfl⟩
 ·have e:bq.contains y=false:=by simpa using hk
  rw[e];simp only[Bool.not_false,if_true];refine aF λK hK=>?_
  obtain⟨v,_,ev⟩:=Qz f'.bG f'.len md.me;simp only[bR,bD,aH];refine Rn.aS _ ev ?_;have a1:(rd (eZ (nD v) (.int 1)):DM D)=pure (nD (v+1)):=lw v 1;simp only[a1,az];refine Rn.run (Mv (x:=y) (v:=nD (v+1)) f'.bG (by rw[YT];exact f'.len) hk (by lia)) ?_
  have f2:=f'.og y (v+1);rw[FC,Zj,FD]at f2;generalize M2.set M0.length (.bG (kD (bq++[y])) (ay.map nD++[nD (v+1)]))=M3 at f2;rw[hK];clear hK K;have lo2:aU (.ref (M0.length+1)) M3=some (q'.map nD):=by unfold aU;dsimp only;rw[f2.kA]
  simp only[bR,bD,aH];refine Rn.aS _ lo2 ?_;have ql:q'.length<1000000:=by have:=md.ms;lia
  refine Rn.run (DK (v:=nD y) f2.kA (by rw[YT];exact ql)) ?_
  have f3:=f2.mi (q'++[y]);rw[FC,Zj,FD]at f3;exact Rn.pure ⟨_,rfl,⟨_,_,_,md.add hy hk hyn,f3⟩,_,rfl⟩
def GC{ft:aj->DM Bool}{rest:aj}{n:Nat}{h:Nat->D}{x y:Option D}(p:Nat->Bool)(r:n<=1000)(l:∀j,j<n->ft (some (nD j)::some (h j)::rest)=pure (p j)):
  ∃δ',dG (bM (gT 2 (eG (gN 0) (eG (gN 1) lZ))) ft (cL (cF 0)) ((List.range n).map λj=>.tup [nD j,h j]) (x::y::rest) [])=pure (δ',((List.range n).filter p).map nD):=by
 let f:D->D:=λd=>match d with | .tup [a,b]=>a|_=>.aT
 let m:D->D:=λd=>match d with | .tup [a,b]=>b|_=>.aT
 let o:D->Bool:=λd=>match d with | .tup [.int i,_]=>p i.toNat|_=>false
 obtain⟨δ',q⟩:=uT (fg:=gT 2 (eG (gN 0) (eG (gN 1) lZ))) (ft:=ft) (fe:=cF 0) (λg=>∃x y,g=x::y::rest) (λd=>some (f d)::some (m d)::rest) o f ((List.range n).map λj=>.tup [nD j,h j]) (x::y::rest) [] ⟨x,y,rfl⟩ (by simp;lia)
  (λd c g ⟨x,y,e⟩=>by
    obtain⟨j,_,rfl⟩:=Ze.mp c;exact⟨by subst e;rfl,_,_,rfl⟩) (λd c=>by
    obtain⟨j,k,rfl⟩:=Ze.mp c;have:=l j (YX.mp k);show ft (some (nD j)::some (h j)::rest)=pure (p (j:Int).toNat);rw[KI];exact this) (λd c z=>by
    obtain⟨j,k,rfl⟩:=Ze.mp c;rfl)
 refine⟨δ',?_⟩;rw[q,PP,Au,List.filter_map,Zo];congr 2
open Classical in
noncomputable def rc(N:A6)(x y:Nat):Bool:=decide (SH N x y)
def lF:rc N x y=true↔SH N x y:=by classical exact⟨λh=>ZW h,λh=>Zg h⟩
noncomputable def fW(N:A6)(n:Nat):A6:=(List.range n).map λx=>(List.range n).filter (rc N x)
noncomputable def XQ(M0:Mo)(N:A6)(n:Nat)(i:Nat)(a:aj)(l:List D)(M:Mo):Prop:=(∃z,a=[z,some (.lst (N.map nT))])/\l=((fW N n).take i).map nT/\∀(j:Nat) (o:DO),M0[j]?=some o->M[j]?=some o
def QX{N:A6}{n:Nat}(h1:zK [w]=pure (.lst (N.map nT)))(h2:Bk "Walk" eU [w]=pure (nD n))(u:N.length=n)(v:n<=25)(I:∀x,∀y∈gr N x,y<n)(M0:Mo):
  Rn (aD 1 2 (uE zK zF eU) [w]) M0 λd M'=>d=nM (fW N n)/\∀(j:Nat) (o:DO),M0[j]?=some o->M'[j]?=some o:=by
 unfold uE uZ;dsimp only;refine Rn.call rfl ?_;have st:bu 2 [w]=[some w,none]:=rfl;rw[st];refine aF λK p=>?_
 simp only[cU,bR,bD,aH,h1];rw[p];clear p K;simp only[bR,bD,aH];have O:aV [Str.ofString "start"].length [1] [some w,some (D.lst (N.map nT))]=[none,some (.lst (N.map nT))]:=rfl;have U:vf [nD n]=some (.fix ((List.range n).map nD)):=Kd (n:=n) (by lia)
 rw[h2,az,U,jm,az,O];simp only[iT];have q:∀l:List D,(rd (sy [.lst l]):DM D)=pure (.tup l):=λl=>rfl
 refine Rn.bind (H8 (yI (XQ M0 N n) ((List.range n).map nD) 0 _ _ _ ⟨⟨none,rfl⟩,rfl,λZ Z e=>e⟩ (λi d δ l M r f=>?_))) λpr M f=>?_
 ·obtain⟨⟨z,rfl⟩,rfl,a⟩:=f;rw[Y8]at r;obtain⟨x,g,rfl⟩:=YM.mp r;have b:i<n:=by have:=(YJ.mp g).1;simpa using this
  obtain rfl:i=x:=by rw[ZG b]at g;cases g;rfl
  rw[ZM];rw[lD,az,az,YK rfl];unfold cL;simp only[bR,List.set_cons_zero,aH];refine Rn.bind (Tz u v b I M) λd M1 ⟨e,ks,vs,hd,s,hr,lt,c⟩=>?_
  subst e;have hp:∀y,y∈ks↔y<n/\rc N i y=true:=λy=>by rw[lF,<-hr y];exact⟨λh=>⟨lt y h,h⟩,λh=>h.2⟩
  refine Rn.aS _ (KD hd (by have:=pH s lt;lia) s hp) ?_
  rw[q,az];have k:(fW N n).length=n:=by unfold fW;rw[YT,Zu]
  have m:(((fW N n).take i).map nT).length<sizeLine:=by
   rw[YT,LW,k];show _<2^24
   lia
  rw[YK m];refine Rn.pure ⟨⟨_,rfl⟩,?_,λj o e=>c j o (a j o e)⟩
  have gi:(fW N n)[i]?=some ((List.range n).filter (rc N i)):=by unfold fW;rw[Y8,ZG b];rfl
  rw[List.take_succ,gi,Option.toList_some,FC];rfl
 obtain⟨_,t,a⟩:=f;have k:(fW N n).length=n:=by unfold fW;rw[YT,Zu]
 have tk:(fW N n).take (0+((List.range n).map nD).length)=fW N n:=by rw[ZM,YT,Zu];exact y9 (by rw[k];exact YL n)
 rw[tk]at t;rw[t];simp only[rJ,az,q];exact Rn.pure ⟨_,rfl,rfl,a⟩
def RQ:x∈mQ ns↔x∈ns:=by
 unfold mQ;rw[(cH _).1.mem_iff];have:∀(l acc:C1),x∈l.foldl PyProof.Rows.step_dedup acc↔x∈acc\/x∈l:=by
  intro l;induction l with
  |nil=>intro acc;simp
  |cons a l ih=>
    intro acc;rw[OF,ih,<-LS.vy];by_cases h:a∈acc
    ·rw[YK h];constructor
     ·rintro (h1|h1)
      ·exact .inl h1
      ·exact .inr (.tail _ h1)
     ·rintro (h1|h1)
      ·exact .inl h1
      ·rcases Y5.mp h1 with rfl|h1
       ·exact .inl h
       ·exact .inr h1
    ·rw[YQ h,Zb,Zi,Y5,or_assoc]
 rw[this];simp
def KJ(ns:C1):(mQ ns).Nodup:=by
 unfold mQ;rw[(cH _).1.nodup_iff];have:∀(l acc:C1),acc.Nodup->(l.foldl PyProof.Rows.step_dedup acc).Nodup:=by
  intro l;induction l with
  |nil=>intro acc h;exact h
  |cons a l ih=>
    intro acc h;rw[OF,<-LS.vy];by_cases q:a∈acc
    ·rw[YK q];exact ih acc h
    ·rw[YQ q];refine ih _ (EI.mpr ⟨h,by simp,λx hx y hy e=>?_⟩)
     rw[Zi.mp hy]at e;exact q (e▸hx)
 exact this ns [] (by simp)
def U5(a b:C0):(rd (cM (.lst (a.map nD)) (.lst (b.map nD))):DM D)=pure (.bl (decide (a=b))):=b7 λM=>by
 have e:∀l:C0,l.map nD=(l.map λn:Nat=>(n:Int)).map D.int:=λl=>by rw[Zo];rfl
 have d:=fM (a.map λn:Nat=>(n:Int))
 have q:=gM (a.map λn:Nat=>(n:Int)) (b.map λn:Nat=>(n:Int))
 have c:decide ((a.map λn:Nat=>(n:Int))=(b.map λn:Nat=>(n:Int)))=decide (a=b):=by rw[Zf,Z3,Z3];exact iG
 rw[e a,e b];simp only[cM,L3.UR,Na,XT,fU,Option.map_some,PyData.canLay0,XB,PyData.depth,PyData.eqv];rw[q,c,YK (by rw[Bool.and_self,Bool.true_and];exact Zg (by lia))]
 rfl
def Rq(h:a.length+b.length<=1000000):(rd (eZ (.lst a) (.lst b)):DM D)=pure (.lst (a++b)):=b7 λM=>by
 have:f9 (a++b)=true:=by unfold f9;exact Zg (by show(a++b).length<=2^24;rw[Zm];lia)
 simp[eZ,aU,Nv,this]
theorem g8(h:Nat->D):∀(n k:Nat),gF k ((List.range' k n).map h)=(List.range' k n).map λj=>.tup [nD j,h j]
 |0,k=>rfl
 |n+1,k=>by rw[List.range'_succ,Zj,Zj];show D.tup [.int (k:Int),h k]::gF (k+1) _=_;rw[g8 h n (k+1)];rfl
end K
namespace K
open PySem L2 L3 N10 LB
noncomputable def ji(R:A6):A6:=R.map λr=>(List.range r.length).filter λy=>decide (0<ga r y)
noncomputable def zK:=aD 1 1 p8
def Us{R:A6}{W:Nat}(h:WK R W):zK [aB R W]=pure (.lst ((ji R).map nT)):=by
 have d:=h.fR;have f:jH (nM R)=some (.fix (R.map nT)):=rfl;have g:aV 1 [] [some (aB R W)]=[none]:=rfl;simp[zK,p8,dC,f,lA,g];rw[dW nT (λr=>nT ((List.range r.length).filter λy=>decide (0<ga r y))) (by lia) λr k=>?_]
 ·simp[ji];rfl
 ·have p:=h.row r k;have en:ph [nT r]=some (.fix ((List.range r.length).map λj=>.tup [nD j,nD (ga r j)])):=by
   have e:r.map nD=(List.range' 0 r.length).map λj=>nD (ga r j):=by
    apply Kt
    ·simp
    ·intro i c s;simp at c;simp[dH c]
   show some (XG.fix (gF 0 (r.map nD)))=_;rw[e,g8,EH]
  have b:aV 2 [] [some (nT r)]=[none,none]:=rfl;obtain⟨l,q⟩:=GC (rest:=[]) (n:=r.length) (h:=λj=>nD (ga r j)) (x:=none) (y:=none) (ft:=λm=>opt m[1]?.join>>=λa=>rd (uq a (D.int 0))>>=jG) (λy=>decide (0<ga r y)) (by lia) λj t=>by have o:(rd (uq (nD (ga r j)) (.int 0)):DM D)=pure (.bl (decide (0<ga r j))):=wH (ga r j) 0;simp[o]
  simp only[List.getElem?_cons_zero,Option.join_some,jm,az,en,lA,b,q];rfl
def xH(R:A6):(ji R).length=R.length:=by simp[ji]
def rA{R:A6}{x:Nat}(a:x<R.length):gr (ji R) x=(List.range (gr R x).length).filter λy=>decide (0<ga (gr R x) y):=by
 rw[dZ (by rw[xH];exact a),dZ a]
 simp[ji]
def JS{R:A6}{W:Nat}(h:WK R W)(x:Nat):∀y∈gr (ji R) x,y<R.length:=λy a=>by
 by_cases hx:x<R.length
 ·rw[rA hx]at a;have:=YX.mp (Zn.mp a).1;rw[h.row _ (Zl hx)]at this;exact this
 ·have:gr (ji R) x=[]:=by unfold gr;rw[Zv,Z5 (by rw[xH];lia)];rfl
  rw[this]at a;cases a
noncomputable def Oz:=aD 1 2 (uE zK zF eU)
noncomputable def LD(R:A6):A6:=fW (ji R) R.length
def jf(R:A6):(LD R).length=R.length:=by simp[LD,fW]
def T9{R:A6}{W:Nat}(h:WK R W)(M:Mo):Rn (Oz [aB R W]) M λd M'=>d=nM (LD R)/\∀(j:Nat) (o:DO),M[j]?=some o->M'[j]?=some o:=QX (Us h) (fO h.fR) (xH R) h.fR (JS h) M
def dN(l:C0):C1:=l.map λn:Nat=>(n:Int)
def GZ(l:C0):nT l=tupI (dN l):=by simp[nT,tupI,dN,nD,Function.comp_def]
theorem Ae{α:Type}{ft:aj->DM Bool}{fe:aj->DM D}{rest:aj}(d:α->D)(p:α->Bool)(e:α->C1):∀(as:List α) (x:Option D) (l:List D),l.length+as.length<=18->(∀a∈as,ft (some (d a)::rest)=pure (p a))->(∀a∈as,p a=true->fe (some (d a)::rest)=pure (tupI (e a))/\e a≠[])->
  ∃z,bM (gN 0) ft (tH fe) (as.map d) (x::rest) l=pure (z::rest,l++(as.filter p).map λa=>tupI (e a))
 |[],x,l,_,_,_=>⟨x,by simp[bM]⟩
 |a::as,x,l,hl,h1,h2=>by
   have c:=h1 a (by simp)
   have h:l.length+(as.length+1)<=18:=by simpa using hl
   cases hp:p a with
   |true=>
     obtain⟨i,j⟩:=h2 a (by simp) hp
     have k:(cY [tupI (e a)]).isSome=true:=by rw[show[tupI (e a)]=[e a].map tupI from rfl,jT (λt g=>by simp at g;rw[g];exact j)];rfl
     obtain⟨z,q⟩:=Ae (rest:=rest) d p e as (some (d a)) (l++[tupI (e a)]) (by simp;lia) (λb f=>h1 b (by simp[f])) (λb f=>h2 b (by simp[f]))
     have m:l.length<18:=by lia
     exact⟨z,by simp[bM,c,hp,tH,i,k,m,q]⟩
   |false=>
     obtain⟨z,q⟩:=Ae (rest:=rest) d p e as (some (d a)) l (by lia) (λb f=>h1 b (by simp[f])) (λb f=>h2 b (by simp[f]))
     exact⟨z,by simp[bM,c,hp,q]⟩
def qz{R:A6}{l:C0}(h:l∈LD R):l≠[]/\l.length<=R.length/\∀y∈l,y<R.length:=by
 obtain⟨x,a,rfl⟩:=Ze.mp h;have a:=YX.mp a;refine⟨λz=>?_,?_,λy b=>YX.mp (Zn.mp b).1⟩
 ·have:x∈(List.range R.length).filter (rc (ji R) x):=Zn.mpr ⟨YX.mpr a,lF.mpr .here⟩;rw[z]at this;cases this
 ·have:=IJ (rc (ji R) x) (List.range R.length)
  rwa [Zu]at this
def Ci{R:A6}{i:Nat}(h:i<R.length):(rd (fD (nM R) (nD i)):DM D)=pure (nT (gr R i)):=Hb (i:=i) (by rw[Y8,YS h,dZ h];rfl)
def U6(a b:C0):(rd (cM (nT a) (nT b)):DM D)=pure (.bl (decide (a=b))):=b7 λM=>by
 have e:∀l:C0,l.map nD=(l.map λn:Nat=>(n:Int)).map D.int:=λl=>by rw[Zo];rfl
 have d:=fM (a.map λn:Nat=>(n:Int))
 have q:=gM (a.map λn:Nat=>(n:Int)) (b.map λn:Nat=>(n:Int))
 have c:decide ((a.map λn:Nat=>(n:Int))=(b.map λn:Nat=>(n:Int)))=decide (a=b):=by rw[Zf,Z3,Z3];exact iG
 unfold nT;rw[e a,e b];simp only[cM,L3.UR,Na,XT,fU,Option.map_some,PyData.canLay0,XB,PyData.depth,PyData.eqv];rw[q,c,YK (by rw[Bool.and_self,Bool.true_and];exact Zg (by lia))]
 rfl
noncomputable def cB(L:A6)(l:C0):Bool:=l.all λy=>decide (gr L y=l)
noncomputable def cA(L:A6):A7:=xV (qi ((L.filter (cB L)).map dN))
noncomputable def zj(b:aj):DM Bool:=do
 let a <-opt b[0]?.join
 let a <-opt (jH a)
 let a <-dG (cT (gN 0) (λz=>Pure.pure true) (cL λb=>do
  let a <-opt b[1]?.join
  let c <-opt b[0]?.join
  let x <-rd (fD a c)
  let y <-opt b[2]?.join
  rd (cM x y)) a (aV 1 [1,0] b) [])
 let x <-rd (uD [D.lst a.2])
 rd (jF x)
noncomputable def HR:=aD 1 2 (uo Oz)
def KN{R:A6}{W:Nat}(h:WK R W)(m:R.length<=18)(M:Mo):Rn (HR [aB R W]) M λd M'=>d=.tup ((cA (LD R)).map tupI)/\∀(j:Nat) (o:DO),M[j]?=some o->M'[j]?=some o:=by
 unfold HR uo nq;dsimp only;refine Rn.call rfl ?_;have st:bu 2 [aB R W]=[some (aB R W),none]:=rfl;rw[st];refine aF λK k=>?_
 simp;refine Rn.bind (T9 h M) λd I ⟨e,n⟩=>?_
 subst e;rw[k];clear k K;have p:jH (nM (LD R))=some (.fix ((LD R).map nT)):=rfl;have r:aV 1 [1] [some (aB R W),some (nM (LD R))]=[none,some (nM (LD R))]:=rfl;simp[p,lA,r];have T:∀l∈LD R,zj (some (nT l)::[some (nM (LD R))])=(Pure.pure (cB (LD R) l):DM Bool):=λl b=>by
  have c:=qz b;have f:jH (nT l)=some (.fix (l.map nD)):=rfl;have g:aV 1 [1,0] [some (nT l),some (nM (LD R))]=[none,some (nM (LD R)),some (nT l)]:=rfl;simp only[zj,List.getElem?_cons_zero,Option.join_some,jm,az,f,lA,g];rw[dW nD (λy=>.bl (decide (gr (LD R) y=l))) (by lia) λy s=>by simp[Ci (R:=LD R) (i:=y) (by rw[jf];exact c.2.2 y s),U6]]
  have e:l.map (λy=>D.bl (decide (gr (LD R) y=l)))=(l.map λy=>decide (gr (LD R) y=l)).map D.bl:=by rw[Zo];rfl
  simp only[az,e,Ca,wK];congr 1;unfold cB;rw[List.all_map];rfl
 obtain⟨z,q⟩:=Ae (rest:=[some (nM (LD R))]) nT (cB (LD R)) dN (LD R) none [] (by rw[jf];simpa using m) (ft:=zj) (fe:=cF 0) T (λl b x=>⟨by simp[GZ],λz=>(qz b).1 (by unfold dN at z;simpa using z)⟩)
 refine(show Rn (dG (bM (gN 0) zj (tH (cF 0)) ((LD R).map nT) [none,some (nM (LD R))] [])>>=_) I _ from ?_)
 rw[q];have u:∀M,(λ_:Mo=>wU (([]:List D)++((LD R).filter (cB (LD R))).map λa=>tupI (dN a))) M=some (.lst ((cA (LD R)).map tupI)):=λM=>by
  have e:(((LD R).filter (cB (LD R))).map λa=>tupI (dN a))=((((LD R).filter (cB (LD R))).map dN)).map tupI:=by rw[Zo];rfl
  show wU _=_;rw[Au,e];unfold wU;rw[jT λt v=>by obtain⟨l,b,rfl⟩:=Ze.mp v;exactλz=>(qz (Zn.mp b).1).1 (by unfold dN at z;simpa using z)]
  rfl
 simp only[PP,az];refine Rn.aS _ (u I) ?_;refine Rn.aS (.tup ((cA (LD R)).map tupI)) rfl ?_;exact Rn.pure ⟨_,rfl,rfl,n⟩
end K
namespace K
open PySem L2 L3 N10
structure wE(n:Nat)(l:C0):Prop where
 ne:l≠[]
 lt:∀i∈l,i<n
 len:l.length<=100
def Fx(h:n<=1000):(rd (λM=>(mC [nD n] M).map D.lst):DM D)=pure (.lst ((List.range n).map nD)):=b7 λM=>by
 have:mC [nD n] M=some ((List.range n).map nD):=by
  unfold nD;show(if -(2^62)<=(n:Int)/\(n:Int)<=2^20 then some ((List.range (n:Int).toNat).map nD)else none)=_
  rw[YK ⟨by lia,by lia⟩,KI]
  rfl
 rw[this];rfl
def oR(h:n<=1000):(rd (λM=>(mC [nD n] M).map D.tup):DM D)=pure (nT (List.range n)):=b7 λM=>by
 have:mC [nD n] M=some ((List.range n).map nD):=by
  unfold nD;show(if -(2^62)<=(n:Int)/\(n:Int)<=2^20 then some ((List.range (n:Int).toNat).map nD)else none)=_
  rw[YK ⟨by lia,by lia⟩,KI]
  rfl
 rw[this];rfl
def Rr(a b:Nat):(rd (dj (λz z=>true) (λi j=>.int (i+j)) (nD a) (nD b)):DM D)=pure (nD (a+b)):=b7 λM=>by simp[dj,nD]
def xN{a b:C0}(h:a.length+b.length<=1000000):(rd (eZ (.lst (a.map nD)) (.lst (b.map nD))):DM D)=pure (.lst ((a++b).map nD)):=b7 λM=>by
 have:f9 (a.map nD++b.map nD)=true:=by unfold f9;exact Zg (by show _<=2^24;rw[Zm,YT,YT];lia)
 simp[eZ,aU,Nv,this]
def Rt(x:Nat)(b:Bool):(rd (λM=>(uW (.lst [nD x]) (nD (if b then 1 else 0)) M).map D.lst):DM D)=pure (.lst ((if b then[x]else[]).map nD)):=b7 λM=>by cases b<;>rfl
noncomputable def zN:=aD 2 10 (uh Hy)
structure EL(M0:Mo)(p q n W:Nat)(i:Nat)(M:Mo):Prop where
 ua:iz p M
 sb:Sb p M0 M
 ex:∃R:A6,R.length=i/\M[q]?=some (.lst (R.map nT))/\∀r∈R,r.length=n/\r.sum=W
noncomputable def Gk(M0:Mo)(p tp q n W a:Nat)(i:Nat)(b:aj)(M:Mo):Prop:=(∃c d e f,b=[some (.ref p),some (nD tp),some (nD n),some (nD W),some (nD a),some (.ref q),c,d,e,f])/\EL M0 p q n W i M
structure Cc(M0:Mo)(p q t n:Nat)(L:A6)(i:Nat)(M:Mo):Prop where
 ua:iz p M
 sb:Sb p M0 M
 atq:M[q]?=some (.lst (L.map nT))
 ex:∃r:C0,M[t]?=some (.lst (r.map nD))/\r.length=n/\r.sum=i
noncomputable def W3(M0:Mo)(p q t n:Nat)(L:A6)(pre:aj)(i:Nat)(a:aj)(M:Mo):Prop:=(∃b,a=pre++[b])/\Cc M0 p q t n L i M
def RB{p tp:Nat}(hp:iz p M)(h1:1<=tp)(h2:tp<=6):Rn (zN [.ref p,nD tp]) M λd M'=>∃(R:A6) (W:Nat),d=nM R/\WK R W/\R.length<=tp/\W<=12/\iz p M'/\Sb p M M':=by
 have hpl:=hp.lt;unfold zN uh m9;dsimp only;refine Rn.call rfl ?_;have st:bu 10 [D.ref p,nD tp]=[some (.ref p),some (nD tp),none,none,none,none,none,none,none,none]:=rfl;rw[st];refine aF λK f=>?_
 simp;refine Rn.bind (ou hp (by lia:0<tp) (by lia)) λd1 M1 ⟨t1,g1,e1,ag,s1⟩=>?_
 subst e1;have ml:qj [.int 1,.int 2,.int 3,.int 4,.int 6,.int 12]=pure (.lst ([1,2,3,4,6,12].map nD)):=jR (by simp)
 simp only[U4,az,ml];have d6:=ou (m:=6) ag (by decide) (by decide)
 refine Rn.bind d6 λd2 M2 ⟨t2,g2,e2,hp2,s2⟩=>?_
 subst e2;have ht2:t2<[1,2,3,4,6,12].length:=by simpa using g2
 rw[J9 ht2];have hW:1<=ga [1,2,3,4,6,12] t2/\ga [1,2,3,4,6,12] t2<=12:=by
  have:=qU ht2;generalize ga [1,2,3,4,6,12] t2=x at this;simp at this
  lia
 revert hW;generalize ga [1,2,3,4,6,12] t2=W;intro hW;have d7:=ou (m:=7) hp2 (by decide) (by decide)
 simp only[az];refine Rn.bind d7 λd3 M3 ⟨k,g3,e3,hp3,s3⟩=>?_
 subst e3;rw[f];clear f K d6 d7 ml ht2;have sb3:Sb p M M3:=s1.trans (s2.trans s3);have hn1:1<=t1+1:=by lia
 have hn2:t1+1<=tp:=by lia
 revert hn1 hn2;generalize t1+1=n;intro n1 n2
 -- the list of rows
 refine aF λK f=>?_
 simp;refine Rn.gZ (by simp) ?_
 have pq:p≠M3.length:=by have:=hp3.lt;lia
 have ql:M.length<=M3.length:=sb3.le;have st0:EL M p M3.length n W 0 (M3++[.lst []]):=⟨hp3.sb (q:=M3.length) Sb.push pq,Sb.new (p:=p) (.inr sb3.le) ql Sb.push sb3,[],rfl,by simp,by simp⟩
 rw[f];clear f K ag hp2 hp3 s1 s2 s3;revert st0 pq ql;generalize M3.length=q;generalize M3++[DO.lst []]=M4;intro pq ql st0;refine aF λK f=>?_
 simp[eN (n:=n) (by lia),fF]
 refine Rn.bind (cD (Gk M p tp q n W k) _ 0 _ _ ⟨⟨_,_,_,_,rfl⟩,st0⟩ (λx d δ M5 hx hI=>?_)) (λr M5 hI=>?_)
 rotate_left
 ·obtain⟨g,rfl,⟨z6,z7,z8,z9,rfl⟩,hp5,sb5,R,lR,at5,hR⟩:=hI;rw[f];clear f K;rw[YT,Zu,ZM]at lR;simp;refine Rn.aS (nM R) (by show(aU (.ref q) M5).map _=_;simp only[aU,at5];rfl) ?_
  exact Rn.pure ⟨_,rfl,R,rfl,W,⟨by lia,by lia,λr hr=>by rw[(hR r hr).1,lR],λr hr=>(hR r hr).2,hW.1⟩,by lia,hW.2,hp5,sb5⟩
 clear f K;obtain⟨⟨z6,z7,z8,z9,rfl⟩,hp5,sb5,R,lR,at5,hR⟩:=hI;obtain⟨aw,rfl⟩:=zc hx;rw[ZM]at lR ⊢
 rw[lD,az];have hQ:∀g M',Gk M p tp q n W k (x+1) g M'->(λ(r:Fl) (M':Mo)=>∃g,r=.nx g/\Gk M p tp q n W k (x+1) g M') (.nx g) M':=λg M' h=>⟨g,rfl,h⟩
 revert hQ;generalize(λ(r:Fl) (M':Mo)=>∃g,r=.nx g/\Gk M p tp q n W k (x+1) g M')=Q
 intro hQ
 -- all places
 refine aF λK f=>?_
 simp[Fx (n:=n) (by lia)]
 rw[f];clear f K;have som0:wE n (List.range n):=⟨by simp;lia,λi w=>YX.mp w,by simp;lia⟩
 let G:(Fl->DM Fl)->Prop:=λK=>∀(l:C0) (M6:Mo),wE n l->iz p M6->Sb p M5 M6->Rn (K (.nx [some (.ref p),some (nD tp),some (nD n),some (nD W),some (nD k),some (.ref q),some (nD x),some (.lst (l.map nD)),z8,z9])) M6 Q
 have ev:∀c:Nat,∀b,decide (k=c)=b->(rd (cM (nD k) (nD c)):DM D)=pure (.bl b):=λc b h=>h▸lC k c
 -- 1
 refine aF λK f=>?_
 suffices H:G K by
  by_cases h:k=1
  ·have e:(rd (cM (nD k) (.int 1)):DM D)=_:=ev 1 _ (Zg h);simp[e];refine Rn.bind (ou hp5 (by lia:0<n) (by lia)) λd1 M7 ⟨u1,g1,e1,hp7,s7⟩=>?_
   refine Rn.bind (ou hp7 (by lia:0<n) (by lia)) λd2 M8 ⟨u2,g2,e2,I,s8⟩=>?_
   subst e1 e2;have ml:qj [nD u1,nD u2]=pure (.lst ([u1,u2].map nD)):=jR (by simp)
   simp only[ml,az];exact H [u1,u2] M8 ⟨by simp,λi w=>by simp at w;lia,by simp⟩ I (s7.trans s8)
  ·have e:(rd (cM (nD k) (.int 1)):DM D)=_:=ev 1 _ (ZQ h);simp[e];exact H _ _ som0 hp5 Sb.refl
 intro l1 M6_1 som1 O U;rw[f];clear f K
 -- 2
 refine aF λK f=>?_
 suffices H:G K by
  by_cases h:k=2
  ·have e:(rd (cM (nD k) (.int 2)):DM D)=_:=ev 2 _ (Zg h);have ml:qj [nD ((x+1)%n)]=pure (.lst ([(x+1)%n].map nD)):=jR (by simp)
   have hm:=OY (x+1) (show n>0 by lia)
   simp[e,Fw,iU (a:=x+1) (b:=n) (by lia),ml]
   exact H [(x+1)%n] _ ⟨by simp,λi w=>by simp at w;lia,by simp⟩ O U
  ·have e:(rd (cM (nD k) (.int 2)):DM D)=_:=ev 2 _ (ZQ h);simp[e];exact H _ _ som1 O U
 intro l2 M6_2 som2 hp6_2 sb6_2;rw[f];clear f K
 -- 3
 refine aF λK f=>?_
 suffices H:G K by
  by_cases h:k=3
  ·have e:(rd (cM (nD k) (.int 3)):DM D)=_:=ev 3 _ (Zg h);have md:∀y:Nat,(rd (jw (nD y) (.int 2)):DM D)=pure (nD (y%2)):=λy=>iU (b:=2) (by decide)
   have e1:(rd (cM (nD n) (.int 1)):DM D)=pure (.bl (decide (n=1))):=lC n 1;have ml:qj [nD x]=pure (.lst [nD x]):=jR (by simp)
   have fl:((List.range n).filter λy=>!decide (y%2=x%2)).length<=n:=by
    have:=IJ (λy=>!decide (y%2=x%2)) (List.range n)
    rwa [Zu]at this
   have il:(if decide (n=1)=true then[x]else[]).length<=1:=by split<;>simp
   have ad:=xN (a:=(List.range n).filter λy=>!decide (y%2=x%2)) (b:=if decide (n=1)=true then[x]else[]) (by lia)
   have mu:=Rt x (decide (n=1));have ge:=H (((List.range n).filter λy=>!decide (y%2=x%2))++if decide (n=1)=true then[x]else[]) M6_2 ⟨λz=>?_,λi w=>?_,?_⟩ hp6_2 sb6_2
   ·simp only[cU,bR,bD,aH,e,dI,if_true,eN (n:=n) (by lia),iT,aV,cZ,List.length_cons,List.length_nil,List.map_cons,List.map_nil,List.replicate_succ,List.replicate_zero,List.cons_append,List.nil_append,Option.getD_some]
    rw[aR nD (λy=>!decide (y%2=x%2)) nD (by simp;lia) (λy hy=>by simp[md,rH]) (λy hy Z=>by simp)]
    simp only[cU,az,rJ,ml,e1,Jl,mu,ad];exact ge
   ·rw[List.append_eq_nil_iff]at z
    by_cases h1:n=1
    ·rw[Zg h1,YK rfl]at z;cases z.2
    ·have m:(if x % 2=0 then 1 else 0)∈(List.range n).filter λy=>!decide (y % 2=x % 2):=by
      rw[Zn,YX];constructor
      ·split<;>lia
      ·by_cases h2:x%2=0
       ·simp[h2]
       ·have:x%2=1:=by lia
        simp[this]
     rw[z.1]at m;cases m
   ·rcases Zb.mp w with h2|h2
    ·exact YX.mp (Zn.mp h2).1
    ·split at h2
     ·simp at h2;lia
     ·cases h2
   ·rw[Zm];lia
  ·have e:(rd (cM (nD k) (.int 3)):DM D)=_:=ev 3 _ (ZQ h);simp[e];exact H _ _ som2 hp6_2 sb6_2
 intro l3 M6_3 som3 hp6_3 sb6_3;rw[f];clear f K
 -- 4
 refine aF λK f=>?_
 suffices H:G K by
  by_cases h:k=4
  ·have e:(rd (cM (nD k) (.int 4)):DM D)=_:=ev 4 _ (Zg h);have dv:∀y:Nat,(rd (jb (nD y) (.int 2)):DM D)=pure (nD (y / 2)):=λy=>Ce (b:=2) (by decide) (by decide)
   have fl:((List.range n).filter λy=>decide (y / 2=x / 2)).length<=n:=by
    have:=IJ (λy=>decide (y / 2=x / 2)) (List.range n)
    rwa [Zu]at this
   simp only[cU,bR,bD,aH,e,dI,if_true,eN (n:=n) (by lia),iT,aV,cZ,List.length_cons,List.length_nil,List.map_cons,List.map_nil,List.replicate_succ,List.replicate_zero,List.cons_append,List.nil_append,Option.getD_some]
   rw[aR nD (λy=>decide (y / 2=x / 2)) nD (by simp;lia) (λy hy=>by simp[dv,lC]) (λy hy Z=>by simp)]
   simp only[cU,az,rJ];refine H _ _ ⟨λz=>?_,λi w=>YX.mp (Zn.mp w).1,by lia⟩ hp6_3 sb6_3
   have m:x∈(List.range n).filter λy=>decide (y / 2=x / 2):=by rw[Zn,YX];exact⟨aw,by simp⟩
   rw[z]at m;cases m
  ·have e:(rd (cM (nD k) (.int 4)):DM D)=_:=ev 4 _ (ZQ h);simp[e];exact H _ _ som3 hp6_3 sb6_3
 intro l4 M6_4 som4 hp6_4 sb6_4;rw[f];clear f K
 -- 5
 refine aF λK f=>?_
 suffices H:G K by
  by_cases h:k=5
  ·have e:(rd (cM (nD k) (.int 5)):DM D)=_:=ev 5 _ (Zg h);simp[e,Fw,Fx (n:=x+1) (by lia)]
   exact H (List.range (x+1)) _ ⟨by simp,λi w=>by have:=YX.mp w;lia,by simp;lia⟩ hp6_4 sb6_4
  ·have e:(rd (cM (nD k) (.int 5)):DM D)=_:=ev 5 _ (ZQ h);simp[e];exact H _ _ som4 hp6_4 sb6_4
 intro l5 M6_5 df hp6_5 s;rw[f];clear f K
 -- the row
 have q6:q<M6_5.length:=(YJ.mp (s.at (λz=>pq z.symm) at5)).1
 have at6:=s.at (λz=>pq z.symm) at5
 have sb6:Sb p M M6_5:=sb5.trans s;have m0:qj [.int 0]=pure (.lst [.int 0]):=jR (by simp)
 refine aF λK f=>?_
 simp[m0];refine Bq (by lia) ?_
 have pt:p≠M6_5.length:=by have:=hp6_5.lt;lia
 have qt:q≠M6_5.length:=by lia
 have tl:M.length<=M6_5.length:=sb6.le;have bs0:Cc M p q M6_5.length n R 0 (M6_5++[.lst ((List.replicate n 0).map nD)]):=⟨hp6_5.sb (q:=M6_5.length) Sb.push pt,Sb.new (p:=p) (.inr sb6.le) tl Sb.push sb6,by rw[Y9 q6];exact at6,List.replicate n 0,by simp,by simp,by simp⟩
 rw[f];clear f K;revert bs0 pt qt tl;generalize M6_5.length=t;generalize M6_5++[DO.lst ((List.replicate n 0).map nD)]=M7;intro pt qt tl bs0
 -- ball by ball
 refine aF λK f=>?_
 simp[eN (n:=W) (by lia),fF]
 refine Rn.bind (cD (W3 M p q t n R [some (.ref p),some (nD tp),some (nD n),some (nD W),some (nD k),some (.ref q),some (nD x),some (.lst (l5.map nD)),some (.ref t)]) _ 0 _ _ ⟨⟨z9,rfl⟩,bs0⟩ (λj d δ M8 hj hI=>?_)) (λr M8 hI=>?_)
 ·obtain⟨⟨z9,rfl⟩,I,sb8,o,r,at8,lr,sr⟩:=hI;obtain⟨hj',rfl⟩:=zc hj;rw[ZM]at sr ⊢
  rw[lD,az];have ln:(rd (ju [.lst (l5.map nD)]):DM D)=pure (nD l5.length):=by simp[nD]
  have l0:0<l5.length:=List.length_pos_iff.mpr df.ne;simp[ln];refine Rn.bind (ou I l0 (by have:=df.len;lia)) λd9 M9 ⟨u,g9,e9,hp9,s9⟩=>?_
  subst e9;simp only[J9 g9,az];have ul:ga l5 u<r.length:=by rw[lr];exact df.lt _ (qU g9)
  have at9:=s9.at (λz=>pt z.symm) at8
  have atq9:=s9.at (λz=>pq z.symm) o
  have t9:=(YJ.mp at9).1;generalize ga l5 u=v at ul;refine Rn.aS (nD (ga r v)) (by
   show(if 0<=(v:Int)then(aU (.ref t) M9).bind λl=>TM l (v:Int)else none)=_
   rw[YK (by lia)]
   simp only[aU,at9,Option.bind_some];exact qH (by rw[Y8,YS ul,dH ul];rfl)) ?_
  have ia:(rd (dj (λZ Z=>true) (λi j=>.int (i+j)) (nD (ga r v)) (.int 1)):DM D)=pure (nD (ga r v+1)):=Rr (ga r v) 1
  simp[ia];refine Rn.run (oY at9 (by rw[YT];exact ul)) ?_
  refine Rn.pure ⟨_,rfl,⟨_,rfl⟩,hp9.sb (q:=t) Sb.set pt,Sb.new (p:=p) (.inr (sb8.trans s9).le) tl Sb.set (sb8.trans s9),by rw[Zz (λz=>qt z.symm)];exact atq9,r.set v (ga r v+1),?_,by rw[OZ];exact lr,?_⟩
  ·rw[Zr t9,List.map_set]
  ·have:=RG (l:=r) (i:=v) (v:=ga r v+1) ul
   lia
 obtain⟨g,rfl,⟨z9,rfl⟩,I,sb8,o,r,at8,lr,sr⟩:=hI;rw[YT,Zu,ZM]at sr;rw[f];clear f K;simp;refine Rn.aS _ (by simp only[aU,o];rfl) ?_
 refine Rn.aS (nT r) (by show(aU (.ref t) M8).map _=_;simp only[aU,at8];rfl) ?_
 have q8:=(YJ.mp o).1;refine Rn.run (DK o (by rw[YT];lia)) ?_
 refine Rn.pure (hQ _ _ ⟨⟨_,_,_,_,rfl⟩,I.sb (q:=q) Sb.set pq,Sb.new (p:=p) (.inr sb8.le) ql Sb.set sb8,R++[r],by simp[lR],by rw[Zr q8];simp,λr' hr'=>?_⟩)
 rcases Zb.mp hr' with z|z
 ·exact hR r' z
 ·rw[Zi.mp z];exact⟨lr,sr⟩
end K
namespace K
open PySem L2 L3 N10 LB
def Ot{n:Nat}{l:C0}(h:∀x∈l,x<n):mQ (l.map λn:Nat=>(n:Int))=((List.range n).filter λy=>decide (y∈l)).map λn:Nat=>(n:Int):=by
 refine gk ((wx (KJ _) ?_).mpr λx=>?_) (cH _).2 ?_
 ·rw[List.Nodup,BM];exact(List.nodup_range.filter _).imp λh z=>h (by lia)
 ·rw[RQ,Ze,Ze];constructor
  ·rintro⟨a,b,rfl⟩;exact⟨a,Zn.mpr ⟨YX.mpr (h a b),by simpa using b⟩,rfl⟩
  ·rintro⟨a,b,rfl⟩;exact⟨a,by simpa using(Zn.mp b).2,rfl⟩
 ·rw[BM];refine List.Pairwise.imp (λh=>?_) ((AZ (n:=n)).filter _)
  lia
def ro(n:Nat)(A:Nat->Nat->Bool)(x:Nat):C0:=(List.range n).filter (A x)
noncomputable def dg(n:Nat)(A:Nat->Nat->Bool)(x:Nat):D:=.lst ((ro n A x).map nD)
def Ke{n:Nat}{l:C0}(h:∀x∈l,x<n)(hl:l.length<=60):(λM=>(CJ [.lst (l.map nD)] M).map D.lst) M=some (.lst (((List.range n).filter λy=>decide (y∈l)).map nD)):=by
 have e:l.map nD=(l.map λn:Nat=>(n:Int)).map D.int:=by rw[Zo];rfl
 show(CJ [.lst (l.map nD)] M).map D.lst=_;unfold CJ;simp only[aU,Option.bind_some];rw[e,pD,zn,YK (by simpa using hl),Ot h]
 simp[nD]
noncomputable def dU(A:Nat->Nat->Bool)(m x:Nat):Nat->Nat->Bool:=λi j=>if i<x then A i j||(A i m&&A m j)else A i j
def lK(A:Nat->Nat->Bool)(n:Nat):Nat->Nat->Nat->Bool
 |0=>A
 |m+1=>dU (lK A n m) m n
structure Wa(n:Nat)(E A:Nat->Nat->Bool)(m:Nat):Prop where
 refl:∀x,x<n->A x x=true
 base:∀x y,x<n->y<n->E x y=true->A x y=true
 tr:∀x y k,x<n->y<n->k<m->A x k=true->A k y=true->A x y=true
def Wa.step(h:Wa n E A m)(o:m<n):Wa n E (dU A m n) (m+1):=by
 have e:∀x y,x<n->dU A m n x y=(A x y||(A x m&&A m y)):=λx y a=>by unfold dU;rw[YK a]
 refine⟨λx a=>by rw[e x x a,h.refl x a];rfl,λx y a g p=>by rw[e x y a,h.base x y a g p];rfl,λx y k a g s d b=>?_⟩
 have i:k<n:=by lia
 rw[e x k a]at d;rw[e k y i]at b;rw[e x y a];simp only[Bool.or_eq_true,Bool.and_eq_true]at d b ⊢
 by_cases c:k=m
 ·subst c;have q:A x k=true:=by rcases d with z|z;exact z;exact z.1
  have r:A k y=true:=by rcases b with z|z;exact z;exact z.2
  exact .inr ⟨q,r⟩
 ·have j:k<m:=by lia
  rcases d with d|⟨d,l⟩
  ·rcases b with b|⟨b,f⟩
   ·exact .inl (h.tr x y k a g j d b)
   ·exact .inr ⟨h.tr x m k a o j d b,f⟩
  ·rcases b with b|⟨b,f⟩
   ·exact .inr ⟨d,h.tr m y k o g j l b⟩
   ·exact .inr ⟨d,f⟩
def SH.trans(h1:SH N x y)(h2:SH N y z):SH N x z:=by
 induction h2 with
 |here=>exact h1
 |step _ e ih=>exact ih.step e
noncomputable def A0(R:A6):Nat->Nat->Bool:=λx y=>decide (y=x)||decide (0<ga (gr R x) y)
theorem mU{R:A6}{W:Nat}(h:WK R W):∀(m x y:Nat),m<=R.length->x<R.length->y<R.length->lK (A0 R) R.length m x y=true->SH (ji R) x y
 |0,x,y,_,a,b,e=>by
   unfold lK A0 at e;simp only[Bool.or_eq_true,decide_eq_true_eq]at e;rcases e with rfl|e
   ·exact .here
   ·refine .step .here ?_;rw[rA a];exact Zn.mpr ⟨YX.mpr (by rw[h.row _ (Zl a)];exact b),by simpa using e⟩
 |m+1,x,y,f,a,b,e=>by
   unfold lK dU at e;rw[YK a]at e;simp only[Bool.or_eq_true,Bool.and_eq_true]at e;rcases e with e|⟨c,d⟩
   ·exact mU h m x y (by lia) a b e
   ·exact(mU h m x m (by lia) a (by lia) c).trans (mU h m m y (by lia) (by lia) b d)
theorem Lh(R:A6):∀m,m<=R.length->Wa R.length (A0 R) (lK (A0 R) R.length m) m
 |0,_=>⟨λx z=>by simp[lK,A0],λz z z z h=>h,λz z z z z h=>by lia⟩
 |m+1,a=>(Lh R m (by lia)).step (by lia)
set_option tactic.hygienic true in
def VB{R:A6}{W:Nat}(h:WK R W){x y:Nat}(hx:x<R.length)(hy:y<R.length):lK (A0 R) R.length R.length x y=rc (ji R) x y:=by
 rw[Zf,lF];refine⟨mU h _ x y (YL _) hx hy,λr=>?_⟩
 have wa:=Lh R R.length (YL _);induction r with
 |here=>exact wa.refl x hx
 |step r e ih=>
   rename_i b c;have hb:b<R.length:=by
    cases r with
    |here=>exact hx
    |step _ e=>exact JS h _ _ e
   have b1:=ih hb;rw[rA hb]at e;exact wa.tr x c b hx hy hb b1 (wa.base b c hb hy (by
    unfold A0;have:=(Zn.mp e).2;simp at this ⊢
    exact .inr this))
def Vz{R:A6}{W:Nat}(h:WK R W):(List.range R.length).map (ro R.length (lK (A0 R) R.length R.length))=LD R:=by
 unfold LD fW;refine ZJ λx a=>?_
 unfold ro;exact xz λy b=>VB h (YX.mp a) (YX.mp b)
noncomputable def zH:=aD 1 5 vK
def gP(M M':Mo):Prop:=∀(j:Nat) (o:DO),M[j]?=some o->M'[j]?=some o
def Wl(i:Nat)(l:C0):(rd (AM (nD i) (.lst (l.map nD))):DM D)=Pure.pure (.bl (l.contains i)):=b7 λM=>by show((YA (l.map nD))).map _=_;rw[mj,Option.map_some,Nh]
def Vi(a:m<n):(ro n A x).contains m=A x m:=by rw[Zf,AO];unfold ro;rw[Zn,YX];exact⟨λh=>h.2,λh=>⟨a,h⟩⟩
def pN(h:∀y,y<n->A x y=B x y):dg n A x=dg n B x:=by unfold dg ro;rw[xz λy a=>h y (YX.mp a)]
def KZ(h:i≠x):dU A m (x+1) i j=dU A m x i j:=by
 unfold dU;by_cases c:i<x
 ·rw[YK c,YK (by lia)]
 ·rw[YQ c,YQ (by lia)]
def CP:dU A m x x j=A x j:=by unfold dU;rw[YQ (by lia)]
def CQ:dU A m (x+1) x j=(A x j||(A x m&&A m j)):=by unfold dU;rw[YK (by lia)]
def RX:dU A m x m j=A m j:=by
 unfold dU;split
 ·cases A m j<;>simp
 ·rfl
set_option tactic.hygienic true in
def Cq(b:x<n)(hd:d=dg n (dU A m (x+1)) x):((List.range n).map (dg n (dU A m x))).set x d=(List.range n).map (dg n (dU A m (x+1))):=by
 apply Kt
 ·simp
 ·intro i a c;simp at a;rw[List.getElem_set];split
  ·rename_i e;subst e;rw[hd];simp
  ·rename_i e;simp;exact pN λy w=>(KZ (λz=>e z.symm)).symm
noncomputable def XR(R:A6)(M0:Mo)(m:Nat)(a:aj)(M:Mo):Prop:=(∃b c,a=[some (nM R),some (nD R.length),some (.ref M0.length),b,c])/\gP M0 M/\M[M0.length]?=some (.lst ((List.range R.length).map (dg R.length (lK (A0 R) R.length m))))
noncomputable def XN(R:A6)(M0:Mo)(m x:Nat)(a:aj)(M:Mo):Prop:=(∃b,a=[some (nM R),some (nD R.length),some (.ref M0.length),some (nD m),b])/\gP M0 M/\M[M0.length]?=some (.lst ((List.range R.length).map (dg R.length (dU (lK (A0 R) R.length m) m x))))
def QZ{R:A6}{W:Nat}(h:WK R W)(M:Mo):Rn (zH [nM R]) M λd M'=>d=nM (LD R)/\gP M M':=by
 have n1:=h.n1;have fR:=h.fR;have l0:(rd (ju [nM R]):DM D)=pure (nD R.length):=by simp[nM,nD]
 unfold zH vK pJ;dsimp only;refine Rn.call rfl ?_;have st:bu 5 [nM R]=[some (nM R),none,none,none,none]:=rfl;rw[st];refine aF λK p=>?_
 simp[l0];rw[p];clear p K;refine aF λK p=>?_
 simp[eN (n:=R.length) (by lia),lA]
 have ce:aV 1 [1,0] [some (nM R),some (nD R.length),none,none,none]=[none,some (nD R.length),some (nM R)]:=rfl;rw[ce,dW nD (dg R.length (A0 R)) (by simp;lia) λx w=>?_]
 rotate_left
 ·have w:=YX.mp w;have lr:=h.row _ (Zl w);have m1:qj [nD x]=pure (.lst ([x].map nD)):=jR (by simp)
  have U:aV 1 [2,0] [some (nD x),some (nD R.length),some (nM R)]=[none,some (nM R),some (nD x)]:=rfl;simp only[bR,m1,eN (n:=R.length) (by lia),lA,U]
  rw[aR nD (λy=>decide (0<ga (gr R x) y)) nD (by simp;lia) (λy g=>?_) (λy g Z=>by simp)]
  rotate_left
  ·have g:=YX.mp g;have gt:(rd (uq (nD (ga (gr R x) y)) (.int 0)):DM D)=pure (.bl (decide (0<ga (gr R x) y))):=wH _ 0;simp[Ci (R:=R) (i:=x) w,je (l:=gr R x) (i:=y) (by lia),gt]
  have fl:=IJ (λy=>decide (0<ga (gr R x) y)) (List.range R.length)
  rw[Zu]at fl;simp only[az];rw[xN (a:=[x]) (b:=(List.range R.length).filter λy=>decide (0<ga (gr R x) y)) (by simp;lia),az]
  refine b7 λM=>?_
  have fl':([x]++(List.range R.length).filter λy=>decide (0<ga (gr R x) y)).length<=60:=by simp;lia
  refine(Ke (n:=R.length) (λy g=>?_) fl').trans ?_
  rotate_left
  ·unfold dg ro;congr 3;refine xz λy g=>?_
   unfold A0;rw[Zf];simp[List.mem_range.mp g]
  ·rcases Zb.mp g with z|z
   ·simp at z;lia
   ·exact YX.mp (Zn.mp z).1
 simp only[az];refine Rn.run (a:=.ref M.length) (M':=M++[.lst ((List.range R.length).map (dg R.length (A0 R)))]) rfl ?_;rw[p];clear p K;have t:gP M (M++[.lst ((List.range R.length).map (dg R.length (A0 R)))]):=λj o e=>by rw[Y9 (YJ.mp e).1];exact e
 have u:(M++[.lst ((List.range R.length).map (dg R.length (A0 R)))])[M.length]?=some (.lst ((List.range R.length).map (dg R.length (lK (A0 R) R.length 0)))):=by simp[lK]
 revert t u;generalize M++[.lst ((List.range R.length).map (dg R.length (A0 R)))]=M1;intro t u;refine aF λK p=>?_
 simp[eN (n:=R.length) (by lia),fF]
 refine Rn.bind (cD (XR R M) _ 0 _ _ ⟨⟨_,_,rfl⟩,t,u⟩ (λm d δ M2 hm v=>?_)) (λr M2 v=>?_)
 ·clear p K;obtain⟨⟨z3,O,rfl⟩,kp,k⟩:=v;obtain⟨I,rfl⟩:=zc hm;rw[ZM]at k ⊢
  simp only[cU,bR,lD,eN (n:=R.length) (by lia),fF]
  have c:M2[M.length]?=some (.lst ((List.range R.length).map (dg R.length (dU (lK (A0 R) R.length m) m 0)))):=by rw[k];congr 3
  refine(cD (XN R M m) _ 0 _ _ ⟨⟨_,rfl⟩,kp,c⟩ (λx d δ M3 w v=>?_)).mono λr M3 v=>?_
  ·obtain⟨⟨O,rfl⟩,s,c⟩:=v;obtain⟨f,rfl⟩:=zc w;rw[ZM]at c ⊢
   have q3:=(YJ.mp c).1;generalize hA:lK (A0 R) R.length m=A at c;have ix:∀i,i<R.length->fD (.ref M.length) (nD i) M3=some (dg R.length (dU A m x) i):=λi hi=>rn (i:=i) c (by rw[Y8,ZG hi];rfl)
   have ex:dg R.length (dU A m x) x=dg R.length A x:=pN λy Z=>CP
   have em:dg R.length (dU A m x) m=dg R.length A m:=pN λy Z=>RX
   simp only[cU,bR,lD];refine Rn.aS _ (ix x f) ?_;rw[ex];have inn:(rd (AM (nD m) (dg R.length A x)):DM D)=pure (.bl (A x m)):=by unfold dg;rw[Wl,Vi I]
   simp only[inn,az,dI];cases hc:A x m with
   |true=>
     rw[YK rfl];refine Rn.aS _ (ix x f) ?_;refine Rn.aS _ (ix m I) ?_;rw[ex,em];have f1:=IJ (A x) (List.range R.length);have f2:=IJ (A m) (List.range R.length);rw[Zu]at f1 f2;have ad:(rd (eZ (dg R.length A x) (dg R.length A m)):DM D)=pure (.lst ((ro R.length A x++ro R.length A m).map nD)):=xN (by unfold ro;lia)
     simp only[ad,az];refine Rn.aS _ (Ke (n:=R.length) (l:=ro R.length A x++ro R.length A m) (λy g=>?_) (by unfold ro;rw[Zm];lia)) ?_
     ·rcases Zb.mp g with z|z
      ·exact YX.mp (Zn.mp z).1
      ·exact YX.mp (Zn.mp z).1
     refine Rn.run (oY (i:=x) c (by simpa using f)) ?_
     have er:D.lst (((List.range R.length).filter λy=>decide (y∈ro R.length A x++ro R.length A m)).map nD)=dg R.length (dU A m (x+1)) x:=by
      unfold dg;congr 2;unfold ro;refine xz λy g=>?_
      rw[CQ,hc,Zf];simp[List.mem_range.mp g]
     rw[Cq f er];refine Rn.pure ⟨_,rfl,⟨_,rfl⟩,λj o e=>?_,by rw[Zr q3,hA]⟩
     rw[Zz (λz=>by have:=(YJ.mp e).1;lia)]
     exact s j o e
   |false=>
     rw[YQ (by decide)]
     refine Rn.pure ⟨_,rfl,⟨_,rfl⟩,s,?_⟩;rw[c,hA];congr 2;have e:=Cq (m:=m) (A:=A) f (d:=dg R.length (dU A m (x+1)) x) rfl;rw[<-e];symm;have:dg R.length (dU A m (x+1)) x=((List.range R.length).map (dg R.length (dU A m x)))[x]'(by simpa using f):=by simp;exact pN λy Z=>by rw[CQ,CP,hc];simp
     rw[this,List.set_getElem_self]
  ·obtain⟨δ',rfl,⟨O,rfl⟩,s,c⟩:=v;rw[YT,Zu,ZM]at c;exact⟨_,rfl,⟨_,_,rfl⟩,s,c⟩
 ·obtain⟨δ',rfl,⟨z3,O,rfl⟩,kp,k⟩:=v;rw[YT,Zu,ZM]at k;rw[p];clear p K;have ce3:aV 1 [] [some (nM R),some (nD R.length),some (D.ref M.length),z3,O]=[none]:=rfl;simp[ce3];have c:M2[M.length]?=some (.lst (((List.range R.length).map (ro R.length (lK (A0 R) R.length R.length))).map λl=>.lst (l.map nD))):=by rw[k,Zo];rfl
  refine QJ (λl:C0=>.lst (l.map nD)) nT c (by simp;lia) (λl Z=>?_) (λl=>pure (Fl.rt (D.tup l))) (λq=>rfl) ?_
  ·simp;rfl
  ·refine Rn.pure ⟨_,rfl,?_,kp⟩;rw[Vz h];rfl
noncomputable def zJ:=aD 1 3 (um zH)
def Va(a b:C0):(rd (jh (nT a) (nT b)):DM D)=pure (.bl (!decide (a=b))):=b7 λM=>by
 have e:∀l:C0,l.map nD=(l.map λn:Nat=>(n:Int)).map D.int:=λl=>by rw[Zo];rfl
 have d:=fM (a.map λn:Nat=>(n:Int))
 have q:=gM (a.map λn:Nat=>(n:Int)) (b.map λn:Nat=>(n:Int))
 have c:decide ((a.map λn:Nat=>(n:Int))=(b.map λn:Nat=>(n:Int)))=decide (a=b):=by rw[Zf,Z3,Z3];exact iG
 unfold nT;rw[e a,e b];simp only[jh,L3.UR,Na,XT,fU,Option.map_some,PyData.canLay0,XB,PyData.depth,PyData.eqv];rw[q,c,YK (by rw[Bool.and_self,Bool.true_and];exact Zg (by lia))]
 rfl
def Ky{R:A6}:wU (((LD R).filter (cB (LD R))).map nT)=some (.lst ((cA (LD R)).map tupI)):=by
 have e:((LD R).filter (cB (LD R))).map nT=((((LD R).filter (cB (LD R))).map dN)).map tupI:=by rw[Zo];exact ZJ λl y=>GZ l
 rw[e];unfold wU;rw[jT λt a=>by obtain⟨l,b,rfl⟩:=Ze.mp a;exactλz=>(qz (Zn.mp b).1).1 (by unfold dN at z;simpa using z)]
 rfl
def Ew{R:A6}{W:Nat}(h:WK R W)(r:R.length<=18)(M:Mo):Rn (zJ [nM R]) M λd M'=>d=.tup ((cA (LD R)).map tupI)/\gP M M':=by
 unfold zJ um nj;dsimp only;refine Rn.call rfl ?_;have st:bu 3 [nM R]=[some (nM R),none,none]:=rfl;rw[st];refine aF λK a=>?_
 simp;refine Rn.bind (QZ h M) λd I ⟨e,j⟩=>?_
 subst e;rw[a];clear a K;refine aF λK a=>?_
 have k:jH (nM (LD R))=some (.fix ((LD R).map nT)):=rfl;have m:aV 1 [1] [some (nM R),some (nM (LD R)),none]=[none,some (nM (LD R))]:=rfl;have n:qj []=pure (.lst []):=jR (by simp)
 simp[k,lA,m];rw[aR nT (cB (LD R)) nT (by rw[jf];lia) (λl o=>?_) (λl z z=>by simp)]
 rotate_left
 ·have c:=qz o;have f:jH (nT l)=some (.fix (l.map nD)):=rfl;have g:aV 1 [1,0] [some (nT l),some (nM (LD R))]=[none,some (nM (LD R)),some (nT l)]:=rfl;simp only[List.getElem?_cons_zero,Option.join_some,jm,az,f,lA,g];rw[aR nD (λy=>!decide (gr (LD R) y=l)) nD (by lia) (λy b=>by simp[Ci (R:=LD R) (i:=y) (by rw[jf];exact c.2.2 y b),Va]) (λy z z=>by simp)]
  have p:(rd (cM (.lst ((l.filter λy=>!decide (gr (LD R) y=l)).map nD)) (.lst [])):DM D)=pure (.bl (decide ((l.filter λy=>!decide (gr (LD R) y=l))=[]))):=U5 _ []
  simp only[az,n,p,dI];congr 1;unfold cB;rw[Zf,Z3,List.filter_eq_nil_iff,Kk];exact⟨λh y b=>by simpa using h y b,λh y b=>by simpa using h y b⟩
 simp only[az];rw[a];clear a K;simp;have q:=IJ (cB (LD R)) (LD R);rw[jf]at q;refine Rn.aS (.lst ((cA (LD R)).map tupI)) ?_ ?_
 ·show zp [.lst (((LD R).filter (cB (LD R))).map nT)] I=_;simp only[zp,aU,Option.bind_some];rw[YK (by rw[YT];lia),Ky]
 ·exact Rn.aS (.tup ((cA (LD R)).map tupI)) rfl (Rn.pure ⟨_,rfl,rfl,j⟩)
theorem Ig{L:A6}:∀{l:A7},(∀t∈l,t∈L.map dN)->∃Y:A6,l=Y.map dN/\∀y∈Y,y∈L
 |[],_=>⟨[],rfl,λy h=>by cases h⟩
 |t::l,h=>by
   obtain⟨Y,e,k⟩:=Ig (l:=l) λx b=>h x (.tail _ b)
   obtain⟨y,c,rfl⟩:=Ze.mp (h t Zd);exact⟨y::Y,by rw[e];rfl,λz a=>by
    rcases Y5.mp a with rfl|a
    ·exact c
    ·exact k z a⟩
def Qv{t:C1}{ts:A7}(h:t∈qi ts):t∈ts:=by
 have key:∀(ts acc:A7),t∈ts.foldl fu acc->t∈acc\/t∈ts:=by
  intro ts;induction ts with
  |nil=>intro acc h;exact .inl h
  |cons u ts ih=>
    intro acc h;rcases ih (fu acc u) h with z|z
    ·unfold fu at z;split at z
     ·exact .inl z
     ·rcases Zb.mp z with z|z
      ·exact .inl z
      ·exact .inr (by rw[Zi.mp z];exact Zd)
    ·exact .inr (.tail _ z)
 rcases key ts [] h with z|z
 ·cases z
 ·exact z
def Vo(R:A6):∃Y:A6,D.tup ((cA (LD R)).map tupI)=nM Y/\(∀y∈Y,y∈LD R)/\Y.length<=R.length:=by
 have sub:∀t∈cA (LD R),t∈(LD R).map dN:=λt a=>by have b:=Qv ((fQ _).1.mem_iff.mp a);obtain⟨l,c,rfl⟩:=Ze.mp b;exact Ze.mpr ⟨l,(Zn.mp c).1,rfl⟩
 obtain⟨Y,e,k⟩:=Ig sub;refine⟨Y,?_,k,?_⟩
 ·rw[e,Zo];unfold nM;congr 1;exact ZJ λl z=>(GZ l).symm
 ·have f:(cA (LD R)).length=Y.length:=by rw[e];simp
  have g:(cA (LD R)).length<=((LD R).filter (cB (LD R))).length:=by
   unfold cA;rw[(fQ _).1.length_eq];have:=Eb (((LD R).filter (cB (LD R))).map dN)
   rwa [YT]at this
  have d:=IJ (cB (LD R)) (LD R);rw[jf]at d
  lia
end K
namespace K
open PySem L2 L3 N10
theorem MP(I:Nat->aj->Mo->Prop)(P:D->Mo->Prop):∀(ds:List D) (i:Nat) (a:aj) (M:Mo),I i a M->(∀j d a M,ds[j]?=some d->I (i+j) a M->Rn (tg d a >>= fb) M λr M'=>(∃δ',r=.nx δ'/\I (i+j+1) δ' M')\/∃d,r=.rt d/\P d M')->Rn (XA tg fb ds a) M λr M'=>(∃δ',r=.nx δ'/\I (i+ds.length) δ' M')\/∃d,r=.rt d/\P d M'
 |[],i,a,M,h,_=>Rn.pure (.inl ⟨a,rfl,h⟩)
 |d::ds,i,a,M,h,st=>by
   have s:=st 0 d a M rfl h;have e:XA tg fb (d::ds) a=(tg d a>>=fb)>>=λr=>match r with
    |.nx b=>XA tg fb ds b
    |.ct b=>XA tg fb ds b
    |.bk b=>Pure.pure (.nx b)
    |.rt d=>Pure.pure (.rt d):=by rw[aH];rfl
   rw[e];refine Rn.bind s λr M' h=>?_
   rcases h with⟨δ',e,c⟩|⟨l,e,c⟩
   ·subst e;have f:=MP I P ds (i+1) δ' M' c (λj d a M g k=>by
     have:=st (j+1) d a M (by simpa using g) (by rw[show i+(j+1)=i+1+j by lia];exact k)
     rw[show i+1+j+1=i+(j+1)+1 by lia];exact this)
    rw[show i+(d::ds).length=i+1+ds.length by simp;lia]
    exact f
   ·subst e;exact Rn.pure (.inr ⟨_,rfl,c⟩)
theorem Aw(I:Nat->aj->Mo->Prop)(l:∀j a M,I j a M->M[n]?=some (.lst L))(h:∀j d a M,L[j]?=some d->I j a M->Rn (tg d a >>= fb) M λr M'=>∃δ',r=.nx δ'/\I (j+1) δ' M'):
  ∀(k i:Nat) (a:aj) (M:Mo),i<=L.length->L.length<i+k->I i a M->Rn (mZ tg fb n k i a) M λr M'=>∃δ',r=.nx δ'/\I L.length δ' M'
 |0,i,a,M,_,h2,_=>by lia
 |k+1,i,a,M,h1,h2,f=>by
   have m:=l i a M f;have e:mZ tg fb n (k+1) i a=rd (XG.next (.dyn n) i) >>= λo=>match o with
    |none=>pure (.nx a)
    |some d=>(tg d a>>=fb)>>=λr=>match r with
      |.nx b=>mZ tg fb n k (i+1) b
      |.ct b=>mZ tg fb n k (i+1) b
      |.bk b=>pure (.nx b)
      |.rt d=>pure (.rt d):=by
    show(rd (XG.next (.dyn n) i)>>=_)=_;congr 1;funext o;cases o with
    |none=>rfl
    |some d=>exact(aH _ _ _).symm
   rw[e];by_cases c:i<L.length
   ·refine Rn.aS (some L[i]) (by simp only[XG.next,m,List.getElem?_eq_getElem c]) ?_
    refine Rn.bind (h i L[i] a M (YS c) f) λr M' ⟨δ',p,g⟩=>?_
    subst p;exact Aw I l h k (i+1) δ' M' (by lia) (by lia) g
   ·refine Rn.aS none (by simp only[XG.next,m,List.getElem?_eq_none (Nat.le_of_not_lt c)]) ?_
    have:i=L.length:=by lia
    subst this;exact Rn.pure ⟨a,rfl,f⟩
noncomputable def zB:List D->DM D
 |[.int a,.int b]=>if 0<=a/\0<=b then pure (nD (Nat.gcd a.toNat b.toNat))else stuck
 |_=>stuck
def SJ(a b:Nat):zB [nD a,nD b]=pure (nD (Nat.gcd a b)):=by simp[zB,nD]
def Qq(h1:∀a b:Nat,c [some (nD a),some (nD b)]=pure (b != 0))(h2:∀a b:Nat,0<b->f [some (nD a),some (nD b)]=pure (.nx [some (nD b),some (nD (a % b))])):
  ∀b a:Nat,∃n,cJ c f n [some (nD a),some (nD b)]=pure (.nx [some (nD (Nat.gcd a b)),some (nD 0)]):=by
 intro b;induction b using Nat.strongRecOn with
 |ind b ih=>
   intro a;rcases FV b with rfl|hb
   ·exact⟨1,by simp[cJ,h1]⟩
   ·obtain⟨n,hn⟩:=ih (a%b) (OY _ hb) b;refine⟨n+1,?_⟩;have a8:(b != 0)=true:=by simp;lia
    simp only[cJ,h1,az,a8,if_true,h2 a b hb,hn];rw[Nat.gcd_comm a b,Nat.gcd_rec b a,Nat.gcd_comm]
set_option tactic.hygienic true in
def VR:∀ds M r,zB ds M=some r->∃n,aD 2 2 (gm n) ds M=some r:=by
 intro ds M r h;unfold zB at h;split at h
 ·rename_i a b;split at h
  ·rename_i j;obtain⟨x,rfl⟩:∃x:Nat,a=x:=⟨a.toNat,by lia⟩
   obtain⟨y,rfl⟩:∃y:Nat,b=y:=⟨b.toNat,by lia⟩
   have k:∀a b:Nat,(λd=>((cF 1) d>>=λx=>(λz=>pure (D.int 0)) d>>=λy=>(λx y=>rd (uq x y)) x y)>>=jG) [some (nD a),some (nD b)]=(pure (b != 0):DM Bool):=λa b=>by have g:(rd (uq (nD b) (.int 0)):DM D)=pure (.bl (decide (0<b))):=wH b 0;simp[g];congr 1;rw[Zf];simp;lia
   have l:∀a b:Nat,0<b->(xM 0 1 (λd=>(cF 1) d>>=λx=>(λd=>(λd=>(cF 0) d>>=λx=>(cF 1) d>>=λy=>rd (jw x y)) d>>=λx=>(λz=>pure []) d>>=λi=>pure (x::i)) d>>=λi=>pure (x::i))) [some (nD a),some (nD b)]=pure (.nx [some (nD b),some (nD (a%b))]):=λa b m=>by
    have:=Ck (a:=a) m;simp[nD]at this ⊢
    simp[this]
   obtain⟨n,o⟩:=Qq (c:=(λd=>((cF 1) d>>=λx=>(λz=>pure (D.int 0)) d>>=λy=>(λx y=>rd (uq x y)) x y)>>=jG)) (f:=(xM 0 1 (λd=>(cF 1) d>>=λx=>(λd=>(λd=>(cF 0) d>>=λx=>(cF 1) d>>=λy=>rd (jw x y)) d>>=λx=>(λz=>pure []) d>>=λi=>pure (x::i)) d>>=λi=>pure (x::i)))) k l y x
   refine⟨n,?_⟩;rw[<-h];have:aD 2 2 (gm n) [.int x,.int y]=pure (nD (Nat.gcd x y)):=by unfold gm jx;have e:bu 2 [D.int x,D.int y]=[some (nD x),some (nD y)]:=rfl;simp only[J6,e,PQ,o];simp
   rw[this];simp
  ·cases h
 ·cases h
end K
namespace K
open PySem L2 L3 N10 LB
theorem gP.set(h:gP M0 M)(b:M0.length<=q):gP M0 (M.set q o):=λj a e=>by have c:=(YJ.mp e).1;rw[Zz (by lia)];exact h j a e
def gP.push:gP M (M++[o]):=λj a e=>by rw[Y9 (YJ.mp e).1];exact e
def Rx{α:Type}(m:DM α)(M:Mo)(c:Str)(Q:Mo->Prop):Prop:=∃I,m M=some (.exc c,I)/\Q I
theorem Rx.bind(h:Rx m M c Q):Rx (m>>=f) M c Q:=by obtain⟨I,e,q⟩:=h;refine⟨I,?_,q⟩;show DM.bind m f M=_;unfold DM.bind;rw[e]
def Rn.mn(h:Rn m M P)(k:∀a M',P a M'->Rx (f a) M' c Q):Rx (m>>=f) M c Q:=by obtain⟨a,I,e,p⟩:=h;obtain⟨M',b,q⟩:=k a I p;refine⟨M',?_,q⟩;show DM.bind m f M=_;unfold DM.bind;rw[e];exact b
def Rx.seq(h:Rx (f δ) M c Q):Rx (nQ f g δ) M c Q:=h.bind
def Rx.call(a:ds.length=p)(h:Rx (fb (bu n ds)) M c Q):Rx (aD p n fb ds) M c Q:=by unfold aD;rw[YK a];exact h.bind
def Ku(h:f δ=pure (.nx δ')):nQ f g δ=g δ':=by unfold nQ;rw[h];rfl
noncomputable def Pq:Str->D:=λz=>.tup [.str "rest"]
def V2(y:Addr)(c:Str)(hc:c∈uA):qI y c (bu 4 [.dP y])=pure (.rt (Pq c)):=by
 have:c = "NoRest":=by simpa[uA]using hc
 subst this;have st:bu 4 [.dP y]=[some (.dP y),none,none,none]:=rfl;rw[st];have i:I8 (.dP y)=some y:=rfl;have d:∀k:D,(rd (Be Dc y "NoRest" [.dP y,k]):DM D)=rd (Be Dc 0 "NoRest" [.dP 0,k]):=λk=>by funext M;simp only[rd,Be,I8,if_true]
 have e:Bp [.ty "LookupError",.ty "TypeError",.ty "ArithmeticError",.ty "RuntimeError"]=pure (.tup [.ty "LookupError",.ty "TypeError",.ty "ArithmeticError",.ty "RuntimeError"]):=by funext M;rfl
 have a:∀(m:List D) (w z:Option D) (f g:aj->DM Fl) (b:List D),f [some (.dP y),some (.lst m),w,z]=pure (.nx [some (.dP y),some (.lst b),w,z])->nQ f g [some (.dP y),some (.lst m),w,z]=g [some (.dP y),some (.lst b),w,z]:=λx x x x x x h=>Ku h
 let F:List D:=List.replicate 4 (.bl false)
 let G:List D:=[.bl false,.bl true,.bl false,.bl false]
 unfold qI kZ;dsimp only;refine(Ku (δ':=[some (.dP y),some (.lst F),none,none]) ?_).trans ((a _ _ _ _ _ (F++F) ?_).trans ((a _ _ _ _ _ (F++F++G) ?_).trans ((a _ _ _ _ _ (F++F++G++F) ?_).trans ((a _ _ _ _ _ (F++F++G++F++F) ?_).trans ((a _ _ _ _ _ (F++F++G++F++F) ?_).trans ?_)))))
 all_goals simp only[cU,bR,bD,aH,d,e]
 all_goals first|(funext M;rfl)|skip
noncomputable def zO:=za 2 (mY Pq)
def Vm(h:Rx th M "NoRest" Q):Rn (zO th) M λd M'=>d=.tup [.str "rest"]/\Q M':=by
 obtain⟨M',e,q⟩:=h;refine⟨_,M',?_,rfl,q⟩;have j:∀f:D->DM D,(th>>=f) M=some (.exc "NoRest",M'):=λf=>by show DM.bind th f M=_;unfold DM.bind;rw[e]
 have a:∀(f:D->DM D) (g:D->DM Fl),((th>>=f)>>=g) M=some (.exc "NoRest",M'):=λf g=>by show DM.bind (th>>=f) g M=_;unfold DM.bind;rw[j f]
 unfold zO za mY jc;dsimp only;have hT:∀(b:aj->DM Fl) (c:Str->aj->DM Fl) (i:aj),b i M=some (.exc "NoRest",M')->rZ uA 2 1 b c i M=(dG (c "NoRest" ((List.replicate 2 none).set 1 (some (.dP 0))))>>=N6 1) M':=λb c i h=>by unfold rZ;rw[h];rfl
 show DM.bind (rZ _ _ _ _ _ _) _ M=_;unfold DM.bind;rw[hT _ _ _ (a _ _)];rfl
end K
namespace K
open PySem L2 L3 N10
def eQ(B:Nat->Int)(k n:Nat):D:=.lst ((List.range n).map λj=>.int (B (k+j)))
def d8(B:Nat->Nat->Int)(k n:Nat):D:=.lst ((List.range n).map λi=>eQ (B (k+i)) k n)
noncomputable def zE:=aD 1 3 (gq 9)
def V0:∀ds M r,zE ds M=some r->∃n,aD 1 3 (gq n) ds M=some r:=λz z z h=>⟨9,h⟩
def xu(h:j<n):(rd (fD (eQ B k n) (nD j)):DM D)=pure (.int (B (k+j))):=
 Ha (i:=j) (by rw[Y8,ZG h];rfl)
def xr(h:0<n):(rd (fD (eQ B k n) (.int 0)):DM D)=pure (.int (B k)):=xu h
def QT(h:0<n):(rd (fD (d8 B k n) (.int 0)):DM D)=pure (eQ (B k) k n):=
 Ha (i:=0) (by rw[Y8,ZG h];rfl)
def Ov:(rd (jF (d8 B k n)):DM Bool)=pure (decide (0<n)):=by
 cases n with
 |zero=>rfl
 |succ n=>unfold d8;rw[List.range_succ_eq_map];rfl
def K5:(rd (P0 (some 1) none (d8 B k (n+1))):DM D)=pure (.lst ((List.range n).map λi=>eQ (B (k+1+i)) k (n+1))):=by
 unfold d8;rw[List.range_succ_eq_map,Zj,Zo];have e:(λi=>eQ (B (k+i)) k (n+1)) ∘ Nat.succ=λi=>eQ (B (k+1+i)) k (n+1):=by funext i;show eQ (B (k+(i+1))) _ _=_;rw[show k+(i+1)=k+1+i by lia]
 rw[e];refine b7 λM=>?_
 show some (D.lst (cutD _ _ _))=_;congr 2;generalize hl:List.map (λi=>eQ (B (k+1+i)) k (n+1)) (List.range n)=l
 generalize eQ (B (k+0)) k (n+1)=x;have a:HT.X9 (x::l).length 0 (some 1)=1:=by simp[HT.X9]<;>lia
 have b:HT.X9 (x::l).length (x::l).length none=(x::l).length:=by simp[HT.X9]
 unfold cutD;rw[a,b];simp
structure yk(Bs:Nat->Nat->Nat->Int)(d:Nat->Int)(m:Nat):Prop where
 one:d 0=1
 r9:∀k,k<m->Bs k k k≠0
 se:∀k,k<m->d (k+1)=Bs k k k
 pos:∀k,k<m->0<d k
 eq:∀k i j,k<i->i<m->k<j->j<m->d k*Bs (k+1) i j=Bs k i j*Bs k k k-Bs k i k*Bs k k j
 bd:∀k i j,k<m->i<m->j<m->(Bs k i j).natAbs<2^2450
 sf:∀k,k<m->(d k).natAbs<2^2450
theorem Eg{c:aj->DM Bool}{f:aj->DM Fl}{I:Nat->Nat->Nat->Int}{d:Nat->Int}{m:Nat}(h1:∀B k n x z,c [some (d8 B k n),x,z]=pure (decide (0<n)))
  (h2:∀k n z,k+(n+1)=m->f [some (d8 (I k) k (n+1)),some (.int (d k)),z]=pure (.nx [some (d8 (I (k+1)) (k+1) n),some (.int (d (k+1))),some (eQ (I k k) k (n+1))])) :
  ∀n k N z,k+n=m->n<N->∃x a,cJ c f N [some (d8 (I k) k n),some (.int (d k)),z]=pure (.nx [x,some (.int (d m)),a])
 |0,k,N+1,z,e,_=>⟨_,_,by rw[<-e];simp only[cJ,h1,az];rfl⟩
 |n+1,k,N+1,z,e,h=>by
   obtain⟨x,a,b⟩:=Eg h1 h2 n (k+1) N (some (eQ (I k k) k (n+1))) (by lia) (by lia)
   refine⟨x,a,?_⟩;have g:decide (0<n+1)=true:=by simp
   simp only[cJ,h1,g,az,if_true,h2 k n z e,b]
def Uj(h:i.natAbs<2^2450)(h':j.natAbs<2^2450):(rd (uV (.int i) (.int j)):DM D)=pure (.int (i*j)):=
 Hf (Fd (Y0 h (Fc (by decide) (by decide))) (Y0 h' (Fc (by decide) (by decide))))
def Xd(a:0<j)(h:j.natAbs<2^2450):(rd (jb (.int i) (.int j)):DM D)=pure (.int (i / j)):=
 Cg (Ef a (Y0 h (Fc (by decide) (by decide))))
def Mx{c:aj->DM Bool}{f:aj->DM Fl}{K:Fl->DM Fl}{Q:Fl->Mo->Prop}{I:Nat->Nat->Nat->Int}{d:Nat->Int}{m:Nat}(S:yk I d m)(g:m<=8)(h1:∀B k n x z,c [some (d8 B k n),x,z]=pure (decide (0<n)))
  (h2:∀k n z,k+(n+1)=m->f [some (d8 (I k) k (n+1)),some (.int (d k)),z]=pure (.nx [some (d8 (I (k+1)) (k+1) n),some (.int (d (k+1))),some (eQ (I k k) k (n+1))]))
  (b:∀x a,Rn (K (.nx [x,some (.int (d m)),a])) M Q):Rn (cJ c f 9 [some (d8 (I 0) 0 m),some (.int 1),none]>>=K) M Q:=by
 obtain⟨x,a,e⟩:=Eg h1 h2 m 0 9 none (by lia) (by lia)
 rw[S.one]at e;rw[e,az];exact b x a
def S9(S:yk Bs d m)(h:m<=8):zE [d8 (Bs 0) 0 m]=pure (.int (d m)):=Rp λM=>by
 unfold zE gq jz;dsimp only;refine Rn.call rfl ?_;have st:bu 3 [d8 (Bs 0) 0 m]=[some (d8 (Bs 0) 0 m),none,none]:=rfl;rw[st];refine aF λK b=>?_
 simp;rw[b];clear b K;refine aF λK b=>?_
 refine Mx S h (λB k n x z=>?_) (λk n z e=>?_) λx z'=>?_
 ·simp[Ov]
 ·have a:k<m:=by lia
  have l:=S.r9 k a;have o:(rd (cM (.int (Bs k k k)) (.int 0)):DM D)=pure (.bl false):=by rw[PN,ZQ l]
  simp[QT (B:=Bs k) (k:=k) (Nat.succ_pos n),xr (B:=Bs k k) (k:=k) (Nat.succ_pos n),o,nQ];have p:(O7 (D.int 1):DM (Option Int))=pure (some 1):=id rfl;rw[p,az,K5,az,wD,az];simp only[iT,aV,cZ,List.map_cons,List.map_nil,List.replicate_succ,List.replicate_zero,List.cons_append,List.nil_append,List.getElem?_cons_zero,List.getElem?_cons_succ,Option.getD_some];rw[dW (as:=List.range n) (λi=>eQ (Bs k (k+1+i)) k (n+1)) (λi=>eQ (Bs (k+1) (k+1+i)) (k+1) n) (by simp;lia) (λi q=>?_)]
  ·rw[S.se k a];rfl
  ·have r:=YX.mp q;have s:(rd (ju [eQ (Bs k (k+1+i)) k (n+1)]):DM D)=pure (nD (n+1)):=by unfold eQ;rw[U8];simp[nD]
   have t:Cm [D.int 1,nD (n+1)]=some (.fix ((List.range n).map λj=>nD (1+j))):=by
    rw[show D.int 1=nD 1 from rfl,Ru (by lia) (by lia)]
    rfl
   simp only[bR,s,t,iT];rw[dW (as:=List.range n) (λj=>nD (1+j)) (λj=>.int (Bs (k+1) (k+1+i) (k+1+j))) (by simp;lia) (λj u=>?_)]
   ·rfl
   ·have v:=YX.mp u;have c:=xu (B:=Bs k (k+1+i)) (k:=k) (n:=n+1) (j:=1+j) (by lia)
    have w:=xr (B:=Bs k (k+1+i)) (k:=k) (n:=n+1) (by lia)
    have f:=xu (B:=Bs k k) (k:=k) (n:=n+1) (j:=1+j) (by lia)
    have y:=xr (B:=Bs k k) (k:=k) (n:=n+1) (by lia)
    have I:k+(1+j)=k+1+j:=by lia
    rw[I]at c f;have O:=Uj (S.bd k (k+1+i) (k+1+j) a (by lia) (by lia)) (S.bd k k k a a a)
    have U:=Uj (S.bd k (k+1+i) k a (by lia) a) (S.bd k k (k+1+j) a a (by lia))
    have g:=S.eq k (k+1+i) (k+1+j) (by lia) (by lia) (by lia) (by lia)
    have dv:=Xd (i:=Bs k (k+1+i) (k+1+j)*Bs k k k-Bs k (k+1+i) k*Bs k k (k+1+j)) (S.pos k a) (S.sf k a);rw[<-g,Int.mul_ediv_cancel_left _ (DL (S.pos k a))]at dv;simp only[bR,Option.getD_some,c,w,f,y,O,U,PX,<-g,dv]
 ·rw[b];simp;exact Rn.pure ⟨_,rfl,rfl,rfl⟩
end K
namespace K
open PySem L2 L3 N10 N60
def OD(h:∀i j,i<m->j<m->(A i j).natAbs<=2^230)(c:m<=8)(d:k<m)(e:i<m)(f:j<m):(Mn A k i j).natAbs<2^2450:=
 ZZ (zx (p:=230) (k+1) (by lia) λa b z z=>h _ _ (by split<;>lia) (by split<;>lia)) (Nat.pow_lt_pow_right (by decide) (by lia))
def Vq(h:MS A 0 m)(hm:m<=8)(hb:∀i j,i<m->j<m->(A i j).natAbs<=2^230):yk (Mn A) (dv A) m where
 one:=rfl
 r9 k hk:=DL ((h.kK m (YL _)).2 k hk)
 se k hk:=rfl
 pos k hk:=by
  cases k with
  |zero=>show(0:Int)<1;decide
  |succ k=>exact(h.kK m (YL _)).2 k (by lia)
 eq k i j h1 h2 h3 h4:=K1 k A (λl hl=>DL ((h.kK m (YL _)).2 l (by lia))) i j h1 h3
 bd k i j h1 h2 h3:=OD hb hm h1 h2 h3
 sf k hk:=by
  cases k with
  |zero=>show(1:Int).natAbs<_;exact Nat.one_lt_two_pow (by decide)
  |succ k=>exact OD hb hm (by lia) (by lia) (by lia)
def Qx(h:MS A 0 m)(hm:m<=8)(hb:∀i j,i<m->j<m->(A i j).natAbs<=2^230):zE [d8 A 0 m]=pure (.int (bx A m)):=by
 have:=S9 (Vq h hm hb) hm;rw[show Mn A 0=A from funext λi=>funext λj=>iC A i j]at this
 rw[this];cases m with
 |zero=>rfl
 |succ m=>rw[vD];rfl
noncomputable def HB:=aD 2 2 (vM zG)
def TV(x n:Nat):HB [nD x,nD n]=pure (.bl (decide (x<n))):=by
 have a:(rd (Et (.int 0) (nD x)):DM D)=pure (.bl true):=by rw[show D.int 0=nD 0 from rfl,Cj,Zg (Z8 _)]
 simp[HB,vM,Jp,a,U9]
noncomputable def HQ:=aD 2 2 (jK HB eU)
def Vk{R:A6}{W x:Nat}(h:R.length<=25)(a:x<R.length):HQ [aB R W,nD x]=pure .aT:=by simp[HQ,jK,fO h,TV,a]
def bC(R:A6)(W:Nat)(i j:Nat):Int:=if i=j then(W:Int)-(ga (gr R i) i:Int)else -(ga (gr R i) j:Int)
def JW(f:x<n):(List.range n).filter (λo=>!decide (o=x))=(List.range (n-1)).map (sk x):=by
 have e:List.range n=List.range x++(x::(List.range (n-1-x)).map λi=>x+1+i):=by
  have c:n=x+(1+(n-1-x)):=by lia
  conv=>lhs;rw[c,List.range_add,List.range_add]
  simp[List.map_map,Function.comp_def,Nat.add_assoc]
 rw[e,List.filter_append,AG (by simp),FF.mpr (λa b=>by
  have:=YX.mp b;simp;lia),FF.mpr (λa b=>by
  obtain⟨i,_,rfl⟩:=Ze.mp b;simp;lia)]
 have d:n-1=x+(n-1-x):=by lia
 conv=>rhs;rw[d,List.range_add]
 rw[FC];congr 1
 ·conv=>lhs;rw[<-List.map_id (List.range x)]
  refine ZJ λa b=>?_
  have:=YX.mp b;unfold sk;rw[YK this];rfl
 ·rw[Zo];refine ZJ λa b=>?_
  show _=sk x (x+a);unfold sk;rw[YQ (by lia)]
  lia
noncomputable def HS:=aD 2 3 (nZ HQ zE eU)
def mO(h:i<n-1):sk x i<n:=by unfold sk;split<;>lia
def Vw{R:A6}{W x:Nat}(f:WK R W)(h:x<R.length)(I:R.length<=6)(O:W<2^230)(o:MS (λi j=>bC R W (sk x i) (sk x j)) 0 (R.length-1)):
  HS [aB R W,nD x]=pure (.int (wt (bC R W) R.length x)):=by
 have p:∀i j,i<R.length-1->j<R.length-1->((λi j=>bC R W (sk x i) (sk x j)) i j).natAbs<2^230:=λi j c k=>by have U:=f.fA (Zl (mO (x:=x) c)) (sk x i);have a2:=f.fA (Zl (mO (x:=x) c)) (sk x j);show(bC R W (sk x i) (sk x j)).natAbs<_;unfold bC;split<;>lia
 have r:=Qx o (by lia) λi j c k=>NR (p i j c k)
 unfold HS nZ iR;dsimp only;simp[Vk (W:=W) (show R.length<=25 by lia) h,fO (W:=W) (show R.length<=25 by lia),eN (n:=R.length) (by lia),aV,cZ,nQ]
 rw[aR nD (λy=>!decide (y=x)) nD (by simp;lia) (λy s=>by simp[rH]) (λy s Z=>by simp)]
 rw[az,JW h];dsimp only;rw[wD,az];simp only[iT];have m:∀a∈(List.range (R.length-1)).map (sk x),a<R.length:=λa g=>by obtain⟨i,c,rfl⟩:=Ze.mp g;exact mO (YX.mp c)
 rw[dW (as:=(List.range (R.length-1)).map (sk x)) nD (λa=>.lst (((List.range (R.length-1)).map (sk x)).map λb=>.int (bC R W a b))) (by simp;lia) (λa g=>?_)]
 ·rw[az];dsimp only;have e:D.lst (((List.range (R.length-1)).map (sk x)).map λa=>.lst (((List.range (R.length-1)).map (sk x)).map λb=>.int (bC R W a b)))=d8 (λi j=>bC R W (sk x i) (sk x j)) 0 (R.length-1):=by
   unfold d8 eQ;rw[Zo];congr 1;refine ZJ λi Z=>?_
   show D.lst _=D.lst _;rw[Zo];congr 1;refine ZJ λj Z=>?_
   simp
  rw[e,r];rfl
 ·have d:=m a g;simp only[bR,Option.getD_some,wD,iT];rw[dW (as:=(List.range (R.length-1)).map (sk x)) nD (λb=>.int (bC R W a b)) (by simp;lia) (λb t=>?_)]
  ·rfl
  ·have u:=m b t;have v:=wJ (R:=R) (i:=a) d;have rl:(gr R a).length=R.length:=f.row _ (Zl d);have w:=je (l:=gr R a) (i:=a) (by lia)
   have z:=je (l:=gr R a) (i:=b) (by lia)
   simp only[bR,Option.getD_some,lC,dI,dC,qR,v,w,z];by_cases q:a=b
   ·rw[YK (by simpa using q)]
    unfold bC;rw[YK q];exact PX _ _
   ·rw[YQ (by simpa using q)]
    unfold bC;rw[YQ q];exact Wr _
inductive To(R:A6)(x:Nat):Nat->Prop
 |here:To R x x
 |step {i j:Nat}:j<R.length->0<ga (gr R i) j->To R x j->To R x i
theorem jV(f:Nat->Int):∀n k,SR f k (n+1)=SR f k n+f (k+n)
 |0,k=>by simp[SR]
 |n+1,k=>by
   have:=jV f n (k+1);rw[SR,this,SR,show k+1+n=k+(n+1) by lia]
   lia
theorem zT:∀n k,(∀j,k<=j->j<k+n->f j=g j)->SR f k n=SR g k n
 |0,_,_=>rfl
 |n+1,k,h=>by rw[SR,SR,h k (YL _) (by lia),zT n (k+1) λj h1 h2=>h j (by lia) (by lia)]
theorem O4(f:Nat->Int):∀n,x<n+1->SR (λj=>f (sk x j)) 0 n+f x=SR f 0 (n+1)
 |n,h=>by
   by_cases e:x=n
   ·subst e;rw[jV,ZM,zT (g:=f) x 0 λj z h2=>by show f (sk x j)=f j;unfold sk;rw[YK (by lia)]]
   ·obtain⟨m,rfl⟩:∃m,n=m+1:=⟨n-1,by lia⟩
    have a:=O4 f m (x:=x) (by lia)
    rw[jV,jV f (m+1),<-a,ZM,ZM];have:sk x m=m+1:=by unfold sk;rw[YQ (by lia)]
    rw[this]
    lia
theorem Es{R:A6}{W a:Nat}:∀m,SR (bC R W a) 0 m=(if a<m then(W:Int)else 0)-(S m (ga (gr R a)):Int)
 |0=>by simp[SR,S]
 |m+1=>by
   rw[jV,Es m,ZM];have e:S (m+1) (ga (gr R a))=S m (ga (gr R a))+ga (gr R a) m:=rfl;rw[e];unfold bC;by_cases q:a=m
   ·subst q;rw[YK rfl,YQ (by lia),YK (by lia)]
    lia
   ·rw[YQ q];by_cases q2:a<m
    ·rw[YK q2,YK (by lia)];lia
    ·rw[YQ q2,YQ (by lia)];lia
def yG{R:A6}{W a:Nat}(c:WK R W)(b:a<R.length):SR (bC R W a) 0 R.length=0:=by
 have l:=c.row _ (Zl b);have s:=c.sum _ (Zl b);rw[Es,YK b,<-l,R9,s]
 lia
def Bg{R:A6}{W a x:Nat}(b:WK R W)(c:a<R.length)(e:x<R.length)(d:a≠x):SR (λj=>bC R W a (sk x j)) 0 (R.length-1)=(ga (gr R a) x:Int):=by
 have h:=O4 (bC R W a) (x:=x) (R.length-1) (by lia)
 rw[show R.length-1+1=R.length by lia,yG b c]at h
 have:bC R W a x=-(ga (gr R a) x:Int):=by unfold bC;rw[YQ d]
 rw[this]at h
 lia
def Hl:sk x i≠x:=by unfold sk;split<;>lia
def Kz(h:sk x i=sk x j):i=j:=by unfold sk at h;split at h<;>split at h<;>lia
def Wx(a:b<n)(c:b≠x)(d:x<n):∃j,j<n-1/\sk x j=b:=by
 by_cases q:b<x
 ·exact⟨b,by lia,by unfold sk;rw[YK q]⟩
 ·exact⟨b-1,by lia,by unfold sk;rw[YQ (by lia)];lia⟩
set_option tactic.hygienic true in
def GX{R:A6}{W x:Nat}(wk:WK R W)(hx:x<R.length)(ht:∀a,a<R.length->To R x a):MS (λi j=>bC R W (sk x i) (sk x j)) 0 (R.length-1)where
 off i j _ h2 _ h4 ne:=by
  show bC R W (sk x i) (sk x j)<=0;unfold bC;rw[YQ λe=>ne (Kz e)]
  lia
 sum i _ h2:=by
  show 0<=SR (λj=>bC R W (sk x i) (sk x j)) 0 (R.length-1)
  rw[Bg wk (mO (by lia)) hx Hl]
  lia
 iq i _ h2:=by
  have key:∀a,To R x a->∀i,i<R.length-1->sk x i=a->RL (λi j=>bC R W (sk x i) (sk x j)) 0 (R.length-1) i:=by
   intro a h;induction h with
   |here=>intro i _ e;exact absurd e Hl
   |step hj hp tt ih=>
     rename_i a b;intro i hi e;by_cases q:b=x
     ·refine .ip ?_;show 0<SR (λj=>bC R W (sk x i) (sk x j)) 0 (R.length-1)
      rw[Bg wk (mO hi) hx Hl,e];rw[q]at hp
      lia
     ·obtain⟨j,hj1,hj2⟩:=Wx hj q hx;have r:=ih j hj1 hj2;by_cases q2:i=j
      ·rw[q2];exact r
      ·refine .step (j:=j) (Z8 _) (by lia) q2 ?_ r
       show bC R W (sk x i) (sk x j)<0;unfold bC;rw[YQ λe=>q2 (Kz e),e,hj2]
       lia
  exact key _ (ht _ (mO (by lia))) i (by lia) rfl
theorem OJ(f:Nat->Int):∀n,SN f n=SR f 0 n
 |0=>rfl
 |n+1=>by rw[jV,ZM,<-OJ f n];rfl
def VG{R:A6}{W x:Nat}(b:WK R W)(c:x<R.length)(d:R.length<=6)(ht:∀a,a<R.length->To R x a):0<wt (bC R W) R.length x:=
 Qk (GX b c ht)
def QV(R:A6)(W x y:Nat):bC R W x y=(if x=y then(W:Int)else 0)-(ga (gr R x) y:Int):=by
 unfold bC;by_cases q:x=y
 ·subst q;rw[YK rfl,YK rfl]
 ·rw[YQ q,YQ q];lia
theorem Ia{w:Nat->Int}{r:Nat->Int}{W:Int}{y:Nat}:∀n,SN (λx=>w x*((if x=y then W else 0)-r x)) n=(if y<n then w y*W else 0)-SN (λx=>w x*r x) n
 |0=>by simp[SN]
 |n+1=>by
   show SN _ n+w n*((if n=y then W else 0)-r n)=_-(SN _ n+w n*r n)
   rw[Ia n,Int.mul_sub];by_cases q:n=y
   ·subst q;rw[YK rfl,YQ (by lia),YK (by lia)]
    lia
   ·rw[YQ q];by_cases q2:y<n
    ·rw[YK q2,YK (by lia)];lia
    ·rw[YQ q2,YQ (by lia)];lia
noncomputable def RO(R:A6)(W x:Nat):Nat:=(wt (bC R W) R.length x).toNat
theorem R7:∀n,(∀x,x<n->g x=(f x:Int))->SN g n=(S n f:Int)
 |0,_=>rfl
 |n+1,h=>by
   show SN g n+g n=((S n f+f n:Nat):Int);rw[R7 n λx a=>h x (by lia),h n (by lia)]
   lia
def oU{R:A6}{W x:Nat}(b:WK R W)(c:x<R.length)(d:R.length<=6)(ht:∀a,a<R.length->To R x a):0<RO R W x/\wt (bC R W) R.length x=(RO R W x:Int):=by
 have:=VG b c d ht;unfold RO
 lia
def Oo{R:A6}{W y:Nat}(c:WK R W)(d:y<R.length)(g:R.length<=6)(ht:∀x,x<R.length->∀a,a<R.length->To R x a):S R.length (λx=>RO R W x*ga (gr R x) y)=RO R W y*W:=by
 have h:=fP (L:=bC R W) (λx b=>GX c b (ht x b)) (λx b=>by rw[OJ];exact yG c b) y d
 have e:(λx=>wt (bC R W) R.length x*bC R W x y)=λx=>wt (bC R W) R.length x*((if x=y then(W:Int)else 0)-(ga (gr R x) y:Int)):=by funext x;rw[QV]
 rw[e,Ia,YK d]at h;rw[R7 (f:=λx=>RO R W x*ga (gr R x) y) R.length λx b=>by show wt (bC R W) R.length x*_=_;rw[(oU c b g (ht x b)).2];exact(xA _ _).symm]at h
 rw[(oU c d g (ht y d)).2,<-xA]at h
 lia
end K
namespace K
open PySem L2 L3 N10
noncomputable def lN:List D->DM D
 |[.int a,.int b]=>if 0<=a/\0<=b then pure (nD (Nat.gcd a.toNat b.toNat))else stuck
 |_=>stuck
def Ba(a b:Nat):lN [nD a,nD b]=pure (nD (Nat.gcd a b)):=by simp[lN,nD]
def QM(h1:∀a b:Nat,c [some (nD a),some (nD b)]=pure (b != 0))(h2:∀a b:Nat,0<b->f [some (nD a),some (nD b)]=pure (.nx [some (nD b),some (nD (a % b))])):
  ∀b a:Nat,∃n,cJ c f n [some (nD a),some (nD b)]=pure (.nx [some (nD (Nat.gcd a b)),some (nD 0)]):=by
 intro b;induction b using Nat.strongRecOn with
 |ind b ih=>
   intro a;rcases FV b with rfl|hb
   ·exact⟨1,by simp[cJ,h1]⟩
   ·obtain⟨n,hn⟩:=ih (a%b) (OY _ hb) b;refine⟨n+1,?_⟩;have a8:(b != 0)=true:=by simp;lia
    simp only[cJ,h1,az,a8,if_true,h2 a b hb,hn];rw[Nat.gcd_comm a b,Nat.gcd_rec b a,Nat.gcd_comm]
set_option tactic.hygienic true in
def V5:∀ds M r,lN ds M=some r->∃n,aD 2 2 (dB n) ds M=some r:=by
 intro ds M r h;unfold lN at h;split at h
 ·rename_i a b;split at h
  ·rename_i i;obtain⟨x,rfl⟩:∃x:Nat,a=x:=⟨a.toNat,by lia⟩
   obtain⟨y,rfl⟩:∃y:Nat,b=y:=⟨b.toNat,by lia⟩
   have j:∀a b:Nat,(λd=>(cF 1) d>>=λx=>rd (jF x)) [some (nD a),some (nD b)]=(pure (b != 0):DM Bool):=λa b=>by
    simp;refine b7 λM=>?_
    show some ((b:Int) != 0)=_;congr 1;rw[Zf];simp
   have k:∀a b:Nat,0<b->(xM 0 1 (λd=>(cF 1) d>>=λx=>(λd=>(λd=>(cF 0) d>>=λx=>(cF 1) d>>=λy=>rd (jw x y)) d>>=λx=>(λz=>pure []) d>>=λg=>pure (x::g)) d>>=λg=>pure (x::g))) [some (nD a),some (nD b)]=pure (.nx [some (nD b),some (nD (a%b))]):=λa b l=>by
    have:=Ck (a:=a) l;simp[nD]at this ⊢
    simp[this]
   obtain⟨n,m⟩:=QM (c:=(λd=>(cF 1) d>>=λx=>rd (jF x))) (f:=(xM 0 1 (λd=>(cF 1) d>>=λx=>(λd=>(λd=>(cF 0) d>>=λx=>(cF 1) d>>=λy=>rd (jw x y)) d>>=λx=>(λz=>pure []) d>>=λg=>pure (x::g)) d>>=λg=>pure (x::g)))) j k y x
   refine⟨n,?_⟩;rw[<-h];have:aD 2 2 (dB n) [.int x,.int y]=pure (nD (Nat.gcd x y)):=by unfold dB fH;have e:bu 2 [D.int x,D.int y]=[some (nD x),some (nD y)]:=rfl;simp only[J6,e,PQ,m];simp
   rw[this];simp
  ·cases h
 ·cases h
noncomputable def Hz:=aD 1 1 (Aa yf)
noncomputable def HJ:=aD 1 1 (lV Hz)
noncomputable def R6(l:C0):Prop:=1<=l.length/\l.length<=25/\0<l.sum
def TJ(h1:1<=l.length)(h2:l.length<=25):Hz [nT l]=pure (.bl (decide (0<l.sum))):=by
 have a:(rd (jt [nT l,.ty "tuple"]):DM D)=pure (.bl true):=wI (t := "tuple") (λz=>rfl) (by decide)
 have b:(rd (ju [nT l]):DM D)=pure (.int (l.length:Int)):=by simp[nT]
 have c:decide ((1:Int)<=(l.length:Int))=true:=Zg (by lia)
 have d:decide ((l.length:Int)<=25)=true:=Zg (by lia)
 simp[Hz,Aa,a,b,c,d,Ie (l:=l) (by lia),wZ]
def Vg(h:R6 l):HJ [nT l]=pure .aT:=by simp[HJ,lV,TJ h.1 h.2.1,h.2.2]
noncomputable def HD:=aD 1 3 (DR HJ lN)
theorem Az(h:∀(g n:Nat),f [x,some (nD g),some (nD n)]=pure (.nx [x,some (nD (Nat.gcd g n)),some (nD n)])):∀(l:C0) (g:Nat) z,∃u,XA (gN 2) f (l.map nD) [x,some (nD g),z]=pure (.nx [x,some (nD (l.foldl Nat.gcd g)),u])
 |[],g,z=>⟨z,rfl⟩
 |n::l,g,z=>by obtain⟨u,a⟩:=Az h l (Nat.gcd g n) (some (nD n));refine⟨u,?_⟩;simp[XA,h,a]
def Ui(l:C0)(f:D->D)(g:Nat->Nat)(h:∀n∈l,f (nD n)=nD (g n)):(l.map nD).map f=(l.map g).map nD:=by rw[Zo,Zo];exact ZJ λn a=>h n a
def Ja(l:List D):l.filter (λz=>true)=l:=FF.mpr λz z=>rfl
def Ua(h:R6 l)(hs:l.sum<2^8000):HD [nT l]=pure (nT (lst l)):=by
 have hg:=pB h.2.2;have hb:cz l<2^8000:=by
  have:∃m∈l,0<m:=by
   refine Classical.byContradiction λn=>?_
   have:l.any (·!= 0)=true:=by rw[wZ];exact Zg h.2.2
   obtain⟨m,hm,h0⟩:=GB.mp this
   exact n ⟨m,hm,by have:m≠0:=by simpa using h0
                    lia⟩
  obtain⟨m,hm,h0⟩:=this;have:=Nat.le_of_dvd h0 (pA hm);have:=tX hm;exact ZZ (by lia) hs
 have at_:jH (nT l)=some (.fix (l.map nD)):=rfl;simp[HD,DR,Vg h,at_,Av];rw[show(D.int 0)=nD 0 from rfl]
 obtain⟨u,hu⟩:=Az (f:=λδ=>opt δ[1]?.join>>=λa=>opt δ[2]?.join>>=λa_1=>lN [a,a_1]>>=λd=>pure (Fl.nx (δ.set 1 (some d)))) (x:=some (nT l)) (λg n=>by simp[Ba]) l 0 none
 rw[hu];simp[aV,cZ,at_];rw[Pg (λz=>true) (λd=>match d with | .int i=>nD (i.toNat / cz l)|_=>.aT) (by have:=h.2.1;simp;lia) (λz z=>rfl) (λd hd z=>?_) (k':=λl=>pure (D.tup l)) (λz=>rfl)]
 ·rw[Ja,Ui l _ (λn=>n / cz l) (λn z=>by simp[nD])];rfl
 ·obtain⟨n,_,rfl⟩:=Ze.mp hd;have e:(rd (jb (nD n) (nD (cz l))):DM D)=pure (nD (n / cz l)):=wG hg hb;show(rd (jb (nD n) (nD (cz l))):DM D)=_;rw[e];simp[nD]
end K
namespace K
open PySem L2 L3 N10 N60 LB
theorem Tq:∀{l:List α},(∀a∈l,p a=true->q a=true)->(l.filter p).length<=(l.filter q).length
 |[],_=>YL _
 |a::l,h=>by
   have c:=Tq (l:=l) λb d=>h b (.tail _ d)
   have e:=h a (.head _);cases hp:p a with
   |true=>rw[EJ hp,EJ (e hp)];simp;exact c
   |false=>
     rw[AG (by simp[hp])]
     cases hq:q a with
     |true=>rw[EJ hq];simp;lia
     |false=>rw[AG (by simp[hq])];exact c
theorem Tp:∀{l:List α},(∀a∈l,p a=true->q a=true)->(l.filter q).length<=(l.filter p).length->l.filter p=l.filter q
 |[],_,_=>rfl
 |a::l,h,hl=>by
   have h':∀b∈l,p b=true->q b=true:=λb c=>h b (.tail _ c)
   have d:=h a (.head _);have e:=Tq (l:=l) h';cases hp:p a with
   |true=>
     rw[EJ hp,EJ (d hp)]at hl ⊢
     simp at hl;rw[Tp h' hl]
   |false=>
     rw[AG (p:=p) (by simp[hp])]at hl ⊢
     cases hq:q a with
     |true=>rw[EJ (p:=q) hq]at hl;simp at hl;lia
     |false=>
       rw[AG (p:=q) (by simp[hq])]at hl ⊢
       exact Tp h' hl
theorem JD(f:Nat->Nat):∀n:Nat,1<=n->∃x,x<n/\∀y,y<n->f x<=f y
 |0,h=>by lia
 |1,_=>⟨0,by lia,λy a=>by rw[show y=0 by lia];exact YL _⟩
 |n+2,_=>by
   obtain⟨x,b,h⟩:=JD f (n+1) (by lia)
   by_cases c:f x<=f (n+1)
   ·exact⟨x,by lia,λy a=>by
     by_cases e:y=n+1
     ·rw[e];exact c
     ·exact h y (by lia)⟩
   ·exact⟨n+1,by lia,λy a=>by
     by_cases e:y=n+1
     ·rw[e];exact YL _
     ·have:=h y (by lia);lia⟩
def Gj{R:A6}{x:Nat}(a:x<R.length):gr (LD R) x=(List.range R.length).filter (rc (ji R) x):=by
 rw[dZ (by rw[jf];exact a)]
 simp[LD,fW]
def HX{R:A6}{x y:Nat}(a:x<R.length):y∈gr (LD R) x↔y<R.length/\SH (ji R) x y:=by rw[Gj a,Zn,YX,lF]
def RJ{R:A6}{W:Nat}(f:WK R W):∃y∈LD R,cB (LD R) y=true:=by
 obtain⟨x,c,h⟩:=JD (λx=>(gr (LD R) x).length) R.length f.n1
 refine⟨gr (LD R) x,Zl (by rw[jf];exact c),?_⟩
 unfold cB;rw[Kk];intro z g;obtain⟨b,d⟩:=(HX c).mp g;refine Zg ?_;have e:(gr (LD R) x).length<=(gr (LD R) z).length:=h z b;rw[Gj c,Gj b]at e ⊢
 exact Tp (λa w i=>lF.mpr (d.trans (lF.mp i))) e
set_option tactic.hygienic true in
def Qu(h:t∈ts):t∈qi ts:=by
 have key:∀(ts acc:A7),t∈acc\/t∈ts->t∈ts.foldl fu acc:=by
  intro ts;induction ts with
  |nil=>intro acc h;exact h.elim id λz=>by cases z
  |cons u ts ih=>
    intro acc h;refine ih (fu acc u) ?_;unfold fu;rcases h with h|h
    ·split
     ·exact .inl h
     ·exact .inl (Z2 _ h)
    ·rcases Y5.mp h with rfl|h
     ·split
      ·rename_i hm;exact .inl hm
      ·exact .inl (ZC _ (Zi.mpr rfl))
     ·exact .inr h
 exact key ts [] (.inr h)
def To.snoc(ha:a<B.length)(h:To B j x)(e:0<ga (gr B j) a):To B a x:=by
 induction h with
 |here=>exact .step ha e .here
 |step hj hp _ ih=>exact .step hj hp ih
def AL(R:A6):Prop:=∀x,x<R.length->∀a,a<R.length->To R x a
set_option tactic.hygienic true in
def Vd{R:A6}{W x a:Nat}(wk:WK R W)(h:To R x a):a<R.length->SH (ji R) a x:=by
 induction h with
 |here=>exactλz=>.here
 |step hj hp tt ih=>rename_i a b;intro ha;refine SH.trans (.step .here ?_) (ih hj);rw[rA ha];exact Zn.mpr ⟨YX.mpr (by rw[wk.row _ (Zl ha)];exact hj),Zg hp⟩
def R5{R:A6}{W:Nat}(b:WK R W)(al:AL R):LD R=List.replicate R.length (List.range R.length):=by
 unfold LD fW;rw[ZJ (g:=λz=>List.range R.length) (λx c=>?_),List.map_const',Zu]
 have a:=YX.mp c;exact FF.mpr λy d=>lF.mpr (Vd b (al y (YX.mp d) x a) a)
def TF(h:y<n):gr (List.replicate n l) y=l:=by rw[dZ (by simpa using h)];simp
set_option tactic.hygienic true in
def Vc{R:A6}{W x y:Nat}(wk:WK R W)(hx:x<R.length)(h:SH (ji R) x y):y<R.length/\To R y x:=by
 induction h with
 |here=>exact⟨hx,.here⟩
 |step _ m ih=>
   rename_i y z _;rw[rA ih.1]at m;obtain⟨m1,m2⟩:=Zn.mp m;have hz:z<R.length:=by rw[<-wk.row _ (Zl ih.1)];exact YX.mp m1
   exact⟨hz,ih.2.snoc hz (ZW m2)⟩
def SX(t:C1):∀n,qi (List.replicate (n+1) t)=[t]:=by
 intro n;have key:∀n,(List.replicate n t).foldl fu [t]=[t]:=by
  intro n;induction n with
  |zero=>rfl
  |succ n ih=>
    rw[Kx,OF,show fu [t] t=[t] by unfold fu;rw[YK (by simp)]]
    exact ih
 show(List.replicate (n+1) t).foldl fu []=[t];rw[Kx,OF,show fu [] t=[t] by unfold fu;rw[YQ (by simp)];rfl]
 exact key n
def Vp{R:A6}{W:Nat}(a:WK R W)(al:AL R):cA (LD R)=[dN (List.range R.length)]:=by
 have f:=a.n1;rw[R5 a al];obtain⟨m,b⟩:∃m,R.length=m+1:=⟨R.length-1,by lia⟩
 have c:∀l∈List.replicate R.length (List.range R.length),cB (List.replicate R.length (List.range R.length)) l=true:=λl d=>by rw[List.eq_of_mem_replicate d];unfold cB;rw[Kk];exactλy e=>Zg (TF (YX.mp e))
 unfold cA;rw[FF.mpr c,List.map_replicate];generalize dN (List.range R.length)=t;rw[b,SX];exact List.perm_singleton.mp (fQ [t]).1
def Gd(h:dN a=dN b):a=b:=by have:=congrArg (List.map Int.toNat) h;simpa[dN,Function.comp_def]using this
def VL{R:A6}{W:Nat}(d:WK R W)(h:cA (LD R)=[dN (List.range R.length)]):AL R:=by
 obtain⟨y,f,b⟩:=RJ d;have m:dN y∈cA (LD R):=(fQ _).1.mem_iff.mpr (Qu (List.mem_map_of_mem (Zn.mpr ⟨f,b⟩)));rw[h,Zi]at m;have e:=Gd m;unfold cB at b;rw[Kk]at b;intro x g a c;have q:=ZW (b a (by rw[e];exact YX.mpr c))
 have:x∈gr (LD R) a:=by rw[q,e];exact YX.mpr g
 exact(Vc d c ((HX c).mp this).2).2
def Cz(R:A6):∃Y:A6,cA (LD R)=Y.map dN/\D.tup ((cA (LD R)).map tupI)=nM Y/\Y.length<=R.length:=by
 obtain⟨Y,e,k,l⟩:=Vo R;refine⟨Y,?_,e,l⟩;have d:(cA (LD R)).map tupI=Y.map nT:=by have:D.tup ((cA (LD R)).map tupI)=D.tup (Y.map nT):=e;exact D.tup.inj this
 have f:(cA (LD R)).map tupI=(Y.map dN).map tupI:=by rw[d,Zo];exact ZJ λl w=>GZ l
 have c:∀a b:C1,tupI a=tupI b->a=b:=λa b h=>by have g:a.map D.int=b.map D.int:=D.tup.inj h;exact BU (λx y z=>D.int.inj z) |>.mp g
 exact BU (λx y z=>c x y z) |>.mp f
def vI{R:A6}{W:Nat}(a:WK R W){Y:A6}(h:cA (LD R)=Y.map dN):AL R↔Y=[List.range R.length]:=by
 constructor
 ·intro b;have e:=Vp a b;rw[h]at e;exact BU (λx y z=>Gd z) |>.mp (e.trans (by simp):Y.map dN=[List.range R.length].map dN)
 ·intro e;subst e;exact VL a h
noncomputable def zL:=aD 1 1 (gD HR eU)
def Ut{R:A6}{W:Nat}(a:WK R W)(k:R.length<=6)(al:AL R)(M:Mo):Rn (zL [aB R W]) M λd M'=>d=.aT/\∀(j:Nat) (o:DO),M[j]?=some o->M'[j]?=some o:=by
 obtain⟨Y,b,c,l⟩:=Cz R;have f:=(vI a b).mp al;unfold zL gD eF;dsimp only;simp;refine Rn.bind (KN a (by lia) M) λd I ⟨e,g⟩=>?_
 subst e;have h:∀x:D,Bp [x]=pure (.tup [x]):=λx=>Hc (by simp)
 have i:D.tup [nT (List.range R.length)]=nM [List.range R.length]:=rfl;simp only[fO a.fR,az,oR (n:=R.length) (by lia),h,c,i,qQ Y [List.range R.length] (by lia),decide_eq_true f,Bool.not_true,dI,Bool.false_eq_true,if_false]
 exact Rn.pure ⟨rfl,g⟩
def Wd{R:A6}{W:Nat}(a:WK R W)(j:R.length<=6)(al:¬AL R)(M:Mo):Rx (zL [aB R W]) M "NoRest" (gP M):=by
 obtain⟨Y,b,c,l⟩:=Cz R;have f:¬Y=[List.range R.length]:=λz=>al ((vI a b).mpr z)
 unfold zL gD eF;dsimp only;simp;refine Rn.mn (KN a (by lia) M) λd I ⟨e,g⟩=>?_
 subst e;have h:∀x:D,Bp [x]=pure (.tup [x]):=λx=>Hc (by simp)
 have i:D.tup [nT (List.range R.length)]=nM [List.range R.length]:=rfl;simp only[fO a.fR,az,oR (n:=R.length) (by lia),h,c,i,qQ Y [List.range R.length] (by lia),decide_eq_false f,Bool.not_false,dI,if_true]
 exact⟨I,rfl,g⟩
noncomputable def wl(R:A6)(W i:Nat):C0:=(List.range R.length).map λx=>if x<i then RO R W x else 0
def lL(R:A6)(W i:Nat):(wl R W i).length=R.length:=by simp[wl]
def zq{R:A6}{W i x:Nat}(a:x<R.length):ga (wl R W i) x=if x<i then RO R W x else 0:=by rw[dH (by rw[lL];exact a)];simp[wl]
def R0(R:A6)(W:Nat):wl R W 0=List.replicate R.length 0:=by unfold wl;rw[ZJ (g:=λz=>0) (λx z=>YQ (by lia)),List.map_const',Zu]
def VF{R:A6}{W i:Nat}(b:i<R.length):(wl R W i).set i (RO R W i)=wl R W (i+1):=by
 refine kI (by rw[OZ,lL,lL]) λx a=>?_
 rw[OZ,lL]at a;by_cases q:i=x
 ·subst q;rw[dH (by rw[OZ,lL];exact a),List.getElem_set_self,zq a,YK (by lia)]
 ·rw[Vn q,zq a,zq a];by_cases q2:x<i
  ·rw[YK q2,YK (by lia)]
  ·rw[YQ q2,YQ (by lia)]
def Kq{b:Nat}{R:A6}{W x:Nat}(c:WK R W)(g:x<R.length)(h:R.length<=6)(k:W<2^b):RO R W x<=2^(5*(b+3)):=by
 have e:∀i j,i<R.length-1->j<R.length-1->((λi j=>bC R W (sk x i) (sk x j)) i j).natAbs<2^b:=λi j a d=>by have l:=c.fA (Zl (mO (x:=x) a)) (sk x i);have m:=c.fA (Zl (mO (x:=x) a)) (sk x j);show(bC R W (sk x i) (sk x j)).natAbs<_;unfold bC;split<;>lia
 have f:(wt (bC R W) R.length x).natAbs<=2^(5*(b+3)):=
  Zx (zx (p:=b) (R.length-1) (by lia) λi j a d=>NR (e i j a d)) (Fc (by decide) (Fa _ (by lia)))
 unfold RO
 lia
def Ko{R:A6}{W x:Nat}(a:WK R W)(b:x<R.length)(c:R.length<=6)(d:W<2^230):RO R W x<2^2450:=ZZ (Kq a b c d) (Nat.pow_lt_pow_right (by decide) (by decide))
noncomputable def oZ(R:A6)(W:Nat):C0:=wl R W R.length
noncomputable def rest(R:A6)(W:Nat):C0:=lst (oZ R W)
def fV(R:A6)(W:Nat):(oZ R W).length=R.length:=lL R W _
def sH{R:A6}{W x:Nat}(a:x<R.length):ga (oZ R W) x=RO R W x:=by unfold oZ;rw[zq a,YK a]
def ye{R:A6}{W:Nat}(b:WK R W)(c:R.length<=6)(e:W<2^230)(al:AL R):R6 (oZ R W)/\(oZ R W).sum<2^2453:=by
 have f:=b.n1;refine⟨⟨by rw[fV];exact f,by rw[fV];exact b.fR,?_⟩,?_⟩
 ·have h:=(oU b (x:=0) (by lia) c (al 0 (by lia))).1
  have:=tX (qU (l:=oZ R W) (i:=0) (by rw[fV];lia))
  rw[sH (by lia)]at this
  lia
 ·have:(oZ R W).sum<=(oZ R W).length*(2^2450-1):=CK λn g=>by
   obtain⟨i,d,rfl⟩:=List.getElem_of_mem g;have a:i<R.length:=by rw[fV]at d;exact d
   rw[<-dH d,sH a];have:=Ko b a c e
   lia
  rw[fV]at this;have j:R.length*(2^2450-1)<=6*(2^2450-1):=Fa _ c;have k:(2:Nat)^2453=8*2^2450:=by rw[show(2453:Nat)=3+2450 from rfl,Nat.pow_add]
  have m:0<(2:Nat)^2450:=Nat.pow_pos (by decide)
  lia
def Km{R:A6}{W:Nat}(c:WK R W):(List.range R.length).map (λx=>(List.range R.length).map λy=>ga (gr R x) y)=R:=by
 apply Kt
 ·simp
 ·intro i d a;rw[List.getElem_map,List.getElem_range];rw[<-dZ a];have l:=c.row _ (Zl a);refine kI (by simp[l]) λy b=>?_
  simp at b;rw[dH (by simpa using b)]
  simp
noncomputable def HN:=aD 2 6 (ym HS HD nU eU)
noncomputable def WY(M0:Mo)(R:A6)(W q:Nat)(i:Nat)(a:aj)(M:Mo):Prop:=(∃b c,a=[some (aB R W),some (nT (List.range R.length)),some (aB R W),some (.ref q),b,c])/\M[q]?=some (.lst ((wl R W i).map nD))/\∀(j:Nat) (o:DO),M0[j]?=some o->M[j]?=some o
def Vj{R:A6}{W:Nat}(c:WK R W)(k:R.length<=6)(u:W<2^230)(al:AL R)(M:Mo):Rn (HN [aB R W,nT (List.range R.length)]) M λd M'=>d=nT (rest R W)/\∀(j:Nat) (o:DO),M[j]?=some o->M'[j]?=some o:=by
 have n1:=c.n1;unfold HN ym rG;dsimp only;refine Rn.call rfl ?_;have st:bu 6 [aB R W,nT (List.range R.length)]=[some (aB R W),some (nT (List.range R.length)),none,none,none,none]:=rfl;rw[st];refine aF λK e=>?_
 have w:aV 1 [1,0] [some (aB R W),some (nT (List.range R.length)),none,none,none,none]=[none,some (nT (List.range R.length)),some (aB R W)]:=rfl;have as:jH (nT (List.range R.length))=some (.fix ((List.range R.length).map nD)):=rfl;simp[w,as,lA];rw[dW (as:=List.range R.length) nD (λx=>nT ((List.range R.length).map λy=>ga (gr R x) y)) (by simp;lia) (λx g=>?_)]
 rotate_left
 ·have a:=YX.mp g;have m:aV 1 [2,0] [some (nD x),some (nT (List.range R.length)),some (aB R W)]=[none,some (aB R W),some (nD x)]:=rfl;simp only[bR,as,lA,m];rw[dW (as:=List.range R.length) nD (λy=>nD (ga (gr R x) y)) (by simp;lia) (λy z=>?_)]
  ·simp[nT,Function.comp_def]
  ·have n:=YX.mp z;simp only[List.getElem?_cons_zero,List.getElem?_cons_succ,Option.join_some,jm,az,dC,wJ a,je (l:=gr R x) (i:=y) (by rw[c.row _ (Zl a)];exact n)]
 have O:D.tup ((List.range R.length).map λx=>nT ((List.range R.length).map λy=>ga (gr R x) y))=nM R:=by
  have:=Km c
  conv=>rhs;rw[<-this]
  simp[nM,Function.comp_def]
 simp only[az,rJ,Kf,O,wX c];rw[e];clear e K;refine aF λK e=>?_
 have U:qj [.int 0]=pure (.lst [.int 0]):=jR (by simp)
 simp[U,fO c.fR];refine Bq (by lia) ?_
 have f:WY M R W M.length 0 [some (aB R W),some (nT (List.range R.length)),some (aB R W),some (.ref M.length),none,none] (M++[.lst ((List.replicate R.length 0).map nD)]):=by
  refine⟨⟨_,_,rfl⟩,by rw[R0];simp,λj o h=>?_⟩
  rw[Y9 (YJ.mp h).1];exact h
 have p:M[M.length]?=none:=by simp
 rw[e];clear e K;revert f p;generalize M.length=q;generalize M++[DO.lst ((List.replicate R.length 0).map nD)]=M1;intro f p;refine aF λK e=>?_
 have en:ph [nT (List.range R.length)]=some (.fix ((List.range R.length).map λj=>.tup [nD j,nD j])):=by show some (XG.fix (gF 0 ((List.range R.length).map nD)))=_;rw[EH,g8]
 simp[en,fF];refine Rn.bind (cD (WY M R W q) _ 0 _ _ f (λx d δ I g s=>?_)) (λr I s=>?_)
 ·clear e K;obtain⟨⟨z4,z5,rfl⟩,b,t⟩:=s;have a:x<R.length:=by have:=(YJ.mp g).1;simpa using this
  rw[Y8,ZG a]at g;have:=Y4 g;subst this;rw[ZM]at b ⊢
  have v:=Vw c a k u (GX c a (al x a));rw[(oU c a k (al x a)).2]at v;simp[v];refine Rn.run (oY (i:=x) b (by rw[YT,lL];exact a)) ?_
  refine Rn.pure ⟨_,rfl,⟨_,_,rfl⟩,?_,λj o h=>?_⟩
  ·rw[Zr (YJ.mp b).1];congr 2;rw[<-VF a,List.map_set];rfl
  ·rw[Zz]
   ·exact t j o h
   ·rintro rfl;rw[p]at h;cases h
 ·obtain⟨δ',rfl,⟨z4,z5,rfl⟩,b,t⟩:=s;rw[e];clear e K;rw[YT,Zu,ZM]at b;have wt:=ye c k u al;simp;refine Rn.aS (nT (oZ R W)) (by show(aU (.ref q) I).map _=_;simp only[aU,b];rfl) ?_
  rw[Ua wt.1 (bW wt.2 (by decide)),az]
  exact Rn.pure ⟨_,rfl,rfl,t⟩
noncomputable def For:=aD 1 1 (o6 zL HN eU)
def JV{R:A6}{W:Nat}(a:WK R W)(b:R.length<=6)(c:W<2^230)(al:AL R)(M:Mo):Rn (For [aB R W]) M λd M'=>d=nT (rest R W)/\∀(j:Nat) (o:DO),M[j]?=some o->M'[j]?=some o:=by
 unfold For o6 jQ;dsimp only;refine Rn.call rfl ?_;simp;refine Rn.bind (Ut a b al M) λd I ⟨_,f⟩=>?_
 simp only[fO a.fR,az,oR (n:=R.length) (by lia)]
 refine Rn.bind (Vj a b c al I) λd O ⟨e,g⟩=>?_
 subst e;exact Rn.pure ⟨_,rfl,rfl,λj o h=>g j o (f j o h)⟩
end K
namespace K
open PySem L2 L3 N10 N60
def oJ:ga (l.map (c * ·)) i=c*ga l i:=by
 by_cases h:i<l.length
 ·rw[dH (by simpa using h),dH h];simp
 ·rw[vY (by simpa using h),vY (by lia),Nat.mul_zero]
noncomputable def gR(R:A6):Nat:=R.foldl (λg r=>r.foldl Nat.gcd g) 0
noncomputable def cu(R:A6):A6:=R.map λr=>r.map (·/ gR R)
def Jf{R:A6}:∀r∈R,∀n∈r,gR R∣n:=by
 have key:∀(R:A6) (g:Nat),R.foldl (λg r=>r.foldl Nat.gcd g) g∣g/\∀r∈R,∀n∈r,R.foldl (λg r=>r.foldl Nat.gcd g) g∣n:=by
  intro R;induction R with
  |nil=>exactλg=>⟨Nat.dvd_refl _,λr h=>absurd h (by simp)⟩
  |cons r R ih=>
    intro g;obtain⟨h1,h2⟩:=ih (r.foldl Nat.gcd g);obtain⟨k1,k2⟩:=qT r g;refine⟨EK h1 k1,λr' hr n hn=>?_⟩
    rcases Y5.mp hr with rfl|q
    ·exact EK h1 (k2 n hn)
    ·exact h2 r' q n hn
 exact(key R 0).2
theorem CN:∀{l:C0},(∀n∈l,n=0)->l.sum=0
 |[],_=>rfl
 |a::l,h=>by rw[FE,h a (by simp),CN λn b=>h n (by simp[b])]
def oF{R:A6}{W:Nat}(a:WK R W):0<gR R:=by
 rcases FV (gR R)with z|z
 ·have h:=a.head;have e:=a.sum _ h;have:(gr R 0).sum=0:=CN λn b=>by have:=Jf _ h n b;rw[z]at this;exact Nat.eq_zero_of_zero_dvd this
  have:=a.w1
  lia
 ·exact z
def FJ{R:A6}{r:C0}(a:r∈R):r=(r.map (·/ gR R)).map (gR R * ·):=by
 rw[Zo]
 conv=>lhs;rw[<-List.map_id r]
 exact ZJ λn b=>(xy (Jf r a n b)).symm
def WK.plain{R:A6}{W:Nat}(a:WK R W):WK (cu R) (W / gR R):=by
 have d:=oF a;have e:∀r∈R,(r.map (·/ gR R)).sum*gR R=W:=λr b=>by rw[MH,<-N10.xW,<-FJ b,a.sum r b]
 refine⟨by simp[cu];exact a.n1,by simp[cu];exact a.fR,λl c=>?_,λl c=>?_,?_⟩
 ·obtain⟨r,b,rfl⟩:=Ze.mp c;simp[cu,a.row r b]
 ·obtain⟨r,b,rfl⟩:=Ze.mp c;exact(Nat.div_eq_of_eq_mul_left d (e r b).symm).symm
 ·have:=e _ a.head;rw[<-this,Nat.mul_div_cancel _ d];rcases FV ((gr R 0).map (·/ gR R)).sum with z|z
  ·rw[z]at this;have:=a.w1;lia
  ·exact z
def rF{R:A6}{x y:Nat}(a:x<R.length):ga (gr R x) y=gR R*ga (gr (cu R) x) y:=by
 have e:gr (cu R) x=(gr R x).map (·/ gR R):=by rw[dZ (by simp[cu];exact a),dZ a];simp[cu]
 rw[e,<-oJ,<-FJ (Zl a)]
noncomputable def uB:=aD 1 4 (vO lN nU)
theorem Jg(h:∀(g n:Nat),f [x,some (nD g),y,some (nD n)]=pure (.nx [x,some (nD (Nat.gcd g n)),y,some (nD n)])):∀(l:C0) (g:Nat) z,∃u,XA (gN 3) f (l.map nD) [x,some (nD g),y,z]=pure (.nx [x,some (nD (l.foldl Nat.gcd g)),y,u])
 |[],g,z=>⟨z,rfl⟩
 |n::l,g,z=>by obtain⟨u,a⟩:=Jg h l (Nat.gcd g n) (some (nD n));refine⟨u,?_⟩;simp[XA,h,a]
theorem Em(h:∀(g:Nat) (r:C0) z,∃u,f [x,some (nD g),some (nT r),z]=pure (.nx [x,some (nD (r.foldl Nat.gcd g)),some (nT r),u])):∀(R:A6) (g:Nat) y z,∃u v,XA (gN 2) f (R.map nT) [x,some (nD g),y,z]=pure (.nx [x,some (nD (R.foldl (λg r=>r.foldl Nat.gcd g) g)),u,v])
 |[],g,y,z=>⟨y,z,rfl⟩
 |r::R,g,y,z=>by obtain⟨u1,h1⟩:=h g r z;obtain⟨u,v,a⟩:=Em h R (r.foldl Nat.gcd g) (some (nT r)) u1;refine⟨u,v,?_⟩;simp[XA,h1,a]
def Ft{R:A6}{W:Nat}(i:WK R W)(k:W<2^8000):uB [aB R W]=pure (aB (cu R) (W / gR R)):=by
 have q:=i.fR;have l:=oF i;have m:gR R<2^8000:=by
  have h:=i.plain.w1;have:gR R<=W:=by
   rcases Nat.lt_or_ge W (gR R)with z|z
   ·rw[Nat.div_eq_of_lt z]at h;lia
   ·exact z
  exact ZZ this (Y0 k (Fc (by decide) (by decide)))
 obtain⟨u,v,j⟩:=Em (x:=some (aB R W)) (f:=λc=>opt c[2]?.join>>=λd=>opt (jH d)>>=λo=>Av 0 (gN 3) (λc=>opt c[1]?.join>>=λa=>opt c[3]?.join>>=λb=>lN [a,b]>>=λd=>pure (Fl.nx (c.set 1 (some d)))) o c) (λg r z=>by
  obtain⟨u,j⟩:=Jg (x:=some (aB R W)) (y:=some (nT r)) (f:=λc=>opt c[1]?.join>>=λa=>opt c[3]?.join>>=λb=>lN [a,b]>>=λd=>pure (Fl.nx (c.set 1 (some d)))) (λg n=>by simp[Ba]) r g z
  exact⟨u,by simp[Cd,fF,j]⟩) R 0 none none
 simp[uB,vO,dC,wF,fF];rw[show(D.int 0)=nD 0 from rfl,j]
 simp[dC,wF,aV,cZ];rw[dW nT (λr=>nT (r.map (·/ gR R))) (by lia) (λr p=>by
  simp[Cd,aV,cZ];rw[dW nD (λn=>nD (n / gR R)) (by have:=i.row r p;lia) (λn s=>by show(rd (jb (nD n) (nD (gR R))):DM D)=_;exact wG l m)]
  simp[nT,Function.comp_def])]
 have e:D.tup (R.map λr=>nT (r.map (·/ gR R)))=nM (cu R):=by simp[nM,cu,Function.comp_def]
 simp[e,wX i.plain]
def Nf(h:0<l.sum):cz (lst l)=1:=by
 have a:=pB h;have e:cz l=cz l*cz (lst l):=by
  conv=>lhs;rw[Nx l]
  rw[kJ]
 exact FT a (by lia)
def Ex(l:C0):(lst l).length=l.length:=by simp[lst]
def JB(a:i<l.length):ga l i=cz l*ga (lst l) i:=by
 rw[dH a,dH (by rw[Ex];exact a)]
 simp only[lst,List.getElem_map];exact(xy (pA (OA a))).symm
structure OG(R:A6)(W:Nat)(r:C0):Prop where
 len:r.length=R.length
 pos:∀x,x<R.length->0<ga r x
 fP:∀y,y<R.length->S R.length (λx=>ga r x*ga (gr R x) y)=ga r y*W
 gcd:cz r=1
 bd:∀x,ga r x<2^2450
 sum:r.sum<2^2453
def u9{R:A6}{W:Nat}(c:WK R W)(d:R.length<=6)(f:W<2^230)(al:AL R):OG R W (rest R W):=by
 have wt:=ye c d f al;have i:=pB wt.1.2.2;have e:∀x,x<R.length->RO R W x=cz (oZ R W)*ga (rest R W) x:=λx a=>by rw[<-sH a];exact JB (by rw[fV];exact a)
 have j:∀x,x<R.length->ga (rest R W) x<=RO R W x:=λx a=>by rw[e x a];exact Nat.le_mul_of_pos_left _ i
 have b:(rest R W).length=R.length:=by unfold rest;rw[Ex,fV]
 refine⟨b,λx a=>?_,λy k=>?_,Nf wt.1.2.2,λx=>?_,?_⟩
 ·have:=(oU c a d (al x a)).1;rw[e x a]at this;exact Nat.pos_of_mul_pos_left this
 ·have h:=Oo c k d al;rw[sV (g:=λx=>cz (oZ R W)*(ga (rest R W) x*ga (gr R x) y)) λx a=>by rw[e x a,Rl],j8,e y k,Rl]at h
  exact FT i h
 ·by_cases a:x<R.length
  ·exact ZZ (j x a) (Ko c a d f)
  ·rw[vY (by lia)];exact Nat.pow_pos (by decide)
 ·refine ZZ ?_ wt.2;rw[Hs b,Hs (fV R W)];exact Lj λx a=>by rw[sH a];exact j x a
theorem R8:∀{n:Nat},(∀i,i<n->f i<=g i)->S n f=S n g->∀i,i<n->f i=g i
 |0,_,_,i,a=>by lia
 |n+1,h,e,i,a=>by
   have e:S n f+f n=S n g+g n:=e;have b:=Lj (n:=n) λi a=>h i (by lia)
   have c:=h n (by lia)
   by_cases q:i=n
   ·subst q;lia
   ·exact R8 (n:=n) (λi a=>h i (by lia)) (by lia) i (by lia)
set_option tactic.hygienic true in
def OG.uniq{R:A6}{W:Nat}{r t:C0}(wk:WK R W)(al:AL R)(h:OG R W r)(h':OG R W t):r=t:=by
 obtain⟨z,hz,m⟩:=Pu (a:=ga t) (r:=ga r) R.length wk.n1 h.pos;have key:∀x,To R z x->x<R.length->ga t z*ga r x=ga r z*ga t x:=λx tx=>by
  induction tx with
  |here=>exactλy=>MH _ _
  |step hj hp tt ih=>
    rename_i x j;intro hx;have e1:=h.fP j hj;have e2:=h'.fP j hj;have e:S R.length (λx=>ga t z*(ga r x*ga (gr R x) j))=S R.length (λx=>ga r z*(ga t x*ga (gr R x) j)):=by rw[j8,j8,e1,e2,<-Rl,<-Rl,ih hj]
    have:=R8 (λi hi=>by rw[<-Rl,<-Rl];exact Fa _ (by rw[MH (ga r z)];exact m i hi)) e x hx
    rw[<-Rl,<-Rl]at this;exact Nat.eq_of_mul_eq_mul_right hp this
 have e:r.map (ga t z * ·)=t.map (ga r z * ·):=kI (by simp[h.len,h'.len]) λx hx=>by
  rw[oJ,oJ];have aw:x<R.length:=by simpa[h.len]using hx
  exact key x (al z hz x aw) aw
 have g:=congrArg cz e;rw[kJ,kJ,h.gcd,h'.gcd,Nat.mul_one,Nat.mul_one]at g;have p:=h.pos z hz;refine kI (by rw[h.len,h'.len]) λx hx=>?_
 have aw:x<R.length:=by rw[<-h.len];exact hx
 have:=key x (al z hz x aw) aw;rw[g]at this;exact FT p this
def V4(h:l[i]?=some v):ga l i=v:=by unfold ga;rw[Zv,h];rfl
def V7{R:A6}{i:Nat}{v:C0}(h:R[i]?=some v):gr R i=v:=by unfold gr;rw[Zv,h];rfl
noncomputable def yz(n:Nat)(f:Nat->Nat->Nat):A6:=(List.range n).map λx=>(List.range n).map (f x)
def oE(n:Nat)(f:Nat->Nat->Nat):(yz n f).length=n:=by simp[yz]
def Tt{n x:Nat}{f:Nat->Nat->Nat}(a:x<n):gr (yz n f) x=(List.range n).map (f x):=V7 (by unfold yz;rw[Y8,ZG a];rfl)
def Vh(a:y<n):ga ((List.range n).map f) y=f y:=V4 (by rw[Y8,ZG a];rfl)
def Jc(a:x<n)(b:y<n):ga (gr (yz n f) x) y=f x y:=by rw[Tt a,Vh b]
def Tv{n V:Nat}{f:Nat->Nat->Nat}(d:1<=n)(a:n<=25)(h:∀x,x<n->S n (f x)=V)(e:1<=V):WK (yz n f) V:=by
 refine⟨by rw[oE];exact d,by rw[oE];exact a,λl b=>?_,λl b=>?_,e⟩
 ·obtain⟨x,c,rfl⟩:=Ze.mp b;simp[oE]
 ·obtain⟨x,c,rfl⟩:=Ze.mp b;rw[zU];exact h x (YX.mp c)
def lm(a b:Nat):Nat:=a / Nat.gcd a b*b
def cm(r:C0):Nat:=r.foldl lm 1
def Jw(a b:Nat):a∣lm a b/\b∣lm a b:=by
 unfold lm;refine⟨?_,Nat.dvd_mul_left _ _⟩;obtain⟨c,d⟩:=Nat.gcd_dvd_right a b
 conv=>rhs;rhs;rw[d]
 rw[<-Rl,Nat.div_mul_cancel (Nat.gcd_dvd_left a b)];exact Nat.dvd_mul_right _ _
def V8(a b:Nat):lm a b<=a*b:=Fa _ (Nat.div_le_self _ _)
def Uc(c:0<a)(d:0<b):0<lm a b:=EE (Nat.div_pos (Nat.gcd_le_left _ c) (Nat.gcd_pos_of_pos_left _ c)) d
theorem Ad:∀(l:C0) (c u e:Nat),0<c->c<2^u->(∀x∈l,0<x/\x<2^e)->c∣l.foldl lm c/\(∀x∈l,x∣l.foldl lm c)/\0<l.foldl lm c/\l.foldl lm c<2^(u+e*l.length)
 |[],c,u,e,d,h1,_=>⟨Nat.dvd_refl _,⟨λx h=>absurd h (by simp),d,by simpa using h1⟩⟩
 |a::l,c,u,e,d,h1,h=>by
   have f:=h a (by simp)
   obtain⟨g,i,j,k⟩:=Ad l (lm c a) (u+e) e (Uc d f.1) (ZZ (V8 c a) (mul_pow h1 f.2 (YL _))) λx b=>h x (by simp[b])
   refine⟨EK (Jw c a).1 g,λx b=>?_,j,?_⟩
   ·rcases Y5.mp b with rfl|b
    ·exact EK (Jw c x).2 g
    ·exact i x b
   ·have m:u+e*(a::l).length=u+e+e*l.length:=by rw[Z7,Nat.mul_succ];lia
    rw[m];exact k
noncomputable def yP(R:A6)(r:C0)(x y:Nat):Nat:=ga r y*ga (gr R y) x*(cm r / ga r x)
noncomputable def eV(R:A6)(r:C0):A6:=yz R.length (yP R r)
section
variable{R:A6}{W:Nat}{r:C0}
def OG.mem(rs:OG R W r)(b:x∈r):∃i,i<R.length/\x=ga r i:=by obtain⟨i,a,rfl⟩:=List.getElem_of_mem b;exact⟨i,by rw[<-rs.len];exact a,(dH a).symm⟩
def n6(rs:OG R W r)(d:∀x,x<R.length->ga r x<2^e):0<cm r/\cm r<2^(1+e*R.length)/\∀x,x<R.length->ga r x*(cm r / ga r x)=cm r:=by
 obtain⟨_,f,g,b⟩:=Ad r 1 1 e Nat.one_pos (by decide) λx a=>by obtain⟨i,c,rfl⟩:=rs.mem a;exact⟨rs.pos i c,d i c⟩
 rw[rs.len]at b;exact⟨g,b,λx a=>xy (f _ (qU (by rw[rs.len];exact a)))⟩
def Ht(a:WK R W)(rs:OG R W r)(c:∀x,x<R.length->ga r x<2^e):WK (eV R r) (W*cm r):=by
 obtain⟨d,_,f⟩:=n6 rs c;refine Tv a.n1 a.fR (λx b=>?_) (EE a.w1 d)
 show S R.length (λy=>ga r y*ga (gr R y) x*(cm r / ga r x))=_
 rw[Sd,rs.fP x b,Nat.mul_right_comm,f x b,MH]
def Oe{B:A6}{V:Nat}(bk:WK B V):gR B*(V / gR B)=V:=by
 have h:=bk.plain.sum _ bk.plain.head;have a:(cu B).length=B.length:=by simp[cu]
 have e:gr B 0=(gr (cu B) 0).map (gR B * ·):=by
  have b:=bk.row _ bk.head;have c:=bk.plain.row _ bk.plain.head;refine kI (by rw[YT,b,c,a]) λy d=>?_
  rw[oJ];exact rF (by have:=bk.n1;lia)
 have s:=bk.sum _ bk.head;rw[e,N10.xW,h]at s;exact s
end
def xj(R:A6):gR R=cz R.flatten:=by unfold gR cz;rw[List.foldl_flatten]
def Ay{A R:A6}{g k:Nat}(h:A.map (λr=>r.map (g * ·))=R.map (λr=>r.map (k * ·))):g*gR A=k*gR R:=by have e:=congrArg List.flatten h;rw[xj,xj,<-kJ,<-kJ,List.map_flatten,List.map_flatten];exact congrArg cz e
def Cp{A R:A6}(hl:A.length=R.length)(h:∀x,x<R.length->gr A x=gr R x):A=R:=by
 apply Kt hl;intro i b a;have:=h i a
 rwa [dZ b,dZ a]at this
def Cy{A R:A6}{V W g k:Nat}(c:WK A V)(d:WK R W)(hl:A.length=R.length)(e:∀x y,x<R.length->y<R.length->g*ga (gr A x) y=k*ga (gr R x) y):A.map (λr=>r.map (g * ·))=R.map (λr=>r.map (k * ·)):=by
 refine Cp (by simpa using hl) λx a=>?_
 have a:x<R.length:=by simpa using a
 have f:=c.row _ (Zl (show x<A.length by lia))
 have h:=d.row _ (Zl a);rw[dZ (by simpa[hl]using a),dZ (by simpa using a),List.getElem_map,List.getElem_map,<-dZ (by lia),<-dZ a]
 refine kI (by simp;lia) λy b=>?_
 have b:y<R.length:=by simp at b;lia
 rw[oJ,oJ];exact e x y a b
def Od{A R:A6}{V W g k:Nat}(a:WK A V)(b:WK R W)(hl:A.length=R.length)(k0:0<k)(e:∀x y,x<R.length->y<R.length->g*ga (gr A x) y=k*ga (gr R x) y):cu A=cu R/\V / gR A=W / gR R:=by
 have s:=Ay (Cy a b hl e);have p:=oF a;have m:=oF b;have d:(cu A).length=A.length:=by simp[cu]
 have f:(cu R).length=R.length:=by simp[cu]
 have i:cu A=cu R:=Cp (by rw[d,f,hl]) λx h=>by
  rw[f]at h;have j:=a.plain.row _ (Zl (show x<(cu A).length by lia))
  have n:=b.plain.row _ (Zl (show x<(cu R).length by lia))
  refine kI (by rw[j,n,d,f,hl]) λy c=>?_
  have c:y<R.length:=by rw[j,d,hl]at c;exact c
  have q:=e x y h c;rw[rF (R:=A) (by lia),rF h,<-Rl,<-Rl,s]at q
  exact FT (EE k0 m) q
 refine⟨i,?_⟩;have l:=a.plain.sum _ a.plain.head;have o:=b.plain.sum _ b.plain.head;rw[i]at l;exact l.symm.trans o
def Nb{R:A6}{W:Nat}(a:WK R W):gR (cu R)=1:=by
 have s:=Ay (A:=cu R) (R:=R) (g:=gR R) (k:=1) (Cy a.plain a (by simp[cu]) λx y b c=>by rw[Nat.one_mul,rF b])
 have:=oF a;rw[Nat.one_mul]at s;exact FT this (s.trans (Nat.mul_one _).symm)
structure Tu(R:A6)(W:Nat)(r:C0)(B:A6)(V g:Nat):Prop where
 wk:WK B V
 len:B.length=R.length
 rs:OG B V r
 al:AL B
 g0:0<g
 gv:g*V=W*cm r
 ent:∀x y,x<R.length->y<R.length->g*ga (gr B x) y*ga r x=ga r y*ga (gr R y) x*cm r
 one:gR B=1
section
variable{R:A6}{W:Nat}{r:C0}
def WP(wk:WK R W)(rs:OG R W r)(al:AL R){e:Nat}(hb:∀x,x<R.length->ga r x<2^e):Tu R W r (cu (eV R r)) (W*cm r / gR (eV R r)) (gR (eV R r)):=by
 obtain⟨c0,_,cd⟩:=n6 rs hb;have tk:=Ht wk rs hb;have tl:(eV R r).length=R.length:=oE _ _;have hl:(cu (eV R r)).length=R.length:=by simp[cu,tl]
 have g0:=oF tk;have gv:=Oe tk;have ent:∀x y,x<R.length->y<R.length->gR (eV R r)*ga (gr (cu (eV R r)) x) y*ga r x=ga r y*ga (gr R y) x*cm r:=λx y hx hy=>by
  rw[<-rF (by rw[tl];exact hx),show ga (gr (eV R r) x) y=yP R r x y from Jc hx hy]
  unfold yP;rw[Rl,MH _ (ga r x),cd x hx]
 have pk:=tk.plain;have one:=Nb tk;revert pk gv ent hl g0 one;generalize cu (eV R r)=B;generalize W*cm r / gR (eV R r)=V;generalize gR (eV R r)=g;intro hl g0 gv ent pk one;have pos:∀x y,x<R.length->y<R.length->0<ga (gr R y) x->0<ga (gr B x) y:=λx y hx hy h=>by
  have:=ent x y hx hy;rcases FV (ga (gr B x) y)with z|z
  ·rw[z,Nat.mul_zero,Nat.zero_mul]at this;have:=EE (EE (rs.pos y hy) h) c0
   lia
  ·exact z
 have rev:∀x a,To R x a->a<R.length->To B a x:=λx a h=>by
  induction h with
  |here=>exactλw=>.here
  |step hj hp _ ih=>exactλha=>(ih hj).snoc (by rw[hl];exact ha) (pos _ _ hj ha hp)
 refine⟨pk,hl,⟨by rw[hl];exact rs.len,by rw[hl];exact rs.pos,λy hy=>?_,rs.gcd,rs.bd,rs.sum⟩,λx hx a ha=>rev a x (al a (by lia) x (by lia)) (by lia),g0,gv,ent,one⟩
 rw[hl]at hy ⊢
 refine FT g0 ?_;rw[<-j8,sV (g:=λx=>ga r y*cm r*ga (gr R y) x) λx hx=>by
  have:=ent x y hx hy
  calc g*(ga r x*ga (gr B x) y)=g*ga (gr B x) y*ga r x:=by simp only[Nat.mul_assoc,Nat.mul_left_comm,Nat.mul_comm]
   _=_:=this
   _=_:=by simp only[Nat.mul_assoc,Nat.mul_left_comm,Nat.mul_comm],j8,Nat.mul_left_comm g,gv]
 rw[<-Hs (wk.row _ (Zl hy)),wk.sum _ (Zl hy)];simp only[Nat.mul_assoc,Nat.mul_left_comm,Nat.mul_comm]
def Tu.twice{B:A6}{V g:Nat}(h:WK R W)(rs:OG R W r){e:Nat}(c:∀x,x<R.length->ga r x<2^e)(t:Tu R W r B V g):cu (eV B r)=cu R/\V*cm r / gR (eV B r)=W / gR R:=by
 obtain⟨d,_,i⟩:=n6 rs c;have b:∀x,x<B.length->ga r x<2^e:=λx a=>c x (by rw[<-t.len];exact a)
 have j:=Ht t.wk t.rs b;have l:(eV B r).length=B.length:=oE _ _;refine Od (g:=g) (k:=cm r*cm r) j h (by rw[l,t.len]) (EE d d) λx y a f=>?_
 rw[show ga (gr (eV B r) x) y=yP B r x y from Jc (by rw[t.len];exact a) (by rw[t.len];exact f)]
 unfold yP;have q:=t.ent y x f a
 calc g*(ga r y*ga (gr B y) x*(cm r / ga r x))=g*ga (gr B y) x*ga r y*(cm r / ga r x):=by simp only[Nat.mul_assoc,Nat.mul_left_comm,Nat.mul_comm]
  _=ga (gr R x) y*cm r*(ga r x*(cm r / ga r x)):=by rw[q];simp only[Nat.mul_assoc,Nat.mul_left_comm,Nat.mul_comm]
  _=cm r*cm r*ga (gr R x) y:=by rw[i x a];simp only[Nat.mul_assoc,Nat.mul_left_comm,Nat.mul_comm]
def Tu.oi{B:A6}{V g:Nat}(t:Tu R W r B V g){x y:Nat}(a:x<R.length)(b:y<R.length):ga (gr B x) y*ga r x*W=ga r y*ga (gr R y) x*V:=by
 refine FT t.g0 ?_;have q:=t.ent x y a b
 calc g*(ga (gr B x) y*ga r x*W)=g*ga (gr B x) y*ga r x*W:=by simp only[Nat.mul_assoc]
  _=ga r y*ga (gr R y) x*(W*cm r):=by rw[q];simp only[Nat.mul_assoc,Nat.mul_left_comm,Nat.mul_comm]
  _=g*(ga r y*ga (gr R y) x*V):=by rw[<-t.gv];simp only[Nat.mul_assoc,Nat.mul_left_comm,Nat.mul_comm]
end
noncomputable def HF:=aD 2 2 (j9 lN)
def Ub(e:0<a)(c:a<2^8000)(d:b<2^8000):HF [nD a,nD b]=pure (nD (lm a b)):=by have f:0<Nat.gcd a b:=Nat.gcd_pos_of_pos_left _ e;have g:Nat.gcd a b<2^8000:=ZZ (Nat.gcd_le_left _ e) c;simp[HF,j9,Ba,wG (a:=a) f g,lE (a:=a / Nat.gcd a b) (b:=b) (Nat.lt_of_le_of_lt (Nat.div_le_self _ _) c) d,lm]
def Hh{R:A6}{W x:Nat}(b:WK R W)(c:R.length<=6)(d:W<2^4)(al:AL R)(a:x<R.length):ga (rest R W) x<2^36:=by
 have:ga (rest R W) x<=2^(5*(4+3)):=by
  refine Zx ?_ (Kq b a c d);rw[<-sH a,JB (l:=oZ R W) (by rw[fV];exact a)]
  exact Nat.le_mul_of_pos_left _ (pB (ye b c (bW d (by decide)) al).1.2.2)
 exact ZZ this (by decide)
noncomputable def zP:=aD 1 5 (uF For HF uB nU eU)
noncomputable def XF(M0:Mo)(w:D)(r:C0)(i:Nat)(a:aj)(M:Mo):Prop:=(∃z,a=[some w,some (nT r),some (nD ((r.take i).foldl lm 1)),z,none])/\M=M0
def K8{R:A6}{W:Nat}(g:WK R W)(h4:R.length<=6)(p:W<2^230)(al:AL R)(h:∀x,x<R.length->ga (rest R W) x<2^36)(M:Mo):
  Rn (zP [aB R W]) M λd M'=>d=aB (cu (eV R (rest R W))) (W*cm (rest R W) / gR (eV R (rest R W)))/\∀(j:Nat) (o:DO),M[j]?=some o->M'[j]?=some o:=by
 have n1:=g.n1;have s:=g.fR;have rs:=u9 g (by lia) (bW p (by decide)) al
 obtain⟨I,k,O⟩:=n6 rs h;have k:cm (rest R W)<2^230:=bW k (by lia)
 have q:=Ht g rs h;unfold zP uF pK;dsimp only;refine Rn.call rfl ?_;have st:bu 5 [aB R W]=[some (aB R W),none,none,none,none]:=rfl;rw[st];refine aF λK b=>?_
 simp;refine Rn.bind (JV g (by lia) (bW p (by decide)) al M) λd M1 ⟨e,k1⟩=>?_
 subst e;rw[b];clear b K;revert rs h I k O q;generalize rest R W=r;intro h rs I O k q;refine aF λK b=>?_
 simp;rw[b];clear b K;refine aF λK b=>?_
 simp[Cd,fF];refine Rn.bind (cD (XF M1 (aB R W) r) (r.map nD) 0 _ _ ⟨⟨none,rfl⟩,rfl⟩ (λj d δ M2 U t=>?_)) (λrr M2 t=>?_)
 ·clear b K;obtain⟨⟨z,rfl⟩,rfl⟩:=t;rw[Y8]at U;obtain⟨n,u,rfl⟩:=YM.mp U;have v:=(YJ.mp u).1;have en:r[j]=n:=(YJ.mp u).2;have mm:∀x∈r,0<x/\x<2^36:=λx m=>by obtain⟨i,hi,rfl⟩:=rs.mem m;exact⟨rs.pos i hi,h i hi⟩
  obtain⟨_,_,i3,i4⟩:=Ad (r.take j) 1 1 36 Nat.one_pos (by decide) λx m=>mm x (CL m)
  have l4:(r.take j).length<=6:=by have:=rs.len;rw[LW];lia
  have i5:(r.take j).foldl lm 1<2^8000:=bW i4 (by lia)
  rw[ZM];simp[Ub i3 i5 (bW (mm n (List.mem_of_getElem? u)).2 (by decide))]
  refine Rn.pure ⟨_,rfl,⟨some (nD n),?_⟩,rfl⟩;rw[List.take_succ_eq_append_getElem v,List.foldl_append,en];rfl
 obtain⟨δ',rfl,⟨z,rfl⟩,rfl⟩:=t;rw[b];clear b K;have e1:(r.take (0+(r.map nD).length)).foldl lm 1=cm r:=by rw[ZM,YT,xC];rfl
 rw[e1];refine aF λK b=>?_
 simp[fO (W:=W) s];rw[b];clear b K;have ce:aV 1 [4,1,0,2] [some (aB R W),some (nT r),some (nD (cm r)),z,some (nD R.length)]=[none,some (nD R.length),some (nT r),some (aB R W),some (nD (cm r))]:=rfl;simp[eN (n:=R.length) (by lia),ce,lA]
 rw[dW (as:=List.range R.length) nD (λx=>nT ((List.range R.length).map (yP R r x))) (by simp;lia) (λx m=>by
  have f:=YX.mp m;have w:aV 1 [2,3,0,4] [some (nD x),some (nD R.length),some (nT r),some (aB R W),some (nD (cm r))]=[none,some (nT r),some (aB R W),some (nD x),some (nD (cm r))]:=rfl;simp only[bR,eN (n:=R.length) (by lia),w,lA]
  rw[dW (as:=List.range R.length) nD (λy=>nD (yP R r x y)) (by simp;lia) (λy hy=>by
   have c:=YX.mp hy;have wl:=g.fA (Zl c) x;have b1:=h y c;have w1:ga (gr R y) x<2^230:=ZZ wl p;have b3:cm r / ga r x<2^8000:=bW (ZZ (Nat.div_le_self _ _) k) (by decide)
   simp only[List.getElem?_cons_zero,List.getElem?_cons_succ,Option.join_some,jm,az,dC,je (l:=r) (i:=y) (by rw[rs.len];exact c),je (l:=r) (i:=x) (by rw[rs.len];exact f),wJ c,je (l:=gr R y) (i:=x) (by rw[g.row _ (Zl c)];exact f),
    lE (bW b1 (show 36<=8000 by decide)) (bW w1 (show 230<=8000 by decide)),wG (a:=cm r) (rs.pos x f) (bW (h x f) (show 36<=8000 by decide)),lE (mul_pow b1 w1 (show 36+230<=8000 by decide)) b3]
   rfl)]
  simp[nT,Function.comp_def])]
 have e2:D.tup ((List.range R.length).map λx=>nT ((List.range R.length).map (yP R r x)))=nM (eV R r):=by simp[nM,eV,yz,Function.comp_def]
 have b4:W*cm r<2^8000:=mul_pow p k (by decide)
 simp only[az,rJ,Kf,e2,wX q,Ft q b4];exact Rn.pure ⟨_,rfl,rfl,k1⟩
def RC(h:Rn th M P):Rn (zO th) M λd M'=>∃a,d=.tup [.str "told",a]/\P a M':=by
 obtain⟨a,M',e,p⟩:=h;refine⟨_,M',?_,a,rfl,p⟩;have b:∀(f:D->DM D) (g:D->DM Fl) (r:R Fl×Mo),(f a>>=g) M'=some r->((th>>=f)>>=g) M=some r:=λf g r h=>by show DM.bind (DM.bind th f) g M=_;unfold DM.bind;rw[e];exact h
 unfold zO za mY jc;dsimp only;have hT:∀(c:aj->DM Fl) (j:Str->aj->DM Fl) (i:aj) (r:Fl),c i M=some (.ok r,M')->rZ uA 2 1 c j i M=some (.ok r,M'):=λc j i r h=>by unfold rZ;rw[h]
 show DM.bind (rZ _ _ _ _ _ _) _ M=_;unfold DM.bind;rw[hT _ _ _ (.rt (.tup [.str "told",a])) (b _ _ _ rfl)];rfl
noncomputable def vH:=aD 2 2 pZ
def Gg(h:∀M,p M=true):mV p m=m:=by funext M;unfold mV;rw[YK (h M)]
def X8(a b:A6)(c:a.length<=1000000):(rd (cM (nM a) (nM b)):DM D)=pure (.bl (decide (a=b))):=b7 λM=>by
 have this:Option.map (λx=>(R.ok x,M)) (jh (nM a) (nM b) M)=some (R.ok (D.bl !decide (a=b)),M):=congrFun (qQ a b c) M
 unfold jh at this;show(L3.UR (nM a) (nM b)).map D.bl=_;revert this;cases(L3.UR (nM a) (nM b))with
 |none=>intro e;cases e
 |some x=>intro e;simp only[Option.map_some,Option.some.injEq,Prod.mk.injEq,R.ok.injEq,D.bl.injEq,and_true]at e;simp only[Option.map_some];cases x<;>simp_all
def Pn{R R':A6}{W W':Nat}(h:R.length<=1000000):vH [aB R W,aB R' W']=pure (.bl (decide (R=R'))):=by
 have i:(rd (uQ "Walk" [aB R' W',.cls "Walk"]):DM D)=pure (.bl true):=b7 λM=>rfl
 simp[vH,pZ,i,dC,X8 R R' h]
def Tg{R R':A6}{W W':Nat}(h:R.length<=1000000):Tf "Walk" vH (aB R W) (aB R' W')=pure (.bl (decide (R=R'))):=by
 show(if("Walk":Str) = "Walk" then mV _ _ else stuck)=_
 rw[YK rfl,Gg (p:=nu "Walk" (aB R' W')) (λM=>rfl)]
 show(vH [aB R W,aB R' W']>>=LC)=_;rw[Pn h,az];rfl
def Uq{R R':A6}{W W':Nat}(h:R.length<=1000000):Up "Walk" vH (aB R W) (aB R' W')=pure (.bl (!decide (R=R'))):=by
 show(if("Walk":Str) = "Walk" then mV _ _ else stuck)=_
 rw[YK rfl,Gg (p:=nu "Walk" (aB R' W')) (λM=>rfl)]
 show(vH [aB R W,aB R' W']>>=NP)=_;rw[Pn h,az];rfl
noncomputable def Hv:=aD 1 3 (jJ zB)
noncomputable def XD(M0:Mo)(q:Nat)(l:C0)(i:Nat)(a:aj)(M:Mo):Prop:=(∃z,a=[some (.ref q),some (nD ((l.take i).foldl Nat.gcd 0)),z])/\M[q]?=some (.lst (l.map nD))/\M=M0
def Sh(f:M[q]?=some (.lst (l.map nD)))(hl:l.length<=36):Rn (Hv [.ref q]) M λd M'=>d=nD (cz l)/\M'=M:=by
 unfold Hv jJ fX;dsimp only;refine Rn.call rfl ?_;have st:bu 3 [D.ref q]=[some (.ref q),none,none]:=rfl;rw[st];refine aF λK a=>?_
 simp;rw[a];clear a K;refine aF λK a=>?_
 simp only[cU,bR,aH,bD];refine Rn.aS (.dyn q) (by simp only[DN,f]) ?_
 have m:∀(g:D->aj->DM aj) (j:aj->DM Fl) (δ:aj),Av 40 g j (.dyn q) δ=mZ g j q 40 0 δ:=λy y y=>rfl
 rw[m];refine Rn.bind (Aw (L:=l.map nD) (XD M q l) (λy y y h=>h.2.1) (λi d δ I k c=>?_) 40 0 _ _ (Z8 _) (by rw[YT];lia) ⟨⟨none,rfl⟩,f,rfl⟩) λr I ⟨o,e,c⟩=>?_
 ·clear a K;obtain⟨⟨z,rfl⟩,b,rfl⟩:=c;rw[Y8]at k;obtain⟨n,p,rfl⟩:=YM.mp k;rw[lD,az];simp only[cU,bR,aH,bD,SJ];refine Rn.pure ⟨_,rfl,⟨some (nD n),?_⟩,b,rfl⟩;rw[List.take_add_one,p];simp
 ·subst e;obtain⟨⟨z,rfl⟩,b,rfl⟩:=c;rw[a];clear a K;rw[YT,xC];simp;exact Rn.pure ⟨_,rfl,rfl,rfl⟩
def QL(h:M[n]?=some (.lst l))(hz:l.length+m.length<=1000000):Tj (.ref n) [.tup m] M=some (R.ok D.aT,M.set n (.lst (l++m))):=by
 have hz:l.length+m.length<=sizeLine:=by show _<=2^24;lia
 show(match M[n]? with
  |some (.lst l)=>if l.length+m.length<=sizeLine then some (R.ok D.aT,M.set n (.lst (l++m)))else none
  |_=>none)=_
 rw[h];exact YK hz
def iz.ub(h:iz p M)(k:gP M M'):iz p M':=by obtain⟨a,b,c,d,e⟩:=h;exact⟨a,b,c,d,k _ _ e⟩
def We{R:A6}{W:Nat}(a:WK R W)(b:R.length<=6)(al:¬AL R)(M:Mo):Rx (For [aB R W]) M "NoRest" (gP M):=by unfold For o6 jQ;dsimp only;refine Rx.call rfl ?_;have st:bu 1 [aB R W]=[some (aB R W)]:=rfl;rw[st];refine Rx.seq ?_;simp only[bR,bD,aH];exact(Wd a b al M).bind
def WN{R:A6}{W:Nat}(a:WK R W)(b:R.length<=6)(al:¬AL R)(M:Mo):Rx (zP [aB R W]) M "NoRest" (gP M):=by unfold zP uF pK;dsimp only;refine Rx.call rfl (Rx.seq ?_);have st:bu 5 [aB R W]=[some (aB R W),none,none,none,none]:=rfl;rw[st];simp only[bR,bD,aH];exact(We a b al M).bind
noncomputable def mr:=aD 1 12 (qJ zP zJ For uB Hv nU eU vH zO)
noncomputable def X3(M0:Mo)(R B:A6)(W V:Nat)(r:C0)(i:Nat)(c:aj)(M:Mo):Prop:=(∃d e f g h a b,c=[some (nM R),some (aB R W),some (.tup [.str "told",aB B V]),some (nT r),some (aB B V),d,e,f,g,h,a,b])/\M=M0
noncomputable def X4(M0:Mo)(R B:A6)(W V:Nat)(r:C0)(x:Nat)(i:Nat)(c:aj)(M:Mo):Prop:=(∃d e f a b,c=[some (nM R),some (aB R W),some (.tup [.str "told",aB B V]),some (nT r),some (aB B V),some (nD x),some (nT (gr B x)),d,e,f,a,b])/\M=M0
noncomputable def XX(M0:Mo)(R B:A6)(W V:Nat)(r:C0)(q:Nat)(i:Nat)(b:aj)(M:Mo):Prop:=(∃c d e f g a,b=[some (nM R),some (aB R W),some (.tup [.str "told",aB B V]),some (nT r),some (aB B V),c,d,e,f,g,a,some (.ref q)])/\M[q]?=some (.lst ((B.take i).flatten.map nD))/\M.length=M0.length+1/\gP M0 M
def X6:ph [nM B]=some (.fix ((List.range B.length).map λj=>.tup [nD j,nT (gr B j)])):=by
 have e:B.map nT=(List.range' 0 B.length).map λj=>nT (gr B j):=by
  apply Kt
  ·simp
  ·intro i a b;simp at a;simp[dZ a]
 show some (XG.fix (gF 0 (B.map nT)))=_;rw[e,g8,EH]
def X7:ph [nT l]=some (.fix ((List.range l.length).map λj=>.tup [nD j,nD (ga l j)])):=by
 have e:l.map nD=(List.range' 0 l.length).map λj=>nD (ga l j):=by
  apply Kt
  ·simp
  ·intro i a b;simp at a;simp[dH a]
 show some (XG.fix (gF 0 (l.map nD)))=_;rw[e,g8,EH]
def Ve{R:A6}{W:Nat}(k:WK R W)(h6:R.length<=6)(hW:W<=12)(M:Mo):Rn (mr [nM R]) M λd M'=>d=.bl true/\gP M M':=by
 have n1:=k.n1;have fR:=k.fR;have u:W<2^4:=by lia
 have p:W<2^230:=bW u (by decide)
 obtain⟨Y,y1,y2,yl⟩:=Cz R;have t1:∀x:D,Bp [x]=pure (.tup [x]):=λx=>Hc (by simp)
 have e3:D.tup [nT (List.range R.length)]=nM [List.range R.length]:=rfl;unfold mr qJ lg;dsimp only;refine Rn.call rfl ?_;have st:bu 12 [nM R]=[some (nM R),none,none,none,none,none,none,none,none,none,none,none]:=rfl;rw[st];have pk:cZ [0] [some (nM R),none,none,none,none,none,none,none,none,none,none,none]=[some (nM R)]:=rfl;refine aF λK c=>?_
 simp only[cU,bR,Ws,pk,bD,aH,wX k];by_cases al:AL R
 ·have rs:=u9 k h6 p al;have w:∀x,x<R.length->ga (rest R W) x<2^36:=λx hx=>Hh k h6 u al hx
  have tr:=K8 k h6 p al w;refine Rn.bind (RC (tr M)) λd M1 ⟨d0,e,e0,k1⟩=>?_
  subst e e0;rw[c];clear c K;have O:=λM=>JV k h6 p al M
  obtain⟨c0,cb,_⟩:=n6 rs w;have T:=WP k rs al w;have I:W*cm (rest R W) / gR (eV R (rest R W))<2^230:=by refine ZZ (Nat.div_le_self _ _) ?_;exact mul_pow u cb (show 4+(1+36*R.length)<=230 by lia)
  have tw:=T.twice k rs w;revert rs w tr O c0 cb T I tw;generalize W*cm (rest R W) / gR (eV R (rest R W))=V;generalize cu (eV R (rest R W))=B;generalize gR (eV R (rest R W))=g;intro rs w tr O c0 cb T I tw;have eY:=(vI k y1).mp al;have wB:=T.wk;have lB:=T.len;have B25:=wB.fR
  -- the least shut sets
  refine aF λK c=>?_
  simp only[cU,bR,bD,aH];refine Rn.bind (Ew k (by lia) M1) λd M2 ⟨e,k2⟩=>?_
  subst e;simp only[oO,az,oR (n:=R.length) (by lia),t1,y2,e3,qQ Y [List.range R.length] (by lia),decide_eq_true eY,Bool.not_true,dI,Bool.false_eq_true,if_false]
  rw[c];clear c K;refine aF λK c=>?_
  simp only[cU,bR,bD,aH];refine Rn.bind (O M2) λd M3 ⟨e,k3⟩=>?_
  subst e
  try simp only[az]
  rw[c];clear c K;revert rs w tr O c0 cb T tw;generalize rest R W=r;intro rs w tr O c0 cb T tw;have i0:(rd (fD (.tup [.str "told",aB B V]) (.int 0)):DM D)=pure (.str "told"):=b7 λM=>rfl
  have i1:(rd (fD (.tup [.str "told",aB B V]) (.int 1)):DM D)=pure (aB B V):=b7 λM=>rfl
  have n0:(rd (jh (.str "told") (.str "told")):DM D)=pure (.bl false):=b7 λM=>by show some (D.bl (!decide _))=_;rw[Zg rfl];rfl
  have ii:(rd (uQ "Walk" [aB B V,.cls "Walk"]):DM D)=pure (.bl true):=b7 λM=>rfl
  refine aF λK c=>?_
  simp only[cU,bR,bD,aH,i0,i1,n0,ii,dI,wK,Bool.not_true,Bool.false_eq_true,if_false];refine Rn.bind (tr M3) λd M4 ⟨e,k4⟩=>?_
  subst e;have e4:=Uq (R:=B) (R':=B) (W:=V) (W':=V) (by lia)
  simp only[az,e4,decide_true,Bool.not_true,dI,Bool.false_eq_true,if_false,fO (W:=V) B25,oO,rH,lB];rw[c];clear c K;refine aF λK c=>?_
  simp only[cU,bR,bD,aH,i1];rw[c];clear c K;have tk4:∀(j:Nat) (o:DO),M[j]?=some o->M4[j]?=some o:=λj o h=>k4 j o (k3 j o (k2 j o (k1 j o h)))
  clear k1 k2 k3 k4;refine aF λK c=>?_
  simp only[cU,bR,bD,aH,dC,X6,fF];refine Rn.bind (cD (X3 M4 R B W V r) _ 0 _ _ ⟨⟨none,none,none,none,none,none,none,rfl⟩,rfl⟩ (λx d δ U hx hI=>?_)) (λrr U hI=>?_)
  ·clear c K;obtain⟨⟨z5,z6,z7,z8,z9,f,s,rfl⟩,rfl⟩:=hI;have aw:x<B.length:=by have:=(YJ.mp hx).1;simpa using this
   rw[Y8,ZG aw]at hx;have:=Y4 hx;subst this;have hxR:x<R.length:=by lia
   have lx:=wB.row _ (Zl aw);generalize 0+x+1=nx;have tg:gT 2 (eG (gN 5) (eG (gN 6) lZ)) (.tup [nD x,nT (gr B x)]) [some (nM R),some (aB R W),some (.tup [.str "told",aB B V]),some (nT r),some (aB B V),z5,z6,z7,z8,z9,f,s]=pure [some (nM R),some (aB R W),some (.tup [.str "told",aB B V]),some (nT r),some (aB B V),some (nD x),some (nT (gr B x)),z7,z8,z9,f,s]:=by simp[gT,eG,lZ]
   rw[tg,az];simp only[cU,bR,bD,aH,X7,fF];refine(cD (X4 U R B W V r x) _ 0 _ _ ⟨⟨_,_,_,_,_,rfl⟩,rfl⟩ (λy d δ M6 hy hI=>?_)).mono (λrr M6 hI=>?_)
   ·obtain⟨⟨z7,z8,z9,f,s,rfl⟩,rfl⟩:=hI;have hy':y<(gr B x).length:=by have:=(YJ.mp hy).1;simpa using this
    rw[Y8,ZG hy']at hy;have:=Y4 hy;subst this;have v:y<R.length:=by lia
    generalize 0+y+1=ny;have tg2:gT 2 (eG (gN 7) (eG (gN 8) lZ)) (.tup [nD y,nD (ga (gr B x) y)]) [some (nM R),some (aB R W),some (.tup [.str "told",aB B V]),some (nT r),some (aB B V),some (nD x),some (nT (gr B x)),z7,z8,z9,f,s]=pure [some (nM R),some (aB R W),some (.tup [.str "told",aB B V]),some (nT r),some (aB B V),some (nD x),some (nT (gr B x)),some (nD y),some (nD (ga (gr B x) y)),z9,f,s]:=by simp[gT,eG,lZ]
    rw[tg2,az];have b1:ga (gr B x) y<2^230:=ZZ (wB.fA (Zl aw) y) I;have b2:=w x hxR;have b3:=w y v;have b4:ga (gr R y) x<2^4:=ZZ (k.fA (Zl v) x) u;have x1:=je (l:=r) (i:=x) (by rw[rs.len];exact hxR)
    have x2:=je (l:=r) (i:=y) (by rw[rs.len];exact v)
    have x3:=wJ (R:=R) v;have x4:=je (l:=gr R y) (i:=x) (by rw[k.row _ (Zl v)];exact hxR)
    have m1:=lE (a:=ga (gr B x) y) (b:=ga r x) (bW b1 (by decide)) (bW b2 (by decide))
    have m2:=lE (a:=ga (gr B x) y*ga r x) (b:=W) (mul_pow b1 b2 (by decide)) (bW u (by decide))
    have m3:=lE (a:=ga r y) (b:=ga (gr R y) x) (bW b3 (by decide)) (bW b4 (by decide))
    have m4:=lE (a:=ga r y*ga (gr R y) x) (b:=V) (mul_pow b3 b4 (by decide)) (bW I (by decide))
    refine aF λK c=>?_
    simp only[cU,bR,bD,aH,x1,m1,qR,m2];rw[c];clear c K;refine aF λK c=>?_
    simp only[cU,bR,bD,aH,x2,x3,x4,m3,qR,m4];rw[c];clear c K;simp only[cU,bR,bD,aH,T.oi hxR v,rH,decide_true,Bool.not_true,dI,Bool.false_eq_true,if_false];exact Rn.pure ⟨_,rfl,⟨_,_,_,_,_,rfl⟩,rfl⟩
   ·obtain⟨δ',rfl,⟨z7,z8,z9,f,s,rfl⟩,rfl⟩:=hI;exact⟨_,rfl,⟨_,_,_,_,_,_,_,rfl⟩,rfl⟩
  obtain⟨δ',rfl,⟨z5,z6,z7,z8,z9,f,s,rfl⟩,rfl⟩:=hI;rw[c];clear c K;refine aF λK c=>?_
  simp;refine Rn.gZ (by simp) ?_
  rw[c];clear c K;have at1:(U++[DO.lst []])[U.length]?=some (.lst []):=by simp
  have kp1:gP U (U++[DO.lst []]):=gP.push;have le1:(U++[DO.lst []]).length=U.length+1:=by simp
  revert at1 kp1 le1;generalize hq:U.length=q;generalize U++[DO.lst []]=M6;intro at1 kp1 le1;refine aF λK c=>?_
  have as1:jH (nM B)=some (.fix (B.map nT)):=rfl;simp only[cU,bR,bD,aH,dC,as1,fF];refine Rn.bind (cD (XX U R B W V r q) _ 0 _ _ ⟨⟨_,_,_,_,_,_,rfl⟩,by simpa using at1,by lia,kp1⟩ (λi d δ M7 hi hI=>?_)) (λrr M7 hI=>?_)
  ·clear c K;obtain⟨⟨z5,z6,z7,z8,z9,f,rfl⟩,t,le7,kp7⟩:=hI;rw[Y8]at hi;obtain⟨l,hl,rfl⟩:=YM.mp hi;have lB':=wB.row l (Zk hl);have fl:((B.take i).flatten.map nD).length<=1000:=by
    rw[YT,List.length_flatten];have:((B.take i).map List.length).sum<=((B.take i).map List.length).length*B.length:=CK λn hn=>by obtain⟨m,hm,rfl⟩:=Ze.mp hn;rw[wB.row m (CL hm)];exact YL _
    rw[YT,LW]at this;have:min i B.length*B.length<=6*6:=Nat.mul_le_mul (by lia) (by lia)
    lia
   rw[ZM]at t ⊢
   rw[lD,az];simp only[cU,bR,bD,aH];refine Rn.aS _ (by simp only[aU,t];rfl) ?_
   have er:=QL (m:=l.map nD) t (by rw[YT]at fl;rw[YT,YT,lB'];lia)
   refine Rn.run er ?_;refine Rn.pure ⟨_,rfl,⟨_,_,_,_,_,_,rfl⟩,?_,by rw[OZ];exact le7,gP.set kp7 (by lia)⟩
   rw[Zr (YJ.mp t).1,List.take_add_one,hl];simp
  obtain⟨δ',rfl,⟨z5,z6,z7,z8,z9,f,rfl⟩,t,le7,kp7⟩:=hI;rw[c];clear c K;rw[YT,ZM,xC]at t;have f36:B.flatten.length<=36:=by
   rw[List.length_flatten];have:(B.map List.length).sum<=(B.map List.length).length*B.length:=CK λn hn=>by obtain⟨m,hm,rfl⟩:=Ze.mp hn;rw[wB.row m hm];exact YL _
   rw[YT]at this;have:B.length*B.length<=6*6:=Nat.mul_le_mul (by lia) (by lia)
   lia
  simp only[cU,bR,bD,aH];refine Rn.bind (Sh t f36) λd M8 ⟨e,em⟩=>?_
  subst e em;rw[<-xj,T.one];have rB:rest B V=r:=OG.uniq T.wk T.al (u9 T.wk (by lia) I T.al) T.rs
  have tB:=K8 T.wk (by lia) I T.al (by rw[rB,lB];exact w) M8
  rw[rB,tw.1,tw.2]at tB;have q1:(rd (cM (nD 1) (.int 1)):DM D)=pure (.bl true):=(lC 1 1).trans (by simp)
  simp only[q1,az,wK,if_true,aH,dI];refine Rn.bind tB λd M9 ⟨e,k9⟩=>?_
  subst e;have q2:=Tg (R:=cu R) (R':=cu R) (W:=W / gR R) (W':=W / gR R) (by simp[cu];lia)
  simp only[Ft k (bW u (by decide)),az,q2,decide_true,aH]
  exact Rn.pure ⟨_,rfl,rfl,λj o h=>k9 j o (kp7 j o (tk4 j o h))⟩
 ·refine Rn.bind (Vm (WN k h6 al M)) λd M1 ⟨e,k1⟩=>?_
  subst e;rw[c];clear c K;have eY:¬Y=[List.range R.length]:=λz=>al ((vI k y1).mpr z)
  refine Dy λK c hR=>?_
  simp only[cU,bR,bD,aH];refine Rn.bind (Ew k (by lia) M1) λd M2 ⟨e,k2⟩=>?_
  subst e;have eq1:(rd (cM (.tup [.str "rest"]) (.tup [.str "rest"])):DM D)=pure (.bl true):=b7 λM=>by
   have:L3.UR (.tup [.str "rest"]) (.tup [.str "rest"])=some true:=by kernel_rfl
   show Option.map D.bl (L3.UR _ _)=_;rw[this];rfl
  simp only[oO,az,oR (n:=R.length) (by lia),t1,y2,e3,qQ Y [List.range R.length] (by lia),decide_eq_false eY,Bool.not_false,dI,if_true,eq1]
  rw[hR];exact Rn.pure ⟨_,rfl,rfl,λj o h=>k2 j o (k1 j o h)⟩
end K
set_option exponentiation.threshold 2000
namespace K
open PySem L2 L3 N10
noncomputable def Li:=aD 1 4 (O8 zA zM zN mr)
noncomputable def W4(cs:C1)(i:Nat)(a:aj)(M:Mo):Prop:=∃b c d,a=[some (.eB cs),b,c,d]
noncomputable def W7(cs:C1)(p:Nat)(i:Nat)(a:aj)(M:Mo):Prop:=(∃b c,a=[some (.eB cs),b,some (.ref p),c])/\iz p M
def QW(cs:C1)(v:cs.length<=100000):Rn (Li [.eB cs]) [] λd Z=>d=.bl true:=by
 unfold Li O8 G8;dsimp only;refine Rn.call rfl ?_;have st:bu 4 [D.eB cs]=[some (.eB cs),none,none,none]:=rfl;rw[st];obtain⟨g,w⟩:=Sx cs 0;have k:zA [.eB cs,.int 0]=pure (.int g):=w;have y:∀x:D,qj [x]=pure (.lst [x]):=λx=>jR (by simp)
 have l:(cutD (cs.map D.int) (some 1) (some 4)).length<=100000:=by
  unfold cutD;rw[LW,CB,YT]
  lia
 have u:∀d∈[.int g]++cutD (cs.map D.int) (some 1) (some 4),∃c:Int,d=.int c:=λd z=>by
  rcases Zb.mp z with h|h
  ·exact⟨g,Zi.mp h⟩
  ·unfold cutD at h;obtain⟨c,_,rfl⟩:=Ze.mp (wv (CL h));exact⟨c,rfl⟩
 have ad:=Rq (a:=[.int g]) (b:=cutD (cs.map D.int) (some 1) (some 4)) (by simp;lia)
 have I:(O7 (.int 1):DM (Option Int))=pure (some 1):=rfl;have O:(O7 (.int 4):DM (Option Int))=pure (some 4):=rfl;refine aF λK i=>?_
 simp[k,y,Wu];rw[I,az,O,az,ad];simp only[az,wD,fF,jm,List.map_cons,List.map_nil];clear ad l;generalize[.int g]++cutD (cs.map D.int) (some 1) (some 4)=l at u;refine Rn.bind (cD (W4 cs) l 0 _ _ ⟨_,_,_,rfl⟩ (λj d U M hj f=>?_)) (λr M f=>?_)
 rotate_left
 ·obtain⟨m,rfl,_⟩:=f;rw[i];exact Rn.pure rfl
 clear i K;obtain⟨c,rfl⟩:=u d (Zk hj);obtain⟨x1,x2,x3,rfl⟩:=f;generalize 0+j+1=nx;rw[lD,az];refine aF λK i=>?_
 simp only[cU,bR,aH];refine Rn.bind (Rj c M) λd M0 ⟨e,o⟩=>?_
 subst e;revert o;generalize M.length=p;intro o
 try simp only[cU,az]
 rw[i];clear i K;have e1:vf [.int 5]=some (.fix ((List.range 5).map nD)):=eN (n:=5) (by lia)
 simp only[cU,bR,aH,e1,fF];refine(cD (W7 cs p) _ 0 _ _ ⟨⟨_,_,rfl⟩,o⟩ (λs d U M1 hj2 f=>?_)).mono (λr M1 f=>?_)
 rotate_left
 ·obtain⟨m,rfl,⟨_,_,rfl⟩,_⟩:=f;exact⟨_,rfl,_,_,_,rfl⟩
 obtain⟨⟨x1,x3,rfl⟩,q⟩:=f;generalize 0+s+1=nx2;rw[lD,az];simp only[cU,bR,aH];refine Rn.bind (RB (tp:=6) q (by decide) (by decide)) λd M2 ⟨R,W,e,wk,h6,hW,t,_⟩=>?_
 subst e
 try simp only[az]
 refine Rn.bind (Ve wk h6 hW M2) λd M3 ⟨e,k3⟩=>?_
 subst e;simp only[wK,az,Bool.not_true,Bool.false_eq_true,if_false];exact Rn.pure ⟨_,rfl,⟨_,_,rfl⟩,t.ub k3⟩
def Py(K:B0):Bool:=K.all λp=>!(p.2.cls==.type "list")
def Ur{K:B0}(h:Py K=true){a:Addr}{o:Obj}(e:K.lookup a=some o):o.cls≠.type "list":=by
 have:∀(l:A8),(l.all λp=>!(p.2.cls == .type "list"))=true->l.lookup a=some o->o.cls≠.type "list":=by
  intro l;induction l with
  |nil=>intro _ e;cases e
  |cons p l ih=>
    intro h e;rw[xo,Kb]at h;rw[EZ]at e;split at e
    ·cases e;intro z;rw[z]at h;exact absurd h.1 (by decide)
    ·exact ih h.2 e
 exact this K h e
structure Se(K:B0)(mg:A4)(kL mM fS:Addr)(bI:Tok):Prop where
 t:NN K mg uA mM
 gS:mg "FadeError"=some (.ref mM)
 fk:∀c∈uA,∀C,mg c=some (.ref C)->FI K mg Dc c C
 mL:∀x∈Dc,∃C,mg x=some (.ref C)
 eC:mg "MOST_PLACES"=some (.int 25 bI)
 bE:UM K mg "Walk" fS ["rows","whole"]
 k_Walk:W.makesIn K fS=true/\W.keepIn K (.ref fS)=true
 iF:Nc K mg "Walk"
 nl:Py K=true
def Sy{K:B0}{h:Heap}{mg:A4}(X:K.In h)(G:h.Ns mainGlobals mg){I U O:Addr}{bI:Tok}
  (oj:W.nsIn K mainGlobals "FadeError"=some (some (.ref U)))
  (fE:W.nsIn K mainGlobals "NoRest"=some (some (.ref I)))
  (om:W.excIn K U yd "ValueError.__new__"=true)
  (eH:W.excIn K I yd "ValueError.__new__"=true)
  (s_NoRest:W.mroIn K I (.ref U)=some true)
  (dQ:W.findIn K (.ref I) "__getattribute__"=some (some (.builtin "BaseException.__getattribute__")))
  (dS:W.findIn K (.ref I) "__getattr__"=some none)
  (d4:W.findIn K (.ref I) "__class__"=some (some (.builtin "object.__class__")))
  (d5:W.mroIn K I (.type "object")=some true)
  (ej:W.mroIn K I (.type "BaseException")=some true)
  (bX:W.kitOne K (.ref I) (.ref I)=some true)
  (eL:W.kitOne K (.ref I) (.type "ValueError")=some true)
  (eM:W.kitAny K (.ref I) (G4.map Value.type)=some false)
  (eu:yg K I "NoRest" Dc)
  (cK:W.nsIn K mainGlobals "MOST_PLACES"=some (some (.int 25 bI)))
  (e7:W.nsIn K mainGlobals "Walk"=some (some (.ref O)))
  (e8:W.plainGet K O Str.empty=true)
  (ff:W.hasDictIn K O=true)
  (fm:W.plainOver K O=true)
  (fq:W.findIn K (.ref O) "__setattr__"=some (some (.builtin "object.__setattr__")))
  (fT:W.makesIn K O=true)
  (f6:W.keepIn K (.ref O)=true)
  (f7:W.findIn K (.ref O) "__ne__"=some (some (.builtin "object.__ne__")))
  (gg:W.mroIn K O (.type "object")=some true)
  (gp:W.findIn K (.ref O) "__class__"=some (some (.builtin "object.__class__")))
  (gu:W.specialIn K (.builtin "object.__class__") "__get__"=some (some (.builtin "getset_descriptor.__get__")))
  (gx:W.takesIn K (.builtin "object.__class__")=some true)
  (gy:((W.clsIn K O).isSome&&W.typeIn K (.ref O)==some (.type "type"))=true)
  (dr:W.findIn K (.ref O) "rows"=some none)
  (cS:W.findIn K (.ref O) "whole"=some none)
  (nl:Py K=true)
  : Se K mg I U O bI:=by
 have g:=IF X G fE;have i:∀f∈(["rows","whole"]:C3),WH K O f:=by
  intro f l;simp only[List.mem_cons,List.not_mem_nil,or_false]at l;rcases l with rfl|rfl
  ·exact dr
  ·exact cS
 refine⟨⟨λa j=>?_,λa j b m C D k n=>?_⟩,IF X G oj,λc o C k=>?_,λx p=>let⟨d,e,_⟩:=eu.at p;⟨d,IF X G e⟩,IF X G cK,⟨IF X G e7,⟨e8,ff,fm,fq⟩,i⟩,⟨fT,f6⟩,⟨O,IF X G e7,f7,gg,gp,gu,gx,gy,⟨e8,ff,fm,fq⟩⟩,nl⟩
 ·simp only[List.mem_cons,List.not_mem_nil,or_false]at j;rcases j with rfl
  ·exact⟨I,⟨g,eH⟩,⟨dQ,dS,d4,d5,ej⟩,⟨eH,om,s_NoRest⟩⟩
 ·simp only[List.mem_cons,List.not_mem_nil,or_false]at j m;rcases j with rfl<;>rcases m with rfl
  ·rw[g]at k;rw[g]at n;cases k;cases n;exact bX
 ·simp only[List.mem_cons,List.not_mem_nil,or_false]at o;rcases o with rfl
  ·rw[g]at k;cases k;exact Tr X G eu ⟨dQ,dS,d4,d5,ej⟩ eL eM
def PF(ts:List (Addr×Addr)):Sp:=λc H Q z=>∃(a:Addr) (b:C1),c=[.ref a]/\Rd H a (.lst (b.map V.int))/\b.length<=63/\(∀q∈ts,H q.2=some (.eT #[]))/\∀I,Q (.bl true) I
def Wy{mg:A4}{ts:List (Addr×Addr)}{vs:List V}{H:Hp}{Q:VK}{E:XK}(h:PF ts vs H Q E):wR mg Li vs H Q E/\∀q∈ts,H q.2=some (.eT #[]):=by
 obtain⟨a,f,rfl,rd,l,g,q⟩:=h;obtain⟨d,O,e,i⟩:=QW f (by omega)
 refine⟨⟨⟨[],[]⟩,[],[.eB f],.cons (.eB (λz=>by rcases z with z|z<;>cases z) rd) .nil,⟨rfl,List.nodup_nil,λn a o h=>by simp at h,λa h=>by cases h⟩,_,e,λk I b x j c=>?_⟩,g⟩
 subst i;cases c;exact q I
def II{P:C5}{w:World}{K:B0}{mg:Mg}{fa c_ x:Addr}{i mM I:Addr}{g:Tok}(ui:mg "law"=some (.ref fa)){h:Heap}(X:K.In h)(G:h.Ns mainGlobals mg)(uj:W.tabIn K "_law_right"=some (c_,x))(t0:TD K "is_whole" pR)(t1:TD K "greatest_divider" fK)(t2:TD K "least_multiple" gG)(t3:TD K "are_weights" jC)(t4:TD K "are_rows" pP)(t5:TD K "is_place" pQ)(t6:TD K "is_lot" vg)(t7:TD K "refuse_no_lot" iu)(t8:TD K "least" xP)(t9:TD K "can_be_walked" ir)(oo:MethAt K I "__len__" "Walk.__len__" bB)(oq:TD K "refuse_no_place" fZ)(ox:MethAt K I "__init__" "Walk.__init__" ie)(oy:MethAt K I "__eq__" "Walk.__eq__" gB)(oz:TD K "plainest" pW)(oB:TD K "next_places" jE)(oC:TD K "fewest_steps" iW)(oD:TD K "led_to" vh)(oI:TD K "shut_sets" nJ)(oP:TD K "determinant" jD)(oQ:TD K "trees_toward" iY)(oS:TD K "rest_on" rM)(oT:TD K "refuse_no_rest" gH)(pa:TD K "one_rest" pU)(pb:TD K "turned" vm)(pd:TD K "_law_cell_at" iV)(pe:TD K "_law_next" nF)(pf:TD K "_law_pen_of" jB)(pj:TD K "_law_draw" nA)(pw:TD K "_law_rows" nG)(pE:TD K "_law_led" pO)(pS:TD K "_law_shut" nH)(pT:TD K "_law_common" jA)(pV:TD K "_law_all_common" fY)(p0:TD K "_law_flags" fJ)(p5:TD K "_law_said" gj)(p9:TD K "_law_right" ig)(qf:TD K "law" zf)(z0:TB K "ArithmeticError")(z1:TB K "LookupError")(z2:TB K "RuntimeError")(z3:TB K "TypeError")(z4:TB K "ValueError")(z5:TB K "all")(z6:TB K "any")(z7:TB K "bool")(z8:TB K "enumerate")(z9:TB K "int")(qh:TB K "isinstance")(qk:TB K "len")(qo:TB K "list")(qr:TB K "max")(qv:TB K "range")(qA:TB K "set")(qB:TB K "sorted")(qS:TB K "sum")(qV:TB K "tuple")(Z:Se K mg i mM I g):
  ∃fd:FuncData,(∀(s:Shared) (v:Value),BindsTo s fd ⟨[v],[]⟩ [("_law_script",v)])/\∀base:Heap,K.In base->base.Ns mainGlobals mg->(∀q∈[(c_,x)],QU mg base q.1 q.2)->XW P w K mg base (bZ P w) 16 fa fd ["_law_script"] (PF [(c_,x)]):=by
 obtain⟨f,fd,F,m⟩:=(qf X G).ex;have e:=ui.symm.trans m;cases e;refine⟨fd,?_,λbase Y Y TD_=>?_⟩
 ·obtain⟨oc,od,kV,doc,pm,an,a7,ct,br,rfl,_⟩:=F.ex;exactλs v=>.of_eq rfl
 have yz0:=Zt X G z0;have yz1:=Zt X G z1;have yz2:=Zt X G z2;have yz3:=Zt X G z3;have yz4:=Zt X G z4;have l:=Zt X G z5;have yz6:=Zt X G z6;have yz7:=Zt X G z7;have p:=Zt X G z8;have r:=Zt X G z9;have d:=Zt X G qh;have a:=Zt X G qk;have y:=Zt X G qo;have z:=Zt X G qr;have c:=Zt X G qv;have n:=Zt X G qA;have j:=Zt X G qB;have o:=Zt X G qS;have b:=Zt X G qV;have D0:Zs P w K mg base _ _ _ zG:=VI (t0 X G) Dq ((wA).2 yz7 r d);have D1:Zs P w K mg base _ _ _ lN:=AF (λN=>dB N) (t1 X G) iB V5 λN=>(fH N).2
 have D2:Zs P w K mg base _ _ _ HF:=VI (t2 X G) ud ((lu lN).2 D1);have D3:Zs P w K mg base _ _ _ yf:=VI (t3 X G) xR ((qp zG).2 D0 l d a b);have D4:Zs P w K mg base _ _ _ Hw:=VI (t4 X G) Dn ((wy yf).2 D3 l d a b);have D5:Zs P w K mg base _ _ _ HB:=VI (t5 X G) Do ((wz zG).2 D0);have D6:Zs P w K mg base _ _ _ Hz:=VI (t6 X G) Kr ((BZ yf).2 D3 Z.eC yz6 d a b);have D7:Zs P w K mg base _ _ _ HJ:=VI (t7 X G) vq ((mH Hz).2 D6);have D8:Zs P w K mg base _ _ _ HD:=VI (t8 X G) Cw ((Fv HJ lN).2 D7 D1 b);have D9:Zs P w K mg base _ _ _ Hx:=VI (t9 X G) lH ((mF Hw).2 D4 Z.eC l d a o b);have U:X1 P w K mg base _ "Walk" _ _ _ _ eU:=Uu oo Z.bE.at_ Z.bE.cls wL ((oM).2 Z.bE a);have D11:Zs P w K mg base _ _ _ HQ:=VI (oq X G) rT ((jM HB eU).2 D5 U a);have M12:X1 P w K mg base _ "Walk" _ _ _ _ Fin:=Uu ox Z.bE.at_ Z.bE.cls vp ((mD Hx).2 D9 Z.bE o);have O:QY P w K mg base _ "Walk" nU:=Xc M12 (λY Y Y Y Y Y us hl=>match us,hl with | [_,_],_=>rfl) (λC hC=>by have q:=hC.symm.trans Z.bE.at_;cases q;exact Z.k_Walk) VD
 have M13:X1 P w K mg base _ "Walk" _ _ _ _ vH:=Uu oy Z.bE.at_ Z.bE.cls xQ ((qm).2 Z.bE.at_ Z.bE Z.iF d);have D14:Zs P w K mg base _ _ _ uB:=VI (oz X G) uw ((wC lN nU).2 D1 O Z.bE b);have D15:Zs P w K mg base _ _ _ zK:=VI (oB X G) xT ((qu).2 Z.bE p b);have D16:Zs P w K mg base _ _ _ zF:=AF (λN=>fL N) (oC X G) mJ V3 λN=>(iQ N).2
 have D17:Zs P w K mg base _ _ _ Oz:=VI (oD X G) yM ((uZ zK zF eU).2 D15 D16 U a c j b);have D18:Zs P w K mg base _ _ _ HR:=VI (oI X G) rW ((nq Oz).2 D17 l j b);have D19:Zs P w K mg base _ _ _ zE:=AF (λN=>gq N) (oP X G) oX V0 λN=>(jz N).2 a c
 have D20:Zs P w K mg base _ _ _ HS:=VI (oQ X G) mK ((iR HQ zE eU).2 D11 D19 U Z.bE a c);have D21:Zs P w K mg base _ _ _ HN:=VI (oS X G) wO ((rG HS HD nU eU).2 D20 D8 O U Z.bE p a b);have D22:Zs P w K mg base _ _ _ zL:=VI (oT X G) ue ((eF HR eU).2 D18 U Z.t a c b);have D23:Zs P w K mg base _ _ _ For:=VI (pa X G) Dr ((jQ zL HN eU).2 D22 D21 U a c b);have D24:Zs P w K mg base _ _ _ zP:=VI (pb X G) yN ((pK For HF uB nU eU).2 D23 D2 D14 O U Z.bE a c b);have D25:Zs P w K mg base _ _ _ zA:=VI (pd X G) wM ((oN).2 a);have D26:Zs P w K mg base _ _ _ HH:=VI (pe X G) rO ((ut).2 );have D27:Zs P w K mg base _ _ _ zM:=VI (pf X G) oW ((jy).2 r z);have D28:Zs P w K mg base _ _ _ Hy:=VI (pj X G) rN ((m8 HH).2 D26);have D29:Zs P w K mg base _ _ _ zN:=VI (pw X G) rP ((m9 Hy).2 D28 r a y c b);have D30:Zs P w K mg base _ _ _ zH:=VI (pE X G) uv ((pJ).2 a c n j b);have D31:Zs P w K mg base _ _ _ zJ:=VI (pS X G) rR ((nj zH).2 D30 n j b);have D32:Zs P w K mg base _ _ _ zB:=AF (λN=>gm N) (pT X G) oV VR λN=>(jx N).2
 have D33:Zs P w K mg base _ _ _ Hv:=VI (pV X G) jo ((fX zB).2 D32);have FG:Ll P w K mg base 0 _ uA Pq:=Yc (p0 X G) qw Z.fk V2 λu FK ho h0 hn hf=>(kZ).2 Z.mL yz0 yz1 yz2 yz3 yz4 d u FK ho h0 hn hf
 have H35:LZ P w K mg base _ _ zO:=Yd (k:=10) (p5 X G) rQ λu ht=>(jc Pq).2 Z.t Z.gS FG (by decide) ht u
 have T36:LX P w K mg base _ _ _ x mr:=Ye (p9 X G) qx X G uj λhP hc u=>(lg zP zJ For uB Hv nU eU vH zO).2 D24 D31 D23 D14 D33 O U M13 Z.bE.at_ Z.bE Z.iF p d a c b H35 (TD_ _ (.head _)) hc hP u
 exact((Xf (P:=P) (w:=w) (base:=base) (ts:=[(c_,x)]) F Ks λa7 A outer s H E ht u=>(G8 zA zM zN mr).2 D25 D27 D29 c T36 ⟨_,ht _ (.head _)⟩ u).imp λvs H Q E h=>Wy h).mono (by decide)
def zt{l:W.OpenLaw}{q:C5}{loose:C3}{XP:A4->B6}{YP:World->B6}{d:DefRec}{K:Params->B0}{c I:Addr}(p:l.most=some 63)(g:d.params.defaults=[])
  (r:∀(w:World) (h:Heap),YP w h->(K w.params).In h) (i:∀w:World,Py (K w.params)=true) (h1:((PyProof.Rows.recsOf q).find? (λe=>e.name==("_law_right":Str))).isSome=true) (h2:∀w:World,W.tabIn (K w.params) "_law_right"=some (c,I)) (h3:∀w:World,(K w.params).lookup I=none)
  (F:∀(w:World) (mg:A4) (j:Addr) (h:Heap),(K w.params).In h->h.Ns mainGlobals mg->mg d.name=some (.ref j)->
    ∃m:FuncData,(∀(s:Shared) (u:Value),BindsTo s m ⟨[u],[]⟩ [("_law_script",u)])/\∀base:Heap,(K w.params).In base->base.Ns mainGlobals mg->(∀q∈[(c,I)],QU mg base q.1 q.2)->XW l.prog w (K w.params) mg base (bZ l.prog w) 16 j m ["_law_script"] (PF [(c,I)])) :
  W.WalkO q loose XP YP l.row.toRowW d [] (λf vs=>PySem.call f vs):=
 L2.Ox (n:=63) (k:=16) (x := "_law_script") (CX:=λw=>bZ l.prog w) (sp:=PF) (tn:=[("_law_right",c,I)]) p (by decide) g ⟨rfl,by decide,by decide,rfl⟩ r (λw a o e=>Ur (i w) e) (λt b=>by rw[Zi.mp b];exact h1) (λw t b=>by rw[Zi.mp b];exact h2 w) (λw t b=>by rw[Zi.mp b];exact h3 w) F (λZ a v y O U=>⟨a,v,rfl,O,y,U,λZ=>rfl⟩) λZ Z Z Z Z z=>by obtain⟨_,_,_,_,_,_,_,_,_,_,_,_,_,q⟩:=z;exact q.elim
end K
open PySem PySem.W PyProof.Rows
set_option maxRecDepth 100000 in
set_option maxHeartbeats 0 in
theorem PySem.Challenge.cw_fadewalk_k45_walks_turned_about_holds : PySem.Challenge.rw_fadewalk_k45_walks_turned_about.Holds := by
 w_on;refine T.cut ?_
 k_fill
 refine' K.zt (l:=PySem.Challenge.rw_fadewalk_k45_walks_turned_about) rfl rfl (λw h Y=>PySem.W.km_in_of Y) ?nl9 ?h1 ?h2 ?h3 ?F
 case h2=>
  intro w
  refine' L2.K3 ?qa ?ql ?qc ?qd ?qe
  case qa=>k_is
  case ql=>k_is
  case qc=>exact rfl
  case qd=>k_is
  case qe=>exact rfl
 case nl9=>intro w;first|k_is|kernel_rfl
 case h1=>decide +kernel
 case h3=>intro w;first|k_is|kernel_rfl
 case F=>
  intro w b c h I G a
  refine' K.II a I G ?ht ?t0 ?t1 ?t2 ?t3 ?t4 ?t5 ?t6 ?t7 ?t8 ?t9 ?oo ?oq ?ox ?oy ?oz ?oB ?oC ?oD ?oI ?oP ?oQ ?oS ?oT ?pa ?pb ?pd ?pe ?pf ?pj ?pw ?pE ?pS ?pT ?pV ?p0 ?p5 ?p9 ?qf ?z0 ?z1 ?z2 ?z3 ?z4 ?z5 ?z6 ?z7 ?z8 ?z9 ?qh ?qk ?qo ?qr ?qv ?qA ?qB ?qS ?qV (K.Sy I G ?oj ?fE ?om ?eH ?s_NoRest ?dQ ?dS ?d4 ?d5 ?ej ?bX ?eL ?eM ?eu ?cK ?e7 ?e8 ?ff ?fm ?fq ?fT ?f6 ?f7 ?gg ?gp ?gu ?gx ?gy ?dr ?cS ?nl)
  case ht=>
   refine' L2.K3 ?qa ?ql ?qc ?qd ?qe
   case qa=>k_is
   case ql=>k_is
   case qc=>exact rfl
   case qd=>k_is
   case qe=>exact rfl
  case e7=>k_is
  case oj|fE|om|eH|s_NoRest|dQ|dS|d4|d5|ej|bX|eL|eM|cK|e8|ff|fm|fq|fT|f6|f7|gg|gp|gu|gx|gy|dr|cS|nl=>first|k_is|k_exc|kernel_rfl
  case eu=>
   refine' (L3.bJ false ?_ ?_ rfl (L3.bJ false ?_ ?_ rfl (L3.bJ false ?_ ?_ rfl (L3.bJ false ?_ ?_ rfl (L3.bJ false ?_ ?_ rfl (L3.bJ false ?_ ?_ rfl (L3.bJ false ?_ ?_ rfl (L3.bJ false ?_ ?_ rfl (L3.bJ false ?_ ?_ rfl (L3.bJ false ?_ ?_ rfl (L3.bJ false ?_ ?_ rfl (L3.bJ false ?_ ?_ rfl (L3.bJ true ?_ ?_ rfl (L3.bJ false ?_ ?_ rfl (L3.bJ false ?_ ?_ rfl (L3.bJ false ?_ ?_ rfl (L3.bJ false ?_ ?_ rfl (L3.bJ false ?_ ?_ rfl (L3.bJ false ?_ ?_ rfl (L3.bJ false ?_ ?_ rfl True.intro))))))))))))))))))))
   all_goals try (first|k_is|k_exc|kernel_rfl)
  case oo|ox|oy=>apply L2.JC<;>k_is
  case t0|t1|t2|t3|t4|t5|t6|t7|t8|t9|oq|oz|oB|oC|oD|oI|oP|oQ|oS|oT|pa|pb|pd|pe|pf|pj|pw|pE|pS|pT|pV|p0|p5|p9|qf=>apply L3.WM<;>k_is
  case z0|z1|z2|z3|z4|z5|z6|z7|z8|z9|qh|qk|qo|qr|qv|qA|qB|qS|qV=>delta L3.TB;k_is
end
