import PyProof.Rows.All
import Wide.All
import OpenK.AllK
import Wide.FinOn
import Lean
import PyProof.EqAt
import PyProof.EqKinds
import PyProof.TupleCall
import PyProof.ReprRoads
import PyProof.P3Eq
import PyProof.NeData
import PyProof.ReprLen
import PyProof.Rows.RegStrFacts
import OpenK.KOwn
import PyProof.StationsW
import PyProof.Rows.Catch
import PyProof.Rows.Own
import PyProof.RulesAs
import PyProof.ExcBaseAll.ValueError
import PyProof.NsDelKeeps
import PyProof.ExcArgsOwn
import PyProof.ExcAttrAll.ValueError
import PyProof.CompFree
import PyProof.CompMap
import PyProof.ConsumeWalk
import PyProof.SumWalk
import PyProof.Rows.TupIter
import PyProof.Rows.SumGenD
import PyProof.FString
import PyProof.Rows.FStr
import PyProof.Rows.RuleIs
import PyProof.FactsAll.tuple_iterator_1
import PyProof.FactsAll.tuple_2
import PyProof.FactsAll.list_3
import PyProof.Cells
import PyProof.ZipIter
import PyProof.EnumMake
import PyProof.EnumFor
import PyProof.ListRange
import PyProof.TupleOfSeq
import PyProof.Rows.SetFrom
import PyProof.Rows.SortShell
import PyProof.CollectWalk
import PyProof.FactsAll.set_1
import PyProof.Rows.SortWalk
import PyProof.FactsAll.set_2
import KE.KDictSum
import KE.KSortTup
import PyProof.TupleKey
import PyProof.IsRules
import KE.KTupSum
import PyProof.WalkInts
import PyProof.SeqI3
import PyProof.Conv_int_bool
import PySem.Challenge.RW_fadewalk_k75_whole_separation_of_made_wa
section
open PySem PySem.Spec PySem.W PySem.Calls PyProof.Rows
def Wc:=@wpAny_bind
def Wd:=@Heap.get?_push_of_some
def We:=@wpAny_pure
def Wf:=@List.getElem?_eq_some_iff
def Wg:=@Nat.le_refl
def Wh:=@List.length_map
def Wi:=@Option.map_eq_some_iff
def Wj:=@Heap.lt_size
def Wk:=@List.getElem?_eq_getElem
def Wl:=@Heap.get?_push_size
def Wm:=@if_pos
def Wn:=@List.getElem?_map
def Wo:=@Nat.lt_of_lt_of_le
def Wq:=@Option.some.inj
def Wr:=@if_neg
def Ws:=@List.getElem?_append_left
def Wt:=@List.mem_range
def Wu:=@Nat.ne_of_lt
def Wv:=@List.size_toArray
def Ww:=@List.length_append
def Wx:=@wpAny_mono
def Wy:=@List.mem_cons
def Wz:=@List.getElem?_eq_none_iff
def WD:=@Nat.lt_of_le_of_lt
def WF:=@decide_eq_true
def WL:=@Bool.false_ne_true
def WM:=@Heap.size_push
def WN:=@Nat.zero_add
def WP:=@PassesOwn.leaving
def WQ:=@List.getD_eq_getElem?_getD
def WR:=@List.getElem?_set_self
def WT:=@List.length_range
def WW:=@wpAny_newObj_type
def WX:=@wpAny_call_entry
def WY:=@Bool.eq_iff_iff
def W0:=@List.map_cons
def W2:=@List.mem_singleton
def W3:=@List.getElem?_range
def W4:=@List.mem_cons_of_mem
def W5:=@List.mem_append
def W6:=@List.mem_of_getElem?
def W7:=@wpAny_callSpecial?_slot
def W8:=@Option.bind_eq_some_iff
def W9:=@wpAny_field
def Xa:=@List.mem_append_right
def Xb:=@Nat.mul_assoc
def Xc:=@List.getElem?_append_right
def Xd:=@List.map_map
def Xe:=@PyProof.Rows.callWith_type1
def Xf:=@PySem.W.mg_none_of
def Xg:=@List.mem_cons_self
def Xh:=@List.getElem?_set_ne
def Xi:=@List.length_replicate
def Xj:=@wpAny_holding
def Xk:=@Nat.mul_comm
def Xl:=@List.mem_map
def Xm:=@Nat.le_trans
def Xn:=@List.getElem?_eq_none
def Xo:=@Int.toNat_natCast
def Xp:=@PySem.mem_of_lookup
def Xq:=@of_decide_eq_true
def Xr:=@wpAny_setState_of
def Xu:=@decide_eq_false
def Xv:=@List.length_cons
def Xw:=@Nat.lt_succ_self
def Xx:=@List.map_congr_left
def Xy:=@Nat.mul_le_mul_right
def Xz:=@List.length_set
def XC:=@Int.zero_add
def XD:=@Array.getElem?_eq_getElem
def XF:=@decide_eq_true_eq
def XH:=@List.append_assoc
def XJ:=@wpAny_seqItems
def XM:=@PySem.W.kia_one
def XN:=@List.map_append
def XQ:=@Nat.lt_irrefl
def XR:=@wpAny_setField
def XS:=@Nat.mul_div_cancel'
def XX:=@Nat.eq_of_mul_eq_mul_left
def X3:=@Nat.zero_le
def X4:=@Nat.not_lt
def X5:=@Nat.pow_le_pow_right
def X6:=@PySem.F.plainAttrs_list
def X7:=@wpAny_truthy_bool
def X8:=@pushCells_keeps
def Yb:=@List.replicate_succ
def Yc:=@wpAny_setEntries_of
def Yd:=@Heap.get?_update_other
def Ye:=@Nat.mul_pos
def Yg:=@Nat.pow_pos
def Yh:=@List.getElem_mem
def Yi:=@List.length_take
def Yj:=@wpAny_askSetting
def Yk:=@List.lookup_cons
def Yl:=@Nat.eq_zero_or_pos
def Ym:=@Nat.le_of_mul_le_mul_left
def Yn:=@PyProof.Rows.slot_tuple_getitem
def Yo:=@List.append_nil
def Yp:=@Int.natCast_mul
def Yq:=@Around.under_plainId
def Yr:=@Nat.le_of_lt
def Ys:=@Nat.mod_lt
def Yt:=@wpAny_pyIter_list
def Yu:=@wpAny_attempt
def Yv:=@List.sum_cons
def Yw:=@wpAny_standAt
def Yx:=@List.getElem?_replicate
def Yy:=@List.filter_eq_self
def Yz:=@Heap.SameBut.update
def YB:=@List.ext_getElem
def YC:=@Bool.and_eq_true
def YD:=@List.take_of_length_le
def YF:=@List.pairwise_cons
def YG:=@Nat.div_le_self
def YH:=@List.mem_filter
def YJ:=@wpAny_passesOwn
def YK:=@List.flatten_cons
def YL:=@F.plain_list_iadd
def YM:=@wpAny_rule
def YQ:=@List.range_eq_range'
def YS:=@sizeLine_eq
def YT:=@Nat.ne_of_gt
def YW:=@PySem.F.type_list_append
def YX:=@List.length_drop
def YZ:=@Option.isSome_iff_exists
def Y0:=@PySem.F.slot_list_append
def Y4:=@beq_eq_false_iff_ne
def Y5:=@wpAny_Call_Name_kw
def Y6:=@codeAny_builtin
def Y7:=@List.zip_cons_cons
def Y8:=@Nat.mul_add
def Y9:=@Int.mul_nonneg
def Za:=@F.slot_enumerate_next
def Zb:=@Nat.pow_succ
def Zc:=@List.mem_iff_getElem?
def Zd:=@wpAny_typeOf
def Ze:=@codeAny_mono
def Zf:=@Heap.get?_update_self
def Zg:=@wpAny_fieldsOf
def Zh:=@List.cons_append
def Zi:=@List.all_eq_true
def Zj:=@List.mem_append_left
def Zk:=@F.args_object_init_3
def Zm:=@Nat.dvd_trans
def Zn:=@Array.getElem?_eq_none_iff
def Zo:=@slot_tupleiter_next
def Zq:=@List.filterMap_cons
def Zr:=@Calls.call_function_entry
def Zt:=@callType_new
def Zu:=@PySem.F.args_tuple_add_2
def Zv:=@AutoSeq1.wpAny_loadPart'
def Zw:=@Array.forIn_toList
def Zx:=@List.map_nil
def Zy:=@Nat.gcd_pos_of_pos_right
def Zz:=@Nat.lt_trans
def ZC:=@List.map_inj_right
def ZD:=@wpAny_comprehension_free
def ZF:=@iter_tuple
def ZG:=@PySem.F.entry_tuple_add
def ZJ:=@List.ext_getElem?
def ZK:=@wpAny_pyIter_slot
def ZL:=@List.nodup_append
def ZM:=@Nat.lt_succ_of_lt
def ZP:=@Nat.mul_left_comm
def ZQ:=@Nat.gcd_dvd_right
def ZR:=@Int.mul_pos
def ZS:=@Nat.one_mul
def ZV:=@Nat.mul_one
def ZW:=@PySem.F.slot_tuple_add
def ZX:=@PySem.W.mg_of
def ZZ:=@F.typeCall_zip_2
def Z0:=@Nat.gcd_dvd_left
def Z1:=@wpAny_isInstance
def Z2:=@Array.getElem?_toList
def Z3:=@F.entry_proto_collect
def Z4:=@F.plain_proto_collect
def Z5:=@Classical.choose_spec
def Z6:=@PySem.W.methodCall_KW
def Z7:=@wpAny_execs_nil
def Z8:=@F.newCall_zip_2
def Z9:=@List.range_succ
def aaa:=@List.mem_iff_getElem
def aab:=@beq_iff_eq
def aac:=@List.foldl_cons
def aad:=@List.nodup_cons
def aae:=@F.entry_zip_new
def aaf:=@Int.le_of_lt
def aag:=@assignInOrder_cons
def aah:=@Calls.spliced_cons
def aai:=@Paired.length
def aaj:=@listUpdate_at
def aak:=@List.any_cons
def aal:=@plainId_quiet
def aam:=@Calls.spliced_nil
def aan:=@wpAny_load
def aao:=@call_meets
def aap:=@List.pairwise_iff_getElem
def aaq:=@List.drop_eq_getElem_cons
def aar:=@List.any_eq_true
def aas:=@List.eq_of_mem_replicate
def aat:=@List.length_eq_zero_iff
def aau:=@IsTup.new
def aav:=@get?_update_seq
def aaw:=@List.nil_append
def aax:=@List.of_mem_zip
def aay:=@wpAny_runValue
def aaz:=@List.mem_of_mem_take
def aaA:=@wpAny_call
def aaB:=@Heap.get?_update_ne
def aaC:=@Array.length_toList
end
set_option Elab.async false
set_option maxRecDepth 100000
set_option maxHeartbeats 8000000
namespace T
open PySem PySem.W PyProof.Rows
/-- the top's run over a tree -/
noncomputable def runT(p:Program)(w:World)(m:Nat)(a:Option Value):Nat->SharedT->Thread->Option SharedT
 | 0,_,_=>none
 | n + 1,s,t=>match through t with
   | true=>some s
   | false=>match stepOk m a t with
     | false=>none
     | true=>match stepT (denote treeTable) p w s t with
       | some r=>runT p w m a n r.1 r.2
       | none=>none
theorem run_of{p:Program}{w:World}{m:Nat}{a:Option Value}:∀ {n:Nat}{s s':SharedT}{t:Thread},runT p w m a n s t=some s'->topRun treeTable p w m a n s.abs t=some s'.abs
 | 0,_,_,_,h=>by cases h
 | n + 1,s,s',t,h=>by
   unfold runT at h;unfold topRun;cases ht:through t with
   | true=>rw [ht]at h;cases h;rfl
   | false=>
     rw [ht]at h;cases hk:stepOk m a t with
     | false=>rw [hk]at h;cases h
     | true=>
       rw [hk]at h;cases hs:stepT (denote treeTable) p w s t with
       | none=>rw [hs]at h;cases h
       | some r=>obtain ⟨s2,t2⟩:=r;rw [hs]at h;rw [stepT_spec hs];exact run_of h
noncomputable def grow:List Obj->Nat->BT->BT
 | [],_,t=>t
 | o::l,n,t=>grow l (n + 1) (t.ins n o)
noncomputable def bootT(B:Heap)(os:OsState):SharedT:=⟨grow B.objs.toList 0 .nil,B.objs.size,B.life,#[],boot_drawn,boot_toks,os⟩
noncomputable def bootA(w:World)(os:OsState):Shared:=⟨boot_heap w.params,#[],boot_drawn,boot_toks,os⟩
theorem boot_abs(w:World)(os:OsState):(bootT (boot_heap w.params) os).abs=bootA w os:=by kernel_rfl
theorem boot_ns(w:World):((boot_heap w.params).isNs mainGlobals && (#[]:Array GenState).size == 0)=true:=by kernel_rfl
noncomputable def chk{α:Type}(p q:Program)(loose:List Str)(Xt:Shared->Bool)(Yf:Shared->α)(N:Nat)(B:Heap)(w:World)(os:OsState):=
 (runT p w B.objs.size (B.nsMap mainGlobals "__annotations__") N (bootT B os) (topStub p)).map λs=>
   (staticsOk (importedModules p.main.body) B s.abs.heap && namesBound p s.abs.heap && gensDone s.abs && laidKept B s.abs.heap,openSeen q loose (importedModules p.main.body) Xt true s.abs,Yf s.abs)
theorem left{α:Type}{p q:Program}{loose:List Str}{Xt:Shared->Bool}{Yf:Shared->α}{Ya:World->α}{N:Nat}(e:opening p=plainProg p.main.scope.names)(hN:Nat.ble 600 N=true)(f:∀ s,fenceModules? p s=some s)
  (h:∀ (w:World) (os:OsState),chk p q loose Xt Yf N (boot_heap w.params) w os=some (true,openGood q loose,Ya w)):LeftO p q loose Xt Yf Ya N:=λw=>by
 obtain ⟨⟨hh,gs,d,k,os⟩,e1,e2⟩:=Wi.mp (boot_open (N:=N) e hN f w);obtain ⟨rfl,rfl,rfl,rfl⟩:hh=boot_heap w.params/\gs=#[]/\d=boot_drawn/\k=boot_toks:=by simpa using e2
 obtain ⟨s,r1,r2⟩:=Wi.mp (h w os);have r:=run_of r1;rw [boot_abs]at r;obtain ⟨l1,l2,l3⟩:_/\_/\_:=by simpa only [Prod.mk.injEq] using r2
 unfold openEnds topFrom;rw [e1];show (match (boot_heap w.params).isNs mainGlobals && (#[]:Array GenState).size == 0 with | true=>_ | false=>_:Option Shared).map _=_
 rw [boot_ns];show ((topRun treeTable p w (boot_heap w.params).objs.size _ N (bootA w os) (topStub p)).bind _).map _=_;rw [r];show (match staticsOk (importedModules p.main.body) (boot_heap w.params) s.abs.heap && namesBound p s.abs.heap && gensDone s.abs && laidKept (boot_heap w.params) s.abs.heap with | true=>_ | false=>_:Option Shared).map _=_
 rw [l1];show some (openSeen q loose (importedModules p.main.body) Xt true s.abs,Yf s.abs)=some _;rw [l2,l3]
noncomputable def tp(i:Nat):Stmt:=PySem.Challenge.pw_fadewalk_k75_whole_separation_of_made_wa.main.body.getD i (.Pass ⟨0,0,0,0⟩)
noncomputable def view:Program:={ PySem.Challenge.pw_fadewalk_k75_whole_separation_of_made_wa with main:={ PySem.Challenge.pw_fadewalk_k75_whole_separation_of_made_wa.main with body:=[tp 1,tp 2,tp 3,tp 4,tp 5,tp 6,tp 7,tp 8,tp 9,tp 11,tp 12,tp 13,tp 14,tp 15,tp 16,tp 17,tp 18,tp 20,tp 21,tp 22,tp 23,tp 24,tp 25,tp 26,tp 28,tp 29,tp 30,tp 31,tp 32,tp 33,tp 34,tp 36,tp 37,tp 38,tp 39,tp 41,tp 42,tp 43,tp 44,tp 45,tp 47,tp 50,tp 51,tp 53,tp 55,tp 57,tp 58,tp 59,tp 60,tp 61,tp 62,tp 63,tp 64,tp 65,tp 66,tp 67,tp 68] } }
noncomputable def loos:List Str:=["Walk", "separation", "lazy"]
noncomputable def lvs:List (Str×WData):=[]
noncomputable def lhs(B:Heap)(as:List Addr)(w:World)(os:OsState):=chk PySem.Challenge.pw_fadewalk_k75_whole_separation_of_made_wa view loos (λs=>xlAt view lvs s && recOk (RowW.records (OpenRow.toRowW (OpenLaw.row PySem.Challenge.rw_fadewalk_k75_whole_separation_of_made_wa))) s) (λs=>as.map s.heap.get?) 7710 B w os
noncomputable def rhs(K:Params->Frag)(w:World):=some (true,openGood view loos,(K w.params).map λp=>some p.2)
end T
noncomputable def PySem.W.Fast.tw10953923944664577624:PySem.Program:=PySem.Challenge.pw_fadewalk_k75_whole_separation_of_made_wa
theorem PySem.W.Fast.te10953923944664577624:PySem.Challenge.pw_fadewalk_k75_whole_separation_of_made_wa=PySem.W.Fast.tw10953923944664577624:=rfl
namespace T
open PySem PySem.W PyProof.Rows
lay_quick T.lhs T.rhs
theorem hook{K:Params->Frag}{as:List Addr}{e:∀ P,as=(K P).map (·.1)}(h:∀ (w:World) (os:OsState),PySem.W.Fast.tw12313586583820656202 (boot_heap w.params) as w os=PySem.W.Fast.tw7420988445182104193 K w):
  LeftO PySem.Challenge.pw_fadewalk_k75_whole_separation_of_made_wa view loos (λs=>xlAt view lvs s && recOk (RowW.records (OpenRow.toRowW (OpenLaw.row PySem.Challenge.rw_fadewalk_k75_whole_separation_of_made_wa))) s) (Hook.obs (kHook K as e)) (Hook.val (kHook K as e)) 7710:=
 left rfl (by decide) (λ_=>rfl) λw os=>by show lhs (boot_heap w.params) as w os=rhs K w;rw [PySem.W.Fast.te12313586583820656202,PySem.W.Fast.te7420988445182104193];exact h w os
local macro_rules
 | `(tactic| o_head $H)=>`(tactic| (
   refine PySem.W.holds_open (q:=T.view) (loose:=T.loos)
    (Xt:=λs=>PySem.W.xlAt T.view T.lvs s && PySem.W.recOk (PySem.W.RowW.records (PySem.W.OpenRow.toRowW (PySem.W.OpenLaw.row PySem.Challenge.rw_fadewalk_k75_whole_separation_of_made_wa))) s)
    (XP:=PySem.W.XL T.view T.lvs) (Yf:=PySem.W.Hook.obs $H) (Ya:=PySem.W.Hook.val $H)
    (YP:=PySem.W.Hook.says $H) (N:=7710) ?hl (PySem.W.Hook.of $H) (PySem.W.Hook.keeps $H)
    (λs e=>PySem.W.xl_of s (Bool.and_eq_true_iff.mp e).1) PySem.W.XL.keeps rfl rfl rfl
    (λs e=>PySem.W.recFacts_of (Bool.and_eq_true_iff.mp e).2) rfl
    (by first | assumption | decide +kernel) (by decide +kernel)
    ⟨rfl,rfl,rfl,rfl,rfl,by decide +kernel⟩ ?hw ?hc;(case hl=>exact T.hook (λw os=>by kernel_rfl))))
open_top cut for PySem.Challenge.rw_fadewalk_k75_whole_separation_of_made_wa
end T
set_option linter.all false
set_option tactic.hygienic false
set_option bootstrap.genMatcherCode false
namespace L2
open PySem PySem.Spec PyProof.Rows
abbrev Key:=Sum Int Str
def keyIs:Key->Value->Bool
 |.inl k,v=>Value.isInt k v
 |.inr x,v=>Value.isStrOf x v
def keyH(w:World):Key->Int
 |.inl k=>hashInt k
 |.inr x=>hashStr w x
theorem keyIs_shape:∀ {k:Key}{v:Value},keyIs k v=true->(∃ i t,k=Sum.inl i/\v=Value.int i t)\/(∃ x t,k=Sum.inr x/\v=Value.str x t)
 |.inl i,v,h=>by obtain⟨t,e⟩:=Value.isInt_shape (k:=i) (v:=v) h;exact .inl ⟨i,t,rfl,e⟩
 |.inr x,v,h=>by obtain⟨t,e⟩:=Value.isStrOf_shape (x:=x) (v:=v) h;exact .inr ⟨x,t,rfl,e⟩
theorem keyIs_int(i:Int)(t:Tok):keyIs (.inl i) (.int i t)=true:=by simp[keyIs,Value.isInt]
theorem keyIs_str(x:Str)(t:Tok):keyIs (.inr x) (.str x t)=true:=by simp[keyIs,Value.isStrOf]
theorem key_ll(a b:Int):decide ((Sum.inl a:Key)=Sum.inl b)=(a==b):=by
 by_cases e:a=b
 ·subst e;simp
 ·have h:¬ (Sum.inl a:Key)=Sum.inl b:=λq=>e (Sum.inl.inj q)
  rw[Xu h];exact (Y4.mpr e).symm
theorem key_rr(a b:Str):decide ((Sum.inr a:Key)=Sum.inr b)=decide (a=b):=by
 by_cases e:a=b
 ·subst e;simp
 ·have h:¬ (Sum.inr a:Key)=Sum.inr b:=λq=>e (Sum.inr.inj q)
  rw[Xu h,Xu e]
theorem key_lr(a:Int)(b:Str):decide ((Sum.inl a:Key)=Sum.inr b)=false:=Xu (λq=>nomatch q)
theorem key_rl(a:Str)(b:Int):decide ((Sum.inr a:Key)=Sum.inl b)=false:=Xu (λq=>nomatch q)
def mixKind(prog:Program)(w:World):PySem.KeyKind prog w Key where
 is:=keyIs
 hash:=keyH w
 inj:=λv a b ha hb=>by
  rcases keyIs_shape ha with ⟨i,t,rfl,rfl⟩ | ⟨x,t,rfl,rfl⟩
  ·rcases keyIs_shape hb with ⟨j,u,rfl,e⟩ | ⟨y,u,rfl,e⟩
   ·injection e with e1 _;rw[e1]
   ·exact nomatch e
  ·rcases keyIs_shape hb with ⟨j,u,rfl,e⟩ | ⟨y,u,rfl,e⟩
   ·exact nomatch e
   ·injection e with e1 _;rw[e1]
 byValue:=λk v h=>by rcases keyIs_shape h with ⟨i,t,rfl,rfl⟩ | ⟨x,t,rfl,rfl⟩<;>rfl
 pyHash:=λhv h=>by
  rcases keyIs_shape hv with ⟨i,t,rfl,rfl⟩ | ⟨x,t,rfl,rfl⟩
  ·exact wpAny_pyHash_int h
  ·exact wpAny_pyHash_str h
 eqBool:=λhu hv h=>by
  rcases keyIs_shape hu with ⟨i,t,rfl,rfl⟩ | ⟨x,t,rfl,rfl⟩
  ·rcases keyIs_shape hv with ⟨j,u,rfl,rfl⟩ | ⟨y,u,rfl,rfl⟩
   ·rw[key_ll]at h;exact wpAny_eqBool_int h
   ·rw[key_lr]at h;exact SeqAt.EqAt.int_str i t y u _ _ _ _ h
  ·rcases keyIs_shape hv with ⟨j,u,rfl,rfl⟩ | ⟨y,u,rfl,rfl⟩
   ·rw[key_rl]at h;exact SeqAt.EqAt.str_int x t j u _ _ _ _ h
   ·rw[key_rr]at h;exact wpAny_eqBool_str h
 «strs»:=λk x t v h=>by
  rcases keyIs_shape h with ⟨i,u,rfl,e⟩ | ⟨y,u,rfl,e⟩
  ·exact nomatch e
  ·injection e with e1 _
   subst e1;cases v<;>rfl
theorem mixKind_is(prog:Program)(w:World)(k:Key)(v:Value):(mixKind prog w).is k v=keyIs k v:=rfl
theorem mixKind_int(prog:Program)(w:World)(i:Int)(t:Tok):(mixKind prog w).is (.inl i) (.int i t)=true:=keyIs_int i t
theorem mixKind_str(prog:Program)(w:World)(x:Str)(t:Tok):(mixKind prog w).is (.inr x) (.str x t)=true:=keyIs_str x t
open PySem PySem.Spec PyProof.Rows
inductive V where
 |non | bl (b:Bool) | int (i:Int) | str (x:Str) | byt (b:Array UInt8) | flt (b:UInt64) | ref (a:Addr) | ty (n:String)
 deriving DecidableEq
def RelV:V->Value->Prop
 |.non,u=>u=Value.none
 |.bl b,u=>u=Value.bool b
 |.int i,u=>∃t,u=Value.int i t
 |.str x,u=>∃t,u=Value.str x t
 |.byt b,u=>∃t,u=Value.bytes b t
 |.flt b,u=>∃t,u=Value.float b t
 |.ref a,u=>u=Value.ref a
 |.ty n,u=>u=Value.type n
abbrev Vals:List V->List Value->Prop:=Paired RelV
theorem Vals.length(r:Vals xs us):xs.length=us.length:=aai r
theorem Vals.get:∀ {xs:List V}{us:List Value}{i:Nat}{x:V},Vals xs us->xs[i]?=some x->∃ u,us[i]?=some u/\RelV x u
 |_,_,_,_,.nil,e=>by simp at e
 |_,_,0,_,.cons r _,e=>by simp at e;subst e;exact⟨_,rfl,r⟩
 |_,_,i+1,x,.cons _ t,e=>by
   obtain⟨u,h1,h2⟩:=Vals.get (i:=i) (x:=x) t (by simpa using e)
   exact⟨u,by simpa using h1,h2⟩
theorem Vals.set(r:RelV x u):∀{xs:List V}{us:List Value} (i:Nat),Vals xs us->Vals (xs.set i x) (us.set i u)
 |_,_,_,.nil=>.nil
 |_,_,0,.cons _ t=>.cons r t
 |_,_,i+1,.cons q t=>.cons q (Vals.set r i t)
theorem Vals.append:∀{xs ys:List V}{us ws:List Value},Vals xs us->Vals ys ws->Vals (xs++ys) (us++ws)
 |_,_,_,_,.nil,s=>s
 |_,_,_,_,.cons r t,s=>.cons r (Vals.append t s)
theorem Vals.take:∀{xs:List V}{us:List Value} (n:Nat),Vals xs us->Vals (xs.take n) (us.take n)
 |_,_,0,_=>.nil
 |_,_,_+1,.nil=>.nil
 |_,_,n+1,.cons r t=>.cons r (Vals.take n t)
theorem Vals.drop:∀{xs:List V}{us:List Value} (n:Nat),Vals xs us->Vals (xs.drop n) (us.drop n)
 |_,_,0,r=>r
 |_,_,_+1,.nil=>.nil
 |_,_,n+1,.cons _ t=>Vals.drop n t
theorem Vals.none_of:∀{xs:List V}{us:List Value}{i:Nat},Vals xs us->xs[i]?=none->us[i]?=none:=λ{xs us i} r e=>by have h1:=r.length;have h2:xs.length<=i:=Wz.mp e;exact Wz.mpr (by omega)
def RelO:Option V->Option Value->Prop
 |some v,some u=>RelV v u
 |none,none=>True
 |_,_=>False
def KV{κ:Type}:List (κ×V)->List (κ×Value)->Prop:=Paired λ(p:κ×V) (q:κ×Value)=>p.1=q.1/\RelV p.2 q.2
def kV:Key->V
 |.inl i=>.int i
 |.inr x=>.str x
inductive HO where
 /-- a list -/
 |lst (xs:List V)
 /-- a tuple (never changes) -/
 |tup (xs:List V)
 /-- a dict whose keys are ints and texts;one whose keys are tuples of ints and texts (the empty one is both) -/
 |dK (kvs:List (Key×V)) | dT (kvs:List (List Key×V))
 /-- a set of ints: its members,its size -/
 |set (S:Int->Bool) (n:Nat)
 /-- an instance of the class at C,its dict at dx,its attributes -/
 |ins (C dx:Addr) (fs:List (Str×V))
 /-- the dict of the instance at x -/
 |own (x:Addr)
 /-- the dict of an exception -/
 |xd (fs:List (Str×V))
 /-- a bound method,f of x -/
 |met (f x:Addr)
 /-- a range object lo,lo+1,.. below hi -/
 |rng (lo hi:Int)
 /-- a thing that is known to the object (the script;a dict while a loop walks it): read,never written while it is so -/
 |frz (o:Obj) (u:HO)
 /-- a code object's table -/
 |tbl (ps:Array Value)
 /-- any other thing,by what is true of its one object (a def of one's own: SetO a S n:=HO.ext λh=>..) -/
 |ext (φ:Heap->Prop)
abbrev Hp:=Addr->Option HO
def upd(H:Hp)(a:Addr)(o:HO):Hp:=λb=>if b=a then some o else H b
theorem upd_same{H:Hp}{a:Addr}{o:HO}:upd H a o a=some o:=by unfold upd;rw[Wm rfl]
theorem upd_ne{H:Hp}{a b:Addr}{o:HO}(h:b≠a):upd H a o b=H b:=by unfold upd;rw[Wr h]
theorem upd_upd:upd (upd H a o) a u=upd H a u:=by funext b;unfold upd;split<;>rfl
theorem ne_of{H:Hp}{a b:Addr}{o u:HO}(h:H a=some o)(h':H b=some u)(d:o≠u):a≠b:=by intro e;subst e;rw[h]at h';exact d (Wq h')
theorem ne_of_none{H:Hp}{a b:Addr}{o:HO}(h:H a=some o)(h':H b=none):a≠b:=by intro e;subst e;rw[h]at h';cases h'
def RecAt(H:Hp)(v:Value):Prop:=∃c o fs q t,v=.ref c/\H c=some (.frz o (.own c))/\o.data=.fields fs/\fs[1]?=some (.str q t)
section
variable(P:Program)(w:World)
def ObjOk(H:Hp)(h:Heap)(a:Addr):HO->Prop
 |.lst xs=>xs.length<=sizeLine/\∃(its:List Value) (n:Nat),Vals xs its/\h.get? a=some { cls:=.type "list",data:=.seq its.toArray n }
 |.tup xs=>xs.length<=sizeLine/\∃its:List Value,Vals xs its/\IsTup h a its.toArray
 |.dK kvs=>kvs.length<=sizeLine/\(a==sysModules)=false/\∃vs,KV kvs vs/\h.DictOf (mixKind P w) a vs
 |.dT kvs=>kvs.length<=sizeLine/\(a==sysModules)=false/\∃xs:List (List Key×Addr×Value),
   Paired (λ(p:List Key×V) (q:List Key×Addr×Value)=>p.1=q.1/\H q.2.1=some (.tup (p.1.map kV))/\RelV p.2 q.2.2) kvs xs /\
   ∃o es ep,h.get? a=some o/\o.ExactDict/\o.data=.dict es ep/\es.toList=xs.map (entryOfKey (tupleKind (mixKind P w)))/\(xs.map (·.1)).Nodup
 |.set S n=>h.SetOf (intKind P w) a S n
 |.ins C dx fs=>H dx=some (.own a)/\fs.length<=1000/\dx≠a/\h.get? a=some (PySem.W.instObj C dx) /\
   ∃mA,h.Ns1 dx mA/\(∀f,RelO (fs.lookup f) (mA f))/\PySem.Within mA (fs.map (·.1))
 |.own _=>∃o,h.get? a=some o
 |.xd fs=>∃mA,h.Ns1 a mA/\∀f,RelO (fs.lookup f) (mA f)
 |.rng lo hi=>∃t u v,h.get? a=some { cls:=.type "range",data:=.fields #[.int lo t,.int hi u,.int 1 v] }
 |.frz o u=>h.get? a=some o/\ObjOk H h a u
 |.tbl _=>∃ps:Array Value,h.get? a=some { cls:=.none,data:=.fields ps }/\TriplesOk ps.toList/\∀pos cv,codeAmong pos ps.toList=some cv->RecAt H cv
 |.met f x=>h.get? a=some (PySem.W.methodObj (.ref f) (.ref x))
 |.ext φ=>φ h/\(∃o,h.get? a=some o)/\∀h1 h2:Heap,φ h1->(∀o,h1.get? a=some o->h2.get? a=some o)->φ h2
def HOk(H:Hp)(h:Heap):Prop:=∀a o,H a=some o->ObjOk P w H h a o
end
section
variable{P:Program}{w:World}{H H':Hp}{h h':Heap}{a:Addr}{o:HO}
theorem ObjOk.lt(x:ObjOk P w H h a o):a<h.objs.size:=by
 cases o with
 |lst xs=>obtain⟨_,_,_,_,e⟩:=x;exact Wj e
 |tup xs=>obtain⟨_,_,_,p⟩:=x;exact p.lt
 |dK kvs=>obtain⟨_,_,_,_,o,_,_,e,_⟩:=x;exact Wj e
 |dT kvs=>obtain⟨_,_,_,_,o,_,_,e,_⟩:=x;exact Wj e
 |set S n=>obtain⟨o,_,_,_,e,_⟩:=x;exact Wj e
 |ins C dx fs=>obtain⟨_,_,_,e,_⟩:=x;exact Wj e
 |own y=>obtain⟨_,e⟩:=x;exact Wj e
 |xd fs=>obtain⟨_,⟨_,_,_,e,_⟩,_⟩:=x;exact Wj e
 |rng lo hi=>obtain⟨_,_,_,e⟩:=x;exact Wj e
 |frz ob u=>obtain⟨e,_⟩:=x;exact Wj e
 |tbl ps=>obtain⟨_,e,_⟩:=x;exact Wj e
 |met f y=>exact Wj (show h.get? a=some _ from x)
 |ext φ=>obtain⟨_,⟨_,e⟩,_⟩:=x;exact Wj e
theorem Paired.mapP:∀{l₁:List α}{l₂:List β},Paired F l₁ l₂->(∀a b,F a b->G a b)->Paired G l₁ l₂
 |_,_,.nil,_=>.nil
 |_,_,.cons r t,f=>.cons (f _ _ r) (Paired.mapP t f)
theorem ObjOk.stay(x:ObjOk P w H h a o)(k:∀ b u,(b=a\/H b=some (.own a))->h.get? b=some u->h'.get? b=some u)
  (ho:∀b,H b=some (.own a)->H' b=some (.own a)) (ht:∀b xs,H b=some (.tup xs)->H' b=some (.tup xs)) (hf:∀b o,H b=some (.frz o (.own b))->H' b=some (.frz o (.own b)):=by exact λs s q=>q):ObjOk P w H' h' a o:=by
 induction o with
 |lst xs=>obtain⟨z,its,n,r,e⟩:=x;exact⟨z,its,n,r,k _ _ (.inl rfl) e⟩
 |tup xs=>obtain⟨z,its,r,ob,e,c⟩:=x;exact⟨z,its,r,ob,k _ _ (.inl rfl) e,c⟩
 |dK kvs=>obtain⟨z,y,vs,r,ob,es,ep,e,c⟩:=x;exact⟨z,y,vs,r,ob,es,ep,k _ _ (.inl rfl) e,c⟩
 |dT kvs=>obtain⟨z,y,xs,r,ob,es,ep,e,c⟩:=x;exact⟨z,y,xs,Paired.mapP r λp q z=>⟨z.1,ht _ _ z.2.1,z.2.2⟩,ob,es,ep,k _ _ (.inl rfl) e,c⟩
 |set S n=>obtain⟨ob,es,ep,t,e,c⟩:=x;exact⟨ob,es,ep,t,k _ _ (.inl rfl) e,c⟩
 |ins C dx fs=>obtain⟨d,z,ne,e,mA,⟨od,es,ep,e2,c⟩,r⟩:=x;exact⟨ho _ d,z,ne,k _ _ (.inl rfl) e,mA,⟨od,es,ep,k _ _ (.inr d) e2,c⟩,r⟩
 |own y=>obtain⟨ob,e⟩:=x;exact⟨ob,k _ _ (.inl rfl) e⟩
 |xd fs=>obtain⟨mA,⟨od,es,ep,e,c⟩,r⟩:=x;exact⟨mA,⟨od,es,ep,k _ _ (.inl rfl) e,c⟩,r⟩
 |rng lo hi=>obtain⟨t,u,v,e⟩:=x;exact⟨t,u,v,k _ _ (.inl rfl) e⟩
 |frz ob u ih=>obtain⟨e,q⟩:=x;exact⟨k _ _ (.inl rfl) e,ih q⟩
 |tbl ps=>obtain⟨ps',e,z,r⟩:=x;exact⟨ps',k a _ (.inl rfl) e,z,λpos cv q=>let ⟨c,o,fs,q',t,g1,g2,g3⟩:=r pos cv q;⟨c,o,fs,q',t,g1,hf c o g2,g3⟩⟩
 |met f y=>have e:h.get? a=some (PySem.W.methodObj (.ref f) (.ref y)):=x;show h'.get? a=some (PySem.W.methodObj (.ref f) (.ref y));exact k a _ (.inl rfl) e
 |ext φ=>obtain⟨p,⟨o,e⟩,st⟩:=x;exact⟨st _ _ p λo q=>k _ _ (.inl rfl) q,⟨o,k _ _ (.inl rfl) e⟩,st⟩
theorem HOk.lt(x:HOk P w H h)(e:H a=some o):a<h.objs.size:=(x a o e).lt
theorem HOk.fresh(x:HOk P w H h)(e:h.objs.size<=a):H a=none:=by
 cases q:H a with
 |none=>rfl
 |some u=>exact absurd (Wo (x.lt q) e) (XQ _)
theorem HOk.kept(x:HOk P w H h)(k:∀b u,h.get? b=some u->h'.get? b=some u):HOk P w H h':=λa o e=>
 (x a o e).stay (λb u z q=>k b u q) (λz q=>q) λz z q=>q
theorem HOk.laid(x:HOk P w H h)(k:∀b u,h.get? b=some u->h'.get? b=some u)(hp:h.objs.size<=a)(new:ObjOk P w (upd H a o) h' a o):HOk P w (upd H a o) h':=λb u e=>by
 have hn:=x.fresh hp;by_cases hb:b=a
 ·subst hb;rw[upd_same]at e;cases e;exact new
 ·rw[upd_ne hb]at e;exact (x b u e).stay (λc v z q=>k c v q) (λc q=>by rw[upd_ne (ne_of_none q hn)];exact q) (λc xs q=>by rw[upd_ne (ne_of_none q hn)];exact q) λc o q=>by rw[upd_ne (ne_of_none q hn)];exact q
end
def Rd(H:Hp)(a:Addr)(u:HO):Prop:=H a=some u\/∃o,H a=some (.frz o u)
theorem Rd.ok(r:Rd H a u)(x:HOk P w H h):ObjOk P w H h a u:=by
 rcases r with r | ⟨o,r⟩
 ·exact x a u r
 ·obtain⟨_,q⟩:=x a _ r;exact q
def Mut:Option HO->Prop
 |some (.lst _)=>True
 |some (.dK _)=>True
 |some (.dT _)=>True
 |some (.set _ _)=>True
 |some (.ins _ _ _)=>True
 |some (.ext _)=>True
 |_=>False
section
variable{P:Program}{w:World}{H:Hp}{h h':Heap}{x e:Addr}{o':HO}
theorem HOk.write(ok:HOk P w H h)(mu:Mut (H x))(he:e=x\/H e=some (.own x))(k:∀ b u,b≠e->h.get? b=some u->h'.get? b=some u)(heo:∃ u,h'.get? e=some u)
  (new:ObjOk P w (upd H x o') h' x o'):HOk P w (upd H x o') h':=λb u q=>by
 have nown:∀c y,H c=some (.own y)->c≠x:=λc y r z=>by subst z;rw[r]at mu;exact mu
 have ntup:∀c xs,H c=some (.tup xs)->c≠x:=λc xs r z=>by subst z;rw[r]at mu;exact mu
 have nfrz:∀c o u,H c=some (.frz o u)->c≠x:=λc o u r z=>by subst z;rw[r]at mu;exact mu
 by_cases hb:b=x
 ·subst hb;rw[upd_same]at q;cases q;exact new
 ·rw [upd_ne hb]at q;by_cases hbe:b=e
  ·have q':H b=some (.own x):=by
    rcases he with z | z
    ·exact absurd (hbe.trans z) hb
    ·rw[hbe];exact z
   rw[q]at q';cases q';obtain⟨v,hv⟩:=heo;exact⟨v,by rw[hbe];exact hv⟩
  ·refine (ok b u q).stay (λc v hc r=>k c v ?_ r) (λc r=>by rw[upd_ne (nown c b r)];exact r) (λc xs r=>by rw[upd_ne (ntup c xs r)];exact r) λc o r=>by rw[upd_ne (nfrz c o _ r)];exact r
   rcases hc with rfl | hc
   ·exact hbe
   ·rintro rfl;rcases he with z | z
    ·exact nown c b hc z
    ·rw[hc]at z;cases z;exact hb rfl
end
structure Un(fs ex:List Addr)(H H':Hp)(h h':Heap):Prop where
 keep:∀b o,h.get? b=some o->H b=none->b∉fs->b∉ex->h'.get? b=some o
 slot:∀b o,h.get? b=some o->H b=none->b∈fs->b∉ex->∃sl,h'.get? b=some { o with slots:=sl }
 free:∀b o,h.get? b=some o->H b=none->b∉ex->H' b=none
 there:∀b o,h.get? b=some o->b∉ex->∃o',h'.get? b=some o'
 tups:∀b xs,H b=some (.tup xs)->H' b=some (.tup xs)
 frzs:∀b o u,H b=some (.frz o u)->H' b=some (.frz o u)
 tbls:∀b ps,H b=some (.tbl ps)->∃more,H' b=some (.tbl (ps++more))
section
variable{fs fs' ex ex':List Addr}{H H1 H2:Hp}{h h1 h2 h':Heap}{a x e:Addr}{o:HO}
theorem Un.any(u:Un fs ex H H1 h h1)(q:h.get? b=some ob)(n:H b=none)(hx:b∉ex):∃sl,h1.get? b=some { ob with slots:=sl }:=by
 by_cases hb:b∈fs
 ·exact u.slot b ob q n hb hx
 ·exact⟨ob.slots,u.keep b ob q n hb hx⟩
theorem Un.kept(k:∀b u,h.get? b=some u->h'.get? b=some u):Un fs ex H H h h':=
 ⟨λb ob q z z z=>k b ob q,λb ob q z z z=>⟨ob.slots,k b ob q⟩,λz z z n z=>n,λb ob q z=>⟨ob,k b ob q⟩,λz z q=>q,λz z z q=>q,λz ps q=>⟨#[],by rw[q];simp⟩⟩
theorem Un.refl:Un fs ex H H h h:=Un.kept λz z q=>q
theorem Un.laid(k:∀b u,h.get? b=some u->h'.get? b=some u)(hp:h.objs.size<=a)(hn:H a=none):Un fs ex H (upd H a o) h h' where
 keep:=λb u q z z z=>k b u q
 slot:=λb u q z z z=>⟨u.slots,k b u q⟩
 free:=λb u q n z=>by rw[upd_ne (Wu (Wo (Wj q) hp))];exact n
 there:=λb u q z=>⟨u,k b u q⟩
 tups:=λb xs q=>by rw[upd_ne (ne_of_none q hn)];exact q
 frzs:=λb u xs q=>by rw[upd_ne (ne_of_none q hn)];exact q
 tbls:=λb ps q=>⟨#[],by rw[upd_ne (ne_of_none q hn),q];simp⟩
theorem Un.write(mu:Mut (H x))(he:e=x\/H e=some (.own x))(k:∀b u,b≠e->h.get? b=some u->h'.get? b=some u)(heo:∃u,h'.get? e=some u):Un fs ex H (upd H x o) h h':=by
 have hx:∀b,H b=none->b≠x:=λb n z=>by subst z;rw[n]at mu;exact mu
 have hb:∀b,H b=none->b≠e:=λb n z=>by
  subst z;rcases he with r | r
  ·exact hx b n r
  ·rw[n]at r;cases r
 have hm:∀b u,H b=some u->¬ Mut (some u)->b≠x:=λb u q nm z=>by subst z;rw[q]at mu;exact nm mu
 refine⟨λb u q n y y=>k b u (hb b n) q,λb u q n y y=>⟨u.slots,k b u (hb b n) q⟩,λb u q n y=>by rw[upd_ne (hx b n)];exact n,λb u q y=>?_,
  λb xs q=>by rw[upd_ne (hm b _ q λz=>z)];exact q,λb u xs q=>by rw[upd_ne (hm b _ q λz=>z)];exact q,λb ps q=>⟨#[],by rw[upd_ne (hm b _ q λz=>z),q];simp⟩⟩
 by_cases hbe:b=e
 ·subst hbe;exact heo
 ·exact⟨u,k b u hbe q⟩
end
def trk(h:Heap)(H:Hp):List Addr:=(List.range h.objs.size).filter λa=>(H a).isSome
def hidT(h:Heap)(H:Hp):Heap:=PySem.W.hideAll h (trk h H)
theorem hidT_size(h:Heap)(H:Hp):(hidT h H).objs.size=h.objs.size:=PySem.W.hideAll_size _ _
theorem hidT_get(e:h.get? b=some o)(n:H b=none):(hidT h H).get? b=some o:=
 PySem.W.hideAll_get _ e λhm=>by have q:(H b).isSome=true:=(YH.mp hm).2;rw[n]at q;simp at q
theorem of_hidT(e:(hidT h H).get? b=some o):h.get? b=some o/\H b=none:=by
 have e':h.get? b=some o:=PySem.W.of_hideAll (trk h H) e;refine⟨e',?_⟩;cases q:H b with
 |none=>rfl
 |some x=>
   have hm:b∈trk h H:=YH.mpr ⟨Wt.mpr (Wj e'),by simp[q]⟩
   have z:(hidT h H).get? b=none:=PySem.W.hideAll_none (trk h H) hm;rw[z]at e;cases e
open PySem PySem.Spec PyProof.Rows
structure Mod(K:PySem.W.Frag)(mg:Str->Option Value)(base:Heap):Prop where
 kin:K.In base
 glob:base.Ns mainGlobals mg
 blt:∃mb,base.Ns builtinsNs mb/\∀x:Str,x≠"__name__"->mb x=bootBuiltins x
 nolimit:base.NoLimit
structure Cx where
 prog:Program
 w:World
 K:PySem.W.Frag
 mg:Str->Option Value
 base:Heap
 A:Around
 N:List Str
 s₀:Shared
 H₀:Hp
 env:Env
 outer:List Env
 stack:List Env
 ex:List Addr
 fn:Str->Bool
 calm:Bool
 pn:List (Addr×Obj)
 xe:Value->Shared->Prop
def frs(l:List Env):List Addr:=l.filterMap (·.frame)
abbrev Cx.fs(X:Cx):List Addr:=frs X.outer
def Vis(sc:Scope)(x:Str):Prop:=sc.names.lookup x=some .local\/sc.names.lookup x=some .cell\/sc.names.lookup x=some .free
def Loc(sc:Scope)(x:Str):Prop:=sc.names.lookup x=some .local\/sc.names.lookup x=some .cell
def Look(env:Env)(h:Heap)(m:Str->Option Value)(x:Str)(u:Value):Prop:=
 (env.kindOf x=some .local/\m x=some u)\/((env.kindOf x=some .cell\/env.kindOf x=some .free)/\∃c,env.cells.lookup x=some c/\h.IsCell c (some u))
structure Cx.Ok(X:Cx):Prop where
 mod:Mod X.K X.mg X.base
 kind:X.env.scope.kind=.function
 glob:X.env.globals=mainGlobals
 blt:X.env.builtins=builtinsNs
 above:X.s₀.heap.objs.size<=X.env.locals
 inj:∀x y c,X.env.cells.lookup x=some c->X.env.cells.lookup y=some c->x=y
 has:∀x,(X.env.kindOf x=some .cell\/X.env.kindOf x=some .free)->∃c,X.env.cells.lookup x=some c
 cab:∀x c,X.fn x=true->X.env.cells.lookup x=some c->X.s₀.heap.objs.size<=c
 hd:X.calm=true->X.A.handled=none
 frames:X.A.frames=some X.stack
 stk:X.stack=X.outer\/(X.stack=X.env::X.outer/\X.env.frame=some X.env.locals)
 exf:∀b∈X.ex,b≠X.env.locals/\∀x c,X.env.cells.lookup x=some c->c≠b
 bs:∀b o,X.base.get? b=some o->X.s₀.heap.get? b=some o/\X.H₀ b=none
 bsz:X.base.objs.size<=X.s₀.heap.objs.size
 noex:∀b o,X.base.get? b=some o->b∉X.ex
 exfs:∀b∈X.ex,b∉X.fs
 funs:X.s₀.heap.FunFrames X.base X.outer
 frf:∀b∈X.fs,X.H₀ b=none
structure Inv(X:Cx)(aaD:List (Addr×Obj))(σ:List (Option V))(H:Hp)(s:Shared):Prop where
 ok:X.Ok
 os:s.os=X.s₀.os
 bare:AllBare s.gens
 base:Un X.fs X.ex X.H₀ H X.s₀.heap s.heap
 loc:∃m,s.heap.Ns X.env.locals m/\∀(i:Nat) (x:Str) (v:V),X.N[i]?=some x->σ[i]?=some (some v)->Vis X.env.scope x->∃u,RelV v u/\Look X.env s.heap m x u
 cell:∀x c,X.env.cells.lookup x=some c->∃v,s.heap.IsCell c v
 free:H X.env.locals=none
 freeC:∀x c,X.env.cells.lookup x=some c->H c=none
 pin:∀p∈X.pn++aaD,s.heap.get? p.1=some p.2/\H p.1=none/\p.1≠X.env.locals/\p.1∉X.fs/\∀v,p.2.data≠.cell v
 hok:HOk X.prog X.w H s.heap
 len:σ.length=X.N.length
section
variable{X:Cx}{aaD:List (Addr×Obj)}{σ:List (Option V)}{H H':Hp}{s:Shared}{h':Heap}
theorem Cx.Ok.nofr(ok:X.Ok)(e:X.base.get? b=some o):b∉X.fs:=λhb=>by have:=(ok.funs.mem hb).1;rw[e]at this;cases this
theorem Inv.bs(I:Inv X aaD σ H s):∀b o,X.base.get? b=some o->s.heap.get? b=some o/\H b=none:=λb o e=>
 ⟨I.base.keep b o (I.ok.bs b o e).1 (I.ok.bs b o e).2 (I.ok.nofr e) (I.ok.noex b o e),I.base.free b o (I.ok.bs b o e).1 (I.ok.bs b o e).2 (I.ok.noex b o e)⟩
theorem Inv.bk(I:Inv X aaD σ H s):∀b o,X.base.get? b=some o->s.heap.get? b=some o:=λb o e=>(I.bs b o e).1
theorem Inv.mod(I:Inv X aaD σ H s):Mod X.K X.mg X.base:=I.ok.mod
theorem Inv.kIn(I:Inv X aaD σ H s):X.K.In s.heap:=I.ok.mod.kin.keeps I.bk
theorem Inv.lt(I:Inv X aaD σ H s):X.env.locals<s.heap.objs.size:=let ⟨_,hn,_⟩:=I.loc;hn.lt
theorem Inv.sz(I:Inv X aaD σ H s):X.s₀.heap.objs.size<=s.heap.objs.size:=Xm I.ok.above (Yr I.lt)
theorem Inv.nofs(I:Inv X aaD σ H s)(h:s.heap.objs.size<=a):a∉X.fs:=λhb=>by obtain⟨_,o,ho,_⟩:=I.ok.funs.mem hb;exact absurd (Wo (Wj ho) (Xm I.sz h)) (XQ _)
theorem Inv.cne(I:Inv X aaD σ H s):∀x c,X.env.cells.lookup x=some c->c≠X.env.locals:=λx c e z=>by obtain⟨v,o,ho,hd⟩:=I.cell x c e;obtain⟨m,⟨o',es,ep,ho',hd',_⟩,_⟩:=I.loc;rw[z,ho']at ho;cases ho;rw[hd']at hd;cases hd
theorem Inv.funs(I:Inv X aaD σ H s):s.heap.FunFrames X.base X.outer:=by
 have all:∀ (l:List Env),(∀ b∈frs l,b∈X.fs)->X.s₀.heap.FunFrames X.base l->s.heap.FunFrames X.base l:=by
  intro l;induction l with
  |nil=>intro _ _;trivial
  |cons env r ih=>
    intro hs hl;obtain⟨hk,⟨L,o,hf,hn,ho,hd⟩,hr⟩:=hl;have hL:L∈X.fs:=hs L (by unfold frs;rw[Zq,hf];exact Xg)
    obtain⟨sl,e⟩:=I.base.slot L o ho (I.ok.frf L hL) hL λz=>I.ok.exfs L z hL
    exact⟨hk,⟨L,_,hf,hn,e,hd⟩,ih (λb hb=>hs b (by unfold frs;rw[Zq,hf];exact W4 _ hb)) hr⟩
 exact all X.outer (λy hb=>hb) I.ok.funs
theorem Inv.stack(I:Inv X aaD σ H s):s.heap.FunFrames X.base X.stack:=by
 rcases I.ok.stk with e | ⟨e,hf⟩
 ·rw[e];exact I.funs
 ·rw[e];obtain⟨m,hn,_⟩:=I.loc;refine .cons (by rw[I.ok.kind];decide) hf hn ?_ I.funs
  exact Heap.get?_none_of_le (Xm I.ok.bsz I.ok.above)
theorem Inv.stkSub(I:Inv X aaD σ H s):∀b∈frs X.stack,b∈X.env.locals::X.fs:=λb hb=>by
 rcases I.ok.stk with e | ⟨e,hf⟩
 ·rw[e]at hb;exact W4 _ hb
 ·rw[e]at hb;unfold frs at hb;rw[Zq,hf]at hb;exact hb
theorem Inv.stkFree(I:Inv X aaD σ H s):∀b∈frs X.stack,H b=none:=λb hb=>by
 rcases Wy.mp (I.stkSub b hb) with e | hb
 ·rw[e];exact I.free
 ·obtain⟨_,o,ho,_⟩:=I.ok.funs.mem hb;exact I.base.free b o ho (I.ok.frf b hb) λz=>I.ok.exfs b z hb
theorem Inv.step{g':Array GenState}{t':Nat}{ch:List Addr}(I:Inv X aaD σ H s)
  (hch:∀b∈ch,(b∈X.ex\/X.s₀.heap.objs.size<=b)/\b≠X.env.locals/\(∀x c,X.env.cells.lookup x=some c->c≠b)/\∀p∈X.pn++aaD,p.1≠b)
  (keep:∀b o,b≠X.env.locals->b∉X.fs->b∉ch->s.heap.get? b=some o->H b=none->h'.get? b=some o)
  (slot:∀b o,b≠X.env.locals->b∈X.fs->b∉ch->s.heap.get? b=some o->H b=none->∃sl,h'.get? b=some { o with slots:=sl }) (free:∀b o,b∉ch->s.heap.get? b=some o->H b=none->H' b=none)
  (there:∀b o,b∉ch->s.heap.get? b=some o->∃o',h'.get? b=some o')
  (tups:∀b xs,H b=some (.tup xs)->H' b=some (.tup xs)) (frzs:∀b o u,H b=some (.frz o u)->H' b=some (.frz o u)) (tbls:∀b ps,H b=some (.tbl ps)->∃more,H' b=some (.tbl (ps++more)))
  (ns:∀m,s.heap.Ns X.env.locals m->h'.Ns X.env.locals m) (hok:HOk X.prog X.w H' h') (hg:AllBare g') :
  Inv X aaD σ H' { s with heap:=h',gens:=g',drawn:=d',toks:=t' }:=by
 have neL:∀b o,X.s₀.heap.get? b=some o->b≠X.env.locals:=λb o e=>Wu (Wo (Wj e) I.ok.above)
 have neC:∀b o,X.s₀.heap.get? b=some o->b∉X.ex->b∉ch:=λb o e hx hb=>by
  rcases (hch b hb).1 with z | z
  ·exact hx z
  ·exact absurd (Wo (Wj e) z) (XQ _)
 have cellK:∀x c,X.env.cells.lookup x=some c->∀v,s.heap.IsCell c v->h'.IsCell c v:=λx c e v ⟨o,ho,hd⟩=>by
  have nch:c∉ch:=λz=>(hch c z).2.2.1 x c e rfl
  by_cases hc:c∈X.fs
  ·obtain⟨sl,q⟩:=slot c o (I.cne x c e) hc nch ho (I.freeC x c e);exact⟨_,q,hd⟩
  ·exact⟨o,keep c o (I.cne x c e) hc nch ho (I.freeC x c e),hd⟩
 refine⟨I.ok,I.os,hg,⟨λb o e n hb hx=>?_,λb o e n hb hx=>?_,λb o e n hx=>?_,λb o e hx=>?_,λb xs e=>tups b xs (I.base.tups b xs e),λb o xs e=>frzs b o xs (I.base.frzs b o xs e),λb ps e=>?_⟩,?_,λx c e=>?_,?_,λx c e=>?_,λp hp=>?_,hok,I.len⟩
 ·exact keep b o (neL b o e) hb (neC b o e hx) (I.base.keep b o e n hb hx) (I.base.free b o e n hx)
 ·obtain⟨sl,e1⟩:=I.base.slot b o e n hb hx;obtain⟨sl',e2⟩:=slot b _ (neL b o e) hb (neC b o e hx) e1 (I.base.free b o e n hx);exact⟨sl',e2⟩
 ·obtain⟨o',e1⟩:=I.base.there b o e hx;exact free b o' (neC b o e hx) e1 (I.base.free b o e n hx)
 ·obtain⟨o',e1⟩:=I.base.there b o e hx;exact there b o' (neC b o e hx) e1
 ·obtain⟨m1,e1⟩:=I.base.tbls b ps e;obtain⟨m2,e2⟩:=tbls b _ e1;exact⟨m1++m2,by rw[e2,Array.append_assoc]⟩
 ·obtain⟨m,hn,hl⟩:=I.loc;refine⟨m,ns m hn,λi x v e1 e2 e3=>?_⟩
  obtain⟨u,r,l⟩:=hl i x v e1 e2 e3;refine⟨u,r,?_⟩;rcases l with l | ⟨k,c,e,z⟩
  ·exact .inl l
  ·exact .inr ⟨k,c,e,cellK x c e _ z⟩
 ·obtain⟨v,z⟩:=I.cell x c e;exact⟨v,cellK x c e v z⟩
 ·obtain⟨m,⟨o,_,_,ho,_⟩,_⟩:=I.loc;exact free _ o (λz=>(hch _ z).2.1 rfl) ho I.free
 ·obtain⟨v,o,ho,hd⟩:=I.cell x c e;exact free c o (λz=>(hch c z).2.2.1 x c e rfl) ho (I.freeC x c e)
 ·obtain⟨e,n,ne,nf,d⟩:=I.pin p hp;have nch:p.1∉ch:=λz=>(hch p.1 z).2.2.2 p hp rfl
  exact⟨keep p.1 p.2 ne nf nch e n,free p.1 p.2 nch e n,ne,nf,d⟩
theorem Inv.un{t':Nat}(I:Inv X aaD σ H s)(u:Un X.fs [] H H' s.heap h')(hok:HOk X.prog X.w H' h'):Inv X aaD σ H' { s with heap:=h',toks:=t' }:=by
 obtain⟨m,⟨o,es,ep,ho,r⟩,_⟩:=id I.loc;obtain⟨sl,hL⟩:=u.any ho I.free (by simp)
 exact I.step (g':=s.gens) (d':=s.drawn) (ch:=[]) (λy z=>nomatch z) (λb o y hb y e n=>u.keep b o e n hb (by simp)) (λb o y hb y e n=>u.slot b o e n hb (by simp)) (λb o y e n=>u.free b o e n (by simp)) (λb o y e=>u.there b o e (by simp)) u.tups u.frzs u.tbls (λm' hm=>by obtain⟨o',es',ep',ho',r'⟩:=hm;rw[ho]at ho';cases ho';exact⟨_,es',ep',hL,r'⟩) hok I.bare
theorem Inv.call{g':Array GenState}{t':Nat}{ch:List Addr}(I:Inv X aaD σ H s)(u:Un (frs X.stack) ch H H' s.heap h')(hok:HOk X.prog X.w H' h')(hg:AllBare g')
  (hch:∀b∈ch,(b∈X.ex\/X.s₀.heap.objs.size<=b)/\b≠X.env.locals/\(∀x c,X.env.cells.lookup x=some c->c≠b)/\∀p∈X.pn++aaD,p.1≠b) :
  Inv X aaD σ H' { s with heap:=h',gens:=g',drawn:=d',toks:=t' }:=by
 obtain⟨m,⟨o,es,ep,ho,r⟩,_⟩:=id I.loc;obtain⟨sl,hL⟩:=u.any ho I.free λz=>(hch _ z).2.1 rfl
 exact I.step (ch:=ch) hch (λb o hL hb hc e n=>u.keep b o e n (λz=>(Wy.mp (I.stkSub b z)).elim hL hb) hc) (λb o y y hc e n=>u.any e n hc) (λb o hc e n=>u.free b o e n hc) (λb o hc e=>u.there b o e hc) u.tups u.frzs u.tbls (λm' hm=>by obtain⟨o',es',ep',ho',r'⟩:=hm;rw[ho]at ho';cases ho';exact⟨_,es',ep',hL,r'⟩) hok hg
theorem Inv.turned{t':Nat}(I:Inv X aaD σ H s)(k:∀b o,b≠it->s.heap.get? b=some o->h'.get? b=some o)(hn:H it=none)(hL:it≠X.env.locals)
  (h1:it∈X.ex\/X.s₀.heap.objs.size<=it) (h2:∀x c,X.env.cells.lookup x=some c->c≠it) (h3:∀p∈X.pn++aaD,p.1≠it):Inv X aaD σ H { s with heap:=h',toks:=t' }:=by
 have nit:∀b u,H b=some u->b≠it:=λb u e z=>by rw[z,hn]at e;cases e
 refine I.step (g':=s.gens) (d':=s.drawn) (ch:=[it]) (λb hb=>?_) (λb o y y hc e y=>k b o (λz=>hc (by simp[z])) e) (λb o y y hc e y=>⟨o.slots,k b o (λz=>hc (by simp[z])) e⟩) (λy y y y n=>n)
  (λb o hc e=>⟨o,k b o (λz=>hc (by simp[z])) e⟩) (λy y e=>e) (λy y y e=>e) (λb ps e=>⟨#[],by rw[e];simp⟩) (λm hm=>?_) (λb u e=>?_) I.bare
 ·have e:b=it:=by simpa using hb
  subst e;exact⟨h1,hL,h2,h3⟩
 ·obtain⟨o,es,ep,ho,r⟩:=hm;exact⟨o,es,ep,k _ o (Ne.symm hL) ho,r⟩
 ·refine (I.hok b u e).stay (λc v hc q=>k c v ?_ q) (λy q=>q) λy y q=>q
  rcases hc with z | z
  ·rw[z];exact nit b u e
  ·exact nit c _ z
theorem Inv.tok(I:Inv X aaD σ H s)(t:Nat):Inv X aaD σ H { s with toks:=t }:=I.un (h':=s.heap) (t':=t) Un.refl I.hok
theorem Inv.kept(I:Inv X aaD σ H s)(k:∀b u,s.heap.get? b=some u->h'.get? b=some u):Inv X aaD σ H { s with heap:=h',toks:=t' }:=I.un (Un.kept k) (I.hok.kept k)
theorem Inv.laid(I:Inv X aaD σ H s)(k:∀b u,s.heap.get? b=some u->h'.get? b=some u)(hp:s.heap.objs.size<=a)(new:ObjOk X.prog X.w (upd H a o) h' a o):
  Inv X aaD σ (upd H a o) { s with heap:=h',toks:=t' }:=I.un (Un.laid k hp (I.hok.fresh hp)) (I.hok.laid k hp new)
theorem Inv.write(I:Inv X aaD σ H s)(mu:Mut (H x))(he:e=x\/H e=some (.own x))(k:∀b u,b≠e->s.heap.get? b=some u->h'.get? b=some u)(heo:∃u,h'.get? e=some u)
  (new:ObjOk X.prog X.w (upd H x o) h' x o):Inv X aaD σ (upd H x o) { s with heap:=h',toks:=t' }:=I.un (Un.write mu he k heo) (I.hok.write mu he k heo new)
theorem Inv.pins_of(I:Inv X aaD σ H s)(h:∀p∈pins',s.heap.get? p.1=some p.2/\H p.1=none/\p.1≠X.env.locals/\p.1∉X.fs/\∀v,p.2.data≠.cell v):Inv X pins' σ H s:=
 ⟨I.ok,I.os,I.bare,I.base,I.loc,I.cell,I.free,I.freeC,λp hp=>(W5.mp hp).elim (λz=>I.pin p (Zj _ z)) (h p),I.hok,I.len⟩
theorem nodup_ix{N:List Str}(hN:N.Nodup){i j:Nat}(a:N[i]?=some x)(b:N[j]?=some x):i=j:=by obtain⟨h1,e1⟩:=Wf.mp a;obtain⟨h2,e2⟩:=Wf.mp b;exact (List.getElem_inj hN).mp (e1.trans e2.symm)
theorem store_ok2{E:Value->Shared->Prop}{i:Nat}{Q:Unit->Shared->Prop}(I:Inv X aaD σ H s)(hN:X.N.Nodup)(hi:X.N[i]?=some x)(hx:Loc X.env.scope x)(r:RelV v u)
  (h:∀s',Inv X aaD (σ.set i (some v)) H s'->(∃a,Heap.SameBut a s.heap s'.heap/\(a=X.env.locals\/X.env.cells.lookup x=some a))->Q () s') (hf:X.fn x=true\/X.env.scope.names.lookup x=some .local:=by first | exact .inl rfl | exact .inr rfl | assumption):wpAny M A (storeName X.env x u) Q E s:=by
 obtain⟨m,hn,hl⟩:=id I.loc;have hcls:(X.env.scope.kind==.class || (X.env.scope.kind==.module&&X.env.locals != X.env.globals))=false:=by rw[I.ok.kind];rfl
 have hiσ:i<σ.length:=by rw[I.len];exact (Wf.mp hi).1
 have cne:=I.cne;have tracked:∀{a:Addr}{h':Heap},(∃o,s.heap.get? a=some o/\H a=none)->Heap.SameBut a s.heap h'->HOk X.prog X.w H h':=λ{a h'} ha hs b ob e=>by
  obtain⟨_,_,hfree⟩:=ha;refine (I.hok b ob e).stay (λc w' hc q=>(hs.2 c ?_).trans q) (λt q=>q) λt t q=>q
  rintro rfl;rcases hc with rfl | hc
  ·rw[hfree]at e;cases e
  ·rw[hfree]at hc;cases hc
 rcases hx with hk | hk
 ·refine wpAny_storeName_local hk hn (λh' hn' hs=>?_) hcls
  obtain⟨oL,_,_,hoL,_⟩:=id hn;refine h _ ⟨I.ok,I.os,I.bare,⟨λb o e n hb hx=>?_,λb o e n hb hx=>?_,I.base.free,λb o e hx=>?_,I.base.tups,I.base.frzs,I.base.tbls⟩,⟨_,hn',λj y v' e1 e2 e3=>?_⟩,λy c e=>?_,I.free,I.freeC,λp hp=>?_,tracked ⟨oL,hoL,I.free⟩ hs,by simpa using I.len⟩ ⟨_,hs,.inl rfl⟩
  ·exact (hs.2 b (Wu (Wo (Wj e) I.ok.above))).trans (I.base.keep b o e n hb hx)
  ·obtain⟨sl,e1⟩:=I.base.slot b o e n hb hx;exact⟨sl,(hs.2 b (Wu (Wo (Wj e) I.ok.above))).trans e1⟩
  ·obtain⟨o',e1⟩:=I.base.there b o e hx;exact⟨o',(hs.2 b (Wu (Wo (Wj e) I.ok.above))).trans e1⟩
  ·by_cases hj:j=i
   ·subst hj;rw[hi]at e1;cases e1;rw[WR hiσ]at e2;cases e2;exact⟨u,r,.inl ⟨hk,by simp⟩⟩
   ·rw[Xh (Ne.symm hj)]at e2;obtain⟨u',r',q⟩:=hl j y v' e1 e2 e3;refine⟨u',r',?_⟩;rcases q with ⟨k,e⟩ | ⟨k,c,e,z⟩
    ·refine .inl ⟨k,?_⟩;have:y≠x:=λe=>hj (nodup_ix hN e1 (e ▸ hi))
     simp[this,e]
    ·exact .inr ⟨k,c,e,z.sameBut hs (cne y c e)⟩
  ·obtain⟨w',z⟩:=I.cell y c e;exact⟨w',z.sameBut hs (cne y c e)⟩
  ·obtain⟨e,n,ne,nf,d⟩:=I.pin p hp;exact⟨(hs.2 p.1 ne).trans e,n,ne,nf,d⟩
 ·have hfn:X.fn x=true:=by
   rcases hf with z | z
   ·exact z
   ·rw[z]at hk;cases hk
  obtain⟨c,hc⟩:=I.ok.has x (.inl hk);obtain⟨w',z⟩:=I.cell x c hc;refine wpAny_storeName_cell I.ok.kind hk hc z (λh' hc' hs=>?_)
  obtain⟨oc,hoc,hocd⟩:=id z;refine h { s with heap:=h' } ⟨I.ok,I.os,I.bare,⟨λb o e n hb hx=>?_,λb o e n hb hx=>?_,I.base.free,λb o e hx=>?_,I.base.tups,I.base.frzs,I.base.tbls⟩,⟨m,hn.sameBut hs (Ne.symm (cne x c hc)),λj y v' e1 e2 e3=>?_⟩,λy c' e=>?_,I.free,I.freeC,λp hp=>?_,tracked ⟨oc,hoc,I.freeC x c hc⟩ hs,by simpa using I.len⟩ ⟨c,hs,.inr hc⟩
  ·exact (hs.2 b (Wu (Wo (Wj e) (I.ok.cab x c hfn hc)))).trans (I.base.keep b o e n hb hx)
  ·obtain⟨sl,e1⟩:=I.base.slot b o e n hb hx;exact⟨sl,(hs.2 b (Wu (Wo (Wj e) (I.ok.cab x c hfn hc)))).trans e1⟩
  ·obtain⟨o',e1⟩:=I.base.there b o e hx;exact⟨o',(hs.2 b (Wu (Wo (Wj e) (I.ok.cab x c hfn hc)))).trans e1⟩
  ·by_cases hj:j=i
   ·subst hj;rw[hi]at e1;cases e1;rw[WR hiσ]at e2;cases e2;exact⟨u,r,.inr ⟨.inl hk,c,hc,hc'⟩⟩
   ·rw[Xh (Ne.symm hj)]at e2;obtain⟨u',r',q⟩:=hl j y v' e1 e2 e3;refine⟨u',r',?_⟩;rcases q with q | ⟨k,c',e,z'⟩
    ·exact .inl q
    ·refine .inr ⟨k,c',e,z'.sameBut hs ?_⟩;rintro rfl;exact hj (nodup_ix hN e1 (I.ok.inj _ _ _ e hc ▸ hi))
  ·by_cases hcc:c'=c
   ·subst hcc;exact⟨_,hc'⟩
   ·obtain⟨w2,z2⟩:=I.cell y c' e;exact⟨w2,z2.sameBut hs hcc⟩
  ·obtain⟨e,n,ne,nf,d⟩:=I.pin p hp;refine⟨(hs.2 p.1 ?_).trans e,n,ne,nf,d⟩;intro q;rw[q,hoc]at e;have q':oc=p.2:=Wq e;exact d w' (by rw[<-q'];exact hocd)
theorem store_ok(I:Inv X aaD σ H s)(hN:X.N.Nodup)(hi:X.N[i]?=some x)(hx:Loc X.env.scope x)(r:RelV v u)
  (h:∀s',Inv X aaD (σ.set i (some v)) H s'->Q () s') (hf:X.fn x=true\/X.env.scope.names.lookup x=some .local:=by first | exact .inl rfl | exact .inr rfl | assumption):wpAny M A (storeName X.env x u) Q E s:=
 store_ok2 I hN hi hx r (λs' I' z=>h s' I') hf
theorem Inv.call'(I:Inv X aaD σ H s)(ho:s'.os=s.os)(u:Un (frs X.stack) ch H H' s.heap s'.heap)(hok:HOk X.prog X.w H' s'.heap)(hg:AllBare s'.gens)
  (hch:∀b∈ch,(b∈X.ex\/X.s₀.heap.objs.size<=b)/\b≠X.env.locals/\(∀x c,X.env.cells.lookup x=some c->c≠b)/\∀p∈X.pn++aaD,p.1≠b):Inv X aaD σ H' s':=by
 obtain⟨h',g',d',t',o'⟩:=s';have e:o'=s.os:=ho;subst e;exact I.call (g':=g') (t':=t') (d':=d') u hok hg hch
end
abbrev XK:=Value->Option Addr->Hp->Prop
abbrev St:=List (Option V)
abbrev VK:=V->Hp->Prop
abbrev TE:=St->Hp->VK->Prop
abbrev TT:=St->Hp->(Bool->Hp->Prop)->Prop
abbrev TA:=St->Hp->(List V->Hp->Prop)->Prop
structure Ends where
 nx:St->Hp->Prop
 rt:VK
 bk:St->Hp->Prop:=λ_ _=>False
 ct:St->Hp->Prop:=λ_ _=>False
abbrev TS:=Ends->St->Hp->Prop
def EP(X:Cx)(aaD:List (Addr×Obj))(σ:St)(Q:VK)(u:Value)(s':Shared):Prop:=∃v H',Inv X aaD σ H' s'/\RelV v u/\Q v H'
def TP(X:Cx)(aaD:List (Addr×Obj))(σ:St)(Q:Bool->Hp->Prop)(b:Bool)(s':Shared):Prop:=∃H',Inv X aaD σ H' s'/\Q b H'
def AP(X:Cx)(aaD:List (Addr×Obj))(σ:St)(Q:List V->Hp->Prop)(us:List Value)(s':Shared):Prop:=∃vs H',Inv X aaD σ H' s'/\Vals vs us/\Q vs H'
def SP(X:Cx)(aaD:List (Addr×Obj))(D:Ends)(f:Flow)(s':Shared):Prop:=
 match f with
 |.next=>∃σ' H',Inv X aaD σ' H' s'/\D.nx σ' H'
 |.brk=>∃σ' H',Inv X aaD σ' H' s'/\D.bk σ' H'
 |.cont=>∃σ' H',Inv X aaD σ' H' s'/\D.ct σ' H'
 |.ret u=>∃v σ' H',Inv X aaD σ' H' s'/\RelV v u/\D.rt v H'
def PE(X:Cx)(e:Expr)(t:TE):Prop:=
 ∀(aaD:List (Addr×Obj)) (s:Shared) (σ:St) (H:Hp) (Q:VK),Inv X aaD σ H s->t σ H Q->wpAny (model X.prog X.w) X.A (eval e X.env) (EP X aaD σ Q) X.xe s
def PT(X:Cx)(e:Expr)(t:TT):Prop:=
 ∀(aaD:List (Addr×Obj)) (s:Shared) (σ:St) (H:Hp) (Q:Bool->Hp->Prop),Inv X aaD σ H s->t σ H Q->wpAny (model X.prog X.w) X.A (isTrue e X.env (eval e X.env)) (TP X aaD σ Q) X.xe s
def PW(X:Cx)(e:Expr)(t:TT):Prop:=
 ∀(whole:Sem Value) (aaD:List (Addr×Obj)) (s:Shared) (σ:St) (H:Hp) (Q:Bool->Hp->Prop),Inv X aaD σ H s->t σ H Q->wpAny (model X.prog X.w) X.A (isTrue e X.env whole) (TP X aaD σ Q) X.xe s
theorem PW.pt(h:PW X e t):PT X e t:=h _
def PA(X:Cx)(es:List Expr)(t:TA):Prop:=
 ∀(pos:Pos) (aaD:List (Addr×Obj)) (s:Shared) (σ:St) (H:Hp) (Q:List V->Hp->Prop),Inv X aaD σ H s->t σ H Q->wpAny (model X.prog X.w) X.A (spliced (backTo pos (starEach es X.env))) (AP X aaD σ Q) X.xe s
def PS(X:Cx)(st:Stmt)(t:TS):Prop:=
 ∀(aaD:List (Addr×Obj)) (s:Shared) (σ:St) (H:Hp) (D:Ends),Inv X aaD σ H s->t D σ H->wpAny (model X.prog X.w) X.A (exec st X.env) (SP X aaD D) X.xe s
def PSs(X:Cx)(st:List Stmt)(t:TS):Prop:=
 ∀(aaD:List (Addr×Obj)) (s:Shared) (σ:St) (H:Hp) (D:Ends),Inv X aaD σ H s->t D σ H->wpAny (model X.prog X.w) X.A (execs st X.env) (SP X aaD D) X.xe s
theorem thn(h:wpAny M A t Q E s)(hQ:∀a s,Q a s->Q' a s):wpAny M A t Q' E s:=Wx h hQ λz z x=>x
open PySem PySem.Spec PyProof.Rows
section
variable{X:Cx}
theorem bin(ha:PE X a ta)(hb:PE X b tb){aaD:List (Addr×Obj)}{R:V->V->Hp->Prop}(I:Inv X aaD σ H s)(h:ta σ H λx H1=>tb σ H1 λy H2=>R x y H2)
  {α:Type}{Q:α->Shared->Prop}{f:Value->Value->Sem α}
  (hf:∀v u s2 x y H2,Inv X aaD σ H2 s2->RelV x v->RelV y u->R x y H2->wpAny (model X.prog X.w) X.A (f v u) Q X.xe s2) :
  wpAny (model X.prog X.w) X.A (eval a X.env) (λv s₁=>wpAny (model X.prog X.w) X.A (eval b X.env) (λu s₂=>wpAny (model X.prog X.w) X.A (f v u) Q X.xe s₂) X.xe s₁) X.xe s:=by
 refine thn (ha aaD s σ H _ I h) λv s1 ⟨x,H1,I1,r1,q1⟩=>?_
 refine thn (hb aaD s1 σ H1 _ I1 q1) λu s2 ⟨y,H2,I2,r2,q2⟩=>?_
 exact hf v u s2 x y H2 I2 r1 r2 q2
def tVar(i:Nat):TE:=λσ H Q=>∃v,σ[i]?=some (some v)/\Q v H
def tC(v:V):TE:=λz H Q=>Q v H
theorem pe_var(hN:X.N[i]?=some x)(hv:Vis X.env.scope x)(hd:(x==("__debug__":Str))=false:=by decide)(hcd:(x==("__classdict__":Str))=false:=by decide):PE X (.Name x pos) (tVar i):=by
 intro aaD s σ H Q I h;obtain⟨v,e,h⟩:=h;obtain⟨m,hn,hl⟩:=I.loc;obtain⟨u,r,l⟩:=hl i x v hN e hv;have fin:EP X aaD σ Q u s:=⟨v,H,I,r,h⟩;rcases l with ⟨hk,hm⟩ | ⟨hk,c,hc,hcell⟩
 ·exact wpAny_Name (wpAny_loadName_local I.ok.kind hk hn hm fin) hd
 ·rcases hk with hk | hk
  ·exact wpAny_Name (wpAny_loadName_cell I.ok.kind hk hc hcell fin) hd
  ·exact wpAny_Name (wpAny_loadName_free I.ok.kind hk hc hcell fin hcd) hd
theorem pe_int{i j pos}:PE X (.Constant (.int i) j pos) (tC (.int i)):=λz z z H z I h=>wpAny_Constant_int ⟨.int i,H,I.tok _,⟨_,rfl⟩,h⟩
theorem pe_bl{b j pos}:PE X (.Constant (.bool b) j pos) (tC (.bl b)):=λz z z H z I h=>Constant_bool ⟨.bl b,H,I,rfl,h⟩
def Gl(X:Cx)(x:Str):Prop:=X.env.kindOf x=some .globalImplicit
theorem ld_glob(I:Inv X aaD σ H s)(hg:Gl X x)(hm:X.mg x=some u)(h:Q u s)
  (hd:(x==("__debug__":Str))=false:=by decide):wpAny (model X.prog X.w) X.A (eval (.Name x pos) X.env) Q E s:=
 Calls.Name_function_global I.ok.kind hg (Calls.loadGlobal_global (by rw[I.ok.glob];exact I.mod.glob.keeps I.bk) hm h) hd
theorem ld_blt(I:Inv X aaD σ H s)(hg:Gl X x)(hm:X.mg x=none)(hv:bootBuiltins x=some u)(h:Q u s)
  (hn:x≠"__name__":=by decide) (hd:(x==("__debug__":Str))=false:=by decide):wpAny (model X.prog X.w) X.A (eval (.Name x pos) X.env) Q E s:=by
 obtain⟨mb,h1,h2⟩:=I.mod.blt;exact Calls.Name_function_global I.ok.kind hg (Calls.loadGlobal_builtin (by rw[I.ok.glob];exact I.mod.glob.keeps I.bk) hm (by rw[I.ok.blt];exact h1.keeps I.bk) ((h2 x hn).trans hv) h) hd
theorem pe_glob(hg:Gl X x)(hm:X.mg x=some u)(r:RelV v u)(hd:(x==("__debug__":Str))=false:=by decide):PE X (.Name x pos) (tC v):=
 λz z z H z I h=>ld_glob I hg hm ⟨v,H,I,r,h⟩ hd
theorem pe_bltn(hg:Gl X x)(hm:X.mg x=none)(hv:bootBuiltins x=some u)(r:RelV v u)(hn:x≠"__name__":=by decide)(hd:(x==("__debug__":Str))=false:=by decide):PE X (.Name x pos) (tC v):=
 λz z z H z I h=>ld_blt I hg hm hv ⟨v,H,I,r,h⟩ hn hd
variable{a b:Expr}{ta tb:TE}{pos:Pos}
variable{tA tB':TT}{rest:List Expr}
def tAnd(t u:TT):TT:=λσ H Q=>t σ H λc H1=>if c=true then u σ H1 Q else Q false H1
def tOr(t u:TT):TT:=λσ H Q=>t σ H λc H1=>if c=true then Q true H1 else u σ H1 Q
def tNot(t:TT):TT:=λσ H Q=>t σ H λc H1=>Q (!c) H1
theorem pw_and1(ha:PT X a tA):PW X (.BoolOp .And [a] pos) tA:=by
 intro wh aaD s σ H Q I h;refine isTrue_and (thn (ha aaD s σ H Q I h) λc s1 e=>?_)
 cases c with
 |true=>exact isTrue_and_nil e
 |false=>exact e
theorem pw_or1(ha:PT X a tA):PW X (.BoolOp .Or [a] pos) tA:=by
 intro wh aaD s σ H Q I h;refine isTrue_or (thn (ha aaD s σ H Q I h) λc s1 e=>?_)
 cases c with
 |false=>exact isTrue_or_nil e
 |true=>exact e
theorem pw_and(ha:PT X a tA)(hb:PW X (.BoolOp .And (b::rest) pos) tB'):PW X (.BoolOp .And (a::b::rest) pos) (tAnd tA tB'):=by
 intro wh aaD s σ H Q I h;refine isTrue_and (thn (ha aaD s σ H _ I h) λc s1 ⟨H1,I1,q1⟩=>?_)
 cases c with
 |true=>exact hb wh aaD s1 σ H1 Q I1 q1
 |false=>exact⟨H1,I1,q1⟩
theorem pw_or(ha:PT X a tA)(hb:PW X (.BoolOp .Or (b::rest) pos) tB'):PW X (.BoolOp .Or (a::b::rest) pos) (tOr tA tB'):=by
 intro wh aaD s σ H Q I h;refine isTrue_or (thn (ha aaD s σ H _ I h) λc s1 ⟨H1,I1,q1⟩=>?_)
 cases c with
 |true=>exact⟨H1,I1,q1⟩
 |false=>exact hb wh aaD s1 σ H1 Q I1 q1
theorem pt_not(ha:PT X a tA):PT X (.UnaryOp .Not a pos) (tNot tA):=by intro aaD s σ H Q I h;exact isTrue_not (ha aaD s σ H (λc H1=>Q (!c) H1) I h)
def tAndV(ta tb:TE):TE:=λσ H Q=>ta σ H λx H1=>∃c,x=.bl c/\if c=true then tb σ H1 Q else Q (.bl false) H1
def tNotV(ta:TE):TE:=λσ H Q=>ta σ H λx H1=>∃c,x=.bl c/\Q (.bl (!c)) H1
theorem pe_one{op}(h:PE X a t):PE X (.BoolOp op [a] pos) t:=λaaD s σ H Q I hw=>BoolOp_one (h aaD s σ H Q I hw)
theorem pe_and(ha:PE X a ta)(hb:PE X (.BoolOp .And (b::rest) pos) tb):PE X (.BoolOp .And (a::b::rest) pos) (tAndV ta tb):=by
 intro aaD s σ H Q I h;refine BoolOp_and (thn (ha aaD s σ H _ I h) λv s1 ⟨x,H1,I1,r1,q1⟩=>?_)
 obtain⟨c,rfl,q1⟩:=q1;cases r1;refine X7 ?_;cases c with
 |true=>exact hb aaD s1 σ H1 Q I1 q1
 |false=>exact⟨.bl false,H1,I1,rfl,q1⟩
theorem pe_not(ha:PE X a ta):PE X (.UnaryOp .Not a pos) (tNotV ta):=by
 intro aaD s σ H Q I h;refine UnaryOp_ (thn (ha aaD s σ H _ I h) λv s1 ⟨x,H1,I1,r1,q1⟩=>?_)
 obtain⟨c,rfl,q1⟩:=q1;cases r1;exact not_of (X7 ⟨.bl (!c),H1,I1,rfl,q1⟩)
def tIf(t:TT)(ta tb:TE):TE:=λσ H Q=>t σ H λc H1=>if c=true then ta σ H1 Q else tb σ H1 Q
theorem pe_ifExp(hc:PT X c tA)(ha:PE X a ta)(hb:PE X b tb):PE X (.IfExp c a b pos) (tIf tA ta tb):=by
 intro aaD s σ H Q I h;refine wpAny_IfExp (thn (hc aaD s σ H _ I h) λd s1 ⟨H1,I1,q1⟩=>?_)
 cases d with
 |true=>exact ha aaD s1 σ H1 Q I1 q1
 |false=>exact hb aaD s1 σ H1 Q I1 q1
end
open PySem PySem.Spec PyProof.Rows
def SqL(K:PySem.W.Frag)(H:Hp)(a:Addr)(xs:List V):Prop:=
 Rd H a (.lst xs) \/
  ∃(o:Obj) (its:Array Value) (n:Nat),K.lookup a=some o/\o.cls=.type "list"/\o.dict=none/\o.data=.seq its n/\its.size<=sizeLine/\Vals xs its.toList
def SqT(K:PySem.W.Frag)(H:Hp)(a:Addr)(xs:List V):Prop:=
 Rd H a (.tup xs) \/
  ∃(o:Obj) (its:Array Value) (n:Nat),K.lookup a=some o/\o.cls=.type "tuple"/\o.data=.seq its n/\its.size<=sizeLine/\Vals xs its.toList
def absV:Value->Option V
 |.none=>some .non
 |.bool b=>some (.bl b)
 |.int i _=>some (.int i)
 |.str x _=>some (.str x)
 |.bytes b _=>some (.byt b)
 |.float b _=>some (.flt b)
 |.ref a=>some (.ref a)
 |.type n=>some (.ty n)
 |_=>none
theorem RelV.abs(r:RelV x u):absV u=some x:=by
 cases x with
 |non=>cases r;rfl
 |bl _=>cases r;rfl
 |int _=>obtain⟨t,rfl⟩:=r;rfl
 |str _=>obtain⟨t,rfl⟩:=r;rfl
 |byt _=>obtain⟨t,rfl⟩:=r;rfl
 |flt _=>obtain⟨t,rfl⟩:=r;rfl
 |ref _=>cases r;rfl
 |ty _=>cases r;rfl
theorem RelV.inj(r:RelV x u)(q:RelV y u):x=y:=Wq (r.abs.symm.trans q.abs)
theorem Vals.inj:∀{xs ys:List V}{us:List Value},Vals xs us->Vals ys us->xs=ys
 |_,_,_,.nil,.nil=>rfl
 |_,_,_,.cons r t,.cons r' t'=>by rw[r.inj r',Vals.inj t t']
section
variable{X:Cx}{aaD:List (Addr×Obj)}{σ:St}{H:Hp}{s:Shared}{a:Addr}{xs ys:List V}
theorem SqL.of{K:PySem.W.Frag}(h:H a=some (.lst xs)):SqL K H a xs:=.inl (.inl h)
theorem SqT.of{K:PySem.W.Frag}(h:H a=some (.tup xs)):SqT K H a xs:=.inl (.inl h)
theorem Inv.list(I:Inv X aaD σ H s)(h:SqL X.K H a xs):∃its:List Value,Vals xs its/\PlainL s.heap a its.toArray/\xs.length<=sizeLine:=by
 rcases h with h | ⟨o,its,n,hk,hc,hd,hs,hz,r⟩
 ·obtain⟨z,its,n,r,e⟩:=h.ok I.hok;exact⟨its,r,⟨_,n,e,rfl,rfl,rfl⟩,z⟩
 ·refine⟨its.toList,r,⟨o,n,I.kIn a o hk,hc,hd,by simpa using hs⟩,?_⟩
  have e:=r.length;simp only[Array.length_toList]at e;omega
theorem Inv.tuple(I:Inv X aaD σ H s)(h:SqT X.K H a xs):∃its:List Value,Vals xs its/\IsTup s.heap a its.toArray/\xs.length<=sizeLine:=by
 rcases h with h | ⟨o,its,n,hk,hc,hs,hz,r⟩
 ·obtain⟨z,its,r,p⟩:=h.ok I.hok;exact⟨its,r,p,z⟩
 ·refine⟨its.toList,r,⟨o,I.kIn a o hk,hc,n,by simpa using hs⟩,?_⟩
  have e:=r.length;simp only[Array.length_toList]at e;omega
theorem Inv.list_inj(I:Inv X aaD σ H s)(h:SqL X.K H a xs)(h':SqL X.K H a ys):xs=ys:=by
 obtain⟨its,r,⟨o,n,e,_,_,d⟩,_⟩:=I.list h;obtain⟨its',r',⟨o',n',e',_,_,d'⟩,_⟩:=I.list h';rw[e]at e';cases e';rw[d]at d';injection d' with d1 _
 have:its=its':=by simpa using congrArg Array.toList d1
 subst this;exact r.inj r'
theorem Inv.tuple_inj(I:Inv X aaD σ H s)(h:SqT X.K H a xs)(h':SqT X.K H a ys):xs=ys:=by
 obtain⟨its,r,⟨o,e,_,n,d⟩,_⟩:=I.tuple h;obtain⟨its',r',⟨o',e',_,n',d'⟩,_⟩:=I.tuple h';rw[e]at e';cases e';rw[d]at d';injection d' with d1 _
 have:its=its':=by simpa using congrArg Array.toList d1
 subst this;exact r.inj r'
end
section
variable{X:Cx}{st:Stmt}{rest:List Stmt}{t u:TS}{e:Expr}{te:TE}{pos:Pos}
def tNext:TS:=λD σ H=>D.nx σ H
def tSeq(t u:TS):TS:=λD σ H=>t { D with nx:=u D } σ H
theorem pss_nil:PSs X [] tNext:=λ_ _ σ H _ I h=>Z7 ⟨σ,H,I,h⟩
theorem pss_cons(h1:PS X st t)(h2:PSs X rest u):PSs X (st::rest) (tSeq t u):=by
 intro aaD s σ H D I h;refine wpAny_execs_cons (thn (h1 aaD s σ H { D with nx:=u D } I h) λf s1 q=>?_)
 cases f with
 |next=>obtain⟨σ',H',I',q⟩:=q;exact h2 aaD s1 σ' H' D I' q
 |ret v=>exact q
 |brk=>exact q
 |cont=>exact q
theorem pss_one(h1:PS X st t):PSs X [st] t:=by
 intro aaD s σ H D I h;refine wpAny_execs_cons (thn (h1 aaD s σ H D I h) λf s1 q=>?_)
 cases f with
 |next=>exact Z7 q
 |ret v=>exact q
 |brk=>exact q
 |cont=>exact q
theorem Inv.quiet(I:Inv X aaD σ H s):interactive X.env=false:=by simp[interactive,I.ok.kind]
def tDrop(te:TE):TS:=λD σ H=>te σ H λz H1=>D.nx σ H1
theorem ps_expr(he:PE X e te)(hs:swapsWith e none pos.line X.env=pure false:=by rfl):PS X (.Expr e pos) (tDrop te):=by intro aaD s σ H D I h;exact wpAny_Expr_any (thn (he aaD s σ H _ I h) λv s1 ⟨x,H1,I1,r1,q1⟩=>⟨σ,H1,I1,q1⟩) I.quiet hs
def tRet(te:TE):TS:=λD σ H=>te σ H D.rt
theorem ps_ret(he:PE X e te):PS X (.Return (some e) pos) (tRet te):=by intro aaD s σ H D I h;exact wpAny_Return_some (thn (he aaD s σ H _ I h) λv s1 ⟨x,H1,I1,r1,q1⟩=>⟨x,σ,H1,I1,r1,q1⟩)
def tIfS(c:TT)(t u:TS):TS:=λD σ H=>c σ H λb H1=>if b=true then t D σ H1 else u D σ H1
theorem ps_if(hc:PT X c tc)(ha:PSs X a t)(hb:PSs X b u):PS X (.If c a b pos) (tIfS tc t u):=by
 intro aaD s σ H D I h;refine wpAny_If (thn (hc aaD s σ H _ I h) λd s1 ⟨H1,I1,q1⟩=>?_)
 cases d with
 |true=>exact ha aaD s1 σ H1 D I1 q1
 |false=>exact hb aaD s1 σ H1 D I1 q1
end
abbrev TG:=V->St->Hp->(St->Hp->Prop)->Prop
abbrev TGs:=List V->St->Hp->(St->Hp->Prop)->Prop
def PG(X:Cx)(target:Expr)(t:TG):Prop:=
 ∀(aaD:List (Addr×Obj)) (s:Shared) (σ:St) (H:Hp) (v:V) (u:Value) (Q:St->Hp->Prop),Inv X aaD σ H s->RelV v u->t v σ H Q->
   wpAny (model X.prog X.w) X.A (assign target X.env u) (λz s'=>∃σ' H',Inv X aaD σ' H' s'/\Q σ' H') X.xe s
def PGs(X:Cx)(ts:List Expr)(t:TGs):Prop:=
 ∀(aaD:List (Addr×Obj)) (s:Shared) (σ:St) (H:Hp) (vs:List V) (us:List Value) (Q:St->Hp->Prop),Inv X aaD σ H s->Vals vs us->t vs σ H Q->
   wpAny (model X.prog X.w) X.A (assignInOrder ((assignEach ts X.env).map (·.2)) us) (λz s'=>∃σ' H',Inv X aaD σ' H' s'/\Q σ' H') X.xe s
abbrev TSet:=V->V->V->Hp->(Hp->Prop)->Prop
def PSet(X:Cx)(t:TSet):Prop:=
 ∀(aaD:List (Addr×Obj)) (s:Shared) (σ:St) (H:Hp) (o i v:V) (ov iv u:Value) (Q:Hp->Prop),Inv X aaD σ H s->RelV o ov->RelV i iv->RelV v u->t o i v H Q->
   wpAny (model X.prog X.w) X.A (setItem ov iv u) (λz s'=>∃H',Inv X aaD σ H' s'/\Q H') X.xe s
abbrev TIp:=V->V->Hp->VK->Prop
def PIp(X:Cx)(op:Operator)(t:TIp):Prop:=
 ∀(aaD:List (Addr×Obj)) (s:Shared) (σ:St) (H:Hp) (x y:V) (v u:Value) (Q:VK),Inv X aaD σ H s->RelV x v->RelV y u->t x y H Q->
   wpAny (model X.prog X.w) X.A (inplaceOp op v u) (EP X aaD σ Q) X.xe s
section
variable{X:Cx}{pos:Pos}
def gName(i:Nat):TG:=λv σ H Q=>Q (σ.set i (some v)) H
theorem pg_name(hN:X.N.Nodup)(hi:X.N[i]?=some x)(hx:Loc X.env.scope x)(hf:X.fn x=true\/X.env.scope.names.lookup x=some .local:=by first | exact .inl rfl | exact .inr rfl | assumption):PG X (.Name x pos) (gName i):=by intro aaD s σ H v u Q I r h;exact wpAny_assign_Name (store_ok I hN hi hx r (λs' I'=>⟨_,H,I',h⟩) hf)
def gNil:TGs:=λvs σ H Q=>vs=[]/\Q σ H
def gCons(t:TG)(u:TGs):TGs:=λvs σ H Q=>∃v r,vs=v::r/\t v σ H λσ' H'=>u r σ' H' Q
theorem pgs_nil:PGs X [] gNil:=by intro aaD s σ H vs us Q I r h;obtain⟨e,h⟩:=h;subst e;cases r;exact assignInOrder_nil ⟨σ,H,I,h⟩
theorem pgs_cons(h1:PG X e t)(h2:PGs X es u)
  (hs:(assignEach (e::es) X.env).map (·.2)=assign e X.env::(assignEach es X.env).map (·.2):=by rfl):PGs X (e::es) (gCons t u):=by
 intro aaD s σ H vs us Q I r h;obtain⟨v,vr,e1,h⟩:=h;subst e1;cases r with
 |cons r rr=>
   rw[hs];refine aag (thn (h1 aaD s σ H _ _ _ I r h) λ_ s1 ⟨σ1,H1,I1,q1⟩=>?_)
   exact h2 aaD s1 σ1 H1 _ _ Q I1 rr q1
def gTup(K:PySem.W.Frag)(n:Nat)(t:TGs):TG:=λv σ H Q=>∃a xs,v=.ref a/\SqT K H a xs/\xs.length=n/\t xs σ H Q
theorem pg_tup(hc:X.calm=true)(h:PGs X es t)
  (hn:(assignEach es X.env).length=n:=by rfl) (hst:(assignEach es X.env).findIdx? (·.1)=none:=by rfl):PG X (.Tuple es k pos) (gTup X.K n t):=by
 intro aaD s σ H v u Q I r hw;obtain⟨a,xs,e1,hq,hl,hw⟩:=hw;subst e1;cases r;obtain⟨its,rv,ht,hz⟩:=I.tuple hq;refine assign_Tuple_tuple (I.ok.hd hc) ht (by simp[hn,<-hl,rv.length]) hst λh' hx=>?_
 have I1:Inv X aaD σ H { s with heap:=h' }:=I.kept (t':=s.toks) λb o e=>hx b o (Wu (Wj e)) e
 exact h aaD _ σ H xs _ Q I1 (by simpa using rv) hw
def gSub(to ti:TE)(t:TSet):TG:=λv σ H Q=>to σ H λo H1=>ti σ H1 λi H2=>t o i v H2 λH3=>Q σ H3
theorem pg_sub(ho:PE X o to)(hi:PE X i ti)(hs:PSet X t)
  (ha:∀v,assign (.Subscript o i pos) X.env v=(do
    let ov <-holding [v] (eval o X.env)
    let iv <-holding [v,ov] (eval i X.env)
    standAt pos
    holding [v,ov,iv] (setItem ov iv v)
    release [v,ov,iv] []):=by intro _;rfl):PG X (.Subscript o i pos) (gSub to ti t):=by
 intro aaD s σ H v u Q I r h;rw[ha];refine Wc (Xj (thn (ho aaD s σ H _ I h) λov s1 ⟨x,H1,I1,r1,q1⟩=>?_))
 refine Wc (Xj (thn (hi aaD s1 σ H1 _ I1 q1) λiv s2 ⟨y,H2,I2,r2,q2⟩=>?_))
 refine Wc (Yw (Wc (Xj (thn (hs aaD s2 σ H2 x y v ov iv u _ I2 r1 r2 r q2) λ_ s3 ⟨H3,I3,q3⟩=>?_))))
 exact wpAny_release ⟨σ,H3,I3,q3⟩
def tAsg(te:TE)(g:TG):TS:=λD σ H=>te σ H λx H1=>g x σ H1 D.nx
theorem ps_asg(he:PE X e te)(hg:PG X tg g)(hs:swapsWithSole [tg] e pos.line X.env=pure false:=by rfl)(hw:swappedStores [tg] e X.env=pure none:=by rfl)
  (h1:(assignEach [tg] X.env).map (·.2)=[assign tg X.env]:=by rfl):PS X (.Assign [tg] e pos) (tAsg te g):=by
 intro aaD s σ H D I h;refine wpAny_Assign_stores (thn (he aaD s σ H _ I h) λv s1 ⟨x,H1,I1,r1,q1⟩=>?_) hs hw
 rw[h1];exact thn (hg aaD s1 σ H1 x v _ I1 r1 q1) λz s2 q=>q
theorem ps_set(hN:X.N.Nodup)(hi:X.N[i]?=some x)(hx:Loc X.env.scope x)(he:PE X e te)(hs:swapsWith e (some (.Name x pos')) pos.line X.env=pure false:=by rfl)(hf:X.fn x=true\/X.env.scope.names.lookup x=some .local:=by first | exact .inl rfl | exact .inr rfl | assumption):
  PS X (.Assign [.Name x pos'] e pos) (tAsg te (gName i)):=by
 intro aaD s σ H D I h;refine wpAny_Assign_Name (thn (he aaD s σ H _ I h) λv s1 ⟨y,H1,I1,r1,q1⟩=>?_) hs
 exact store_ok I1 hN hi hx r1 (λs2 I2=>⟨_,H1,I2,q1⟩) hf
def tPar(i j:Nat)(ta:TA):TS:=λD σ H=>ta σ H λvs H1=>∃v w,vs=[v,w]/\D.nx ((σ.set i (some v)).set j (some w)) H1
theorem ps_par{kt k2 pt2}(hc:X.calm=true)(hN:X.N.Nodup)(hi:X.N[i]?=some x)(hj:X.N[j]?=some y)(hij:i≠j)
  (hx:X.env.scope.names.lookup x=some .local) (hy:X.env.scope.names.lookup y=some .local) (ha:PA X [a,b] ta)
  (hw:swappedStores [.Tuple [.Name x px,.Name y py] kt pt] (.Tuple [a,b] k2 pt2) X.env=pure (some [x,y]))
  (hs:swapsWithSole [.Tuple [.Name x px,.Name y py] kt pt] (.Tuple [a,b] k2 pt2) pos.line X.env=pure false:=by rfl) :
  PS X (.Assign [.Tuple [.Name x px,.Name y py] kt pt] (.Tuple [a,b] k2 pt2) pos) (tPar i j ta):=by
 intro aaD s σ H D I h;rw[exec_Assign_arm];refine Wc (Yw ?_);rw[hs];refine Wc (We ?_);rw[Wr (by decide)]
 refine Wc (Tuple_ (thn (ha _ aaD s σ H _ I h) λus s1 ⟨vs,H1,I1,r1,q1⟩=>?_))
 obtain⟨v,w,e1,q1⟩:=q1;subst e1;obtain ⟨u1,u2,rfl,rv,rw'⟩:∃ u1 u2,us=[u1,u2]/\RelV v u1/\RelV w u2:=by
  cases r1 with
  | cons p q=>
    cases q with
    |cons p' q'=>cases q';exact⟨_,_,rfl,p,p'⟩
 refine WW ?_ (by show 2<=sizeLine;decide)
 have I2:Inv X aaD σ H1 { s1 with heap:=s1.heap.push { cls:=.type "tuple",data:=.seq [u1,u2].toArray } }:=I1.kept (t':=s1.toks) λb o e=>Wd _ e
 rw[hw];refine Wc (We ?_);show wpAny (model X.prog X.w) X.A (do rule "assign.swapped-stores";let items <-unpackItems (.ref s1.heap.objs.size) 2 none;assignInOrder [λv=>bindName X.env y v,λv=>bindName X.env x v] items.reverse;pure Flow.next) _ _ _
 refine Wc (YM (Wc (unpackItems_tuple (items:=#[u1,u2]) (I.ok.hd hc) (aau s1.heap _) λh' hx'=>?_)))
 have I3:=I2.kept (h':=h') (t':=s1.toks) λb o e=>hx' b o (Wu (Wj e)) e
 show wpAny _ _ (assignInOrder [λv=>bindName X.env y v,λv=>bindName X.env x v] [u2,u1]>>=λz=>pure Flow.next) _ _ _
 refine Wc (aag (wpAny_bindName (store_ok I3 hN hj (.inl hy) rw' (λs2 I4=>?_) (.inr hy))))
 refine aag (wpAny_bindName (store_ok I4 hN hi (.inl hx) rv (λs3 I5=>assignInOrder_nil (We ?_)) (.inr hx)))
 rw[List.set_comm _ _ (Ne.symm hij)]at I5;exact⟨_,H1,I5,q1⟩
def tAugS(to ti te:TE)(tget:V->V->Hp->VK->Prop)(tip:TIp)(tset:TSet):TS:=λD σ H=>to σ H λo H1=>ti σ H1 λi H2=>tget o i H2 λx H3=>te σ H3 λy H4=>tip x y H4 λz H5=>tset o i z H5 λH6=>D.nx σ H6
def PGet(X:Cx)(t:V->V->Hp->VK->Prop):Prop:=
 ∀(aaD:List (Addr×Obj)) (s:Shared) (σ:St) (H:Hp) (o i:V) (ov iv:Value) (Q:VK),Inv X aaD σ H s->RelV o ov->RelV i iv->t o i H Q->
   wpAny (model X.prog X.w) X.A (getItem ov iv) (EP X aaD σ Q) X.xe s
theorem ps_augS(ho:PE X o to)(hi:PE X i ti)(hg:PGet X tget)(he:PE X e te)(hp:PIp X op tip)(hs:PSet X tset)
  (ha:∀ov iv new,augStore i ov iv new=(do holding [new,ov,iv] (setItem ov iv new);release [new,ov,iv] [];pure .next):=by intros;rfl):PS X (.AugAssign (.Subscript o i tpos) op e pos) (tAugS to ti te tget tip tset):=by
 intro aaD s σ H D I h;refine wpAny_AugAssign_SubscriptAny (thn (ho aaD s σ H _ I h) λov s1 ⟨x1,H1,I1,r1,q1⟩=>?_) ha
 refine thn (hi aaD s1 σ H1 _ I1 q1) λiv s2 ⟨x2,H2,I2,r2,q2⟩=>?_
 refine thn (hg aaD s2 σ H2 x1 x2 ov iv _ I2 r1 r2 q2) λold s3 ⟨x3,H3,I3,r3,q3⟩=>?_
 refine thn (he aaD s3 σ H3 _ I3 q3) λv s4 ⟨x4,H4,I4,r4,q4⟩=>?_
 refine thn (hp aaD s4 σ H4 x3 x4 old v _ I4 r3 r4 q4) λnew s5 ⟨x5,H5,I5,r5,q5⟩=>?_
 exact thn (hs aaD s5 σ H5 x1 x2 x5 ov iv new _ I5 r1 r2 r5 q5) λ_ s6 ⟨H6,I6,q6⟩=>⟨σ,H6,I6,q6⟩
end
section
variable{X:Cx}{pos:Pos}
def tWhile(c:TT)(tb:TS):TS:=λD σ H=>∃W:Nat->St->Hp->Prop,(∃m,W m σ H)/\∀m σ H,W m σ H->
 c σ H λb H1=>if b=true then ∃N:St->Hp->Prop,(∀σ' H',N σ' H'->∃m',m'<m/\W m' σ' H')/\tb { D with nx:=N,ct:=N,bk:=D.nx } σ H1 else D.nx σ H1
theorem ps_while(hp:PassesOwn (model X.prog X.w) X.A X.env X.xe)(hc:PT X c tc)(hb:PSs X body tb):PS X (.While c body [] pos) (tWhile tc tb):=by
 intro aaD s σ H D I h;obtain⟨W,⟨m0,w0⟩,turn⟩:=h;refine wpAny_While (codeAny_whileLoop (λn s'=>∃σ' H',Inv X aaD σ' H' s'/\W n σ' H') ?_ m0 ⟨σ,H,I,w0⟩)
 rintro n s1 ⟨σ1,H1,I1,w1⟩;refine YJ hp (thn (hc aaD s1 σ1 H1 _ I1 (turn n σ1 H1 w1)) λb s2 ⟨H2,I2,q2⟩=>?_)
 cases b with
 | true=>
   obtain⟨N,hN,q2⟩:=q2;rw[Wm rfl];refine YJ hp (thn (hb aaD s2 σ1 H2 _ I2 q2) λf s3 q3=>?_)
   cases f with
   |next=>obtain⟨σ3,H3,I3,n3⟩:=q3;obtain⟨m',hm,w3⟩:=hN σ3 H3 n3;exact⟨m',hm,σ3,H3,I3,w3⟩
   |cont=>obtain⟨σ3,H3,I3,n3⟩:=q3;obtain⟨m',hm,w3⟩:=hN σ3 H3 n3;exact⟨m',hm,σ3,H3,I3,w3⟩
   |brk=>exact q3
   |ret v=>exact q3
 |false=>rw[Wr WL];exact Z7 ⟨σ1,H2,I2,q2⟩
end
structure It where
 go:Nat->Hp->Prop
 yld:Nat->Hp->V->Hp->Prop
 stop:Nat->Hp->Prop
def FpOk(X:Cx)(aaD:List (Addr×Obj))(H:Hp)(b:Addr):Prop:=
 H b=none/\b≠X.env.locals/\b∉X.fs/\(b∈X.ex\/X.s₀.heap.objs.size<=b)/\(∀x c,X.env.cells.lookup x=some c->c≠b)/\∀p∈X.pn++aaD,p.1≠b
theorem Inv.fpOk(I:Inv X aaD σ H s)(hb:s.heap.objs.size<=b)(hn:H' b=none):FpOk X aaD H' b:=by
 refine⟨hn,YT (Wo I.lt hb),I.nofs hb,.inr (Xm I.sz hb),λx c e z=>?_,λp hp z=>?_⟩
 ·obtain⟨v,q⟩:=I.cell x c e;exact absurd (Wo q.lt (by rw[z];exact hb)) (XQ _)
 ·exact absurd (Wo (Wj (I.pin p hp).1) (by rw[z];exact hb)) (XQ _)
structure Turn(P:Program)(w:World)(K:PySem.W.Frag)(tg:Expr)(J:It)(fp:List Addr)(it:Addr)(tn:Nat->Heap->Prop):Prop where
 mem:it∈fp
 obj:∀i h,tn i h->∀b∈fp,∃o,h.get? b=some o/\∀v,o.data≠.cell v
 keep:∀i h h',tn i h->(∀b∈fp,∀o,h.get? b=some o->h'.get? b=some o)->tn i h'
 item:∀(X:Cx),X.prog=P->X.w=w->X.K=K->X.calm=true->∀(i:Nat) (aaD:List (Addr×Obj)) (s:Shared) (σ:St) (H:Hp) (E:Value->Shared->Prop),Inv X aaD σ H s->(∀b∈fp,FpOk X aaD H b)->tn i s.heap->J.go i H->
  wpAny (model P w) X.A (pyNext (.ref it)) (λr s1=>∃u,r=some u /\
   wpAny (model P w) X.A (letOwnedTupleGo tg (.ref it) u) (λ_ s2=>∃x H',Inv X aaD σ H' s2/\RelV x u/\J.yld i H x H'/\tn (i+1) s2.heap/\∀b∈fp,H' b=none) E s1) E s
 done:∀(X:Cx),X.prog=P->X.w=w->X.K=K->X.calm=true->∀(i:Nat) (aaD:List (Addr×Obj)) (s:Shared) (σ:St) (H:Hp) (E:Value->Shared->Prop),Inv X aaD σ H s->(∀b∈fp,FpOk X aaD H b)->tn i s.heap->J.stop i H->
  wpAny (model P w) X.A (pyNext (.ref it)) (λr s1=>r=none/\Inv X aaD σ H s1) E s
 self:∀(A:Around) (i:Nat) (s:Shared) (Q:Value->Shared->Prop) (E:Value->Shared->Prop),tn i s.heap->Q (.ref it) s->wpAny (model P w) A (pyIter (.ref it)) Q E s
abbrev TI:=St->Hp->(It->Hp->Prop)->Prop
def PIE(X:Cx)(aaD:List (Addr×Obj))(σ:St)(tg:Expr)(R:It->Hp->Prop)(itv:Value)(s2:Shared):Prop:=
 ∃(it:Addr) (fp:List Addr) (tn:Nat->Heap->Prop) (J:It) (H':Hp),itv=.ref it/\Inv X aaD σ H' s2/\Turn X.prog X.w X.K tg J fp it tn/\tn 0 s2.heap/\(∀b∈fp,FpOk X aaD H' b)/\R J H'
def PI(X:Cx)(tg iter:Expr)(wi:TI):Prop:=
 ∀(aaD:List (Addr×Obj)) (s:Shared) (σ:St) (H:Hp) (R:It->Hp->Prop),Inv X aaD σ H s->wi σ H R->
   wpAny (model X.prog X.w) X.A (eval iter X.env) (λv s1=>wpAny (model X.prog X.w) X.A (pyIter v) (PIE X aaD σ tg R) X.xe s1) X.xe s
theorem go_of(ho:s.heap.get? it=some o)(hc:o.cls=.type n)(hd:o.data=.fields vs)
  (hn:["enumerate", "zip", "dict_itemiterator", "dict_reverseitemiterator", "odict_iterator", "itertools.zip_longest", "itertools.pairwise"].contains n=false) (hQ:Q () s):wpAny M A (letOwnedTupleGo tg (.ref it) u) Q E s:=by
 unfold letOwnedTupleGo;cases tg<;>first
  |exact We hQ
  | (cases u<;>first
      |exact We hQ
      | (refine wpAny_bind (wpAny_load ho ?_)
         rw[hc,hd];show wpAny M A (if (["enumerate", "zip", "dict_itemiterator", "dict_reverseitemiterator", "odict_iterator", "itertools.zip_longest", "itertools.pairwise"].contains n&&vs[0]?==some (rawInt _))=true then _ else _) Q E s
         rw[Wr (by intro h;rw[hn,Bool.false_and]at h;cases h)]
         exact We hQ))
def Itl(K:PySem.W.Frag)(a:Addr):It:=
 ⟨λi H=>∃xs x,SqL K H a xs/\xs[i]?=some x,λi H x H'=>H'=H/\∀xs,SqL K H a xs->xs[i]?=some x,λi H=>∃xs,SqL K H a xs/\xs.length<=i⟩
def Itt(K:PySem.W.Frag)(a:Addr):It:=
 ⟨λi H=>∃xs x,SqT K H a xs/\xs[i]?=some x,λi H x H'=>H'=H/\∀xs,SqT K H a xs->xs[i]?=some x,λi H=>∃xs,SqT K H a xs/\xs.length<=i⟩
def Itr(lo:Int)(n:Nat):It:=⟨λi z=>i<n,λi H x H'=>H'=H/\x=.int (lo+i),λi z=>n<=i⟩
theorem turn_list{P:Program}{w:World}{K:PySem.W.Frag}{tg:Expr}(a it:Addr):Turn P w K tg (Itl K a) [it] it (λi h=>h.IsListIter it a i) where
 mem:=by simp
 obj:=λi h st b hb=>by
  have e:b=it:=by simpa using hb
  subst e;obtain⟨o,e,c,d⟩:=st;exact⟨o,e,λv z=>by rw[d]at z;cases z⟩
 keep:=λi h h' st k=>st.at λo e=>k it (by simp) o e
 item:=by
  intro X hP hw hK hc i aaD s σ H E I hf st hg;subst hP hw hK;obtain⟨xs,x,hq,hx⟩:=hg;obtain⟨its,rv,p,hz⟩:=I.list hq;obtain⟨u,hu,ru⟩:=rv.get hx;obtain⟨f0,f1,f2,f3,f4,f5⟩:=hf it (by simp)
  refine wpAny_pyNext_list_item st p.isList (x:=u) (by simpa using hu) λh' st' sb=>?_
  have I1:Inv X aaD σ H { s with heap:=h' }:=I.turned (t':=s.toks) (λb o hb e=>(sb.2 b hb).trans e) f0 f1 f3 f4 f5
  obtain⟨o,e,c,d⟩:=id st';exact⟨u,rfl,go_of (s:={ s with heap:=h' }) e c d (by decide) ⟨x,H,I1,ru,⟨rfl,λys hy=>by rw[I.list_inj hy hq];exact hx⟩,st',λb hb=>(hf b hb).1⟩⟩
 done:=by
  intro X hP hw hK hc i aaD s σ H E I hf st hg;subst hP hw hK;obtain⟨xs,hq,hx⟩:=hg;obtain⟨its,rv,p,hz⟩:=I.list hq;obtain⟨f0,f1,f2,f3,f4,f5⟩:=hf it (by simp)
  have hl:=rv.length;exact wpAny_pyNext_list_end (I.ok.hd hc) st p.isList (by simp;omega) λh' eb=>⟨rfl,I.turned (t':=s.toks) (λb o hb e=>eb b o hb e) f0 f1 f3 f4 f5⟩
 self:=λy y y y y st h=>wpAny_pyIter_listiter st h
theorem turn_tuple{P:Program}{w:World}{K:PySem.W.Frag}{tg:Expr}(a it:Addr):Turn P w K tg (Itt K a) [it] it (λi h=>h.IsTupleIter it a i) where
 mem:=by simp
 obj:=λi h st b hb=>by
  have e:b=it:=by simpa using hb
  subst e;obtain⟨o,e,c,d⟩:=st;exact⟨o,e,λv z=>by rw[d]at z;cases z⟩
 keep:=λi h h' st k=>st.at λo e=>k it (by simp) o e
 item:=by
  intro X hP hw hK hc i aaD s σ H E I hf st hg;subst hP hw hK;obtain⟨xs,x,hq,hx⟩:=hg;obtain⟨its,rv,p,hz⟩:=I.tuple hq;obtain⟨u,hu,ru⟩:=rv.get hx;obtain⟨f0,f1,f2,f3,f4,f5⟩:=hf it (by simp)
  refine wpAny_pyNext_tuple_item st (show s.heap.IsTuple a its.toArray from p) (x:=u) (by simpa using hu) λh' st' sb=>?_
  have I1:Inv X aaD σ H { s with heap:=h' }:=I.turned (t':=s.toks) (λb o hb e=>(sb.2 b hb).trans e) f0 f1 f3 f4 f5
  obtain⟨o,e,c,d⟩:=id st';exact⟨u,rfl,go_of (s:={ s with heap:=h' }) e c d (by decide) ⟨x,H,I1,ru,⟨rfl,λys hy=>by rw[I.tuple_inj hy hq];exact hx⟩,st',λb hb=>(hf b hb).1⟩⟩
 done:=by
  intro X hP hw hK hc i aaD s σ H E I hf st hg;subst hP hw hK;obtain⟨xs,hq,hx⟩:=hg;obtain⟨its,rv,p,hz⟩:=I.tuple hq;obtain⟨f0,f1,f2,f3,f4,f5⟩:=hf it (by simp)
  have hl:=rv.length;exact wpAny_pyNext_tuple_end (I.ok.hd hc) st (show s.heap.IsTuple a its.toArray from p) (by simp;omega) λh' eb=>⟨rfl,I.turned (t':=s.toks) (λb o hb e=>eb b o hb e) f0 f1 f3 f4 f5⟩
 self:=λy y y y y st h=>wpAny_pyIter_tupleiter st h
theorem turn_range{P:Program}{w:World}{K:PySem.W.Frag}{tg:Expr}(it:Addr)(lo:Int)(n:Nat):Turn P w K tg (Itr lo n) [it] it (λi h=>IsRangeIter h it (lo + (i:Nat) * 1) ((n:Int) - (i:Nat)) 1) where
 mem:=by simp
 obj:=λi h st b hb=>by
  have e:b=it:=by simpa using hb
  subst e;exact⟨_,st,λv z=>by have z':Data.fields _=Data.cell v:=z;cases z'⟩
 keep:=λi h h' st k=>k it (by simp) _ st
 item:=by
  intro X hP hw hK hc i aaD s σ H E I hf st hg;subst hP hw hK;obtain⟨f0,f1,f2,f3,f4,f5⟩:=hf it (by simp)
  have W:=Walks.range (prog:=X.prog) (w:=X.w) (I.ok.hd hc) it lo 1 n;refine W.item i s _ _ hg st λv h' tk hv st' kk=>?_
  obtain⟨t,rfl⟩:=hv;have I1:Inv X aaD σ H { s with heap:=h',toks:=tk }:=I.turned (λb o hb e=>kk b o (by simpa using hb) e) f0 f1 f3 f4 f5
  refine⟨_,rfl,go_of (s:={ s with heap:=h',toks:=tk }) (n := "range_iterator") st' rfl rfl (by decide) ⟨.int (lo+i),H,I1,⟨t,?_⟩,⟨rfl,rfl⟩,st',λb hb=>(hf b hb).1⟩⟩
  rw[Int.mul_one]
 done:=by
  intro X hP hw hK hc i aaD s σ H E I hf st hg;subst hP hw hK;obtain⟨f0,f1,f2,f3,f4,f5⟩:=hf it (by simp)
  exact wpAny_pyNext_range_end (I.ok.hd hc) st (by have:n<=i:=hg;omega) λh' eb=>⟨rfl,I.turned (t':=s.toks) (λb o hb e=>eb b o hb e) f0 f1 f3 f4 f5⟩
 self:=λy y y y y st h=>wpAny_pyIter_rangeiter st h
open PySem PySem.Spec PyProof.Rows
section
variable{X:Cx}{tg:Expr}
def iList(K:PySem.W.Frag)(tl:TE):TI:=λσ H R=>tl σ H λx H1=>∃a,x=.ref a/\(∃xs,SqL K H1 a xs)/\R (Itl K a) H1
def iTup(K:PySem.W.Frag)(tl:TE):TI:=λσ H R=>tl σ H λx H1=>∃a,x=.ref a/\(∃xs,SqT K H1 a xs)/\R (Itt K a) H1
theorem pi_list{l:Expr}{tl:TE}(hl:PE X l tl):PI X tg l (iList X.K tl):=by
 intro aaD s σ H R I h;refine thn (hl aaD s σ H _ I h) λv s1 ⟨x,H1,I1,r1,q1⟩=>?_
 obtain⟨a,e,⟨xs,hq⟩,q⟩:=q1;subst e;cases r1;obtain⟨its,rv,p,hz⟩:=I1.list hq;refine Yt p.isList ?_;refine⟨s1.heap.objs.size,[s1.heap.objs.size],_,_,H1,rfl,I1.kept (t':=s1.toks) λb o e=>Wd _ e,turn_list a _,⟨_,Wl _ rfl,rfl,rfl⟩,λb hb=>?_,q⟩
 have e:b=s1.heap.objs.size:=by simpa using hb
 subst e;exact I1.fpOk (Wg _) (I1.hok.fresh (Wg _))
theorem pi_tup{l:Expr}{tl:TE}(hl:PE X l tl):PI X tg l (iTup X.K tl):=by
 intro aaD s σ H R I h;refine thn (hl aaD s σ H _ I h) λv s1 ⟨x,H1,I1,r1,q1⟩=>?_
 obtain⟨a,e,⟨xs,hq⟩,q⟩:=q1;subst e;cases r1;obtain⟨its,rv,p,hz⟩:=I1.tuple hq;refine wpAny_pyIter_tuple (show s1.heap.IsTuple a its.toArray from p) ?_
 refine⟨s1.heap.objs.size,[s1.heap.objs.size],_,_,H1,rfl,I1.kept (t':=s1.toks) λb o e=>Wd _ e,turn_tuple a _,⟨_,Wl _ rfl,rfl,rfl⟩,λb hb=>?_,q⟩
 have e:b=s1.heap.objs.size:=by simpa using hb
 subst e;exact I1.fpOk (Wg _) (I1.hok.fresh (Wg _))
theorem range_it{aaD:List (Addr×Obj)}{R:It->Hp->Prop}{E:Value->Shared->Prop}{lo hi:Int}{tk:Nat}(I:Inv X aaD σ H s)(h1:-(2^62)<=lo)(h2:lo<2^62)(h3:-(2^62)<=hi)(h4:hi<2^62)
  (q:R (Itr lo (hi-lo).toNat) H):wpAny (model X.prog X.w) X.A (pyIter (.ref s.heap.objs.size)) (PIE X aaD σ tg R) E { s with heap:=s.heap.push { cls:=.type "range",data:=.fields #[.int lo t,.int hi u,.int 1 v] },toks:=tk }:=by
 refine wpAny_pyIter_range (IsRange.new ..) (small_one h1 h2 h3 h4) ?_;have I1:Inv X aaD σ H { s with heap:=s.heap.push { cls:=.type "range",data:=.fields #[.int lo t,.int hi u,.int 1 v] },toks:=tk }:=I.kept λb o e=>Wd _ e
 refine⟨(s.heap.push { cls:=.type "range",data:=.fields #[.int lo t,.int hi u,.int 1 v] }).objs.size,[(s.heap.push { cls:=.type "range",data:=.fields #[.int lo t,.int hi u,.int 1 v] }).objs.size],_,_,H,rfl,
  I1.kept (t':=tk) λb o e=>Wd _ e,turn_range _ lo (hi-lo).toNat,?_,λb hb=>?_,q⟩
 ·have e1:lo+((0:Nat):Int)*1=lo:=by simp
  have e2:(((hi-lo).toNat:Nat):Int)-((0:Nat):Int)=Builtin.Range.rangeSize lo hi 1:=by rw[rangeSize_one];split<;>omega
  show IsRangeIter _ _ (lo+((0:Nat):Int)*1) ((((hi-lo).toNat:Nat):Int)-((0:Nat):Int)) 1;rw[e1,e2];exact Wl _ rfl
 ·have e:b=(s.heap.push { cls:=.type "range",data:=.fields #[.int lo t,.int hi u,.int 1 v] }).objs.size:=by simpa using hb
  subst e;exact I1.fpOk (Wg _) (I1.hok.fresh (Wg _))
def iRng1(ta:TA):TI:=λσ H R=>ta σ H λvs H1=>∃j:Int,vs=[.int j]/\-(2^62)<=j/\j<2^62/\R (Itr 0 j.toNat) H1
def iRng2(ta:TA):TI:=λσ H R=>ta σ H λvs H1=>∃i j:Int,vs=[.int i,.int j]/\(-(2^62)<=i/\i<2^62/\-(2^62)<=j/\j<2^62)/\R (Itr i (j-i).toNat) H1
theorem pi_range1(hg:Gl X "range")(hm:X.mg "range"=none)(ha:PA X [a] ta)(hs:starEach [a] X.env=[(false,eval a X.env)]:=by rfl):PI X tg (.Call (.Name "range" p) [a] [] pos) (iRng1 ta):=by
 intro aaD s σ H R I h;refine Call_ (ld_blt I hg hm boot_range (Xe (thn (ha pos aaD s σ H _ I h) λus s1 ⟨vs,H1,I1,r1,q1⟩=>?_) hs rfl))
 obtain⟨j,e,q1,q2,q⟩:=q1;subst e;cases r1 with
 |cons r rr=>cases rr;obtain⟨t,rfl⟩:=r;exact call_range_1 (range_it I1 (by omega) (by omega) q1 q2 (by simpa using q))
theorem pi_range2(hg:Gl X "range")(hm:X.mg "range"=none)(ha:PA X [a,b] ta)(hs:starEach [a,b] X.env=[(false,eval a X.env),(false,eval b X.env)]:=by rfl)(hs2:starEach [b] X.env=[(false,eval b X.env)]:=by rfl):
  PI X tg (.Call (.Name "range" p) [a,b] [] pos) (iRng2 ta):=by
 intro aaD s σ H R I h;refine Call_ (ld_blt I hg hm boot_range (Xe (thn (ha pos aaD s σ H _ I h) λus s1 ⟨vs,H1,I1,r1,q1⟩=>?_) (by rw[hs,hs2]) (by rw[hs2];rfl)))
 obtain⟨i,j,e,⟨q1,q2,q3,q4⟩,q⟩:=q1;subst e;cases r1 with
 | cons r rr=>
   cases rr with
   |cons r' rr=>cases rr;obtain⟨t,rfl⟩:=r;obtain⟨t',rfl⟩:=r';exact call_range_2 (range_it I1 q1 q2 q3 q4 q)
def tFor(wi:TI)(g:TG)(tb:TS):TS:=λD σ H=>wi σ H λJ H1=>∃W:Nat->Nat->St->Hp->Prop,(∃m,W 0 m σ H1)/\∀i m σ H,W i m σ H->
 (J.stop i H/\D.nx σ H)\/(J.go i H/\∃N:St->Hp->Prop,(∀σ' H',N σ' H'->∃m',m'<m/\W (i+1) m' σ' H')/\∀x H',J.yld i H x H'->g x σ H' λσ2 H2=>tb { D with nx:=N,ct:=N,bk:=D.nx } σ2 H2)
def pinsAt(fp:List Addr)(h:Heap):List (Addr×Obj):=fp.filterMap λb=>(h.get? b).map λo=>(b,o)
theorem mem_pinsAt(hb:b∈fp)(e:h.get? b=some o):(b,o)∈pinsAt fp h:=List.mem_filterMap.mpr ⟨b,hb,by rw[e];rfl⟩
theorem of_pinsAt(hp:p∈pinsAt fp h):p.1∈fp/\h.get? p.1=some p.2:=by
 obtain⟨b,hb,e⟩:=List.mem_filterMap.mp hp;cases q:h.get? b with
 |none=>rw[q]at e;cases e
 |some o=>rw[q]at e;have e':(b,o)=p:=Wq e;subst e';exact⟨hb,q⟩
theorem Inv.pinned(I:Inv X aaD σ H s)(hf:∀b∈fp,FpOk X aaD H b)(ho:∀b∈fp,∃o,s.heap.get? b=some o/\∀v,o.data≠.cell v):Inv X (aaD++pinsAt fp s.heap) σ H s:=
 I.pins_of λp hp=>(W5.mp hp).elim (λz=>I.pin p (Xa _ z)) λz=>by obtain⟨hb,e⟩:=of_pinsAt z;obtain⟨f0,f1,f2,_⟩:=hf p.1 hb;obtain⟨o,e',d⟩:=ho p.1 hb;rw[e]at e';cases e';exact⟨e,f0,f1,f2,d⟩
theorem Inv.unpinned(I:Inv X (aaD++pl) σ H s):Inv X aaD σ H s:=I.pins_of λp hp=>I.pin p (Xa _ (Zj _ hp))
theorem ps_for(hp:PassesOwn (model X.prog X.w) X.A X.env X.xe)(hc:X.calm=true)(hi:PI X tg iter wi)(hg:PG X tg g)(hb:PSs X body tb)
  (hs:∀x,foldedSetIterable iter X.env x=pure x:=by intro _;rfl):PS X (.For tg iter body [] pos) (tFor wi g tb):=by
 intro aaD s σ H D I h;refine wpAny_For (thn (hi aaD s σ H _ I h) λv s1 h1=>thn h1 λitv s2 h2=>?_) hs
 obtain⟨it,fp,tn,J,H2,e,I2,T,st2,f2,W,⟨m0,w0⟩,turn⟩:=h2;subst e
 -- what stays true of the iterator's objects through the loop
 have stat:∀{H':Hp},(∀b∈fp,H' b=none)->∀b∈fp,FpOk X aaD H' b:=λhn b hb=>⟨hn b hb,(f2 b hb).2⟩
 refine codeAny_forLoop_any (λn s'=>∃i σ' H',Inv X aaD σ' H' s'/\tn i s'.heap/\(∀b∈fp,H' b=none)/\W i n σ' H') ?_ m0 ⟨0,σ,H2,I2,st2,λb hb=>(f2 b hb).1,w0⟩
 rintro n s3 ⟨i,σ3,H3,I3,st3,fr3,w3⟩;rcases turn i n σ3 H3 w3 with ⟨stop,qn⟩ | ⟨go,N,hN,step⟩
 ·refine YJ hp (thn (T.done X rfl rfl rfl hc i aaD s3 σ3 H3 X.xe I3 (stat fr3) st3 stop) λr s4 ⟨hr,I4⟩=>?_)
  subst hr;exact Z7 ⟨σ3,H3,I4,qn⟩
 ·refine YJ hp (thn (T.item X rfl rfl rfl hc i aaD s3 σ3 H3 X.xe I3 (stat fr3) st3 go) λr s4 ⟨u,hr,h4⟩=>?_)
  subst hr;refine YJ hp (thn h4 λ_ s5 ⟨x,H5,I5,r5,y5,st5,fr5⟩=>?_)
  have I5':=I5.pinned (stat fr5) (T.obj _ _ st5);refine YJ hp (thn (hg _ s5 σ3 H5 x u _ I5' r5 (step x H5 y5)) λ_ s6 ⟨σ6,H6,I6,q6⟩=>?_)
  refine YJ hp (thn (hb _ s6 σ6 H6 _ I6 q6) λf s7 q7=>?_)
  have again:∀{σ7:St}{H7:Hp},Inv X (aaD++pinsAt fp s5.heap) σ7 H7 s7->N σ7 H7->∃m,m<n/\∃i σ' H',Inv X aaD σ' H' s7/\tn i s7.heap/\(∀b∈fp,H' b=none)/\W i m σ' H':=λ{σ7 H7} I7 n7=>by
   obtain⟨m',hm,w7⟩:=hN σ7 H7 n7;refine⟨m',hm,i+1,σ7,H7,I7.unpinned,T.keep _ _ _ st5 λb hb o e=>(I7.pin (b,o) (Xa _ (Xa _ (mem_pinsAt hb e)))).1,λb hb=>?_,w7⟩
   obtain⟨o,e,d⟩:=T.obj _ _ st5 b hb;exact (I7.pin (b,o) (Xa _ (Xa _ (mem_pinsAt hb e)))).2.1
  cases f with
  |next=>obtain⟨σ7,H7,I7,n7⟩:=q7;exact again I7 n7
  |cont=>obtain⟨σ7,H7,I7,n7⟩:=q7;exact again I7 n7
  |brk=>obtain⟨σ7,H7,I7,q7⟩:=q7;exact⟨σ7,H7,I7.unpinned,q7⟩
  |ret v=>obtain⟨x7,σ7,H7,I7,r7,q7⟩:=q7;exact⟨x7,σ7,H7,I7.unpinned,r7,q7⟩
end
open PySem PySem.Spec PyProof.Rows
abbrev R2:=V->V->Hp->VK->Prop
def OpR(X:Cx)(f:Value->Value->Sem Value)(r:R2):Prop:=
 ∀(aaD:List (Addr×Obj)) (s:Shared) (σ:St) (H:Hp) (x y:V) (v u:Value) (Q:VK),Inv X aaD σ H s->RelV x v->RelV y u->r x y H Q->
   wpAny (model X.prog X.w) X.A (f v u) (EP X aaD σ Q) X.xe s
def UnR(X:Cx)(f:Value->Sem Value)(r:V->Hp->VK->Prop):Prop:=
 ∀(aaD:List (Addr×Obj)) (s:Shared) (σ:St) (H:Hp) (x:V) (v:Value) (Q:VK),Inv X aaD σ H s->RelV x v->r x H Q->
   wpAny (model X.prog X.w) X.A (f v) (EP X aaD σ Q) X.xe s
def CallR(X:Cx)(f:Value)(r:List V->Hp->VK->Prop):Prop:=
 ∀(aaD:List (Addr×Obj)) (s:Shared) (σ:St) (H:Hp) (xs:List V) (us:List Value) (Q:VK),Inv X aaD σ H s->Vals xs us->r xs H Q->
   wpAny (model X.prog X.w) X.A (call f us) (EP X aaD σ Q) X.xe s
def TruR(X:Cx)(r:V->Hp->(Bool->Hp->Prop)->Prop):Prop:=
 ∀(aaD:List (Addr×Obj)) (s:Shared) (σ:St) (H:Hp) (x:V) (v:Value) (Q:Bool->Hp->Prop),Inv X aaD σ H s->RelV x v->r x H Q->
   wpAny (model X.prog X.w) X.A (truthy v) (TP X aaD σ Q) X.xe s
def tOp(r:R2)(ta tb:TE):TE:=λσ H Q=>ta σ H λx H1=>tb σ H1 λy H2=>r x y H2 Q
def tUn(r:V->Hp->VK->Prop)(ta:TE):TE:=λσ H Q=>ta σ H λx H1=>r x H1 Q
def rI(C:Int->Int->Prop)(g:Int->Int->V):R2:=λx y H Q=>∃i j,x=.int i/\y=.int j/\C i j/\Q (g i j) H
def rI0(g:Int->Int->V):R2:=λx y H Q=>∃i j,x=.int i/\y=.int j/\Q (g i j) H
def rU(g:Int->V):V->Hp->VK->Prop:=λx H Q=>∃i,x=.int i/\Q (g i) H
section
variable{X:Cx}{a b c:Expr}{ta tb tc:TE}{pos:Pos}
theorem binT(ha:PE X a ta)(hb:PE X b tb){aaD:List (Addr×Obj)}{R:V->V->Hp->Prop}(I:Inv X aaD σ H s)
  (h:ta σ H λx H1=>tb σ H1 λy H2=>R x y H2) {Q:Value->Shared->Prop}{f:Value->Value->Sem Value}
  (hf:∀v u s2 x y H2,Inv X aaD σ H2 s2->RelV x v->RelV y u->R x y H2->wpAny (model X.prog X.w) X.A (f v u) Q X.xe s2) :
  wpAny (model X.prog X.w) X.A (eval a X.env) (λv s₁=>wpAny (model X.prog X.w) X.A (eval b X.env) (λu s₂=>wpAny (model X.prog X.w) X.A (f v u) Q X.xe s₂) X.xe s₁) X.xe s:=by
 refine thn (ha aaD s σ H _ I h) λv s1 ⟨x,H1,I1,r1,q1⟩=>?_
 refine thn (hb aaD s1 σ H1 _ I1 q1) λu s2 ⟨y,H2,I2,r2,q2⟩=>?_
 exact hf v u s2 x y H2 I2 r1 r2 q2
theorem pe_op(ho:OpR X (binaryOp op) r)(ha:PE X a ta)(hb:PE X b tb):PE X (.BinOp a op b pos) (tOp r ta tb):=by intro aaD s σ H Q I h;exact wpAny_BinOp (binT ha hb I h λv u s2 x y H2 I2 rx ry q=>ho aaD s2 σ H2 x y v u Q I2 rx ry q)
theorem pe_un(ho:UnR X (unaryOp op) r)(ha:PE X a ta):PE X (.UnaryOp op a pos) (tUn r ta):=by intro aaD s σ H Q I h;exact UnaryOp_ (thn (ha aaD s σ H _ I h) λv s1 ⟨x,H1,I1,r1,q1⟩=>ho aaD s1 σ H1 x v Q I1 r1 q1)
theorem opI{f:Value->Value->Sem Value}{C:Int->Int->Prop}{g:Int->Int->Int}
  (rule:∀(i j:Int) (t u:Tok) (s:Shared) (Q:Value->Shared->Prop) (E:Value->Shared->Prop),C i j->Q (.int (g i j) s.toks) { s with toks:=s.toks+1 }->wpAny (model X.prog X.w) X.A (f (.int i t) (.int j u)) Q E s) :
  OpR X f (rI C λi j=>.int (g i j)):=by
 intro aaD s σ H x y v u Q I rx ry h;obtain⟨i,j,rfl,rfl,hc,q⟩:=h;obtain⟨t,rfl⟩:=rx;obtain⟨t',rfl⟩:=ry;exact rule i j t t' s _ _ hc ⟨.int (g i j),H,I.tok _,⟨_,rfl⟩,q⟩
theorem opI0{f:Value->Value->Sem Value}{g:Int->Int->Int}
  (rule:∀(i j:Int) (t u:Tok) (s:Shared) (Q:Value->Shared->Prop) (E:Value->Shared->Prop),Q (.int (g i j) s.toks) { s with toks:=s.toks+1 }->wpAny (model X.prog X.w) X.A (f (.int i t) (.int j u)) Q E s) :
  OpR X f (rI0 λi j=>.int (g i j)):=by
 intro aaD s σ H x y v u Q I rx ry h;obtain⟨i,j,rfl,rfl,q⟩:=h;obtain⟨t,rfl⟩:=rx;obtain⟨t',rfl⟩:=ry;exact rule i j t t' s _ _ ⟨.int (g i j),H,I.tok _,⟨_,rfl⟩,q⟩
theorem opB0{f:Value->Value->Sem Value}{g:Int->Int->Bool}
  (rule:∀(i j:Int) (t u:Tok) (s:Shared) (Q:Value->Shared->Prop) (E:Value->Shared->Prop),Q (.bool (g i j)) s->wpAny (model X.prog X.w) X.A (f (.int i t) (.int j u)) Q E s) :
  OpR X f (rI0 λi j=>.bl (g i j)):=by
 intro aaD s σ H x y v u Q I rx ry h;obtain⟨i,j,rfl,rfl,q⟩:=h;obtain⟨t,rfl⟩:=rx;obtain⟨t',rfl⟩:=ry;exact rule i j t t' s _ _ ⟨.bl (g i j),H,I,rfl,q⟩
def CPow(i j:Int):Prop:=0<=j/\j<=1000000/\i.natAbs<2^64
theorem op_add:OpR X (binaryOp .Add) (rI0 λi j=>.int (i+j)):=opI0 λz z z z z z z q=>add_int q
theorem op_sub:OpR X (binaryOp .Sub) (rI0 λi j=>.int (i-j)):=opI0 λz z z z z z z q=>sub_int q
theorem op_mod:OpR X (binaryOp .Mod) (rI (λz j=>0<j) λi j=>.int (i%j)):=opI λi j z z z z z hc q=>by have h1:(0:Int)<j:=hc;exact mod_int' (by omega) (by rw[Int.fmod_eq_emod_of_nonneg i (by omega)];exact q)
theorem op_pow:OpR X (binaryOp .Pow) (rI CPow λi j=>.int (i^j.toNat)):=opI λz z z z z z z hc q=>pow_int_small hc.1 hc.2.1 hc.2.2 q
theorem iop_add:OpR X (inplaceOp .Add) (rI0 λi j=>.int (i+j)):=opI0 λz z z z z z z q=>iadd_int q
theorem unI{f:Value->Sem Value}{g:Int->Int}
  (rule:∀(i:Int) (t:Tok) (s:Shared) (Q:Value->Shared->Prop) (E:Value->Shared->Prop),Q (.int (g i) s.toks) { s with toks:=s.toks+1 }->wpAny (model X.prog X.w) X.A (f (.int i t)) Q E s) :
  UnR X f (rU λi=>.int (g i)):=by
 intro aaD s σ H x v Q I rx h;obtain⟨i,rfl,q⟩:=h;obtain⟨t,rfl⟩:=rx;exact rule i t s _ _ ⟨.int (g i),H,I.tok _,⟨_,rfl⟩,q⟩
theorem un_neg:UnR X (unaryOp .USub) (rU λi=>.int (-i)):=unI λz z z z z q=>neg_int q
end
def scal:V->V->Bool
 |.non,.non=>true | .non,.int _=>true | .int _,.non=>true | .non,.bl _=>true | .bl _,.non=>true | .non,.str _=>true | .str _,.non=>true
 |.int _,.int _=>true | .bl _,.bl _=>true | .str _,.str _=>true | .byt _,.byt _=>true
 |.int _,.str _=>true | .str _,.int _=>true | .bl _,.str _=>true | .str _,.bl _=>true
 |_,_=>false
def rEq:R2:=λx y H Q=>scal x y=true/\Q (.bl (decide (x=y))) H
def rNe:R2:=λx y H Q=>scal x y=true/\Q (.bl (!decide (x=y))) H
theorem dec_int:decide (V.int i=V.int j)=(i==j):=by rw[WY];simp
theorem dec_bl:decide (V.bl i=V.bl j)=(i==j):=by rw[WY];simp
theorem dec_str:decide (V.str i=V.str j)=(i==j):=by rw[WY];simp
theorem dec_byt:decide (V.byt i=V.byt j)=(i.toList==j.toList):=by rw[WY];cases i;cases j;simp
section
variable{X:Cx}{a b c:Expr}{ta tb tc:TE}{pos:Pos}
theorem fin_bl(I:Inv X aaD σ H s)(q:Q (.bl k) H)(e:k=k'):EP X aaD σ Q (.bool k') s:=by subst e;exact⟨.bl k,H,I,rfl,q⟩
theorem op_eq:OpR X (compareOp .Eq) rEq:=by
 intro aaD s σ H x y v u Q I rx ry h;obtain⟨hs,q⟩:=h;cases x with
 |non=>
   cases rx;cases y with
   |non=>cases ry;exact PySem.EqNone.eq_none_none (fin_bl I q (by simp))
   |bl j=>cases ry;exact PySem.EqNone.eq_none_bool (fin_bl I q (by simp))
   |int j=>obtain⟨t',rfl⟩:=ry;exact PySem.EqNone.eq_none_int (fin_bl I q (by simp))
   |str j=>obtain⟨t',rfl⟩:=ry;exact PySem.EqNone.eq_none_str (fin_bl I q (by simp))
   |_=>exact absurd (show false=true from hs) WL
 |bl i=>
   cases rx;cases y with
   |non=>cases ry;exact PySem.EqNone.eq_bool_none (fin_bl I q (by simp))
   |bl j=>cases ry;exact eq_bool (fin_bl I q dec_bl)
   |str j=>obtain⟨t',rfl⟩:=ry;exact PySem.EqMixed.eq_bool_str (fin_bl I q (by simp))
   |_=>exact absurd (show false=true from hs) WL
 |int i=>
   obtain⟨t,rfl⟩:=rx;cases y with
   |non=>cases ry;exact PySem.EqNone.eq_int_none (fin_bl I q (by simp))
   |int j=>obtain⟨t',rfl⟩:=ry;exact eq_int (fin_bl I q dec_int)
   |str j=>obtain⟨t',rfl⟩:=ry;exact PySem.EqMixed.eq_int_str (fin_bl I q (by simp))
   |_=>exact absurd (show false=true from hs) WL
 |str i=>
   obtain⟨t,rfl⟩:=rx;cases y with
   |non=>cases ry;exact PySem.EqNone.eq_str_none (fin_bl I q (by simp))
   |bl j=>cases ry;exact PySem.EqMixed.eq_str_bool (fin_bl I q (by simp))
   |int j=>obtain⟨t',rfl⟩:=ry;exact PySem.EqMixed.eq_str_int (fin_bl I q (by simp))
   |str j=>obtain⟨t',rfl⟩:=ry;exact eq_str (fin_bl I q dec_str)
   |_=>exact absurd (show false=true from hs) WL
 |byt i=>
   obtain⟨t,rfl⟩:=rx;cases y with
   |byt j=>obtain⟨t',rfl⟩:=ry;exact PySem.W.eq_bytes (fin_bl I q dec_byt)
   |_=>exact absurd (show false=true from hs) WL
 |_=>cases y<;>exact absurd (show false=true from hs) WL
theorem op_ne:OpR X (compareOp .NotEq) rNe:=by
 intro aaD s σ H x y v u Q I rx ry h;obtain⟨hs,q⟩:=h;cases x with
 |non=>
   cases rx;cases y with
   |non=>cases ry;exact PySem.EqNone.ne_none_none (fin_bl I q (by simp))
   |bl j=>cases ry;exact PySem.EqNone.ne_none_bool (fin_bl I q (by simp))
   |int j=>obtain⟨t',rfl⟩:=ry;exact PySem.EqNone.ne_none_int (fin_bl I q (by simp))
   |str j=>obtain⟨t',rfl⟩:=ry;exact PySem.EqNone.ne_none_str (fin_bl I q (by simp))
   |_=>exact absurd (show false=true from hs) WL
 |bl i=>
   cases rx;cases y with
   |non=>cases ry;exact PySem.EqNone.ne_bool_none (fin_bl I q (by simp))
   |bl j=>cases ry;exact ne_bool (fin_bl I q (congrArg not dec_bl))
   |str j=>obtain⟨t',rfl⟩:=ry;exact PySem.EqMixed.ne_bool_str (fin_bl I q (by simp))
   |_=>exact absurd (show false=true from hs) WL
 |int i=>
   obtain⟨t,rfl⟩:=rx;cases y with
   |non=>cases ry;exact PySem.EqNone.ne_int_none (fin_bl I q (by simp))
   |int j=>obtain⟨t',rfl⟩:=ry;exact ne_int (fin_bl I q (congrArg not dec_int))
   |str j=>obtain⟨t',rfl⟩:=ry;exact PySem.EqMixed.ne_int_str (fin_bl I q (by simp))
   |_=>exact absurd (show false=true from hs) WL
 |str i=>
   obtain⟨t,rfl⟩:=rx;cases y with
   |non=>cases ry;exact PySem.EqNone.ne_str_none (fin_bl I q (by simp))
   |bl j=>cases ry;exact PySem.EqMixed.ne_str_bool (fin_bl I q (by simp))
   |int j=>obtain⟨t',rfl⟩:=ry;exact PySem.EqMixed.ne_str_int (fin_bl I q (by simp))
   |str j=>obtain⟨t',rfl⟩:=ry;exact ne_str (fin_bl I q (congrArg not dec_str))
   |_=>exact absurd (show false=true from hs) WL
 |byt i=>
   obtain⟨t,rfl⟩:=rx;cases y with
   |byt j=>obtain⟨t',rfl⟩:=ry;exact PySem.W.ne_bytes (fin_bl I q (congrArg not dec_byt))
   |_=>exact absurd (show false=true from hs) WL
 |_=>cases y<;>exact absurd (show false=true from hs) WL
theorem op_lt:OpR X (compareOp .Lt) (rI0 λi j=>.bl (decide (i<j))):=opB0 λz z z z z z z q=>lt_int q
theorem op_le:OpR X (compareOp .LtE) (rI0 λi j=>.bl (decide (i<=j))):=opB0 λz z z z z z z q=>le_int q
theorem op_gt:OpR X (compareOp .Gt) (rI0 λi j=>.bl (decide (j<i))):=opB0 λz z z z z z z q=>gt_int q
theorem op_ge:OpR X (compareOp .GtE) (rI0 λi j=>.bl (decide (j<=i))):=opB0 λz z z z z z z q=>ge_int q
theorem OpR.or(h:OpR X f r)(h':OpR X f r'):OpR X f (λx y H Q=>r x y H Q\/r' x y H Q):=by
 intro aaD s σ H x y v u Q I rx ry q;rcases q with q | q
 ·exact h aaD s σ H x y v u Q I rx ry q
 ·exact h' aaD s σ H x y v u Q I rx ry q
theorem nomark(b:Expr)(h:op≠.In:=by decide)(h2:op≠.NotIn:=by decide):behindInMarks op b=false:=by
 have e1:(op==CmpOp.In)=false:=by cases op<;>first | rfl | exact absurd rfl h
 have e2:(op==CmpOp.NotIn)=false:=by cases op<;>first | rfl | exact absurd rfl h2
 cases b<;>simp[behindInMarks,e1,e2]
theorem pe_cmpR(ho:OpR X (compareOp op) r)(ha:PE X a ta)(hb:PE X b tb)(hm:behindInMarks op b=false):PE X (.Compare a [op] [b] pos) (tOp r ta tb):=by intro aaD s σ H Q I h;exact wpAny_Compare1 (binT ha hb I h λv u s2 x y H2 I2 rx ry q=>ho aaD s2 σ H2 x y v u Q I2 rx ry q) hm
def tTest(t:TE):TT:=λσ H Q=>t σ H λx H'=>∃k,x=.bl k/\Q k H'
theorem pt_cmpR(ho:OpR X (compareOp op) r)(ha:PE X a ta)(hb:PE X b tb)(hm:behindInMarks op b=false):PT X (.Compare a [op] [b] pos) (tTest (tOp r ta tb)):=by
 intro aaD s σ H Q I h;refine wpAny_isTrue_Compare1 (thn (ha aaD s σ H _ I h) λv s1 ⟨x,H1,I1,r1,q1⟩=>thn (hb aaD s1 σ H1 _ I1 q1) λu s2 ⟨y,H2,I2,r2,q2⟩=>
  thn (ho aaD s2 σ H2 x y v u _ I2 r1 r2 q2) λc s3 ⟨z,H3,I3,r3,k,e,q3⟩=>?_) hm
 subst e;cases r3;exact X7 ⟨H3,I3,q3⟩
def tChain(r r':R2)(ta tb tc:TE):TE:=λσ H Q=>ta σ H λx H1=>tb σ H1 λy H2=>r x y H2 λz H3=>∃k,z=.bl k /\
 (if k=true then tc σ H3 λw' H4=>r' y w' H4 Q else Q (.bl false) H3)
theorem pe_chain(ho:OpR X (compareOp op) r)(ho':OpR X (compareOp op') r')(ha:PE X a ta)(hb:PE X b tb)(hc:PE X c tc)
  (hm:lastMarks [op,op'] [b,c]=false:=by with_unfolding_all rfl):PE X (.Compare a [op,op'] [b,c] pos) (tChain r r' ta tb tc):=by
 intro aaD s σ H Q I h;refine Compare_chain (thn (ha aaD s σ H _ I h) λv s1 ⟨x,H1,I1,r1,q1⟩=>chain_link (thn (hb aaD s1 σ H1 _ I1 q1) λu s2 ⟨y,H2,I2,r2,q2⟩=>
  thn (ho aaD s2 σ H2 x y v u _ I2 r1 r2 q2) λd s3 ⟨z,H3,I3,r3,k,e,q3⟩=>?_)) hm
 subst e;cases r3;refine X7 ?_;cases k with
 |false=>exact ite_ff ⟨.bl false,H3,I3,rfl,q3⟩
 |true=>exact ite_tt (chain_last (thn (hc aaD s3 σ H3 _ I3 q3) λw' s4 ⟨z',H4,I4,r4,q4⟩=>ho' aaD s4 σ H4 y z' u w' Q I4 r2 r4 q4))
theorem pt_chain(ho:OpR X (compareOp op) r)(ho':OpR X (compareOp op') r')(ha:PE X a ta)(hb:PE X b tb)(hc:PE X c tc)
  (hm:lastMarks [op,op'] [b,c]=false:=by with_unfolding_all rfl):PT X (.Compare a [op,op'] [b,c] pos) (tTest (tChain r r' ta tb tc)):=by
 intro aaD s σ H Q I h;refine isTrue_chain (thn (ha aaD s σ H _ I h) λv s1 ⟨x,H1,I1,r1,q1⟩=>test_link (thn (hb aaD s1 σ H1 _ I1 q1) λu s2 ⟨y,H2,I2,r2,q2⟩=>
  thn (ho aaD s2 σ H2 x y v u _ I2 r1 r2 q2) λd s3 ⟨z,H3,I3,r3,k,e,q3⟩=>?_)) hm
 subst e;cases r3;refine X7 ?_;cases k with
 |false=>obtain⟨k',e',q'⟩:=q3;cases e';exact ite_ff ⟨H3,I3,q'⟩
 |true=>
   refine ite_tt (test_last (thn (hc aaD s3 σ H3 _ I3 q3) λw' s4 ⟨z',H4,I4,r4,q4⟩=>thn (ho' aaD s4 σ H4 y z' u w' _ I4 r2 r4 q4) λd' s5 ⟨z2,H5,I5,r5,k2,e2,q5⟩=>?_))
   subst e2;cases r5;exact X7 ⟨H5,I5,q5⟩
def TruV(K:PySem.W.Frag)(x:V)(H:Hp)(k:Bool):Prop:=
 match x with
 |.non=>k=false
 |.bl b=>k=b
 |.int i=>k=(i != 0)
 |.str y=>y.length<=sizeLine/\k=((y.length:Int) != 0)
 |.byt y=>y.size<=sizeLine/\k=((y.size:Int) != 0)
 |.ref p=>(∃xs,SqL K H p xs/\k=!xs.isEmpty)\/(∃xs,SqT K H p xs/\k=!xs.isEmpty)\/∃kvs,H p=some (.dK kvs)/\k=!kvs.isEmpty
 |_=>False
theorem isEmpty_kv(r:KV kvs vs):(!vs.isEmpty)=!kvs.isEmpty:=by cases r<;>rfl
theorem isEmpty_of(r:Vals xs its):(!its.toArray.isEmpty)=!xs.isEmpty:=by cases r<;>simp
theorem line63:(sizeLine:Nat)<2^63:=by rw[YS];decide
theorem tru_ok:TruR X (λx H Q=>∃ k,TruV X.K x H k/\Q k H):=by
 intro aaD s σ H x v Q I rx h;obtain⟨k,e,q⟩:=h;have hl:=line63;have hs:sizeLine=16777216:=YS;cases x with
 |non=>cases rx;have e':k=false:=e;subst e';exact truthy_none ⟨H,I,q⟩
 |bl b=>cases rx;have e':k=b:=e;subst e';exact X7 ⟨H,I,q⟩
 |int i=>obtain⟨t,rfl⟩:=rx;have e':k=(i != 0):=e;subst e';exact PySem.P.truthy_int ⟨H,I,q⟩
 |str y=>obtain⟨t,rfl⟩:=rx;obtain⟨hy,e'⟩:y.length<=sizeLine/\k=((y.length:Int) != 0):=e;subst e';exact PySem.P.truthy_str (by omega) ⟨H,I.tok _,q⟩
 |byt y=>obtain⟨t,rfl⟩:=rx;obtain⟨hy,e'⟩:y.size<=sizeLine/\k=((y.size:Int) != 0):=e;subst e';exact PySem.W.truthy_bytes (by omega) ⟨H,I.tok _,q⟩
 | ref p=>
   cases rx;have e':(∃xs,SqL X.K H p xs/\k=!xs.isEmpty)\/(∃xs,SqT X.K H p xs/\k=!xs.isEmpty)\/∃kvs,H p=some (.dK kvs)/\k=!kvs.isEmpty:=e;rcases e' with ⟨xs,hx,e'⟩ | ⟨xs,hx,e'⟩ | ⟨kvs,hx,e'⟩
   ·subst e';obtain⟨its,r,pl,hz⟩:=I.list hx;have hlen:=r.length;exact wpAny_truthy_list pl.isList (by simp only[List.size_toArray];omega) ⟨H,I.tok _,by rw[isEmpty_of r];exact q⟩
   ·subst e';obtain⟨its,r,pl,hz⟩:=I.tuple hx;have hlen:=r.length;exact truthy_tuple pl (by simp only[List.size_toArray];omega) ⟨H,I.tok _,by rw[isEmpty_of r];exact q⟩
   ·subst e';obtain⟨hz,hS,vs,r,m⟩:kvs.length<=sizeLine/\(p==sysModules)=false/\∃vs,KV kvs vs/\s.heap.DictOf (mixKind X.prog X.w) p vs:=I.hok p _ hx;have hlen:kvs.length=vs.length:=aai r;exact wpAny_truthy_dict hS m (by omega) ⟨H,I.tok _,by rw[isEmpty_kv r];exact q⟩
 |_=>exact (show False from e).elim
theorem pt_truth(ha:PE X a ta)(he:∀whole,isTrue a X.env whole=(do let v <-whole;standAt a.pos;holding [v] (truthy v))):
  PT X a (λσ H Q=>ta σ H λx H'=>∃k,TruV X.K x H' k/\Q k H'):=by
 intro aaD s σ H Q I h;exact isTrue_plain (thn (ha aaD s σ H _ I h) λv s1 ⟨x,H1,I1,r1,q1⟩=>tru_ok aaD s1 σ H1 x v Q I1 r1 q1) (he _)
theorem op_add_str:OpR X (binaryOp .Add) (λx y H Q=>∃i j,x=.str i/\y=.str j/\i.length+j.length<=sizeLine/\Q (.str (i++j)) H):=by intro aaD s σ H x y v u Q I rx ry h;obtain⟨i,j,rfl,rfl,hz,q⟩:=h;obtain⟨t,rfl⟩:=rx;obtain⟨t',rfl⟩:=ry;exact add_str (λt' tk=>⟨.str (i++j),H,I.tok _,⟨_,rfl⟩,q⟩) hz
theorem vals1(r:Vals [x] us):∃u,us=[u]/\RelV x u:=by
 cases r with
 |cons r1 r2=>cases r2;exact⟨_,rfl,r1⟩
theorem vals2(r:Vals [x,y] us):∃ u w',us=[u,w']/\RelV x u/\RelV y w':=by
 cases r with
 |cons r1 r2=>
   cases r2 with
   |cons r3 r4=>cases r4;exact⟨_,_,rfl,r1,r3⟩
theorem call_abs:CallR X (.builtin "abs") (λxs H Q=>∃i,xs=[.int i]/\Q (.int (if i<0 then -i else i)) H):=by intro aaD s σ H xs us Q I r h;obtain⟨i,rfl,q⟩:=h;obtain⟨u,rfl,t,rfl⟩:=vals1 r;exact call_abs_int λu tk=>⟨.int (if i<0 then -i else i),H,I.tok _,⟨_,rfl⟩,q⟩
theorem call_max2(hc:X.calm=true):CallR X (.builtin "max") (λxs H Q=>∃i j,xs=[.int i,.int j]/\Q (.int (if j > i then j else i)) H):=by
 intro aaD s σ H xs us Q I r h;obtain⟨i,j,rfl,q⟩:=h;obtain⟨u,w',rfl,⟨t,rfl⟩,⟨t',rfl⟩⟩:=vals2 r;refine max_two_ints (I.ok.hd hc) λh' tk k=>⟨_,H,I.kept k,?_,q⟩
 by_cases hj:j > i
 ·rw[Wm hj,Wm hj];exact⟨_,rfl⟩
 ·rw[Wr hj,Wr hj];exact⟨_,rfl⟩
end
open PySem PySem.Spec PyProof.Rows
structure ObjM(h:Heap)(x dx C:Addr)(mA:Str->Option Value):Prop where
 obj:h.get? x=some (PySem.W.instObj C dx)
 ns:h.Ns1 dx mA
 ne:dx≠x
set_option tactic.hygienic true in
theorem lookIn_ns{h:Heap}{dx:Addr}{mA:Str->Option Value}(n:h.Ns1 dx mA):∃ od,h.get? dx=some od/\∀ name,PySem.W.lookIn name od=some (mA name):=by
 obtain⟨o,es,ep,ho,hd,hk,_,hm⟩:=n;refine⟨o,ho,λname=>?_⟩
 have e:=hm name;unfold nsFind findBy at e;rw[<-Array.find?_toList]at e;unfold PySem.W.lookIn;rw[hd];dsimp only;split
 ·rename_i y q;rw[q]at e;exact congrArg some e
 ·rename_i q;rw[q]at e;have a:es.toList.any (·.refKey)=false:=by rw[List.any_eq_false];intro y hy;obtain⟨z,t,hkey⟩:=hk y (Array.mem_toList_iff.mp hy);simp[DictEntry.refKey,hkey]
  have a':¬ es.toList.any (·.refKey)=true:=by rw[a];exact WL
  rw[Wr a'];exact congrArg some e
theorem ObjM.look(I:ObjM h x dx C mA):∃od,PySem.W.InstAt h x (PySem.W.instObj C dx) C (some od)/\∀name,PySem.W.lookIn name od=some (mA name):=
 let ⟨od,ho,hl⟩:=lookIn_ns I.ns
 ⟨od,⟨I.obj,rfl,rfl,ho⟩,hl⟩
section
variable{prog:Program}{w:World}{A:Around}{E:Value->Shared->Prop}{s:Shared}{K:PySem.W.Frag}{x dx C f:Addr}{mA:Str->Option Value}{name:Str}{v:Value}
theorem get_map(X:K.In s.heap)(I:ObjM s.heap x dx C mA)(hg:PySem.W.plainGet K C name=true)(hh:PySem.W.hasDictIn K C=true)
  (ha:PySem.W.findIn K (.ref C) name=some none) (hv:mA name=some v) (hv':PySem.W.handedIn v=true) (h:Q v { s with toks:=s.toks+1 }) :
  wpAny (model prog w) A (getAttr (.ref x) name expr) Q E s:=by
 obtain⟨od,J,hl⟩:=I.look;exact PySem.W.get_value X J (PySem.W.plainGet_of hg).1 (PySem.W.findObj_own hh ha rfl (by rw[hl,hv])) hv' h
theorem get_meth(X:K.In s.heap)(I:ObjM s.heap x dx C mA)(hg:PySem.W.plainGet K C name=true)
  (hf:PySem.W.findIn K (.ref C) name=some (some (.ref f))) (ht:PySem.W.isFn K (.ref f)=true) (hv:mA name=none) (h:Q (.ref f,[.ref x]) s) :
  wpAny (model prog w) A (getMethod (.ref x) name pl) Q E s:=by
 obtain⟨od,J,hl⟩:=I.look;exact PySem.W.method_fn X J (PySem.W.plainGet_of hg).1 (PySem.W.plainGet_of hg).2 hf (aab.mp ht) (by show (PySem.W.lookIn name od).map (·.isSome)=some false;rw[hl,hv];rfl) h
theorem set_map(X:K.In s.heap)(I:ObjM s.heap x dx C mA)
  (hs:PySem.W.findIn K (.ref C) "__setattr__"=some (some (.builtin "object.__setattr__"))) (hp:PySem.W.plainOver K C=true) (ht:PySem.W.takerIn K C name=some none) (hh:PySem.W.hasDictIn K C=true)
  (hw:PySem.Within mA ns) (hsz:ns.length<=sizeLine)
  (h:∀h',ObjM h' x dx C (λy=>if y=name then some v else mA y)->Heap.SameBut dx s.heap h'->Q () { s with heap:=h',toks:=s.toks+2 }) :
  wpAny (model prog w) A (setAttr (.ref x) name v) Q E s:=by
 obtain⟨od,J,hl⟩:=I.look;refine PySem.W.set_plain X J hs (PySem.W.osa_open (s:={ s with toks:=s.toks+1 }) (r:=none) X J hp ht λb=>?_)
 obtain⟨cd,hc,hd'⟩:=PySem.W.any_some hh;have hx:s.heap.get? x=some ⟨.ref C,some dx,.plain,#[]⟩:=I.obj;refine Wc (We (Wc (Wc (wpAny_loadPart hx (Wc (PySem.W.Looks.here (s:={ s with toks:=s.toks+1 }) (PySem.W.looks_clsIn X hc) ?_))))))
 rw[hd'];refine We (a:=some dx) (Wc (We (Wc ?_)));refine wpAny_nsSet1 (s:={ s with toks:=s.toks+1 }) I.ns λh' hn2 hs2=>?_
 obtain⟨oD,esD,epD,hoD,hdD,hcD⟩:=hn2.count (PySem.Within.cons name v hw);refine Wc (wpAny_lookBehind hoD (by rw[hdD];exact pastItsLine_dict (Xm hcD (by rw[Xv];omega))) ?_)
 exact We (h _ ⟨(hs2.2 _ (Ne.symm I.ne)).trans I.obj,hn2,I.ne⟩ hs2)
theorem make_map(X:K.In s.heap)(hm:PySem.W.makesIn K C=true)
  (hi:PySem.W.findIn K (.ref C) "__init__"=some (some (.ref f))) (hf:PySem.W.typeIn K (.ref f)=some (.type "function"))
  (h:codeAny (model prog w) (A.under (.builtin "type.__call__" ⟨.ref C::vs,kw⟩)) (.call (.ref f) ⟨.ref (s.heap.objs.size+1)::vs,kw⟩) (PySem.W.InitBack (s.heap.objs.size+1) R)
    { s with heap:=(s.heap.push PySem.W.emptyDict).push (PySem.W.instObj C s.heap.objs.size) }) :
  codeAny (model prog w) A (.call (.ref C) ⟨vs,kw⟩) R s:=by
 obtain⟨hh,g,d,t,os⟩:=s;exact PySem.W.make_core (PySem.W.makes_of X hm) (PySem.W.looks_findIn X hi) (λself=>PySem.W.bind_fn X self hf) (.inl rfl) h
end
def putF(f:Str)(v:V):List (Str×V)->List (Str×V)
 |[]=>[(f,v)]
 |(g,x)::r=>if g=f then (g,v)::r else (g,x)::putF f v r
theorem lookup_putF(f g:Str)(v:V):∀ fs:List (Str×V),(putF f v fs).lookup g=if g=f then some v else fs.lookup g
 | []=>by
   show List.lookup g [(f,v)]=_;by_cases h:g=f
   ·have hb:(g==f)=true:=aab.mpr h;simp only[List.lookup,hb,if_pos h]
   ·have hb:(g==f)=false:=Y4.mpr h;simp only[List.lookup,hb,if_neg h]
 | (k,x)::r=>by
   have ih:=lookup_putF f g v r;rw[show putF f v ((k,x)::r)=(if k=f then (k,v)::r else (k,x)::putF f v r) from rfl]
   by_cases hk:k=f
   ·rw[Wm hk];by_cases h:g=k
    ·have hb:(g==k)=true:=aab.mpr h;simp only[List.lookup,hb,if_pos (h.trans hk)]
    ·have hb:(g==k)=false:=Y4.mpr h;simp only[List.lookup,hb,if_neg (λe:g=f=>h (e.trans hk.symm))]
   ·rw[Wr hk];by_cases h:g=k
    ·have hb:(g==k)=true:=aab.mpr h;simp only[List.lookup,hb,if_neg (λe:g=f=>hk (h.symm.trans e))]
    ·have hb:(g==k)=false:=Y4.mpr h;simp only[List.lookup,hb];exact ih
theorem keys_putF(f:Str)(v:V):∀ fs:List (Str×V),f∈(putF f v fs).map (·.1)/\∀ g,g∈fs.map (·.1)->g∈(putF f v fs).map (·.1)
 |[]=>⟨by simp[putF],λg h=>by simp at h⟩
 | (k,x)::r=>by
   obtain⟨i1,i2⟩:=keys_putF f v r;rw[show putF f v ((k,x)::r)=(if k=f then (k,v)::r else (k,x)::putF f v r) from rfl]
   by_cases hk:k=f
   ·rw[Wm hk];subst hk;exact⟨by simp,λg h=>by simpa using h⟩
   ·rw[Wr hk];refine⟨?_,λg h=>?_⟩
    ·rw[W0];exact W4 _ i1
    ·rw[W0]at h ⊢
     rcases Wy.mp h with e | e
     ·exact Wy.mpr (.inl e)
     ·exact W4 _ (i2 g e)
theorem length_putF(f:Str)(v:V):∀ fs:List (Str×V),(putF f v fs).length<=fs.length + 1
 |[]=>by simp[putF]
 |(k,x)::r=>by
   have ih:=length_putF f v r;rw[show putF f v ((k,x)::r)=(if k=f then (k,v)::r else (k,x)::putF f v r) from rfl]
   by_cases hk:k=f
   ·rw[Wm hk,Xv,Xv];omega
   ·rw[Wr hk,Xv,Xv];omega
theorem RelO.some_of(r:RelO (some v) o):∃u,o=some u/\RelV v u:=by
 cases o with
 |none=>exact (show False from r).elim
 |some u=>exact⟨u,rfl,r⟩
theorem RelO.none_of(r:RelO none o):o=none:=by
 cases o with
 |none=>rfl
 |some u=>exact (show False from r).elim
theorem handed_of(r:RelV v u):PySem.W.handedIn u=true:=by
 cases v with
 |non=>cases (show u=Value.none from r);rfl
 |bl b=>cases (show u=Value.bool b from r);rfl
 |int i=>obtain⟨t,e⟩:=(show ∃t,u=Value.int i t from r);cases e;rfl
 |str x=>obtain⟨t,e⟩:=(show ∃t,u=Value.str x t from r);cases e;rfl
 |byt b=>obtain⟨t,e⟩:=(show ∃t,u=Value.bytes b t from r);cases e;rfl
 |flt b=>obtain⟨t,e⟩:=(show ∃t,u=Value.float b t from r);cases e;rfl
 |ref a=>cases (show u=Value.ref a from r);rfl
 |ty n=>cases (show u=Value.type n from r);rfl
section
variable{P:Program}{w:World}{H H':Hp}{h h':Heap}{a C dx:Addr}{fs fs':List (Str×V)}
theorem ins_get(hok:HOk P w H h)(e:H a=some (.ins C dx fs)):∃mA,ObjM h a dx C mA/\(∀f,RelO (fs.lookup f) (mA f))/\PySem.Within mA (fs.map (·.1))/\fs.length<=1000/\H dx=some (.own a):=by
 obtain⟨d,z,ne,ob,mA,n,r,q⟩:=(show ObjOk P w H h a (.ins C dx fs) from hok a _ e)
 exact⟨mA,⟨ob,n,ne⟩,r,q,z,d⟩
end
structure Cls(K:PySem.W.Frag)(C:Addr):Prop where
 pg:PySem.W.plainGet K C Str.empty=true
 hd:PySem.W.hasDictIn K C=true
 po:PySem.W.plainOver K C=true
 sa:PySem.W.findIn K (.ref C) "__setattr__"=some (some (.builtin "object.__setattr__"))
theorem Cls.get{K:PySem.W.Frag}{C:Addr}(c:Cls K C)(f:Str):PySem.W.plainGet K C f=true:=c.pg
def NoAttr(K:PySem.W.Frag)(C:Addr)(f:Str):Prop:=PySem.W.findIn K (.ref C) f=some none
theorem NoAttr.taker{K:PySem.W.Frag}{C:Addr}{f:Str}(n:NoAttr K C f):PySem.W.takerIn K C f=some none:=by
 unfold PySem.W.takerIn;rw[show PySem.W.findIn K (.ref C) f=some none from n]
 rfl
structure Meth(K:PySem.W.Frag)(C:Addr)(m:Str)(f:Addr):Prop where
 at_:PySem.W.findIn K (.ref C) m=some (some (.ref f))
 fn:PySem.W.isFn K (.ref f)=true
 kp:PySem.W.keepIn K (.ref f)=true
section
variable{X:Cx}{aaD:List (Addr×Obj)}{σ:St}{H:Hp}{s:Shared}{a C dx:Addr}{fs:List (Str×V)}{f:Str}{v:V}{A:Around}{E:Value->Shared->Prop}
theorem getattr_ok(I:Inv X aaD σ H s)(e:H a=some (.ins C dx fs))(c:Cls X.K C)(n:NoAttr X.K C f)(l:fs.lookup f=some v)
  (h:∀u s',Inv X aaD σ H s'->RelV v u->Q u s'):wpAny (model X.prog X.w) A (getAttr (.ref a) f b) Q E s:=by
 obtain⟨mA,O,r,_,_,_⟩:=ins_get I.hok e;obtain⟨u,hu,ru⟩:=RelO.some_of (v:=v) (o:=mA f) (by rw[<-l];exact r f)
 exact get_map I.kIn O (c.get f) c.hd n hu (handed_of ru) (h u _ (I.tok _) ru)
theorem getmeth_ok(I:Inv X aaD σ H s)(e:H a=some (.ins C dx fs))(c:Cls X.K C)(k:Meth X.K C m g)(l:fs.lookup m=none)
  (h:Q (.ref g,[.ref a]) s):wpAny (model X.prog X.w) A (getMethod (.ref a) m pl) Q E s:=by
 obtain⟨mA,O,r,_,_,_⟩:=ins_get I.hok e;have hn:mA m=none:=RelO.none_of (by rw[<-l];exact r m)
 exact get_meth I.kIn O (c.get m) k.at_ k.fn hn h
theorem setattr_ok(I:Inv X aaD σ H s)(e:H a=some (.ins C dx fs))(c:Cls X.K C)(n:NoAttr X.K C f)(hl:fs.length<1000)(ry:RelV y u)
  (h:∀s',Inv X aaD σ (upd H a (.ins C dx (putF f y fs))) s'->Q () s'):wpAny (model X.prog X.w) A (setAttr (.ref a) f u) Q E s:=by
 obtain⟨mA,O,r,wi,_,ho⟩:=ins_get I.hok e;have hz:(fs.map (·.1)).length<=sizeLine:=by rw[Wh,YS];omega
 refine set_map I.kIn O c.sa c.po n.taker c.hd wi hz λh' O' sb=>h _ ?_
 have hd:∃o,h'.get? dx=some o:=let ⟨o,_,_,e',_⟩:=O'.ns;⟨o,e'⟩
 refine I.write (x:=a) (e:=dx) (by rw[e];exact True.intro) (.inr ho) (λb q hb z=>(sb.2 b hb).trans z) hd ?_
 refine⟨by rw[upd_ne O.ne];exact ho,?_,O.ne,O'.obj,_,O'.ns,λg=>?_,λg hg=>?_⟩
 ·have:=length_putF f y fs;omega
 ·show RelO ((putF f y fs).lookup g) (if g=f then some u else mA g)
  rw[lookup_putF];by_cases q:g=f
  ·rw[Wm q,Wm q];exact ry
  ·rw[Wr q,Wr q];exact r g
 ·by_cases q:g=f
  ·rw[q];exact (keys_putF f y fs).1
  ·refine (keys_putF f y fs).2 g (wi g λz=>hg ?_)
   show (if g=f then some u else mA g)=none
   rw[Wr q];exact z
theorem Inv.made(I:Inv X aaD σ H s):Inv X aaD σ (upd (upd H s.heap.objs.size (.own (s.heap.objs.size+1))) (s.heap.objs.size+1) (.ins C s.heap.objs.size []))
  { s with heap:=(s.heap.push PySem.W.emptyDict).push (PySem.W.instObj C s.heap.objs.size) }:=by
 have e1:(s.heap.push PySem.W.emptyDict).get? s.heap.objs.size=some PySem.W.emptyDict:=Wl s.heap rfl;have e2:((s.heap.push PySem.W.emptyDict).push (PySem.W.instObj C s.heap.objs.size)).get? (s.heap.objs.size+1)=some (PySem.W.instObj C s.heap.objs.size):=by
  have:=Wl (s.heap.push PySem.W.emptyDict) (o:=PySem.W.instObj C s.heap.objs.size) rfl
  rwa [WM]at this
 have e3:(s.heap.push PySem.W.emptyDict).Ns s.heap.objs.size (λz=>none):=⟨PySem.W.emptyDict,#[],_,e1,rfl,(λe he=>absurd he (by simp)),λz=>rfl⟩
 have I1:=I.laid (a:=s.heap.objs.size) (o:=.own (s.heap.objs.size+1)) (h':=s.heap.push PySem.W.emptyDict) (t':=s.toks) (λb u q=>Wd _ q) (Wg _) ⟨_,e1⟩
 refine I1.laid (a:=s.heap.objs.size+1) (o:=.ins C s.heap.objs.size []) (t':=s.toks) (λb u q=>Wd _ q) (Nat.le_of_eq (WM _ _)) ?_
 have ne:s.heap.objs.size≠s.heap.objs.size+1:=Wu (Xw _);refine⟨by rw[upd_ne ne,upd_same],X3 _,ne,e2,λz=>none,(Heap.Ns1.of_empty e3).at λo q=>Wd _ q,λz=>True.intro,λy hy=>absurd rfl hy⟩
theorem attr_of(hb:attributeBase e f env (eval e env)=eval e env)
  (h:wpAny (model prog w) A (eval e env) (λo s₁=>wpAny (model prog w) A (getAttr o f true) Q E s₁) E s):wpAny (model prog w) A (eval (.Attribute e f pos) env) Q E s:=
 Attribute_any_ h (by rw[arm_eval_Attribute,hb])
end
def tFld(K:PySem.W.Frag)(ta:TE)(f:Str):TE:=λσ H Q=>ta σ H λx H1=>∃a C dx fs v,x=.ref a/\H1 a=some (.ins C dx fs)/\Cls K C/\NoAttr K C f/\fs.lookup f=some v/\Q v H1
def sFld(K:PySem.W.Frag)(ta tv:TE)(f:Str):TS:=λD σ H=>tv σ H λy H1=>ta σ H1 λx H2=>∃a C dx fs,x=.ref a/\H2 a=some (.ins C dx fs)/\Cls K C/\NoAttr K C f/\fs.length<1000 /\
 D.nx σ (upd H2 a (.ins C dx (putF f y fs)))
section
variable{X:Cx}{o e value:Expr}{f:Str}{pos pos' tpos:Pos}{ta tv:TE}
theorem pe_fld(he:PE X e ta)(hb:attributeBase e f X.env (eval e X.env)=eval e X.env):PE X (.Attribute e f pos) (tFld X.K ta f):=by
 intro aaD s σ H Q I h;refine attr_of hb (thn (he aaD s σ H _ I h) λu s1 ⟨x,H1,I1,rx,a,C,dx,fs,v,ex,ea,c,n,l,q⟩=>?_)
 subst ex;obtain rfl:u=Value.ref a:=rx;exact getattr_ok I1 ea c n l λu' s2 I2 ru=>⟨v,H1,I2,ru,q⟩
theorem ps_fld(ha:PE X o ta)(hv:PE X value tv)(hs:swapsWith value (some (.Attribute o f pos')) pos.line X.env=pure false):PS X (.Assign [.Attribute o f pos'] value pos) (sFld X.K ta tv f):=by
 intro aaD s σ H D I h;refine plainObj_wpAny_Assign_Attribute (thn (hv aaD s σ H _ I h) λu s1 ⟨y,H1,I1,ry,q⟩=>thn (ha aaD s1 σ H1 _ I1 q) λov s2 ⟨x,H2,I2,rx,a,C,dx,fs,ex,ea,c,n,l,q2⟩=>?_) hs
 subst ex;obtain rfl:ov=Value.ref a:=rx;exact setattr_ok I2 ea c n l ry λs3 I3=>⟨σ,_,I3,q2⟩
theorem methcall_of(he:PE X e te)(I:Inv X aaD σ H s)
  (h:te σ H λx H1=>∃a C dx fs g,x=.ref a/\H1 a=some (.ins C dx fs)/\Cls X.K C/\Meth X.K C m g/\fs.lookup m=none /\
    ∀s1,Inv X aaD σ H1 s1->wpAny (model X.prog X.w) X.A (callWith pos (.ref g) [.ref a] (backTo pos (starEach args X.env)) (backToKw pos (keywordEach [] X.env))) Q X.xe s1)
  (ht:eval (.Call (.Attribute e m apos) args [] pos) X.env=(do
    let ov <-eval e X.env
    standAt apos.atName
    let (f,first) <-holding [ov] (getMethod ov m pl)
    callWith pos f first (backTo pos (starEach args X.env)) (backToKw pos (keywordEach [] X.env)))) :
  wpAny (model X.prog X.w) X.A (eval (.Call (.Attribute e m apos) args [] pos) X.env) Q X.xe s:=by
 refine Z6 (pl:=pl) (thn (he aaD s σ H _ I h) λu s1 ⟨x,H1,I1,rx,a,C,dx,fs,g,ex,ea,c,k,l,q⟩=>?_) ht
 subst ex;obtain rfl:u=Value.ref a:=rx;exact getmeth_ok I1 ea c k l (q s1 I1)
end
section
variable{X:Cx}{aaD:List (Addr×Obj)}{σ:St}{H:Hp}{s:Shared}{A:Around}{E:Value->Shared->Prop}{Q:Value->Shared->Prop}{c:Value}{b:Bool}
inductive TyOf(K:PySem.W.Frag)(H:Hp):V->Value->Prop where
 |non:TyOf K H .non (.type "NoneType")
 |bl (x:Bool):TyOf K H (.bl x) (.type "bool")
 |int (i:Int):TyOf K H (.int i) (.type "int")
 |str (x:Str):TyOf K H (.str x) (.type "str")
 |flt (x:UInt64):TyOf K H (.flt x) (.type "float")
 |lst {a:Addr}{xs:List V} (e:H a=some (.lst xs)):TyOf K H (.ref a) (.type "list")
 |frz {a:Addr}{o:Obj}{xs:List V} (e:H a=some (.frz o (.lst xs))):TyOf K H (.ref a) (.type "list")
 |tup {a:Addr}{xs:List V} (e:H a=some (.tup xs)):TyOf K H (.ref a) (.type "tuple")
 |dK {a:Addr}{kvs:List (Key×V)} (e:H a=some (.dK kvs)):TyOf K H (.ref a) (.type "dict")
 |dT {a:Addr}{kvs:List (List Key×V)} (e:H a=some (.dT kvs)):TyOf K H (.ref a) (.type "dict")
 |ins {a C dx:Addr}{fs:List (Str×V)} (e:H a=some (.ins C dx fs)) (cl:Cls K C) (ha:PySem.W.findIn K (.ref C) "__class__"=some (some (.builtin "object.__class__")))
   (hn:PySem.W.specialIn K (.builtin "object.__class__") "__get__"=some (some (.builtin "getset_descriptor.__get__"))) (htk:PySem.W.takesIn K (.builtin "object.__class__")=some true)
   (hm:PySem.W.mroIn K C (.type "object")=some true):TyOf K H (.ref a) (.ref C)
theorem isinst_ok(I:Inv X aaD σ H s)(rx:RelV x u)(ty:TyOf X.K H x t)(e:PySem.W.kitOne X.K t c=some b)(h:∀ tk,Q (.bool b) { s with toks:=tk }):
  wpAny (model X.prog X.w) A (call (.builtin "isinstance") [u,c]) Q E s:=by
 cases ty with
 |non=>cases (show u=Value.none from rx);exact XM PySem.W.kitx_none I.kIn True.intro e (λz=>nomatch z) h
 |bl y=>cases (show u=Value.bool y from rx);exact XM PySem.W.kitx_bool I.kIn True.intro e (λz=>nomatch z) h
 |int i=>obtain⟨t,q⟩:=(show ∃t,u=Value.int i t from rx);cases q;exact XM PySem.W.kitx_int I.kIn True.intro e (λz=>nomatch z) h
 |str y=>obtain⟨t,q⟩:=(show ∃t,u=Value.str y t from rx);cases q;exact XM PySem.W.kitx_str I.kIn True.intro e (λz=>nomatch z) h
 |flt y=>obtain⟨t,q⟩:=(show ∃t,u=Value.float y t from rx);cases q;exact XM PySem.W.kitx_float I.kIn True.intro e (λz=>nomatch z) h
 | @lst a xs ea=>
   cases (show u=Value.ref a from rx)
   obtain⟨_,_,n,_,h1⟩:=(show ObjOk X.prog X.w H s.heap a (.lst xs) from I.hok a _ ea)
   exact XM PySem.W.kitx_list I.kIn ⟨_,h1,rfl⟩ e (λz=>nomatch z) h
 | @frz a ob xs ea=>
   cases (show u=Value.ref a from rx)
   obtain⟨_,_,_,n,_,h1⟩:=(show ObjOk X.prog X.w H s.heap a (.frz ob (.lst xs)) from I.hok a _ ea)
   exact XM PySem.W.kitx_list I.kIn ⟨_,h1,rfl⟩ e (λz=>nomatch z) h
 | @tup a xs ea=>
   cases (show u=Value.ref a from rx)
   obtain⟨_,_,_,p⟩:=(show ObjOk X.prog X.w H s.heap a (.tup xs) from I.hok a _ ea)
   obtain⟨o,h1,h2,_⟩:=p;exact XM PySem.W.kitx_tuple I.kIn ⟨o,h1,h2⟩ e (λz=>nomatch z) h
 | @dK a kvs ea=>
   cases (show u=Value.ref a from rx)
   obtain⟨_,_,vs,_,p⟩:=(show ObjOk X.prog X.w H s.heap a (.dK kvs) from I.hok a _ ea)
   obtain⟨o,es,ep,h1,h2,_⟩:=p;exact XM PySem.W.kitx_dict I.kIn ⟨o,h1,h2.1⟩ e (λz=>nomatch z) h
 | @dT a kvs ea=>
   cases (show u=Value.ref a from rx)
   obtain⟨_,_,xs,_,o,es,ep,h1,h2,_⟩:=(show ObjOk X.prog X.w H s.heap a (.dT kvs) from I.hok a _ ea)
   exact XM PySem.W.kitx_dict I.kIn ⟨o,h1,h2.1⟩ e (λz=>nomatch z) h
 | @ins a C dx fs ea cl ha hn htk hm=>
   cases (show u=Value.ref a from rx)
   obtain⟨mA,O,_⟩:=ins_get I.hok ea;obtain⟨od,J,_⟩:=O.look;exact XM (PySem.W.kitx_own (cl.get _) cl.hd ha hn htk hm) I.kIn J e (λz=>nomatch z) h
end
open PySem PySem.Spec PyProof.Rows
structure Room(k:Nat)(A:Around):Prop where
 hd:A.handled=none
 dp:A.depth+3*k+5<recursionLimit
 un:A.units+16*k+200<cLine
 gd:A.guards=some []
theorem Room.mono(r:Room k A)(h:j<=k):Room j A:=⟨r.hd,by have:=r.dp;omega,by have:=r.un;omega,r.gd⟩
theorem Room.deeper(r:Room (k+1) A)(env:Env):Room k (A.deeper env):=
 ⟨r.hd,by have:=r.dp;show A.depth+1+3*k+5<_;omega,by have:=r.un;show A.units+3+16*k+200<_;omega,r.gd⟩
theorem Room.in1(r:Room (k+1) A):Room k A.in1:=
 ⟨r.hd,by have:=r.dp;show A.depth+3*k+5<_;omega,by have:=r.un;show A.units+1+16*k+200<_;omega,r.gd⟩
theorem make_depth{A:Around}{C:Addr}{us:List Value}{kw:List (Str×Value)}:(A.under (.builtin "type.__call__" ⟨.ref C::us,kw⟩)).depth=A.depth+1:=by
 first | rfl | simp[Around.under,Code.weight,Code.isCreation,Code.isGuard,Code.isCaller,Code.frames,Code.isFrame,guardIds]
theorem make_units{A:Around}{C:Addr}{us:List Value}{kw:List (Str×Value)}:(A.under (.builtin "type.__call__" ⟨.ref C::us,kw⟩)).units=A.units+1:=by
 first | rfl | simp[Around.under,Code.cUnits,Code.frames,Code.isFrame]
theorem CG{A:Around}{C:Addr}{us:List Value}{kw:List (Str×Value)}:(A.under (.builtin "type.__call__" ⟨.ref C::us,kw⟩)).guards=A.guards:=by simp[Around.under,Code.guards,Code.isGuard,guardIds,pushGuards]
theorem Room.make(r:Room (k+1) A)(C:Addr)(us:List Value)(kw:List (Str×Value)):Room k (A.under (.builtin "type.__call__" ⟨.ref C::us,kw⟩)):=
 ⟨r.hd,by have:=r.dp;rw[make_depth];omega,by have:=r.un;rw[make_units];omega,by first | (rw[CG];exact r.gd) | exact r.gd⟩
theorem Room.depth(r:Room k A):A.depth<recursionLimit:=by have:=r.dp;omega
theorem Room.units(r:Room k A):A.units+64<cLine:=by have:=r.un;omega
def tNil:TA:=λz H Q=>Q [] H
def tCons(ta:TE)(tr:TA):TA:=λσ H Q=>ta σ H λx H1=>tr σ H1 λxs H2=>Q (x::xs) H2
section
variable{X:Cx}{e:Expr}{es:List Expr}{te:TE}{t:TA}{pos:Pos}
theorem pa_nil:PA X [] tNil:=λz z z z H Q I h=>aam ⟨[],H,I,.nil,h⟩
theorem pa_cons(ha:PE X e te)(hr:PA X es t)(hs:starEach (e::es) X.env=(false,eval e X.env)::starEach es X.env:=by rfl):PA X (e::es) (tCons te t):=by
 intro pos aaD s σ H Q I h;rw[hs];show wpAny _ _ (spliced ((false,eval e X.env)::backTo pos (starEach es X.env))) _ _ s;refine aah (thn (ha aaD s σ H _ I h) λu s1 ⟨x,H1,I1,r1,q1⟩=>?_)
 exact thn (hr pos aaD s1 σ H1 _ I1 q1) λus s2 ⟨xs,H2,I2,r2,q2⟩=>⟨x::xs,H2,I2,.cons r1 r2,q2⟩
def tTup(t:TA):TE:=λσ H Q=>t σ H λxs H1=>xs.length<=sizeLine/\∀p,H1 p=none->Q (.ref p) (upd H1 p (.tup xs))
def tLst(t:TA):TE:=λσ H Q=>t σ H λxs H1=>xs.length<=sizeLine/\∀p,H1 p=none->Q (.ref p) (upd H1 p (.lst xs))
theorem pe_tup{x1}(h:PA X es t):PE X (.Tuple es x1 pos) (tTup t):=by
 intro aaD s σ H Q I hq;refine wpAny_Tuple_spliced (thn (h pos aaD s σ H _ I hq) λus s1 ⟨xs,H1,I1,r,z,q⟩=>⟨by rw[<-r.length];exact z,?_⟩)
 have hf:H1 s1.heap.objs.size=none:=I1.hok.fresh (Wg _);refine⟨.ref s1.heap.objs.size,upd H1 s1.heap.objs.size (.tup xs),I1.laid (t':=s1.toks) (λb u e=>Wd _ e) (Wg _) ?_,rfl,q _ hf⟩
 exact⟨z,us,r,⟨_,Wl _ rfl,rfl,_,rfl⟩⟩
theorem pe_lst(h:PA X es t):PE X (.List es pos) (tLst t):=by
 intro aaD s σ H Q I hq;refine wpAny_List_spliced (thn (h pos aaD s σ H _ I hq) λus s1 ⟨xs,H1,I1,r,z,q⟩=>⟨by rw[<-r.length];exact z,?_⟩)
 have hf:H1 s1.heap.objs.size=none:=I1.hok.fresh (Wg _);refine⟨.ref s1.heap.objs.size,upd H1 s1.heap.objs.size (.lst xs),I1.laid (t':=s1.toks) (λb u e=>Wd _ e) (Wg _) ?_,rfl,q _ hf⟩
 exact⟨z,us,0,r,Wl _ rfl⟩
end
abbrev Sp:=List V->Hp->VK->XK->Prop
abbrev CXT:=List Env->Hp->Shared->XK->Value->Shared->Prop
structure Env0(P:Program)(w:World)(K:PySem.W.Frag)(mg:Str->Option Value)(base:Heap)(A:Around)(outer:List Env)(s:Shared)(H:Hp):Prop where
 frames:A.frames=some outer
 mod:Mod K mg base
 bs:∀b o,base.get? b=some o->s.heap.get? b=some o/\H b=none
 bsz:base.objs.size<=s.heap.objs.size
 funs:s.heap.FunFrames base outer
 frf:∀b∈frs outer,H b=none
 hok:HOk P w H s.heap
 bare:AllBare s.gens
def CE(outer:List Env)(P:Program)(w:World)(H:Hp)(s:Shared)(Q:VK)(u:Value)(s':Shared):Prop:=
 ∃v H',s'.os=s.os/\AllBare s'.gens/\Un (frs outer) [] H H' s.heap s'.heap/\HOk P w H' s'.heap/\RelV v u/\Q v H'
def CR(CX:CXT)(outer:List Env)(P:Program)(w:World)(H:Hp)(s:Shared)(Q:VK)(E:XK)(r:Result)(s':Shared):Prop:=
 match r with
 |.ok (.ret u)=>CE outer P w H s Q u s'
 |.ok _=>False
 |.error e=>CX outer H s E e s'
structure FnOk(P:Program)(w:World)(K:PySem.W.Frag)(mg:Str->Option Value)(base:Heap)(CX:CXT)(k:Nat)(f:Addr)(fd:FuncData)(ps:List Str)(sp:Sp):Prop where
 len:∀vs H Q E,sp vs H Q E->vs.length=ps.length
 run:∀(A:Around) (outer:List Env) (s:Shared) (H:Hp) (args:Args) (us:List Value) (vs:List V) (Q:VK) (E:XK),Room k A->Env0 P w K mg base A outer s H->BindsTo s fd args (ps.zip us)->Vals vs us->sp vs H Q E->
  codeAny (model P w) A (.call (.ref f) args) (CR CX outer P w H s Q E) s
theorem FnOk.mono{P:Program}{w:World}{K:PySem.W.Frag}{mg:Str->Option Value}{base:Heap}{CX:CXT}{j k:Nat}{f:Addr}{fd:FuncData}{ps:List Str}{sp:Sp}(F:FnOk P w K mg base CX j f fd ps sp)(h:j<=k):
  FnOk P w K mg base CX k f fd ps sp:=⟨F.len,λA outer s H args us vs Q E hr=>F.run A outer s H args us vs Q E (hr.mono h)⟩
theorem FnOk.imp{P:Program}{w:World}{K:PySem.W.Frag}{mg:Str->Option Value}{base:Heap}{CX:CXT}{k:Nat}{f:Addr}{fd:FuncData}{ps:List Str}{sp sp':Sp}(F:FnOk P w K mg base CX k f fd ps sp)
  (h:∀vs H Q E,sp' vs H Q E->sp vs H Q E):FnOk P w K mg base CX k f fd ps sp':=
 ⟨λvs H Q E q=>F.len vs H Q E (h _ _ _ _ q),λA outer s H args us vs Q E hr he hb hv hs=>F.run A outer s H args us vs Q E hr he hb hv (h _ _ _ _ hs)⟩
theorem Env0.make{P:Program}{w:World}{K:PySem.W.Frag}{mg:Str->Option Value}{base:Heap}{A:Around}{outer:List Env}{s:Shared}{H:Hp}(e:Env0 P w K mg base A outer s H)(C:Addr)(us:List Value)(kw:List (Str×Value)):
  Env0 P w K mg base (A.under (.builtin "type.__call__" ⟨.ref C::us,kw⟩)) outer s H:=⟨by first | exact e.frames | (simpa[Around.under,Code.envs,Code.isFrame,pushEnvs] using e.frames),e.mod,e.bs,e.bsz,e.funs,e.frf,e.hok,e.bare⟩
section
variable{X:Cx}{aaD:List (Addr×Obj)}{σ:St}{H:Hp}{s s':Shared}
theorem Inv.env0(I:Inv X aaD σ H s):Env0 X.prog X.w X.K X.mg X.base X.A X.stack s H:=
 ⟨I.ok.frames,I.ok.mod,I.bs,Xm I.ok.bsz I.sz,I.stack,I.stkFree,I.hok,I.bare⟩
theorem Inv.after(I:Inv X aaD σ H s)(h:CE X.stack X.prog X.w H s Q u s'):EP X aaD σ Q u s':=by obtain⟨v,H',os,bare,un,hok,r,q⟩:=h;obtain⟨hh,g,d,t,os'⟩:=s';obtain rfl:os'=s.os:=os;exact⟨v,H',I.call (h':=hh) (g':=g) (d':=d) (t':=t) (ch:=[]) un hok bare (λb z=>absurd z (by simp)),r,q⟩
end
def tCall(sp:Sp)(dvs:List V)(E:XK)(t:TA):TE:=λσ H Q=>t σ H λvs H1=>sp (vs++dvs) H1 Q E
def tMeth(C:Addr)(m:Str)(sp:Sp)(dvs:List V)(E:XK)(ta:TE)(t:TA):TE:=λσ H Q=>ta σ H λx H1=>∃a dx fs,x=.ref a/\H1 a=some (.ins C dx fs)/\fs.lookup m=none /\
 t σ H1 λvs H2=>sp (x::(vs++dvs)) H2 Q E
def tMake(C:Addr)(sp:Sp)(dvs:List V)(E:XK)(t:TA):TE:=λσ H Q=>t σ H λvs H1=>∀x dx,H1 x=none->H1 dx=none->dx≠x->
 sp (.ref x::(vs++dvs)) (upd (upd H1 dx (.own x)) x (.ins C dx [])) (λv H2=>v=.non/\Q (.ref x) H2) E
def Binds(K:PySem.W.Frag)(fd:FuncData)(ps:List Str)(ds:List Value):Prop:=
 ∀(s:Shared) (us:List Value),K.In s.heap->(us++ds).length=ps.length->BindsTo s fd ⟨us,[]⟩ (ps.zip (us++ds))
theorem Binds.all{K:PySem.W.Frag}{fd:FuncData}{ps:List Str}(h:∀us:List Value,us.length=ps.length->bindArgs fd ⟨us,[]⟩=pure (ps.zip us)):Binds K fd ps []:=λs us z hl=>by
 rw[Yo]at hl ⊢
 exact .of_eq (h us hl)
def Passes(CX:CXT)(X:Cx)(E:XK):Prop:=∀(aaD:List (Addr×Obj)) (σ:St) (H:Hp) (s:Shared) (e:Value) (s':Shared),Inv X aaD σ H s->CX X.stack H s E e s'->X.xe e s'
section
variable{X:Cx}{CX:CXT}{k:Nat}{f C:Addr}{fd:FuncData}{ps:List Str}{sp:Sp}{dvs:List V}{ds:List Value}{E:XK}{x m:Str}{p pos apos:Pos}{e o:Expr}{es:List Expr}{ta:TE}{t:TA}
theorem run_fn(F:FnOk X.prog X.w X.K X.mg X.base CX k f fd ps sp)(hr:Room k X.A)(hb:Binds X.K fd ps ds)(hd:Vals dvs ds)(hx:Passes CX X E)
  (I:Inv X aaD σ H s) (r:Vals vs us) (h:sp (vs++dvs) H Q E):wpAny (model X.prog X.w) X.A (call (.ref f) us) (EP X aaD σ Q) X.xe s:=by
 have r2:Vals (vs++dvs) (us++ds):=r.append hd;have hl:(us++ds).length=ps.length:=by rw[<-r2.length];exact F.len _ _ _ _ h
 refine aaA (Ze (F.run X.A X.stack s H ⟨us,[]⟩ (us++ds) (vs++dvs) Q E hr I.env0 (hb s us I.kIn hl) r2 h) λr s' hq=>?_)
 cases r with
 |error e=>exact hx aaD σ H s e s' I hq
 |ok fl=>
   cases fl with
   |ret u=>exact I.after hq
   |next=>exact False.elim hq
   |brk=>exact False.elim hq
   |cont=>exact False.elim hq
theorem pe_call(F:FnOk X.prog X.w X.K X.mg X.base CX k f fd ps sp)(hr:Room k X.A)(hg:Gl X x)(hm:X.mg x=some (.ref f))(hk:PySem.W.keepIn X.K (.ref f)=true)(hb:Binds X.K fd ps ds)(hd:Vals dvs ds)(hx:Passes CX X E)
  (ha:PA X (e::es) t) (hdb:(x==("__debug__":Str))=false:=by decide) (he:starEach (e::es) X.env=(false,eval e X.env)::starEach es X.env:=by rfl) (hpl:(backTo pos (starEach es X.env)).any (·.1)=false:=by rfl) :
  PE X (.Call (.Name x p) (e::es) [] pos) (tCall sp dvs E t):=by
 intro aaD s σ H Q I h;refine Y5 (ld_glob I hg hm ?_ hdb);refine PySem.W.callWith_K (h₀:=X.base) I.ok.mod.kin hk (thn (ha pos aaD s σ H _ I h) λus s1 ⟨vs,H1,I1,r,q⟩=>⟨I1.kIn,?_⟩) he hpl
 exact run_fn F hr hb hd hx I1 r q
theorem pe_meth(he:PE X o ta)(c:Cls X.K C)(hm:Meth X.K C m f)(F:FnOk X.prog X.w X.K X.mg X.base CX k f fd ps sp)(hr:Room k X.A)(hb:Binds X.K fd ps ds)(hd:Vals dvs ds)(hx:Passes CX X E)(ha:PA X (e::es) t)
  (hst:starEach (e::es) X.env=(false,eval e X.env)::starEach es X.env:=by rfl) (hpl:(backTo pos (starEach es X.env)).any (·.1)=false:=by rfl)
  (ht:eval (.Call (.Attribute o m apos) (e::es) [] pos) X.env=(do
    let ov <-eval o X.env
    standAt apos.atName
    let (f,first) <-holding [ov] (getMethod ov m pl)
    callWith pos f first (backTo pos (starEach (e::es) X.env)) (backToKw pos (keywordEach [] X.env))):=by rfl) :
  PE X (.Call (.Attribute o m apos) (e::es) [] pos) (tMeth C m sp dvs E ta t):=by
 intro aaD s σ H Q I h;refine Z6 (pl:=pl) (thn (he aaD s σ H _ I h) λu s1 ⟨x,H1,I1,rx,a,dx,fs,ex,ea,l,q⟩=>?_) ht
 subst ex;obtain rfl:u=Value.ref a:=rx;refine getmeth_ok I1 ea c hm l ?_;refine PySem.W.callWith_K (first:=[.ref a]) (h₀:=X.base) I.ok.mod.kin hm.kp (thn (ha pos aaD s1 σ H1 _ I1 q) λus s2 ⟨vs,H2,I2,r,q2⟩=>⟨I2.kIn,?_⟩) hst hpl
 exact run_fn (us:=.ref a::us) (vs:=.ref a::vs) F hr hb hd hx I2 (.cons rfl r) q2
structure Mk(K:PySem.W.Frag)(C f:Addr):Prop where
 makes:PySem.W.makesIn K C=true
 init:PySem.W.findIn K (.ref C) "__init__"=some (some (.ref f))
 fn:PySem.W.isFn K (.ref f)=true
 kp:PySem.W.keepIn K (.ref C)=true
theorem run_make(M:Mk X.K C f)(F:FnOk X.prog X.w X.K X.mg X.base CX k f fd ps sp)(hr:Room (k + 1) X.A)(hb:Binds X.K fd ps ds)(hd:Vals dvs ds)
  (hx:Passes CX X E) (I:Inv X aaD σ H s) (r:Vals vs us)
  (h:∀x dx,H x=none->H dx=none->dx≠x->sp (.ref x::(vs++dvs)) (upd (upd H dx (.own x)) x (.ins C dx [])) (λv H2=>v=.non/\Q (.ref x) H2) E) :
  wpAny (model X.prog X.w) X.A (call (.ref C) us) (EP X aaD σ Q) X.xe s:=by
 have hq:=h (s.heap.objs.size+1) s.heap.objs.size (I.hok.fresh (Nat.le_succ _)) (I.hok.fresh (Wg _)) (Wu (Xw _));have I2:=Inv.made (C:=C) I;have r2:Vals (V.ref (s.heap.objs.size+1)::(vs++dvs)) (Value.ref (s.heap.objs.size+1)::(us++ds)):=.cons rfl (r.append hd);have hl:(Value.ref (s.heap.objs.size+1)::us++ds).length=ps.length:=by have e:=r2.length;rw[F.len _ _ _ _ hq]at e;exact e.symm
 refine aaA (make_map (f:=f) I.kIn M.makes M.init (aab.mp M.fn) (Ze (F.run _ X.stack _ _ ⟨Value.ref (s.heap.objs.size+1)::us,[]⟩ (Value.ref (s.heap.objs.size+1)::(us++ds)) _ _ E (hr.make C us [])
  (I2.env0.make C us []) (hb _ (Value.ref (s.heap.objs.size+1)::us) I2.kIn hl) r2 hq) λr s' hq'=>?_))
 cases r with
 |error e=>exact hx aaD σ _ _ e s' I2 hq'
 | ok fl=>
   cases fl with
   |ret u=>obtain⟨v,H',I3,rv,ev,q3⟩:=I2.after hq';subst ev;exact⟨rv,⟨V.ref (s.heap.objs.size+1),H',I3,rfl,q3⟩⟩
   |next=>exact False.elim hq'
   |brk=>exact False.elim hq'
   |cont=>exact False.elim hq'
theorem pe_make(M:Mk X.K C f)(F:FnOk X.prog X.w X.K X.mg X.base CX k f fd ps sp)(hr:Room (k+1) X.A)(hg:Gl X x)(hm:X.mg x=some (.ref C))(hb:Binds X.K fd ps ds)(hd:Vals dvs ds)(hx:Passes CX X E)
  (ha:PA X (e::es) t) (hdb:(x==("__debug__":Str))=false:=by decide) (he:starEach (e::es) X.env=(false,eval e X.env)::starEach es X.env:=by rfl) (hpl:(backTo pos (starEach es X.env)).any (·.1)=false:=by rfl) :
  PE X (.Call (.Name x p) (e::es) [] pos) (tMake C sp dvs E t):=by
 intro aaD s σ H Q I h;refine Y5 (ld_glob I hg hm ?_ hdb);refine PySem.W.callWith_K (h₀:=X.base) I.ok.mod.kin M.kp (thn (ha pos aaD s σ H _ I h) λus s1 ⟨vs,H1,I1,r,q⟩=>⟨I1.kIn,?_⟩) he hpl
 exact run_make M F hr hb hd hx I1 r q
end
def PK(X:Cx)(kws:List Keyword)(t:TA):Prop:=
 ∀(pos:Pos) (aaD:List (Addr×Obj)) (s:Shared) (σ:St) (H:Hp) (Q:List V->Hp->Prop),Inv X aaD σ H s->t σ H Q->wpAny (model X.prog X.w) X.A (evalAll ((backToKw pos (keywordEach kws X.env)).map (·.2))) (AP X aaD σ Q) X.xe s
section
variable{X:Cx}{CX:CXT}{k:Nat}{f C:Addr}{fd:FuncData}{ps ks:List Str}{sp:Sp}{E:XK}{x m:Str}{p pos apos kpos:Pos}{e o:Expr}{es:List Expr}{kws:List Keyword}{te ta:TE}{t tk:TA}{nm:Option Str}
theorem pk_nil:PK X [] tNil:=λz z z z H Q I h=>wpAny_evalAll_nil ⟨[],H,I,.nil,h⟩
theorem pk_cons(ha:PE X e te)(hr:PK X kws t):PK X (⟨nm,e,kpos⟩::kws) (tCons te t):=by
 intro pos aaD s σ H Q I h;show wpAny _ _ (evalAll ((do let v <-eval e X.env;standAt pos;pure v)::(backToKw pos (keywordEach kws X.env)).map (·.2))) _ _ s
 refine wpAny_evalAll_cons (Wc (thn (ha aaD s σ H _ I h) λu s1 ⟨x,H1,I1,r1,q1⟩=>Wc (Yw (We ?_))))
 exact thn (hr pos aaD s1 σ H1 _ I1 q1) λus s2 ⟨xs,H2,I2,r2,q2⟩=>⟨x::xs,H2,I2,.cons r1 r2,q2⟩
structure KBinds(K:PySem.W.Frag)(fd:FuncData)(ps ks:List Str)(g:List Value->List Value->List Value)(gV:List V->List V->List V):Prop where
 to:∀(s:Shared) (us ws:List Value),K.In s.heap->(g us ws).length=ps.length->BindsTo s fd ⟨us,ks.zip ws⟩ (ps.zip (g us ws))
 rel:∀{vs:List V}{us:List Value}{zs:List V}{ws:List Value},Vals vs us->Vals zs ws->Vals (gV vs zs) (g us ws)
def tCallK(sp:Sp)(gV:List V->List V->List V)(E:XK)(t tk:TA):TE:=λσ H Q=>t σ H λvs H1=>tk σ H1 λzs H2=>sp (gV vs zs) H2 Q E
variable{g:List Value->List Value->List Value}{gV:List V->List V->List V}
theorem run_fnk(F:FnOk X.prog X.w X.K X.mg X.base CX k f fd ps sp)(hr:Room k X.A)(hb:KBinds X.K fd ps ks g gV)(hx:Passes CX X E)
  (I:Inv X aaD σ H s) (r:Vals vs us) (rz:Vals zs ws) (h:sp (gV vs zs) H Q E):wpAny (model X.prog X.w) X.A (call (.ref f) us (ks.zip ws)) (EP X aaD σ Q) X.xe s:=by
 have r2:=hb.rel r rz;have hl:(g us ws).length=ps.length:=by rw[<-r2.length];exact F.len _ _ _ _ h
 refine aaA (Ze (F.run X.A X.stack s H ⟨us,ks.zip ws⟩ (g us ws) (gV vs zs) Q E hr I.env0 (hb.to s us ws I.kIn hl) r2 h) λr s' hq=>?_)
 cases r with
 |error e=>exact hx aaD σ H s e s' I hq
 |ok fl=>
   cases fl with
   |ret u=>exact I.after hq
   |next=>exact False.elim hq
   |brk=>exact False.elim hq
   |cont=>exact False.elim hq
theorem pe_callK(F:FnOk X.prog X.w X.K X.mg X.base CX k f fd ps sp)(hr:Room k X.A)(hg:Gl X x)(hm:X.mg x=some (.ref f))(hk:PySem.W.keepIn X.K (.ref f)=true)(hb:KBinds X.K fd ps ks g gV)(hx:Passes CX X E)
  (ha:PA X (e::es) t) (hkw:PK X kws tk) (hall:(backToKw pos (keywordEach kws X.env)).all (·.1.isSome)=true:=by rfl) (hks:(backToKw pos (keywordEach kws X.env)).filterMap (·.1)=ks:=by rfl)
  (hdb:(x==("__debug__":Str))=false:=by decide) (he:starEach (e::es) X.env=(false,eval e X.env)::starEach es X.env:=by rfl)
  (hpl:((backTo pos (starEach (e::es) X.env)).any (·.1) || (backToKw pos (keywordEach kws X.env)).any (·.1.isNone))=false:=by rfl) :
  PE X (.Call (.Name x p) (e::es) kws pos) (tCallK sp gV E t tk):=by
 intro aaD s σ H Q I h;refine Y5 (ld_glob I hg hm ?_ hdb);refine PySem.W.callWith_KW (h₀:=X.base) I.ok.mod.kin hk hall (thn (ha pos aaD s σ H _ I h) λus s1 ⟨vs,H1,I1,r,q⟩=>?_) hpl he
 refine thn (hkw pos aaD s1 σ H1 _ I1 q) λws s2 ⟨zs,H2,I2,rz,q2⟩=>⟨I2.kIn,?_⟩
 rw[hks];exact run_fnk F hr hb hx I2 r rz q2
end
structure FnScope(N P:List Str)(sc:Scope):Prop where
 kind:sc.kind=.function
 co:sc.isCoroutine=false
 gen:sc.isGenerator=false
 nd:N.Nodup
 pre:N.take P.length=P
 par:∀x∈P,sc.names.lookup x=some .local\/sc.names.lookup x=some .cell
 nofree:∀y∈sc.names,y.2≠.free
theorem bindL_out{kindOf:Str->Option NameKind}:∀ {binds:List (Str×Value)}{m:Str->Option Value},(∀ v,(x,v)∉binds)->bindL kindOf binds m x=m x
 |[],_,_=>rfl
 | (n,v)::r,m,h=>by
   unfold bindL;rw[bindL_out λw hw=>h w (W4 _ hw)]
   split
   ·have:x≠n:=by rintro rfl;exact h v Xg
    simp[this]
   ·rfl
theorem bindC_out{kindOf:Str->Option NameKind}:∀ {binds:List (Str×Value)}{m:Str->Option Value},(∀ v,(x,v)∉binds)->bindC kindOf binds m x=m x
 |[],_,_=>rfl
 | (n,v)::r,m,h=>by
   unfold bindC;rw[bindC_out λw hw=>h w (W4 _ hw)]
   split
   ·rfl
   ·have:x≠n:=by rintro rfl;exact h v Xg
    simp[this]
theorem bindL_get{kindOf:Str->Option NameKind}:∀ {P:List Str}{vs:List Value}{i:Nat}{m:Str->Option Value},P.Nodup->P[i]?=some x->vs[i]?=some v->kindOf x=some .local->
  bindL kindOf (P.zip vs) m x=some v
 |[],_,_,_,_,h,_,_=>by simp at h
 |_::_,[],_,_,_,_,h,_=>by simp at h
 |p::P,w::vs,0,m,nd,h1,h2,hk=>by
   simp at h1 h2;subst h1;subst h2;show bindL kindOf ((p,w)::P.zip vs) m p=_;unfold bindL;rw[bindL_out λv hv=>(aad.mp nd).1 (aax hv).1,Wm hk]
   simp
 |p::P,w::vs,i+1,m,nd,h1,h2,hk=>by show bindL kindOf ((p,w)::P.zip vs) m x=_;unfold bindL;exact bindL_get (i:=i) (aad.mp nd).2 (by simpa using h1) (by simpa using h2) hk
theorem bindC_get{kindOf:Str->Option NameKind}:∀ {P:List Str}{vs:List Value}{i:Nat}{m:Str->Option Value},P.Nodup->P[i]?=some x->vs[i]?=some v->kindOf x≠some .local->
  bindC kindOf (P.zip vs) m x=some v
 |[],_,_,_,_,h,_,_=>by simp at h
 |_::_,[],_,_,_,_,h,_=>by simp at h
 |p::P,w::vs,0,m,nd,h1,h2,hk=>by
   simp at h1 h2;subst h1;subst h2;show bindC kindOf ((p,w)::P.zip vs) m p=_;unfold bindC;rw[bindC_out λv hv=>(aad.mp nd).1 (aax hv).1,Wr hk]
   simp
 |p::P,w::vs,i+1,m,nd,h1,h2,hk=>by show bindC kindOf ((p,w)::P.zip vs) m x=_;unfold bindC;exact bindC_get (i:=i) (aad.mp nd).2 (by simpa using h1) (by simpa using h2) hk
def start(N:List Str)(vs:List V):St:=vs.map some++List.replicate (N.length-vs.length) none
def cxOf(CX:CXT)(P:Program)(w:World)(K:PySem.W.Frag)(mg:Str->Option Value)(base:Heap)(N:List Str)(qual:Str)(scope:Scope)(f:Addr)(cd:Value)(A:Around)(outer:List Env)(s:Shared)(H:Hp)(E:XK):Cx where
 prog:=P
 w:=w
 K:=K
 mg:=mg
 base:=base
 A:=A.deeper (envOfC qual scope s.heap.objs.size f cd)
 N:=N
 s₀:=s
 H₀:=H
 env:=envOfC qual scope s.heap.objs.size f cd
 outer:=outer
 stack:=envOfC qual scope s.heap.objs.size f cd::outer
 ex:=[]
 calm:=true
 fn:=λz=>true
 pn:=[]
 xe:=λe s'=>wpAny (model P w) (A.deeper (envOfC qual scope s.heap.objs.size f cd)) (leaving (envOfC qual scope s.heap.objs.size f cd) e) (λz s''=>CX outer H s E e s'') (λe' s''=>CX outer H s E e' s'') s'
theorem cell_has{sc:Scope}{n:Nat}{x:Str}(h:sc.names.lookup x=some .cell):∃c,(cellsFrom n sc.names []).lookup x=some c:=by have q:=PySem.W.cellsFrom_some sc.names n [] (.inl h);exact YZ.mp q
theorem inv_start{CX:CXT}{P:Program}{w:World}{K:PySem.W.Frag}{mg:Str->Option Value}{base:Heap}{N ps:List Str}{qual:Str}{scope:Scope}{f:Addr}{cd:Value}{A:Around}{outer:List Env}{s s1:Shared}{H:Hp}{E:XK}{us:List Value}{vs:List V}
  (S:FnScope N ps scope) (hd:A.handled=none) (e0:Env0 P w K mg base A outer s H) (hl:vs.length=ps.length) (r:Vals vs us)
  (x:InCallC s s.heap.objs.size (bindL (envOfC qual scope s.heap.objs.size f cd).kindOf (ps.zip us) λt=>none) (cellsFrom (s.heap.objs.size+1) scope.names []) (bindC (envOfC qual scope s.heap.objs.size f cd).kindOf (ps.zip us) λt=>none) s1) :
  Inv (cxOf CX P w K mg base N qual scope f cd A outer s H E) [] (start N vs) H s1:=by
 have hpl:ps.length<=N.length:=by have:=congrArg List.length S.pre;rw[Yi]at this;omega
 obtain⟨h1,tk,rfl,hk⟩:=x.done;have noA:∀b:Addr,b∉(cxOf CX P w K mg base N qual scope f cd A outer s H E).ex:=λb z=>absurd (show b∈([]:List Addr) from z) (by simp)
 refine⟨⟨e0.mod,S.kind,rfl,rfl,Wg _,λy z c h1 h2=>?_,λy hy=>?_,λy c t h=>?_,λt=>hd,Around.frames_deeper e0.frames,.inr ⟨rfl,rfl⟩,λb z=>absurd z (noA b),e0.bs,e0.bsz,λb t t=>noA b,λb z=>absurd z (noA b),e0.funs,e0.frf⟩,
  rfl,e0.bare,Un.kept hk,⟨_,x.toInCall.ns,λi y v h1 h2 h3=>?_⟩,λy c h=>⟨_,x.cell y c h⟩,e0.hok.fresh (Wg _),λy c h=>?_,λp hp=>absurd (show p∈([]:List (Addr×Obj)) from hp) (by simp),e0.hok.kept hk,?_⟩
 ·exact name_of_addr x.apart (Xp h1) (Xp h2)
 ·have hy:scope.names.lookup y=some .cell\/scope.names.lookup y=some .free:=hy;rcases hy with hy | hy
  ·exact cell_has hy
  ·exact absurd rfl (S.nofree _ (Xp hy))
 ·exact Yr (x.above y c (Xp h))
 ·have hi:i<vs.length:=by
   unfold start at h2;by_cases hi:i<vs.length
   ·exact hi
   ·rw[Xc (by simpa using hi)]at h2
    rw[Yx]at h2;split at h2<;>cases h2
  have ha:vs[i]?=some v:=by
   unfold start at h2;rw[Ws (by simpa using hi),Wn]at h2
   cases e:vs[i]? with
   |none=>rw[e]at h2;cases h2
   |some a=>rw[e]at h2;cases h2;rfl
  obtain⟨u,hu,rv⟩:=r.get ha;have hp:ps[i]?=some y:=by rw[<-S.pre,List.getElem?_take_of_lt (by omega)];exact h1
  have ndP:ps.Nodup:=by rw[<-S.pre];exact S.nd.sublist (List.take_sublist _ _)
  refine⟨u,rv,?_⟩;rcases S.par y (W6 hp) with k | k
  ·exact .inl ⟨k,bindL_get ndP hp hu k⟩
  ·obtain⟨c,e⟩:=cell_has (n:=s.heap.objs.size+1) k;refine .inr ⟨.inl k,c,e,?_⟩;have q:=x.cell y c e;rw[bindC_get ndP hp hu (by show scope.names.lookup y≠_;rw[k];decide)]at q
   exact q
 ·exact e0.hok.fresh (Yr (x.above y c (Xp h)))
 ·unfold start;show _=N.length;rw[Ww,Wh,Xi];omega
theorem fn_of{CX:CXT}{P:Program}{w:World}{K:PySem.W.Frag}{mg:Str->Option Value}{base:Heap}{k:Nat}{f:Addr}{name qual:Str}{params:Arguments}{body:List Stmt}{scope:Scope}{dV kV doc pm cdv ct oc:Value}{an od:Option Addr}
  {osl:Array (Option Value)}{N ps:List Str}{sp:Sp} (lk:K.lookup f=some ⟨oc,od,.func (PySem.W.fnOf name qual params body scope dV kV doc pm an cdv ct),osl⟩) (hcd:PySem.W.codeIn K cdv qual=true) (S:FnScope N ps scope)
  (len:∀vs H Q E,sp vs H Q E->vs.length=ps.length)
  (hbody:∀(A:Around) (outer:List Env) (s:Shared) (H:Hp) (vs:List V) (Q:VK) (E:XK),Room k (A.deeper (envOfC qual scope s.heap.objs.size f cdv))->sp vs H Q E->
    ∃t,PSs (cxOf CX P w K mg base N qual scope f cdv A outer s H E) body t/\t { nx:=λz H'=>Q .non H',rt:=Q } (start N vs) H) :
  FnOk P w K mg base CX (k+1) f (PySem.W.fnOf name qual params body scope dV kV doc pm an cdv ct) ps sp:=by
 refine⟨len,λA outer s H args us vs Q E hr e0 hb r hsp=>?_⟩
 have hl:=len _ _ _ _ hsp;have KX:K.In s.heap:=e0.mod.kin.keeps λb o e=>(e0.bs b o e).1
 have lim:s.heap.NoLimit:=e0.mod.nolimit.keeps λb o e=>(e0.bs b o e).1
 have hkind:∀y∈ps.zip us,scope.names.lookup y.1=some .local\/(scope.names.lookup y.1=some .cell/\((cellsFrom (s.heap.objs.size+1) scope.names []).lookup y.1).isSome=true):=λ⟨n,v⟩ hy=>by
  rcases S.par n (aax hy).1 with q | q
  ·exact .inl q
  ·exact .inr ⟨q,PySem.W.cellsFrom_some _ _ _ (.inl q)⟩
 refine codeAny_call_function hr.depth (KX _ _ lk) rfl S.co S.gen rfl (PySem.W.codeRec_of KX hcd) (hb _ _ _ _ ?_);refine wpAny_newFunctionEnv_cells S.kind hkind λenv he s1 x=>?_
 subst he;refine⟨lim.keeps x.toInCall.keep,codeAny_func ?_⟩;obtain⟨t,ht,hq⟩:=hbody A outer s H vs Q E (hr.deeper _) hsp;have I:Inv (cxOf CX P w K mg base N qual scope f cdv A outer s H E) [] (start N vs) H s1:=inv_start S hr.hd e0 hl r x;refine Wx (ht [] s1 (start N vs) H _ I hq) (λfl s' hs=>?_) λe s' hs=>hs
 have fin:∀{σ':St}{H':Hp}{v:V}{u:Value},Inv (cxOf CX P w K mg base N qual scope f cdv A outer s H E) [] σ' H' s'->RelV v u->Q v H'->CE outer P w H s Q u s':=
  λ{σ' H' v u} J rv q=>⟨v,H',J.os,J.bare,J.base,J.hok,rv,q⟩
 cases fl with
 |ret u=>obtain⟨v,σ',H',J,rv,q⟩:=hs;exact fin J rv q
 |next=>obtain⟨σ',H',J,q⟩:=hs;exact fin (v:=V.non) (u:=Value.none) J rfl q
 |brk=>obtain⟨_,_,_,q⟩:=hs;exact False.elim q
 |cont=>obtain⟨_,_,_,q⟩:=hs;exact False.elim q
open PySem PySem.Spec PyProof.Rows
section
variable{X:Cx}{x:Str}{p pos:Pos}{e:Expr}{es:List Expr}{t:TA}{id T:String}{r:List V->Hp->VK->Prop}
def tCB(r:List V->Hp->VK->Prop)(t:TA):TE:=λσ H Q=>t σ H λvs H1=>r vs H1 Q
theorem pe_callB(hc:CallR X (.builtin id) r)(hg:Gl X x)(hm:X.mg x=none)(hv:bootBuiltins x=some (.builtin id))(ha:PA X (e::es) t)(hn:x≠"__name__":=by decide)(hdb:(x==("__debug__":Str))=false:=by decide)
  (he:starEach (e::es) X.env=(false,eval e X.env)::starEach es X.env:=by rfl) (hpl:(backTo pos (starEach es X.env)).any (·.1)=false:=by rfl):PE X (.Call (.Name x p) (e::es) [] pos) (tCB r t):=by
 intro aaD s σ H Q I h;refine Y5 (ld_blt I hg hm hv ?_ hn hdb);exact PyProof.Rows.callWith_builtin1 (thn (ha pos aaD s σ H _ I h) λus s1 ⟨vs,H1,I1,r1,q1⟩=>hc aaD s1 σ H1 vs us Q I1 r1 q1) he hpl
theorem pe_callTy(hc:CallR X (.type T) r)(hg:Gl X x)(hm:X.mg x=none)(hv:bootBuiltins x=some (.type T))(ha:PA X (e::es) t)(hn:x≠"__name__":=by decide)(hdb:(x==("__debug__":Str))=false:=by decide)
  (he:starEach (e::es) X.env=(false,eval e X.env)::starEach es X.env:=by rfl) (hpl:(backTo pos (starEach es X.env)).any (·.1)=false:=by rfl):PE X (.Call (.Name x p) (e::es) [] pos) (tCB r t):=by
 intro aaD s σ H Q I h;refine Y5 (ld_blt I hg hm hv ?_ hn hdb);exact Xe (thn (ha pos aaD s σ H _ I h) λus s1 ⟨vs,H1,I1,r1,q1⟩=>hc aaD s1 σ H1 vs us Q I1 r1 q1) he hpl
end
end L2
namespace HT
open PySem PyProof.Rows
section
open PySem.SeqAt
open PySem.AutoSeq1 (wpAny_loadPart')
open PySem.MeetsSeq PySem.MeetsSeq2 PySem.MeetsSeq3
end
section
variable{prog:Program}{w:World}{A:Around}{E:Value->Shared->Prop}{s:Shared}
theorem cat_tup(ht:IsTup s.heap t vs.toArray)(hb:IsTup s.heap b ws.toArray)(hv:vs≠[])
  (h1:ws=[]->Q (.ref t) s) (h2:ws≠[]->Q (.ref s.heap.objs.size) { s with heap:=s.heap.push { cls:=.type "tuple",data:=.seq (vs++ws).toArray } })
  (hsz:vs.length+ws.length<=sizeLine):wpAny (model prog w) A (binaryOp .Add (.ref t) (.ref b)) Q E s:=by
 obtain⟨⟨cls,dd,data,sl⟩,ho,hc,n,hd⟩:=id ht;obtain⟨⟨cls2,dd2,data2,sl2⟩,ho2,hc2,n2,hd2⟩:=id hb;simp only at hc hd hc2 hd2;subst hc hd hc2 hd2;have e:vs.toArray++ws.toArray=(vs++ws).toArray:=by simp
 by_cases hw:ws=[]
 ·exact concat_meets ⟨_,ho,rfl⟩ ⟨_,ho2,rfl⟩ noFill_tuple_add seq_tuple_add ZW ZG (Zu _ _)
   (tuple_addW1 t b vs.toArray ws.toArray n n2 dd dd2 sl sl2 (by simpa using hv) (by simp[hw])) ⟨ho,ho2,h1 hw⟩
 ·refine concat_meets ⟨_,ho,rfl⟩ ⟨_,ho2,rfl⟩ noFill_tuple_add seq_tuple_add ZW ZG (Zu _ _)
   (tuple_addW2 t b vs.toArray ws.toArray n n2 dd dd2 sl sl2 (by simpa using hv) (by simpa using hw) (by rw[Wv,Wv];exact hsz)) ⟨ho,ho2,?_⟩
  rw[e];exact h2 hw
def sIx(n d:Nat):Option Int->Nat
 |none=>d
 |some v=>if v<0 then (v+(n:Int)).toNat else min v.toNat n
theorem sIx_none(n d:Nat):sIx n d none=d:=rfl
theorem sIx_nat(n d k:Nat):sIx n d (some (k:Int))=min k n:=by
 show (if (k:Int)<0 then ((k:Int)+(n:Int)).toNat else min (k:Int).toNat n)=min k n
 rw[Wr (by omega),Xo]
theorem sIx_le(n d:Nat)(hd:d<=n)(o:Option Int):sIx n d o<=n:=by
 cases o with
 |none=>exact hd
 |some v=>
   show (if v<0 then (v+(n:Int)).toNat else min v.toNat n)<=n
   by_cases hv:v<0
   ·rw[Wm hv];omega
   ·rw[Wr hv];exact Nat.min_le_right _ _
theorem clip_eq(v:Int)(n d:Nat):(if v<0 then max (v+(n:Int)) 0 else min v (n:Int))=((sIx n d (some v):Nat):Int):=by
 show (if v<0 then max (v+(n:Int)) 0 else min v (n:Int))=(((if v<0 then (v+(n:Int)).toNat else min v.toNat n):Nat):Int)
 by_cases hv:v<0
 ·simp only[if_pos hv];omega
 ·simp only[if_neg hv];omega
theorem adjust_gen(lo hi:Option Int)(n:Nat):Builtin.Slice.sliceAdjust lo hi 1 (n:Int)=(((sIx n 0 lo:Nat):Int),((sIx n n hi:Nat):Int)):=by
 have h1:¬ ((1:Int)<0):=by omega
 unfold Builtin.Slice.sliceAdjust;simp only[h1,if_false];refine Prod.ext ?_ ?_
 ·cases lo with
  |none=>rfl
  |some v=>exact clip_eq v n 0
 ·cases hi with
  |none=>rfl
  |some v=>exact clip_eq v n n
theorem places_gen(i j:Nat):Builtin.Slice.slicePlaces (i:Int) (j:Int) 1=j-i:=by
 unfold Builtin.Slice.slicePlaces;have h1:(1:Int) > 0:=by omega
 simp only[h1,if_true,Int.ediv_one];split<;>omega
theorem slicePart_(p:IsPart v o)(h:Q o s):wpAny (model prog w) A (Builtin.Slice.slicePartIndex v) Q E s:=by
 cases p with
 |none=>exact slicePart_none h
 |int i t=>exact slicePart_int h
theorem sliceApplied_gen{lo hi:Option Int}{n:Nat}{Q:Int×Int×Nat->Shared->Prop}(hs:s.heap.IsSliceOf sl vl vu .none)(pl:IsPart vl lo)(pu:IsPart vu hi)
  (h:Q (((sIx n 0 lo:Nat):Int),1,sIx n n hi-sIx n 0 lo) s):wpAny (model prog w) A (Builtin.Slice.sliceApplied (.ref sl) (pure (n:Int))) Q E s:=by
 obtain⟨os,hos,hcs,hds⟩:=id hs;unfold Builtin.Slice.sliceApplied Builtin.Slice.sliceFields;refine Wc (Wc (W9 hos hds (x:=vl) rfl (Wc (W9 hos hds (x:=vu) rfl (Wc (W9 hos hds (x:=.none) rfl (We ?_)))))));refine Wc (slicePart_none ?_);show wpAny _ _ (if ((1:Int)==0)=true then _ else _) _ _ s
 rw[Wr (by decide)]
 refine Wc (slicePart_ pl (Wc (slicePart_ pu (Wc (We ?_)))));show wpAny _ _ (match Builtin.Slice.sliceAdjust lo hi 1 (n:Int) with | (lo,hi)=>pure (lo,(1:Int),Builtin.Slice.slicePlaces lo hi 1)) _ _ s
 rw[adjust_gen lo hi n];show wpAny _ _ (pure (((sIx n 0 lo:Nat):Int),(1:Int),Builtin.Slice.slicePlaces ((sIx n 0 lo:Nat):Int) ((sIx n n hi:Nat):Int) 1)) _ _ s;rw[places_gen];exact We h
theorem pick_gen(xs:Array Value)(i k:Nat):((List.range k).filterMap λ(m:Nat)=>xs[((i:Int)+(m:Int)*1).toNat]?).toArray=((xs.toList.drop i).take k).toArray:=by
 have e:(λ(m:Nat)=>xs[((i:Int)+(m:Int)*1).toNat]?)=λm=>xs[i+m]?:=by
  funext m;have:((i:Int)+(m:Int)*1).toNat=i+m:=by omega
  rw[this]
 rw[e];have:=pick_run xs i k;rw[List.filterMap_map]at this;have e2:((λx=>xs[x]?) ∘ λx=>i+x)=λm=>xs[i+m]?:=rfl
 rw[e2]at this;rw[this]
theorem getItem_tuple_cut{items:Array Value}{lo hi:Option Int}{Q:Value->Shared->Prop}(ht:IsTup s.heap t items)(hs:s.heap.IsSliceOf sl vl vu .none)(pl:IsPart vl lo)(pu:IsPart vu hi)
  (hw:¬ (sIx items.size 0 lo=0/\sIx items.size items.size hi=items.size))
  (h:Q (.ref s.heap.objs.size) { s with heap:=s.heap.push { cls:=.type "tuple",data:=.seq ((items.toList.drop (sIx items.size 0 lo)).take (sIx items.size items.size hi-sIx items.size 0 lo)).toArray } })
  (hsz:items.size<=sizeLine):wpAny (model prog w) A (getItem (.ref t) (.ref sl)) Q E s:=by
 have htake:sizeOk (.seq ((items.toList.drop (sIx items.size 0 lo)).take (sIx items.size items.size hi-sIx items.size 0 lo)).toArray):=by show ((items.toList.drop (sIx items.size 0 lo)).take (sIx items.size items.size hi-sIx items.size 0 lo)).toArray.size<=sizeLine;rw[Wv,Yi,YX,aaC];omega
 have hj:sIx items.size items.size hi<=items.size:=sIx_le _ _ (Wg _) hi;obtain⟨os,hos,hcs,hds⟩:=id hs;have hTs:s.TypeIs (.ref sl) "slice":=⟨os,hos,hcs⟩;unfold getItem
 try with_reducible refine Xj ?_
 first | refine Wc (We ?_) | skip
 refine Wc (wpAny_sequenceKey ht.typeIs (by decide) ?_)
 refine Wc (W7 (name:=Str.ofString "__getitem__") ht.typeIs Yn
  (WX Yn ht.typeIs entry_tuple_getitem ?_ (args_tuple_getitem _ _)))
 show wpAny _ _ (Builtin.Tuple.tupleItemsOf (.ref t)>>=_) _ _ s;refine Wc (tupleItemsOf_ ht ?_);refine Wc (Zd hTs ?_);rw[Wm (by decide)]
 refine Wc (sliceApplied_gen hs pl pu ?_);have hno:¬ ((((sIx items.size 0 lo:Nat):Int)==0&&(1:Int)==1&&(sIx items.size items.size hi-sIx items.size 0 lo)==items.size)=true):=by intro q;rw[YC,YC]at q;have q1:((sIx items.size 0 lo:Nat):Int)=0:=eq_of_beq q.1.1;have q2:sIx items.size items.size hi-sIx items.size 0 lo=items.size:=eq_of_beq q.2;exact hw ⟨by omega,by omega⟩
 show wpAny _ _ (if (((sIx items.size 0 lo:Nat):Int)==0&&(1:Int)==1&&(sIx items.size items.size hi-sIx items.size 0 lo)==items.size)=true then _ else _) _ _ s
 rw[Wr hno,pick_gen]
 first
  |exact Wc (m:=Builtin.Tuple.tupleExact _) (WW (We ⟨_,rfl,We h⟩) htake)
  |exact Wc (m:=Builtin.Tuple.tupleExact _) (WW (Wc (We (We ⟨_,rfl,We h⟩))) htake)
  |exact Wc (Wc (m:=Builtin.Tuple.tupleExact _) (WW (We (We ⟨_,rfl,We h⟩)) htake))
  |exact Wc (Wc (m:=Builtin.Tuple.tupleExact _) (WW (We ⟨_,rfl,We h⟩) htake))
end
end HT
namespace L2
open PySem PySem.Spec PyProof.Rows
abbrev TO:=St->Hp->(Option Int->Hp->Prop)->Prop
def PO(X:Cx)(e:Option Expr)(t:TO):Prop:=
 ∀(aaD:List (Addr×Obj)) (s:Shared) (σ:St) (H:Hp) (Q:Option Int->Hp->Prop),Inv X aaD σ H s->t σ H Q->
   wpAny (model X.prog X.w) X.A (evalPart e X.env) (λu s'=>∃o H',Inv X aaD σ H' s'/\IsPart u o/\Q o H') X.xe s
def tNoPart:TO:=λz H Q=>Q none H
def tPart(t:TE):TO:=λσ H Q=>t σ H λx H1=>∃i,x=.int i/\Q (some i) H1
theorem intsAre_of:∀ {us:List Value},Vals (ns.map V.int) us->IntsAre us ns:=by
 induction ns with
 |nil=>intro us r;rw[Zx]at r;cases r;exact .nil
 | cons n ns ih=>
   intro us r;rw[W0]at r;cases r with
   |cons r1 r2=>obtain⟨t,e⟩:=r1;subst e;exact .cons n t (ih r2)
section
variable{X:Cx}{e:Expr}{te:TE}{lo hi:Option Expr}{tl th:TO}{pos p2:Pos}
theorem po_none:PO X none tNoPart:=by intro aaD s σ H Q I h;rw[evalPart_none];exact We ⟨none,H,I,.none,h⟩
theorem po_some(h:PE X e te):PO X (some e) (tPart te):=by
 intro aaD s σ H Q I hw;rw[evalPart_some];refine thn (h aaD s σ H _ I hw) λu s1 ⟨x,H1,I1,r1,q1⟩=>?_
 obtain⟨i,rfl,q⟩:=q1;obtain⟨t,rfl⟩:=r1;exact⟨some i,H1,I1,.int i t,q⟩
def SlR(X:Cx)(r:V->Option Int->Option Int->Hp->VK->Prop):Prop:=
 ∀(aaD:List (Addr×Obj)) (s:Shared) (σ:St) (H:Hp) (x:V) (v vl vu:Value) (lo hi:Option Int) (sl:Addr) (Q:VK),Inv X aaD σ H s->RelV x v->s.heap.IsSliceOf sl vl vu .none->IsPart vl lo->IsPart vu hi->r x lo hi H Q->
   ∃T id,typeLookup (.type T) "__getitem__"=pure (some (.builtin id))/\s.TypeIs v T/\wpAny (model X.prog X.w) X.A (getItem v (.ref sl)) (EP X aaD σ Q) X.xe s
def tSl(r:V->Option Int->Option Int->Hp->VK->Prop)(te:TE)(tl th:TO):TE:=λσ H Q=>te σ H λx H1=>tl σ H1 λl H2=>th σ H2 λu H3=>r x l u H3 Q
theorem pe_slice(hr:SlR X r)(he:PE X e te)(hl:PO X lo tl)(hu:PO X hi th):PE X (.Subscript e (.Slice lo hi none p2) pos) (tSl r te tl th):=by
 intro aaD s σ H Q I h;refine Subscript_ (thn (he aaD s σ H _ I h) λv s1 ⟨x,H1,I1,r1,q1⟩=>?_)
 refine wpAny_Slice (thn (hl aaD s1 σ H1 _ I1 q1) λvl s2 ⟨l,H2,I2,pl,q2⟩=>thn (hu aaD s2 σ H2 _ I2 q2) λvu s3 ⟨u,H3,I3,pu,q3⟩=>?_)
 rw[evalPart_none];refine We ?_;have I4:Inv X aaD σ H3 { s3 with heap:=s3.heap.push { cls:=.type "slice",data:=.fields #[vl,vu,.none] } }:=I3.kept (t':=s3.toks) λb ob q=>Wd _ q
 obtain⟨T,id,hT,ht,hg⟩:=hr aaD { s3 with heap:=s3.heap.push { cls:=.type "slice",data:=.fields #[vl,vu,.none] } } σ H3 x v vl vu l u s3.heap.objs.size Q I4 r1 (Heap.IsSliceOf.new ..) pl pu q3
 show wpAny (model X.prog X.w) X.A (subscriptTail e (.Slice lo hi none p2) v (.ref s3.heap.objs.size)) (EP X aaD σ Q) X.xe { s3 with heap:=s3.heap.push { cls:=.type "slice",data:=.fields #[vl,vu,.none] } }
 exact tail_any (ops:=[.ref s3.heap.objs.size,v]) ht hT hg (by with_unfolding_all rfl)
def cutV(xs:List V)(lo hi:Option Int):List V:=(xs.drop (HT.sIx xs.length 0 lo)).take (HT.sIx xs.length xs.length hi-HT.sIx xs.length 0 lo)
theorem cutV_length(xs:List V)(lo hi:Option Int):(cutV xs lo hi).length<=xs.length:=by unfold cutV;rw[Yi,YX];omega
def rSlT(K:PySem.W.Frag):V->Option Int->Option Int->Hp->VK->Prop:=λx lo hi H Q=>∃a xs,x=.ref a/\SqT K H a xs /\
 ¬ (HT.sIx xs.length 0 lo=0/\HT.sIx xs.length xs.length hi=xs.length)/\∀p,H p=none->Q (.ref p) (upd H p (.tup (cutV xs lo hi)))
theorem sl_tup:SlR X (rSlT X.K):=by
 intro aaD s σ H x v vl vu lo hi sl Q I rx hs pl pu h;obtain⟨a,xs,rfl,hx,hw,q⟩:=h;cases rx;obtain⟨its,r,ht,hz⟩:=I.tuple hx;have hlen:its.toArray.size=xs.length:=by rw[Wv];exact r.length.symm
 refine⟨"tuple",_,PyProof.Rows.slot_tuple_getitem.lookup,ht.typeIs,?_⟩;refine HT.getItem_tuple_cut ht hs pl pu (by rw[hlen];exact hw) ?_ (by rw[hlen];exact hz)
 rw[hlen];refine⟨.ref s.heap.objs.size,_,I.laid (t':=s.toks) (o:=.tup (cutV xs lo hi)) (λb ob q=>Wd _ q) (Wg _) ?_,rfl,q _ (I.hok.fresh (Wg _))⟩
 exact⟨Xm (cutV_length xs lo hi) hz,_,(r.drop (HT.sIx xs.length 0 lo)).take (HT.sIx xs.length xs.length hi-HT.sIx xs.length 0 lo),aau _ _⟩
def rCatT(K:PySem.W.Frag):R2:=λx y H Q=>∃a b xs ys,x=.ref a/\y=.ref b/\SqT K H a xs/\SqT K H b ys/\xs≠[]/\xs.length+ys.length<=sizeLine /\
 (ys=[]->Q (.ref a) H)/\(ys≠[]->∀p,H p=none->Q (.ref p) (upd H p (.tup (xs++ys))))
theorem Vals.nil_iff(r:Vals xs us):us=[] ↔ xs=[]:=by
 cases r with
 |nil=>simp
 |cons _ _=>simp
theorem op_catT:OpR X (binaryOp .Add) (rCatT X.K):=by
 intro aaD s σ H x y v u Q I rx ry h;obtain⟨a,b,xs,ys,rfl,rfl,ha,hb,hx,hz,q1,q2⟩:=h;cases rx;cases ry;obtain⟨its,r1,p1,_⟩:=I.tuple ha;obtain⟨its2,r2,p2,_⟩:=I.tuple hb;refine HT.cat_tup p1 p2 (λz=>hx (r1.nil_iff.mp z)) (λz=>⟨.ref a,H,I,rfl,q1 (r2.nil_iff.mp z)⟩) (λz=>?_) (by rw[<-r1.length,<-r2.length];exact hz)
 refine⟨.ref s.heap.objs.size,_,I.laid (t':=s.toks) (o:=.tup (xs++ys)) (λb ob q=>Wd _ q) (Wg _) ?_,rfl,q2 (λw=>z (r2.nil_iff.mpr w)) _ (I.hok.fresh (Wg _))⟩
 exact⟨by rw[Ww];exact hz,_,r1.append r2,aau _ _⟩
end
open PySem PySem.Spec PyProof.Rows
def ixN(n:Nat)(i:Int):Option Nat:=if 0<=i then (if i<n then some i.toNat else none) else if -(n:Int)<=i then some (i+n).toNat else none
def atI{α:Type}(xs:List α)(i:Int):Option α:=(ixN xs.length i).bind λj=>xs[j]?
theorem ixN_seq(h:ixN n i=some j):seqIndex? i n=some j/\j<n/\-(n:Int)<=i/\i<n:=by
 unfold ixN at h;by_cases h0:0<=i
 ·rw[Wm h0]at h;by_cases h1:i<n
  ·rw[Wm h1]at h;have e:i.toNat=j:=Wq h;exact⟨by rw[seqIndex_of h0 h1,e],by omega,by omega,h1⟩
  ·rw[Wr h1]at h;cases h
 ·rw[Wr h0]at h;by_cases h1:-(n:Int)<=i
  ·rw[Wm h1]at h;have e:(i+n).toNat=j:=Wq h;exact⟨by rw[seqIndex_neg (by omega) h1,e],by omega,h1,by omega⟩
  ·rw[Wr h1]at h;cases h
theorem atI_get(h:atI xs i=some v):∃ j,seqIndex? i xs.length=some j/\xs[j]?=some v/\j<xs.length/\-(xs.length:Int)<=i/\i<xs.length:=by
 unfold atI at h;cases e:ixN xs.length i with
 |none=>rw[e]at h;cases h
 |some j=>rw[e]at h;obtain⟨h1,h2,h3,h4⟩:=ixN_seq e;exact⟨j,h1,h,h2,h3,h4⟩
def PlainIx(b:Expr):Prop:=∀o i,subscripted b false o i=operate [o,i] (getItem o i)
def IxR(X:Cx)(r:R2):Prop:=
 ∀(value slice:Expr) (aaD:List (Addr×Obj)) (s:Shared) (σ:St) (H:Hp) (x y:V) (v u:Value) (Q:VK),Inv X aaD σ H s->RelV x v->RelV y u->r x y H Q->
   subscripted slice false v u=operate [v,u] (getItem v u)->wpAny (model X.prog X.w) X.A (subscriptTail value slice v u) (EP X aaD σ Q) X.xe s
def MtR(X:Cx)(id:String)(r:V->List V->Hp->VK->Prop):Prop:=
 ∀(aaD:List (Addr×Obj)) (s:Shared) (σ:St) (H:Hp) (x:V) (xs:List V) (v:Value) (us:List Value) (Q:VK),Inv X aaD σ H s->RelV x v->Vals xs us->r x xs H Q->
   wpAny (model X.prog X.w) X.A (call (.builtin id) (v::us)) (EP X aaD σ Q) X.xe s
section
variable{X:Cx}{a b:Expr}{ta tb:TE}{pos:Pos}
theorem pe_ix(hr:IxR X r)(ha:PE X a ta)(hb:PE X b tb)(hs:PlainIx b):PE X (.Subscript a b pos) (tOp r ta tb):=by intro aaD s σ H Q I h;exact Subscript_ (binT ha hb I h λv u s2 x y H2 I2 rx ry q=>hr a b aaD s2 σ H2 x y v u Q I2 rx ry q (hs _ _))
def rIxL(K:PySem.W.Frag):R2:=λx y H Q=>∃p xs i v,x=.ref p/\y=.int i/\SqL K H p xs/\atI xs i=some v/\Q v H
def rIxT(K:PySem.W.Frag):R2:=λx y H Q=>∃p xs i v,x=.ref p/\y=.int i/\SqT K H p xs/\atI xs i=some v/\Q v H
theorem ix_list:IxR X (rIxL X.K):=by
 intro value slice aaD s σ H x y v u Q I rx ry h hs;obtain⟨p,xs,i,z,rfl,rfl,hq,he,q⟩:=h;cases rx;obtain⟨t,rfl⟩:=ry;obtain⟨its,r,pl,hz⟩:=I.list hq;obtain⟨j,h1,h2,h3,h4,h5⟩:=atI_get he;obtain⟨w,ew,rw'⟩:=r.get h2;have hl:=r.length;have hn:=line63;have fin:EP X aaD σ Q w s:=⟨z,H,I,rw',q⟩;by_cases h0:0<=i
 ·have hj:i.toNat=j:=by rw[seqIndex_of h0 h5]at h1;exact Wq h1
  exact item_listR pl.isList h0 (by omega) (by rw[hj];simpa using ew) fin hs
 ·have hj:(i+(its.toArray.size:Int)).toNat=j:=by
   rw[seqIndex_neg (by omega) h4]at h1
   rw[Wv,<-hl];exact Wq h1
  exact subscriptTail_builtinR (x:=w) pl.isList.typeIs slot_list_getitem.lookup
   (wpAny_getItem_list_neg (Q:=λr s'=>r=w/\EP X aaD σ Q r s') pl.isList (by omega) (by rw[Wv]<;>omega) (by omega) (by rw[hj];simpa using ew) ⟨rfl,fin⟩) hs
theorem ix_tup:IxR X (rIxT X.K):=by
 intro value slice aaD s σ H x y v u Q I rx ry h hs;obtain⟨p,xs,i,z,rfl,rfl,hq,he,q⟩:=h;cases rx;obtain⟨t,rfl⟩:=ry;obtain⟨its,r,pl,hz⟩:=I.tuple hq;obtain⟨j,h1,h2,h3,h4,h5⟩:=atI_get he;obtain⟨w,ew,rw'⟩:=r.get h2;have hl:=r.length;have hn:=line63;have fin:EP X aaD σ Q w s:=⟨z,H,I,rw',q⟩;exact subscriptTail_builtinR (x:=w) pl.typeIs slot_tuple_getitem.lookup
  (getItem_tuple (j:=j) (Q:=λr s'=>r=w/\EP X aaD σ Q r s') pl (by omega) (by omega) (by rw[Wv,<-hl];exact h1) (by simpa using ew) ⟨rfl,fin⟩) hs
theorem mapSeq_set(its:List Value)(n j:Nat)(u:Value):Obj.mapSeq (·.setIfInBounds j u) { cls:=.type "list",data:=.seq its.toArray n }={ cls:=.type "list",data:=.seq (its.set j u).toArray n }:=by simp[Obj.mapSeq]
theorem Inv.lst(I:Inv X aaD σ H s)(h:H p=some (.lst xs)):
  ∃(its:List Value) (n:Nat),Vals xs its/\s.heap.get? p=some { cls:=.type "list",data:=.seq its.toArray n }/\xs.length<=sizeLine:=by
 obtain⟨z,its,n,r,e⟩:=I.hok p _ h;exact⟨its,n,r,e,z⟩
theorem Inv.lstUpd{aaD:List (Addr×Obj)}{xs ys:List V}{its its':List Value}{n n':Nat}{f:Obj->Obj}(I:Inv X aaD σ H s)(h:H p=some (.lst xs))
  (ho:s.heap.get? p=some { cls:=.type "list",data:=.seq its.toArray n }) (hf:f { cls:=.type "list",data:=.seq its.toArray n }={ cls:=.type "list",data:=.seq its'.toArray n' }) (r:Vals ys its') (hz:ys.length<=sizeLine) (t:Nat) :
  Inv X aaD σ (upd H p (.lst ys)) { s with heap:=s.heap.update p f,toks:=t }:=by
 have e:(s.heap.update p f).get? p=some { cls:=.type "list",data:=.seq its'.toArray n' }:=by rw[Zf f ho (by rw[hf]<;>rfl),hf]
 refine I.write (x:=p) (e:=p) (by rw[h];trivial) (.inl rfl) (λb u hb q=>(Yd _ _ (Ne.symm hb)).trans q) ⟨_,e⟩ ?_
 exact⟨hz,its',n',r,e⟩
def rSetL:V->V->V->Hp->(Hp->Prop)->Prop:=λo i v H Q=>∃p xs k j,o=.ref p/\i=.int k/\H p=some (.lst xs)/\ixN xs.length k=some j/\Q (upd H p (.lst (xs.set j v)))
theorem set_list:PSet X rSetL:=by
 intro aaD s σ H o i v ov iv u Q I ro ri rv h;obtain⟨p,xs,k,j,rfl,rfl,hp,hj,q⟩:=h;cases ro;obtain⟨t,rfl⟩:=ri;obtain⟨its,n,r,ho,hz⟩:=I.lst hp;obtain⟨h1,h2,h3,h4⟩:=ixN_seq hj;have hl:=r.length;have hn:=line63;have I':Inv X aaD σ (upd H p (.lst (xs.set j v))) { s with heap:=s.heap.update p (Obj.mapSeq (·.setIfInBounds j u)) }:=
  I.lstUpd hp ho (mapSeq_set its n j u) (r.set rv j) (by rw[Xz];exact hz) s.toks
 by_cases h0:0<=k
 ·have hk:k.toNat=j:=by rw[seqIndex_of h0 h4]at h1;exact Wq h1
  exact PySem.W.ki_setAt ho h0 (by omega) (by rw[Wv,<-hl];exact h4) (by rw[hk];exact⟨_,I',q⟩)
 ·have hk:(k+(its.toArray.size:Int)).toNat=j:=by
   rw[seqIndex_neg (by omega) h3]at h1
   rw[Wv,<-hl];exact Wq h1
  exact PySem.W.ki_setBack ho (by omega) (by rw[Wv,<-hl];exact h3) (by omega) (by rw[hk];exact⟨_,I',q⟩)
theorem slice_bounds(lo hi:Option Int)(n:Nat):(sliceBounds lo hi none n).1=((HT.sIx n 0 lo:Nat):Int)/\(sliceBounds lo hi none n).2.1=((HT.sIx n n hi:Nat):Int)/\(sliceBounds lo hi none n).2.2=1:=by
 refine⟨?_,?_,rfl⟩
 ·cases lo with
  |none=>simp[sliceBounds,HT.sIx]
  |some i=>
    simp only[sliceBounds,HT.sIx,Option.getD_none,show (1:Int) > 0 by decide,if_true]
    by_cases h:i<0
    ·simp only[h,if_true]<;>omega
    ·simp only[h,if_false]<;>omega
 ·cases hi with
  |none=>simp[sliceBounds,HT.sIx]
  |some i=>
    simp only[sliceBounds,HT.sIx,Option.getD_none,show (1:Int) > 0 by decide,if_true]
    by_cases h:i<0
    ·simp only[h,if_true]<;>omega
    ·simp only[h,if_false]<;>omega
theorem slicePick_cut(its:List Value)(lo hi:Option Int):slicePick its.toArray lo hi none=((its.drop (HT.sIx its.length 0 lo)).take (HT.sIx its.length its.length hi-HT.sIx its.length 0 lo)).toArray:=by obtain⟨h1,h2,h3⟩:=slice_bounds lo hi its.toArray.size;unfold slicePick;rw[h1,h2,h3];simp only[sliceRange_one,pick_run,List.size_toArray]<;>rfl
def rSlL(K:PySem.W.Frag):V->Option Int->Option Int->Hp->VK->Prop:=λx lo hi H Q=>∃a xs,x=.ref a/\SqL K H a xs/\∀p,H p=none->Q (.ref p) (upd H p (.lst (cutV xs lo hi)))
theorem sl_list:SlR X (rSlL X.K):=by
 intro aaD s σ H x v vl vu lo hi sl Q I rx hs pl pu h;obtain⟨a,xs,rfl,hx,q⟩:=h;cases rx;obtain⟨its,r,ht,hz⟩:=I.list hx;have hlen:=r.length;refine⟨"list",_,slot_list_getitem.lookup,ht.isList.typeIs,?_⟩;refine wpAny_getItem_list_slice ht.isList hs pl pu .none (by simp) ?_ (by rw[Wv]<;>omega)
 rw[slicePick_cut,<-hlen];refine⟨.ref s.heap.objs.size,_,I.laid (t':=s.toks) (o:=.lst (cutV xs lo hi)) (λb ob q=>Wd _ q) (Wg _) ?_,rfl,q _ (I.hok.fresh (Wg _))⟩
 exact⟨Xm (cutV_length xs lo hi) hz,_,0,(r.drop (HT.sIx xs.length 0 lo)).take (HT.sIx xs.length xs.length hi-HT.sIx xs.length 0 lo),Wl _ rfl⟩
theorem call_len_seq:CallR X (.builtin "len") (λxs H Q=>∃p ys,xs=[.ref p]/\(SqL X.K H p ys\/SqT X.K H p ys)/\Q (.int ys.length) H):=by
 intro aaD s σ H xs us Q I r h;obtain⟨p,ys,rfl,hq,q⟩:=h;obtain⟨u,rfl,rx⟩:=vals1 r;cases rx;have hn:=line63;rcases hq with hq | hq
 ·obtain⟨its,r',pl,hz⟩:=I.list hq;have hlen:=r'.length;exact Calls.call_len_list pl.isList (by simp only[List.size_toArray]<;>omega) ⟨.int ys.length,H,I.tok _,⟨s.toks+1,by rw[Wv,hlen]⟩,q⟩
 ·obtain⟨its,r',pl,hz⟩:=I.tuple hq;have hlen:=r'.length;exact len_tuple pl (by simp only[List.size_toArray]<;>omega) ⟨.int ys.length,H,I.tok _,⟨s.toks+1,by rw[Wv,hlen]⟩,q⟩
theorem call_len_str:CallR X (.builtin "len") (λxs H Q=>∃z,xs=[.str z]/\z.length<=sizeLine/\Q (.int z.length) H):=by intro aaD s σ H xs us Q I r h;obtain⟨z,rfl,hz,q⟩:=h;obtain⟨u,rfl,t,rfl⟩:=vals1 r;have hn:=line63;exact len_str (by omega) ⟨.int z.length,H,I.tok _,⟨_,rfl⟩,q⟩
theorem CallR.or(h:CallR X f r)(h':CallR X f r'):CallR X f (λxs H Q=>r xs H Q\/r' xs H Q):=by
 intro aaD s σ H xs us Q I rs q;rcases q with q | q
 ·exact h aaD s σ H xs us Q I rs q
 ·exact h' aaD s σ H xs us Q I rs q
theorem call_tuple_of:CallR X (.type "tuple") (λxs H Q=>∃ p ys,xs=[.ref p]/\((SqL X.K H p ys/\∀ l,H l=none->Q (.ref l) (upd H l (.tup ys)))\/(SqT X.K H p ys/\Q (.ref p) H))):=by
 intro aaD s σ H xs us Q I r h;obtain⟨p,ys,rfl,h⟩:=h;obtain⟨u,rfl,rx⟩:=vals1 r;cases rx;rcases h with ⟨hq,q⟩ | ⟨hq,q⟩
 ·obtain⟨its,r',pl,hz⟩:=I.list hq;have hlen:=r'.length;refine call_tuple_list pl.isList (λh' kp=>?_) (by simp only[List.size_toArray]<;>omega)
  have I1:Inv X aaD σ H { s with heap:=h' }:=I.kept (t':=s.toks) kp
  have I2:Inv X aaD σ (upd H h'.objs.size (.tup ys)) { s with heap:=h'.push { cls:=.type "tuple",data:=.seq its.toArray } }:=
   I1.laid (t':=s.toks) (λb o e=>Wd _ e) (Wg _) (show ObjOk X.prog X.w _ _ _ (.tup ys) from⟨hz,its,r',aau _ _⟩)
  exact⟨.ref h'.objs.size,_,I2,rfl,q _ (I1.hok.fresh (Wg _))⟩
 ·obtain⟨its,r',pl,hz⟩:=I.tuple hq;exact call_tuple_same pl ⟨.ref p,H,I,rfl,q⟩
def tyV(K:PySem.W.Frag)(T:String)(x:V)(H:Hp):Prop:=match x with
 |.str _=>T = "str"
 |.int _=>T = "int"
 |.ref p=>(T = "list"/\∃xs,SqL K H p xs)\/(T = "tuple"/\∃o,K.lookup p=some o/\o.cls=.type "tuple"/\o.dict=none) \/
   (T = "dict"/\((∃kvs,H p=some (.dK kvs))\/∃kvs,H p=some (.dT kvs)))\/(T = "set"/\∃S n,H p=some (.set S n))
 |_=>False
theorem tyV_is(I:Inv X aaD σ H s)(r:RelV x v)(ty:tyV X.K T x H):
  s.TypeIs v T/\∀a,v=.ref a->∃ob,s.heap.get? a=some ob/\ob.dict=none:=by
 cases x with
 |str z=>
   obtain⟨t,rfl⟩:=r;cases (show T = "str" from ty)
   exact⟨typeIs_str s z t,λy e=>nomatch e⟩
 |int i=>
   obtain⟨t,rfl⟩:=r;cases (show T = "int" from ty)
   exact⟨typeIs_int s i t,λy e=>nomatch e⟩
 | ref p=>
   cases r;rcases ty with ⟨rfl,xs,hq⟩ | ⟨rfl,o,hk,hc,hd⟩ | ⟨rfl,hk⟩ | ⟨rfl,S,n,hk⟩
   ·obtain⟨its,_,pl,_⟩:=I.list hq;refine⟨pl.isList.typeIs,λa e=>?_⟩
    cases e;obtain⟨o,n,e,c,hd,_⟩:=pl;exact⟨o,e,hd⟩
   ·refine⟨⟨o,I.kIn p o hk,hc⟩,λa e=>?_⟩
    cases e;exact⟨o,I.kIn _ o hk,hd⟩
   ·have z:∃ o,s.heap.get? p=some o/\o.ExactDict:=by
     rcases hk with ⟨kvs,hk⟩ | ⟨kvs,hk⟩
     ·obtain⟨_,_,_,_,o,_,_,e,ex,_⟩:=I.hok p _ hk;exact⟨o,e,ex⟩
     ·obtain⟨_,_,_,_,o,_,_,e,ex,_⟩:=I.hok p _ hk;exact⟨o,e,ex⟩
    obtain⟨o,e,ex⟩:=z;refine⟨⟨o,e,ex.1⟩,λa e2=>?_⟩
    cases e2;exact⟨o,e,ex.2.1⟩
   ·obtain⟨o,_,_,_,e,ex,_⟩:=I.hok p _ hk;refine⟨⟨o,e,ex.1⟩,λa e2=>?_⟩
    cases e2;exact⟨o,e,ex.2.1⟩
 |_=>exact False.elim ty
def tBM(K:PySem.W.Frag)(T:String)(r:V->List V->Hp->VK->Prop)(to:TE)(t:TA):TE:=λσ H Q=>to σ H λx H1=>tyV K T x H1/\t σ H1 λxs H2=>r x xs H2 Q
variable{o e:Expr}{es:List Expr}{to:TE}{t:TA}{name:Str}{apos cpos:Pos}{T id:String}{r:V->List V->Hp->VK->Prop}
theorem pe_bm(pa:PlainAttrs T)(slot:Slot T name id)(hty:typeOf (.builtin id)=pure (.type "method_descriptor"))(hm:MtR X id r)(ho:PE X o to)(ha:PA X (e::es) t)
  (hbase:attributeBase o name X.env (eval o X.env)=eval o X.env:=by rfl)
  (hfew:((backTo cpos (starEach (e::es) X.env)).all (fun x=>!x.1)&&(backToKw cpos (keywordEach [] X.env)).all (fun x=>x.1.isSome)
   &&decide ((e::es).length+([]:List Keyword).length+(if ([]:List Keyword).isEmpty then 0 else 1)<30))=true:=by rfl)
  (hline:(apos.endLine==cpos.line)=true:=by rfl) (hs:starEach (e::es) X.env=(false,eval e X.env)::starEach es X.env:=by rfl) (hplain:(backTo cpos (starEach es X.env)).any (·.1)=false:=by rfl) :
  PE X (.Call (.Attribute o name apos) (e::es) [] cpos) (tBM X.K T r to t):=by
 intro aaD s σ H Q I h;refine wpAny_Call_method_late hbase hfew hline rfl (thn (ho aaD s σ H _ I h) λv s1 ⟨x,H1,I1,r1,ty,q1⟩=>?_)
 obtain⟨h1,h2⟩:=tyV_is I1 r1 ty;refine⟨T,id,pa,slot,hty,h1,h2,?_⟩;have hA:=ha cpos aaD s1 σ H1 _ I1 q1;rw[hs]at hA ⊢
 refine Calls.callWith_builtin (by show (false || (backTo cpos (starEach es X.env)).any (·.1))=false;rw[hplain]<;>rfl) (Calls.evalArgs_plain ?_)
 exact thn hA λus s2 ⟨vs,H2,I2,r2,q2⟩=>hm aaD s2 σ H2 x vs v us Q I2 r1 r2 q2
end
open PySem PySem.Spec PyProof.Rows
def MtM(X:Cx)(id:String)(r:V->List V->Hp->VK->Prop):Prop:=
 ∀(aaD:List (Addr×Obj)) (s:Shared) (σ:St) (H:Hp) (x:V) (xs:List V) (v:Value) (us:List Value) (Q:VK),Inv X aaD σ H s->RelV x v->Vals xs us->r x xs H Q->
   wpAny (model X.prog X.w) X.A (call (.builtin id) (v::us)) (EP X aaD σ Q) X.xe s
theorem Vals.one:∀{x:V}{us:List Value},Vals [x] us->∃u,us=[u]/\RelV x u
 |_,_,.cons r .nil=>⟨_,rfl,r⟩
theorem Vals.eraseIdx:∀{xs:List V}{us:List Value} (i:Nat),Vals xs us->Vals (xs.eraseIdx i) (us.eraseIdx i)
 |_,_,_,.nil=>.nil
 |_,_,0,.cons _ t=>t
 |_,_,i+1,.cons r t=>.cons r (Vals.eraseIdx i t)
theorem Vals.rep(h:Vals xs us):∀ k:Nat,Vals (List.replicate k xs).flatten (List.replicate k us).flatten
 |0=>.nil
 |k+1=>by rw[Yb,Yb,YK,YK];exact Vals.append h (Vals.rep h k)
theorem len_erase:∀(l:List α) (i:Nat),(l.eraseIdx i).length<=l.length
 |[],_=>Wg _
 |_::_,0=>Nat.le_succ _
 |_::r,i+1=>Nat.succ_le_succ (len_erase r i)
theorem foldl_rep(its:List Value):∀ (k:Nat) (acc:List Value),
  List.foldl (λx1 x2=>x1++x2) acc.toArray (List.replicate k its.toArray)=(acc++(List.replicate k its).flatten).toArray
 |0,acc=>by simp
 | k + 1,acc=>by
   have e:acc.toArray++its.toArray=(acc++its).toArray:=by simp
   have e2:(acc++its)++(List.replicate k its).flatten=acc++(List.replicate (k+1) its).flatten:=by rw[Yb,YK,XH]
   rw[<-e2,<-foldl_rep its k (acc++its),<-e,Yb,aac]
section
variable{X:Cx}{aaD:List (Addr×Obj)}{σ:St}{H:Hp}{s:Shared}{l b:Addr}{xs ys zs:List V}
theorem Inv.lset{its its':List Value}{n:Nat}{f:Array Value->Array Value}{t':Nat}(I:Inv X aaD σ H s)(hH:H l=some (.lst xs))
  (e:s.heap.get? l=some { cls:=.type "list",data:=.seq its.toArray n }) (hf:f its.toArray=its'.toArray) (hv:Vals ys its') (hz:ys.length<=sizeLine) :
  Inv X aaD σ (upd H l (.lst ys)) { s with heap:=s.heap.update l (Obj.mapSeq f),toks:=t' }:=by
 have q:=PySem.IsL.update e f;rw[hf]at q;refine I.write (x:=l) (e:=l) (by rw[hH];exact trivial) (.inl rfl) (λb' u hb hu=>(Yd s.heap (Obj.mapSeq f) (Ne.symm hb)).trans hu) ⟨_,q⟩ ?_
 exact⟨hz,its',_,hv,q⟩
theorem Inv.lnew(I:Inv X aaD σ H s)(hv:Vals ys its)(hz:ys.length<=sizeLine):
  Inv X aaD σ (upd H s.heap.objs.size (.lst ys)) { s with heap:=s.heap.push { cls:=.type "list",data:=.seq its.toArray },toks:=t' }:=
 I.laid (λz z q=>Wd _ q) (Wg _) ⟨hz,its,0,hv,Wl _ rfl⟩
theorem Inv.fresh(I:Inv X aaD σ H s):H s.heap.objs.size=none:=I.hok.fresh (Wg _)
theorem Inv.lstM(I:Inv X aaD σ H s)(hH:H l=some (.lst xs)):xs.length<=sizeLine/\∃(its:List Value) (n:Nat),Vals xs its/\xs.length=its.length/\s.heap.get? l=some { cls:=.type "list",data:=.seq its.toArray n }:=by obtain⟨z,its,n,r,e⟩:=I.hok l _ hH;exact⟨z,its,n,r,r.length,e⟩
theorem notLongL{n:Nat}(h:n<=sizeLine):Builtin.List.listTooLong n=false:=by unfold Builtin.List.listTooLong;exact Xu (by omega)
end
section
variable{X:Cx}
def rAppend:V->List V->Hp->VK->Prop:=λx vs H Q=>∃l xs y,x=.ref l/\vs=[y]/\H l=some (.lst xs)/\xs.length<sizeLine/\Q .non (upd H l (.lst (xs++[y])))
theorem mt_append:MtM X "list.append" rAppend:=by
 intro aaD s σ H x vs v us Q I rx rv h;obtain⟨l,xs,y,rfl,rfl,hH,hz,q⟩:=h;cases rx;obtain⟨u,rfl,ru⟩:=rv.one;obtain⟨z,its,n,r,hl,e⟩:=I.lstM hH;refine aao F.slot_list_append ⟨_,e,rfl⟩ F.entry_list_append (F.args_list_append_2 _ _) (PySem.list_append l its.toArray n u (by rw[Wv];omega)) ⟨e,?_⟩
 refine⟨.non,_,I.lset (its':=its++[u]) hH e (by simp) (r.append (.cons ru .nil)) ?_,rfl,q⟩
 rw[Ww,List.length_singleton];omega
def rExtend:V->List V->Hp->VK->Prop:=λx vs H Q=>∃l b xs zs,x=.ref l/\vs=[.ref b]/\H l=some (.lst xs)/\H b=some (.lst zs)/\xs.length+zs.length<=sizeLine/\Q .non (upd H l (.lst (xs++zs)))
theorem mt_extend:MtM X "list.extend" rExtend:=by
 intro aaD s σ H x vs v us Q I rx rv h;obtain⟨l,b,xs,zs,rfl,rfl,hH,hB,hz,q⟩:=h;cases rx;obtain⟨u,rfl,ru⟩:=rv.one;cases ru;obtain⟨z,its,n,r,hl,e⟩:=I.lstM hH;obtain⟨z2,its2,n2,r2,hl2,e2⟩:=I.lstM hB;have hsz:its.toArray.size+its2.toArray.size<=sizeLine:=by rw[Wv,Wv];omega
 have hlong:¬ (!its.toArray.isEmpty&&Builtin.List.listTooLong (its.toArray.size+its2.toArray.size))=true:=by rw[notLongL hsz,Bool.and_false];exact WL
 refine aao F.slot_list_extend ⟨_,e,rfl⟩ F.entry_list_extend (F.args_list_extend_2 _ _)
  (AutoSeq1.list_extend_list_list_0 l its.toArray n b its2.toArray n2 hlong (by rw[Wv];omega) (by omega)) ⟨e,e2,?_⟩
 refine⟨.non,_,I.lset (its':=its++its2) hH e (by simp) (r.append r2) ?_,rfl,q⟩
 rw[Ww];omega
def rPopAt:V->List V->Hp->VK->Prop:=λx vs H Q=>∃l xs i k y,x=.ref l/\vs=[.int i]/\H l=some (.lst xs)/\-(2^63)<=i/\i<2^63/\seqIndex? i xs.length=some k/\xs[k]?=some y/\Q y (upd H l (.lst (xs.eraseIdx k)))
theorem mt_popAt:MtM X "list.pop" rPopAt:=by
 intro aaD s σ H x vs v us Q I rx rv h;obtain⟨l,xs,i,k,y,rfl,rfl,hH,h1,h2,hk,hy,q⟩:=h;cases rx;obtain⟨u,rfl,ru⟩:=rv.one;obtain⟨t,rfl⟩:=ru;obtain⟨z,its,n,r,hl,e⟩:=I.lstM hH;obtain⟨w,hw,rw'⟩:=r.get hy;refine aao F.slot_list_pop ⟨_,e,rfl⟩ F.entry_list_pop (F.args_list_pop_2 _ _)
  (MeetsSeq.list_pop_at l its.toArray n i t k w (fitsIndex_both h1 h2) (by rw[Wv,<-hl];exact hk) (by rw[<-Z2];exact hw) (by rw[Wv];omega)) ⟨e,?_⟩
 refine⟨y,_,I.lset (its':=its.eraseIdx k) hH e ?_ (r.eraseIdx k) ?_,rw',q⟩
 ·show its.toArray.eraseIdxIfInBounds k=(its.eraseIdx k).toArray;rw[List.eraseIdxIfInBounds_toArray]
 ·have:=len_erase xs k;omega
def rCat:R2:=λx y H Q=>∃l b xs zs,x=.ref l/\y=.ref b/\H l=some (.lst xs)/\H b=some (.lst zs)/\xs.length+zs.length<=sizeLine/\∀p,H p=none->Q (.ref p) (upd H p (.lst (xs++zs)))
theorem op_cat:OpR X (binaryOp .Add) rCat:=by
 intro aaD s σ H x y v u Q I rx ry h;obtain⟨l,b,xs,zs,rfl,rfl,hH,hB,hz,q⟩:=h;cases rx;cases ry;obtain⟨z,its,n,r,hl,e⟩:=I.lstM hH;obtain⟨z2,its2,n2,r2,hl2,e2⟩:=I.lstM hB;refine PySem.P.add_list e e2 ?_ (by rw[Wv,Wv];omega)
 have ea:its.toArray++its2.toArray=(its++its2).toArray:=by simp
 rw[ea];exact⟨.ref _,_,I.lnew (t':=s.toks) (r.append r2) (by rw[Ww];omega),rfl,q _ I.fresh⟩
def rRep:R2:=λx y H Q=>∃l k xs,x=.ref l/\y=.int k/\H l=some (.lst xs)/\-(2^63)<=k/\k<2^63/\xs.length*k.toNat<=sizeLine /\
 ∀p,H p=none->Q (.ref p) (upd H p (.lst (List.replicate k.toNat xs).flatten))
theorem len_rep(xs:List α)(k:Nat):(List.replicate k xs).flatten.length=k*xs.length:=by
 induction k with
 |zero=>simp
 |succ k ih=>rw[Yb,YK,Ww,ih,Nat.succ_mul,Nat.add_comm]
theorem op_rep:OpR X (binaryOp .Mult) rRep:=by
 intro aaD s σ H x y v u Q I rx ry h;obtain⟨l,k,xs,rfl,rfl,hH,h1,h2,hz,q⟩:=h;cases rx;obtain⟨t,rfl⟩:=ry;obtain⟨z,its,n,r,hl,e⟩:=I.lstM hH;have hlen:its.toArray.size*k.toNat<=sizeLine:=by rw[Wv,<-hl];exact hz
 have hcap:¬ its.toArray.size*k.toNat > (2^63-1) / 8:=by
  have:(sizeLine:Nat)<=(2^63-1) / 8:=by decide
  omega
 have hfit:¬ (!Builtin.List.listFitsIndex k)=true:=by rw[fitsIndex_both h1 h2];exact WL
 have hlong:¬ Builtin.List.listTooLong (its.toArray.size*k.toNat)=true:=by rw[notLongL hlen];exact WL
 have hnew:List.foldl (λx1 x2=>x1++x2) #[] (List.replicate (if its.toArray.isEmpty=true then 0 else k.toNat) its.toArray)=(List.replicate k.toNat its).flatten.toArray:=by
  have f0:∀m:Nat,List.foldl (λx1 x2=>x1++x2) #[] (List.replicate m its.toArray)=(List.replicate m its).flatten.toArray:=λm=>by have:=foldl_rep its m [];rw[aaw]at this;exact this
  rw[f0];cases its with
  |nil=>simp
  |cons a r'=>rw[Wr (by simp)]
 refine wpAny_binaryOp_repeat_ref (T := "list") (U := "int") (by decide) ⟨_,e,rfl⟩ (λs'=>typeIs_int s' k t) noFill_list_mul F.fills_int_mul F.slot_int_rmul repeat_list F.slot_int_index.lookup
  (aao F.slot_int_rmul (typeIs_int s k t) F.entry_int_rmul (F.args_int_rmul_2 _ _) (int___rmul___int_list k t l its.toArray n)
    ⟨e,rfl,⟨_,e,rfl⟩,aao F.slot_list_mul ⟨_,e,rfl⟩ F.entry_list_mul (F.args_list_mul_2 _ _) (AutoListH.list___mul___list_int_3 l its.toArray n k t hfit hcap hlong) ⟨e,?_⟩⟩)
 rw[hnew];exact⟨.ref _,_,I.lnew (t':=s.toks) (r.rep k.toNat) (by rw[len_rep,Xk];exact hz),rfl,q _ I.fresh⟩
end
end L2
namespace Att
open PySem PySem.W PySem.Calls PyProof.Rows
theorem ints_of_wellAll:∀ (ns:List Int) (vs:List Value),WellAll P h vs (ns.map WData.int)->IntsAre vs ns:=by
 intro ns;induction ns with
 |nil=>intro vs w;rw[Zx]at w;cases w;exact .nil
 | cons n ns ih=>
   intro vs w;rw[W0]at w;cases w with
   |cons a b=>cases a;exact .cons _ _ (ih _ b)
theorem script_of{l:OpenLaw}{n:Nat}(hn:l.most=some n){P:Params}{h:Heap}{args:List WData}{vals:List Value}
  (hpre:l.row.toRowW.claim.pre args=true) (hwl:WellAll P h vals args) :
  ∃a vs ns,vals=[Value.ref a]/\args=[WData.list (ns.map WData.int)]/\h.get? a=some { cls:=.type "list",data:=.seq vs.toArray }/\IntsAre vs ns/\ns.length<=n:=by
 have hsh:WShape.hasAll [] args [.list .int]=true:=(pre_splitW hpre).1;have hc:l.pre.holds [] { args:=args }=true:=(pre_splitW hpre).2;obtain⟨d,r,rfl,h1,h2⟩:=hasAllW_cons hsh;obtain rfl:=hasAllW_nil h2;obtain⟨xs,rfl,h3⟩:=hasW_list h1;obtain⟨ns,rfl⟩:=items_int h3;have hlen:ns.length<=n:=by
  unfold OpenLaw.pre at hc;have h4:(WTm.not (.lt (.lit (.int (n:Int))) (.len (.arg 0)))).holds [] { args:=[.list (ns.map .int)] }=true:=by have h4:=(holds_andW hc).1;rw[hn]at h4;exact h4
  have h5:=condW_of h4 (w_not (w_lt w_lit (w_len_list (w_arg rfl))));rw[Wh]at h5;refine Nat.le_of_not_lt λq=>?_
  have q':(n:Int)<((ns.length:Nat):Int):=by omega
  first
   |(rw[WF q']at h5;exact absurd h5 (by decide))
   |(simp at h5;omega)
 cases hwl with
 |cons w1 w2=>
   cases w2;cases w1 with
   |list ho hall=>exact⟨_,_,ns,rfl,rfl,ho,ints_of_wellAll ns _ hall,hlen⟩
theorem post_true(l:OpenLaw)(args:List WData):l.row.toRowW.claim.post args (.bool true) args=true:=
 postW_of (r:=l.row.toRowW) (X:=(true==true))
  (show WShape.has [] (.bool true) .bool=true by first | rfl | decide | simp[WShape.has,WShape.arms,WShape.armsAll])
  (show (WTm.eq .res (.lit (.bool true))).value [] { args:=args,res:=some (.bool true),after:=args }=some (.bool (true==true)) from w_eq_bool (w_res rfl) w_lit) rfl
theorem attach_call{l:OpenLaw}{n:Nat}{q:Program}{loose:List Str}{XP:(Str->Option Value)->Heap->Prop}{YP:World->Heap->Prop}{d:DefRec}
  (hn:l.most=some n) (hdf:d.params.defaults=[])
  (call:∀(w:World) (s₀ s₁:Shared) (mg mb:Str->Option Value) (fa:Addr) (o:Obj) (pm cd doc:Value) (a:Addr) (vs:List Value) (ns:List Int),
    Ground q loose [] XP w s₀ mg mb s₁.heap->YP w s₁.heap->
    s₁.heap.get? fa=some o->o.data=.func (docDef d.name d.params d.body d.scope pm cd doc)->s₁.heap.CodeRec cd d.name->mg d.name=some (.ref fa)->
    s₁.heap.get? a=some { cls:=.type "list",data:=.seq vs.toArray }->IntsAre vs ns->ns.length<=n->s₁.gens=#[]->
    codeAny (model l.prog w) callerA (.call (.ref fa) ⟨[.ref a],[]⟩) (λr s'=>r=.ok (.ret (.bool true))/\OldK s₁.heap s'.heap/\s'.os=s₁.os/\AllBare s'.gens) s₁) :
  WalkO q loose XP YP l.row.toRowW d [] (λf vs=>PySem.call f vs):=by
 intro w s₀ s₁ mg mb G Y fa o pm cd doc dV kV ho hd hcd hD hmg hg args vals as hpre hlay hrd hwl hlo;obtain rfl:dV=.none:=Dflts.none hD hdf;obtain rfl:kV=.none:=Dflts.noKw hD;obtain⟨a,vs,ns,rfl,rfl,hobj,hints,hlen⟩:=script_of hn hpre hwl;refine enter_call (Ze (call w s₀ s₁ mg mb fa o pm cd doc a vs ns G Y ho (fd_plain hd) hcd hmg hobj hints hlen hg) λr s' hq=>?_)
 obtain⟨rfl,h2,h3,h4⟩:=hq;exact⟨.inl ⟨.bool true,.bool true,[],rfl,λz=>rfl,.bool true,post_true l _,λz=>⟨List.Pairwise.nil,λz hm=>(nomatch hm)⟩⟩,h2,h3,h4⟩
end Att
namespace L2
open PySem PySem.Spec PyProof.Rows
theorem vals_ints:∀{vs:List Value}{ns:List Int},IntsAre vs ns->Vals (ns.map V.int) vs
 |_,_,.nil=>.nil
 |_,_,.cons n t h=>.cons ⟨t,rfl⟩ (vals_ints h)
def Only(H:Hp):Prop:=∀b,H b=none\/∃o xs,H b=some (.frz o (.lst xs))
theorem law_call{P:Program}{w:World}{K:PySem.W.Frag}{mg mb:Str->Option Value}{CX:CXT}{k:Nat}{fa a:Addr}{fd:FuncData}{x:Str}{sp:Sp}{s₁:Shared}{vs:List Value}{ns:List Int}
  (KX:K.In s₁.heap) (hns:s₁.heap.Ns mainGlobals mg) (hb:s₁.heap.Ns builtinsNs mb) (hbb:∀x:Str,x≠"__name__"->mb x=bootBuiltins x) (hlim:s₁.heap.NoLimit) (hg:s₁.gens=#[])
  (ha:s₁.heap.get? a=some { cls:=.type "list",data:=.seq vs.toArray }) (hi:IntsAre vs ns) (hl:ns.length<=sizeLine) (hr:Room k callerA)
  (F:∀base:Heap,K.In base->base.Ns mainGlobals mg->FnOk P w K mg base CX k fa fd [x] sp) (hbind:∀(s:Shared) (u:Value),BindsTo s fd ⟨[u],[]⟩ [(x,u)])
  (hsp:∀H:Hp,Only H->SqL K H a (ns.map V.int)->sp [.ref a] H (λv y=>v=.bl true) λy y y=>False)
  (hCX:∀H e s',CX [] H s₁ (λy y y=>False) e s'->False) :
  codeAny (model P w) callerA (.call (.ref fa) ⟨[.ref a],[]⟩) (λr s'=>r=.ok (.ret (.bool true))/\OldK s₁.heap s'.heap/\s'.os=s₁.os/\AllBare s'.gens) s₁:=by
 have rv:=vals_ints hi;have lenV:=hi.length
 -- from an abstract heap in which nothing but the script may be tracked
 have core:∀ H:Hp,Only H->SqL K H a (ns.map V.int)->HOk P w H s₁.heap->(∀ b,H b≠none->b=a)->(H a≠none->K.lookup a=none)->
   codeAny (model P w) callerA (.call (.ref fa) ⟨[.ref a],[]⟩) (λr s'=>r=.ok (.ret (.bool true))/\OldK s₁.heap s'.heap/\s'.os=s₁.os/\AllBare s'.gens) s₁:=by
  intro H hO hS hok hA hK;have base_of:∀{b:Addr}{o:Obj},s₁.heap.get? b=some o->H b=none->(hidT s₁.heap H).get? b=some o:=λe n=>hidT_get e n
  have noA:∀ {b:Addr}{o:Obj}{es:Array DictEntry}{ep:Nat},s₁.heap.get? b=some o->o.data=.dict es ep->H b=none:=λ{b o es ep} e d=>by
   cases q:H b with
   |none=>rfl
   |some u=>
     have e':b=a:=hA b (by rw[q];simp)
     subst e';rw[ha]at e;cases e;have d':Data.seq vs.toArray _=Data.dict es ep:=d;cases d'
  have nsK:∀{b:Addr}{m:Str->Option Value},s₁.heap.Ns b m->(hidT s₁.heap H).Ns b m:=λ{b m} ⟨o,es,ep,e,d,r⟩=>⟨o,es,ep,base_of e (noA e d),d,r⟩
  have hKb:K.In (hidT s₁.heap H):=λb o e=>base_of (KX b o e) (by
   cases q:H b with
   |none=>rfl
   |some u=>
     have e':b=a:=hA b (by rw[q];simp)
     subst e';rw[hK (by rw[q];simp)]at e;cases e)
  have hM:Mod K mg (hidT s₁.heap H):=⟨hKb,nsK hns,⟨mb,nsK hb,hbb⟩,let ⟨mc,h1,h2⟩:=hlim;⟨mc,nsK h1,h2⟩⟩
  have e0:Env0 P w K mg (hidT s₁.heap H) callerA [] s₁ H:=⟨rfl,hM,λb o e=>of_hidT e,Nat.le_of_eq (hidT_size _ _),trivial,λb hb=>absurd (show b∈([]:List Addr) from hb) (by simp),hok,.of_eq hg⟩
  refine Ze ((F _ hKb (nsK hns)).run callerA [] s₁ H ⟨[.ref a],[]⟩ [.ref a] [.ref a] _ _ hr e0 (hbind s₁ (.ref a)) (.cons rfl .nil) (hsp H hO hS)) λr s' h=>?_
  cases r with
  |error e=>exact (hCX H e s' h).elim
  | ok fl=>
    cases fl with
    |next=>exact False.elim h
    |brk=>exact False.elim h
    |cont=>exact False.elim h
    | ret u=>
      obtain⟨v,H',os,bare,un,hok',r',q⟩:=h;have q':v=.bl true:=q;subst q';obtain rfl:u=Value.bool true:=r';refine⟨rfl,OldK.of_keep λb o e=>?_,os,bare⟩
      cases q:H b with
      |none=>exact un.keep b o e q (by intro z;exact absurd (show b∈([]:List Addr) from z) (by simp)) (by simp)
      | some u=>
        rcases hO b with z | ⟨ob,xs,z⟩
        ·rw[q]at z;cases z
        ·have z2:=un.frzs b ob _ z;obtain⟨e1,_⟩:=hok b _ z;obtain⟨e2,_⟩:=hok' b _ z2;rw[e]at e1;cases e1;exact e2
 cases hk:K.lookup a with
 |some o=>
   -- the script is one of the module's own objects
   have e:=KX a o hk;rw[ha]at e;cases e;refine core (λy=>none) (λy=>.inl rfl) (.inr ⟨_,vs.toArray,_,hk,rfl,rfl,rfl,by rw[Wv,lenV];exact hl,by simpa using rv⟩) (λb u z=>by have z':(none:Option HO)=some u:=z;cases z') (λb z=>absurd rfl z) λz=>absurd rfl z
 | none=>
   refine core (λb=>if b=a then some (.frz { cls:=.type "list",data:=.seq vs.toArray } (.lst (ns.map V.int))) else none) (λb=>?_) (.inl (.inr ⟨{ cls:=.type "list",data:=.seq vs.toArray },Wm rfl⟩)) (λb u z=>?_) (λb z=>?_) λy=>hk
   ·by_cases hb:b=a
    ·exact .inr ⟨_,_,Wm hb⟩
    ·exact .inl (Wr hb)
   ·by_cases hb:b=a
    ·have z':=(Wm hb).symm.trans z;cases z';subst hb;exact⟨ha,by rw[Wh];exact hl,vs,_,rv,ha⟩
    ·have z':=(Wr hb).symm.trans z;cases z'
   ·by_cases hb:b=a
    ·exact hb
    ·exact absurd (Wr hb) z
open PySem PySem.Spec PyProof.Rows
theorem walk_of{l:PySem.W.OpenLaw}{n k:Nat}{q:Program}{loose:List Str}{XP:(Str->Option Value)->Heap->Prop}{YP:World->Heap->Prop}{d:DefRec}{K:Params->PySem.W.Frag}{CX:World->CXT}{sp:World->Sp}{x:Str}
  (hn:l.most=some n) (hn2:n<=sizeLine) (hdf:d.params.defaults=[]) (hr:Room k callerA)
  (hY:∀(w:World) (h:Heap),YP w h->(K w.params).In h)
  (F:∀ (w:World) (mg:Str->Option Value) (fa:Addr) (h:Heap),(K w.params).In h->h.Ns mainGlobals mg->mg d.name=some (.ref fa)->
    ∃fd:FuncData,(∀(s:Shared) (u:Value),BindsTo s fd ⟨[u],[]⟩ [(x,u)]) /\
      ∀base:Heap,(K w.params).In base->base.Ns mainGlobals mg->FnOk l.prog w (K w.params) mg base (CX w) k fa fd [x] (sp w))
  (hsp:∀(w:World) (H:Hp) (a:Addr) (ns:List Int),ns.length<=n->Only H->SqL (K w.params) H a (ns.map V.int)->sp w [.ref a] H (λv z=>v=.bl true) λz z z=>False)
  (hCX:∀(w:World) (H:Hp) (s:Shared) (e:Value) (s':Shared),CX w [] H s (λz z z=>False) e s'->False) :
  PySem.W.WalkO q loose XP YP l.row.toRowW d [] (λf vs=>PySem.call f vs):=by
 refine Att.attach_call hn hdf λw s₀ s₁ mg mb fa o pm cd doc a vs ns G Y ho hd hcd hmg hobj hints hlen hg=>?_
 have KX:=hY w _ Y;obtain⟨fd,hb,hF⟩:=F w mg fa _ KX G.T.g hmg;exact law_call KX G.T.g G.T.b G.T.builtins G.T.nolimit hg hobj hints (Xm hlen hn2) hr hF hb (λH hO hS=>hsp w H a ns hlen hO hS) λH e s'=>hCX w H s₁ e s'
open PySem PySem.Spec PyProof.Rows
def inClass(s:Stmt)(j:Nat):Stmt:=match s with
 |.ClassDef _ _ _ body _ _ _ _ _ _ _=>body.getD j (.Pass ⟨0,0,0,0⟩)
 |_=>.Pass ⟨0,0,0,0⟩
def defArgs(s:Stmt):Arguments:=match s with
 |.FunctionDef _ a _ _ _ _ _ _ _ _=>a
 |_=>{ posonlyargs:=[],args:=[],vararg:=none,kwonlyargs:=[],kw_defaults:=[],kwarg:=none,defaults:=[] }
def defBody(s:Stmt):List Stmt:=match s with
 |.FunctionDef _ _ b _ _ _ _ _ _ _=>b
 |_=>[]
def defScope(s:Stmt):Scope:=match s with
 |.FunctionDef _ _ _ _ _ _ sc _ _ _=>sc
 |_=>{ kind:=.function,names:=[],isGenerator:=false,isCoroutine:=false }
abbrev E0:XK:=λ_ _ _=>False
structure Fun(K:PySem.W.Frag)(x qual:Str)(st:Stmt)(f:Addr)(fd:FuncData):Prop where
 ex:∃(oc:Value) (od:Option Addr) (kV doc pm:Value) (an:Option Addr) (cdv ct:Value) (osl:Array (Option Value)),
  fd=PySem.W.fnOf x qual (defArgs st) (defBody st) (defScope st) .none kV doc pm an cdv ct/\K.lookup f=some ⟨oc,od,.func fd,osl⟩/\PySem.W.codeIn K cdv qual=true
 kp:PySem.W.keepIn K (.ref f)=true
section
variable{P:Program}{w:World}{K:PySem.W.Frag}{mg:Str->Option Value}{base:Heap}
theorem Fun.binds{x qual:Str}{st:Stmt}{f:Addr}{fd:FuncData}{ps:List Str}(F:Fun K x qual st f fd)
  (h:∀(kV doc pm:Value) (an:Option Addr) (cdv ct:Value) (us:List Value),us.length=ps.length->bindArgs (PySem.W.fnOf x qual (defArgs st) (defBody st) (defScope st) .none kV doc pm an cdv ct) ⟨us,[]⟩=pure (ps.zip us)):Binds K fd ps []:=by
 obtain⟨oc,od,kV,doc,pm,an,cdv,ct,osl,rfl,lk,hcd⟩:=F.ex;exact .all (h kV doc pm an cdv ct)
theorem fun_mk{x qual:Str}{st:Stmt}{f:Addr}{oc:Value}{od an:Option Addr}{osl:Array (Option Value)}{kV doc pm cdv ct:Value}(l:K.lookup f=some ⟨oc,od,.func (PySem.W.fnOf x qual (defArgs st) (defBody st) (defScope st) .none kV doc pm an cdv ct),osl⟩)
  (c:PySem.W.codeIn K cdv qual=true) (k:PySem.W.keepIn K (.ref f)=true):Fun K x qual st f (PySem.W.fnOf x qual (defArgs st) (defBody st) (defScope st) .none kV doc pm an cdv ct):=⟨⟨oc,od,kV,doc,pm,an,cdv,ct,osl,rfl,l,c⟩,k⟩
end
theorem iteF{A B:Prop}(h:B):if false=true then A else B:=by rw[Wr WL];exact h
theorem iteT{A B:Prop}(h:A):if true=true then A else B:=by rw[Wm rfl];exact h
def Same(H H':Hp):Prop:=∀b o,H b=some o->H' b=some o
theorem Same.refl(H:Hp):Same H H:=λz z h=>h
mutual
inductive Rep(K:PySem.W.Frag)(H:Hp):V->PyData->Prop
 |non:Rep K H .non .none
 |bl (b:Bool):Rep K H (.bl b) (.bool b)
 |int (i:Int):Rep K H (.int i) (.int i)
 |str (x:Str):Rep K H (.str x) (.str x)
 |lst {a:Addr}{xs:List V}{ds:List PyData}:SqL K H a xs->Reps K H xs ds->Rep K H (.ref a) (.list ds)
 |tup {a:Addr}{xs:List V}{ds:List PyData}:SqT K H a xs->Reps K H xs ds->Rep K H (.ref a) (.tuple ds)
inductive Reps(K:PySem.W.Frag)(H:Hp):List V->List PyData->Prop
 |nil:Reps K H [] []
 |cons {v:V}{d:PyData}{vs:List V}{ds:List PyData}:Rep K H v d->Reps K H vs ds->Reps K H (v::vs) (d::ds)
end
section
variable{X:Cx}{aaD:List (Addr×Obj)}{σ:St}{H:Hp}{s:Shared}
theorem Rep.reads(I:Inv X aaD σ H s){v:V}{d:PyData}{u:Value}(h:Rep X.K H v d):RelV v u->∃ as,Reads s.heap u d as:=
 Rep.rec (motive_1:=λv d z=>∀ u,RelV v u->∃ as,Reads s.heap u d as) (motive_2:=λvs ds z=>∀ us,Vals vs us->∃ as,ReadsAll s.heap us ds as)
  (λu r=>by cases r;exact⟨_,.none⟩)
  (λb u r=>by cases r;exact⟨_,.bool b⟩)
  (λi u r=>by obtain⟨t,rfl⟩:=r;exact⟨_,.int i t⟩)
  (λi u r=>by obtain⟨t,rfl⟩:=r;exact⟨_,.str i t⟩)
  (λh hs ih u r=>by cases r;obtain⟨its,rv,⟨o,n,h1,h2,_,h3⟩,_⟩:=I.list h;obtain⟨as,ra⟩:=ih _ rv;exact⟨_,.list h1 h2 h3 ra⟩)
  (λh hs ih u r=>by cases r;obtain⟨its,rv,⟨o,h1,h2,n,h3⟩,_⟩:=I.tuple h;obtain⟨as,ra⟩:=ih _ rv;exact⟨_,.tuple h1 h2 h3 ra⟩)
  (λu r=>by cases r;exact⟨_,.nil⟩)
  (λh hs i1 i2 u r=>by
    cases r with
    |cons r1 r2=>obtain⟨a1,e1⟩:=i1 _ r1;obtain⟨a2,e2⟩:=i2 _ r2;exact⟨_,.cons e1 e2⟩)
  h u
end
theorem same_new{H:Hp}{p:Addr}(h:H p=none)(o:HO):Same H (upd H p o):=λb u q=>by rw[upd_ne (ne_of_none q h)];exact q
section
variable{X:Cx}
def Lf(K:PySem.W.Frag)(neg:Bool):R2:=λx y H Q=>∃da db,Rep K H x da/\Rep K H y db/\da.canLay0=true/\db.canLay0=true/\da.depth<=60/\Q (.bl (if neg then !PyData.eqv da db else PyData.eqv da db)) H
theorem Q7(hu:X.A.units+64<cLine):OpR X (compareOp .Eq) (Lf X.K false):=by intro aaD s σ H x y v u Q I rx ry h;obtain⟨da,db,ha,hb,la,lb,hd,q⟩:=h;obtain⟨as,ra⟩:=ha.reads I rx;obtain⟨bs,rb⟩:=hb.reads I ry;exact PySem.SeqAt.compareEq_reads ra rb la lb (by lia) ⟨.bl _,H,I,rfl,q⟩
theorem Jd(hu:X.A.units+64<cLine):OpR X (compareOp .NotEq) (Lf X.K true):=by intro aaD s σ H x y v u Q I rx ry h;obtain⟨da,db,ha,hb,la,lb,hd,q⟩:=h;obtain⟨as,ra⟩:=ha.reads I rx;obtain⟨bs,rb⟩:=hb.reads I ry;exact PySem.SeqAt.compareNe_reads ra rb la lb (by lia) ⟨.bl _,H,I,rfl,q⟩
def Su(i j:Int):Prop:=IntMulOk i j
theorem Og:OpR X (binaryOp .Mult) (rI Su λi j=>.int (i*j)):=opI λz z z z z z z hc q=>mul_int q hc
theorem Kg:CallR X (.builtin "isinstance") (λxs H Q=>∃x t c b,xs=[x,.ty c]/\TyOf X.K H x t/\PySem.W.kitOne X.K t (.type c)=some b/\Q (.bl b) H):=by intro aaD s σ H xs us Q I r h;obtain⟨x,t,c,b,rfl,ty,e,q⟩:=h;obtain⟨u,w',rfl,r1,r2⟩:=vals2 r;cases r2;exact isinst_ok I r1 ty e λtk=>⟨.bl b,H,I.tok _,rfl,q⟩
end
open PySem PySem.Spec PyProof.Rows
structure DefAt(K:PySem.W.Frag)(mg:Str->Option Value)(x:Str)(st:Stmt):Prop where
 ex:∃f fd,Fun K x x st f fd/\mg x=some (.ref f)
theorem Ks{K:PySem.W.Frag}{h:Heap}{mg:Str->Option Value}{x:Str}{st:Stmt}{f:Addr}{oc:Value}{od an:Option Addr}{osl:Array (Option Value)}{kV doc pm cdv ct:Value}(X:K.In h)(G:h.Ns mainGlobals mg)
  (a:PySem.W.nsIn K mainGlobals x=some (some (.ref f))) (l:K.lookup f=some ⟨oc,od,.func (PySem.W.fnOf x x (defArgs st) (defBody st) (defScope st) .none kV doc pm an cdv ct),osl⟩) (c:PySem.W.codeIn K cdv x=true) (k:PySem.W.keepIn K (.ref f)=true):DefAt K mg x st:=
 ⟨f,_,fun_mk l c k,ZX X G a⟩
section
variable{X:Cx}{j k:Nat}{ps:List Str}{sp:Sp}{x:Str}{p pos:Pos}{e:Expr}{es:List Expr}{t:TA}
theorem U0{id:String}{r:List V->Hp->VK->Prop}(hc:CallR X (.builtin id) r)(hm:X.mg x=none)(ha:PA X (e::es) t)(hg:Gl X x:=by rfl)(hv:bootBuiltins x=some (.builtin id):=by decide +kernel)(hn:x≠"__name__":=by decide)(hdb:(x==("__debug__":Str))=false:=by decide)
  (he:starEach (e::es) X.env=(false,eval e X.env)::starEach es X.env:=by rfl) (hpl:(backTo pos (starEach es X.env)).any (·.1)=false:=by rfl) :
  PE X (.Call (.Name x p) (e::es) [] pos) (tCB r t):=pe_callB hc hg hm hv ha hn hdb he hpl
theorem Tc{T:String}(hm:X.mg x=none)(hg:Gl X x:=by rfl)(hv:bootBuiltins x=some (.type T):=by decide +kernel)(hn:x≠"__name__":=by decide)(hdb:(x==("__debug__":Str))=false:=by decide):PE X (.Name x pos) (tC (.ty T)):=
 pe_bltn hg hm hv rfl hn hdb
end
end L2
namespace L2
open PySem PySem.Spec PyProof.Rows
open PySem PySem.Spec PyProof.Rows
end L2
namespace L2
open PySem PySem.Spec PyProof.Rows
def dG(P:Program)(w:World):CXT:=λouter H s E e s'=>
 ∃(x:Addr) (C a0:Value) (H':Hp) (B:Heap),e=.ref x∧s'.os=s.os∧AllBare s'.gens∧Un (frs outer) [] H H' s.heap s'.heap∧HOk P w H' s'.heap∧Heap.FlyingW B outer x C a0 s'.heap ∧
   (∀b,H' b≠none->∃o,B.get? b=some o)/\(∀b o,s.heap.get? b=some o->b∉frs outer->∃o',B.get? b=some o')/\E C none H'
theorem KD{env:Env}{l:List Env}{L:Addr}(h:env.frame=some L):frs (env::l)=L::frs l:=by unfold frs;rw[Zq,h]
theorem O5{fs:List Addr}{H H':Hp}{h0 h h' B:Heap}(u:Un fs [] H H' h0 h)(hB:B.StaysIn h)(hB':B.StaysIn h')(up:h.UpToSlots h')
  (fr:∀b∈fs,∃o,h.get? b=some o/\∀vs,o.data≠.fields vs) (cov:∀b o,h0.get? b=some o->b∉fs->∃o',B.get? b=some o'):Un fs [] H H' h0 h' where
 keep b o e n hb hx:=by have h1:=u.keep b o e n hb hx;obtain⟨o',e'⟩:=cov b o e hb;have h2:=hB b o' e';rw[h1]at h2;cases h2;exact hB' b o e'
 slot b o e n hb hx:=by obtain⟨sl,h1⟩:=u.slot b o e n hb hx;obtain⟨o1,h2,nf⟩:=fr b hb;rw[h1]at h2;cases h2;obtain⟨sl2,h3⟩:=up b _ h1 nf;exact⟨sl2,h3⟩
 free:=u.free
 there b o e hx:=by
  by_cases hb:b∈fs
  ·obtain⟨o1,h2,nf⟩:=fr b hb;obtain⟨sl2,h3⟩:=up b _ h2 nf;exact⟨_,h3⟩
  ·obtain⟨o',e'⟩:=cov b o e hb;exact⟨o',hB' b o' e'⟩
 tups:=u.tups
 frzs:=u.frzs
 tbls:=u.tbls
theorem KN{P:Program}{w:World}{H':Hp}{h h' B:Heap}(ok:HOk P w H' h)(hB:B.StaysIn h)(hB':B.StaysIn h')(cov:∀ b,H' b≠none->∃ o,B.get? b=some o):HOk P w H' h':=λa o e=>
 (ok a o e).stay (λb u hb hu=>by
   have hn:H' b≠none:=by
    rcases hb with rfl | hb
    ·rw[e];simp
    ·rw[hb];simp
   obtain⟨o',e'⟩:=cov b hn;have:=hB b o' e';rw[hu]at this;cases this;exact hB' b u e') (λz h=>h) (λz z h=>h)
section
variable{P:Program}{w:World}{K:PySem.W.Frag}{mg:Str->Option Value}{base:Heap}{N:List Str}{qual:Str}{scope:Scope}{f:Addr}{cd:Value}{A:Around}{outer:List Env}{s:Shared}{H:Hp}{E:XK}
abbrev jm(P:Program)(w:World)(K:PySem.W.Frag)(mg:Str->Option Value)(base:Heap)(N:List Str)(qual:Str)(scope:Scope)(f:Addr)(cd:Value)(A:Around)(outer:List Env)(s:Shared)(H:Hp)(E:XK):Cx:=
 cxOf (dG P w) P w K mg base N qual scope f cd A outer s H E
theorem aD:Passes (dG P w) (jm P w K mg base N qual scope f cd A outer s H E) E:=by
 intro aaD σ H1 s1 e s' I hf;obtain⟨x,C,a0,H',B,rfl,os,bare,un,hok,fl,ci,cii,q⟩:=hf;have J:Inv (jm P w K mg base N qual scope f cd A outer s H E) aaD σ H' s':=I.call' (ch:=[]) os un hok bare (λb z=>absurd z (by simp))
 have hfr:(jm P w K mg base N qual scope f cd A outer s H E).A.frames=some ((jm P w K mg base N qual scope f cd A outer s H E).env::outer):=I.ok.frames;have hfs:∀b∈frs outer,∃o,s'.heap.get? b=some o/\∀vs,o.data≠.fields vs:=λb hb=>(fl.2.2.1.2.2.mem hb).2
 have hfrm:(jm P w K mg base N qual scope f cd A outer s H E).env.frame=some (jm P w K mg base N qual scope f cd A outer s H E).env.locals:=rfl;have cov:∀b o,s.heap.get? b=some o->b∉frs outer->∃o',B.get? b=some o':=λb o e hb=>by
  obtain⟨o1,h1⟩:=I.base.there b o e (show b∉([]:List Addr) by simp)
  refine cii b o1 h1 ?_;show b∉frs ((jm P w K mg base N qual scope f cd A outer s H E).env::outer);rw[KD hfrm];intro hm;rcases Wy.mp hm with rfl | hm
  ·exact absurd (Wj e) (X4.mpr I.ok.above)
  ·exact hb hm
 show wpAny _ _ (leaving _ (.ref x)) _ _ s';refine wpAny_leaves_onW hfr rfl fl λh' fl' up=>?_
 exact⟨x,C,a0,H',B,rfl,J.os,bare,O5 J.base fl.1 fl'.1 up hfs cov,KN hok fl.1 fl'.1 ci,fl',ci,cov,q⟩
end
def pick(js:List Nat)(σ:St):St:=js.map λj=>(σ[j]?).getD none
theorem Ci(u:Un fs ex H H' h0 h)(hs:Heap.SameBut C h h')(hC:h0.objs.size<=C):Un fs ex H H' h0 h' where
 keep b o e n hb hx:=(hs.2 b (Wu (Wo (Wj e) hC))).trans (u.keep b o e n hb hx)
 slot b o e n hb hx:=by obtain⟨sl,e1⟩:=u.slot b o e n hb hx;exact⟨sl,(hs.2 b (Wu (Wo (Wj e) hC))).trans e1⟩
 free:=u.free
 there b o e hx:=by obtain⟨o',e1⟩:=u.there b o e hx;exact⟨o',(hs.2 b (Wu (Wo (Wj e) hC))).trans e1⟩
 tups:=u.tups
 frzs:=u.frzs
 tbls:=u.tbls
theorem xm(ok:HOk P w H h)(hs:Heap.SameBut C h h')(hC:H C=none):HOk P w H h':=λb ob e=>
 (ok b ob e).stay (λc w' hc q=>(hs.2 c (by
   rintro rfl;rcases hc with hc | hc
   ·rw[<-hc,hC]at e;cases e
   ·rw[hC]at hc;cases hc)).trans q) (λz q=>q) λz z q=>q
structure DefC(P:Program)(w:World)(K:PySem.W.Frag)(mg:Str->Option Value)(base:Heap)(k:Nat)(x:Str)(ps:List Str)(sp:Sp):Prop where
 ex:∃f fd,FnOk P w K mg base (dG P w) k f fd ps sp/\Binds K fd ps []/\PySem.W.keepIn K (.ref f)=true/\mg x=some (.ref f)
section
variable{P:Program}{w:World}{K:PySem.W.Frag}{mg:Str->Option Value}{base:Heap}{k:Nat}{x:Str}{N ps:List Str}{sp:Sp}{st:Stmt}
theorem Ur(F:Fun K x x st f fd)(S:FnScope N ps (defScope st))(len:∀ vs H Q E,sp vs H Q E->vs.length=ps.length)
  (hbody:∀(cdv:Value) (A:Around) (outer:List Env) (s:Shared) (H:Hp) (vs:List V) (Q:VK) (E:XK),Room k (A.deeper (envOfC x (defScope st) s.heap.objs.size f cdv))->sp vs H Q E->
    ∃t,PSs (jm P w K mg base N x (defScope st) f cdv A outer s H E) (defBody st) t/\t { nx:=λz H'=>Q .non H',rt:=Q } (start N vs) H):FnOk P w K mg base (dG P w) (k+1) f fd ps sp:=by
 obtain⟨oc,od,kV,doc,pm,an,cdv,ct,osl,rfl,l,c⟩:=F.ex;exact fn_of l c S len (hbody cdv)
theorem DefAt.okE(D:DefAt K mg x st)(S:FnScope N ps (defScope st))(hb:∀ (kV doc pm:Value) (an:Option Addr) (cdv ct:Value) (us:List Value),us.length=ps.length->bindArgs (PySem.W.fnOf x x (defArgs st) (defBody st) (defScope st) .none kV doc pm an cdv ct) ⟨us,[]⟩=pure (ps.zip us))
  (len:∀vs H Q E,sp vs H Q E->vs.length=ps.length)
  (hbody:∀(f:Addr) (cdv:Value) (A:Around) (outer:List Env) (s:Shared) (H:Hp) (vs:List V) (Q:VK) (E:XK),Room k (A.deeper (envOfC x (defScope st) s.heap.objs.size f cdv))->sp vs H Q E->
    ∃t,PSs (jm P w K mg base N x (defScope st) f cdv A outer s H E) (defBody st) t/\t { nx:=λz H'=>Q .non H',rt:=Q } (start N vs) H):DefC P w K mg base (k+1) x ps sp:=by
 obtain⟨f,fd,F,m⟩:=D.ex;exact⟨f,fd,Ur F S len (hbody f),F.binds hb,F.kp,m⟩
end
theorem rK:Passes (dG P w) X E0:=λz z z z z z z h=>by obtain⟨_,_,_,_,_,_,_,_,_,_,_,_,_,q⟩:=h;exact q.elim
section
variable{X:Cx}{j k:Nat}{ps:List Str}{sp:Sp}{x:Str}{p pos:Pos}{e:Expr}{es:List Expr}{t:TA}{E:XK}
theorem K9(D:DefC X.prog X.w X.K X.mg X.base j x ps sp)(hr:Room k X.A)(hx:Passes (dG X.prog X.w) X E)(ha:PA X (e::es) t)(hjk:j<=k:=by decide)(hg:Gl X x:=by rfl)(hdb:(x==("__debug__":Str))=false:=by decide)
  (he:starEach (e::es) X.env=(false,eval e X.env)::starEach es X.env:=by rfl) (hpl:(backTo pos (starEach es X.env)).any (·.1)=false:=by rfl) :
  PE X (.Call (.Name x p) (e::es) [] pos) (tCall sp [] E t):=by
 obtain⟨f,fd,F,b,kp,m⟩:=D.ex;exact pe_call F (hr.mono hjk) hg m kp b .nil hx ha hdb he hpl
end
section
variable{κ:Type}[DecidableEq κ]
def valV(kvs:List (κ×V))(k:κ):Option V:=(kvs.find? λkv=>decide (kv.1=k)).map (·.2)
def putK(kvs:List (κ×V))(k:κ)(v:V):List (κ×V):=
 if (kvs.any λkv=>decide (kv.1=k))=true then kvs.map (λkv=>if kv.1=k then (kv.1,v) else kv) else kvs++[(k,v)]
theorem valV_pos{r:List (κ×V)}(e:p.1=k):valV (p::r) k=some p.2:=by simp[valV,List.find?_cons,e]
theorem valV_neg{r:List (κ×V)}(e:¬ p.1=k):valV (p::r) k=valV r k:=by simp[valV,List.find?_cons,e]
theorem valV_any(k:κ):∀ kvs:List (κ×V),(kvs.any λkv=>decide (kv.1=k))=(valV kvs k).isSome
 |[]=>rfl
 |p::r=>by
   rw[aak];by_cases e:p.1=k
   ·simp only[valV_pos e,decide_eq_true e,Bool.true_or,Option.isSome_some]
   ·rw[valV_neg e,Xu e,Bool.false_or];exact valV_any k r
theorem length_putK(kvs:List (κ×V))(k:κ)(v:V):(putK kvs k v).length<=kvs.length+1:=by
 unfold putK;split
 ·rw[Wh];lia
 ·rw[Ww,Xv,List.length_nil];lia
theorem putK_new{kvs:List (κ×V)}(v:V)(h:valV kvs k=none):putK kvs k v=kvs++[(k,v)]:=by unfold putK;rw[valV_any,h];exact Wr (by decide)
theorem RelO.isSome_eq(r:RelO o u):o.isSome=u.isSome:=by
 cases o with
 |none=>cases u with
   |none=>rfl
   |some _=>exact (show False from r).elim
 |some _=>cases u with
   |none=>exact (show False from r).elim
   |some _=>rfl
theorem KV.val{kvs:List (κ×V)}{vs:List (κ×Value)}(r:KV kvs vs)(k:κ):RelO (valV kvs k) (valueAt vs k):=by
 unfold KV at r;induction r with
 |nil=>exact True.intro
 | @cons p q ps qs h t ih=>
   obtain⟨h1,h2⟩:=h;by_cases e:p.1=k
   ·have e':q.1=k:=h1.symm.trans e;have b:valueAt (q::qs) k=some q.2:=by simp[valueAt,List.find?_cons,e']
    rw[valV_pos e,b];exact h2
   ·have e':¬ q.1=k:=λz=>e (h1.trans z)
    have b:valueAt (q::qs) k=valueAt qs k:=by simp[valueAt,List.find?_cons,e']
    rw[valV_neg e,b];exact ih
theorem KV.any(r:KV kvs vs)(k:κ):(kvs.any λkv=>decide (kv.1=k))=vs.any λkv=>decide (kv.1=k):=by
 unfold KV at r;induction r with
 |nil=>rfl
 |cons h t ih=>rw[aak,aak,ih,h.1]
theorem KV.repl(r:KV kvs vs)(k:κ)(ry:RelV y u):
  KV (kvs.map λkv=>if kv.1=k then (kv.1,y) else kv) (vs.map λkv=>if kv.1=k then (kv.1,u) else kv):=by
 unfold KV at r ⊢
 induction r with
 |nil=>exact .nil
 | @cons p q ps qs h t ih=>
   rw[W0,W0];refine .cons ?_ ih;obtain⟨h1,h2⟩:=h;by_cases e:p.1=k
   ·rw[Wm e,Wm (h1.symm.trans e)];exact⟨h1,ry⟩
   ·rw[Wr e,Wr (λz=>e (h1.trans z))];exact⟨h1,h2⟩
theorem KV.put(r:KV kvs vs)(k:κ)(ry:RelV y u):KV (putK kvs k y) (stored vs k u):=by
 unfold putK stored;rw[r.any k];by_cases e:(vs.any λkv=>decide (kv.1=k))=true
 ·rw[Wm e,Wm e];exact r.repl k ry
 ·rw[Wr e,Wr e];exact Paired.snoc r ⟨rfl,ry⟩
theorem KV.keys{kvs:List (κ×V)}{vs:List (κ×Value)}(r:KV kvs vs):kvs.map (·.1)=vs.map (·.1):=by
 unfold KV at r;induction r with
 |nil=>rfl
 |cons h t ih=>rw[W0,W0,ih,h.1]
theorem KV.length(r:KV kvs vs):kvs.length=vs.length:=aai r
end
theorem kV_is(r:RelV (kV k) u):(mixKind P w).is k u=true:=by
 cases k with
 |inl i=>obtain⟨t,e⟩:=(show ∃t,u=Value.int i t from r);subst e;exact mixKind_int P w i t
 |inr x=>obtain⟨t,e⟩:=(show ∃t,u=Value.str x t from r);subst e;exact mixKind_str P w x t
theorem items_are:∀ {ks:List Key}{us:List Value},Vals (ks.map kV) us->ItemsAre (mixKind P w) ks us
 |[],_,r=>by rw[Zx]at r;cases r;exact .nil
 |k::ks,_,r=>by
   rw[W0]at r;cases r with
   |cons h t=>exact .cons (kV_is h) (items_are t)
abbrev KT(H:Hp):List (List Key×V)->List (List Key×Addr×Value)->Prop:=Paired λp q=>p.1=q.1/\H q.2.1=some (.tup (p.1.map kV))/\RelV p.2 q.2.2
theorem KT.val{kvs:List (List Key×V)}{xs:List (List Key×Addr×Value)}(r:KT H kvs xs)(k:List Key):RelO (valV kvs k) ((atKey xs k).map (·.2)):=by
 induction r with
 |nil=>exact True.intro
 | @cons p q ps qs h t ih=>
   obtain⟨h1,_,h2⟩:=h;by_cases e:p.1=k
   ·have e':q.1=k:=h1.symm.trans e;have b:atKey (q::qs) k=some q.2:=by simp[atKey,List.find?_cons,e']
    rw[valV_pos e,b];exact h2
   ·have e':¬ q.1=k:=λz=>e (h1.trans z)
    have b:atKey (q::qs) k=atKey qs k:=by simp[atKey,List.find?_cons,e']
    rw[valV_neg e,b];exact ih
theorem KT.repl(r:KT H kvs xs)(k:List Key)(ry:RelV y u):
  KT H (kvs.map λkv=>if kv.1=k then (kv.1,y) else kv) (xs.map (putAt k u)):=by
 induction r with
 |nil=>exact .nil
 | @cons p q ps qs h t ih=>
   rw[W0,W0];refine .cons ?_ ih;obtain⟨h1,h2,h3⟩:=h;unfold putAt;by_cases e:p.1=k
   ·rw[Wm e,Wm (h1.symm.trans e)];exact⟨h1,h2,ry⟩
   ·rw[Wr e,Wr (λz=>e (h1.trans z))];exact⟨h1,h2,h3⟩
theorem KT.put(r:KT H kvs xs)(k:List Key)(hb:H b=some (.tup (k.map kV)))(ry:RelV y u):
  KT H (putK kvs k y) (storedH xs k b u):=by
 have e:(kvs.any λkv=>decide (kv.1=k))=(atKey xs k).isSome:=by rw[valV_any,(r.val k).isSome_eq,Option.isSome_map]
 unfold putK storedH;rw[e];by_cases q:(atKey xs k).isSome=true
 ·rw[Wm q,Wm q];exact r.repl k ry
 ·rw[Wr q,Wr q];exact Paired.snoc r ⟨rfl,hb,ry⟩
theorem KT.keeps(r:KT H kvs xs)(ht:∀b ys,H b=some (.tup ys)->H' b=some (.tup ys)):KT H' kvs xs:=
 Paired.mapP r λy y z=>⟨z.1,ht _ _ z.2.1,z.2.2⟩
section
variable{P:Program}{w:World}{H:Hp}{h:Heap}{a:Addr}
theorem rd_of(ok:HOk P w H h)(e:Rd H a u):ObjOk P w H h a u:=e.ok ok
theorem dk_rd(ok:HOk P w H h)(e:Rd H a (.dK kvs)):kvs.length<=sizeLine/\(a==sysModules)=false/\∃vs,KV kvs vs/\h.DictOf (mixKind P w) a vs:=
 show ObjOk P w H h a (.dK kvs) from rd_of ok e
theorem dk_of(ok:HOk P w H h)(e:H a=some (.dK kvs)):kvs.length<=sizeLine/\(a==sysModules)=false/\∃vs,KV kvs vs/\h.DictOf (mixKind P w) a vs:=dk_rd ok (.inl e)
theorem key_of(ok:HOk P w H h)(e:H a=some (.tup (ks.map kV))):(tupleKind (mixKind P w)).is h ks a:=by
 obtain⟨_,its,r,o,h1,h2,n,h3⟩:=(show ObjOk P w H h a (.tup (ks.map kV)) from ok a _ e)
 exact⟨o,its.toArray,n,h1,h2,h3,by simpa using items_are r⟩
theorem dt_rd(ok:HOk P w H h)(e:Rd H a (.dT kvs)):kvs.length<=sizeLine/\(a == sysModules)=false /\
  ∃xs,KT H kvs xs/\h.DictOfH (tupleKind (mixKind P w)) a xs:=by
 obtain⟨z,y,xs,r,o,es,ep,h1,h2,h3,h4,h5⟩:=(show ObjOk P w H h a (.dT kvs) from rd_of ok e)
 refine⟨z,y,xs,r,o,es,ep,h1,h2,h3,h4,λx hx=>?_,h5⟩
 have all:∀ {l:List (List Key×V)}{m:List (List Key×Addr×Value)},KT H l m->∀ x∈m,(tupleKind (mixKind P w)).is h x.1 x.2.1:=by
  intro l m q;induction q with
  |nil=>intro x hx;exact nomatch hx
  | @cons p q ps qs hq t ih=>
    intro x hx;rcases Wy.mp hx with e | hx
    ·subst e;exact key_of ok (by rw[<-hq.1];exact hq.2.1)
    ·exact ih x hx
 exact all r x hx
theorem dt_of(ok:HOk P w H h)(e:H a=some (.dT kvs)):kvs.length<=sizeLine/\(a==sysModules)=false /\
  ∃xs,KT H kvs xs/\h.DictOfH (tupleKind (mixKind P w)) a xs:=dt_rd ok (.inl e)
end
def DGet(H:Hp)(a:Addr)(y:V)(r:Option V):Prop:=
 (∃kvs k,Rd H a (.dK kvs)/\y=kV k/\r=valV kvs k)\/∃kvs k b,Rd H a (.dT kvs)/\y=.ref b/\H b=some (.tup (k.map kV))/\r=valV kvs k
def DPut(H:Hp)(a:Addr)(y v:V)(H':Hp):Prop:=
 (∃kvs k,H a=some (.dK kvs)/\y=kV k/\kvs.length<sizeLine/\H'=upd H a (.dK (putK kvs k v))) \/
 ∃kvs k b,H a=some (.dT kvs)/\y=.ref b/\H b=some (.tup (k.map kV))/\kvs.length<sizeLine/\H'=upd H a (.dT (putK kvs k v))
theorem DGet.k{H:Hp}{a:Addr}{kvs:List (Key×V)}{k:Key}(e:H a=some (.dK kvs)):DGet H a (kV k) (valV kvs k):=.inl ⟨kvs,k,.inl e,rfl,rfl⟩
theorem DPut.k{H:Hp}{a:Addr}{kvs:List (Key×V)}{k:Key}{v:V}(e:H a=some (.dK kvs))(hl:kvs.length<sizeLine):DPut H a (kV k) v (upd H a (.dK (putK kvs k v))):=.inl ⟨kvs,k,e,rfl,hl,rfl⟩
section
variable{X:Cx}{aaD:List (Addr×Obj)}{σ:St}{H:Hp}{s:Shared}{a:Addr}{y v:V}{u r:Value}{o:Option V}{A:Around}{E:Value->Shared->Prop}
theorem Inv.big(I:Inv X aaD σ H s):sysModules<s.heap.objs.size:=by have h:mainGlobals<s.heap.objs.size:=(I.mod.glob.keeps I.bk).lt;exact Zz (by decide) h
theorem d_getItem(hu:A.units+1<cLine)(I:Inv X aaD σ H s)(g:DGet H a y (some v))(ry:RelV y u)(h:∀w' s',Inv X aaD σ H s'->RelV v w'->Q w' s'):
  wpAny (model X.prog X.w) A (getItem (.ref a) u) Q E s:=by
 rcases g with ⟨kvs,k,e,ey,l⟩ | ⟨kvs,k,b,e,ey,eb,l⟩
 ·subst ey;obtain⟨z,hd,vs,rel,dd⟩:=dk_rd I.hok e;obtain⟨w',hw,rw'⟩:=RelO.some_of (v:=v) (o:=valueAt vs k) (by rw[l];exact rel.val k)
  exact wpAny_getItem_of (kV_is ry) dd.mapOf hw (h w' _ (I.tok _) rw')
 ·subst ey;cases (show u=Value.ref b from ry)
  obtain⟨z,hd,xs,rel,dd⟩:=dt_rd I.hok e;obtain⟨w',hw,rw'⟩:=RelO.some_of (v:=v) (o:=(atKey xs k).map (·.2)) (by rw[l];exact rel.val k)
  obtain⟨p,hp,hp2⟩:=Wi.mp hw;refine wpAny_getItem_heap (tupleKind_room_in1 hu) (key_of I.hok eb) dd hp ?_;rw[hp2];exact h w' _ (I.tok _) rw'
theorem d_notIn(hu:A.units+1<cLine)(I:Inv X aaD σ H s)(g:DGet H a y o)(ry:RelV y u)(h:∀s',Inv X aaD σ H s'->Q (.bool (!o.isSome)) s'):
  wpAny (model X.prog X.w) A (compareOp .NotIn u (.ref a)) Q E s:=by
 rcases g with ⟨kvs,k,e,ey,l⟩ | ⟨kvs,k,b,e,ey,eb,l⟩
 ·subst ey;obtain⟨z,hd,vs,rel,dd⟩:=dk_rd I.hok e;refine wpAny_notIn_of (kV_is ry) hd dd.mapOf ?_;rw[<-(rel.val k).isSome_eq,<-l];exact h _ (I.tok _)
 ·subst ey;cases (show u=Value.ref b from ry)
  obtain⟨z,hd,xs,rel,dd⟩:=dt_rd I.hok e;refine wpAny_notIn_heap (tupleKind_room_in1 hu) (key_of I.hok eb) hd dd ?_;have q:=(rel.val k).isSome_eq;rw[Option.isSome_map]at q;rw[<-q,<-l];exact h _ (I.tok _)
theorem d_write(I:Inv X aaD σ H s)(mu:Mut (H a))(hs:Heap.SameBut a s.heap h')(he:∃q,h'.get? a=some q)(new:ObjOk X.prog X.w (upd H a ob) h' a ob):
  Inv X aaD σ (upd H a ob) { s with heap:=h',toks:=t' }:=
 I.write (x:=a) (e:=a) mu (.inl rfl) (λb q hb z=>(hs.2 b hb).trans z) he new
theorem dk_new(z:kvs.length<=sizeLine)(hd:(a==sysModules)=false)(rel:KV kvs vs)(dd:h'.DictOf (mixKind P w) a vs):
  ObjOk P w H' h' a (.dK kvs):=⟨z,hd,vs,rel,dd⟩
theorem d_setItem(hu:A.units+1<cLine)(I:Inv X aaD σ H s)(g:DPut H a y v H')(ry:RelV y u)(rv:RelV v r)(h:∀s',Inv X aaD σ H' s'->Q () s'):
  wpAny (model X.prog X.w) A (setItem (.ref a) u r) Q E s:=by
 rcases g with ⟨kvs,k,e,ey,l,eH⟩ | ⟨kvs,k,b,e,ey,eb,l,eH⟩
 ·subst ey eH;obtain⟨z,hd,vs,rel,dd⟩:=dk_of I.hok e;have hz:vs.length<=sizeLine:=by rw[<-rel.length];exact z
  have hl:(putK kvs k v).length<=sizeLine:=by have:=length_putK kvs k v;lia
  refine wpAny_setItem_pairs (hsz:=hz) (kV_is ry) dd λh' dd' hs=>h _ ?_
  have he:∃q,h'.get? a=some q:=let ⟨q,_,_,hq,_⟩:=dd';⟨q,hq⟩
  exact d_write I (by rw[e];exact True.intro) hs he (dk_new hl hd (rel.put k rv) dd')
 ·subst ey eH;cases (show u=Value.ref b from ry)
  obtain⟨z,hd,xs,rel,dd⟩:=dt_of I.hok e;have hz:xs.length<=sizeLine:=by rw[<-aai rel];exact z
  have hl:(putK kvs k v).length<=sizeLine:=by have:=length_putK kvs k v;lia
  refine wpAny_setItem_heap (hsz:=hz) (tupleKind_room_in1 hu) (key_of I.hok eb) dd λh' dd' hs=>h _ ?_
  obtain⟨q,es,ep,hq,h2,h3,h4,_,h5⟩:=dd';refine d_write I (by rw[e];exact True.intro) hs ⟨q,hq⟩ ⟨hl,hd,_,(rel.put k eb rv).keeps λc ys ec=>?_,q,es,ep,hq,h2,h3,h4,h5⟩
  rw[upd_ne (ne_of ec e (λz=>nomatch z))]
  exact ec
end
def NoSl(i:Expr):Prop:=∀ov iv,subscripted i false ov iv=operate [ov,iv] (getItem ov iv)
theorem subD_of{prog:Program}{w:World}{A:Around}{E:Value->Shared->Prop}{s:Shared}{env:Env}{value slice:Expr}{pos:Pos}{T id:String}{Q:Value->Shared->Prop}
  (hl:typeLookup (.type T) "__getitem__"=pure (some (.builtin id))) (hs:NoSl slice)
  (h:wpAny (model prog w) A (eval value env) (λo s₁=>wpAny (model prog w) A (eval slice env) (λi s₂=>s₂.TypeIs o T/\wpAny (model prog w) A (getItem o i) Q E s₂) E s₁) E s) :
  wpAny (model prog w) A (eval (.Subscript value slice pos) env) Q E s:=by
 refine Subscript_ (Wx h (λo s₁ h₁=>Wx h₁ (λi s₂ h₂=>?_) λz z x=>x) λz z x=>x)
 obtain⟨hT,h₂⟩:=h₂;unfold subscriptTail;refine Wc ?_;rw[getitemInPython_of_ne hT.not_modules];refine Wc (wpAny_specialOf hT hl ?_);have fin:wpAny (model prog w) A (subscripted slice false o i) (λr s₃=>wpAny (model prog w) A (letTemporaryGo value o r>>=λz=>pure r) Q E s₃) E s₂:=by rw[hs o i];exact wpAny_operating (Wx h₂ (λr s₃ h₃=>Wc (wpAny_letTemporaryGo (We h₃))) λz z x=>x)
 first
  |exact We (Wc fin)
  |exact Wc (We (Wc fin))
  |exact Wc fin
theorem dict_typeIs(I:Inv X aaD σ H s)(g:DGet H a y o):s.TypeIs (.ref a) "dict":=by
 rcases g with ⟨kvs,k,e,_,_⟩ | ⟨kvs,k,b,e,_,_,_⟩
 ·obtain⟨_,_,vs,_,dd⟩:=dk_rd I.hok e;exact dd.typeIs
 ·obtain⟨_,_,xs,_,dd⟩:=dt_rd I.hok e;exact dd.typeIs
def tDGet(td ty:TE):TE:=λσ H Q=>td σ H λx H1=>ty σ H1 λy H2=>∃a v,x=.ref a/\DGet H2 a y (some v)/\Q v H2
section
variable{X:Cx}{o i e value:Expr}{pos pos' tpos:Pos}{td ty tv:TE}
theorem pe_dget(hu:X.A.units+1<cLine)(ho:PE X o td)(hi:PE X i ty)(hs:NoSl i):PE X (.Subscript o i pos) (tDGet td ty):=by
 intro aaD s σ H Q I h;refine subD_of PySem.F.slot_dict_getitem.lookup hs (thn (ho aaD s σ H _ I h) λu s1 ⟨x,H1,I1,rx,q1⟩=>thn (hi aaD s1 σ H1 _ I1 q1) λiv s2 ⟨y,H2,I2,ry,a,v,ex,g,q2⟩=>?_)
 subst ex;obtain rfl:u=Value.ref a:=rx;exact⟨dict_typeIs I2 g,d_getItem hu I2 g ry λw' s3 I3 rw'=>⟨v,H2,I3,rw',q2⟩⟩
end
theorem dk_empty(h:Heap)(hb:sysModules<h.objs.size):ObjOk P w H (h.push { cls:=.type "dict",data:=.dict #[] }) h.objs.size (.dK []):=
 ⟨X3 _,Y4.mpr (Ne.symm (Wu hb)),[],.nil,Heap.DictOf.new h⟩
def tPairs:List (TE×TE)->St->Hp->(List (V×V)->Hp->Prop)->Prop
 |[],_,H,Q=>Q [] H
 |(tk,tv)::r,σ,H,Q=>tk σ H λx H1=>tv σ H1 λy H2=>tPairs r σ H2 λps H3=>Q ((x,y)::ps) H3
abbrev VV:List (V×V)->List (Value×Value)->Prop:=Paired λp q=>RelV p.1 q.1/\RelV p.2 q.2
def PPs(X:Cx)(pos:Pos)(keys:List (Option Expr))(values:List Expr)(trs:List (TE×TE)):Prop:=
 ∀(aaD:List (Addr×Obj)) (s:Shared) (σ:St) (H:Hp) (Q:List (V×V)->Hp->Prop),Inv X aaD σ H s->tPairs trs σ H Q->
   wpAny (model X.prog X.w) X.A (evalPairs (pairTrees keys values X.env pos)) (λvs s'=>∃ps H',Inv X aaD σ H' s'/\VV ps vs/\Q ps H') X.xe s
theorem pps_nil:PPs X pos [] [] []:=λaaD s σ H Q I h=>pairTrees_nil_walk ⟨[],H,I,.nil,h⟩
theorem pps_cons(hk:PE X k tk)(hv:PE X v tv)(hr:PPs X pos ks vs trs):
  PPs X pos (some k::ks) (v::vs) ((tk,tv)::trs):=λaaD s σ H Q I h=>
 pairTrees_cons_walk (thn (hk aaD s σ H _ I h) λu s1 ⟨x,H1,I1,rx,q1⟩=>thn (hv aaD s1 σ H1 _ I1 q1) λw2 s2 ⟨y,H2,I2,ry,q2⟩=>
  thn (hr aaD s2 σ H2 _ I2 q2) λws s3 ⟨ps,H3,I3,rel,q3⟩=>⟨(x,y)::ps,H3,I3,.cons ⟨rx,ry⟩ rel,q3⟩)
def mergeK(kvs more:List (Key×V)):List (Key×V):=more.foldl (λacc kv=>putK acc kv.1 kv.2) kvs
theorem KV.merge:∀ {more:List (Key×V)}{rs:List (Key×Value)}{kvs:List (Key×V)}{vs:List (Key×Value)},KV more rs->KV kvs vs->KV (mergeK kvs more) (merged vs rs):=by
 intro more rs kvs vs r;unfold KV at r;induction r generalizing kvs vs with
 |nil=>intro q;exact q
 | @cons p q ps qs h t ih=>
   intro r0;have e:KV (putK kvs p.1 p.2) (stored vs q.1 q.2):=by have:=r0.put p.1 h.2;rw[<-h.1];exact this
   exact ih e
theorem length_mergeK:∀ (more kvs:List (Key×V)),(mergeK kvs more).length<=kvs.length + more.length
 |[],kvs=>by show kvs.length<=kvs.length+0;lia
 |p::r,kvs=>by have h1:=length_mergeK r (putK kvs p.1 p.2);have h2:=length_putK kvs p.1 p.2;show (mergeK (putK kvs p.1 p.2) r).length<=_;rw[Xv];lia
theorem carries_of:∀ {kvs:List (Key×V)}{ws:List (Value×Value)},VV (kvs.map λkv=>(kV kv.1,kv.2)) ws->∃ rs,Carries (mixKind P w) ws rs/\KV kvs rs
 |[],_,r=>by rw[Zx]at r;cases r;exact⟨[],True.intro,.nil⟩
 | p::kvs,_,r=>by
   rw[W0]at r;cases r with
   | @cons a b as bs h t=>obtain⟨rs,c,q⟩:=carries_of (P:=P) (w:=w) t;obtain⟨b1,b2⟩:=b;exact⟨(p.1,b2)::rs,⟨kV_is h.1,rfl,c⟩,.cons ⟨rfl,h.2⟩ q⟩
def tDisp(trs:List (TE×TE)):TE:=λσ H Q=>∀p,H p=none->tPairs trs σ (upd H p (.dK [])) λps H2=>H2 p=some (.dK [])/\∃kvs:List (Key×V),ps=kvs.map (λkv=>(kV kv.1,kv.2))/\kvs.length<=15/\Q (.ref p) (upd H2 p (.dK (mergeK [] kvs)))
theorem pe_disp(h:PPs X pos keys values trs)(hall:keys.all (·.isSome)=true)(hl:keys.length=values.length)(h0:keys≠[])
  (h15:keys.length<=15):PE X (.Dict keys values pos) (tDisp trs):=by
 intro aaD s σ H Q I q;have hn:=I.hok.fresh (Wg s.heap.objs.size);have I1:=I.laid (a:=s.heap.objs.size) (o:=.dK []) (h':=s.heap.push { cls:=.type "dict",data:=.dict #[] }) (t':=s.toks) (λy y q=>Wd _ q) (Wg _) (dk_empty s.heap I.big)
 refine wpAny_Dict_walk (knd:=mixKind X.prog X.w) hall hl h0 h15 (thn (h aaD _ σ _ _ I1 (q _ hn)) λws s2 ⟨ps,H2,I2,rel,e,kvs,ep,lk,q2⟩=>?_)
 subst ep;obtain⟨rs,c,rk⟩:=carries_of (P:=X.prog) (w:=X.w) rel;obtain⟨z,hd,vs0,r0,dd⟩:=dk_of I2.hok e;cases r0;refine⟨rs,c,dd,λh' dd' hs=>⟨.ref s.heap.objs.size,_,?_,rfl,q2⟩⟩
 have hz:(mergeK [] kvs).length<=sizeLine:=by have h1:=length_mergeK kvs [];rw[List.length_nil]at h1;rw[YS];lia
 have he:∃q,h'.get? s.heap.objs.size=some q:=let ⟨q,_,_,hq,_⟩:=dd';⟨q,hq⟩
 exact d_write I2 (by rw[e];exact True.intro) hs he (dk_new hz hd (rk.merge .nil) dd')
end L2
namespace HT
open PySem PySem.Spec PyProof.Rows PySem.W
section
variable{prog:Program}{w:World}{A:Around}{E:Value->Shared->Prop}{s:Shared}
theorem Kh{vs ws:List Value}{Q:Value->Shared->Prop}(ht:IsTup s.heap t vs.toArray)(hb:IsTup s.heap b ws.toArray)(hv:vs=[])
  (h1:Q (.ref b) s):wpAny (model prog w) A (binaryOp .Add (.ref t) (.ref b)) Q E s:=by
 obtain⟨⟨cls,dd,data,sl⟩,ho,hc,n,hd⟩:=id ht;obtain⟨⟨cls2,dd2,data2,sl2⟩,ho2,hc2,n2,hd2⟩:=id hb;simp only at hc hd hc2 hd2;subst hc hd hc2 hd2;exact concat_meets ⟨_,ho,rfl⟩ ⟨_,ho2,rfl⟩ noFill_tuple_add seq_tuple_add ZW ZG (Zu _ _)
   (tuple_addW0 t b vs.toArray ws.toArray n n2 dd dd2 sl sl2 (by simp[hv])) ⟨ho,ho2,h1⟩
theorem uo{items:Array Value}{lo hi:Option Int}{Q:Value->Shared->Prop}(ht:IsTup s.heap t items)(hs:s.heap.IsSliceOf sl vl vu .none)(pl:IsPart vl lo)(pu:IsPart vu hi)
  (hw:sIx items.size 0 lo=0/\sIx items.size items.size hi=items.size) (h:Q (.ref t) s):wpAny (model prog w) A (getItem (.ref t) (.ref sl)) Q E s:=by
 obtain⟨os,hos,hcs,hds⟩:=id hs;obtain⟨ot,hot,hct,nt,hdt⟩:=id ht;have hTs:s.TypeIs (.ref sl) "slice":=⟨os,hos,hcs⟩;have hTt:s.TypeIs (.ref t) "tuple":=⟨ot,hot,hct⟩;unfold getItem
 try with_reducible refine Xj ?_
 first | refine Wc (We ?_) | skip
 refine Wc (wpAny_sequenceKey ht.typeIs (by decide) ?_)
 refine Wc (W7 (name:=Str.ofString "__getitem__") ht.typeIs Yn
  (WX Yn ht.typeIs entry_tuple_getitem ?_ (args_tuple_getitem _ _)))
 show wpAny _ _ (Builtin.Tuple.tupleItemsOf (.ref t)>>=_) _ _ s;refine Wc (tupleItemsOf_ ht ?_);refine Wc (Zd hTs ?_);rw[Wm (by decide)]
 refine Wc (sliceApplied_gen hs pl pu ?_);have hno:((((sIx items.size 0 lo:Nat):Int)==0&&(1:Int)==1&&(sIx items.size items.size hi-sIx items.size 0 lo)==items.size)=true):=by rw[hw.1,hw.2];simp
 show wpAny _ _ (if (((sIx items.size 0 lo:Nat):Int)==0&&(1:Int)==1&&(sIx items.size items.size hi-sIx items.size 0 lo)==items.size)=true then _ else _) _ _ s
 rw[Wm hno];unfold Builtin.Tuple.tupleIsExact;refine Wc ?_;refine Wc (Zd hTt (We ?_));rw[Wm (by decide)]
 exact Wc (YM (We ⟨_,rfl,We h⟩))
end
end HT
namespace L2
open PySem PySem.Spec PyProof.Rows
section
variable{X:Cx}
theorem Ko{xs:List V}{lo hi:Option Int}(h:HT.sIx xs.length 0 lo=0/\HT.sIx xs.length xs.length hi=xs.length):cutV xs lo hi=xs:=by unfold cutV;rw[h.1,h.2];simp
def U5:V->Option Int->Option Int->Hp->VK->Prop:=λx lo hi H Q=>∃a xs,x=.ref a/\H a=some (.tup xs)/\∀p H',Same H H'->H' p=some (.tup (cutV xs lo hi))->Q (.ref p) H'
theorem Oz:SlR X U5:=by
 intro aaD s σ H x v vl vu lo hi sl Q I rx hs pl pu h;obtain⟨a,xs,rfl,hx,q⟩:=h;by_cases hw:HT.sIx xs.length 0 lo=0/\HT.sIx xs.length xs.length hi=xs.length
 ·cases rx;obtain⟨its,r,ht,hz⟩:=I.tuple (SqT.of hx);have hlen:its.toArray.size=xs.length:=by rw[Wv];exact r.length.symm
  refine⟨"tuple",_,PyProof.Rows.slot_tuple_getitem.lookup,ht.typeIs,?_⟩;refine HT.uo ht hs pl pu (by rw[hlen];exact hw) ⟨.ref a,H,I,rfl,q a H (Same.refl _) (by rw[Ko hw];exact hx)⟩
 ·exact sl_tup (X:=X) aaD s σ H _ v vl vu lo hi sl Q I rx hs pl pu ⟨a,xs,rfl,SqT.of hx,hw,λp hp=>q p _ (same_new hp _) upd_same⟩
def Te:R2:=λx y H Q=>∃a b xs ys,x=.ref a/\y=.ref b/\H a=some (.tup xs)/\H b=some (.tup ys)/\xs.length+ys.length<=sizeLine/\∀p H',Same H H'->H' p=some (.tup (xs++ys))->Q (.ref p) H'
theorem Oe:OpR X (binaryOp .Add) Te:=by
 intro aaD s σ H x y v u Q I rx ry h;obtain⟨a,b,xs,ys,rfl,rfl,ha,hb,hz,q⟩:=h;by_cases hx:xs=[]
 ·cases rx;cases ry;obtain⟨its,r1,p1,_⟩:=I.tuple (SqT.of ha);obtain⟨its2,r2,p2,_⟩:=I.tuple (SqT.of hb);exact HT.Kh p1 p2 (r1.nil_iff.mpr hx) ⟨.ref b,H,I,rfl,q b H (Same.refl _) (by rw[hx,aaw];exact hb)⟩
 ·exact op_catT (X:=X) aaD s σ H _ _ v u Q I rx ry ⟨a,b,xs,ys,rfl,rfl,SqT.of ha,SqT.of hb,hx,hz,λe=>q a H (Same.refl _) (by rw[e,Yo];exact ha),λz p hp=>q p _ (same_new hp _) upd_same⟩
end
mutual
inductive RepF(H:Hp):Bool->V->PyData->Prop
 |non {f:Bool}:RepF H f .non .none
 |bl {f:Bool} (b:Bool):RepF H f (.bl b) (.bool b)
 |int {f:Bool} (i:Int):RepF H f (.int i) (.int i)
 |str {f:Bool} (x:Str):RepF H f (.str x) (.str x)
 |lst {f:Bool}{a:Addr}{xs:List V}{ds:List PyData}:H a=some (.lst xs)->RepsF H f xs ds->RepF H f (.ref a) (.list ds)
 |tup {f:Bool}{a:Addr}{xs:List V}{ds:List PyData}:H a=some (.tup xs)->RepsF H f xs ds->RepF H f (.ref a) (.tuple ds)
 |d0 {a:Addr}:H a=some (.dK [])->RepF H false (.ref a) (.dict [])
 |d1 {a:Addr}{i j:Int}:H a=some (.dK [(.inl i,.int j)])->RepF H false (.ref a) (.dict [(.int i,.int j)])
inductive RepsF(H:Hp):Bool->List V->List PyData->Prop
 |nil {f:Bool}:RepsF H f [] []
 |cons {f:Bool}{v:V}{d:PyData}{vs:List V}{ds:List PyData}:RepF H f v d->RepsF H f vs ds->RepsF H f (v::vs) (d::ds)
end
theorem RepF.toRep{K:PySem.W.Frag}{H:Hp}{v:V}{d:PyData}(h:RepF H true v d):Rep K H v d:=
 RepF.rec (motive_1:=λf v d z=>f=true->Rep K H v d) (motive_2:=λf vs ds z=>f=true->Reps K H vs ds) (λz=>.non) (λb z=>.bl b) (λb z=>.int b) (λb z=>.str b) (λh z i e=>.lst (SqL.of h) (i e)) (λh z i e=>.tup (SqT.of h) (i e)) (λz e=>nomatch e) (λz e=>nomatch e) (λz=>.nil) (λz z i j e=>.cons (i e) (j e)) h rfl
theorem U3(hc:CallR X (.type T) r)(hm:X.mg x=none)(ha:PA X (e::es) t)(hg:Gl X x:=by rfl)(hv:bootBuiltins x=some (.type T):=by decide +kernel)(hn:x≠"__name__":=by decide)(hdb:(x==("__debug__":Str))=false:=by decide)
  (he:starEach (e::es) X.env=(false,eval e X.env)::starEach es X.env:=by rfl) (hpl:(backTo pos (starEach es X.env)).any (·.1)=false:=by rfl) :
  PE X (.Call (.Name x p) (e::es) [] pos) (tCB r t):=pe_callTy hc hg hm hv ha hn hdb he hpl
def notStar:Expr->Bool
 |.Starred _ _=>false
 |_=>true
theorem aW(h:notStar e=true):starEach (e::es) env=(false,eval e env)::starEach es env:=by cases e<;>first | rfl | cases h
theorem UW(ha:PE X e te)(hr:PA X es t)(hs:notStar e=true:=by rfl):PA X (e::es) (tCons te t):=pa_cons ha hr (aW hs)
structure QI(X:Cx)(tg l:Expr)(wi:TI):Prop where
 h:PI X tg l wi
structure QA(X:Cx)(es:List Expr)(t:TA):Prop where
 h:PA X es t
theorem Jp:QA X [] tNil:=⟨pa_nil⟩
theorem Rg(ha:PE X e te)(hr:QA X es t)(hs:notStar e=true:=by rfl):QA X (e::es) (tCons te t):=⟨UW ha hr.h hs⟩
section
variable{X:Cx}{j k:Nat}{ps:List Str}{sp:Sp}{x:Str}{p pos:Pos}{e:Expr}{es:List Expr}{t:TA}{E:XK}
theorem Oh{x1}(h:QA X es t):PE X (.Tuple es x1 pos) (tTup t):=pe_tup h.h
theorem DQ(h:QA X es t):PE X (.List es pos) (tLst t):=pe_lst h.h
theorem Jg(D:DefC X.prog X.w X.K X.mg X.base j x ps sp)(hr:Room k X.A)(hx:Passes (dG X.prog X.w) X E)(ha:QA X (e::es) t)(hjk:j<=k:=by decide)(hg:Gl X x:=by rfl)(hdb:(x==("__debug__":Str))=false:=by decide)
  (he:notStar e=true:=by rfl) (hpl:(backTo pos (starEach es X.env)).any (·.1)=false:=by rfl) :
  PE X (.Call (.Name x p) (e::es) [] pos) (tCall sp [] E t):=K9 D hr hx ha.h hjk hg hdb (aW he) hpl
theorem Ms{id:String}{r:List V->Hp->VK->Prop}(hc:CallR X (.builtin id) r)(hm:X.mg x=none)(ha:QA X (e::es) t)(hg:Gl X x:=by rfl)(hv:bootBuiltins x=some (.builtin id):=by decide +kernel)(hn:x≠"__name__":=by decide)(hdb:(x==("__debug__":Str))=false:=by decide)
  (he:notStar e=true:=by rfl) (hpl:(backTo pos (starEach es X.env)).any (·.1)=false:=by rfl) :
  PE X (.Call (.Name x p) (e::es) [] pos) (tCB r t):=U0 hc hm ha.h hg hv hn hdb (aW he) hpl
theorem S9(hc:CallR X (.type T) r)(hm:X.mg x=none)(ha:QA X (e::es) t)(hg:Gl X x:=by rfl)(hv:bootBuiltins x=some (.type T):=by decide +kernel)(hn:x≠"__name__":=by decide)(hdb:(x==("__debug__":Str))=false:=by decide)
  (he:notStar e=true:=by rfl) (hpl:(backTo pos (starEach es X.env)).any (·.1)=false:=by rfl) :
  PE X (.Call (.Name x p) (e::es) [] pos) (tCB r t):=U3 hc hm ha.h hg hv hn hdb (aW he) hpl
theorem Q9{T name id:String}{r:V->List V->Hp->VK->Prop}{o:Expr}{to:TE}{apos cpos:Pos}(pa:PlainAttrs T)(slot:Slot T name id)(hty:typeOf (.builtin id)=pure (.type "method_descriptor"))(hm:MtR X id r)(ho:PE X o to)(ha:QA X (e::es) t)
  (hbase:attributeBase o name X.env (eval o X.env)=eval o X.env:=by rfl)
  (hfew:((backTo cpos (starEach (e::es) X.env)).all (fun x=>!x.1)&&(backToKw cpos (keywordEach [] X.env)).all (fun x=>x.1.isSome)
   &&decide ((e::es).length+([]:List Keyword).length+(if ([]:List Keyword).isEmpty then 0 else 1)<30))=true:=by rfl)
  (hline:(apos.endLine==cpos.line)=true:=by rfl) (hs:notStar e=true:=by rfl) (hplain:(backTo cpos (starEach es X.env)).any (·.1)=false:=by rfl) :
  PE X (.Call (.Attribute o name apos) (e::es) [] cpos) (tBM X.K T r to t):=pe_bm pa slot hty hm ho ha.h hbase hfew hline (aW hs) hplain
theorem Ga(hg:Gl X "range")(hm:X.mg "range"=none)(ha:QA X [a] ta)(hs:notStar a=true:=by rfl):QI X tg (.Call (.Name "range" p) [a] [] pos) (iRng1 ta):=⟨pi_range1 hg hm ha.h (aW hs)⟩
theorem Gb(hg:Gl X "range")(hm:X.mg "range"=none)(ha:QA X [a,b] ta)(hs:notStar a=true:=by rfl)(hs2:notStar b=true:=by rfl):QI X tg (.Call (.Name "range" p) [a,b] [] pos) (iRng2 ta):=
 ⟨pi_range2 hg hm ha.h ((aW hs).trans (by rw[aW hs2];rfl)) (aW hs2)⟩
end
def off(H:Hp)(p:Addr):Hp:=λa=>if a=p then none else H a
def zM{α:Type}(P:α->Prop):List α->Prop
 |[]=>True
 |a::l=>P a/\zM P l
theorem pC:∀ {l:List α},zM P l->∀ a∈l,P a
 |[],_,_,h=>nomatch h
 |b::l,h,a,hm=>by
   rcases Wy.mp hm with rfl | hm
   ·exact h.1
   ·exact pC h.2 a hm
set_option tactic.hygienic true in
theorem mem_of_lookup:∀ {l:List (Str×β)},l.lookup y=some c->(y,c)∈l
 |[],h=>by cases h
 | (z,d)::l,h=>by
   rw[Yk]at h;split at h
   ·rename_i e;have e':y=z:=by simpa using e
    cases h;rw[e'];exact Xg ..
   ·exact W4 _ (mem_of_lookup h)
theorem R3{cl cells:List (Str×Addr)}(h:zM (λp=>cells.lookup p.1=some p.2) cl):∀y c,cl.lookup y=some c->cells.lookup y=some c:=λy c e=>pC h (y,c) (mem_of_lookup e)
def KQ:NameKind->Bool
 |.cell | .free=>true
 |_=>false
theorem Qm{names:List (Str×NameKind)}{cl:List (Str×Addr)}(h:(names.all λp=>!KQ p.2 || (cl.lookup p.1).isSome)=true):∀y,(names.lookup y=some .cell\/names.lookup y=some .free)->∃c,cl.lookup y=some c:=λy e=>by
 have hh:=Zi.mp h;rcases e with e | e
 ·have:=hh _ (mem_of_lookup e);simp only[KQ,Bool.not_true,Bool.false_or]at this;exact YZ.mp this
 ·have:=hh _ (mem_of_lookup e);simp only[KQ,Bool.not_true,Bool.false_or]at this;exact YZ.mp this
theorem Qj{js:List Nat}{fr:List Str}{P:Nat->Str->Prop}(h:zM (λp:Nat×Str=>P p.1 p.2) (js.zip fr)):∀(k j:Nat) (y:Str),js[k]?=some j->fr[k]?=some y->P j y:=λk j y h1 h2=>by refine pC h (j,y) (Zc.mpr ⟨k,?_⟩);rw[List.getElem?_zip_eq_some];exact⟨h1,h2⟩
section
variable{X:Cx}
theorem KC:entryFor table "tuple_iterator.__iter__"=some Builtin.«dict_keyiterator.__iter__»:=
 entryFor_alias (id' := "dict_keyiterator.__iter__") (by kernel_rfl) rfl (by decide +kernel) (by kernel_rfl)
theorem xu(hit:IsTupIter s.heap it t i)(h:Q (.ref it) s):
  wpAny (model prog w) A (pyIter (.ref it)) Q E s:=by
 refine ZK hit.typeIs F.slot_tuple_iterator_iter (WX F.slot_tuple_iterator_iter hit.typeIs KC ?_ (F.args_tuple_iterator_iter_1 _));show wpAny _ _ (ret (.ref it)) _ _ s;exact We ⟨_,rfl, "tuple_iterator",_,hit.typeIs,slot_tupleiter_next.lookup,h⟩
theorem J3(hh:A.handled=none)(I ax:Addr)(hne:ax≠I)(items:Array Value):
  Walks prog w A I [I,ax] [I] items.size (λi v=>items[i]?=some v) (λi h=>IsTupIter h I ax i/\IsTup h ax items) where
 sub:=λb hb=>by simp at hb;simp[hb]
 frame:=λi h h' st hk=>by obtain⟨⟨o,e1,e2⟩,⟨o',f1,f2⟩⟩:=st;exact⟨⟨o,hk I (by simp) o e1,e2⟩,⟨o',hk ax (by simp) o' f1,f2⟩⟩
 item:=λi s Q E hi st hQ=>by
  refine next_tuple_item st.1 st.2 (x:=items[i]) (by simp[hi]) λh' hit' hs'=>?_
  exact hQ _ h' s.toks (by simp[hi]) ⟨hit',st.2.extBut hs'.extBut hne⟩ λb o hb e=>hs'.extBut b o (λh=>hb (by simp[h])) e
 done:=λs Q E st hQ=>next_tuple_end hh st.1 st.2 (by simp) λh' he'=>hQ h' s.toks λb o hb e=>he' b o (λh=>hb (by simp[h])) e
 self:=λz z z z st hQ=>xu st.1 hQ
def iG:V->Bool
 |.bl b=>b
 |.int i=>i != 0
 |_=>false
def scS:V->Bool
 |.bl _=>true
 |.int _=>true
 |_=>false
theorem J0(h:scS v=true)(r:RelV v u)(q:Q (iG v) s):wpAny (model prog w) A (truthy u) Q E s:=by
 cases v with
 |bl b=>cases r;exact X7 q
 |int i=>obtain⟨t,rfl⟩:=r;exact PyProof.Rows.truthy_int q
 |_=>cases h
theorem range_all{xs:List V}{tr:Nat->Bool}(h:∀(i:Nat) (x:V),xs[i]?=some x->tr i=iG x):(List.range xs.length).all tr=xs.all iG:=by
 rw[WY,Zi,Zi];constructor
 ·intro q x hx;obtain⟨i,hi,e⟩:=aaa.mp hx;have:=q i (Wt.mpr hi);rw[h i x (by rw[Wk hi,e])]at this
  exact this
 ·intro q i hi;have hi':=Wt.mp hi;rw[h i xs[i] (Wk hi')];exact q _ (Yh hi')
theorem range_any{xs:List V}{tr:Nat->Bool}(h:∀(i:Nat) (x:V),xs[i]?=some x->tr i=iG x):(List.range xs.length).any tr=xs.any iG:=by
 rw[WY,aar,aar];constructor
 ·rintro⟨i,hi,e⟩;have hi':=Wt.mp hi;rw[h i xs[i] (Wk hi')]at e;exact⟨_,Yh hi',e⟩
 ·rintro⟨x,hx,e⟩;obtain⟨i,hi,ex⟩:=aaa.mp hx;refine⟨i,Wt.mpr hi,?_⟩;rw[h i x (by rw[Wk hi,ex])]
  exact e
theorem MJ{xs:List V}{its:List Value}(rv:Vals xs its)(hs:∀x∈xs,scS x=true):TruthOf prog w A (λi v=>its.toArray[i]?=some v) (λi=>iG (xs[i]?.getD .non)):=by
 intro i v s Q E hP hQ;have e:its[i]?=some v:=by simpa using hP
 have hl:=rv.length;have hi:i<xs.length:=by rw[hl];exact (Wf.mp e).1
 obtain⟨u,e2,r⟩:=rv.get (Wk hi);rw[e]at e2;cases e2;refine J0 (hs _ (Yh hi)) r ?_;have hQ':Q (iG (xs[i]?.getD V.non)) s:=hQ;rw[Wk hi]at hQ';exact hQ'
theorem Ke(hh:X.A.handled=none):CallR X (.builtin "all") (λvs H Q=>∃l xs,vs=[.ref l]/\H l=some (.lst xs)/\(∀x∈xs,scS x=true)/\Q (.bl (xs.all iG)) H):=by
 intro aaD s σ H vs us Q I r h;obtain⟨l,xs,rfl,hH,hs,q⟩:=h;obtain⟨u,rfl,ru⟩:=vals1 r;cases ru;obtain⟨its,rv,p,hz⟩:=I.list (SqL.of (K:=X.K) hH);have hl:l<s.heap.objs.size:=by obtain⟨o,n,e,_⟩:=p;exact Wj e
 refine call_all_walk (Yt p.isList ?_);refine⟨s.heap.objs.size,[s.heap.objs.size,l],[s.heap.objs.size],its.toArray.size,λi v=>its.toArray[i]?=some v,λi h=>h.IsListIter s.heap.objs.size l i/\h.IsList l its.toArray,λi=>iG (xs[i]?.getD .non),rfl,Walks.list (A:=X.A.in1) hh s.heap.objs.size l (Wu hl) its.toArray,⟨⟨_,Wl _ rfl,rfl,rfl⟩,p.isList.at λo e=>Wd _ e⟩,MJ rv hs,λh' tk hk=>?_⟩
 refine⟨.bl (xs.all iG),H,I.kept λb o e=>hk b o (λz=>?_) (Wd _ e),?_,q⟩
 ·have:b=s.heap.objs.size:=by simpa using z
  exact absurd (Wj e) (by rw[this];exact XQ _)
 ·rw[show its.toArray.size=xs.length by rw[Wv];exact rv.length.symm]
  show Value.bool _=Value.bool _;rw[range_all λi x e=>by rw[e];rfl]
theorem Kf(hh:X.A.handled=none):CallR X (.builtin "any") (λvs H Q=>∃l xs,vs=[.ref l]/\H l=some (.tup xs)/\(∀x∈xs,scS x=true)/\Q (.bl (xs.any iG)) H):=by
 intro aaD s σ H vs us Q I r h;obtain⟨l,xs,rfl,hH,hs,q⟩:=h;obtain⟨u,rfl,ru⟩:=vals1 r;cases ru;obtain⟨its,rv,p,hz⟩:=I.tuple (SqT.of (K:=X.K) hH);have hl:l<s.heap.objs.size:=by obtain⟨o,e,_⟩:=p;exact Wj e
 refine call_any_walk (ZF p ?_);refine⟨s.heap.objs.size,[s.heap.objs.size,l],[s.heap.objs.size],its.toArray.size,λi v=>its.toArray[i]?=some v,λi h=>IsTupIter h s.heap.objs.size l i/\IsTup h l its.toArray,λi=>iG (xs[i]?.getD .non),rfl,J3 (A:=X.A.in1) hh s.heap.objs.size l (Wu hl) its.toArray,⟨⟨_,Wl _ rfl,rfl,rfl⟩,?_⟩,MJ rv hs,λh' tk hk=>?_⟩
 ·obtain⟨o',f1,f2⟩:=p;exact⟨o',Wd _ f1,f2⟩
 refine⟨.bl (xs.any iG),H,I.kept λb o e=>hk b o (λz=>?_) (Wd _ e),?_,q⟩
 ·have:b=s.heap.objs.size:=by simpa using z
  exact absurd (Wj e) (by rw[this];exact XQ _)
 ·rw[show its.toArray.size=xs.length by rw[Wv];exact rv.length.symm]
  show Value.bool _=Value.bool _;rw[range_any λi x e=>by rw[e];rfl]
theorem S8(h:X.mg x=some (.int i t))(hg:Gl X x:=by rfl)(hd:(x==("__debug__":Str))=false:=by decide):PE X (.Name x pos) (tC (.int i)):=pe_glob hg h ⟨t,rfl⟩ hd
end
structure MethAt(K:PySem.W.Frag)(C:Addr)(x qual:Str)(st:Stmt):Prop where
 ex:∃f fd,Fun K x qual st f fd/\PySem.W.findIn K (.ref C) x=some (some (.ref f))/\PySem.W.isFn K (.ref f)=true
structure MethC(P:Program)(w:World)(K:PySem.W.Frag)(mg:Str->Option Value)(base:Heap)(k:Nat)(C:Addr)(x:Str)(ps:List Str)(sp:Sp):Prop where
 ex:∃f fd,FnOk P w K mg base (dG P w) k f fd ps sp/\Binds K fd ps []/\PySem.W.keepIn K (.ref f)=true/\PySem.W.findIn K (.ref C) x=some (some (.ref f))/\PySem.W.isFn K (.ref f)=true
theorem Iu{K:PySem.W.Frag}{C:Addr}{x qual:Str}{st:Stmt}{f:Addr}{oc:Value}{od an:Option Addr}{osl:Array (Option Value)}{kV doc pm cdv ct:Value}
  (a:PySem.W.findIn K (.ref C) x=some (some (.ref f))) (n:PySem.W.isFn K (.ref f)=true) (l:K.lookup f=some ⟨oc,od,.func (PySem.W.fnOf x qual (defArgs st) (defBody st) (defScope st) .none kV doc pm an cdv ct),osl⟩) (c:PySem.W.codeIn K cdv qual=true) (k:PySem.W.keepIn K (.ref f)=true):MethAt K C x qual st:=
 ⟨f,_,fun_mk l c k,a,n⟩
section
variable{P:Program}{w:World}{K:PySem.W.Frag}{mg:Str->Option Value}{base:Heap}{k:Nat}{C:Addr}{x qual:Str}{N ps:List Str}{sp:Sp}{st:Stmt}
theorem UV(F:Fun K x qual st f fd)(S:FnScope N ps (defScope st))(len:∀ vs H Q E,sp vs H Q E->vs.length=ps.length)
  (hbody:∀(cdv:Value) (A:Around) (outer:List Env) (s:Shared) (H:Hp) (vs:List V) (Q:VK) (E:XK),Room k (A.deeper (envOfC qual (defScope st) s.heap.objs.size f cdv))->sp vs H Q E->
    ∃t,PSs (jm P w K mg base N qual (defScope st) f cdv A outer s H E) (defBody st) t/\t { nx:=λz H'=>Q .non H',rt:=Q } (start N vs) H):FnOk P w K mg base (dG P w) (k+1) f fd ps sp:=by
 obtain⟨oc,od,kV,doc,pm,an,cdv,ct,osl,rfl,l,c⟩:=F.ex;exact fn_of l c S len (hbody cdv)
end
section
variable{X:Cx}{j k:Nat}{C:Addr}{ps:List Str}{sp:Sp}{x:Str}{p pos:Pos}{e:Expr}{es:List Expr}{t:TA}{E:XK}
theorem La(D:MethC X.prog X.w X.K X.mg X.base j C "__init__" ps sp)(mk:PySem.W.makesIn X.K C=true)(kc:PySem.W.keepIn X.K (.ref C)=true)(hm:X.mg x=some (.ref C))(hr:Room k X.A)(hx:Passes (dG X.prog X.w) X E)(ha:QA X (e::es) t)(hjk:j+1<=k:=by decide)(hg:Gl X x:=by rfl)(hdb:(x==("__debug__":Str))=false:=by decide)
  (he:notStar e=true:=by rfl) (hpl:(backTo pos (starEach es X.env)).any (·.1)=false:=by rfl) :
  PE X (.Call (.Name x p) (e::es) [] pos) (tMake C sp [] E t):=by
 obtain⟨f,fd,F,b,kp,a,n⟩:=D.ex;exact pe_make ⟨mk,a,n,kc⟩ F (hr.mono hjk) hg hm b .nil hx ha.h hdb (aW he) hpl
end
open PySem PySem.Spec PyProof.Rows
section
variable{X:Cx}{CX:CXT}{k:Nat}{f C:Addr}{fd:FuncData}{ps:List Str}{sp:Sp}{E:XK}
theorem Ov(F:FnOk X.prog X.w X.K X.mg X.base CX k f fd ps sp)(hr:Room k X.A.in1)(hb:Binds X.K fd ps [])(hx:Passes CX X E)
  (I:Inv X aaD σ H s) (r:Vals vs us) (h:sp vs H Q E):wpAny (model X.prog X.w) X.A.in1 (call (.ref f) us) (EP X aaD σ Q) X.xe s:=by
 have hl:(us++[]).length=ps.length:=by rw[Yo,<-r.length];exact F.len _ _ _ _ h
 have hl':us.length=ps.length:=by rw[Yo]at hl;exact hl
 have bb:=hb s us I.kIn hl;rw[Yo]at bb;refine aaA (Ze (F.run X.A.in1 X.stack s H ⟨us,[]⟩ us vs Q E hr ⟨(show X.A.in1.frames=some X.stack from I.ok.frames),I.ok.mod,I.bs,Xm I.ok.bsz I.sz,I.stack,I.stkFree,I.hok,I.bare⟩ bb r h) λr s' hq=>?_)
 cases r with
 |error e=>exact hx aaD σ H s e s' I hq
 |ok fl=>
   cases fl with
   |ret u=>exact I.after hq
   |next=>exact False.elim hq
   |brk=>exact False.elim hq
   |cont=>exact False.elim hq
theorem Hv(D:MethC X.prog X.w X.K X.mg X.base j C "__len__" ps sp)(hr:Room (j+1) X.A)(hx:Passes (dG X.prog X.w) X E):
  CallR X (.builtin "len") (λvs H Q=>∃x dx fs,vs=[.ref x]/\H x=some (.ins C dx fs)/\sp [.ref x] H (λv H2=>∃n:Int,v=.int n/\(0<=n/\n<2^63)/\Q (.int n) H2) E):=by
 intro aaD s σ H vs us Q I r h;obtain⟨x,dx,fs,rfl,hx',q⟩:=h;obtain⟨f,fd,F,b,kp,a,n⟩:=D.ex;obtain⟨u,rfl,ru⟩:=vals1 r;cases ru;obtain⟨mA,O,_⟩:=ins_get I.hok hx';obtain⟨od,IA,_⟩:=O.look;refine Zr PySem.kind_len PySem.plain_len PySem.entry_len (PySem.args_len1 _) ?_;unfold Builtin.«len»
 refine Wc (m:=oneArg "len" _) (We ?_);refine Wc (m:=callSpecial? (.ref x) (Str.ofString "__len__")) (PySem.W.special_fn I.kIn IA a (aab.mp n) (Wx (Ov (vs:=[.ref x]) F hr.in1 b hx I (.cons rfl .nil) q) (λw' s' hw=>?_) λz z y=>y))
 obtain⟨v,H2,I2,rv,m,rfl,⟨h0,h1⟩,qq⟩:=hw;obtain⟨t,rfl⟩:=rv;refine Wc (Xj (We ?_));refine Wc (wpAny_letGo ?_);show wpAny _ _ (if m<0 then _ else _) _ _ _
 rw[Wr (by lia)]
 show wpAny _ _ (if m ≥ 2^63 then _ else _) _ _ _
 rw[Wr (by lia)]
 exact Wc (wpAny_mkInt (We ⟨_,rfl,.int m,H2,I2.tok _,⟨_,rfl⟩,qq⟩))
end
theorem bL:∀ (names:List (Str×NameKind)) (n:Nat) (acc:List (Str×Addr)),cellsFrom n names acc=cellsFrom n names []++acc
 |[],_,_=>rfl
 |(name,kind)::r,n,acc=>by
   unfold cellsFrom;split
   ·rw[bL r (n+1) ((name,n)::acc),bL r (n+1) [(name,n)],XH];rfl
   ·exact bL r n acc
theorem rJ
  (hQ:Q (newEnv scope s.heap.objs.size globals (cellsFrom (s.heap.objs.size+1) scope.names cl) qual none .none (some env) builtinsNs) { s with heap:=pushCells (s.heap.push { cls:=.type "dict",data:=.dict #[] }) scope.names }) :
  wpAny M A (newFunctionEnv scope globals cl [] qual none .none (some env)) Q E s:=by
 simp only[newFunctionEnv,Option.isSome_some,if_true];refine Wc (wpAny_alloc ?_);refine Wc (wpAny_layCells _ (λname kind cells=>by cases hkc:kind==NameKind.cell<;>simp[hkc]) _ _ _ _ ?_)
 rw[show ({ s with heap:=s.heap.push { cls:=.type "dict",data:=.dict #[] } }:Shared).heap.objs.size=s.heap.objs.size+1 from WM ..]
 refine Wc ?_;rw[List.forIn_nil];exact We (We hQ)
abbrev Cx.aZ(X:Cx)(aaD:List (Addr×Obj))(scope:Scope)(cs:List (Str×Addr))(Nc:List Str)(fp:List Addr)(C:Addr)(s₂:Shared)(H₂:Hp):Cx where
 prog:=X.prog
 w:=X.w
 K:=X.K
 mg:=X.mg
 base:=X.base
 A:=X.A
 N:=Nc
 s₀:=s₂
 H₀:=H₂
 env:=compEnvC scope cs C X.env
 outer:=X.stack
 stack:=X.stack
 ex:=fp
 fn:=λy=>scope.names.lookup y==some .cell
 calm:=X.calm
 pn:=X.pn++aaD
 xe:=λ_ _=>False
structure CompG(X:Cx)(scope:Scope)(cl:List (Str×Addr))(own:List Str)(js:List Nat)(fr:List Str):Prop where
 kind:scope.kind=.function
 names:∀y∈scope.names,y.2=.local->scope.names.lookup y.1=some .local
 clos:closureFor scope X.env=pure cl
 sub:∀y c,cl.lookup y=some c->X.env.cells.lookup y=some c
 has:∀(m:Nat) y,((relabel scope X.env).names.lookup y=some .cell\/(relabel scope X.env).names.lookup y=some .free)->∃c,(cellsFrom m scope.names cl).lookup y=some c
 nd:(own++fr).Nodup
 len:js.length=fr.length
 newc:∀(m:Nat) y c,(cellsFrom m scope.names []).lookup y=some c->scope.names.lookup y=some .cell
 oldc:∀y c,cl.lookup y=some c->scope.names.lookup y≠some .cell
 fre:∀(k j:Nat) (y:Str),js[k]?=some j->fr[k]?=some y->X.N[j]?=some y/\(X.env.scope.names.lookup y=some .cell\/X.env.scope.names.lookup y=some .free)/\((relabel scope X.env).names.lookup y=some .cell\/(relabel scope X.env).names.lookup y=some .free)/\∃c,cl.lookup y=some c
theorem km:∀ {l m:List (Str×α)},(l++m).lookup y=some c->l.lookup y=some c\/(l.lookup y=none/\m.lookup y=some c)
 |[],_,h=>.inr ⟨rfl,h⟩
 |(k,v)::r,m,h=>by
   rw[Zh,Yk]at h;rw[Yk];split at h
   ·exact .inl h
   ·exact km h
theorem gZ:∀ {l m:List (Str×α)},l.lookup y=none->(l++m).lookup y=m.lookup y
 |[],_,_=>rfl
 |(k,v)::r,m,h=>by
   rw[Yk]at h;rw[Zh,Yk];split at h
   ·cases h
   ·exact gZ h
section
variable{X:Cx}{aaD:List (Addr×Obj)}{σ:St}{H:Hp}{s:Shared}{scope:Scope}{cl:List (Str×Addr)}{own:List Str}{js:List Nat}{fr:List Str}{fp:List Addr}{C m:Addr}
theorem zV{hh:Heap}(T:CompG X scope cl own js fr)(I:Inv X aaD σ H s)(f:∀ b∈fp,FpOk X aaD H b)(hlt:∀ b∈fp,b<s.heap.objs.size)(hC:s.heap.objs.size<=C)(hm:m=hh.objs.size)(hms:s.heap.objs.size<=m):
  (X.aZ aaD scope (cellsFrom m scope.names cl) (own++fr) fp C s H).Ok:=by
 have ok:CellsOk (pushCells hh scope.names) m (cellsFrom m scope.names []):=by
  have:=cellsFrom_ok scope.names hh m [] ⟨λx x hm=>(nomatch hm),List.Pairwise.nil⟩ (by rw[hm];exact Wg _)
  rw[<-hm]at this;exact this
 have hold:∀y c,cl.lookup y=some c->c<s.heap.objs.size:=λy c e=>by obtain⟨v,q⟩:=I.cell y c (T.sub _ _ e);exact q.lt
 have spl:∀y c,(cellsFrom m scope.names cl).lookup y=some c->(m<=c/\(cellsFrom m scope.names []).lookup y=some c)\/(cl.lookup y=some c/\c<s.heap.objs.size):=λy c e=>by
  rw[bL]at e;rcases km e with z | ⟨_,z⟩
  ·exact .inl ⟨(ok.empty _ _ (Xp z)).2,z⟩
  ·exact .inr ⟨z,hold _ _ z⟩
 refine⟨I.ok.mod,T.kind,I.ok.glob,I.ok.blt,hC,λy z c h1 h2=>?_,λy h=>T.has m y h,λy c h1 h2=>?_,I.ok.hd,I.ok.frames,.inl rfl,λb hb=>⟨Wu (Wo (hlt b hb) hC),λy c h=>?_⟩,λb o e=>I.bs b o e,Xm I.ok.bsz I.sz,λb o e hb=>?_,λb hb hm'=>?_,I.stack,I.stkFree⟩
 ·rcases spl _ _ h1 with ⟨a1,a2⟩ | ⟨a1,a2⟩
  ·rcases spl _ _ h2 with ⟨b1,b2⟩ | ⟨b1,b2⟩
   ·exact name_of_addr ok.apart (Xp a2) (Xp b2)
   ·exact absurd (Wo b2 hms) (X4.mpr a1)
  ·rcases spl _ _ h2 with ⟨b1,b2⟩ | ⟨b1,b2⟩
   ·exact absurd (Wo a2 hms) (X4.mpr b1)
   ·exact I.ok.inj y z c (T.sub _ _ a1) (T.sub _ _ b1)
 ·rcases spl _ _ h2 with ⟨a1,a2⟩ | ⟨a1,a2⟩
  ·exact Xm hms a1
  ·exact absurd (by simpa using h1) (T.oldc _ _ a1)
 ·rcases spl _ _ h with ⟨a1,a2⟩ | ⟨a1,a2⟩
  ·exact λz=>absurd (Wo (hlt b hb) hms) (X4.mpr (z ▸ a1))
  ·exact (f b hb).2.2.2.2.1 y c (T.sub _ _ a1)
 ·rcases (f b hb).2.2.2.1 with z | z
  ·exact I.ok.noex b o e z
  ·exact absurd (Wo (Wj e) I.ok.bsz) (X4.mpr z)
 ·rcases Wy.mp (I.stkSub b hm') with z | z
  ·exact (f b hb).2.1 z
  ·exact (f b hb).2.2.1 z
theorem yr(T:CompG X scope cl own js fr)(I:Inv X aaD σ H s)(f:∀ b∈fp,FpOk X aaD H b)(hlt:∀ b∈fp,b<s.heap.objs.size)
  (k:∀b o,s.heap.get? b=some o->h'.get? b=some o) (ha:s.heap.objs.size<=acc) (hC:s.heap.objs.size<=C) (hne:C≠acc) (hm:m=hh.objs.size) (hms:s.heap.objs.size<=m) (hCm:C<m) (ham:acc<m) (hh':h'=pushCells hh scope.names)
  (new:∃n,h'.get? acc=some { cls:=.type "list",data:=.seq #[] n }) (ns:h'.Ns C mm) :
  Inv (X.aZ aaD scope (cellsFrom m scope.names cl) (own++fr) fp C s H) [] (List.replicate own.length none++pick js σ) (upd H acc (.lst [])) { s with heap:=h',toks:=t' }:=by
 have ok:CellsOk (pushCells hh scope.names) m (cellsFrom m scope.names []):=by
  have:=cellsFrom_ok scope.names hh m [] ⟨λx x hm=>(nomatch hm),List.Pairwise.nil⟩ (by rw[hm];exact Wg _)
  rw[<-hm]at this;exact this
 have hold:∀y c,cl.lookup y=some c->c<s.heap.objs.size:=λy c e=>by obtain⟨v,q⟩:=I.cell y c (T.sub _ _ e);exact q.lt
 have spl:∀y c,(cellsFrom m scope.names cl).lookup y=some c->(m<=c/\h'.IsCell c none)\/(cl.lookup y=some c/\c<s.heap.objs.size):=λy c e=>by
  rw[bL]at e;rcases km e with z | ⟨_,z⟩
  ·have:=ok.empty _ _ (Xp z);exact .inl ⟨this.2,by rw[hh'];exact this.1⟩
  ·exact .inr ⟨z,hold _ _ z⟩
 have hn:H acc=none:=I.hok.fresh ha;have fC:H C=none:=I.hok.fresh hC;have ob:ObjOk X.prog X.w (upd H acc (.lst [])) h' acc (.lst []):=by obtain⟨n,e⟩:=new;exact⟨X3 _,[],n,.nil,e⟩
 refine⟨zV T I f hlt hC hm hms,rfl,I.bare,Un.laid k ha hn,⟨mm,ns,λi y v h1 h2 h3=>?_⟩,λy c e=>?_,by show upd H acc _ C=none;rw[upd_ne hne];exact fC,λy c e=>?_,λp hp=>?_,I.hok.laid k ha ob,?_⟩
 ·have h1:(own++fr)[i]?=some y:=h1;by_cases hi:i<own.length
  ·rw[Ws (by rw[Xi];exact hi),Yx]at h2
   split at h2<;>cases h2
  ·rw [List.getElem?_append_right (by lia)] at h1
   rw[Xc (by rw[Xi];lia),Xi]at h2
   unfold pick at h2;rw[Wn]at h2;cases hj:js[i-own.length]? with
   |none=>rw[hj]at h2;cases h2
   | some j=>
     rw[hj]at h2;have h2s:(σ[j]?).getD none=some v:=Wq h2;have h2'':σ[j]?=some (some v):=by
      cases z:σ[j]? with
      |none=>rw[z]at h2s;cases h2s
      |some w=>rw[z]at h2s;exact congrArg some h2s
     obtain⟨g1,g2,g3,c,gc⟩:=T.fre _ j y hj h1;obtain⟨mX,_,hl⟩:=I.loc;have vis:Vis X.env.scope y:=g2.elim (λz=>.inr (.inl z)) λz=>.inr (.inr z)
     obtain⟨u,r,q⟩:=hl j y v g1 h2'' vis;refine⟨u,r,.inr ⟨g3,c,?_,?_⟩⟩
     ·show (cellsFrom m scope.names cl).lookup y=some c;rw[bL];cases z:(cellsFrom m scope.names []).lookup y with
      |none=>rw[gZ z];exact gc
      |some c'=>exact absurd (T.newc m y c' z) (T.oldc y c gc)
     ·have hc':=T.sub _ _ gc;rcases q with ⟨q,_⟩ | ⟨_,c2,e2,z⟩
      ·have q:X.env.scope.names.lookup y=some .local:=q;rcases g2 with g2 | g2<;>(rw[g2]at q;cases q)
      ·rw[hc']at e2;cases e2;exact z.keeps k
 ·rcases spl y c e with ⟨_,z⟩ | ⟨z,_⟩
  ·exact⟨_,z⟩
  ·obtain⟨v,q⟩:=I.cell y c (T.sub _ _ z);exact⟨v,q.keeps k⟩
 ·rcases spl y c e with ⟨z,_⟩ | ⟨z,lt⟩
  ·show upd H acc _ c=none;rw[upd_ne (λ(q:c=acc)=>absurd ham (X4.mpr (q ▸ z)))]
   exact I.hok.fresh (Xm hms z)
  ·show upd H acc _ c=none;rw[upd_ne (λ(q:c=acc)=>absurd lt (X4.mpr (q ▸ ha)))]
   exact I.freeC y c (T.sub _ _ z)
 ·have hp':p∈X.pn++aaD:=by simpa using hp
  obtain⟨e,n,ne,nf,d⟩:=I.pin p hp';refine⟨k _ _ e,?_,Wu (Wo (Wj e) hC),λhm=>?_,d⟩
  ·show upd H acc _ p.1=none;rw[upd_ne (λz=>absurd (Wj e) (by rw[z];exact X4.mpr ha))]
   exact n
  ·rcases Wy.mp (I.stkSub _ hm) with z | z
   ·exact ne z
   ·exact nf z
 ·show (List.replicate own.length none++pick js σ).length=(own++fr).length;unfold pick;rw[Ww,Xi,Wh,Ww,T.len]
end
section
variable{prog:Program}{w:World}{A:Around}{R:Result->Shared->Prop}{s:Shared}
def um(ifs:List Expr)(env:Env):Sem Bool:=forIn ifs true λc r=>if r=true then do let ok <-isTrue c env (eval c env);pure (ForInStep.yield ok) else pure (ForInStep.yield r)
def turnOf(g:Comprehension)(bodyK:Sem Fin->Sem Fin)(c:Code)(it:Value)(env:Env):Sem Fin:=do
 standAt g.iter.pos
 match <-pyNext it with
 |none=>pure (.done .next)
 |some v=>
   letOwnedTupleGo g.target it v
   assign g.target env v
   let ok <-um g.ifs env
   if ok then bodyK (again c) else again c
def vW(elt:Expr)(acc:Value)(env:Env)(k:Sem Fin):Sem Fin:=do
 (do let _ <-call (.builtin "list.append") [acc,<-eval elt env])
 k
theorem MN(elt target iter:Expr)(ifs:List Expr)(scope:Scope)(pos:Pos)(it acc:Value)(env:Env):
  compTurn (.ListComp elt [⟨target,iter,ifs,0⟩] scope pos) 0 it acc env=turnOf ⟨target,iter,ifs,0⟩ (vW elt acc env) (.compLoop (.ListComp elt [⟨target,iter,ifs,0⟩] scope pos) 0 it acc env) it env:=rfl
def mF(prog:Program)(w:World)(A:Around)(bodyK:Sem Fin->Sem Fin)(W:(Shared->Prop)->Shared->Prop):Prop:=
 ∀(k:Sem Fin) (Q:Fin->Shared->Prop) (E:Value->Shared->Prop) (s:Shared),W (λs'=>wpAny (model prog w) A k Q E s') s->wpAny (model prog w) A (bodyK k) Q E s
theorem HJ:mF prog w A (vW elt acc env) (λP s=>wpAny (model prog w) A (eval elt env) (λx s1=>wpAny (model prog w) A (call (.builtin "list.append") [acc,x]) (λy s2=>P s2) (λy y=>False) s1) (λy y=>False) s):=by intro k Q E s h;unfold vW;exact Wc (Wc (Wx h (λx s1 h1=>Wc (Wx h1 (λy s2 h2=>We h2) λy y z=>z.elim)) λy y z=>z.elim))
theorem KZ(I:Nat->Shared->Prop)
  (hturn:compTurn (.ListComp elt gens scope pos) depth it acc env=turnOf g bodyK (.compLoop (.ListComp elt gens scope pos) depth it acc env) it env) (hW:mF prog w A bodyK W)
  (turn:∀ n s,I n s->wpAny (model prog w) A (pyNext it) (λr s₁=>match r with
    |none=>R (.ok .next) s₁
    |some v=>wpAny (model prog w) A (letOwnedTupleGo g.target it v) (λz s₂=>wpAny (model prog w) A (assign g.target env v) (λz s₃=>
      wpAny (model prog w) A (um g.ifs env) (λok s₄=>if ok=true then W (λs₅=>∃m,m<n/\I m s₅) s₄ else ∃m,m<n/\I m s₄) (λz z=>False) s₃) (λz z=>False) s₂) (λz z=>False) s₁) (λz z=>False) s)
  (hmono:∀P P' s,(∀s,P s->P' s)->W P s->W P' s)
  (n:Nat) (h:I n s):codeAny (model prog w) A (.compLoop (.ListComp elt gens scope pos) depth it acc env) R s:=by
 refine codeAny_loop rfl I (λn s hI=>?_) n h
 show wpAny _ A ((compTurn (.ListComp elt gens scope pos) depth it acc env).onRaise (λx=>do noteFrame x env;theTreesLotGoes x)) _ _ s
 refine wpAny_noted ?_;rw[hturn];unfold turnOf;refine Wc (Yw (Wc (Wx (turn n s hI) (λr s₁ h₁=>?_) λz z h'=>h'.elim)))
 cases r with
 |none=>exact We h₁
 | some v=>
   refine Wc (Wx h₁ (λz s₂ h₂=>Wc (Wx h₂ (λz s₃ h₃=>Wc (Wx h₃ (λok s₄ h₄=>?_) λz z h'=>h'.elim)) λz z h'=>h'.elim)) λz z h'=>h'.elim)
   cases ok with
   |false=>have h₄:∃m,m<n/\I m s₄:=h₄;exact We ⟨rfl,h₄⟩
   |true=>
     have h₄:W (λs₅=>∃m,m<n/\I m s₅) s₄:=h₄
     exact hW _ _ _ _ (hmono _ _ _ (λs₅ h₅=>We ⟨rfl,h₅⟩) h₄)
theorem yN(hg:gens[depth]?=some g)(ha:g.is_async=0)
  (h0:codeAny (model prog w) A (.compLoop (.ListComp elt gens scope pos) depth it acc env) R s)
  (h:wpAny (model prog w) A (pyIter it) (λit' s'=>codeAny (model prog w) A (.compLoop (.ListComp elt gens scope pos) depth it' acc env) R s') (λz z=>False) s) :
  codeAny (model prog w) A (.compStart (.ListComp elt gens scope pos) depth it acc env) R s:=by
 refine codeAny_of_tree ?_;show wpAny _ _ ((compStart (.ListComp elt gens scope pos) depth it acc env).onRaise (λx=>do noteFrame x env;standAt theWindowsPlace)) _ _ s
 refine wpAny_notedAt ?_;unfold compStart;have e1:(((clausesOf (.ListComp elt gens scope pos))[depth]?).elim false (·.is_async != 0))=false:=by show ((gens[depth]?).elim false (·.is_async != 0))=false;rw[hg];show (g.is_async != 0)=false;rw[ha];rfl
 rw[e1];simp only[Bool.false_eq_true,if_false,pure_bind];refine Wc (Yj (wpAny_ite ?_));split
 ·first
   |exact Wc (We (We (And.intro rfl h0)))
   |exact We (And.intro rfl h0)
 ·refine Wc (YM ?_);have e2:(clausesOf (.ListComp elt gens scope pos))[depth]?=some g:=hg;rw[e2];exact Wc (Yw (Wc (Wx h (λit' s' h'=>We (And.intro rfl h')) λz z x=>x.elim)))
end
section
variable{prog:Program}{w:World}{A:Around}{E:Value->Shared->Prop}{s:Shared}
theorem FZ(hi:IsTupIter s.heap ia t k)(ht:IsTup s.heap t its)(hy:its[k]?=some y)
  (hQ:∀h',IsTupIter h' ia t (k+1)->Heap.SameBut ia s.heap h'->Q y { s with heap:=h' }):wpAny (model prog w) A (Builtin.SmallTypes.nextOf (.ref ia)) Q E s:=by
 obtain⟨oi,hoi,hci,hdi⟩:=id hi;obtain⟨ot,hot,_,nt,hdt⟩:=ht;unfold Builtin.SmallTypes.nextOf;refine Wc (W7 (name:=Str.ofString "__next__") hi.typeIs Zo (WX Zo hi.typeIs entry_tupleiter_next ?_ (args_tupleiter_next _)));show wpAny _ _ (field (.ref ia) 0>>=_) _ _ s;refine Wc (W9 hoi hdi (x:=.ref t) rfl ?_);show wpAny _ _ (if (Value.ref t==Value.none)=true then _ else _) _ _ s
 rw[Wr (λz:(Value.ref t==Value.none)=true=>WL z)]
 show wpAny _ _ (field (.ref ia) 1>>=_) _ _ s;refine Wc (W9 hoi hdi (x:=.int k 0) rfl ?_);show wpAny _ _ (seqItems? (.ref t)>>=_) _ _ s;refine Wc (XJ hot hdt ?_);simp only[Int.toNat_natCast,hy];refine Wc (XR hoi hdi (by simp) (We ⟨y,rfl,We (hQ _ ⟨_,Zf _ hoi (Obj.isFreed_of_fields (Obj.data_mapFields hdi _)),(Obj.cls_mapFields ..).trans hci,?_⟩ (Yz ..))⟩))
 rw[Obj.data_mapFields hdi];simp[rawInt]
theorem CJ(hh:A.handled=none)(hi:IsTupIter s.heap ia t k)(ht:IsTup s.heap t its)(hy:its[k]?=none)
  (hE:∀h' e,Heap.ExtBut ia s.heap h'->(∃o,h'.get? e=some o/\o.cls=.type "StopIteration")->E (.ref e) { s with heap:=h' }):wpAny (model prog w) A (Builtin.SmallTypes.nextOf (.ref ia)) Q E s:=by
 obtain⟨oi,hoi,hci,hdi⟩:=id hi;obtain⟨ot,hot,_,nt,hdt⟩:=ht;unfold Builtin.SmallTypes.nextOf;refine Wc (W7 (name:=Str.ofString "__next__") hi.typeIs Zo (WX Zo hi.typeIs entry_tupleiter_next ?_ (args_tupleiter_next _)));show wpAny _ _ (field (.ref ia) 0>>=_) _ _ s;refine Wc (W9 hoi hdi (x:=.ref t) rfl ?_);show wpAny _ _ (if (Value.ref t==Value.none)=true then _ else _) _ _ s
 rw[Wr (λz:(Value.ref t==Value.none)=true=>WL z)]
 show wpAny _ _ (field (.ref ia) 1>>=_) _ _ s;refine Wc (W9 hoi hdi (x:=.int k 0) rfl ?_);show wpAny _ _ (seqItems? (.ref t)>>=_) _ _ s;refine Wc (XJ hot hdt ?_);simp only[Int.toNat_natCast,hy];refine Wc (YM (Wc (XR hoi hdi (by simp) ?_)))
 show wpAny _ _ (newExc (.type "StopIteration") ([]:List Value)>>=λy=>_) _ _ _
 refine Wc ?_;simp only[newExc,newTuple];refine Wc (WW ?_ (by size_fits:_))
 refine Wc (m:=firstArgMember _ _) (wpAny_of_eq (a:=Value.none) (by first | rfl | simp only[firstArgMember]) ?_)
 refine WW ?_ (by size_fits:_)
 simp only[raiseNew];refine Wc (wpAny_handled ?_)
 first | rw[hh] | rw[show A.in1.handled=none from hh]
 refine Wc (We (wpAny_throw (hE _ _ (((Yz ..).extBut.push _).push _) ⟨_,Wl _ rfl,rfl⟩)))
end
structure SubIt(P:Program)(w:World)(i l:Addr)(its:Array Value)(st:Nat->Heap->Prop):Prop where
 obj:∀k h,st k h->(∃o,h.get? i=some o/\∀v,o.data≠.cell v)/\∃o,h.get? l=some o
 keep:∀k h h',st k h->(∀o,h.get? i=some o->h'.get? i=some o)->(∀o,h.get? l=some o->h'.get? l=some o)->st k h'
 item:∀(A:Around) k (s:Shared) x (Q:Value->Shared->Prop) (E:Value->Shared->Prop),st k s.heap->its[k]?=some x->(∀h',st (k+1) h'->Heap.SameBut i s.heap h'->Q x { s with heap:=h' })->wpAny (model P w) A (Builtin.SmallTypes.nextOf (.ref i)) Q E s
 done:∀(A:Around) k (s:Shared) (Q:Value->Shared->Prop) (E:Value->Shared->Prop),A.handled=none->st k s.heap->its[k]?=none->(∀h' e,Heap.ExtBut i s.heap h'->(∃o,h'.get? e=some o/\o.cls=.type "StopIteration")->E (.ref e) { s with heap:=h' })->wpAny (model P w) A (Builtin.SmallTypes.nextOf (.ref i)) Q E s
theorem O4(hne:l≠i)(its:Array Value):SubIt P w i l its (λk h=>IsTupIter h i l k/\IsTup h l its) where
 obj:=λk h ⟨⟨o,e,_,d⟩,⟨o',e',_⟩⟩=>⟨⟨o,e,λv z=>by rw[d]at z;cases z⟩,o',e'⟩
 keep:=λk h h' ⟨⟨o,e,r⟩,⟨o',e',r'⟩⟩ k1 k2=>⟨⟨o,k1 _ e,r⟩,⟨o',k2 _ e',r'⟩⟩
 item:=λA k s x Q E st hx hQ=>FZ st.1 st.2 hx λh' h1 h2=>hQ h' ⟨h1,st.2.extBut h2.extBut hne⟩ h2
 done:=λA k s Q E hh st hx hE=>CJ hh st.1 st.2 hx hE
theorem O3(hne:l≠i)(its:Array Value):SubIt P w i l its (λk h=>h.IsListIter i l k/\h.IsList l its) where
 obj:=λk h ⟨⟨o,e,_,d⟩,⟨o',e',_⟩⟩=>⟨⟨o,e,λv z=>by rw[d]at z;cases z⟩,o',e'⟩
 keep:=λk h h' ⟨⟨o,e,r⟩,⟨o',e',r'⟩⟩ k1 k2=>⟨⟨o,k1 _ e,r⟩,⟨o',k2 _ e',r'⟩⟩
 item:=λA k s x Q E st hx hQ=>wpAny_nextOf_list_item st.1 st.2 hx λh' h1 h2=>hQ h' ⟨h1,st.2.extBut h2.extBut hne⟩ h2
 done:=λA k s Q E hh st hx hE=>wpAny_nextOf_list_end hh st.1 st.2 hx hE
abbrev sZ(h:Heap)(T1:String)(l1:Addr):Heap:=h.push { cls:=.type T1,data:=.fields #[.ref l1,.int 0 0] }
abbrev MP(h:Heap)(T1 T2:String)(l1 l2:Addr):Heap:=(sZ h T1 l1).push { cls:=.type T2,data:=.fields #[.ref l2,.int 0 0] }
abbrev MT(h:Heap)(T1 T2:String)(l1 l2:Addr):Heap:=(MP h T1 T2 l1 l2).push { cls:=.type "tuple",data:=.seq #[.ref h.objs.size,.ref (sZ h T1 l1).objs.size] }
abbrev uJ(h:Heap)(T1 T2:String)(l1 l2:Addr):Heap:=(MT h T1 T2 l1 l2).push { cls:=.type "tuple",data:=.seq #[.none,.none] }
abbrev pA(h:Heap)(T1 T2:String)(l1 l2:Addr):Heap:=(uJ h T1 T2 l1 l2).push { cls:=.type "zip",data:=.fields #[.none,.bool false,.bool false,.ref (MP h T1 T2 l1 l2).objs.size,.ref (MT h T1 T2 l1 l2).objs.size] }
theorem Av(l1 l2:Addr)(xs ys:Array Value):
  Meets (Builtin.«zip.__new__» ⟨[.type "zip",.ref l1,.ref l2],[]⟩) (λz R s=>IsTup s.heap l1 xs/\IsTup s.heap l2 ys/\R (.ok (.ret (.ref (uJ s.heap "tuple_iterator" "tuple_iterator" l1 l2).objs.size))) { s with heap:=pA s.heap "tuple_iterator" "tuple_iterator" l1 l2 }):=
 .of_wp λprog w A R s h=>by
  obtain⟨hp,gn,dr,tk,os⟩:=s;obtain⟨k1,k2,h⟩:=h;have hsub:=sub_zip;have K1:IsTup (Shared.heap ⟨hp,gn,dr,tk,os⟩) l1 xs:=k1;have K2:IsTup (Shared.heap ⟨hp.push { cls:=.type "tuple_iterator",data:=.fields #[.ref l1,.int 0 0] },gn,dr,tk,os⟩) l2 ys:=k2.push _
  wp_walk using ZF K1,ZF K2
  exact⟨_,rfl,h⟩
theorem Aq(l1 l2:Addr)(xs ys:Array Value):
  Meets (Builtin.«zip.__new__» ⟨[.type "zip",.ref l1,.ref l2],[]⟩) (λz R s=>s.heap.IsList l1 xs/\IsTup s.heap l2 ys/\R (.ok (.ret (.ref (uJ s.heap "list_iterator" "tuple_iterator" l1 l2).objs.size))) { s with heap:=pA s.heap "list_iterator" "tuple_iterator" l1 l2 }):=
 .of_wp λprog w A R s h=>by
  obtain⟨hp,gn,dr,tk,os⟩:=s;obtain⟨k1,k2,h⟩:=h;have hsub:=sub_zip;have K1:Heap.IsList (Shared.heap ⟨hp,gn,dr,tk,os⟩) l1 xs:=k1;have K2:IsTup (Shared.heap ⟨hp.push { cls:=.type "list_iterator",data:=.fields #[.ref l1,.int 0 0] },gn,dr,tk,os⟩) l2 ys:=k2.push _
  wp_walk using Yt K1,ZF K2
  exact⟨_,rfl,h⟩
theorem Ar(l1 l2:Addr)(xs ys:Array Value):
  Meets (Builtin.«zip.__new__» ⟨[.type "zip",.ref l1,.ref l2],[]⟩) (λz R s=>IsTup s.heap l1 xs/\s.heap.IsList l2 ys/\R (.ok (.ret (.ref (uJ s.heap "tuple_iterator" "list_iterator" l1 l2).objs.size))) { s with heap:=pA s.heap "tuple_iterator" "list_iterator" l1 l2 }):=
 .of_wp λprog w A R s h=>by
  obtain⟨hp,gn,dr,tk,os⟩:=s;obtain⟨k1,k2,h⟩:=h;have hsub:=sub_zip;have K1:IsTup (Shared.heap ⟨hp,gn,dr,tk,os⟩) l1 xs:=k1;have K2:Heap.IsList (Shared.heap ⟨hp.push { cls:=.type "tuple_iterator",data:=.fields #[.ref l1,.int 0 0] },gn,dr,tk,os⟩) l2 ys:=Heap.IsList.push k2 _
  wp_walk using ZF K1,Yt K2
  exact⟨_,rfl,h⟩
theorem Ao(l1 l2:Addr)(xs ys:Array Value):
  Meets (Builtin.«zip.__new__» ⟨[.type "zip",.ref l1,.ref l2],[]⟩) (λz R s=>s.heap.IsList l1 xs/\s.heap.IsList l2 ys/\R (.ok (.ret (.ref (uJ s.heap "list_iterator" "list_iterator" l1 l2).objs.size))) { s with heap:=pA s.heap "list_iterator" "list_iterator" l1 l2 }):=
 .of_wp λprog w A R s h=>by
  obtain⟨hp,gn,dr,tk,os⟩:=s;obtain⟨k1,k2,h⟩:=h;have hsub:=sub_zip;have K1:Heap.IsList (Shared.heap ⟨hp,gn,dr,tk,os⟩) l1 xs:=k1;have K2:Heap.IsList (Shared.heap ⟨hp.push { cls:=.type "list_iterator",data:=.fields #[.ref l1,.int 0 0] },gn,dr,tk,os⟩) l2 ys:=Heap.IsList.push k2 _
  wp_walk using Yt K1,Yt K2
  exact⟨_,rfl,h⟩
def fV(b:Bool)(h:Heap)(l:Addr)(xs:Array Value):Prop:=if b then IsTup h l xs else h.IsList l xs
def tH(b:Bool)(i l:Addr)(xs:Array Value)(k:Nat)(h:Heap):Prop:=(if b then IsTupIter h i l k else h.IsListIter i l k)/\fV b h l xs
theorem kY(b:Bool)(hne:l≠i)(its:Array Value):SubIt P w i l its (tH b i l its):=by
 cases b with
 |true=>exact O4 hne its
 |false=>exact O3 hne its
theorem fV.lt(q:fV b h l xs):l<h.objs.size:=by
 cases b with
 |true=>obtain⟨o,e,_⟩:=(show IsTup h l xs from q);exact Wj e
 |false=>obtain⟨o,e,_⟩:=(show h.IsList l xs from q);exact Wj e
theorem fV.keep(q:fV b h l xs)(k:∀o,h.get? l=some o->h'.get? l=some o):fV b h' l xs:=by
 cases b with
 |true=>obtain⟨o,e,r⟩:=(show IsTup h l xs from q);exact⟨o,k _ e,r⟩
 |false=>obtain⟨o,e,r⟩:=(show h.IsList l xs from q);exact⟨o,k _ e,r⟩
section
variable{P:Program}{w:World}{A:Around}{E:Value->Shared->Prop}{s:Shared}{l1 l2:Addr}{xs ys:Array Value}
theorem Hx(k1:fV b1 s.heap l1 xs)(k2:fV b2 s.heap l2 ys)
  (h:∀h',IsZip h' (s.heap.objs.size+4) (s.heap.objs.size+2) (s.heap.objs.size+3) .none->IsPair h' (s.heap.objs.size+2) (.ref s.heap.objs.size) (.ref (s.heap.objs.size+1))->IsPair h' (s.heap.objs.size+3) .none .none->
    tH b1 s.heap.objs.size l1 xs 0 h'->tH b2 (s.heap.objs.size+1) l2 ys 0 h'->h'.objs.size=s.heap.objs.size+5->(∀c o,s.heap.get? c=some o->h'.get? c=some o)->Q (.ref (s.heap.objs.size+4)) { s with heap:=h' }) :
  wpAny (model P w) A (call (.type "zip") [.ref l1,.ref l2]) Q E s:=by
 have fin:∀T1 T2,(∀h' k,h'.get? s.heap.objs.size=some { cls:=.type T1,data:=.fields #[.ref l1,.int 0 0] }->fV b1 h' l1 xs->k=0->tH b1 s.heap.objs.size l1 xs k h')->
   (∀h' k,h'.get? (s.heap.objs.size+1)=some { cls:=.type T2,data:=.fields #[.ref l2,.int 0 0] }->fV b2 h' l2 ys->k=0->tH b2 (s.heap.objs.size+1) l2 ys k h')->
   s.TypeIs (.ref (uJ s.heap T1 T2 l1 l2).objs.size) "zip"\/True->Q (.ref (uJ s.heap T1 T2 l1 l2).objs.size) { s with heap:=pA s.heap T1 T2 l1 l2 }/\({ s with heap:=pA s.heap T1 T2 l1 l2 }:Shared).TypeIs (.ref (uJ s.heap T1 T2 l1 l2).objs.size) "zip":=by
  intro T1 T2 f1 f2 _;have z1:(sZ s.heap T1 l1).objs.size=s.heap.objs.size+1:=WM ..
  have z2:(MP s.heap T1 T2 l1 l2).objs.size=s.heap.objs.size+2:=by rw[WM,z1]
  have z3:(MT s.heap T1 T2 l1 l2).objs.size=s.heap.objs.size+3:=by rw[WM,z2]
  have z4:(uJ s.heap T1 T2 l1 l2).objs.size=s.heap.objs.size+4:=by rw[WM,z3]
  have z5:(pA s.heap T1 T2 l1 l2).objs.size=s.heap.objs.size+5:=by rw[WM,z4]
  have up:∀c o,s.heap.get? c=some o->(pA s.heap T1 T2 l1 l2).get? c=some o:=λc o q=>Wd _ (Wd _ (Wd _ (Wd _ (Wd _ q))))
  have q5:(pA s.heap T1 T2 l1 l2).get? (uJ s.heap T1 T2 l1 l2).objs.size=some _:=Wl _ rfl;have q4:(pA s.heap T1 T2 l1 l2).get? (MT s.heap T1 T2 l1 l2).objs.size=some _:=Wd _ (Wl _ rfl);have q3:(pA s.heap T1 T2 l1 l2).get? (MP s.heap T1 T2 l1 l2).objs.size=some _:=Wd _ (Wd _ (Wl _ rfl));have q2:(pA s.heap T1 T2 l1 l2).get? (sZ s.heap T1 l1).objs.size=some _:=Wd _ (Wd _ (Wd _ (Wl _ rfl)));have q1:(pA s.heap T1 T2 l1 l2).get? s.heap.objs.size=some _:=Wd _ (Wd _ (Wd _ (Wd _ (Wl _ rfl))));rw[z2,z3,z4]at q5;rw[z1,z2]at q3;rw[z3]at q4;rw[z1]at q2;rw[z4];exact⟨h _ q5 q3 q4 (f1 _ 0 q1 (k1.keep λo q=>up _ _ q) rfl) (f2 _ 0 q2 (k2.keep λo q=>up _ _ q) rfl) z5 up,_,q5,rfl⟩
 cases b1 with
 | true=>cases b2 with
   |true=>
     refine Zt F.called_zip (by decide) (ZZ _ _) (Z8 _ _) (λobj=>Zk obj _ _) aae (Av l1 l2 xs ys) ⟨k1,k2,?_⟩
     obtain⟨a1,a2⟩:=fin "tuple_iterator" "tuple_iterator" (λh' k q q' e=>by subst e;exact⟨⟨_,q,rfl,rfl⟩,q'⟩) (λh' k q q' e=>by subst e;exact⟨⟨_,q,rfl,rfl⟩,q'⟩) (.inr trivial)
     exact⟨a2,a1⟩
   |false=>
     refine Zt F.called_zip (by decide) (ZZ _ _) (Z8 _ _) (λobj=>Zk obj _ _) aae (Ar l1 l2 xs ys) ⟨k1,k2,?_⟩
     obtain⟨a1,a2⟩:=fin "tuple_iterator" "list_iterator" (λh' k q q' e=>by subst e;exact⟨⟨_,q,rfl,rfl⟩,q'⟩) (λh' k q q' e=>by subst e;exact⟨⟨_,q,rfl,rfl⟩,q'⟩) (.inr trivial)
     exact⟨a2,a1⟩
 | false=>cases b2 with
   |true=>
     refine Zt F.called_zip (by decide) (ZZ _ _) (Z8 _ _) (λobj=>Zk obj _ _) aae (Aq l1 l2 xs ys) ⟨k1,k2,?_⟩
     obtain⟨a1,a2⟩:=fin "list_iterator" "tuple_iterator" (λh' k q q' e=>by subst e;exact⟨⟨_,q,rfl,rfl⟩,q'⟩) (λh' k q q' e=>by subst e;exact⟨⟨_,q,rfl,rfl⟩,q'⟩) (.inr trivial)
     exact⟨a2,a1⟩
   |false=>
     refine Zt F.called_zip (by decide) (ZZ _ _) (Z8 _ _) (λobj=>Zk obj _ _) aae (Ao l1 l2 xs ys) ⟨k1,k2,?_⟩
     obtain⟨a1,a2⟩:=fin "list_iterator" "list_iterator" (λh' k q q' e=>by subst e;exact⟨⟨_,q,rfl,rfl⟩,q'⟩) (λh' k q q' e=>by subst e;exact⟨⟨_,q,rfl,rfl⟩,q'⟩) (.inr trivial)
     exact⟨a2,a1⟩
end
section
variable{X:Cx}{aaD:List (Addr×Obj)}{σ:St}{H:Hp}{s:Shared}{h':Heap}
theorem Inv.turnedL{t':Nat}{ch:List Addr}(I:Inv X aaD σ H s)(k:∀b o,b∉ch->s.heap.get? b=some o->h'.get? b=some o)(hf:∀b∈ch,FpOk X aaD H b)(hL:∀b∈ch,b≠X.env.locals):Inv X aaD σ H { s with heap:=h',toks:=t' }:=by
 have nit:∀b u,H b=some u->b∉ch:=λb u e z=>by have:=(hf b z).1;rw[e]at this;cases this
 refine I.step (g':=s.gens) (d':=s.drawn) (ch:=ch) (λb hb=>?_) (λb o y y hc e y=>k b o hc e) (λb o y y hc e y=>⟨o.slots,k b o hc e⟩) (λy y y y n=>n)
  (λb o hc e=>⟨o,k b o hc e⟩) (λy y e=>e) (λy y y e=>e) (λb ps e=>⟨#[],by rw[e];simp⟩) (λm hm=>?_) (λb u e=>?_) I.bare
 ·obtain⟨_,f1,_,f3,f4,f5⟩:=hf b hb;exact⟨f3,f1,f4,f5⟩
 ·obtain⟨o,es,ep,ho,r⟩:=hm;exact⟨o,es,ep,k _ o (λz=>(hL _ z) rfl) ho,r⟩
 ·refine (I.hok b u e).stay (λc v hc q=>k c v ?_ q) (λy q=>q) λy y q=>q
  rcases hc with z | z
  ·rw[z];exact nit b u e
  ·exact nit c _ z
theorem Inv.turnedLay{t':Nat}{ch:List Addr}{p:Addr}{o:HO}(I:Inv X aaD σ H s)(k:∀ b o,b∉ch->s.heap.get? b=some o->h'.get? b=some o)(hf:∀ b∈ch,FpOk X aaD H b)(hp:s.heap.objs.size<=p)(new:ObjOk X.prog X.w (upd H p o) h' p o):Inv X aaD σ (upd H p o) { s with heap:=h',toks:=t' }:=by
 have nit:∀b u,H b=some u->b∉ch:=λb u e z=>by have:=(hf b z).1;rw[e]at this;cases this
 have hn:H p=none:=I.hok.fresh hp;have tr:∀b u,H b=some u->upd H p o b=some u:=λb u e=>by rw[upd_ne (ne_of_none e hn)];exact e
 refine I.step (g':=s.gens) (d':=s.drawn) (ch:=ch) (λb hb=>?_) (λb o x x hc e x=>k b o hc e) (λb o x x hc e x=>⟨o.slots,k b o hc e⟩) (λb u x e n=>by rw[upd_ne (Wu (Wo (Wj e) hp))];exact n)
  (λb o hc e=>⟨o,k b o hc e⟩) (λb xs e=>tr b _ e) (λb x x e=>tr b _ e) (λb ps e=>⟨#[],by rw[tr b _ e];simp⟩) (λm hm=>?_) (λb u e=>?_) I.bare
 ·obtain⟨_,f1,_,f3,f4,f5⟩:=hf b hb;exact⟨f3,f1,f4,f5⟩
 ·obtain⟨o,es,ep,ho,r⟩:=hm;exact⟨o,es,ep,k _ o (λz=>(hf _ z).2.1 rfl) ho,r⟩
 ·by_cases z:b=p
  ·subst z;rw[upd_same]at e;cases e;exact new
  ·rw[upd_ne z]at e;refine (I.hok b u e).stay (λc v hc q=>k c v ?_ q) (λc q=>tr c _ q) (λc xs q=>tr c _ q) λc o q=>tr c _ q
   rcases hc with y | y
   ·rw[y];exact nit b u e
   ·exact nit c _ y
end
def lw(b:Bool)(K:PySem.W.Frag)(H:Hp)(l:Addr)(xs:List V):Prop:=if b then SqT K H l xs else SqL K H l xs
theorem Inv.seqS{X:Cx}{aaD:List (Addr×Obj)}{σ:St}{H:Hp}{s:Shared}{b:Bool}{l:Addr}{xs:List V}(I:Inv X aaD σ H s)(h:lw b X.K H l xs):∃its:List Value,Vals xs its/\fV b s.heap l its.toArray/\xs.length<=sizeLine:=by
 cases b with
 |true=>obtain⟨its,r,p,z⟩:=I.tuple (show SqT X.K H l xs from h);exact⟨its,r,p,z⟩
 |false=>obtain⟨its,r,p,z⟩:=I.list (show SqL X.K H l xs from h);exact⟨its,r,p.isList,z⟩
theorem Inv.seqS_inj{X:Cx}{aaD:List (Addr×Obj)}{σ:St}{H:Hp}{s:Shared}{b:Bool}{l:Addr}{xs ys:List V}(I:Inv X aaD σ H s)(h:lw b X.K H l xs)(q:lw b X.K H l ys):xs=ys:=by
 cases b with
 |true=>exact I.tuple_inj (show SqT X.K H l xs from h) q
 |false=>exact I.list_inj (show SqL X.K H l xs from h) q
def bD(b:Bool)(i l:Addr)(k:Nat)(h:Heap):Prop:=if b then IsTupIter h i l k else h.IsListIter i l k
theorem bD.keep{b:Bool}{i l:Addr}{k:Nat}{h h':Heap}(q:bD b i l k h)(kk:∀o,h.get? i=some o->h'.get? i=some o):bD b i l k h':=by
 cases b with
 |true=>obtain⟨o,e,r⟩:=(show IsTupIter h i l k from q);exact⟨o,kk _ e,r⟩
 |false=>obtain⟨o,e,r⟩:=(show h.IsListIter i l k from q);exact⟨o,kk _ e,r⟩
theorem bD.obj{b:Bool}{i l:Addr}{k:Nat}{h:Heap}(q:bD b i l k h):∃o,h.get? i=some o/\∀v,o.data≠.cell v:=by
 cases b with
 |true=>obtain⟨o,e,_,d⟩:=(show IsTupIter h i l k from q);exact⟨o,e,λv z=>by rw[d]at z;cases z⟩
 |false=>obtain⟨o,e,_,d⟩:=(show h.IsListIter i l k from q);exact⟨o,e,λv z=>by rw[d]at z;cases z⟩
def O9(K:PySem.W.Frag)(b1 b2:Bool)(l1 l2:Addr):It:=
 ⟨fun i H=>∃xs ys x y,lw b1 K H l1 xs∧lw b2 K H l2 ys∧xs[i]?=some x∧ys[i]?=some y,
  λi H v H'=>∃p,H p=none/\v=.ref p/\∀xs ys,lw b1 K H l1 xs->lw b2 K H l2 ys->∃x y,xs[i]?=some x/\ys[i]?=some y/\H'=upd H p (.tup [x,y]),
  λi H=>∃xs ys,lw b1 K H l1 xs/\lw b2 K H l2 ys/\(xs[i]?=none\/ys[i]?=none)⟩
abbrev bK(h:Heap)(z TI TO:Addr)(f0 f1:Value):Prop:=h.get? z=some { cls:=.type "zip",dict:=none,data:=.fields #[f0,f1,.bool false,.ref TI,.ref TO],slots:=#[] }
section
variable{P:Program}{w:World}{A:Around}{E:Value->Shared->Prop}{s:Shared}{z TI TO i1 i2 l1 l2:Addr}{xs ys:Array Value}{st1 st2:Nat->Heap->Prop}
theorem Cu(h:Q (s.heap.get? a) s):wpAny M A (loadIfAlive a) Q E s:=λz z z=>h
theorem Bd(hfr:f0=.none\/∃p:Addr,f0=rawInt p/\s.heap.get? p=none)(hz:bK s.heap z TI TO f0 f1)(h:Q true s):wpAny M A (Builtin.SmallTypes.ownedTupleIsFree (.ref z)) Q E s:=by
 unfold Builtin.SmallTypes.ownedTupleIsFree;rcases hfr with rfl | ⟨p,rfl,hp⟩
 ·exact Wc (W9 hz rfl (x:=.none) rfl (We h))
 ·refine Wc (W9 hz rfl (x:=rawInt p) rfl ?_);refine Wc (Cu ?_);rw[show ((p:Int).toNat:Nat)=p from Xo p,hp]
  exact We h
theorem Bc(hp:s.heap.get? p=some o)(hz:bK s.heap z TI TO (rawInt p) (.bool b))(h:∀ h',bK h' z TI TO (rawInt p) (.bool true)->Heap.SameBut z s.heap h'->Q false { s with heap:=h' }):wpAny (model P w) A (Builtin.SmallTypes.ownedTupleIsFree (.ref z)) Q E s:=by
 unfold Builtin.SmallTypes.ownedTupleIsFree;refine Wc (W9 hz rfl (x:=rawInt p) rfl ?_);refine Wc (Cu ?_);rw[show ((p:Int).toNat:Nat)=p from Xo p,hp]
 simp only[Option.isNone_some,Bool.false_eq_true,if_false];refine Wc (W9 hz rfl (x:=.bool b) rfl ?_);cases b with
 |true=>
   rw[Wr (by decide)]
   exact We (h s.heap hz (Heap.SameBut.refl _ _))
 |false=>
   rw[Wm (by decide)]
   exact Wc (wpAny_setField_rec (k:=1) (x:=.bool true) hz (by simp) λg1 hz1 e1=>We (h g1 hz1 e1))
theorem J4{k:Nat}{Q:Value->Shared->Prop}(D:ZipApart z TI TO i1 i2 l1 l2)(S1:SubIt P w i1 l1 xs st1)(S2:SubIt P w i2 l2 ys st2)(hfr:f0=.none\/∃p:Addr,f0=rawInt p/\s.heap.get? p=none)(hz:bK s.heap z TI TO f0 f1)(hTI:IsPair s.heap TI (.ref i1) (.ref i2))(hTO:IsPair s.heap TO a b)(h1:st1 k s.heap)(h2:st2 k s.heap)(hx:xs[k]?=some x)(hy:ys[k]?=some y)
  (hQ:∀h',IsZip h' z TI TO (rawInt s.heap.objs.size)->IsPair h' TO x y->st1 (k+1) h'->st2 (k+1) h'->IsPair h' s.heap.objs.size x y->h'.objs.size=s.heap.objs.size+1->(∀c o,c≠z->c≠TO->c≠i1->c≠i2->s.heap.get? c=some o->h'.get? c=some o)->Q (.ref s.heap.objs.size) { s with heap:=h' }) :
  wpAny (model P w) A (Builtin.«zip.__next__» ⟨[.ref z],[]⟩) (λfin s'=>∃v,fin=.done (.ret v)/\Q v s') E s:=by
 show wpAny _ _ (field (.ref z) 2>>=λu=>_) _ _ _
 refine Wc (W9 hz rfl (x:=.bool false) rfl (show _ from ?_))
 show wpAny _ _ (field (.ref z) 3>>=λu=>_) _ _ _
 refine Wc (W9 hz rfl (x:=.ref TI) rfl (show _ from ?_))
 refine Wc (XJ hTI rfl (show _ from ?_))
 show wpAny _ _ (Builtin.SmallTypes.ownedTupleIsFree (.ref z)>>=λu=>_) _ _ _
 refine Wc (Bd hfr hz ?_);simp only[if_true];refine Wc (YM (show _ from ?_))
 refine Wc (W9 hz rfl (x:=.ref TO) rfl (show _ from ?_))
 refine Wc (wpAny_setField_rec hz (by simp) λg1 hz1 e1=>?_)
 replace hz1:bK g1 z TI TO .ellipsis f1:=hz1;have n1:=(S1.obj _ _ h1).2;refine Wc ?_;simp only[List.zipIdx_cons,List.zipIdx_nil,List.forIn_cons,List.forIn_nil];refine Wc (Wc (wpAny_onRaise (show _ from ?_)))
 show wpAny _ _ (Builtin.SmallTypes.nextOf (.ref i1)>>=λu=>_) _ _ _
 refine Wc (S1.item _ k _ x _ _ (S1.keep _ _ _ h1 (λo q=>e1.extBut _ _ D.i1z q) λo q=>e1.extBut _ _ D.l1z q) hx λg2 h12 e2=>We ?_)
 have hTO2:IsPair g2 TO a b:=e2.extBut _ _ D.TOi1 (e1.extBut _ _ D.TOz hTO);refine Wc (XJ hTO2 rfl (show _ from ?_))
 refine Wc (wpAny_updateSeq_pair hTO2 λg3 hTO3 e3=>?_)
 replace hTO3:IsPair g3 TO x b:=hTO3;refine Wc (wpAny_letGo (We (show _ from ?_)))
 refine Wc (Wc (wpAny_onRaise (show _ from ?_)))
 show wpAny _ _ (Builtin.SmallTypes.nextOf (.ref i2)>>=λu=>_) _ _ _
 refine Wc (S2.item _ k _ y _ _ (S2.keep _ _ _ h2 (λo q=>e3.extBut _ _ D.TOi2.symm (e2.extBut _ _ D.i12.symm (e1.extBut _ _ D.i2z q))) λo q=>e3.extBut _ _ D.l2TO (e2.extBut _ _ D.l2i1 (e1.extBut _ _ D.l2z q))) hy λg4 h24 e4=>We ?_)
 have hTO4:IsPair g4 TO x b:=e4.extBut _ _ D.TOi2 hTO3;refine Wc (XJ hTO4 rfl (show _ from ?_))
 refine Wc (wpAny_updateSeq_pair hTO4 λg5 hTO5 e5=>?_)
 replace hTO5:IsPair g5 TO x y:=hTO5;refine Wc (wpAny_letGo (We (We (show _ from ?_))))
 refine Wc (XJ hTO5 rfl (show _ from ?_))
 refine Wc (wpAny_newTuple (show _ from ?_))
 have hsz:g5.objs.size=s.heap.objs.size:=by rw[e5.1,e4.1,e3.1,e2.1,e1.1]
 have hz5:bK g5 z TI TO .ellipsis f1:=e5.extBut _ _ D.TOz.symm (e4.extBut _ _ D.i2z.symm (e3.extBut _ _ D.TOz.symm (e2.extBut _ _ D.i1z.symm hz1)));have hk5:∀c o,c≠z->c≠TO->c≠i1->c≠i2->s.heap.get? c=some o->g5.get? c=some o:=λc o c1 c2 c3 c4 q=>e5.extBut _ _ c2 (e4.extBut _ _ c4 (e3.extBut _ _ c2 (e2.extBut _ _ c3 (e1.extBut _ _ c1 q))))
 have h15:st1 (k+1) g5:=S1.keep _ _ _ h12 (λo q=>e5.extBut _ _ D.TOi1.symm (e4.extBut _ _ D.i12 (e3.extBut _ _ D.TOi1.symm q))) λo q=>e5.extBut _ _ D.l1TO (e4.extBut _ _ D.l1i2 (e3.extBut _ _ D.l1TO q))
 have h25:st2 (k+1) g5:=S2.keep _ _ _ h24 (λo q=>e5.extBut _ _ D.TOi2.symm q) λo q=>e5.extBut _ _ D.l2TO q
 have hzlt:z<g5.objs.size:=Wj hz5;show wpAny _ _ (Builtin.SmallTypes.ownedTupleHandOut (.ref z) (.ref g5.objs.size)>>=λu=>_) _ _ _
 refine Wc ?_;unfold Builtin.SmallTypes.ownedTupleHandOut;have hz6:bK (g5.push { cls:=.type "tuple",data:=.seq #[x,y] }) z TI TO .ellipsis f1:=Wd _ hz5;refine Wc (wpAny_setField_rec hz6 (by simp) λg7 hz7 e7=>?_)
 replace hz7:bK g7 z TI TO (rawInt g5.objs.size) f1:=hz7;refine wpAny_setField_rec hz7 (by simp) λg8 hz8 e8=>?_
 replace hz8:IsZip g8 z TI TO (rawInt g5.objs.size):=hz8;have up:∀c o,c≠z->g5.get? c=some o->g8.get? c=some o:=λc o c1 q=>e8.extBut _ _ c1 (e7.extBut _ _ c1 (Wd _ q))
 have hT8:IsPair g8 g5.objs.size x y:=e8.extBut _ _ (YT hzlt) (e7.extBut _ _ (YT hzlt) (Wl _ rfl));have sz8:g8.objs.size=g5.objs.size+1:=by rw[e8.1,e7.1,WM]
 rw[hsz]at hz8 hT8 sz8;refine We ⟨_,rfl,?_⟩;show Q (.ref g5.objs.size) _;rw[hsz];exact hQ g8 hz8 (up _ _ D.TOz hTO5) (S1.keep _ _ _ h15 (λo q=>up _ o D.i1z q) λo q=>up _ o D.l1z q) (S2.keep _ _ _ h25 (λo q=>up _ o D.i2z q) λo q=>up _ o D.l2z q) hT8 sz8 λc o c1 c2 c3 c4 q=>up c o c1 (hk5 c o c1 c2 c3 c4 q)
theorem Lx(hh:A.handled=none)(D:ZipApart z TI TO i1 i2 l1 l2)(S1:SubIt P w i1 l1 xs st1)(S2:SubIt P w i2 l2 ys st2)(hfr:f0=.none\/∃ p:Addr,f0=rawInt p/\s.heap.get? p=none)(hz:bK s.heap z TI TO f0 f1)(hTI:IsPair s.heap TI (.ref i1) (.ref i2))(hTO:IsPair s.heap TO a b)(h1:st1 k s.heap)(h2:st2 k s.heap)(hend:xs[k]?=none\/ys[k]?=none)
  (hE:∀h' e,(∀c o,c≠z->c≠TO->c≠i1->c≠i2->s.heap.get? c=some o->h'.get? c=some o)->(∃o,h'.get? e=some o/\o.cls=.type "StopIteration")->E (.ref e) { s with heap:=h' }) :
  wpAny (model P w) A (Builtin.«zip.__next__» ⟨[.ref z],[]⟩) Q E s:=by
 show wpAny _ _ (field (.ref z) 2>>=λy=>_) _ _ _
 refine Wc (W9 hz rfl (x:=.bool false) rfl (show _ from ?_))
 show wpAny _ _ (field (.ref z) 3>>=λy=>_) _ _ _
 refine Wc (W9 hz rfl (x:=.ref TI) rfl (show _ from ?_))
 refine Wc (XJ hTI rfl (show _ from ?_))
 show wpAny _ _ (Builtin.SmallTypes.ownedTupleIsFree (.ref z)>>=λy=>_) _ _ _
 refine Wc (Bd hfr hz ?_);simp only[if_true];refine Wc (YM (show _ from ?_))
 refine Wc (W9 hz rfl (x:=.ref TO) rfl (show _ from ?_))
 refine Wc (wpAny_setField_rec hz (by simp) λg1 hz1 e1=>?_)
 replace hz1:bK g1 z TI TO .ellipsis f1:=hz1;refine Wc ?_;simp only[List.zipIdx_cons,List.zipIdx_nil,List.forIn_cons,List.forIn_nil];refine Wc (Wc (wpAny_onRaise (show _ from ?_)))
 show wpAny _ _ (Builtin.SmallTypes.nextOf (.ref i1)>>=λy=>_) _ _ _
 have h11:st1 k g1:=S1.keep _ _ _ h1 (λo q=>e1.extBut _ _ D.i1z q) λo q=>e1.extBut _ _ D.l1z q
 cases hx:xs[k]? with
 |none=>
   refine Wc (S1.done _ k _ _ _ hh h11 hx λg2 e e2 he=>?_)
   obtain⟨oe,hoe,hce⟩:=he;have hz2:bK g2 z TI TO .ellipsis f1:=e2 _ _ D.i1z.symm hz1;have hez:e≠z:=λq=>by subst q;rw[hz2]at hoe;cases hoe;simp at hce
   refine wpAny_setField_rec hz2 (by simp) λg3 y e3=>hE g3 e (λc o c1 y c3 y q=>e3.extBut _ _ c1 (e2 _ _ c3 (e1.extBut _ _ c1 q))) ⟨oe,e3.extBut _ _ hez hoe,hce⟩
 |some x=>
   have hy:ys[k]?=none:=by rcases hend with q | q;rw[hx]at q;cases q;exact q
   refine Wc (S1.item _ k _ x _ _ h11 hx λg2 h12 e2=>We ?_)
   have hTO2:IsPair g2 TO a b:=e2.extBut _ _ D.TOi1 (e1.extBut _ _ D.TOz hTO);refine Wc (XJ hTO2 rfl (show _ from ?_))
   refine Wc (wpAny_updateSeq_pair hTO2 λg3 hTO3 e3=>?_)
   refine Wc (wpAny_letGo (We (show _ from ?_)))
   refine Wc (Wc (wpAny_onRaise (show _ from ?_)))
   show wpAny _ _ (Builtin.SmallTypes.nextOf (.ref i2)>>=λy=>_) _ _ _
   refine Wc (S2.done _ k _ _ _ hh (S2.keep _ _ _ h2 (λo q=>e3.extBut _ _ D.TOi2.symm (e2.extBut _ _ D.i12.symm (e1.extBut _ _ D.i2z q))) λo q=>e3.extBut _ _ D.l2TO (e2.extBut _ _ D.l2i1 (e1.extBut _ _ D.l2z q))) hy λg4 e e4 he=>?_)
   obtain⟨oe,hoe,hce⟩:=he;have hz4:bK g4 z TI TO .ellipsis f1:=e4 _ _ D.i2z.symm (e3.extBut _ _ D.TOz.symm (e2.extBut _ _ D.i1z.symm hz1));have hez:e≠z:=λq=>by subst q;rw[hz4]at hoe;cases hoe;simp at hce
   refine wpAny_setField_rec hz4 (by simp) λg5 y e5=>hE g5 e (λc o c1 c2 c3 c4 q=>e5.extBut _ _ c1 (e4 _ _ c4 (e3.extBut _ _ c2 (e2.extBut _ _ c3 (e1.extBut _ _ c1 q))))) ⟨oe,e5.extBut _ _ hez hoe,hce⟩
theorem J5{k:Nat}{b:Bool}{Q:Value->Shared->Prop}(D:ZipApart z TI TO i1 i2 l1 l2)(S1:SubIt P w i1 l1 xs st1)(S2:SubIt P w i2 l2 ys st2)(hp:s.heap.get? p=some o)
  (hz:bK s.heap z TI TO (rawInt p) (.bool b)) (hTI:IsPair s.heap TI (.ref i1) (.ref i2)) (h1:st1 k s.heap) (h2:st2 k s.heap) (hx:xs[k]?=some x) (hy:ys[k]?=some y)
  (hQ:∀h',bK h' z TI TO (rawInt p) (.bool true)->st1 (k+1) h'->st2 (k+1) h'->IsPair h' s.heap.objs.size x y->h'.objs.size=s.heap.objs.size+1->(∀c o,c≠z->c≠i1->c≠i2->s.heap.get? c=some o->h'.get? c=some o)->Q (.ref s.heap.objs.size) { s with heap:=h' }) :
  wpAny (model P w) A (Builtin.«zip.__next__» ⟨[.ref z],[]⟩) (λfin s'=>∃v,fin=.done (.ret v)/\Q v s') E s:=by
 show wpAny _ _ (field (.ref z) 2>>=λu=>_) _ _ _
 refine Wc (W9 hz rfl (x:=.bool false) rfl (show _ from ?_))
 show wpAny _ _ (field (.ref z) 3>>=λu=>_) _ _ _
 refine Wc (W9 hz rfl (x:=.ref TI) rfl (show _ from ?_))
 refine Wc (XJ hTI rfl (show _ from ?_))
 show wpAny _ _ (Builtin.SmallTypes.ownedTupleIsFree (.ref z)>>=λu=>_) _ _ _
 refine Wc (Bc hp hz λg1 hz1 e1=>?_)
 simp only[Bool.false_eq_true,if_false];rw[<-Zw];simp only[List.forIn_cons,List.forIn_nil];refine Wc (Wc (Wc (Xj (show _ from ?_))))
 show wpAny _ _ (Builtin.SmallTypes.nextOf (.ref i1)>>=λu=>_) _ _ _
 refine Wc (S1.item _ k _ x _ _ (S1.keep _ _ _ h1 (λo q=>e1.extBut _ _ D.i1z q) λo q=>e1.extBut _ _ D.l1z q) hx λg2 h12 e2=>We ?_)
 refine We ?_;refine Wc (Wc (Xj (show _ from ?_)))
 show wpAny _ _ (Builtin.SmallTypes.nextOf (.ref i2)>>=λu=>_) _ _ _
 refine Wc (S2.item _ k _ y _ _ (S2.keep _ _ _ h2 (λo q=>e2.extBut _ _ D.i12.symm (e1.extBut _ _ D.i2z q)) λo q=>e2.extBut _ _ D.l2i1 (e1.extBut _ _ D.l2z q)) hy λg3 h23 e3=>We ?_)
 refine We (We ?_);refine Wc (wpAny_newTuple (hsz:=by show 2<=sizeLine;decide) (show _ from ?_))
 have hsz:g3.objs.size=s.heap.objs.size:=by rw[e3.1,e2.1,e1.1]
 have up:∀c o,c≠z->c≠i1->c≠i2->s.heap.get? c=some o->g3.get? c=some o:=λc o c1 c3 c4 q=>e3.extBut _ _ c4 (e2.extBut _ _ c3 (e1.extBut _ _ c1 q))
 have hz3:bK g3 z TI TO (rawInt p) (.bool true):=e3.extBut _ _ D.i2z.symm (e2.extBut _ _ D.i1z.symm hz1);refine We ⟨_,rfl,?_⟩;show Q (.ref g3.objs.size) _;have hT:IsPair (g3.push { cls:=.type "tuple",data:=.seq #[x,y] }) g3.objs.size x y:=Wl _ rfl;have h13:st1 (k+1) g3:=S1.keep _ _ _ h12 (λo q=>e3.extBut _ _ D.i12 q) λo q=>e3.extBut _ _ D.l1i2 q
 rw[hsz]at hT ⊢
 exact hQ _ (Wd _ hz3) (S1.keep _ _ _ h13 (λo q=>Wd _ q) λo q=>Wd _ q) (S2.keep _ _ _ h23 (λo q=>Wd _ q) λo q=>Wd _ q) hT (by rw[WM,hsz]) λc o c1 c3 c4 q=>Wd _ (up c o c1 c3 c4 q)
theorem Ly(hh:A.handled=none)(D:ZipApart z TI TO i1 i2 l1 l2)(S1:SubIt P w i1 l1 xs st1)(S2:SubIt P w i2 l2 ys st2)(hp:s.heap.get? p=some o)
  (hz:bK s.heap z TI TO (rawInt p) (.bool b)) (hTI:IsPair s.heap TI (.ref i1) (.ref i2)) (h1:st1 k s.heap) (h2:st2 k s.heap) (hend:xs[k]?=none\/ys[k]?=none)
  (hE:∀h' e,(∀c o,c≠z->c≠TO->c≠i1->c≠i2->s.heap.get? c=some o->h'.get? c=some o)->(∃o,h'.get? e=some o/\o.cls=.type "StopIteration")->E (.ref e) { s with heap:=h' }) :
  wpAny (model P w) A (Builtin.«zip.__next__» ⟨[.ref z],[]⟩) Q E s:=by
 show wpAny _ _ (field (.ref z) 2>>=λy=>_) _ _ _
 refine Wc (W9 hz rfl (x:=.bool false) rfl (show _ from ?_))
 show wpAny _ _ (field (.ref z) 3>>=λy=>_) _ _ _
 refine Wc (W9 hz rfl (x:=.ref TI) rfl (show _ from ?_))
 refine Wc (XJ hTI rfl (show _ from ?_))
 show wpAny _ _ (Builtin.SmallTypes.ownedTupleIsFree (.ref z)>>=λy=>_) _ _ _
 refine Wc (Bc hp hz λg1 hz1 e1=>?_)
 simp only[Bool.false_eq_true,if_false];rw[<-Zw];simp only[List.forIn_cons,List.forIn_nil];refine Wc (Wc (Wc (Xj (show _ from ?_))))
 show wpAny _ _ (Builtin.SmallTypes.nextOf (.ref i1)>>=λy=>_) _ _ _
 have h11:st1 k g1:=S1.keep _ _ _ h1 (λo q=>e1.extBut _ _ D.i1z q) λo q=>e1.extBut _ _ D.l1z q
 cases hx:xs[k]? with
 |none=>exact Wc (S1.done _ k _ _ _ hh h11 hx λg2 e e2 he=>hE g2 e (λc o c1 y c3 y q=>e2 _ _ c3 (e1.extBut _ _ c1 q)) he)
 |some x=>
   have hy:ys[k]?=none:=by rcases hend with q | q;rw[hx]at q;cases q;exact q
   refine Wc (S1.item _ k _ x _ _ h11 hx λg2 h12 e2=>We ?_)
   refine We ?_;refine Wc (Wc (Xj (show _ from ?_)))
   show wpAny _ _ (Builtin.SmallTypes.nextOf (.ref i2)>>=λy=>_) _ _ _
   exact Wc (S2.done _ k _ _ _ hh (S2.keep _ _ _ h2 (λo q=>e2.extBut _ _ D.i12.symm (e1.extBut _ _ D.i2z q)) λo q=>e2.extBut _ _ D.l2i1 (e1.extBut _ _ D.l2z q)) hy λg3 e e3 he=>hE g3 e (λc o c1 y c3 c4 q=>e3 _ _ c4 (e2.extBut _ _ c3 (e1.extBut _ _ c1 q))) he)
end
theorem nA{P:Program}{w:World}{A:Around}{E:Value->Shared->Prop}{s:Shared}{z TI TO:Addr}{f0 f1:Value}{Q:Option Value->Shared->Prop}(hz:bK s.heap z TI TO f0 f1)
  (h:wpAny (model P w) A.in1 (Builtin.«zip.__next__» ⟨[.ref z],[]⟩) (λfin s'=>∃v,fin=.done (.ret v)/\Q (some v) s') (λe s'=>∃o ea,e=.ref ea/\s'.heap.get? ea=some o/\o.cls=.type "StopIteration"/\Q none s') s):wpAny (model P w) A (pyNext (.ref z)) Q E s:=by
 have hT:s.TypeIs (.ref z) "zip":=⟨_,hz,rfl⟩;unfold pyNext;refine Wc (Yu (W7 (name:=Str.ofString "__next__") hT F.slot_zip_next (WX F.slot_zip_next hT F.entry_zip_next (Wx h (λfin s' q=>?_) λe s' q=>?_) (F.args_zip_next_1 _))))
 ·obtain⟨v,rfl,q⟩:=q;exact⟨v,rfl,We q⟩
 ·obtain⟨o,ea,rfl,ho,hc,q⟩:=q;exact Wc (Z1 (T := "StopIteration") (b:=true) ⟨o,ho,hc⟩ isSubtype_stop (We q))
theorem JN{P:Program}{w:World}{A:Around}{E:Value->Shared->Prop}{s:Shared}{z TI TO:Addr}{f0 f1:Value}{Q:Value->Shared->Prop}(hz:bK s.heap z TI TO f0 f1)(h:Q (.ref z) s):wpAny (model P w) A (pyIter (.ref z)) Q E s:=by
 have ty:s.TypeIs (.ref z) "zip":=Exists.intro _ (And.intro hz rfl);refine ZK ty F.slot_zip_iter ?_;refine WX (A:=A) F.slot_zip_iter ty F.entry_zip_iter ?_ (F.args_zip_iter_1 (.ref z));have fine:wpAny (model P w) A.in1 (ret (Value.ref z)) (λfin s'=>∃v,fin=Fin.done (Flow.ret v)/\∃T' r,s'.TypeIs v T'/\typeLookup (Value.type T') (Str.ofString "__next__")=pure (some r)/\Q v s') E s:=
  We (Exists.intro (Value.ref z) (And.intro rfl (Exists.intro "zip" ⟨_,ty,F.slot_zip_next.lookup,h⟩)))
 exact fine
def mH(z TI TO:Addr)(h:Heap):Prop:=∃f0 b,bK h z TI TO f0 (.bool b)/\(f0=.none\/∃p:Addr,f0=rawInt p)
def J7(tg:Expr):Prop:=(∃nm tp,tg=.Name nm tp)\/∃es x1 tp,tg=.Tuple es x1 tp
theorem N6{P:Program}{w:World}{A:Around}{E:Value->Shared->Prop}{s:Shared}{tg:Expr}{z TI TO T:Addr}{f0 f1:Value}{Q:Unit->Shared->Prop}(ht:J7 tg)(hz:bK s.heap z TI TO f0 f1)
  (hQ:∀h' f0',bK h' z TI TO f0' f1->(f0'=f0\/f0'=.none)->Heap.SameBut z s.heap h'->Q () { s with heap:=h' }):wpAny (model P w) A (letOwnedTupleGo tg (.ref z) (.ref T)) Q E s:=by
 have q0:Q () s:=hQ s.heap f0 hz (.inl rfl) (.refl _ _);rcases ht with ⟨nm,tp,rfl⟩ | ⟨es,x1,tp,rfl⟩
 ·exact We q0
 ·unfold letOwnedTupleGo;refine Wc (aan hz ?_);show wpAny _ _ (if (["enumerate", "zip", "dict_itemiterator", "dict_reverseitemiterator", "odict_iterator", "itertools.zip_longest", "itertools.pairwise"].contains "zip"&&(#[f0,f1,.bool false,.ref TI,.ref TO]:Array Value)[0]?==some (rawInt T))=true then _ else _) Q E s
  split
  ·refine Wc (YM ?_);show wpAny _ _ (setField (.ref z) 0 .none) Q E s;exact wpAny_setField_rec hz (by simp) λh' hz' hs'=>hQ h' .none hz' (.inr rfl) hs'
  ·exact We q0
theorem J1{P:Program}{w:World}{K:PySem.W.Frag}{tg:Expr}(ht:J7 tg){b1 b2:Bool}{z TI TO i1 i2 l1 l2:Addr}(D:ZipApart z TI TO i1 i2 l1 l2):
  Turn P w K tg (O9 K b1 b2 l1 l2) [z,TI,TO,i1,i2] z (λi h=>mH z TI TO h/\IsPair h TI (.ref i1) (.ref i2)/\(∃a b,IsPair h TO a b)/\bD b1 i1 l1 i h/\bD b2 i2 l2 i h) where
 mem:=by simp
 obj:=λi h st b hb=>by
  obtain⟨⟨_,_,hz,_⟩,hTI,⟨a,c,hTO⟩,h1,h2⟩:=st;simp only[List.mem_cons,List.mem_nil_iff,or_false]at hb;rcases hb with rfl | rfl | rfl | rfl | rfl
  ·exact⟨_,hz,λv q=>by cases q⟩
  ·exact⟨_,hTI,λv q=>by cases q⟩
  ·exact⟨_,hTO,λv q=>by cases q⟩
  ·exact h1.obj
  ·exact h2.obj
 keep:=λi h h' st k=>by obtain⟨⟨f0,b,hz,hf⟩,hTI,⟨a,c,hTO⟩,h1,h2⟩:=st;exact⟨⟨f0,b,k z (by simp) _ hz,hf⟩,k TI (by simp) _ hTI,⟨a,c,k TO (by simp) _ hTO⟩,h1.keep λo q=>k i1 (by simp) o q,h2.keep λo q=>k i2 (by simp) o q⟩
 item:=by
  intro X hP hw hK hc i aaD s σ H E I hf st hg;subst hP hw hK;obtain⟨⟨f0,b,hz,hf0⟩,hTI,⟨a,c,hTO⟩,h1,h2⟩:=st;obtain⟨xs,ys,x,y,s1,s2,hx,hy⟩:=hg;obtain⟨its1,r1,q1,_⟩:=I.seqS s1;obtain⟨its2,r2,q2,_⟩:=I.seqS s2;obtain⟨u1,e1,ru1⟩:=r1.get hx;obtain⟨u2,e2,ru2⟩:=r2.get hy;obtain⟨oz,hoz⟩:∃oz,s.heap.get? z=some oz/\oz.cls=.type "zip":=⟨_,hz,rfl⟩;have fin:∀ h',mH z TI TO h'->(∃ a b,IsPair h' TO a b)->IsPair h' TI (.ref i1) (.ref i2)->bD b1 i1 l1 (i + 1) h'->bD b2 i2 l2 (i + 1) h'->IsPair h' s.heap.objs.size u1 u2->(∀ c o,c≠z->c≠TO->c≠i1->c≠i2->s.heap.get? c=some o->h'.get? c=some o)->
    ∃v,some (Value.ref s.heap.objs.size)=some v/\wpAny (model X.prog X.w) X.A (letOwnedTupleGo tg (.ref z) v) (λu s2=>∃xv H',Inv X aaD σ H' s2/\RelV xv v/\(O9 X.K b1 b2 l1 l2).yld i H xv H'/\(mH z TI TO s2.heap/\IsPair s2.heap TI (.ref i1) (.ref i2)/\(∃a b,IsPair s2.heap TO a b)/\bD b1 i1 l1 (i+1) s2.heap/\bD b2 i2 l2 (i+1) s2.heap)/\∀b∈[z,TI,TO,i1,i2],H' b=none) E { s with heap:=h' }:=by
   intro h' zs tos tis k1 k2 pr kk0;have lt:z<s.heap.objs.size:=Wj hz;obtain⟨g0,gb,gz,gh⟩:=zs;refine⟨_,rfl,N6 (s:={ s with heap:=h' }) ht gz λh2 g0' gz2 g0h sbt=>?_⟩
   have mv:∀c o,c≠z->h'.get? c=some o->h2.get? c=some o:=λc o hc q=>sbt.extBut _ _ hc q
   have kk0:∀c o,c≠z->c≠TO->c≠i1->c≠i2->s.heap.get? c=some o->h2.get? c=some o:=λc o n1 n2 n3 n4 q=>mv c o n1 (kk0 c o n1 n2 n3 n4 q)
   have zs:mH z TI TO h2:=⟨g0',gb,gz2,g0h.elim (λe=>by rw[e];exact gh) λe=>.inl e⟩
   have tos:∃a b,IsPair h2 TO a b:=by obtain⟨a,b,q⟩:=tos;exact⟨a,b,mv _ _ D.TOz q⟩
   have tis:IsPair h2 TI (.ref i1) (.ref i2):=mv _ _ D.TIz tis;have k1:bD b1 i1 l1 (i+1) h2:=k1.keep λo q=>mv _ _ D.i1z q
   have k2:bD b2 i2 l2 (i+1) h2:=k2.keep λo q=>mv _ _ D.i2z q
   have pr:IsPair h2 s.heap.objs.size u1 u2:=mv _ _ (YT lt) pr;have kk:∀b o,b∉[z,TI,TO,i1,i2]->s.heap.get? b=some o->h2.get? b=some o:=λb o hb q=>kk0 b o (λe=>hb (by simp[e])) (λe=>hb (by simp[e])) (λe=>hb (by simp[e])) (λe=>hb (by simp[e])) q
   have fresh:H s.heap.objs.size=none:=I.hok.fresh (Wg _);have I1:Inv X aaD σ H { s with heap:=h2,toks:=s.toks }:=I.turnedL kk hf (λb hb=>(hf b hb).2.1)
   have nw:ObjOk X.prog X.w (upd H s.heap.objs.size (.tup [x,y])) h2 s.heap.objs.size (.tup [x,y]):=⟨by show 2<=sizeLine;decide,[u1,u2],.cons ru1 (.cons ru2 .nil),⟨_,pr,rfl,_,rfl⟩⟩
   have nfp:∀b∈[z,TI,TO,i1,i2],b≠s.heap.objs.size:=λb hb e=>by
    obtain⟨o,ho,_⟩:∃o,s.heap.get? b=some o/\True:=by
     simp only[List.mem_cons,List.mem_nil_iff,or_false]at hb;rcases hb with rfl | rfl | rfl | rfl | rfl
     ·exact⟨_,hz,trivial⟩
     ·exact⟨_,hTI,trivial⟩
     ·exact⟨_,hTO,trivial⟩
     ·obtain⟨o,q,_⟩:=h1.obj;exact⟨o,q,trivial⟩
     ·obtain⟨o,q,_⟩:=h2.obj;exact⟨o,q,trivial⟩
    exact absurd (Wj ho) (by rw[e];exact XQ _)
   exact⟨.ref s.heap.objs.size,upd H s.heap.objs.size (.tup [x,y]),I.turnedLay (t':=s.toks) kk hf (Wg _) nw,rfl,⟨_,fresh,rfl,λxs' ys' q1' q2'=>⟨x,y,by rw[I.seqS_inj q1' s1];exact hx,by rw[I.seqS_inj q2' s2];exact hy,rfl⟩⟩,⟨zs,tis,tos,k1,k2⟩,λb hb=>by rw[upd_ne (nfp b hb)];exact (hf b hb).1⟩
  have g1:=kY (P:=X.prog) (w:=X.w) b1 D.l1i1 its1.toArray;have g2:=kY (P:=X.prog) (w:=X.w) b2 D.l2i2 its2.toArray;have free:(f0=.none\/∃p:Addr,f0=rawInt p/\s.heap.get? p=none)->wpAny (model X.prog X.w) X.A.in1 (Builtin.«zip.__next__» ⟨[.ref z],[]⟩) (λfin s'=>∃v,fin=.done (.ret v)/\v=.ref s.heap.objs.size/\∃h',s'={ s with heap:=h' }/\mH z TI TO h'/\(∃a b,IsPair h' TO a b)/\bD b1 i1 l1 (i+1) h'/\bD b2 i2 l2 (i+1) h'/\IsPair h' s.heap.objs.size u1 u2/\(∀c o,c≠z->c≠TO->c≠i1->c≠i2->s.heap.get? c=some o->h'.get? c=some o)) (λu u=>False) s:=λhfr=>
   J4 (Q:=λv s'=>v=.ref s.heap.objs.size/\∃h',s'={ s with heap:=h' }/\mH z TI TO h'/\(∃a b,IsPair h' TO a b)/\bD b1 i1 l1 (i+1) h'/\bD b2 i2 l2 (i+1) h'/\IsPair h' s.heap.objs.size u1 u2/\(∀c o,c≠z->c≠TO->c≠i1->c≠i2->s.heap.get? c=some o->h'.get? c=some o)) D g1 g2 hfr hz hTI hTO ⟨h1,q1⟩ ⟨h2,q2⟩ (by simpa using e1) (by simpa using e2)
    λh' a1 a2 a3 a4 a5 a6 a7=>⟨rfl,h',rfl,⟨_,_,a1,.inr ⟨_,rfl⟩⟩,⟨_,_,a2⟩,a3.1,a4.1,a5,a7⟩
  have all:wpAny (model X.prog X.w) X.A.in1 (Builtin.«zip.__next__» ⟨[.ref z],[]⟩) (λfin s'=>∃ v,fin=.done (.ret v)/\v=.ref s.heap.objs.size/\∃ h',s'={ s with heap:=h' }/\mH z TI TO h'/\(∃ a b,IsPair h' TO a b)/\bD b1 i1 l1 (i + 1) h'/\bD b2 i2 l2 (i + 1) h'/\IsPair h' s.heap.objs.size u1 u2/\(∀ c o,c≠z->c≠TO->c≠i1->c≠i2->s.heap.get? c=some o->h'.get? c=some o)) (λu u=>False) s:=by
   rcases hf0 with hn | ⟨p,rfl⟩
   ·exact free (.inl hn)
   ·cases hp:s.heap.get? p with
    |none=>exact free (.inr ⟨p,rfl,hp⟩)
    | some o=>
      exact J5 (Q:=λv s'=>v=.ref s.heap.objs.size/\∃h',s'={ s with heap:=h' }/\mH z TI TO h'/\(∃a b,IsPair h' TO a b)/\bD b1 i1 l1 (i+1) h'/\bD b2 i2 l2 (i+1) h'/\IsPair h' s.heap.objs.size u1 u2/\(∀c o,c≠z->c≠TO->c≠i1->c≠i2->s.heap.get? c=some o->h'.get? c=some o)) D g1 g2 hp hz hTI ⟨h1,q1⟩ ⟨h2,q2⟩ (by simpa using e1) (by simpa using e2)
       λh' a1 a3 a4 a5 a6 a7=>⟨rfl,h',rfl,⟨_,_,a1,.inr ⟨_,rfl⟩⟩,⟨_,_,a7 _ _ D.TOz D.TOi1 D.TOi2 hTO⟩,a3.1,a4.1,a5,λc o n1 u n3 n4 q=>a7 c o n1 n3 n4 q⟩
  refine nA hz (Wx all (λfin' s' q=>?_) λu u q=>q.elim)
  obtain⟨v,rfl,rfl,h',rfl,c1,c2,c3,c4,c5,c6⟩:=q;exact⟨_,rfl,fin h' c1 c2 (c6 _ _ D.TIz D.TITO D.TIi1 D.TIi2 hTI) c3 c4 c5 c6⟩
 done:=by
  intro X hP hw hK hc i aaD s σ H E I hf st hg;subst hP hw hK;obtain⟨⟨f0,b,hz,hf0⟩,hTI,⟨a,c,hTO⟩,h1,h2⟩:=st;obtain⟨xs,ys,s1,s2,hend⟩:=hg;obtain⟨its1,r1,q1,_⟩:=I.seqS s1;obtain⟨its2,r2,q2,_⟩:=I.seqS s2;have hend':its1.toArray[i]?=none\/its2.toArray[i]?=none:=hend.imp (λq=>by simpa using r1.none_of q) λq=>by simpa using r2.none_of q
  have g1:=kY (P:=X.prog) (w:=X.w) b1 D.l1i1 its1.toArray;have g2:=kY (P:=X.prog) (w:=X.w) b2 D.l2i2 its2.toArray;have hh:X.A.in1.handled=none:=I.ok.hd hc;have out:∀h' e,(∀c o,c≠z->c≠TO->c≠i1->c≠i2->s.heap.get? c=some o->h'.get? c=some o)->(∃o,h'.get? e=some o/\o.cls=.type "StopIteration")->∃o ea,Value.ref e=.ref ea/\({ s with heap:=h' }:Shared).heap.get? ea=some o/\o.cls=.type "StopIteration"/\(none:Option Value)=none/\Inv X aaD σ H { s with heap:=h' }:=λh' e kk he=>by obtain⟨o,ho,hco⟩:=he;exact⟨o,e,rfl,ho,hco,rfl,I.turnedL (t':=s.toks) (λb o hb q=>kk b o (λe=>hb (by simp[e])) (λe=>hb (by simp[e])) (λe=>hb (by simp[e])) (λe=>hb (by simp[e])) q) hf (λb hb=>(hf b hb).2.1)⟩
  have free:(f0=.none\/∃p:Addr,f0=rawInt p/\s.heap.get? p=none)->wpAny (model X.prog X.w) X.A (pyNext (.ref z)) (λr s1=>r=none/\Inv X aaD σ H s1) E s:=λhfr=>
   nA hz (Lx hh D g1 g2 hfr hz hTI hTO ⟨h1,q1⟩ ⟨h2,q2⟩ hend' out)
  rcases hf0 with hn | ⟨p,rfl⟩
  ·exact free (.inl hn)
  ·cases hp:s.heap.get? p with
   |none=>exact free (.inr ⟨p,rfl,hp⟩)
   |some o=>exact nA hz (Ly hh D g1 g2 hp hz hTI ⟨h1,q1⟩ ⟨h2,q2⟩ hend' out)
 self:=λu u u u u st h=>by obtain⟨⟨_,_,hz,_⟩,_⟩:=st;exact JN hz h
set_option tactic.hygienic true in
theorem Am(l:Addr)(xs:Array Value):
  Meets (Builtin.«enumerate.__new__» ⟨[.type "enumerate",.ref l],[]⟩) (λz R s=>IsTup s.heap l xs /\
   R (.ok (.ret (.ref (sZ s.heap "tuple_iterator" l).objs.size))) { s with heap:=(sZ s.heap "tuple_iterator" l).push { cls:=.type "enumerate",data:=.fields #[.none,.bool false,.ref s.heap.objs.size,rawInt 0,.none,.none] } }):=
 .of_wp λprog w A R s h=>by
  obtain⟨hp,gn,dr,tk,os⟩:=s;obtain⟨k1,h⟩:=h;have hsub:=sub_enumerate;have K1:IsTup (Shared.heap ⟨hp,gn,dr,tk,os⟩) l xs:=k1;obtain⟨ot,hot,r⟩:=id K1
  wp_walk using Zv hot
  refine wpAny_stack_any λsk=>We ?_
  split
  ·rename_i c _ _ _ _ _;cases (c==Value.type "enumerate")<;>(wp_walk using Zv hot,ZF K1;exact⟨_,rfl,h⟩)
  ·wp_walk using Zv hot,ZF K1
   exact⟨_,rfl,h⟩
section
variable{P:Program}{w:World}{A:Around}{E:Value->Shared->Prop}{s:Shared}{e it l:Addr}{xs:Array Value}{st:Nat->Heap->Prop}
theorem vP(k1:fV b s.heap l xs)
  (h:∀h',IsEnum h' (s.heap.objs.size+1) s.heap.objs.size 0 .none->tH b s.heap.objs.size l xs 0 h'->h'.objs.size=s.heap.objs.size+2->(∀c o,s.heap.get? c=some o->h'.get? c=some o)->Q (.ref (s.heap.objs.size+1)) { s with heap:=h' }) :
  wpAny (model P w) A (call (.type "enumerate") [.ref l]) Q E s:=by
 cases b with
 |false=>exact call_enumerate_list (show s.heap.IsList l xs from k1) λh' a1 a2 a3 a4=>h h' a1 ⟨a2,k1.keep λo q=>a4 _ _ q⟩ a3 a4
 |true=>
   refine Zt F.called_enumerate (by decide) (F.typeCall_enumerate_1 _) (F.newCall_enumerate_1 _) (λobj=>F.args_object_init_2 obj _) F.entry_enumerate_new (Am l xs) ⟨k1,?_⟩
   have z1:(sZ s.heap "tuple_iterator" l).objs.size=s.heap.objs.size+1:=WM ..
   have up:∀c o,s.heap.get? c=some o->((sZ s.heap "tuple_iterator" l).push { cls:=.type "enumerate",data:=.fields #[.none,.bool false,.ref s.heap.objs.size,rawInt 0,.none,.none] }).get? c=some o:=λc o q=>Wd _ (Wd _ q)
   have q2:((sZ s.heap "tuple_iterator" l).push { cls:=.type "enumerate",data:=.fields #[.none,.bool false,.ref s.heap.objs.size,rawInt 0,.none,.none] }).get? (sZ s.heap "tuple_iterator" l).objs.size=some _:=Wl _ rfl;have q1:((sZ s.heap "tuple_iterator" l).push { cls:=.type "enumerate",data:=.fields #[.none,.bool false,.ref s.heap.objs.size,rawInt 0,.none,.none] }).get? s.heap.objs.size=some _:=Wd _ (Wl _ rfl);show _/\_;rw[z1]at q2 ⊢
   exact⟨⟨_,q2,rfl⟩,h _ q2 ⟨⟨_,q1,rfl,rfl⟩,k1.keep λo q=>up _ _ q⟩ (by rw[WM,z1]) up⟩
theorem Fv{i:Nat}{Q:Value->Shared->Prop}(S:SubIt P w it l xs st)(ne:e≠it)(nl:l≠e)(he:IsEnum s.heap e it i old)(h0:st i s.heap)(hx:xs[i]?=some x)
  (hQ:∀h',IsEnumOut h' e it ((i:Int)+1) x s.heap.objs.size->st (i+1) h'->IsPair h' s.heap.objs.size (.int i s.toks) x->h'.objs.size=s.heap.objs.size+1->
    (∀c o,c≠e->c≠it->s.heap.get? c=some o->h'.get? c=some o)->Q (.ref s.heap.objs.size) { s with heap:=h',toks:=s.toks+1 }) :
  wpAny (model P w) A (Builtin.«enumerate.__next__» ⟨[.ref e],[]⟩) (λfin s'=>∃v,fin=.done (.ret v)/\Q v s') E s:=by
 obtain⟨hp,gn,dr,tk,os⟩:=s;show wpAny _ _ (field (.ref e) 2>>=λz=>_) _ _ _
 refine Wc (W9 he rfl (x:=.ref it) rfl (show _ from ?_))
 refine Wc (S.item _ i _ x _ _ h0 hx λg1 n1 e1=>(show _ from ?_))
 replace e1:Heap.SameBut it hp g1:=e1;have c1:IsEnum g1 e it i old:=e1.extBut _ _ ne he;show wpAny _ _ (field (.ref e) 3>>=λz=>_) _ _ ⟨g1,gn,dr,tk,os⟩
 refine Wc (W9 c1 rfl (x:=rawInt i) rfl (show _ from ?_))
 show wpAny _ _ (field (.ref e) 4>>=λz=>_) _ _ ⟨g1,gn,dr,tk,os⟩
 refine Wc (W9 c1 rfl (x:=.none) rfl (show _ from ?_))
 show wpAny _ _ (mkInt i>>=λz=>_) _ _ ⟨g1,gn,dr,tk,os⟩
 refine Wc (wpAny_mkInt (show _ from ?_))
 show wpAny _ _ (setField (.ref e) 3 (rawInt ((i:Int)+1))>>=λz=>_) _ _ ⟨g1,gn,dr,tk+1,os⟩
 refine Wc (wpAny_setField_rec c1 (by simp) λg2 c2 e2=>?_)
 replace e2:Heap.SameBut e g1 g2:=e2;replace c2:IsEnum g2 e it ((i:Int)+1) old:=c2;show wpAny _ _ (setField (.ref e) 4 .none>>=λz=>_) _ _ ⟨g2,gn,dr,tk+1,os⟩
 refine Wc (wpAny_setField_rec c2 (by simp) λg3 c3 e3=>?_)
 replace e3:Heap.SameBut e g2 g3:=e3;replace c3:IsEnum g3 e it ((i:Int)+1) old:=c3;show wpAny _ _ (newTuple [.int i tk,x]>>=λz=>_) _ _ ⟨g3,gn,dr,tk+1,os⟩
 refine Wc (wpAny_newTuple (show _ from ?_))
 have c4:IsEnum (g3.push { cls:=.type "tuple",data:=.seq #[.int i tk,x] }) e it ((i:Int)+1) old:=Wd _ c3;have sz:g3.objs.size=hp.objs.size:=by rw[e3.1,e2.1,e1.1]
 have el:e<hp.objs.size:=Wj he;have t4:IsPair (g3.push { cls:=.type "tuple",data:=.seq #[.int i tk,x] }) hp.objs.size (.int i tk) x:=by rw[<-sz];exact Wl _ rfl
 have z4:(g3.push { cls:=.type "tuple",data:=.seq #[.int i tk,x] }).objs.size=hp.objs.size+1:=by rw[WM,sz]
 have k4:∀c o,c≠e->c≠it->hp.get? c=some o->(g3.push { cls:=.type "tuple",data:=.seq #[.int i tk,x] }).get? c=some o:=λc o a1 a2 q=>Wd _ (e3.extBut _ _ a1 (e2.extBut _ _ a1 (e1.extBut _ _ a2 q)))
 have n4:st (i+1) (g3.push { cls:=.type "tuple",data:=.seq #[.int i tk,x] }):=S.keep _ _ _ n1 (λo q=>Wd _ (e3.extBut _ _ ne.symm (e2.extBut _ _ ne.symm q))) λo q=>Wd _ (e3.extBut _ _ nl (e2.extBut _ _ nl q))
 revert c4 t4 z4 k4 n4;generalize g3.push { cls:=.type "tuple",data:=.seq #[.int i tk,x] }=g4;intro c4 t4 z4 k4 n4;show wpAny _ _ (Builtin.SmallTypes.ownedTupleIsFree (.ref e)>>=λz=>_) _ _ ⟨g4,gn,dr,tk+1,os⟩
 rw[sz];refine Wc ?_;unfold Builtin.SmallTypes.ownedTupleIsFree;refine Wc (W9 c4 rfl (x:=.none) rfl (We (show _ from ?_)))
 simp only[if_true];refine Wc (YM (show _ from ?_))
 refine Wc (W9 c4 rfl (x:=old) rfl (show _ from ?_))
 refine Wc (wpAny_setField_rec c4 (by simp) λg5 c5 e5=>?_)
 replace e5:Heap.SameBut e g4 g5:=e5;replace c5:IsEnum g5 e it ((i:Int)+1) x:=c5;show wpAny _ _ (Builtin.SmallTypes.ownedTupleHandOut (.ref e) (.ref hp.objs.size)>>=λz=>_) _ _ ⟨g5,gn,dr,tk+1,os⟩
 refine Wc ?_;unfold Builtin.SmallTypes.ownedTupleHandOut;refine Wc (wpAny_setField_rec c5 (by simp) λg6 c6 e6=>?_)
 replace e6:Heap.SameBut e g5 g6:=e6;replace c6:IsEnumOut g6 e it ((i:Int)+1) x hp.objs.size:=c6;refine wpAny_setField_rec c6 (by simp) λg7 c7 e7=>?_
 replace e7:Heap.SameBut e g6 g7:=e7;replace c7:IsEnumOut g7 e it ((i:Int)+1) x hp.objs.size:=c7;have up:∀c o,c≠e->g4.get? c=some o->g7.get? c=some o:=λc o a1 q=>e7.extBut _ _ a1 (e6.extBut _ _ a1 (e5.extBut _ _ a1 q))
 refine Wc (wpAny_letGo (We ⟨_,rfl,hQ g7 c7 ?_ (up _ _ (YT el) t4) (by rw[e7.1,e6.1,e5.1,z4]) λc o a1 a2 q=>up _ _ a1 (k4 _ _ a1 a2 q)⟩))
 exact S.keep _ _ _ n4 (λo q=>up _ _ ne.symm q) λo q=>up _ _ nl q
theorem Bk{i:Nat}{Q:Option Value->Shared->Prop}(S:SubIt P w it l xs st)(ne:e≠it)(nl:l≠e)(he:IsEnum s.heap e it i old)(h0:st i s.heap)(hx:xs[i]?=some x)
  (hQ:∀h',IsEnumOut h' e it ((i:Int)+1) x s.heap.objs.size->st (i+1) h'->IsPair h' s.heap.objs.size (.int i s.toks) x->h'.objs.size=s.heap.objs.size+1->
    (∀c o,c≠e->c≠it->s.heap.get? c=some o->h'.get? c=some o)->Q (some (.ref s.heap.objs.size)) { s with heap:=h',toks:=s.toks+1 }):wpAny (model P w) A (pyNext (.ref e)) Q E s:=by
 have T:s.TypeIs (.ref e) "enumerate":=⟨_,he,rfl⟩;unfold pyNext;exact Wc (Yu (W7 (name:=Str.ofString "__next__") T Za (WX Za T F.entry_enumerate_next (Fv S ne nl he h0 hx λh' a b c d k=>We (hQ h' a b c d k)) (F.args_enumerate_next_1 _))))
theorem Bj{i:Nat}{Q:Option Value->Shared->Prop}(hh:A.handled=none)(S:SubIt P w it l xs st)(he:IsEnum s.heap e it i old)(h0:st i s.heap)(hx:xs[i]?=none)
  (hQ:∀h',Heap.ExtBut it s.heap h'->Q none { s with heap:=h' }):wpAny (model P w) A (pyNext (.ref e)) Q E s:=by
 have T:s.TypeIs (.ref e) "enumerate":=⟨_,he,rfl⟩;unfold pyNext;refine Wc (Yu (W7 (name:=Str.ofString "__next__") T Za (WX Za T F.entry_enumerate_next (show _ from ?_) (F.args_enumerate_next_1 _))))
 show wpAny _ _ (field (.ref e) 2>>=λz=>_) _ _ _
 refine Wc (W9 he rfl (x:=.ref it) rfl (show _ from ?_))
 refine Wc (S.done _ i _ _ _ (show A.in1.handled=none from hh) h0 hx λh' y e1 hy=>?_)
 obtain⟨o,ho,hc⟩:=hy;exact Wc (Z1 (T := "StopIteration") (b:=true) ⟨o,ho,hc⟩ isSubtype_stop (We (hQ _ e1)))
end
def O8(K:PySem.W.Frag)(b:Bool)(l:Addr):It:=
 ⟨fun i H=>∃xs x,lw b K H l xs∧xs[i]?=some x,
  λi H v H'=>∃p,H p=none/\v=.ref p/\∀xs,lw b K H l xs->∃x,xs[i]?=some x/\H'=upd H p (.tup [.int (i:Int),x]),
  λi H=>∃xs,lw b K H l xs/\xs[i]?=none⟩
theorem yP{P:Program}{w:World}{K:PySem.W.Frag}{elts:List Expr}{x1}{tp:Pos}{b:Bool}{e it l:Addr}(ne:e≠it)(nl:l≠e)(ni:l≠it):
  Turn P w K (.Tuple elts x1 tp) (O8 K b l) [e,it] e (λi h=>(∃old,IsEnum h e it i old)/\bD b it l i h) where
 mem:=by simp
 obj:=λi h st c hc=>by
  obtain⟨⟨old,he⟩,h1⟩:=st;simp only[List.mem_cons,List.mem_nil_iff,or_false]at hc;rcases hc with rfl | rfl
  ·exact⟨_,he,λv q=>by cases q⟩
  ·exact h1.obj
 keep:=λi h h' st k=>by obtain⟨⟨old,he⟩,h1⟩:=st;exact⟨⟨old,k e (by simp) _ he⟩,h1.keep λo q=>k it (by simp) o q⟩
 item:=by
  intro X hP hw hK hc i aaD s σ H E I hf st hg;subst hP hw hK;obtain⟨⟨old,he⟩,h1⟩:=st;obtain⟨xs,x,s1,hx⟩:=hg;obtain⟨its1,r1,q1,_⟩:=I.seqS s1;obtain⟨u1,e1,ru1⟩:=r1.get hx;refine Bk (kY b ni its1.toArray) ne nl he ⟨h1,q1⟩ (by simpa using e1) λh' a1 a2 a3 a4 a5=>⟨_,rfl,wpAny_letOwnedTupleGo_enum a1 λh2' he' hs'=>?_⟩
  have lt:e<s.heap.objs.size:=Wj he;have kk:∀c o,c∉[e,it]->s.heap.get? c=some o->h2'.get? c=some o:=λc o hb q=>hs'.extBut _ _ (λz=>hb (by simp[z])) (a5 c o (λz=>hb (by simp[z])) (λz=>hb (by simp[z])) q)
  have fresh:H s.heap.objs.size=none:=I.hok.fresh (Wg _);have pr:IsPair h2' s.heap.objs.size (.int i s.toks) u1:=hs'.extBut _ _ (YT lt) a3;have nw:ObjOk X.prog X.w (upd H s.heap.objs.size (.tup [.int (i:Int),x])) h2' s.heap.objs.size (.tup [.int (i:Int),x]):=⟨by show 2<=sizeLine;decide,[.int i s.toks,u1],.cons ⟨_,rfl⟩ (.cons ru1 .nil),⟨_,pr,rfl,_,rfl⟩⟩
  have nfp:∀c∈[e,it],c≠s.heap.objs.size:=λc hc z=>by
   obtain⟨o,ho⟩:∃o,s.heap.get? c=some o:=by
    simp only[List.mem_cons,List.mem_nil_iff,or_false]at hc;rcases hc with rfl | rfl
    ·exact⟨_,he⟩
    ·obtain⟨o,q,_⟩:=h1.obj;exact⟨o,q⟩
   exact absurd (Wj ho) (by rw[z];exact XQ _)
  refine⟨.ref s.heap.objs.size,upd H s.heap.objs.size (.tup [.int (i:Int),x]),?_,rfl,⟨_,fresh,rfl,λxs' q1'=>⟨x,by rw[I.seqS_inj q1' s1];exact hx,rfl⟩⟩,⟨⟨_,he'⟩,(show bD b it l (i+1) h' from a2.1).keep λo q=>hs'.extBut _ _ ne.symm q⟩,λc hc=>by rw[upd_ne (nfp c hc)];exact (hf c hc).1⟩
  exact I.turnedLay (t':=s.toks+1) kk hf (Wg _) nw
 done:=by
  intro X hP hw hK hc i aaD s σ H E I hf st hg;subst hP hw hK;obtain⟨⟨old,he⟩,h1⟩:=st;obtain⟨xs,s1,hend⟩:=hg;obtain⟨its1,r1,q1,_⟩:=I.seqS s1;refine Bj (I.ok.hd hc) (kY b ni its1.toArray) he ⟨h1,q1⟩ (by simpa using r1.none_of hend) λh' e1=>?_
  exact⟨rfl,I.turnedL (t':=s.toks) (λc o hb q=>e1 _ _ (λz=>hb (by simp[z])) q) hf (λc hc=>(hf c hc).2.1)⟩
 self:=λy y y y y st h=>by obtain⟨⟨old,he⟩,_⟩:=st;exact wpAny_pyIter_enum he h
theorem Ez:bootBuiltins "list"=some (.type "list"):=by decide +kernel
theorem sU:∀ (vs:List Value) (k:Nat),(∀ (j:Nat) v,vs[j]?=some v->∃ t,v=.int ((k + j:Nat):Int) t)->Vals ((List.range' k vs.length).map λi:Nat=>V.int (i:Int)) vs
 |[],k,_=>.nil
 | v::vs,k,h=>by
   have h0:=h 0 v rfl;have ih:=sU vs (k+1) λj u e=>by
    have:=h (j+1) u (by simpa using e)
    rw[show k+1+j=k+(j+1) by lia];exact this
   rw[Xv,List.range'_succ,W0];exact .cons h0 ih
section
variable{X:Cx}
def Ud(ta:TA):TE:=λσ H Q=>ta σ H λvs H1=>∃j:Int,vs=[.int j]/\j<=2^20/\-(2^62)<=j/\∀l,H1 l=none->Q (.ref l) (upd H1 l (.lst ((List.range j.toNat).map λi:Nat=>V.int (i:Int))))
theorem yH(hc:X.calm=true)(hgL:Gl X "list")(hmL:X.mg "list"=none)(hg:Gl X "range")(hm:X.mg "range"=none)(ha:PA X [a] ta)(hs:notStar a=true:=by rfl):
  PE X (.Call (.Name "list" p1) [.Call (.Name "range" p2) [a] [] pos2] [] pos1) (Ud ta):=by
 intro aaD s σ H Q I h;have hst:starEach [Expr.Call (.Name "range" p2) [a] [] pos2] X.env=(false,eval (.Call (.Name "range" p2) [a] [] pos2) X.env)::starEach [] X.env:=aW rfl;refine Call_ (ld_blt I hgL hmL Ez (Xe ?_ hst rfl));rw[hst];show wpAny _ _ (spliced ((false,eval (.Call (.Name "range" p2) [a] [] pos2) X.env)::[])) _ _ s;refine aah ?_;refine Call_ (ld_blt I hg hm boot_range (Xe (thn (ha pos2 aaD s σ H _ I h) λus s1 ⟨vs,H1,I1,r1,q1⟩=>?_) (aW hs) rfl))
 obtain⟨j,e,q1,q2,q⟩:=q1;subst e;cases r1 with
 | cons r rr=>
   cases rr;obtain⟨t,rfl⟩:=r;refine call_range_1 ?_;refine aam ?_;have rs:Builtin.Range.rangeSize 0 j 1=((j.toNat:Nat):Int):=by rw[rangeSize_one];split<;>lia
   refine call_list_range (n:=j.toNat) (I1.ok.hd hc) (IsRange.new ..) (small_one (by lia) (by lia) q2 (by lia)) rs (by lia) λh' tk acc c k1 k2 k3=>?_
   have vl:Vals ((List.range j.toNat).map λi:Nat=>V.int (i:Int)) acc.toList:=by
    have:=sU acc.toList 0 λi v e=>by
     obtain⟨t,rfl⟩:=k3.2 i v (by simpa using e)
     exact⟨t,by congr 1;lia⟩
    rw[YQ];rw[show acc.toList.length=j.toNat by simpa using k3.1]at this
    exact this
   refine⟨.ref _,upd H1 _ (.lst ((List.range j.toNat).map λi:Nat=>V.int (i:Int))),?_,rfl,q _ (I1.hok.fresh ?_)⟩
   ·refine I1.turnedLay (ch:=[]) (t':=tk) (λb o z e=>k1 b o (Wd _ e)) (λb hb=>nomatch hb) ?_ ⟨?_,acc.toList,c,vl,k2⟩
    ·rw[WM];lia
    ·rw[Wh,WT];show _<=2^24;lia
   ·rw[WM];lia
end
end L2
namespace L2
open PySem PySem.Spec PyProof.Rows
open PySem.AutoSeq1 (wpAny_loadPart')
section
variable{prog:Program}{w:World}{A:Around}{E:Value->Shared->Prop}{s:Shared}
theorem yS{Q:List Value->Shared->Prop}(r:Addr){a b c:Int}{n:Nat}(hh:A.handled=none)(hr:IsRange s.heap r a b c t u v)(sm:Builtin.Range.small a b c=true)(hn:Builtin.Range.rangeSize a b c=n)(hl:n<=2 ^ 24)
  (hQ:∀(h':Heap) (tk:Nat) (acc:Array Value),(∀b o',s.heap.get? b=some o'->h'.get? b=some o')->s.heap.objs.size<=h'.objs.size->ItemsOf (λi v=>∃t,v=.int (a+i*c) t) acc n->Q acc.toList { s with heap:=h',toks:=tk }) :
  wpAny (model prog w) A (collect (.ref r)) Q E s:=by
 unfold collect;refine Wc (aay (Y6 Z3 ?_));rw[Yq Z4 _];show wpAny _ A.in1 (newList []>>=λl=>again (.builtin "list.__iadd__" ⟨[l,.ref r],[]⟩)) _ _ s
 refine Wc (WW ?_);refine We ⟨aal YL _,Y6 F.entry_list_iadd ?_⟩;rw[Yq YL _];show wpAny _ A.in1 (Builtin.List.listExtendWith (.ref s.heap.objs.size) (.ref r) (.ref s.heap.objs.size)) _ _ _;have hS:(s.heap.push { cls:=.type "list",data:=.seq ([]:List Value).toArray }).get? s.heap.objs.size=some { cls:=.type "list",data:=.seq #[] 0 }:=Wl _ rfl;have fin':∀ h' tk acc c',(∀ b o,b≠s.heap.objs.size->(s.heap.push { cls:=.type "list",data:=.seq ([]:List Value).toArray }).get? b=some o->h'.get? b=some o)->h'.get? s.heap.objs.size=some { cls:=.type "list",dict:=none,data:=.seq acc c',slots:=#[] }->ItemsOf (λi v=>∃ t,v=.int (a + i * c) t) acc n->
   wpAny (model prog w) A (match Value.ref s.heap.objs.size with
   | Value.ref a=>do
     match (<-load a).data with
      |Data.seq xs _=>pure xs.toList
      |_=>unsupported "internal:collect"
   |_=>unsupported "internal:collect") Q E { s with heap:=h',toks:=tk }:=λh' tk acc c' k1 k2 k3=>by
  show wpAny _ A (load s.heap.objs.size>>=_) _ _ _;refine Wc (aan k2 (We ?_));exact hQ h' tk acc (λb o e=>k1 b o (Wu (Wj e)) (Wd _ e)) (Yr (Wj k2)) k3
 refine Wx (wpAny_extend_range (A:=A) (R:=λx s'=>x=.ok (.ret (.ref s.heap.objs.size))/\wpAny (model prog w) A (match Value.ref s.heap.objs.size with
   | Value.ref a=>do
     match (<-load a).data with
      |Data.seq xs _=>pure xs.toList
      |_=>unsupported "internal:collect"
   |_=>unsupported "internal:collect") Q E s')
  (s:={ s with heap:=s.heap.push { cls:=.type "list",data:=.seq ([]:List Value).toArray } }) hh (Wd _ hr) sm hn hl s.heap.objs.size _ 0 hS (λh' tk acc c' k1 k2 k3=>⟨rfl,fin' h' tk acc c' k1 k2 k3⟩)) (λfin s' h=>?_) (λe s' h=>?_)
 ·cases fin with
  |done f=>obtain⟨e,q⟩:=h;cases e;exact q
  |again c'=>exact⟨h.1,Ze h.2 λx s'' hx=>by obtain⟨rfl,q⟩:=hx;exact q⟩
 ·exact absurd h.1 (by simp)
end
theorem uq(r:Addr)(a b c:Int)(t u v:Tok)(n:Nat)(sm:Builtin.Range.small a b c=true)(hn:Builtin.Range.rangeSize a b c=n)(hl:n<=2 ^ 24):
  Meets (Builtin.«tuple.__new__» ⟨[.type "tuple",.ref r],[]⟩)
   (λA R s=>A.handled=none/\IsRange s.heap r a b c t u v/\∀(h':Heap) (tk:Nat) (acc:Array Value),(∀b o',s.heap.get? b=some o'->h'.get? b=some o')->s.heap.objs.size<=h'.objs.size->ItemsOf (λi v=>∃t,v=.int (a+i*c) t) acc n->R (.ok (.ret (.ref h'.objs.size))) { s with heap:=h'.push { cls:=.type "tuple",data:=.seq acc },toks:=tk }):=
 .of_wp λprog w A R s h=>by
  obtain⟨hp,g,d,tk,os⟩:=s;obtain⟨hh,hr,h⟩:=h;have hsub:=sub_tuple_self;have hinit:=init_tuple_lookup;have hmh:=madeHere_tuple;have hT:Shared.TypeIs ⟨hp,g,d,tk,os⟩ (.ref r) "range":=⟨_,hr,rfl⟩;have hh':A.in1.handled=none:=hh
  wp_walk using wpAny_loadPart' hr,Zd hT,yS (A:=A.in1) (s:=⟨hp,g,d,tk,os⟩) r hh' hr sm hn hl
  intro h' tk' acc hk hz hi;show wpAny _ _ (Builtin.Tuple.tupleExact acc.toList.toArray>>=λv=>ret v) _ _ _
  unfold Builtin.Tuple.tupleExact;have e:acc.toList.toArray=acc:=by simp
  rw[e];refine Wc (WW ?_ (by show acc.size<=sizeLine;rw[hi.1];exact hl))
  exact We ⟨_,rfl,h h' tk' acc hk hz hi⟩
open PySem PySem.Spec PyProof.Rows
theorem uP{E:Value->Shared->Prop}{Q:Value->Shared->Prop}{a b c:Int}{n:Nat}(hh:A.handled=none)(hr:IsRange s.heap r a b c t u v)(sm:Builtin.Range.small a b c=true)(hn:Builtin.Range.rangeSize a b c=n)(hl:n<=2^24)
  (hQ:∀(h':Heap) (tk:Nat) (acc:Array Value),(∀b o',s.heap.get? b=some o'->h'.get? b=some o')->s.heap.objs.size<=h'.objs.size->ItemsOf (λi v=>∃t,v=.int (a+i*c) t) acc n->Q (.ref h'.objs.size) { s with heap:=h'.push { cls:=.type "tuple",data:=.seq acc },toks:=tk }) :
  wpAny (model prog w) A (call (.type "tuple") [.ref r]) Q E s:=
 Zt F.called_tuple (by decide) (F.typeCall_tuple_1 _) (F.newCall_tuple_1 _) (λobj=>F.args_object_init_2 obj _) F.entry_tuple_new (uq r a b c t u v n sm hn hl)
  ⟨hh,hr,λh' tk acc k z i=>⟨⟨_,Wl _ rfl,rfl⟩,hQ h' tk acc k z i⟩⟩
theorem Cy:bootBuiltins "tuple"=some (.type "tuple"):=by decide +kernel
section
variable{X:Cx}
def Ue(ta:TA):TE:=λσ H Q=>ta σ H λvs H1=>∃j:Int,vs=[.int j]/\j<=2^20/\-(2^62)<=j/\∀l,H1 l=none->Q (.ref l) (upd H1 l (.tup ((List.range j.toNat).map λi:Nat=>V.int (i:Int))))
theorem Ji(hc:X.calm=true)(hgL:Gl X "tuple")(hmL:X.mg "tuple"=none)(hg:Gl X "range")(hm:X.mg "range"=none)(ha:PA X [a] ta)(hs:notStar a=true:=by rfl):
  PE X (.Call (.Name "tuple" p1) [.Call (.Name "range" p2) [a] [] pos2] [] pos1) (Ue ta):=by
 intro aaD s σ H Q I h;have hst:starEach [Expr.Call (.Name "range" p2) [a] [] pos2] X.env=(false,eval (.Call (.Name "range" p2) [a] [] pos2) X.env)::starEach [] X.env:=aW rfl;refine Call_ (ld_blt I hgL hmL Cy (Xe ?_ hst rfl));rw[hst];show wpAny _ _ (spliced ((false,eval (.Call (.Name "range" p2) [a] [] pos2) X.env)::[])) _ _ s;refine aah ?_;refine Call_ (ld_blt I hg hm boot_range (Xe (thn (ha pos2 aaD s σ H _ I h) λus s1 ⟨vs,H1,I1,r1,q1⟩=>?_) (aW hs) rfl))
 obtain⟨j,e,q1,q2,q⟩:=q1;subst e;cases r1 with
 | cons r rr=>
   cases rr;obtain⟨t,rfl⟩:=r;refine call_range_1 ?_;refine aam ?_;have rs:Builtin.Range.rangeSize 0 j 1=((j.toNat:Nat):Int):=by rw[rangeSize_one];split<;>lia
   refine uP (n:=j.toNat) (I1.ok.hd hc) (IsRange.new ..) (small_one (by lia) (by lia) q2 (by lia)) rs (by lia) λh' tk acc k1 k2 k3=>?_
   rw[WM]at k2;have vl:Vals ((List.range j.toNat).map λi:Nat=>V.int (i:Int)) acc.toList:=by
    have:=sU acc.toList 0 λi v e=>by
     obtain⟨t,rfl⟩:=k3.2 i v (by simpa using e)
     exact⟨t,by congr 1;lia⟩
    rw[YQ];rw[show acc.toList.length=j.toNat by simpa using k3.1]at this
    exact this
   refine⟨.ref _,upd H1 h'.objs.size (.tup ((List.range j.toNat).map λi:Nat=>V.int (i:Int))),?_,rfl,q _ (I1.hok.fresh (by lia))⟩
   refine I1.turnedLay (ch:=[]) (t':=tk) (λb o z e=>Wd _ (k1 b o (Wd _ e))) (λb hb=>nomatch hb) (by lia) ⟨?_,acc.toList,vl,?_⟩
   ·rw[Wh,WT];show _<=2^24;lia
   ·have:=aau h' acc;simpa using this
end
end L2
namespace LS
open PySem
def zJ(xs:Array Nat):Prop:=xs.toList.Pairwise (·< ·)
theorem zJ.lt{xs:Array Nat}(h:zJ xs){a b:Nat}(hab:a<b)(hb:b<xs.size):xs[a]<xs[b]:=by
 have:=aap.mp h a b (by simpa using Zz hab hb) (by simpa using hb) hab
 simpa using this
structure Bel(xs:Array Nat)(j r:Nat):Prop where
 le:r<=xs.size
 lo:∀k (hk:k<xs.size),k<r->xs[k]<j
 hi:∀k (hk:k<xs.size),r<=k->j<=xs[k]
theorem uO{xs:Array Nat}{j:Nat}(h:zJ xs):∀ (fuel lo hi:Nat),hi - lo<=fuel->lo<=hi->hi<=xs.size->(∀ k (hk:k<xs.size),k<lo->xs[k]<j)->(∀ k (hk:k<xs.size),hi<=k->j<=xs[k])->Bel xs j (SetTable.below.go xs j fuel lo hi)
 |0,lo,hi,hf,hl,hs,h1,h2=>by
   unfold SetTable.below.go;have:lo=hi:=by lia
   subst this;exact⟨hs,h1,h2⟩
 | fuel + 1,lo,hi,hf,hl,hs,h1,h2=>by
   unfold SetTable.below.go;by_cases c:lo<hi
   ·rw[Wm c];dsimp only;have hm:(lo+hi) / 2<hi:=by lia
    have hm':lo<=(lo+hi) / 2:=by lia
    generalize (lo+hi) / 2=mid at hm hm';have hms:mid<xs.size:=by lia
    have e:xs.getD mid j=xs[mid]:=by rw[Array.getD_eq_getD_getElem?,XD hms];rfl
    rw[e];by_cases c2:xs[mid]<j
    ·rw[Wm c2];refine uO h fuel (mid+1) hi (by lia) (by lia) hs (λk hk hkm=>?_) h2
     by_cases q:k=mid
     ·subst q;exact c2
     ·have:=h.lt (show k<mid by lia) hms;lia
    ·rw[Wr c2];refine uO h fuel lo mid (by lia) hm' (by lia) h1 (λk hk hkm=>?_)
     by_cases q:k=mid
     ·subst q;lia
     ·have:=h.lt (show mid<k by lia) hk;lia
   ·rw[Wr c];have:lo=hi:=by lia
    subst this;exact⟨hs,h1,h2⟩
theorem yp{xs:Array Nat}(h:zJ xs)(j:Nat):Bel xs j (SetTable.below xs j):=by unfold SetTable.below;exact uO h xs.size 0 xs.size (by lia) (by lia) (Wg _) (λk hk z=>by lia) (λk hk z=>by lia)
theorem Ew{xs:Array Nat}(h:zJ xs):SetTable.below xs 0=0:=by
 have b:=yp h 0;generalize SetTable.below xs 0=r at b;rcases Yl r with c | c
 ·exact c
 ·have:=b.le;have:=b.lo 0 (by lia) c
  lia
theorem Eu{xs:Array Nat}(h:zJ xs){i:Nat}(hi:i<xs.size):SetTable.below xs (xs[i]+1)=i+1:=by
 have b:=yp h (xs[i]+1);generalize SetTable.below xs (xs[i]+1)=r at b;have ble:=b.le;rcases Nat.lt_trichotomy r (i+1) with c | c | c
 ·have:=b.hi i hi (by lia)
  lia
 ·exact c
 ·have l:=b.lo (i+1) (by lia) c
  have:=h.lt (show i<i+1 by lia) (show i+1<xs.size by lia)
  lia
structure TI(L:Bool)(t:SetTable):Prop where
 ris:zJ t.place
 dum:t.dummies=#[]
 led:t.led=L
end LS
namespace LS
open PySem PySem.Spec PyProof.Rows
abbrev cQ(es:Array (Int×Value))(ep:Nat)(t:SetTable):Obj:={ cls:=.type "set",dict:=none,data:=.set es ep t }
theorem Qt(h:(intKind prog w).is k v=true):∃t,v=.int k t:=by have h':Value.isInt k v=true:=h;cases v<;>simp[Value.isInt]at h';subst h';exact⟨_,rfl⟩
section
variable{prog:Program}{w:World}{A:Around}{E:Value->Shared->Prop}{s:Shared}{L:Bool}
theorem OD{h:Heap}{a:Addr}{es es1:Array (Int×Value)}{ep:Nat}{t t1:SetTable}(ho:h.get? a=some (cQ es ep t)):(h.update a (Obj.putSet es1 t1)).get? a=some (cQ es1 (ep+1) t1):=by
 have q:=Zf (Obj.putSet es1 t1) ho (by rw[putSet_of es1 t1 rfl];rfl)
 rw[putSet_of es1 t1 rfl]at q;exact q
end
theorem cA:Slot "set_iterator" "__next__" "set_iterator.__next__":=.of (owner := "set_iterator") (n := "__next__") (by rw[typeLookup_type,builtinLookup_eq_fast];kernel_rfl) (by decide +kernel) (by decide +kernel) (by decide +kernel) (by first | exact .inl (by decide +kernel) | exact .inr (by decide +kernel)) (by rw[isSubtype_type];kernel_rfl)
theorem El:Slot "set_iterator" "__iter__" "set_iterator.__iter__":=.of (owner := "set_iterator") (n := "__iter__") (by rw[typeLookup_type,builtinLookup_eq_fast];kernel_rfl) (by decide +kernel) (by decide +kernel) (by decide +kernel) (by first | exact .inl (by decide +kernel) | exact .inr (by decide +kernel)) (by rw[isSubtype_type];kernel_rfl)
theorem iU:entryFor table "set_iterator.__next__"=some Builtin.«set_iterator.__next__»:=entryFor_of_fast (by kernel_rfl)
theorem Kz:entryFor table "set_iterator.__iter__"=some Builtin.«dict_keyiterator.__iter__»:=entryFor_alias (id' := "dict_keyiterator.__iter__") (by kernel_rfl) rfl (by decide +kernel) (by kernel_rfl)
theorem yU:entryFor table "set.__iter__"=some Builtin.«frozenset.__iter__»:=entryFor_alias (id' := "frozenset.__iter__") (by kernel_rfl) rfl (by decide +kernel) (by kernel_rfl)
theorem kO(a:Value):argsOk "set_iterator.__next__" ⟨[a],[]⟩:=by unfold argsOk;kernel_rfl
theorem Ng(a:Value):argsOk "set_iterator.__iter__" ⟨[a],[]⟩:=by unfold argsOk;kernel_rfl
set_option tactic.hygienic true in
theorem DR(next:Nat->Nat):∀ (fuel k:Nat) (left:List α) (out:Array α),left.length=fuel->(pickOrder.go next fuel k left out).toList.Perm (out.toList++left)
 |0,k,left,out,h=>by have:left=[]:=aat.mp h;subst this;unfold pickOrder.go;simp
 | fuel + 1,k,left,out,h=>by
   unfold pickOrder.go;have hm:next k%left.length<left.length:=Ys _ (by lia)
   generalize next k%left.length=m at hm
   rw[Wk hm];dsimp only;refine (DR next fuel (k+1) (left.eraseIdx m) (out.push left[m]) (by rw[List.length_eraseIdx,Wm hm];lia)).trans ?_
   rw[Array.toList_push,XH];refine List.Perm.append_left _ ?_;have:∀ (l:List α) (t:Nat) (ht:t<l.length),(l[t]::l.eraseIdx t).Perm l:=by
    intro l;induction l with
    |nil=>intro t ht;exact absurd ht (by simp)
    |cons a l ih=>
      intro t ht;cases t with
      |zero=>exact .refl _
      |succ t=>exact (List.Perm.swap a _ _).trans ((ih t (by simpa using ht)).cons a)
   exact this left m hm
set_option tactic.hygienic true in
theorem Jj(next:Nat->Nat)(xs:Array α):(pickOrder next xs).toList.Perm xs.toList:=by unfold pickOrder;exact (DR next xs.size 0 xs.toList #[] (by simp)).trans (by simp)
section
variable{prog:Program}{w:World}{A:Around}{E:Value->Shared->Prop}{s:Shared}
theorem yV(hn:n≠0)(h:∀i d',i<n->Q i { s with drawn:=d' }):wpAny (model prog w) A (choose src n) Q E s:=λΓ p hΓ=>⟨hn,h _ _ (Ys _ (by lia))⟩
theorem yu:∀ (n:Nat) (xs:List Nat) {s:Shared}{Q:List Nat->Shared->Prop},xs.length=n->(∀ ys d',ys.Perm xs->Q ys { s with drawn:=d' })->wpAny (model prog w) A (drawOrder n xs) Q E s
 |0,xs,s,Q,h,q=>by have:xs=[]:=aat.mp h;subst this;unfold drawOrder;exact We (q [] s.drawn (.refl _))
 |n+1,[],s,Q,h,q=>by cases h
 | n + 1,x::xs,s,Q,h,q=>by
   unfold drawOrder;refine Wc (yV (by simp) λi d' hi=>?_)
   rw[Wk hi];dsimp only;refine Wc (yu n ((x::xs).eraseIdx i) (by rw[List.length_eraseIdx,Wm hi];simp at h ⊢;lia) λys d2 p=>We (q _ d2 ?_))
   refine (p.cons _).trans ?_;have:∀ (l:List Nat) (t:Nat) (ht:t<l.length),(l[t]::l.eraseIdx t).Perm l:=by
    intro l;induction l with
    |nil=>intro t ht;exact absurd ht (by simp)
    |cons a l ih=>
      intro t ht;cases t with
      |zero=>exact .refl _
      |succ t=>exact (List.Perm.swap a _ _).trans ((ih t (by simpa using ht)).cons a)
   exact this _ i hi
end
abbrev mV(vs:Array Value):Obj:={ cls:=.type "set_iterator",data:=.fields vs }
abbrev dH(w:World):Bool:=w.params.followText "set-order"
def qL(w:World)(h:Heap)(I a tp:Addr)(es:Array (Int×Value))(ep:Nat)(t:SetTable)(ord:List Value)(i:Nat):Prop:=
 (dH w=true/\h.get? I=some (mV #[.int 0 0,.int i 0,.ref a,.int es.size 0,.int ep 0])/\ord=(pickOrder (w.params.setOrder a ep) es).toList.map (·.2))
 \/ (dH w=false/\(!t.plain&&decide (es.size > 1))=false/\∃sl:Nat,h.get? I=some (mV #[.int sl 0,.int i 0,.ref a,.int es.size 0,.int ep 0])/\SetTable.below t.place sl=i/\ord=es.toList.map (·.2))
 \/ (dH w=false/\(!t.plain&&decide (es.size > 1))=true/\∃ps,tp≠I/\h.get? I=some (mV #[.ref tp,.int i 0,.ref a,.int es.size 0,.int ep 0])/\h.get? tp=some { cls:=.type "tuple",data:=.seq ((ps:List Nat).map λ(p:Nat)=>rawInt (p:Int)).toArray }/\ps.Perm (List.range es.size)/\ord=ps.map (λp=>(es.getD p (0,.none)).2))
section
variable{prog:Program}{w:World}{A:Around}{E:Value->Shared->Prop}{s:Shared}{I a tp:Addr}{es:Array (Int×Value)}{ep:Nat}{t:SetTable}{ord:List Value}{i:Nat}
theorem jE{h:Heap}{vs:Array Value}{k:Nat}{v:Value}(e:h.get? I=some (mV vs)):(h.update I (Obj.mapFields (·.setIfInBounds k v))).get? I=some (mV (vs.setIfInBounds k v)):=by have q:=Zf (Obj.mapFields (·.setIfInBounds k v)) e (Obj.isFreed_of_fields (Obj.data_mapFields rfl _));rw[q];rfl
theorem IK(hb:dH w=true)(ho:s.heap.get? a=some (cQ es ep t))(hf:t.fits es.size=true){sl:Nat}{Q:Option (Value×Nat)->Shared->Prop}(q:Q (((pickOrder (w.params.setOrder a ep) es)[i]?).map λe=>(e.2,sl)) s):
  wpAny (model prog w) A (setNext a sl i ep) Q E s:=by
 unfold setNext setsByText;refine Wc (Xr ho rfl hf ?_);refine Wc (Wc (Yj (We ?_)));have hb':(model prog w).w.params.followText "set-order"=true:=hb;rw[Wm hb'];simp only[bne_self_eq_false,Bool.false_eq_true,↓reduceIte];unfold setWalk setsByText;refine Wc (Wc (Xr ho rfl hf ?_));refine Wc (Wc (Yj (We ?_)));rw[Wm hb'];exact Wc (Yj (We (We q)))
theorem IV(hb:dH w=false)(hd:(!t.plain && decide (es.size > 1))=false)(ti:TI (!dH w) t)(ho:s.heap.get? a=some (cQ es ep t))(hf:t.fits es.size=true){sl:Nat}{Q:Option (Value×Nat)->Shared->Prop}
  (q:Q (match es[SetTable.below t.place sl]?,t.place[SetTable.below t.place sl]? with
    |some (_,x),some j=>some (x,j+1)
    |_,_=>none) s):wpAny (model prog w) A (setNext a sl i ep) Q E s:=by
 unfold setNext setsByText;refine Wc (Xr ho rfl hf ?_);refine Wc (Wc (Yj (We ?_)));have hb':¬ (model prog w).w.params.followText "set-order"=true:=by rw[show (model prog w).w.params.followText "set-order"=dH w from rfl,hb];decide
 rw[Wr hb'];have hl:t.led=true:=by rw[ti.led,hb];rfl
 show wpAny _ _ (if (!t.plain&&decide (es.size > 1))=true then _ else _) _ _ _
 rw[hd,Wr (by decide)]
 refine Wc ?_;show wpAny _ _ (if (!t.led&&!es.isEmpty)=true then _ else _) _ _ _
 rw[hl];exact We (We q)
theorem next_item(ho:s.heap.get? a=some (cQ es ep t))(hf:t.fits es.size=true)(ti:TI (!dH w) t)(hne:a≠I)(c:qL w s.heap I a tp es ep t ord i)(hi:i<ord.length){Q:Option Value->Shared->Prop}
  (q:∀h',Heap.SameBut I s.heap h'->qL w h' I a tp es ep t ord (i+1)->Q (some ord[i]) { s with heap:=h' }):wpAny (model prog w) A (pyNext (.ref I)) Q E s:=by
 have ho':∀(k:Nat) (v:Value),(s.heap.update I (Obj.mapFields (·.setIfInBounds k v))).get? a=some (cQ es ep t):=λk v=>by rw[Yd _ _ (λz=>hne z.symm)];exact ho
 have sz:(((es.size:Nat):Int) != ((es.size:Nat):Int))=false:=bne_self_eq_false _;have sb2:∀(v1 v2:Value) (k1 k2:Nat),Heap.SameBut I s.heap ((s.heap.update I (Obj.mapFields (·.setIfInBounds k1 v1))).update I (Obj.mapFields (·.setIfInBounds k2 v2))):=λv1 v2 k1 k2=>(Yz _ I _).trans (Yz _ I _)
 rcases c with ⟨hb,hI,e⟩ | ⟨hb,hd,sl,hI,hs,e⟩ | ⟨hb,hd,ps,htp,hI,hT,hp,e⟩
 ·have ty:s.TypeIs (.ref I) "set_iterator":=⟨_,hI,rfl⟩;unfold pyNext;refine Wc (Yu (W7 (name:=Str.ofString "__next__") ty cA (WX cA ty iU ?_ (kO _))));unfold Builtin.«set_iterator.__next__» slotArgs;refine Wc (We ?_);refine Wc (Zg hI rfl ?_);dsimp only;refine Wc (Yc ho rfl hf ?_);rw[sz,Wr (by decide)]
  refine Wc (IK hb ho hf ?_);have hi':i<(pickOrder (w.params.setOrder a ep) es).size:=by rw[e]at hi;simpa using hi
  have oi:ord[i]=((pickOrder (w.params.setOrder a ep) es)[i]).2:=by subst e;simp
  rw[show ((i:Int)).toNat=i from Xo i,XD hi']
  dsimp only[Option.map_some];refine Wc (XR hI rfl (by simp) ?_)
  refine Wc (XR (jE hI) rfl (by simp) ?_)
  refine We ⟨_,rfl,We ?_⟩;rw[<-oi];refine q _ (sb2 _ _ _ _) (.inl ⟨hb,?_,e⟩);rw[jE (jE hI)];simp[rawInt]
 ·have ty:s.TypeIs (.ref I) "set_iterator":=⟨_,hI,rfl⟩;unfold pyNext;refine Wc (Yu (W7 (name:=Str.ofString "__next__") ty cA (WX cA ty iU ?_ (kO _))));unfold Builtin.«set_iterator.__next__» slotArgs;refine Wc (We ?_);refine Wc (Zg hI rfl ?_);dsimp only;refine Wc (Yc ho rfl hf ?_);rw[sz,Wr (by decide)]
  refine Wc (IV hb hd ti ho hf ?_);have hi':i<es.size:=by rw[e]at hi;simpa using hi
  have hps:t.place.size=es.size:=by simp only[SetTable.fits,Bool.and_eq_true,beq_iff_eq]at hf;exact hf.1
  have hi2:i<t.place.size:=by rw[hps];exact hi'
  have oi:ord[i]=(es[i]).2:=by subst e;simp
  rw[show ((sl:Int)).toNat=sl from Xo sl,hs,XD hi',XD hi2]
  dsimp only;refine Wc (XR hI rfl (by simp) ?_)
  refine Wc (XR (jE hI) rfl (by simp) ?_)
  refine We ⟨_,rfl,We ?_⟩;rw[<-oi];refine q _ (sb2 _ _ _ _) (.inr (.inl ⟨hb,hd,t.place[i]+1,?_,Eu ti.ris hi2,e⟩));rw[jE (jE hI)];simp[rawInt]
 ·have ty:s.TypeIs (.ref I) "set_iterator":=⟨_,hI,rfl⟩;have hpl:ps.length=es.size:=by rw[hp.length_eq,WT]
  have hi':i<ps.length:=by rw[e]at hi;simpa using hi
  have hpi:ps[i]<es.size:=Wt.mp (hp.mem_iff.mp (Yh hi'));unfold pyNext;refine Wc (Yu (W7 (name:=Str.ofString "__next__") ty cA (WX cA ty iU ?_ (kO _))));unfold Builtin.«set_iterator.__next__» slotArgs;refine Wc (We ?_);refine Wc (Zg hI rfl ?_);dsimp only;refine Wc (Yc ho rfl hf ?_);rw[sz,Wr (by decide)]
  refine Wc (XJ hT rfl ?_);have g:((ps.map λ(p:Nat)=>rawInt (p:Int)).toArray)[i]?=some (rawInt (ps[i]:Int)):=by simp[hi']
  rw[show ((i:Int)).toNat=i from Xo i]
  dsimp only;rw[g];dsimp only[rawInt];unfold setNextDrawn;refine Wc (Wc (Xr ho rfl hf ?_));simp only[bne_self_eq_false,Bool.false_eq_true,↓reduceIte,Int.toNat_natCast];rw[XD hpi];dsimp only;refine We ?_;refine Wc (XR hI rfl (by simp) ?_)
  refine We ⟨_,rfl,We ?_⟩;have oi:ord[i]=(es[ps[i]]).2:=by subst e;simp[hpi]
  rw[<-oi];refine q _ (Yz _ I _) (.inr (.inr ⟨hb,hd,ps,htp,?_,?_,hp,e⟩))
  ·rw[jE hI];simp
  ·rw[Yd _ _ (λz=>htp z.symm)];exact hT
end
section
variable{prog:Program}{w:World}{A:Around}{E:Value->Shared->Prop}{s:Shared}{I a tp:Addr}{es:Array (Int×Value)}{ep:Nat}{t:SetTable}{ord:List Value}{i:Nat}
theorem vy(hh:A.handled=none){R:Fin->Shared->Prop}{Q:Option Value->Shared->Prop}(q:∀h',(∀b o,s.heap.get? b=some o->h'.get? b=some o)->Q none { s with heap:=h' }):
  wpAny (model prog w) A.in1 (do raiseNew (<-newExc (.type "StopIteration") [])) R (λe s'=>wpAny (model prog w) A (do if <-isInstance e (.type "StopIteration") then pure none else throw e) Q E s') s:=by
 refine Wc ?_;simp only[newExc,newTuple];refine Wc (WW ?_ (by size_fits))
 refine Wc (m:=firstArgMember _ _) (wpAny_of_eq (a:=.none) (by first | rfl | (simp only[firstArgMember];rfl)) (WW ?_ (by size_fits)))
 simp only[raiseNew];refine Wc (wpAny_handled ?_);have h1:A.in1.handled=none:=hh;rw[h1];refine Wc (We (wpAny_throw ?_));refine Wc (Z1 (T := "StopIteration") (b:=true) ⟨_,Wl _ rfl,rfl⟩ isSubtype_stop ?_);exact We (q _ λb o e=>Wd _ (Wd _ e))
theorem next_end(hh:A.handled=none)(ho:s.heap.get? a=some (cQ es ep t))(hf:t.fits es.size=true)(ti:TI (!dH w) t)(c:qL w s.heap I a tp es ep t ord ord.length){Q:Option Value->Shared->Prop}
  (q:∀h',(∀b o,b≠I->s.heap.get? b=some o->h'.get? b=some o)->Q none { s with heap:=h' }):wpAny (model prog w) A (pyNext (.ref I)) Q E s:=by
 have sz:(((es.size:Nat):Int) != ((es.size:Nat):Int))=false:=bne_self_eq_false _;have k1:∀(v1:Value) (k1:Nat) b o,b≠I->s.heap.get? b=some o->(s.heap.update I (Obj.mapFields (·.setIfInBounds k1 v1))).get? b=some o:=λv1 k1 b o hb e=>by rw[Yd _ _ (λz=>hb z.symm)];exact e
 rcases c with ⟨hb,hI,e⟩ | ⟨hb,hd,sl,hI,hs,e⟩ | ⟨hb,hd,ps,htp,hI,hT,hp,e⟩
 ·have ty:s.TypeIs (.ref I) "set_iterator":=⟨_,hI,rfl⟩;unfold pyNext;refine Wc (Yu (W7 (name:=Str.ofString "__next__") ty cA (WX cA ty iU ?_ (kO _))));unfold Builtin.«set_iterator.__next__» slotArgs;refine Wc (We (Wc (Zg hI rfl ?_)));dsimp only;refine Wc (Yc ho rfl hf ?_);rw[sz,Wr (by decide)]
  refine Wc (IK hb ho hf ?_);have hi':(pickOrder (w.params.setOrder a ep) es)[((ord.length:Int)).toNat]?=none:=by rw[Xo,Zn,e];simp
  rw[hi'];dsimp only[Option.map_none];refine Wc (XR hI rfl (by simp) ?_)
  exact vy hh λh' k=>q h' λb o hb e=>k b o (k1 _ _ b o hb e)
 ·have ty:s.TypeIs (.ref I) "set_iterator":=⟨_,hI,rfl⟩;unfold pyNext;refine Wc (Yu (W7 (name:=Str.ofString "__next__") ty cA (WX cA ty iU ?_ (kO _))));unfold Builtin.«set_iterator.__next__» slotArgs;refine Wc (We (Wc (Zg hI rfl ?_)));dsimp only;refine Wc (Yc ho rfl hf ?_);rw[sz,Wr (by decide)]
  refine Wc (IV hb hd ti ho hf ?_);have hi':es[ord.length]?=none:=by rw[Zn,e];simp
  rw[show ((sl:Int)).toNat=sl from Xo sl,hs,hi']
  dsimp only;refine Wc (XR hI rfl (by simp) ?_)
  exact vy hh λh' k=>q h' λb o hb e=>k b o (k1 _ _ b o hb e)
 ·have ty:s.TypeIs (.ref I) "set_iterator":=⟨_,hI,rfl⟩;unfold pyNext;refine Wc (Yu (W7 (name:=Str.ofString "__next__") ty cA (WX cA ty iU ?_ (kO _))));unfold Builtin.«set_iterator.__next__» slotArgs;refine Wc (We (Wc (Zg hI rfl ?_)));dsimp only;refine Wc (Yc ho rfl hf ?_);rw[sz,Wr (by decide)]
  refine Wc (XJ hT rfl ?_);have g:((ps.map λ(p:Nat)=>rawInt (p:Int)).toArray)[((ord.length:Int)).toNat]?=none:=by rw[Xo,Zn,e];simp
  dsimp only;rw[g];dsimp only;refine Wc (XR hI rfl (by simp) ?_)
  refine Wc (XR (jE hI) rfl (by simp) ?_)
  refine vy hh λh' k=>q h' λb o hb e=>k b o ?_
  rw[Yd _ _ (λz=>hb z.symm)]
  exact k1 _ _ b o hb e
theorem KR(ho:s.heap.get? a=some (cQ es ep t))(hf:t.fits es.size=true)(ti:TI (!dH w) t)(hb:es.size<scanBound)
  (q:∀h' d' I tp ord,s.heap.objs.size<=I->(∀b o,s.heap.get? b=some o->h'.get? b=some o)->I<h'.objs.size->(tp=a\/(s.heap.objs.size<=tp/\tp<h'.objs.size))->qL w h' I a tp es ep t ord 0->ord.Perm (es.toList.map (·.2))->Q (.ref I) { s with heap:=h',drawn:=d' }):wpAny (model prog w) A (pyIter (.ref a)) Q E s:=by
 have ty:s.TypeIs (.ref a) "set":=⟨_,ho,rfl⟩;refine ZK ty F.slot_set_iter (WX F.slot_set_iter ty yU ?_ (F.args_set_iter_1 _));unfold Builtin.«frozenset.__iter__» Builtin.Frozenset.slot0 slotArgs Builtin.Frozenset.addrOf Builtin.Frozenset.sizeOf setDrawn setsByText;simp only[List.isEmpty_nil,Bool.not_true,Bool.false_eq_true,↓reduceIte,bind_assoc,List.length_nil,bne_self_eq_false];refine Wc (We (Wc (We ?_)));refine Wc (Yc ho rfl hf (Wc (We ?_)));refine Wc (Xr ho rfl hf ?_);refine Wc (Yj (Wc (We (Wc (We ?_)))));show wpAny _ _ (if (!dH w&&(!t.plain&&decide (es.size > 1)))=true then _ else _) _ _ _
 by_cases hc:(!dH w&&(!t.plain&&decide (es.size > 1)))=true
 ·rw[Wm hc];rw[YC]at hc;have hB:dH w=false:=by simpa using hc.1
  refine Wc (yu es.size (List.range es.size) (by simp) λps d' hp=>?_)
  have pl:ps.length=es.size:=by rw[hp.length_eq,WT]
  simp only[newTuple,newFields];refine Wc (WW ?_ (by show _<=sizeLine;have:=fits_of_scanBound hb;simp;lia))
  have ho1:=Wd { cls:=.type "tuple",data:=.seq ((ps.map λ(i:Nat)=>rawInt (i:Int)).toArray) } ho
  refine Wc (wpAny_setEpoch_of ho1 rfl hf ?_);refine Wc (WW (We ⟨_,rfl, "set_iterator",_,⟨_,Wl _ rfl,rfl⟩,cA.lookup,?_⟩) (by show _<=_;simp[sizeLine_eq]))
  refine q _ d' _ s.heap.objs.size (ps.map (λp=>(es.getD p (0,.none)).2)) (by dsimp only;simp only[Heap.size_push];lia) (λb o e=>Wd _ (Wd _ e)) (by dsimp only;simp only[Heap.size_push];lia) (.inr ⟨Wg _,by dsimp only;simp only[Heap.size_push];exact ZM (Xw _)⟩) (.inr (.inr ⟨hB,hc.2,ps,?_,Wl _ rfl,Wd _ (Wl _ rfl),hp,rfl⟩)) ?_
  ·dsimp only;simp only[Heap.size_push];exact Wu (Xw _)
  ·refine (hp.map _).trans (List.Perm.of_eq ?_);apply ZJ;intro k;by_cases hk:k<es.size
   ·simp[hk,Array.getD]
   ·rw[Xn (by simp;lia),Xn (by simp;lia)]
 ·rw [Wr hc];refine Wc (We ?_);simp only[newFields];refine Wc (wpAny_setEpoch_of ho rfl hf ?_);refine Wc (WW (We ⟨_,rfl, "set_iterator",_,⟨_,Wl _ rfl,rfl⟩,cA.lookup,?_⟩) (by show _<=_;simp[sizeLine_eq]))
  have fin:∀ord,qL w (s.heap.push (mV #[.int 0 0,.int 0 0,.ref a,.int es.size 0,.int ep 0])) s.heap.objs.size a a es ep t ord 0->ord.Perm (es.toList.map (·.2))->Q (.ref s.heap.objs.size) { s with heap:=s.heap.push (mV #[.int 0 0,.int 0 0,.ref a,.int es.size 0,.int ep 0]) }:=λord c p=>
   q _ s.drawn s.heap.objs.size a ord (Wg _) (λb o e=>Wd _ e) (by rw[WM];lia) (.inl rfl) c p
  cases hB:dH w with
  |true=>exact fin _ (.inl ⟨hB,Wl _ rfl,rfl⟩) ((Jj _ es).map _)
  |false=>
    rw[hB]at hc;have hd:(!t.plain&&decide (es.size > 1))=false:=by simpa using hc
    exact fin _ (.inr (.inl ⟨hB,hd,0,Wl _ rfl,Ew ti.ris,rfl⟩)) (.refl _)
theorem qL.at(c:qL w h I a tp es ep t ord i)(k1:∀o,h.get? I=some o->h'.get? I=some o)(k2:∀o,h.get? tp=some o->h'.get? tp=some o):qL w h' I a tp es ep t ord i:=by
 rcases c with ⟨hb,hI,e⟩ | ⟨hb,hd,sl,hI,hs,e⟩ | ⟨hb,hd,ps,htp,hI,hT,hp,e⟩
 ·exact .inl ⟨hb,k1 _ hI,e⟩
 ·exact .inr (.inl ⟨hb,hd,sl,k1 _ hI,hs,e⟩)
 ·exact .inr (.inr ⟨hb,hd,ps,htp,k1 _ hI,k2 _ hT,hp,e⟩)
theorem qL.ty(c:qL w h I a tp es ep t ord i):∃vs,h.get? I=some (mV vs):=by rcases c with ⟨hb,hI,e⟩ | ⟨hb,hd,sl,hI,hs,e⟩ | ⟨hb,hd,ps,htp,hI,hT,hp,e⟩<;>exact⟨_,hI⟩
theorem J2(hh:A.handled=none)(hf:t.fits es.size=true)(ti:TI (!dH w) t)(hne:a≠I):
  Walks prog w A I [I,a,tp] [I] ord.length (λi v=>ord[i]?=some v) (λi h=>h.get? a=some (cQ es ep t)/\qL w h I a tp es ep t ord i) where
 sub:=λb hb=>by simp at hb;simp[hb]
 frame:=λz z z st hk=>⟨hk a (by simp) _ st.1,st.2.at (λo e=>hk I (by simp) o e) λo e=>hk tp (by simp) o e⟩
 item:=λi s Q E hi st hQ=>next_item st.1 hf ti hne st.2 hi λh' sb c=>hQ _ h' s.toks (by simp[hi]) ⟨sb.extBut a _ hne st.1,c⟩ λb o hb e=>sb.extBut b o (λh=>hb (by simp[h])) e
 done:=λs Q E st hQ=>next_end hh st.1 hf ti st.2 λh' k=>hQ h' s.toks λb o hb e=>k b o (λh=>hb (by simp[h])) e
 self:=λi s Q E st hQ=>by obtain⟨vs,hI⟩:=st.2.ty;have ty:s.TypeIs (.ref I) "set_iterator":=⟨_,hI,rfl⟩;exact ZK ty El (WX El ty Kz (We ⟨_,rfl, "set_iterator",_,ty,cA.lookup,hQ⟩) (Ng _))
end
theorem Mp(h:b+1<=a):a≠b:=by lia
section
variable{prog:Program}{w:World}{A:Around}{E:Value->Shared->Prop}{s:Shared}
theorem KJ(ho:s.heap.get? a=some (cQ es ep t))(q:Q false s):wpAny (model prog w) A (Builtin.List.listLengthHint (.ref a)) Q E s:=by
 have ty:s.TypeIs (.ref a) "set":=⟨_,ho,rfl⟩;unfold Builtin.List.listLengthHint;refine Wc (wpAny_specialOf ty F.slot_set_len.lookup ?_);have sp:splitId "set.__len__"=some ("set", "__len__"):=by decide +kernel
 dsimp only;rw[sp];dsimp only;refine Wc (Z1 (b:=true) ty sub_set_self ?_);refine Wc (Zd ty ?_);exact We q
end
end LS
namespace L2
open PySem PySem.Spec PyProof.Rows LS
def pK(x:Int):List Int->List Int
 |[]=>[x]
 |y::r=>if x<=y then x::y::r else y::pK x r
theorem rm(x:Int):∀ l:List Int,(pK x l).Perm (x::l)
 |[]=>.refl _
 |y::r=>by
   unfold pK;split
   ·exact .refl _
   ·exact ((rm x r).cons y).trans (.swap x y r)
set_option tactic.hygienic true in
theorem yC(x:Int):∀ {l:List Int},l.Pairwise (·<= ·)->(pK x l).Pairwise (·<= ·)
 |[],_=>by simp[pK]
 | y::r,h=>by
   unfold pK;split
   ·rename_i c;refine YF.mpr ⟨λz hz=>?_,h⟩
    rcases Wy.mp hz with rfl | hz
    ·exact c
    ·exact Int.le_trans c ((YF.mp h).1 z hz)
   ·rename_i c;have h':=YF.mp h;refine YF.mpr ⟨λz hz=>?_,yC x h'.2⟩
    rcases Wy.mp ((rm x r).mem_iff.mp hz) with rfl | hz
    ·lia
    ·exact h'.1 z hz
theorem jw:∀ l:List Int,(l.foldr pK []).Perm l/\(l.foldr pK []).Pairwise (·<= ·)
 |[]=>⟨.refl _,by simp⟩
 |x::l=>by obtain⟨a,b⟩:=jw l;exact⟨(rm x _).trans (a.cons x),yC x b⟩
theorem nU:∀ {a b:List Int},a.Perm b->a.Pairwise (·<= ·)->b.Pairwise (·<= ·)->a=b
 |[],b,p,_,_=>p.nil_eq
 |x::a,[],p,_,_=>by have:=p.length_eq;simp at this
 | x::a,y::b,p,ha,hb=>by
   have h1:=YF.mp ha;have h2:=YF.mp hb;have xy:x=y:=by
    have m1:x∈y::b:=p.mem_iff.mp (Xg);have m2:y∈x::a:=p.mem_iff.mpr (Xg);rcases Wy.mp m1 with e | m1
    ·exact e
    ·rcases Wy.mp m2 with e | m2
     ·exact e.symm
     ·exact Int.le_antisymm (h1.1 y m2) (h2.1 x m1)
   subst xy;rw[nU (List.Perm.cons_inv p) h1.2 h2.2]
theorem Dq:∀ {vs:List Value}{ns:List Int},vs.length=ns.length->(∀ (j:Nat) v,vs[j]?=some v->∃ n t,ns[j]?=some n/\v=.int n t)->IntsAre vs ns
 |[],[],_,_=>.nil
 |[],_::_,h,_=>by cases h
 |_::_,[],h,_=>by cases h
 |v::vs,n::ns,h,q=>by obtain⟨m,t,e,rfl⟩:=q 0 v rfl;cases e;exact .cons _ _ (Dq (by simpa using h) λj v e=>q (j+1) v e)
section
variable{prog:Program}{w:World}{A:Around}{E:Value->Shared->Prop}{s:Shared}
theorem Cz(K:PySem.W.KdlSrc prog w T r d n P OK)(hh:A.handled=none)(hok:OK s.heap)(hn:n<=sizeLine)
  (h:∀h' tk (acc:Array Value),s.heap.objs.size<=h'.objs.size->(∀b o,s.heap.get? b=some o->h'.get? b=some o)->ItemsOf P acc n->Q acc.toList { s with heap:=h',toks:=tk }):wpAny (model prog w) A (collect (.ref r)) Q E s:=by
 unfold collect;refine Wc (aay (Y6 Z3 ?_));rw[Yq Z4 _];refine Wc (m:=newList []) (WW (We ⟨aal YL _,Y6 F.entry_list_iadd ?_⟩));rw[Yq YL _];obtain⟨t1,t2⟩:=K.there _ hok;have lst0:(s.heap.push (seqObj "list" #[] 0)).get? s.heap.objs.size=some (seqObj "list" #[] 0):=Wl _ rfl;have ok1:OK (s.heap.push (seqObj "list" #[] 0)):=K.keep _ _ hok λb z o e=>Wd _ e
 show wpAny _ A.in1 (Builtin.List.listExtendWith (.ref s.heap.objs.size) (.ref r) (.ref s.heap.objs.size)) _ _ { s with heap:=s.heap.push (seqObj "list" #[] 0) }
 refine PySem.W.kdl_extend (A:=A) (R:=λq s'=>match q with
  | .ok (.ret v)=>wpAny (model prog w) A (match v with
    | .ref a=>do
      let o <-load a
      match o.data with
       |.seq xs _=>pure xs.toList
       |_=>unsupported "internal:collect"
    |_=>unsupported "internal:collect") Q E s'
  |.ok _=>False
  |.error e=>E e s') (s:={ s with heap:=s.heap.push (seqObj "list" #[] 0) }) K hh ok1 s.heap.objs.size (YT t1) (YT t2) (.ref s.heap.objs.size) 0 lst0 (λh1 tk1 acc c1 hk hS' hacc=>?_) hn
 refine Wc (m:=load s.heap.objs.size) (aan hS' ?_);exact We (h h1 tk1 acc (Yr (Wj hS')) (λb o e=>hk b o (Wu (Wj e)) (Wd _ e)) hacc)
theorem CT(hh:A.handled=none)(dd:s.heap.DictOf (mixKind prog w) a kvs)(lo:(a == sysModules)=false)(hk:kvs.map (·.1)=ks.map Sum.inl)(h64:ks.length<64)
  (h:∀h' tk p n vs ns,s.heap.objs.size<=p->h'.get? p=some (seqObj "list" (vs:List Value).toArray n)->IntsAre vs ns->ns.Perm ks->ns.Pairwise (·<= ·)->(∀b o,s.heap.get? b=some o->h'.get? b=some o)->Q (.ref p) { s with heap:=h',toks:=tk }) :
  wpAny (model prog w) A (call (.builtin "sorted") [.ref a]) Q E s:=by
 refine Zr kind_sorted plain_sorted entry_sorted (args_sorted1 _) ?_;unfold Builtin.«sorted»
 refine Wc (m:=checkCount "sorted" 1 1 _) (We ?_);obtain⟨ep,hat⟩:=dd.dictAt;have kl:kvs.length=ks.length:=by have:=congrArg List.length hk;simpa using this
 refine Wc (Cz (PySem.W.kdl_dict (knd:=mixKind prog w) (kvs:=kvs) (ep:=ep) lo) (by simp[hh]) hat (by rw[YS];lia) λh1 tk1 acc sz k1 hacc=>?_)
 have hi:IntsAre acc.toList ks:=Dq (by rw[aaC,hacc.1,kl]) λj v e=>by
  obtain⟨k,x,e1,e2⟩:=hacc.2 j v (by rw[<-Z2];exact e)
  have e3:(kvs.map (·.1))[j]?=some k:=by rw[Wn,e1];rfl
  rw[hk,Wn]at e3;obtain⟨n,e4,rfl⟩:=Wi.mp e3;have e2:keyIs (Sum.inl n) v=true:=by rw[<-mixKind_is prog w];exact e2
  rcases keyIs_shape e2 with ⟨i,t,h1,h2⟩ | ⟨x,t,h1,h2⟩
  ·cases h1;exact⟨n,t,e4,h2⟩
  ·cases h1
 have vl:acc.toList.length=ks.length:=IntsAre.length hi;have zl:acc.toList.toArray.size<=sizeLine:=by rw[Wv,YS];lia
 refine Wc (wpAny_newList ?_ zl);have oL:(h1.push (seqObj "list" acc.toList.toArray 0)).get? h1.objs.size=some (seqObj "list" acc.toList.toArray 0):=Wl _ rfl;refine Wc (Xj (WX slot_list_sort ⟨_,oL,rfl⟩ entry_list_sort (list_sort_tree oL hi (by lia) λout ns' a1 a2 a3=>⟨_,rfl,?_⟩) (args_list_sort _)))
 obtain⟨e,he⟩:=sortedHeap_at (out:=out) oL;refine We ⟨_,rfl,h _ _ h1.objs.size e out.toList ns' sz (by simpa using he) a1 a2 a3 λb o eb=>?_⟩
 have lt:=Wj (k1 b o eb);rw[sortedHeap_old (Wu lt) (by rw[size_push'];exact ZM lt)]
 exact Wd _ (k1 b o eb)
end
def sJ(ks:List Int):List Int:=ks.foldr pK []
theorem zR(hh:X.A.handled=none):CallR X (.builtin "sorted") (λxs H Q=>∃ (p:Addr) (kvs:List (Key×V)) (ks:List Int),xs=[.ref p]/\H p=some (.dK kvs)/\kvs.map (·.1)=ks.map Sum.inl/\ks.length<=60/\∀ l,H l=none->Q (.ref l) (upd H l (.lst ((sJ ks).map V.int)))):=by
 intro aaD s σ H xs us Q I r1 h;obtain⟨p,kvs,ks,rfl,hp,hk,hl,q⟩:=h;cases r1 with
 | cons r rr=>
   cases rr;cases r;obtain⟨z,lo,vs,rel,dd⟩:=dk_of I.hok hp;have hkk:vs.map (·.1)=ks.map Sum.inl:=by rw[<-rel.keys,hk]
   refine CT hh dd lo hkk (by lia) λh2 tk2 l m ws ms hge hol ims pm so k2=>?_
   have em:ms=sJ ks:=nU (pm.trans (jw _).1.symm) so (jw _).2;have zl:((sJ ks).map V.int).length<=sizeLine:=by
    have e:(sJ ks).length=ks.length:=(jw ks).1.length_eq;rw[Wh,e];show _<=2^24
    lia
   have I2:=I.call (h':=h2) (t':=tk2) (d':=s.drawn) (g':=s.gens) (ch:=[]) (Un.laid k2 hge (I.hok.fresh hge)) (I.hok.laid (o:=.lst ((sJ ks).map V.int)) k2 hge ⟨zl,ws,m,by rw[<-em];exact vals_ints ims,hol⟩) I.bare (λy z=>nomatch z)
   exact⟨.ref l,upd H l (.lst ((sJ ks).map V.int)),I2,rfl,q l (I.hok.fresh hge)⟩
end L2
namespace LS
open PySem PySem.Spec PyProof.Rows
end LS
namespace L2
open PySem PySem.Spec PyProof.Rows LS
end L2
namespace L2
open PySem PySem.Spec PyProof.Rows
end L2
namespace L2
open PySem PySem.Spec PyProof.Rows LS
end L2
namespace L2
open PySem PySem.Spec PyProof.Rows
end L2
namespace L2
open PySem PySem.Spec PyProof.Rows
open PySem PySem.Spec PyProof.Rows
end L2
namespace L2
open PySem PySem.Spec PyProof.Rows
open PySem PySem.Spec PyProof.Rows
open PySem PySem.Spec PyProof.Rows
end L2
namespace L2
open PySem PySem.Spec PyProof.Rows LS
end L2
namespace L2
open PySem PySem.Spec PyProof.Rows
end L2
namespace LB
open PySem PySem.W PyProof.Rows
end LB
namespace LB
open PySem PySem.W PySem.Calls PyProof.Rows
end LB
namespace L2
open PySem PySem.Spec PyProof.Rows LS LB
end L2
namespace LB
open PySem PySem.W PySem.Calls PyProof.Rows
end LB
namespace L2
open PySem PySem.Spec PyProof.Rows LS LB
end L2
namespace LA
open PySem LS
end LA
namespace LA
open PySem LS PyProof.Rows
abbrev iK(prog:Program)(w:World):=intKind prog w
def hT(prog:Program)(w:World)(k:List Int):Int:=tupleKeyHash (iK prog w) k
def ent(prog:Program)(w:World)(c:Addr×List Int):Int×Value:=(hT prog w c.2,.ref c.1)
abbrev Pk(prog:Program)(w:World)(h:Heap)(cs:List (Addr×List Int)):Prop:=∀c∈cs,IsTupleKey (iK prog w) h c.2 c.1
section
variable{prog:Program}{w:World}{A:Around}{E:Value->Shared->Prop}{s:Shared}{L:Bool}{t:SetTable}{cs:List (Addr×List Int)}{a:Addr}{ep:Nat}
theorem uI(ho:s.heap.get? b=some o)(hd:o.data=.seq items n)(q:Q (some items) s):wpAny (model prog w) A (seqItems? (.ref b)) Q E s:=by unfold seqItems?;refine Wc (aan ho ?_);rw[hd];exact We q
theorem items_int(h:ItemsAre (iK prog w) ks vs):∀ v∈vs,∃ i u,v=.int i u:=by
 induction h with
 |nil=>intro v hv;cases hv
 | cons h1 _ ih=>
   intro v hv;rcases Wy.mp hv with rfl | hv
   ·obtain⟨u,e⟩:=Qt h1;exact⟨_,u,e⟩
   ·exact ih v hv
theorem Ay(hk:IsTupleKey (iK prog w) s.heap k b)(q:Q false s):wpAny (model prog w) A (ofAClassStatement 8 (.ref b)) Q E s:=by
 have hT:=hk.typeIs;obtain⟨o,items,n,ho,_,hd,hi⟩:=hk;have ii:=items_int hi;unfold ofAClassStatement;refine Wc (Zd hT ?_);dsimp only;refine Wc (We ?_);simp only[Bool.not_true,Bool.false_eq_true,if_false];refine Wc (uI ho hd ?_);dsimp only;refine Wc ?_;rw[<-Zw];refine wpAny_forIn_list _ (λrest r s'=>r=(none,())/\s'=s/\∀v∈rest,∃i u,v=.int i u) _ ?_ ?_ _ _ ⟨rfl,rfl,ii⟩
 ·rintro x rest r s' ⟨rfl,rfl,hall⟩;obtain⟨i,u,rfl⟩:=hall x Xg;refine Wc (We ?_);exact We ⟨rfl,rfl,λv hv=>hall v (W4 _ hv)⟩
 ·rintro r s' ⟨rfl,rfl,_⟩;exact We q
theorem Gd(hk:IsTupleKey (iK prog w) s.heap k b)(q:Q true s):wpAny (model prog w) A (hashByValue 8 (.ref b)) Q E s:=by
 have hT:=hk.typeIs;obtain⟨o,items,n,ho,_,hd,hi⟩:=hk;have ii:=items_int hi;unfold hashByValue;refine Wc (wpAny_specialOf hT F.slot_tuple_hash.lookup ?_);dsimp only;refine Wc (uI ho hd ?_);refine Wc ?_;show wpAny _ _ (forIn items _ _) _ _ _;rw[<-Zw];refine wpAny_forIn_list _ (λrest r s'=>r=(none,())/\s'=s/\∀v∈rest,∃i u,v=.int i u) _ ?_ ?_ _ _ ⟨rfl,rfl,ii⟩
 ·rintro x rest r s' ⟨rfl,rfl,hall⟩;obtain⟨i,u,rfl⟩:=hall x Xg;refine Wc (We ?_);exact We ⟨rfl,rfl,λv hv=>hall v (W4 _ hv)⟩
 ·rintro r s' ⟨rfl,rfl,_⟩;exact We q
theorem K5(hk:IsTupleKey (iK prog w) s.heap k b)(hl:∀ v∈l,∃ b' k',v=.ref b'/\IsTupleKey (iK prog w) s.heap k' b')(q:Q false s):wpAny (model prog w) A (searchCouldBeSeen (.ref b) l) Q E s:=by
 unfold searchCouldBeSeen;refine Wc ?_;refine wpAny_forIn_list _ (λrest r s'=>r=(none,())/\s'=s/\∀v∈rest,∃b' k',v=.ref b'/\IsTupleKey (iK prog w) s.heap k' b') _ ?_ ?_ _ _ ⟨rfl,rfl,hl⟩
 ·rintro x rest r s' ⟨rfl,rfl,hall⟩;obtain⟨b',k',rfl,hk'⟩:=hall x Xg;have nx:∀v∈rest,∃b' k',v=.ref b'/\IsTupleKey (iK prog w) s'.heap k' b':=λv hv=>hall v (W4 _ hv)
  dsimp only;split
  ·exact We ⟨rfl,rfl,nx⟩
  ·refine Wc (wpAny_eqIsQuiet_tuple hk ?_);simp only[Bool.not_true,Bool.false_eq_true,if_false];refine Wc (wpAny_eqIsQuiet_tuple hk' ?_);simp only[Bool.not_true,Bool.false_eq_true,if_false];refine Wc (Ay hk ?_);simp only[Bool.false_eq_true,if_false];refine Wc (Ay hk' ?_);simp only[Bool.false_eq_true,if_false];exact We ⟨rfl,rfl,nx⟩
 ·rintro r s' ⟨rfl,rfl,_⟩;exact We q
end
end LA
namespace L2
open PySem PySem.Spec PyProof.Rows LS LA LB
section
variable{X:Cx}{aaD:List (Addr×Obj)}{σ:St}{H:Hp}{s:Shared}{scope:Scope}{cl:List (Str×Addr)}{own:List Str}{js:List Nat}{fr:List Str}{fp:List Addr}{C m:Addr}
theorem Fe(T:CompG X scope cl own js fr)(I:Inv X aaD σ H s)(f:∀ b∈fp,FpOk X aaD H b)(hlt:∀ b∈fp,b<s.heap.objs.size)
  (k:∀b o,s.heap.get? b=some o->h'.get? b=some o) (ha:s.heap.objs.size<=acc) (hC:s.heap.objs.size<=C) (hne:C≠acc) (hm:m=hh.objs.size) (hms:s.heap.objs.size<=m) (hCm:C<m) (ham:acc<m) (hh':h'=pushCells hh scope.names) (ob:ObjOk X.prog X.w (upd H acc ho) h' acc ho) (ns:h'.Ns C mm) :
  Inv (X.aZ aaD scope (cellsFrom m scope.names cl) (own++fr) fp C s H) [] (List.replicate own.length none++pick js σ) (upd H acc ho) { s with heap:=h',toks:=t' }:=by
 have ok:CellsOk (pushCells hh scope.names) m (cellsFrom m scope.names []):=by
  have:=cellsFrom_ok scope.names hh m [] ⟨λx x hm=>(nomatch hm),List.Pairwise.nil⟩ (by rw[hm];exact Wg _)
  rw[<-hm]at this;exact this
 have hold:∀y c,cl.lookup y=some c->c<s.heap.objs.size:=λy c e=>by obtain⟨v,q⟩:=I.cell y c (T.sub _ _ e);exact q.lt
 have spl:∀y c,(cellsFrom m scope.names cl).lookup y=some c->(m<=c/\h'.IsCell c none)\/(cl.lookup y=some c/\c<s.heap.objs.size):=λy c e=>by
  rw[bL]at e;rcases km e with z | ⟨_,z⟩
  ·have:=ok.empty _ _ (Xp z);exact .inl ⟨this.2,by rw[hh'];exact this.1⟩
  ·exact .inr ⟨z,hold _ _ z⟩
 have hn:H acc=none:=I.hok.fresh ha;have fC:H C=none:=I.hok.fresh hC;refine⟨zV T I f hlt hC hm hms,rfl,I.bare,Un.laid k ha hn,⟨mm,ns,λi y v h1 h2 h3=>?_⟩,λy c e=>?_,by show upd H acc _ C=none;rw[upd_ne hne];exact fC,λy c e=>?_,λp hp=>?_,I.hok.laid k ha ob,?_⟩
 ·have h1:(own++fr)[i]?=some y:=h1;by_cases hi:i<own.length
  ·rw[Ws (by rw[Xi];exact hi),Yx]at h2
   split at h2<;>cases h2
  ·rw [List.getElem?_append_right (by lia)] at h1
   rw[Xc (by rw[Xi];lia),Xi]at h2
   unfold pick at h2;rw[Wn]at h2;cases hj:js[i-own.length]? with
   |none=>rw[hj]at h2;cases h2
   | some j=>
     rw[hj]at h2;have h2s:(σ[j]?).getD none=some v:=Wq h2;have h2'':σ[j]?=some (some v):=by
      cases z:σ[j]? with
      |none=>rw[z]at h2s;cases h2s
      |some w=>rw[z]at h2s;exact congrArg some h2s
     obtain⟨g1,g2,g3,c,gc⟩:=T.fre _ j y hj h1;obtain⟨mX,_,hl⟩:=I.loc;have vis:Vis X.env.scope y:=g2.elim (λz=>.inr (.inl z)) λz=>.inr (.inr z)
     obtain⟨u,r,q⟩:=hl j y v g1 h2'' vis;refine⟨u,r,.inr ⟨g3,c,?_,?_⟩⟩
     ·show (cellsFrom m scope.names cl).lookup y=some c;rw[bL];cases z:(cellsFrom m scope.names []).lookup y with
      |none=>rw[gZ z];exact gc
      |some c'=>exact absurd (T.newc m y c' z) (T.oldc y c gc)
     ·have hc':=T.sub _ _ gc;rcases q with ⟨q,_⟩ | ⟨_,c2,e2,z⟩
      ·have q:X.env.scope.names.lookup y=some .local:=q;rcases g2 with g2 | g2<;>(rw[g2]at q;cases q)
      ·rw[hc']at e2;cases e2;exact z.keeps k
 ·rcases spl y c e with ⟨_,z⟩ | ⟨z,_⟩
  ·exact⟨_,z⟩
  ·obtain⟨v,q⟩:=I.cell y c (T.sub _ _ z);exact⟨v,q.keeps k⟩
 ·rcases spl y c e with ⟨z,_⟩ | ⟨z,lt⟩
  ·show upd H acc _ c=none;rw[upd_ne (λ(q:c=acc)=>absurd ham (X4.mpr (q ▸ z)))]
   exact I.hok.fresh (Xm hms z)
  ·show upd H acc _ c=none;rw[upd_ne (λ(q:c=acc)=>absurd lt (X4.mpr (q ▸ ha)))]
   exact I.freeC y c (T.sub _ _ z)
 ·have hp':p∈X.pn++aaD:=by simpa using hp
  obtain⟨e,n,ne,nf,d⟩:=I.pin p hp';refine⟨k _ _ e,?_,Wu (Wo (Wj e) hC),λhm=>?_,d⟩
  ·show upd H acc _ p.1=none;rw[upd_ne (λz=>absurd (Wj e) (by rw[z];exact X4.mpr ha))]
   exact n
  ·rcases Wy.mp (I.stkSub _ hm) with z | z
   ·exact ne z
   ·exact nf z
 ·show (List.replicate own.length none++pick js σ).length=(own++fr).length;unfold pick;rw[Ww,Xi,Wh,Ww,T.len]
end
section
variable{prog:Program}{w:World}{A:Around}{R:Result->Shared->Prop}{s:Shared}
def Aa(elt:Expr)(acc:Value)(env:Env)(k:Sem Fin):Sem Fin:=(eval elt env>>=λv=>standAt elt.pos>>=λz=>call (.builtin "set.add") [acc,v]>>=λz=>pure ())>>=λz=>k
theorem Sg(elt target iter:Expr)(ifs:List Expr)(scope:Scope)(pos:Pos)(it acc:Value)(env:Env):
  compTurn (.SetComp elt [⟨target,iter,ifs,0⟩] scope pos) 0 it acc env=turnOf ⟨target,iter,ifs,0⟩ (Aa elt acc env) (.compLoop (.SetComp elt [⟨target,iter,ifs,0⟩] scope pos) 0 it acc env) it env:=rfl
theorem Ny:mF prog w A (Aa elt acc env) (λP s=>wpAny (model prog w) A (eval elt env) (λx s1=>wpAny (model prog w) A (call (.builtin "set.add") [acc,x]) (λy s2=>P s2) (λy y=>False) s1) (λy y=>False) s):=by intro k Q E s h;unfold Aa;exact Wc (Wc (Wx h (λx s1 h1=>Wc (Yw (Wc (Wx h1 (λy s2 h2=>We h2) λy y z=>z.elim)))) λy y z=>z.elim))
theorem Ip(I:Nat->Shared->Prop)
  (hturn:compTurn (.SetComp elt gens scope pos) depth it acc env=turnOf g bodyK (.compLoop (.SetComp elt gens scope pos) depth it acc env) it env) (hW:mF prog w A bodyK W)
  (turn:∀ n s,I n s->wpAny (model prog w) A (pyNext it) (λr s₁=>match r with
    |none=>R (.ok .next) s₁
    |some v=>wpAny (model prog w) A (letOwnedTupleGo g.target it v) (λz s₂=>wpAny (model prog w) A (assign g.target env v) (λz s₃=>
      wpAny (model prog w) A (um g.ifs env) (λok s₄=>if ok=true then W (λs₅=>∃m,m<n/\I m s₅) s₄ else ∃m,m<n/\I m s₄) (λz z=>False) s₃) (λz z=>False) s₂) (λz z=>False) s₁) (λz z=>False) s)
  (hmono:∀P P' s,(∀s,P s->P' s)->W P s->W P' s)
  (n:Nat) (h:I n s):codeAny (model prog w) A (.compLoop (.SetComp elt gens scope pos) depth it acc env) R s:=by
 refine codeAny_loop rfl I (λn s hI=>?_) n h
 show wpAny _ A ((compTurn (.SetComp elt gens scope pos) depth it acc env).onRaise (λx=>do noteFrame x env;theTreesLotGoes x)) _ _ s
 refine wpAny_noted ?_;rw[hturn];unfold turnOf;refine Wc (Yw (Wc (Wx (turn n s hI) (λr s₁ h₁=>?_) λz z h'=>h'.elim)))
 cases r with
 |none=>exact We h₁
 | some v=>
   refine Wc (Wx h₁ (λz s₂ h₂=>Wc (Wx h₂ (λz s₃ h₃=>Wc (Wx h₃ (λok s₄ h₄=>?_) λz z h'=>h'.elim)) λz z h'=>h'.elim)) λz z h'=>h'.elim)
   cases ok with
   |false=>have h₄:∃m,m<n/\I m s₄:=h₄;exact We ⟨rfl,h₄⟩
   |true=>
     have h₄:W (λs₅=>∃m,m<n/\I m s₅) s₄:=h₄
     exact hW _ _ _ _ (hmono _ _ _ (λs₅ h₅=>We ⟨rfl,h₅⟩) h₄)
theorem Gv(hg:gens[depth]?=some g)(ha:g.is_async=0)
  (h0:codeAny (model prog w) A (.compLoop (.SetComp elt gens scope pos) depth it acc env) R s)
  (h:wpAny (model prog w) A (pyIter it) (λit' s'=>codeAny (model prog w) A (.compLoop (.SetComp elt gens scope pos) depth it' acc env) R s') (λz z=>False) s) :
  codeAny (model prog w) A (.compStart (.SetComp elt gens scope pos) depth it acc env) R s:=by
 refine codeAny_of_tree ?_;show wpAny _ _ ((compStart (.SetComp elt gens scope pos) depth it acc env).onRaise (λx=>do noteFrame x env;standAt theWindowsPlace)) _ _ s
 refine wpAny_notedAt ?_;unfold compStart;have e1:(((clausesOf (.SetComp elt gens scope pos))[depth]?).elim false (·.is_async != 0))=false:=by show ((gens[depth]?).elim false (·.is_async != 0))=false;rw[hg];show (g.is_async != 0)=false;rw[ha];rfl
 rw[e1];simp only[Bool.false_eq_true,if_false,pure_bind];refine Wc (Yj (wpAny_ite ?_));split
 ·first
   |exact Wc (We (We (And.intro rfl h0)))
   |exact We (And.intro rfl h0)
 ·refine Wc (YM ?_);have e2:(clausesOf (.SetComp elt gens scope pos))[depth]?=some g:=hg;rw[e2];exact Wc (Yw (Wc (Wx h (λit' s' h'=>We (And.intro rfl h')) λz z x=>x.elim)))
end
def De(cs:List (Addr×List Int))(c:Addr×List Int):List (Addr×List Int):=if c.2∈cs.map (·.2) then cs else cs++[c]
theorem Dt(ok:HOk P w H h)(hb:H b=some (.tup (k.map V.int))):IsTupleKey (iK P w) h k b:=by
 obtain⟨_,its,hv,o,ho,hc,n,hd⟩:=ok _ _ hb;refine⟨o,its.toArray,n,ho,hc,hd,?_⟩;have:∀ {ks:List Int}{us:List Value},Vals (ks.map V.int) us->ItemsAre (iK P w) ks us:=by
  intro ks;induction ks with
  |nil=>intro us h;cases h;exact .nil
  | cons k ks ih=>
    intro us h;cases h with
    |cons r t=>obtain⟨u,rfl⟩:=r;exact .cons (intKind_is _ _ _ _) (ih t)
 simpa using this hv
end L2
namespace LA
open PySem PySem.Spec PyProof.Rows LS LB
section
variable{prog:Program}{w:World}{A:Around}{E:Value->Shared->Prop}{s:Shared}
theorem zU(hh:A.handled=none)(ho:s.heap.get? a=some (cQ es ep t))(hf:t.fits es.size=true)(ti:TI (!dH w) t)(hb:es.size<scanBound)(h:∀ h' tk d' vs,vs.Perm (es.toList.map (·.2))->s.heap.objs.size<=h'.objs.size->(∀ b o,s.heap.get? b=some o->h'.get? b=some o)->Q vs { s with heap:=h',toks:=tk,drawn:=d' }):wpAny (model prog w) A (collect (.ref a)) Q E s:=by
 unfold collect;refine Wc (aay (Y6 Z3 ?_));rw[Yq Z4 _];refine Wc (m:=newList []) (WW (We ⟨aal YL _,Y6 F.entry_list_iadd ?_⟩));rw[Yq YL _];have ha:a<s.heap.objs.size:=Wj ho;have ne:s.heap.objs.size≠a:=λz=>by rw[z]at ha;exact XQ _ ha
 have sr:Builtin.List.listSameRef (.ref s.heap.objs.size) (.ref a)=false:=by simp[Builtin.List.listSameRef,ne]
 have lst0:(s.heap.push (seqObj "list" #[] 0)).get? s.heap.objs.size=some (seqObj "list" #[] 0):=Wl _ rfl;have ho1:(s.heap.push (seqObj "list" #[] 0)).get? a=some (cQ es ep t):=Wd _ ho;show wpAny _ A.in1 (Builtin.List.listExtendWith (.ref s.heap.objs.size) (.ref a) (.ref s.heap.objs.size)) _ _ { s with heap:=s.heap.push (seqObj "list" #[] 0) }
 unfold Builtin.List.listExtendWith;refine Wc (Zd (T := "set") ⟨_,ho1,rfl⟩ ?_);rw[Wr (by rw[sr];decide)]
 refine Wc (KR (s:={ s with heap:=s.heap.push (seqObj "list" #[] 0) }) ho1 hf ti hb λh1 d1 I tp ord hI k1 hI1 htp c po=>?_)
 have ho2:=k1 a _ ho1;have lst1:=k1 _ _ lst0;have szI:s.heap.objs.size+1<=I:=by have:(s.heap.push (seqObj "list" #[] 0)).objs.size<=I:=hI;rw[WM]at this;exact this
 refine Wc (Xj (KJ ho2 ?_));dsimp only;refine Wc (m:=rule _) (YM ?_);unfold Builtin.List.listTouch;refine Wc (Wc (aaj lst1 rfl ?_ (by simp) (by simp)))
 have lst2:=aav lst1 (λx:Array Value=>x.push .none)
 refine aaj lst2 rfl ?_ (by simp[sizeLine_eq]) (by simp)
 have lst3:=aav lst2 (λx:Array Value=>x.pop)
 have up:∀b o,b≠s.heap.objs.size->h1.get? b=some o->((h1.update s.heap.objs.size (Obj.mapSeq λx=>x.push .none)).update s.heap.objs.size (Obj.mapSeq λx=>x.pop)).get? b=some o:=λb o hb e=>by rw[aaB _ _ _ _ hb,aaB _ _ _ _ hb];exact e
 have neI:I≠s.heap.objs.size:=Mp szI;have netp:tp≠s.heap.objs.size:=by
  rcases htp with z | ⟨z,_⟩
  ·rw[z];exact λq=>ne q.symm
  ·have:s.heap.objs.size+1<=tp:=by have:(s.heap.push (seqObj "list" #[] 0)).objs.size<=tp:=z;rw[WM]at this;exact this
   exact Mp this
 have hne:a≠I:=Wu (Zz ha szI);have hh1:A.in1.in1.handled=none:=by simp[hh]
 have W:=(J2 (prog:=prog) (w:=w) (A:=A.in1) (I:=I) (a:=a) (tp:=tp) (es:=es) (ep:=ep) (t:=t) (ord:=ord) (by simp[hh]) hf ti hne).toS
 have ol:ord.length=es.size:=by rw[po.length_eq];simp
 refine We ⟨aal F.plain_extend_loop _,codeAny_extend_loopS W (by rw[ol];exact fits_of_scanBound hb) s.heap.objs.size (by simp;exact⟨λz=>neI z.symm,ne,λz=>netp z.symm⟩) _ ord.length 0 _ #[] _ rfl (X3 _) ⟨up a _ (λq=>ne q.symm) ho2,c.at (λo e=>up I o neI e) λo e=>up tp o netp e⟩ lst3 (ItemsOf.nil _) λs' acc c' hm hS' hacc=>?_⟩
 refine Wc (m:=load s.heap.objs.size) (aan hS' ?_);have ea:acc.toList=ord:=by
  apply ZJ;intro k;by_cases hk:k<acc.size
  ·have:=hacc.2 k acc[k] (by rw[XD hk])
   rw[this,Z2,XD hk]
  ·rw[Xn (by simp;lia),Xn (by have:=hacc.1;lia)]
 obtain⟨h2,g2,d2,tk2,os2⟩:=s';have eg:g2=s.gens:=hm.gens;have ed:d2=d1:=hm.drawn;have eo:os2=s.os:=hm.os;subst eg ed eo;refine We (h h2 tk2 d2 acc.toList (by rw[ea];exact po) (Yr (Wj hS')) λb o e=>?_)
 have lt:b<s.heap.objs.size:=Wj e;refine hm.heap b o (by simp;exact⟨Wu lt,Wu (Zz lt szI)⟩) (up b o (Wu lt) (k1 b o (Wd _ e)))
end
end LA
namespace L2
open PySem PySem.Spec PyProof.Rows LS LA LB
end L2
namespace LA
open PySem PySem.Spec PyProof.Rows LS
end LA
namespace L2
open PySem PySem.Spec PyProof.Rows LS
end L2
namespace L3
open PySem PySem.Spec L2
open PyProof.Rows hiding St
inductive D where
 |non | bl (b:Bool) | int (i:Int) | str (x:Str)
 |tup (l:List D) | lst (l:List D)
 |dic (ks:List Key) (vs:List D)
 |obj (c:Str) (ns:List Str) (vs:List D)
 |scr (ns:List Int)
 |ref (n:Nat)
 |cls (c:Str) | ty (t:String)
 |exn (a:Addr)
instance:Inhabited D:=⟨.non⟩
inductive DO where
 |lst (l:List D)
 |dic (ks:List Key) (vs:List D)
 |ins (c:Str) (ns:List Str) (vs:List D)
abbrev Mo:=List DO
inductive R(α:Type) where
 |ok (a:α) | exc (c:Str)
def DM(α:Type):=Mo->Option (R α×Mo)
@[reducible] def DM.pure{α:Type}(a:α):DM α:=λM=>some (.ok a,M)
def DM.bind{α β:Type}(m:DM α)(f:α->DM β):DM β:=λM=>match m M with
 |none=>none
 |some (.exc c,M')=>some (.exc c,M')
 |some (.ok a,M')=>f a M'
instance:Monad DM where
 pure:=DM.pure
 bind:=DM.bind
def rd{α:Type}(f:Mo->Option α):DM α:=λM=>(f M).map λa=>(.ok a,M)
def opt{α:Type}(o:Option α):DM α:=λM=>o.map λa=>(.ok a,M)
def stuck{α:Type}:DM α:=λz=>none
def raise{α:Type}(c:Str):DM α:=λM=>some (.exc c,M)
abbrev ak:=List (Option D)
structure Rh where
 st:List Addr
 vo:List Addr
instance:Membership Addr Rh:=⟨λρ a=>a∈ρ.st\/a∈ρ.vo⟩
def Rh.put(ρ:Rh)(p:Addr):Rh:=⟨ρ.st++[p],ρ.vo⟩
def Rh.hold(ρ:Rh)(p:Addr):Rh:=⟨ρ.st,p::ρ.vo⟩
mutual
inductive Cv(mg:Str->Option Value)(ρ:Rh)(H:Hp):V->D->Prop
 |non:Cv mg ρ H .non .non
 |bl (b:Bool):Cv mg ρ H (.bl b) (.bl b)
 |int (i:Int):Cv mg ρ H (.int i) (.int i)
 |str (x:Str):Cv mg ρ H (.str x) (.str x)
 |tup {a:Addr}{xs:List V}{ds:List D}:a∉ρ->H a=some (.tup xs)->Cvs mg ρ H xs ds->Cv mg ρ H (.ref a) (.tup ds)
 |lst {a:Addr}{xs:List V}{ds:List D}:a∉ρ->H a=some (.lst xs)->Cvs mg ρ H xs ds->Cv mg ρ H (.ref a) (.lst ds)
 |dic {a:Addr}{ks:List Key}{xs:List V}{ds:List D}:a∉ρ->H a=some (.dK (ks.zip xs))->ks.length=xs.length->Cvs mg ρ H xs ds->Cv mg ρ H (.ref a) (.dic ks ds)
 |obj {a C dx:Addr}{c:Str}{ns:List Str}{xs:List V}{ds:List D}:a∉ρ->mg c=some (.ref C)->H a=some (.ins C dx (ns.zip xs))->ns.length=xs.length->Cvs mg ρ H xs ds->Cv mg ρ H (.ref a) (.obj c ns ds)
 |scr {a:Addr}{ns:List Int}:a∉ρ->Rd H a (.lst (ns.map V.int))->Cv mg ρ H (.ref a) (.scr ns)
 |ref {n:Nat}{a:Addr}:ρ.st[n]?=some a->Cv mg ρ H (.ref a) (.ref n)
 |cls {c:Str}{C:Addr}:mg c=some (.ref C)->Cv mg ρ H (.ref C) (.cls c)
 |ty (t:String):Cv mg ρ H (.ty t) (.ty t)
 |exn (a:Addr):Cv mg ρ H (.ref a) (.exn a)
inductive Cvs(mg:Str->Option Value)(ρ:Rh)(H:Hp):List V->List D->Prop
 |nil:Cvs mg ρ H [] []
 |cons {v:V}{d:D}{vs:List V}{ds:List D}:Cv mg ρ H v d->Cvs mg ρ H vs ds->Cvs mg ρ H (v::vs) (d::ds)
end
structure Ext(ρ:Rh)(H:Hp)(ρ':Rh)(H':Hp):Prop where
 pre:∃τ,ρ'.st=ρ.st++τ
 vo:ρ'.vo=ρ.vo
 new:∀a,a∈ρ'.st->a∉ρ.st->H a=none
 keep:∀a o,H a=some o->a∉ρ.st->H' a=some o
theorem Ext.refl:Ext ρ H ρ H:=⟨⟨[],by simp⟩,rfl,λa h n=>absurd h n,λz z h z=>h⟩
theorem Ext.keeps(e:Ext ρ H ρ' H')(h:H a=some o)(n:a∉ρ):H' a=some o:=e.keep a o h λz=>n (.inl z)
theorem Ext.out1(e:Ext ρ H ρ' H')(h:H a=some o)(n:a∉ρ.st):a∉ρ'.st:=λz=>by have:=e.new a z n;rw[h]at this;cases this
theorem Ext.out(e:Ext ρ H ρ' H')(h:H a=some o)(n:a∉ρ):a∉ρ':=λz=>by
 rcases z with z | z
 ·exact e.out1 h (λy=>n (.inl y)) z
 ·rw[e.vo]at z;exact n (.inr z)
theorem Ext.trans(e:Ext ρ H ρ1 H1)(f:Ext ρ1 H1 ρ2 H2):Ext ρ H ρ2 H2:=by
 refine⟨?_,f.vo.trans e.vo,λa h n=>?_,λa o h n=>f.keep a o (e.keep a o h n) (e.out1 h n)⟩
 ·obtain⟨τ,h1⟩:=e.pre;obtain⟨υ,h2⟩:=f.pre;exact⟨τ++υ,by rw[h2,h1,XH]⟩
 ·by_cases z:a∈ρ1.st
  ·exact e.new a z n
  ·cases q:H a with
   |none=>rfl
   |some o=>have:=f.new a h z;rw[e.keep a o q n]at this;cases this
theorem Ext.at(e:Ext ρ H ρ' H'){n:Nat}(h:ρ.st[n]?=some a):ρ'.st[n]?=some a:=by obtain⟨τ,h1⟩:=e.pre;rw[h1,Ws (Wf.mp h).1];exact h
theorem Rh.nhold{ρ:Rh}{a p:Addr}(h:a∉ρ)(n:a≠p):a∉ρ.hold p:=λz=>by
 rcases z with z | z
 ·exact h (.inl z)
 ·rcases Wy.mp z with z | z
  ·exact n z
  ·exact h (.inr z)
section
variable{mg:Str->Option Value}{ρ ρ':Rh}{H H':Hp}
theorem Cvs.ind{P:List V->List D->Prop}{vs:List V}{ds:List D}(h:Cvs mg ρ H vs ds)(n:P [] [])(c:∀{v d vs ds},Cv mg ρ H v d->Cvs mg ρ H vs ds->P vs ds->P (v::vs) (d::ds)):P vs ds:=
 Cvs.rec (motive_1:=λz z z=>True) (motive_2:=λvs ds z=>P vs ds) ⟨⟩ (λz=>⟨⟩) (λz=>⟨⟩) (λz=>⟨⟩) (λz z z z=>⟨⟩) (λz z z z=>⟨⟩) (λz z z z z=>⟨⟩) (λz z z z z z=>⟨⟩) (λz z=>⟨⟩) (λz=>⟨⟩) (λz=>⟨⟩) (λz=>⟨⟩) (λz=>⟨⟩) n (λa t z i=>c a t i) h
theorem Cvs.gen(at_:∀(n:Nat) a,ρ.st[n]?=some a->ρ'.st[n]?=some a)(kp:∀a o,H a=some o->a∉ρ->(∀φ,o≠.ext φ)->a∉ρ'/\H' a=some o){vs:List V}{ds:List D}(h:Cvs mg ρ H vs ds):Cvs mg ρ' H' vs ds:=
 Cvs.rec (motive_1:=λv d z=>Cv mg ρ' H' v d) (motive_2:=λvs ds z=>Cvs mg ρ' H' vs ds) .non .bl .int .str (λn h z c=>.tup (kp _ _ h n nofun).1 (kp _ _ h n nofun).2 c) (λn h z c=>.lst (kp _ _ h n nofun).1 (kp _ _ h n nofun).2 c) (λn h l z c=>.dic (kp _ _ h n nofun).1 (kp _ _ h n nofun).2 l c) (λn m h l z c=>.obj (kp _ _ h n nofun).1 m (kp _ _ h n nofun).2 l c)
  (λn h=>h.elim (λh=>.scr (kp _ _ h n nofun).1 (.inl (kp _ _ h n nofun).2)) λ⟨_,h⟩=>.scr (kp _ _ h n nofun).1 (.inr ⟨_,(kp _ _ h n nofun).2⟩)) (λh=>.ref (at_ _ _ h)) .cls .ty .exn .nil (λz z=>.cons) h
theorem Cvs.hd{v:V}{d:D}{vs:List V}{ds:List D}(h:Cvs mg ρ H (v::vs) (d::ds)):Cv mg ρ H v d:=by cases h;assumption
theorem Cv.gen(at_:∀(n:Nat) a,ρ.st[n]?=some a->ρ'.st[n]?=some a)(kp:∀a o,H a=some o->a∉ρ->(∀φ,o≠.ext φ)->a∉ρ'/\H' a=some o){v:V}{d:D}(h:Cv mg ρ H v d):Cv mg ρ' H' v d:=(Cvs.gen at_ kp (.cons h .nil)).hd
theorem Cv.mono(e:Ext ρ H ρ' H'){v:V}{d:D}(h:Cv mg ρ H v d):Cv mg ρ' H' v d:=h.gen (λz z=>e.at) λz z h n z=>⟨e.out h n,e.keeps h n⟩
theorem Cvs.mono(e:Ext ρ H ρ' H'){v:List V}{d:List D}(h:Cvs mg ρ H v d):Cvs mg ρ' H' v d:=h.gen (λz z=>e.at) λz z h n z=>⟨e.out h n,e.keeps h n⟩
theorem Cvs.len{vs:List V}{ds:List D}(h:Cvs mg ρ H vs ds):vs.length=ds.length:=h.ind (P:=λvs ds=>vs.length=ds.length) rfl λz z=>congrArg (·+ 1)
theorem Cvs.append{vs us:List V}{ds es:List D}(h:Cvs mg ρ H vs ds)(h2:Cvs mg ρ H us es):Cvs mg ρ H (vs++us) (ds++es):=h.ind (P:=λvs ds=>Cvs mg ρ H (vs++us) (ds++es)) h2 λa z=>.cons a
theorem Cvs.take{vs:List V}{ds:List D}(n:Nat)(h:Cvs mg ρ H vs ds):Cvs mg ρ H (vs.take n) (ds.take n):=h.ind (P:=λvs ds=>∀n,Cvs mg ρ H (vs.take n) (ds.take n)) (λn=>by rw[List.take_nil,List.take_nil];exact .nil) (λa z i n=>by cases n with | zero=>exact .nil | succ n=>exact .cons a (i n)) n
theorem Cvs.drop{vs:List V}{ds:List D}(n:Nat)(h:Cvs mg ρ H vs ds):Cvs mg ρ H (vs.drop n) (ds.drop n):=h.ind (P:=λvs ds=>∀n,Cvs mg ρ H (vs.drop n) (ds.drop n)) (λn=>by rw[List.drop_nil,List.drop_nil];exact .nil) (λa t i n=>by cases n with | zero=>exact .cons a t | succ n=>exact i n) n
theorem Cvs.get{vs:List V}{ds:List D}{i:Nat}{d:D}(h:Cvs mg ρ H vs ds):ds[i]?=some d->∃v,vs[i]?=some v/\Cv mg ρ H v d:=h.ind (P:=λvs ds=>∀i,ds[i]?=some d->∃v,vs[i]?=some v/\Cv mg ρ H v d) (λz e=>by cases e) (λ{v _ _ _} a _ r i=>by cases i with | zero=>exact λe=>⟨v,rfl,Wq e ▸ a⟩ | succ n=>exact r n) i
theorem Cvs.set{v:V}{d:D}(h:Cv mg ρ H v d){vs:List V}{ds:List D}(i:Nat)(c:Cvs mg ρ H vs ds):Cvs mg ρ H (vs.set i v) (ds.set i d):=c.ind (P:=λvs ds=>∀i,Cvs mg ρ H (vs.set i v) (ds.set i d)) (λz=>.nil) (λa t r i=>by cases i with | zero=>exact .cons h t | succ n=>exact .cons a (r n)) i
theorem Cvs.ints:∀ns:List Int,Cvs mg ρ H (ns.map V.int) (ns.map D.int)
 |[]=>.nil
 |n::ns=>.cons (.int n) (Cvs.ints ns)
def lu(mg:Str->Option Value)(ρ:Rh)(H:Hp)(a:Addr):DO->Prop
 |.lst l=>∃xs,H a=some (.lst xs)/\Cvs mg ρ H xs l
 |.dic ks l=>∃xs,H a=some (.dK (ks.zip xs))/\ks.length=xs.length/\Cvs mg ρ H xs l
 |.ins c ns l=>∃C dx xs,mg c=some (.ref C)/\H a=some (.ins C dx (ns.zip xs))/\ns.length=xs.length/\Cvs mg ρ H xs l
theorem lu.some{a:Addr}{o:DO}(h:lu mg ρ H a o):∃u,H a=some u:=by
 cases o with
 |lst l=>obtain⟨xs,h,_⟩:=h;exact⟨_,h⟩
 |dic ks l=>obtain⟨xs,h,_⟩:=h;exact⟨_,h⟩
 |ins c ns l=>obtain⟨C,dx,xs,_,h,_⟩:=h;exact⟨_,h⟩
theorem lu.mono{a:Addr}{o:DO}(e:Ext ρ H ρ' H')(k:H' a=H a)(h:lu mg ρ H a o):lu mg ρ' H' a o:=by
 cases o with
 |lst l=>obtain⟨xs,h,c⟩:=h;exact⟨xs,k.trans h,c.mono e⟩
 |dic ks l=>obtain⟨xs,h,q,c⟩:=h;exact⟨xs,k.trans h,q,c.mono e⟩
 |ins c ns l=>obtain⟨C,dx,xs,m,h,q,c⟩:=h;exact⟨C,dx,xs,m,k.trans h,q,c.mono e⟩
structure J(mg:Str->Option Value)(ρ:Rh)(M:Mo)(H:Hp):Prop where
 len:ρ.st.length=M.length
 nd:ρ.st.Nodup
 obj:∀(n:Nat) a o,ρ.st[n]?=some a->M[n]?=some o->lu mg ρ H a o
 vol:∀a,a∈ρ.vo->a∉ρ.st/\∃xs,H a=some (.lst xs)
theorem J.some{M:Mo}(j:J mg ρ M H){a:Addr}(h:a∈ρ):∃u,H a=some u:=by
 rcases h with h | h
 ·obtain⟨n,hn⟩:=Zc.mp h;have lt:n<M.length:=by rw[<-j.len];exact (Wf.mp hn).1
  exact (j.obj n a M[n] hn (Wk lt)).some
 ·obtain⟨_,xs,e⟩:=j.vol a h;exact⟨_,e⟩
theorem J.fresh{M:Mo}(j:J mg ρ M H){p:Addr}(h:H p=none):p∉ρ:=λz=>by obtain⟨u,e⟩:=j.some z;rw[h]at e;cases e
theorem J.inj{M:Mo}(j:J mg ρ M H){n m:Nat}{a:Addr}(h:ρ.st[n]?=Option.some a)(k:ρ.st[m]?=Option.some a):n=m:=by
 obtain⟨h1,e1⟩:=Wf.mp h;obtain⟨h2,e2⟩:=Wf.mp k;have q:∀i k (hi:i<ρ.st.length) (hk:k<ρ.st.length),i<k->ρ.st[i]≠ρ.st[k]:=λi k hi hk lt=>aap.mp j.nd i k hi hk lt
 rcases Nat.lt_trichotomy n m with z | z | z
 ·exact absurd (e1.trans e2.symm) (q n m h1 h2 z)
 ·exact z
 ·exact absurd (e2.trans e1.symm) (q m n h2 h1 z)
theorem Ext.lay{p:Addr}{o:HO}(h:H p=none):Ext ρ H ρ (upd H p o):=⟨⟨[],by simp⟩,rfl,λa h n=>absurd h n,λa o e z=>by rw[upd_ne (ne_of_none e h)];exact e⟩
theorem Ext.same(S:Same H H'):Ext ρ H ρ H':=⟨⟨[],by simp⟩,rfl,λa h n=>absurd h n,λa o e z=>S _ _ e⟩
theorem J.same{M:Mo}(j:J mg ρ M H)(S:Same H H'):J mg ρ M H':=⟨j.len,j.nd,λn a o h k=>by have c:=j.obj n a o h k;obtain⟨u,e⟩:=c.some;exact c.mono (Ext.same S) (by rw[e,S _ _ e]),λa h=>let ⟨x,xs,e⟩:=j.vol a h;⟨x,xs,S _ _ e⟩⟩
theorem J.lay{M:Mo}(j:J mg ρ M H){p:Addr}(o:HO)(h:H p=none):J mg ρ M (upd H p o):=j.same (same_new h o)
theorem Ext.put{p:Addr}{o:HO}(h:H p=none):Ext ρ H (ρ.put p) (upd H p o):=⟨⟨[p],rfl⟩,rfl,λa ha n=>by
 rcases W5.mp ha with z | z
 ·exact absurd z n
 ·rw[W2.mp z];exact h,λa o e y=>by rw[upd_ne (ne_of_none e h)];exact e⟩
theorem J.put{M:Mo}(j:J mg ρ M H){p:Addr}{o:HO}{u:DO}(h:H p=none)(c:lu mg (ρ.put p) (upd H p o) p u):J mg (ρ.put p) (M++[u]) (upd H p o):=by
 have np:p∉ρ.st:=λz=>j.fresh h (.inl z)
 refine⟨?_,?_,λn a w h1 h2=>?_,λa ha=>?_⟩
 ·show (ρ.st++[p]).length=_;rw[Ww,Ww,j.len];rfl
 ·show (ρ.st++[p]).Nodup;rw[ZL];exact⟨j.nd,by simp,λx hx y hy e=>by rw[W2.mp hy]at e;exact np (e ▸ hx)⟩
 ·have h1:(ρ.st++[p])[n]?=Option.some a:=h1;by_cases hn:n<ρ.st.length
  ·rw[Ws hn]at h1;rw[Ws (by rw[<-j.len];exact hn)]at h2
   have c:=j.obj n a w h1 h2;exact c.mono (Ext.put h) (upd_ne λ(z:a=p)=>np (z ▸ W6 h1))
  ·have hl:n<(ρ.st++[p]).length:=(Wf.mp h1).1;rw[Ww]at hl;have e:n=ρ.st.length:=by have:[p].length=1:=rfl;lia
   subst e;rw[Xc (Wg _)]at h1;rw[j.len,Xc (Wg _)]at h2;simp at h1 h2;subst h1 h2;exact c
 ·obtain⟨x,xs,e⟩:=j.vol a ha;have ne:a≠p:=ne_of_none e h;refine⟨λz=>?_,xs,by rw[upd_ne ne];exact e⟩
  rcases W5.mp z with z | z
  ·exact x z
  ·exact ne (W2.mp z)
theorem Ext.upd{p:Addr}{o:HO}(h:p∈ρ.st):Ext ρ H ρ (L2.upd H p o):=⟨⟨[],by simp⟩,rfl,λa h n=>absurd h n,λa u e n=>by rw[upd_ne (λ(z:a=p)=>n (z ▸ h))];exact e⟩
theorem J.upd{M:Mo}(j:J mg ρ M H){n:Nat}{p:Addr}{o:HO}{u:DO}(h:ρ.st[n]?=Option.some p)(c:lu mg ρ (L2.upd H p o) p u):J mg ρ (M.set n u) (L2.upd H p o):=by
 refine⟨by rw[Xz];exact j.len,j.nd,λm a w h1 h2=>?_,λa ha=>?_⟩
 ·by_cases e:m=n
  ·subst e;rw[h]at h1;cases h1;have lt:m<M.length:=by rw[<-j.len];exact (Wf.mp h).1
   rw[WR lt]at h2;cases h2;exact c
  ·rw[Xh (λz=>e z.symm)]at h2
   have ne:a≠p:=λz=>by subst z;exact e (j.inj h1 h)
   exact (j.obj m a w h1 h2).mono (Ext.upd (W6 h)) (by rw[upd_ne ne])
 ·obtain⟨x,xs,e⟩:=j.vol a ha;exact⟨x,xs,by rw[upd_ne (λ(z:a=p)=>x (z ▸ W6 h))];exact e⟩
theorem O6{p a:Addr}{o:HO}(hp:p∈ρ.vo)(n:a∉ρ):L2.upd H p o a=H a:=upd_ne λz=>n (by rw[z];exact .inr hp)
theorem Cvs.hold{p:Addr}{o:HO}(hp:p∈ρ.vo){v:List V}{d:List D}(h:Cvs mg ρ H v d):Cvs mg ρ (L2.upd H p o) v d:=h.gen (λz z h=>h) λz z h n z=>⟨n,(O6 hp n).trans h⟩
theorem Cvs.less{ρ1:Rh}(hs:ρ1.st=ρ.st)(hv:∀a,a∈ρ1.vo->a∈ρ.vo){v:List V}{d:List D}(h:Cvs mg ρ H v d):Cvs mg ρ1 H v d:=h.gen (λx x h=>hs ▸ h) λx x h n x=>⟨λz=>n (z.elim (λy=>.inl (hs ▸ y)) λy=>.inr (hv _ y)),h⟩
theorem Cvs.more{p:Addr}(hp:H p=none){v:List V}{d:List D}(h:Cvs mg ρ H v d):Cvs mg (ρ.hold p) H v d:=h.gen (ρ:=ρ) (ρ':=ρ.hold p) (λz z h=>h) λz z h n z=>⟨Rh.nhold n (ne_of_none h hp),h⟩
theorem lu.map{ρ1:Rh}{H1:Hp}{a:Addr}{o:DO}(k:H1 a=H a)(f:∀vs ds,Cvs mg ρ H vs ds->Cvs mg ρ1 H1 vs ds)(h:lu mg ρ H a o):lu mg ρ1 H1 a o:=by
 cases o with
 |lst l=>obtain⟨xs,h,c⟩:=h;exact⟨xs,k.trans h,f _ _ c⟩
 |dic ks l=>obtain⟨xs,h,q,c⟩:=h;exact⟨xs,k.trans h,q,f _ _ c⟩
 |ins c ns l=>obtain⟨C,dx,xs,m,h,q,c⟩:=h;exact⟨C,dx,xs,m,k.trans h,q,f _ _ c⟩
theorem J.begin{M:Mo}(j:J mg ρ M H){p:Addr}(hp:H p=none):J mg (ρ.hold p) M (L2.upd H p (.lst [])):=by
 have np:p∉ρ.st:=λz=>j.fresh hp (.inl z)
 refine⟨j.len,j.nd,λn a o h1 h2=>?_,λa ha=>?_⟩
 ·exact (j.obj n a o h1 h2).map (upd_ne λ(z:a=p)=>np (z ▸ W6 h1)) λvs ds c=>(c.more hp).hold (.head _)
 ·rcases Wy.mp ha with rfl | ha
  ·exact⟨np,[],upd_same⟩
  ·obtain⟨x,xs,e⟩:=j.vol a ha;exact⟨x,xs,by rw[upd_ne (ne_of_none e hp)];exact e⟩
theorem J.grow{M:Mo}(j:J mg ρ M H){p:Addr}{ys:List V}(hp:p∈ρ.vo):J mg ρ M (L2.upd H p (.lst ys)):=by
 refine⟨j.len,j.nd,λn a o h1 h2=>?_,λa ha=>?_⟩
 ·exact (j.obj n a o h1 h2).map (upd_ne λ(z:a=p)=>(j.vol p hp).1 (z ▸ W6 h1)) λvs ds c=>c.hold hp
 ·by_cases z:a=p
  ·subst z;exact⟨(j.vol a ha).1,ys,upd_same⟩
  ·obtain⟨x,xs,e⟩:=j.vol a ha;exact⟨x,xs,by rw[upd_ne z];exact e⟩
theorem J.done{M:Mo}{p:Addr}{ρ1:Rh}(j:J mg ρ1 M H)(hv:ρ1.vo=p::ρ.vo):J mg ⟨ρ1.st,ρ.vo⟩ M H:=by
 refine⟨j.len,j.nd,λn a o h1 h2=>?_,λa ha=>?_⟩
 ·exact lu.map (ρ:=ρ1) rfl (λvs ds c=>Cvs.less (ρ:=ρ1) (ρ1:=⟨ρ1.st,ρ.vo⟩) rfl (λa ha=>by rw[hv];exact .tail _ ha) c) (j.obj n a o h1 h2)
 ·obtain⟨x,y⟩:=j.vol a (by rw[hv];exact .tail _ ha)
  exact⟨x,y⟩
end
structure Kp(ρ:Rh)(H:Hp)(ρ':Rh)(H':Hp):Prop where
 pre:∃τ,ρ'.st=ρ.st++τ
 keep:∀a o,H a=some o->a∉ρ->(∀φ,o≠.ext φ)->a∉ρ'/\H' a=some o
theorem Ext.kp{ρ ρ':Rh}{H H':Hp}(e:Ext ρ H ρ' H'):Kp ρ H ρ' H':=⟨e.pre,λa o h n z=>⟨e.out h n,e.keeps h n⟩⟩
theorem Kp.trans{ρ ρ1 ρ2:Rh}{H H1 H2:Hp}(a:Kp ρ H ρ1 H1)(b:Kp ρ1 H1 ρ2 H2):Kp ρ H ρ2 H2:=by
 refine⟨?_,λc o h n ne=>let ⟨x,y⟩:=a.keep c o h n ne;b.keep c o y x ne⟩
 obtain⟨τ,h1⟩:=a.pre;obtain⟨υ,h2⟩:=b.pre;exact⟨τ++υ,by rw[h2,h1,XH]⟩
theorem Kp.at{ρ ρ':Rh}{H H':Hp}(e:Kp ρ H ρ' H'){n:Nat}{a:Addr}(h:ρ.st[n]?=some a):ρ'.st[n]?=some a:=by obtain⟨τ,h1⟩:=e.pre;rw[h1,Ws (Wf.mp h).1];exact h
section
variable{mg:Str->Option Value}{ρ ρ':Rh}{H H':Hp}
theorem Cv.kp(e:Kp ρ H ρ' H'){v:V}{d:D}(h:Cv mg ρ H v d):Cv mg ρ' H' v d:=h.gen (λz z=>e.at) e.keep
theorem Cvs.kp(e:Kp ρ H ρ' H'){v:List V}{d:List D}(h:Cvs mg ρ H v d):Cvs mg ρ' H' v d:=h.gen (λz z=>e.at) e.keep
end
def pB(mg:Str->Option Value)(ρ:Rh)(H:Hp){α β:Type}(rel:Rh->Hp->β->α->Prop)(Q:β->Hp->Prop)(E:XK):R α×Mo->Prop
 |(.ok a,M')=>∀ρ' H' b,Ext ρ H ρ' H'->J mg ρ' M' H'->rel ρ' H' b a->Q b H'
 |(.exc c,M')=>∀ρ' H' C,Ext ρ H ρ' H'->J mg ρ' M' H'->mg c=some (.ref C)->E (.ref C) none H'
def Go(mg:Str->Option Value)(E:XK){α β:Type}(rel:Rh->Hp->β->α->Prop)(Q:β->Hp->Prop)(ρ:Rh)(H:Hp)(m:DM α)(M:Mo):Prop:=∃r,m M=some r/\pB mg ρ H rel Q E r
section
variable{mg:Str->Option Value}{ρ ρ':Rh}{H H':Hp}{E:XK}{α β γ δ':Type}{rel:Rh->Hp->β->α->Prop}{rel':Rh->Hp->δ'->γ->Prop}{Q:δ'->Hp->Prop}{Q':β->Hp->Prop}
theorem pB.mono{r:R α×Mo}(e:Ext ρ H ρ' H')(h:pB mg ρ H rel Q' E r):pB mg ρ' H' rel Q' E r:=by
 obtain⟨r,M'⟩:=r;cases r with
 |ok a=>exact λρ2 H2 b e2 j c=>h ρ2 H2 b (e.trans e2) j c
 |exc c=>exact λρ2 H2 C e2 j m=>h ρ2 H2 C (e.trans e2) j m
set_option tactic.hygienic true in
theorem Go.bind{m:DM α}{k:α->DM γ}{M:Mo}(g:Go mg E rel' Q ρ H (m>>=k) M)
  (f:∀ρ1 H1 M1 b a,Ext ρ H ρ1 H1->J mg ρ1 M1 H1->rel ρ1 H1 b a->Go mg E rel' Q ρ1 H1 (k a) M1->Q' b H1):Go mg E rel Q' ρ H m M:=by
 obtain⟨r,e,p⟩:=g;have e:DM.bind m k M=some r:=e;unfold DM.bind at e;split at e
 ·cases e
 ·rename_i c M' em;cases e;exact⟨_,em,p⟩
 ·rename_i a M' em;exact⟨_,em,λρ1 H1 b x j c=>f ρ1 H1 M' b a x j c ⟨r,e,p.mono x⟩⟩
theorem Go.rd{f:Mo->Option α}{M:Mo}(g:Go mg E rel Q' ρ H (rd f) M):∃a,f M=some a/\∀ρ' H' b,Ext ρ H ρ' H'->J mg ρ' M H'->rel ρ' H' b a->Q' b H':=by obtain⟨r,e,p⟩:=g;obtain⟨a,e1,rfl⟩:=Wi.mp e;exact⟨a,e1,p⟩
theorem Go.opt{o:Option α}{M:Mo}(g:Go mg E rel Q' ρ H (opt o) M):∃a,o=some a/\∀ρ' H' b,Ext ρ H ρ' H'->J mg ρ' M H'->rel ρ' H' b a->Q' b H':=by obtain⟨r,e,p⟩:=g;obtain⟨a,e1,rfl⟩:=Wi.mp e;exact⟨a,e1,p⟩
theorem Go.pure{a:α}{M:Mo}(g:Go mg E rel Q' ρ H (pure a) M):∀ρ' H' b,Ext ρ H ρ' H'->J mg ρ' M H'->rel ρ' H' b a->Q' b H':=by obtain⟨r,e,p⟩:=g;have e:some (R.ok a,M)=some r:=e;cases e;exact p
end
structure Ev(mg:Str->Option Value)(ρ:Rh)(H:Hp)(σ:St)(δ:ak):Prop where
 len:σ.length=δ.length
 val:∀(i:Nat) d,δ[i]?=some (some d)->∃v,σ[i]?=some (some v)/\Cv mg ρ H v d
theorem Ev.mono{mg:Str->Option Value}{ρ ρ':Rh}{H H':Hp}{σ:St}{δ:ak}(e:Ext ρ H ρ' H')(h:Ev mg ρ H σ δ):Ev mg ρ' H' σ δ:=
 ⟨h.len,λi d q=>let ⟨v,a,b⟩:=h.val i d q;⟨v,a,b.mono e⟩⟩
theorem Ev.kp{mg:Str->Option Value}{ρ ρ':Rh}{H H':Hp}{σ:St}{δ:ak}(e:Kp ρ H ρ' H')(h:Ev mg ρ H σ δ):Ev mg ρ' H' σ δ:=
 ⟨h.len,λi d q=>let ⟨v,a,b⟩:=h.val i d q;⟨v,a,b.kp e⟩⟩
theorem Ev.set{mg:Str->Option Value}{ρ:Rh}{H:Hp}{σ:St}{δ:ak}{i:Nat}{v:V}{d:D}(h:Ev mg ρ H σ δ)(c:Cv mg ρ H v d):Ev mg ρ H (σ.set i (some v)) (δ.set i (some d)):=by
 refine⟨by rw[Xz,Xz,h.len],λj x q=>?_⟩
 by_cases e:j=i
 ·subst e;have hj:j<(δ.set j (some d)).length:=(Wf.mp q).1;rw[Xz]at hj;rw[WR hj]at q;cases q;exact⟨v,WR (by rw[h.len];exact hj),c⟩
 ·rw[Xh (λz=>e z.symm)]at q ⊢
  exact h.val j x q
def tD(mg:Str->Option Value)(E:XK){α β:Type}(rel:Rh->Hp->β->α->Prop)(f:ak->DM α):St->Hp->(β->Hp->Prop)->Prop:=λσ H Q=>
 ∃ρ δ M,Ev mg ρ H σ δ/\J mg ρ M H/\Go mg E rel Q ρ H (f δ) M
def Bv(_:Rh)(_:Hp)(b a:Bool):Prop:=b=a
structure DE(X:Cx)(E:XK)(e:Expr)(f:ak->DM D):Prop where
 h:PE X e (tD X.mg E (Cv X.mg) f)
structure DA(X:Cx)(E:XK)(es:List Expr)(f:ak->DM (List D)):Prop where
 h:QA X es (tD X.mg E (Cvs X.mg) f)
structure DT(X:Cx)(E:XK)(e:Expr)(f:ak->DM Bool):Prop where
 h:PT X e (tD X.mg E Bv f)
theorem PE.mono{X:Cx}{e:Expr}{t t':TE}(h:PE X e t)(f:∀σ H Q,t' σ H Q->t σ H Q):PE X e t':=λaaD s σ H Q I q=>h aaD s σ H Q I (f σ H Q q)
theorem PT.mono{X:Cx}{e:Expr}{t t':TT}(h:PT X e t)(f:∀σ H Q,t' σ H Q->t σ H Q):PT X e t':=λaaD s σ H Q I q=>h aaD s σ H Q I (f σ H Q q)
theorem PA.mono{X:Cx}{e:List Expr}{t t':TA}(h:PA X e t)(f:∀σ H Q,t' σ H Q->t σ H Q):PA X e t':=λp aaD s σ H Q I q=>h p aaD s σ H Q I (f σ H Q q)
mutual
def toPy:D->Option PyData
 |.non=>some .none
 |.bl b=>some (.bool b)
 |.int i=>some (.int i)
 |.str x=>some (.str x)
 |.tup l=>(fB l).map .tuple
 |.lst l=>(fB l).map .list
 |_=>none
def fB:List D->Option (List PyData)
 |[]=>some []
 |d::l=>match toPy d,fB l with
   |some p,some ps=>some (p::ps)
   |_,_=>none
end
section
variable{mg:Str->Option Value}{ρ:Rh}{H:Hp}
theorem nO{α:Type}{p:α}{P:Prop}(e:none=some p):P:=nomatch e
theorem Cvs.repF{vs:List V}{ds:List D}{ps:List PyData}(h:Cvs mg ρ H vs ds):fB ds=some ps->RepsF H true vs ps:=
 Cvs.rec (motive_1:=λv d z=>∀ p,toPy d=some p->RepF H true v p) (motive_2:=λvs ds z=>∀ ps,fB ds=some ps->RepsF H true vs ps)
  (λz e=>Wq e ▸ .non) (λb z e=>Wq e ▸ .bl b) (λb z e=>Wq e ▸ .int b) (λb z e=>Wq e ▸ .str b)
  (λz h z c z e=>by obtain⟨ps,e1,e2⟩:=Wi.mp e;exact e2 ▸ .tup h (c _ e1)) (λz h z c z e=>by obtain⟨ps,e1,e2⟩:=Wi.mp e;exact e2 ▸ .lst h (c _ e1))
  (λz z z z z z e=>nO e) (λz z z z z z z e=>nO e) (λz z z e=>nO e) (λz z e=>nO e) (λz z e=>nO e) (λz z e=>nO e) (λz z e=>nO e)
  (λz e=>Wq e ▸ .nil) (λ{_ d _ l} _ _ i j _ e=>by
    revert e;show (match toPy d,fB l with | some p,some ps=>some (p::ps) | _,_=>none)=_->_
    cases h1:toPy d with
    |none=>exact λe=>nO e
    |some p=>cases h2:fB l with
      |none=>exact λe=>nO e
      |some q=>exact λe=>Wq e ▸ .cons (i _ h1) (j _ h2)) h ps
theorem Cv.repF{v:V}{d:D}{p:PyData}(h:Cv mg ρ H v d)(e:toPy d=some p):RepF H true v p:=by
 have z:fB [d]=some [p]:=by
  show (match toPy d,some [] with | some p,some ps=>some (p::ps) | _,_=>none)=_
  rw[e]
 cases Cvs.repF (.cons h .nil) z;assumption
end
section
variable{X:Cx}{E:XK}{a b c:Expr}{fa fb fc:ak->DM D}{pos:Pos}
def fZ(i:Nat)(δ:ak):DM D:=opt ((δ[i]?).join)
theorem aa(i:Nat){x:Str}(hN:X.N[i]?=some x:=by rfl)(hv:Vis X.env.scope x:=by first | exact Or.inl rfl | exact Or.inr (Or.inl rfl) | exact Or.inr (Or.inr rfl))(hd:(x==("__debug__":Str))=false:=by decide)
  (hcd:(x==("__classdict__":Str))=false:=by decide):DE X E (.Name x pos) (fZ i):=⟨PE.mono (pe_var (i:=i) hN hv hd hcd) λσ H Q h=>by
 obtain⟨ρ,δ,M,ev,j,g⟩:=h;obtain⟨d,e,q⟩:=g.opt;have e':δ[i]?=some (some d):=by
  cases z:δ[i]? with
  |none=>rw[z]at e;cases e
  |some o=>rw[z]at e;exact congrArg some e
 obtain⟨v,h1,h2⟩:=ev.val i d e';exact⟨v,h1,q ρ H v .refl j h2⟩⟩
theorem pD{e:Expr}{v:V}{d:D}(h:PE X e (tC v))(hc:∀ρ H,Cv X.mg ρ H v d):DE X E e (λz=>pure d):=⟨PE.mono h λσ H Q h=>by obtain⟨ρ,δ,M,ev,j,g⟩:=h;exact g.pure ρ H v .refl j (hc _ _)⟩
theorem aA{i j}:DE X E (.Constant (.int i) j pos) (λz=>pure (.int i)):=pD pe_int λz z=>.int i
theorem d7{i j}:DE X E (.Constant (.bool i) j pos) (λz=>pure (.bl i)):=pD pe_bl λz z=>.bl i
theorem Fg{x:Str}{i:Int}{t:Tok}(h:X.mg x=some (.int i t))(hg:Gl X x:=by rfl)(hd:(x==("__debug__":Str))=false:=by decide):DE X E (.Name x pos) (λz=>pure (.int i)):=pD (S8 h hg hd) λz z=>.int i
theorem pG{x:Str}{T:String}(hm:X.mg x=none)(hg:Gl X x:=by rfl)(hv:bootBuiltins x=some (.type T):=by decide +kernel)(hn:x≠"__name__":=by decide)(hdb:(x==("__debug__":Str))=false:=by decide):DE X E (.Name x pos) (λz=>pure (.ty T)):=
 pD (Tc hm hg hv hn hdb) λz z=>.ty T
def rD(mg:Str->Option Value)(E:XK)(g:D->D->DM D):R2:=λx y H Q=>∃ρ M dx dy,J mg ρ M H/\Cv mg ρ H x dx/\Cv mg ρ H y dy/\Go mg E (Cv mg) Q ρ H (g dx dy) M
def cF(X:Cx)(E:XK)(f:Value->Value->Sem Value)(g:D->D->DM D):Prop:=OpR X f (rD X.mg E g)
theorem Mi{g:D->D->DM D}{r:R2}(hr:∀x y H Q,rD X.mg E g x y H Q->r x y H Q){σ:L2.St}{H:Hp}{Q:VK}(h:tD X.mg E (Cv X.mg) (λδ=>fa δ>>=λx=>fb δ>>=λy=>g x y) σ H Q):
  tOp r (tD X.mg E (Cv X.mg) fa) (tD X.mg E (Cv X.mg) fb) σ H Q:=by
 obtain⟨ρ,δ,M,ev,j,g1⟩:=h;exact⟨ρ,δ,M,ev,j,g1.bind λρ1 H1 M1 x dx e1 j1 c1 g2=>⟨ρ1,δ,M1,ev.mono e1,j1,g2.bind λρ2 H2 M2 y dy e2 j2 c2 g3=>hr _ _ _ _ ⟨ρ2,M2,dx,dy,j2,c1.mono e2,c2,g3⟩⟩⟩
theorem aM{op:Operator}{g:D->D->DM D}(ho:cF X E (binaryOp op) g)(ha:DE X E a fa)(hb:DE X E b fb):DE X E (.BinOp a op b pos) (λδ=>fa δ>>=λx=>fb δ>>=λy=>g x y):=
 ⟨PE.mono (pe_op ho ha.h hb.h) λσ H Q h=>Mi (λw w w w z=>z) h⟩
theorem jo{op:CmpOp}{g:D->D->DM D}(ho:cF X E (compareOp op) g)(ha:DE X E a fa)(hb:DE X E b fb)(hm:behindInMarks op b=false:=by first | exact nomark _ | rfl):DE X E (.Compare a [op] [b] pos) (λδ=>fa δ>>=λx=>fb δ>>=λy=>g x y):=
 ⟨PE.mono (pe_cmpR ho ha.h hb.h hm) λσ H Q h=>Mi (λw w w w z=>z) h⟩
def lB:D->DM Bool
 |.bl b=>pure b
 |_=>stuck
theorem Go.lB{mg:Str->Option Value}{ρ:Rh}{H:Hp}{d:D}{M:Mo}{Q:Bool->Hp->Prop}(g:Go mg E Bv Q ρ H (lB d) M):∃k,d=.bl k/\∀ρ' H',Ext ρ H ρ' H'->J mg ρ' M H'->Q k H':=by
 cases d with
 |bl k=>exact⟨k,rfl,λρ' H' e j=>(show Go mg E Bv Q ρ H (Pure.pure k) M from g).pure ρ' H' k e j rfl⟩
 |_=>obtain⟨r,e,_⟩:=g;cases e
theorem dt_of{e:Expr}{f:ak->DM D}{t:TE}(h:PT X e (tTest t))(ht:∀σ H Q,tD X.mg E (Cv X.mg) f σ H Q->t σ H Q):DT X E e (λδ=>f δ>>=lB):=⟨PT.mono h λσ H Q h=>by
 obtain⟨ρ,δ,M,ev,j,g1⟩:=h;refine ht _ _ _ ⟨ρ,δ,M,ev,j,g1.bind λρ1 H1 M1 x dx e1 j1 c1 g2=>?_⟩
 obtain⟨k,rfl,q⟩:=Go.lB g2;cases c1;exact⟨k,rfl,q ρ1 H1 .refl j1⟩⟩
theorem bF{op:CmpOp}{g:D->D->DM D}(ho:cF X E (compareOp op) g)(ha:DE X E a fa)(hb:DE X E b fb)(hm:behindInMarks op b=false:=by first | exact nomark _ | rfl):DT X E (.Compare a [op] [b] pos) (λδ=>(fa δ>>=λx=>fb δ>>=λy=>g x y)>>=lB):=
 dt_of (pt_cmpR ho ha.h hb.h hm) λσ H Q h=>Mi (λw w w w z=>z) h
theorem Us{g g':D->D->DM D}{σ:L2.St}{H:Hp}{Q:VK}(h:tD X.mg E (Cv X.mg) (λδ=>fa δ >>= λx=>fb δ >>= λy=>g x y >>= λz=>lB z >>= λk=>if k then fc δ >>= λw=>g' y w else pure (.bl false)) σ H Q):
  tChain (rD X.mg E g) (rD X.mg E g') (tD X.mg E (Cv X.mg) fa) (tD X.mg E (Cv X.mg) fb) (tD X.mg E (Cv X.mg) fc) σ H Q:=by
 obtain⟨ρ,δ,M,ev,j,g1⟩:=h;refine⟨ρ,δ,M,ev,j,g1.bind λρ1 H1 M1 x dx e1 j1 c1 g2=>⟨ρ1,δ,M1,ev.mono e1,j1,g2.bind λρ2 H2 M2 y dy e2 j2 c2 g3=>⟨ρ2,M2,dx,dy,j2,c1.mono e2,c2,g3.bind λρ3 H3 M3 z dz e3 j3 c3 g4=>?_⟩⟩⟩
 have g5:=g4.bind (rel:=Bv) (Q':=λk H4=>dz=.bl k/\∃ρ4 M4,Ext ρ3 H3 ρ4 H4/\J X.mg ρ4 M4 H4/\Go X.mg E (Cv X.mg) Q ρ4 H4 (if k then fc δ>>=λw=>g' dy w else pure (.bl false)) M4)
 have key:∃k,dz=.bl k/\Go X.mg E (Cv X.mg) Q ρ3 H3 (if k then fc δ>>=λw=>g' dy w else pure (.bl false)) M3:=by
  cases dz with
  |bl k=>exact⟨k,rfl,g4⟩
  |_=>obtain⟨r,e,_⟩:=g4;cases e
 obtain⟨k,rfl,g6⟩:=key;cases c3;refine⟨k,rfl,?_⟩;cases k with
 |false=>exact iteF (g6.pure ρ3 H3 _ .refl j3 (.bl false))
 |true=>
   have g6:Go X.mg E (Cv X.mg) Q ρ3 H3 (fc δ>>=λw=>g' dy w) M3:=g6
   exact iteT ⟨ρ3,δ,M3,((ev.mono e1).mono e2).mono e3,j3,g6.bind λρ4 H4 M4 w dw e4 j4 c4 g7=>⟨ρ4,M4,dy,dw,j4,(c2.mono e3).mono e4,c4,g7⟩⟩
theorem Kr{op op':CmpOp}{g g':D->D->DM D}(ho:cF X E (compareOp op) g)(ho':cF X E (compareOp op') g')(ha:DE X E a fa)(hb:DE X E b fb)(hc:DE X E c fc)(hm:lastMarks [op,op'] [b,c]=false:=by with_unfolding_all rfl):
  DE X E (.Compare a [op,op'] [b,c] pos) (λδ=>fa δ>>=λx=>fb δ>>=λy=>g x y>>=λz=>lB z>>=λk=>if k then fc δ>>=λw=>g' y w else pure (.bl false)):=
 ⟨PE.mono (pe_chain ho ho' ha.h hb.h hc.h hm) λσ H Q h=>Us h⟩
theorem uR{op op':CmpOp}{g g':D->D->DM D}(ho:cF X E (compareOp op) g)(ho':cF X E (compareOp op') g')(ha:DE X E a fa)(hb:DE X E b fb)(hc:DE X E c fc)(hm:lastMarks [op,op'] [b,c]=false:=by with_unfolding_all rfl):
  DT X E (.Compare a [op,op'] [b,c] pos) (λδ=>(fa δ>>=λx=>fb δ>>=λy=>g x y>>=λz=>lB z>>=λk=>if k then fc δ>>=λw=>g' y w else pure (.bl false))>>=lB):=
 dt_of (pt_chain ho ho' ha.h hb.h hc.h hm) λσ H Q h=>Us h
def jU:D->Mo->Option Bool
 |.non,_=>some false
 |.bl b,_=>some b
 |.int i,_=>some (i != 0)
 |.str y,_=>if y.length<=sizeLine then some ((y.length:Int) != 0) else none
 |.tup l,_=>some (!l.isEmpty)
 |.lst l,_=>some (!l.isEmpty)
 |.scr l,_=>some (!l.isEmpty)
 |.dic ks _,_=>some (!ks.isEmpty)
 |.ref n,M=>match M[n]? with
   |some (.lst l)=>some (!l.isEmpty)
   |some (.dic ks _)=>some (!ks.isEmpty)
   |_=>none
 |_,_=>none
theorem yQ{α β:Type}{ks:List α}{xs:List β}(h:ks.length=xs.length):(ks.zip xs).isEmpty=ks.isEmpty:=by
 cases ks with
 |nil=>simp
 |cons k ks=>cases xs with
   |nil=>simp at h
   |cons x xs=>rfl
theorem Cvs.empty{mg:Str->Option Value}{ρ:Rh}{H:Hp}{vs:List V}{ds:List D}(c:Cvs mg ρ H vs ds):vs.isEmpty=ds.isEmpty:=by cases c<;>rfl
set_option tactic.hygienic true in
theorem R7{K:PySem.W.Frag}{mg:Str->Option Value}{ρ:Rh}{H:Hp}{M:Mo}{x:V}{d:D}{k:Bool}(j:J mg ρ M H)(h:Cv mg ρ H x d)(e:jU d M=some k):TruV K x H k:=by
 cases h with
 |non=>cases e;rfl
 |bl b=>cases e;rfl
 |int i=>cases e;rfl
 |str y=>
   unfold jU at e;dsimp only at e;split at e
   ·cases e;exact⟨‹_›,rfl⟩
   ·cases e
 |tup n h c=>cases e;exact .inr (.inl ⟨_,SqT.of h,by rw[c.empty]⟩)
 |lst n h c=>cases e;exact .inl ⟨_,SqL.of h,by rw[c.empty]⟩
 |scr n h=>cases e;exact .inl ⟨_,.inl h,by simp⟩
 |dic n h l c=>cases e;exact .inr (.inr ⟨_,h,by rw[yQ l]⟩)
 | ref q=>
   rename_i n a;unfold jU at e;dsimp only at e;split at e
   ·rename_i l hl;cases e;obtain⟨xs,h,c⟩:=j.obj n a _ q hl;exact .inl ⟨_,SqL.of h,by rw[c.empty]⟩
   ·rename_i ks l hl;cases e;obtain⟨xs,h,z,c⟩:=j.obj n a _ q hl;exact .inr (.inr ⟨_,h,by rw[yQ z]⟩)
   ·cases e
 |obj=>cases e
 |cls=>cases e
 |ty=>cases e
 |exn=>cases e
theorem bj(ha:DE X E a fa)(he:∀whole,isTrue a X.env whole=(do let v <-whole;standAt a.pos;holding [v] (truthy v))):DT X E a (λδ=>fa δ>>=λx=>rd (jU x)):=⟨PT.mono (pt_truth ha.h he) λσ H Q h=>by
 obtain⟨ρ,δ,M,ev,j,g1⟩:=h;refine⟨ρ,δ,M,ev,j,g1.bind λρ1 H1 M1 x dx e1 j1 c1 g2=>?_⟩
 obtain⟨k,e,q⟩:=g2.rd;exact⟨k,R7 j1 c1 e,q ρ1 H1 k .refl j1 rfl⟩⟩
variable{ta tb:ak->DM Bool}
theorem cD(ha:DT X E a ta):DT X E (.UnaryOp .Not a pos) (λδ=>ta δ>>=λk=>pure (!k)):=⟨PT.mono (pt_not ha.h) λσ H Q h=>by
 obtain⟨ρ,δ,M,ev,j,g1⟩:=h;refine⟨ρ,δ,M,ev,j,g1.bind λρ1 H1 M1 x dx e1 j1 c1 g2=>?_⟩
 have c1:x=dx:=c1;subst c1;exact g2.pure ρ1 H1 _ .refl j1 rfl⟩
structure DW(X:Cx)(E:XK)(e:Expr)(f:ak->DM Bool):Prop where
 h:PW X e (tD X.mg E Bv f)
theorem PW.mono{e:Expr}{t t':TT}(h:PW X e t)(f:∀σ H Q,t' σ H Q->t σ H Q):PW X e t':=λw aaD s σ H Q I q=>h w aaD s σ H Q I (f σ H Q q)
theorem DW.dt{e:Expr}(h:DW X E e ta):DT X E e ta:=⟨PW.pt h.h⟩
theorem Nv(ha:DT X E a ta):DW X E (.BoolOp .And [a] pos) ta:=⟨pw_and1 ha.h⟩
theorem gO(ha:DT X E a ta):DW X E (.BoolOp .Or [a] pos) ta:=⟨pw_or1 ha.h⟩
variable{rest:List Expr}
theorem Qc(ha:DT X E a ta)(hb:DW X E (.BoolOp .And (b::rest) pos) tb):DW X E (.BoolOp .And (a::b::rest) pos) (λδ=>ta δ>>=λk=>if k then tb δ else pure false):=⟨PW.mono (pw_and ha.h hb.h) λσ H Q h=>by
 obtain⟨ρ,δ,M,ev,j,g1⟩:=h;refine⟨ρ,δ,M,ev,j,g1.bind λρ1 H1 M1 x dx e1 j1 c1 g2=>?_⟩
 have c1:x=dx:=c1;subst c1;cases x with
 |true=>exact iteT ⟨ρ1,δ,M1,ev.mono e1,j1,g2⟩
 |false=>exact iteF (Go.pure (a:=false) g2 ρ1 H1 _ .refl j1 rfl)⟩
theorem gM(ha:DT X E a ta)(hb:DW X E (.BoolOp .Or (b::rest) pos) tb):DW X E (.BoolOp .Or (a::b::rest) pos) (λδ=>ta δ>>=λk=>if k then pure true else tb δ):=⟨PW.mono (pw_or ha.h hb.h) λσ H Q h=>by
 obtain⟨ρ,δ,M,ev,j,g1⟩:=h;refine⟨ρ,δ,M,ev,j,g1.bind λρ1 H1 M1 x dx e1 j1 c1 g2=>?_⟩
 have c1:x=dx:=c1;subst c1;cases x with
 |false=>exact iteF ⟨ρ1,δ,M1,ev.mono e1,j1,g2⟩
 |true=>exact iteT (Go.pure (a:=true) g2 ρ1 H1 _ .refl j1 rfl)⟩
theorem n8{op:BoolOp}(ha:DE X E a fa):DE X E (.BoolOp op [a] pos) fa:=⟨pe_one ha.h⟩
theorem Go.isB{mg:Str->Option Value}{ρ:Rh}{H:Hp}{α β:Type}{rel:Rh->Hp->β->α->Prop}{Q:β->Hp->Prop}{d:D}{M:Mo}{f:Bool->DM α}(g:Go mg E rel Q ρ H (L3.lB d>>=f) M):∃k,d=.bl k/\Go mg E rel Q ρ H (f k) M:=by
 cases d with
 |bl k=>exact⟨k,rfl,g⟩
 |_=>obtain⟨r,e,_⟩:=g;cases e
theorem lF(ha:DE X E a fa)(hb:DE X E (.BoolOp .And (b::rest) pos) fb):DE X E (.BoolOp .And (a::b::rest) pos) (λδ=>fa δ>>=λx=>lB x>>=λk=>if k then fb δ else pure (.bl false)):=⟨PE.mono (pe_and ha.h hb.h) λσ H Q h=>by
 obtain⟨ρ,δ,M,ev,j,g1⟩:=h;refine⟨ρ,δ,M,ev,j,g1.bind λρ1 H1 M1 x dx e1 j1 c1 g2=>?_⟩
 obtain⟨k,rfl,g3⟩:=Go.isB g2;cases c1;refine⟨k,rfl,?_⟩;cases k with
 |true=>exact iteT ⟨ρ1,δ,M1,ev.mono e1,j1,g3⟩
 |false=>exact iteF (Go.pure (a:=D.bl false) g3 ρ1 H1 _ .refl j1 (.bl false))⟩
theorem PX(ha:DE X E a fa):DE X E (.UnaryOp .Not a pos) (λδ=>fa δ>>=λx=>lB x>>=λk=>pure (.bl (!k))):=⟨PE.mono (pe_not ha.h) λσ H Q h=>by
 obtain⟨ρ,δ,M,ev,j,g1⟩:=h;refine⟨ρ,δ,M,ev,j,g1.bind λρ1 H1 M1 x dx e1 j1 c1 g2=>?_⟩
 obtain⟨k,rfl,g3⟩:=Go.isB g2;cases c1;exact⟨k,rfl,g3.pure ρ1 H1 _ .refl j1 (.bl _)⟩⟩
theorem Fj(hc:DT X E c ta)(ha:DE X E a fa)(hb:DE X E b fb):DE X E (.IfExp c a b pos) (λδ=>ta δ>>=λk=>if k then fa δ else fb δ):=⟨PE.mono (pe_ifExp hc.h ha.h hb.h) λσ H Q h=>by
 obtain⟨ρ,δ,M,ev,j,g1⟩:=h;refine⟨ρ,δ,M,ev,j,g1.bind λρ1 H1 M1 x dx e1 j1 c1 g2=>?_⟩
 have c1:x=dx:=c1;subst c1;cases x with
 |true=>exact iteT ⟨ρ1,δ,M1,ev.mono e1,j1,g2⟩
 |false=>exact iteF ⟨ρ1,δ,M1,ev.mono e1,j1,g2⟩⟩
theorem aj:DA X E [] (λz=>pure []):=⟨⟨PA.mono Jp.h λσ H Q h=>by obtain⟨ρ,δ,M,ev,j,g⟩:=h;exact g.pure ρ H [] .refl j .nil⟩⟩
theorem ao{es:List Expr}{fs:ak->DM (List D)}(ha:DE X E a fa)(hr:DA X E es fs)(hs:notStar a=true:=by rfl):DA X E (a::es) (λδ=>fa δ>>=λx=>fs δ>>=λxs=>pure (x::xs)):=⟨⟨PA.mono (Rg ha.h hr.h hs).h λσ H Q h=>by obtain⟨ρ,δ,M,ev,j,g1⟩:=h;exact⟨ρ,δ,M,ev,j,g1.bind λρ1 H1 M1 x dx e1 j1 c1 g2=>⟨ρ1,δ,M1,ev.mono e1,j1,g2.bind λρ2 H2 M2 xs dxs e2 j2 c2 g3=>g3.pure ρ2 H2 _ .refl j2 (.cons (c1.mono e2) c2)⟩⟩⟩⟩
def fQ{α:Type}(l:List α):Bool:=decide (l.length<=sizeLine)
def yG(l:List D):DM D:=opt (if fQ l then some (.tup l) else none)
def uB(l:List D):DM D:=opt (if fQ l then some (.lst l) else none)
def eG(l:List D):DM D:=λM=>if fQ l then some (.ok (.ref M.length),M++[.lst l]) else none
set_option tactic.hygienic true in
theorem ww{l:List D}{d e:D}(h:(if fQ l then some d else none)=some e):l.length<=sizeLine/\d=e:=by
 split at h
 ·cases h;exact⟨Xq ‹_›,rfl⟩
 ·cases h
variable{es:List Expr}{fs:ak->DM (List D)}
theorem oh{x1}(h:DA X E es fs):DE X E (.Tuple es x1 pos) (λδ=>fs δ>>=yG):=⟨PE.mono (Oh h.h) λσ H Q h=>by
 obtain⟨ρ,δ,M,ev,j,g1⟩:=h;refine⟨ρ,δ,M,ev,j,g1.bind λρ1 H1 M1 xs dxs e1 j1 c1 g2=>?_⟩
 obtain⟨d,e,q⟩:=Go.opt g2;obtain⟨hz,rfl⟩:=ww e;exact⟨by rw[c1.len];exact hz,λp hp=>q ρ1 _ _ (.lay hp) (j1.lay _ hp) (.tup (j1.fresh hp) upd_same (c1.mono (.lay hp)))⟩⟩
theorem lH(h:DA X E es fs):DE X E (.List es pos) (λδ=>fs δ>>=uB):=⟨PE.mono (DQ h.h) λσ H Q h=>by
 obtain⟨ρ,δ,M,ev,j,g1⟩:=h;refine⟨ρ,δ,M,ev,j,g1.bind λρ1 H1 M1 xs dxs e1 j1 c1 g2=>?_⟩
 obtain⟨d,e,q⟩:=Go.opt g2;obtain⟨hz,rfl⟩:=ww e;exact⟨by rw[c1.len];exact hz,λp hp=>q ρ1 _ _ (.lay hp) (j1.lay _ hp) (.lst (j1.fresh hp) upd_same (c1.mono (.lay hp)))⟩⟩
set_option tactic.hygienic true in
theorem Go.eG{mg:Str->Option Value}{ρ:Rh}{H:Hp}{M:Mo}{Q:VK}{l:List D}{xs:List V}{p:Addr}(g:Go mg E (Cv mg) Q ρ H (eG l) M)(j:J mg ρ M H)(c:Cvs mg ρ H xs l)(hp:H p=none):l.length<=sizeLine/\Q (.ref p) (upd H p (.lst xs)):=by
 obtain⟨r,e,q⟩:=g;unfold L3.eG at e;split at e
 ·cases e;refine⟨Xq ‹_›,?_⟩;have x:Ext ρ H (ρ.put p) (upd H p (.lst xs)):=.put hp;refine q _ _ _ x (j.put hp ⟨xs,upd_same,c.mono x⟩) (.ref ?_);show (ρ.st++[p])[_]?=_;rw[<-j.len];simp
 ·cases e
set_option tactic.hygienic true in
theorem Go.mkR_len{mg:Str->Option Value}{ρ:Rh}{H:Hp}{M:Mo}{Q:VK}{l:List D}(g:Go mg E (Cv mg) Q ρ H (L3.eG l) M):l.length<=sizeLine:=by
 obtain⟨r,e,q⟩:=g;unfold L3.eG at e;split at e
 ·exact Xq ‹_›
 ·cases e
theorem n6(h:DA X E es fs):DE X E (.List es pos) (λδ=>fs δ>>=eG):=⟨PE.mono (DQ h.h) λσ H Q h=>by
 obtain⟨ρ,δ,M,ev,j,g1⟩:=h;refine⟨ρ,δ,M,ev,j,g1.bind λρ1 H1 M1 xs dxs e1 j1 c1 g2=>?_⟩
 exact⟨by rw[c1.len];exact g2.mkR_len,λp hp=>(g2.eG j1 c1 hp).2⟩⟩
end
section
variable{X:Cx}{E:XK}{mg:Str->Option Value}{ρ:Rh}{H:Hp}{M:Mo}
theorem Go.rdb(g:Go mg E rel Q ρ H (L3.rd f>>=k) M):∃a,f M=some a/\Go mg E rel Q ρ H (k a) M:=by
 obtain⟨r,e,p⟩:=g;have e:DM.bind _ _ M=some r:=e;unfold DM.bind L3.rd at e;cases h:f M with
 |none=>rw[h]at e;cases e
 |some a=>rw[h]at e;exact⟨a,rfl,r,e,p⟩
theorem cF.of{f:Value->Value->Sem Value}{g:D->D->Mo->Option D}(hr:OpR X f r)
  (h:∀x y H Q ρ M dx dy d,J X.mg ρ M H->Cv X.mg ρ H x dx->Cv X.mg ρ H y dy->g dx dy M=some d->(∀ρ' H' v,Ext ρ H ρ' H'->J X.mg ρ' M H'->Cv X.mg ρ' H' v d->Q v H')->r x y H Q):cF X E f (λx y=>rd (g x y)):=by
 intro aaD s σ H x y v u Q I rx ry q;obtain⟨ρ,M,dx,dy,j,cx,cy,go⟩:=q;obtain⟨d,e,p⟩:=go.rd;exact hr aaD s σ H x y v u Q I rx ry (h x y H Q ρ M dx dy d j cx cy e p)
def aR:D->Mo->Option (List D)
 |.lst l,_=>some l
 |.ref n,M=>match M[n]? with
   |some (.lst l)=>some l
   |_=>none
 |_,_=>none
set_option tactic.hygienic true in
theorem eF(j:J mg ρ M H){l:List D}(c:Cv mg ρ H x d)(e:aR d M=some l):∃ a xs,x=.ref a/\H a=some (.lst xs)/\Cvs mg ρ H xs l:=by
 cases c with
 |lst n h c=>cases e;exact⟨_,_,rfl,h,c⟩
 | ref q=>
   unfold aR at e;dsimp only at e;split at e
   ·rename_i l' hl;cases e;obtain⟨xs,h,c⟩:=j.obj _ _ _ q hl;exact⟨_,_,rfl,h,c⟩
   ·cases e
 |_=>cases e
theorem J.notup(j:J mg ρ M H)(h:H p=Option.some (HO.tup xs)):p∉ρ:=λz=>by
 rcases z with z | z
 rotate_left
 ·obtain⟨_,ys,e⟩:=j.vol p z;rw[h]at e;cases e
 obtain⟨n,hn⟩:=Zc.mp z;have lt:n<M.length:=by rw[<-j.len];exact (Wf.mp hn).1
 have c:=j.obj n p M[n] hn (Wk lt);cases hm:M[n] with
 |lst l=>rw[hm]at c;obtain⟨xs,e,_⟩:=c;rw[h]at e;cases e
 |dic ks l=>rw[hm]at c;obtain⟨xs,e,_⟩:=c;rw[h]at e;cases e
 |ins c' ns l=>rw[hm]at c;obtain⟨_,_,_,_,e,_⟩:=c;rw[h]at e;cases e
def Sd(l:List D):Option D:=if fQ l then some (.tup l) else none
def QJ(l:List D):Option D:=if fQ l then some (.lst l) else none
def dU:D->D->Mo->Option D
 |.int i,.int j,_=>some (.int (i+j))
 |.str a,.str b,_=>if a.length+b.length<=sizeLine then some (.str (a++b)) else none
 |.tup l,.tup m,_=>Sd (l++m)
 |x,y,M=>match aR x M,aR y M with
   |some l,some m=>QJ (l++m)
   |_,_=>none
set_option tactic.hygienic true in
theorem Ka(h:dU x y M=some d):(∃ i j,x=.int i/\y=.int j/\d=.int (i + j))\/(∃ a b,x=.str a/\y=.str b/\a.length + b.length<=sizeLine/\d=.str (a++b))\/(∃ l m,x=.tup l/\y=.tup m/\l.length + m.length<=sizeLine/\d=.tup (l++m)) \/
  ∃l m,aR x M=some l/\aR y M=some m/\l.length+m.length<=sizeLine/\d=.lst (l++m):=by
 unfold dU at h;split at h
 ·cases h;exact .inl ⟨_,_,rfl,rfl,rfl⟩
 ·split at h
  ·cases h;exact .inr (.inl ⟨_,_,rfl,rfl,‹_›,rfl⟩)
  ·cases h
 ·obtain⟨hz,rfl⟩:=ww h;rw[Ww]at hz;exact .inr (.inr (.inl ⟨_,_,rfl,rfl,hz,rfl⟩))
 ·split at h
  ·rename_i l m h1 h2;obtain⟨hz,rfl⟩:=ww h;rw[Ww]at hz;exact .inr (.inr (.inr ⟨l,m,h1,h2,hz,rfl⟩))
  ·cases h
theorem cz:cF X E (binaryOp .Add) (λx y=>rd (dU x y)):=by
 refine cF.of (op_add.or (op_add_str.or (Oe.or op_cat))) λx y H Q ρ M dx dy d j cx cy e q=>?_
 rcases Ka e with ⟨i,k,rfl,rfl,rfl⟩ | ⟨i,k,rfl,rfl,hz,rfl⟩ | ⟨l,m,rfl,rfl,hz,rfl⟩ | ⟨l,m,h1,h2,hz,rfl⟩
 ·cases cx;cases cy;exact .inl ⟨_,_,rfl,rfl,q ρ H _ .refl j (.int _)⟩
 ·cases cx;cases cy;exact .inr (.inl ⟨_,_,rfl,rfl,hz,q ρ H _ .refl j (.str _)⟩)
 ·cases cx with | tup n1 a1 c1=>cases cy with | tup n2 a2 c2=>
  refine .inr (.inr (.inl ⟨_,_,_,_,rfl,rfl,a1,a2,by rw[c1.len,c2.len];exact hz,λp H' S hp=>?_⟩))
  exact q ρ H' _ (.same S) (j.same S) (.tup ((j.same S).notup hp) hp ((c1.append c2).mono (.same S)))
 ·obtain⟨a1,x1,rfl,a2,c1⟩:=eF j cx h1;obtain⟨b1,y1,rfl,b2,c2⟩:=eF j cy h2;refine .inr (.inr (.inr ⟨_,_,_,_,rfl,rfl,a2,b2,by rw[c1.len,c2.len];exact hz,λp hp=>?_⟩))
  exact q ρ _ _ (.lay hp) (j.lay _ hp) (.lst (j.fresh hp) upd_same ((c1.append c2).mono (.lay hp)))
def cZ(C:Int->Int->Bool)(g:Int->Int->D):D->D->Mo->Option D
 |.int i,.int j,_=>if C i j then some (g i j) else none
 |_,_,_=>none
set_option tactic.hygienic true in
theorem xq(h:cZ C g x y M=some d):∃i j,x=.int i/\y=.int j/\C i j=true/\d=g i j:=by
 unfold cZ at h;split at h
 ·split at h
  ·cases h;exact⟨_,_,rfl,rfl,‹_›,rfl⟩
  ·cases h
 ·cases h
theorem uc{f:Value->Value->Sem Value}{C:Int->Int->Bool}{g:Int->Int->Int}{P:Int->Int->Prop}(hr:OpR X f (rI P λi j=>.int (g i j)))(hc:∀i j,C i j=true->P i j):cF X E f (λx y=>rd (cZ C (λi j=>.int (g i j)) x y)):=
 cF.of hr λx y H Q ρ M dx dy d j cx cy e q=>by obtain⟨i,k,rfl,rfl,hh,rfl⟩:=xq e;cases cx;cases cy;exact⟨_,_,rfl,rfl,hc _ _ hh,q ρ H _ .refl j (.int _)⟩
theorem Bb{f:Value->Value->Sem Value}{g:Int->Int->Int}(hr:OpR X f (rI0 λi j=>.int (g i j))):cF X E f (λx y=>rd (cZ (λz z=>true) (λi j=>.int (g i j)) x y)):=
 cF.of hr λx y H Q ρ M dx dy d j cx cy e q=>by obtain⟨i,k,rfl,rfl,hh,rfl⟩:=xq e;cases cx;cases cy;exact⟨_,_,rfl,rfl,q ρ H _ .refl j (.int _)⟩
theorem tZ{f:Value->Value->Sem Value}{g:Int->Int->Bool}(hr:OpR X f (rI0 λi j=>.bl (g i j))):cF X E f (λx y=>rd (cZ (λz z=>true) (λi j=>.bl (g i j)) x y)):=
 cF.of hr λx y H Q ρ M dx dy d j cx cy e q=>by obtain⟨i,k,rfl,rfl,hh,rfl⟩:=xq e;cases cx;cases cy;exact⟨_,_,rfl,rfl,q ρ H _ .refl j (.bl _)⟩
abbrev Lp:D->D->Mo->Option D:=cZ (λ_ _=>true) λi j=>.int (i-j)
theorem ud:cF X E (binaryOp .Sub) (λx y=>rd (Lp x y)):=Bb op_sub
def fY(i j:Int):Bool:=!(decide (Builtin.Int.intBits i > shortFactorBits)&&decide (Builtin.Int.intBits j > shortFactorBits)&&Builtin.Int.intTooBig (Builtin.Int.intBits i+Builtin.Int.intBits j))
theorem fY.ok(h:fY i j=true):IntMulOk i j:=λz=>by unfold fY at h;rw[z]at h;cases h
abbrev lN:D->D->Mo->Option D:=cZ fY λi j=>.int (i*j)
theorem bR:cF X E (binaryOp .Mult) (λx y=>rd (lN x y)):=uc Og λi j h=>fY.ok h
def mU(i j:Int):Bool:=decide (0<j)&&!Builtin.divisionGoesByPylong i j
theorem K7:OpR X (binaryOp .FloorDiv) (rI (λi j=>mU i j=true) λi j=>.int (i / j)):=opI λi j z z z z z hc q=>by
 unfold mU at hc;have h0:0<j:=by have:=(YC _ _).mp hc;exact Xq this.1
 have h1:Builtin.divisionGoesByPylong i j=false:=by have:=(YC _ _).mp hc;simpa using this.2
 have e:i.fdiv j=i / j:=Int.fdiv_eq_ediv_of_nonneg i (aaf h0);exact floordiv_int (Int.ne_of_gt h0) (by rw[e];exact q) (.inl h1)
abbrev gU:D->D->Mo->Option D:=cZ mU λi j=>.int (i / j)
theorem dM:cF X E (binaryOp .FloorDiv) (λx y=>rd (gU x y)):=uc K7 λi j h=>h
abbrev pN:D->D->Mo->Option D:=cZ (λ_ j=>decide (0<j)) λi j=>.int (i%j)
theorem iV:cF X E (binaryOp .Mod) (λx y=>rd (pN x y)):=uc op_mod λi j h=>Xq h
def Mt(i j:Int):Bool:=decide (0<=j/\j<=1000000/\i.natAbs<2^64)
abbrev Ge:D->D->Mo->Option D:=cZ Mt λi j=>.int (i^j.toNat)
theorem DN:cF X E (binaryOp .Pow) (λx y=>rd (Ge x y)):=uc op_pow λi j h=>Xq (p:=0<=j/\j<=1000000/\i.natAbs<2^64) h
abbrev Ml:D->D->Mo->Option D:=cZ (λ_ _=>true) λi j=>.bl (decide (i<j))
abbrev yF:D->D->Mo->Option D:=cZ (λ_ _=>true) λi j=>.bl (decide (i<=j))
abbrev Dn:D->D->Mo->Option D:=cZ (λ_ _=>true) λi j=>.bl (decide (j<i))
abbrev Dm:D->D->Mo->Option D:=cZ (λ_ _=>true) λi j=>.bl (decide (j<=i))
theorem wu:cF X E (compareOp .Lt) (λx y=>rd (Ml x y)):=tZ op_lt
theorem lO:cF X E (compareOp .LtE) (λx y=>rd (yF x y)):=tZ op_le
theorem Jc:cF X E (compareOp .Gt) (λx y=>rd (Dn x y)):=tZ op_gt
theorem wj:cF X E (compareOp .GtE) (λx y=>rd (Dm x y)):=tZ op_ge
def eqP(x y:D):Option Bool:=match toPy x,toPy y with
 |some p,some q=>if p.canLay0&&q.canLay0&&decide (p.depth<=60) then some (PyData.eqv p q) else none
 |_,_=>none
def eqB:D->D->Option Bool
 |.str a,.str b=>some (decide (a=b))
 |x,y=>eqP x y
def iM(x y:D)(_:Mo):Option D:=(eqB x y).map .bl
def mY(x y:D)(_:Mo):Option D:=(eqB x y).map λb=>.bl (!b)
set_option tactic.hygienic true in
theorem HR(h:eqP x y=some b):∃ p q,toPy x=some p/\toPy y=some q/\p.canLay0=true/\q.canLay0=true/\p.depth<=60/\b=PyData.eqv p q:=by
 unfold eqP at h;split at h
 ·rename_i p q h1 h2;split at h
  ·rename_i hc;cases h;simp only[Bool.and_eq_true,decide_eq_true_eq]at hc;exact⟨p,q,h1,h2,hc.1.1,hc.1.2,hc.2,rfl⟩
  ·cases h
 ·cases h
theorem HQ(h:eqB x y=some b):(∃a c,x=.str a/\y=.str c/\b=decide (a=c))\/eqP x y=some b:=by
 unfold eqB at h;split at h
 ·cases h;exact .inl ⟨_,_,rfl,rfl,rfl⟩
 ·exact .inr h
theorem O2:decide (V.str a=V.str c)=decide (a=c):=by rw[WY];simp
theorem Dz(h1:OpR X f (λx y H Q=>scal x y=true/\Q (.bl (n ^^ decide (x=y))) H))(h2:OpR X f (Lf X.K n)):cF X E f (λx y=>rd λz=>(eqB x y).map λb=>.bl (n ^^ b)):=by
 intro aaD s σ H x y v u Q I rx ry q;obtain⟨ρ,M,dx,dy,j,cx,cy,g⟩:=q;obtain⟨d,e,q⟩:=Go.rd g;obtain⟨b,hb,rfl⟩:=Wi.mp e;rcases HQ hb with ⟨a,c,rfl,rfl,rfl⟩ | hb
 ·cases cx;cases cy;refine h1 aaD s σ H _ _ v u Q I rx ry ⟨rfl,?_⟩;rw[O2];exact q ρ H _ .refl j (.bl _)
 ·obtain⟨p,p',k1,k2,h3,h4,h5,rfl⟩:=HR hb;refine h2 aaD s σ H x y v u Q I rx ry ⟨p,p',(cx.repF k1).toRep,(cy.repF k2).toRep,h3,h4,h5,?_⟩;have:=q ρ H _ .refl j (.bl _);cases n
  ·simpa using this
  ·simpa using this
theorem gq(hu:X.A.units+64<cLine):cF X E (compareOp .Eq) (λx y=>rd (iM x y)):=by
 have h:=Dz (X:=X) (E:=E) (n:=false) (f:=compareOp .Eq) (λaaD s σ H x y v u Q I rx ry q=>op_eq (X:=X) aaD s σ H x y v u Q I rx ry ⟨q.1,by simpa using q.2⟩) (Q7 hu)
 have e:(λx y=>(rd (iM x y):DM D))=λx y=>rd λz=>(eqB x y).map λb=>.bl (false ^^ b):=by funext x y;show rd _=rd _;congr 1;funext M;simp only[iM,Bool.false_xor,Bool.true_xor]
 rw[e];exact h
theorem cT(hu:X.A.units+64<cLine):cF X E (compareOp .NotEq) (λx y=>rd (mY x y)):=by
 have h:=Dz (X:=X) (E:=E) (n:=true) (f:=compareOp .NotEq) (λaaD s σ H x y v u Q I rx ry q=>op_ne (X:=X) aaD s σ H x y v u Q I rx ry ⟨q.1,by simpa using q.2⟩) (Jd hu)
 have e:(λx y=>(rd (mY x y):DM D))=λx y=>rd λz=>(eqB x y).map λb=>.bl (true ^^ b):=by funext x y;show rd _=rd _;congr 1;funext M;simp only[mY,Bool.false_xor,Bool.true_xor]
 rw[e];exact h
theorem Cvs.rep(c:Cv mg ρ H v d):∀n,Cvs mg ρ H (List.replicate n v) (List.replicate n d)
 |0=>.nil
 |n+1=>.cons c (Cvs.rep c n)
def Gm(l:List D)(k:Int):Option (List D):=if decide (-(2^63)<=k/\k<2^63/\l.length*k.toNat<=sizeLine) then some (List.replicate k.toNat l).flatten else none
theorem Cvs.reps{vs:List V}{ds:List D}(c:Cvs mg ρ H vs ds):∀n,Cvs mg ρ H (List.replicate n vs).flatten (List.replicate n ds).flatten
 |0=>.nil
 |n+1=>by rw[Yb,Yb,YK,YK];exact c.append (Cvs.reps c n)
def Aw(x y:D)(M:Mo):Option (List D):=match aR x M,y with
 |some l,.int k=>Gm l k
 |_,_=>none
set_option tactic.hygienic true in
theorem Oa{l:List D}(h:Aw x y M=some l):∃ m k,aR x M=some m/\y=.int k/\(-(2 ^ 63)<=k/\k<2 ^ 63/\m.length * k.toNat<=sizeLine)/\l=(List.replicate k.toNat m).flatten:=by
 unfold Aw at h;split at h
 ·rename_i m k h1;unfold Gm at h;split at h
  ·rename_i hk;cases h;exact⟨m,k,h1,rfl,Xq hk,rfl⟩
  ·cases h
 ·cases h
def QR(x y:D):DM D:=rd (Aw x y)>>=eG
theorem DK:cF X E (binaryOp .Mult) QR:=by intro aaD s σ H x y v u Q I rx ry q;obtain⟨ρ,M,dx,dy,j,cx,cy,go⟩:=q;obtain⟨l,e1,g⟩:=Go.rdb go;obtain⟨m,k,h1,rfl,⟨h2,h3,h4⟩,rfl⟩:=Oa e1;obtain⟨a,xs,rfl,ha,c⟩:=eF j cx h1;cases cy;exact op_rep (X:=X) aaD s σ H _ _ v u Q I rx ry ⟨_,_,_,rfl,rfl,ha,h2,h3,by rw[c.len];exact h4,λp hp=>(g.eG j (Cvs.reps c _) hp).2⟩
def K4:D->Mo->Option D
 |.int i,_=>some (.int (-i))
 |_,_=>none
theorem PQ(ha:DE X E a fa):DE X E (.UnaryOp .USub a pos) (λδ=>fa δ>>=λx=>rd (K4 x)):=⟨PE.mono (pe_un un_neg ha.h) λσ H Q h=>by
 obtain⟨ρ,δ,M,ev,j,g1⟩:=h;refine⟨ρ,δ,M,ev,j,g1.bind λρ1 H1 M1 x dx e1 j1 c1 g2=>?_⟩
 obtain⟨d,e,q⟩:=g2.rd;unfold K4 at e;split at e
 ·cases e;cases c1;exact⟨_,rfl,q ρ1 H1 _ .refl j1 (.int _)⟩
 ·cases e⟩
theorem Cvs.at(c:Cvs mg ρ H vs ds)(h:atI ds i=some d):∃v,atI vs i=some v/\Cv mg ρ H v d:=by
 unfold atI at h ⊢
 rw[c.len];obtain⟨n,hn,e⟩:=W8.mp h;obtain⟨v,e2,cv⟩:=c.get e;exact⟨v,by rw[hn];exact e2,cv⟩
def dm:D->D->Mo->Option D
 |.tup l,.int i,_=>atI l i
 |.scr l,.int i,_=>(atI l i).map .int
 |x,.int i,M=>(aR x M).bind λl=>atI l i
 |_,_,_=>none
def Up(X:Cx)(E:XK)(g:D->D->DM D):Prop:=IxR X (rD X.mg E g)
set_option tactic.hygienic true in
theorem aX:Up X E (λx y=>rd (dm x y)):=by
 intro value slice aaD s σ H x y v u Q I rx ry q hs;obtain⟨ρ,M,dx,dy,j,cx,cy,go⟩:=q;obtain⟨d,e,p⟩:=go.rd;unfold dm at e;split at e
 ·cases cy;cases cx with | tup n a c=>
  obtain⟨w,e2,cw⟩:=c.at e;exact ix_tup (X:=X) value slice aaD s σ H _ _ v u Q I rx ry ⟨_,_,_,_,rfl,rfl,SqT.of a,e2,p ρ H _ .refl j cw⟩ hs
 ·rename_i l i;cases cy;cases cx with | scr n a=>
  obtain⟨z,e1,rfl⟩:=Wi.mp e;have e2:atI (l.map V.int) i=some (V.int z):=by
   unfold atI at e1 ⊢
   rw[Wh];obtain⟨n,hn,e⟩:=W8.mp e1;rw[hn];show (List.map V.int _)[n]?=_;rw[Wn,e];rfl
  exact ix_list (X:=X) value slice aaD s σ H _ _ v u Q I rx ry ⟨_,_,_,_,rfl,rfl,.inl a,e2,p ρ H _ .refl j (.int z)⟩ hs
 ·cases cy;obtain⟨l,h1,e1⟩:=W8.mp e;obtain⟨a,xs,rfl,ha,c⟩:=eF j cx h1;obtain⟨w,e2,cw⟩:=c.at e1;exact ix_list (X:=X) value slice aaD s σ H _ _ v u Q I rx ry ⟨_,_,_,_,rfl,rfl,SqL.of ha,e2,p ρ H _ .refl j cw⟩ hs
 ·cases e
theorem aQ(hi:Up X E g)(ha:DE X E a fa)(hb:DE X E b fb)(hs:PlainIx b:=by exact λw w=>rfl):DE X E (.Subscript a b pos) (λδ=>fa δ>>=λx=>fb δ>>=λy=>g x y):=
 ⟨PE.mono (pe_ix hi ha.h hb.h hs) λσ H Q h=>Mi (λw w w w z=>z) h⟩
def Hn:D->DM (Option Int)
 |.int i=>pure (some i)
 |_=>stuck
def cutD(xs:List D)(lo hi:Option Int):List D:=(xs.drop (HT.sIx xs.length 0 lo)).take (HT.sIx xs.length xs.length hi-HT.sIx xs.length 0 lo)
theorem Cvs.cut(c:Cvs mg ρ H vs ds)(lo hi:Option Int):Cvs mg ρ H (cutV vs lo hi) (cutD ds lo hi):=by unfold cutV cutD;rw[c.len];exact (c.drop _).take _
structure DP(X:Cx)(E:XK)(e:Option Expr)(f:ak->DM (Option Int)):Prop where
 h:PO X e (tD X.mg E (λ_ _ (b a:Option Int)=>b=a) f)
theorem PO.mono(h:PO X e t)(f:∀σ H Q,t' σ H Q->t σ H Q):PO X e t':=λaaD s σ H Q I q=>h aaD s σ H Q I (f σ H Q q)
theorem w5:DP X E none (λz=>pure none):=⟨PO.mono po_none λσ H Q h=>by obtain⟨ρ,δ,M,ev,j,g⟩:=h;exact g.pure ρ H none .refl j rfl⟩
theorem ou(ha:DE X E a fa):DP X E (some a) (λδ=>fa δ>>=Hn):=⟨PO.mono (po_some ha.h) λσ H Q h=>by
 obtain⟨ρ,δ,M,ev,j,g1⟩:=h;refine⟨ρ,δ,M,ev,j,g1.bind λρ1 H1 M1 x dx e1 j1 c1 g2=>?_⟩
 cases dx with
 |int i=>cases c1;exact⟨i,rfl,Go.pure (a:=some i) g2 ρ1 H1 _ .refl j1 rfl⟩
 |_=>obtain⟨r,e,_⟩:=g2;cases e⟩
def Ek(lo hi:Option Int):D->Mo->Option D
 |.tup l,_=>some (.tup (cutD l lo hi))
 |x,M=>(aR x M).map λl=>.lst (cutD l lo hi)
theorem Va:SlR X (λx lo hi H Q=>∃ρ M dx d,J X.mg ρ M H/\Cv X.mg ρ H x dx/\Ek lo hi dx M=some d/\∀ρ' H' v,Ext ρ H ρ' H'->J X.mg ρ' M H'->Cv X.mg ρ' H' v d->Q v H'):=by
 intro aaD s σ H x v vl vu lo hi sl Q I rx hs pl pu h;obtain⟨ρ,M,dx,d,j,c,e,q⟩:=h;unfold Ek at e;split at e
 ·cases e;cases c with | tup n a c=>
  refine Oz (X:=X) aaD s σ H _ v vl vu lo hi sl Q I rx hs pl pu ⟨_,_,rfl,a,λp H' S hp=>?_⟩
  exact q ρ H' _ (.same S) (j.same S) (.tup ((j.same S).notup hp) hp ((c.cut lo hi).mono (.same S)))
 ·obtain⟨l,h1,rfl⟩:=Wi.mp e;obtain⟨a,xs,rfl,ha,c⟩:=eF j c h1;refine sl_list (X:=X) aaD s σ H _ v vl vu lo hi sl Q I rx hs pl pu ⟨_,_,rfl,SqL.of ha,λp hp=>?_⟩
  exact q ρ _ _ (.lay hp) (j.lay _ hp) (.lst (j.fresh hp) upd_same ((c.cut lo hi).mono (.lay hp)))
theorem uQ{fa:ak->DM D}{lo hi:Option Expr}{fl fh:ak->DM (Option Int)}(ha:DE X E a fa)(hl:DP X E lo fl)(hh:DP X E hi fh):
  DE X E (.Subscript a (.Slice lo hi none p2) pos) (λδ=>fa δ>>=λx=>fl δ>>=λl=>fh δ>>=λh=>rd (Ek l h x)):=⟨PE.mono (pe_slice Va ha.h hl.h hh.h) λσ H Q h=>by
 obtain⟨ρ,δ,M,ev,j,g1⟩:=h;refine⟨ρ,δ,M,ev,j,g1.bind λρ1 H1 M1 x dx e1 j1 c1 g2=>⟨ρ1,δ,M1,ev.mono e1,j1,g2.bind λρ2 H2 M2 l dl e2 j2 c2 g3=>⟨ρ2,δ,M2,(ev.mono e1).mono e2,j2,g3.bind λρ3 H3 M3 h dh e3 j3 c3 g4=>?_⟩⟩⟩
 have c2:l=dl:=c2;have c3:h=dh:=c3;subst c2 c3;obtain⟨d,e,q⟩:=g4.rd;exact⟨ρ3,M3,dx,d,j3,(c1.mono e2).mono e3,e,q⟩⟩
end
inductive Fl where
 |nx (δ:ak) | rt (d:D) | bk (δ:ak) | ct (δ:ak)
def vD(mg:Str->Option Value)(ρ:Rh)(H:Hp)(D:Ends)(E:XK):R Fl×Mo->Prop
 |(.ok (.nx δ'),M')=>∀ρ' H' σ',Ext ρ H ρ' H'->J mg ρ' M' H'->Ev mg ρ' H' σ' δ'->D.nx σ' H'
 |(.ok (.bk δ'),M')=>∀ρ' H' σ',Ext ρ H ρ' H'->J mg ρ' M' H'->Ev mg ρ' H' σ' δ'->D.bk σ' H'
 |(.ok (.ct δ'),M')=>∀ρ' H' σ',Ext ρ H ρ' H'->J mg ρ' M' H'->Ev mg ρ' H' σ' δ'->D.ct σ' H'
 |(.ok (.rt d),M')=>∀ρ' H' v,Ext ρ H ρ' H'->J mg ρ' M' H'->Cv mg ρ' H' v d->D.rt v H'
 |(.exc c,M')=>∀ρ' H' C,Ext ρ H ρ' H'->J mg ρ' M' H'->mg c=some (.ref C)->E (.ref C) none H'
def bh(mg:Str->Option Value)(E:XK)(D:Ends)(ρ:Rh)(H:Hp)(m:DM Fl)(M:Mo):Prop:=∃r,m M=some r/\vD mg ρ H D E r
section
variable{mg:Str->Option Value}{ρ ρ':Rh}{H H':Hp}{E:XK}{α β:Type}{rel:Rh->Hp->β->α->Prop}{D D':Ends}{Q':β->Hp->Prop}{M:Mo}
theorem vD.mono(e:Ext ρ H ρ' H')(h:vD mg ρ H D E r):vD mg ρ' H' D E r:=by
 obtain⟨r,M'⟩:=r;cases r with
 |ok a=>cases a<;>exact λρ2 H2 b e2 j c=>h ρ2 H2 b (e.trans e2) j c
 |exc c=>exact λρ2 H2 C e2 j m=>h ρ2 H2 C (e.trans e2) j m
set_option tactic.hygienic true in
theorem bh.bind(g:bh mg E D ρ H (m>>=k) M)
  (f:∀ρ1 H1 M1 b a,Ext ρ H ρ1 H1->J mg ρ1 M1 H1->rel ρ1 H1 b a->bh mg E D ρ1 H1 (k a) M1->Q' b H1):Go mg E rel Q' ρ H m M:=by
 obtain⟨r,e,p⟩:=g;have e:DM.bind m k M=some r:=e;unfold DM.bind at e;split at e
 ·cases e
 ·rename_i c M' em;cases e;exact⟨_,em,p⟩
 ·rename_i a M' em;exact⟨_,em,λρ1 H1 b x j c=>f ρ1 H1 M' b a x j c ⟨r,e,p.mono x⟩⟩
theorem bh.pure(g:bh mg E D ρ H (pure a) M):vD mg ρ H D E (.ok a,M):=by obtain⟨r,e,p⟩:=g;have e:some (R.ok a,M)=some r:=e;cases e;exact p
def xU(f g:ak->DM Fl):ak->DM Fl:=λδ=>f δ>>=λr=>match r with
 |.nx δ'=>g δ'
 |r=>Pure.pure r
set_option tactic.hygienic true in
theorem bh.seq(g:bh mg E D ρ H (f>>=k) M)
  (hn:∀δ' ρ1 H1 M1 σ1,Ext ρ H ρ1 H1->J mg ρ1 M1 H1->Ev mg ρ1 H1 σ1 δ'->bh mg E D ρ1 H1 (k (.nx δ')) M1->D'.nx σ1 H1)
  (hb:∀δ' ρ1 H1 M1 σ1,Ext ρ H ρ1 H1->J mg ρ1 M1 H1->Ev mg ρ1 H1 σ1 δ'->bh mg E D ρ1 H1 (k (.bk δ')) M1->D'.bk σ1 H1)
  (hc:∀δ' ρ1 H1 M1 σ1,Ext ρ H ρ1 H1->J mg ρ1 M1 H1->Ev mg ρ1 H1 σ1 δ'->bh mg E D ρ1 H1 (k (.ct δ')) M1->D'.ct σ1 H1)
  (hr:∀d ρ1 H1 M1 v,Ext ρ H ρ1 H1->J mg ρ1 M1 H1->Cv mg ρ1 H1 v d->bh mg E D ρ1 H1 (k (.rt d)) M1->D'.rt v H1):bh mg E D' ρ H f M:=by
 obtain⟨r,e,p⟩:=g;have e:DM.bind f k M=some r:=e;unfold DM.bind at e;split at e
 ·cases e
 ·rename_i c M' em;cases e;exact⟨_,em,p⟩
 ·rename_i a M' em;refine⟨_,em,?_⟩;cases a with
  |nx δ'=>exact λρ1 H1 b x j c=>hn δ' ρ1 H1 M' b x j c ⟨r,e,p.mono x⟩
  |bk δ'=>exact λρ1 H1 b x j c=>hb δ' ρ1 H1 M' b x j c ⟨r,e,p.mono x⟩
  |ct δ'=>exact λρ1 H1 b x j c=>hc δ' ρ1 H1 M' b x j c ⟨r,e,p.mono x⟩
  |rt d=>exact λρ1 H1 b x j c=>hr d ρ1 H1 M' b x j c ⟨r,e,p.mono x⟩
end
def tS(mg:Str->Option Value)(E:XK)(f:ak->DM Fl):TS:=λD σ H=>∃ρ δ M,Ev mg ρ H σ δ/\J mg ρ M H/\bh mg E D ρ H (f δ) M
structure DS(X:Cx)(E:XK)(st:Stmt)(f:ak->DM Fl):Prop where
 h:PS X st (tS X.mg E f)
structure DSs(X:Cx)(E:XK)(st:List Stmt)(f:ak->DM Fl):Prop where
 h:PSs X st (tS X.mg E f)
theorem PS.mono(h:PS X e t)(f:∀D σ H,t' D σ H->t D σ H):PS X e t':=λaaD s σ H D I q=>h aaD s σ H D I (f D σ H q)
theorem PSs.mono(h:PSs X e t)(f:∀D σ H,t' D σ H->t D σ H):PSs X e t':=λaaD s σ H D I q=>h aaD s σ H D I (f D σ H q)
section
variable{X:Cx}{E:XK}{st:Stmt}{rest:List Stmt}{f g:ak->DM Fl}{e:Expr}{fe:ak->DM D}{pos:Pos}
theorem bc:DSs X E [] (λδ=>pure (.nx δ)):=⟨PSs.mono pss_nil λD σ H h=>by obtain⟨ρ,δ,M,ev,j,g⟩:=h;exact g.pure ρ H σ .refl j ev⟩
theorem au(h:DS X E st f):DSs X E [st] f:=⟨pss_one h.h⟩
theorem aq(h1:DS X E st f)(h2:DSs X E rest g):DSs X E (st::rest) (xU f g):=⟨PSs.mono (pss_cons h1.h h2.h) λD σ H h=>by
 obtain⟨ρ,δ,M,ev,j,g1⟩:=h;refine⟨ρ,δ,M,ev,j,g1.seq (λδ' ρ1 H1 M1 σ1 e1 j1 ev1 g2=>⟨ρ1,δ',M1,ev1,j1,g2⟩) (λδ' ρ1 H1 M1 σ1 e1 j1 ev1 g2=>?_) (λδ' ρ1 H1 M1 σ1 e1 j1 ev1 g2=>?_) (λd ρ1 H1 M1 v e1 j1 c1 g2=>?_)⟩
 ·exact bh.pure g2 ρ1 H1 σ1 .refl j1 ev1
 ·exact bh.pure g2 ρ1 H1 σ1 .refl j1 ev1
 ·exact bh.pure g2 ρ1 H1 v .refl j1 c1⟩
theorem aJ(he:DE X E e fe):DS X E (.Return (some e) pos) (λδ=>fe δ>>=λd=>pure (.rt d)):=⟨PS.mono (L2.ps_ret he.h) λD σ H h=>by obtain⟨ρ,δ,M,ev,j,g1⟩:=h;exact⟨ρ,δ,M,ev,j,g1.bind λρ1 H1 M1 v d e1 j1 c1 g2=>g2.pure ρ1 H1 v .refl j1 c1⟩⟩
theorem cu(he:DE X E e fe)(hs:swapsWith e none pos.line X.env=pure false:=by rfl):DS X E (.Expr e pos) (λδ=>fe δ>>=λz=>pure (.nx δ)):=⟨PS.mono (ps_expr he.h hs) λD σ H h=>by obtain⟨ρ,δ,M,ev,j,g1⟩:=h;exact⟨ρ,δ,M,ev,j,g1.bind λρ1 H1 M1 v d e1 j1 c1 g2=>g2.pure ρ1 H1 σ .refl j1 (ev.mono e1)⟩⟩
theorem aN(hN:X.N.Nodup)(hi:X.N[i]?=some x)(hx:Loc X.env.scope x)(he:DE X E e fe)(hs:swapsWith e (some (.Name x pos')) pos.line X.env=pure false:=by rfl)(hf:X.fn x=true\/X.env.scope.names.lookup x=some .local:=by first | exact .inl rfl | exact .inr rfl | assumption):
  DS X E (.Assign [.Name x pos'] e pos) (λδ=>fe δ>>=λd=>pure (.nx (δ.set i (some d)))):=⟨PS.mono (ps_set hN hi hx he.h hs hf) λD σ H h=>by
 obtain⟨ρ,δ,M,ev,j,g1⟩:=h;exact⟨ρ,δ,M,ev,j,g1.bind λρ1 H1 M1 v d e1 j1 c1 g2=>g2.pure ρ1 H1 _ .refl j1 ((ev.mono e1).set c1)⟩⟩
theorem bM(hc:DT X E c tc)(ha:DSs X E a f)(hb:DSs X E b g):DS X E (.If c a b pos) (λδ=>tc δ>>=λk=>if k then f δ else g δ):=⟨PS.mono (L2.ps_if hc.h ha.h hb.h) λD σ H h=>by
 obtain⟨ρ,δ,M,ev,j,g1⟩:=h;refine⟨ρ,δ,M,ev,j,g1.bind λρ1 H1 M1 x dx e1 j1 c1 g2=>?_⟩
 have c1:x=dx:=c1;subst c1;cases x with
 |true=>exact iteT ⟨ρ1,δ,M1,ev.mono e1,j1,g2⟩
 |false=>exact iteF ⟨ρ1,δ,M1,ev.mono e1,j1,g2⟩⟩
def tG(mg:Str->Option Value)(E:XK)(fg:D->ak->DM ak):TG:=λv σ H Q=>∃ρ δ M d,Ev mg ρ H σ δ/\J mg ρ M H/\Cv mg ρ H v d/\Go mg E (Ev mg) Q ρ H (fg d δ) M
def V2(mg:Str->Option Value)(E:XK)(fg:List D->ak->DM ak):TGs:=λvs σ H Q=>∃ρ δ M ds,Ev mg ρ H σ δ/\J mg ρ M H/\Cvs mg ρ H vs ds/\Go mg E (Ev mg) Q ρ H (fg ds δ) M
structure DG(X:Cx)(E:XK)(tg:Expr)(fg:D->ak->DM ak):Prop where
 h:PG X tg (tG X.mg E fg)
structure DGs(X:Cx)(E:XK)(tg:List Expr)(fg:List D->ak->DM ak):Prop where
 h:PGs X tg (V2 X.mg E fg)
theorem PG.mono(h:PG X tg t)(f:∀v σ H Q,t' v σ H Q->t v σ H Q):PG X tg t':=λaaD s σ H v u Q I r q=>h aaD s σ H v u Q I r (f v σ H Q q)
theorem PGs.mono(h:PGs X tg t)(f:∀v σ H Q,t' v σ H Q->t v σ H Q):PGs X tg t':=λaaD s σ H v u Q I r q=>h aaD s σ H v u Q I r (f v σ H Q q)
def gN(i:Nat):D->ak->DM ak:=λd δ=>pure (δ.set i (some d))
theorem aK(hN:X.N.Nodup)(hi:X.N[i]?=some x)(hx:Loc X.env.scope x)(hf:X.fn x=true\/X.env.scope.names.lookup x=some .local:=by first | exact .inl rfl | exact .inr rfl | assumption):DG X E (.Name x pos) (gN i):=
 ⟨PG.mono (pg_name hN hi hx hf) fun v σ H Q h=>by obtain⟨ρ,δ,M,d,ev,j,c,g1⟩:=h;exact Go.pure g1 ρ H _ .refl j (ev.set c)⟩
def fX:List D->ak->DM ak
 |[],δ=>pure δ
 |_,_=>stuck
def bY(f:D->ak->DM ak)(fs:List D->ak->DM ak):List D->ak->DM ak
 |d::l,δ=>f d δ>>=λδ'=>fs l δ'
 |_,_=>stuck
theorem gm:DGs X E [] fX:=⟨PGs.mono pgs_nil λvs σ H Q h=>by
 obtain⟨ρ,δ,M,ds,ev,j,c,g1⟩:=h;cases c with
 |nil=>exact⟨rfl,Go.pure (a:=δ) g1 ρ H σ .refl j ev⟩
 |cons _ _=>obtain⟨r,e,_⟩:=g1;cases e⟩
theorem bJ(h1:DG X E e fg)(h2:DGs X E es fgs)(hs:(assignEach (e::es) X.env).map (·.2)=assign e X.env::(assignEach es X.env).map (·.2):=by rfl):DGs X E (e::es) (bY fg fgs):=
 ⟨PGs.mono (pgs_cons h1.h h2.h hs) fun vs σ H Q h=>by
  obtain⟨ρ,δ,M,ds,ev,j,c,g1⟩:=h;cases c with
  |nil=>obtain⟨r,e,_⟩:=g1;cases e
  |cons c1 c2=>
    have g1:Go X.mg E (Ev X.mg) Q ρ H (fg _ δ>>=λδ'=>fgs _ δ') M:=g1
    exact⟨_,_,rfl,ρ,δ,M,_,ev,j,c1,g1.bind λρ1 H1 M1 σ1 δ1 e1 j1 ev1 g2=>⟨ρ1,δ1,M1,_,ev1,j1,c2.mono e1,g2⟩⟩⟩
def gT(n:Nat)(fs:List D->ak->DM ak):D->ak->DM ak
 |.tup l,δ=>if l.length=n then fs l δ else stuck
 |_,_=>stuck
set_option tactic.hygienic true in
theorem jq(hc:X.calm=true)(h:DGs X E es fgs)(hn:(assignEach es X.env).length=n:=by rfl)(hst:(assignEach es X.env).findIdx? (·.1)=none:=by rfl):DG X E (.Tuple es k pos) (gT n fgs):=
 ⟨PG.mono (pg_tup hc h.h hn hst) fun v σ H Q h=>by
  obtain⟨ρ,δ,M,d,ev,j,c,g1⟩:=h;cases c with
  | tup nx a c=>
    have g1:Go X.mg E (Ev X.mg) Q ρ H (if _ then _ else _) M:=g1
    split at g1
    ·rename_i hl;exact⟨_,_,rfl,SqT.of a,by rw[c.len];exact hl,ρ,δ,M,_,ev,j,c,g1⟩
    ·obtain⟨r,e,_⟩:=g1;cases e
  |_=>obtain⟨r,e,_⟩:=g1;cases e⟩
def Gr:D->D->D->DM Unit
 | .ref n,.int k,v=>λM=>match M[n]? with
   |some (.lst l)=>match ixN l.length k with
     |some j=>some (.ok (),M.set n (.lst (l.set j v)))
     |none=>none
   |_=>none
 |_,_,_=>stuck
def Gg(mg:Str->Option Value)(E:XK)(gs:D->D->D->DM Unit):TSet:=λo i v H Q=>∃ρ M dO di dv,J mg ρ M H/\Cv mg ρ H o dO/\Cv mg ρ H i di/\Cv mg ρ H v dv/\Go mg E (λ_ _ (_:Unit) (_:Unit)=>True) (λz H'=>Q H') ρ H (gs dO di dv) M
set_option tactic.hygienic true in
theorem wQ:PSet X (Gg X.mg E Gr):=by
 intro aaD s σ H o i v ov iv u Q I ro ri rv h;obtain⟨ρ,M,dO,di,dv,j,co,ci,cv,r,e,p⟩:=h;cases co with
 | ref hn=>
   cases ci with
   | int k=>
     rename_i n a;have e:(match M[n]? with
      |some (.lst l)=>match ixN l.length k with
        |some j=>some (R.ok (),M.set n (.lst (l.set j dv)))
        |none=>none
      |_=>none)=some r:=e
     split at e
     ·rename_i l hl;split at e
      ·rename_i q hq;cases e;obtain⟨xs,hx,c⟩:=j.obj _ _ _ hn hl;have x:Ext ρ H ρ (upd H a (.lst (xs.set q v))):=.upd (W6 hn);exact set_list (X:=X) aaD s σ H _ _ v ov iv u Q I ro ri rv ⟨_,_,_,q,rfl,rfl,hx,by rw[c.len];exact hq,p ρ _ () x (j.upd hn ⟨_,upd_same,(c.set cv q).mono x⟩) trivial⟩
      ·cases e
     ·cases e
   |_=>cases e
 |_=>cases e
theorem q8(ho:DE X E o fo)(hi:DE X E i fi)(hs:PSet X (Gg X.mg E gs))
  (ha:∀v,assign (.Subscript o i pos) X.env v=(do
    let ov <-holding [v] (eval o X.env)
    let iv <-holding [v,ov] (eval i X.env)
    standAt pos
    holding [v,ov,iv] (setItem ov iv v)
    release [v,ov,iv] []):=by intro _;rfl):DG X E (.Subscript o i pos) (λd δ=>fo δ>>=λo=>fi δ>>=λi=>gs o i d>>=λz=>pure δ):=
 ⟨PG.mono (pg_sub ho.h hi.h hs ha) fun v σ H Q h=>by obtain⟨ρ,δ,M,d,ev,j,c,g1⟩:=h;exact⟨ρ,δ,M,ev,j,g1.bind λρ1 H1 M1 x dx e1 j1 c1 g2=>⟨ρ1,δ,M1,ev.mono e1,j1,g2.bind λρ2 H2 M2 y dy e2 j2 c2 g3=>⟨ρ2,M2,dx,dy,d,j2,c1.mono e2,c2,(c.mono e1).mono e2,g3.bind λρ3 H3 M3 _ _ e3 j3 _ g4=>g4.pure ρ3 H3 σ .refl j3 (((ev.mono e1).mono e2).mono e3)⟩⟩⟩⟩
theorem jt(he:DE X E e fe)(hg:DG X E tg fg)(hs:swapsWithSole [tg] e pos.line X.env=pure false:=by rfl)(hw:swappedStores [tg] e X.env=pure none:=by rfl)
  (h1:(assignEach [tg] X.env).map (·.2)=[assign tg X.env]:=by rfl):DS X E (.Assign [tg] e pos) (λδ=>fe δ>>=λd=>fg d δ>>=λδ'=>pure (.nx δ')):=⟨PS.mono (ps_asg he.h hg.h hs hw h1) λD σ H h=>by
 obtain⟨ρ,δ,M,ev,j,g1⟩:=h;exact⟨ρ,δ,M,ev,j,g1.bind λρ1 H1 M1 v d e1 j1 c1 g2=>⟨ρ1,δ,M1,d,ev.mono e1,j1,c1,g2.bind λρ2 H2 M2 σ2 δ2 e2 j2 ev2 g3=>g3.pure ρ2 H2 σ2 .refl j2 ev2⟩⟩⟩
def u5(i j:Nat)(fa:ak->DM (List D)):ak->DM Fl:=λδ=>fa δ>>=λl=>match l with
 |[v,w]=>pure (.nx ((δ.set i (some v)).set j (some w)))
 |_=>stuck
theorem vV{kt k2 pt2}(hc:X.calm=true)(hN:X.N.Nodup)(hi:X.N[i]?=some x)(hj:X.N[j]?=some y)(hij:i≠j)
  (hx:X.env.scope.names.lookup x=some .local) (hy:X.env.scope.names.lookup y=some .local) (ha:DA X E [a,b] fa)
  (hw:swappedStores [.Tuple [.Name x px,.Name y py] kt pt] (.Tuple [a,b] k2 pt2) X.env=pure (some [x,y]))
  (hs:swapsWithSole [.Tuple [.Name x px,.Name y py] kt pt] (.Tuple [a,b] k2 pt2) pos.line X.env=pure false:=by rfl) :
  DS X E (.Assign [.Tuple [.Name x px,.Name y py] kt pt] (.Tuple [a,b] k2 pt2) pos) (u5 i j fa):=⟨PS.mono (ps_par hc hN hi hj hij hx hy ha.h.h hw hs) λD σ H h=>by
 obtain⟨ρ,δ,M,ev,j,g1⟩:=h;refine⟨ρ,δ,M,ev,j,bh.bind g1 λρ1 H1 M1 v d e1 j1 c1 g2=>?_⟩
 cases c1 with
 |nil=>obtain⟨r,e,_⟩:=g2;cases e
 | cons c1 c2=>cases c2 with
   |nil=>obtain⟨r,e,_⟩:=g2;cases e
   |cons c2 c3=>cases c3 with
     |nil=>exact⟨_,_,rfl,bh.pure (a:=.nx _) g2 ρ1 H1 _ .refl j1 (((ev.mono e1).set c1).set c2)⟩
     |cons _ _=>obtain⟨r,e,_⟩:=g2;cases e⟩
theorem K8:cF X E (inplaceOp .Add) (λx y=>rd (cZ (λz z=>true) (λi j=>.int (i+j)) x y)):=Bb iop_add
end
inductive Itn where
 |fix (l:List D) | dyn (n:Nat)
def Itn.next:Itn->Nat->Mo->Option (Option D)
 |.fix l,i,_=>some l[i]?
 |.dyn n,i,M=>match M[n]? with
   |some (.lst l)=>some l[i]?
   |_=>none
set_option tactic.hygienic true in
structure ItOk(mg:Str->Option Value)(ρ:Rh)(H:Hp)(Jt:It)(it:Itn):Prop where
 item:∀(i:Nat) ρ' H' M' d,Kp ρ H ρ' H'->J mg ρ' M' H'->it.next i M'=some (some d)->Jt.go i H'/\∀x H2,Jt.yld i H' x H2->Ext ρ' H' ρ' H2/\J mg ρ' M' H2/\Cv mg ρ' H2 x d
 stop:∀(i:Nat) ρ' H' M',Kp ρ H ρ' H'->J mg ρ' M' H'->it.next i M'=some none->Jt.stop i H'
def tI(mg:Str->Option Value)(E:XK)(fi:ak->DM Itn):TI:=λσ H R=>tD mg E (ItOk mg) fi σ H R
structure DI(X:Cx)(E:XK)(tg it:Expr)(fi:ak->DM Itn):Prop where
 h:PI X tg it (tI X.mg E fi)
theorem PI.mono(h:PI X tg e t)(f:∀σ H Q,t' σ H Q->t σ H Q):PI X tg e t':=λaaD s σ H Q I q=>h aaD s σ H Q I (f σ H Q q)
theorem Qv{K:PySem.W.Frag}{mg:Str->Option Value}{ρ:Rh}{H:Hp}{a:Addr}{xs:List V}{ds:List D}(n:a∉ρ)(h:H a=some (.lst xs))(c:Cvs mg ρ H xs ds):ItOk mg ρ H (Itl K a) (.fix ds) where
 item:=λi ρ' H' M' d e j q=>by
  have hq:ds[i]?=some d:=Wq q;obtain⟨v,hv,cv⟩:=c.get hq;have h':=(e.keep _ _ h n nofun).2
  refine⟨⟨xs,v,SqL.of h',hv⟩,λx H2 y=>?_⟩
  obtain⟨rfl,y⟩:=y;have:=y xs (SqL.of h');rw[hv]at this;cases this;exact⟨.refl,j,cv.kp e⟩
 stop:=λi ρ' H' M' e j q=>by have hq:ds[i]?=none:=Wq q;exact⟨xs,SqL.of (e.keep _ _ h n nofun).2,by rw[c.len];exact Wz.mp hq⟩
theorem Qw{K:PySem.W.Frag}{mg:Str->Option Value}{ρ:Rh}{H:Hp}{a:Addr}{xs:List V}{ds:List D}(n:a∉ρ)(h:H a=some (.tup xs))(c:Cvs mg ρ H xs ds):ItOk mg ρ H (Itt K a) (.fix ds) where
 item:=λi ρ' H' M' d e j q=>by
  have hq:ds[i]?=some d:=Wq q;obtain⟨v,hv,cv⟩:=c.get hq;have h':=(e.keep _ _ h n nofun).2
  refine⟨⟨xs,v,SqT.of h',hv⟩,λx H2 y=>?_⟩
  obtain⟨rfl,y⟩:=y;have:=y xs (SqT.of h');rw[hv]at this;cases this;exact⟨.refl,j,cv.kp e⟩
 stop:=λi ρ' H' M' e j q=>by have hq:ds[i]?=none:=Wq q;exact⟨xs,SqT.of (e.keep _ _ h n nofun).2,by rw[c.len];exact Wz.mp hq⟩
set_option tactic.hygienic true in
theorem Qu{K:PySem.W.Frag}{mg:Str->Option Value}{ρ:Rh}{H:Hp}{a:Addr}{n:Nat}(h:ρ.st[n]?=some a):ItOk mg ρ H (Itl K a) (.dyn n) where
 item:=λi ρ' H' M' d e j q=>by
  have h':=e.at h;unfold Itn.next at q;dsimp only at q;split at q
  ·rename_i l hl;obtain⟨xs,hx,c⟩:=j.obj n a _ h' hl;have hq:l[i]?=some d:=Wq q;obtain⟨v,hv,cv⟩:=c.get hq;refine⟨⟨xs,v,SqL.of hx,hv⟩,λx H2 y=>?_⟩
   obtain⟨rfl,y⟩:=y;have:=y xs (SqL.of hx);rw[hv]at this;cases this;exact⟨.refl,j,cv⟩
  ·cases q
 stop:=λi ρ' H' M' e j q=>by
  have h':=e.at h;unfold Itn.next at q;dsimp only at q;split at q
  ·rename_i l hl;obtain⟨xs,hx,c⟩:=j.obj n a _ h' hl;have hq:l[i]?=none:=Wq q;exact⟨xs,SqL.of hx,by rw[c.len];exact Wz.mp hq⟩
  ·cases q
def pW(lo:Int)(n:Nat):List D:=(List.range n).map λi=>.int (lo+(i:Nat))
theorem Ef{lo:Int}{n i:Nat}:(pW lo n)[i]?=if i<n then some (.int (lo+(i:Nat))) else none:=by
 unfold pW;rw[Wn];by_cases h:i<n
 ·rw[Wm h,W3 h];rfl
 ·rw[Wr h,Wz.mpr (by simp;lia)];rfl
set_option tactic.hygienic true in
theorem Ih{mg:Str->Option Value}{lo:Int}{n:Nat}:ItOk mg ρ H (Itr lo n) (.fix (pW lo n)) where
 item:=λi ρ' H' M' d e j q=>by
  have hq:(pW lo n)[i]?=some d:=Wq q;rw[Ef]at hq;split at hq
  ·rename_i h;cases hq;refine⟨h,λx H2 y=>?_⟩
   obtain⟨rfl,rfl⟩:=y;exact⟨.refl,j,.int _⟩
  ·cases hq
 stop:=λi ρ' H' M' e j q=>by
  have hq:(pW lo n)[i]?=none:=Wq q;rw[Ef]at hq;split at hq
  ·cases hq
  ·rename_i h;exact X4.mp h
section
variable{X:Cx}{E:XK}{tg:Expr}
def pX(i:Int):Bool:=decide (-(2^62)<=i/\i<2^62)
def rR:List D->Option Itn
 |[.int j]=>if pX j then some (.fix (pW 0 j.toNat)) else none
 |_=>none
def BJ:List D->Option Itn
 |[.int i,.int j]=>if pX i&&pX j then some (.fix (pW i (j-i).toNat)) else none
 |_=>none
set_option tactic.hygienic true in
theorem bA(hg:Gl X "range")(hm:X.mg "range"=none)(ha:DA X E [a] fa)(hs:notStar a=true:=by rfl):DI X E tg (.Call (.Name "range" p) [a] [] pos) (λδ=>fa δ >>= λl=>opt (rR l)):=
 ⟨PI.mono (Ga hg hm ha.h hs).h fun σ H R h=>by
  obtain⟨ρ,δ,M,ev,j,g1⟩:=h;refine⟨ρ,δ,M,ev,j,g1.bind λρ1 H1 M1 x dx e1 j1 c1 g2=>?_⟩
  obtain⟨it,e,q⟩:=g2.opt;unfold rR at e;split at e
  ·split at e
   ·rename_i hk;cases e;cases c1 with | cons c1 c2=>
    cases c2;cases c1;have hk:=Xq hk;exact⟨_,rfl,hk.1,hk.2,q ρ1 H1 _ .refl j1 Ih⟩
   ·cases e
  ·cases e⟩
set_option tactic.hygienic true in
theorem HF(hg:Gl X "range")(hm:X.mg "range"=none)(ha:DA X E [a,b] fa)(hs:notStar a=true:=by rfl)(hs2:notStar b=true:=by rfl):DI X E tg (.Call (.Name "range" p) [a,b] [] pos) (λδ=>fa δ >>= λl=>opt (BJ l)):=
 ⟨PI.mono (Gb hg hm ha.h hs hs2).h fun σ H R h=>by
  obtain⟨ρ,δ,M,ev,j,g1⟩:=h;refine⟨ρ,δ,M,ev,j,g1.bind λρ1 H1 M1 x dx e1 j1 c1 g2=>?_⟩
  obtain⟨it,e,q⟩:=g2.opt;unfold BJ at e;split at e
  ·split at e
   ·rename_i hk;cases e;cases c1 with | cons c1 c2=>cases c2 with | cons c2 c3=>
    cases c3;cases c1;cases c2;have hk:=(YC _ _).mp hk;have h1:=Xq hk.1;have h2:=Xq hk.2;exact⟨_,_,rfl,⟨h1.1,h1.2,h2.1,h2.2⟩,q ρ1 H1 _ .refl j1 Ih⟩
   ·cases e
  ·cases e⟩
def mJ:D->Option Itn
 |.tup l=>some (.fix l)
 |_=>none
def xZ:D->Mo->Option Itn
 |.lst l,_=>some (.fix l)
 |.ref n,M=>match M[n]? with
   |some (.lst _)=>some (.dyn n)
   |_=>none
 |_,_=>none
theorem bV(hl:DE X E l fl):DI X E tg l (λδ=>fl δ>>=λd=>opt (mJ d)):=⟨PI.mono (pi_tup hl.h) λσ H R h=>by
 obtain⟨ρ,δ,M,ev,j,g1⟩:=h;refine⟨ρ,δ,M,ev,j,g1.bind λρ1 H1 M1 x dx e1 j1 c1 g2=>?_⟩
 obtain⟨it,e,q⟩:=g2.opt;unfold mJ at e;split at e
 ·cases e;cases c1 with | tup n a c=>
  exact⟨_,rfl,⟨_,SqT.of a⟩,q ρ1 H1 _ .refl j1 (Qw n a c)⟩
 ·cases e⟩
set_option tactic.hygienic true in
theorem gG(hl:DE X E l fl):DI X E tg l (λδ=>fl δ >>= λd=>rd (xZ d)):=⟨PI.mono (pi_list hl.h) λσ H R h=>by
 obtain⟨ρ,δ,M,ev,j,g1⟩:=h;refine⟨ρ,δ,M,ev,j,g1.bind λρ1 H1 M1 x dx e1 j1 c1 g2=>?_⟩
 obtain⟨it,e,q⟩:=g2.rd;unfold xZ at e;split at e
 ·cases e;cases c1 with | lst n a c=>
  exact⟨_,rfl,⟨_,SqL.of a⟩,q ρ1 H1 _ .refl j1 (Qv n a c)⟩
 ·split at e
  ·rename_i l' hl';cases e;cases c1 with | ref hn=>
   obtain⟨xs,hx,_⟩:=j1.obj _ _ _ hn hl';exact⟨_,rfl,⟨xs,SqL.of hx⟩,q ρ1 H1 _ .refl j1 (Qu hn)⟩
  ·cases e
 ·cases e⟩
end
def forL(tg:D->ak->DM ak)(fb:ak->DM Fl):List D->ak->DM Fl
 |[],δ=>pure (.nx δ)
 |d::l,δ=>tg d δ>>=λδ1=>fb δ1>>=λr=>match r with
   |.nx δ2=>forL tg fb l δ2
   |.ct δ2=>forL tg fb l δ2
   |.bk δ2=>pure (.nx δ2)
   |.rt d=>pure (.rt d)
def Ae(tg:D->ak->DM ak)(fb:ak->DM Fl)(n:Nat):Nat->Nat->ak->DM Fl
 |0,_,_=>stuck
 | k + 1,i,δ=>rd (Itn.next (.dyn n) i) >>= λo=>match o with
   |none=>pure (.nx δ)
   |some d=>tg d δ>>=λδ1=>fb δ1>>=λr=>match r with
     |.nx δ2=>Ae tg fb n k (i+1) δ2
     |.ct δ2=>Ae tg fb n k (i+1) δ2
     |.bk δ2=>pure (.nx δ2)
     |.rt d=>pure (.rt d)
def Ad(N:Nat)(tg:D->ak->DM ak)(fb:ak->DM Fl):Itn->ak->DM Fl
 |.fix l=>forL tg fb l
 |.dyn n=>Ae tg fb n N 0
theorem bh.rdb{mg:Str->Option Value}{E:XK}{D:Ends}{ρ:Rh}{H:Hp}{M:Mo}{γ:Type}{f:Mo->Option γ}{k:γ->DM Fl}(g:bh mg E D ρ H (L3.rd f>>=k) M):∃a,f M=some a/\bh mg E D ρ H (k a) M:=by
 obtain⟨r,e,p⟩:=g;have e:DM.bind _ _ M=some r:=e;unfold DM.bind L3.rd at e;cases h:f M with
 |none=>rw[h]at e;cases e
 |some a=>rw[h]at e;exact⟨a,rfl,r,e,p⟩
theorem uU{X:Cx}{E:XK}{fg:D->ak->DM ak}{fb:ak->DM Fl}{D:Ends}{σ:L2.St}{H H':Hp}{ρ:Rh}{δ:ak}{M:Mo}{x:V}{d:L3.D}{N:L2.St->Hp->Prop}{again:ak->DM Fl}
  (ev:Ev X.mg ρ H σ δ) (e1:Ext ρ H ρ H') (j1:J X.mg ρ M H') (c1:Cv X.mg ρ H' x d) (ht:bh X.mg E D ρ H (fg d δ>>=λδ1=>fb δ1>>=λr=>match r with
    |.nx δ2=>again δ2
    |.ct δ2=>again δ2
    |.bk δ2=>pure (.nx δ2)
    |.rt d=>pure (.rt d)) M) (hN:∀ρ2 δ2 M2 σ2 H2,Ext ρ H ρ2 H2->Ev X.mg ρ2 H2 σ2 δ2->J X.mg ρ2 M2 H2->bh X.mg E D ρ2 H2 (again δ2) M2->N σ2 H2) :
  tG X.mg E fg x σ H' λσ2 H2=>tS X.mg E fb { D with nx:=N,ct:=N,bk:=D.nx } σ2 H2:=by
 obtain⟨r,er,p⟩:=ht;have ht':bh X.mg E D ρ H' _ M:=⟨r,er,p.mono e1⟩;refine⟨ρ,δ,M,d,ev.mono e1,j1,c1,bh.bind ht' λρ2 H2 M2 σ2 δ2 e2 j2 ev2 g2=>⟨ρ2,δ2,M2,ev2,j2,g2.seq (λδ' ρ3 H3 M3 σ3 e3 j3 ev3 g3=>?_) (λδ' ρ3 H3 M3 σ3 e3 j3 ev3 g3=>?_) (λδ' ρ3 H3 M3 σ3 e3 j3 ev3 g3=>?_) (λd' ρ3 H3 M3 v e3 j3 c3 g3=>?_)⟩⟩
 ·exact hN ρ3 δ' M3 σ3 H3 ((e1.trans e2).trans e3) ev3 j3 g3
 ·exact bh.pure (a:=.nx δ') g3 ρ3 H3 σ3 .refl j3 ev3
 ·exact hN ρ3 δ' M3 σ3 H3 ((e1.trans e2).trans e3) ev3 j3 g3
 ·exact bh.pure (a:=.rt d') g3 ρ3 H3 v .refl j3 c3
theorem cC{body:List Stmt}{fi:ak->DM Itn}{fg:D->ak->DM ak}{fb:ak->DM Fl}(N:Nat)(hp:PassesOwn (model X.prog X.w) X.A X.env X.xe)(hc:X.calm=true)(hi:DI X E tg iter fi)(hg:DG X E tg fg)(hb:DSs X E body fb)
  (hs:∀x,foldedSetIterable iter X.env x=pure x:=by intro _;rfl):DS X E (.For tg iter body [] pos) (λδ=>fi δ>>=λit=>Ad N fg fb it δ):=⟨PS.mono (ps_for hp hc hi.h hg.h hb.h hs) λD σ H h=>by
 obtain⟨ρ,δ,M,ev,j,g1⟩:=h;refine⟨ρ,δ,M,ev,j,g1.bind λρ1 H1 M1 Jt it e1 j1 iok g2=>?_⟩
 cases it with
 | fix l=>
   refine⟨λi m σ H=>∃ρ' δ' M',Ext ρ1 H1 ρ' H/\Ev X.mg ρ' H σ δ'/\J X.mg ρ' M' H/\m=(l.drop i).length/\bh X.mg E D ρ' H (forL fg fb (l.drop i) δ') M',⟨_,ρ1,δ,M1,.refl,ev.mono e1,j1,rfl,g2⟩,?_⟩
   rintro i m σ2 H2 ⟨ρ2,δ2,M2,e2,ev2,j2,rfl,g3⟩;cases hd:l[i]? with
   |none=>have hl:l.drop i=[]:=List.drop_eq_nil_of_le (Wz.mp hd);rw[hl]at g3;exact .inl ⟨iok.stop i ρ2 H2 M2 e2.kp j2 (congrArg some hd),bh.pure (a:=.nx δ2) g3 ρ2 H2 σ2 .refl j2 ev2⟩
   |some d=>
     obtain⟨hi',hd'⟩:=Wf.mp hd;have hl:l.drop i=d::l.drop (i+1):=by rw[<-hd'];exact aaq hi'
     obtain⟨go,yl⟩:=iok.item i ρ2 H2 M2 d e2.kp j2 (congrArg some hd);rw[hl]at g3;refine .inr ⟨go,λσ' H'=>∃ρ' δ' M',Ext ρ1 H1 ρ' H'/\Ev X.mg ρ' H' σ' δ'/\J X.mg ρ' M' H'/\bh X.mg E D ρ' H' (forL fg fb (l.drop (i+1)) δ') M',λσ' H' ⟨ρ',δ',M',a1,a2,a3,a4⟩=>⟨_,by rw[YX,YX];lia,ρ',δ',M',a1,a2,a3,rfl,a4⟩,λx H' y=>?_⟩
     obtain⟨x1,x2,x3⟩:=yl x H' y;exact uU ev2 x1 x2 x3 g3 λρ3 δ3 M3 σ3 H3 f1 f2 f3 f4=>⟨ρ3,δ3,M3,e2.trans f1,f2,f3,f4⟩
 | dyn n=>
   refine⟨λi m σ H=>∃ρ' δ' M',Ext ρ1 H1 ρ' H/\Ev X.mg ρ' H σ δ'/\J X.mg ρ' M' H/\bh X.mg E D ρ' H (Ae fg fb n m i δ') M',⟨N,ρ1,δ,M1,.refl,ev.mono e1,j1,g2⟩,?_⟩
   rintro i m σ2 H2 ⟨ρ2,δ2,M2,e2,ev2,j2,g3⟩;cases m with
   |zero=>obtain⟨r,e,_⟩:=g3;cases e
   | succ m=>
     obtain⟨o,eo,g4⟩:=bh.rdb g3;cases o with
     |none=>exact .inl ⟨iok.stop i ρ2 H2 M2 e2.kp j2 eo,bh.pure (a:=.nx δ2) g4 ρ2 H2 σ2 .refl j2 ev2⟩
     |some d=>
       obtain⟨go,yl⟩:=iok.item i ρ2 H2 M2 d e2.kp j2 eo;refine .inr ⟨go,λσ' H'=>∃ρ' δ' M',Ext ρ1 H1 ρ' H'/\Ev X.mg ρ' H' σ' δ'/\J X.mg ρ' M' H'/\bh X.mg E D ρ' H' (Ae fg fb n m (i+1) δ') M',λσ' H' z=>⟨m,Xw _,z⟩,λx H' y=>?_⟩
       obtain⟨x1,x2,x3⟩:=yl x H' y;exact uU ev2 x1 x2 x3 g4 λρ3 δ3 M3 σ3 H3 f1 f2 f3 f4=>⟨ρ3,δ3,M3,e2.trans f1,f2,f3,f4⟩⟩
def cY(c:ak->DM Bool)(fb:ak->DM Fl):Nat->ak->DM Fl
 |0,_=>stuck
 | k + 1,δ=>c δ >>= λb=>if b then (fb δ >>= λr=>match r with
     |.nx δ2=>cY c fb k δ2
     |.ct δ2=>cY c fb k δ2
     |.bk δ2=>pure (.nx δ2)
     |.rt d=>pure (.rt d)) else pure (.nx δ)
theorem pI(N:Nat)(hp:PassesOwn (model X.prog X.w) X.A X.env X.xe)(hc:DT X E c fc)(hb:DSs X E body fb):DS X E (.While c body [] pos) (cY fc fb N):=⟨PS.mono (L2.ps_while hp hc.h hb.h) λD σ H h=>by
 obtain⟨ρ,δ,M,ev,j,g1⟩:=h;refine⟨λm σ H=>∃ρ' δ' M',Ev X.mg ρ' H σ δ'/\J X.mg ρ' M' H/\bh X.mg E D ρ' H (cY fc fb m δ') M',⟨N,ρ,δ,M,ev,j,g1⟩,?_⟩
 rintro m σ2 H2 ⟨ρ2,δ2,M2,ev2,j2,g3⟩;cases m with
 |zero=>obtain⟨r,e,_⟩:=g3;cases e
 | succ m=>
   refine⟨ρ2,δ2,M2,ev2,j2,bh.bind g3 λρ3 H3 M3 b b' e3 j3 cb g4=>?_⟩
   have cb:b=b':=cb;subst cb;cases b with
   |true=>
     refine iteT ⟨λσ' H'=>∃ρ' δ' M',Ev X.mg ρ' H' σ' δ'/\J X.mg ρ' M' H'/\bh X.mg E D ρ' H' (cY fc fb m δ') M',λσ' H' z=>⟨m,Xw _,z⟩,ρ3,δ2,M3,ev2.mono e3,j3,?_⟩
     refine bh.seq g4 (λδ' ρ4 H4 M4 σ4 e4 j4 ev4 g5=>⟨ρ4,δ',M4,ev4,j4,g5⟩) (λδ' ρ4 H4 M4 σ4 e4 j4 ev4 g5=>?_) (λδ' ρ4 H4 M4 σ4 e4 j4 ev4 g5=>⟨ρ4,δ',M4,ev4,j4,g5⟩) (λd' ρ4 H4 M4 v e4 j4 c4 g5=>?_)
     ·exact bh.pure (a:=.nx δ') g5 ρ4 H4 σ4 .refl j4 ev4
     ·exact bh.pure (a:=.rt d') g5 ρ4 H4 v .refl j4 c4
   |false=>exact iteF (bh.pure (a:=.nx δ2) g4 ρ3 H3 σ2 .refl j3 (ev2.mono e3))⟩
def yM(mg:Str->Option Value)(F:List D->DM D):Sp:=λvs H Q E=>∃ρ M ds,Cvs mg ρ H vs ds/\J mg ρ M H/\Go mg E (Cv mg) Q ρ H (F ds) M
structure DefD(P:Program)(w:World)(K:PySem.W.Frag)(mg:Str->Option Value)(base:Heap)(k:Nat)(x:Str)(ps:List Str)(F:List D->DM D):Prop where
 h:DefC P w K mg base k x ps (yM mg F)
def bw(n:Nat)(ds:List D):ak:=ds.map some++List.replicate (n-ds.length) none
def aG(p n:Nat)(fb:ak->DM Fl)(ds:List D):DM D:=if ds.length=p then fb (bw n ds)>>=λr=>match r with
 |.nx _=>pure .non
 |.rt d=>pure d
 |_=>stuck else stuck
theorem lJ(c:Cvs mg ρ H vs ds):Ev mg ρ H (L2.start N vs) (bw N.length ds):=by
 unfold L2.start bw;refine⟨by simp[c.len],λi d q=>?_⟩
 by_cases hi:i<ds.length
 ·rw[Ws (by rw[Wh];exact hi),Wn]at q
  obtain⟨d',h1,h2⟩:=Wi.mp q;cases h2;obtain⟨v,hv,cv⟩:=c.get h1;exact⟨v,by rw[Ws (by rw[Wh,c.len];exact hi),Wn,hv];rfl,cv⟩
 ·rw[Xc (by rw[Wh];lia),Yx]at q
  split at q<;>cases q
section
variable{P:Program}{w:World}{K:PySem.W.Frag}{mg:Str->Option Value}{base:Heap}{k:Nat}{x:Str}{N ps:List Str}{st:Stmt}
set_option tactic.hygienic true in
theorem bh.aG(g:Go mg E (Cv mg) Q ρ H (L3.aG p n fb ds) M):ds.length=p/\bh mg E { nx:=λz H'=>Q .non H',rt:=Q } ρ H (fb (bw n ds)) M:=by
 obtain⟨r,e,p⟩:=g;unfold L3.aG at e;split at e;rotate_left
 ·cases e
 rename_i hl;refine⟨hl,?_⟩;have e:DM.bind _ _ M=some r:=e;unfold DM.bind at e;split at e
 ·cases e
 ·rename_i c M' em;cases e;exact⟨_,em,p⟩
 ·rename_i a M' em;refine⟨_,em,?_⟩;cases a with
  |nx δ'=>cases e;exact λρ1 H1 b x j c=>p ρ1 H1 .non x j .non
  |rt d=>cases e;exact λρ1 H1 b x j c=>p ρ1 H1 b x j c
  |bk δ'=>cases e
  |ct δ'=>cases e
theorem DefAt.okD(D:DefAt K mg x st)(S:FnScope N ps (defScope st))(hb:∀ (kV doc pm:Value) (an:Option Addr) (cdv ct:Value) (us:List Value),us.length=ps.length->bindArgs (PySem.W.fnOf x x (defArgs st) (defBody st) (defScope st) .none kV doc pm an cdv ct) ⟨us,[]⟩=pure (ps.zip us))
  (hbody:∀(f:Addr) (cdv:Value) (A:Around) (outer:List Env) (s:Shared) (H:Hp) (E:XK),Room k (A.deeper (envOfC x (defScope st) s.heap.objs.size f cdv))->
    DSs (jm P w K mg base N x (defScope st) f cdv A outer s H E) E (defBody st) fb):DefD P w K mg base (k+1) x ps (aG ps.length N.length fb):=⟨by
 refine D.okE S hb (λvs H Q E h=>?_) λf cdv A outer s H vs Q E hr h=>?_
 ·obtain⟨ρ,M,ds,c,j,g⟩:=h;rw[c.len];exact (bh.aG g).1
 obtain⟨ρ,M,ds,c,j,g⟩:=h;exact⟨_,(hbody f cdv A outer s H E hr).h,ρ,_,M,lJ c,j,(bh.aG g).2⟩⟩
theorem DefAt.okN{F:List D->DM D}{fb:Nat->ak->DM Fl}(D:DefAt K mg x st)(S:FnScope N ps (defScope st))(hb:∀ (kV doc pm:Value) (an:Option Addr) (cdv ct:Value) (us:List Value),us.length=ps.length->bindArgs (PySem.W.fnOf x x (defArgs st) (defBody st) (defScope st) .none kV doc pm an cdv ct) ⟨us,[]⟩=pure (ps.zip us))
  (hf:∀ds M r,F ds M=some r->∃n,aG ps.length N.length (fb n) ds M=some r)
  (hbody:∀(n:Nat) (f:Addr) (cdv:Value) (A:Around) (outer:List Env) (s:Shared) (H:Hp) (E:XK),Room k (A.deeper (envOfC x (defScope st) s.heap.objs.size f cdv))->
    DSs (jm P w K mg base N x (defScope st) f cdv A outer s H E) E (defBody st) (fb n)):DefD P w K mg base (k+1) x ps F:=⟨by
 refine D.okE S hb (λvs H Q E h=>?_) λf cdv A outer s H vs Q E hr h=>?_
 ·obtain⟨ρ,M,ds,c,j,r,e,p⟩:=h;obtain⟨n,e2⟩:=hf ds M r e;rw[c.len];exact (bh.aG ⟨r,e2,p⟩).1
 obtain⟨ρ,M,ds,c,j,r,e,p⟩:=h;obtain⟨n,e2⟩:=hf ds M r e;exact⟨_,(hbody n f cdv A outer s H E hr).h,ρ,_,M,lJ c,j,(bh.aG ⟨r,e2,p⟩).2⟩⟩
end
mutual
inductive Fz(M:Mo)(k:Nat):D->D->Prop
 |non:Fz M k .non .non
 |bl (b:Bool):Fz M k (.bl b) (.bl b)
 |int (i:Int):Fz M k (.int i) (.int i)
 |str (x:Str):Fz M k (.str x) (.str x)
 |tup {l l':List D}:Fzs M k l l'->Fz M k (.tup l) (.tup l')
 |lst {l l':List D}:Fzs M k l l'->Fz M k (.lst l) (.lst l')
 |dic {ks:List Key}{l l':List D}:Fzs M k l l'->Fz M k (.dic ks l) (.dic ks l')
 |obj {c:Str}{ns:List Str}{l l':List D}:Fzs M k l l'->Fz M k (.obj c ns l) (.obj c ns l')
 |scr (ns:List Int):Fz M k (.scr ns) (.scr ns)
 |old {n:Nat}:n<k->Fz M k (.ref n) (.ref n)
 |new {n:Nat}{l l':List D}:k<=n->M[n]?=some (.lst l)->Fzs M k l l'->Fz M k (.ref n) (.lst l')
 |cls (c:Str):Fz M k (.cls c) (.cls c)
 |ty (c:String):Fz M k (.ty c) (.ty c)
 |exn (a:Addr):Fz M k (.exn a) (.exn a)
inductive Fzs(M:Mo)(k:Nat):List D->List D->Prop
 |nil:Fzs M k [] []
 |cons {d d':D}{l l':List D}:Fz M k d d'->Fzs M k l l'->Fzs M k (d::l) (d'::l')
end
def Vl(M:Mo)(k:Nat):DO->DO->Prop
 |.lst l,.lst l'=>Fzs M k l l'
 |.dic ks l,.dic ks' l'=>ks=ks'/\Fzs M k l l'
 |.ins c ns l,.ins c' ns' l'=>c=c'/\ns=ns'/\Fzs M k l l'
 |_,_=>False
def Uo(M':Mo)(k:Nat)(M1:Mo):Prop:=M1.length=k/\∀(n:Nat) o,M1[n]?=some o->∃o',M'[n]?=some o'/\Vl M' k o' o
section
variable{mg:Str->Option Value}{ρ ρ':Rh}{H:Hp}{M:Mo}{k:Nat}
structure Sub(ρ ρ':Rh)(k:Nat):Prop where
 st:∃τ,ρ'.st=ρ.st++τ
 vo:ρ'.vo=ρ.vo
 len:ρ.st.length=k
theorem Sub.out(s:Sub ρ ρ' k)(h:a∉ρ'):a∉ρ:=λz=>by
 obtain⟨τ,e⟩:=s.st;rcases z with z | z
 ·exact h (.inl (by rw[e];exact Zj _ z))
 ·exact h (.inr (by rw[s.vo];exact z))
def Vi(mg:Str->Option Value)(ρ:Rh)(H:Hp)(v:V)(d:D):Prop:=D.casesOn (motive_1:=λz=>Prop) d (v=.non) (λb=>v=.bl b) (λi=>v=.int i) (λx=>v=.str x) (λds=>∃a xs,v=.ref a/\a∉ρ/\H a=some (.tup xs)/\Cvs mg ρ H xs ds) (λds=>∃a xs,v=.ref a/\a∉ρ/\H a=some (.lst xs)/\Cvs mg ρ H xs ds)
 (λks ds=>∃a xs,v=.ref a/\a∉ρ/\H a=some (.dK (ks.zip xs))/\ks.length=xs.length/\Cvs mg ρ H xs ds) (λc ns ds=>∃a C dx xs,v=.ref a/\a∉ρ/\mg c=some (.ref C)/\H a=some (.ins C dx (ns.zip xs))/\ns.length=xs.length/\Cvs mg ρ H xs ds)
 (λns=>∃a,v=.ref a/\a∉ρ/\Rd H a (.lst (ns.map V.int))) (λn=>∃a,v=.ref a/\ρ.st[n]?=some a) (λc=>∃C,v=.ref C/\mg c=some (.ref C)) (λt=>v=.ty t) (λa=>v=.ref a)
set_option tactic.hygienic true in
theorem Cv.inv{v:V}{d:D}(h:Cv mg ρ H v d):Vi mg ρ H v d:=by
 cases h
 case non=>exact rfl
 case bl=>exact rfl
 case int=>exact rfl
 case str=>exact rfl
 case tup n h c=>exact⟨_,_,rfl,n,h,c⟩
 case lst n h c=>exact⟨_,_,rfl,n,h,c⟩
 case dic n h l c=>exact⟨_,_,rfl,n,h,l,c⟩
 case obj n m h l c=>exact⟨_,_,_,_,rfl,n,m,h,l,c⟩
 case scr n h=>exact⟨_,rfl,n,h⟩
 case ref h=>exact⟨_,rfl,h⟩
 case cls h=>exact⟨_,rfl,h⟩
 case ty=>exact rfl
 case exn=>exact rfl
theorem Cvs.inv{v:V}{d:D}{vs:List V}{l:List D}(h:Cvs mg ρ H vs (d::l)):∃v vs',vs=v::vs'/\Cv mg ρ H v d/\Cvs mg ρ H vs' l:=by cases h with | cons a b=>exact⟨_,_,rfl,a,b⟩
theorem Cvs.inv0{vs:List V}(h:Cvs mg ρ H vs []):vs=[]:=by cases h;rfl
theorem Cvs.freeze(s:Sub ρ ρ' k)(j:J mg ρ' M H){d d':List D}{v:List V}(f:Fzs M k d d'):Cvs mg ρ' H v d->Cvs mg ρ H v d':=
 Fzs.rec (motive_1:=λd d' y=>∀ v,Cv mg ρ' H v d->Cv mg ρ H v d') (motive_2:=λd d' y=>∀ v,Cvs mg ρ' H v d->Cvs mg ρ H v d')
  (λy c=>Eq.symm (a:=_) (Cv.inv c) ▸ .non) (λb y c=>Eq.symm (a:=_) (Cv.inv c) ▸ .bl b) (λb y c=>Eq.symm (a:=_) (Cv.inv c) ▸ .int b) (λb y c=>Eq.symm (a:=_) (Cv.inv c) ▸ .str b)
  (λy f v c=>let ⟨_,_,e,n,h,c⟩:=Cv.inv c;e ▸ .tup (s.out n) h (f _ c))
  (λy f v c=>let ⟨_,_,e,n,h,c⟩:=Cv.inv c;e ▸ .lst (s.out n) h (f _ c))
  (λy f v c=>let ⟨_,_,e,n,h,l,c⟩:=Cv.inv c;e ▸ .dic (s.out n) h l (f _ c))
  (λy f v c=>let ⟨_,_,_,_,e,n,m,h,l,c⟩:=Cv.inv c;e ▸ .obj (s.out n) m h l (f _ c))
  (λy v c=>let ⟨_,e,n,h⟩:=Cv.inv c;e ▸ .scr (s.out n) h)
  (λhn v c=>by
    obtain⟨a,rfl,h⟩:=Cv.inv c;obtain⟨τ,e⟩:=s.st;rw[e,Ws (by rw[s.len];exact hn)]at h
    exact .ref h)
  (λhn hm y f v c=>by
    obtain⟨a,rfl,h⟩:=Cv.inv c;obtain⟨xs,hx,c⟩:=j.obj _ _ _ h hm;refine .lst (λz=>?_) hx (f _ c)
    rcases z with z | z
    ·obtain⟨m,hm'⟩:=Zc.mp z;obtain⟨τ,e⟩:=s.st;have hl:=(Wf.mp hm').1;have h2:ρ'.st[m]?=some a:=by rw[e,Ws hl];exact hm'
     exact X4.mpr hn (j.inj h h2 ▸ s.len ▸ hl)
    ·exact (j.vol a (by rw[s.vo];exact z)).1 (W6 h))
  (λy v c=>let ⟨_,e,h⟩:=Cv.inv c;e ▸ .cls h) (λb y c=>Eq.symm (a:=_) (Cv.inv c) ▸ .ty b) (λb y c=>Eq.symm (a:=_) (Cv.inv c) ▸ .exn b)
  (λv c=>Cvs.inv0 c ▸ .nil) (λy y f g v c=>let ⟨_,_,e,a,b⟩:=Cvs.inv (v:=.non) c;e ▸ .cons (f _ a) (g _ b)) f v
theorem J.freeze{M1:Mo}(s:Sub ρ ρ' k)(j:J mg ρ' M H)(hk:ρ.st.length=M1.length)(f:Uo M k M1):J mg ρ M1 H:=by
 obtain⟨τ,e⟩:=s.st;refine⟨hk,?_,λn a o h1 h2=>?_,λa ha=>?_⟩
 ·have:=j.nd;rw[e]at this;exact (ZL.mp this).1
 ·obtain ⟨o',h3,fo⟩:=f.2 n o h2;have hl:=(Wf.mp h1).1;have c:=j.obj n a o' (by rw[e,Ws hl];exact h1) h3
  cases o' with
  |lst l=>cases o with
    |lst l'=>obtain⟨xs,hx,c⟩:=c;exact⟨xs,hx,Cvs.freeze s j fo c⟩
    |dic _ _=>exact (show False from fo).elim
    |ins _ _ _=>exact (show False from fo).elim
  |dic ks l=>cases o with
    |lst l'=>exact (show False from fo).elim
    |dic ks' l'=>obtain⟨xs,hx,q,c⟩:=c;obtain⟨rfl,fo⟩:=fo;exact⟨xs,hx,q,Cvs.freeze s j fo c⟩
    |ins _ _ _=>exact (show False from fo).elim
  |ins c' ns l=>cases o with
    |lst l'=>exact (show False from fo).elim
    |dic _ _=>exact (show False from fo).elim
    |ins c'' ns' l'=>obtain⟨C,dx,xs,m,hx,q,c⟩:=c;obtain⟨rfl,rfl,fo⟩:=fo;exact⟨C,dx,xs,m,hx,q,Cvs.freeze s j fo c⟩
 ·obtain⟨x,xs,h⟩:=j.vol a (by rw[s.vo];exact ha)
  exact⟨λz=>x (by rw[e];exact Zj _ z),xs,h⟩
end
section
variable{X:Cx}{E:XK}{j k:Nat}{ps:List Str}{F:List D->DM D}{x:Str}{p pos:Pos}{e:Expr}{es:List Expr}{fs:ak->DM (List D)}
theorem aB(D:DefD X.prog X.w X.K X.mg X.base j x ps F)(hr:Room k X.A)(hx:Passes (dG X.prog X.w) X E)(ha:DA X E (e::es) fs)(hjk:j<=k:=by decide)(hg:Gl X x:=by rfl)(hdb:(x==("__debug__":Str))=false:=by decide)
  (he:notStar e=true:=by rfl) (hpl:(backTo pos (starEach es X.env)).any (·.1)=false:=by rfl) :
  DE X E (.Call (.Name x p) (e::es) [] pos) (λδ=>fs δ>>=F):=⟨PE.mono (Jg D.h hr hx ha.h hjk hg hdb he hpl) λσ H Q h=>by
 obtain⟨ρ,δ,M,ev,j,g1⟩:=h;refine⟨ρ,δ,M,ev,j,g1.bind λρ1 H1 M1 xs dxs e1 j1 c1 g2=>?_⟩
 rw[Yo];exact⟨ρ1,M1,dxs,c1,j1,g2⟩⟩
def rC(mg:Str->Option Value)(E:XK)(g:List D->DM D):List V->Hp->VK->Prop:=λvs H Q=>∃ρ M ds,J mg ρ M H/\Cvs mg ρ H vs ds/\Go mg E (Cv mg) Q ρ H (g ds) M
def CallD(X:Cx)(E:XK)(f:Value)(g:List D->DM D):Prop:=CallR X f (rC X.mg E g)
theorem aU{id:String}{g:List D->DM D}(hc:CallD X E (.builtin id) g)(hm:X.mg x=none)(ha:DA X E (e::es) fs)(hg:Gl X x:=by rfl)(hv:bootBuiltins x=some (.builtin id):=by decide +kernel)(hn:x≠"__name__":=by decide)(hdb:(x==("__debug__":Str))=false:=by decide)
  (he:notStar e=true:=by rfl) (hpl:(backTo pos (starEach es X.env)).any (·.1)=false:=by rfl) :
  DE X E (.Call (.Name x p) (e::es) [] pos) (λδ=>fs δ>>=g):=⟨PE.mono (Ms hc hm ha.h hg hv hn hdb he hpl) λσ H Q h=>by
 obtain⟨ρ,δ,M,ev,j,g1⟩:=h;exact⟨ρ,δ,M,ev,j,g1.bind λρ1 H1 M1 xs dxs e1 j1 c1 g2=>⟨ρ1,M1,dxs,j1,c1,g2⟩⟩⟩
theorem cg{T:String}{g:List D->DM D}(hc:CallD X E (.type T) g)(hm:X.mg x=none)(ha:DA X E (e::es) fs)(hg:Gl X x:=by rfl)(hv:bootBuiltins x=some (.type T):=by decide +kernel)(hn:x≠"__name__":=by decide)(hdb:(x==("__debug__":Str))=false:=by decide)
  (he:notStar e=true:=by rfl) (hpl:(backTo pos (starEach es X.env)).any (·.1)=false:=by rfl) :
  DE X E (.Call (.Name x p) (e::es) [] pos) (λδ=>fs δ>>=g):=⟨PE.mono (S9 hc hm ha.h hg hv hn hdb he hpl) λσ H Q h=>by
 obtain⟨ρ,δ,M,ev,j,g1⟩:=h;exact⟨ρ,δ,M,ev,j,g1.bind λρ1 H1 M1 xs dxs e1 j1 c1 g2=>⟨ρ1,M1,dxs,j1,c1,g2⟩⟩⟩
theorem CallD.of{f:Value}{r:List V->Hp->VK->Prop}{g:List D->Mo->Option D}(hr:CallR X f r)
  (h:∀vs H Q ρ M ds d,J X.mg ρ M H->Cvs X.mg ρ H vs ds->g ds M=some d->(∀ρ' H' v,Ext ρ H ρ' H'->J X.mg ρ' M H'->Cv X.mg ρ' H' v d->Q v H')->r vs H Q):CallD X E f (λl=>rd (g l)):=by
 intro aaD s σ H vs us Q I rs q;obtain⟨ρ,M,ds,j,c,go⟩:=q;obtain⟨d,e,p⟩:=go.rd;exact hr aaD s σ H vs us Q I rs (h vs H Q ρ M ds d j c e p)
end
section
variable{X:Cx}{E:XK}{mg:Str->Option Value}{ρ:Rh}{H:Hp}{M:Mo}
theorem Cvs.one(c:Cvs mg ρ H vs [d]):∃v,vs=[v]/\Cv mg ρ H v d:=by
 cases c with
 |cons c c2=>cases c2;exact⟨_,rfl,c⟩
theorem Cvs.two(c:Cvs mg ρ H vs [d,e]):∃ v w,vs=[v,w]/\Cv mg ρ H v d/\Cv mg ρ H w e:=by
 cases c with
 |cons c c2=>obtain⟨w,rfl,k⟩:=c2.one;exact⟨_,_,rfl,c,k⟩
def gY:List D->Mo->Option D
 |[.tup l],_=>some (.int l.length)
 |[.scr l],_=>some (.int l.length)
 |[.str x],_=>if x.length<=sizeLine then some (.int x.length) else none
 |[d],M=>(aR d M).map λl=>.int l.length
 |_,_=>none
set_option tactic.hygienic true in
theorem call_lenD:CallD X E (.builtin "len") (λl=>rd (gY l)):=CallD.of (call_len_seq.or call_len_str) λvs H Q ρ M ds d j c e q=>by
 unfold gY at e;split at e
 ·cases e;obtain⟨v,rfl,k⟩:=c.one;replace c:=k;cases c with | tup n a c=>
  exact .inl ⟨_,_,rfl,.inr (SqT.of a),by rw[c.len];exact q ρ H _ .refl j (.int _)⟩
 ·cases e;obtain⟨v,rfl,k⟩:=c.one;replace c:=k;cases c with | scr n a=>
  exact .inl ⟨_,_,rfl,.inl (.inl a),by rw[Wh];exact q ρ H _ .refl j (.int _)⟩
 ·split at e
  ·cases e;obtain⟨v,rfl,k⟩:=c.one;replace c:=k;cases c;exact .inr ⟨_,rfl,‹_›,q ρ H _ .refl j (.int _)⟩
  ·cases e
 ·obtain⟨l,h1,rfl⟩:=Wi.mp e;obtain⟨v,rfl,k⟩:=c.one;replace c:=k;obtain⟨a,xs,rfl,ha,c⟩:=eF j c h1;exact .inl ⟨_,_,rfl,.inl (SqL.of ha),by rw[c.len];exact q ρ H _ .refl j (.int _)⟩
 ·cases e
def Es:List D->Mo->Option D
 |[.int i],_=>some (.int (if i<0 then -i else i))
 |_,_=>none
theorem Hs:CallD X E (.builtin "abs") (λl=>rd (Es l)):=CallD.of call_abs λvs H Q ρ M ds d j c e q=>by
 unfold Es at e;split at e
 ·cases e;obtain⟨v,rfl,k⟩:=c.one;replace c:=k;cases c;exact⟨_,rfl,q ρ H _ .refl j (.int _)⟩
 ·cases e
def FQ:List D->Mo->Option D
 |[.int i,.int j],_=>some (.int (if j > i then j else i))
 |_,_=>none
def S5:List D->Mo->Option D
 |[.int i,.int j],_=>some (.int (if j<i then j else i))
 |_,_=>none
theorem EY(hc:X.calm=true):CallD X E (.builtin "max") (λl=>rd (FQ l)):=CallD.of (call_max2 hc) λvs H Q ρ M ds d j c e q=>by
 unfold FQ at e;split at e
 ·cases e;obtain⟨v,w,rfl,k,c2⟩:=c.two;replace c:=k;cases c;cases c2;exact⟨_,_,rfl,q ρ H _ .refl j (.int _)⟩
 ·cases e
def qj:D->Mo->Option (List D)
 |.tup l,_=>some l
 |d,M=>aR d M
theorem RW(j:J mg ρ M H)(c:Cv mg ρ H x d)(e:qj d M=some l):∃a xs,x=.ref a/\(H a=some (.lst xs)\/H a=some (.tup xs))/\Cvs mg ρ H xs l:=by
 unfold qj at e;split at e
 ·cases e;cases c with | tup n a c=>exact⟨_,_,rfl,.inr a,c⟩
 ·obtain⟨a,xs,rfl,ha,c⟩:=eF j c e;exact⟨a,xs,rfl,.inl ha,c⟩
def intsOf:List D->Option (List Int)
 |[]=>some []
 |.int i::l=>(intsOf l).map (i::·)
 |_=>none
theorem ints_of:∀ {xs:List V}{l:List D}{ns:List Int},Cvs mg ρ H xs l->intsOf l=some ns->xs=ns.map V.int
 |_,_,_,.nil,e=>by cases e;rfl
 | _,_,_,.cons (d:=d) c cs,e=>by
   cases d with
   |int i=>obtain⟨ms,h1,rfl⟩:=Wi.mp e;cases c;rw[ints_of cs h1];rfl
   |_=>cases e
theorem Hw(hh:X.A.handled=none):CallR X (.builtin "sum") (λvs H Q=>∃ (l:Addr) (ns:List Int),vs=[.ref l]/\(H l=some (.lst (ns.map V.int))\/H l=some (.tup (ns.map V.int)))/\Q (.int ns.sum) H):=by
 intro aaD s σ H vs us Q I r h;obtain⟨l,ns,rfl,hH,q⟩:=h;obtain⟨u,rfl,ru⟩:=vals1 r;cases ru;have fin:∀(its:List Value),IntsAre its ns->∃xs,its.toArray=intItems xs/\preSum (numAt xs) xs.size=ns.sum:=λits hi=>by
  obtain⟨xs,hx⟩:=hi.allInts.items;have hn:numsOf its.toArray.toList=ns:=by rw[show its.toArray.toList=its from rfl,hi.numsOf]
  rw[hx]at hn;rw[PySem.nums_intItems]at hn;exact⟨xs,hx,by rw[PySem.preSum_eq,YD (by simp),hn]⟩
 rcases hH with hH | hH
 ·obtain ⟨its,rv,p,hz⟩:=I.list (SqL.of (K:=X.K) hH);obtain⟨xs,hx,hs⟩:=fin its (intsAre_of rv);have hl:=p.isList;rw[hx]at hl;obtain⟨o,ho,hc,n,hd⟩:=id hl;have hne:l≠s.heap.objs.size:=Wu (Wj ho);have hsz:(intItems xs).size=xs.size:=by simp[intItems]
  have W:=(Walks.list (prog:=X.prog) (w:=X.w) (A:=X.A.in1) hh s.heap.objs.size l hne (intItems xs)).toS;rw[hsz]at W;refine call_sum_walkAnyS (Yt hl ?_);refine⟨s.heap.objs.size,_,_,_,_,_,_,numAt xs,rfl,W,⟨⟨_,Wl _ rfl,rfl,rfl⟩,hl.at λo e=>Wd _ e⟩,λb hb=>?_,λi v hP=>intItems_at hP,λs' t' hm=>?_⟩
  ·rcases Wy.mp hb with rfl | hb
   ·exact Wj (Wl _ rfl)
   ·obtain rfl:=W2.mp hb;exact Wj (Wd _ ho)
  ·obtain⟨h',g',d',tk',os'⟩:=s';have e1:g'=s.gens:=hm.gens;have e2:d'=s.drawn:=hm.drawn;have e3:os'=s.os:=hm.os;subst e1 e2 e3;refine⟨.int ns.sum,H,I.kept (h':=h') (t':=tk') λb o e=>hm.heap b o (λhb=>absurd (Wj e) ((W2.mp hb) ▸ XQ _)) (Wd _ e),⟨t',?_⟩,q⟩
   rw[<-hs]
 ·obtain⟨its,rv,p,hz⟩:=I.tuple (SqT.of (K:=X.K) hH);obtain⟨xs,hx,hs⟩:=fin its (intsAre_of rv);rw[hx]at p;exact PySem.W.ktm_sumG hh (show s.heap.IsTuple l _ from p) λh' tk t' hk=>⟨.int ns.sum,H,I.kept hk,⟨t',by rw[<-hs]⟩,q⟩
def Gx:List D->Mo->Option D
 |[d],M=>(qj d M).bind λl=>(intsOf l).map λns=>.int ns.sum
 |_,_=>none
theorem eE(hh:X.A.handled=none):CallD X E (.builtin "sum") (λl=>rd (Gx l)):=CallD.of (Hw hh) λvs H Q ρ M ds d j c e q=>by
 unfold Gx at e;split at e
 ·obtain⟨l,h1,e1⟩:=W8.mp e;obtain⟨ns,h2,rfl⟩:=Wi.mp e1;obtain⟨v,rfl,k⟩:=c.one;replace c:=k;obtain⟨a,xs,rfl,ha,c⟩:=RW j c h1;have:=ints_of c h2;subst this;exact⟨_,ns,rfl,ha,q ρ H _ .refl j (.int _)⟩
 ·cases e
def Lq:D->Option Bool
 |.bl b=>some b
 |.int i=>some (i != 0)
 |_=>none
def iH:List D->Option (List Bool)
 |[]=>some []
 |d::l=>match Lq d,iH l with
   |some b,some bs=>some (b::bs)
   |_,_=>none
set_option tactic.hygienic true in
theorem xV:∀ {xs:List V}{l:List D}{bs:List Bool},Cvs mg ρ H xs l->iH l=some bs->(∀ x∈xs,scS x=true)/\xs.map iG=bs
 |_,_,_,.nil,e=>by cases e;exact⟨(λx hx=>nomatch hx),rfl⟩
 | _,_,_,.cons (d:=d) (ds:=ds) (vs:=vs) c cs,e=>by
   unfold iH at e;split at e
   ·rename_i b bs h1 h2;cases e;obtain⟨a1,a2⟩:=xV cs h2;cases c with
    |bl b'=>cases h1;exact⟨λx hx=>by rcases Wy.mp hx with rfl | hx;rfl;exact a1 x hx,by rw[W0,a2];rfl⟩
    |int b'=>cases h1;exact⟨λx hx=>by rcases Wy.mp hx with rfl | hx;rfl;exact a1 x hx,by rw[W0,a2];rfl⟩
    |_=>cases h1
   ·cases e
def uL:List D->Mo->Option D
 |[d],M=>(aR d M).bind λl=>(iH l).map λbs=>.bl (bs.all id)
 |_,_=>none
def Et:List D->Mo->Option D
 |[.tup l],_=>(iH l).map λbs=>.bl (bs.any id)
 |_,_=>none
theorem mR(hh:X.A.handled=none):CallD X E (.builtin "all") (λl=>rd (uL l)):=CallD.of (Ke hh) λvs H Q ρ M ds d j c e q=>by
 unfold uL at e;split at e
 ·obtain⟨l,h1,e1⟩:=W8.mp e;obtain⟨ns,h2,rfl⟩:=Wi.mp e1;obtain⟨v,rfl,k⟩:=c.one;replace c:=k;obtain⟨a,xs,rfl,ha,c⟩:=eF j c h1;obtain⟨t1,t2⟩:=xV c h2;subst t2;exact⟨_,xs,rfl,ha,t1,by have z:=q ρ H _ .refl j (.bl _);rw[List.all_map]at z;exact z⟩
 ·cases e
theorem Ht(hh:X.A.handled=none):CallD X E (.builtin "any") (λl=>rd (Et l)):=CallD.of (Kf hh) λvs H Q ρ M ds d j c e q=>by
 unfold Et at e;split at e
 ·obtain⟨ns,h2,rfl⟩:=Wi.mp e;obtain⟨v,rfl,k⟩:=c.one;replace c:=k;cases c with | tup n ha c=>
  obtain⟨t1,t2⟩:=xV c h2;subst t2;exact⟨_,_,rfl,ha,t1,by have z:=q ρ H _ .refl j (.bl _);rw[List.any_map]at z;exact z⟩
 ·cases e
def o9:List D->Mo->Option D
 |[d],M=>(qj d M).map .tup
 |_,_=>none
theorem aL:CallD X E (.type "tuple") (λl=>rd (o9 l)):=CallD.of call_tuple_of λvs H Q ρ M ds d j c e q=>by
 unfold o9 at e;split at e
 ·obtain⟨l,h1,rfl⟩:=Wi.mp e;obtain⟨v,rfl,k⟩:=c.one;replace c:=k;unfold qj at h1;split at h1
  ·cases h1;cases c with | tup n a c=>
   exact⟨_,_,rfl,.inr ⟨SqT.of a,q ρ H _ .refl j (.tup n a c)⟩⟩
  ·obtain⟨a,xs,rfl,ha,c⟩:=eF j c h1;exact⟨_,_,rfl,.inl ⟨SqL.of ha,λp hp=>q ρ _ _ (.lay hp) (j.lay _ hp) (.tup (j.fresh hp) upd_same (c.mono (.lay hp)))⟩⟩
 ·cases e
def tyOf:D->Mo->Option String
 |.non,_=>some "NoneType"
 |.bl _,_=>some "bool"
 |.int _,_=>some "int"
 |.str _,_=>some "str"
 |.tup _,_=>some "tuple"
 |.lst _,_=>some "list"
 |.scr _,_=>some "list"
 |.dic _ _,_=>some "dict"
 |.ref n,M=>match M[n]? with
   |some (.lst _)=>some "list"
   |some (.dic _ _)=>some "dict"
   |_=>none
 |_,_=>none
set_option tactic.hygienic true in
theorem Uk{K:PySem.W.Frag}(j:J mg ρ M H){x:V}{d:D}{t:String}(c:Cv mg ρ H x d)(e:tyOf d M=some t):TyOf K H x (.type t):=by
 cases c with
 |non=>cases e;exact .non
 |bl b=>cases e;exact .bl b
 |int b=>cases e;exact .int b
 |str b=>cases e;exact .str b
 |tup n h c=>cases e;exact .tup h
 |lst n h c=>cases e;exact .lst h
 |dic n h l c=>cases e;exact .dK h
 |scr n h=>
   cases e;rcases h with h | ⟨o,h⟩
   ·exact .lst h
   ·exact .frz h
 | ref q=>
   unfold tyOf at e;dsimp only at e;split at e
   ·rename_i l hl;cases e;obtain⟨xs,h,_⟩:=j.obj _ _ _ q hl;exact .lst h
   ·rename_i ks l hl;cases e;obtain⟨xs,h,_⟩:=j.obj _ _ _ q hl;exact .dK h
   ·cases e
 |_=>cases e
def Gw(t c:String):Bool:=t==c || (t=="bool"&&c=="int")
def tys:List String:=["NoneType", "bool", "int", "str", "tuple", "list", "dict"]
def lM:List D->Mo->Option D
 |[d,.ty c],M=>(tyOf d M).bind λt=>if tys.contains c then some (.bl (Gw t c)) else none
 |_,_=>none
theorem Ls(e:tyOf d M=some t):t∈tys:=by unfold tyOf at e;split at e<;>first | (cases e;decide) | (split at e<;>first | (cases e;decide) | cases e) | cases e
theorem Qy{K:PySem.W.Frag}:∀t∈tys,∀c∈tys,PySem.W.kitOne K (.type t) (.type c)=some (Gw t c):=by intro t ht c hc;simp only[tys,List.mem_cons,List.mem_nil_iff,or_false]at ht hc;rcases ht with rfl | rfl | rfl | rfl | rfl | rfl | rfl<;>rcases hc with rfl | rfl | rfl | rfl | rfl | rfl | rfl<;>rfl
set_option tactic.hygienic true in
theorem d8:CallD X E (.builtin "isinstance") (λl=>rd (lM l)):=CallD.of Kg λvs H Q ρ M ds d j c e q=>by
 unfold lM at e;split at e
 ·obtain⟨t,h1,e1⟩:=W8.mp e;split at e1
  ·rename_i hk;cases e1;obtain⟨v,w,rfl,k,c2⟩:=c.two;replace c:=k;cases c2;exact⟨_,_,_,_,rfl,Uk j c h1,Qy _ (Ls h1) _ (List.contains_iff_mem.mp hk),q ρ H _ .refl j (.bl _)⟩
  ·cases e1
 ·cases e
def Pb(X:Cx)(E:XK)(id:String)(g:D->List D->DM D):Prop:=MtR X id (λx vs H Q=>∃ρ M d ds,J X.mg ρ M H/\Cv X.mg ρ H x d/\Cvs X.mg ρ H vs ds/\Go X.mg E (Cv X.mg) Q ρ H (g d ds) M)
def Kd:D->List D->DM D
 |.ref n,[v]=>λM=>match M[n]? with
   |some (.lst l)=>if l.length<sizeLine then some (.ok .non,M.set n (.lst (l++[v]))) else none
   |_=>none
 |_,_=>stuck
set_option tactic.hygienic true in
theorem tX:Pb X E "list.append" Kd:=by
 intro aaD s σ H x xs v us Q I rx rs q;obtain⟨ρ,M,d,ds,j,cx,cs,r,e,p⟩:=q;cases cx with
 | ref hn=>
   cases cs with
   |nil=>cases e
   | cons c cs=>cases cs with
     |cons _ _=>cases e
     | nil=>
       rename_i n a w dw;have e:(match M[n]? with
        |some (.lst l)=>if l.length<sizeLine then some (R.ok .non,M.set n (.lst (l++[dw]))) else none
        |_=>none)=some r:=e
       split at e
       ·rename_i l hl;split at e
        ·cases e;obtain⟨xs,hx,cl⟩:=j.obj _ _ _ hn hl;have x:Ext ρ H ρ (upd H a (.lst (xs++[w]))):=.upd (W6 hn);exact mt_append (X:=X) aaD s σ H _ _ v us Q I rx rs ⟨_,_,_,rfl,rfl,hx,by rw[cl.len];assumption,p ρ _ .non x (j.upd hn ⟨_,upd_same,(cl.append (.cons c .nil)).mono x⟩) .non⟩
        ·cases e
       ·cases e
 |_=>cases e
def Bf:D->List D->DM D
 | .ref n,[.int i]=>λM=>match M[n]? with
   | some (.lst l)=>match ixN l.length i with
     |some k=>match l[k]? with
       |some d=>if decide (-(2^63)<=i/\i<2^63) then some (.ok d,M.set n (.lst (l.eraseIdx k))) else none
       |none=>none
     |none=>none
   |_=>none
 |_,_=>stuck
theorem Cvs.erase:∀{vs:List V}{ds:List D} (i:Nat),Cvs mg ρ H vs ds->Cvs mg ρ H (vs.eraseIdx i) (ds.eraseIdx i)
 |_,_,_,.nil=>.nil
 |_,_,0,.cons _ t=>t
 |_,_,i+1,.cons a t=>.cons a (Cvs.erase i t)
set_option tactic.hygienic true in
theorem Dw:Pb X E "list.pop" Bf:=by
 intro aaD s σ H x xs v us Q I rx rs q;obtain⟨ρ,M,d,ds,j,cx,cs,r,e,p⟩:=q;cases cx with
 | ref hn=>
   cases cs with
   |nil=>cases e
   | cons c cs=>cases cs with
     |cons _ _=>cases c<;>cases e
     | nil=>cases c with
       | int i=>
         rename_i n a;have e:(match M[n]? with
          | some (.lst l)=>match ixN l.length i with
            |some k=>match l[k]? with
              |some d=>if decide (-(2^63)<=i/\i<2^63) then some (R.ok d,M.set n (.lst (l.eraseIdx k))) else none
              |none=>none
            |none=>none
          |_=>none)=some r:=e
         split at e
         ·rename_i l hl;split at e
          ·rename_i k hk;split at e
           ·rename_i d hd;split at e
            ·rename_i hb;have hb:=Xq hb;cases e;obtain⟨xs,hx,cl⟩:=j.obj _ _ _ hn hl;obtain⟨w,hw,cw⟩:=cl.get hd;have x:Ext ρ H ρ (upd H a (.lst (xs.eraseIdx k))):=.upd (W6 hn);exact mt_popAt (X:=X) aaD s σ H _ _ v us Q I rx rs ⟨_,_,_,k,w,rfl,rfl,hx,hb.1,hb.2,by rw[cl.len];exact (ixN_seq hk).1,hw,p ρ _ w x (j.upd hn ⟨_,upd_same,(cl.erase k).mono x⟩) (cw.mono x)⟩
            ·cases e
           ·cases e
          ·cases e
         ·cases e
       |_=>cases e
 |_=>cases e
theorem tO{name id:String}{g:D->List D->DM D}{o e:Expr}{es:List Expr}{fo:ak->DM D}{fs:ak->DM (List D)}{apos cpos:Pos}(pa:PlainAttrs "list")(slot:Slot "list" name id)(hty:typeOf (.builtin id)=pure (.type "method_descriptor"))(hm:Pb X E id g)(ho:DE X E o fo)(ha:DA X E (e::es) fs)
  (hbase:attributeBase o name X.env (eval o X.env)=eval o X.env:=by rfl)
  (hfew:((backTo cpos (starEach (e::es) X.env)).all (fun x=>!x.1)&&(backToKw cpos (keywordEach [] X.env)).all (fun x=>x.1.isSome)
   &&decide ((e::es).length+([]:List Keyword).length+(if ([]:List Keyword).isEmpty then 0 else 1)<30))=true:=by rfl)
  (hline:(apos.endLine==cpos.line)=true:=by rfl) (hs:notStar e=true:=by rfl) (hplain:(backTo cpos (starEach es X.env)).any (·.1)=false:=by rfl) :
  DE X E (.Call (.Attribute o name apos) (e::es) [] cpos) (λδ=>fo δ>>=λx=>rd (λM=>aR x M)>>=λz=>fs δ>>=λxs=>g x xs):=⟨PE.mono (Q9 pa slot hty hm ho.h ha.h hbase hfew hline hs hplain) λσ H Q h=>by
 obtain⟨ρ,δ,M,ev,j,g1⟩:=h;refine⟨ρ,δ,M,ev,j,g1.bind λρ1 H1 M1 x dx e1 j1 c1 g2=>?_⟩
 obtain⟨l,hl,g3⟩:=Go.rdb g2;obtain⟨a,xs,rfl,hx,cl⟩:=eF j1 c1 hl;exact⟨.inl ⟨rfl,_,SqL.of hx⟩,ρ1,δ,M1,ev.mono e1,j1,g3.bind λρ2 H2 M2 ys dys e2 j2 c2 g4=>⟨ρ2,M2,dx,dys,j2,c1.mono e2,c2,g4⟩⟩⟩
end
structure ExtB(acc:Addr)(ρ:Rh)(H:Hp)(ρ':Rh)(H':Hp):Prop where
 pre:∃τ,ρ'.st=ρ.st++τ
 vo:ρ'.vo=ρ.vo
 new:∀a,a∈ρ'.st->a∉ρ.st->H a=none
 keep:∀a o,H a=some o->a∉ρ.st->a≠acc->H' a=some o
 na:acc∉ρ'.st
section
variable{acc:Addr}{ρ ρ1 ρ2:Rh}{H H1 H2:Hp}
theorem ExtB.trans(e:ExtB acc ρ H ρ1 H1)(f:ExtB acc ρ1 H1 ρ2 H2):ExtB acc ρ H ρ2 H2:=by
 have out:∀a o,H a=some o->a∉ρ.st->a∉ρ1.st:=λa o h n z=>by have:=e.new a z n;rw[h]at this;cases this
 refine⟨?_,f.vo.trans e.vo,λa h n=>?_,λa o h n na=>f.keep a o (e.keep a o h n na) (out a o h n) na,f.na⟩
 ·obtain⟨τ,h1⟩:=e.pre;obtain⟨υ,h2⟩:=f.pre;exact⟨τ++υ,by rw[h2,h1,XH]⟩
 ·by_cases z:a∈ρ1.st
  ·exact e.new a z n
  ·cases q:H a with
   |none=>rfl
   |some o=>have:=f.new a h z;rw[e.keep a o q n (λy=>f.na (y ▸ h))]at this;cases this
theorem Ext.b(e:Ext ρ H ρ1 H1)(na:acc∉ρ1.st):ExtB acc ρ H ρ1 H1:=⟨e.pre,e.vo,e.new,λa o h n z=>e.keep a o h n,na⟩
theorem ExtB.kp(e:ExtB acc ρ H ρ1 H1)(h:acc∈ρ.vo):Kp ρ H ρ1 H1:=⟨e.pre,λa o q n y=>by
 have ne:a≠acc:=λz=>n (z ▸ .inr h)
 have ns:a∉ρ.st:=λz=>n (.inl z)
 refine⟨λz=>?_,e.keep a o q ns ne⟩
 rcases z with z | z
 ·have:=e.new a z ns;rw[q]at this;cases this
 ·rw[e.vo]at z;exact n (.inr z)⟩
theorem ExtB.refl(na:acc∉ρ.st):ExtB acc ρ H ρ H:=(Ext.refl).b na
theorem ExtB.grow(na:acc∉ρ.st):ExtB acc ρ H ρ (upd H acc (.lst ys)):=⟨⟨[],by simp⟩,rfl,λa h n=>absurd h n,λa o h z ne=>by rw[upd_ne ne];exact h,na⟩
end
structure Cst(X:Cx)(aaD:List (Addr×Obj))(acc:Addr)(ρ0:Rh)(H0:Hp)(δ:ak)(l:List D)(M:Mo)(fp:List Addr)(s:Shared):Prop where
 ex:∃σ H ρ ys,Inv X aaD σ H s/\ExtB acc ρ0 H0 ρ H/\J X.mg ρ M H/\Ev X.mg ρ H σ δ/\H acc=some (.lst ys)/\Cvs X.mg ρ H ys l/\∀b∈fp,H b=none
def bx(fg:D->ak->DM ak)(ft:ak->DM Bool)(fb:ak->List D->DM (ak×List D)):List D->ak->List D->DM (ak×List D)
 |[],δ,l=>pure (δ,l)
 |d::ds,δ,l=>fg d δ>>=λδ1=>ft δ1>>=λb=>(if b then fb δ1 l else pure (δ1,l))>>=λp=>bx fg ft fb ds p.1 p.2
def tW(fg:D->ak->DM ak)(ft:ak->DM Bool)(fb:ak->List D->DM (ak×List D))(n:Nat):Nat->Nat->ak->List D->DM (ak×List D)
 |0,_,_,_=>stuck
 |k+1,i,δ,l=>rd (Itn.next (.dyn n) i)>>=λo=>match o with
   |none=>pure (δ,l)
   |some d=>fg d δ>>=λδ1=>ft δ1>>=λb=>(if b then fb δ1 l else pure (δ1,l))>>=λp=>tW fg ft fb n k (i+1) p.1 p.2
def bU(fg:D->ak->DM ak)(ft:ak->DM Bool)(fb:ak->List D->DM (ak×List D)):Itn->ak->List D->DM (ak×List D)
 |.fix ds,δ,l=>bx fg ft fb ds δ l
 |.dyn n,δ,l=>rd (λM=>aR (.ref n) M)>>=λm=>tW fg ft fb n (m.length+1) 0 δ l
def bH(fe:ak->DM D)(δ:ak)(l:List D):DM (ak×List D):=fe δ>>=λd=>if l.length<sizeLine then pure (δ,l++[d]) else stuck
def Vw(X:Cx)(ifs:List Expr)(t:TT):Prop:=∀(aaD:List (Addr×Obj)) (s:Shared) (σ:L2.St) (H:Hp) (Q:Bool->Hp->Prop),Inv X aaD σ H s->t σ H Q->wpAny (model X.prog X.w) X.A (um ifs X.env) (TP X aaD σ Q) X.xe s
structure DTs(X:Cx)(E:XK)(ifs:List Expr)(f:ak->DM Bool):Prop where
 h:Vw X ifs (tD X.mg E Bv f)
theorem cL:DTs X E [] (λz=>pure true):=⟨λaaD s σ H Q I h=>by obtain⟨ρ,δ,M,ev,j,g⟩:=h;exact We ⟨H,I,g.pure ρ H true .refl j rfl⟩⟩
theorem w6(hc:DT X E c f):DTs X E [c] f:=⟨λaaD s σ H Q I h=>wpAny_tests_one (hc.h aaD s σ H Q I h)⟩
set_option tactic.hygienic true in
theorem DM.bind_ok{α β:Type}{m:DM α}{k:α->DM β}{M M':Mo}{b:β}(h:(m>>=k) M=some (.ok b,M')):∃a M1,m M=some (.ok a,M1)/\k a M1=some (.ok b,M'):=by
 have h:DM.bind m k M=some (.ok b,M'):=h;unfold DM.bind at h;split at h
 ·cases h
 ·cases h
 ·rename_i a M1 e;exact⟨a,M1,e,h⟩
def BodyOk(X:Cx)(acc:Addr)(W:(Shared->Prop)->Shared->Prop)(fb:ak->List D->DM (ak×List D)):Prop:=
 ∀aaD ρ0 H0 δ l M s δ' l' M',acc∈ρ0.vo->Cst X aaD acc ρ0 H0 δ l M [] s->fb δ l M=some (.ok (δ',l'),M')->W (λs'=>Cst X aaD acc ρ0 H0 δ' l' M' [] s') s
theorem Cst.unpin(c:Cst X (aaD++pl) acc ρ0 H0 δ l M [] s)(h:∀b∈fp,∃o,(b,o)∈pl):
  Cst X aaD acc ρ0 H0 δ l M fp s/\∀p∈pl,s.heap.get? p.1=some p.2:=by
 obtain⟨σ,H,ρ,ys,I,x,j,ev,ha,cl,_⟩:=c.ex;refine⟨⟨σ,H,ρ,ys,I.unpinned,x,j,ev,ha,cl,λb hb=>?_⟩,λp hp=>(I.pin p (Xa _ (Xa _ hp))).1⟩
 obtain⟨o,ho⟩:=h b hb;exact (I.pin (b,o) (Xa _ (Xa _ ho))).2.1
def qO(fg:D->ak->DM ak)(ft:ak->DM Bool)(fb:ak->List D->DM (ak×List D))(δf:ak)(lf:List D)(Mf:Mo):Itn->Nat->Nat->ak->List D->Mo->Prop
 |.fix ds,n,i,δ,l,M=>n=ds.length-i/\bx fg ft fb (ds.drop i) δ l M=some (.ok (δf,lf),Mf)
 |.dyn a,n,i,δ,l,M=>tW fg ft fb a n i δ l M=some (.ok (δf,lf),Mf)
set_option tactic.hygienic true in
theorem qO.step{fg:D->ak->DM ak}{ft:ak->DM Bool}{fb:ak->List D->DM (ak×List D)}{δf δ:ak}{lf l:List D}{Mf M:Mo}{it:Itn}{n i:Nat}(h:qO fg ft fb δf lf Mf it n i δ l M):
  (it.next i M=some none/\δ=δf/\l=lf/\M=Mf)\/∃d δ1 M1 b M2 δ3 l3 M3 m,it.next i M=some (some d)/\fg d δ M=some (.ok δ1,M1)/\ft δ1 M1=some (.ok b,M2)/\(if b then fb δ1 l else pure (δ1,l)) M2=some (.ok (δ3,l3),M3)/\m<n/\qO fg ft fb δf lf Mf it m (i+1) δ3 l3 M3:=by
 cases it with
 | fix ds=>
   obtain⟨rfl,h⟩:=h;cases hd:ds[i]? with
   |none=>rw[List.drop_eq_nil_of_le (Wz.mp hd)]at h;cases h;exact .inl ⟨congrArg some hd,rfl,rfl,rfl⟩
   |some d=>
     obtain⟨hi',hd'⟩:=Wf.mp hd;have hl:ds.drop i=d::ds.drop (i+1):=by rw[<-hd'];exact aaq hi'
     rw[hl]at h;obtain⟨δ1,M1,e1,h1⟩:=DM.bind_ok h;obtain⟨b,M2,e2,h2⟩:=DM.bind_ok h1;obtain⟨⟨δ3,l3⟩,M3,e3,h3⟩:=DM.bind_ok h2;exact .inr ⟨d,δ1,M1,b,M2,δ3,l3,M3,ds.length-(i+1),congrArg some hd,e1,e2,e3,by lia,rfl,h3⟩
 | dyn a=>
   cases n with
   |zero=>cases h
   | succ n=>
     obtain⟨o,M0,e0,h⟩:=DM.bind_ok h;obtain⟨o',q,z⟩:=Wi.mp e0;cases z;cases o with
     |none=>cases h;exact .inl ⟨q,rfl,rfl,rfl⟩
     |some d=>obtain⟨δ1,M1,e1,h1⟩:=DM.bind_ok h;obtain⟨b,M2,e2,h2⟩:=DM.bind_ok h1;obtain⟨⟨δ3,l3⟩,M3,e3,h3⟩:=DM.bind_ok h2;exact .inr ⟨d,δ1,M1,b,M2,δ3,l3,M3,n,q,e1,e2,e3,Xw _,h3⟩
theorem qO.start{fg:D->ak->DM ak}{ft:ak->DM Bool}{fb:ak->List D->DM (ak×List D)}{δf δ:ak}{lf l:List D}{Mf M:Mo}{it:Itn}(h:bU fg ft fb it δ l M=some (.ok (δf,lf),Mf)):∃ n,qO fg ft fb δf lf Mf it n 0 δ l M:=by
 cases it with
 |fix ds=>exact⟨_,rfl,h⟩
 |dyn a=>obtain⟨m,M0,e0,h⟩:=DM.bind_ok h;obtain⟨m',q,z⟩:=Wi.mp e0;cases z;exact⟨_,h⟩
theorem Io(hc:X.calm=true)(hxe:X.xe=λy y=>False){gens:List Comprehension}{depth:Nat}{bodyK:Sem Fin->Sem Fin}{W:(Shared->Prop)->Shared->Prop}
  (hturn:compTurn (.ListComp elt gens scope pos) depth (.ref it) (.ref acc) X.env=turnOf g bodyK (.compLoop (.ListComp elt gens scope pos) depth (.ref it) (.ref acc) X.env) (.ref it) X.env) (hW:mF X.prog X.w X.A bodyK W) (hmono:∀P P' s,(∀s,P s->P' s)->W P s->W P' s)
  {fg:D->ak->DM ak}{ft:ak->DM Bool}{fb:ak->List D->DM (ak×List D)} (hg:DG X E0 g.target fg) (ht:DTs X E0 g.ifs ft) (hb:BodyOk X acc W fb) {fp:List Addr}{tn:Nat->Heap->Prop} (T:Turn X.prog X.w X.K g.target Jt fp it tn) (iok:ItOk X.mg ρi Hi Jt itn) (hacc:acc∈ρ0.vo) (kp0:Kp ρi Hi ρ0 H0) {aaD:List (Addr×Obj)}
  (fok:∀H',(∀b∈fp,H' b=none)->∀b∈fp,FpOk X aaD H' b) {l:List D} (st:Cst X aaD acc ρ0 H0 δ l M fp s) (htn:tn 0 s.heap) {lf:List D} (hrun:bU fg ft fb itn δ l M=some (.ok (δf,lf),Mf))
  {R:Result->Shared->Prop} (hR:∀s',Cst X aaD acc ρ0 H0 δf lf Mf fp s'->R (.ok .next) s') :
  codeAny (model X.prog X.w) X.A (.compLoop (.ListComp elt gens scope pos) depth (.ref it) (.ref acc) X.env) R s:=by
 obtain⟨n0,rem0⟩:=qO.start hrun;refine KZ (λn s=>∃i δ l M,qO fg ft fb δf lf Mf itn n i δ l M/\Cst X aaD acc ρ0 H0 δ l M fp s/\tn i s.heap) hturn hW ?_ hmono n0 ⟨0,δ,l,M,rem0,st,htn⟩
 rintro n s ⟨i,δ,l,M,rem,st,htn⟩;obtain⟨σ,H,ρ,ys,I,x,j,ev,ha,cl,fr⟩:=st.ex;have kp:Kp ρi Hi ρ H:=kp0.trans (x.kp hacc);rcases rem.step with ⟨hd,rfl,rfl,rfl⟩ | ⟨d,δ1,M1,b,M2,δ3,l3,M3,m,hd,e1,e2,e3,hm,rem3⟩
 ·refine Wx (T.done X rfl rfl rfl hc i aaD s σ H _ I (fok H fr) htn (iok.stop i ρ H _ kp j hd)) (λr s1 h1=>?_) λy y z=>z
  obtain⟨rfl,I1⟩:=h1;exact hR s1 ⟨σ,H,ρ,ys,I1,x,j,ev,ha,cl,fr⟩
 ·obtain ⟨go,yl⟩:=iok.item i ρ H M d kp j hd;refine Wx (T.item X rfl rfl rfl hc i aaD s σ H (λy y=>False) I (fok H fr) htn go) (λr s1 h1=>?_) λy y z=>z
  obtain⟨u,rfl,h1⟩:=h1;refine Wx h1 (λy s2 h2=>?_) λy y z=>z
  obtain⟨xv,H5,I5,r5,y5,tn5,fr5⟩:=h2;obtain⟨x5,j5,c5⟩:=yl xv H5 y5;have I5':=I5.pinned (fok H5 fr5) (T.obj _ _ tn5);refine Wx (hg.h _ s2 σ H5 xv u (λσ6 H6=>∃ρ6,Ext ρ H5 ρ6 H6/\J X.mg ρ6 M1 H6/\Ev X.mg ρ6 H6 σ6 δ1) I5' r5 ⟨ρ,δ,M,d,ev.mono x5,j5,c5,_,e1,λρ6 H6 σ6 a1 a2 a3=>⟨ρ6,a1,a2,a3⟩⟩) (λy s3 h3=>?_) λy y z=>by rw[hxe]at z;exact z
  obtain⟨σ6,H6,I6,ρ6,x6,j6,ev6⟩:=h3;refine Wx (ht.h _ s3 σ6 H6 (λb' H7=>b'=b/\∃ρ7,Ext ρ6 H6 ρ7 H7/\J X.mg ρ7 M2 H7) I6 ⟨ρ6,δ1,M1,ev6,j6,_,e2,λρ7 H7 b' a1 a2 a3=>⟨a3,ρ7,a1,a2⟩⟩) (λok s4 h4=>?_) λy y z=>by rw[hxe]at z;exact z
  obtain⟨H7,I7,rfl,ρ7,x7,j7⟩:=h4;have nacc:acc∉ρ.st:=x.na;have na6:acc∉ρ6.st:=λz=>by have h5:=x5.keep acc _ ha nacc;have:=x6.new acc z nacc;rw[h5]at this;cases this
  have ha5:=x5.keep acc _ ha nacc;have ha6:=x6.keep acc _ ha5 nacc;have na7:acc∉ρ7.st:=λz=>by have:=x7.new acc z na6;rw[ha6]at this;cases this
  have ha7:=x7.keep acc _ ha6 na6;have xb:ExtB acc ρ0 H0 ρ7 H7:=((x.trans (x5.b nacc)).trans (x6.b na6)).trans (x7.b na7);have ct:Cst X (aaD++pinsAt fp s2.heap) acc ρ0 H0 δ1 l M2 [] s4:=⟨σ6,H7,ρ7,ys,I7,xb,j7,ev6.mono x7,ha7,((cl.mono x5).mono x6).mono x7,λb hb=>nomatch hb⟩
  have fin:∀s5,Cst X (aaD++pinsAt fp s2.heap) acc ρ0 H0 δ3 l3 M3 [] s5->∃m,m<n/\∃i δ l M,qO fg ft fb δf lf Mf itn m i δ l M/\Cst X aaD acc ρ0 H0 δ l M fp s5/\tn i s5.heap:=λs5 c5=>by
   obtain⟨c6,pp⟩:=c5.unpin (fp:=fp) λb hb=>by obtain⟨o,eo,_⟩:=T.obj _ _ tn5 b hb;exact⟨o,mem_pinsAt hb eo⟩
   exact⟨m,hm,i+1,δ3,l3,M3,rem3,c6,T.keep _ _ _ tn5 λb hb o eo=>pp (b,o) (mem_pinsAt hb eo)⟩
  cases ok with
  |true=>exact iteT (hmono _ _ _ fin (hb _ ρ0 H0 δ1 l M2 s4 δ3 l3 M3 hacc ct e3))
  |false=>cases e3;exact iteF (fin s4 ct)
set_option tactic.hygienic true in
theorem Dj{X:Cx}(hxe:X.xe=λy y=>False){elt:Expr}{fe:ak->DM D}{acc:Addr}(he:DE X E0 elt fe):
  BodyOk X acc (λP s=>wpAny (model X.prog X.w) X.A (eval elt X.env) (λx s1=>wpAny (model X.prog X.w) X.A (call (.builtin "list.append") [.ref acc,x]) (λy s2=>P s2) (λy y=>False) s1) (λy y=>False) s) (bH fe):=by
 intro aaD ρ0 H0 δ l M s δ' l' M' hacc ct e;obtain⟨d,M1,e1,e2⟩:=DM.bind_ok e;obtain⟨σ,H,ρ,ys,I,x,j,ev,ha,cl,_⟩:=ct.ex;split at e2;rotate_left
 ·cases e2
 rename_i hz;cases e2;refine Wx (he.h aaD s σ H (λv H1=>∃ρ1,Ext ρ H ρ1 H1/\J X.mg ρ1 M' H1/\Cv X.mg ρ1 H1 v d) I ⟨ρ,δ,M,ev,j,_,e1,λρ1 H1 v a1 a2 a3=>⟨ρ1,a1,a2,a3⟩⟩) (λu s1 h1=>?_) λy y z=>by rw[hxe]at z;exact z
 obtain⟨v,H1,I1,rv,ρ1,x1,j1,c1⟩:=h1;have nacc:acc∉ρ.st:=x.na;have ha1:=x1.keep acc _ ha nacc;have na1:acc∉ρ1.st:=λz=>by have:=x1.new acc z nacc;rw[ha]at this;cases this
 have hv1:acc∈ρ1.vo:=by rw[x1.vo,x.vo];exact hacc
 refine Wx (mt_append (X:=X) aaD s1 σ H1 (.ref acc) [v] (.ref acc) [u] (λy H'=>H'=upd H1 acc (.lst (ys++[v]))) I1 rfl (.cons rv .nil) ⟨_,ys,v,rfl,rfl,ha1,by rw[cl.len];exact hz,rfl⟩) (λy s2 h2=>?_) λy y z=>by rw[hxe]at z;exact z
 obtain⟨_,H2,I2,_,rfl⟩:=h2;exact⟨σ,_,ρ1,ys++[v],I2,(x.trans (x1.b na1)).trans (.grow na1),j1.grow hv1,(ev.mono x1).kp ((ExtB.grow na1).kp hv1),upd_same,((cl.mono x1).append (.cons c1 .nil)).hold hv1,λb hb=>nomatch hb⟩
def dq{α:Type}(m:DM α):DM α:=λM=>match m M with
 |some (.ok a,M')=>some (.ok a,M')
 |_=>none
set_option tactic.hygienic true in
theorem oH(h:dq m M=some r):∃a M',m M=some (.ok a,M')/\r=(.ok a,M'):=by
 unfold dq at h;split at h
 ·rename_i a M' e;cases h;exact⟨a,M',e,rfl⟩
 ·cases h
def du(js:List Nat)(δ:ak):ak:=js.map λj=>(δ[j]?).getD none
def aP(k:Nat)(js:List Nat)(δ:ak):ak:=List.replicate k none++du js δ
theorem xf(ev:Ev mg ρ H σ δ)(k:Nat)(js:List Nat):Ev mg ρ H (List.replicate k none++pick js σ) (aP k js δ):=by
 unfold aP pick du;refine⟨by simp,λi d q=>?_⟩
 by_cases hi:i<k
 ·rw[Ws (by rw[Xi];exact hi),Yx]at q
  split at q<;>cases q
 ·rw [Xc (by rw [Xi];lia),Xi,Wn]at q ⊢
  cases hj:js[i-k]? with
  |none=>rw[hj]at q;cases q
  | some j=>
    rw[hj]at q;have q:(δ[j]?).getD none=some d:=Wq q;have q':δ[j]?=some (some d):=by
     cases z:δ[j]? with
     |none=>rw[z]at q;cases q
     |some o=>rw[z]at q;exact congrArg some q
    obtain⟨v,h1,h2⟩:=ev.val j d q';exact⟨v,by show some ((σ[j]?).getD none)=_;rw[h1];rfl,h2⟩
theorem pL(hp:H p=none):Kp ρ H (ρ.hold p) (upd H p o):=⟨⟨[],by show ρ.st=_;simp⟩,λa u h n z=>⟨Rh.nhold n (ne_of_none h hp),by rw[upd_ne (ne_of_none h hp)];exact h⟩⟩
inductive Out where
 |val | sto
def Out.run:Out->List D->DM D
 |.val,l=>pure (.lst l)
 |.sto,l=>λM=>some (.ok (.ref M.length),M++[.lst l])
theorem Out.fin(o:Out)(hf:H2 acc=none)(hn:acc∉ρ1)(x:ExtB acc (ρ1.hold acc) (upd H2 acc (.lst [])) ρ4 H4)(j:J mg ρ4 M H4)(ha:H4 acc=some (.lst ys))(c:Cvs mg ρ4 H4 ys l)
  (g:Go mg E (Cv mg) Q ρ1 H2 (o.run l) M):Q (.ref acc) H4:=by
 have hv:ρ4.vo=acc::ρ1.vo:=x.vo;have na:acc∉ρ1.vo:=λz=>hn (.inr z)
 have nw:∀a,a∈ρ4.st->a∉ρ1.st->H2 a=none:=λa h n=>by
  have:=x.new a h n;by_cases z:a=acc
  ·rw[z,upd_same]at this;cases this
  ·rw[upd_ne z]at this;exact this
 have kp:∀a o,H2 a=some o->a∉ρ1.st->H4 a=some o:=λa o h n=>x.keep a o (by rw[upd_ne (ne_of_none h hf)];exact h) n (ne_of_none h hf)
 cases o with
 | val=>
   have e:Ext ρ1 H2 ⟨ρ4.st,ρ1.vo⟩ H4:=⟨x.pre,rfl,nw,kp⟩;have jd:J mg ⟨ρ4.st,ρ1.vo⟩ M H4:=J.done (ρ:=ρ1) j hv;have cd:Cvs mg ⟨ρ4.st,ρ1.vo⟩ H4 ys l:=Cvs.less (ρ:=ρ4) (ρ1:=⟨ρ4.st,ρ1.vo⟩) rfl (λa h=>by rw[hv];exact .tail _ h) c
   exact Go.pure (a:=D.lst l) g ⟨ρ4.st,ρ1.vo⟩ H4 (.ref acc) e jd (.lst (λz=>by
    rcases z with z | z
    ·exact x.na z
    ·exact na z) ha cd)
 | sto=>
   obtain⟨r,er,p⟩:=g;cases er;have k4:Kp ρ4 H4 ⟨ρ4.st++[acc],ρ1.vo⟩ H4:=⟨⟨[acc],rfl⟩,λa o h n v=>⟨λz=>by
    rcases z with z | z
    ·rcases W5.mp z with z | z
     ·exact n (.inl z)
     ·exact n (.inr (by rw[hv,W2.mp z];exact .head _))
    ·exact n (.inr (by rw[hv];exact .tail _ z)),h⟩⟩
   have e:Ext ρ1 H2 ⟨ρ4.st++[acc],ρ1.vo⟩ H4:=by
    refine⟨?_,rfl,λa h n=>?_,kp⟩
    ·obtain⟨τ,h1⟩:=x.pre;exact⟨τ++[acc],by show ρ4.st++[acc]=_;rw[h1,XH];rfl⟩
    ·rcases W5.mp h with z | z
     ·exact nw a z n
     ·rw[W2.mp z];exact hf
   have jd:J mg ⟨ρ4.st++[acc],ρ1.vo⟩ (M++[.lst l]) H4:=by
    refine⟨by show (ρ4.st++[acc]).length=_;rw[Ww,Ww,j.len];rfl,?_,λn a w h1 h2=>?_,λa h=>?_⟩
    ·show (ρ4.st++[acc]).Nodup;rw[ZL];exact⟨j.nd,by simp,λx' hx y hy e=>by rw[W2.mp hy]at e;exact x.na (e ▸ hx)⟩
    ·have h1:(ρ4.st++[acc])[n]?=some a:=h1;by_cases hl:n<ρ4.st.length
     ·rw[Ws hl]at h1;rw[Ws (by rw[<-j.len];exact hl)]at h2
      exact (j.obj n a w h1 h2).map rfl λvs ds c=>c.kp k4
     ·have hl':n<(ρ4.st++[acc]).length:=(Wf.mp h1).1;rw[Ww]at hl';have e:n=ρ4.st.length:=by have:[acc].length=1:=rfl;lia
      subst e;rw[Xc (Wg _)]at h1;rw[j.len,Xc (Wg _)]at h2;simp at h1 h2;subst h1 h2;exact⟨ys,ha,c.kp k4⟩
    ·have h:a∈ρ1.vo:=h;obtain⟨y1,y2⟩:=j.vol a (by rw[hv];exact .tail _ h)
     refine⟨λz=>?_,y2⟩
     rcases W5.mp z with z | z
     ·exact y1 z
     ·exact na (W2.mp z ▸ h)
   refine p _ H4 (.ref acc) e jd (.ref ?_);show (ρ4.st++[acc])[_]?=_;rw[<-j.len];simp
set_option tactic.hygienic true in
theorem Kl{cl:List (Str×Addr)}{own:List Str}{js:List Nat}{fr:List Str}{f0:List Expr}{gs:List Comprehension}{fi:ak->DM Itn}{fg:D->ak->DM ak}{ft:ak->DM Bool}{fb:ak->List D->DM (ak×List D)}
  {bodyK:Cx->Addr->Sem Fin->Sem Fin}{W:Cx->Addr->(Shared->Prop)->Shared->Prop} (o:Out) (hc:X.calm=true) (T:CompG X scope cl own js fr) (hi:DI X E t0 i0 fi)
  (hturn:∀(Y:Cx) it acc,compTurn (.ListComp elt (⟨t0,i0,f0,0⟩::gs) scope pos) 0 (.ref it) (.ref acc) Y.env=turnOf ⟨t0,i0,f0,0⟩ (bodyK Y acc) (.compLoop (.ListComp elt (⟨t0,i0,f0,0⟩::gs) scope pos) 0 (.ref it) (.ref acc) Y.env) (.ref it) Y.env)
  (hW:∀Y acc,mF Y.prog Y.w Y.A (bodyK Y acc) (W Y acc)) (hmono:∀Y acc P P' s,(∀s,P s->P' s)->W Y acc P s->W Y acc P' s)
  (hg:∀aaD m fp C s₂ H₂,DG (X.aZ aaD scope (cellsFrom m scope.names cl) (own++fr) fp C s₂ H₂) E0 t0 fg) (ht:∀aaD m fp C s₂ H₂,DTs (X.aZ aaD scope (cellsFrom m scope.names cl) (own++fr) fp C s₂ H₂) E0 f0 ft)
  (hb:∀aaD m fp C s₂ H₂ acc,BodyOk (X.aZ aaD scope (cellsFrom m scope.names cl) (own++fr) fp C s₂ H₂) acc (W (X.aZ aaD scope (cellsFrom m scope.names cl) (own++fr) fp C s₂ H₂) acc) fb)
  (hs:∀y,foldedSetIterable i0 X.env y=pure y:=by intro _;rfl) :
  DE X E (.ListComp elt (⟨t0,i0,f0,0⟩::gs) scope pos) (λδ=>fi δ>>=λit=>dq (bU fg ft fb it (aP own.length js δ) [])>>=λp=>o.run p.2):=⟨by
 intro aaD s σ H Q I h;obtain⟨ρ,δ,M,ev,j,g1⟩:=h;rw[eval_ListComp];refine ZD (cl:=cl) (use:=none) rfl hs T.clos T.kind T.names ?_;refine thn (hi.h aaD s σ H (λJt H1=>∃ρ1 M1 it,Ext ρ H ρ1 H1/\J X.mg ρ1 M1 H1/\ItOk X.mg ρ1 H1 Jt it/\Go X.mg E (Cv X.mg) Q ρ1 H1 (dq (bU fg ft fb it (aP own.length js δ) [])>>=λp=>o.run p.2) M1) I
  ⟨ρ,δ,M,ev,j,g1.bind λρ1 H1 M1 Jt it e1 j1 iok g2=>⟨ρ1,M1,it,e1,j1,iok,g2⟩⟩) λv s1 h1=>thn h1 λitv s2 h2=>?_
 obtain⟨it,fp,tn,Jt,H2,rfl,I2,Tn,st2,f2,ρ1,M1,itn,x1,j1,iok,g2⟩:=h2;have hrun:∃δf lf Mf,bU fg ft fb itn (aP own.length js δ) [] M1=some (.ok (δf,lf),Mf)/\Go X.mg E (Cv X.mg) Q ρ1 H2 (o.run lf) Mf:=by
  obtain⟨r,e,p⟩:=g2;have e:DM.bind _ _ M1=some r:=e;unfold DM.bind at e;split at e
  ·cases e
  ·rename_i c M' em;obtain⟨a,M'',_,z⟩:=oH em;cases z
  ·rename_i a M' em;obtain⟨a',M'',e1,z⟩:=oH em;cases z;exact⟨a.1,a.2,M',e1,r,e,p⟩
 obtain⟨δf,lf,Mf,hrun,g3⟩:=hrun;unfold newList;refine WW (rJ ?_);have hlt:∀b∈fp,b<s2.heap.objs.size:=λb hb=>by obtain⟨o,e,_⟩:=Tn.obj _ _ st2 b hb;exact Wj e
 dsimp only;generalize hP:s2.heap.push { cls:=.type "list",dict:=none,data:=.seq ([]:List Value).toArray }=hp1;have hCs:hp1.objs.size=s2.heap.objs.size+1:=by rw[<-hP,WM]
 have hCe:hp1.objs.size+1=(hp1.push { cls:=.type "dict",data:=.dict #[] }).objs.size:=by rw[WM]
 have hC:s2.heap.objs.size<=hp1.objs.size:=by lia
 have hne:hp1.objs.size≠s2.heap.objs.size:=by lia
 have old1:∀b o,s2.heap.get? b=some o->hp1.get? b=some o:=λb o e=>by rw[<-hP];exact Wd _ e
 have old:∀b o,s2.heap.get? b=some o->(pushCells (hp1.push { cls:=.type "dict",data:=.dict #[] }) scope.names).get? b=some o:=λb o e=>X8 _ _ _ _ (Wd _ (old1 b o e))
 have new:∃n,(pushCells (hp1.push { cls:=.type "dict",data:=.dict #[] }) scope.names).get? s2.heap.objs.size=some { cls:=.type "list",data:=.seq #[] n }:=⟨_,X8 _ _ _ _ (Wd _ (by rw[<-hP];exact Wl _ rfl))⟩
 have ns:(pushCells (hp1.push { cls:=.type "dict",data:=.dict #[] }) scope.names).Ns hp1.objs.size λx=>none:=(Heap.Ns.new hp1 (.type "dict")).keeps (X8 _ _)
 have hfree:H2 s2.heap.objs.size=none:=I2.hok.fresh (Wg _);have IC:=yr (t':=s2.toks) T I2 f2 hlt old (Wg _) hC hne hCe (Xm hC (Nat.le_succ _)) (Xw _) (Nat.lt_succ_of_le hC) rfl new ns;have OK:=IC.ok;have fok:∀H',(∀b∈fp,H' b=none)->∀b∈fp,FpOk (X.aZ aaD scope (cellsFrom (hp1.objs.size+1) scope.names cl) (own++fr) fp hp1.objs.size s2 H2) [] H' b:=λH' hn b hb=>by
  obtain⟨_,g2,g3,g4,g5,g6⟩:=f2 b hb;refine⟨hn b hb,Wu (Wo (hlt b hb) hC),λhm=>?_,.inl hb,(OK.exf b hb).2,λp hp=>g6 p (by simpa using hp)⟩
  rcases Wy.mp (I2.stkSub _ hm) with z | z
  ·exact g2 z
  ·exact g3 z
 have fp1:∀b∈fp,upd H2 s2.heap.objs.size (.lst []) b=none:=λb hb=>by rw[upd_ne (Wu (hlt b hb))];exact (f2 b hb).1
 have jb:=j1.begin hfree;have nf:=j1.fresh hfree;have st:Cst (X.aZ aaD scope (cellsFrom (hp1.objs.size+1) scope.names cl) (own++fr) fp hp1.objs.size s2 H2) [] s2.heap.objs.size (ρ1.hold s2.heap.objs.size) (upd H2 s2.heap.objs.size (.lst [])) (aP own.length js δ) [] M1 fp
   { s2 with heap:=pushCells (hp1.push { cls:=.type "dict",data:=.dict #[] }) scope.names,toks:=s2.toks }:=
  ⟨_,_,_,[],IC,.refl (λz=>nf (.inl z)),jb,(xf (ev.mono x1) _ _).kp (pL hfree),upd_same,.nil,fp1⟩
 have tn0:tn 0 (pushCells (hp1.push { cls:=.type "dict",data:=.dict #[] }) scope.names):=Tn.keep _ _ _ st2 (λb x o e=>old b o e)
 have loop:codeAny (model X.prog X.w) X.A (.compLoop (.ListComp elt (⟨t0,i0,f0,0⟩::gs) scope pos) 0 (.ref it) (.ref s2.heap.objs.size) (compEnvC scope (cellsFrom (hp1.objs.size+1) scope.names cl) hp1.objs.size X.env))
   (compPost (model X.prog X.w) X.A X.xe none (EP X aaD σ Q) (.ref s2.heap.objs.size) hp1.objs.size) { s2 with heap:=pushCells (hp1.push { cls:=.type "dict",data:=.dict #[] }) scope.names,toks:=s2.toks }:=by
  refine Io (X:=X.aZ aaD scope (cellsFrom (hp1.objs.size+1) scope.names cl) (own++fr) fp hp1.objs.size s2 H2) hc rfl (hturn _ _ _) (hW _ _) (hmono _ _) (hg ..) (ht ..) (hb aaD (hp1.objs.size+1) fp hp1.objs.size s2 H2 s2.heap.objs.size) Tn iok (.head _) (pL hfree) fok st tn0 hrun λs' c'=>?_
  obtain⟨σ4,H4,ρ4,ys,I4,x4,j4,ev4,ha4,cl4,fr4⟩:=c'.ex;obtain⟨m4,hn4,_⟩:=I4.loc;refine⟨m4,hn4,λh' hsb'=>?_⟩
  have un:=Ci I4.base hsb' hC;have ok4:=xm I4.hok hsb' I4.free;exact⟨.ref s2.heap.objs.size,H4,I2.call' (s':={ s' with heap:=h' }) (ch:=fp) (I4.os) un ok4 I4.bare (λb hb=>by obtain⟨_,g2,g3,g4,g5,g6⟩:=f2 b hb;exact⟨g4,g2,g5,g6⟩),rfl,o.fin hfree nf x4 j4 ha4 cl4 g3⟩
 show codeAny _ _ (.compStart _ 0 (.ref it) (.ref s2.heap.objs.size) (compEnvC scope (cellsFrom (hp1.objs.size+1) scope.names cl) hp1.objs.size X.env)) _ _;exact yN rfl rfl loop (Tn.self X.A 0 _ _ _ tn0 loop)⟩
theorem b8{cl:List (Str×Addr)}{own:List Str}{js:List Nat}{fr:List Str}{f0:List Expr}{fi:ak->DM Itn}{fg:D->ak->DM ak}{ft:ak->DM Bool}{fe:ak->DM D}
  (o:Out) (hc:X.calm=true) (T:CompG X scope cl own js fr) (hi:DI X E t0 i0 fi)
  (hg:∀aaD m fp C s₂ H₂,DG (X.aZ aaD scope (cellsFrom m scope.names cl) (own++fr) fp C s₂ H₂) E0 t0 fg) (ht:∀aaD m fp C s₂ H₂,DTs (X.aZ aaD scope (cellsFrom m scope.names cl) (own++fr) fp C s₂ H₂) E0 f0 ft)
  (he:∀aaD m fp C s₂ H₂,DE (X.aZ aaD scope (cellsFrom m scope.names cl) (own++fr) fp C s₂ H₂) E0 elt fe)
  (hs:∀y,foldedSetIterable i0 X.env y=pure y:=by intro _;rfl) :
  DE X E (.ListComp elt [⟨t0,i0,f0,0⟩] scope pos) (λδ=>fi δ>>=λit=>dq (bU fg ft (bH fe) it (aP own.length js δ) [])>>=λp=>o.run p.2):=
 Kl (bodyK:=λY acc=>vW elt (.ref acc) Y.env) (W:=λY acc P s=>wpAny (model Y.prog Y.w) Y.A (eval elt Y.env) (λx s1=>wpAny (model Y.prog Y.w) Y.A (call (.builtin "list.append") [.ref acc,x]) (λv s2=>P s2) (λv v=>False) s1) (λv v=>False) s) o hc T hi
  (λY it acc=>MN ..) (λY acc=>HJ) (λY acc P P' s hp h=>Wx h (λx s1 h1=>Wx h1 (λv s2 h2=>hp _ h2) λv v z=>z) λv v z=>z) hg ht (λaaD m fp C s₂ H₂ acc=>Dj rfl (he ..)) hs
theorem boot_zip:bootBuiltins "zip"=some (.type "zip"):=by decide +kernel
def frz:D->Option (Bool×List D)
 |.tup l=>some (true,l)
 |.lst l=>some (false,l)
 |_=>none
def pairs:List D->List D->List D
 |x::xs,y::ys=>.tup [x,y]::pairs xs ys
 |_,_=>[]
def sY:List D->Option Itn
 |[x,y]=>match frz x,frz y with
   |some (_,l),some (_,m)=>some (.fix (pairs l m))
   |_,_=>none
 |_=>none
theorem pairs_at:∀ (l m:List D) (i:Nat),(pairs l m)[i]?=match l[i]?,m[i]? with
  |some x,some y=>some (.tup [x,y])
  |_,_=>none
 |[],m,i=>by simp[pairs]
 |x::xs,[],i=>by
   cases i with
   |zero=>simp[pairs]
   |succ i=>simp only[pairs,List.getElem?_nil,List.getElem?_cons_succ];cases xs[i]?<;>rfl
 |x::xs,y::ys,0=>by simp[pairs]
 |x::xs,y::ys,i+1=>by simp only[pairs,List.getElem?_cons_succ];exact pairs_at xs ys i
section
variable{mg:Str->Option Value}{ρ:Rh}{H:Hp}
theorem Af{K:PySem.W.Frag}{x:V}{d:D}{b:Bool}{l:List D}(c:Cv mg ρ H x d)(e:frz d=some (b,l)):∃a xs,x=.ref a/\a∉ρ/\H a=some (if b then .tup xs else .lst xs)/\Cvs mg ρ H xs l:=by
 cases c with
 |tup n h c=>cases e;exact⟨_,_,rfl,n,h,c⟩
 |lst n h c=>cases e;exact⟨_,_,rfl,n,h,c⟩
 |_=>cases e
theorem my{K:PySem.W.Frag}{b:Bool}{a:Addr}{xs:List V}(h:H a=some (if b then .tup xs else .lst xs)):lw b K H a xs:=by
 cases b with
 |true=>exact SqT.of h
 |false=>exact SqL.of h
theorem ne_if{b:Bool}{xs ys:List V}:∀φ,(if b=true then HO.tup xs else HO.lst ys)≠HO.ext φ:=by cases b<;>nofun
set_option tactic.hygienic true in
theorem Qx{K:PySem.W.Frag}{b1 b2:Bool}{l1 l2:Addr}{xs ys:List V}{ds es:List D}(n1:l1∉ρ)(n2:l2∉ρ)(h1:H l1=some (if b1 then .tup xs else .lst xs))(h2:H l2=some (if b2 then .tup ys else .lst ys))(c1:Cvs mg ρ H xs ds)(c2:Cvs mg ρ H ys es):ItOk mg ρ H (O9 K b1 b2 l1 l2) (.fix (pairs ds es)) where
 item:=λi ρ' H' M' d e j q=>by
  have hq:(pairs ds es)[i]?=some d:=Wq q;rw[pairs_at]at hq;split at hq
  ·rename_i dx dy e1 e2;cases hq;obtain⟨x,hx,cx⟩:=c1.get e1;obtain⟨y,hy,cy⟩:=c2.get e2;have k1:=(e.keep _ _ h1 n1 ne_if).2;have k2:=(e.keep _ _ h2 n2 ne_if).2;refine⟨⟨xs,ys,x,y,my k1,my k2,hx,hy⟩,λv H2 z=>?_⟩
   obtain⟨p,hp,rfl,z⟩:=z;obtain⟨x',y',hx',hy',rfl⟩:=z xs ys (my k1) (my k2);rw[hx]at hx';cases hx';rw[hy]at hy';cases hy';exact⟨.lay hp,j.lay _ hp,.tup (j.fresh hp) upd_same (.cons ((cx.kp e).mono (.lay hp)) (.cons ((cy.kp e).mono (.lay hp)) .nil))⟩
  ·cases hq
 stop:=λi ρ' H' M' e j q=>by
  have hq:(pairs ds es)[i]?=none:=Wq q;rw[pairs_at]at hq;refine⟨xs,ys,my (e.keep _ _ h1 n1 ne_if).2,my (e.keep _ _ h2 n2 ne_if).2,?_⟩;cases e1:ds[i]? with
  |none=>exact .inl (Wz.mpr (by rw[c1.len];exact Wz.mp e1))
  |some dx=>cases e2:es[i]? with
    |none=>exact .inr (Wz.mpr (by rw[c2.len];exact Wz.mp e2))
    |some dy=>rw[e1,e2]at hq;cases hq
end
theorem Sv(m:DM α)(f:α->DM β)(g:β->DM γ):(m>>=f)>>=g=m>>=λa=>f a>>=g:=by
 funext M;show DM.bind (DM.bind m f) g M=DM.bind m (λa=>DM.bind (f a) g) M
 unfold DM.bind;cases m M with
 |none=>rfl
 |some r=>obtain⟨r,M'⟩:=r;cases r<;>rfl
set_option tactic.hygienic true in
theorem jG:∀ {names:List (Str×NameKind)}{m:Nat}{y:Str}{c:Addr},(y,c)∈cellsFrom m names []->(y,NameKind.cell)∈names
 |[],_,_,_,h=>nomatch h
 | (n,k)::r,m,y,c,h=>by
   unfold cellsFrom at h;split at h
   ·rename_i hk;rw[bL]at h;rcases W5.mp h with z | z
    ·exact .tail _ (jG z)
    ·cases W2.mp z;have hk':k=.cell:=by cases k<;>first | rfl | cases hk
     rw[hk'];exact .head _
   ·exact .tail _ (jG h)
def isC:NameKind->Bool
 |.cell=>true
 |_=>false
theorem Qs(h:isC k=true):k=.cell:=by cases k<;>first | rfl | cases h
set_option tactic.hygienic true in
theorem Oc(h:(names.all λp=>!isC p.2 || (match names.lookup p.1 with | some k=>isC k | none=>false))=true):∀(m:Nat) y c,(cellsFrom m names []).lookup y=some c->names.lookup y=some .cell:=λm y c e=>by
 have hm:=jG (Xp e);have q:=Zi.mp h _ hm;simp only[isC,Bool.not_true,Bool.false_or]at q;split at q
 ·rename_i k hk;rw[hk,Qs q]
 ·cases q
theorem Od{cl:List (Str×Addr)}{names:List (Str×NameKind)}(h:zM (λp=>(match names.lookup p.1 with | some k=>isC k | none=>false)=false) cl):∀y c,cl.lookup y=some c->names.lookup y≠some .cell:=λy c e z=>by have:=pC h (y,c) (L2.mem_of_lookup e);simp only[z,isC]at this;cases this
end L3
namespace L3
open PySem PySem.Spec L2
@[simp] theorem az(a:α)(f:α->DM β):((Pure.pure a:DM α)>>=f)=f a:=id rfl
@[simp] theorem aO(m:DM α)(f:α->DM β)(g:β->DM γ):(m>>=f)>>=g=m>>=λa=>f a>>=g:=Sv m f g
@[simp] theorem fU(a:α):(opt (some a):DM α)=Pure.pure a:=id rfl
@[simp] theorem Mx(a:α):dq (Pure.pure a:DM α)=Pure.pure a:=id rfl
@[simp] theorem Ve(c:Str)(f:α->DM β):((raise c:DM α)>>=f)=raise c:=id rfl
theorem cJ{α:Type}{f:Mo->Option α}{a:α}(h:∀M,f M=some a):(rd f:DM α)=Pure.pure a:=by funext M;show (f M).map _=_;rw[h M];rfl
@[simp] theorem Tr(f g:ak->DM Fl)(δ:ak):xU f g δ=f δ>>=λr=>match r with
 |.nx δ'=>g δ'
 |r=>Pure.pure r:=id rfl
@[simp] theorem cB(i:Nat)(δ:ak):fZ i δ=opt ((δ[i]?).join):=id rfl
@[simp] theorem jh(b:Bool):lB (.bl b)=Pure.pure b:=id rfl
@[simp] theorem Rq(p n:Nat)(fb:ak->DM Fl)(ds:List D):aG p n fb ds=if ds.length=p then fb (bw n ds)>>=λr=>match r with
 |.nx _=>Pure.pure .non
 |.rt d=>Pure.pure d
 |_=>stuck else stuck:=id rfl
@[simp] theorem Vf(n:Nat)(ds:List D):bw n ds=ds.map some++List.replicate (n-ds.length) none:=id rfl
@[simp] theorem jL(i:Nat)(d:D)(δ:ak):gN i d δ=Pure.pure (δ.set i (some d)):=id rfl
@[simp] theorem Wb(n:Nat)(fs:List D->ak->DM ak)(l:List D)(δ:ak):gT n fs (.tup l) δ=if l.length=n then fs l δ else stuck:=id rfl
@[simp] theorem V6(f:D->ak->DM ak)(fs:List D->ak->DM ak)(d:D)(l:List D)(δ:ak):bY f fs (d::l) δ=f d δ>>=λδ'=>fs l δ':=id rfl
@[simp] theorem V7(δ:ak):fX [] δ=Pure.pure δ:=id rfl
@[simp] theorem V9(i j:Nat)(fa:ak->DM (List D))(δ:ak):u5 i j fa δ=fa δ>>=λl=>match l with
 |[v,w]=>Pure.pure (.nx ((δ.set i (some v)).set j (some w)))
 |_=>stuck:=id rfl
@[simp] theorem Tg(i j:Int):(rd (dU (.int i) (.int j)):DM D)=Pure.pure (.int (i+j)):=id rfl
@[simp] theorem Gk(i j:Int):(rd (Lp (.int i) (.int j)):DM D)=Pure.pure (.int (i-j)):=id rfl
@[simp] theorem U9(i j:Int):(rd (Ml (.int i) (.int j)):DM D)=Pure.pure (.bl (decide (i<j))):=id rfl
@[simp] theorem U8(i j:Int):(rd (yF (.int i) (.int j)):DM D)=Pure.pure (.bl (decide (i<=j))):=id rfl
@[simp] theorem U7(i j:Int):(rd (Dn (.int i) (.int j)):DM D)=Pure.pure (.bl (decide (j<i))):=id rfl
@[simp] theorem U6(i j:Int):(rd (Dm (.int i) (.int j)):DM D)=Pure.pure (.bl (decide (j<=i))):=id rfl
@[simp] theorem Tq(i:Int):(rd (K4 (.int i)):DM D)=Pure.pure (.int (-i)):=id rfl
@[simp] theorem Tf(i:Int):(rd (Es [.int i]):DM D)=Pure.pure (.int (if i<0 then -i else i)):=id rfl
@[simp] theorem VM(i j:Int):(rd (FQ [.int i,.int j]):DM D)=Pure.pure (.int (if j > i then j else i)):=id rfl
@[simp] theorem VN(i j:Int):(rd (S5 [.int i,.int j]):DM D)=Pure.pure (.int (if j<i then j else i)):=id rfl
theorem Tj{i j:Int}(h:0<j):(rd (pN (.int i) (.int j)):DM D)=Pure.pure (.int (i%j)):=cJ λM=>by simp[cZ,h]
theorem Gj{i j:Int}(h:fY i j=true):(rd (lN (.int i) (.int j)):DM D)=Pure.pure (.int (i*j)):=cJ λM=>by simp[cZ,h]
theorem Bq{i j:Int}(h:mU i j=true):(rd (gU (.int i) (.int j)):DM D)=Pure.pure (.int (i / j)):=cJ λM=>by simp[cZ,h]
theorem Mz{i j:Int}(h:Mt i j=true):(rd (Ge (.int i) (.int j)):DM D)=Pure.pure (.int (i^j.toNat)):=cJ λM=>by simp[cZ,h]
set_option tactic.hygienic true in
theorem bits_le(h:i.natAbs<2^n):Builtin.Int.intBits i<=n:=by
 unfold Builtin.Int.intBits;split
 ·exact X3 _
 ·rename_i h0;have:i.natAbs≠0:=by intro z;apply h0;simp;lia
  exact (Nat.log2_lt this).mpr h
theorem Vc(h:i.natAbs<2^64):fY i j=true:=by
 unfold fY;have:¬ (Builtin.Int.intBits i > shortFactorBits):=by have:=bits_le h;unfold shortFactorBits;lia
 simp[this]
theorem Ob(h:j.natAbs<2^64):fY i j=true:=by
 unfold fY;have:¬ (Builtin.Int.intBits j > shortFactorBits):=by have:=bits_le h;unfold shortFactorBits;lia
 simp[this]
theorem Nq(h0:0<j)(h:j.natAbs<2^1000):mU i j=true:=by
 unfold mU;have a:Builtin.divisionGoesByPylong i j=false:=by
  unfold Builtin.divisionGoesByPylong;have hj:j.natAbs≠0:=by lia
  have hl:j.natAbs.log2<1000:=(Nat.log2_lt hj).mpr h;have h0':(j==0)=false:=by simp;lia
  simp only[h0'];have:¬ (j.natAbs.log2 / 30+1 > 300):=by lia
  simp[this]
 simp[a,h0]
theorem Jy{a b:Nat}(h0:0<b):(rd (pN (.int (a:Int)) (.int (b:Int))):DM D)=Pure.pure (.int ((a%b:Nat):Int)):=by rw[Tj (by lia),Int.natCast_emod]
def nD(n:Nat):D:=.int (n:Int)
def nT(l:List Nat):D:=.tup (l.map nD)
theorem qW{α:Type}{l:List α}{i:Nat}{a:α}(h:l[i]?=some a):atI l (i:Int)=some a:=by
 have hi:=(Wf.mp h).1;unfold atI ixN;rw[Wm (by lia),Wm (by lia)]
 simpa using h
theorem Gh{l:List D}{i:Nat}{a:D}(h:l[i]?=some a):(rd (dm (.tup l) (.int (i:Int))):DM D)=Pure.pure a:=cJ λM=>qW h
theorem ug{l:List D}{i:Nat}{a:D}(h:l[i]?=some a):(rd (dm (.lst l) (.int (i:Int))):DM D)=Pure.pure a:=cJ λM=>qW h
theorem Ti{l:List Nat}{i:Nat}{a:Nat}(h:l[i]?=some a):(rd (dm (nT l) (.int (i:Int))):DM D)=Pure.pure (nD a):=Gh (by simp[h])
@[simp] theorem VL(l:List D):(rd (gY [.tup l]):DM D)=Pure.pure (.int (l.length:Int)):=id rfl
@[simp] theorem Rw(l:List D):(rd (gY [.lst l]):DM D)=Pure.pure (.int (l.length:Int)):=id rfl
@[simp] theorem VJ(l:List Int):(rd (gY [.scr l]):DM D)=Pure.pure (.int (l.length:Int)):=id rfl
@[simp] theorem wJ(l:List D):(rd (o9 [.lst l]):DM D)=Pure.pure (.tup l):=id rfl
@[simp] theorem VR(l:List D):(rd (o9 [.tup l]):DM D)=Pure.pure (.tup l):=id rfl
theorem wg:∀l:List Int,intsOf (l.map D.int)=some l
 |[]=>rfl
 |i::l=>by simp[intsOf,wg l]
theorem rA:∀l:List Nat,intsOf (l.map nD)=some (l.map λn:Nat=>(n:Int))
 |[]=>rfl
 |i::l=>by simp[intsOf,nD];exact rA l
theorem vz:∀l:List Nat,(l.map λn:Nat=>(n:Int)).sum=((l.sum:Nat):Int)
 |[]=>rfl
 |i::l=>by simp[vz l]
@[simp] theorem RB(l:List Nat):(rd (Gx [nT l]):DM D)=Pure.pure (nD l.sum):=cJ λM=>by show (intsOf (l.map nD)).map _=_;rw[rA];simp[nD,vz]
@[simp] theorem Rz(l:List Nat):(rd (Gx [.lst (l.map nD)]):DM D)=Pure.pure (nD l.sum):=cJ λM=>by show (intsOf (l.map nD)).map _=_;rw[rA];simp[nD,vz]
@[simp] theorem wI{n:Nat}(h:n<2^62):rR [.int (n:Int)]=some (.fix ((List.range n).map nD)):=by
 have:pX (n:Int)=true:=by unfold pX;exact WF ⟨by lia,by lia⟩
 simp[rR,this,pW,nD]
@[simp] theorem V3(l:List D):mJ (.tup l)=some (.fix l):=id rfl
theorem uh(h:l.length<=1000000):yG l=Pure.pure (.tup l):=by
 have:fQ l=true:=by unfold fQ;exact WF (by show l.length<=2^24;lia)
 simp[yG,this]
theorem pU(h:l.length<=1000000):uB l=Pure.pure (.lst l):=by
 have:fQ l=true:=by unfold fQ;exact WF (by show l.length<=2^24;lia)
 simp[uB,this]
@[simp] theorem oV(fg:D->ak->DM ak)(ft:ak->DM Bool)(fb:ak->List D->DM (ak×List D))(ds:List D)(δ:ak)(l:List D):bU fg ft fb (.fix ds) δ l=bx fg ft fb ds δ l:=id rfl
theorem uZ(S:ak->Prop)(en:D->ak)(p:D->Bool)(e:D->D):∀ (ds:List D) (δ:ak) (l:List D),S δ->l.length + ds.length<=1000000->
  (∀d∈ds,∀δ,S δ->fg d δ=Pure.pure (en d)/\S (en d))->(∀d∈ds,ft (en d)=Pure.pure (p d))->(∀d∈ds,p d=true->fe (en d)=Pure.pure (e d))->∃δ',bx fg ft (bH fe) ds δ l=Pure.pure (δ',l++(ds.filter p).map e)
 |[],δ,l,_,_,_,_,_=>⟨δ,by simp[bx]⟩
 | d::ds,δ,l,s,hl,h0,h1,h2=>by
   have a:=h0 d (Xg ..) δ s;have b:=h1 d (Xg ..);have hl':l.length+(ds.length+1)<=1000000:=by simpa using hl
   have lt:l.length<sizeLine:=by show l.length<2^24;lia
   have ih:=λl' hl'=>uZ S en p e ds (en d) l' a.2 hl' (λx hx=>h0 x (W4 _ hx)) (λx hx=>h1 x (W4 _ hx)) (λx hx=>h2 x (W4 _ hx))
   by_cases hp:p d=true
   ·have c:=h2 d (Xg ..) hp;obtain⟨δ',q⟩:=ih (l++[e d]) (by simp;lia)
    refine⟨δ',?_⟩;simp[bx,a.1,b,hp,bH,c,lt,q]
   ·obtain⟨δ',q⟩:=ih l (by lia)
    refine⟨δ',?_⟩;simp[bx,a.1,b,hp,q]
@[simp] theorem rQ(l:List D):Out.run .val l=Pure.pure (.lst l):=id rfl
theorem Ma{ft:ak->DM Bool}{fe:ak->DM D}{x:Option D}{rest:ak}{ds:List D}(p:D->Bool)(e:D->D)(hl:ds.length<=1000000)(h1:∀d∈ds,ft (some d::rest)=Pure.pure (p d))(h2:∀d∈ds,p d=true->fe (some d::rest)=Pure.pure (e d)){β:Type}{k:ak×List D->DM β}{k':List D->DM β}(hk:∀q,k q=k' q.2):
  (dq (bx (gN 0) ft (bH fe) ds (x::rest) [])>>=k)=k' ((ds.filter p).map e):=by
 obtain⟨δ',q⟩:=uZ (fg:=gN 0) (ft:=ft) (fe:=fe) (λδ=>∃x,δ=x::rest) (λd=>some d::rest) p e ds (x::rest) [] ⟨x,rfl⟩ (by simpa using hl) (λd _ δ ⟨x,h⟩=>⟨by subst h;rfl,_,rfl⟩) h1 h2
 rw[q];simp[hk]
@[simp] theorem Vd(m:DM α):(m>>=λa=>(Pure.pure a:DM α))=m:=by
 funext M;show DM.bind m _ M=m M;unfold DM.bind;cases m M with
 |none=>rfl
 |some r=>obtain⟨r,M'⟩:=r;cases r<;>rfl
def pM:Option D->List D->Option D
 |x,[]=>x
 |_,d::ds=>pM (some d) ds
def tV:Option D->Option D->List D->List D->ak
 |x,y,a::as,b::bs=>tV (some a) (some b) as bs
 |x,y,_,_=>[x,y]
theorem ju:∀ (as bs:List Int),PyData.eqvAll (as.map .int) (bs.map .int)=decide (as=bs)
 |[],[]=>by simp[PyData.eqvAll]
 |[],b::bs=>by simp[PyData.eqvAll]
 |a::as,[]=>by simp[PyData.eqvAll]
 |a::as,b::bs=>by rw[W0,W0];simp only[PyData.eqvAll,PyData.eqv,ju as bs];by_cases h:a=b<;>by_cases h2:as=bs<;>simp[h,h2]
theorem iD:∀l:List Int,fB (l.map D.int)=some (l.map PyData.int)
 |[]=>rfl
 |i::l=>by simp[fB,toPy,iD l]
theorem lay_ints:∀l:List Int,PyData.canLayAll0 (l.map PyData.int)=true
 |[]=>rfl
 |i::l=>by simp[PyData.canLayAll0,PyData.canLay0,lay_ints l]
theorem gF:∀ l:List Int,PyData.depthAll (l.map PyData.int)<=1
 |[]=>by simp[PyData.depthAll]
 |i::l=>by
   have:=gF l;simp only[List.map_cons,PyData.depthAll,PyData.depth]
   lia
@[simp] theorem Mv(i j:Int):(rd (iM (.int i) (.int j)):DM D)=Pure.pure (.bl (decide (i=j))):=cJ λM=>by simp[iM,eqB,eqP,toPy,PyData.canLay0,PyData.depth,PyData.eqv];rw[WY];simp
@[simp] theorem Tp(i j:Int):(rd (mY (.int i) (.int j)):DM D)=Pure.pure (.bl (!decide (i=j))):=cJ λM=>by simp[mY,eqB,eqP,toPy,PyData.canLay0,PyData.depth,PyData.eqv];rw[WY];simp
@[simp] theorem V5(i j:Str):(rd (iM (.str i) (.str j)):DM D)=Pure.pure (.bl (decide (i=j))):=id rfl
@[simp] theorem V8(i j:Str):(rd (mY (.str i) (.str j)):DM D)=Pure.pure (.bl (!decide (i=j))):=id rfl
theorem Ab(a b:List Int):eqB (.tup (a.map D.int)) (.tup (b.map D.int))=some (decide (a=b)):=by
 have:=gF a;have h:∀n,n<=1->1+n<=60:=λn h=>by lia
 simp only[eqB,eqP,toPy,iD,Option.map_some,PyData.canLay0,lay_ints,PyData.depth,PyData.eqv,ju];simp
 lia
theorem oG(l:List Nat):nT l=.tup ((l.map λn:Nat=>(n:Int)).map D.int):=by simp[nT,nD,Function.comp_def]
theorem lE{a b:List Nat}:(a.map λn:Nat=>(n:Int))=(b.map λn:Nat=>(n:Int)) ↔ a=b:=ZC λx y (h:(x:Int)=(y:Int))=>by lia
@[simp] theorem V4(a b:List Nat):(rd (iM (nT a) (nT b)):DM D)=Pure.pure (.bl (decide (a=b))):=cJ λM=>by rw[oG,oG,iM,Ab];simp[lE]
@[simp] theorem Mw(a b:List Nat):(rd (mY (nT a) (nT b)):DM D)=Pure.pure (.bl (!decide (a=b))):=cJ λM=>by rw[oG,oG,mY,Ab];simp[lE]
theorem En:∀l:List Bool,iH (l.map D.bl)=some l
 |[]=>rfl
 |b::l=>by simp[iH,Lq,En l]
@[simp] theorem Jr(l:List Bool):(rd (uL [.lst (l.map D.bl)]):DM D)=Pure.pure (.bl (l.all id)):=cJ λM=>by simp[uL,aR,En]
theorem JZ:∀ l:List Nat,iH (l.map nD)=some (l.map λn=>n != 0)
 |[]=>rfl
 |b::l=>by simp only[List.map_cons,iH,JZ l,nD,Lq];congr 2;rw[WY];simp
@[simp] theorem VH(l:List Nat):(rd (Et [nT l]):DM D)=Pure.pure (.bl (l.any (·!= 0))):=cJ λM=>by simp[Et,nT,JZ,List.any_map]
theorem wY:∀ l:List Nat,l.any (·!= 0)=decide (0<l.sum)
 |[]=>rfl
 |a::l=>by
   rw[aak,wY l,WY];simp only[Bool.or_eq_true,bne_iff_ne,decide_eq_true_eq,ne_eq];rw[Yv]
   lia
theorem uf(h:∀M,tyOf d M=some t)(hc:tys.contains c=true):(rd (lM [d,.ty c]):DM D)=Pure.pure (.bl (Gw t c)):=cJ λM=>by simp only[lM,h M,Option.bind_some,hc,if_true]
@[simp] theorem Jz(b:Bool):(rd (jU (.bl b)):DM Bool)=Pure.pure b:=id rfl
@[simp] theorem V1(l m:List D):sY [.tup l,.tup m]=some (.fix (pairs l m)):=id rfl
def Rn{α:Type}(m:DM α)(M:Mo)(Q:α->Mo->Prop):Prop:=∃a M',m M=some (.ok a,M')/\Q a M'
theorem Rn.bind(h:Rn m M Q1)(k:∀a M',Q1 a M'->Rn (f a) M' Q):Rn (m>>=f) M Q:=by obtain⟨a,M',e,q⟩:=h;obtain⟨b,M2,e2,q2⟩:=k a M' q;refine⟨b,M2,?_,q2⟩;show DM.bind m f M=_;unfold DM.bind;rw[e];exact e2
theorem Rn.pure(q:Q a M):Rn (Pure.pure a) M Q:=⟨a,M,rfl,q⟩
theorem Rn.mono{α:Type}{m:DM α}{Q R:α->Mo->Prop}(h:Rn m M Q)(k:∀a M',Q a M'->R a M'):Rn m M R:=by obtain⟨a,M',e,q⟩:=h;exact⟨a,M',e,k a M' q⟩
theorem Rn.rd(h:f M=some a)(q:Q a M):Rn (L3.rd f) M Q:=⟨a,M,by unfold L3.rd;rw[h];rfl,q⟩
theorem Rn.bindRd(a:α)(h:f M=some a)(q:Rn (k a) M Q):Rn (L3.rd f>>=k) M Q:=Rn.bind (Rn.rd h (Q:=λb M'=>b=a/\M'=M) ⟨rfl,rfl⟩) (λb M' ⟨e1,e2⟩=>by rw[e1,e2];exact q)
theorem Rn.call(hp:ds.length=p)(h:Rn (fb (bw n ds)) M λr M'=>∃d,r=.rt d/\Q d M'):Rn (aG p n fb ds) M Q:=by
 unfold aG;rw[Wm hp];refine Rn.bind h λr M' ⟨d,e,q⟩=>?_
 subst e;exact Rn.pure q
structure Sb(p:Nat)(M M':Mo):Prop where
 le:M.length<=M'.length
 keep:∀q,q≠p->q<M.length->M'[q]?=M[q]?
theorem Sb.refl:Sb p M M:=⟨Wg _,λz z z=>rfl⟩
theorem Sb.trans(h:Sb p M M1)(k:Sb p M1 M2):Sb p M M2:=⟨Xm h.le k.le,λq hq hl=>(k.keep q hq (Wo hl h.le)).trans (h.keep q hq hl)⟩
theorem Sb.set:Sb p M (M.set p o):=⟨by simp,λq hq hl=>Xh (λz=>hq z.symm)⟩
theorem Sb.push:Sb p M (M++[o]):=⟨by simp,λq hq hl=>Ws hl⟩
theorem Sb.at(h:Sb p M M')(hq:q≠p)(e:M[q]?=some o):M'[q]?=some o:=(h.keep q hq (Wf.mp e).1).trans e
theorem Sb.new(h:M'.length=M.length\/M.length<=M'.length)(hq:M.length<=q)(k:Sb q M' M2)(h1:Sb p M M'):Sb p M M2:=⟨Xm h1.le k.le,λr hr hl=>(k.keep r (by lia) (Wo hl h1.le)).trans (h1.keep r hr hl)⟩
theorem N8(h:l.length<=1000000):eG l M=some (.ok (.ref M.length),M++[.lst l]):=by
 have:fQ l=true:=by unfold fQ;exact WF (by show l.length<=2^24;lia)
 unfold eG;rw[Wm this]
theorem Rn.eG(h:l.length<=1000000)(q:Rn (k (.ref M.length)) (M++[.lst l]) Q):Rn (L3.eG l>>=k) M Q:=Rn.bind ⟨_,_,N8 h,(⟨rfl,rfl⟩:D.ref M.length=.ref M.length/\M++[.lst l]=M++[.lst l])⟩ (Q1:=λa M'=>a=.ref M.length/\M'=M++[.lst l]) (λa M' ⟨e1,e2⟩=>by rw[e1,e2];exact q)
theorem rE{n:Nat}{l:List D}{i:Nat}(h:M[n]?=some (.lst l))(hi:l[i]?=some a):dm (.ref n) (.int (i:Int)) M=some a:=by show (aR (.ref n) M).bind _=_;simp only[aR,h,Option.bind_some];exact qW hi
theorem Aj(h:i<n):ixN n (i:Int)=some i:=by unfold ixN;rw[Wm (by lia),Wm (by lia)];simp
theorem o7{n:Nat}{l:List D}{i:Nat}(h:M[n]?=some (.lst l))(hi:i<l.length):Gr (.ref n) (.int (i:Int)) v M=some (.ok (),M.set n (.lst (l.set i v))):=by delta Gr;dsimp only;rw[h];dsimp only;rw[Aj hi]
theorem tK(h:M[n]?=some (.lst l))(hl:l.length<1000000):Kd (.ref n) [v] M=some (.ok .non,M.set n (.lst (l++[v]))):=by
 have:l.length<sizeLine:=by show l.length<2^24;lia
 delta Kd;dsimp only;rw[h];dsimp only;rw[Wm this]
theorem Rn.run(h:m M=some (.ok a,M'))(q:Rn (k a) M' Q):Rn (m>>=k) M Q:=Rn.bind (Q1:=λb M2=>b=a/\M2=M') ⟨a,M',h,rfl,rfl⟩ (λb M2 ⟨e1,e2⟩=>by rw[e1,e2];exact q)
theorem bN(I:Nat->ak->Mo->Prop):∀ (ds:List D) (i:Nat) (δ:ak) (M:Mo),I i δ M->(∀ j d δ M,ds[j]?=some d->I (i + j) δ M->Rn (tg d δ >>= fb) M λr M'=>∃ δ',r=.nx δ'/\I (i + j + 1) δ' M')->Rn (forL tg fb ds δ) M λr M'=>∃ δ',r=.nx δ'/\I (i + ds.length) δ' M'
 |[],i,δ,M,h,_=>Rn.pure ⟨δ,rfl,h⟩
 | d::ds,i,δ,M,h,st=>by
   have s:=st 0 d δ M rfl h;have e:forL tg fb (d::ds) δ=(tg d δ>>=fb)>>=λr=>match r with
    |.nx δ2=>forL tg fb ds δ2
    |.ct δ2=>forL tg fb ds δ2
    |.bk δ2=>Pure.pure (.nx δ2)
    |.rt d=>Pure.pure (.rt d):=by rw[aO];rfl
   rw[e];refine Rn.bind s λr M' ⟨δ',e,h'⟩=>?_
   subst e;have ih:=bN I ds (i+1) δ' M' h' (λj d δ M hj hI=>by
    have:=st (j+1) d δ M (by simpa using hj) (by rw[show i+(j+1)=i+1+j by lia];exact hI)
    rw[show i+1+j+1=i+(j+1)+1 by lia];exact this)
   rw[show i+(d::ds).length=i+1+ds.length by simp;lia]
   exact ih
section
variable{X:Cx}{E:XK}
theorem Ib:PGet X (λx y H Q=>∃p xs i v,x=.ref p/\y=.int i/\0<=i/\SqL X.K H p xs/\atI xs i=some v/\Q v H):=by
 intro aaD s σ H x y ov iv Q I rx ry h;obtain⟨p,xs,i,z,rfl,rfl,h0,hq,he,q⟩:=h;cases rx;obtain⟨t,rfl⟩:=ry;obtain⟨its,r,pl,hz⟩:=I.list hq;obtain⟨j,h1,h2,h3,h4,h5⟩:=atI_get he;obtain⟨w,ew,rw'⟩:=r.get h2;have hl:=r.length;have hn:=line63;have fin:EP X aaD σ Q w s:=⟨z,H,I,rw',q⟩;have hj:i.toNat=j:=by rw[seqIndex_of h0 h5]at h1;exact Wq h1
 exact wpAny_getItem_list pl.isList h0 (by lia) (by rw[hj];simpa using ew) fin
def Mj:D->D->Mo->Option D
 |x,.int i,M=>if 0<=i then (aR x M).bind λl=>atI l i else none
 |_,_,_=>none
set_option tactic.hygienic true in
theorem SJ:PGet X (rD X.mg E (λx y=>rd (Mj x y))):=by
 intro aaD s σ H x y ov iv Q I rx ry h;obtain⟨ρ,M,dx,dy,j,cx,cy,go⟩:=h;obtain⟨d,e,p⟩:=go.rd;unfold Mj at e;split at e
 ·cases cy;split at e
  ·rename_i h0;obtain⟨l,h1,e1⟩:=W8.mp e;obtain⟨a,xs,rfl,ha,c⟩:=eF j cx h1;obtain⟨w,e2,cw⟩:=c.at e1;exact Ib (X:=X) aaD s σ H _ _ ov iv Q I rx ry ⟨_,_,_,_,rfl,rfl,h0,SqL.of ha,e2,p ρ H _ .refl j cw⟩
  ·cases e
 ·cases e
theorem Nt(ho:DE X E o fo)(hi:DE X E i fi)(hop:cF X E (inplaceOp op) gop)(he:DE X E e fe)
  (ha:∀ov iv new,augStore i ov iv new=(do holding [new,ov,iv] (setItem ov iv new);release [new,ov,iv] [];pure .next):=by intros;rfl) :
  DS X E (.AugAssign (.Subscript o i tpos) op e pos) (λδ=>fo δ>>=λa=>fi δ>>=λk=>rd (Mj a k)>>=λx=>fe δ>>=λy=>gop x y>>=λz=>Gr a k z>>=λw=>pure (.nx δ)):=
 ⟨PS.mono (ps_augS (tip:=rD X.mg E gop) ho.h hi.h (SJ (E:=E)) he.h hop (wQ (E:=E)) ha) fun D σ H h=>by
  obtain⟨ρ,δ,M,ev,j,g1⟩:=h;refine⟨ρ,δ,M,ev,j,g1.bind λρ1 H1 M1 a da e1 j1 c1 g2=>⟨ρ1,δ,M1,ev.mono e1,j1,g2.bind λρ2 H2 M2 k dk e2 j2 c2 g3=>⟨ρ2,M2,da,dk,j2,c1.mono e2,c2,g3.bind λρ3 H3 M3 x dx e3 j3 c3 g4=>?_⟩⟩⟩
  have ev3:=((ev.mono e1).mono e2).mono e3;refine⟨ρ3,δ,M3,ev3,j3,g4.bind λρ4 H4 M4 y dy e4 j4 c4 g5=>⟨ρ4,M4,dx,dy,j4,c3.mono e4,c4,g5.bind λρ5 H5 M5 z dz e5 j5 c5 g6=>?_⟩⟩
  refine⟨ρ5,M5,da,dk,dz,j5,(((c1.mono e2).mono e3).mono e4).mono e5,((c2.mono e3).mono e4).mono e5,c5,g6.bind λρ6 H6 M6 _ _ e6 j6 _ g7=>?_⟩
  exact g7.pure ρ6 H6 σ .refl j6 (((ev3.mono e4).mono e5).mono e6)⟩
end
end L3
namespace L3
open PySem PySem.Spec L2
open PyProof.Rows hiding St
theorem yq:bootBuiltins "enumerate"=some (.type "enumerate"):=by decide +kernel
def ig(i:Nat):List D->List D
 |[]=>[]
 |x::xs=>.tup [.int (i:Int),x]::ig (i+1) xs
def tQ:List D->Option Itn
 |[x]=>(frz x).map λp=>.fix (ig 0 p.2)
 |_=>none
theorem xH:∀ (l:List D) (k i:Nat),(ig k l)[i]?=(l[i]?).map λx=>.tup [.int ((k + i:Nat):Int),x]
 |[],k,i=>by simp[ig]
 |x::xs,k,0=>by simp[ig]
 |x::xs,k,i+1=>by simp only[ig,List.getElem?_cons_succ,xH xs (k+1) i];rw[show k+1+i=k+(i+1) by lia]
theorem NB{mg:Str->Option Value}{ρ:Rh}{H:Hp}{K:PySem.W.Frag}{b:Bool}{l:Addr}{xs:List V}{ds:List D}(n1:l∉ρ)(h1:H l=some (if b then .tup xs else .lst xs))(c1:Cvs mg ρ H xs ds):ItOk mg ρ H (O8 K b l) (.fix (ig 0 ds)) where
 item:=λi ρ' H' M' d e j q=>by
  have hq:(ig 0 ds)[i]?=some d:=Wq q;rw[xH]at hq;obtain⟨dx,e1,rfl⟩:=Wi.mp hq;obtain⟨x,hx,cx⟩:=c1.get e1;have k1:=(e.keep _ _ h1 n1 ne_if).2;refine⟨⟨xs,x,my k1,hx⟩,λv H2 z=>?_⟩
  obtain⟨p,hp,rfl,z⟩:=z;obtain⟨x',hx',rfl⟩:=z xs (my k1);rw[hx]at hx';cases hx';rw[WN];exact⟨.lay hp,j.lay _ hp,.tup (j.fresh hp) upd_same (.cons (.int _) (.cons ((cx.kp e).mono (.lay hp)) .nil))⟩
 stop:=λi ρ' H' M' e j q=>by have hq:(ig 0 ds)[i]?=none:=Wq q;rw[xH,Option.map_eq_none_iff]at hq;exact⟨xs,my (e.keep _ _ h1 n1 ne_if).2,Wz.mpr (by rw[c1.len];exact Wz.mp hq)⟩
theorem wZ(hg:Gl X "enumerate")(hm:X.mg "enumerate"=none)(ha:DA X E [a] fa)(hs:notStar a=true:=by rfl):
  DI X E (.Tuple elts kt tp) (.Call (.Name "enumerate" p) [a] [] pos) (λδ=>fa δ>>=λl=>opt (tQ l)):=⟨by
 intro aaD s σ H R I h;obtain⟨ρ,δ,M,ev,j,g1⟩:=h;refine Call_ (ld_blt I hg hm yq (Xe (thn (ha.h.h pos aaD s σ H (λvs H1=>∃ρ1 M1 ds,Ext ρ H ρ1 H1/\J X.mg ρ1 M1 H1/\Cvs X.mg ρ1 H1 vs ds/\Go X.mg E (ItOk X.mg) R ρ1 H1 (opt (tQ ds)) M1) I ⟨ρ,δ,M,ev,j,g1.bind λρ1 H1 M1 vs ds e1 j1 c1 g2=>⟨ρ1,M1,ds,e1,j1,c1,g2⟩⟩) λus s1 h1=>?_) (aW hs) (by rfl)))
 obtain⟨vs,H1,I1,rv,ρ1,M1,ds,e1,j1,c1,g2⟩:=h1;obtain⟨itn,ei,q⟩:=g2.opt;unfold tQ at ei;split at ei;rotate_left
 ·cases ei
 obtain⟨⟨b,l⟩,f1,rfl⟩:=Wi.mp ei;cases c1 with
 |cons k1 c1=>
 cases c1;obtain⟨a1,xs,rfl,n1,h1,cx⟩:=Af (K:=X.K) k1 f1;cases rv with
 |cons r1 rv=>
 cases rv;cases r1;obtain⟨its1,w1,p1,_⟩:=I1.seqS (my (K:=X.K) h1);refine vP p1 λh' a1' a2' a3 a4=>wpAny_pyIter_enum a1' ?_
 have lt1:@LT.lt Nat _ a1 s1.heap.objs.size:=p1.lt;have I2:Inv X aaD σ H1 { s1 with heap:=h' }:=I1.kept (t':=s1.toks) a4
 refine⟨_,_,_,_,H1,rfl,I2,yP (b:=b) (e:=s1.heap.objs.size+1) (it:=s1.heap.objs.size) (l:=a1) (λ(h:@Eq Nat _ _)=>by lia) (λ(h:@Eq Nat _ _)=>by lia) (λ(h:@Eq Nat _ _)=>by lia),⟨⟨_,a1'⟩,a2'.1⟩,λb hb=>?_,q ρ1 H1 _ .refl j1 (NB n1 h1 cx)⟩
 refine I1.fpOk ?_ (I1.hok.fresh ?_)<;>(simp only[List.mem_cons,List.mem_nil_iff,or_false]at hb;rcases hb with rfl | rfl<;>lia)⟩
set_option tactic.hygienic true in
theorem Km{i:Nat}{cl:List (Str×Addr)}{own:List Str}{js:List Nat}{fr:List Str}{f0:List Expr}{gs:List Comprehension}{fi:ak->DM Itn}{fg:D->ak->DM ak}{ft:ak->DM Bool}{fb:ak->List D->DM (ak×List D)}
  {bodyK:Cx->Addr->Sem Fin->Sem Fin}{W:Cx->Addr->(Shared->Prop)->Shared->Prop} (o:Out) (hN:X.N.Nodup) (hi0:X.N[i]?=some x) (hx:Loc X.env.scope x) (hc:X.calm=true) (T:CompG X scope cl own js fr) (hi:DI X E t0 i0 fi)
  (hturn:∀(Y:Cx) it acc,compTurn (.ListComp elt (⟨t0,i0,f0,0⟩::gs) scope pos) 0 (.ref it) (.ref acc) Y.env=turnOf ⟨t0,i0,f0,0⟩ (bodyK Y acc) (.compLoop (.ListComp elt (⟨t0,i0,f0,0⟩::gs) scope pos) 0 (.ref it) (.ref acc) Y.env) (.ref it) Y.env)
  (hW:∀Y acc,mF Y.prog Y.w Y.A (bodyK Y acc) (W Y acc)) (hmono:∀Y acc P P' s,(∀s,P s->P' s)->W Y acc P s->W Y acc P' s)
  (hg:∀aaD m fp C s₂ H₂,DG (X.aZ aaD scope (cellsFrom m scope.names cl) (own++fr) fp C s₂ H₂) E0 t0 fg) (ht:∀aaD m fp C s₂ H₂,DTs (X.aZ aaD scope (cellsFrom m scope.names cl) (own++fr) fp C s₂ H₂) E0 f0 ft)
  (hb:∀aaD m fp C s₂ H₂ acc,BodyOk (X.aZ aaD scope (cellsFrom m scope.names cl) (own++fr) fp C s₂ H₂) acc (W (X.aZ aaD scope (cellsFrom m scope.names cl) (own++fr) fp C s₂ H₂) acc) fb)
  (hsw:swapsWith (.ListComp elt (⟨t0,i0,f0,0⟩::gs) scope pos) (some (.Name x px)) spos.line X.env=pure true:=by rfl)
  (hs:∀y,foldedSetIterable i0 X.env y=pure y:=by intro _;rfl) (hf:X.fn x=true\/X.env.scope.names.lookup x=some .local:=by first | exact .inl rfl | exact .inr rfl | assumption) :
  DS X E (.Assign [.Name x px] (.ListComp elt (⟨t0,i0,f0,0⟩::gs) scope pos) spos) (λδ=>(fi δ>>=λit=>dq (bU fg ft fb it (aP own.length js δ) [])>>=λp=>o.run p.2)>>=λd=>pure (.nx (δ.set i (some d)))):=⟨by
 intro aaD s σ H D I h;obtain⟨ρ,δ,M,ev,j,g0⟩:=h;let Q:VK:=λv H'=>D.nx (σ.set i (some v)) H'
 have g1:Go X.mg E (Cv X.mg) Q ρ H (fi δ>>=λit=>dq (bU fg ft fb it (aP own.length js δ) [])>>=λp=>o.run p.2) M:=g0.bind λρ1 H1 M1 v d e1 j1 c1 g2=>g2.pure ρ1 H1 _ .refl j1 ((ev.mono e1).set c1)
 rw[exec_Assign_Name_used _ _ _ _ hsw];refine Wc (Yw (Wc ?_));show wpAny _ _ (do let _ <-comprehension (.ListComp elt (⟨t0,i0,f0,0⟩::gs) scope pos) scope X.env _ (newList []) false (eval i0 X.env) (some (assign (.Name x px) X.env))) _ _ s
 refine Wc (Wx (ZD (cl:=cl) (use:=some (assign (.Name x px) X.env)) (Q:=λu s'=>∃v H',Inv X aaD (σ.set i (some v)) H' s'/\Q v H') rfl hs T.clos T.kind T.names ?_) (λ_ s' ⟨v,H',I',q'⟩=>We (We ⟨_,H',I',q'⟩)) λu u e=>e)
 refine thn (hi.h aaD s σ H (λJt H1=>∃ρ1 M1 it,Ext ρ H ρ1 H1/\J X.mg ρ1 M1 H1/\ItOk X.mg ρ1 H1 Jt it/\Go X.mg E (Cv X.mg) Q ρ1 H1 (dq (bU fg ft fb it (aP own.length js δ) [])>>=λp=>o.run p.2) M1) I
  ⟨ρ,δ,M,ev,j,g1.bind λρ1 H1 M1 Jt it e1 j1 iok g2=>⟨ρ1,M1,it,e1,j1,iok,g2⟩⟩) λv s1 h1=>thn h1 λitv s2 h2=>?_
 obtain⟨it,fp,tn,Jt,H2,rfl,I2,Tn,st2,f2,ρ1,M1,itn,x1,j1,iok,g2⟩:=h2;have hrun:∃δf lf Mf,bU fg ft fb itn (aP own.length js δ) [] M1=some (.ok (δf,lf),Mf)/\Go X.mg E (Cv X.mg) Q ρ1 H2 (o.run lf) Mf:=by
  obtain⟨r,e,p⟩:=g2;have e:DM.bind _ _ M1=some r:=e;unfold DM.bind at e;split at e
  ·cases e
  ·rename_i c M' em;obtain⟨a,M'',_,z⟩:=oH em;cases z
  ·rename_i a M' em;obtain⟨a',M'',e1,z⟩:=oH em;cases z;exact⟨a.1,a.2,M',e1,r,e,p⟩
 obtain⟨δf,lf,Mf,hrun,g3⟩:=hrun;unfold newList;refine WW (rJ ?_);have hlt:∀b∈fp,b<s2.heap.objs.size:=λb hb=>by obtain⟨o,e,_⟩:=Tn.obj _ _ st2 b hb;exact Wj e
 dsimp only;generalize hP:s2.heap.push { cls:=.type "list",dict:=none,data:=.seq ([]:List Value).toArray }=hp1;have hCs:hp1.objs.size=s2.heap.objs.size+1:=by rw[<-hP,WM]
 have hCe:hp1.objs.size+1=(hp1.push { cls:=.type "dict",data:=.dict #[] }).objs.size:=by rw[WM]
 have hC:s2.heap.objs.size<=hp1.objs.size:=by lia
 have hne:hp1.objs.size≠s2.heap.objs.size:=by lia
 have old1:∀b o,s2.heap.get? b=some o->hp1.get? b=some o:=λb o e=>by rw[<-hP];exact Wd _ e
 have old:∀b o,s2.heap.get? b=some o->(pushCells (hp1.push { cls:=.type "dict",data:=.dict #[] }) scope.names).get? b=some o:=λb o e=>X8 _ _ _ _ (Wd _ (old1 b o e))
 have new:∃n,(pushCells (hp1.push { cls:=.type "dict",data:=.dict #[] }) scope.names).get? s2.heap.objs.size=some { cls:=.type "list",data:=.seq #[] n }:=⟨_,X8 _ _ _ _ (Wd _ (by rw[<-hP];exact Wl _ rfl))⟩
 have ns:(pushCells (hp1.push { cls:=.type "dict",data:=.dict #[] }) scope.names).Ns hp1.objs.size λu=>none:=(Heap.Ns.new hp1 (.type "dict")).keeps (X8 _ _)
 have hfree:H2 s2.heap.objs.size=none:=I2.hok.fresh (Wg _);have IC:=yr (t':=s2.toks) T I2 f2 hlt old (Wg _) hC hne hCe (Xm hC (Nat.le_succ _)) (Xw _) (Nat.lt_succ_of_le hC) rfl new ns;have OK:=IC.ok;have fok:∀H',(∀b∈fp,H' b=none)->∀b∈fp,FpOk (X.aZ aaD scope (cellsFrom (hp1.objs.size+1) scope.names cl) (own++fr) fp hp1.objs.size s2 H2) [] H' b:=λH' hn b hb=>by
  obtain⟨_,g2,g3,g4,g5,g6⟩:=f2 b hb;refine⟨hn b hb,Wu (Wo (hlt b hb) hC),λhm=>?_,.inl hb,(OK.exf b hb).2,λp hp=>g6 p (by simpa using hp)⟩
  rcases Wy.mp (I2.stkSub _ hm) with z | z
  ·exact g2 z
  ·exact g3 z
 have fp1:∀b∈fp,upd H2 s2.heap.objs.size (.lst []) b=none:=λb hb=>by rw[upd_ne (Wu (hlt b hb))];exact (f2 b hb).1
 have jb:=j1.begin hfree;have nf:=j1.fresh hfree;have st:Cst (X.aZ aaD scope (cellsFrom (hp1.objs.size+1) scope.names cl) (own++fr) fp hp1.objs.size s2 H2) [] s2.heap.objs.size (ρ1.hold s2.heap.objs.size) (upd H2 s2.heap.objs.size (.lst [])) (aP own.length js δ) [] M1 fp
   { s2 with heap:=pushCells (hp1.push { cls:=.type "dict",data:=.dict #[] }) scope.names,toks:=s2.toks }:=
  ⟨_,_,_,[],IC,.refl (λz=>nf (.inl z)),jb,(xf (ev.mono x1) _ _).kp (pL hfree),upd_same,.nil,fp1⟩
 have tn0:tn 0 (pushCells (hp1.push { cls:=.type "dict",data:=.dict #[] }) scope.names):=Tn.keep _ _ _ st2 (λb u o e=>old b o e)
 have loop:codeAny (model X.prog X.w) X.A (.compLoop (.ListComp elt (⟨t0,i0,f0,0⟩::gs) scope pos) 0 (.ref it) (.ref s2.heap.objs.size) (compEnvC scope (cellsFrom (hp1.objs.size+1) scope.names cl) hp1.objs.size X.env))
   (compPost (model X.prog X.w) X.A X.xe (some (assign (.Name x px) X.env)) (λu s'=>∃v H',Inv X aaD (σ.set i (some v)) H' s'/\Q v H') (.ref s2.heap.objs.size) hp1.objs.size) { s2 with heap:=pushCells (hp1.push { cls:=.type "dict",data:=.dict #[] }) scope.names,toks:=s2.toks }:=by
  refine Io (X:=X.aZ aaD scope (cellsFrom (hp1.objs.size+1) scope.names cl) (own++fr) fp hp1.objs.size s2 H2) hc rfl (hturn _ _ _) (hW _ _) (hmono _ _) (hg ..) (ht ..) (hb aaD (hp1.objs.size+1) fp hp1.objs.size s2 H2 s2.heap.objs.size) Tn iok (.head _) (pL hfree) fok st tn0 hrun λs' c'=>?_
  obtain⟨σ4,H4,ρ4,ys,I4,x4,j4,ev4,ha4,cl4,fr4⟩:=c'.ex;obtain⟨m4,hn4,_⟩:=I4.loc;have hsb0:Heap.SameBut hp1.objs.size s'.heap s'.heap:=⟨rfl,λu u=>rfl⟩
  have un:=Ci I4.base hsb0 hC;have ok4:=xm I4.hok hsb0 I4.free;have IO:Inv X aaD σ H4 s':=I2.call' (s':=s') (ch:=fp) (I4.os) un ok4 I4.bare (λb hb=>by obtain⟨_,g2,g3,g4,g5,g6⟩:=f2 b hb;exact⟨g4,g2,g5,g6⟩)
  have fC:FpOk X aaD H4 hp1.objs.size:=I2.fpOk hC I4.free;obtain⟨fC1,fC2,fC3,fC4,fC5,fC6⟩:=fC;show wpAny _ _ (assign (.Name x px) X.env (.ref s2.heap.objs.size)) _ _ s';refine wpAny_assign_Name (store_ok2 IO hN hi0 hx (v:=.ref s2.heap.objs.size) rfl (λs'' I'' hsb=>?_) hf)
  obtain⟨a,sb,ha⟩:=hsb;have nC:hp1.objs.size≠a:=by
   rcases ha with z | z
   ·rw[z];exact fC2
   ·exact λe=>fC5 x a z e.symm
  refine⟨m4,hn4.sameBut sb nC,λh' hsb'=>⟨.ref s2.heap.objs.size,H4,?_,o.fin hfree nf x4 j4 ha4 cl4 g3⟩⟩
  exact I''.turned (it:=hp1.objs.size) (t':=s''.toks) (λb o hb e=>hsb'.extBut b o hb e) fC1 fC2 fC4 (λy c e=>fC5 y c e) fC6
 show codeAny _ _ (.compStart _ 0 (.ref it) (.ref s2.heap.objs.size) (compEnvC scope (cellsFrom (hp1.objs.size+1) scope.names cl) hp1.objs.size X.env)) _ _;exact yN rfl rfl loop (Tn.self X.A 0 _ _ _ tn0 loop)⟩
theorem zZ{i:Nat}{cl:List (Str×Addr)}{own:List Str}{js:List Nat}{fr:List Str}{f0:List Expr}{fi:ak->DM Itn}{fg:D->ak->DM ak}{ft:ak->DM Bool}{fe:ak->DM D}
  (o:Out) (hN:X.N.Nodup) (hi0:X.N[i]?=some x) (hx:Loc X.env.scope x) (hc:X.calm=true) (T:CompG X scope cl own js fr) (hi:DI X E t0 i0 fi)
  (hg:∀aaD m fp C s₂ H₂,DG (X.aZ aaD scope (cellsFrom m scope.names cl) (own++fr) fp C s₂ H₂) E0 t0 fg) (ht:∀aaD m fp C s₂ H₂,DTs (X.aZ aaD scope (cellsFrom m scope.names cl) (own++fr) fp C s₂ H₂) E0 f0 ft)
  (he:∀aaD m fp C s₂ H₂,DE (X.aZ aaD scope (cellsFrom m scope.names cl) (own++fr) fp C s₂ H₂) E0 elt fe)
  (hsw:swapsWith (.ListComp elt [⟨t0,i0,f0,0⟩] scope pos) (some (.Name x px)) spos.line X.env=pure true:=by rfl)
  (hs:∀y,foldedSetIterable i0 X.env y=pure y:=by intro _;rfl) (hf:X.fn x=true\/X.env.scope.names.lookup x=some .local:=by first | exact .inl rfl | exact .inr rfl | assumption) :
  DS X E (.Assign [.Name x px] (.ListComp elt [⟨t0,i0,f0,0⟩] scope pos) spos) (λδ=>(fi δ>>=λit=>dq (bU fg ft (bH fe) it (aP own.length js δ) [])>>=λp=>o.run p.2)>>=λd=>pure (.nx (δ.set i (some d)))):=
 Km (bodyK:=λY acc=>vW elt (.ref acc) Y.env) (W:=λY acc P s=>wpAny (model Y.prog Y.w) Y.A (eval elt Y.env) (λx s1=>wpAny (model Y.prog Y.w) Y.A (call (.builtin "list.append") [.ref acc,x]) (λv s2=>P s2) (λv v=>False) s1) (λv v=>False) s) o hN hi0 hx hc T hi
  (λY it acc=>MN ..) (λY acc=>HJ) (λY acc P P' s hp h=>Wx h (λx s1 h1=>Wx h1 (λv s2 h2=>hp _ h2) λv v z=>z) λv v z=>z) hg ht (λaaD m fp C s₂ H₂ acc=>Dj rfl (he ..)) hsw hs hf
end L3
namespace L3
open PySem PySem.Spec L2
structure OCls(K:PySem.W.Frag)(mg:Str->Option Value)(c:Str)(C:Addr)(fs:List Str):Prop where
 at_:mg c=some (.ref C)
 cls:L2.Cls K C
 no:∀f∈fs,NoAttr K C f
theorem uY:∀ {ns:List Str}{xs:List V}{ds:List D}{d:D},Cvs mg ρ H xs ds->(ns.zip ds).lookup f=some d->∃ v,(ns.zip xs).lookup f=some v/\Cv mg ρ H v d
 |[],_,_,_,_,e=>by simp at e
 |n::ns,_,_,_,.nil,e=>by simp at e
 |n::ns,_,_,d,.cons (v:=v) c cs,e=>by
   rw[Y7,Yk]at e ⊢
   split at e
   ·cases e;exact⟨v,rfl,c⟩
   ·exact uY cs e
def xj(c f:Str):D->Mo->Option D
 |.obj k ns vs,_=>if k=c then (ns.zip vs).lookup f else none
 |.ref n,M=>match M[n]? with
   |some (.ins k ns vs)=>if k=c then (ns.zip vs).lookup f else none
   |_=>none
 |_,_=>none
set_option tactic.hygienic true in
theorem cV(O:OCls K mg c C fs)(hf:f∈fs)(he:DE X E e fe)
  (hb:attributeBase e f X.env (eval e X.env)=eval e X.env:=by rfl) (hK:X.K=K:=by rfl) (hM:X.mg=mg:=by rfl):DE X E (.Attribute e f pos) (λδ=>fe δ>>=λx=>rd (xj c f x)):=by
 subst hK hM;refine⟨PE.mono (pe_fld he.h hb) λσ H Q h=>?_⟩
 obtain⟨ρ,δ,M,ev,j,g1⟩:=h;refine⟨ρ,δ,M,ev,j,g1.bind λρ1 H1 M1 x dx e1 j1 c1 g2=>?_⟩
 obtain⟨d,ed,q⟩:=g2.rd;unfold xj at ed;split at ed
 ·split at ed
  ·rename_i hk;subst hk;cases c1 with
   |obj n m h l cs=>obtain⟨v,hv,cv⟩:=uY cs ed;rw[O.at_]at m;cases m;exact⟨_,_,_,_,v,rfl,h,O.cls,O.no f hf,hv,q ρ1 H1 _ .refl j1 cv⟩
  ·cases ed
 ·split at ed
  ·split at ed
   ·rename_i hm hk;subst hk;cases c1 with
    |ref hn=>obtain⟨C',dx',xs,m,h,l,cs⟩:=j1.obj _ _ _ hn hm;obtain⟨v,hv,cv⟩:=uY cs ed;rw[O.at_]at m;cases m;exact⟨_,_,_,_,v,rfl,h,O.cls,O.no f hf,hv,q ρ1 H1 _ .refl j1 cv⟩
   ·cases ed
  ·cases ed
 ·cases ed
def ie:List D->Mo->Option (List D)
 |[.int j],_=>if -(2^62)<=j/\j<=2^20 then some ((List.range j.toNat).map nD) else none
 |_,_=>none
theorem tM:∀l:List Nat,Cvs mg ρ H (l.map λi:Nat=>V.int (i:Int)) (l.map nD)
 |[]=>.nil
 |n::l=>.cons (.int _) (tM l)
section
variable{X:Cx}{E:XK}{a:Expr}{fa:ak->DM (List D)}{p1 p2 pos1 pos2:Pos}
set_option tactic.hygienic true in
theorem HB(hc:X.calm=true)(hmL:X.mg "list"=none)(hm:X.mg "range"=none)(ha:DA X E [a] fa)(hgL:Gl X "list":=by rfl)(hg:Gl X "range":=by rfl)(hs:notStar a=true:=by rfl):
  DE X E (.Call (.Name "list" p1) [.Call (.Name "range" p2) [a] [] pos2] [] pos1) (λδ=>fa δ>>=λl=>rd (λM=>(ie l M).map D.lst)):=⟨PE.mono (yH hc hgL hmL hg hm ha.h.h hs) λσ H Q h=>by
 obtain⟨ρ,δ,M,ev,j,g1⟩:=h;refine⟨ρ,δ,M,ev,j,g1.bind λρ1 H1 M1 xs ds e1 j1 c1 g2=>?_⟩
 obtain⟨d,ed,q⟩:=g2.rd;obtain⟨l,el,rfl⟩:=Wi.mp ed;unfold ie at el;split at el
 ·split at el
  ·rename_i hb;cases el;obtain⟨v,rfl,k⟩:=c1.one;cases k;exact⟨_,rfl,hb.2,hb.1,λp hp=>q ρ1 _ _ (.lay hp) (j1.lay _ hp) (.lst (j1.fresh hp) upd_same (tM _))⟩
  ·cases el
 ·cases el⟩
set_option tactic.hygienic true in
theorem Fo(hc:X.calm=true)(hmL:X.mg "list"=none)(hm:X.mg "range"=none)(ha:DA X E [a] fa)(hgL:Gl X "list":=by rfl)(hg:Gl X "range":=by rfl)(hs:notStar a=true:=by rfl):
  DE X E (.Call (.Name "list" p1) [.Call (.Name "range" p2) [a] [] pos2] [] pos1) (λδ=>fa δ>>=λl=>rd (ie l)>>=eG):=⟨PE.mono (yH hc hgL hmL hg hm ha.h.h hs) λσ H Q h=>by
 obtain⟨ρ,δ,M,ev,j,g1⟩:=h;refine⟨ρ,δ,M,ev,j,g1.bind λρ1 H1 M1 xs ds e1 j1 c1 g2=>?_⟩
 obtain⟨l,el,g⟩:=Go.rdb g2;unfold ie at el;split at el
 ·split at el
  ·rename_i hb;cases el;obtain⟨v,rfl,k⟩:=c1.one;cases k;exact⟨_,rfl,hb.2,hb.1,λp hp=>(g.eG j1 (tM _) hp).2⟩
  ·cases el
 ·cases el⟩
end
section
variable{X:Cx}{E:XK}
def Fy:List D->Mo->Option D
 |[.bl b],_=>some (.int (if b then 1 else 0))
 |_,_=>none
theorem Hu:CallR X (.type "int") (λxs H Q=>∃ b,xs=[.bl b]/\Q (.int (if b then 1 else 0)) H):=by
 intro aaD s σ H xs us Q I rs h;obtain⟨b,rfl,q⟩:=h;cases rs with
 |cons r rr=>cases rr;cases r;exact call_int_bool ⟨.int (if b then 1 else 0),H,I.tok _,⟨_,rfl⟩,q⟩
theorem vQ:CallD X E (.type "int") (λl=>rd (Fy l)):=CallD.of Hu λvs H Q ρ M ds d j c e q=>by
 unfold Fy at e;split at e
 ·cases e;obtain⟨v,rfl,k⟩:=c.one;cases k;exact⟨_,rfl,q ρ H _ .refl j (.int _)⟩
 ·cases e
end
theorem mW(I:Nat->ak->List D->Mo->Prop):∀ (ds:List D) (i:Nat) (δ:ak) (l:List D) (M:Mo),I i δ l M->
  (∀j d δ l M,ds[j]?=some d->I (i+j) δ l M->Rn (fg d δ>>=λδ1=>ft δ1>>=λb=>if b then fb δ1 l else Pure.pure (δ1,l)) M λp M'=>I (i+j+1) p.1 p.2 M')->Rn (bx fg ft fb ds δ l) M λp M'=>I (i+ds.length) p.1 p.2 M'
 |[],i,δ,l,M,h,_=>Rn.pure h
 | d::ds,i,δ,l,M,h,st=>by
   have s:=st 0 d δ l M rfl h;have e:bx fg ft fb (d::ds) δ l=(fg d δ>>=λδ1=>ft δ1>>=λb=>if b then fb δ1 l else Pure.pure (δ1,l))>>=λp=>bx fg ft fb ds p.1 p.2:=by
    rw[aO];show (fg d δ>>=λδ1=>ft δ1>>=λb=>(if b then fb δ1 l else Pure.pure (δ1,l))>>=λp=>bx fg ft fb ds p.1 p.2)=_
    congr 1;funext δ1;rw[aO]
   rw[e];refine Rn.bind s λp M' h'=>?_
   have ih:=mW I ds (i+1) p.1 p.2 M' h' (λj d δ l M hj hI=>by
    have:=st (j+1) d δ l M (by simpa using hj) (by rw[show i+(j+1)=i+1+j by lia];exact hI)
    rw[show i+1+j+1=i+(j+1)+1 by lia];exact this)
   rw[show i+(d::ds).length=i+1+ds.length by simp;lia]
   exact ih
theorem qP(h:Rn m M Q):Rn (dq m) M Q:=by obtain⟨a,M',e,q⟩:=h;exact⟨a,M',by unfold dq;rw[e],q⟩
theorem NK{n:Nat}{l:List D}{i:Nat}(h:M[n]?=some (.lst l))(hi:l[i]?=some a):Mj (.ref n) (.int (i:Int)) M=some a:=by
 show (if (0:Int)<=(i:Int) then (aR (.ref n) M).bind _ else none)=_
 rw[Wm (by lia)]
 simp only[aR,h,Option.bind_some];exact qW hi
theorem Ax(hn:n<=1000)(q:Rn (k (.ref M.length)) (M++[.lst ((List.replicate n 0).map nD)]) Q):Rn (QR (.lst [.int 0]) (nD n)>>=k) M Q:=by
 have e:Aw (.lst [.int 0]) (nD n) M=some ((List.replicate n 0).map nD):=by
  show Gm [.int 0] (n:Int)=_;unfold Gm;rw[Wm (WF ⟨by lia,by lia,by show _<=2^24;simp;lia⟩)]
  congr 1;simp[List.flatten_replicate_singleton,nD]
 show Rn ((rd (Aw (.lst [.int 0]) (nD n))>>=eG)>>=k) M Q;rw[aO];refine Rn.bindRd _ e ?_;exact Rn.eG (by simp;lia) q
end L3
namespace L3
open PySem PySem.Spec L2
open PyProof.Rows hiding St
def putN(f:Str):List Str->List Str
 |[]=>[f]
 |g::r=>if g=f then g::r else g::putN f r
def lQ{α:Type}(f:Str)(v:α):List Str->List α->List α
 |[],_=>[v]
 |g::r,x::xs=>if g=f then v::xs else x::lQ f v r xs
 |_::_,[]=>[]
theorem Bg(f:Str)(v:V):∀ (ns:List Str) (xs:List V),ns.length=xs.length->putF f v (ns.zip xs)=(putN f ns).zip (lQ f v ns xs)
 |[],[],_=>rfl
 |g::r,x::xs,h=>by
   show putF f v ((g,x)::r.zip xs)=_;unfold putF putN lQ;by_cases e:g=f
   ·rw[Wm e,Wm e,Wm e];rfl
   ·rw[Wr e,Wr e,Wr e,Bg f v r xs (by simpa using h)];rfl
theorem Bh(f:Str)(v:α):∀ (ns:List Str) (xs:List α),ns.length=xs.length->(putN f ns).length=(lQ f v ns xs).length
 |[],[],_=>rfl
 |g::r,x::xs,h=>by
   unfold putN lQ;by_cases e:g=f
   ·rw[Wm e,Wm e];simpa using h
   ·rw[Wr e,Wr e,Xv,Xv,Bh f v r xs (by simpa using h)]
theorem Cvs.put(c:Cv mg ρ H v d):∀ (ns:List Str) {xs:List V}{ds:List D},Cvs mg ρ H xs ds->Cvs mg ρ H (lQ f v ns xs) (lQ f d ns ds)
 |[],_,_,_=>.cons c .nil
 |g::r,_,_,.nil=>.nil
 |g::r,_,_,.cons h t=>by
   unfold lQ;by_cases e:g=f
   ·rw[Wm e,Wm e];exact .cons c t
   ·rw[Wr e,Wr e];exact .cons h (Cvs.put c r t)
def zb(c f:Str)(o d:D):DM Unit:=λM=>match o with
 |.ref n=>match M[n]? with
   |some (.ins k ns vs)=>if k=c/\ns.length=vs.length/\ns.length<1000 then some (.ok (),M.set n (.ins k (putN f ns) (lQ f d ns vs))) else none
   |_=>none
 |_=>none
section
variable{X:Cx}{E:XK}
set_option tactic.hygienic true in
theorem HH{K:PySem.W.Frag}{mg:Str->Option Value}{c f:Str}{C:Addr}{fs:List Str}{o value:Expr}{fo fv:ak->DM D}{pos pos':Pos}(O:OCls K mg c C fs)(hf:f∈fs)(ho:DE X E o fo)(hv:DE X E value fv)
  (hs:swapsWith value (some (.Attribute o f pos')) pos.line X.env=pure false:=by rfl) (hK:X.K=K:=by rfl) (hM:X.mg=mg:=by rfl) :
  DS X E (.Assign [.Attribute o f pos'] value pos) (λδ=>fv δ>>=λd=>fo δ>>=λo=>zb c f o d>>=λz=>pure (.nx δ)):=by
 subst hK hM;refine⟨PS.mono (ps_fld ho.h hv.h hs) λD σ H h=>?_⟩
 obtain⟨ρ,δ,M,ev,j,g1⟩:=h;refine⟨ρ,δ,M,ev,j,g1.bind λρ1 H1 M1 y dy e1 j1 c1 g2=>⟨ρ1,δ,M1,ev.mono e1,j1,g2.bind λρ2 H2 M2 x dx e2 j2 c2 g3=>?_⟩⟩
 obtain⟨r,e,p⟩:=g3;have e:DM.bind _ _ M2=some r:=e;unfold DM.bind zb at e;cases dx with
 | ref n=>
   dsimp only at e;cases c2 with | ref hn=>
   rename_i a;cases hm:M2[n]? with
   |none=>rw[hm]at e;cases e
   | some u=>
     rw[hm]at e;cases u with
     |lst l=>cases e
     |dic ks l=>cases e
     | ins k ns vs=>
       dsimp only at e;split at e
       ·cases e
       ·rename_i he;split at he<;>cases he
       ·rename_i he;split at he
        ·rename_i hk;obtain⟨rfl,hl,hz⟩:=hk;cases he;cases e;obtain⟨C',dx',xs,m,hx,l,cs⟩:=j2.obj _ _ _ hn hm;rw[O.at_]at m;cases m;have c1':=c1.mono e2;have x:Ext ρ2 H2 ρ2 (upd H2 a (.ins C dx' (putF f y (ns.zip xs)))):=.upd (W6 hn);refine⟨a,C,dx',_,rfl,hx,O.cls,O.no f hf,?_,?_⟩
         ·rw[List.length_zip];lia
         refine p ρ2 _ σ x (j2.upd hn ?_) (((ev.mono e1).mono e2).mono x);refine⟨C,dx',lQ f y ns xs,O.at_,by rw[upd_same,Bg f y ns xs l],Bh f y ns xs l,?_⟩
         exact (Cvs.put c1' ns cs).mono x
        ·cases he
 |_=>cases e
end
structure MethD(P:Program)(w:World)(K:PySem.W.Frag)(mg:Str->Option Value)(base:Heap)(k:Nat)(c x qual:Str)(st:Stmt)(ps:List Str)(F:List D->DM D):Prop where
 ex:∃C f fd,mg c=some (.ref C)/\FnOk P w K mg base (dG P w) k f fd ps (yM mg F)/\Fun K x qual st f fd/\PySem.W.findIn K (.ref C) x=some (some (.ref f))/\PySem.W.isFn K (.ref f)=true/\L2.Cls K C
structure DefK(P:Program)(w:World)(K:PySem.W.Frag)(mg:Str->Option Value)(base:Heap)(k:Nat)(x:Str)(st:Stmt)(ps:List Str)(F:List D->DM D):Prop where
 ex:∃f fd,FnOk P w K mg base (dG P w) k f fd ps (yM mg F)/\Fun K x x st f fd/\mg x=some (.ref f)
structure DefF(P:Program)(w:World)(K:PySem.W.Frag)(mg:Str->Option Value)(base:Heap)(k:Nat)(x:Str)(ps:List Str)(ds:List D)(F:List D->DM D):Prop where
 ex:∃f fd vs us,FnOk P w K mg base (dG P w) k f fd ps (yM mg F)/\PySem.W.keepIn K (.ref f)=true/\mg x=some (.ref f)/\Binds K fd ps us/\Vals vs us/\∀ρ H,Cvs mg ρ H vs ds
section
variable{P:Program}{w:World}{K:PySem.W.Frag}{mg:Str->Option Value}{base:Heap}{k:Nat}{C:Addr}{c x qual:Str}{N ps:List Str}{st:Stmt}{fb:ak->DM Fl}{f:Addr}{fd:FuncData}{is:List Int}
theorem Qh(F:Fun K x qual st f fd)(S:FnScope N ps (defScope st))
  (hbody:∀(f:Addr) (cdv:Value) (A:Around) (outer:List Env) (s:Shared) (H:Hp) (E:XK),Room k (A.deeper (envOfC qual (defScope st) s.heap.objs.size f cdv))->
    DSs (jm P w K mg base N qual (defScope st) f cdv A outer s H E) E (defBody st) fb):FnOk P w K mg base (dG P w) (k+1) f fd ps (yM mg (aG ps.length N.length fb)):=by
 refine UV F S (λvs H Q E h=>?_) λcdv A outer s H vs Q E hr h=>?_
 ·obtain⟨ρ,M,ds,c,j,g⟩:=h;rw[c.len];exact (bh.aG g).1
 obtain⟨ρ,M,ds,c,j,g⟩:=h;exact⟨_,(hbody f cdv A outer s H E hr).h,ρ,_,M,lJ c,j,(bh.aG g).2⟩
theorem MethAt.okD(T:MethAt K C x qual st)(m:mg c=some (.ref C))(cl:L2.Cls K C)(S:FnScope N ps (defScope st))
  (hbody:∀(f:Addr) (cdv:Value) (A:Around) (outer:List Env) (s:Shared) (H:Hp) (E:XK),Room k (A.deeper (envOfC qual (defScope st) s.heap.objs.size f cdv))->
    DSs (jm P w K mg base N qual (defScope st) f cdv A outer s H E) E (defBody st) fb):MethD P w K mg base (k+1) c x qual st ps (aG ps.length N.length fb):=by
 obtain⟨f,fd,F,a,n⟩:=T.ex;exact⟨C,f,fd,m,Qh F S hbody,F,a,n,cl⟩
theorem PJ(is:List Int):Cvs mg ρ H (is.map V.int) (is.map D.int):=Cvs.ints is
theorem DefAt.okK(T:DefAt K mg x st)(S:FnScope N ps (defScope st))
  (hbody:∀(f:Addr) (cdv:Value) (A:Around) (outer:List Env) (s:Shared) (H:Hp) (E:XK),Room k (A.deeper (envOfC x (defScope st) s.heap.objs.size f cdv))->
    DSs (jm P w K mg base N x (defScope st) f cdv A outer s H E) E (defBody st) fb):DefK P w K mg base (k+1) x st ps (aG ps.length N.length fb):=by
 obtain⟨f,fd,F,m⟩:=T.ex;exact⟨f,fd,Qh F S hbody,F,m⟩
theorem Ey(n:Nat)(hn:ps.length=n+ds.length)(h:∀(S:PySem.Setting) (us:List Value),us.length=n->PySem.W.peek K S (bindArgs fd ⟨us,[]⟩)=some (ps.zip (us++ds))):Binds K fd ps ds:=λs us X hl=>
 PySem.W.kp_binds X λS=>h S us (by rw[Ww]at hl;lia)
theorem Lw:Vals ([i].map V.int) [.int i t]:=.cons ⟨t,rfl⟩ .nil
end
def xn(c m:Str):D->Mo->Option Unit
 |.obj k ns _,_=>if k=c/\ns.contains m=false then some () else none
 |.ref n,M=>match M[n]? with
   |some (.ins k ns _)=>if k=c/\ns.contains m=false then some () else none
   |_=>none
 |_,_=>none
theorem vA:∀ (ns:List Str) (xs:List α),ns.contains m=false->(ns.zip xs).lookup m=none
 |[],_,_=>rfl
 |n::ns,[],_=>rfl
 |n::ns,x::xs,h=>by rw[List.contains_cons,Bool.or_eq_false_iff]at h;rw[Y7,Yk,h.1];exact vA ns xs h.2
set_option tactic.hygienic true in
theorem Do(mc:mg c=some (.ref C))(j:J mg ρ M H)(cv:Cv mg ρ H v d)(e:xn c m d M=some u):∃ a dx fs,v=.ref a/\H a=some (.ins C dx fs)/\fs.lookup m=none:=by
 unfold xn at e;split at e
 ·split at e
  ·rename_i hk;obtain⟨rfl,hn⟩:=hk;cases cv with
   |obj n m' h l cs=>rw[mc]at m';cases m';exact⟨_,_,_,rfl,h,vA _ _ hn⟩
  ·cases e
 ·split at e
  ·rename_i hm;split at e
   ·rename_i hk;obtain⟨rfl,hn⟩:=hk;cases cv with
    |ref h=>obtain⟨C',dx',xs,m',hx,l,cs⟩:=j.obj _ _ _ h hm;rw[mc]at m';cases m';exact⟨_,_,_,rfl,hx,vA _ _ hn⟩
   ·cases e
  ·cases e
 ·cases e
structure DKw(X:Cx)(E:XK)(kws:List Keyword)(f:ak->DM (List D)):Prop where
 h:PK X kws (tD X.mg E (Cvs X.mg) f)
theorem PK.mono(h:PK X e t)(f:∀σ H Q,t' σ H Q->t σ H Q):PK X e t':=λp aaD s σ H Q I q=>h p aaD s σ H Q I (f σ H Q q)
section
variable{X:Cx}{E:XK}{j k:Nat}{ps:List Str}{F:List D->DM D}{c m x qual:Str}{st:Stmt}{p pos apos kpos:Pos}{a e o:Expr}{es:List Expr}{fa fo:ak->DM D}{fs fk:ak->DM (List D)}{kws:List Keyword}{nm:Option Str}{ks:List Str}
theorem gJ:DKw X E [] (λz=>pure []):=⟨PK.mono pk_nil λσ H Q h=>by obtain⟨ρ,δ,M,ev,j,g⟩:=h;exact g.pure ρ H [] .refl j .nil⟩
theorem pH(ha:DE X E a fa)(hr:DKw X E kws fs):DKw X E (⟨nm,a,kpos⟩::kws) (λδ=>fa δ>>=λx=>fs δ>>=λxs=>pure (x::xs)):=⟨PK.mono (pk_cons ha.h hr.h) λσ H Q h=>by obtain⟨ρ,δ,M,ev,j,g1⟩:=h;exact⟨ρ,δ,M,ev,j,g1.bind λρ1 H1 M1 x dx e1 j1 c1 g2=>⟨ρ1,δ,M1,ev.mono e1,j1,g2.bind λρ2 H2 M2 xs dxs e2 j2 c2 g3=>g3.pure ρ2 H2 _ .refl j2 (.cons (c1.mono e2) c2)⟩⟩⟩
def gK{α:Type}(n:Nat)(us ws:List α):List α:=if ws.length=n then us++ws else []
set_option tactic.hygienic true in
theorem Ii{K:PySem.W.Frag}{f:Addr}{fd:FuncData}(B:Fun K x qual st f fd)(h0:0<ps.length)
  (hb:∀(kV doc pm:Value) (an:Option Addr) (cdv ct:Value) (us ws:List Value),ws.length=ks.length->us.length+ks.length=ps.length->bindArgs (PySem.W.fnOf x qual (defArgs st) (defBody st) (defScope st) .none kV doc pm an cdv ct) ⟨us,ks.zip ws⟩=pure (ps.zip (us++ws))):KBinds K fd ps ks (gK ks.length) (gK ks.length):=by
 obtain⟨oc,od,kV,doc,pm,an,cdv,ct,osl,rfl,lk,hcd⟩:=B.ex;refine⟨λs us ws z hl=>?_,λr r'=>?_⟩
 ·unfold gK at hl ⊢
  split at hl
  ·rename_i hw;rw[Wm hw];rw[Ww]at hl;exact .of_eq (hb kV doc pm an cdv ct us ws hw (by lia))
  ·simp at hl;lia
 ·unfold gK;rw[r'.length];split
  ·exact r.append r'
  ·exact .nil
set_option tactic.hygienic true in
theorem lG(T:DefK X.prog X.w X.K X.mg X.base j x st ps F)(hr:Room k X.A)(hx:Passes (dG X.prog X.w) X E)(ha:DA X E (e::es) fs)(hkw:DKw X E kws fk)
  (hb:∀(kV doc pm:Value) (an:Option Addr) (cdv ct:Value) (us ws:List Value),ws.length=ks.length->us.length+ks.length=ps.length->bindArgs (PySem.W.fnOf x x (defArgs st) (defBody st) (defScope st) .none kV doc pm an cdv ct) ⟨us,ks.zip ws⟩=pure (ps.zip (us++ws)))
  (hjk:j<=k:=by decide) (h0:0<ps.length:=by decide) (hg:Gl X x:=by rfl) (hall:(backToKw pos (keywordEach kws X.env)).all (·.1.isSome)=true:=by rfl) (hks:(backToKw pos (keywordEach kws X.env)).filterMap (·.1)=ks:=by rfl)
  (hdb:(x==("__debug__":Str))=false:=by decide) (he:notStar e=true:=by rfl)
  (hpl:((backTo pos (starEach (e::es) X.env)).any (·.1) || (backToKw pos (keywordEach kws X.env)).any (·.1.isNone))=false:=by rfl) :
  DE X E (.Call (.Name x p) (e::es) kws pos) (λδ=>fs δ>>=λds=>fk δ>>=λdk=>if dk.length=ks.length then F (ds++dk) else stuck):=by
 obtain⟨f,fd,G,B,m⟩:=T.ex;refine⟨PE.mono (pe_callK G (hr.mono hjk) hg m B.kp (Ii B h0 hb) hx ha.h.h hkw.h hall hks hdb (aW he) hpl) λσ H Q h=>?_⟩
 obtain⟨ρ,δ,M,ev,j,g1⟩:=h;refine⟨ρ,δ,M,ev,j,g1.bind λρ1 H1 M1 xs dxs e1 j1 c1 g2=>⟨ρ1,δ,M1,ev.mono e1,j1,g2.bind λρ2 H2 M2 zs dzs e2 j2 c2 g3=>?_⟩⟩
 split at g3
 ·rename_i hl;unfold gK;rw[Wm (by rw[c2.len];exact hl)]
  exact⟨ρ2,M2,dxs++dzs,(c1.mono e2).append c2,j2,g3⟩
 ·obtain⟨r,e,_⟩:=g3;cases e
theorem Kq(T:DefF X.prog X.w X.K X.mg X.base j x ps ds F)(hr:Room k X.A)(hx:Passes (dG X.prog X.w) X E)(ha:DA X E (e::es) fs)
  (hjk:j<=k:=by decide) (hg:Gl X x:=by rfl) (hdb:(x==("__debug__":Str))=false:=by decide) (he:notStar e=true:=by rfl) (hpl:(backTo pos (starEach es X.env)).any (·.1)=false:=by rfl) :
  DE X E (.Call (.Name x p) (e::es) [] pos) (λδ=>fs δ>>=λl=>F (l++ds)):=by
 obtain⟨f,fd,vs,us,G,kp,m,b,v,cd⟩:=T.ex;refine⟨PE.mono (pe_call G (hr.mono hjk) hg m kp b v hx ha.h.h hdb (aW he) hpl) λσ H Q h=>?_⟩
 obtain⟨ρ,δ,M,ev,j,g1⟩:=h;exact⟨ρ,δ,M,ev,j,g1.bind λρ1 H1 M1 xs dxs e1 j1 c1 g2=>⟨ρ1,M1,dxs++ds,c1.append (cd _ _),j1,g2⟩⟩
theorem Nj(T:MethD X.prog X.w X.K X.mg X.base j c m qual st ps F)(hr:Room k X.A)(hx:Passes (dG X.prog X.w) X E)(ho:DE X E o fo)(ha:DA X E (e::es) fs)
  (hb:∀(kV doc pm:Value) (an:Option Addr) (cdv ct:Value) (us:List Value),us.length=ps.length->bindArgs (PySem.W.fnOf m qual (defArgs st) (defBody st) (defScope st) .none kV doc pm an cdv ct) ⟨us,[]⟩=pure (ps.zip us))
  (hjk:j<=k:=by decide) (he:notStar e=true:=by rfl) (hpl:(backTo pos (starEach es X.env)).any (·.1)=false:=by rfl)
  (ht:eval (.Call (.Attribute o m apos) (e::es) [] pos) X.env=(do
    let ov <-eval o X.env
    standAt apos.atName
    let (f,first) <-holding [ov] (getMethod ov m pl)
    callWith pos f first (backTo pos (starEach (e::es) X.env)) (backToKw pos (keywordEach [] X.env))):=by rfl) :
  DE X E (.Call (.Attribute o m apos) (e::es) [] pos) (λδ=>fo δ>>=λx=>rd (xn c m x)>>=λz=>fs δ>>=λds=>F (x::ds)):=by
 obtain⟨C,f,fd,mc,G,B,a,n,cl⟩:=T.ex;refine⟨PE.mono (pe_meth (pl:=pl) ho.h cl ⟨a,n,B.kp⟩ G (hr.mono hjk) (B.binds hb) .nil hx ha.h.h (aW he) hpl ht) λσ H Q h=>?_⟩
 obtain⟨ρ,δ,M,ev,j,g1⟩:=h;refine⟨ρ,δ,M,ev,j,g1.bind λρ1 H1 M1 x dx e1 j1 c1 g2=>?_⟩
 obtain⟨u,eu,g3⟩:=Go.rdb g2;obtain⟨a',dx',fs',ex,hx',hl'⟩:=Do mc j1 c1 eu;refine⟨a',dx',fs',ex,hx',hl',ρ1,δ,M1,ev.mono e1,j1,g3.bind λρ2 H2 M2 xs dxs e2 j2 c2 g4=>?_⟩
 rw[Yo];exact⟨ρ2,M2,dx::dxs,.cons (c1.mono e2) c2,j2,g4⟩
def R5(C:Addr)(m:Str)(sp:Sp)(gV:List V->List V->List V)(E:XK)(ta:TE)(t tk:TA):TE:=λσ H Q=>ta σ H λx H1=>∃a dx fs,x=.ref a/\H1 a=some (.ins C dx fs)/\fs.lookup m=none /\
 t σ H1 λvs H2=>tk σ H2 λzs H3=>sp (gV (x::vs) zs) H3 Q E
theorem Lb(he:PE X o ta)(cl:L2.Cls X.K C)(hm:Meth X.K C m f)(G:FnOk X.prog X.w X.K X.mg X.base CX k f fd ps sp)(hr:Room k X.A)(hb:KBinds X.K fd ps ks g gV)(hx:Passes CX X E)(ha:PA X (e::es) t)(hkw:PK X kws tk)
  (hall:(backToKw pos (keywordEach kws X.env)).all (·.1.isSome)=true) (hks:(backToKw pos (keywordEach kws X.env)).filterMap (·.1)=ks)
  (hst:starEach (e::es) X.env=(false,eval e X.env)::starEach es X.env) (hpl:((backTo pos (starEach (e::es) X.env)).any (·.1) || (backToKw pos (keywordEach kws X.env)).any (·.1.isNone))=false)
  (ht:eval (.Call (.Attribute o m apos) (e::es) kws pos) X.env=(do
    let ov <-eval o X.env
    standAt apos.atName
    let (f,first) <-holding [ov] (getMethod ov m pl)
    callWith pos f first (backTo pos (starEach (e::es) X.env)) (backToKw pos (keywordEach kws X.env)))) :
  PE X (.Call (.Attribute o m apos) (e::es) kws pos) (R5 C m sp gV E ta t tk):=by
 intro aaD s σ H Q I h;refine Z6 (pl:=pl) (thn (he aaD s σ H _ I h) λu s1 ⟨x,H1,I1,rx,a,dx,fs,ex,ea,l,q⟩=>?_) ht
 subst ex;obtain rfl:u=Value.ref a:=rx;refine getmeth_ok I1 ea cl hm l ?_;refine PySem.W.callWith_KW (first:=[.ref a]) (h₀:=X.base) I.ok.mod.kin hm.kp hall (thn (ha pos aaD s1 σ H1 _ I1 q) λus s2 ⟨vs,H2,I2,r,q2⟩=>?_) hpl hst
 refine thn (hkw pos aaD s2 σ H2 _ I2 q2) λws s3 ⟨zs,H3,I3,rz,q3⟩=>⟨I3.kIn,?_⟩
 rw[hks];exact run_fnk (us:=.ref a::us) (vs:=.ref a::vs) G hr hb hx I3 (.cons rfl r) rz q3
set_option tactic.hygienic true in
theorem pF{pl:Sem Bool}(T:MethD X.prog X.w X.K X.mg X.base j c m qual st ps F)(hr:Room k X.A)(hx:Passes (dG X.prog X.w) X E)(ho:DE X E o fo)(ha:DA X E (e::es) fs)(hkw:DKw X E kws fk)
  (hb:∀(kV doc pm:Value) (an:Option Addr) (cdv ct:Value) (us ws:List Value),ws.length=ks.length->us.length+ks.length=ps.length->bindArgs (PySem.W.fnOf m qual (defArgs st) (defBody st) (defScope st) .none kV doc pm an cdv ct) ⟨us,ks.zip ws⟩=pure (ps.zip (us++ws)))
  (hjk:j<=k:=by decide) (h0:0<ps.length:=by decide) (hall:(backToKw pos (keywordEach kws X.env)).all (·.1.isSome)=true:=by rfl) (hks:(backToKw pos (keywordEach kws X.env)).filterMap (·.1)=ks:=by rfl)
  (he:notStar e=true:=by rfl) (hpl:((backTo pos (starEach (e::es) X.env)).any (·.1) || (backToKw pos (keywordEach kws X.env)).any (·.1.isNone))=false:=by rfl)
  (ht:eval (.Call (.Attribute o m apos) (e::es) kws pos) X.env=(do
    let ov <-eval o X.env
    standAt apos.atName
    let (f,first) <-holding [ov] (getMethod ov m pl)
    callWith pos f first (backTo pos (starEach (e::es) X.env)) (backToKw pos (keywordEach kws X.env))):=by rfl) :
  DE X E (.Call (.Attribute o m apos) (e::es) kws pos) (λδ=>fo δ>>=λx=>rd (xn c m x)>>=λz=>fs δ>>=λds=>fk δ>>=λdk=>if dk.length=ks.length then F (x::(ds++dk)) else stuck):=by
 obtain⟨C,f,fd,mc,G,B,a,n,cl⟩:=T.ex;refine⟨PE.mono (Lb (pl:=pl) ho.h cl ⟨a,n,B.kp⟩ G (hr.mono hjk) (Ii B h0 hb) hx ha.h.h hkw.h hall hks (aW he) hpl ht) λσ H Q h=>?_⟩
 obtain⟨ρ,δ,M,ev,j,g1⟩:=h;refine⟨ρ,δ,M,ev,j,g1.bind λρ1 H1 M1 x dx e1 j1 c1 g2=>?_⟩
 obtain⟨u,eu,g3⟩:=Go.rdb g2;obtain⟨a',dx',fs',ex,hx',hl'⟩:=Do mc j1 c1 eu;refine⟨a',dx',fs',ex,hx',hl',ρ1,δ,M1,ev.mono e1,j1,g3.bind λρ2 H2 M2 xs dxs e2 j2 c2 g4=>⟨ρ2,δ,M2,(ev.mono e1).mono e2,j2,g4.bind λρ3 H3 M3 zs dzs e3 j3 c3 g5=>?_⟩⟩
 split at g5
 ·rename_i hl;unfold gK;rw[Wm (by rw[c3.len];exact hl)]
  exact⟨ρ3,M3,dx::(dxs++dzs),.cons ((c1.mono e2).mono e3) ((c2.mono e3).append c3),j3,g5⟩
 ·obtain⟨r,e,_⟩:=g5;cases e
end
structure ClsD(P:Program)(w:World)(K:PySem.W.Frag)(mg:Str->Option Value)(base:Heap)(k:Nat)(c:Str)(F:List D->DM D):Prop where
 ex:∃C ps sp,MethC P w K mg base k C "__init__" ps sp/\PySem.W.makesIn K C=true/\PySem.W.keepIn K (.ref C)=true/\mg c=some (.ref C) /\
  ∀ρ M H vs ds Q E,Cvs mg ρ H vs ds->J mg ρ M H->Go mg E (Cv mg) Q ρ H (F ds) M->∀x dx,H x=none->H dx=none->dx≠x->sp (.ref x::vs) (upd (upd H dx (.own x)) x (.ins C dx [])) (λv H2=>v=.non/\Q (.ref x) H2) E
theorem iT(T:ClsD X.prog X.w X.K X.mg X.base j c F)(hr:Room k X.A)(hx:Passes (dG X.prog X.w) X E)(ha:DA X E (e::es) fs)(hjk:j+1<=k:=by decide)(hg:Gl X c:=by rfl)(hdb:(c==("__debug__":Str))=false:=by decide)
  (he:notStar e=true:=by rfl) (hpl:(backTo pos (starEach es X.env)).any (·.1)=false:=by rfl) :
  DE X E (.Call (.Name c p) (e::es) [] pos) (λδ=>fs δ>>=F):=by
 obtain⟨C,ps,sp,G,mk,kc,m,h⟩:=T.ex;refine⟨PE.mono (La G mk kc m hr hx ha.h hjk hg hdb he hpl) λσ H Q z=>?_⟩
 obtain⟨ρ,δ,M,ev,j,g1⟩:=z;refine⟨ρ,δ,M,ev,j,g1.bind λρ1 H1 M1 xs dxs e1 j1 c1 g2=>λx dx h1 h2 h3=>?_⟩
 rw[Yo];exact h ρ1 M1 H1 xs dxs Q E c1 j1 g2 x dx h1 h2 h3
section
variable{mg:Str->Option Value}{ρ:Rh}{H:Hp}{k:Nat}{M':Mo}
theorem Cvs.fz(hk:ρ.st.length=k){vs:List V}{ds:List D}(h:Cvs mg ρ H vs ds):Fzs M' k ds ds:=
 Cvs.rec (motive_1:=λz d z=>Fz M' k d d) (motive_2:=λz ds z=>Fzs M' k ds ds) .non .bl .int .str (λz z z=>.tup) (λz z z=>.lst) (λz z z z=>.dic) (λz z z z z=>.obj) (λz z=>.scr _) (λh=>.old (hk ▸ (Wf.mp h).1)) (λz=>.cls _) .ty .exn .nil (λz z=>.cons) h
theorem Cv.fz(hk:ρ.st.length=k){v:V}{d:D}(h:Cv mg ρ H v d):Fz M' k d d:=by cases Cvs.fz hk (.cons h .nil);assumption
theorem Cvs.fz_mem(hk:ρ.st.length=k){vs:List V}{ds:List D}(h:Cvs mg ρ H vs ds):∀d∈ds,Fz M' k d d:=h.ind (P:=λz ds=>∀d∈ds,Fz M' k d d) nofun λa z i d h=>(Wy.mp h).elim (λe=>e ▸ a.fz hk) (i d)
theorem H8:∀{ds:List D},(∀d∈ds,Fz M' k d d)->Fzs M' k ds ds
 |[],_=>.nil
 |d::ds,h=>.cons (h d (by simp)) (H8 λe he=>h e (by simp[he]))
theorem J.fz(j:J mg ρ M H):Uo (M++[o]) M.length M:=by
 refine⟨rfl,λn u h=>?_⟩
 have hn:=(Wf.mp h).1;refine⟨u,by rw[Ws hn];exact h,?_⟩
 have hl:n<ρ.st.length:=by rw[j.len];exact hn
 have c:=j.obj n ρ.st[n] u (Wk hl) h;cases u with
 |lst l=>obtain⟨xs,_,c⟩:=c;exact c.fz j.len
 |dic ks l=>obtain⟨xs,_,_,c⟩:=c;exact⟨rfl,c.fz j.len⟩
 |ins cc ns l=>obtain⟨C,dx,xs,_,_,_,c⟩:=c;exact⟨rfl,rfl,c.fz j.len⟩
end
def Pn(c:Str)(Fi:List D->DM D)(ds:List D)(M:Mo)(r':R D×Mo):Prop:=
 (∃ns vs,Fi (.ref M.length::ds) (M++[.ins c [] []])=some (.ok .non,M++[.ins c ns vs])/\(∀d∈vs,d∈ds\/∃i,d=.int i)/\r'=(.ok (.obj c ns vs),M)) \/
 (∃e o,Fi (.ref M.length::ds) (M++[.ins c [] []])=some (.exc e,M++[o])/\r'=(.exc e,M))
theorem UL{P:Program}{w:World}{K:PySem.W.Frag}{mg:Str->Option Value}{base:Heap}{k:Nat}{c qual:Str}{st:Stmt}{ps:List Str}{Fi F':List D->DM D}(T:MethD P w K mg base k c "__init__" qual st ps Fi)
  (hb:∀(kV doc pm:Value) (an:Option Addr) (cdv ct:Value) (us:List Value),us.length=ps.length->bindArgs (PySem.W.fnOf "__init__" qual (defArgs st) (defBody st) (defScope st) .none kV doc pm an cdv ct) ⟨us,[]⟩=pure (ps.zip us))
  (hm:∀C,mg c=some (.ref C)->PySem.W.makesIn K C=true/\PySem.W.keepIn K (.ref C)=true) (hf:∀ds M r',F' ds M=some r'->Pn c Fi ds M r'):ClsD P w K mg base k c F':=by
 obtain⟨C,f,fd,mc,G,B,a,n,cl⟩:=T.ex;refine⟨C,ps,_,⟨f,fd,G,B.binds hb,B.kp,a,n⟩,(hm C mc).1,(hm C mc).2,mc,λρ M H vs ds Q E cv j g x dx hx hdx hne=>?_⟩
 obtain⟨r',e,p⟩:=g;have hx':upd H dx (.own x) x=none:=by rw[upd_ne (λz=>hne z.symm)];exact hx
 have x1:Ext ρ H ρ (upd H dx (.own x)):=.lay hdx;have j1:=j.lay (.own x) hdx;have x2:Ext ρ (upd H dx (.own x)) (ρ.put x) (upd (upd H dx (.own x)) x (.ins C dx [])):=.put hx';have j2:J mg (ρ.put x) (M++[.ins c [] []]) (upd (upd H dx (.own x)) x (.ins C dx [])):=j1.put hx' ⟨C,dx,[],mc,upd_same,rfl,.nil⟩;have hput:(ρ.put x).st[M.length]?=some x:=by show (ρ.st++[x])[M.length]?=some x;rw[<-j.len,Xc (Wg _)];simp
 refine⟨ρ.put x,M++[.ins c [] []],.ref M.length::ds,.cons (.ref hput) (cv.mono (x1.trans x2)),j2,?_⟩;have sb:∀{ρ2 H2},Ext (ρ.put x) (upd (upd H dx (.own x)) x (.ins C dx [])) ρ2 H2->Sub ρ ρ2 M.length:=λ{ρ2 H2} y=>by obtain⟨τ,ht⟩:=y.pre;exact⟨⟨[x]++τ,by rw[ht];show (ρ.st++[x])++τ=_;simp⟩,y.vo,j.len⟩
 have ex:∀{ρ2 H2},Ext (ρ.put x) (upd (upd H dx (.own x)) x (.ins C dx [])) ρ2 H2->Ext ρ H ρ H2:=λ{ρ2 H2} y=>⟨⟨[],by simp⟩,rfl,λa h n=>absurd h n,λb o hb hn=>y.keep b o (by
  have nx:b≠x:=ne_of_none hb hx;have ndx:b≠dx:=ne_of_none hb hdx;rw[upd_ne nx,upd_ne ndx];exact hb) (λz=>by
  rcases W5.mp z with z | z
  ·exact hn z
  ·exact ne_of_none hb hx (W2.mp z))⟩
 rcases hf ds M r' e with ⟨ns,vs',e2,hv,rfl⟩ | ⟨er,o,e2,rfl⟩
 ·refine⟨_,e2,λρ2 H2 b y j3 cb=>?_⟩
  cases cb;refine⟨rfl,p ρ H2 (.ref x) (ex y) (j3.freeze (sb y) j.len j.fz) ?_⟩;have h3:ρ2.st[M.length]?=some x:=y.at hput;obtain⟨C',dx',xs,m',hx3,l,cs⟩:=j3.obj M.length x (.ins c ns vs') h3 (by simp)
  refine .obj (j.fresh hx) m' hx3 l (Cvs.freeze (sb y) j3 (H8 λd hd=>?_) cs)
  rcases hv d hd with h | ⟨i,rfl⟩
  ·exact cv.fz_mem j.len d h
  ·exact .int i
 ·refine⟨_,e2,λρ2 H2 C2 y j3 m2=>?_⟩
  exact p ρ H2 C2 (ex y) (j3.freeze (sb y) j.len j.fz) m2
end L3
namespace L3
open PySem PySem.Spec L2
theorem yD:∀ {l:List D}{ns:List Int},intsOf l=some ns->l=ns.map D.int
 |[],ns,e=>by cases e;rfl
 | d::l,ns,e=>by
   cases d with
   |int i=>simp only[intsOf,Option.map_eq_some_iff]at e;obtain⟨ms,h,rfl⟩:=e;rw[yD h];rfl
   |_=>simp[intsOf]at e
theorem zW:∀ {ns:List Int}{xs:List V},Cvs mg ρ H xs (ns.map D.int)->xs=ns.map V.int
 |[],_,.nil=>rfl
 |n::ns,_,.cons a t=>by cases a;rw[zW t];rfl
theorem cP(h:l.length=1):∃a,l=[a]:=match l,h with | [a],_=>⟨a,rfl⟩
theorem jH(h:l.length=2):∃a b,l=[a,b]:=match l,h with | [a,b],_=>⟨a,b,rfl⟩
theorem QC(h:l.length=3):∃a b c,l=[a,b,c]:=match l,h with | [a,b,c],_=>⟨a,b,c,rfl⟩
theorem QD(h:l.length=4):∃a b c d,l=[a,b,c,d]:=match l,h with | [a,b,c,d],_=>⟨a,b,c,d,rfl⟩
def Fd:D->DM D
 |.int n=>if 0<=n/\n<2^63 then pure (.int n) else stuck
 |_=>stuck
def Al(c:Str)(F:List D->DM D):List D->DM D
 |[.obj k ns vs]=>if k=c then F [.obj k ns vs]>>=Fd else stuck
 |l=>rd (gY l)
set_option tactic.hygienic true in
theorem bZ(T:MethD X.prog X.w X.K X.mg X.base j c "__len__" qual st ps F)(hr:Room k X.A)(hx:Passes (dG X.prog X.w) X E)
  (hb:∀(kV doc pm:Value) (an:Option Addr) (cdv ct:Value) (us:List Value),us.length=ps.length->bindArgs (PySem.W.fnOf "__len__" qual (defArgs st) (defBody st) (defScope st) .none kV doc pm an cdv ct) ⟨us,[]⟩=pure (ps.zip us))
  (hjk:j+1<=k:=by decide):CallD X E (.builtin "len") (Al c F):=by
 obtain⟨C,f,fd,mc,G,B,a,n,cl⟩:=T.ex;have MC:MethC X.prog X.w X.K X.mg X.base j C "__len__" ps (yM X.mg F):=⟨f,fd,G,B.binds hb,B.kp,a,n⟩;intro aaD s σ H vs us Q I rs q;obtain⟨ρ,M,ds,j,cv,go⟩:=q;unfold Al at go;split at go
 ·rename_i k' ns ws;split at go
  ·rename_i hk;subst hk;obtain⟨v,rfl,kv⟩:=cv.one;cases kv with
   | obj hn m hh hl cs=>
     rw[mc]at m;cases m;refine Hv MC (hr.mono hjk) hx aaD s σ H _ us Q I rs ⟨_,_,_,rfl,hh,ρ,M,_,cv,j,go.bind λρ1 H1 M1 b d e1 j1 c1 g2=>?_⟩
     unfold Fd at g2;split at g2
     ·split at g2
      ·rename_i hn2;cases c1;exact⟨_,rfl,hn2,g2.pure ρ1 H1 _ .refl j1 (.int _)⟩
      ·obtain⟨r,e,_⟩:=g2;cases e
     ·obtain⟨r,e,_⟩:=g2;cases e
  ·obtain⟨r,e,_⟩:=go;cases e
 ·exact call_lenD aaD s σ H vs us Q I rs ⟨ρ,M,_,j,cv,go⟩
end L3
namespace L2
open PySem PySem.Spec PyProof.Rows
end L2
namespace L3
open PySem PySem.Spec L2
end L3
namespace L2
open PySem PySem.Spec PyProof.Rows
end L2
namespace L3
open PySem PySem.Spec L2
def S7(i j k:Nat)(fa:ak->DM (List D)):ak->DM Fl:=λδ=>fa δ>>=λl=>match l with
 |[v,w,z]=>pure (.nx (((δ.set i (some v)).set j (some w)).set k (some z)))
 |_=>stuck
@[simp] theorem VP(i j k:Nat)(fa:ak->DM (List D))(δ:ak):S7 i j k fa δ=fa δ>>=λl=>match l with
 |[v,w,z]=>Pure.pure (.nx (((δ.set i (some v)).set j (some w)).set k (some z)))
 |_=>stuck:=id rfl
end L3
namespace N10
theorem lg(c:Nat):∀(f:List Nat),(f.map (c * ·)).sum=c*f.sum
 |[]=>rfl
 |a::f=>by simp only[List.map_cons,List.sum_cons,lg c f,Nat.mul_add]
def pl(a b:Nat):Nat×Nat:=(a / Nat.gcd a b,b / Nat.gcd a b)
theorem wy(h:0<c)(a b:Nat):pl (c*a) (c*b)=pl a b:=by unfold pl;rw[Nat.gcd_mul_left,Nat.mul_div_mul_left _ _ h,Nat.mul_div_mul_left _ _ h]
def cH(l:List Nat):Nat:=l.foldl Nat.gcd 0
theorem yz(b:Nat):∀(ms:List Nat) (g:Nat),(ms.map (b * ·)).foldl Nat.gcd (b*g)=b*ms.foldl Nat.gcd g
 |[],g=>rfl
 |m::ms,g=>by rw[W0,aac,aac,Nat.gcd_mul_left,yz b ms]
theorem uW(b:Nat)(ms:List Nat):cH (ms.map (b * ·))=b*cH ms:=yz b ms 0
theorem q9:∀ (ms:List Nat) (g:Nat),ms.foldl Nat.gcd g ∣ g/\∀ m∈ms,ms.foldl Nat.gcd g ∣ m
 |[],g=>⟨Nat.dvd_refl _,by simp⟩
 |m::ms,g=>by
   have:=q9 ms (Nat.gcd g m);rw[aac];refine⟨Zm this.1 (Z0 _ _),λx hx=>?_⟩
   rcases Wy.mp hx with rfl | hx
   ·exact Zm this.1 (ZQ _ _)
   ·exact this.2 x hx
theorem lL(h:m∈ms):cH ms ∣ m:=(q9 ms 0).2 m h
theorem pJ(h:0<ms.sum):0<cH ms:=by
 rcases Yl (cH ms) with e | e
 ·have:∀m∈ms,m=0:=λm hm=>by have:=lL hm;rw[e]at this;exact Nat.eq_zero_of_zero_dvd this
  have:ms.sum=0:=by
   clear h e;induction ms with
   |nil=>rfl
   |cons a l ih=>rw[Yv,this a (by simp),ih λm hm=>this m (by simp[hm])]
  lia
 ·exact e
def lst(l:List Nat):List Nat:=l.map (·/ cH l)
theorem K3(l:List Nat):l=(lst l).map (cH l * ·):=by
 unfold lst;rw[Xd]
 conv=>lhs;rw[<-List.map_id l]
 refine Xx λm hm=>?_
 show m=cH l*(m / cH l);rw[XS (lL hm)]
def S:Nat->(Nat->Nat)->Nat
 |0,_=>0
 |n+1,f=>S n f+f n
def up(f:Nat->Nat)(x v:Nat):Nat->Nat:=λi=>if i=x then v else f i
theorem Ep(f:Nat->Nat)(x v:Nat):up f x v x=v:=by simp[up]
theorem Gy(h:i≠x):up f x v i=f i:=by simp[up,h]
theorem bB:∀ {n:Nat},(∀ i,i<n->f i=g i)->S n f=S n g
 |0,_=>rfl
 |n+1,h=>by show S n f+f n=S n g+g n;rw[bB λi hi=>h i (by lia),h n (by lia)]
theorem J9:∀ {n:Nat},x<n->S n (up f x v) + f x=S n f + v
 | n + 1,h=>by
   show S n (up f x v)+up f x v n+f x=S n f+f n+v;by_cases e:x=n
   ·subst e;rw[Ep,bB (g:=f) λi hi=>Gy (by lia)];lia
   ·have:=J9 (f:=f) (v:=v) (n:=n) (x:=x) (by lia)
    rw[Gy (Ne.symm e)];lia
theorem zL:∀{n:Nat},(∀i,i<n->f i<=g i)->S n f<=S n g
 |0,_=>Wg _
 |n+1,h=>Nat.add_le_add (zL λi hi=>h i (by lia)) (h n (by lia))
theorem qU:∀ {n:Nat},(∀ i,i<n->f i=0)->S n f=0
 |0,_=>rfl
 |n+1,h=>by show S n f+f n=0;rw[qU λi hi=>h i (by lia),h n (by lia)]
theorem tE(f g:Nat->Nat):∀ n:Nat,S n (λi=>f i + g i)=S n f + S n g
 |0=>rfl
 |n+1=>by show S n _+(f n+g n)=(S n f+f n)+(S n g+g n);rw[tE f g n];lia
theorem Hm(A:Nat->Nat->Nat)(m:Nat):∀ n:Nat,S n (λx=>S m (A x))=S m (λy=>S n (λx=>A x y))
 |0=>(qU λi z=>rfl).symm
 |n+1=>by
   show S n (λx=>S m (A x))+S m (A n)=S m (λy=>S n (λx=>A x y)+A n y)
   rw[Hm A m n,tE]
theorem jl(f:Nat->Nat):∀ n:Nat,((List.range n).map f).sum=S n f
 |0=>rfl
 |n+1=>by
   rw[Z9,XN,List.sum_append,jl f n];show S n f+(f n+0)=S n f+f n
   lia
structure G where
 A:Nat->Nat->Nat
 L:Nat->Nat
 W:Nat->Nat
end N10
namespace L3
open PySem PySem.Spec L2
def nM(R:List (List Nat)):D:=.tup (R.map nT)
def ga(l:List Nat)(i:Nat):Nat:=l.getD i 0
def gr(R:List (List Nat))(i:Nat):List Nat:=R.getD i []
theorem jx(h:i<l.length):ga l i∈l:=by unfold ga;rw[WQ,Wk h];exact Yh _
theorem gr_mem{R:List (List Nat)}{i:Nat}(h:i<R.length):gr R i∈R:=by unfold gr;rw[WQ,Wk h];exact Yh _
theorem oF(h:l.length<=i):ga l i=0:=by unfold ga;rw[WQ,Xn h];rfl
theorem bC(h:i<l.length):ga l i=l[i]:=by unfold ga;rw[WQ,Wk h];rfl
theorem eY{R:List (List Nat)}{i:Nat}(h:i<R.length):gr R i=R[i]:=by unfold gr;rw[WQ,Wk h];rfl
theorem QS(h:nD a=nD b):a=b:=by
 have:=D.int.inj h
 lia
theorem QX(h:nT a=nT b):a=b:=(ZC λz z=>QS).mp (D.tup.inj h)
theorem QV(h:nM a=nM b):a=b:=(ZC λz z=>QX).mp (D.tup.inj h)
theorem Il{α:Type}{ft:ak->DM Bool}{fe:ak->DM D}{rest:ak}(enc:α->D)(p:α->Bool)(e:α->D):∀ (as:List α) (x:Option D) (l:List D),l.length + as.length<=1000000->(∀ a∈as,ft (some (enc a)::rest)=Pure.pure (p a))->(∀ a∈as,p a=true->fe (some (enc a)::rest)=Pure.pure (e a))->
  bx (gN 0) ft (bH fe) (as.map enc) (x::rest) l=Pure.pure (pM x (as.map enc)::rest,l++(as.filter p).map e)
 |[],x,l,_,_,_=>by simp[bx,pM]
 | d::ds,x,l,hl,h1,h2=>by
   have b:=h1 d (Xg ..);have hl':l.length+(ds.length+1)<=1000000:=by simpa using hl
   have lt:l.length<sizeLine:=by show l.length<2^24;lia
   have ih:=λl' hl'=>Il (rest:=rest) enc p e ds (some (enc d)) l' hl' (λx hx=>h1 x (W4 _ hx)) (λx hx=>h2 x (W4 _ hx))
   by_cases hp:p d=true
   ·have c:=h2 d (Xg ..) hp;have q:=ih (l++[e d]) (by simp;lia)
    simp[bx,b,hp,bH,c,lt,q,pM]
   ·have q:=ih l (by lia)
    simp[bx,b,hp,q,pM]
theorem aZ{α:Type}{ft:ak->DM Bool}{fe:ak->DM D}{x:Option D}{rest:ak}{as:List α}(enc:α->D)(p:α->Bool)(e:α->D)(hl:as.length<=1000000)(h1:∀a∈as,ft (some (enc a)::rest)=Pure.pure (p a))(h2:∀a∈as,p a=true->fe (some (enc a)::rest)=Pure.pure (e a)):
  dq (bx (gN 0) ft (bH fe) (as.map enc) (x::rest) [])=Pure.pure (pM x (as.map enc)::rest,(as.filter p).map e):=by
 rw[Il enc p e as x [] (by simpa using hl) h1 h2];simp
theorem cG{α:Type}{fe:ak->DM D}{x:Option D}{rest:ak}{as:List α}(enc:α->D)(e:α->D)(hl:as.length<=1000000)(h2:∀a∈as,fe (some (enc a)::rest)=Pure.pure (e a)):
  dq (bx (gN 0) (λz=>Pure.pure true) (bH fe) (as.map enc) (x::rest) [])=Pure.pure (pM x (as.map enc)::rest,as.map e):=by
 rw[aZ enc (λz=>true) e hl (λz z=>rfl) λa ha z=>h2 a ha,Yy.mpr (λz z=>rfl)]
theorem Im{α β:Type}{fe:ak->DM D}{rest:ak}(enc:α->D)(enc':β->D)(e:α->β->D):∀ (as:List α) (bs:List β) (x y:Option D) (l:List D),l.length + as.length<=1000000->(∀ a∈as,∀ b∈bs,fe (some (enc a)::some (enc' b)::rest)=Pure.pure (e a b))->
  bx (gT 2 (bY (gN 0) (bY (gN 1) fX))) (λz=>Pure.pure true) (bH fe) (pairs (as.map enc) (bs.map enc')) (x::y::rest) l=Pure.pure (tV x y (as.map enc) (bs.map enc')++rest,l++List.zipWith e as bs)
 |[],bs,x,y,l,_,_=>by simp[bx,tV,pairs]
 |a::as,[],x,y,l,_,_=>by simp[bx,tV,pairs]
 |a::as,b::bs,x,y,l,hl,h=>by
   have c:=h a (by simp) b (by simp)
   have hl':l.length+(as.length+1)<=1000000:=by simpa using hl
   have lt:l.length<sizeLine:=by show l.length<2^24;lia
   have ih:=Im (rest:=rest) enc enc' e as bs (some (enc a)) (some (enc' b)) (l++[e a b]) (by simp;lia) (λa ha b hb=>h a (by simp[ha]) b (by simp[hb]))
   simp[bx,pairs,bH,c,lt,ih,tV]
theorem PB{α β:Type}{fe:ak->DM D}{x y:Option D}{rest:ak}{as:List α}{bs:List β}(enc:α->D)(enc':β->D)(e:α->β->D)(hl:as.length<=1000000)(h:∀a∈as,∀b∈bs,fe (some (enc a)::some (enc' b)::rest)=Pure.pure (e a b)):
  dq (bx (gT 2 (bY (gN 0) (bY (gN 1) fX))) (λz=>Pure.pure true) (bH fe) (pairs (as.map enc) (bs.map enc')) (x::y::rest) [])=Pure.pure (tV x y (as.map enc) (bs.map enc')++rest,List.zipWith e as bs):=by
 rw[Im enc enc' e as bs x y [] (by simpa using hl) h];simp
theorem Js(h0:0<b)(h:b<2^1000):(rd (gU (nD a) (nD b)):DM D)=Pure.pure (nD (a / b)):=by unfold nD;rw[Bq (Nq (by lia) (by simpa using h)),Int.natCast_ediv]
theorem oW(h:b<2^64):(rd (lN (nD a) (nD b)):DM D)=Pure.pure (nD (a*b)):=by unfold nD;rw[Gj (Ob (by simpa using h)),Yp]
theorem jA(a b:Nat):(rd (dU (nD a) (nD b)):DM D)=Pure.pure (nD (a+b)):=by unfold nD;rw[Tg,Int.natCast_add]
theorem xM(a:Nat):(rd (dU (nD a) (.int 1)):DM D)=Pure.pure (nD (a+1)):=jA a 1
theorem Jq(a:Nat):(rd (dU (.int 1) (nD a)):DM D)=Pure.pure (nD (a+1)):=by rw[Nat.add_comm];exact jA 1 a
theorem Ry(h:b<=a):(rd (Lp (nD a) (nD b)):DM D)=Pure.pure (nD (a-b)):=by
 unfold nD;rw[Gk];have:(a:Int)-(b:Int)=((a-b:Nat):Int):=by lia
 rw[this]
theorem oR(a b:Nat):(rd (iM (nD a) (nD b)):DM D)=Pure.pure (.bl (decide (a=b))):=by
 unfold nD;rw[Mv];have:decide ((a:Int)=(b:Int))=decide (a=b):=by rw[WY,XF,XF];lia
 rw[this]
theorem Bw(a b:Nat):(rd (mY (nD a) (nD b)):DM D)=Pure.pure (.bl (!decide (a=b))):=by
 unfold nD;rw[Tp];have:decide ((a:Int)=(b:Int))=decide (a=b):=by rw[WY,XF,XF];lia
 rw[this]
theorem Bu(a b:Nat):(rd (Ml (nD a) (nD b)):DM D)=Pure.pure (.bl (decide (a<b))):=by
 unfold nD;rw[U9];have:decide ((a:Int)<(b:Int))=decide (a<b):=by rw[WY];simp
 rw[this]
theorem rP(a b:Nat):(rd (yF (nD a) (nD b)):DM D)=Pure.pure (.bl (decide (a<=b))):=by
 unfold nD;rw[U8];have:decide ((a:Int)<=(b:Int))=decide (a<=b):=by rw[WY];simp
 rw[this]
theorem Ju(a b:Nat):(rd (Dn (nD a) (nD b)):DM D)=Pure.pure (.bl (decide (b<a))):=by
 unfold nD;rw[U7];have:decide ((b:Int)<(a:Int))=decide (b<a):=by rw[WY];simp
 rw[this]
theorem Br(a b:Nat):(rd (Dm (nD a) (nD b)):DM D)=Pure.pure (.bl (decide (b<=a))):=by
 unfold nD;rw[U6];have:decide ((b:Int)<=(a:Int))=decide (b<=a):=by rw[WY];simp
 rw[this]
theorem kW(h:0<b):(rd (pN (nD a) (nD b)):DM D)=Pure.pure (nD (a%b)):=Jy h
theorem Bt(l:List Nat):(rd (gY [nT l]):DM D)=Pure.pure (nD l.length):=by simp[nT,nD]
theorem oU(R:List (List Nat)):(rd (gY [nM R]):DM D)=Pure.pure (nD R.length):=by simp[nM,nD]
theorem Th(l:List D):(rd (lM [.tup l,.ty "tuple"]):DM D)=Pure.pure (.bl true):=uf (t := "tuple") (λz=>rfl) (by decide)
theorem Jv(R:List (List Nat)):(rd (lM [nM R,.ty "tuple"]):DM D)=Pure.pure (.bl true):=Th _
theorem dD(h:n<2^62):rR [nD n]=some (.fix ((List.range n).map nD)):=wI h
theorem wG(l:List Nat):mJ (nT l)=some (.fix (l.map nD)):=rfl
theorem rO(R:List (List Nat)):mJ (nM R)=some (.fix (R.map nT)):=rfl
theorem wF(l:List D):(rd (xZ (.lst l)):DM Itn)=Pure.pure (.fix l):=rfl
theorem Ot(l:List Nat)(R:List (List Nat)):sY [nT l,nM R]=some (.fix (pairs (l.map nD) (R.map nT))):=rfl
theorem dB(h:i<l.length):(rd (dm (nT l) (nD i)):DM D)=Pure.pure (nD (ga l i)):=Ti (by unfold ga;rw[WQ,Wk h];rfl)
theorem wH{R:List (List Nat)}{i:Nat}(h:i<R.length):(rd (dm (nM R) (nD i)):DM D)=Pure.pure (nT (gr R i)):=Gh (by unfold gr;rw[Wn,WQ,Wk h];rfl)
theorem Jx{R:List (List Nat)}(h:0<R.length):(rd (dm (nM R) (.int 0)):DM D)=Pure.pure (nT (gr R 0)):=wH h
theorem Cg:∀ R:List (List Nat),fB (R.map nT)=some (R.map λl=>PyData.tuple (l.map λn:Nat=>PyData.int (n:Int)))
 |[]=>rfl
 | l::R=>by
   have e:toPy (nT l)=some (PyData.tuple (l.map λn:Nat=>PyData.int (n:Int))):=by rw[oG];simp only[toPy,iD,Option.map_some];rw[Xd];rfl
   simp only[List.map_cons,fB,e,Cg R]
theorem zX:∀ R:List (List Nat),PyData.depthAll (R.map λl=>PyData.tuple (l.map λn:Nat=>PyData.int (n:Int)))<=2
 |[]=>by simp[PyData.depthAll]
 |l::R=>by
   have:=zX R;have h:=gF (l.map λn:Nat=>(n:Int))
   rw[Xd]at h;have h':PyData.depthAll (l.map λn:Nat=>PyData.int (n:Int))<=1:=h
   simp only[List.map_cons,PyData.depthAll,PyData.depth]
   lia
theorem Qf(a b:List (List Nat))(ha:a.length<=1000000):(rd (mY (nM a) (nM b)):DM D)=Pure.pure (.bl (!decide (a=b))):=cJ λM=>by
 have d:=zX a;have key:∀ a b:List (List Nat),PyData.eqvAll (a.map λl=>PyData.tuple (l.map λn:Nat=>PyData.int (n:Int))) (b.map λl=>PyData.tuple (l.map λn:Nat=>PyData.int (n:Int)))=decide (a=b):=by
  intro a;induction a with
  |nil=>intro b;cases b<;>simp[PyData.eqvAll]
  | cons x a ih=>
    intro b;cases b with
    |nil=>simp[PyData.eqvAll]
    | cons y b=>
      have e:=ju (x.map λn:Nat=>(n:Int)) (y.map λn:Nat=>(n:Int))
      rw[Xd,Xd]at e;have e':PyData.eqvAll (x.map λn:Nat=>PyData.int (n:Int)) (y.map λn:Nat=>PyData.int (n:Int))=decide (x=y):=by refine Eq.trans e ?_;rw[WY,XF,XF];exact lE
      simp only[List.map_cons,PyData.eqvAll,PyData.eqv,e',ih b];by_cases h:x=y<;>by_cases h2:a=b<;>simp[h,h2]
 have lay:∀ a:List (List Nat),PyData.canLayAll0 (a.map λl=>PyData.tuple (l.map λn:Nat=>PyData.int (n:Int)))=true:=by
  intro a;induction a with
  |nil=>rfl
  |cons x a ih=>
    have e:=lay_ints (x.map λn:Nat=>(n:Int))
    rw[Xd]at e;have e':PyData.canLayAll0 (x.map λn:Nat=>PyData.int (n:Int))=true:=e
    simp[PyData.canLayAll0,PyData.canLay0,e',ih]
 unfold nM;simp only[mY,L3.eqB,eqP,toPy,Cg,Option.map_some,PyData.canLay0,lay,PyData.depth,PyData.eqv,key];simp
 lia
end L3
namespace LS
open PySem PySem.Spec PyProof.Rows PyProof
end LS
namespace L2
open PySem PySem.Spec PyProof.Rows
variable{X:Cx}{pos:Pos}
end L2
namespace L3
open PySem PySem.Spec PyProof.Rows L2
variable{X:Cx}{E:XK}{pos:Pos}
def gL(n:Nat)(fs:List D->ak->DM ak):D->ak->DM ak
 |.lst l,δ=>if l.length=n then fs l δ else stuck
 |_,_=>stuck
@[simp] theorem Wa(n:Nat)(fs:List D->ak->DM ak)(l:List D)(δ:ak):gL n fs (.lst l) δ=if l.length=n then fs l δ else stuck:=id rfl
theorem dI{X:Cx}{E:XK}{st:Stmt}:DS X E st (λz=>stuck):=⟨by intro aaD s σ H D I h;obtain⟨ρ,δ,M,ev,j,g1⟩:=h;obtain⟨r,e,_⟩:=g1;cases e⟩
end L3
namespace L3
open PySem PySem.Spec L2
abbrev Mg:=Str->Option Value
abbrev Fn:=List D->DM D
abbrev Nn(mg:Mg)(x:Str):Prop:=mg x=none
abbrev Gi(mg:Mg)(x:Str)(i:Int)(t:Tok):Prop:=mg x=some (.int i t)
abbrev Rm(k:Nat)(A:Around)(q:Str)(st:Stmt)(s:Shared)(f:Addr)(cdv:Value):Prop:=Room k (A.deeper (PyProof.Rows.envOfC q (defScope st) s.heap.objs.size f cdv))
abbrev Ds(P:Program)(w:World)(K:PySem.W.Frag)(mg:Mg)(base:Heap)(N:List Str)(q:Str)(st:Stmt)(f:Addr)(cdv:Value)(A:Around)(outer:List Env)(s:Shared)(H:Hp)(E:XK)(b:ak->DM Fl):Prop:=
 DSs (jm P w K mg base N q (defScope st) f cdv A outer s H E) E (defBody st) b
theorem Tw(a:sc.kind=.function)(b:sc.isCoroutine=false)(c:sc.isGenerator=false)(p:N.take P.length=P)(d:(decide N.Nodup&&(decide (∀x∈P,sc.names.lookup x=some .local\/sc.names.lookup x=some .cell)&&decide (∀y∈sc.names,y.2≠.free)))=true):FnScope N P sc:=by simp only[Bool.and_eq_true,decide_eq_true_eq]at d;exact⟨a,b,c,d.1,p,d.2.1,d.2.2⟩
section
variable{X:Cx}{E:XK}{a:Expr}{fa:ak->DM (List D)}{p1 p2 pos1 pos2:Pos}
set_option tactic.hygienic true in
theorem yt(hc:X.calm=true)(hmL:X.mg "tuple"=none)(hm:X.mg "range"=none)(ha:DA X E [a] fa)(hgL:Gl X "tuple":=by rfl)(hg:Gl X "range":=by rfl)(hs:notStar a=true:=by rfl):
  DE X E (.Call (.Name "tuple" p1) [.Call (.Name "range" p2) [a] [] pos2] [] pos1) (λδ=>fa δ>>=λl=>rd (λM=>(ie l M).map D.tup)):=⟨PE.mono (Ji hc hgL hmL hg hm ha.h.h hs) λσ H Q h=>by
 obtain⟨ρ,δ,M,ev,j,g1⟩:=h;refine⟨ρ,δ,M,ev,j,g1.bind λρ1 H1 M1 xs ds e1 j1 c1 g2=>?_⟩
 obtain⟨d,ed,q⟩:=g2.rd;obtain⟨l,el,rfl⟩:=Wi.mp ed;unfold ie at el;split at el
 ·split at el
  ·rename_i hb;cases el;obtain⟨v,rfl,k⟩:=c1.one;cases k;exact⟨_,rfl,hb.2,hb.1,λp hp=>q ρ1 _ _ (.lay hp) (j1.lay _ hp) (.tup (j1.fresh hp) upd_same (tM _))⟩
  ·cases el
 ·cases el⟩
end
def MF(lo hi:Option Int):D->Mo->Option D
 |.scr ns,_=>some (.lst (cutD (ns.map D.int) lo hi))
 |_,_=>none
theorem Dd:∀l:List Int,Cvs mg ρ H (l.map V.int) (l.map D.int)
 |[]=>.nil
 |n::l=>.cons (.int _) (Dd l)
section
variable{X:Cx}{E:XK}
theorem Vb:SlR X (λx lo hi H Q=>∃ρ M dx d,J X.mg ρ M H/\Cv X.mg ρ H x dx/\MF lo hi dx M=some d/\∀ρ' H' v,Ext ρ H ρ' H'->J X.mg ρ' M H'->Cv X.mg ρ' H' v d->Q v H'):=by
 intro aaD s σ H x v vl vu lo hi sl Q I rx hs pl pu h;obtain⟨ρ,M,dx,d,j,c,e,q⟩:=h;unfold MF at e;split at e
 ·cases e;cases c with | scr n rd=>
  refine sl_list (X:=X) aaD s σ H _ v vl vu lo hi sl Q I rx hs pl pu ⟨_,_,rfl,.inl rd,λp hp=>?_⟩
  exact q ρ _ _ (.lay hp) (j.lay _ hp) (.lst (j.fresh hp) upd_same (((Dd _).cut lo hi).mono (.lay hp)))
 ·cases e
theorem HD(ha:DE X E a fa)(hl:DP X E lo fl)(hh:DP X E hi fh):
  DE X E (.Subscript a (.Slice lo hi none p2) pos) (λδ=>fa δ>>=λx=>fl δ>>=λl=>fh δ>>=λh=>rd (MF l h x)):=⟨PE.mono (pe_slice Vb ha.h hl.h hh.h) λσ H Q h=>by
 obtain⟨ρ,δ,M,ev,j,g1⟩:=h;refine⟨ρ,δ,M,ev,j,g1.bind λρ1 H1 M1 x dx e1 j1 c1 g2=>⟨ρ1,δ,M1,ev.mono e1,j1,g2.bind λρ2 H2 M2 l dl e2 j2 c2 g3=>⟨ρ2,δ,M2,(ev.mono e1).mono e2,j2,g3.bind λρ3 H3 M3 h dh e3 j3 c3 g4=>?_⟩⟩⟩
 have c2:l=dl:=c2;have c3:h=dh:=c3;subst c2 c3;obtain⟨d,e,q⟩:=g4.rd;exact⟨ρ3,M3,dx,d,j3,(c1.mono e2).mono e3,e,q⟩⟩
end
theorem Tt(ns:List Int)(lo hi:Option Int):(rd (MF lo hi (.scr ns)):DM D)=Pure.pure (.lst (cutD (ns.map D.int) lo hi)):=rfl
theorem u1(h:n+64<cLine):n+1<cLine:=by lia
def gH:D->Mo->Option (List Key×List D)
 |.dic ks ds,_=>some (ks,ds)
 |.ref n,M=>match M[n]? with
   |some (.dic ks ds)=>some (ks,ds)
   |_=>none
 |_,_=>none
def nu:D->Option Key
 |.int i=>some (.inl i)
 |.str x=>some (.inr x)
 |_=>none
def dj:List Key->List D->Key->Option D
 |k'::ks,d::ds,k=>if k'=k then some d else dj ks ds k
 |_,_,_=>none
section
variable{mg:Str->Option Value}{ρ:Rh}{M:Mo}{H:Hp}
set_option tactic.hygienic true in
theorem zY(j:J mg ρ M H)(c:Cv mg ρ H x d)(e:gH d M=some (ks,l)):∃ a xs,x=.ref a/\H a=some (.dK (ks.zip xs))/\ks.length=xs.length/\Cvs mg ρ H xs l:=by
 unfold gH at e;split at e
 ·cases e;cases c with | dic n h hl c=>exact⟨_,_,rfl,h,hl,c⟩
 ·split at e
  ·rename_i n _ ks' ds' h;cases e;cases c with | ref hn=>
   obtain⟨xs,h1,h2,h3⟩:=j.obj _ _ _ hn h;exact⟨_,xs,rfl,h1,h2,h3⟩
  ·cases e
 ·cases e
theorem tU(c:Cv mg ρ H y d)(e:nu d=some k):y=kV k:=by
 unfold nu at e;split at e
 ·cases e;cases c;rfl
 ·cases e;cases c;rfl
 ·cases e
theorem wV(k:Key):∀ {xs:List V}{ds:List D} (ks:List Key),Cvs mg ρ H xs ds->ks.length=xs.length->(dj ks ds k=none->valV (ks.zip xs) k=none)/\∀ d,dj ks ds k=some d->∃ v,valV (ks.zip xs) k=some v/\Cv mg ρ H v d
 |_,_,[],.nil,_=>⟨λy=>rfl,λd h=>by cases h⟩
 |_,_,[],.cons a t,h=>by cases h
 |_,_,_::_,.nil,h=>by cases h
 | _,_,k'::ks,.cons a t,h=>by
   obtain⟨h1,h2⟩:=wV k ks t (by simpa using h)
   rw[Y7];by_cases e:k'=k
   ·rw[valV_pos (p:=(k',_)) e];refine⟨λz=>?_,λd z=>?_⟩
    ·simp[dj,e]at z
    ·simp only[dj,e,if_true]at z;cases z;exact⟨_,rfl,a⟩
   ·rw[valV_neg (p:=(k',_)) e];simp only[dj,e,if_false];exact⟨h1,h2⟩
end
def Ku(x y:D)(M:Mo):Option D:=(gH x M).bind λp=>(nu y).bind λk=>dj p.1 p.2 k
def Fq(x y:D)(M:Mo):Option D:=(gH y M).bind λp=>(nu x).map λk=>.bl (!(dj p.1 p.2 k).isSome)
section
variable{X:Cx}{E:XK}
theorem some_of(k:Key)(c:Cvs mg ρ H xs ds)(h:ks.length=xs.length):(valV (ks.zip xs) k).isSome=(dj ks ds k).isSome:=by
 obtain⟨h1,h2⟩:=wV k ks c h;cases e:dj ks ds k with
 |none=>rw[h1 e];rfl
 |some d=>obtain⟨v,e2,_⟩:=h2 d e;rw[e2];rfl
theorem K6(hu:X.A.units+1<cLine):cF X E (compareOp .NotIn) (λx y=>rd (Fq x y)):=by intro aaD s σ H x y v u Q I rx ry q;obtain⟨ρ,M,dx,dy,j,cx,cy,go⟩:=q;obtain⟨d,e,p⟩:=go.rd;obtain⟨⟨ks,ds⟩,h1,h2⟩:=W8.mp e;obtain⟨k,h3,rfl⟩:=Wi.mp h2;obtain⟨a,xs,rfl,ha,hl,c⟩:=zY j cy h1;obtain rfl:=tU cx h3;obtain rfl:u=Value.ref a:=ry;have so:=some_of k c hl;exact d_notIn hu I (DGet.k (k:=k) ha) rx λs' I'=>⟨.bl _,H,I',rfl,p ρ H _ .refl j (by rw[so];exact .bl _)⟩
theorem PP(hu:X.A.units+1<cLine)(ha:DE X E a fa)(hb:DE X E b fb)(hs:NoSl b:=by exact λz z=>rfl):DE X E (.Subscript a b pos) (λδ=>fa δ>>=λx=>fb δ>>=λy=>rd (Ku x y)):=
 ⟨PE.mono (pe_dget hu ha.h hb.h hs) fun σ H Q h=>by
  obtain⟨ρ,δ,M,ev,j,g1⟩:=h;refine⟨ρ,δ,M,ev,j,g1.bind λρ1 H1 M1 x dx e1 j1 c1 g2=>⟨ρ1,δ,M1,ev.mono e1,j1,g2.bind λρ2 H2 M2 y dy e2 j2 c2 g3=>?_⟩⟩
  obtain⟨d,e,p⟩:=g3.rd;obtain⟨⟨ks,ds⟩,h1,h2⟩:=W8.mp e;obtain⟨k,h3,h4⟩:=W8.mp h2;obtain⟨a,xs,rfl,ha,hl,c⟩:=zY j2 (c1.mono e2) h1;obtain rfl:=tU c2 h3;obtain⟨v,e3,cv⟩:=(wV k ks c hl).2 d h4;exact⟨a,v,rfl,by rw[<-e3];exact DGet.k ha,p ρ2 H2 _ .refl j2 cv⟩⟩
def Ft:D->D->D->DM Unit
 |.ref n,y,v=>λM=>match M[n]?,nu y with
   |some (.dic ks ds),some k=>if dj ks ds k=none/\ks.length<2^20 then some (.ok (),M.set n (.dic (ks++[k]) (ds++[v]))) else none
   |_,_=>none
 |_,_,_=>stuck
theorem Cw:∀ {as:List α}{bs:List β} (a:α) (b:β),as.length=bs.length->(as++[a]).zip (bs++[b])=as.zip bs++[(a,b)]
 |[],[],_,_,_=>rfl
 |[],_::_,_,_,h=>by cases h
 |_::_,[],_,_,h=>by cases h
 |x::as,y::bs,a,b,h=>by rw[Zh,Zh,Y7,Y7,Cw a b (by simpa using h),Zh]
set_option tactic.hygienic true in
theorem Lj(hu:X.A.units + 1<cLine):PSet X (Gg X.mg E Ft):=by
 intro aaD s σ H o i v ov iv u Q I ro ri rv h;obtain⟨ρ,M,dO,di,dv,j,co,ci,cv,r,e,p⟩:=h;cases co with
 | ref hn=>
   rename_i n a;have e:(match M[n]?,nu di with
    |some (.dic ks ds),some k=>if dj ks ds k=none/\ks.length<2^20 then some (R.ok (),M.set n (.dic (ks++[k]) (ds++[dv]))) else none
    |_,_=>none)=some r:=e
   split at e
   ·rename_i ks ds k hm hk;split at e
    ·rename_i hc;cases e;obtain⟨xs,hx,hl,c⟩:=j.obj _ _ _ hn hm;obtain rfl:=tU ci hk;obtain rfl:ov=Value.ref a:=ro;have nn:=(wV k ks c hl).1 hc.1;have pn:=putK_new v nn;have lz:(ks.zip xs).length<sizeLine:=by rw[List.length_zip,<-hl,Nat.min_self];exact Zz hc.2 (by show 2^20<2^24;decide)
     have x:Ext ρ H ρ (upd H a (.dK ((ks++[k]).zip (xs++[v])))):=.upd (W6 hn);refine d_setItem hu I (DPut.k (k:=k) hx lz) ri rv λs' I'=>⟨_,I',?_⟩
     rw[pn,<-Cw k v hl];exact p ρ _ () x (j.upd hn ⟨_,upd_same,by simp[hl],(c.append (.cons cv .nil)).mono x⟩) trivial
    ·cases e
   ·cases e
 |_=>cases e
def yZ(x v:D):DM D:=λM=>match nu x with
 |some k=>some (.ok (.ref M.length),M++[.dic [k] [v]])
 |none=>none
set_option tactic.hygienic true in
theorem Ni(i:Nat)(hN:X.N[i]?=some x:=by rfl)(hv:Vis X.env.scope x:=by first | exact Or.inl rfl | exact Or.inr (Or.inl rfl) | exact Or.inr (Or.inr rfl))(hd:(x == ("__debug__":Str))=false:=by decide)
  (hcd:(x==("__classdict__":Str))=false:=by decide):DE X E (.Dict [some (.Name x p1)] [.Constant (.int c) cj p2] pos) (λδ=>fZ i δ>>=λy=>yZ y (.int c)):=
 ⟨PE.mono (pe_disp (pps_cons (pe_var (i:=i) hN hv hd hcd) pe_int pps_nil) rfl rfl (by simp) (by simp)) fun σ H Q h=>by
  obtain⟨ρ,δ,M,ev,j,g⟩:=h;have g:Go X.mg E (Cv X.mg) Q ρ H (opt δ[i]?.join>>=λy=>yZ y (.int c)) M:=g
  cases z:δ[i]?.join with
  |none=>rw[z]at g;obtain⟨r,e,_⟩:=g;cases e
  | some d=>
    rw[z]at g;have g:Go X.mg E (Cv X.mg) Q ρ H (yZ d (.int c)) M:=g;have e':δ[i]?=some (some d):=by
     cases y:δ[i]? with
     |none=>rw[y]at z;cases z
     |some o=>rw[y]at z;exact congrArg some z
    obtain⟨v,h1,h2⟩:=ev.val i d e';obtain⟨r,e,q⟩:=g;unfold yZ at e;split at e
    ·rename_i k hk;cases e;obtain rfl:=tU h2 hk;intro p hp;refine⟨kV k,h1,upd_same,[(k,.int c)],rfl,by simp,?_⟩
     have em:mergeK [] [(k,V.int c)]=[k].zip [V.int c]:=rfl;rw[em,upd_upd];have x:Ext ρ H (ρ.put p) (upd H p (.dK ([k].zip [V.int c]))):=.put hp;refine q _ _ _ x (j.put hp ⟨[.int c],upd_same,rfl,.cons (.int c) .nil⟩) (.ref ?_);show (ρ.st++[p])[_]?=_;rw[<-j.len];simp
    ·cases e⟩
end
def tY:List Key->Option (List Int)
 |[]=>some []
 |.inl i::ks=>(tY ks).map (i::·)
 |.inr _::_=>none
theorem Az:∀ {ks:List Key}{ns:List Int},tY ks=some ns->ks=ns.map Sum.inl
 |[],ns,e=>by cases e;rfl
 |.inl i::ks,ns,e=>by obtain⟨ms,h,rfl⟩:=Wi.mp e;rw[Az h];rfl
 |.inr _::_,_,e=>by cases e
def zf:List D->Mo->Option D
 |[d],M=>(gH d M).bind λp=>(tY p.1).bind λns=>if ns.length<=60 then some (.lst ((sJ ns).map D.int)) else none
 |_,_=>none
section
variable{X:Cx}{E:XK}
set_option tactic.hygienic true in
theorem Fb(hh:X.A.handled=none):CallD X E (.builtin "sorted") (λl=>rd (zf l)):=CallD.of (zR hh) λvs H Q ρ M ds d j c e q=>by
 unfold zf at e;split at e
 ·obtain⟨⟨ks,l⟩,h1,e⟩:=W8.mp e;obtain⟨ns,h2,e⟩:=W8.mp e;split at e
  ·rename_i hn;cases e;obtain⟨v,rfl,k⟩:=c.one;obtain⟨a,xs,rfl,ha,hl,c'⟩:=zY j k h1;obtain rfl:=Az h2;refine⟨a,_,ns,rfl,ha,?_,hn,λp hp=>q ρ _ _ (.lay hp) (j.lay _ hp) (.lst (j.fresh hp) upd_same (Cvs.ints _))⟩
   rw[List.map_fst_zip (Nat.le_of_eq hl)]
  ·cases e
 ·cases e
end
end L3
namespace L3
open PySem L2
theorem sV{c:ak->DM Bool}{fb:ak->DM Fl}{pB:ak->Mo->Prop}(I:Nat->ak->Mo->Prop)
  (step:∀m δ M,I m δ M->∃b,c δ M=some (.ok b,M)/\(b=true->Rn (fb δ) M λr M'=>∃δ' m',r=.nx δ'/\m'<m/\I m' δ' M')/\(b=false->pB δ M)) :
  ∀(N m:Nat) (δ:ak) (M:Mo),m<N->I m δ M->Rn (cY c fb N δ) M λr M'=>∃δ',r=.nx δ'/\pB δ' M'
 |0,m,δ,M,h,_=>by lia
 | N + 1,m,δ,M,h,i=>by
   obtain⟨b,e,h1,h2⟩:=step m δ M i;unfold cY;refine Rn.bind (Q1:=λb' M'=>b'=b/\M'=M) ⟨b,M,e,rfl,rfl⟩ λb' M' ⟨eb,eM⟩=>?_
   subst eb eM;cases b' with
   |false=>exact Rn.pure ⟨δ,rfl,h2 rfl⟩
   |true=>
     refine Rn.bind (h1 rfl) λr M1 ⟨δ',m',er,hm,i'⟩=>?_
     subst er;exact sV I step N m' δ' M1 (by lia) i'
def kD(ks:List Nat):List Key:=ks.map λn:Nat=>Sum.inl (n:Int)
theorem sS(x:Nat):∀ (ks:List Nat) (ds:List D),ks.length=ds.length->(dj (kD ks) ds (.inl (x:Int))).isSome=ks.contains x
 |[],[],_=>rfl
 |[],_::_,h=>by cases h
 |_::_,[],h=>by cases h
 | k::ks,d::ds,h=>by
   have ih:=sS x ks ds (by simpa using h)
   show (dj (Sum.inl (k:Int)::kD ks) (d::ds) (.inl (x:Int))).isSome=_;rw[List.contains_cons];by_cases e:k=x
   ·subst e;simp[dj]
   ·have e1:¬ (Sum.inl (k:Int):Key)=.inl (x:Int):=λq=>e (by have:=Sum.inl.inj q;lia)
    have e2:(x==k)=false:=by simp;exact λq=>e q.symm
    simp only[dj,e1,if_false,ih,e2,Bool.false_or]
theorem Kv(h:M[n]?=some (.dic (kD ks) ds))(hl:ks.length=ds.length):Fq (nD x) (.ref n) M=some (.bl (!ks.contains x)):=by
 have e:gH (.ref n) M=some (kD ks,ds):=by simp[gH,h]
 have:=sS x ks ds hl;unfold Fq nD;rw[e];simp only[Option.bind_some,nu,Option.map_some,this]
theorem Kw(h:M[n]?=some (.dic (kD ks) ds))(hl:ks.length=ds.length)(hx:x∉ks)(hk:ks.length<1000):
  Ft (.ref n) (nD x) v M=some (.ok (),M.set n (.dic (kD (ks++[x])) (ds++[v]))):=by
 have e:=sS x ks ds hl;have e0:ks.contains x=false:=by simpa using hx
 rw[e0,Option.isSome_eq_false_iff,Option.isNone_iff_eq_none]at e;have e1:kD (ks++[x])=kD ks++[Sum.inl (x:Int)]:=by simp[kD]
 delta Ft;dsimp only[nD];rw[h];dsimp only[nu];rw[Wm ⟨e,by unfold kD;rw[Wh];exact Zz hk (by decide)⟩,e1]
theorem Cj:∀ {ks vs:List Nat},ks.length=vs.length->x∈ks->∃ v∈vs,dj (kD ks) (vs.map nD) (.inl (x:Int))=some (nD v)
 |[],_,_,h=>by cases h
 |_::_,[],h,_=>by cases h
 | k::ks,v::vs,h,hx=>by
   show ∃u∈v::vs,dj (Sum.inl (k:Int)::kD ks) (nD v::vs.map nD) (.inl (x:Int))=some (nD u);by_cases e:k=x
   ·subst e;exact⟨v,by simp,by simp[dj]⟩
   ·have e1:¬ (Sum.inl (k:Int):Key)=.inl (x:Int):=λq=>e (by have:=Sum.inl.inj q;lia)
    have hx':x∈ks:=by
     rcases Wy.mp hx with q | q
     ·exact absurd q.symm e
     ·exact q
    obtain⟨u,hu,eu⟩:=Cj (by simpa using h) hx'
    exact⟨u,by simp[hu],by simp only[dj,e1,if_false,eu]⟩
theorem Nr{n x:Nat}{ks vs:List Nat}(h:M[n]?=some (.dic (kD ks) (vs.map nD)))(hl:ks.length=vs.length)(hx:x∈ks):∃v∈vs,Ku (.ref n) (nD x) M=some (nD v):=by
 obtain⟨v,hv,e⟩:=Cj hl hx;refine⟨v,hv,?_⟩;have e0:gH (.ref n) M=some (kD ks,vs.map nD):=by simp[gH,h]
 unfold Ku;rw[e0];show (nu (nD x)).bind (λk=>dj (kD ks) (vs.map nD) k)=_
 exact e
theorem Ba:∀ ks:List Nat,tY (kD ks)=some (ks.map λn:Nat=>(n:Int))
 |[]=>rfl
 |k::ks=>by show (tY (kD ks)).map ((k:Int)::·)=_;rw[Ba ks];rfl
theorem JW{n:Nat}{ks:List Nat}{p:Nat->Bool}(nd:ks.Nodup)(hp:∀x,x∈ks ↔ x<n/\p x=true):sJ (ks.map λn:Nat=>(n:Int))=((List.range n).filter p).map λn:Nat=>(n:Int):=by
 have f:=jw (ks.map λn:Nat=>(n:Int))
 refine nU (f.1.trans ?_) f.2 ?_
 ·refine List.Perm.map _ ((List.perm_ext_iff_of_nodup nd (List.nodup_range.filter _)).mpr λx=>?_)
  rw[hp,YH,Wt]
 ·refine List.Pairwise.map _ (λa b (h:a<b)=>?_) (List.Pairwise.sublist List.filter_sublist List.pairwise_lt_range)
  lia
theorem JV{n m:Nat}{ks:List Nat}{ds:List D}{p:Nat->Bool}(h:M[m]?=some (.dic (kD ks) ds))(hk:ks.length<=60)(nd:ks.Nodup)(hp:∀x,x∈ks ↔ x<n/\p x=true):
  zf [.ref m] M=some (.lst (((List.range n).filter p).map nD)):=by
 have e0:gH (.ref m) M=some (kD ks,ds):=by simp[gH,h]
 unfold zf;dsimp only;rw[e0];show (tY (kD ks)).bind _=_;rw[Ba,Option.bind_some,Wm (by rw[Wh];exact hk),JW nd hp,Xd]
 rfl
end L3
namespace L3
open PySem PySem.Spec L2 LB
def tupI(t:List Int):D:=.tup (t.map D.int)
def jF:List D->Option (List (List Int))
 |[]=>some []
 |.tup l::r=>(intsOf l).bind λt=>if t=[] then none else (jF r).map (t::·)
 |_::_=>none
set_option tactic.hygienic true in
theorem yO:∀ {l:List D}{ts:List (List Int)},jF l=some ts->l=ts.map tupI/\∀ t∈ts,t≠[]
 |[],ts,e=>by cases e;exact⟨rfl,λt h=>by cases h⟩
 | d::l,ts,e=>by
   cases d with
   | tup l0=>
     obtain⟨t,h1,e⟩:=W8.mp e;split at e
     ·cases e
     ·rename_i hne;obtain⟨ms,h,rfl⟩:=Wi.mp e;obtain⟨h2,h3⟩:=yO h;refine⟨by rw[h2,yD h1];rfl,λx hx=>?_⟩
      rcases Wy.mp hx with rfl | hx
      ·exact hne
      ·exact h3 x hx
   |_=>simp[jF]at e
theorem wU:∀ {ts:List (List Int)},(∀ t∈ts,t≠[])->jF (ts.map tupI)=some ts
 |[],_=>rfl
 |t::ts,h=>by
   have ih:=wU (ts:=ts) λx hx=>h x (.tail _ hx)
   have h1:=h t (Xg);show (intsOf (t.map D.int)).bind _=_;rw[wg];show (if t=[] then none else _)=_
   rw[Wr h1,ih];rfl
end L3
namespace L3
open PySem L2
theorem rF{α:Type}{fe:ak->DM D}{rest:ak}{n:Nat}{M:Mo}{L:List α}(enc e:α->D)(hM:M[n]?=some (.lst (L.map enc)))(hL:L.length<=1000000)(h:∀ a∈L,fe (some (enc a)::rest) M=some (.ok (e a),M)):
  ∀(k i:Nat) (x:Option D) (l:List D),i+k=L.length+1->1<=k->l=(L.take i).map e->∃z,tW (gN 0) (λy=>Pure.pure true) (bH fe) n k i (x::rest) l M=some (.ok (z::rest,L.map e),M)
 |0,i,x,l,_,h1,_=>by lia
 | k + 1,i,x,l,hk,_,hl=>by
   have rn:rd (Itn.next (.dyn n) i) M=some (.ok ((L.map enc)[i]?),M):=by
    have:Itn.next (.dyn n) i M=some ((L.map enc)[i]?):=by simp only[Itn.next,hM]
    unfold rd;rw[this];rfl
   by_cases c:i<L.length
   ·have e1:(L.map enc)[i]?=some (enc L[i]):=by rw[Wn,Wk c];rfl
    rw[e1]at rn;have ih:=rF enc e hM hL h k (i+1) (some (enc L[i])) (l++[e L[i]]) (by lia) (by lia) (by rw[hl,List.take_succ_eq_append_getElem c,XN];rfl)
    obtain⟨z,ih⟩:=ih;refine⟨z,?_⟩;have hf:=h L[i] (Yh c);have lt:l.length<sizeLine:=by show _<2^24;rw[hl];simp;lia
    show DM.bind (rd (Itn.next (.dyn n) i)) _ M=_;unfold DM.bind;rw[rn];show ((gN 0 (enc L[i]) (x::rest))>>=λδ1=>(Pure.pure true:DM Bool)>>=λb=>(if b then bH fe δ1 l else Pure.pure (δ1,l))>>=λp=>tW _ _ _ n k (i+1) p.1 p.2) M=_
    rw[jL,az,az];show ((bH fe (some (enc L[i])::rest) l)>>=λp=>tW _ _ _ n k (i+1) p.1 p.2) M=_
    unfold bH;rw[aO];show DM.bind (fe _) _ M=_;unfold DM.bind;rw[hf];dsimp only;rw[Wm lt];exact ih
   ·have e1:(L.map enc)[i]?=none:=Xn (by rw[Wh];lia)
    rw[e1]at rn;refine⟨x,?_⟩;show DM.bind (rd (Itn.next (.dyn n) i)) _ M=_;unfold DM.bind;rw[rn];have:L.take i=L:=YD (by lia)
    rw[hl,this];rfl
theorem Nx{α:Type}{fe:ak->DM D}{rest:ak}{n:Nat}{M:Mo}{L:List α}{x:Option D}(enc e:α->D)(hM:M[n]?=some (.lst (L.map enc)))(hL:L.length<=1000000)(h:∀a∈L,fe (some (enc a)::rest) M=some (.ok (e a),M)){β:Type}{k:ak×List D->DM β}{Q:β->Mo->Prop}(k':List D->DM β)(hk:∀q,k q=k' q.2)(q:Rn (k' (L.map e)) M Q):
  Rn (rd (xZ (.ref n))>>=λit=>dq (bU (gN 0) (λy=>Pure.pure true) (bH fe) it (x::rest) [])>>=k) M Q:=by
 refine Rn.bindRd (.dyn n) (by simp only[xZ,hM]) ?_
 obtain⟨z,e2⟩:=rF (rest:=rest) enc e hM hL h (L.length+1) 0 x [] (by lia) (by lia) rfl
 have e1:bU (gN 0) (λy=>Pure.pure true) (bH fe) (.dyn n) (x::rest) [] M=some (.ok (z::rest,L.map e),M):=by
  show DM.bind (rd (λM=>aR (.ref n) M)) _ M=_
  unfold DM.bind rd;simp only[aR,hM,Option.map_some,List.length_map];exact e2
 refine Rn.bind (qP ⟨_,_,e1,rfl,rfl⟩:Rn (dq _) M λp M'=>p=(z::rest,L.map e)/\M'=M) λp M' ⟨e1,e2⟩=>?_
 subst e1 e2;rw[hk];exact q
end L3
namespace L3
open PySem PySem.Spec L2 LA LB
open PyProof.Rows hiding St
theorem Uj(h:(jF [d]).isSome=true):∃ t,d=tupI t/\t≠[]/\jF [d]=some [t]:=by
 obtain⟨ts,e⟩:=YZ.mp h;obtain⟨h1,h2⟩:=yO e;cases ts with
 |nil=>cases h1
 | cons t ts=>
   cases ts with
   |nil=>simp at h1;exact⟨t,h1,h2 t (by simp),e⟩
   |cons u ts=>simp at h1
section
variable{mg:Str->Option Value}{ρ:Rh}{H:Hp}{acc:Addr}{φ:Heap->Prop}{o:HO}
mutual
theorem Cv.x(hp:H acc=some (.ext φ)):∀ {v:V}{d:D},Cv mg ρ H v d->Cv mg ρ (L2.upd H acc o) v d
 |_,_,.non=>.non
 |_,_,.bl b=>.bl b
 |_,_,.int i=>.int i
 |_,_,.str x=>.str x
 |_,_,.tup n h c=>.tup n ((upd_ne λz=>by rw[z,hp]at h;cases h).trans h) (Cvs.x hp c)
 |_,_,.lst n h c=>.lst n ((upd_ne λz=>by rw[z,hp]at h;cases h).trans h) (Cvs.x hp c)
 |_,_,.dic n h l c=>.dic n ((upd_ne λz=>by rw[z,hp]at h;cases h).trans h) l (Cvs.x hp c)
 |_,_,.obj n m h l c=>.obj n m ((upd_ne λz=>by rw[z,hp]at h;cases h).trans h) l (Cvs.x hp c)
 |_,_,.scr n h=>.scr n (by
   rcases h with h | ⟨o',h⟩
   ·exact .inl ((upd_ne λz=>by rw[z,hp]at h;cases h).trans h)
   ·exact .inr ⟨o',(upd_ne λz=>by rw[z,hp]at h;cases h).trans h⟩)
 |_,_,.ref h=>.ref h
 |_,_,.cls h=>.cls h
 |_,_,.ty t=>.ty t
 |_,_,.exn a=>.exn a
theorem Cvs.x(hp:H acc=some (.ext φ)):∀{vs:List V}{ds:List D},Cvs mg ρ H vs ds->Cvs mg ρ (L2.upd H acc o) vs ds
 |_,_,.nil=>.nil
 |_,_,.cons h t=>.cons (Cv.x hp h) (Cvs.x hp t)
end
theorem Ev.x(hp:H acc=some (.ext φ))(h:Ev mg ρ H σ δ):Ev mg ρ (L2.upd H acc o) σ δ:=⟨h.len,λi d q=>let ⟨v,a,b⟩:=h.val i d q;⟨v,a,b.x hp⟩⟩
theorem lu.ne(hp:H acc=Option.some (HO.ext φ))(h:lu mg ρ H a u):a≠acc:=λz=>by
 subst z;cases u with
 |lst l=>obtain⟨xs,h,_⟩:=h;rw[hp]at h;cases h
 |dic ks l=>obtain⟨xs,h,_⟩:=h;rw[hp]at h;cases h
 |ins c ns l=>obtain⟨C,dx,xs,_,h,_⟩:=h;rw[hp]at h;cases h
theorem J.x(j:J mg ρ M H)(hp:H acc=Option.some (HO.ext φ)):J mg ρ M (L2.upd H acc o):=⟨j.len,j.nd,λn a u h1 h2=>(j.obj n a u h1 h2).map (upd_ne (lu.ne hp (j.obj n a u h1 h2))) λvs ds c=>c.x hp,λa h=>by obtain⟨x,xs,e⟩:=j.vol a h;exact⟨x,xs,by rw[upd_ne λz=>by rw[z,hp]at e;cases e];exact e⟩⟩
end
theorem ExtB.growO(na:acc∉ρ.st):ExtB acc ρ H ρ (upd H acc o):=⟨⟨[],by simp⟩,rfl,λa h n=>absurd h n,λa u h z ne=>by rw[upd_ne ne];exact h,na⟩
end L3
namespace L3
open PySem PySem.Spec L2 LA LB LS
open PyProof.Rows hiding St
theorem Iz(h:Q (.ref s.heap.objs.size) { s with heap:=s.heap.push (cQ #[] 0 (.fresh 0 0 (!dH w))) }):wpAny (model prog w) A (newSet (.type "set")) Q E s:=by unfold newSet setsByText;refine Wc (Wc (Yj (We ?_)));exact WW h
section
variable{acc:Addr}{ρ ρ1:Rh}{H H1:Hp}{o:HO}
theorem ExtB.ext(x:ExtB acc ρ (upd H acc o) ρ1 H1)(hf:H acc=none):Ext ρ H ρ1 H1:=⟨x.pre,x.vo,λa h n=>by
  have:=x.new a h n;by_cases z:a=acc
  ·rw[z];exact hf
  ·rw[upd_ne z]at this;exact this,λa u h n=>x.keep a u (by rw[upd_ne (ne_of_none h hf)];exact h) n (ne_of_none h hf)⟩
theorem ExtB.kpS(x:ExtB acc ρ (upd H acc o) ρ1 H1)(hf:H acc=none):Kp ρ H ρ1 H1:=⟨x.pre,λa u h n z=>⟨(x.ext hf).out h n,(x.ext hf).keeps h n⟩⟩
end
end L3
namespace L2
open PySem PySem.Spec PyProof.Rows LS LA LB
end L2
namespace L3
open PySem PySem.Spec L2 LA LB
end L3
namespace L3
open PySem PySem.Spec L2
open PyProof.Rows hiding St
end L3
namespace L3
open PySem PySem.Spec PyProof.Rows L2
abbrev TB(K:PySem.W.Frag)(x:Str):Prop:=PySem.W.nsIn K mainGlobals x=some none
def TD(K:PySem.W.Frag)(x:Str)(st:Stmt):Prop:=∀{h:Heap}{mg:Mg},K.In h->h.Ns mainGlobals mg->DefAt K mg x st
section
variable{K:PySem.W.Frag}{x:Str}{st:Stmt}{f:Addr}{oc:Value}{od an:Option Addr}{osl:Array (Option Value)}{kV doc pm cdv ct:Value}
theorem Ug(a:PySem.W.nsIn K mainGlobals x=some (some (.ref f)))(l:K.lookup f=some ⟨oc,od,.func (PySem.W.fnOf x x (defArgs st) (defBody st) (defScope st) .none kV doc pm an cdv ct),osl⟩)(c:PySem.W.codeIn K cdv x=true)(k:PySem.W.keepIn K (.ref f)=true):TD K x st:=
 λX G=>Ks X G a l c k
end
section
variable{P:Program}{w:World}{K:PySem.W.Frag}{mg:Mg}{base:Heap}{k:Nat}{C:Addr}{c x qual:Str}{N ps:List Str}{st:Stmt}{fb:ak->DM Fl}{is:List Int}
theorem okd(T:DefAt K mg x st)(S:FnScope N ps (defScope st))(hbody:∀{f cdv A outer s H E},Rm k A x st s f cdv->Ds P w K mg base N x st f cdv A outer s H E fb)
  (hb:∀(kV doc pm:Value) (an:Option Addr) (cdv ct:Value) (us:List Value),us.length=ps.length->bindArgs (PySem.W.fnOf x x (defArgs st) (defBody st) (defScope st) .none kV doc pm an cdv ct) ⟨us,[]⟩=pure (ps.zip us):=by intro _ _ _ _ _ _ us hl;first | (obtain⟨_,rfl⟩:=cP hl;rfl) | (obtain⟨_,_,rfl⟩:=jH hl;rfl) | (obtain⟨_,_,_,rfl⟩:=QC hl;rfl) | (obtain⟨_,_,_,_,rfl⟩:=QD hl;rfl)) :
  DefD P w K mg base (k+1) x ps (aG ps.length N.length fb):=L3.DefAt.okD T S hb λz z z z z z z=>hbody
theorem okn(fb:Nat->ak->DM Fl)(T:DefAt K mg x st)(S:FnScope N ps (defScope st))(hf:∀ds M r,F ds M=some r->∃n,aG ps.length N.length (fb n) ds M=some r)(hbody:∀n {f cdv A outer s H E},Rm k A x st s f cdv->Ds P w K mg base N x st f cdv A outer s H E (fb n))
  (hb:∀(kV doc pm:Value) (an:Option Addr) (cdv ct:Value) (us:List Value),us.length=ps.length->bindArgs (PySem.W.fnOf x x (defArgs st) (defBody st) (defScope st) .none kV doc pm an cdv ct) ⟨us,[]⟩=pure (ps.zip us):=by intro _ _ _ _ _ _ us hl;first | (obtain⟨_,rfl⟩:=cP hl;rfl) | (obtain⟨_,_,rfl⟩:=jH hl;rfl) | (obtain⟨_,_,_,rfl⟩:=QC hl;rfl) | (obtain⟨_,_,_,_,rfl⟩:=QD hl;rfl)) :
  DefD P w K mg base (k+1) x ps F:=L3.DefAt.okN T S hb hf λn z z z z z z z=>hbody n
theorem VF(T:DefAt K mg x st)(S:FnScope N ps (defScope st))(hbody:∀{f cdv A outer s H E},Rm k A x st s f cdv->Ds P w K mg base N x st f cdv A outer s H E fb):DefK P w K mg base (k+1) x st ps (aG ps.length N.length fb):=L3.DefAt.okK T S λz z z z z z z=>hbody
theorem Mr(T:MethAt K C x qual st)(m:mg c=some (.ref C))(cl:L2.Cls K C)(S:FnScope N ps (defScope st))(hbody:∀{f cdv A outer s H E},Rm k A qual st s f cdv->Ds P w K mg base N qual st f cdv A outer s H E fb):MethD P w K mg base (k+1) c x qual st ps (aG ps.length N.length fb):=L3.MethAt.okD T m cl S λz z z z z z z=>hbody
end
end L3
namespace LA
open PySem PySem.W PySem.Calls LS PyProof.Rows LB
def tab(L:Bool)(j:Nat):SetTable:={ SetTable.fresh 0 0 L with place:=#[j] }
def jT(prog:Program)(w:World)(k:List Int):Nat:=SetTable.bits (hT prog w k)%8
def jg(prog:Program)(w:World)(L:Bool)(h:Heap)(a:Addr)(cs:List (Addr×List Int)):Prop:=∃ep t,h.get? a=some (cQ (cs.map (ent prog w)).toArray ep t)/\((cs=[]/\t=.fresh 0 0 L)\/∃c,cs=[c]/\t=tab L (jT prog w c.2))
theorem Px(j:Nat):SetTable.below #[j] j=0:=by show SetTable.below.go #[j] j 1 0 1=0;simp[SetTable.below.go]
theorem Lk(L:Bool)(j:Nat):(tab L j).slot j=.live 0:=by
 show (if (#[j][SetTable.below #[j] j]?==some j)=true then SetTable.Slot.live (SetTable.below #[j] j) else _)=_
 rw[Px];simp
theorem Rc(L:Bool)(j:Nat):(SetTable.fresh 0 0 L).put j=(tab L j,0):=rfl
theorem R6(L:Bool)(j:Nat):TI L (tab L j):=⟨List.pairwise_singleton _ _,rfl,rfl⟩
theorem Le(L:Bool)(f:Nat->Int)(h:Int):(SetTable.fresh 0 0 L).probe f h ((SetTable.fresh 0 0 L).probeStart h)=some (.empty (SetTable.bits h%8) none):=rfl
theorem Jo(e:f 0=h):(tab L (SetTable.bits h % 8)).probe f h ((tab L (SetTable.bits h % 8)).probeStart h)=some (.candidate (SetTable.bits h % 8) 0 ((tab L (SetTable.bits h % 8)).advance ((tab L (SetTable.bits h % 8)).probeStart h))):=by
 show (match (tab L (SetTable.bits h%8)).slot (SetTable.bits h%8) with
   |.empty=>some (SetTable.Met.empty (SetTable.bits h%8) none)
   |.dummy=>_
   |.live i=>if f i==h then some (.candidate (SetTable.bits h%8) i ((tab L (SetTable.bits h%8)).advance ((tab L (SetTable.bits h%8)).probeStart h))) else _)=_
 rw[Lk];dsimp only;rw[e,Wm (by simp)]
section
variable{prog:Program}{w:World}{A:Around}{E:Value->Shared->Prop}{s:Shared}{L:Bool}{cs:List (Addr×List Int)}{a b:Addr}{k:List Int}
theorem xg(L:Bool):(SetTable.fresh 0 0 L).fits 0=true:=rfl
theorem lK(L:Bool)(j:Nat):(tab L j).fits 1=true:=rfl
theorem Kc(hu:A.units<cLine)(hS:jg prog w L s.heap a cs)(H:Pk prog w s.heap cs)(hk:IsTupleKey (iK prog w) s.heap k b)(room:cs=[]\/k∈cs.map (·.2))
  (h:∀h' r,Heap.SameBut a s.heap h'->jg prog w L h' a (if k∈cs.map (·.2) then cs else cs++[(b,k)])->Q r { s with heap:=h' }):wpAny (model prog w) A (setAddHashed a (.ref b) (hT prog w k)) Q E s:=by
 obtain⟨ep,t,ho,⟨rfl,rfl⟩ | ⟨c,rfl,rfl⟩⟩:=hS
 ·unfold setAddHashed;refine Xj ?_;unfold setAddHashedIn;refine Wc (Xr ho rfl (xg L) ?_);dsimp only;have bs:byScan (.ref b) (([]:List (Addr×List Int)).map (ent prog w)).toArray=false:=rfl;rw[bs];simp only[Bool.false_eq_true,if_false];refine Wc ?_;unfold setSearch;show wpAny _ _ (setSearchFrom a (.ref b) (hT prog w k) true (99999+1) none) _ _ _;unfold setSearchFrom;refine Wc (Xr ho rfl (xg L) ?_);dsimp only;rw[show (SetTable.fresh 0 0 L).gaveWay=false by unfold SetTable.gaveWay;show (7%2==0)=false;decide]
  simp only[Bool.false_eq_true,if_false];generalize hpg:SetTable.probe _ _ (hT prog w k) _=Y;obtain rfl:Y=some (.empty (SetTable.bits (hT prog w k)%8) none):=hpg.symm.trans (Le L _ _);refine We ?_;dsimp only;refine Wc (Xr ho rfl (xg L) ?_);dsimp only;rw[Rc];dsimp only;rw[Wm (show (tab L (SetTable.bits (hT prog w k)%8)).plain=true from rfl)]
  refine Wc (Gd hk ?_);simp only[if_true];have es:SetTable.insertAt (([]:List (Addr×List Int)).map (ent prog w)).toArray 0 (hT prog w k,Value.ref b)=([(b,k)].map (ent prog w)).toArray:=rfl;rw[es];refine Wc (wpAny_storeSet_of ho rfl ?_ (by rw[YS];simp))
  have o1:=OD (es1:=([(b,k)].map (ent prog w)).toArray) (t1:=tab L (jT prog w k)) ho;have b1:=Yz s.heap a (Obj.putSet ([(b,k)].map (ent prog w)).toArray (tab L (jT prog w k)));have nf:(!false&&(tab L (SetTable.bits (hT prog w k)%8)).tooFull)=false:=rfl;rw[Wr (by rw[nf];decide)]
  refine Wc (We ?_);refine We (h _ true b1 ?_);exact⟨_,_,o1,.inr ⟨(b,k),rfl,rfl⟩⟩
 ·have m:k∈([c]:List (Addr×List Int)).map (·.2):=room.resolve_left (by simp)
  have ek:c.2=k:=(W2.mp m).symm;subst ek;unfold setAddHashed;refine Xj ?_;unfold setAddHashedIn;refine Wc (Xr ho rfl (lK L _) ?_);dsimp only;have bs:byScan (.ref b) (([c]:List (Addr×List Int)).map (ent prog w)).toArray=false:=rfl;rw[bs];simp only[Bool.false_eq_true,if_false];refine Wc ?_;unfold setSearch;show wpAny _ _ (setSearchFrom a (.ref b) (hT prog w c.2) true (99999+1) none) _ _ _;unfold setSearchFrom;refine Wc (Xr ho rfl (lK L _) ?_);dsimp only;rw[show (tab L (jT prog w c.2)).gaveWay=false by unfold SetTable.gaveWay;show (7%2==0)=false;decide]
  simp only[Bool.false_eq_true,if_false];generalize hpg:SetTable.probe _ _ (hT prog w c.2) _=Y;obtain rfl:Y=some (.candidate (SetTable.bits (hT prog w c.2)%8) 0 ((tab L (SetTable.bits (hT prog w c.2)%8)).advance ((tab L (SetTable.bits (hT prog w c.2)%8)).probeStart (hT prog w c.2)))):=hpg.symm.trans (Jo rfl);dsimp only;have hc:IsTupleKey (iK prog w) s.heap c.2 c.1:=H c (by simp)
  have hl:∀v∈(((([c]:List (Addr×List Int)).map (ent prog w)).toArray).filter (λx=>x.1==hT prog w c.2)).toList.map (·.2),∃b' k',v=.ref b'/\IsTupleKey (iK prog w) s.heap k' b':=λv hv=>by
   obtain⟨e,he,rfl⟩:=Xl.mp hv;have he:=(Array.mem_filter.mp (Array.mem_toList_iff.mp he)).1;have he:e=ent prog w c:=by simpa using he
   subst he;exact⟨c.1,c.2,rfl,hc⟩
  have fin:wpAny (model prog w) A (pure (SetFound.there none)) (λr s'=>Q false { s with heap:=s.heap }) E s:=We (h s.heap false (Heap.SameBut.refl a s.heap) (by rw[Wm m];exact⟨ep,_,ho,.inr ⟨c,rfl,rfl⟩⟩))
  have q:Q false s:=h s.heap false (Heap.SameBut.refl a s.heap) (by rw[Wm m];exact⟨ep,_,ho,.inr ⟨c,rfl,rfl⟩⟩)
  have e0:(([c]:List (Addr×List Int)).map (ent prog w)).toArray[0]?=some (ent prog w c):=rfl;split
  ·refine Wc (K5 hk hl ?_);simp only[Bool.false_eq_true,if_false];rw[e0];dsimp only[ent];refine Wc (Xj (wpAny_eqBool_tuple hu hc hk ?_));refine Wc (Xr ho rfl (lK L _) ?_);dsimp only;rw[WF rfl];exact We (We q)
  ·rw[e0];dsimp only[ent];refine Wc (Xj (wpAny_eqBool_tuple hu hc hk ?_));refine Wc (Xr ho rfl (lK L _) ?_);dsimp only;rw[WF rfl];exact We (We q)
theorem FJ(ho:s.heap.get? a=some (seqObj "list" #[v] n))(h:P (.done (.ret .none)) { s with heap:=sortedHeap s.heap a [v] #[v] }):
  wpAny (model prog w) A (Builtin.«list.sort» ⟨[.ref a],[]⟩) P E s:=by
 rw[list_sort_plain];have ha:a<s.heap.objs.size:=Wj ho;refine Wc (listItems_at ho rfl ?_);refine Wc (aaj ho rfl ?_);obtain⟨e1,ho1⟩:∃e1,(s.heap.update a (Obj.mapSeq λz=>#[])).get? a=some (seqObj "list" #[] e1):=⟨_,aav ho (λz=>#[])⟩
 refine Wc (seqEpoch_at ho1 rfl ?_);refine Wc (wpAny_newTuple ?_);refine Wc (wpAny_newList ?_);refine Xj ?_;have ho6:(((s.heap.update a (Obj.mapSeq λz=>#[])).push (seqObj "tuple" #[v] 0)).push (seqObj "list" #[] 0)).get? a=some (seqObj "list" #[] e1):=by
  rw[Heap.get?_push_ne _ _ _ (by rw[size_push',Heap.size_update];exact Wu (ZM ha)),Heap.get?_push_ne _ _ _ (by rw[Heap.size_update];exact Wu ha)]
  exact ho1
 show wpAny (model prog w) A _ P E { s with heap:=((s.heap.update a (Obj.mapSeq λz=>#[])).push (seqObj "tuple" #[v] 0)).push (seqObj "list" #[] 0) }
 dsimp only;have h2:(#[v]:Array Value).size<2:=by simp
 rw[Wm h2,Wm h2];refine Wc (We ?_);rw[StateT.run_pure];refine Wc (We ?_);dsimp only;refine Wc (seqEpoch_at ho6 rfl ?_);refine Wc (aaj ho6 rfl ?_ (hsz2:=by rw[Array.size_map];show (pairsOf [v]).size<=_;rw[pairsOf_size,YS];simp))
 simp only[bne_self_eq_false,Bool.false_eq_true,if_false];have e:(arrOf (SortSt.mk' general' ((#[v]:Array Value).zip #[v]) #[] 7 none)).map (·.2)=#[v]:=by show ((#[v]:Array Value).zip #[v]).map (·.2)=_;simp
 rw[e];exact We h
theorem BX(hh:A.handled=none)(g:jg prog w (!dH w) s.heap a [c])
  (h:∀h' tk d' p n,s.heap.objs.size<=p->h'.get? p=some (seqObj "list" #[Value.ref c.1] n)->(∀b o,s.heap.get? b=some o->h'.get? b=some o)->Q (.ref p) { s with heap:=h',toks:=tk,drawn:=d' }) :
  wpAny (model prog w) A (call (.builtin "sorted") [.ref a]) Q E s:=by
 obtain⟨ep,t,ho,z⟩:=g;obtain rfl:t=tab (!dH w) (jT prog w c.2):=by
  rcases z with ⟨z,_⟩ | ⟨c',z,r⟩
  ·cases z
  ·cases z;exact r
 refine Zr kind_sorted plain_sorted entry_sorted (args_sorted1 _) ?_;unfold Builtin.«sorted»
 refine Wc (m:=checkCount "sorted" 1 1 _) (We ?_);refine Wc (zU (by simp[hh]) ho (lK _ _) (R6 _ _) (by simp[scanBound]) λh1 tk1 d1 vs hp sz k1=>?_)
 obtain rfl:vs=[Value.ref c.1]:=by have:vs.Perm [Value.ref c.1]:=hp;exact List.perm_singleton.mp this
 refine Wc (wpAny_newList ?_ (by rw[YS];simp))
 have oL:(h1.push (seqObj "list" #[Value.ref c.1] 0)).get? h1.objs.size=some (seqObj "list" #[Value.ref c.1] 0):=Wl _ rfl;refine Wc (Xj (WX slot_list_sort ⟨_,oL,rfl⟩ entry_list_sort (FJ oL ⟨_,rfl,?_⟩) (args_list_sort _)));obtain⟨e,he⟩:=sortedHeap_at (vs:=[Value.ref c.1]) (out:=#[Value.ref c.1]) oL;refine We ⟨_,rfl,h _ _ _ h1.objs.size e sz he λb o eb=>?_⟩
 have lt:=Wj (k1 b o eb);rw[sortedHeap_old (Wu lt) (by rw[size_push'];exact ZM lt)]
 exact Wd _ (k1 b o eb)
end
end LA
namespace L2
open PySem PySem.Spec PyProof.Rows LS LA LB
def ji(P:Program)(w:World)(a:Addr)(cs:List (Addr×List Int)):HO:=.ext λh=>jg P w (!dH w) h a cs
theorem Gs(h:jg P w L h1 a cs)(k:∀o,h1.get? a=some o->h2.get? a=some o):jg P w L h2 a cs:=by obtain⟨ep,t,e,r⟩:=h;exact⟨ep,t,k _ e,r⟩
theorem BV(k:jg P w (!dH w) h a cs):ObjOk P w H h a (ji P w a cs):=⟨k,by obtain⟨_,_,e,_⟩:=k;exact⟨_,e⟩,λz z k1 s=>Gs k1 s⟩
section
variable{X:Cx}
theorem BW(hu:X.A.units+1<cLine)(I:Inv X aaD σ H s)(ha:H a=some (ji X.prog X.w a cs))(hb:H b=some (.tup (k.map V.int)))
  (hcs:∀c∈cs,H c.1=some (.tup (c.2.map V.int))) (room:cs=[]\/k∈cs.map (·.2)) (q:∀s',Inv X aaD σ (upd H a (ji X.prog X.w a (De cs (b,k)))) s'->Q .none s') :
  wpAny (model X.prog X.w) X.A (call (.builtin "set.add") [.ref a,.ref b]) Q E s:=by
 have hS:jg X.prog X.w (!dH X.w) s.heap a cs:=(I.hok _ _ ha).1;have tI:s.TypeIs (.ref a) "set":=by obtain⟨_,_,e,_⟩:=hS;exact⟨_,e,rfl⟩
 have hk:=Dt I.hok hb;have hH:Pk X.prog X.w s.heap cs:=λc hc=>Dt I.hok (hcs c hc)
 refine WX F.slot_set_add tI F.entry_set_add ?_ (F.args_set_add_2 _ _);unfold Builtin.«set.add» Builtin.Frozenset.oneOther;simp only[List.isEmpty_nil,bind_assoc];unfold Builtin.Frozenset.addrOf setAdd;refine Wc (We ?_)
 try dsimp only
 refine Wc (We ?_)
 try dsimp only
 refine Wc ?_;refine Xj ?_;refine Wc (wpAny_pyHash_tuple (knd:=iK X.prog X.w) (by simpa using hu) hk ?_)
 refine Kc (s:={ s with toks:=s.toks+(k.length+1) }) (by simpa using hu) hS hH hk room λh' r sb g=>?_
 show wpAny _ _ (ret Value.none) _ _ _;refine We ⟨_,rfl,q _ ?_⟩;refine I.write (x:=a) (e:=a) (o:=ji X.prog X.w a (De cs (b,k))) (by rw[ha];trivial) (.inl rfl) (λb u ne e=>(sb.2 b ne).trans e) (by obtain⟨_,_,e,_⟩:=g;exact⟨_,e⟩) ?_
 exact BV (by unfold De;exact g)
theorem yR(hh:X.A.handled=none):CallR X (.builtin "sorted") (λxs H Q=>∃ (p:Addr) (c:Addr×List Int),xs=[.ref p]/\H p=some (ji X.prog X.w p [c])/\∀ (l:Addr),H l=none->Q (.ref l) (upd H l (.lst [V.ref c.1]))):=by
 intro aaD s σ H xs us Q I r1 h;obtain⟨p,c,rfl,hp,q⟩:=h;cases r1 with
 |cons r rr=>
   cases rr;cases r;have hS:jg X.prog X.w (!dH X.w) s.heap p [c]:=(I.hok _ _ hp).1;refine BX hh hS λh2 tk2 d2 l m hge hol k2=>?_
   have I2:=I.call (h':=h2) (t':=tk2) (d':=d2) (g':=s.gens) (ch:=[]) (Un.laid k2 hge (I.hok.fresh hge)) (I.hok.laid (o:=.lst [V.ref c.1]) k2 hge ⟨by show 1<=2^24;decide,_,m,.cons rfl .nil,hol⟩) I.bare (λy z=>nomatch z)
   exact⟨.ref l,upd H l (.lst [V.ref c.1]),I2,rfl,q l (I.hok.fresh hge)⟩
end
end L2
namespace L3
open PySem PySem.Spec L2 LA LB LS
open PyProof.Rows hiding St
def vB(ρ:Rh)(H:Hp)(cs:List (Addr×List Int))(l:List D):Prop:=(l=[]/\cs=[])\/∃c,cs=[c]/\l≠[]/\(∀d∈l,d=tupI c.2)/\c.1∉ρ/\H c.1=some (.tup (c.2.map V.int))
theorem vB.mono(h:vB ρ H cs l)(e:Ext ρ H ρ' H'):vB ρ' H' cs l:=by
 rcases h with h | ⟨c,h1,h2,h3,b,d⟩
 ·exact .inl h
 ·exact .inr ⟨c,h1,h2,h3,e.out d b,e.keeps d b⟩
structure CstS1(X:Cx)(aaD:List (Addr×Obj))(acc:Addr)(ρ0:Rh)(H0:Hp)(δ:ak)(l:List D)(M:Mo)(fp:List Addr)(s:Shared):Prop where
 ex:∃σ H ρ cs,Inv X aaD σ H s/\ExtB acc ρ0 H0 ρ H/\J X.mg ρ M H/\Ev X.mg ρ H σ δ/\H acc=some (ji X.prog X.w acc cs)/\vB ρ H cs l/\∀b∈fp,H b=none
open Classical in
noncomputable def gP(fe:ak->DM D)(δ:ak)(l:List D):DM (ak×List D):=fe δ>>=λd=>if (jF [d]).isSome=true/\∀e∈l,e=d then pure (δ,l++[d]) else stuck
def zj(X:Cx)(acc:Addr)(W:(Shared->Prop)->Shared->Prop)(fb:ak->List D->DM (ak×List D)):Prop:=
 ∀aaD ρ0 H0 δ l M s δ' l' M',CstS1 X aaD acc ρ0 H0 δ l M [] s->fb δ l M=some (.ok (δ',l'),M')->W (λs'=>CstS1 X aaD acc ρ0 H0 δ' l' M' [] s') s
theorem CstS1.unpin(c:CstS1 X (aaD++pl) acc ρ0 H0 δ l M [] s)(h:∀b∈fp,∃o,(b,o)∈pl):
  CstS1 X aaD acc ρ0 H0 δ l M fp s/\∀p∈pl,s.heap.get? p.1=some p.2:=by
 obtain⟨σ,H,ρ,cs,I,x,j,ev,ha,cl,_⟩:=c.ex;refine⟨⟨σ,H,ρ,cs,I.unpinned,x,j,ev,ha,cl,λb hb=>?_⟩,λp hp=>(I.pin p (Xa _ (Xa _ hp))).1⟩
 obtain⟨o,ho⟩:=h b hb;exact (I.pin (b,o) (Xa _ (Xa _ ho))).2.1
theorem KY(hc:X.calm=true)(hxe:X.xe=λy y=>False){gens:List Comprehension}{depth:Nat}{bodyK:Sem Fin->Sem Fin}{W:(Shared->Prop)->Shared->Prop}
  (hturn:compTurn (.SetComp elt gens scope pos) depth (.ref it) (.ref acc) X.env=turnOf g bodyK (.compLoop (.SetComp elt gens scope pos) depth (.ref it) (.ref acc) X.env) (.ref it) X.env) (hW:mF X.prog X.w X.A bodyK W) (hmono:∀P P' s,(∀s,P s->P' s)->W P s->W P' s)
  {fg:D->ak->DM ak}{ft:ak->DM Bool}{fb:ak->List D->DM (ak×List D)} (hg:DG X E0 g.target fg) (ht:DTs X E0 g.ifs ft) (hb:zj X acc W fb) {fp:List Addr}{tn:Nat->Heap->Prop} (T:Turn X.prog X.w X.K g.target Jt fp it tn) (iok:ItOk X.mg ρi Hi Jt itn) (kp0:∀ρ H,ExtB acc ρ0 H0 ρ H->Kp ρi Hi ρ H) {aaD:List (Addr×Obj)}
  (fok:∀H',(∀b∈fp,H' b=none)->∀b∈fp,FpOk X aaD H' b) {l:List D} (st:CstS1 X aaD acc ρ0 H0 δ l M fp s) (htn:tn 0 s.heap) {lf:List D} (hrun:bU fg ft fb itn δ l M=some (.ok (δf,lf),Mf))
  {R:Result->Shared->Prop} (hR:∀s',CstS1 X aaD acc ρ0 H0 δf lf Mf fp s'->R (.ok .next) s') :
  codeAny (model X.prog X.w) X.A (.compLoop (.SetComp elt gens scope pos) depth (.ref it) (.ref acc) X.env) R s:=by
 obtain⟨n0,rem0⟩:=qO.start hrun;refine Ip (λn s=>∃i δ l M,qO fg ft fb δf lf Mf itn n i δ l M/\CstS1 X aaD acc ρ0 H0 δ l M fp s/\tn i s.heap) hturn hW ?_ hmono n0 ⟨0,δ,l,M,rem0,st,htn⟩
 rintro n s ⟨i,δ,l,M,rem,st,htn⟩;obtain⟨σ,H,ρ,cs,I,x,j,ev,ha,cl,fr⟩:=st.ex;have kp:Kp ρi Hi ρ H:=kp0 _ _ x;rcases rem.step with ⟨hd,rfl,rfl,rfl⟩ | ⟨d,δ1,M1,b,M2,δ3,l3,M3,m,hd,e1,e2,e3,hm,rem3⟩
 ·refine Wx (T.done X rfl rfl rfl hc i aaD s σ H _ I (fok H fr) htn (iok.stop i ρ H _ kp j hd)) (λr s1 h1=>?_) λy y z=>z
  obtain⟨rfl,I1⟩:=h1;exact hR s1 ⟨σ,H,ρ,cs,I1,x,j,ev,ha,cl,fr⟩
 ·obtain ⟨go,yl⟩:=iok.item i ρ H M d kp j hd;refine Wx (T.item X rfl rfl rfl hc i aaD s σ H (λy y=>False) I (fok H fr) htn go) (λr s1 h1=>?_) λy y z=>z
  obtain⟨u,rfl,h1⟩:=h1;refine Wx h1 (λy s2 h2=>?_) λy y z=>z
  obtain⟨xv,H5,I5,r5,y5,tn5,fr5⟩:=h2;obtain⟨x5,j5,c5⟩:=yl xv H5 y5;have I5':=I5.pinned (fok H5 fr5) (T.obj _ _ tn5);refine Wx (hg.h _ s2 σ H5 xv u (λσ6 H6=>∃ρ6,Ext ρ H5 ρ6 H6/\J X.mg ρ6 M1 H6/\Ev X.mg ρ6 H6 σ6 δ1) I5' r5 ⟨ρ,δ,M,d,ev.mono x5,j5,c5,_,e1,λρ6 H6 σ6 a1 a2 a3=>⟨ρ6,a1,a2,a3⟩⟩) (λy s3 h3=>?_) λy y z=>by rw[hxe]at z;exact z
  obtain⟨σ6,H6,I6,ρ6,x6,j6,ev6⟩:=h3;refine Wx (ht.h _ s3 σ6 H6 (λb' H7=>b'=b/\∃ρ7,Ext ρ6 H6 ρ7 H7/\J X.mg ρ7 M2 H7) I6 ⟨ρ6,δ1,M1,ev6,j6,_,e2,λρ7 H7 b' a1 a2 a3=>⟨a3,ρ7,a1,a2⟩⟩) (λok s4 h4=>?_) λy y z=>by rw[hxe]at z;exact z
  obtain⟨H7,I7,rfl,ρ7,x7,j7⟩:=h4;have nacc:acc∉ρ.st:=x.na;have na6:acc∉ρ6.st:=λz=>by have h5:=x5.keep acc _ ha nacc;have:=x6.new acc z nacc;rw[h5]at this;cases this
  have ha5:=x5.keep acc _ ha nacc;have ha6:=x6.keep acc _ ha5 nacc;have na7:acc∉ρ7.st:=λz=>by have:=x7.new acc z na6;rw[ha6]at this;cases this
  have ha7:=x7.keep acc _ ha6 na6;have xb:ExtB acc ρ0 H0 ρ7 H7:=((x.trans (x5.b nacc)).trans (x6.b na6)).trans (x7.b na7);have ct:CstS1 X (aaD++pinsAt fp s2.heap) acc ρ0 H0 δ1 l M2 [] s4:=⟨σ6,H7,ρ7,cs,I7,xb,j7,ev6.mono x7,ha7,((cl.mono x5).mono x6).mono x7,λb hb=>nomatch hb⟩
  have fin:∀s5,CstS1 X (aaD++pinsAt fp s2.heap) acc ρ0 H0 δ3 l3 M3 [] s5->∃m,m<n/\∃i δ l M,qO fg ft fb δf lf Mf itn m i δ l M/\CstS1 X aaD acc ρ0 H0 δ l M fp s5/\tn i s5.heap:=λs5 c5=>by
   obtain⟨c6,pp⟩:=c5.unpin (fp:=fp) λb hb=>by obtain⟨o,eo,_⟩:=T.obj _ _ tn5 b hb;exact⟨o,mem_pinsAt hb eo⟩
   exact⟨m,hm,i+1,δ3,l3,M3,rem3,c6,T.keep _ _ _ tn5 λb hb o eo=>pp (b,o) (mem_pinsAt hb eo)⟩
  cases ok with
  |true=>exact iteT (hmono _ _ _ fin (hb _ ρ0 H0 δ1 l M2 s4 δ3 l3 M3 ct e3))
  |false=>cases e3;exact iteF (fin s4 ct)
set_option tactic.hygienic true in
theorem HN(hxe:X.xe=λr r=>False)(hu:X.A.units + 1<cLine)(he:DE X E0 elt fe):
  zj X acc (λP s=>wpAny (model X.prog X.w) X.A (eval elt X.env) (λx s1=>wpAny (model X.prog X.w) X.A (call (.builtin "set.add") [.ref acc,x]) (λr s2=>P s2) (λr r=>False) s1) (λr r=>False) s) (gP fe):=by
 intro aaD ρ0 H0 δ l M s δ' l' M' ct e;obtain⟨d,M1,e1,e2⟩:=DM.bind_ok e;obtain⟨σ,H,ρ,cs,I,x,j,ev,ha,cl,_⟩:=ct.ex;split at e2;rotate_left
 ·cases e2
 rename_i hz;cases e2;refine Wx (he.h aaD s σ H (λv H1=>∃ρ1,Ext ρ H ρ1 H1/\J X.mg ρ1 M' H1/\Cv X.mg ρ1 H1 v d) I ⟨ρ,δ,M,ev,j,_,e1,λρ1 H1 v a1 a2 a3=>⟨ρ1,a1,a2,a3⟩⟩) (λu s1 h1=>?_) λr r z=>by rw[hxe]at z;exact z
 obtain⟨v,H1,I1,rv,ρ1,x1,j1,c1⟩:=h1;have nacc:acc∉ρ.st:=x.na;have ha1:=x1.keep acc _ ha nacc;have na1:acc∉ρ1.st:=λz=>by have:=x1.new acc z nacc;rw[ha]at this;cases this
 obtain⟨t,rfl,tne,et⟩:=Uj hz.1;have cl1:=cl.mono x1;cases c1 with
 | tup nb hb cb=>
   rename_i b xs;rw[zW cb]at hb;obtain rfl:u=Value.ref b:=rv;have inj:∀{k k':List Int},tupI k=tupI k'->k=k':=λ{k k'} e=>(ZC λx y z=>D.int.inj z).mp (D.tup.inj e)
   have nx:∀{o:HO}{a:Addr}{ys:List V},H1 a=some (.tup ys)->upd H1 acc o a=H1 a:=λ{o a ys} h=>upd_ne λz=>by rw[z,ha1]at h;cases h
   rcases cl1 with ⟨rfl,rfl⟩ | ⟨c,rfl,ln,la,nc,hc⟩
   ·refine BW hu I1 ha1 hb (λc hc=>nomatch hc) (.inl rfl) λs' I'=>?_
    exact⟨σ,_,ρ1,De [] (b,t),I',(x.trans (x1.b na1)).trans (.growO na1),j1.x ha1,(ev.mono x1).x ha1,upd_same,.inr ⟨(b,t),rfl,by simp,λd hd=>by simpa using hd,nb,(nx hb).trans hb⟩,λb hb=>nomatch hb⟩
   ·obtain⟨d0,hd0⟩:=List.exists_mem_of_ne_nil l ln;have et:c.2=t:=inj ((la d0 hd0).symm.trans (hz.2 d0 hd0));have m:t∈([c]:List (Addr×List Int)).map (·.2):=by rw[<-et];simp
    refine BW hu I1 ha1 hb (λc' hc'=>by rw[W2.mp hc'];exact hc) (.inr m) λs' I'=>?_
    have e1:De [c] (b,t)=[c]:=Wm m;exact⟨σ,_,ρ1,De [c] (b,t),I',(x.trans (x1.b na1)).trans (.growO na1),j1.x ha1,(ev.mono x1).x ha1,upd_same,.inr ⟨c,e1,by simp,λd hd=>by
     rcases W5.mp hd with h | h
     ·exact la d h
     ·rw[W2.mp h,et],nc,(nx hc).trans hc⟩,λb hb=>nomatch hb⟩
def Er(X:Cx)(ρ:Rh)(H:Hp)(x:V)(l:List D):Prop:=∃acc cs,x=.ref acc/\H acc=some (ji X.prog X.w acc cs)/\vB ρ H cs l
set_option tactic.hygienic true in
theorem Jh
  (hu:X.A.units+1<cLine) (hc:X.calm=true) (T:CompG X scope cl own js fr) (hi:DI X E t0 i0 fi)
  (hg:∀aaD m fp C s₂ H₂,DG (X.aZ aaD scope (cellsFrom m scope.names cl) (own++fr) fp C s₂ H₂) E0 t0 fg) (ht:∀aaD m fp C s₂ H₂,DTs (X.aZ aaD scope (cellsFrom m scope.names cl) (own++fr) fp C s₂ H₂) E0 f0 ft)
  (he:∀aaD m fp C s₂ H₂,DE (X.aZ aaD scope (cellsFrom m scope.names cl) (own++fr) fp C s₂ H₂) E0 elt fe)
  (hs:∀y,foldedSetIterable i0 X.env y=pure y:=by intro _;rfl) :
  PE X (.SetComp elt [⟨t0,i0,f0,0⟩] scope pos) (tD X.mg E (Er X) (λδ=>fi δ>>=λit=>dq (bU fg ft (gP fe) it (aP own.length js δ) [])>>=λp=>pure p.2)):=by
 intro aaD s σ H Q I h;obtain⟨ρ,δ,M,ev,j,g1⟩:=h;rw[PySem.arm_eval_SetComp];dsimp only;refine ZD (cl:=cl) (use:=none) rfl hs T.clos T.kind T.names ?_;refine thn (hi.h aaD s σ H (λJt H1=>∃ρ1 M1 it,Ext ρ H ρ1 H1/\J X.mg ρ1 M1 H1/\ItOk X.mg ρ1 H1 Jt it/\Go X.mg E (Er X) Q ρ1 H1 (dq (bU fg ft (gP fe) it (aP own.length js δ) [])>>=λp=>pure p.2) M1) I
  ⟨ρ,δ,M,ev,j,g1.bind λρ1 H1 M1 Jt it e1 j1 iok g2=>⟨ρ1,M1,it,e1,j1,iok,g2⟩⟩) λv s1 h1=>thn h1 λitv s2 h2=>?_
 obtain⟨it,fp,tn,Jt,H2,rfl,I2,Tn,st2,f2,ρ1,M1,itn,x1,j1,iok,g2⟩:=h2;have hrun:∃δf lf Mf,bU fg ft (gP fe) itn (aP own.length js δ) [] M1=some (.ok (δf,lf),Mf)/\Go X.mg E (Er X) Q ρ1 H2 (pure lf) Mf:=by
  obtain⟨r,e,p⟩:=g2;have e:DM.bind _ _ M1=some r:=e;unfold DM.bind at e;split at e
  ·cases e
  ·rename_i c M' em;obtain⟨a,M'',_,z⟩:=oH em;cases z
  ·rename_i a M' em;obtain⟨a',M'',e1,z⟩:=oH em;cases z;exact⟨a.1,a.2,M',e1,r,e,p⟩
 obtain⟨δf,lf,Mf,hrun,g3⟩:=hrun;refine Iz (rJ ?_);have hlt:∀b∈fp,b<s2.heap.objs.size:=λb hb=>by obtain⟨o,e,_⟩:=Tn.obj _ _ st2 b hb;exact Wj e
 dsimp only;generalize hP:s2.heap.push (cQ #[] 0 (.fresh 0 0 (!dH X.w)))=hp1;have hCs:hp1.objs.size=s2.heap.objs.size+1:=by rw[<-hP,WM]
 have hCe:hp1.objs.size+1=(hp1.push { cls:=.type "dict",data:=.dict #[] }).objs.size:=by rw[WM]
 have hC:s2.heap.objs.size<=hp1.objs.size:=by lia
 have hne:hp1.objs.size≠s2.heap.objs.size:=by lia
 have old1:∀b o,s2.heap.get? b=some o->hp1.get? b=some o:=λb o e=>by rw[<-hP];exact Wd _ e
 have old:∀b o,s2.heap.get? b=some o->(pushCells (hp1.push { cls:=.type "dict",data:=.dict #[] }) scope.names).get? b=some o:=λb o e=>X8 _ _ _ _ (Wd _ (old1 b o e))
 have new:jg X.prog X.w (!dH X.w) (pushCells (hp1.push { cls:=.type "dict",data:=.dict #[] }) scope.names) s2.heap.objs.size []:=⟨0,.fresh 0 0 (!dH X.w),X8 _ _ _ _ (Wd _ (by rw[<-hP];exact Wl _ rfl)),.inl ⟨rfl,rfl⟩⟩
 have ns:(pushCells (hp1.push { cls:=.type "dict",data:=.dict #[] }) scope.names).Ns hp1.objs.size λu=>none:=(Heap.Ns.new hp1 (.type "dict")).keeps (X8 _ _)
 have hfree:H2 s2.heap.objs.size=none:=I2.hok.fresh (Wg _);have IC:=Fe (t':=s2.toks) T I2 f2 hlt old (Wg _) hC hne hCe (Xm hC (Nat.le_succ _)) (Xw _) (Nat.lt_succ_of_le hC) rfl (BV new) ns;have OK:=IC.ok;have fok:∀H',(∀b∈fp,H' b=none)->∀b∈fp,FpOk (X.aZ aaD scope (cellsFrom (hp1.objs.size+1) scope.names cl) (own++fr) fp hp1.objs.size s2 H2) [] H' b:=λH' hn b hb=>by
  obtain⟨_,g2,g3,g4,g5,g6⟩:=f2 b hb;refine⟨hn b hb,Wu (Wo (hlt b hb) hC),λhm=>?_,.inl hb,(OK.exf b hb).2,λp hp=>g6 p (by simpa using hp)⟩
  rcases Wy.mp (I2.stkSub _ hm) with z | z
  ·exact g2 z
  ·exact g3 z
 have fp1:∀b∈fp,upd H2 s2.heap.objs.size (ji X.prog X.w s2.heap.objs.size []) b=none:=λb hb=>by rw[upd_ne (Wu (hlt b hb))];exact (f2 b hb).1
 have jb:J X.mg ρ1 M1 (upd H2 s2.heap.objs.size (ji X.prog X.w s2.heap.objs.size [])):=j1.lay _ hfree;have nf:=j1.fresh hfree;have st:CstS1 (X.aZ aaD scope (cellsFrom (hp1.objs.size+1) scope.names cl) (own++fr) fp hp1.objs.size s2 H2) [] s2.heap.objs.size ρ1 (upd H2 s2.heap.objs.size (ji X.prog X.w s2.heap.objs.size [])) (aP own.length js δ) [] M1 fp
   { s2 with heap:=pushCells (hp1.push { cls:=.type "dict",data:=.dict #[] }) scope.names,toks:=s2.toks }:=
  ⟨_,_,_,[],IC,.refl (λz=>nf (.inl z)),jb,(xf (ev.mono x1) _ _).mono (.lay hfree),upd_same,.inl ⟨rfl,rfl⟩,fp1⟩
 have tn0:tn 0 (pushCells (hp1.push { cls:=.type "dict",data:=.dict #[] }) scope.names):=Tn.keep _ _ _ st2 (λb u o e=>old b o e)
 have loop:codeAny (model X.prog X.w) X.A (.compLoop (.SetComp elt [⟨t0,i0,f0,0⟩] scope pos) 0 (.ref it) (.ref s2.heap.objs.size) (compEnvC scope (cellsFrom (hp1.objs.size+1) scope.names cl) hp1.objs.size X.env))
   (compPost (model X.prog X.w) X.A X.xe none (EP X aaD σ Q) (.ref s2.heap.objs.size) hp1.objs.size) { s2 with heap:=pushCells (hp1.push { cls:=.type "dict",data:=.dict #[] }) scope.names,toks:=s2.toks }:=by
  refine KY (X:=X.aZ aaD scope (cellsFrom (hp1.objs.size+1) scope.names cl) (own++fr) fp hp1.objs.size s2 H2) hc rfl (Sg ..) Ny (λP P' s hp h=>Wx h (λx s1 h1=>Wx h1 (λu s2 h2=>hp _ h2) λu u z=>z) λu u z=>z) (hg ..) (ht ..) (HN (X:=X.aZ aaD scope (cellsFrom (hp1.objs.size+1) scope.names cl) (own++fr) fp hp1.objs.size s2 H2) rfl hu (he ..)) Tn iok (λρ H x=>x.kpS hfree) fok st tn0 hrun λs' c'=>?_
  obtain⟨σ4,H4,ρ4,cs,I4,x4,j4,ev4,ha4,cl4,fr4⟩:=c'.ex;obtain⟨m4,hn4,_⟩:=I4.loc;refine⟨m4,hn4,λh' hsb'=>?_⟩
  have un:=Ci I4.base hsb' hC;have ok4:=xm I4.hok hsb' I4.free;exact⟨.ref s2.heap.objs.size,H4,I2.call' (s':={ s' with heap:=h' }) (ch:=fp) (I4.os) un ok4 I4.bare (λb hb=>by obtain⟨_,g2,g3,g4,g5,g6⟩:=f2 b hb;exact⟨g4,g2,g5,g6⟩),rfl,Go.pure (a:=lf) g3 ρ4 H4 (.ref s2.heap.objs.size) (x4.ext hfree) j4 ⟨_,cs,rfl,ha4,cl4⟩⟩
 show codeAny _ _ (.compStart _ 0 (.ref it) (.ref s2.heap.objs.size) (compEnvC scope (cellsFrom (hp1.objs.size+1) scope.names cl) hp1.objs.size X.env)) _ _;exact Gv rfl rfl loop (Tn.self X.A 0 _ _ _ tn0 loop)
def RZ:List D->Option D
 |[]=>none
 |d::_=>some (.lst [d])
theorem Fp
  (hh:X.A.handled=none) (hu:X.A.units+1<cLine) (hm:X.mg "sorted"=none) (hc:X.calm=true) (T:CompG X scope cl own js fr) (hi:DI X E t0 i0 fi)
  (hg:∀aaD m fp C s₂ H₂,DG (X.aZ aaD scope (cellsFrom m scope.names cl) (own++fr) fp C s₂ H₂) E0 t0 fg) (ht:∀aaD m fp C s₂ H₂,DTs (X.aZ aaD scope (cellsFrom m scope.names cl) (own++fr) fp C s₂ H₂) E0 f0 ft)
  (he:∀aaD m fp C s₂ H₂,DE (X.aZ aaD scope (cellsFrom m scope.names cl) (own++fr) fp C s₂ H₂) E0 elt fe)
  (hs:∀y,foldedSetIterable i0 X.env y=pure y:=by intro _;rfl) (hgl:Gl X "sorted":=by rfl) :
  DE X E (.Call (.Name "sorted" p1) [.SetComp elt [⟨t0,i0,f0,0⟩] scope pos] [] pos1) (λδ=>(fi δ>>=λit=>dq (bU fg ft (gP fe) it (aP own.length js δ) [])>>=λp=>pure p.2)>>=λl=>rd (λz=>RZ l)):=
 ⟨PE.mono (Ms (yR hh) hm (Rg (Jh hu hc T hi hg ht he hs) Jp) hgl) fun σ H Q h=>by
  obtain⟨ρ,δ,M,ev,j,g1⟩:=h;refine⟨ρ,δ,M,ev,j,g1.bind λρ1 H1 M1 x l e1 j1 c1 g2=>?_⟩
  obtain⟨acc,cs,rfl,ha,h1⟩:=c1;obtain⟨d,e,q⟩:=g2.rd;rcases h1 with ⟨rfl,rfl⟩ | ⟨c,rfl,ln,la,nc,hc⟩
  ·cases e
  ·cases l with
   |nil=>exact absurd rfl ln
   |cons d0 l=>
     cases e;refine⟨acc,c,rfl,ha,λp hp=>q ρ1 _ _ (.lay hp) (j1.lay _ hp) (.lst (j1.fresh hp) upd_same ?_)⟩
     rw[la d0 (by simp)]
     exact (Cvs.cons (.tup nc hc (Cvs.ints _)) .nil:Cvs X.mg ρ1 H1 [V.ref c.1] [tupI c.2]).mono (.lay hp)⟩
end L3
namespace L3
open PySem PySem.Spec L2
open PyProof.Rows hiding St
set_option tactic.hygienic true in
theorem Df(ht:J7 tg)(hg:Gl X "zip")(hm:X.mg "zip"=none)(ha:DA X E [a,b] fa)(hs:notStar a=true:=by rfl)(hs2:notStar b=true:=by rfl):
  DI X E tg (.Call (.Name "zip" p) [a,b] [] pos) (λδ=>fa δ>>=λl=>opt (sY l)):=⟨by
 intro aaD s σ H R I h;obtain⟨ρ,δ,M,ev,j,g1⟩:=h;refine Call_ (ld_blt I hg hm boot_zip (Xe (thn (ha.h.h pos aaD s σ H (λvs H1=>∃ρ1 M1 ds,Ext ρ H ρ1 H1/\J X.mg ρ1 M1 H1/\Cvs X.mg ρ1 H1 vs ds/\Go X.mg E (ItOk X.mg) R ρ1 H1 (opt (sY ds)) M1) I ⟨ρ,δ,M,ev,j,g1.bind λρ1 H1 M1 vs ds e1 j1 c1 g2=>⟨ρ1,M1,ds,e1,j1,c1,g2⟩⟩) λus s1 h1=>?_) (aW hs) (by rw[aW hs2];rfl)))
 obtain⟨vs,H1,I1,rv,ρ1,M1,ds,e1,j1,c1,g2⟩:=h1;obtain⟨itn,ei,q⟩:=g2.opt;unfold sY at ei;split at ei;rotate_left
 ·cases ei
 rename_i dx dy;split at ei;rotate_left
 ·cases ei
 rename_i b1 l b2 m f1 f2;cases ei;obtain⟨v1,v2,rfl,k1,k2⟩:=c1.two;obtain⟨a1,xs,rfl,n1,h1,cx⟩:=Af (K:=X.K) k1 f1;obtain⟨a2,ys,rfl,n2,h2,cy⟩:=Af (K:=X.K) k2 f2;obtain⟨u1,u2,rfl,r1,r2⟩:=vals2 rv;cases r1;cases r2;obtain⟨its1,w1,p1,_⟩:=I1.seqS (my (K:=X.K) h1);obtain⟨its2,w2,p2,_⟩:=I1.seqS (my (K:=X.K) h2);refine Hx p1 p2 λh' a1' a2' a3 a4 a5 a6 a7=>wpAny_pyIter_zip a1' ?_
 have lt1:@LT.lt Nat _ a1 s1.heap.objs.size:=p1.lt;have lt2:@LT.lt Nat _ a2 s1.heap.objs.size:=p2.lt;have D:ZipApart (s1.heap.objs.size+4) (s1.heap.objs.size+2) (s1.heap.objs.size+3) s1.heap.objs.size (s1.heap.objs.size+1) a1 a2:=by constructor<;>exact λ(h:@Eq Nat _ _)=>by have:=lt1;have:=lt2;lia
 have I2:Inv X aaD σ H1 { s1 with heap:=h' }:=I1.kept (t':=s1.toks) a7
 refine⟨_,_,_,_,H1,rfl,I2,J1 ht D,⟨⟨_,_,a1',.inl rfl⟩,a2',⟨_,_,a3⟩,a4.1,a5.1⟩,λb hb=>?_,q ρ1 H1 _ .refl j1 (Qx n1 n2 h1 h2 cx cy)⟩
 refine I1.fpOk ?_ (I1.hok.fresh ?_)<;>(simp only[List.mem_cons,List.mem_nil_iff,or_false]at hb;rcases hb with rfl | rfl | rfl | rfl | rfl<;>lia)⟩
theorem Nm(hg:Gl X "zip")(hm:X.mg "zip"=none)(ha:DA X E [a,b] fa)(hs:notStar a=true:=by rfl)(hs2:notStar b=true:=by rfl):
  DI X E (.Name nm tp) (.Call (.Name "zip" p) [a,b] [] pos) (λδ=>fa δ>>=λl=>opt (sY l)):=Df (.inl ⟨_,_,rfl⟩) hg hm ha hs hs2
theorem Np(hg:Gl X "zip")(hm:X.mg "zip"=none)(ha:DA X E [a,b] fa)(hs:notStar a=true:=by rfl)(hs2:notStar b=true:=by rfl):
  DI X E (.Tuple elts kt tp) (.Call (.Name "zip" p) [a,b] [] pos) (λδ=>fa δ>>=λl=>opt (sY l)):=Df (.inr ⟨_,_,_,rfl⟩) hg hm ha hs hs2
end L3
namespace L3
open PySem PySem.Spec L2 LB
end L3
namespace L3
open PySem PySem.Spec L2
open PyProof.Rows hiding St
section
variable{X:Cx}{E:XK}{a:Expr}{fa:ak->DM D}{fs:ak->DM (List D)}{pos p1 p2 p3 p4:Pos}
def nb(b:Bool):Int:=if b=true then 1 else 0
end
end L3
namespace L2
open PySem PySem.Spec PyProof.Rows LS
end L2
namespace L3
open PySem PySem.Spec L2
end L3
namespace L3
open PySem PySem.Spec L2 PyProof.Rows
end L3
namespace L3
open PySem PySem.Spec L2
open PyProof.Rows hiding St
abbrev AT:=L2.St->Rh->Hp->Prop
def tA(An:AT)(mg:Str->Option Value)(E:XK)(f:ak->DM D):TE:=λσ H Q=>∃ρ δ M,An σ ρ H/\Ev mg ρ H σ δ/\J mg ρ M H/\Go mg E (Cv mg) Q ρ H (f δ) M
open PySem PySem.Spec L2
open PyProof.Rows hiding St
end L3
namespace L2
open PySem PySem.Spec PyProof.Rows LS
end L2
namespace L3
open PySem PySem.Spec L2
open PyProof.Rows hiding St
open PySem PySem.Spec L2
open PyProof.Rows hiding St
end L3
namespace L3
open PySem PySem.Spec L2
open PyProof.Rows hiding St
end L3
namespace L3
open PySem PySem.Spec PyProof.Rows L2
end L3
namespace L3
open PySem PySem.Spec L2 LA LB LS
open PyProof.Rows hiding St
end L3
namespace L3
open PySem PySem.Spec L2
open PyProof.Rows hiding St
variable{X:Cx}{E:XK}
end L3
namespace L3
open PySem PySem.Spec PyProof.Rows L2
structure DefAtG(K:PySem.W.Frag)(mg:Str->Option Value)(x:Str)(st:Stmt)(ps:List Str)(is:List Int):Prop where
 ex:∃(f:Addr) (oc:Value) (od:Option Addr) (dV kV doc pm:Value) (an:Option Addr) (cdv ct:Value) (osl:Array (Option Value)) (us:List Value),
  K.lookup f=some ⟨oc,od,.func (PySem.W.fnOf x x (defArgs st) (defBody st) (defScope st) dV kV doc pm an cdv ct),osl⟩/\PySem.W.codeIn K cdv x=true/\PySem.W.keepIn K (.ref f)=true/\mg x=some (.ref f)/\Binds K (PySem.W.fnOf x x (defArgs st) (defBody st) (defScope st) dV kV doc pm an cdv ct) ps us/\Vals (is.map V.int) us
structure TG(K:PySem.W.Frag)(x:Str)(st:Stmt)(ps:List Str)(is:List Int):Prop where
 ex:∀{h:Heap}{mg:Mg},K.In h->h.Ns mainGlobals mg->DefAtG K mg x st ps is
theorem Uh{K:PySem.W.Frag}{x:Str}{st:Stmt}{f:Addr}{oc:Value}{od an:Option Addr}{osl:Array (Option Value)}{dV kV doc pm cdv ct:Value}(n:Nat){ps:List Str}{i j:Int}{t u:Tok}(hn:ps.length=n+2)
  (a:PySem.W.nsIn K mainGlobals x=some (some (.ref f))) (l:K.lookup f=some ⟨oc,od,.func (PySem.W.fnOf x x (defArgs st) (defBody st) (defScope st) dV kV doc pm an cdv ct),osl⟩) (c:PySem.W.codeIn K cdv x=true) (k:PySem.W.keepIn K (.ref f)=true)
  (b:∀(S:PySem.Setting) (us:List Value),us.length=n->PySem.W.peek K S (bindArgs (PySem.W.fnOf x x (defArgs st) (defBody st) (defScope st) dV kV doc pm an cdv ct) ⟨us,[]⟩)=some (ps.zip (us++[.int i t,.int j u]))):TG K x st ps [i,j]:=
 ⟨λX G=>⟨f,oc,od,dV,kV,doc,pm,an,cdv,ct,osl,_,l,c,k,ZX X G a,Ey (ds:=[.int i t,.int j u]) n hn b,.cons ⟨t,rfl⟩ Lw⟩⟩
theorem VD{P:Program}{w:World}{K:PySem.W.Frag}{mg:Mg}{base:Heap}{k:Nat}{x:Str}{N ps:List Str}{st:Stmt}{fb:ak->DM Fl}{is:List Int}(T:DefAtG K mg x st ps is)(S:FnScope N ps (defScope st))(hbody:∀{f cdv A outer s H E},Rm k A x st s f cdv->Ds P w K mg base N x st f cdv A outer s H E fb):DefF P w K mg base (k+1) x ps (is.map D.int) (aG ps.length N.length fb):=by
 obtain⟨f,oc,od,dV,kV,doc,pm,an,cdv,ct,osl,us,lk,hcd,kp,m,hb,v⟩:=T.ex;refine⟨f,_,_,us,fn_of lk hcd S (λvs H Q E h=>?_) λA outer s H vs Q E hr h=>?_,kp,m,hb,v,λρ H=>PJ is⟩
 ·obtain⟨ρ,M,ds,c,j,g⟩:=h;rw[c.len];exact (bh.aG g).1
 ·obtain⟨ρ,M,ds,c,j,g⟩:=h;exact⟨_,(hbody hr).h,ρ,_,M,lJ c,j,(bh.aG g).2⟩
end L3
namespace L3
open PySem PySem.Spec L2
open PyProof.Rows hiding St
def Dk:List D->Mo->Option Nat
 |[.ref n],M=>match M[n]? with
   |some (.lst _)=>some n
   |_=>none
 |_,_=>none
def gQ(n i:Nat)(M:Mo):Option (Option D):=match M[n]? with
 |some (.lst l)=>some (l[i]?.map λx=>.tup [.int (i:Int),x])
 |_=>none
structure ItEn(mg:Str->Option Value)(ρ:Rh)(H:Hp)(Jt:It)(n:Nat):Prop where
 item:∀(i:Nat) ρ' H' M' d,Kp ρ H ρ' H'->J mg ρ' M' H'->gQ n i M'=some (some d)->Jt.go i H'/\∀x H2,Jt.yld i H' x H2->Ext ρ' H' ρ' H2/\J mg ρ' M' H2/\Cv mg ρ' H2 x d
 stop:∀(i:Nat) ρ' H' M',Kp ρ H ρ' H'->J mg ρ' M' H'->gQ n i M'=some none->Jt.stop i H'
set_option tactic.hygienic true in
theorem SM{mg:Str->Option Value}{ρ:Rh}{H:Hp}{K:PySem.W.Frag}{a:Addr}{n:Nat}(h:ρ.st[n]?=some a):ItEn mg ρ H (O8 K false a) n where
 item:=λi ρ' H' M' d e j q=>by
  unfold gQ at q;split at q
  ·rename_i l hl;obtain⟨xs,hx,c⟩:=j.obj n a _ (e.at h) hl;obtain⟨dx,e1,rfl⟩:=Wi.mp (Wq q);obtain⟨x,hx1,cx⟩:=c.get e1;have k1:lw false K H' a xs:=my (b:=false) hx;refine⟨⟨xs,x,k1,hx1⟩,λv H2 z=>?_⟩
   obtain⟨p,hp,rfl,z⟩:=z;obtain⟨x',hx',rfl⟩:=z xs k1;rw[hx1]at hx';cases hx';exact⟨.lay hp,j.lay _ hp,.tup (j.fresh hp) upd_same (.cons (.int _) (.cons (cx.mono (.lay hp)) .nil))⟩
  ·cases q
 stop:=λi ρ' H' M' e j q=>by
  unfold gQ at q;split at q
  ·rename_i l hl;obtain⟨xs,hx,c⟩:=j.obj n a _ (e.at h) hl;have hq:=Option.map_eq_none_iff.mp (Wq q);exact⟨xs,my (b:=false) hx,Wz.mpr (by rw[c.len];exact Wz.mp hq)⟩
  ·cases q
set_option tactic.hygienic true in
theorem Ra{X:Cx}{E:XK}{elts:List Expr}{kt:Nat}{tp:Pos}{a:Expr}{fa:ak->DM (List D)}{p pos:Pos}(hg:Gl X "enumerate")(hm:X.mg "enumerate"=none)(ha:DA X E [a] fa)(hs:notStar a=true:=by rfl):
  PI X (.Tuple elts kt tp) (.Call (.Name "enumerate" p) [a] [] pos) (tD X.mg E (ItEn X.mg) (λδ=>fa δ>>=λl=>rd (Dk l))):=by
 intro aaD s σ H R I h;obtain⟨ρ,δ,M,ev,j,g1⟩:=h;refine Call_ (ld_blt I hg hm yq (Xe (thn (ha.h.h pos aaD s σ H (λvs H1=>∃ρ1 M1 ds,Ext ρ H ρ1 H1/\J X.mg ρ1 M1 H1/\Cvs X.mg ρ1 H1 vs ds/\Go X.mg E (ItEn X.mg) R ρ1 H1 (rd (Dk ds)) M1) I ⟨ρ,δ,M,ev,j,g1.bind λρ1 H1 M1 vs ds e1 j1 c1 g2=>⟨ρ1,M1,ds,e1,j1,c1,g2⟩⟩) λus s1 h1=>?_) (aW hs) (by rfl)))
 obtain⟨vs,H1,I1,rv,ρ1,M1,ds,e1,j1,c1,g2⟩:=h1;obtain⟨n,ei,q⟩:=g2.rd;unfold Dk at ei;split at ei;rotate_left
 ·cases ei
 split at ei;rotate_left
 ·cases ei
 rename_i n' l hl;cases ei;cases c1 with
 |cons k1 c1=>
 cases c1;cases k1 with
 |ref hn=>
 rename_i a1;obtain⟨xs,hx,cx⟩:=j1.obj _ _ _ hn hl;have h1:lw false X.K H1 a1 xs:=my (b:=false) hx;cases rv with
 |cons r1 rv=>
 cases rv;cases r1;obtain⟨its1,w1,p1,_⟩:=I1.seqS h1;refine vP p1 λh' a1' a2' a3 a4=>wpAny_pyIter_enum a1' ?_
 have lt1:@LT.lt Nat _ a1 s1.heap.objs.size:=p1.lt;have I2:Inv X aaD σ H1 { s1 with heap:=h' }:=I1.kept (t':=s1.toks) a4
 refine⟨_,_,_,_,H1,rfl,I2,yP (b:=false) (e:=s1.heap.objs.size+1) (it:=s1.heap.objs.size) (l:=a1) (λ(h:@Eq Nat _ _)=>by lia) (λ(h:@Eq Nat _ _)=>by lia) (λ(h:@Eq Nat _ _)=>by lia),⟨⟨_,a1'⟩,a2'.1⟩,λb hb=>?_,q ρ1 H1 _ .refl j1 (SM hn)⟩
 refine I1.fpOk ?_ (I1.hok.fresh ?_)<;>(simp only[List.mem_cons,List.mem_nil_iff,or_false]at hb;rcases hb with rfl | rfl<;>lia)
def nq(tg:D->ak->DM ak)(fb:ak->DM Fl)(n:Nat):Nat->Nat->ak->DM Fl
 |0,_,_=>stuck
 | k + 1,i,δ=>rd (gQ n i) >>= λo=>match o with
   |none=>pure (.nx δ)
   |some d=>tg d δ>>=λδ1=>fb δ1>>=λr=>match r with
     |.nx δ2=>nq tg fb n k (i+1) δ2
     |.ct δ2=>nq tg fb n k (i+1) δ2
     |.bk δ2=>pure (.nx δ2)
     |.rt d=>pure (.rt d)
theorem Nu{X:Cx}{E:XK}{elts:List Expr}{kt:Nat}{tp:Pos}{a:Expr}{body:List Stmt}{fa:ak->DM (List D)}{fg:D->ak->DM ak}{fb:ak->DM Fl}{p pos fpos:Pos}(N:Nat)(hp:PassesOwn (model X.prog X.w) X.A X.env X.xe)(hc:X.calm=true)(hgl:Gl X "enumerate")(hm:X.mg "enumerate"=none)(ha:DA X E [a] fa)(hg:DG X E (.Tuple elts kt tp) fg)(hb:DSs X E body fb)(hs:notStar a=true:=by rfl)
  (hfs:∀x,foldedSetIterable (.Call (.Name "enumerate" p) [a] [] pos) X.env x=pure x:=by intro _;rfl):DS X E (.For (.Tuple elts kt tp) (.Call (.Name "enumerate" p) [a] [] pos) body [] fpos) (λδ=>fa δ>>=λl=>rd (Dk l)>>=λn=>nq fg fb n N 0 δ):=⟨PS.mono (ps_for hp hc (Ra hgl hm ha hs) hg.h hb.h hfs) λD σ H h=>by
 obtain⟨ρ,δ,M,ev,j,g1⟩:=h;refine⟨ρ,δ,M,ev,j,?_⟩;have g1:bh X.mg E D ρ H ((fa δ>>=λl=>rd (Dk l))>>=λn=>nq fg fb n N 0 δ) M:=by rw[aO];exact g1
 refine g1.bind λρ1 H1 M1 Jt n e1 j1 iok g2=>?_
 refine⟨λi m σ H=>∃ρ' δ' M',Ext ρ1 H1 ρ' H/\Ev X.mg ρ' H σ δ'/\J X.mg ρ' M' H/\bh X.mg E D ρ' H (nq fg fb n m i δ') M',⟨N,ρ1,δ,M1,.refl,ev.mono e1,j1,g2⟩,?_⟩
 rintro i m σ2 H2 ⟨ρ2,δ2,M2,e2,ev2,j2,g3⟩;cases m with
 |zero=>obtain⟨r,e,_⟩:=g3;cases e
 | succ m=>
   obtain⟨o,eo,g4⟩:=bh.rdb g3;cases o with
   |none=>exact .inl ⟨iok.stop i ρ2 H2 M2 e2.kp j2 eo,bh.pure (a:=.nx δ2) g4 ρ2 H2 σ2 .refl j2 ev2⟩
   |some d=>
     obtain⟨go,yl⟩:=iok.item i ρ2 H2 M2 d e2.kp j2 eo;refine .inr ⟨go,λσ' H'=>∃ρ' δ' M',Ext ρ1 H1 ρ' H'/\Ev X.mg ρ' H' σ' δ'/\J X.mg ρ' M' H'/\bh X.mg E D ρ' H' (nq fg fb n m (i+1) δ') M',λσ' H' z=>⟨m,Xw _,z⟩,λx H' y=>?_⟩
     obtain⟨x1,x2,x3⟩:=yl x H' y;exact uU ev2 x1 x2 x3 g4 λρ3 δ3 M3 σ3 H3 f1 f2 f3 f4=>⟨ρ3,δ3,M3,e2.trans f1,f2,f3,f4⟩⟩
end L3
namespace L3
open PySem PySem.Spec L2
def Iv(x y:D)(M:Mo):Option D:=match x with
 |.ref n=>match M[n]? with
   |some (.lst l)=>mY (.lst l) y M
   |_=>none
 |_=>none
set_option tactic.hygienic true in
theorem Q8{X:Cx}{E:XK}(hu:X.A.units + 64<cLine):cF X E (compareOp .NotEq) (λx y=>rd (Iv x y)):=by
 intro aaD s σ H x y v u Q I rx ry q;obtain⟨ρ,M,dx,dy,j,cx,cy,g⟩:=q;obtain⟨d,e,q⟩:=Go.rd g;unfold Iv at e;split at e
 ·split at e
  ·rename_i n _ l hl;cases cx with | ref hn=>
   obtain⟨xs,hx,c⟩:=j.obj _ _ _ hn hl;obtain⟨b,hb,rfl⟩:=Wi.mp e;rcases HQ hb with ⟨_,_,z,_⟩ | hb
   ·cases z
   ·obtain⟨p,p',k1,k2,h3,h4,h5,rfl⟩:=HR hb;obtain⟨ps,e1,e2⟩:=Wi.mp (show (fB l).map PyData.list=some p from k1)
    have rp:RepF H true _ (PyData.list ps):=.lst hx (c.repF e1);rw[e2]at rp;refine Jd hu aaD s σ H _ y v u Q I rx ry ⟨p,p',rp.toRep,(cy.repF k2).toRep,h3,h4,h5,?_⟩;simpa using q ρ H _ .refl j (.bl _)
  ·cases e
 ·cases e
end L3
namespace N10
theorem cN(c:Nat)(f:Nat->Nat):∀ n:Nat,S n (λy=>c * f y)=c * S n f
 |0=>rfl
 |n+1=>by
   show S n (λy=>c*f y)+c*f n=c*(S n f+f n)
   rw[cN c f n,Y8]
theorem qR(c:Nat)(f:Nat->Nat)(n:Nat):S n (λy=>f y*c)=S n f*c:=by rw[Xk,<-cN];exact bB λi z=>Xk _ _
end N10
namespace N60
def SR(f:Nat->Int):Nat->Nat->Int
 |_,0=>0
 |k,n+1=>f k+SR f (k+1) n
theorem Hk:∀ (n k:Nat),(∀ j,k<=j->j<k + n->d * f j=g j * p - q * h j)->d * SR f k n=SR g k n * p - q * SR h k n
 |0,k,_=>by simp[SR]
 |n+1,k,e=>by
   have e1:=e k (Wg _) (by lia)
   have e2:=Hk n (k+1) λj h1 h2=>e j (by lia) (by lia)
   simp only[SR]
   grind
theorem qQ:∀ (n k:Nat),(∀ j,k<=j->j<k + n->f j<=0)->SR f k n<=0
 |0,k,_=>by simp[SR]
 |n+1,k,e=>by
   have e1:=e k (Wg _) (by lia)
   have e2:=qQ n (k+1) λj h1 h2=>e j (by lia) (by lia)
   simp only[SR]
   lia
theorem LK:∀ (n k i:Nat),(∀ j,k<=j->j<k + n->f j<=0)->k<=i->i<k + n->SR f k n<=f i
 |0,k,i,_,h1,h2=>by lia
 | n + 1,k,i,e,h1,h2=>by
   have e1:=e k (Wg _) (by lia)
   simp only[SR];by_cases c:i=k
   ·subst c;have:=qQ n (i+1) λj h1 h2=>e j (by lia) (by lia)
    lia
   ·have:=LK n (k+1) i (λj h1 h2=>e j (by lia) (by lia)) (by lia) (by lia)
    lia
inductive RL(B:Nat->Nat->Int)(k n:Nat):Nat->Prop
 |leak {i:Nat}:0<SR (B i) k n->RL B k n i
 |step {i j:Nat}:k<=j->j<k+n->i≠j->B i j<0->RL B k n j->RL B k n i
structure MS(B:Nat->Nat->Int)(k n:Nat):Prop where
 off:∀i j,k<=i->i<k+n->k<=j->j<k+n->i≠j->B i j<=0
 sum:∀i,k<=i->i<k+n->0<=SR (B i) k n
 rch:∀i,k<=i->i<k+n->RL B k n i
theorem MS.pivot(h:MS B k (n + 1)):0<B k k:=by
 have np:∀j,k+1<=j->j<k+1+n->B k j<=0:=λj h1 h2=>h.off k j (Wg _) (by lia) (by lia) (by lia) (by lia)
 have r:=h.rch k (Wg _) (by lia)
 cases r with
 |leak l=>
   simp only[SR]at l;have:=qQ n (k+1) np
   lia
 | @step _ j h1 h2 ne lt _=>
   have a:=LK n (k+1) j np (by lia) (by lia)
   have s:=h.sum k (Wg _) (by lia)
   simp only[SR]at s
   lia
theorem Iw{d x:Int}(hd:0<d)(h:d*x<0):x<0:=by
 rcases Int.lt_or_le x 0 with c | c
 ·exact c
 ·have:=Y9 (aaf hd) c;lia
theorem I9{d x:Int}(hd:0<d)(h:d*x<=0):x<=0:=by
 rcases Int.lt_or_le 0 x with c | c
 ·have:=ZR hd c;lia
 ·exact c
theorem I8{d x:Int}(hd:0<d)(h:0<=d*x):0<=x:=by
 rcases Int.lt_or_le x 0 with c | c
 ·have:=ZR hd (show 0 < -x by lia);rw[Int.mul_neg]at this;lia
 ·exact c
theorem Jm{d x:Int}(hd:0<d)(h:0<d*x):0<x:=by
 rcases Int.lt_or_le 0 x with c | c
 ·exact c
 ·have:=Y9 (aaf hd) (show 0<=-x by lia);rw[Int.mul_neg]at this;lia
set_option tactic.hygienic true in
theorem MS.step{B B':Nat->Nat->Int}{k n:Nat}{d:Int}(h:MS B k (n + 1))(hd:0<d)(e:∀ i j,k + 1<=i->i<k + 1 + n->k + 1<=j->j<k + 1 + n->d * B' i j=B i j * B k k - B i k * B k j):MS B' (k + 1) n:=by
 have p:=h.pivot;have lk:=h.sum k (Wg _) (by lia)
 have ik:∀i,k+1<=i->i<k+1+n->B i k<=0:=λi h1 h2=>h.off i k (by lia) (by lia) (Wg _) (by lia) (by lia)
 have kj:∀i,k+1<=i->i<k+1+n->B k i<=0:=λi h1 h2=>h.off k i (Wg _) (by lia) (by lia) (by lia) (by lia)
 have es:∀i,k+1<=i->i<k+1+n->d*SR (B' i) (k+1) n=SR (B i) k (n+1)*B k k-B i k*SR (B k) k (n+1):=λi h1 h2=>by
  have:=Hk (f:=B' i) (g:=B i) (h:=B k) (p:=B k k) (q:=B i k) (d:=d) n (k+1) λj h3 h4=>e i j h1 h2 h3 h4
  simp only[SR]
  grind
 have li:∀i,k+1<=i->i<k+1+n->0<=SR (B i) k (n+1)*B k k:=λi h1 h2=>Y9 (h.sum i (by lia) (by lia)) (aaf p)
 have lq:∀i,k+1<=i->i<k+1+n->B i k*SR (B k) k (n+1)<=0:=λi h1 h2=>by
  have:=Y9 (show 0<=-B i k by have:=ik i h1 h2;lia) lk
  rw[Int.neg_mul]at this;lia
 have pq:∀i j,k+1<=i->i<k+1+n->k+1<=j->j<k+1+n->0<=B i k*B k j:=λi j h1 h2 h3 h4=>by
  have:=Y9 (show 0<=-B i k by have:=ik i h1 h2;lia) (show 0<=-B k j by have:=kj j h3 h4;lia)
  rw[Int.neg_mul_neg]at this;exact this
 have op:∀i j,k+1<=i->i<k+1+n->k+1<=j->j<k+1+n->i≠j->B i j*B k k<=0:=λi j h1 h2 h3 h4 ne=>by
  have:=Y9 (show 0<=-B i j by have:=h.off i j (by lia) (by lia) (by lia) (by lia) ne;lia) (aaf p)
  rw[Int.neg_mul]at this;lia
 have off':∀i j,k+1<=i->i<k+1+n->k+1<=j->j<k+1+n->i≠j->B' i j<=0:=λi j h1 h2 h3 h4 ne=>I9 hd (by rw[e i j h1 h2 h3 h4];have:=op i j h1 h2 h3 h4 ne;have:=pq i j h1 h2 h3 h4;lia)
 refine⟨off',λi h1 h2=>I8 hd (by rw[es i h1 h2];have:=li i h1 h2;have:=lq i h1 h2;lia),?_⟩
 have key:∀ i,RL B k (n + 1) i->k<=i->i<k + 1 + n->(k + 1<=i->RL B' (k + 1) n i)/\(i=k->0<SR (B k) k (n + 1)\/∃ j,k + 1<=j/\j<k + 1 + n/\B k j<0/\RL B' (k + 1) n j):=by
  intro i r;induction r with
  |leak l=>
    rename_i i;intro h1 h2;refine⟨λh3=>.leak (Jm hd ?_),λh3=>.inl (h3 ▸ l)⟩
    rw[es i h3 h2];have:=ZR l p;have:=lq i h3 h2
    lia
  | step g1 g2 ne lt r ih=>
    rename_i i j;intro h1 h2;have ihj:=ih g1 (by lia)
    refine⟨λh3=>?_,λh3=>?_⟩
    ·by_cases c:j=k
     ·rcases ihj.2 c with z | ⟨j',a1,a2,a3,a4⟩
      ·refine .leak (Jm hd ?_);rw[es i h3 h2];have:=li i h3 h2;have:=ZR (show 0 < -B i k by rw[c]at lt;lia) z
       rw[Int.neg_mul]at this
       lia
      ·by_cases c2:i=j'
       ·rw[c2];exact a4
       ·refine .step a1 a2 c2 (Iw hd ?_) a4;rw[e i j' h3 h2 a1 a2];have:=op i j' h3 h2 a1 a2 c2;have:=ZR (show 0 < -B i k by rw[c]at lt;lia) (show 0 < -B k j' by lia)
        rw[Int.neg_mul_neg]at this
        lia
     ·refine .step (by lia) (by lia) ne (Iw hd ?_) (ihj.1 (by lia))
      rw[e i j h3 h2 (by lia) (by lia)]
      have:=pq i j h3 h2 (by lia) (by lia)
      have:=ZR (show 0 < -B i j by lia) p
      rw[Int.neg_mul]at this
      lia
    ·have jk:k+1<=j:=by clear ihj ih;lia
     have jn:j<k+1+n:=by clear ihj ih;lia
     exact .inr ⟨j,jk,jn,h3 ▸ lt,ihj.1 jk⟩
 exact λi h1 h2=>(key i (h.rch i (by lia) (by lia)) (by lia) h2).1 h1
def D2(A:Nat->Nat->Int)(i j:Nat):Int:=A i j*A 0 0-A i 0*A 0 j
def D3(A:Nat->Nat->Int)(i j:Nat):Int:=A 0 0*(A 1 1*A i j-A 1 j*A i 1)-A 0 1*(A 1 0*A i j-A 1 j*A i 0)+A 0 j*(A 1 0*A i 1-A 1 1*A i 0)
def d3(a b c d e f g h i:Int):Int:=a*(e*i-f*h)-b*(d*i-f*g)+c*(d*h-e*g)
def D4(A:Nat->Nat->Int)(i j:Nat):Int:=
 A 0 0*d3 (A 1 1) (A 1 2) (A 1 j) (A 2 1) (A 2 2) (A 2 j) (A i 1) (A i 2) (A i j)-A 0 1*d3 (A 1 0) (A 1 2) (A 1 j) (A 2 0) (A 2 2) (A 2 j) (A i 0) (A i 2) (A i j)
 + A 0 2*d3 (A 1 0) (A 1 1) (A 1 j) (A 2 0) (A 2 1) (A 2 j) (A i 0) (A i 1) (A i j)-A 0 j*d3 (A 1 0) (A 1 1) (A 1 2) (A 2 0) (A 2 1) (A 2 2) (A i 0) (A i 1) (A i 2)
theorem e3(A:Nat->Nat->Int)(i j:Nat):A 0 0*D3 A i j=D2 A i j*D2 A 1 1-D2 A i 1*D2 A 1 j:=by unfold D3 D2;grind
theorem e4(A:Nat->Nat->Int)(i j:Nat):D2 A 1 1*D4 A i j=D3 A i j*D3 A 2 2-D3 A i 2*D3 A 2 j:=by unfold D4 D3 D2 d3;grind
def jV(A:Nat->Nat->Int):Nat->Int
 |0=>1
 |1=>A 0 0
 |2=>D2 A 1 1
 |3=>D3 A 2 2
 |_=>D4 A 3 3
theorem MS.two(h:MS A 0 (n+1)):MS (D2 A) 1 n:=h.step (d:=1) (by decide) λi j z z z z=>by unfold D2;lia
theorem MS.three(h:MS A 0 (n+2)):MS (D3 A) 2 n:=(MS.two (n:=n+1) h).step (d:=A 0 0) (MS.pivot (n:=n+1) h) λi j z z z z=>e3 A i j
theorem MS.four(h:MS A 0 (n+3)):MS (D4 A) 3 n:=(MS.three (n:=n+1) h).step (d:=D2 A 1 1) (MS.pivot (n:=n+1) (MS.two (n:=n+2) h)) λi j z z z z=>e4 A i j
theorem Nb:∀{m:Nat},m<=4->MS A 0 m->0<jV A m
 |0,_,_=>by show (0:Int)<1;decide
 |1,_,h=>h.pivot
 |2,_,h=>(MS.two (n:=1) h).pivot
 |3,_,h=>(MS.three (n:=1) h).pivot
 |4,_,h=>(MS.four (n:=1) h).pivot
 |n+5,h,_=>by lia
def d4(a b c d e f g h i j k l m n o p:Int):Int:=a*d3 f g h j k l n o p-b*d3 e g h i k l m o p+c*d3 e f h i j l m n p-d*d3 e f g i j k m n o
theorem Ri(l00 l01 l02 l03 l10 l11 l12 l13 l20 l21 l22 l23 l30 l31 l32 l33 l40 l41 l42 l43:Int):d4 (l10) (l11) (l12) (l13) (l20) (l21) (l22) (l23) (l30) (l31) (l32) (l33) (l40) (l41) (l42) (l43)*l00-d4 (l00) (l01) (l02) (l03) (l20) (l21) (l22) (l23) (l30) (l31) (l32) (l33) (l40) (l41) (l42) (l43)*l10+d4 (l00) (l01) (l02) (l03) (l10) (l11) (l12) (l13) (l30) (l31) (l32) (l33) (l40) (l41) (l42) (l43)*l20-d4 (l00) (l01) (l02) (l03) (l10) (l11) (l12) (l13) (l20) (l21) (l22) (l23) (l40) (l41) (l42) (l43)*l30+d4 (l00) (l01) (l02) (l03) (l10) (l11) (l12) (l13) (l20) (l21) (l22) (l23) (l30) (l31) (l32) (l33)*l40=0:=by unfold d4 d3;grind
theorem Rj(l00 l01 l02 l03 l10 l11 l12 l13 l20 l21 l22 l23 l30 l31 l32 l33 l40 l41 l42 l43:Int):d4 (l10) (l11) (l12) (l13) (l20) (l21) (l22) (l23) (l30) (l31) (l32) (l33) (l40) (l41) (l42) (l43)*l01-d4 (l00) (l01) (l02) (l03) (l20) (l21) (l22) (l23) (l30) (l31) (l32) (l33) (l40) (l41) (l42) (l43)*l11+d4 (l00) (l01) (l02) (l03) (l10) (l11) (l12) (l13) (l30) (l31) (l32) (l33) (l40) (l41) (l42) (l43)*l21-d4 (l00) (l01) (l02) (l03) (l10) (l11) (l12) (l13) (l20) (l21) (l22) (l23) (l40) (l41) (l42) (l43)*l31+d4 (l00) (l01) (l02) (l03) (l10) (l11) (l12) (l13) (l20) (l21) (l22) (l23) (l30) (l31) (l32) (l33)*l41=0:=by unfold d4 d3;grind
theorem Rk(l00 l01 l02 l03 l10 l11 l12 l13 l20 l21 l22 l23 l30 l31 l32 l33 l40 l41 l42 l43:Int):d4 (l10) (l11) (l12) (l13) (l20) (l21) (l22) (l23) (l30) (l31) (l32) (l33) (l40) (l41) (l42) (l43)*l02-d4 (l00) (l01) (l02) (l03) (l20) (l21) (l22) (l23) (l30) (l31) (l32) (l33) (l40) (l41) (l42) (l43)*l12+d4 (l00) (l01) (l02) (l03) (l10) (l11) (l12) (l13) (l30) (l31) (l32) (l33) (l40) (l41) (l42) (l43)*l22-d4 (l00) (l01) (l02) (l03) (l10) (l11) (l12) (l13) (l20) (l21) (l22) (l23) (l40) (l41) (l42) (l43)*l32+d4 (l00) (l01) (l02) (l03) (l10) (l11) (l12) (l13) (l20) (l21) (l22) (l23) (l30) (l31) (l32) (l33)*l42=0:=by unfold d4 d3;grind
theorem Ro(l00 l01 l02 l03 l10 l11 l12 l13 l20 l21 l22 l23 l30 l31 l32 l33 l40 l41 l42 l43:Int):d4 (l10) (l11) (l12) (l13) (l20) (l21) (l22) (l23) (l30) (l31) (l32) (l33) (l40) (l41) (l42) (l43)*l03-d4 (l00) (l01) (l02) (l03) (l20) (l21) (l22) (l23) (l30) (l31) (l32) (l33) (l40) (l41) (l42) (l43)*l13+d4 (l00) (l01) (l02) (l03) (l10) (l11) (l12) (l13) (l30) (l31) (l32) (l33) (l40) (l41) (l42) (l43)*l23-d4 (l00) (l01) (l02) (l03) (l10) (l11) (l12) (l13) (l20) (l21) (l22) (l23) (l40) (l41) (l42) (l43)*l33+d4 (l00) (l01) (l02) (l03) (l10) (l11) (l12) (l13) (l20) (l21) (l22) (l23) (l30) (l31) (l32) (l33)*l43=0:=by unfold d4 d3;grind
theorem Uy(h0:l00+l01+l02+l03+l04=0)(h1:l10+l11+l12+l13+l14=0)(h2:l20+l21+l22+l23+l24=0)(h3:l30+l31+l32+l33+l34=0):d4 (l01) (l02) (l03) (l04) (l11) (l12) (l13) (l14) (l21) (l22) (l23) (l24) (l31) (l32) (l33) (l34)=d4 (l00) (l01) (l02) (l03) (l10) (l11) (l12) (l13) (l20) (l21) (l22) (l23) (l30) (l31) (l32) (l33):=by
 obtain rfl:l04=-(l00+l01+l02+l03):=by lia
 obtain rfl:l14=-(l10+l11+l12+l13):=by lia
 obtain rfl:l24=-(l20+l21+l22+l23):=by lia
 obtain rfl:l34=-(l30+l31+l32+l33):=by lia
 unfold d4 d3;grind
theorem Uz(h0:l00+l01+l02+l03+l04=0)(h1:l10+l11+l12+l13+l14=0)(h2:l20+l21+l22+l23+l24=0)(h3:l30+l31+l32+l33+l34=0):d4 (l00) (l02) (l03) (l04) (l10) (l12) (l13) (l14) (l20) (l22) (l23) (l24) (l30) (l32) (l33) (l34)=-d4 (l00) (l01) (l02) (l03) (l10) (l11) (l12) (l13) (l20) (l21) (l22) (l23) (l30) (l31) (l32) (l33):=by
 obtain rfl:l04=-(l00+l01+l02+l03):=by lia
 obtain rfl:l14=-(l10+l11+l12+l13):=by lia
 obtain rfl:l24=-(l20+l21+l22+l23):=by lia
 obtain rfl:l34=-(l30+l31+l32+l33):=by lia
 unfold d4 d3;grind
theorem UG(h0:l00+l01+l02+l03+l04=0)(h1:l10+l11+l12+l13+l14=0)(h2:l20+l21+l22+l23+l24=0)(h3:l30+l31+l32+l33+l34=0):d4 (l00) (l01) (l03) (l04) (l10) (l11) (l13) (l14) (l20) (l21) (l23) (l24) (l30) (l31) (l33) (l34)=d4 (l00) (l01) (l02) (l03) (l10) (l11) (l12) (l13) (l20) (l21) (l22) (l23) (l30) (l31) (l32) (l33):=by
 obtain rfl:l04=-(l00+l01+l02+l03):=by lia
 obtain rfl:l14=-(l10+l11+l12+l13):=by lia
 obtain rfl:l24=-(l20+l21+l22+l23):=by lia
 obtain rfl:l34=-(l30+l31+l32+l33):=by lia
 unfold d4 d3;grind
theorem UJ(h0:l00+l01+l02+l03+l04=0)(h1:l10+l11+l12+l13+l14=0)(h2:l20+l21+l22+l23+l24=0)(h3:l30+l31+l32+l33+l34=0):d4 (l00) (l01) (l02) (l04) (l10) (l11) (l12) (l14) (l20) (l21) (l22) (l24) (l30) (l31) (l32) (l34)=-d4 (l00) (l01) (l02) (l03) (l10) (l11) (l12) (l13) (l20) (l21) (l22) (l23) (l30) (l31) (l32) (l33):=by
 obtain rfl:l04=-(l00+l01+l02+l03):=by lia
 obtain rfl:l14=-(l10+l11+l12+l13):=by lia
 obtain rfl:l24=-(l20+l21+l22+l23):=by lia
 obtain rfl:l34=-(l30+l31+l32+l33):=by lia
 unfold d4 d3;grind
def sk(x i:Nat):Nat:=if i<x then i else i+1
def wt(L:Nat->Nat->Int)(n x:Nat):Int:=jV (λi j=>L (sk x i) (sk x j)) (n-1)
theorem TJ(h0:L 0 0=0):wt L 1 0*L 0 0=0:=by
 simp only[wt,jV,D4,D3,D2,d3,sk,Nat.reduceLT,Nat.reduceAdd,Nat.reduceSub,if_true,if_false,Nat.lt_irrefl,Nat.not_lt_zero]
 grind
theorem TQ(h0:L 0 0+L 0 1=0)(h1:L 1 0+L 1 1=0):wt L 2 0*L 0 0+wt L 2 1*L 1 0=0:=by
 simp only[wt,jV,D4,D3,D2,d3,sk,Nat.reduceLT,Nat.reduceAdd,Nat.reduceSub,if_true,if_false,Nat.lt_irrefl,Nat.not_lt_zero]
 grind
theorem TV(h0:L 0 0+L 0 1=0)(h1:L 1 0+L 1 1=0):wt L 2 0*L 0 1+wt L 2 1*L 1 1=0:=by
 simp only[wt,jV,D4,D3,D2,d3,sk,Nat.reduceLT,Nat.reduceAdd,Nat.reduceSub,if_true,if_false,Nat.lt_irrefl,Nat.not_lt_zero]
 grind
theorem TX(h0:L 0 0+L 0 1+L 0 2=0)(h1:L 1 0+L 1 1+L 1 2=0)(h2:L 2 0+L 2 1+L 2 2=0):wt L 3 0*L 0 0+wt L 3 1*L 1 0+wt L 3 2*L 2 0=0:=by
 simp only[wt,jV,D4,D3,D2,d3,sk,Nat.reduceLT,Nat.reduceAdd,Nat.reduceSub,if_true,if_false,Nat.lt_irrefl,Nat.not_lt_zero]
 grind
theorem TY(h0:L 0 0+L 0 1+L 0 2=0)(h1:L 1 0+L 1 1+L 1 2=0)(h2:L 2 0+L 2 1+L 2 2=0):wt L 3 0*L 0 1+wt L 3 1*L 1 1+wt L 3 2*L 2 1=0:=by
 simp only[wt,jV,D4,D3,D2,d3,sk,Nat.reduceLT,Nat.reduceAdd,Nat.reduceSub,if_true,if_false,Nat.lt_irrefl,Nat.not_lt_zero]
 grind
theorem T3(h0:L 0 0+L 0 1+L 0 2=0)(h1:L 1 0+L 1 1+L 1 2=0)(h2:L 2 0+L 2 1+L 2 2=0):wt L 3 0*L 0 2+wt L 3 1*L 1 2+wt L 3 2*L 2 2=0:=by
 simp only[wt,jV,D4,D3,D2,d3,sk,Nat.reduceLT,Nat.reduceAdd,Nat.reduceSub,if_true,if_false,Nat.lt_irrefl,Nat.not_lt_zero]
 grind
theorem T4(h0:L 0 0+L 0 1+L 0 2+L 0 3=0)(h1:L 1 0+L 1 1+L 1 2+L 1 3=0)(h2:L 2 0+L 2 1+L 2 2+L 2 3=0)(h3:L 3 0+L 3 1+L 3 2+L 3 3=0):wt L 4 0*L 0 0+wt L 4 1*L 1 0+wt L 4 2*L 2 0+wt L 4 3*L 3 0=0:=by
 simp only[wt,jV,D4,D3,D2,d3,sk,Nat.reduceLT,Nat.reduceAdd,Nat.reduceSub,if_true,if_false,Nat.lt_irrefl,Nat.not_lt_zero]
 grind
theorem T5(h0:L 0 0+L 0 1+L 0 2+L 0 3=0)(h1:L 1 0+L 1 1+L 1 2+L 1 3=0)(h2:L 2 0+L 2 1+L 2 2+L 2 3=0)(h3:L 3 0+L 3 1+L 3 2+L 3 3=0):wt L 4 0*L 0 1+wt L 4 1*L 1 1+wt L 4 2*L 2 1+wt L 4 3*L 3 1=0:=by
 simp only[wt,jV,D4,D3,D2,d3,sk,Nat.reduceLT,Nat.reduceAdd,Nat.reduceSub,if_true,if_false,Nat.lt_irrefl,Nat.not_lt_zero]
 grind
theorem T6(h0:L 0 0+L 0 1+L 0 2+L 0 3=0)(h1:L 1 0+L 1 1+L 1 2+L 1 3=0)(h2:L 2 0+L 2 1+L 2 2+L 2 3=0)(h3:L 3 0+L 3 1+L 3 2+L 3 3=0):wt L 4 0*L 0 2+wt L 4 1*L 1 2+wt L 4 2*L 2 2+wt L 4 3*L 3 2=0:=by
 simp only[wt,jV,D4,D3,D2,d3,sk,Nat.reduceLT,Nat.reduceAdd,Nat.reduceSub,if_true,if_false,Nat.lt_irrefl,Nat.not_lt_zero]
 grind
theorem T7(h0:L 0 0+L 0 1+L 0 2+L 0 3=0)(h1:L 1 0+L 1 1+L 1 2+L 1 3=0)(h2:L 2 0+L 2 1+L 2 2+L 2 3=0)(h3:L 3 0+L 3 1+L 3 2+L 3 3=0):wt L 4 0*L 0 3+wt L 4 1*L 1 3+wt L 4 2*L 2 3+wt L 4 3*L 3 3=0:=by
 simp only[wt,jV,D4,D3,D2,d3,sk,Nat.reduceLT,Nat.reduceAdd,Nat.reduceSub,if_true,if_false,Nat.lt_irrefl,Nat.not_lt_zero]
 grind
theorem Ck(h0:L 0 0+L 0 1+L 0 2+L 0 3+L 0 4=0)(h1:L 1 0+L 1 1+L 1 2+L 1 3+L 1 4=0)(h2:L 2 0+L 2 1+L 2 2+L 2 3+L 2 4=0)(h3:L 3 0+L 3 1+L 3 2+L 3 3+L 3 4=0)(h4:L 4 0+L 4 1+L 4 2+L 4 3+L 4 4=0):wt L 5 0=d4 (L 1 0) (L 1 1) (L 1 2) (L 1 3) (L 2 0) (L 2 1) (L 2 2) (L 2 3) (L 3 0) (L 3 1) (L 3 2) (L 3 3) (L 4 0) (L 4 1) (L 4 2) (L 4 3):=Uy h1 h2 h3 h4
theorem Cm(h0:L 0 0+L 0 1+L 0 2+L 0 3+L 0 4=0)(h1:L 1 0+L 1 1+L 1 2+L 1 3+L 1 4=0)(h2:L 2 0+L 2 1+L 2 2+L 2 3+L 2 4=0)(h3:L 3 0+L 3 1+L 3 2+L 3 3+L 3 4=0)(h4:L 4 0+L 4 1+L 4 2+L 4 3+L 4 4=0):wt L 5 1=-d4 (L 0 0) (L 0 1) (L 0 2) (L 0 3) (L 2 0) (L 2 1) (L 2 2) (L 2 3) (L 3 0) (L 3 1) (L 3 2) (L 3 3) (L 4 0) (L 4 1) (L 4 2) (L 4 3):=Uz h0 h2 h3 h4
theorem Cp(h0:L 0 0+L 0 1+L 0 2+L 0 3+L 0 4=0)(h1:L 1 0+L 1 1+L 1 2+L 1 3+L 1 4=0)(h2:L 2 0+L 2 1+L 2 2+L 2 3+L 2 4=0)(h3:L 3 0+L 3 1+L 3 2+L 3 3+L 3 4=0)(h4:L 4 0+L 4 1+L 4 2+L 4 3+L 4 4=0):wt L 5 2=d4 (L 0 0) (L 0 1) (L 0 2) (L 0 3) (L 1 0) (L 1 1) (L 1 2) (L 1 3) (L 3 0) (L 3 1) (L 3 2) (L 3 3) (L 4 0) (L 4 1) (L 4 2) (L 4 3):=UG h0 h1 h3 h4
theorem Cq(h0:L 0 0+L 0 1+L 0 2+L 0 3+L 0 4=0)(h1:L 1 0+L 1 1+L 1 2+L 1 3+L 1 4=0)(h2:L 2 0+L 2 1+L 2 2+L 2 3+L 2 4=0)(h3:L 3 0+L 3 1+L 3 2+L 3 3+L 3 4=0)(h4:L 4 0+L 4 1+L 4 2+L 4 3+L 4 4=0):wt L 5 3=-d4 (L 0 0) (L 0 1) (L 0 2) (L 0 3) (L 1 0) (L 1 1) (L 1 2) (L 1 3) (L 2 0) (L 2 1) (L 2 2) (L 2 3) (L 4 0) (L 4 1) (L 4 2) (L 4 3):=UJ h0 h1 h2 h4
theorem Cr(h0:L 0 0+L 0 1+L 0 2+L 0 3+L 0 4=0)(h1:L 1 0+L 1 1+L 1 2+L 1 3+L 1 4=0)(h2:L 2 0+L 2 1+L 2 2+L 2 3+L 2 4=0)(h3:L 3 0+L 3 1+L 3 2+L 3 3+L 3 4=0)(h4:L 4 0+L 4 1+L 4 2+L 4 3+L 4 4=0):wt L 5 4=d4 (L 0 0) (L 0 1) (L 0 2) (L 0 3) (L 1 0) (L 1 1) (L 1 2) (L 1 3) (L 2 0) (L 2 1) (L 2 2) (L 2 3) (L 3 0) (L 3 1) (L 3 2) (L 3 3):=rfl
theorem T8(h0:L 0 0+L 0 1+L 0 2+L 0 3+L 0 4=0)(h1:L 1 0+L 1 1+L 1 2+L 1 3+L 1 4=0)(h2:L 2 0+L 2 1+L 2 2+L 2 3+L 2 4=0)(h3:L 3 0+L 3 1+L 3 2+L 3 3+L 3 4=0)(h4:L 4 0+L 4 1+L 4 2+L 4 3+L 4 4=0):wt L 5 0*L 0 0+wt L 5 1*L 1 0+wt L 5 2*L 2 0+wt L 5 3*L 3 0+wt L 5 4*L 4 0=0:=by
 rw[Ck h0 h1 h2 h3 h4,Cm h0 h1 h2 h3 h4,Cp h0 h1 h2 h3 h4,Cq h0 h1 h2 h3 h4,Cr h0 h1 h2 h3 h4];have:=Ri (L 0 0) (L 0 1) (L 0 2) (L 0 3) (L 1 0) (L 1 1) (L 1 2) (L 1 3) (L 2 0) (L 2 1) (L 2 2) (L 2 3) (L 3 0) (L 3 1) (L 3 2) (L 3 3) (L 4 0) (L 4 1) (L 4 2) (L 4 3);generalize d4 (L 1 0) (L 1 1) (L 1 2) (L 1 3) (L 2 0) (L 2 1) (L 2 2) (L 2 3) (L 3 0) (L 3 1) (L 3 2) (L 3 3) (L 4 0) (L 4 1) (L 4 2) (L 4 3)=v0 at *;generalize d4 (L 0 0) (L 0 1) (L 0 2) (L 0 3) (L 2 0) (L 2 1) (L 2 2) (L 2 3) (L 3 0) (L 3 1) (L 3 2) (L 3 3) (L 4 0) (L 4 1) (L 4 2) (L 4 3)=v1 at *;generalize d4 (L 0 0) (L 0 1) (L 0 2) (L 0 3) (L 1 0) (L 1 1) (L 1 2) (L 1 3) (L 3 0) (L 3 1) (L 3 2) (L 3 3) (L 4 0) (L 4 1) (L 4 2) (L 4 3)=v2 at *;generalize d4 (L 0 0) (L 0 1) (L 0 2) (L 0 3) (L 1 0) (L 1 1) (L 1 2) (L 1 3) (L 2 0) (L 2 1) (L 2 2) (L 2 3) (L 4 0) (L 4 1) (L 4 2) (L 4 3)=v3 at *;generalize d4 (L 0 0) (L 0 1) (L 0 2) (L 0 3) (L 1 0) (L 1 1) (L 1 2) (L 1 3) (L 2 0) (L 2 1) (L 2 2) (L 2 3) (L 3 0) (L 3 1) (L 3 2) (L 3 3)=v4 at *
 grind
theorem T9(h0:L 0 0+L 0 1+L 0 2+L 0 3+L 0 4=0)(h1:L 1 0+L 1 1+L 1 2+L 1 3+L 1 4=0)(h2:L 2 0+L 2 1+L 2 2+L 2 3+L 2 4=0)(h3:L 3 0+L 3 1+L 3 2+L 3 3+L 3 4=0)(h4:L 4 0+L 4 1+L 4 2+L 4 3+L 4 4=0):wt L 5 0*L 0 1+wt L 5 1*L 1 1+wt L 5 2*L 2 1+wt L 5 3*L 3 1+wt L 5 4*L 4 1=0:=by
 rw[Ck h0 h1 h2 h3 h4,Cm h0 h1 h2 h3 h4,Cp h0 h1 h2 h3 h4,Cq h0 h1 h2 h3 h4,Cr h0 h1 h2 h3 h4];have:=Rj (L 0 0) (L 0 1) (L 0 2) (L 0 3) (L 1 0) (L 1 1) (L 1 2) (L 1 3) (L 2 0) (L 2 1) (L 2 2) (L 2 3) (L 3 0) (L 3 1) (L 3 2) (L 3 3) (L 4 0) (L 4 1) (L 4 2) (L 4 3);generalize d4 (L 1 0) (L 1 1) (L 1 2) (L 1 3) (L 2 0) (L 2 1) (L 2 2) (L 2 3) (L 3 0) (L 3 1) (L 3 2) (L 3 3) (L 4 0) (L 4 1) (L 4 2) (L 4 3)=v0 at *;generalize d4 (L 0 0) (L 0 1) (L 0 2) (L 0 3) (L 2 0) (L 2 1) (L 2 2) (L 2 3) (L 3 0) (L 3 1) (L 3 2) (L 3 3) (L 4 0) (L 4 1) (L 4 2) (L 4 3)=v1 at *;generalize d4 (L 0 0) (L 0 1) (L 0 2) (L 0 3) (L 1 0) (L 1 1) (L 1 2) (L 1 3) (L 3 0) (L 3 1) (L 3 2) (L 3 3) (L 4 0) (L 4 1) (L 4 2) (L 4 3)=v2 at *;generalize d4 (L 0 0) (L 0 1) (L 0 2) (L 0 3) (L 1 0) (L 1 1) (L 1 2) (L 1 3) (L 2 0) (L 2 1) (L 2 2) (L 2 3) (L 4 0) (L 4 1) (L 4 2) (L 4 3)=v3 at *;generalize d4 (L 0 0) (L 0 1) (L 0 2) (L 0 3) (L 1 0) (L 1 1) (L 1 2) (L 1 3) (L 2 0) (L 2 1) (L 2 2) (L 2 3) (L 3 0) (L 3 1) (L 3 2) (L 3 3)=v4 at *
 grind
theorem Ua(h0:L 0 0+L 0 1+L 0 2+L 0 3+L 0 4=0)(h1:L 1 0+L 1 1+L 1 2+L 1 3+L 1 4=0)(h2:L 2 0+L 2 1+L 2 2+L 2 3+L 2 4=0)(h3:L 3 0+L 3 1+L 3 2+L 3 3+L 3 4=0)(h4:L 4 0+L 4 1+L 4 2+L 4 3+L 4 4=0):wt L 5 0*L 0 2+wt L 5 1*L 1 2+wt L 5 2*L 2 2+wt L 5 3*L 3 2+wt L 5 4*L 4 2=0:=by
 rw[Ck h0 h1 h2 h3 h4,Cm h0 h1 h2 h3 h4,Cp h0 h1 h2 h3 h4,Cq h0 h1 h2 h3 h4,Cr h0 h1 h2 h3 h4];have:=Rk (L 0 0) (L 0 1) (L 0 2) (L 0 3) (L 1 0) (L 1 1) (L 1 2) (L 1 3) (L 2 0) (L 2 1) (L 2 2) (L 2 3) (L 3 0) (L 3 1) (L 3 2) (L 3 3) (L 4 0) (L 4 1) (L 4 2) (L 4 3);generalize d4 (L 1 0) (L 1 1) (L 1 2) (L 1 3) (L 2 0) (L 2 1) (L 2 2) (L 2 3) (L 3 0) (L 3 1) (L 3 2) (L 3 3) (L 4 0) (L 4 1) (L 4 2) (L 4 3)=v0 at *;generalize d4 (L 0 0) (L 0 1) (L 0 2) (L 0 3) (L 2 0) (L 2 1) (L 2 2) (L 2 3) (L 3 0) (L 3 1) (L 3 2) (L 3 3) (L 4 0) (L 4 1) (L 4 2) (L 4 3)=v1 at *;generalize d4 (L 0 0) (L 0 1) (L 0 2) (L 0 3) (L 1 0) (L 1 1) (L 1 2) (L 1 3) (L 3 0) (L 3 1) (L 3 2) (L 3 3) (L 4 0) (L 4 1) (L 4 2) (L 4 3)=v2 at *;generalize d4 (L 0 0) (L 0 1) (L 0 2) (L 0 3) (L 1 0) (L 1 1) (L 1 2) (L 1 3) (L 2 0) (L 2 1) (L 2 2) (L 2 3) (L 4 0) (L 4 1) (L 4 2) (L 4 3)=v3 at *;generalize d4 (L 0 0) (L 0 1) (L 0 2) (L 0 3) (L 1 0) (L 1 1) (L 1 2) (L 1 3) (L 2 0) (L 2 1) (L 2 2) (L 2 3) (L 3 0) (L 3 1) (L 3 2) (L 3 3)=v4 at *
 grind
theorem Ub(h0:L 0 0+L 0 1+L 0 2+L 0 3+L 0 4=0)(h1:L 1 0+L 1 1+L 1 2+L 1 3+L 1 4=0)(h2:L 2 0+L 2 1+L 2 2+L 2 3+L 2 4=0)(h3:L 3 0+L 3 1+L 3 2+L 3 3+L 3 4=0)(h4:L 4 0+L 4 1+L 4 2+L 4 3+L 4 4=0):wt L 5 0*L 0 3+wt L 5 1*L 1 3+wt L 5 2*L 2 3+wt L 5 3*L 3 3+wt L 5 4*L 4 3=0:=by
 rw[Ck h0 h1 h2 h3 h4,Cm h0 h1 h2 h3 h4,Cp h0 h1 h2 h3 h4,Cq h0 h1 h2 h3 h4,Cr h0 h1 h2 h3 h4];have:=Ro (L 0 0) (L 0 1) (L 0 2) (L 0 3) (L 1 0) (L 1 1) (L 1 2) (L 1 3) (L 2 0) (L 2 1) (L 2 2) (L 2 3) (L 3 0) (L 3 1) (L 3 2) (L 3 3) (L 4 0) (L 4 1) (L 4 2) (L 4 3);generalize d4 (L 1 0) (L 1 1) (L 1 2) (L 1 3) (L 2 0) (L 2 1) (L 2 2) (L 2 3) (L 3 0) (L 3 1) (L 3 2) (L 3 3) (L 4 0) (L 4 1) (L 4 2) (L 4 3)=v0 at *;generalize d4 (L 0 0) (L 0 1) (L 0 2) (L 0 3) (L 2 0) (L 2 1) (L 2 2) (L 2 3) (L 3 0) (L 3 1) (L 3 2) (L 3 3) (L 4 0) (L 4 1) (L 4 2) (L 4 3)=v1 at *;generalize d4 (L 0 0) (L 0 1) (L 0 2) (L 0 3) (L 1 0) (L 1 1) (L 1 2) (L 1 3) (L 3 0) (L 3 1) (L 3 2) (L 3 3) (L 4 0) (L 4 1) (L 4 2) (L 4 3)=v2 at *;generalize d4 (L 0 0) (L 0 1) (L 0 2) (L 0 3) (L 1 0) (L 1 1) (L 1 2) (L 1 3) (L 2 0) (L 2 1) (L 2 2) (L 2 3) (L 4 0) (L 4 1) (L 4 2) (L 4 3)=v3 at *;generalize d4 (L 0 0) (L 0 1) (L 0 2) (L 0 3) (L 1 0) (L 1 1) (L 1 2) (L 1 3) (L 2 0) (L 2 1) (L 2 2) (L 2 3) (L 3 0) (L 3 1) (L 3 2) (L 3 3)=v4 at *
 grind
theorem Uc(h0:L 0 0+L 0 1+L 0 2+L 0 3+L 0 4=0)(h1:L 1 0+L 1 1+L 1 2+L 1 3+L 1 4=0)(h2:L 2 0+L 2 1+L 2 2+L 2 3+L 2 4=0)(h3:L 3 0+L 3 1+L 3 2+L 3 3+L 3 4=0)(h4:L 4 0+L 4 1+L 4 2+L 4 3+L 4 4=0):wt L 5 0*L 0 4+wt L 5 1*L 1 4+wt L 5 2*L 2 4+wt L 5 3*L 3 4+wt L 5 4*L 4 4=0:=by
 rw[Ck h0 h1 h2 h3 h4,Cm h0 h1 h2 h3 h4,Cp h0 h1 h2 h3 h4,Cq h0 h1 h2 h3 h4,Cr h0 h1 h2 h3 h4];have q0:=Ri (L 0 0) (L 0 1) (L 0 2) (L 0 3) (L 1 0) (L 1 1) (L 1 2) (L 1 3) (L 2 0) (L 2 1) (L 2 2) (L 2 3) (L 3 0) (L 3 1) (L 3 2) (L 3 3) (L 4 0) (L 4 1) (L 4 2) (L 4 3);have q1:=Rj (L 0 0) (L 0 1) (L 0 2) (L 0 3) (L 1 0) (L 1 1) (L 1 2) (L 1 3) (L 2 0) (L 2 1) (L 2 2) (L 2 3) (L 3 0) (L 3 1) (L 3 2) (L 3 3) (L 4 0) (L 4 1) (L 4 2) (L 4 3);have q2:=Rk (L 0 0) (L 0 1) (L 0 2) (L 0 3) (L 1 0) (L 1 1) (L 1 2) (L 1 3) (L 2 0) (L 2 1) (L 2 2) (L 2 3) (L 3 0) (L 3 1) (L 3 2) (L 3 3) (L 4 0) (L 4 1) (L 4 2) (L 4 3);have q3:=Ro (L 0 0) (L 0 1) (L 0 2) (L 0 3) (L 1 0) (L 1 1) (L 1 2) (L 1 3) (L 2 0) (L 2 1) (L 2 2) (L 2 3) (L 3 0) (L 3 1) (L 3 2) (L 3 3) (L 4 0) (L 4 1) (L 4 2) (L 4 3);have e0:L 0 4=-(L 0 0+L 0 1+L 0 2+L 0 3):=by lia
 have e1:L 1 4=-(L 1 0+L 1 1+L 1 2+L 1 3):=by lia
 have e2:L 2 4=-(L 2 0+L 2 1+L 2 2+L 2 3):=by lia
 have e3:L 3 4=-(L 3 0+L 3 1+L 3 2+L 3 3):=by lia
 have e4:L 4 4=-(L 4 0+L 4 1+L 4 2+L 4 3):=by lia
 rw[e0,e1,e2,e3,e4];generalize d4 (L 1 0) (L 1 1) (L 1 2) (L 1 3) (L 2 0) (L 2 1) (L 2 2) (L 2 3) (L 3 0) (L 3 1) (L 3 2) (L 3 3) (L 4 0) (L 4 1) (L 4 2) (L 4 3)=v0 at *;generalize d4 (L 0 0) (L 0 1) (L 0 2) (L 0 3) (L 2 0) (L 2 1) (L 2 2) (L 2 3) (L 3 0) (L 3 1) (L 3 2) (L 3 3) (L 4 0) (L 4 1) (L 4 2) (L 4 3)=v1 at *;generalize d4 (L 0 0) (L 0 1) (L 0 2) (L 0 3) (L 1 0) (L 1 1) (L 1 2) (L 1 3) (L 3 0) (L 3 1) (L 3 2) (L 3 3) (L 4 0) (L 4 1) (L 4 2) (L 4 3)=v2 at *;generalize d4 (L 0 0) (L 0 1) (L 0 2) (L 0 3) (L 1 0) (L 1 1) (L 1 2) (L 1 3) (L 2 0) (L 2 1) (L 2 2) (L 2 3) (L 4 0) (L 4 1) (L 4 2) (L 4 3)=v3 at *;generalize d4 (L 0 0) (L 0 1) (L 0 2) (L 0 3) (L 1 0) (L 1 1) (L 1 2) (L 1 3) (L 2 0) (L 2 1) (L 2 2) (L 2 3) (L 3 0) (L 3 1) (L 3 2) (L 3 3)=v4 at *
 grind
def SN(f:Nat->Int):Nat->Int
 |0=>0
 |n+1=>SN f n+f n
theorem stat:∀{n:Nat},n<=5->(∀x,x<n->SN (L x) n=0)->∀y,y<n->SN (λx=>wt L n x*L x y) n=0:=by
 intro n hn h y hy
 match n,hn,h,y,hy with
 |1,_,h,0,_=>exact (show 0+wt L 1 0*L 0 0=0 by rw[XC];exact TJ (by have:=h 0 (by decide);simp only[SN]at this;lia))
 |2,_,h,0,_=>exact (show 0+wt L 2 0*L 0 0+wt L 2 1*L 1 0=0 by rw[XC];exact TQ (by have:=h 0 (by decide);simp only[SN]at this;lia) (by have:=h 1 (by decide);simp only[SN]at this;lia))
 |2,_,h,1,_=>exact (show 0+wt L 2 0*L 0 1+wt L 2 1*L 1 1=0 by rw[XC];exact TV (by have:=h 0 (by decide);simp only[SN]at this;lia) (by have:=h 1 (by decide);simp only[SN]at this;lia))
 |3,_,h,0,_=>exact (show 0+wt L 3 0*L 0 0+wt L 3 1*L 1 0+wt L 3 2*L 2 0=0 by rw[XC];exact TX (by have:=h 0 (by decide);simp only[SN]at this;lia) (by have:=h 1 (by decide);simp only[SN]at this;lia) (by have:=h 2 (by decide);simp only[SN]at this;lia))
 |3,_,h,1,_=>exact (show 0+wt L 3 0*L 0 1+wt L 3 1*L 1 1+wt L 3 2*L 2 1=0 by rw[XC];exact TY (by have:=h 0 (by decide);simp only[SN]at this;lia) (by have:=h 1 (by decide);simp only[SN]at this;lia) (by have:=h 2 (by decide);simp only[SN]at this;lia))
 |3,_,h,2,_=>exact (show 0+wt L 3 0*L 0 2+wt L 3 1*L 1 2+wt L 3 2*L 2 2=0 by rw[XC];exact T3 (by have:=h 0 (by decide);simp only[SN]at this;lia) (by have:=h 1 (by decide);simp only[SN]at this;lia) (by have:=h 2 (by decide);simp only[SN]at this;lia))
 |4,_,h,0,_=>exact (show 0+wt L 4 0*L 0 0+wt L 4 1*L 1 0+wt L 4 2*L 2 0+wt L 4 3*L 3 0=0 by rw[XC];exact T4 (by have:=h 0 (by decide);simp only[SN]at this;lia) (by have:=h 1 (by decide);simp only[SN]at this;lia) (by have:=h 2 (by decide);simp only[SN]at this;lia) (by have:=h 3 (by decide);simp only[SN]at this;lia))
 |4,_,h,1,_=>exact (show 0+wt L 4 0*L 0 1+wt L 4 1*L 1 1+wt L 4 2*L 2 1+wt L 4 3*L 3 1=0 by rw[XC];exact T5 (by have:=h 0 (by decide);simp only[SN]at this;lia) (by have:=h 1 (by decide);simp only[SN]at this;lia) (by have:=h 2 (by decide);simp only[SN]at this;lia) (by have:=h 3 (by decide);simp only[SN]at this;lia))
 |4,_,h,2,_=>exact (show 0+wt L 4 0*L 0 2+wt L 4 1*L 1 2+wt L 4 2*L 2 2+wt L 4 3*L 3 2=0 by rw[XC];exact T6 (by have:=h 0 (by decide);simp only[SN]at this;lia) (by have:=h 1 (by decide);simp only[SN]at this;lia) (by have:=h 2 (by decide);simp only[SN]at this;lia) (by have:=h 3 (by decide);simp only[SN]at this;lia))
 |4,_,h,3,_=>exact (show 0+wt L 4 0*L 0 3+wt L 4 1*L 1 3+wt L 4 2*L 2 3+wt L 4 3*L 3 3=0 by rw[XC];exact T7 (by have:=h 0 (by decide);simp only[SN]at this;lia) (by have:=h 1 (by decide);simp only[SN]at this;lia) (by have:=h 2 (by decide);simp only[SN]at this;lia) (by have:=h 3 (by decide);simp only[SN]at this;lia))
 |5,_,h,0,_=>exact (show 0+wt L 5 0*L 0 0+wt L 5 1*L 1 0+wt L 5 2*L 2 0+wt L 5 3*L 3 0+wt L 5 4*L 4 0=0 by rw[XC];exact T8 (by have:=h 0 (by decide);simp only[SN]at this;lia) (by have:=h 1 (by decide);simp only[SN]at this;lia) (by have:=h 2 (by decide);simp only[SN]at this;lia) (by have:=h 3 (by decide);simp only[SN]at this;lia) (by have:=h 4 (by decide);simp only[SN]at this;lia))
 |5,_,h,1,_=>exact (show 0+wt L 5 0*L 0 1+wt L 5 1*L 1 1+wt L 5 2*L 2 1+wt L 5 3*L 3 1+wt L 5 4*L 4 1=0 by rw[XC];exact T9 (by have:=h 0 (by decide);simp only[SN]at this;lia) (by have:=h 1 (by decide);simp only[SN]at this;lia) (by have:=h 2 (by decide);simp only[SN]at this;lia) (by have:=h 3 (by decide);simp only[SN]at this;lia) (by have:=h 4 (by decide);simp only[SN]at this;lia))
 |5,_,h,2,_=>exact (show 0+wt L 5 0*L 0 2+wt L 5 1*L 1 2+wt L 5 2*L 2 2+wt L 5 3*L 3 2+wt L 5 4*L 4 2=0 by rw[XC];exact Ua (by have:=h 0 (by decide);simp only[SN]at this;lia) (by have:=h 1 (by decide);simp only[SN]at this;lia) (by have:=h 2 (by decide);simp only[SN]at this;lia) (by have:=h 3 (by decide);simp only[SN]at this;lia) (by have:=h 4 (by decide);simp only[SN]at this;lia))
 |5,_,h,3,_=>exact (show 0+wt L 5 0*L 0 3+wt L 5 1*L 1 3+wt L 5 2*L 2 3+wt L 5 3*L 3 3+wt L 5 4*L 4 3=0 by rw[XC];exact Ub (by have:=h 0 (by decide);simp only[SN]at this;lia) (by have:=h 1 (by decide);simp only[SN]at this;lia) (by have:=h 2 (by decide);simp only[SN]at this;lia) (by have:=h 3 (by decide);simp only[SN]at this;lia) (by have:=h 4 (by decide);simp only[SN]at this;lia))
 |5,_,h,4,_=>exact (show 0+wt L 5 0*L 0 4+wt L 5 1*L 1 4+wt L 5 2*L 2 4+wt L 5 3*L 3 4+wt L 5 4*L 4 4=0 by rw[XC];exact Uc (by have:=h 0 (by decide);simp only[SN]at this;lia) (by have:=h 1 (by decide);simp only[SN]at this;lia) (by have:=h 2 (by decide);simp only[SN]at this;lia) (by have:=h 3 (by decide);simp only[SN]at this;lia) (by have:=h 4 (by decide);simp only[SN]at this;lia))
 |0,_,_,y,hy=>lia
 |1,_,_,y+1,hy=>lia
 |2,_,_,y+2,hy=>lia
 |3,_,_,y+3,hy=>lia
 |4,_,_,y+4,hy=>lia
 |5,_,_,y+5,hy=>lia
 |n+6,hn,_,_,_=>lia
end N60
namespace N10
theorem uV(hd:0<d)(h1:a * d<=c * b)(h2:c * f<=e * d):a * f<=e * b:=by
 have x1:a*d*f<=c*b*f:=Xy _ h1;have x2:c*f*b<=e*d*b:=Xy _ h2;have x3:d*(a*f)<=d*(e*b):=by
  calc d*(a*f)=a*d*f:=by rw[<-Xb,Xk d a]
   _<=c*b*f:=x1
   _=c*f*b:=by rw[Xb,Xk b f,<-Xb]
   _<=e*d*b:=x2
   _=d*(e*b):=by rw[Xk e d,Xb]
 exact Ym x3 hd
def Mn(a r:Nat->Nat)(n z:Nat):Prop:=z<n/\∀y,y<n->a z*r y<=a y*r z
theorem FW:∀ n,0<n->(∀ y,y<n->0<r y)->∃ z,Mn a r n z
 |0,h,_=>by omega
 | 1,_,_=>⟨0,by omega,fun y hy=>by have:y=0:=by omega
                                   subst this;exact Wg _⟩
 | n + 2,_,h=>by
   obtain⟨z,hz,m⟩:=FW (a:=a) (r:=r) (n+1) (by omega) λy hy=>h y (by omega)
   by_cases q:a z*r (n+1)<=a (n+1)*r z
   ·refine⟨z,by lia,λy hy=>?_⟩
    by_cases e:y=n+1
    ·subst e;exact q
    ·exact m y (by lia)
   ·refine⟨n+1,by lia,λy hy=>?_⟩
    by_cases e:y=n+1
    ·subst e;exact Wg _
    ·exact uV (h z (by lia)) (by lia) (m y (by lia))
theorem Be(hb:0<b)(hd:0<d)(h:a*d=c*b):pl a b=pl c d:=by rw[<-wy hd a b,<-wy hb c d,Xk d a,h,Xk c b,Xk d b]
theorem za(h:Mn a r n z)(hT:S n a=T):a z*S n r<=r z*T:=by
 rw[<-hT,<-cN,<-cN];refine zL λy hy=>?_
 rw[Xk (r z)];exact h.2 y hy
def sh(a r:Nat->Nat)(n T z:Nat):Nat×Nat:=pl (r z*T-a z*S n r) (r z*T)
theorem JS{a r:Nat->Nat}{T Q y z:Nat}(h:a z*r y<=a y*r z):((r y*T:Nat)-(a y*Q:Nat):Int)*(r z*T:Nat)<=((r z*T:Nat)-(a z*Q:Nat):Int)*(r y*T:Nat):=by
 have h1:a z*r y*(T*Q)<=a y*r z*(T*Q):=Xy _ h;have e1:((a y*Q:Nat):Int)*(r z*T:Nat)=((a y*r z*(T*Q):Nat):Int):=by rw[<-Yp];congr 1;simp only[Nat.mul_assoc,Nat.mul_comm,Nat.mul_left_comm]
 have e2:((a z*Q:Nat):Int)*(r y*T:Nat)=((a z*r y*(T*Q):Nat):Int):=by rw[<-Yp];congr 1;simp only[Nat.mul_assoc,Nat.mul_comm,Nat.mul_left_comm]
 rw[Int.sub_mul,Int.sub_mul,e1,e2,Int.mul_comm ((r y*T:Nat):Int)]
 lia
theorem Ox{a r:Nat->Nat}{n T z w:Nat}(hT:S n a=T)(T0:0<T)(hr:∀y,y<n->0<r y)(hz:Mn a r n z)(hw:Mn a r n w):sh a r n T z=sh a r n T w:=by
 have h1:=JS (T:=T) (Q:=S n r) (hz.2 w hw.1);have h2:=JS (T:=T) (Q:=S n r) (hw.2 z hz.1);have l1:=za hz hT;have l2:=za hw hT;refine Be (Ye (hr z hz.1) T0) (Ye (hr w hw.1) T0) ?_;have e:(((r z*T-a z*S n r)*(r w*T):Nat):Int)=(((r w*T-a w*S n r)*(r z*T):Nat):Int):=by rw[Yp (r z*T-a z*S n r),Yp (r w*T-a w*S n r),Int.ofNat_sub l1,Int.ofNat_sub l2];omega
 omega
end N10
namespace K
open PySem L2 L3
theorem jy(l:List Str)(h:l.Nodup:=by decide):l.Nodup:=h
local macro_rules | `(tactic| trivial)=>`(tactic| refine⟨rfl,by decide +kernel,rfl,R3 ?_,λm_=>Qm rfl,by decide,rfl,Oc rfl,Od ?_,Qj ?_⟩<;>((repeat' apply And.intro)<;>first | exact True.intro | rfl | exact Or.inl rfl | exact Or.inr rfl | exact⟨_,rfl⟩))
def top(i:Nat):Stmt:=PySem.Challenge.pw_fadewalk_k75_whole_separation_of_made_wa.main.body.getD i (.Pass ⟨0,0,0,0⟩)
abbrev Qd(k:Nat)(N:List Str)(x:Str)(st:Stmt)(Y:Program->World->PySem.W.Frag->Mg->Heap->Prop->Prop):={b:ak->DM Fl // ∀{P w K mg base f cdv A outer s H E},Y P w K mg base (Rm k A x st s f cdv->Ds P w K mg base N x st f cdv A outer s H E b)}
abbrev Qe(k:Nat)(N:List Str)(x:Str)(st:Stmt)(Y:(Nat->Str->List Str->Fn->Prop)->(Str->Prop)->Prop->Prop):=Qd k N x st λP w K m o=>Y (DefD P w K m o) (Nn m)
abbrev Sc(N ps:List Str)(st:Stmt):=FnScope N ps (defScope st)
theorem bz{N P:List Str}{sc:Scope}(a:sc.kind=.function:=by exact rfl)(b:sc.isCoroutine=false:=by exact rfl)(c:sc.isGenerator=false:=by exact rfl)(p:N.take P.length=P:=by exact rfl)(d:(decide N.Nodup&&(decide (∀x∈P,sc.names.lookup x=some .local\/sc.names.lookup x=some .cell)&&decide (∀y∈sc.names,y.2≠.free)))=true:=by decide +kernel):FnScope N P sc:=Tw a b c p d
theorem iJ{X:Cx}{E:XK}{scope:Scope}{cl:List (Str×Addr)}{elt i0:Expr}{p0 pos:Pos}{fi:ak->DM Itn}{fe:ak->DM D}(x:Str)(js:List Nat)(fr:List Str)(hi:DI X E (.Name x p0) i0 fi)
  (he:∀{aaD m fp C s₂ H₂},DE (X.aZ aaD scope (cellsFrom m scope.names cl) ([x]++fr) fp C s₂ H₂) E0 elt fe) (T:CompG X scope cl [x] js fr:=by trivial) (hc:X.calm=true:=by exact rfl)
  (nd:([x]++fr).Nodup:=by decide) (hl:∀m C Z,(compEnvC scope (cellsFrom m scope.names cl) C Z).scope.names.lookup x=some .local:=by intros;exact rfl)
  (hs:∀y,foldedSetIterable i0 X.env y=pure y:=by intro _;rfl) :
  DE X E (.ListComp elt [⟨.Name x p0,i0,[],0⟩] scope pos) (λδ=>fi δ>>=λit=>dq (bU (gN 0) (λz=>pure true) (bH fe) it (aP [x].length js δ) [])>>=λp=>Out.val.run p.2):=
 b8 (own:=[x]) .val hc T hi (λz z z z z z=>aK (i:=0) nd rfl (Or.inl (hl ..)) (Or.inr (hl ..))) (λz z z z z z=>cL) (λz z z z z z=>he) hs
section
variable(N:Nat)(v0 v1 v2 v3 v4 v5 v6 v7 v8 v9 v10 v11 v12 v13 v14 v15 v16 v17 v18 v19:Fn)
abbrev p7:Stmt:=top 11
theorem CP:Sc ["thing"] ["thing"] p7:=bz
@[simp] noncomputable def wB:Qe 0 ["thing"] "is_whole" p7 λD n Z=>n "bool"->n "int"->n "isinstance"->Z:=
 ⟨_,λya yb yc hr=>(au (aJ (lF (aU d8 yc (ao (aa 0) (ao (pG (T := "int") yb) aj))) (n8 (PX (aU d8 yc (ao (aa 0) (ao (pG (T := "bool") ya) aj))))))))⟩
noncomputable def vK:=(wB).1
abbrev eU:Stmt:=top 12
theorem iQ:Sc ["one", "other"] ["one", "other"] eU:=bz
@[simp] noncomputable def eO:Qe 0 ["one", "other"] "greatest_divider" eU fun _ _ Z=>Z:=
 ⟨_,fun  hr=>have nd:=iQ.nd;(aq (pI N PassesOwn.leaving (bj (aa 1) (fun _=>rfl)) (au (vV (i:=0) (j:=1) rfl nd rfl rfl (by decide) rfl rfl (ao (aa 1) (ao (aM iV (aa 0) (aa 1)) aj)) rfl)))
  (au (aJ (aa 0))))⟩
noncomputable def cU:=(eO N).1
abbrev gf:Stmt:=top 13
theorem ur:Sc ["one", "other"] ["one", "other"] gf:=bz
@[simp] noncomputable def lX:Qe 1 ["one", "other"] "least_multiple" gf λD n Z=>D 1 "greatest_divider" ["one", "other"] v0->Z:=
 ⟨_,λya hr=>(au (aJ (aM bR (aM dM (aa 0) (aB ya hr aD (ao (aa 0) (ao (aa 1) aj)))) (aa 1))))⟩
noncomputable def lC:=(lX v0).1
abbrev jP:Stmt:=top 14
theorem xQ:Sc ["thing"] ["thing"] jP:=bz
@[simp] noncomputable def qD:Qe 1 ["thing"] "is_fraction" jP fun D n Z=>D 1 "is_whole" ["thing"] v0->n "isinstance"->n "len"->n "tuple"->Z:=
 ⟨_,fun ya yb yc yd hr=>(aq (bM (DW.dt (gM (cD (bj (aU d8 yb (ao (aa 0) (ao (pG (T := "tuple") yd) aj))) (fun _=>rfl))) (gO (bF (cT hr.units) (aU call_lenD yc (ao (aa 0) aj)) aA))))
  (au (aJ d7))
  bc)
  (au (aJ (lF (aB ya hr aD (ao (aQ aX (aa 0) aA) aj)) (lF (aB ya hr aD (ao (aQ aX (aa 0) aA) aj)) (n8 (jo wj (aQ aX (aa 0) aA) aA)))))))⟩
noncomputable def qw:=(qD v0).1
abbrev dR:Stmt:=top 15
theorem o5:Sc ["thing"] ["thing"] dR:=bz
@[simp] noncomputable def ir:Qe 2 ["thing"] "refuse_no_fraction" dR fun D n Z=>D 2 "is_fraction" ["thing"] v0->Z:=
 ⟨_,fun ya hr=>(au (bM (cD (bj (aB ya hr aD (ao (aa 0) aj)) (fun _=>rfl)))
  (au dI)
  bc))⟩
noncomputable def gD:=(ir v0).1
abbrev qd:Stmt:=top 16
theorem uF:Sc ["above", "below", "divider"] ["above", "below"] qd:=bz
@[simp] noncomputable def wC:Qe 1 ["above", "below", "divider"] "plain_of" qd fun D n Z=>D 1 "greatest_divider" ["one", "other"] v0->n "abs"->Z:=
 ⟨_,fun ya yb hr=>have nd:=uF.nd;(aq (aN (i:=2) nd rfl (Or.inl rfl) (aB ya hr aD (ao (aU Hs yb (ao (aa 0) aj)) (ao (aa 1) aj))))
  (au (aJ (oh (ao (aM dM (aa 0) (aa 2)) (ao (aM dM (aa 1) (aa 2)) aj))))))⟩
noncomputable def vM:=(wC v0).1
abbrev xO:Stmt:=top 17
theorem BP:Sc ["fraction", "above", "below"] ["fraction"] xO:=bz
@[simp] noncomputable def Ea:Qe 3 ["fraction", "above", "below"] "plain" xO fun D n Z=>D 3 "refuse_no_fraction" ["thing"] v0->D 2 "plain_of" ["above", "below"] v1->Z:=
 ⟨_,fun ya yb hr=>have nd:=BP.nd;(aq (cu (aB ya hr aD (ao (aa 0) aj)))
  (aq (jt (aa 0) (jq (n:=2) rfl (bJ (aK (i:=1) nd rfl (Or.inl rfl)) (bJ (aK (i:=2) nd rfl (Or.inl rfl)) gm))))
  (au (aJ (aB yb hr aD (ao (aa 1) (ao (aa 2) aj)))))))⟩
noncomputable def Dc:=(Ea v0 v1).1
abbrev rT:Stmt:=top 18
theorem Gp:Sc ["one", "other"] ["one", "other"] rT:=bz
@[simp] noncomputable def yI:Qe 3 ["one", "other"] "is_less" rT fun D n Z=>D 3 "refuse_no_fraction" ["thing"] v0->Z:=
 ⟨_,fun ya hr=>(aq (cu (aB ya hr aD (ao (aa 0) aj)))
  (aq (cu (aB ya hr aD (ao (aa 1) aj)))
  (au (aJ (jo wu (aM bR (aQ aX (aa 0) aA) (aQ aX (aa 1) aA)) (aM bR (aQ aX (aa 1) aA) (aQ aX (aa 0) aA)))))))⟩
noncomputable def yj:=(yI v0).1
abbrev jN:Stmt:=top 21
theorem xP:Sc ["thing", "many"] ["thing", "many"] jN:=bz
@[simp] noncomputable def qC:Qe 1 ["thing", "many"] "are_weights" jN fun D n Z=>D 1 "is_whole" ["thing"] v0->n "all"->n "isinstance"->n "len"->n "tuple"->Z:=
 ⟨_,fun ya yb yc yd ye hr=>(aq (bM (DW.dt (gM (cD (bj (aU d8 yc (ao (aa 0) (ao (pG (T := "tuple") ye) aj))) (fun _=>rfl))) (gO (bF (cT hr.units) (aU call_lenD yd (ao (aa 0) aj)) (aa 1)))))
  (au (aJ d7))
  bc)
  (au (aJ (aU (mR hr.hd) yb (ao (iJ "weight" [] [] (bV (aa 0)) (lF (aB ya hr rK (ao (aa 0) aj)) (n8 (jo wj (aa 0) aA)))) aj)))))⟩
noncomputable def qu:=(qC v0).1
abbrev pZ:Stmt:=top 22
theorem CK:Sc ["thing", "many"] ["thing", "many"] pZ:=bz
@[simp] noncomputable def wz:Qe 2 ["thing", "many"] "are_rows" pZ fun D n Z=>D 2 "are_weights" ["thing", "many"] v0->n "all"->n "isinstance"->n "len"->n "tuple"->Z:=
 ⟨_,fun ya yb yc yd ye hr=>(aq (bM (DW.dt (gM (cD (bj (aU d8 yc (ao (aa 0) (ao (pG (T := "tuple") ye) aj))) (fun _=>rfl))) (gO (bF (cT hr.units) (aU call_lenD yd (ao (aa 0) aj)) (aa 1)))))
  (au (aJ d7))
  bc)
  (au (aJ (aU (mR hr.hd) yb (ao (iJ "row" [1] ["many"] (bV (aa 0)) (aB ya hr rK (ao (aa 0) (ao (aa 1) aj)))) aj)))))⟩
noncomputable def vI:=(wz v0).1
abbrev p6:Stmt:=top 23
theorem CN:Sc ["thing", "many"] ["thing", "many"] p6:=bz
@[simp] noncomputable def wA:Qe 1 ["thing", "many"] "is_place" p6 λD n Z=>D 1 "is_whole" ["thing"] v0->Z:=
 ⟨_,λya hr=>(au (aJ (lF (aB ya hr aD (ao (aa 0) aj)) (n8 (Kr lO wu aA (aa 0) (aa 1))))))⟩
noncomputable def vJ:=(wA v0).1
abbrev vf:Stmt:=top 24
theorem JK:Sc ["thing"] ["thing"] vf:=bz
@[simp] noncomputable def Bm:Qd 2 ["thing"] "is_lot" vf fun P w K m o Z=>∀{t_MOST_PLACES},DefD P w K m o 2 "are_weights" ["thing", "many"] v0->Gi m "MOST_PLACES" 25 t_MOST_PLACES->Nn m "any"->Nn m "isinstance"->Nn m "len"->Nn m "tuple"->Z:=
 ⟨_,fun ya yb yc yd ye yf hr=>(aq (bM (DW.dt (gM (cD (bj (aU d8 yd (ao (aa 0) (ao (pG (T := "tuple") yf) aj))) (fun _=>rfl))) (gO (cD (uR lO lO aA (aU call_lenD ye (ao (aa 0) aj)) (Fg yb))))))
  (au (aJ d7))
  bc)
  (au (aJ (lF (aB ya hr aD (ao (aa 0) (ao (aU call_lenD ye (ao (aa 0) aj)) aj))) (n8 (aU (Ht hr.hd) yc (ao (aa 0) aj)))))))⟩
noncomputable def zO:=(Bm v0).1
abbrev iB:Stmt:=top 25
theorem vq:Sc ["thing"] ["thing"] iB:=bz
@[simp] noncomputable def m6:Qe 3 ["thing"] "refuse_no_lot" iB fun D n Z=>D 3 "is_lot" ["thing"] v0->Z:=
 ⟨_,fun ya hr=>(au (bM (cD (bj (aB ya hr aD (ao (aa 0) aj)) (fun _=>rfl)))
  (au dI)
  bc))⟩
noncomputable def mQ:=(m6 v0).1
abbrev xN:Stmt:=top 26
theorem BL:Sc ["lot", "divider", "weight"] ["lot"] xN:=bz
@[simp] noncomputable def DY:Qe 4 ["lot", "divider", "weight"] "least" xN fun D n Z=>D 4 "refuse_no_lot" ["thing"] v0->D 1 "greatest_divider" ["one", "other"] v1->n "tuple"->Z:=
 ⟨_,fun ya yb yc hr=>have nd:=BL.nd;(aq (cu (aB ya hr aD (ao (aa 0) aj)))
  (aq (aN (i:=1) nd rfl (Or.inr rfl) aA)
  (aq (cC 0 WP rfl (bV (aa 0)) (aK (i:=2) nd rfl (Or.inl rfl))
  (au (aN (i:=1) nd rfl (Or.inr rfl) (aB yb hr aD (ao (aa 1) (ao (aa 2) aj))))))
  (au (aJ (cg (T := "tuple") aL yc (ao (iJ "weight" [1] ["divider"] (bV (aa 0)) (aM dM (aa 0) (aa 1))) aj)))))))⟩
noncomputable def CZ:=(DY v0 v1).1
abbrev iz:Stmt:=top 29
theorem mq:Sc ["thing", "whole"] ["thing"] iz:=bz
@[simp] noncomputable def m5:Qd 3 ["thing", "whole"] "can_be_walked" iz fun P w K m o Z=>∀{t_MOST_PLACES},DefD P w K m o 3 "are_rows" ["thing", "many"] v0->Gi m "MOST_PLACES" 25 t_MOST_PLACES->Nn m "all"->Nn m "isinstance"->Nn m "len"->Nn m "sum"->Nn m "tuple"->Z:=
 ⟨_,fun ya yb yc yd ye yf yg hr=>have nd:=mq.nd;(aq (bM (DW.dt (gM (cD (bj (aU d8 yd (ao (aa 0) (ao (pG (T := "tuple") yg) aj))) (fun _=>rfl))) (gM (cD (uR lO lO aA (aU call_lenD ye (ao (aa 0) aj)) (Fg yb))) (gO (cD (bj (aB ya hr aD (ao (aa 0) (ao (aU call_lenD ye (ao (aa 0) aj)) aj))) (fun _=>rfl)))))))
  (au (aJ d7))
  bc)
  (aq (aN (i:=1) nd rfl (Or.inr rfl) (aU (eE hr.hd) yf (ao (aQ aX (aa 0) aA) aj)))
  (au (aJ (lF (jo wj (aa 1) aA) (n8 (aU (mR hr.hd) yc (ao (iJ "row" [1] ["whole"] (bV (aa 0)) (jo (gq hr.units) (aU (eE hr.hd) yf (ao (aa 0) aj)) (aa 1))) aj))))))))⟩
noncomputable def mO:=(m5 v0).1
abbrev fO:Stmt:=top 30
theorem sG:Sc ["thing"] ["thing"] fO:=bz
@[simp] noncomputable def kh:Qd 1 ["thing"] "refuse_no_steps" fO fun P w K m o Z=>∀{t_MOST_STEPS},DefD P w K m o 1 "is_whole" ["thing"] v0->Gi m "MOST_STEPS" 100 t_MOST_STEPS->Z:=
 ⟨_,fun ya yb hr=>(au (bM (DW.dt (gM (cD (bj (aB ya hr aD (ao (aa 0) aj)) (fun _=>rfl))) (gO (cD (uR lO lO aA (aa 0) (Fg yb))))))
  (au dI)
  bc))⟩
noncomputable def j0:=(kh v0).1
abbrev aV:Stmt:=inClass (top 34) 1
theorem wL:Sc ["self"] ["self"] aV:=bz
@[simp] noncomputable def oM:Qd 0 ["self"] "Walk.__len__" aV λP w K m o Z=>∀{C_Walk},OCls K m "Walk" C_Walk ["rows", "whole"]->Nn m "len"->Z:=
 ⟨_,λya yb hr=>(au (aJ (aU call_lenD yb (ao (cV ya (by decide) (aa 0)) aj))))⟩
noncomputable def nY:=(oM).1
abbrev fM:Stmt:=top 31
theorem sE:Sc ["walk", "thing"] ["walk", "thing"] fM:=bz
@[simp] noncomputable def j9:Qd 2 ["walk", "thing"] "refuse_no_place" fM fun P w K m o Z=>DefD P w K m o 2 "is_place" ["thing", "many"] v0->MethD P w K m o 1 "Walk" "__len__" "Walk.__len__" aV ["self"] v1->Nn m "len"->Z:=
 ⟨_,fun ya yb yc hr=>(au (bM (cD (bj (aB ya hr aD (ao (aa 1) (ao (aU (bZ yb hr aD (fun _ _ _ _ _ _ us hl=>by obtain⟨_,rfl⟩:=cP hl;rfl)) yc (ao (aa 0) aj)) aj))) (fun _=>rfl)))
  (au dI)
  bc))⟩
noncomputable def jZ:=(j9 v0 v1).1
abbrev vh:Stmt:=top 32
theorem JM:Sc ["place", "many"] ["place", "many"] vh:=bz
@[simp] noncomputable def Bp:Qe 0 ["place", "many"] "lot_at" vh λD n Z=>n "range"->n "tuple"->Z:=
 ⟨_,λya yb hr=>(au (aJ (cg (T := "tuple") aL yb (ao (iJ "at" [0] ["place"] (bA rfl ya (ao (aa 1) aj)) (Fj (bF (gq hr.units) (aa 0) (aa 1)) aA aA)) aj))))⟩
noncomputable def zP:=(Bp).1
abbrev rY:Stmt:=top 33
theorem Gq:Sc ["rows", "lot"] ["rows", "lot"] rY:=bz
@[simp] noncomputable def yJ:Qe 0 ["rows", "lot"] "stepped" rY λD n Z=>n "len"->n "range"->n "sum"->n "tuple"->n "zip"->Z:=
 ⟨_,λya yb yc yd ye hr=>(au (aJ (cg (T := "tuple") aL yd (ao (b8 (own:=["place"]) (js:=[1,0]) (fr:=["lot", "rows"]) .val rfl (by trivial) (bA rfl yb (ao (aU call_lenD ya (ao (aa 1) aj)) aj)) (λz z z z z z=>(aK (i:=0) (jy ["place", "lot", "rows"]) rfl (Or.inr rfl))) (λz z z z z z=>cL) (λz z z z z z=>(aU (eE hr.hd) yc (ao (b8 (own:=["weight", "row"]) (js:=[0]) (fr:=["place"]) .val rfl (by trivial) (Np rfl ye (ao (aa 1) (ao (aa 2) aj))) (λz z z z z z=>(jq (n:=2) rfl (bJ (aK (i:=0) (jy ["weight", "row", "place"]) rfl (Or.inl rfl)) (bJ (aK (i:=1) (jy ["weight", "row", "place"]) rfl (Or.inl rfl)) gm)))) (λz z z z z z=>cL) (λz z z z z z=>(aM bR (aa 0) (aQ aX (aa 1) (aa 2))))) aj)))) aj))))⟩
noncomputable def yo:=(yJ).1
abbrev iu:Stmt:=inClass (top 34) 0
theorem vp:Sc ["self", "rows"] ["self", "rows"] iu:=bz
@[simp] noncomputable def mZ:Qd 4 ["self", "rows"] "Walk.__init__" iu fun P w K m o Z=>∀{C_Walk},DefD P w K m o 4 "can_be_walked" ["thing"] v0->OCls K m "Walk" C_Walk ["rows", "whole"]->Nn m "sum"->Z:=
 ⟨_,fun ya yb yc hr=>(aq (bM (cD (bj (aB ya hr aD (ao (aa 1) aj)) (fun _=>rfl)))
  (au dI)
  bc)
  (aq (HH yb (by decide) (aa 0) (aa 1))
  (au (HH yb (by decide) (aa 0) (aU (eE hr.hd) yc (ao (aQ aX (aa 1) aA) aj))))))⟩
noncomputable def mK:=(mZ v0).1
abbrev dF:Stmt:=inClass (top 34) 4
theorem qH:Sc ["self", "lot", "steps", "step"] ["self", "lot", "steps"] dF:=bz
@[simp] noncomputable def lU:Qd 4 ["self", "lot", "steps", "step"] "Walk.after" dF fun P w K m o Z=>∀{C_Walk},DefD P w K m o 4 "refuse_no_lot" ["thing"] v0->DefD P w K m o 2 "refuse_no_steps" ["thing"] v1->DefD P w K m o 1 "stepped" ["rows", "lot"] v2->OCls K m "Walk" C_Walk ["rows", "whole"]->Nn m "len"->Nn m "range"->Z:=
 ⟨_,fun ya yb yc yd ye yf hr=>have nd:=qH.nd;(aq (cu (aB ya hr aD (ao (aa 1) aj)))
  (aq (bM (bF (cT hr.units) (aU call_lenD ye (ao (aa 1) aj)) (aU call_lenD ye (ao (cV yd (by decide) (aa 0)) aj)))
  (au dI)
  bc)
  (aq (cu (aB yb hr aD (ao (aa 2) aj)))
  (aq (cC 0 WP rfl (bA rfl yf (ao (aa 2) aj)) (aK (i:=3) nd rfl (Or.inl rfl))
  (au (aN (i:=1) nd rfl (Or.inl rfl) (aB yc hr aD (ao (cV yd (by decide) (aa 0)) (ao (aa 1) aj))))))
  (au (aJ (aa 1)))))))⟩
noncomputable def qX:=(lU v0 v1 v2).1
abbrev iw:Stmt:=inClass (top 34) 5
theorem qI:Sc ["self", "steps", "many"] ["self", "steps"] iw:=bz
@[simp] noncomputable def rM:Qd 5 ["self", "steps", "many"] "Walk.power" iw fun P w K m o Z=>∀{C_Walk},DefD P w K m o 1 "lot_at" ["place", "many"] v0->MethD P w K m o 5 "Walk" "after" "Walk.after" dF ["self", "lot", "steps"] v1->OCls K m "Walk" C_Walk ["rows", "whole"]->Nn m "len"->Nn m "range"->Nn m "tuple"->Z:=
 ⟨_,fun ya yb yc yd ye yf hr=>have nd:=qI.nd;(aq (aN (i:=2) nd rfl (Or.inr rfl) (aU call_lenD yd (ao (cV yc (by decide) (aa 0)) aj)))
  (au (aJ (cg (T := "tuple") aL yf (ao (iJ "place" [0,2,1] ["self", "many", "steps"] (bA rfl ye (ao (aa 2) aj)) (pF (ks:=["steps"]) yb hr rK (aa 1) (ao (aB ya hr rK (ao (aa 0) (ao (aa 2) aj))) aj) (pH (aa 3) gJ) (λz z z z z z us ws h1 h2=>by obtain⟨_,rfl⟩:=cP h1;obtain⟨_,_,rfl⟩:=jH (show us.length=2 by simpa using h2);rfl))) aj)))))⟩
noncomputable def qY:=(rM v0 v1).1
abbrev jQ:Stmt:=top 36
theorem xR:Sc ["walk"] ["walk"] jQ:=bz
@[simp] noncomputable def qF:Qd 0 ["walk"] "next_places" jQ λP w K m o Z=>∀{C_Walk},OCls K m "Walk" C_Walk ["rows", "whole"]->Nn m "enumerate"->Nn m "tuple"->Z:=
 ⟨_,λya yb yc hr=>(au (aJ (b8 (own:=["row"]) (js:=[]) (fr:=[]) .val rfl (by trivial) (bV (cV ya (by decide) (aa 0))) (λz z z z z z=>(aK (i:=0) (jy ["row"]) rfl (Or.inl rfl))) (λz z z z z z=>cL) (λz z z z z z=>(cg (T := "tuple") aL yc (ao (b8 (own:=["place", "weight"]) (js:=[]) (fr:=[]) .val rfl (by trivial) (wZ rfl yb (ao (aa 0) aj)) (λz z z z z z=>(jq (n:=2) rfl (bJ (aK (i:=0) (jy ["place", "weight"]) rfl (Or.inl rfl)) (bJ (aK (i:=1) (jy ["place", "weight"]) rfl (Or.inl rfl)) gm)))) (λz z z z z z=>(w6 (bF Jc (aa 1) aA))) (λz z z z z z=>(aa 0))) aj))))))⟩
noncomputable def qx:=(qF).1
abbrev jc:Stmt:=top 37
theorem m8:Sc ["nexts", "start", "steps", "waiting", "place", "following"] ["nexts", "start"] jc:=bz
@[simp] noncomputable def iW:Qe 0 ["nexts", "start", "steps", "waiting", "place", "following"] "fewest_steps" jc fun _ _ Z=>Z:=
 ⟨_,fun  hr=>have nd:=m8.nd;(aq (aN (i:=2) nd rfl (Or.inl rfl) (Ni 1))
  (aq (aN (i:=3) nd rfl (Or.inl rfl) (n6 (ao (aa 1) aj)))
  (aq (pI N WP (bj (aa 3) (λz=>rfl)) (aq (aN (i:=4) nd rfl (Or.inl rfl) (tO X6 PySem.F.slot_list_pop PySem.F.type_list_pop Dw (aa 3) (ao aA aj)))
  (au (cC 0 WP rfl (bV (aQ aX (aa 0) (aa 4))) (aK (i:=5) nd rfl (Or.inl rfl))
  (au (bM (bF (K6 (u1 hr.units)) (aa 5) (aa 2))
  (aq (jt (aM cz (PP (u1 hr.units) (aa 2) (aa 4)) aA) (q8 (aa 2) (aa 5) (Lj (u1 hr.units))))
  (au (cu (tO X6 Y0 YW tX (aa 3) (ao (aa 5) aj)))))
  bc))))))
  (au (aJ (aa 2))))))⟩
noncomputable def eX:=(iW N).1
abbrev vg:Stmt:=top 38
theorem yK:Sc ["walk", "nexts"] ["walk"] vg:=bz
@[simp] noncomputable def u6:Qd 2 ["walk", "nexts"] "led_to" vg fun P w K m o Z=>DefD P w K m o 1 "next_places" ["walk"] v0->DefD P w K m o 1 "fewest_steps" ["nexts", "start"] v1->MethD P w K m o 1 "Walk" "__len__" "Walk.__len__" aV ["self"] v2->Nn m "len"->Nn m "range"->Nn m "sorted"->Nn m "tuple"->Z:=
 ⟨_,fun ya yb yc yd ye yf yg hr=>have nd:=yK.nd;(aq (aN (i:=1) nd rfl (Or.inr rfl) (aB ya hr aD (ao (aa 0) aj)))
  (au (aJ (cg (T := "tuple") aL yg (ao (iJ "start" [1] ["nexts"] (bA rfl ye (ao (aU (bZ yc hr aD (λz z z z z z us hl=>by obtain⟨_,rfl⟩:=cP hl;rfl)) yd (ao (aa 0) aj)) aj)) (cg (T := "tuple") aL yg (ao (aU (Fb hr.hd) yf (ao (aB yb hr rK (ao (aa 1) (ao (aa 0) aj))) aj)) aj))) aj)))))⟩
noncomputable def uN:=(u6 v0 v1 v2).1
abbrev nR:Stmt:=top 39
theorem sH:Sc ["walk", "led"] ["walk"] nR:=bz
@[simp] noncomputable def nH:Qe 3 ["walk", "led"] "shut_sets" nR fun D n Z=>D 3 "led_to" ["walk"] v0->n "all"->n "sorted"->n "tuple"->Z:=
 ⟨_,fun ya yb yc yd hr=>have nd:=sH.nd;(aq (aN (i:=1) nd rfl (Or.inr rfl) (aB ya hr aD (ao (aa 0) aj)))
  (au (aJ (cg (T := "tuple") aL yd (ao (Fp (own:=["places"]) (js:=[1]) (fr:=["led"]) hr.hd (u1 hr.units) yc rfl (by trivial) (bV (aa 1)) (λz z z z z z=>(aK (i:=0) (jy ["places", "led"]) rfl (Or.inr rfl))) (λz z z z z z=>(w6 (bj (aU (mR hr.hd) yb (ao (iJ "place" [1,0] ["led", "places"] (bV (aa 0)) (jo (gq hr.units) (aQ aX (aa 1) (aa 0)) (aa 2))) aj)) (λz=>rfl)))) (λz z z z z z=>(aa 0))) aj)))))⟩
noncomputable def uz:=(nH v0).1
abbrev jO:Stmt:=top 41
theorem o4:Sc ["rows", "divider", "top"] ["rows"] jO:=bz
@[simp] noncomputable def jK:Qe 0 ["rows", "divider", "top"] "determinant" jO fun D n Z=>n "len"->n "range"->Z:=
 ⟨_,fun ya yb hr=>have nd:=o4.nd;(aq (aN (i:=1) nd rfl (Or.inr rfl) aA)
  (aq (pI N WP (bj (aa 0) (λz=>rfl)) (aq (aN (i:=2) nd rfl (Or.inr rfl) (aQ aX (aa 0) aA))
  (aq (bM (bF (gq hr.units) (aQ aX (aa 2) aA) aA)
  (au (aJ aA))
  bc)
  (aq (zZ (i:=0) (own:=["row"]) (js:=[2,1]) (fr:=["top", "divider"]) .val nd rfl (Or.inl rfl) rfl (by trivial) (gG (uQ (aa 0) (ou aA) w5)) (λz z z z z z=>(aK (i:=0) (jy ["row", "top", "divider"]) rfl (Or.inr rfl))) (λz z z z z z=>cL) (λz z z z z z=>(iJ "at" [0,1,2] ["row", "top", "divider"] (HF rfl yb (ao aA (ao (aU call_lenD ya (ao (aa 0) aj)) aj))) (aM dM (aM ud (aM bR (aQ aX (aa 1) (aa 0)) (aQ aX (aa 2) aA)) (aM bR (aQ aX (aa 1) aA) (aQ aX (aa 2) (aa 0)))) (aa 3)))))
  (au (aN (i:=1) nd rfl (Or.inr rfl) (aQ aX (aa 2) aA)))))))
  (au (aJ (aa 1)))))⟩
noncomputable def fW:=(jK N).1
abbrev je:Stmt:=top 42
theorem m9:Sc ["walk", "place", "others"] ["walk", "place"] je:=bz
@[simp] noncomputable def iY:Qd 3 ["walk", "place", "others"] "trees_toward" je fun P w K m o Z=>∀{C_Walk},DefD P w K m o 3 "refuse_no_place" ["walk", "thing"] v0->DefD P w K m o 1 "determinant" ["rows"] v1->MethD P w K m o 1 "Walk" "__len__" "Walk.__len__" aV ["self"] v2->OCls K m "Walk" C_Walk ["rows", "whole"]->Nn m "len"->Nn m "range"->Z:=
 ⟨_,fun ya yb yc yd ye yf hr=>have nd:=m9.nd;(aq (cu (aB ya hr aD (ao (aa 0) (ao (aa 1) aj))))
  (aq (aN (i:=2) nd rfl (Or.inr rfl) (b8 (own:=["other"]) (js:=[1]) (fr:=["place"]) .val rfl (by trivial) (bA rfl yf (ao (aU (bZ yc hr aD (λz z z z z z us hl=>by obtain⟨_,rfl⟩:=cP hl;rfl)) ye (ao (aa 0) aj)) aj)) (λz z z z z z=>(aK (i:=0) (jy ["other", "place"]) rfl (Or.inl rfl))) (λz z z z z z=>(w6 (bF (cT hr.units) (aa 0) (aa 1)))) (λz z z z z z=>(aa 0))))
  (au (aJ (aB yb hr aD (ao (b8 (own:=["x"]) (js:=[2,0]) (fr:=["others", "walk"]) .val rfl (by trivial) (gG (aa 2)) (λz z z z z z=>(aK (i:=0) (jy ["x", "others", "walk"]) rfl (Or.inr rfl))) (λz z z z z z=>cL) (λz z z z z z=>(iJ "y" [0,2] ["x", "walk"] (gG (aa 1)) (Fj (bF (gq hr.units) (aa 1) (aa 0)) (aM ud (cV yd (by decide) (aa 2)) (aQ aX (aQ aX (cV yd (by decide) (aa 2)) (aa 1)) (aa 1))) (PQ (aQ aX (aQ aX (cV yd (by decide) (aa 2)) (aa 1)) (aa 0))))))) aj))))))⟩
noncomputable def nZ:=(iY v0 v1 v2).1
abbrev rW:Stmt:=top 43
theorem wN:Sc ["walk", "shut", "within", "weights", "at", "place"] ["walk", "shut"] rW:=bz
@[simp] noncomputable def rN:Qd 6 ["walk", "shut", "within", "weights", "at", "place"] "rest_on" rW fun P w K m o Z=>∀{C_Walk},DefD P w K m o 4 "trees_toward" ["walk", "place"] v0->DefD P w K m o 5 "least" ["lot"] v1->ClsD P w K m o 5 "Walk" v2->MethD P w K m o 1 "Walk" "__len__" "Walk.__len__" aV ["self"] v3->OCls K m "Walk" C_Walk ["rows", "whole"]->Nn m "enumerate"->Nn m "len"->Nn m "tuple"->Z:=
 ⟨_,fun ya yb yc yd ye yf yg yh hr=>have nd:=wN.nd;(aq (aN (i:=2) nd rfl (Or.inl rfl) (iT yc hr aD (ao (cg (T := "tuple") aL yh (ao (b8 (own:=["x"]) (js:=[1,0]) (fr:=["shut", "walk"]) .val rfl (by trivial) (bV (aa 1)) (fun _ _ _ _ _ _=>(aK (i:=0) (jy ["x", "shut", "walk"]) rfl (Or.inr rfl))) (fun _ _ _ _ _ _=>cL) (fun _ _ _ _ _ _=>(cg (T := "tuple") aL yh (ao (iJ "y" [2,0] ["walk", "x"] (bV (aa 1)) (aQ aX (aQ aX (cV ye (by decide) (aa 1)) (aa 2)) (aa 0))) aj)))) aj)) aj)))
  (aq (aN (i:=3) nd rfl (Or.inl rfl) (aM DK (lH (ao aA aj)) (aU (bZ yd hr aD (λz z z z z z us hl=>by obtain⟨_,rfl⟩:=cP hl;rfl)) yg (ao (aa 0) aj))))
  (aq (cC 0 WP rfl (wZ rfl yf (ao (aa 1) aj)) (jq (n:=2) rfl (bJ (aK (i:=4) nd rfl (Or.inl rfl)) (bJ (aK (i:=5) nd rfl (Or.inl rfl)) gm)))
  (au (jt (aB ya hr aD (ao (aa 2) (ao (aa 4) aj))) (q8 (aa 3) (aa 5) wQ))))
  (au (aJ (aB yb hr aD (ao (cg (T := "tuple") aL yh (ao (aa 3) aj)) aj)))))))⟩
noncomputable def ym:=(rN v0 v1 v2 v3).1
abbrev gj:Stmt:=top 44
theorem ut:Sc ["walk"] ["walk"] gj:=bz
@[simp] noncomputable def f9:Qd 4 ["walk"] "refuse_no_rest" gj fun P w K m o Z=>DefD P w K m o 4 "shut_sets" ["walk"] v0->MethD P w K m o 1 "Walk" "__len__" "Walk.__len__" aV ["self"] v1->Nn m "len"->Nn m "range"->Nn m "tuple"->Z:=
 ⟨_,fun ya yb yc yd ye hr=>(au (bM (bF (cT hr.units) (aB ya hr aD (ao (aa 0) aj)) (oh (ao (yt rfl ye yd (ao (aU (bZ yb hr aD (fun _ _ _ _ _ _ us hl=>by obtain⟨_,rfl⟩:=cP hl;rfl)) yc (ao (aa 0) aj)) aj)) aj)))
  (au dI)
  bc))⟩
noncomputable def lD:=(f9 v0 v1).1
abbrev p8:Stmt:=top 45
theorem CQ:Sc ["walk"] ["walk"] p8:=bz
@[simp] noncomputable def pQ:Qd 7 ["walk"] "one_rest" p8 fun P w K m o Z=>DefD P w K m o 5 "refuse_no_rest" ["walk"] v0->DefD P w K m o 7 "rest_on" ["walk", "shut"] v1->MethD P w K m o 1 "Walk" "__len__" "Walk.__len__" aV ["self"] v2->Nn m "len"->Nn m "range"->Nn m "tuple"->Z:=
 ⟨_,fun ya yb yc yd ye yf hr=>(aq (cu (aB ya hr aD (ao (aa 0) aj)))
  (au (aJ (aB yb hr aD (ao (aa 0) (ao (yt rfl yf ye (ao (aU (bZ yc hr aD (λz z z z z z us hl=>by obtain⟨_,rfl⟩:=cP hl;rfl)) yd (ao (aa 0) aj)) aj)) aj))))))⟩
noncomputable def vL:=(pQ v0 v1 v2).1
abbrev qi:Stmt:=top 47
theorem uH:Sc ["rest", "lot", "share", "held"] ["rest", "lot"] qi:=bz
@[simp] noncomputable def pR:Qe 4 ["rest", "lot", "share", "held"] "share_of" qi fun D n Z=>D 4 "is_less" ["one", "other"] v0->D 4 "plain" ["fraction"] v1->n "zip"->Z:=
 ⟨_,fun ya yb yc hr=>have nd:=uH.nd;(aq (aN (i:=2) nd rfl (Or.inl rfl) (oh (ao (aQ aX (aa 1) aA) (ao (aQ aX (aa 0) aA) aj))))
  (aq (cC 0 WP rfl (Nm rfl yc (ao (aa 1) (ao (aa 0) aj))) (aK (i:=3) nd rfl (Or.inl rfl))
  (au (bM (bj (aB ya hr aD (ao (aa 3) (ao (aa 2) aj))) (λz=>rfl))
  (au (aN (i:=2) nd rfl (Or.inl rfl) (aa 3)))
  bc)))
  (au (aJ (aB yb hr aD (ao (aa 2) aj))))))⟩
noncomputable def vO:=(pR v0 v1).1
abbrev eV:Stmt:=top 48
theorem qK:Sc ["walk", "start", "steps", "rest", "lot", "above", "below"] ["walk", "start", "steps"] eV:=bz
@[simp] noncomputable def lY:Qd 8 ["walk", "start", "steps", "rest", "lot", "above", "below"] "separation" eV fun P w K m o Z=>DefD P w K m o 8 "one_rest" ["walk"] v0->DefD P w K m o 3 "refuse_no_place" ["walk", "thing"] v1->DefD P w K m o 1 "lot_at" ["place", "many"] v2->DefD P w K m o 5 "share_of" ["rest", "lot"] v3->DefD P w K m o 2 "plain_of" ["above", "below"] v4->MethD P w K m o 1 "Walk" "__len__" "Walk.__len__" aV ["self"] v5->MethD P w K m o 5 "Walk" "after" "Walk.after" dF ["self", "lot", "steps"] v6->Nn m "len"->Nn m "sum"->Z:=
 ⟨_,fun ya yb yc yd ye yf yg yh yi hr=>have nd:=qK.nd;(aq (aN (i:=3) nd rfl (Or.inl rfl) (aB ya hr aD (ao (aa 0) aj)))
  (aq (cu (aB yb hr aD (ao (aa 0) (ao (aa 1) aj))))
  (aq (aN (i:=4) nd rfl (Or.inl rfl) (pF (ks:=["steps"]) yg hr aD (aa 0) (ao (aB yc hr aD (ao (aa 1) (ao (aU (bZ yf hr aD (λz z z z z z us hl=>by obtain⟨_,rfl⟩:=cP hl;rfl)) yh (ao (aa 0) aj)) aj))) aj) (pH (aa 2) gJ) (λz z z z z z us ws h1 h2=>by obtain⟨_,rfl⟩:=cP h1;obtain⟨_,_,rfl⟩:=jH (show us.length=2 by simpa using h2);rfl)))
  (aq (jt (aB yd hr aD (ao (aa 3) (ao (aa 4) aj))) (jq (n:=2) rfl (bJ (aK (i:=5) nd rfl (Or.inl rfl)) (bJ (aK (i:=6) nd rfl (Or.inl rfl)) gm))))
  (au (aJ (aB ye hr aD (ao (aM ud (aM bR (aa 6) (aU (eE hr.hd) yi (ao (aa 4) aj))) (aM bR (aa 5) (aU (eE hr.hd) yi (ao (aa 3) aj)))) (ao (aM bR (aa 6) (aU (eE hr.hd) yi (ao (aa 4) aj))) aj)))))))))⟩
noncomputable def qZ:=(lY v0 v1 v2 v3 v4 v5 v6).1
abbrev jR:Stmt:=top 50
theorem xT:Sc ["thing", "low"] ["thing", "low"] jR:=bz
@[simp] noncomputable def qG:Qe 1 ["thing", "low"] "refuse_less" jR fun D n Z=>D 1 "is_whole" ["thing"] v0->Z:=
 ⟨_,fun ya hr=>(au (bM (DW.dt (gM (cD (bj (aB ya hr aD (ao (aa 0) aj)) (fun _=>rfl))) (gO (bF wu (aa 0) (aa 1)))))
  (au dI)
  bc))⟩
noncomputable def qy:=(qG v0).1
abbrev qg:Stmt:=top 51
theorem uG:Sc ["walk", "divider", "row", "weight"] ["walk"] qg:=bz
@[simp] noncomputable def wD:Qd 6 ["walk", "divider", "row", "weight"] "plainest" qg fun P w K m o Z=>∀{C_Walk},DefD P w K m o 1 "greatest_divider" ["one", "other"] v0->ClsD P w K m o 5 "Walk" v1->OCls K m "Walk" C_Walk ["rows", "whole"]->Nn m "tuple"->Z:=
 ⟨_,fun ya yb yc yd hr=>have nd:=uG.nd;(aq (aN (i:=1) nd rfl (Or.inr rfl) aA)
  (aq (cC 0 WP rfl (bV (cV yc (by decide) (aa 0))) (aK (i:=2) nd rfl (Or.inl rfl))
  (au (cC 0 WP rfl (bV (aa 2)) (aK (i:=3) nd rfl (Or.inl rfl))
  (au (aN (i:=1) nd rfl (Or.inr rfl) (aB ya hr aD (ao (aa 1) (ao (aa 3) aj))))))))
  (au (aJ (iT yb hr aD (ao (cg (T := "tuple") aL yd (ao (b8 (own:=["row"]) (js:=[1]) (fr:=["divider"]) .val rfl (by trivial) (bV (cV yc (by decide) (aa 0))) (λz z z z z z=>(aK (i:=0) (jy ["row", "divider"]) rfl (Or.inl rfl))) (λz z z z z z=>cL) (λz z z z z z=>(cg (T := "tuple") aL yd (ao (iJ "weight" [1] ["divider"] (bV (aa 0)) (aM dM (aa 0) (aa 1))) aj)))) aj)) aj))))))⟩
noncomputable def vN:=(wD v0 v1).1
abbrev BK:Stmt:=top 52
theorem Eh:Sc ["walk", "stay", "go", "rows", "place"] ["walk", "stay", "go"] BK:=bz
@[simp] noncomputable def Bo:Qd 6 ["walk", "stay", "go", "rows", "place"] "lazy" BK fun P w K m o Z=>∀{C_Walk},DefD P w K m o 2 "refuse_less" ["thing", "low"] v0->ClsD P w K m o 5 "Walk" v1->MethD P w K m o 1 "Walk" "__len__" "Walk.__len__" aV ["self"] v2->OCls K m "Walk" C_Walk ["rows", "whole"]->Nn m "len"->Nn m "range"->Nn m "tuple"->Z:=
 ⟨_,fun ya yb yc yd ye yf yg hr=>have nd:=Eh.nd;(aq (cu (aB ya hr aD (ao (aa 1) (ao aA aj))))
  (aq (cu (aB ya hr aD (ao (aa 2) (ao aA aj))))
  (aq (zZ (i:=3) (own:=["row"]) (js:=[2]) (fr:=["go"]) .val nd rfl (Or.inl rfl) rfl (by trivial) (bV (cV yd (by decide) (aa 0))) (λz z z z z z=>(aK (i:=0) (jy ["row", "go"]) rfl (Or.inl rfl))) (λz z z z z z=>cL) (λz z z z z z=>(b8 (own:=["weight"]) (js:=[1]) (fr:=["go"]) .sto rfl (by trivial) (bV (aa 0)) (λz z z z z z=>(aK (i:=0) (jy ["weight", "go"]) rfl (Or.inl rfl))) (λz z z z z z=>cL) (λz z z z z z=>(aM bR (aa 0) (aa 1))))))
  (aq (cC 0 WP rfl (bA rfl yf (ao (aU (bZ yc hr aD (λz z z z z z us hl=>by obtain⟨_,rfl⟩:=cP hl;rfl)) ye (ao (aa 0) aj)) aj)) (aK (i:=4) nd rfl (Or.inl rfl))
  (au (Nt (aQ aX (aa 3) (aa 4)) (aa 4) K8 (aM bR (aa 1) (cV yd (by decide) (aa 0))))))
  (au (aJ (iT yb hr aD (ao (cg (T := "tuple") aL yg (ao (iJ "row" [] [] (gG (aa 3)) (cg (T := "tuple") aL yg (ao (aa 0) aj))) aj)) aj))))))))⟩
noncomputable def Hq:=(Bo v0 v1 v2).1
abbrev vd:Stmt:=top 53
theorem JH:Sc ["walk", "steps"] ["walk", "steps"] vd:=bz
@[simp] noncomputable def Bl:Qd 6 ["walk", "steps"] "folded" vd fun P w K m o Z=>ClsD P w K m o 5 "Walk" v0->MethD P w K m o 6 "Walk" "power" "Walk.power" iw ["self", "steps"] v1->Z:=
 ⟨_,fun ya yb hr=>(aq (bM (bF (gq hr.units) (aa 1) aA)
  (au dI)
  bc)
  (au (aJ (iT ya hr aD (ao (Nj yb hr aD (aa 0) (ao (aa 1) aj) (λz z z z z z us hl=>by obtain⟨_,_,rfl⟩:=jH hl;rfl)) aj)))))⟩
noncomputable def zN:=(Bl v0 v1).1
abbrev vm:Stmt:=top 55
theorem yL:Sc ["walk", "rest", "common", "weight", "many"] ["walk"] vm:=bz
@[simp] noncomputable def u9:Qd 8 ["walk", "rest", "common", "weight", "many"] "turned" vm fun P w K m o Z=>∀{C_Walk},DefD P w K m o 8 "one_rest" ["walk"] v0->DefD P w K m o 2 "least_multiple" ["one", "other"] v1->DefD P w K m o 7 "plainest" ["walk"] v2->ClsD P w K m o 5 "Walk" v3->MethD P w K m o 1 "Walk" "__len__" "Walk.__len__" aV ["self"] v4->OCls K m "Walk" C_Walk ["rows", "whole"]->Nn m "len"->Nn m "range"->Nn m "tuple"->Z:=
 ⟨_,fun ya yb yc yd ye yf yg yh yi hr=>have nd:=yL.nd;(aq (aN (i:=1) nd rfl (Or.inr rfl) (aB ya hr aD (ao (aa 0) aj)))
  (aq (aN (i:=2) nd rfl (Or.inr rfl) aA)
  (aq (cC 0 WP rfl (bV (aa 1)) (aK (i:=3) nd rfl (Or.inl rfl))
  (au (aN (i:=2) nd rfl (Or.inr rfl) (aB yb hr aD (ao (aa 2) (ao (aa 3) aj))))))
  (aq (aN (i:=4) nd rfl (Or.inr rfl) (aU (bZ ye hr aD (λz z z z z z us hl=>by obtain⟨_,rfl⟩:=cP hl;rfl)) yg (ao (aa 0) aj)))
  (au (aJ (aB yc hr aD (ao (iT yd hr aD (ao (cg (T := "tuple") aL yi (ao (b8 (own:=["x"]) (js:=[4,1,0,2]) (fr:=["many", "rest", "walk", "common"]) .val rfl (by trivial) (bA rfl yh (ao (aa 4) aj)) (λz z z z z z=>(aK (i:=0) (jy ["x", "many", "rest", "walk", "common"]) rfl (Or.inr rfl))) (λz z z z z z=>cL) (λz z z z z z=>(cg (T := "tuple") aL yi (ao (iJ "y" [2,3,0,4] ["rest", "walk", "x", "common"] (bA rfl yh (ao (aa 1) aj)) (aM bR (aM bR (aQ aX (aa 1) (aa 0)) (aQ aX (aQ aX (cV yf (by decide) (aa 2)) (aa 0)) (aa 3))) (aM dM (aa 4) (aQ aX (aa 1) (aa 3))))) aj)))) aj)) aj)) aj))))))))⟩
noncomputable def zQ:=(u9 v0 v1 v2 v3 v4).1
abbrev iZ:Stmt:=top 57
theorem wM:Sc ["_law_script", "_law_k"] ["_law_script", "_law_k"] iZ:=bz
@[simp] noncomputable def oN:Qe 0 ["_law_script", "_law_k"] "_law_cell_at" iZ fun D n Z=>n "len"->Z:=
 ⟨_,fun ya hr=>(aq (bM (bF wu (aa 1) (aU call_lenD ya (ao (aa 0) aj)))
  (au (aJ (aQ aX (aa 0) (aa 1))))
  bc)
  (au (aJ aA)))⟩
noncomputable def iR:=(oN).1
abbrev nP:Stmt:=top 58
theorem su:Sc ["_law_seed"] ["_law_seed"] nP:=bz
@[simp] noncomputable def uC:Qe 0 ["_law_seed"] "_law_next" nP fun _ _ Z=>Z:=
 ⟨_,fun  hr=>have nd:=su.nd;(aq (aN (i:=0) nd rfl (Or.inl rfl) (aM iV (aM cz (aa 0) aA) aA))
  (au (aJ (aM iV (aM cz (aM cz (aM bR (aa 0) (aa 0)) (aM bR aA (aa 0))) aA) aA))))⟩
noncomputable def ux:=(uC).1
abbrev jM:Stmt:=top 59
theorem oZ:Sc ["_law_cell", "_law_left"] ["_law_cell"] jM:=bz
@[simp] noncomputable def jJ:Qe 0 ["_law_cell", "_law_left"] "_law_pen_of" jM fun D n Z=>n "int"->n "max"->Z:=
 ⟨_,fun ya yb hr=>have nd:=oZ.nd;(aq (aN (i:=1) nd rfl (Or.inl rfl) (aU (EY rfl) yb (ao (aa 0) (ao (aM ud aA (aa 0)) aj))))
  (au (aJ (n6 (ao (aa 1) (ao (cg (T := "int") vQ ya (ao (jo wj (aa 1) (aM DN aA aA)) aj)) (ao (aM iV (aa 1) aA) aj)))))))⟩
noncomputable def qt:=(jJ).1
abbrev nJ:Stmt:=top 60
theorem rZ:Sc ["_law_pen", "_law_many", "_law_found"] ["_law_pen", "_law_many"] nJ:=bz
@[simp] noncomputable def nF:Qe 1 ["_law_pen", "_law_many", "_law_found"] "_law_draw" nJ fun D n Z=>D 1 "_law_next" ["_law_seed"] v0->Z:=
 ⟨_,fun ya hr=>have nd:=rZ.nd;(aq (bM (DW.dt (Qc (bF (gq hr.units) (aQ aX (aa 0) aA) aA) (Nv (bF Jc (aQ aX (aa 0) aA) aA))))
  (aq (aN (i:=2) nd rfl (Or.inl rfl) (aM iV (aQ aX (aa 0) aA) (aa 1)))
  (aq (jt (aM dM (aQ aX (aa 0) aA) (aa 1)) (q8 (aa 0) aA wQ))
  (au (aJ (aa 2)))))
  bc)
  (aq (jt (aB ya hr aD (ao (aM cz (aB ya hr aD (ao (aQ aX (aa 0) aA) aj)) aA) aj)) (q8 (aa 0) aA wQ))
  (au (aJ (aM iV (aM dM (aQ aX (aa 0) aA) aA) (aa 1))))))⟩
noncomputable def uw:=(nF v0).1
abbrev pY:Stmt:=top 61
theorem uE:Sc ["_law_pen", "_law_many", "_law_whole", "_law_some", "_law_row_here", "_law_turn", "_law_at"] ["_law_pen", "_law_many", "_law_whole", "_law_some"] pY:=bz
@[simp] noncomputable def pP:Qe 2 ["_law_pen", "_law_many", "_law_whole", "_law_some", "_law_row_here", "_law_turn", "_law_at"] "_law_row" pY fun D n Z=>D 2 "_law_draw" ["_law_pen", "_law_many"] v0->n "len"->n "range"->n "tuple"->Z:=
 ⟨_,fun ya yb yc yd hr=>have nd:=uE.nd;(aq (aN (i:=4) nd rfl (Or.inl rfl) (aM DK (lH (ao aA aj)) (aa 1)))
  (aq (cC 0 WP rfl (bA rfl yc (ao (aa 2) aj)) (aK (i:=5) nd rfl (Or.inl rfl))
  (aq (aN (i:=6) nd rfl (Or.inl rfl) (aQ aX (aa 3) (aB ya hr aD (ao (aa 0) (ao (aU call_lenD yb (ao (aa 3) aj)) aj)))))
  (au (jt (aM cz (aQ aX (aa 4) (aa 6)) aA) (q8 (aa 4) (aa 6) wQ)))))
  (au (aJ (cg (T := "tuple") aL yd (ao (aa 4) aj))))))⟩
noncomputable def vH:=(pP v0).1
abbrev nQ:Stmt:=top 62
theorem sy:Sc ["_law_pen", "_law_top", "_law_many", "_law_whole", "_law_rows_here", "_law_x", "_law_some", "_law_by"] ["_law_pen", "_law_top"] nQ:=bz
@[simp] noncomputable def nG:Qe 3 ["_law_pen", "_law_top", "_law_many", "_law_whole", "_law_rows_here", "_law_x", "_law_some", "_law_by"] "_law_rows" nQ fun D n Z=>D 2 "_law_draw" ["_law_pen", "_law_many"] v0->D 3 "_law_row" ["_law_pen", "_law_many", "_law_whole", "_law_some"] v1->n "list"->n "range"->n "tuple"->Z:=
 ⟨_,fun ya yb yc yd ye hr=>have nd:=sy.nd;(aq (vV (i:=2) (j:=3) rfl nd rfl rfl (by decide) rfl rfl (ao (aM cz aA (aB ya hr aD (ao (aa 0) (ao (aa 1) aj)))) (ao (aM cz aA (aB ya hr aD (ao (aa 0) (ao aA aj)))) aj)) rfl)
  (aq (aN (i:=4) nd rfl (Or.inl rfl) (n6 aj))
  (aq (cC 0 WP rfl (bA rfl yd (ao (aa 2) aj)) (aK (i:=5) nd rfl (Or.inl rfl))
  (aq (aN (i:=6) nd rfl (Or.inl rfl) (aQ aX (lH (ao (HB rfl yc yd (ao (aa 2) aj)) (ao (lH (ao (aB ya hr aD (ao (aa 0) (ao (aa 2) aj))) (ao (aB ya hr aD (ao (aa 0) (ao (aa 2) aj))) aj))) aj))) (aB ya hr aD (ao (aa 0) (ao aA aj)))))
  (au (cu (tO X6 Y0 YW tX (aa 4) (ao (aB yb hr aD (ao (aa 0) (ao (aa 2) (ao (aa 3) (ao (aa 6) aj))))) aj))))))
  (aq (aN (i:=7) nd rfl (Or.inr rfl) (aQ aX (lH (ao aA (ao aA (ao aA (ao (aM DN aA aA) aj))))) (aB ya hr aD (ao (aa 0) (ao aA aj)))))
  (au (aJ (cg (T := "tuple") aL ye (ao (b8 (own:=["_law_row_here"]) (js:=[7]) (fr:=["_law_by"]) .val rfl (by trivial) (gG (aa 4)) (λz z z z z z=>(aK (i:=0) (jy ["_law_row_here", "_law_by"]) rfl (Or.inl rfl))) (λz z z z z z=>cL) (λz z z z z z=>(cg (T := "tuple") aL ye (ao (iJ "_law_weight" [1] ["_law_by"] (bV (aa 0)) (aM bR (aa 0) (aa 1))) aj)))) aj))))))))⟩
noncomputable def uy:=(nG v0 v1).1
abbrev fL:Stmt:=top 63
theorem jD:Sc ["_law_pen", "_law_top", "_law_found", "_law_x", "_law_row_here", "_law_at"] ["_law_pen", "_law_top"] fL:=bz
@[simp] noncomputable def fJ:Qe 4 ["_law_pen", "_law_top", "_law_found", "_law_x", "_law_row_here", "_law_at"] "_law_round_rows" fL fun D n Z=>D 4 "_law_rows" ["_law_pen", "_law_top"] v0->n "enumerate"->n "len"->n "tuple"->Z:=
 ⟨_,fun ya yb yc yd hr=>have nd:=jD.nd;(aq (aN (i:=2) nd rfl (Or.inl rfl) (n6 aj))
  (aq (cC 0 WP rfl (wZ rfl yb (ao (aB ya hr aD (ao (aa 0) (ao (aa 1) aj))) aj)) (jq (n:=2) rfl (bJ (aK (i:=3) nd rfl (Or.inl rfl)) (bJ (aK (i:=4) nd rfl (Or.inl rfl)) gm)))
  (aq (aN (i:=5) nd rfl (Or.inl rfl) (aM iV (aM cz (aa 3) aA) (aU call_lenD yc (ao (aa 4) aj))))
  (au (cu (tO X6 Y0 YW tX (aa 2) (ao (aM cz (aM cz (uQ (aa 4) w5 (ou (aa 5))) (oh (ao (aM cz (aQ aX (aa 4) (aa 5)) aA) aj))) (uQ (aa 4) (ou (aM cz (aa 5) aA)) w5)) aj))))))
  (au (aJ (cg (T := "tuple") aL yd (ao (aa 2) aj))))))⟩
noncomputable def jY:=(fJ v0).1
abbrev lZ:Stmt:=top 64
theorem qJ:Sc ["_law_pen", "_law_many", "_law_left", "_law_found"] ["_law_pen", "_law_many"] lZ:=bz
@[simp] noncomputable def lV:Qe 2 ["_law_pen", "_law_many", "_law_left", "_law_found"] "_law_order" lZ fun D n Z=>D 2 "_law_draw" ["_law_pen", "_law_many"] v0->n "len"->n "list"->n "range"->Z:=
 ⟨_,fun ya yb yc yd hr=>have nd:=qJ.nd;(aq (vV (i:=2) (j:=3) rfl nd rfl rfl (by decide) rfl rfl (ao (Fo rfl yc yd (ao (aa 1) aj)) (ao (n6 aj) aj)) rfl)
  (aq (pI N WP (bF (Q8 hr.units) (aa 2) (lH aj)) (au (cu (tO X6 Y0 YW tX (aa 3) (ao (tO X6 PySem.F.slot_list_pop PySem.F.type_list_pop Dw (aa 2) (ao (aB ya hr aD (ao (aa 0) (ao (aU call_lenD yb (ao (aa 2) aj)) aj))) aj)) aj)))))
  (au (aJ (aa 3)))))⟩
noncomputable def gC:=(lV N v0).1
abbrev iy:Stmt:=top 65
theorem mj:Sc ["_law_walk", "_law_count", "_law_best", "_law_start", "_law_found"] ["_law_walk", "_law_count"] iy:=bz
@[simp] noncomputable def il:Qd 9 ["_law_walk", "_law_count", "_law_best", "_law_start", "_law_found"] "_law_greatest" iy fun P w K m o Z=>DefD P w K m o 4 "is_less" ["one", "other"] v0->MethD P w K m o 1 "Walk" "__len__" "Walk.__len__" aV ["self"] v1->DefK P w K m o 9 "separation" eV ["walk", "start", "steps"] v2->Nn m "len"->Nn m "range"->Z:=
 ⟨_,fun ya yb yc yd ye hr=>have nd:=mj.nd;(aq (aN (i:=2) nd rfl (Or.inl rfl) (oh (ao aA (ao aA aj))))
  (aq (cC 0 WP rfl (bA rfl ye (ao (aU (bZ yb hr aD (λz z z z z z us hl=>by obtain⟨_,rfl⟩:=cP hl;rfl)) yd (ao (aa 0) aj)) aj)) (aK (i:=3) nd rfl (Or.inl rfl))
  (aq (aN (i:=4) nd rfl (Or.inl rfl) (lG (ks:=["steps"]) yc hr aD (ao (aa 0) (ao (aa 3) aj)) (pH (aa 1) gJ) (λz z z z z z us ws h1 h2=>by obtain⟨_,rfl⟩:=cP h1;obtain⟨_,_,rfl⟩:=jH (show us.length=2 by simpa using h2);rfl)))
  (au (aN (i:=2) nd rfl (Or.inl rfl) (Fj (bj (aB ya hr aD (ao (aa 2) (ao (aa 4) aj))) (λz=>rfl)) (aa 4) (aa 2))))))
  (au (aJ (aa 2)))))⟩
noncomputable def mL:=(il v0 v1 v2).1
abbrev fK:Stmt:=top 66
theorem jC:Sc ["_law_walk", "_law_other", "_law_order_here", "_law_slow", "_law_back", "_law_rest", "_law_count", "_law_new", "_law_old"] ["_law_walk", "_law_other", "_law_order_here"] fK:=bz
@[simp] noncomputable def fH:Qd 10 ["_law_walk", "_law_other", "_law_order_here", "_law_slow", "_law_back", "_law_rest", "_law_count", "_law_new", "_law_old"] "_law_made_right" fK fun P w K m o Z=>DefD P w K m o 9 "turned" ["walk"] v0->DefD P w K m o 8 "one_rest" ["walk"] v1->DefD P w K m o 10 "_law_greatest" ["_law_walk", "_law_count"] v2->DefD P w K m o 4 "is_less" ["one", "other"] v3->DefK P w K m o 9 "separation" eV ["walk", "start", "steps"] v4->DefF P w K m o 7 "lazy" ["walk", "stay", "go"] [D.int 1,D.int 1] v5->Nn m "enumerate"->Nn m "range"->Nn m "tuple"->Z:=
 ⟨_,fun ya yb yc yd ye yf yg yh yi hr=>have nd:=jC.nd;(aq (vV (i:=3) (j:=4) rfl nd rfl rfl (by decide) rfl rfl (ao (Kq yf hr aD (ao (aa 0) aj)) (ao (aB ya hr aD (ao (aa 0) aj)) aj)) rfl)
  (aq (aN (i:=5) nd rfl (Or.inr rfl) (aB yb hr aD (ao (aa 0) aj)))
  (aq (bM (DW.dt (gM (bF (cT hr.units) (aB yb hr aD (ao (aa 1) aj)) (cg (T := "tuple") aL yi (ao (iJ "_law_place" [5] ["_law_rest"] (gG (aa 2)) (aQ aX (aa 1) (aa 0))) aj))) (gM (bF (cT hr.units) (aB yb hr aD (ao (aa 3) aj)) (aa 5)) (gO (bF (cT hr.units) (aB yb hr aD (ao (aa 4) aj)) (aa 5))))))
  (au (aJ d7))
  bc)
  (aq (cC 0 WP rfl (bA rfl yh (ao aA aj)) (aK (i:=6) nd rfl (Or.inl rfl))
  (aq (bM (bF (cT hr.units) (aB yc hr aD (ao (aa 0) (ao (aa 6) aj))) (aB yc hr aD (ao (aa 4) (ao (aa 6) aj))))
  (au (aJ d7))
  bc)
  (au (Nu 20 WP rfl rfl yg (ao (aa 2) aj) (jq (n:=2) rfl (bJ (aK (i:=7) nd rfl (Or.inl rfl)) (bJ (aK (i:=8) nd rfl (Or.inl rfl)) gm)))
  (aq (bM (bF (cT hr.units) (lG (ks:=["steps"]) ye hr aD (ao (aa 1) (ao (aa 7) aj)) (pH (aa 6) gJ) (λz z z z z z us ws h1 h2=>by obtain⟨_,rfl⟩:=cP h1;obtain⟨_,_,rfl⟩:=jH (show us.length=2 by simpa using h2);rfl)) (lG (ks:=["steps"]) ye hr aD (ao (aa 0) (ao (aa 8) aj)) (pH (aa 6) gJ) (λz z z z z z us ws h1 h2=>by obtain⟨_,rfl⟩:=cP h1;obtain⟨_,_,rfl⟩:=jH (show us.length=2 by simpa using h2);rfl)))
  (au (aJ d7))
  bc)
  (au (bM (bj (aB yd hr aD (ao (lG (ks:=["steps"]) ye hr aD (ao (aa 3) (ao (aa 8) aj)) (pH (aa 6) gJ) (λz z z z z z us ws h1 h2=>by obtain⟨_,rfl⟩:=cP h1;obtain⟨_,_,rfl⟩:=jH (show us.length=2 by simpa using h2);rfl)) (ao (lG (ks:=["steps"]) ye hr aD (ao (aa 3) (ao (aa 8) aj)) (pH (aM cz (aa 6) aA) gJ) (λz z z z z z us ws h1 h2=>by obtain⟨_,rfl⟩:=cP h1;obtain⟨_,_,rfl⟩:=jH (show us.length=2 by simpa using h2);rfl)) aj))) (λz=>rfl))
  (au (aJ d7))
  bc)))))))
  (au (aJ d7))))))⟩
noncomputable def jX:=(fH v0 v1 v2 v3 v4 v5).1
abbrev dZ:Stmt:=top 67
theorem iC:Sc ["_law_walk", "_law_double", "_law_start", "_law_lot", "_law_count"] ["_law_walk"] dZ:=bz
@[simp] noncomputable def dX:Qd 7 ["_law_walk", "_law_double", "_law_start", "_law_lot", "_law_count"] "_law_double_right" dZ fun P w K m o Z=>DefD P w K m o 7 "folded" ["walk", "steps"] v0->MethD P w K m o 1 "Walk" "__len__" "Walk.__len__" aV ["self"] v1->MethD P w K m o 5 "Walk" "after" "Walk.after" dF ["self", "lot", "steps"] v2->Nn m "int"->Nn m "len"->Nn m "range"->Nn m "tuple"->Z:=
 ⟨_,fun ya yb yc yd ye yf yg hr=>have nd:=iC.nd;(aq (aN (i:=1) nd rfl (Or.inl rfl) (aB ya hr aD (ao (aa 0) (ao aA aj))))
  (aq (cC 0 WP rfl (bA rfl yf (ao (aU (bZ yb hr aD (λz z z z z z us hl=>by obtain⟨_,rfl⟩:=cP hl;rfl)) ye (ao (aa 0) aj)) aj)) (aK (i:=2) nd rfl (Or.inr rfl))
  (aq (aN (i:=3) nd rfl (Or.inl rfl) (cg (T := "tuple") aL yg (ao (iJ "_law_x" [2] ["_law_start"] (bA rfl yf (ao (aU (bZ yb hr aD (λz z z z z z us hl=>by obtain⟨_,rfl⟩:=cP hl;rfl)) ye (ao (aa 0) aj)) aj)) (cg (T := "int") vQ yd (ao (jo (gq hr.units) (aa 0) (aa 1)) aj))) aj)))
  (au (cC 0 WP rfl (bA rfl yf (ao aA aj)) (aK (i:=4) nd rfl (Or.inl rfl))
  (au (bM (bF (cT hr.units) (pF (ks:=["steps"]) yc hr aD (aa 0) (ao (aa 3) aj) (pH (aM bR aA (aa 4)) gJ) (λz z z z z z us ws h1 h2=>by obtain⟨_,rfl⟩:=cP h1;obtain⟨_,_,rfl⟩:=jH (show us.length=2 by simpa using h2);rfl)) (pF (ks:=["steps"]) yc hr aD (aa 1) (ao (aa 3) aj) (pH (aa 4) gJ) (λz z z z z z us ws h1 h2=>by obtain⟨_,rfl⟩:=cP h1;obtain⟨_,_,rfl⟩:=jH (show us.length=2 by simpa using h2);rfl)))
  (au (aJ d7))
  bc))))))
  (au (aJ d7))))⟩
noncomputable def iI:=(dX v0 v1 v2).1
abbrev Gn:Stmt:=top 68
theorem JL:Sc ["_law_script", "_law_cell", "_law_pen", "_law_rows_here", "_law_walk", "_law_order_here", "_law_other"] ["_law_script"] Gn:=bz
@[simp] noncomputable def Gf:Qd 11 ["_law_script", "_law_cell", "_law_pen", "_law_rows_here", "_law_walk", "_law_order_here", "_law_other"] "law" Gn fun P w K m o Z=>DefD P w K m o 1 "_law_cell_at" ["_law_script", "_law_k"] v0->DefD P w K m o 1 "_law_pen_of" ["_law_cell"] v1->DefD P w K m o 5 "_law_round_rows" ["_law_pen", "_law_top"] v2->DefD P w K m o 3 "_law_order" ["_law_pen", "_law_many"] v3->DefD P w K m o 8 "_law_double_right" ["_law_walk"] v4->DefD P w K m o 11 "_law_made_right" ["_law_walk", "_law_other", "_law_order_here"] v5->ClsD P w K m o 5 "Walk" v6->Nn m "len"->Nn m "tuple"->Z:=
 ⟨_,fun ya yb yc yd ye yf yg yh yi hr=>have nd:=JL.nd;(aq (cC 0 PassesOwn.leaving rfl (gG (aM cz (lH (ao (aB ya hr aD (ao (aa 0) (ao aA aj))) aj)) (HD (aa 0) (ou aA) (ou aA)))) (aK (i:=1) nd rfl (Or.inl rfl))
  (aq (aN (i:=2) nd rfl (Or.inl rfl) (aB yb hr aD (ao (aa 1) aj)))
  (aq (aN (i:=3) nd rfl (Or.inr rfl) (aB yc hr aD (ao (aa 2) (ao aA aj))))
  (aq (jt (oh (ao (iT yg hr aD (ao (aa 3) aj)) (ao (aB yd hr aD (ao (aa 2) (ao (aU call_lenD yh (ao (aa 3) aj)) aj))) aj))) (jq (n:=2) rfl (bJ (aK (i:=4) nd rfl (Or.inl rfl)) (bJ (aK (i:=5) nd rfl (Or.inr rfl)) gm))))
  (aq (aN (i:=6) nd rfl (Or.inl rfl) (iT yg hr aD (ao (cg (T := "tuple") aL yi (ao (b8 (own:=["_law_x"]) (js:=[5,3]) (fr:=["_law_order_here", "_law_rows_here"]) .val rfl (by trivial) (gG (aa 5)) (λz z z z z z=>(aK (i:=0) (jy ["_law_x", "_law_order_here", "_law_rows_here"]) rfl (Or.inr rfl))) (λz z z z z z=>cL) (λz z z z z z=>(cg (T := "tuple") aL yi (ao (iJ "_law_y" [2,0] ["_law_rows_here", "_law_x"] (gG (aa 1)) (aQ aX (aQ aX (aa 1) (aa 2)) (aa 0))) aj)))) aj)) aj)))
  (au (bM (DW.dt (gM (cD (bj (aB yf hr aD (ao (aa 4) (ao (aa 6) (ao (aa 5) aj)))) (λz=>rfl))) (gO (cD (bj (aB ye hr aD (ao (aa 4) aj)) (λz=>rfl))))))
  (au (aJ d7))
  bc)))))))
  (au (aJ d7)))⟩
noncomputable def LR:=(Gf v0 v1 v2 v3 v4 v5 v6).1
end
end K
set_option exponentiation.threshold 20000
namespace K
open PySem L2 L3 N10
theorem cI:(∀(α:Type) (a:α) (l:List α),(a::l)[0]?=some a)/\(∀(α:Type) (a:α) (l:List α) (i:Nat),(a::l)[i+1]?=l[i]?)/\(∀(α:Type) (x:Option α),(some x).join=x)/\(∀(α:Type) (a:α),(opt (some a):DM α)=pure a)/\∀(α β:Type) (a:α) (f:α->DM β),((pure a:DM α)>>=f)=f a:=⟨λz z z=>rfl,λz z z z=>rfl,λz z=>rfl,λz z=>fU _,λz z z z=>az _ _⟩
theorem jz:(∀(α:Type) (a b:α) (l:List α) (i:Nat),(a::l).set (i+1) b=a::l.set i b)/\∀(α:Type) (a b:α) (l:List α),(a::l).set 0 b=b::l:=⟨λz z z z z=>rfl,λz z z z=>rfl⟩
noncomputable def nW:=aG 1 1 vK
noncomputable def xX:=aG 2 2 (qu nW)
theorem rB(n:Nat):nW [nD n]=pure (.bl true):=by
 have a:(rd (lM [nD n,.ty "int"]):DM D)=pure (.bl true):=uf (t := "int") (λz=>rfl) (by decide)
 have b:(rd (lM [nD n,.ty "bool"]):DM D)=pure (.bl false):=uf (t := "int") (λz=>rfl) (by decide)
 simp[nW,vK,a,b]
theorem Ho{l:List Nat}(hl:l.length<=1000):xX [nT l,.int (l.length:Int)]=pure (.bl true):=by
 have a:(rd (lM [nT l,.ty "tuple"]):DM D)=pure (.bl true):=uf (t := "tuple") (λz=>rfl) (by decide)
 have ln:(rd (gY [nT l]):DM D)=pure (.int (l.length:Int)):=by simp[nT]
 simp[xX,qu,a,ln,aP,du];show (dq (bx _ _ _ (l.map nD) _ _)>>=_)=_;rw[Ma (λz=>true) (λz=>.bl true) (by simpa using Xm hl (by decide)) (λz z=>rfl) (λd hd z=>?_) (k':=λl=>rd (uL [.lst l])) (λz=>rfl)]
 ·have:((l.map nD).filter (λz=>true)).map (λz=>D.bl true)=(l.map λz=>true).map D.bl:=by rw[Yy.mpr (λz z=>rfl),Xd,Xd];rfl
  have q:(l.map λz=>true).all id=true:=by rw[Zi];intro x hx;obtain⟨_,_,rfl⟩:=Xl.mp hx;rfl
  rw[this,Jr,q]
 ·obtain⟨n,_,rfl⟩:=Xl.mp hd;have:=rB n;unfold nD at this ⊢
  simp[this]
theorem kZ:∀ {l:List Nat}{n:Nat},n∈l->n<=l.sum
 |a::l,n,h=>by
   rw[Yv];rcases Wy.mp h with rfl | h
   ·lia
   ·have:=kZ h;lia
theorem Rp(a:Nat):(rd (Es [nD a]):DM D)=pure (nD a):=by unfold nD;rw[Tf,Wr (by lia)]
noncomputable def zm:=aG 2 2 iR
theorem Py(cs:List Int)(k:Nat):∃ c:Int,zm [.scr cs,nD k]=pure (.int c):=by
 by_cases h:k<cs.length
 ·have e:decide ((k:Int)<(cs.length:Int))=true:=WF (by lia)
  have ix:(rd (dm (.scr cs) (.int (k:Int))):DM D)=pure (.int cs[k]):=cJ λM=>by show (atI cs (k:Int)).map _=_;rw[qW (Wk h)];rfl
  refine⟨cs[k],?_⟩;simp[zm,iR,nD,e,ix,h]
 ·have e:decide ((k:Int)<(cs.length:Int))=false:=Xu (by lia)
  refine⟨0,?_⟩;simp[zm,iR,nD,e,h]
theorem aH{f g:ak->DM Fl}{δ:ak}{M:Mo}{Q:Fl->Mo->Prop}(h:∀K:Fl->DM Fl,(∀δ',K (.nx δ')=g δ')->Rn (f δ>>=K) M Q):Rn (xU f g δ) M Q:=by
 have:=h (λr=>match r with | .nx δ'=>g δ' | r=>Pure.pure r) (λz=>rfl)
 exact this
structure WK(R:List (List Nat))(W:Nat):Prop where
 n1:1<=R.length
 n25:R.length<=25
 row:∀r∈R,r.length=R.length
 sum:∀r∈R,r.sum=W
 w1:1<=W
theorem WK.head{R:List (List Nat)}{W:Nat}(h:WK R W):gr R 0∈R:=gr_mem (by have:=h.n1;lia)
noncomputable def Gz:=aG 2 2 (vI xX)
noncomputable def GC:=aG 1 2 (mO Gz)
theorem Nh{l:List Nat}{n:Nat}(h:l.length=n)(hl:n<=1000):xX [nT l,nD n]=pure (.bl true):=by subst h;exact Ho hl
theorem uM(n:Nat):(rd (uL [.lst (List.replicate n (.bl true))]):DM D)=pure (.bl true):=by have:=Jr (List.replicate n true);rw[List.map_replicate]at this;rw[this];simp
theorem rG{α:Type}(l:List α)(d:D):(l.map λz=>d)=List.replicate l.length d:=List.map_const' ..
theorem Pu{R:List (List Nat)}{W:Nat}(h:WK R W):Gz [nM R,nD R.length]=pure (.bl true):=by
 have:=h.n25;simp[Gz,vI,Jv,oU,Bw,rO,aP,du];rw[cG nT (λz=>.bl true) (by lia) (λr hr=>by simp[Nh (h.row r hr) (by lia)])]
 rw[az,rG,uM]
theorem PL{R:List (List Nat)}{W:Nat}(h:WK R W):GC [nM R]=pure (.bl true):=by
 have h1:=h.n1;have h2:=h.n25;have e1:(rd (yF (.int 1) (nD R.length)):DM D)=pure (.bl true):=by rw[show D.int 1=nD 1 from rfl,rP,WF h1]
 have e2:(rd (yF (nD R.length) (.int 25)):DM D)=pure (.bl true):=by rw[show D.int 25=nD 25 from rfl,rP,WF h2]
 have e3:(rd (Dm (nD W) (.int 1)):DM D)=pure (.bl true):=by rw[show D.int 1=nD 1 from rfl,Br,WF h.w1]
 have e4:∀r∈R,(rd (iM (nD r.sum) (nD W)):DM D)=pure (.bl true):=λr hr=>by rw[oR,h.sum r hr];simp
 simp[GC,mO,Jv,oU,e1,e2,Pu h,Jx (R:=R) (by lia),h.sum _ h.head]
 simp[e3,rO,aP,du];rw[cG nT (λz=>.bl true) (by lia) (λr hr=>by simp[e4 r hr])]
 rw[az,rG,uM]
noncomputable def aF(R:List (List Nat))(W:Nat):D:=.obj "Walk" ["rows", "whole"] [nM R,nD W]
noncomputable def Fin:=aG 2 2 (mK GC)
theorem Ei{M:Mo}{ns:List Str}{vs:List D}{f:Str}{d:D}(hl:ns.length=vs.length)(hz:ns.length<1000):zb "Walk" f (.ref M.length) d (M++[.ins "Walk" ns vs])=some (.ok (),M++[.ins "Walk" (putN f ns) (lQ f d ns vs)]):=by
 unfold zb;simp[hl]
 lia
theorem Qp{R:List (List Nat)}{W:Nat}(h:WK R W)(M:Mo):Fin (.ref M.length::[nM R]) (M++[.ins "Walk" [] []])=some (.ok .non,M++[.ins "Walk" ["rows", "whole"] [nM R,nD W]]):=by
 have h1:=h.n1;have go:Rn (Fin (.ref M.length::[nM R])) (M++[.ins "Walk" [] []]) λd M'=>d=.non/\M'=M++[.ins "Walk" ["rows", "whole"] [nM R,nD W]]:=by
  simp[Fin,mK,PL h,Jx (R:=R) (by lia)]
  refine Rn.run (Ei rfl (by decide)) ?_
  rw[h.sum _ h.head];refine Rn.run (Ei rfl (by decide)) ?_
  exact Rn.pure ⟨rfl,rfl⟩
 obtain⟨d,M',e,rfl,rfl⟩:=go;exact e
open Classical in
noncomputable def jj(ds:List D):DM D:=if h:∃p:List (List Nat)×Nat,WK p.1 p.2/\ds=[nM p.1] then pure (aF (choose h).1 (choose h).2) else stuck
theorem mC{R:List (List Nat)}{W:Nat}(h:WK R W):jj [nM R]=pure (aF R W):=by
 have q:∃p:List (List Nat)×Nat,WK p.1 p.2/\[nM R]=[nM p.1]:=⟨(R,W),h,rfl⟩;unfold jj;rw[dif_pos q];obtain⟨a,b⟩:=Z5 q;generalize Classical.choose q=p at a b;have e:R=p.1:=QV (by simpa using b)
 have w:W=p.2:=by have:=h.sum _ h.head;rw[<-this,e];exact a.sum _ a.head
 rw[<-e,<-w]
set_option tactic.hygienic true in
theorem Sh:∀ds M r',jj ds M=some r'->Pn "Walk" Fin ds M r':=by
 intro ds M r' e;unfold jj at e;split at e
 ·rename_i q;obtain⟨a,b⟩:=Z5 q;generalize Classical.choose q=p at a b e;subst b;cases e;refine .inl ⟨["rows", "whole"],[nM p.1,nD p.2],Qp a M,λd hd=>?_,rfl⟩
  rcases Wy.mp hd with rfl | hd
  ·exact .inl (by simp)
  ·exact .inr ⟨p.2,by simpa[nD] using hd⟩
 ·cases e
theorem cO(R:List (List Nat))(W:Nat):(rd (xj "Walk" "rows" (aF R W)):DM D)=pure (nM R):=cJ λM=>by simp[xj,aF]
theorem yw(R:List (List Nat))(W:Nat):(rd (xj "Walk" "whole" (aF R W)):DM D)=pure (nD W):=cJ λM=>by
 have:((Str.ofString "whole")==(Str.ofString "rows"))=false:=by decide
 simp[xj,aF,List.lookup,this]
theorem vZ{m:Str}(h:(["rows", "whole"]:List Str).contains m=false)(R:List (List Nat))(W:Nat):(rd (xn "Walk" m (aF R W)):DM Unit)=pure ():=cJ λM=>by unfold xn aF;dsimp only;rw[Wm ⟨rfl,h⟩]
noncomputable def cM:=aG 1 1 nY
theorem QH(R:List (List Nat))(W:Nat):cM [aF R W]=pure (nD R.length):=by simp[cM,nY,cO,oU]
theorem cR{R:List (List Nat)}{W:Nat}(h:R.length<=25):Al "Walk" cM [aF R W]=pure (nD R.length):=by
 have e:Al "Walk" cM [aF R W]=(if ("Walk":Str) = "Walk" then cM [aF R W]>>=Fd else stuck):=rfl
 rw[e,Wm rfl,QH,az];have q:(0:Int)<=(R.length:Int)/\(R.length:Int)<2^63:=⟨by lia,by lia⟩
 unfold Fd nD;dsimp only;rw[Wm q]
theorem WK.le{R:List (List Nat)}{W:Nat}(h:WK R W){r:List Nat}(hr:r∈R){n:Nat}(hn:n∈r):n<=W:=by rw[<-h.sum r hr];exact kZ hn
theorem WK.at_le{R:List (List Nat)}{W:Nat}(h:WK R W){r:List Nat}(hr:r∈R)(y:Nat):ga r y<=W:=by
 by_cases hy:y<r.length
 ·exact h.le hr (jx hy)
 ·rw[oF (by lia)];exact X3 _
theorem xK{m:DM D}{v:D}(h:∀M,Rn m M λd M'=>d=v/\M'=M):m=pure v:=by funext M;obtain⟨d,M',e,rfl,rfl⟩:=h M;exact e
theorem J8:∀l:List Nat,S l.length (ga l)=l.sum:=λl=>by
 rw[<-jl];congr 1;apply ZJ;intro k;by_cases hk:k<l.length
 ·rw[Wn,W3 hk,Wk hk,Option.map_some,bC hk]
 ·rw[Xn (by simp;lia),Xn (by lia)]
theorem Hl(c:Nat)(f:Nat->Nat):∀ n:Nat,S n (λy=>c * f y)=c * S n f
 |0=>rfl
 |n+1=>by
   show S n (λy=>c*f y)+c*f n=c*(S n f+f n)
   rw[Hl c f n,Y8]
theorem Ig(b:Bool):(rd (Fy [.bl b]):DM D)=pure (nD (if b then 1 else 0)):=by cases b<;>rfl
theorem Ej{l:List Nat}{i v:Nat}(h:i<l.length):(l.set i v).sum + ga l i=l.sum + v:=by
 induction l generalizing i with
 |nil=>simp at h
 | cons a l ih=>
   cases i with
   |zero=>simp[ga];lia
   |succ i=>
     have:=ih (i:=i) (by simpa using h)
     rw[List.set_cons_succ,Yv,Yv];have e:ga (a::l) (i+1)=ga l i:=rfl;rw[e];lia
theorem JR{l:List Nat}{i j v:Nat}(h:i≠j):ga (l.set i v) j=ga l j:=by unfold ga;rw[WQ,WQ,Xh h]
theorem yW{n x:Nat}{f:Nat->Nat}(hx:x<n)(h:∀i,i<n->i≠x->f i=0):S n f=f x:=by
 have e:S n f=S n (up (λz=>0) x (f x)):=bB λi hi=>by
  by_cases q:i=x
  ·subst q;rw[Ep]
  ·rw[Gy q,h i hi q]
 have:S n (up (λz=>0) x (f x))+0=S n (λz=>0)+f x:=J9 (f:=λz=>0) hx
 rw[qU (f:=λz=>0) λz z=>rfl]at this
 lia
theorem oA{a b:List Nat}(hl:a.length=b.length)(h:∀i,i<a.length->ga a i=ga b i):a=b:=by
 apply YB hl;intro i h1 h2;have:=h i h1
 rwa [bC h1,bC h2]at this
theorem R4{l:List Nat}{c:Nat}(h:∀ n∈l,n<=c):l.sum<=l.length * c:=by
 induction l with
 |nil=>simp
 |cons a l ih=>
   have:=ih λn hn=>h n (by simp[hn])
   have:=h a (by simp)
   rw[Yv,Xv,Nat.add_mul]
   lia
theorem m7{n j:Nat}{d:D}(h:((List.range n).map nD)[j]?=some d):j<n/\d=nD j:=by
 have hj:j<n:=by have:=(Wf.mp h).1;simpa using this
 rw[Wn,W3 hj]at h;exact⟨hj,(Wq h).symm⟩
theorem fu{n:Nat}{a:List Nat}(ha:a.length=n):a.sum=S n (ga a):=by rw[<-ha,J8]
theorem aY{a b:Nat}(h:a<2^b){c:Nat}(hc:b<=c):a<2^c:=Wo h (X5 (by decide) hc)
theorem mul_pow{x y a b:Nat}(hx:x<2^a)(hy:y<2^b){c:Nat}(hc:a+b<=c):x*y<2^c:=aY (Nat.pow_add 2 a b ▸ Nat.mul_lt_mul_of_lt_of_lt hx hy) hc
theorem Jw{l:List Nat}{i:Nat}(h:i<l.length):(rd (dm (.lst (l.map nD)) (nD i)):DM D)=pure (nD (ga l i)):=ug (i:=i) (by rw[Wn,Wk h,bC h];rfl)
theorem fF{k:Nat}{tg:D->ak->DM ak}{fb:ak->DM Fl}{l:List D}{δ:ak}:Ad k tg fb (.fix l) δ=forL tg fb l δ:=rfl
theorem lA{fg:D->ak->DM ak}{ft:ak->DM Bool}{fb:ak->List D->DM (ak×List D)}{ds:List D}{δ:ak}{l:List D}:bU fg ft fb (.fix ds) δ l=bx fg ft fb ds δ l:=rfl
set_option tactic.hygienic true in
theorem Hr{i:Int}(h:i.natAbs<2^8000):Builtin.Int.intBits i<=8000:=by
 unfold Builtin.Int.intBits;split
 ·exact X3 _
 ·rename_i h0;have:i.natAbs≠0:=by intro z;apply h0;simp;lia
  exact (Nat.log2_lt this).mpr h
theorem Dy{i j:Int}(h:i.natAbs<2^8000)(h':j.natAbs<2^8000):fY i j=true:=by
 unfold fY;have h1:=Hr h;have h2:=Hr h';have:Builtin.Int.intTooBig ((Builtin.Int.intBits i:Int)+(Builtin.Int.intBits j:Int))=false:=by
  unfold Builtin.Int.intTooBig;refine Xu λq=>?_
  have hb:16000<=bitsLine:=by decide
  lia
 simp[this]
theorem jB{a b:Nat}(h:a<2^8000)(h':b<2^8000):(rd (lN (nD a) (nD b)):DM D)=pure (nD (a*b)):=by unfold nD;rw[Gj (Dy (by simpa using h) (by simpa using h')),Yp]
theorem Dg{i j:Int}(h0:0<j)(h:j.natAbs<2^8000):mU i j=true:=by
 unfold mU;have a:Builtin.divisionGoesByPylong i j=false:=by
  unfold Builtin.divisionGoesByPylong;have hj:j.natAbs≠0:=by lia
  have hl:j.natAbs.log2<8000:=(Nat.log2_lt hj).mpr h;have h0':(j==0)=false:=by simp;lia
  simp only[h0'];have:¬ (j.natAbs.log2 / 30+1 > 300):=by lia
  simp[this]
 simp[a,h0]
theorem oO{a b:Nat}(h0:0<b)(h:b<2^8000):(rd (gU (nD a) (nD b)):DM D)=pure (nD (a / b)):=by unfold nD;rw[Bq (Dg (by lia) (by simpa using h)),Int.natCast_ediv]
theorem Oq{a b:Nat}(ha:a<2^62)(hb:b<2^62):BJ [nD a,nD b]=some (.fix ((List.range (b-a)).map λk=>nD (a+k))):=by
 have e:∀x:Nat,x<2^62->pX (x:Int)=true:=λx h=>by unfold pX;simp;lia
 have e2:((b:Int)-(a:Int)).toNat=b-a:=by lia
 simp[BJ,nD,e a ha,e b hb,e2,pW]
theorem Nf{f g:ak->DM Fl}{δ:ak}{M:Mo}{Q:Fl->Mo->Prop}(h:∀K:Fl->DM Fl,(∀δ',K (.nx δ')=g δ')->(∀d,K (.rt d)=Pure.pure (.rt d))->Rn (f δ>>=K) M Q):Rn (xU f g δ) M Q:=by
 have:=h (λr=>match r with | .nx δ'=>g δ' | r=>Pure.pure r) (λz=>rfl) (λz=>rfl)
 exact this
noncomputable def G4:=aG 1 1 ux
theorem Ja{s:Nat}(h:s<2^40):∃t:Nat,t<2147483629/\G4 [nD s]=pure (nD t):=by
 refine⟨(((s+7919)%2147483647)*((s+7919)%2147483647)+48271*((s+7919)%2147483647)+12345)%2147483629,Ys _ (by decide),?_⟩
 have a1:(rd (dU (nD s) (.int 7919)):DM D)=pure (nD (s+7919)):=jA s 7919;have a2:(rd (pN (nD (s+7919)) (.int 2147483647)):DM D)=pure (nD ((s+7919)%2147483647)):=kW (b:=2147483647) (by decide)
 have lt:=Ys (s+7919) (show 2147483647 > 0 by decide)
 generalize (s+7919)%2147483647=x at a2 lt;have a3:(rd (lN (nD x) (nD x)):DM D)=pure (nD (x*x)):=oW (by lia)
 have a4:(rd (lN (.int 48271) (nD x)):DM D)=pure (nD (48271*x)):=oW (a:=48271) (by lia)
 have a5:∀a b:Nat,(rd (dU (nD a) (nD b)):DM D)=pure (nD (a+b)):=λa b=>jA a b
 have a6:(rd (dU (nD (x*x+48271*x)) (.int 12345)):DM D)=pure (nD (x*x+48271*x+12345)):=jA _ 12345;have a7:(rd (pN (nD (x*x+48271*x+12345)) (.int 2147483629)):DM D)=pure (nD ((x*x+48271*x+12345)%2147483629)):=kW (b:=2147483629) (by decide)
 simp[G4,ux,a1,a2,a3,a4,a5,a6,a7]
noncomputable def fG(p:Nat)(M:Mo):Prop:=∃a b c:Nat,c<2^40/\M[p]?=some (.lst [nD a,nD b,nD c])
theorem fG.lt{p:Nat}{M:Mo}(h:fG p M):p<M.length:=by obtain⟨a,b,c,_,e⟩:=h;exact (Wf.mp e).1
theorem fG.sb{p q:Nat}{M M':Mo}(h:fG p M)(s:Sb q M M')(hq:p≠q):fG p M':=by obtain⟨a,b,c,hc,e⟩:=h;exact⟨a,b,c,hc,s.at hq e⟩
noncomputable def zy:=aG 1 2 qt
theorem Oi(c:Int)(M:Mo):Rn (zy [.int c]) M λd M'=>d=.ref M.length/\fG M.length M':=by
 unfold zy qt jJ;dsimp only;refine Rn.call rfl ?_;refine aH λK hK=>?_
 have p18:(rd (Ge (.int 10) (.int 18)):DM D)=pure (.int 1000000000000000000):=by rw[Mz (by decide)];rfl
 have st:bw 2 [D.int c]=[some (.int c),none]:=rfl;rw[st];simp;have en:D.int (if c < -c then -c else c)=nD (if c < -c then -c else c).toNat:=by unfold nD;congr 1;split<;>lia
 rw[en];generalize (if c < -c then -c else c).toNat=n
 rw[hK];clear hK K;have ge:(rd (Dm (nD n) (.int 1000000000000000000)):DM D)=pure (.bl (decide (1000000000000000000<=n))):=Br n 1000000000000000000;have md:(rd (pN (nD n) (.int 1000003)):DM D)=pure (nD (n%1000003)):=kW (b:=1000003) (by decide)
 simp[p18,ge,Ig,md];refine Rn.eG (by simp) ?_
 have lt:=Ys n (show 1000003 > 0 by decide)
 exact Rn.pure ⟨_,rfl,rfl,n,(if 1000000000000000000<=n then 1 else 0),n%1000003,by lia,by simp⟩
noncomputable def qM:=aG 2 3 (uw G4)
theorem jr{p:Nat}{M:Mo}{m:Nat}(h:fG p M)(h0:0<m)(h1:m<2 ^ 60):Rn (qM [.ref p,nD m]) M λd M'=>∃ t:Nat,t<m/\d=nD t/\fG p M'/\Sb p M M':=by
 obtain⟨a,b,c,hc,e⟩:=h;have hp:=(Wf.mp e).1;unfold qM uw nF;dsimp only;refine Rn.call rfl ?_;have st:bw 3 [D.ref p,nD m]=[some (.ref p),some (nD m),none]:=rfl;rw[st];have i0:dm (.ref p) (.int 0) M=some (nD a):=rE (i:=0) e rfl;have i1:dm (.ref p) (.int 1) M=some (nD b):=rE (i:=1) e rfl;have i2:dm (.ref p) (.int 2) M=some (nD c):=rE (i:=2) e rfl;have eb:(rd (iM (nD b) (.int 1)):DM D)=pure (.bl (decide (b=1))):=oR b 1;have ga:(rd (Dn (nD a) (.int 0)):DM D)=pure (.bl (decide (0<a))):=Ju a 0;refine Nf λK hK hR=>?_
 have rest:Rn (K (.nx [some (.ref p),some (nD m),none])) M λr M'=>∃d,r=.rt d/\∃t:Nat,t<m/\d=nD t/\fG p M'/\Sb p M M':=by
  rw[hK];clear hK hR K;refine aH λK hK=>?_
  simp;refine Rn.bindRd _ i2 ?_;obtain⟨t1,l1,e1⟩:=Ja hc;have a7:(rd (dU (nD t1) (.int 7)):DM D)=pure (nD (t1+7)):=jA t1 7;obtain⟨t2,l2,e2⟩:=Ja (s:=t1+7) (by lia)
  simp only[e1,az,a7,e2];refine Rn.run (o7 (i:=2) e (by simp)) ?_
  rw[hK];clear hK K;simp;have at2:(M.set p (.lst [nD a,nD b,nD t2]))[p]?=some (.lst [nD a,nD b,nD t2]):=WR hp;refine Rn.bindRd (nD t2) (rE (i:=2) at2 rfl) ?_;have dv:(rd (gU (nD t2) (.int 64)):DM D)=pure (nD (t2 / 64)):=Js (b:=64) (by decide) (by decide)
  simp[dv,kW (a:=t2 / 64) (b:=m) h0];exact Rn.pure ⟨_,rfl,_,Ys _ h0,rfl,⟨a,b,t2,by lia,at2⟩,Sb.set⟩
 simp;refine Rn.bindRd _ i1 ?_;simp only[eb,az,jh];by_cases hb:b=1
 ·simp[hb];refine Rn.bindRd _ i0 ?_;simp only[ga,az,jh];by_cases ha:0<a
  ·simp[ha];refine Rn.bindRd _ i0 ?_;simp[kW (a:=a) (b:=m) h0];refine Rn.bindRd _ i0 ?_;simp[Js (a:=a) (b:=m) h0 (Nat.lt_trans h1 (by decide))]
   refine Rn.run (o7 (i:=0) e (by simp)) ?_
   have at2:(M.set p (.lst [nD (a / m),nD b,nD c]))[p]?=some (.lst [nD (a / m),nD b,nD c]):=WR hp;simp;rw[hR];exact Rn.pure ⟨_,rfl,_,Ys _ h0,rfl,⟨_,b,c,hc,at2⟩,Sb.set⟩
  ·simp[ha];exact rest
 ·simp[hb];exact rest
inductive Rch(N:List (List Nat))(x:Nat):Nat->Prop
 |here:Rch N x x
 |step {y z:Nat}:Rch N x y->z∈gr N y->Rch N x z
noncomputable def zr:=aG 2 6 (eX 60)
theorem Sx:∀ds M r,zr ds M=some r->∃n,aG 2 6 (eX n) ds M=some r:=λz z z h=>⟨60,h⟩
structure Bfs(N:List (List Nat))(s n:Nat)(ks q:List Nat):Prop where
 nd:ks.Nodup
 lt:∀x∈ks,x<n
 rch:∀x∈ks,Rch N s x
 st:s∈ks
 sub:∀x∈q,x∈ks
 done:∀x∈ks,x∉q->∀y∈gr N x,y∈ks
theorem Bfs.all{N:List (List Nat)}{s n:Nat}{ks:List Nat}(b:Bfs N s n ks [])(x:Nat):x∈ks ↔ Rch N s x:=by
 refine⟨b.rch x,λh=>?_⟩
 induction h with
 |here=>exact b.st
 |step h1 h2 ih=>exact b.done _ ih (by simp) _ h2
theorem pO{n:Nat}{ks:List Nat}(nd:ks.Nodup)(lt:∀x∈ks,x<n):ks.length<=n:=by
 have:=List.Nodup.length_le_of_subset nd (l₂:=List.range n) λx hx=>Wt.mpr (lt x hx)
 rwa [WT]at this
theorem Ru{N:List (List Nat)}{x:Nat}(h:x<N.length):(rd (dm (.lst (N.map nT)) (nD x)):DM D)=pure (nT (gr N x)):=cJ λM=>by
 show (aR (.lst (N.map nT)) M).bind (λl=>atI l (x:Int))=_
 show atI (N.map nT) (x:Int)=_;unfold atI;have e:ixN (N.map nT).length (x:Int)=some x:=by rw[Wh];exact Aj h
 rw[e];show (N.map nT)[x]?=_;rw[Wn,Wk h];unfold gr;rw[WQ,Wk h];rfl
structure FsS(M0:Mo)(ks vs q:List Nat)(M:Mo):Prop where
 dic:M[M0.length]?=some (.dic (kD ks) (vs.map nD))
 que:M[M0.length+1]?=some (.lst (q.map nD))
 len:ks.length=vs.length
 old:∀(j:Nat) (o:DO),M0[j]?=some o->M[j]?=some o
theorem FsS.setQ{M0 M:Mo}{ks vs q:List Nat}(f:FsS M0 ks vs q M)(q':List Nat):FsS M0 ks vs q' (M.set (M0.length+1) (.lst (q'.map nD))):=
 ⟨by rw[List.getElem?_set_ne (by lia)];exact f.dic,by rw[List.getElem?_set_self (List.getElem?_eq_some_iff.mp f.que).1],f.len,fun j o e=>by have:=(Wf.mp e).1;rw[Xh (by lia)];exact f.old j o e⟩
theorem FsS.setK{M0 M:Mo}{ks vs q:List Nat}(f:FsS M0 ks vs q M)(x v:Nat):FsS M0 (ks++[x]) (vs++[v]) q (M.set M0.length (.dic (kD (ks++[x])) ((vs++[v]).map nD))):=
 ⟨by rw[List.getElem?_set_self (List.getElem?_eq_some_iff.mp f.dic).1],by rw[List.getElem?_set_ne (by lia)];exact f.que,by simp[f.len],fun j o e=>by have:=(Wf.mp e).1;rw[Xh (by lia)];exact f.old j o e⟩
noncomputable def Um(M0:Mo)(N:List (List Nat))(s n:Nat)(m:Nat)(δ:ak)(M:Mo):Prop:=m<=25/\∃ks vs q,Bfs N s n ks q/\m=q.length+(n-ks.length)/\FsS M0 ks vs q M/\∃z4 z5,δ=[some (.lst (N.map nT)),some (nD s),some (.ref M0.length),some (.ref (M0.length+1)),z4,z5]
structure Mid(N:List (List Nat))(s n x m i:Nat)(ks q:List Nat):Prop where
 nd:ks.Nodup
 lt:∀y∈ks,y<n
 rch:∀y∈ks,Rch N s y
 st:s∈ks
 me:x∈ks
 sub:∀y∈q,y∈ks
 done:∀y∈ks,y∉q->y≠x->∀z∈gr N y,z∈ks
 seen:∀z∈(gr N x).take i,z∈ks
 ms:q.length+(n-ks.length)+1=m
theorem Mid.fin{N:List (List Nat)}{s n x m i:Nat}{ks q:List Nat}(h:Mid N s n x m i ks q)(hi:(gr N x).length<=i):Bfs N s n ks q:=
 ⟨h.nd,h.lt,h.rch,h.st,h.sub,fun y hy hq z hz=>by
  by_cases e:y=x
  ·subst e;exact h.seen z (by rw[YD hi];exact hz)
  ·exact h.done y hy hq e z hz⟩
theorem Mid.skip{N:List (List Nat)}{s n x m i y:Nat}{ks q:List Nat}(h:Mid N s n x m i ks q)(hy:(gr N x)[i]?=some y)(hk:y∈ks):Mid N s n x m (i+1) ks q:=
 ⟨h.nd,h.lt,h.rch,h.st,h.me,h.sub,h.done,fun z hz=>by
  rw[List.take_succ,hy]at hz;rcases W5.mp hz with z1 | z1
  ·exact h.seen z z1
  ·simp at z1;exact z1 ▸ hk,h.ms⟩
theorem Mid.add{N:List (List Nat)}{s n x m i y:Nat}{ks q:List Nat}(h:Mid N s n x m i ks q)(hy:(gr N x)[i]?=some y)(hk:y∉ks)(hn:y<n):Mid N s n x m (i + 1) (ks++[y]) (q++[y]):=by
 have lk:=pO h.nd h.lt;have nd':(ks++[y]).Nodup:=ZL.mpr ⟨h.nd,by simp,λa ha b hb e=>hk (by simp at hb;subst hb;exact e ▸ ha)⟩
 have lt':∀z∈ks++[y],z<n:=λz hz=>by
  rcases W5.mp hz with z1 | z1
  ·exact h.lt z z1
  ·simp at z1;lia
 have lk':=pO nd' lt';refine⟨nd',lt',λz hz=>?_,by simp[h.st],by simp[h.me],λz hz=>?_,λz hz hq hx w hw=>?_,λz hz=>?_,?_⟩
 ·rcases W5.mp hz with z1 | z1
  ·exact h.rch z z1
  ·simp at z1;subst z1;exact .step (h.rch x h.me) (W6 hy)
 ·rcases W5.mp hz with z1 | z1
  ·simp[h.sub z z1]
  ·simp at z1;simp[z1]
 ·have hzy:z≠y:=λe=>hq (by simp[e])
  have hzk:z∈ks:=by
   rcases W5.mp hz with z1 | z1
   ·exact z1
   ·simp at z1;exact absurd z1 hzy
  exact W5.mpr (.inl (h.done z hzk (λe=>hq (by simp[e])) hx w hw))
 ·rw[List.take_succ,hy]at hz;rcases W5.mp hz with z1 | z1
  ·simp[h.seen z z1]
  ·simp at z1;simp[z1]
 ·have:=h.ms;simp at lk' ⊢
  lia
theorem Bfs.mid{N:List (List Nat)}{s n x:Nat}{ks q:List Nat}(h:Bfs N s n ks (x::q)):Mid N s n x ((x::q).length+(n-ks.length)) 0 ks q:=
 ⟨h.nd,h.lt,h.rch,h.st,h.sub x (by simp),λy hy=>h.sub y (by simp[hy]),λy hy hq hx=>h.done y hy (by simp[hx,hq]),λz hz=>by simp at hz,by simp;lia⟩
noncomputable def Uw(M0:Mo)(N:List (List Nat))(s n x m:Nat)(i:Nat)(δ:ak)(M:Mo):Prop:=(∃ks vs q,Mid N s n x m i ks q/\FsS M0 ks vs q M)/\∃z5,δ=[some (.lst (N.map nT)),some (nD s),some (.ref M0.length),some (.ref (M0.length+1)),some (nD x),z5]
theorem Qk{N:List (List Nat)}{s n:Nat}(hN:N.length=n)(hn:n<=25)(hs:s<n)(hg:∀ x,∀ y∈gr N x,y<n)(M0:Mo):
  Rn (zr [.lst (N.map nT),nD s]) M0 λd M'=>d=.ref M0.length/\∃(ks vs:List Nat),M'[M0.length]?=some (.dic (kD ks) (vs.map nD))/\ks.Nodup/\(∀x,x∈ks ↔ Rch N s x)/\(∀x∈ks,x<n)/\∀(j:Nat) (o:DO),M0[j]?=some o->M'[j]?=some o:=by
 unfold zr eX iW;dsimp only;refine Rn.call rfl ?_;have st:bw 6 [.lst (N.map nT),nD s]=[some (.lst (N.map nT)),some (nD s),none,none,none,none]:=rfl;rw[st];refine aH λK hK=>?_
 simp only[cI,cB,aO];refine Rn.bind (Q1:=λd M1=>d=.ref M0.length/\M1=M0++[.dic (kD [s]) [nD 0]]) ⟨_,_,rfl,rfl,rfl⟩ λd M1 ⟨e1,e2⟩=>?_
 subst e1 e2;simp only[jz,az];rw[hK];clear hK K;refine aH λK hK=>?_
 simp only[cI,cB,aO];refine Rn.eG (by simp) ?_
 simp only[jz,az,List.length_append,List.length_cons,List.length_nil,Nat.zero_add];rw[hK];clear hK K;have init:Um M0 N s n (1+(n-1)) [some (.lst (N.map nT)),some (nD s),some (.ref M0.length),some (.ref (M0.length+1)),none,none] ((M0++[.dic (kD [s]) [nD 0]])++[.lst [nD s]]):=by
  refine⟨by lia,[s],[0],[s],⟨by simp,by simp;exact hs,λx hx=>by simp at hx;rw[hx];exact .here,by simp,by simp,λx hx hq=>absurd hx hq⟩,rfl,⟨by simp,by simp,rfl,λj o e=>?_⟩,none,none,rfl⟩
  have:=(Wf.mp e).1;rw[XH,Ws this];exact e
 refine aH λK hK=>?_
 refine Rn.bind (sV (pB:=λδ M=>∃(ks vs:List Nat) (z4 z5:Option D),Bfs N s n ks []/\FsS M0 ks vs [] M/\δ=[some (.lst (N.map nT)),some (nD s),some (.ref M0.length),some (.ref (M0.length+1)),z4,z5]) (Um M0 N s n) (λm δ M hI=>?_) 60 _ _ _ (by lia) init) λr M hI=>?_
 rotate_left
 ·obtain⟨δ',rfl,ks,vs,z4,z5,b,f,rfl⟩:=hI;rw[hK];simp only[cI,cB];exact Rn.pure ⟨_,rfl,rfl,ks,vs,f.dic,b.nd,b.all,b.lt,f.old⟩
 clear hK K init;obtain⟨hm25,ks,vs,q,b,rfl,f,z4,z5,rfl⟩:=hI;have tr:jU (.ref (M0.length+1)) M=some (!(q.map nD).isEmpty):=by unfold jU;dsimp only;rw[f.que]
 refine⟨!(q.map nD).isEmpty,?_,λhb=>?_,λhb=>?_⟩
 ·show (rd (jU (.ref (M0.length+1))):DM Bool) M=_;unfold rd;rw[tr];rfl
 rotate_left
 ·have:q=[]:=by cases q with
   |nil=>rfl
   |cons a l=>simp at hb
  subst this;exact⟨ks,vs,z4,z5,b,f,rfl⟩
 cases q with
 |nil=>simp at hb
 |cons x q=>
 clear hb tr;have mid0:=b.mid;have hx:=b.lt x mid0.me;refine aH λK hK=>?_
 simp only[cI,cB,aO];have lo:aR (.ref (M0.length+1)) M=some ((x::q).map nD):=by unfold aR;dsimp only;rw[f.que]
 refine Rn.bindRd _ lo ?_;have pp:Bf (.ref (M0.length+1)) [.int 0] M=some (.ok (nD x),M.set (M0.length+1) (.lst (q.map nD))):=by
  have ei:ixN ((x::q).map nD).length 0=some 0:=by simp[ixN]
  delta Bf;dsimp only;rw[f.que];dsimp only;rw[ei];rfl
 refine Rn.run pp ?_;have f1:=f.setQ q;generalize M.set (M0.length+1) (.lst (q.map nD))=M1 at f1;simp only[jz,az];rw[hK];clear hK K;have at':(opt (mJ (nT (gr N x))):DM Itn)=pure (.fix ((gr N x).map nD)):=rfl;simp only[cI,cB,aO,Ru (N:=N) (x:=x) (by lia),at',fF]
 refine (bN (Uw M0 N s n x ((x::q).length+(n-ks.length))) _ 0 _ _ ⟨⟨ks,vs,q,mid0,f1⟩,_,rfl⟩ (λi d δ M2 hi hI=>?_)).mono (λr M2 hI=>?_)
 rotate_left
 ·obtain⟨δ',rfl,⟨ks',vs',q',md,f'⟩,z5,rfl⟩:=hI;have bf:=md.fin (by simp)
  exact⟨_,q'.length+(n-ks'.length),rfl,by have:=md.ms;lia,by have:=md.ms;lia,ks',vs',q',bf,rfl,f',_,_,rfl⟩
 rw[Wn]at hi;obtain⟨y,hy,rfl⟩:=Wi.mp hi;obtain⟨⟨ks',vs',q',md,f'⟩,z5,rfl⟩:=hI;rw[WN]at md ⊢
 have hyn:=hg x y (W6 hy);have lk:=pO md.nd md.lt;rw[jL,az];simp only[jz,cI,cB,aO];refine Rn.bindRd _ (Kv (x:=y) f'.dic (by rw[Wh];exact f'.len)) ?_
 simp only[jh,az];by_cases hk:y∈ks'
 ·have e:ks'.contains y=true:=by simpa using hk
  rw[e];simp only[Bool.not_true,Bool.false_eq_true,if_false];exact Rn.pure ⟨_,rfl,⟨ks',vs',q',md.skip hy hk,f'⟩,_,rfl⟩
 ·have e:ks'.contains y=false:=by simpa using hk
  rw[e];simp only[Bool.not_false,if_true];refine aH λK hK=>?_
  obtain⟨v,_,ev⟩:=Nr f'.dic f'.len md.me;simp only[cI,cB,aO];refine Rn.bindRd _ ev ?_;have a1:(rd (dU (nD v) (.int 1)):DM D)=pure (nD (v+1)):=jA v 1;simp only[a1,az];refine Rn.run (Kw (x:=y) (v:=nD (v+1)) f'.dic (by rw[Wh];exact f'.len) hk (by lia)) ?_
  have f2:=f'.setK y (v+1);rw[XN,W0,Zx]at f2;generalize M2.set M0.length (.dic (kD (ks'++[y])) (vs'.map nD++[nD (v+1)]))=M3 at f2;rw[hK];clear hK K;have lo2:aR (.ref (M0.length+1)) M3=some (q'.map nD):=by unfold aR;dsimp only;rw[f2.que]
  simp only[cI,cB,aO];refine Rn.bindRd _ lo2 ?_;have ql:q'.length<1000000:=by have:=md.ms;lia
  refine Rn.run (tK (v:=nD y) f2.que (by rw[Wh];exact ql)) ?_
  have f3:=f2.setQ (q'++[y]);rw[XN,W0,Zx]at f3;exact Rn.pure ⟨_,rfl,⟨_,_,_,md.add hy hk hyn,f3⟩,_,rfl⟩
theorem Ff{ft:ak->DM Bool}{rest:ak}{n:Nat}{h:Nat->D}{x y:Option D}(p:Nat->Bool)(hn:n<=1000)(hf:∀ j,j<n->ft (some (nD j)::some (h j)::rest)=pure (p j)):
  ∃δ',dq (bx (gT 2 (bY (gN 0) (bY (gN 1) fX))) ft (bH (fZ 0)) ((List.range n).map λj=>.tup [nD j,h j]) (x::y::rest) [])=pure (δ',((List.range n).filter p).map nD):=by
 let f1:D->D:=λd=>match d with | .tup [a,b]=>a | _=>.non
 let f2:D->D:=λd=>match d with | .tup [a,b]=>b | _=>.non
 let pd:D->Bool:=λd=>match d with | .tup [.int i,_]=>p i.toNat | _=>false
 obtain ⟨δ',q⟩:=uZ (fg:=gT 2 (bY (gN 0) (bY (gN 1) fX))) (ft:=ft) (fe:=fZ 0) (λδ=>∃ x y,δ=x::y::rest) (λd=>some (f1 d)::some (f2 d)::rest) pd f1 ((List.range n).map λj=>.tup [nD j,h j]) (x::y::rest) [] ⟨x,y,rfl⟩ (by simp;lia)
  (λd hd δ ⟨x,y,hδ⟩=>by
    obtain⟨j,_,rfl⟩:=Xl.mp hd;exact⟨by subst hδ;rfl,_,_,rfl⟩) (λd hd=>by
    obtain⟨j,hj,rfl⟩:=Xl.mp hd;have:=hf j (Wt.mp hj);show ft (some (nD j)::some (h j)::rest)=pure (p (j:Int).toNat);rw[Xo];exact this) (λd hd z=>by
    obtain⟨j,hj,rfl⟩:=Xl.mp hd;rfl)
 refine⟨δ',?_⟩;rw[q,Mx,aaw,List.filter_map,Xd];congr 2
open Classical in
noncomputable def rc(N:List (List Nat))(x y:Nat):Bool:=decide (Rch N x y)
theorem Bx{N:List (List Nat)}{x y:Nat}:rc N x y=true ↔ Rch N x y:=by classical exact⟨λh=>Xq h,λh=>WF h⟩
noncomputable def gW(N:List (List Nat))(n:Nat):List (List Nat):=(List.range n).map λx=>(List.range n).filter (rc N x)
noncomputable def Vn(M0:Mo)(N:List (List Nat))(n:Nat)(i:Nat)(δ:ak)(l:List D)(M:Mo):Prop:=(∃z,δ=[z,some (.lst (N.map nT))])/\l=((gW N n).take i).map nT/\∀(j:Nat) (o:DO),M0[j]?=some o->M[j]?=some o
theorem N5{xY cM:Fn}{w:D}{N:List (List Nat)}{n:Nat}(h1:xY [w]=pure (.lst (N.map nT)))(h2:Al "Walk" cM [w]=pure (nD n))(hN:N.length=n)(hn:n<=25)(hg:∀ x,∀ y∈gr N x,y<n)(M0:Mo):
  Rn (aG 1 2 (uN xY zr cM) [w]) M0 λd M'=>d=nM (gW N n)/\∀(j:Nat) (o:DO),M0[j]?=some o->M'[j]?=some o:=by
 unfold uN u6;dsimp only;refine Rn.call rfl ?_;have st:bw 2 [w]=[some w,none]:=rfl;rw[st];refine aH λK hK=>?_
 simp only[jz,cI,cB,aO,h1];rw[hK];clear hK K;simp only[cI,cB,aO];have ce:aP [Str.ofString "start"].length [1] [some w,some (D.lst (N.map nT))]=[none,some (.lst (N.map nT))]:=rfl;have rg:rR [nD n]=some (.fix ((List.range n).map nD)):=wI (n:=n) (by lia)
 rw[h2,az,rg,fU,az,ce];simp only[oV];have tl:∀l:List D,(rd (o9 [.lst l]):DM D)=pure (.tup l):=λl=>rfl
 refine Rn.bind (qP (mW (Vn M0 N n) ((List.range n).map nD) 0 _ _ _ ⟨⟨none,rfl⟩,rfl,λv v e=>e⟩ (λi d δ l M hi hI=>?_))) λpr M hI=>?_
 ·obtain⟨⟨z,rfl⟩,rfl,old⟩:=hI;rw[Wn]at hi;obtain⟨x,hx,rfl⟩:=Wi.mp hi;have hin:i<n:=by have:=(Wf.mp hx).1;simpa using this
  obtain rfl:i=x:=by rw[W3 hin]at hx;cases hx;rfl
  rw[WN];rw[jL,az,az,Wm rfl];unfold bH;simp only[cI,List.set_cons_zero,aO];refine Rn.bind (Qk hN hn hin hg M) λd M1 ⟨e,ks,vs,hd,nd,hr,lt,old1⟩=>?_
  subst e;have hp:∀y,y∈ks ↔ y<n/\rc N i y=true:=λy=>by rw[Bx,<-hr y];exact⟨λh=>⟨lt y h,h⟩,λh=>h.2⟩
  refine Rn.bindRd _ (JV hd (by have:=pO nd lt;lia) nd hp) ?_
  rw[tl,az];have ll:(gW N n).length=n:=by unfold gW;rw[Wh,WT]
  have lt2:(((gW N n).take i).map nT).length<sizeLine:=by
   rw[Wh,Yi,ll];show _<2^24
   lia
  rw[Wm lt2];refine Rn.pure ⟨⟨_,rfl⟩,?_,λj o e=>old1 j o (old j o e)⟩
  have gi:(gW N n)[i]?=some ((List.range n).filter (rc N i)):=by unfold gW;rw[Wn,W3 hin];rfl
  rw[List.take_succ,gi,Option.toList_some,XN];rfl
 obtain⟨_,el,old⟩:=hI;have ll:(gW N n).length=n:=by unfold gW;rw[Wh,WT]
 have tk:(gW N n).take (0+((List.range n).map nD).length)=gW N n:=by rw[WN,Wh,WT];exact YD (by rw[ll];exact Wg n)
 rw[tk]at el;rw[el];simp only[rQ,az,tl];exact Rn.pure ⟨_,rfl,rfl,old⟩
theorem Rr(a b:List Nat):(rd (iM (.lst (a.map nD)) (.lst (b.map nD))):DM D)=pure (.bl (decide (a=b))):=cJ λM=>by
 have e:∀l:List Nat,l.map nD=(l.map λn:Nat=>(n:Int)).map D.int:=λl=>by rw[Xd];rfl
 have d:=gF (a.map λn:Nat=>(n:Int))
 have q:=ju (a.map λn:Nat=>(n:Int)) (b.map λn:Nat=>(n:Int))
 have c:decide ((a.map λn:Nat=>(n:Int))=(b.map λn:Nat=>(n:Int)))=decide (a=b):=by rw[WY,XF,XF];exact lE
 rw[e a,e b];simp only[iM,L3.eqB,eqP,toPy,iD,Option.map_some,PyData.canLay0,lay_ints,PyData.depth,PyData.eqv];rw[q,c,Wm (by rw[Bool.and_self,Bool.true_and];exact WF (by lia))]
 rfl
theorem Om{a b:List D}(h:a.length+b.length<=1000000):(rd (dU (.lst a) (.lst b)):DM D)=pure (.lst (a++b)):=cJ λM=>by
 have:fQ (a++b)=true:=by unfold fQ;exact WF (by show (a++b).length<=2^24;rw[Ww];lia)
 simp[dU,aR,QJ,this]
theorem kI(h:Nat->D):∀ (n k:Nat),ig k ((List.range' k n).map h)=(List.range' k n).map λj=>.tup [nD j,h j]
 |0,k=>rfl
 |n+1,k=>by rw[List.range'_succ,W0,W0];show D.tup [.int (k:Int),h k]::ig (k+1) _=_;rw[kI h n (k+1)];rfl
end K
set_option exponentiation.threshold 2000
namespace K
open PySem L2 L3 N10 LB
noncomputable def qz(R:List (List Nat)):List (List Nat):=R.map λr=>(List.range r.length).filter λy=>decide (0<ga r y)
noncomputable def xY:=aG 1 1 qx
theorem Q3{R:List (List Nat)}{W:Nat}(h:WK R W):xY [aF R W]=pure (.lst ((qz R).map nT)):=by
 have n25:=h.n25;have as:mJ (nM R)=some (.fix (R.map nT)):=rfl;have ce:aP 1 [] [some (aF R W)]=[none]:=rfl;simp[xY,qx,cO,as,lA,ce];rw[cG nT (λr=>nT ((List.range r.length).filter λy=>decide (0<ga r y))) (by lia) λr hr=>?_]
 ·simp[qz];rfl
 ·have lr:=h.row r hr;have en:tQ [nT r]=some (.fix ((List.range r.length).map λj=>.tup [nD j,nD (ga r j)])):=by
   have e:r.map nD=(List.range' 0 r.length).map λj=>nD (ga r j):=by
    apply YB
    ·simp
    ·intro i h1 h2;simp at h1;simp[bC h1]
   show some (Itn.fix (ig 0 (r.map nD)))=_;rw[e,kI,YQ]
  have ce2:aP 2 [] [some (nT r)]=[none,none]:=rfl;obtain⟨δ',q⟩:=Ff (rest:=[]) (n:=r.length) (h:=λj=>nD (ga r j)) (x:=none) (y:=none) (ft:=λδ=>opt δ[1]?.join>>=λa=>rd (Dn a (D.int 0))>>=lB) (λy=>decide (0<ga r y)) (by lia) λj hj=>by have gt:(rd (Dn (nD (ga r j)) (.int 0)):DM D)=pure (.bl (decide (0<ga r j))):=Ju (ga r j) 0;simp[gt]
  simp only[List.getElem?_cons_zero,Option.join_some,fU,az,en,lA,ce2,q];rfl
theorem xJ(R:List (List Nat)):(qz R).length=R.length:=by simp[qz]
theorem Jb{R:List (List Nat)}{x:Nat}(hx:x<R.length):gr (qz R) x=(List.range (gr R x).length).filter λy=>decide (0<ga (gr R x) y):=by
 rw[eY (by rw[xJ];exact hx),eY hx]
 simp[qz]
theorem Q5{R:List (List Nat)}{W:Nat}(h:WK R W)(x:Nat):∀ y∈gr (qz R) x,y<R.length:=λy hy=>by
 by_cases hx:x<R.length
 ·rw[Jb hx]at hy;have:=Wt.mp (YH.mp hy).1;rw[h.row _ (gr_mem hx)]at this;exact this
 ·have:gr (qz R) x=[]:=by unfold gr;rw[WQ,Xn (by rw[xJ];lia)];rfl
  rw[this]at hy;cases hy
noncomputable def Lz:=aG 1 2 (uN xY zr cM)
noncomputable def LD(R:List (List Nat)):List (List Nat):=gW (qz R) R.length
theorem Hg(R:List (List Nat)):(LD R).length=R.length:=by simp[LD,gW]
theorem Qz{R:List (List Nat)}{W:Nat}(h:WK R W)(M:Mo):Rn (Lz [aF R W]) M λd M'=>d=nM (LD R)/\∀(j:Nat) (o:DO),M[j]?=some o->M'[j]?=some o:=N5 (Q3 h) (cR h.n25) (xJ R) h.n25 (Q5 h) M
def Ce(l:List Nat):List Int:=l.map λn:Nat=>(n:Int)
theorem QW(l:List Nat):nT l=tupI (Ce l):=by simp[nT,tupI,Ce,nD,Function.comp_def]
theorem Pa{R:List (List Nat)}{l:List Nat}(h:l∈LD R):l≠[]/\l.length<=R.length/\∀y∈l,y<R.length:=by
 obtain⟨x,hx,rfl⟩:=Xl.mp h;have hx:=Wt.mp hx;refine⟨λz=>?_,?_,λy hy=>Wt.mp (YH.mp hy).1⟩
 ·have:x∈(List.range R.length).filter (rc (qz R) x):=YH.mpr ⟨Wt.mpr hx,Bx.mpr .here⟩;rw[z]at this;cases this
 ·have:=List.length_filter_le (rc (qz R) x) (List.range R.length)
  rwa [WT]at this
theorem Rv{R:List (List Nat)}{i:Nat}(h:i<R.length):(rd (dm (nM R) (nD i)):DM D)=pure (nT (gr R i)):=Gh (i:=i) (by rw[Wn,Wk h,eY h];rfl)
theorem Rt(a b:List Nat):(rd (iM (nT a) (nT b)):DM D)=pure (.bl (decide (a=b))):=cJ λM=>by
 have e:∀l:List Nat,l.map nD=(l.map λn:Nat=>(n:Int)).map D.int:=λl=>by rw[Xd];rfl
 have d:=gF (a.map λn:Nat=>(n:Int))
 have q:=ju (a.map λn:Nat=>(n:Int)) (b.map λn:Nat=>(n:Int))
 have c:decide ((a.map λn:Nat=>(n:Int))=(b.map λn:Nat=>(n:Int)))=decide (a=b):=by rw[WY,XF,XF];exact lE
 unfold nT;rw[e a,e b];simp only[iM,L3.eqB,eqP,toPy,iD,Option.map_some,PyData.canLay0,lay_ints,PyData.depth,PyData.eqv];rw[q,c,Wm (by rw[Bool.and_self,Bool.true_and];exact WF (by lia))]
 rfl
noncomputable def zc(δ:ak):DM Bool:=do
 let a <-opt δ[0]?.join
 let a <-opt (mJ a)
 let a <-dq (bU (gN 0) (λz=>Pure.pure true) (bH λδ=>do
  let a <-opt δ[1]?.join
  let a_1 <-opt δ[0]?.join
  let x <-rd (dm a a_1)
  let y <-opt δ[2]?.join
  rd (iM x y)) a (aP 1 [1,0] δ) [])
 let x <-rd (uL [D.lst a.2])
 rd (jU x)
noncomputable def Hb:=aG 1 2 (uz Lz)
end K
set_option exponentiation.threshold 20000
namespace K
open PySem L2 L3 N10
def dY(B:Nat->Int)(k n:Nat):D:=.lst ((List.range n).map λj=>.int (B (k+j)))
def dJ(B:Nat->Nat->Int)(k n:Nat):D:=.lst ((List.range n).map λi=>dY (B (k+i)) k n)
noncomputable def zq:=aG 1 3 (fW 9)
theorem Sw:∀ds M r,zq ds M=some r->∃n,aG 1 3 (fW n) ds M=some r:=λz z z h=>⟨9,h⟩
theorem xG{B:Nat->Int}{k n j:Nat}(h:j<n):(rd (dm (dY B k n) (nD j)):DM D)=pure (.int (B (k+j))):=
 ug (i:=j) (by rw[Wn,W3 h];rfl)
theorem xF{B:Nat->Int}{k n:Nat}(h:0<n):(rd (dm (dY B k n) (.int 0)):DM D)=pure (.int (B k)):=xG h
theorem NP{B:Nat->Nat->Int}{k n:Nat}(h:0<n):(rd (dm (dJ B k n) (.int 0)):DM D)=pure (dY (B k) k n):=
 ug (i:=0) (by rw[Wn,W3 h];rfl)
theorem Lr{B:Nat->Nat->Int}{k n:Nat}:(rd (jU (dJ B k n)):DM Bool)=pure (decide (0<n)):=by
 cases n with
 |zero=>rfl
 |succ n=>unfold dJ;rw[List.range_succ_eq_map];rfl
theorem JX{B:Nat->Nat->Int}{k n:Nat}:(rd (Ek (some 1) none (dJ B k (n+1))):DM D)=pure (.lst ((List.range n).map λi=>dY (B (k+1+i)) k (n+1))):=by
 unfold dJ;rw[List.range_succ_eq_map,W0,Xd];have e:(λi=>dY (B (k+i)) k (n+1)) ∘ Nat.succ=λi=>dY (B (k+1+i)) k (n+1):=by funext i;show dY (B (k+(i+1))) _ _=_;rw[show k+(i+1)=k+1+i by lia]
 rw[e];refine cJ λM=>?_
 show some (D.lst (cutD _ _ _))=_;congr 2;generalize hl:List.map (λi=>dY (B (k+1+i)) k (n+1)) (List.range n)=l
 generalize dY (B (k+0)) k (n+1)=x;have a1:HT.sIx (x::l).length 0 (some 1)=1:=by simp[HT.sIx]<;>lia
 have a2:HT.sIx (x::l).length (x::l).length none=(x::l).length:=by simp[HT.sIx]
 unfold cutD;rw[a1,a2];simp
structure Stg(Bs:Nat->Nat->Nat->Int)(d:Nat->Int)(m:Nat):Prop where
 one:d 0=1
 piv:∀k,k<m->Bs k k k≠0
 nxt:∀k,k<m->d (k+1)=Bs k k k
 pos:∀k,k<m->0<d k
 eq:∀k i j,k<i->i<m->k<j->j<m->d k*Bs (k+1) i j=Bs k i j*Bs k k k-Bs k i k*Bs k k j
 bd:∀k i j,k<m->i<m->j<m->(Bs k i j).natAbs<2^2450
 bdd:∀k,k<m->(d k).natAbs<2^2450
theorem Di{c:ak->DM Bool}{f:ak->DM Fl}{Bs:Nat->Nat->Nat->Int}{d:Nat->Int}{m:Nat}(h1:∀ B k n x z,c [some (dJ B k n),x,z]=pure (decide (0<n)))
  (h2:∀k n z,k+(n+1)=m->f [some (dJ (Bs k) k (n+1)),some (.int (d k)),z]=pure (.nx [some (dJ (Bs (k+1)) (k+1) n),some (.int (d (k+1))),some (dY (Bs k k) k (n+1))])) :
  ∀n k N z,k+n=m->n<N->∃x z',cY c f N [some (dJ (Bs k) k n),some (.int (d k)),z]=pure (.nx [x,some (.int (d m)),z'])
 |0,k,N+1,z,e,_=>⟨_,_,by rw[<-e];simp only[cY,h1,az];rfl⟩
 |n+1,k,N+1,z,e,h=>by
   obtain⟨x,z',ih⟩:=Di h1 h2 n (k+1) N (some (dY (Bs k k) k (n+1))) (by lia) (by lia)
   refine⟨x,z',?_⟩;have hd:decide (0<n+1)=true:=by simp
   simp only[cY,h1,hd,az,if_true,h2 k n z e,ih]
theorem QQ{i j:Int}(h:i.natAbs<2^2450)(h':j.natAbs<2^2450):(rd (lN (.int i) (.int j)):DM D)=pure (.int (i*j)):=
 Gj (Dy (Wo h (X5 (by decide) (by decide))) (Wo h' (X5 (by decide) (by decide))))
theorem UT{i j:Int}(h0:0<j)(h:j.natAbs<2^2450):(rd (gU (.int i) (.int j)):DM D)=pure (.int (i / j)):=
 Bq (Dg h0 (Wo h (X5 (by decide) (by decide))))
theorem Ky{c:ak->DM Bool}{f:ak->DM Fl}{K:Fl->DM Fl}{M:Mo}{Q:Fl->Mo->Prop}{Bs:Nat->Nat->Nat->Int}{d:Nat->Int}{m:Nat}(S:Stg Bs d m)(hm:m<=8)(h1:∀B k n x z,c [some (dJ B k n),x,z]=pure (decide (0<n)))
  (h2:∀k n z,k+(n+1)=m->f [some (dJ (Bs k) k (n+1)),some (.int (d k)),z]=pure (.nx [some (dJ (Bs (k+1)) (k+1) n),some (.int (d (k+1))),some (dY (Bs k k) k (n+1))]))
  (hk:∀x z',Rn (K (.nx [x,some (.int (d m)),z'])) M Q):Rn (cY c f 9 [some (dJ (Bs 0) 0 m),some (.int 1),none]>>=K) M Q:=by
 obtain⟨x,z',e⟩:=Di h1 h2 m 0 9 none (by lia) (by lia)
 rw[S.one]at e;rw[e,az];exact hk x z'
theorem Qa{Bs:Nat->Nat->Nat->Int}{d:Nat->Int}{m:Nat}(S:Stg Bs d m)(hm:m<=8):zq [dJ (Bs 0) 0 m]=pure (.int (d m)):=xK λM=>by
 unfold zq fW jK;dsimp only;refine Rn.call rfl ?_;have st:bw 3 [dJ (Bs 0) 0 m]=[some (dJ (Bs 0) 0 m),none,none]:=rfl;rw[st];refine aH λK hK=>?_
 simp;rw[hK];clear hK K;refine aH λK hK=>?_
 refine Ky S hm (λB k n x z=>?_) (λk n z e=>?_) λx z'=>?_
 ·simp[Lr]
 ·have hk:k<m:=by lia
  have p0:=S.piv k hk;have q1:(rd (iM (.int (Bs k k k)) (.int 0)):DM D)=pure (.bl false):=by rw[Mv,Xu p0]
  simp[NP (B:=Bs k) (k:=k) (Nat.succ_pos n),xF (B:=Bs k k) (k:=k) (Nat.succ_pos n),q1,xU];have ai:(Hn (D.int 1):DM (Option Int))=pure (some 1):=id rfl;rw[ai,az,JX,az,wF,az];simp only[oV,aP,du,List.map_cons,List.map_nil,List.replicate_succ,List.replicate_zero,List.cons_append,List.nil_append,List.getElem?_cons_zero,List.getElem?_cons_succ,Option.getD_some];rw[cG (as:=List.range n) (λi=>dY (Bs k (k+1+i)) k (n+1)) (λi=>dY (Bs (k+1) (k+1+i)) (k+1) n) (by simp;lia) (λi hi=>?_)]
  ·rw[S.nxt k hk];rfl
  ·have hi':=Wt.mp hi;have ln:(rd (gY [dY (Bs k (k+1+i)) k (n+1)]):DM D)=pure (nD (n+1)):=by unfold dY;rw[Rw];simp[nD]
   have rg:BJ [D.int 1,nD (n+1)]=some (.fix ((List.range n).map λj=>nD (1+j))):=by
    rw[show D.int 1=nD 1 from rfl,Oq (by lia) (by lia)]
    rfl
   simp only[cI,ln,rg,oV];rw[cG (as:=List.range n) (λj=>nD (1+j)) (λj=>.int (Bs (k+1) (k+1+i) (k+1+j))) (by simp;lia) (λj hj=>?_)]
   ·rfl
   ·have hj':=Wt.mp hj;have x1:=xG (B:=Bs k (k+1+i)) (k:=k) (n:=n+1) (j:=1+j) (by lia)
    have x2:=xF (B:=Bs k (k+1+i)) (k:=k) (n:=n+1) (by lia)
    have x3:=xG (B:=Bs k k) (k:=k) (n:=n+1) (j:=1+j) (by lia)
    have x4:=xF (B:=Bs k k) (k:=k) (n:=n+1) (by lia)
    have ej:k+(1+j)=k+1+j:=by lia
    rw[ej]at x1 x3;have m1:=QQ (S.bd k (k+1+i) (k+1+j) hk (by lia) (by lia)) (S.bd k k k hk hk hk)
    have m2:=QQ (S.bd k (k+1+i) k hk (by lia) hk) (S.bd k k (k+1+j) hk hk (by lia))
    have ee:=S.eq k (k+1+i) (k+1+j) (by lia) (by lia) (by lia) (by lia)
    have dv:=UT (i:=Bs k (k+1+i) (k+1+j)*Bs k k k-Bs k (k+1+i) k*Bs k k (k+1+j)) (S.pos k hk) (S.bdd k hk);rw[<-ee,Int.mul_ediv_cancel_left _ (Int.ne_of_gt (S.pos k hk))]at dv;simp only[cI,Option.getD_some,x1,x2,x3,x4,m1,m2,Gk,<-ee,dv]
 ·rw[hK];simp;exact Rn.pure ⟨_,rfl,rfl,rfl⟩
end K
namespace K
open PySem L2 L3 N10 N60
def BZ(A:Nat->Nat->Int):Nat->Nat->Nat->Int
 |0=>A
 |1=>D2 A
 |2=>D3 A
 |_=>D4 A
theorem mb{x y:Int}{p q:Nat}(hx:x.natAbs<2^p)(hy:y.natAbs<2^q):(x*y).natAbs<2^(p+q):=by rw[Int.natAbs_mul,Nat.pow_add];exact Nat.mul_lt_mul_of_lt_of_lt hx hy
theorem sb{x y:Int}{p:Nat}(hx:x.natAbs<2^p)(hy:y.natAbs<2^p):(x-y).natAbs<2^(p+1):=by rw[Zb];lia
theorem ab{x y:Int}{p:Nat}(hx:x.natAbs<2^p)(hy:y.natAbs<2^p):(x+y).natAbs<2^(p+1):=by rw[Zb];lia
theorem up{x:Int}{p q:Nat}(hx:x.natAbs<2^p)(h:p<=q):x.natAbs<2^q:=Wo hx (X5 (by decide) h)
theorem Hz{n:Nat}{a b c d e f g h i:Int}(ha:a.natAbs<2^n)(hb:b.natAbs<2^n)(hc:c.natAbs<2^n)(hd:d.natAbs<2^n)(he:e.natAbs<2^n)(hf:f.natAbs<2^n)(hg:g.natAbs<2^n)(hh:h.natAbs<2^n)(hi:i.natAbs<2^n):(d3 a b c d e f g h i).natAbs<2^(3*n+3):=
 up (ab (sb (mb ha (sb (mb he hi) (mb hf hh))) (mb hb (sb (mb hd hi) (mb hf hg)))) (up (mb hc (sb (mb hd hh) (mb he hg))) (by lia))) (by lia)
theorem Ca{n0:Nat}{A:Nat->Nat->Int}{m:Nat}(h:∀ i j,i<m->j<m->(A i j).natAbs<2 ^ n0)(hm:m<=4):∀ k i j,k<m->i<m->j<m->(BZ A k i j).natAbs<2 ^ (4 * n0 + 6)
 |0,i,j,_,hi,hj=>up (h i j hi hj) (by lia)
 |1,i,j,hk,hi,hj=>up (sb (mb (h i j hi hj) (h 0 0 (by lia) (by lia))) (mb (h i 0 hi (by lia)) (h 0 j (by lia) hj))) (by lia)
 |2,i,j,hk,hi,hj=>by
   have H:∀a b,a<m->b<m->(A a b).natAbs<2^n0:=h;refine up (p:=3*n0+3) ?_ (by lia)
   show (D3 A i j).natAbs<_;have e:D3 A i j=d3 (A 0 0) (A 0 1) (A 0 j) (A 1 0) (A 1 1) (A 1 j) (A i 0) (A i 1) (A i j):=by unfold D3 d3;grind
   rw[e];apply Hz<;>apply H<;>lia
 |3,i,j,hk,hi,hj=>by
   have H:∀a b,a<m->b<m->(A a b).natAbs<2^n0:=h;refine up (p:=4*n0+6) ?_ (by lia)
   show (D4 A i j).natAbs<_;unfold D4;refine up (sb (up (q:=4*n0+5) (ab (sb (mb (H _ _ (by lia) (by lia)) (Hz (n:=n0) ?_ ?_ ?_ ?_ ?_ ?_ ?_ ?_ ?_)) (mb (H _ _ (by lia) (by lia)) (Hz (n:=n0) ?_ ?_ ?_ ?_ ?_ ?_ ?_ ?_ ?_))) (up (mb (H _ _ (by lia) (by lia)) (Hz (n:=n0) ?_ ?_ ?_ ?_ ?_ ?_ ?_ ?_ ?_)) (by lia))) (by lia)) (up (mb (H _ _ (by lia) (by lia)) (Hz (n:=n0) ?_ ?_ ?_ ?_ ?_ ?_ ?_ ?_ ?_)) (by lia))) (by lia)<;>apply H<;>lia
 |k+4,_,_,hk,_,_=>by lia
theorem Em{A:Nat->Nat->Int}{m:Nat}(h:MS A 0 m)(hm:m<=4):∀k,k<m->0<BZ A k k k
 |0,hk=>by obtain⟨n,rfl⟩:∃n,m=n+1:=⟨m-1,by lia⟩;exact h.pivot
 |1,hk=>by obtain⟨n,rfl⟩:∃n,m=n+2:=⟨m-2,by lia⟩;exact (MS.two (n:=n+1) h).pivot
 |2,hk=>by obtain⟨n,rfl⟩:∃n,m=n+3:=⟨m-3,by lia⟩;exact (MS.three (n:=n+1) h).pivot
 |3,hk=>by obtain⟨n,rfl⟩:∃n,m=n+4:=⟨m-4,by lia⟩;exact (MS.four (n:=n+1) h).pivot
 |k+4,hk=>by lia
theorem vR(A:Nat->Nat->Int):∀k,k<4->jV A (k+1)=BZ A k k k
 |0,_=>rfl
 |1,_=>rfl
 |2,_=>rfl
 |3,_=>rfl
 |k+4,h=>by lia
theorem R1{A:Nat->Nat->Int}{m:Nat}(h:MS A 0 m)(hm:m<=4)(hb:∀i j,i<m->j<m->(A i j).natAbs<2^610):Stg (BZ A) (jV A) m where
 one:=rfl
 piv k hk:=Int.ne_of_gt (Em h hm k hk)
 nxt k hk:=vR A k (by lia)
 pos k hk:=by
  cases k with
  |zero=>show (0:Int)<1;decide
  |succ k=>rw[vR A k (by lia)];exact Em h hm k (by lia)
 eq k i j h1 h2 h3 h4:=by
  match k,h1,h3 with
  |0,_,_=>show 1*D2 A i j=_;unfold D2;simp[BZ]
  |1,_,_=>exact e3 A i j
  |2,_,_=>exact e4 A i j
  |k+3,h1,_=>lia
 bd k i j h1 h2 h3:=up (Ca hb hm k i j h1 h2 h3) (by decide)
 bdd k hk:=by
  cases k with
  |zero=>show (1:Int).natAbs<_;exact Nat.one_lt_two_pow (by decide)
  |succ k=>rw[vR A k (by lia)];exact up (Ca hb hm k k k (by lia) (by lia) (by lia)) (by decide)
theorem Nk{A:Nat->Nat->Int}{m:Nat}(h:MS A 0 m)(hm:m<=4)(hb:∀i j,i<m->j<m->(A i j).natAbs<2^610):zq [dJ A 0 m]=pure (.int (jV A m)):=
 Qa (R1 h hm hb) (by lia)
noncomputable def GK:=aG 2 2 (vJ nW)
theorem Qq(x n:Nat):GK [nD x,nD n]=pure (.bl (decide (x<n))):=by
 have e1:(rd (yF (.int 0) (nD x)):DM D)=pure (.bl true):=by rw[show D.int 0=nD 0 from rfl,rP,WF (X3 _)]
 simp[GK,vJ,rB,e1,Bu]
noncomputable def zG:=aG 2 2 (jZ GK cM)
theorem JD{R:List (List Nat)}{W x:Nat}(h:R.length<=25)(hx:x<R.length):zG [aF R W,nD x]=pure .non:=by simp[zG,jZ,cR h,Qq,hx]
noncomputable def unit(n x:Nat):List Nat:=(List.range n).map λi=>if i=x then 1 else 0
noncomputable def zx:=aG 2 2 zP
theorem Ij{n x:Nat}(h:n<=1000):zx [nD x,nD n]=pure (nT (unit n x)):=by
 simp[zx,zP,dD (n:=n) (by lia),aP,du]
 rw[cG nD (λi=>nD (if i=x then 1 else 0)) (by simp;lia) (λi hi=>by simp[oR];by_cases e:i=x<;>simp[e,nD])]
 simp[unit,nT,Function.comp_def]
def bu(R:List (List Nat))(W:Nat)(i j:Nat):Int:=if i=j then (W:Int)-(ga (gr R i) i:Int) else -(ga (gr R i) j:Int)
theorem Jf{n x:Nat}(hx:x<n):(List.range n).filter (λo=>!decide (o=x))=(List.range (n-1)).map (sk x):=by
 have e:List.range n=List.range x++(x::(List.range (n-1-x)).map λi=>x+1+i):=by
  have h1:n=x+(1+(n-1-x)):=by lia
  conv=>lhs;rw[h1,List.range_add,List.range_add]
  simp[List.map_map,Function.comp_def,Nat.add_assoc]
 rw[e,List.filter_append,List.filter_cons_of_neg (by simp),Yy.mpr (λa ha=>by
  have:=Wt.mp ha;simp;lia),Yy.mpr (λa ha=>by
  obtain⟨i,_,rfl⟩:=Xl.mp ha;simp;lia)]
 have h2:n-1=x+(n-1-x):=by lia
 conv=>rhs;rw[h2,List.range_add]
 rw[XN];congr 1
 ·conv=>lhs;rw[<-List.map_id (List.range x)]
  refine Xx λa ha=>?_
  have:=Wt.mp ha;unfold sk;rw[Wm this];rfl
 ·rw[Xd];refine Xx λa ha=>?_
  show _=sk x (x+a);unfold sk;rw[Wr (by lia)]
  lia
noncomputable def Hc:=aG 2 3 (nZ zG zq cM)
theorem nj{n x i:Nat}(h:i<n-1):sk x i<n:=by unfold sk;split<;>lia
theorem R8{R:List (List Nat)}{W x:Nat}(wk:WK R W)(hx:x<R.length)(h5:R.length<=5)(hW:W<2 ^ 610)(hm:MS (λi j=>bu R W (sk x i) (sk x j)) 0 (R.length - 1)):
  Hc [aF R W,nD x]=pure (.int (wt (bu R W) R.length x)):=by
 have bd:∀i j,i<R.length-1->j<R.length-1->((λi j=>bu R W (sk x i) (sk x j)) i j).natAbs<2^610:=λi j hi hj=>by have a1:=wk.at_le (gr_mem (nj (x:=x) hi)) (sk x i);have a2:=wk.at_le (gr_mem (nj (x:=x) hi)) (sk x j);show (bu R W (sk x i) (sk x j)).natAbs<_;unfold bu;split<;>lia
 have dt:=Nk hm (by lia) bd
 unfold Hc nZ iY;dsimp only;simp[JD (W:=W) (show R.length<=25 by lia) hx,cR (W:=W) (show R.length<=25 by lia),dD (n:=R.length) (by lia),aP,du,xU]
 rw[aZ nD (λy=>!decide (y=x)) nD (by simp;lia) (λy hy=>by simp[Bw]) (λy hy z=>by simp)]
 rw[az,Jf hx];dsimp only;rw[wF,az];simp only[oV];have ol:∀a∈(List.range (R.length-1)).map (sk x),a<R.length:=λa ha=>by obtain⟨i,hi,rfl⟩:=Xl.mp ha;exact nj (Wt.mp hi)
 rw[cG (as:=(List.range (R.length-1)).map (sk x)) nD (λa=>.lst (((List.range (R.length-1)).map (sk x)).map λb=>.int (bu R W a b))) (by simp;lia) (λa ha=>?_)]
 ·rw[az];dsimp only;have e:D.lst (((List.range (R.length-1)).map (sk x)).map λa=>.lst (((List.range (R.length-1)).map (sk x)).map λb=>.int (bu R W a b)))=dJ (λi j=>bu R W (sk x i) (sk x j)) 0 (R.length-1):=by
   unfold dJ dY;rw[Xd];congr 1;refine Xx λi z=>?_
   show D.lst _=D.lst _;rw[Xd];congr 1;refine Xx λj z=>?_
   simp
  rw[e,dt];rfl
 ·have ha':=ol a ha;simp only[cI,Option.getD_some,wF,oV];rw[cG (as:=(List.range (R.length-1)).map (sk x)) nD (λb=>.int (bu R W a b)) (by simp;lia) (λb hb=>?_)]
  ·rfl
  ·have hb':=ol b hb;have x1:=wH (R:=R) (i:=a) ha';have rl:(gr R a).length=R.length:=wk.row _ (gr_mem ha');have x2:=dB (l:=gr R a) (i:=a) (by lia)
   have x3:=dB (l:=gr R a) (i:=b) (by lia)
   simp only[cI,Option.getD_some,oR,jh,cO,yw,x1,x2,x3];by_cases q:a=b
   ·rw[Wm (by simpa using q)]
    unfold bu;rw[Wm q];exact Gk _ _
   ·rw[Wr (by simpa using q)]
    unfold bu;rw[Wr q];exact Tq _
inductive To(R:List (List Nat))(x:Nat):Nat->Prop
 |here:To R x x
 |step {i j:Nat}:j<R.length->0<ga (gr R i) j->To R x j->To R x i
theorem kJ(f:Nat->Int):∀ n k,SR f k (n + 1)=SR f k n + f (k + n)
 |0,k=>by simp[SR]
 |n+1,k=>by
   have:=kJ f n (k+1);rw[SR,this,SR,show k+1+n=k+(n+1) by lia]
   lia
theorem zK{f g:Nat->Int}:∀ n k,(∀ j,k<=j->j<k + n->f j=g j)->SR f k n=SR g k n
 |0,_,_=>rfl
 |n+1,k,h=>by rw[SR,SR,h k (Wg _) (by lia),zK n (k+1) λj h1 h2=>h j (by lia) (by lia)]
theorem LQ(f:Nat->Int){x:Nat}:∀ n,x<n + 1->SR (λj=>f (sk x j)) 0 n + f x=SR f 0 (n + 1)
 | n,h=>by
   by_cases e:x=n
   ·subst e;rw[kJ,WN,zK (g:=f) x 0 λj z h2=>by show f (sk x j)=f j;unfold sk;rw[Wm (by lia)]]
   ·obtain⟨m,rfl⟩:∃m,n=m+1:=⟨n-1,by lia⟩
    have ih:=LQ f m (x:=x) (by lia)
    rw[kJ,kJ f (m+1),<-ih,WN,WN];have:sk x m=m+1:=by unfold sk;rw[Wr (by lia)]
    rw[this]
    lia
theorem Du{R:List (List Nat)}{W a:Nat}:∀ m,SR (bu R W a) 0 m=(if a<m then (W:Int) else 0) - (S m (ga (gr R a)):Int)
 |0=>by simp[SR,S]
 | m + 1=>by
   rw[kJ,Du m,WN];have e:S (m+1) (ga (gr R a))=S m (ga (gr R a))+ga (gr R a) m:=rfl;rw[e];unfold bu;by_cases q:a=m
   ·subst q;rw[Wm rfl,Wr (by lia),Wm (by lia)]
    lia
   ·rw[Wr q];by_cases q2:a<m
    ·rw[Wm q2,Wm (by lia)];lia
    ·rw[Wr q2,Wr (by lia)];lia
theorem yE{R:List (List Nat)}{W a:Nat}(wk:WK R W)(ha:a<R.length):SR (bu R W a) 0 R.length=0:=by
 have l:=wk.row _ (gr_mem ha);have s:=wk.sum _ (gr_mem ha);rw[Du,Wm ha,<-l,J8,s]
 lia
theorem Ak{R:List (List Nat)}{W a x:Nat}(wk:WK R W)(ha:a<R.length)(hx:x<R.length)(ne:a≠x):SR (λj=>bu R W a (sk x j)) 0 (R.length-1)=(ga (gr R a) x:Int):=by
 have h:=LQ (bu R W a) (x:=x) (R.length-1) (by lia)
 rw[show R.length-1+1=R.length by lia,yE wk ha]at h
 have:bu R W a x=-(ga (gr R a) x:Int):=by unfold bu;rw[Wr ne]
 rw[this]at h
 lia
theorem Gu{x i:Nat}:sk x i≠x:=by unfold sk;split<;>lia
theorem JT{x i j:Nat}(h:sk x i=sk x j):i=j:=by unfold sk at h;split at h<;>split at h<;>lia
theorem Tz{n x b:Nat}(hb:b<n)(ne:b≠x)(hx:x<n):∃j,j<n-1/\sk x j=b:=by
 by_cases q:b<x
 ·exact⟨b,by lia,by unfold sk;rw[Wm q]⟩
 ·exact⟨b-1,by lia,by unfold sk;rw[Wr (by lia)];lia⟩
set_option tactic.hygienic true in
theorem Mm{R:List (List Nat)}{W x:Nat}(wk:WK R W)(hx:x<R.length)(ht:∀ a,a<R.length->To R x a):MS (λi j=>bu R W (sk x i) (sk x j)) 0 (R.length - 1) where
 off i j _ h2 _ h4 ne:=by
  show bu R W (sk x i) (sk x j)<=0;unfold bu;rw[Wr λe=>ne (JT e)]
  lia
 sum i _ h2:=by
  show 0<=SR (λj=>bu R W (sk x i) (sk x j)) 0 (R.length-1)
  rw[Ak wk (nj (by lia)) hx Gu]
  lia
 rch i _ h2:=by
  have key:∀ a,To R x a->∀ i,i<R.length - 1->sk x i=a->RL (λi j=>bu R W (sk x i) (sk x j)) 0 (R.length - 1) i:=by
   intro a h;induction h with
   |here=>intro i _ e;exact absurd e Gu
   | step hj hp tt ih=>
     rename_i a b;intro i hi e;by_cases q:b=x
     ·refine .leak ?_;show 0<SR (λj=>bu R W (sk x i) (sk x j)) 0 (R.length-1)
      rw[Ak wk (nj hi) hx Gu,e];rw[q]at hp
      lia
     ·obtain⟨j,hj1,hj2⟩:=Tz hj q hx;have r:=ih j hj1 hj2;by_cases q2:i=j
      ·rw[q2];exact r
      ·refine .step (j:=j) (X3 _) (by lia) q2 ?_ r
       show bu R W (sk x i) (sk x j)<0;unfold bu;rw[Wr λe=>q2 (JT e),e,hj2]
       lia
  exact key _ (ht _ (nj (by lia))) i (by lia) rfl
theorem LC(f:Nat->Int):∀n,SN f n=SR f 0 n
 |0=>rfl
 |n+1=>by rw[kJ,WN,<-LC f n];rfl
theorem Ss{R:List (List Nat)}{W x:Nat}(wk:WK R W)(hx:x<R.length)(h5:R.length<=5)(ht:∀a,a<R.length->To R x a):0<wt (bu R W) R.length x:=
 Nb (by lia) (Mm wk hx ht)
theorem NT(R:List (List Nat))(W x y:Nat):bu R W x y=(if x=y then (W:Int) else 0)-(ga (gr R x) y:Int):=by
 unfold bu;by_cases q:x=y
 ·subst q;rw[Wm rfl,Wm rfl]
 ·rw[Wr q,Wr q];lia
theorem Hj{w:Nat->Int}{r:Nat->Int}{W:Int}{y:Nat}:∀ n,SN (λx=>w x * ((if x=y then W else 0) - r x)) n=(if y<n then w y * W else 0) - SN (λx=>w x * r x) n
 |0=>by simp[SN]
 | n + 1=>by
   show SN _ n+w n*((if n=y then W else 0)-r n)=_-(SN _ n+w n*r n)
   rw[Hj n,Int.mul_sub];by_cases q:n=y
   ·subst q;rw[Wm rfl,Wr (by lia),Wm (by lia)]
    lia
   ·rw[Wr q];by_cases q2:y<n
    ·rw[Wm q2,Wm (by lia)];lia
    ·rw[Wr q2,Wr (by lia)];lia
noncomputable def rst(R:List (List Nat))(W x:Nat):Nat:=(wt (bu R W) R.length x).toNat
theorem Ph{f:Nat->Nat}{g:Nat->Int}:∀ n,(∀ x,x<n->g x=(f x:Int))->SN g n=(S n f:Int)
 |0,_=>rfl
 |n+1,h=>by
   show SN g n+g n=((S n f+f n:Nat):Int);rw[Ph n λx hx=>h x (by lia),h n (by lia)]
   lia
theorem oY{R:List (List Nat)}{W x:Nat}(wk:WK R W)(hx:x<R.length)(h5:R.length<=5)(ht:∀a,a<R.length->To R x a):0<rst R W x/\wt (bu R W) R.length x=(rst R W x:Int):=by
 have:=Ss wk hx h5 ht;unfold rst
 lia
theorem Lh{R:List (List Nat)}{W y:Nat}(wk:WK R W)(hy:y<R.length)(h5:R.length<=5)(ht:∀x,x<R.length->∀a,a<R.length->To R x a):S R.length (λx=>rst R W x*ga (gr R x) y)=rst R W y*W:=by
 have h:=stat (L:=bu R W) h5 (λx hx=>by rw[LC];exact yE wk hx) y hy
 have e:(λx=>wt (bu R W) R.length x*bu R W x y)=λx=>wt (bu R W) R.length x*((if x=y then (W:Int) else 0)-(ga (gr R x) y:Int)):=by funext x;rw[NT]
 rw[e,Hj,Wm hy]at h;rw[Ph (f:=λx=>rst R W x*ga (gr R x) y) R.length λx hx=>by show wt (bu R W) R.length x*_=_;rw[(oY wk hx h5 (ht x hx)).2];exact (Yp _ _).symm]at h
 rw[(oY wk hy h5 (ht y hy)).2,<-Yp]at h
 lia
end K
namespace K
open PySem L2 L3 N10
noncomputable def jW:List D->DM D
 |[.int a,.int b]=>if 0<=a/\0<=b then pure (nD (Nat.gcd a.toNat b.toNat)) else stuck
 |_=>stuck
theorem vY(a b:Nat):jW [nD a,nD b]=pure (nD (Nat.gcd a b)):=by simp[jW,nD]
theorem Nz{c:ak->DM Bool}{f:ak->DM Fl}(h1:∀ a b:Nat,c [some (nD a),some (nD b)]=pure (b != 0))(h2:∀ a b:Nat,0<b->f [some (nD a),some (nD b)]=pure (.nx [some (nD b),some (nD (a % b))])):
  ∀b a:Nat,∃n,cY c f n [some (nD a),some (nD b)]=pure (.nx [some (nD (Nat.gcd a b)),some (nD 0)]):=by
 intro b;induction b using Nat.strongRecOn with
 | ind b ih=>
   intro a;rcases Yl b with rfl | hb
   ·exact⟨1,by simp[cY,h1]⟩
   ·obtain⟨n,hn⟩:=ih (a%b) (Ys _ hb) b;refine⟨n+1,?_⟩;have hb':(b != 0)=true:=by simp;lia
    simp only[cY,h1,az,hb',if_true,h2 a b hb,hn];rw[Nat.gcd_comm a b,Nat.gcd_rec b a,Nat.gcd_comm]
set_option tactic.hygienic true in
theorem Sy:∀ ds M r,jW ds M=some r->∃ n,aG 2 2 (cU n) ds M=some r:=by
 intro ds M r h;unfold jW at h;split at h
 ·rename_i a b;split at h
  ·rename_i hab;obtain⟨x,rfl⟩:∃x:Nat,a=x:=⟨a.toNat,by lia⟩
   obtain⟨y,rfl⟩:∃y:Nat,b=y:=⟨b.toNat,by lia⟩
   have h1:∀a b:Nat,(λδ=>(fZ 1) δ>>=λx=>rd (jU x)) [some (nD a),some (nD b)]=(pure (b != 0):DM Bool):=λa b=>by
    simp;refine cJ λM=>?_
    show some ((b:Int) != 0)=_;congr 1;rw[WY];simp
   have h2:∀a b:Nat,0<b->(u5 0 1 (λδ=>(fZ 1) δ>>=λx=>(λδ=>(λδ=>(fZ 0) δ>>=λx=>(fZ 1) δ>>=λy=>rd (pN x y)) δ>>=λx=>(λz=>pure []) δ>>=λxs=>pure (x::xs)) δ>>=λxs=>pure (x::xs))) [some (nD a),some (nD b)]=pure (.nx [some (nD b),some (nD (a%b))]):=λa b hb=>by
    have:=Jy (a:=a) hb;simp[nD]at this ⊢
    simp[this]
   obtain⟨n,hn⟩:=Nz (c:=(λδ=>(fZ 1) δ>>=λx=>rd (jU x))) (f:=(u5 0 1 (λδ=>(fZ 1) δ>>=λx=>(λδ=>(λδ=>(fZ 0) δ>>=λx=>(fZ 1) δ>>=λy=>rd (pN x y)) δ>>=λx=>(λz=>pure []) δ>>=λxs=>pure (x::xs)) δ>>=λxs=>pure (x::xs)))) h1 h2 y x
   refine⟨n,?_⟩;rw[<-h];have:aG 2 2 (cU n) [.int x,.int y]=pure (nD (Nat.gcd x y)):=by unfold cU eO;have e:bw 2 [D.int x,D.int y]=[some (nD x),some (nD y)]:=rfl;simp only[Rq,e,Tr,hn];simp
   rw[this];simp
  ·cases h
 ·cases h
noncomputable def GJ:=aG 1 1 (zO xX)
noncomputable def zE:=aG 1 1 (mQ GJ)
noncomputable def pT(p:Nat×Nat):D:=nT [p.1,p.2]
noncomputable def Hh(l:List Nat):Prop:=1<=l.length/\l.length<=25/\0<l.sum
theorem Qo{l:List Nat}(h1:1<=l.length)(h2:l.length<=25):GJ [nT l]=pure (.bl (decide (0<l.sum))):=by
 have a:(rd (lM [nT l,.ty "tuple"]):DM D)=pure (.bl true):=uf (t := "tuple") (λz=>rfl) (by decide)
 have ln:(rd (gY [nT l]):DM D)=pure (.int (l.length:Int)):=by simp[nT]
 have e1:decide ((1:Int)<=(l.length:Int))=true:=WF (by lia)
 have e2:decide ((l.length:Int)<=25)=true:=WF (by lia)
 simp[GJ,zO,a,ln,e1,e2,Ho (l:=l) (by lia),wY]
theorem JB{l:List Nat}(h:Hh l):zE [nT l]=pure .non:=by simp[zE,mQ,Qo h.1 h.2.1,h.2.2]
noncomputable def zA:=aG 2 3 (vM jW)
theorem Jl{a b:Nat}(hb:0<b)(h:b<2^8000):zA [nD a,nD b]=pure (pT (pl a b)):=by
 have hg:0<Nat.gcd a b:=Zy _ hb;have h3:Nat.gcd a b<=b:=Nat.gcd_le_right _ hb;have e1:(rd (gU (nD a) (nD (Nat.gcd a b))):DM D)=pure (nD (a / Nat.gcd a b)):=oO hg (WD h3 h);have e2:(rd (gU (nD b) (nD (Nat.gcd a b))):DM D)=pure (nD (b / Nat.gcd a b)):=oO hg (WD h3 h);have e4:=uh (l:=[nD (a / Nat.gcd a b),nD (b / Nat.gcd a b)]) (by simp)
 simp[zA,vM,Rp,vY,e1,e2,e4,pT,pl,nT]
noncomputable def GQ:=aG 1 3 (CZ zE jW)
theorem Ah{f:ak->DM Fl}{x:Option D}(h:∀ (g n:Nat),f [x,some (nD g),some (nD n)]=pure (.nx [x,some (nD (Nat.gcd g n)),some (nD n)])):∀ (l:List Nat) (g:Nat) z,∃ u,forL (gN 2) f (l.map nD) [x,some (nD g),z]=pure (.nx [x,some (nD (l.foldl Nat.gcd g)),u])
 |[],g,z=>⟨z,rfl⟩
 |n::l,g,z=>by obtain⟨u,hu⟩:=Ah h l (Nat.gcd g n) (some (nD n));refine⟨u,?_⟩;simp[forL,h,hu]
theorem QL(l:List Nat)(f:D->D)(g:Nat->Nat)(h:∀n∈l,f (nD n)=nD (g n)):(l.map nD).map f=(l.map g).map nD:=by rw[Xd,Xd];exact Xx λn hn=>h n hn
theorem HW(l:List D):l.filter (λz=>true)=l:=Yy.mpr λz z=>rfl
theorem QB{l:List Nat}(h:Hh l)(hs:l.sum<2 ^ 8000):GQ [nT l]=pure (nT (lst l)):=by
 have hg:=pJ h.2.2;have hb:cH l<2 ^ 8000:=by
  have:∃ m∈l,0<m:=by
   refine Classical.byContradiction λn=>?_
   have:l.any (·!= 0)=true:=by rw[wY];exact WF h.2.2
   obtain⟨m,hm,h0⟩:=aar.mp this
   exact n ⟨m,hm,by have:m≠0:=by simpa using h0
                    lia⟩
  obtain⟨m,hm,h0⟩:=this;have:=Nat.le_of_dvd h0 (lL hm);have:=kZ hm;exact WD (by lia) hs
 have at_:mJ (nT l)=some (.fix (l.map nD)):=rfl;simp[GQ,CZ,JB h,at_,Ad];rw[show (D.int 0)=nD 0 from rfl]
 obtain⟨u,hu⟩:=Ah (f:=λδ=>opt δ[1]?.join>>=λa=>opt δ[2]?.join>>=λa_1=>jW [a,a_1]>>=λd=>pure (Fl.nx (δ.set 1 (some d)))) (x:=some (nT l)) (λg n=>by simp[vY]) l 0 none
 rw[hu];simp[aP,du,at_];rw[Ma (λz=>true) (λd=>match d with | .int i=>nD (i.toNat / cH l) | _=>.non) (by have:=h.2.1;simp;lia) (λz z=>rfl) (λd hd z=>?_) (k':=λl=>pure (D.tup l)) (λz=>rfl)]
 ·rw[HW,QL l _ (λn=>n / cH l) (λn z=>by simp[nD])];rfl
 ·obtain⟨n,_,rfl⟩:=Xl.mp hd;have e:(rd (gU (nD n) (nD (cH l))):DM D)=pure (nD (n / cH l)):=oO hg hb;show (rd (gU (nD n) (nD (cH l))):DM D)=_;rw[e];simp[nD]
structure Smn(n:Nat)(l:List Nat):Prop where
 ne:l≠[]
 lt:∀i∈l,i<n
 len:l.length<=100
theorem Oo{n:Nat}(h:n<=1000):(rd (λM=>(ie [nD n] M).map D.lst):DM D)=pure (.lst ((List.range n).map nD)):=cJ λM=>by
 have:ie [nD n] M=some ((List.range n).map nD):=by
  unfold nD;show (if -(2^62)<=(n:Int)/\(n:Int)<=2^20 then some ((List.range (n:Int).toNat).map nD) else none)=_
  rw[Wm ⟨by lia,by lia⟩,Xo]
  rfl
 rw[this];rfl
noncomputable def zF:=aG 4 7 (vH qM)
structure RwS(M0:Mo)(p t n i:Nat)(M:Mo):Prop where
 pen:fG p M
 sb:Sb p M0 M
 ex:∃r:List Nat,M[t]?=some (.lst (r.map nD))/\r.length=n/\r.sum=i
noncomputable def Vy(M0:Mo)(p t n:Nat)(pre:ak)(i:Nat)(δ:ak)(M:Mo):Prop:=(∃z5 z6,δ=pre++[z5,z6])/\RwS M0 p t n i M
theorem Ou{p n W:Nat}{s:List Nat}{M:Mo}(hp:fG p M)(hs:Smn n s)(hn:n<=25)(hW:W<=1000):Rn (zF [.ref p,nD n,nD W,.lst (s.map nD)]) M λd M'=>∃ r:List Nat,d=nT r/\r.length=n/\r.sum=W/\fG p M'/\Sb p M M':=by
 unfold zF vH pP;dsimp only;refine Rn.call rfl ?_;have st:bw 7 [D.ref p,nD n,nD W,.lst (s.map nD)]=[some (.ref p),some (nD n),some (nD W),some (.lst (s.map nD)),none,none,none]:=rfl;rw[st];have m0:uB [.int 0]=pure (.lst [.int 0]):=pU (by simp)
 refine aH λK hK=>?_
 simp[m0];refine Ax (by lia) ?_
 have pt:p≠M.length:=by have:=hp.lt;lia
 have st0:RwS M p M.length n 0 (M++[.lst ((List.replicate n 0).map nD)]):=⟨hp.sb (q:=M.length) Sb.push pt,Sb.new (p:=p) (.inr (Wg _)) (Wg _) Sb.push Sb.refl,List.replicate n 0,by simp,by simp,by simp⟩
 rw[hK];clear hK K;revert st0 pt;generalize ht:M.length=t;generalize M++[DO.lst ((List.replicate n 0).map nD)]=M1;intro pt st0;have tl:M.length<=t:=by lia
 refine aH λK hK=>?_
 simp[dD (n:=W) (by lia),fF]
 refine Rn.bind (bN (Vy M p t n [some (.ref p),some (nD n),some (nD W),some (.lst (s.map nD)),some (.ref t)]) _ 0 _ _ ⟨⟨none,none,rfl⟩,st0⟩ (λj d δ M8 hj hI=>?_)) (λr M8 hI=>?_)
 ·obtain⟨⟨z5,z6,rfl⟩,hp8,sb8,r,at8,lr,sr⟩:=hI;obtain⟨hj',rfl⟩:=m7 hj;rw[WN]at sr ⊢
  simp only[jz,List.cons_append,List.nil_append,jL,az];refine aH λK hK=>?_
  have ln:(rd (gY [.lst (s.map nD)]):DM D)=pure (nD s.length):=by simp[nD]
  have l0:0<s.length:=List.length_pos_iff.mpr hs.ne;simp[ln];refine Rn.bind (jr hp8 l0 (by have:=hs.len;lia)) λd9 M9 ⟨u,g9,e9,hp9,s9⟩=>?_
  subst e9;simp only[Jw g9,az];have ul:ga s u<r.length:=by rw[lr];exact hs.lt _ (jx g9)
  have at9:=s9.at (λz=>pt z.symm) at8
  have t9:=(Wf.mp at9).1;generalize ga s u=v at ul;rw[hK];clear hK K;simp;refine Rn.bindRd (nD (ga r v)) (rE (i:=v) at9 (by rw[Wn,Wk ul,bC ul];rfl)) ?_
  have ad:(rd (dU (nD (ga r v)) (.int 1)):DM D)=pure (nD (ga r v+1)):=jA _ 1;simp[ad];refine Rn.run (o7 (i:=v) at9 (by rw[Wh];exact ul)) ?_
  refine Rn.pure ⟨_,rfl,⟨_,_,rfl⟩,hp9.sb (q:=t) Sb.set pt,Sb.new (p:=p) (.inr (sb8.trans s9).le) tl Sb.set (sb8.trans s9),r.set v (ga r v+1),?_,by rw[Xz];exact lr,?_⟩
  ·rw[WR t9,List.map_set]
  ·have:=Ej (l:=r) (i:=v) (v:=ga r v+1) ul
   lia
 obtain⟨δ',rfl,⟨z5,z6,rfl⟩,hp8,sb8,r,at8,lr,sr⟩:=hI;rw[Wh,WT,WN]at sr;rw[hK];clear hK K;simp;refine Rn.bindRd (nT r) (by show (aR (.ref t) M8).map _=_;simp only[aR,at8];rfl) ?_
 exact Rn.pure ⟨_,rfl,r,rfl,lr,sr,hp8,sb8⟩
noncomputable def zH:=aG 2 8 (uy qM zF)
structure RwsS(M0:Mo)(p q n W:Nat)(i:Nat)(M:Mo):Prop where
 pen:fG p M
 sb:Sb p M0 M
 ex:∃R:List (List Nat),R.length=i/\M[q]?=some (.lst (R.map nT))/\∀r∈R,r.length=n/\r.sum=W
noncomputable def Ux(M0:Mo)(p tp q n W:Nat)(i:Nat)(δ:ak)(M:Mo):Prop:=(∃z5 z6 z7,δ=[some (.ref p),some (nD tp),some (nD n),some (nD W),some (.ref q),z5,z6,z7])/\RwsS M0 p q n W i M
theorem lg(c:Nat):∀l:List Nat,(l.map (·* c)).sum=l.sum*c
 |[]=>by simp
 |a::l=>by simp[lg c l,Nat.add_mul]
theorem Ow{p tp:Nat}{M:Mo}(hp:fG p M)(h1:1<=tp)(h2:tp<=6):Rn (zH [.ref p,nD tp]) M λd M'=>∃ (R:List (List Nat)) (W:Nat),d=nM R/\WK R W/\R.length<=tp/\W<=9000000000/\fG p M'/\Sb p M M':=by
 have hpl:=hp.lt;unfold zH uy nG;dsimp only;refine Rn.call rfl ?_;have st:bw 8 [D.ref p,nD tp]=[some (.ref p),some (nD tp),none,none,none,none,none,none]:=rfl;rw[st];refine aH λK hK=>?_
 simp;refine Rn.bind (jr hp (by lia:0<tp) (by lia)) λd1 M1 ⟨t1,g1,e1,hp1,s1⟩=>?_
 subst e1;simp only[Jq,az];have d9:=jr (m:=9) hp1 (by decide) (by decide)
 refine Rn.bind d9 λd2 M2 ⟨t2,g2,e2,hp2,s2⟩=>?_
 subst e2;simp only[Jq,az];have sb2:Sb p M M2:=s1.trans s2;have hn1:1<=t1+1:=by lia
 have hn2:t1+1<=tp:=by lia
 have hW:1<=t2+1/\t2+1<=9:=by lia
 revert hn1 hn2 hW;generalize t1+1=n;generalize t2+1=W;intro n1 n2 hW;rw[hK];clear hK K d9;refine aH λK hK=>?_
 simp;refine Rn.eG (by simp) ?_
 have pq:p≠M2.length:=by have:=hp2.lt;lia
 have ql:M.length<=M2.length:=sb2.le;have st0:RwsS M p M2.length n W 0 (M2++[.lst []]):=⟨hp2.sb (q:=M2.length) Sb.push pq,Sb.new (p:=p) (.inr sb2.le) ql Sb.push sb2,[],rfl,by simp,by simp⟩
 rw[hK];clear hK K hp1 hp2 s1 s2;revert st0 pq ql;generalize M2.length=q;generalize M2++[DO.lst []]=M4;intro pq ql st0;refine aH λK hK=>?_
 simp[dD (n:=n) (by lia),fF]
 refine Rn.bind (bN (Ux M p tp q n W) _ 0 _ _ ⟨⟨_,_,_,rfl⟩,st0⟩ (λx d δ M5 hx hI=>?_)) (λr M5 hI=>?_)
 ·clear hK K;obtain⟨⟨z5,z6,z7,rfl⟩,hp5,sb5,R,lR,at5,hR⟩:=hI;obtain⟨hx',rfl⟩:=m7 hx;rw[WN]at lR ⊢
  rw[jL,az];refine aH λK hK=>?_
  simp[Oo (n:=n) (by lia)]
  refine Rn.bind (jr hp5 (by lia:0<n) (by lia)) λd1 M7 ⟨u1,g1,e1,hp7,s7⟩=>?_
  refine Rn.bind (jr hp7 (by lia:0<n) (by lia)) λd2 M8 ⟨u2,g2,e2,hp8,s8⟩=>?_
  subst e1 e2;have ml:uB [nD u1,nD u2]=pure (.lst ([u1,u2].map nD)):=pU (by simp)
  have ml2:uB [.lst ((List.range n).map nD),.lst ([u1,u2].map nD)]=pure (.lst [.lst ((List.range n).map nD),.lst ([u1,u2].map nD)]):=pU (by simp)
  simp only[ml,az,ml2];have d2:=jr (m:=2) hp8 (by decide) (by decide)
  refine Rn.bind d2 λd3 M9 ⟨u3,g3,e3,hp9,s9⟩=>?_
  subst e3;have sb9:Sb p M M9:=sb5.trans (s7.trans (s8.trans s9));have at9:=(s7.trans (s8.trans s9)).at (λz=>pq z.symm) at5
  obtain⟨l,el,som⟩:∃l:List Nat,(rd (dm (.lst [.lst ((List.range n).map nD),.lst ([u1,u2].map nD)]) (nD u3)):DM D)=pure (.lst (l.map nD))/\Smn n l:=by
   rcases (show u3=0\/u3=1 by lia) with rfl | rfl
   ·exact⟨List.range n,ug (i:=0) rfl,by simp;lia,λi hi=>Wt.mp hi,by simp;lia⟩
   ·exact⟨[u1,u2],ug (i:=1) rfl,by simp,λi hi=>by simp at hi;lia,by simp⟩
  simp only[el,az];rw[hK];clear hK K;simp;refine Rn.bindRd _ (by simp only[aR,at9];rfl) ?_
  refine Rn.bind (Ou hp9 som (by lia) (by lia)) λd10 M10 ⟨r,e10,lr,sr,hp10,s10⟩=>?_
  subst e10;have at10:=s10.at (λz=>pq z.symm) at9
  have q10:=(Wf.mp at10).1;have sb10:=sb9.trans s10;refine Rn.run (tK at10 (by rw[Wh];lia)) ?_
  refine Rn.pure ⟨_,rfl,⟨_,_,_,rfl⟩,hp10.sb (q:=q) Sb.set pq,Sb.new (p:=p) (.inr sb10.le) ql Sb.set sb10,R++[r],by simp[lR],by rw[WR q10];simp,λr' hr'=>?_⟩
  rcases W5.mp hr' with z | z
  ·exact hR r' z
  ·rw[W2.mp z];exact⟨lr,sr⟩
 ·obtain ⟨δ',rfl,⟨z5,z6,z7,rfl⟩,hp5,sb5,R,lR,at5,hR⟩:=hI;rw[hK];clear hK K;rw[Wh,WT,WN]at lR;refine aH λK hK=>?_
  have p9:(rd (Ge (.int 10) (.int 9)):DM D)=pure (.int 1000000000):=by rw[Mz (by decide)];rfl
  have ml:uB [.int 1,.int 1,.int 1,.int 1000000000]=pure (.lst ([1,1,1,1000000000].map nD)):=pU (by simp)
  simp[p9,ml];have d4:=jr (m:=4) hp5 (by decide) (by decide)
  refine Rn.bind d4 λd6 M6 ⟨u,g6,e6,hp6,s6⟩=>?_
  subst e6;have gu:u<[1,1,1,1000000000].length:=by simpa using g6
  rw[show D.lst [nD 1,nD 1,nD 1,nD 1000000000]=D.lst ([1,1,1,1000000000].map nD) from rfl,Jw gu]
  have hc:1<=ga [1,1,1,1000000000] u/\ga [1,1,1,1000000000] u<=1000000000:=by
   have:=jx gu;generalize ga [1,1,1,1000000000] u=x at this;simp at this
   lia
  revert hc;generalize ga [1,1,1,1000000000] u=c;intro hc;simp only[az];rw[hK];clear hK K;have at6:=s6.at (λz=>pq z.symm) at5
  simp;have hR6:∀r∈R,r.length<=1000:=λr hr=>by have:=(hR r hr).1;lia
  have ce:aP 1 [7] [some (D.ref p),some (nD tp),some (nD n),some (nD W),some (D.ref q),z5,z6,some (nD c)]=[none,some (nD c)]:=rfl;rw[ce];refine Nx nT (λr=>nT (r.map (·* c))) at6 (by lia) (λr hr=>?_) (λl=>pure (Fl.rt (D.tup l))) (λq=>rfl) ?_
  ·have e1:aP 1 [1] [some (nT r),some (nD c)]=[none,some (nD c)]:=rfl;have e2:mJ (nT r)=some (.fix (r.map nD)):=rfl;simp[e1,e2,lA];rw[cG nD (λw=>nD (w*c)) (by have:=hR6 r hr;lia) λa y=>by simp[oW (a:=a) (b:=c) (by lia)]]
   simp[nT];rfl
  ·refine Rn.pure ⟨_,rfl,R.map (·.map (·* c)),?_,W*c,⟨?_,?_,?_,?_,?_⟩,?_,?_,hp6,sb5.trans s6⟩
   ·simp[nM]
   ·simp;lia
   ·simp;lia
   ·intro r hr;obtain⟨r',h',rfl⟩:=Xl.mp hr;rw[Wh,Wh,(hR r' h').1,lR]
   ·intro r hr;obtain⟨r',h',rfl⟩:=Xl.mp hr;rw[lg,(hR r' h').2]
   ·have:=Nat.mul_le_mul hW.1 hc.1;lia
   ·simp;lia
   ·have:=Nat.mul_le_mul hW.2 hc.2;lia
noncomputable def Frs:=aG 1 1 (j0 nW)
theorem RT{k:Nat}(h:k<=100):Frs [nD k]=pure .non:=by
 have e1:(rd (yF (.int 0) (nD k)):DM D)=pure (.bl true):=by rw[show D.int 0=nD 0 from rfl,rP,WF (X3 _)]
 have e2:(rd (yF (nD k) (.int 100)):DM D)=pure (.bl true):=by rw[show D.int 100=nD 100 from rfl,rP,WF h]
 simp[Frs,j0,rB,e1,e2]
noncomputable def dot(l:List Nat)(R:List (List Nat))(y:Nat):Nat:=(List.zipWith (λw r=>w*ga r y) l R).sum
noncomputable def stp(R:List (List Nat))(l:List Nat):List Nat:=(List.range R.length).map (dot l R)
noncomputable def b7{α:Type}(f:α->α):Nat->α->α
 |0,a=>a
 |n+1,a=>b7 f n (f a)
theorem dg{α:Type}(f:α->α):∀ (n:Nat) (a:α),b7 f (n + 1) a=f (b7 f n a)
 |0,a=>rfl
 |n+1,a=>by show b7 f (n+1) (f a)=_;rw[dg f n (f a)];rfl
noncomputable def G9:=aG 2 2 yo
theorem QT(f:Nat->List Nat->Nat)(l:List Nat)(R:List (List Nat)):List.zipWith (λw r=>nD (f w r)) l R=(List.zipWith f l R).map nD:=by rw[List.map_zipWith]
theorem RV{R:List (List Nat)}{W:Nat}{l:List Nat}(h:WK R W)(hW:W<2 ^ 610)(hl:l.length=R.length)(hS:l.sum<2 ^ 8000):G9 [nM R,nT l]=pure (nT (stp R l)):=by
 have h2:=h.n25;simp[G9,yo,Bt,dD (n:=l.length) (by lia),aP,du]
 rw[cG nD (λy=>nD (dot l R y)) (by simp;lia) (λy hy=>?_)]
 ·simp[stp,hl,nT,Function.comp_def]
 ·have hy':y<R.length:=by rw[<-hl];exact Wt.mp hy
  simp[Ot];rw[PB nD nT (λw r=>nD (w*ga r y)) (by lia) (λw hw r hr=>by have:=h.at_le hr y;simp[dB (l:=r) (i:=y) (by rw[h.row r hr];exact hy'),jB (a:=w) (b:=ga r y) (Nat.lt_of_le_of_lt (kZ hw) hS) (aY (Nat.lt_of_le_of_lt this hW) (by decide))])]
  rw[QT,az,Rz];rfl
theorem o8(R:List (List Nat))(l:List Nat):(stp R l).length=R.length:=by simp[stp]
theorem Dh{n W:Nat}:∀ (l:List Nat) (R:List (List Nat)),l.length=R.length->(∀ r∈R,r.length=n)->(∀ r∈R,r.sum=W)->S n (dot l R)=l.sum * W
 |[],[],_,_,_=>by rw[qU (f:=dot [] []) λz z=>rfl];simp
 | w::l,r::R,hl,h1,h2=>by
   have e:dot (w::l) (r::R)=λy=>w*ga r y+dot l R y:=by
    funext y;show (w*ga r y::List.zipWith (λw r=>w*ga r y) l R).sum=_
    rw[Yv];rfl
   rw[e,tE,Hl,Dh l R (by simpa using hl) (λr hr=>h1 r (by simp[hr])) (λr hr=>h2 r (by simp[hr])),Yv,Nat.add_mul]
   have:=J8 r;rw[h1 r (by simp),h2 r (by simp)]at this
   rw[this]
theorem O1{R:List (List Nat)}{W:Nat}{l:List Nat}(h:WK R W)(hl:l.length=R.length):(stp R l).sum=l.sum*W:=by unfold stp;rw[jl];exact Dh l R hl h.row h.sum
theorem eZ{R:List (List Nat)}{l:List Nat}(hl:l.length=R.length):∀k,(b7 (stp R) k l).length=R.length
 |0=>hl
 |k+1=>by rw[dg,o8]
theorem tR{R:List (List Nat)}{W:Nat}{l:List Nat}(h:WK R W)(hl:l.length=R.length):∀ k,(b7 (stp R) k l).sum=l.sum * W ^ k
 |0=>by simp[b7]
 |k+1=>by rw[dg,O1 h (eZ hl k),tR h hl k,Zb,Xb]
theorem bO(n x:Nat):(unit n x).length=n:=by simp[unit]
theorem jf{n x:Nat}(h:x<n):(unit n x).sum=1:=by
 unfold unit;rw[jl];have e:S n (λi=>if i=x then 1 else 0)=S n (N10.up (λz=>0) x 1):=bB λi z=>rfl
 have:S n (N10.up (λz=>0) x 1)+0=S n (λz=>0)+1:=J9 (f:=λz=>0) h
 rw[qU (f:=λz=>0) λz z=>rfl]at this
 lia
theorem qm{R:List (List Nat)}{W x:Nat}(h:WK R W)(hx:x<R.length):Hh (unit R.length x):=⟨by rw[bO];exact h.n1,by rw[bO];exact h.n25,by rw[jf hx];decide⟩
noncomputable def vC:=aG 3 4 (qX zE Frs G9)
noncomputable def Vg(M0:Mo)(w:D)(R:List (List Nat))(l:List Nat)(k:Nat)(i:Nat)(δ:ak)(M:Mo):Prop:=(∃z,δ=[some w,some (nT (b7 (stp R) i l)),some (nD k),z])/\M=M0
theorem vG{R:List (List Nat)}{W:Nat}{l:List Nat}{k:Nat}(h:WK R W)(hW:W<2 ^ 610)(hl:l.length=R.length)(hL:Hh l)(hk:k<=100)(hT:l.sum * W ^ k<2 ^ 8000):vC [aF R W,nT l,nD k]=pure (nT (b7 (stp R) k l)):=xK λM=>by
 unfold vC qX lU;dsimp only;refine Rn.call rfl ?_;simp[JB hL,Bt,cO,oU,Bw,hl,RT hk,dD (n:=k) (by lia),Ad]
 refine Rn.bind (bN (Vg M (aF R W) R l k) _ 0 _ _ ⟨⟨none,rfl⟩,rfl⟩ (λj d δ M1 hj hI=>?_)) (λr M1 hI=>?_)
 ·obtain⟨⟨z,rfl⟩,rfl⟩:=hI;obtain⟨hj',rfl⟩:=m7 hj;rw[WN];have hb:(b7 (stp R) j l).sum<2^8000:=by rw[tR h hl];exact WD (Nat.mul_le_mul_left _ (X5 h.w1 (Yr hj'))) hT
  simp[cO,RV h hW (eZ hl j) hb];exact Rn.pure ⟨_,rfl,⟨_,by rw[dg]⟩,rfl⟩
 ·obtain⟨δ',rfl,⟨z,rfl⟩,rfl⟩:=hI;simp;exact Rn.pure ⟨_,rfl,rfl,rfl⟩
theorem Ul{f:Nat->List Nat->Nat}{l:List Nat}{R:List (List Nat)}(h:l.length=R.length):(List.zipWith f l R).sum=S R.length (λi=>f (ga l i) (gr R i)):=by
 rw[<-jl];congr 1;apply ZJ;intro k;by_cases hk:k<R.length
 ·rw[Wn,W3 hk,List.getElem?_zipWith,Wk (by lia:k<l.length),Wk hk]
  simp only[Option.map_some];rw[bC (by lia),eY hk]
 ·rw[Xn (by simp;lia),Xn (by simp;lia)]
theorem gA{n x i:Nat}(hi:i<n):ga (unit n x) i=if i=x then 1 else 0:=by
 rw[bC (by rw[bO];exact hi)]
 simp[unit]
theorem sO{R:List (List Nat)}{l:List Nat}{y:Nat}(hy:y<R.length):ga (stp R l) y=dot l R y:=by
 rw[bC (by rw[o8];exact hy)]
 simp[stp]
theorem vU{R:List (List Nat)}{l:List Nat}(hl:l.length=R.length)(y:Nat):dot l R y=S R.length (λx=>ga l x*ga (gr R x) y):=by unfold dot;rw[Ul hl]
end K
namespace K
open PySem L2 L3 N10 N60 LB
def AL(R:List (List Nat)):Prop:=∀x,x<R.length->∀a,a<R.length->To R x a
theorem Rch.trans{N:List (List Nat)}{x y z:Nat}(h:Rch N x y)(k:Rch N y z):Rch N x z:=by
 induction k with
 |here=>exact h
 |step _ m ih=>exact .step ih m
set_option tactic.hygienic true in
theorem RC{R:List (List Nat)}{W x a:Nat}(wk:WK R W)(h:To R x a):a<R.length->Rch (qz R) a x:=by
 induction h with
 |here=>exact λz=>.here
 |step hj hp tt ih=>rename_i a b;intro ha;refine Rch.trans (.step .here ?_) (ih hj);rw[Jb ha];exact YH.mpr ⟨Wt.mpr (by rw[wk.row _ (gr_mem ha)];exact hj),WF hp⟩
theorem Hf{R:List (List Nat)}{W:Nat}(wk:WK R W)(al:AL R):LD R=List.replicate R.length (List.range R.length):=by
 unfold LD gW;rw[Xx (g:=λz=>List.range R.length) (λx hx=>?_),List.map_const',WT]
 have hx':=Wt.mp hx;exact Yy.mpr λy hy=>Bx.mpr (RC wk (al y (Wt.mp hy) x hx') hx')
theorem Ql{n:Nat}{l:List Nat}{y:Nat}(h:y<n):gr (List.replicate n l) y=l:=by rw[eY (by simpa using h)];simp
theorem Hy{α:Type}{ft:ak->DM Bool}{fe:ak->DM D}{rest:ak}{e:List Int}(ne:e≠[])(enc:α->D):∀ (as:List α) (x:Option D) (l:List D),(∀ d∈l,d=tupI e)->(∀ a∈as,ft (some (enc a)::rest)=pure true)->(∀ a∈as,fe (some (enc a)::rest)=pure (tupI e))->
  ∃z,bx (gN 0) ft (gP fe) (as.map enc) (x::rest) l=pure (z::rest,l++List.replicate as.length (tupI e))
 |[],x,l,_,_,_=>⟨x,by simp[bx]⟩
 | a::as,x,l,hl,h1,h2=>by
   have c:=h1 a (by simp)
   have c2:=h2 a (by simp)
   have ts:(jF [tupI e]).isSome=true:=by rw[show [tupI e]=[e].map tupI from rfl,wU (λt ht=>by simp at ht;rw[ht];exact ne)];rfl
   obtain⟨z,q⟩:=Hy (rest:=rest) ne enc as (some (enc a)) (l++[tupI e]) (λd hd=>by
    rcases W5.mp hd with h | h
    ·exact hl d h
    ·exact W2.mp h) (λb hb=>h1 b (by simp[hb])) (λb hb=>h2 b (by simp[hb]))
   have em:gP fe (some (enc a)::rest) l=pure (some (enc a)::rest,l++[tupI e]):=by unfold gP;rw[c2,az,Wm ⟨ts,hl⟩]
   refine⟨z,?_⟩;rw[W0];simp only[bx,jL,List.set_cons_zero,az,c,em,if_true,q];simp[List.replicate_succ]
theorem R0{R:List (List Nat)}{W:Nat}(h:WK R W)(al:AL R)(M:Mo):Rn (Hb [aF R W]) M λd M'=>d=nM [List.range R.length]/\∀ (j:Nat) (o:DO),M[j]?=some o->M'[j]?=some o:=by
 have n1:=h.n1;unfold Hb uz nH;dsimp only;refine Rn.call rfl ?_;have st:bw 2 [aF R W]=[some (aF R W),none]:=rfl;rw[st];refine aH λK hK=>?_
 simp;refine Rn.bind (Qz h M) λd M1 ⟨e,k1⟩=>?_
 subst e;rw[hK];clear hK K;have as:mJ (nM (LD R))=some (.fix ((LD R).map nT)):=rfl;have ce:aP 1 [1] [some (aF R W),some (nM (LD R))]=[none,some (nM (LD R))]:=rfl;simp[as,lA,ce];have T:∀ l∈LD R,zc (some (nT l)::[some (nM (LD R))])=(Pure.pure true:DM Bool):=λl hl=>by
  have hl':=Pa hl;have at':mJ (nT l)=some (.fix (l.map nD)):=rfl;have ce2:aP 1 [1,0] [some (nT l),some (nM (LD R))]=[none,some (nM (LD R)),some (nT l)]:=rfl;have n25:=h.n25;simp only[zc,List.getElem?_cons_zero,Option.join_some,fU,az,at',lA,ce2];rw[cG nD (λy=>.bl true) (by lia) λy hy=>by
   have e:gr (LD R) y=l:=by
    rw[Hf h al]at hl ⊢
    rw[aas hl];exact Ql (hl'.2.2 y hy)
   simp[Rv (R:=LD R) (i:=y) (by rw[Hg];exact hl'.2.2 y hy),Rt,e]]
  rw[az,rG,uM];simp
 have ne:Ce (List.range R.length)≠[]:=λz=>by
  have:=congrArg List.length z;unfold Ce at this;rw[Wh,WT,List.length_nil]at this
  lia
 obtain⟨z,q⟩:=Hy (rest:=[some (nM (LD R))]) ne nT (LD R) none [] (by simp) (ft:=zc) (fe:=fZ 0) T (λl hl=>by rw[Hf h al]at hl;rw[aas hl];simp[QW])
 refine (show Rn (dq (bx (gN 0) zc (gP (fZ 0)) ((LD R).map nT) [none,some (nM (LD R))] [])>>=_) M1 _ from ?_)
 rw[q];obtain⟨m,hm⟩:∃m,(LD R).length=m+1:=⟨R.length-1,by rw[Hg];lia⟩
 have sl:∀M,(λ_:Mo=>RZ (([]:List D)++List.replicate (LD R).length (tupI (Ce (List.range R.length))))) M=some (.lst [tupI (Ce (List.range R.length))]):=λM=>by rw[hm];rfl
 simp only[Mx,az];refine Rn.bindRd _ (sl M1) ?_;refine Rn.bindRd (.tup [tupI (Ce (List.range R.length))]) rfl ?_;exact Rn.pure ⟨_,rfl,by simp[nM,QW],k1⟩
noncomputable def G3:=aG 1 1 (lD Hb cM)
theorem Ec{n:Nat}(h:n<=1000):(rd (λM=>(ie [nD n] M).map D.tup):DM D)=pure (nT (List.range n)):=cJ λM=>by
 have:ie [nD n] M=some ((List.range n).map nD):=by
  unfold nD;show (if -(2^62)<=(n:Int)/\(n:Int)<=2^20 then some ((List.range (n:Int).toNat).map nD) else none)=_
  rw[Wm ⟨by lia,by lia⟩,Xo]
  rfl
 rw[this];rfl
theorem Q4{R:List (List Nat)}{W:Nat}(wk:WK R W)(h5:R.length<=5)(al:AL R)(M:Mo):Rn (G3 [aF R W]) M λd M'=>d=.non/\∀(j:Nat) (o:DO),M[j]?=some o->M'[j]?=some o:=by
 unfold G3 lD f9;dsimp only;simp;refine Rn.bind (R0 wk al M) λd M1 ⟨e,k1⟩=>?_
 subst e;have t1:∀x:D,yG [x]=pure (.tup [x]):=λx=>uh (by simp)
 have e2:D.tup [nT (List.range R.length)]=nM [List.range R.length]:=rfl;simp only[cR wk.n25,az,Ec (n:=R.length) (by lia),t1,e2,Qf [List.range R.length] [List.range R.length] (by simp),decide_true,Bool.not_true,jh,Bool.false_eq_true,if_false]
 exact Rn.pure ⟨rfl,k1⟩
noncomputable def wl(R:List (List Nat))(W i:Nat):List Nat:=(List.range R.length).map λx=>if x<i then rst R W x else 0
theorem mD(R:List (List Nat))(W i:Nat):(wl R W i).length=R.length:=by simp[wl]
theorem zg{R:List (List Nat)}{W i x:Nat}(hx:x<R.length):ga (wl R W i) x=if x<i then rst R W x else 0:=by rw[bC (by rw[mD];exact hx)];simp[wl]
theorem O7(R:List (List Nat))(W:Nat):wl R W 0=List.replicate R.length 0:=by unfold wl;rw[Xx (g:=λz=>0) (λx z=>Wr (by lia)),List.map_const',WT]
theorem Sq{R:List (List Nat)}{W i:Nat}(hi:i<R.length):(wl R W i).set i (rst R W i)=wl R W (i+1):=by
 refine oA (by rw[Xz,mD,mD]) λx hx=>?_
 rw[Xz,mD]at hx;by_cases q:i=x
 ·subst q;rw[bC (by rw[Xz,mD];exact hx),List.getElem_set_self,zg hx,Wm (by lia)]
 ·rw[JR q,zg hx,zg hx];by_cases q2:x<i
  ·rw[Wm q2,Wm (by lia)]
  ·rw[Wr q2,Wr (by lia)]
theorem JG{b:Nat}{R:List (List Nat)}{W x:Nat}(wk:WK R W)(hx:x<R.length)(h5:R.length<=5)(hW:W<2^b):rst R W x<2^(4*b+6):=by
 have bd:∀i j,i<R.length-1->j<R.length-1->((λi j=>bu R W (sk x i) (sk x j)) i j).natAbs<2^b:=λi j hi hj=>by have a1:=wk.at_le (gr_mem (nj (x:=x) hi)) (sk x i);have a2:=wk.at_le (gr_mem (nj (x:=x) hi)) (sk x j);show (bu R W (sk x i) (sk x j)).natAbs<_;unfold bu;split<;>lia
 have key:(wt (bu R W) R.length x).natAbs<2^(4*b+6):=by
  show (jV (λi j=>bu R W (sk x i) (sk x j)) (R.length-1)).natAbs<_
  cases hm:R.length-1 with
  |zero=>show (1:Int).natAbs<_;exact Nat.one_lt_two_pow (by lia)
  |succ k=>rw[vR _ k (by lia)];exact Ca bd (by lia) k k k (by lia) (by lia) (by lia)
 unfold rst
 lia
theorem JF{R:List (List Nat)}{W x:Nat}(wk:WK R W)(hx:x<R.length)(h5:R.length<=5)(hW:W<2^610):rst R W x<2^2450:=aY (JG wk hx h5 hW) (by decide)
noncomputable def ph(R:List (List Nat))(W:Nat):List Nat:=wl R W R.length
noncomputable def rest(R:List (List Nat))(W:Nat):List Nat:=lst (ph R W)
theorem fD(R:List (List Nat))(W:Nat):(ph R W).length=R.length:=mD R W _
theorem sW{R:List (List Nat)}{W x:Nat}(hx:x<R.length):ga (ph R W) x=rst R W x:=by unfold ph;rw[zg hx,Wm hx]
theorem xW{R:List (List Nat)}{W:Nat}(wk:WK R W)(h5:R.length<=5)(hW:W<2 ^ 610)(al:AL R):Hh (ph R W)/\(ph R W).sum<2 ^ 2453:=by
 have n1:=wk.n1;refine⟨⟨by rw[fD];exact n1,by rw[fD];exact wk.n25,?_⟩,?_⟩
 ·have h0:=(oY wk (x:=0) (by lia) h5 (al 0 (by lia))).1
  have:=kZ (jx (l:=ph R W) (i:=0) (by rw[fD];lia))
  rw[sW (by lia)]at this
  lia
 ·have:(ph R W).sum<=(ph R W).length*(2^2450-1):=R4 λn hn=>by
   obtain⟨i,hi,rfl⟩:=List.getElem_of_mem hn;have hi':i<R.length:=by rw[fD]at hi;exact hi
   rw[<-bC hi,sW hi'];have:=JF wk hi' h5 hW
   lia
  rw[fD]at this;have h2:R.length*(2^2450-1)<=5*(2^2450-1):=Xy _ h5;have h3:(2:Nat)^2453=8*2^2450:=by rw[show (2453:Nat)=3+2450 from rfl,Nat.pow_add]
  have h4:0<(2:Nat)^2450:=Yg (by decide)
  lia
theorem JC{R:List (List Nat)}{W:Nat}(wk:WK R W):(List.range R.length).map (λx=>(List.range R.length).map λy=>ga (gr R x) y)=R:=by
 apply YB
 ·simp
 ·intro i h1 h2;rw[List.getElem_map,List.getElem_range];rw[<-eY h2];have l:=wk.row _ (gr_mem h2);refine oA (by simp[l]) λy hy=>?_
  simp at hy;rw[bC (by simpa using hy)]
  simp
noncomputable def G7:=aG 2 6 (ym Hc GQ jj cM)
noncomputable def Uq(M0:Mo)(R:List (List Nat))(W q:Nat)(i:Nat)(δ:ak)(M:Mo):Prop:=(∃z4 z5,δ=[some (aF R W),some (nT (List.range R.length)),some (aF R W),some (.ref q),z4,z5])/\M[q]?=some (.lst ((wl R W i).map nD))/\∀(j:Nat) (o:DO),M0[j]?=some o->M[j]?=some o
theorem RG{R:List (List Nat)}{W:Nat}(wk:WK R W)(h5:R.length<=5)(hW:W<2 ^ 610)(al:AL R)(M:Mo):Rn (G7 [aF R W,nT (List.range R.length)]) M λd M'=>d=nT (rest R W)/\∀ (j:Nat) (o:DO),M[j]?=some o->M'[j]?=some o:=by
 have n1:=wk.n1;unfold G7 ym rN;dsimp only;refine Rn.call rfl ?_;have st:bw 6 [aF R W,nT (List.range R.length)]=[some (aF R W),some (nT (List.range R.length)),none,none,none,none]:=rfl;rw[st];refine aH λK hK=>?_
 have ce:aP 1 [1,0] [some (aF R W),some (nT (List.range R.length)),none,none,none,none]=[none,some (nT (List.range R.length)),some (aF R W)]:=rfl;have as:mJ (nT (List.range R.length))=some (.fix ((List.range R.length).map nD)):=rfl;simp[ce,as,lA];rw[cG (as:=List.range R.length) nD (λx=>nT ((List.range R.length).map λy=>ga (gr R x) y)) (by simp;lia) (λx hx=>?_)]
 rotate_left
 ·have hx':=Wt.mp hx;have ce2:aP 1 [2,0] [some (nD x),some (nT (List.range R.length)),some (aF R W)]=[none,some (aF R W),some (nD x)]:=rfl;simp only[cI,as,lA,ce2];rw[cG (as:=List.range R.length) nD (λy=>nD (ga (gr R x) y)) (by simp;lia) (λy hy=>?_)]
  ·simp[nT,Function.comp_def]
  ·have hy':=Wt.mp hy;simp only[List.getElem?_cons_zero,List.getElem?_cons_succ,Option.join_some,fU,az,cO,wH hx',dB (l:=gr R x) (i:=y) (by rw[wk.row _ (gr_mem hx')];exact hy')]
 have e1:D.tup ((List.range R.length).map λx=>nT ((List.range R.length).map λy=>ga (gr R x) y))=nM R:=by
  have:=JC wk
  conv=>rhs;rw[<-this]
  simp[nM,Function.comp_def]
 simp only[az,rQ,wJ,e1,mC wk];rw[hK];clear hK K;refine aH λK hK=>?_
 have m0:uB [.int 0]=pure (.lst [.int 0]):=pU (by simp)
 simp[m0,cR wk.n25];refine Ax (by lia) ?_
 have st0:Uq M R W M.length 0 [some (aF R W),some (nT (List.range R.length)),some (aF R W),some (.ref M.length),none,none] (M++[.lst ((List.replicate R.length 0).map nD)]):=by
  refine⟨⟨_,_,rfl⟩,by rw[O7];simp,λj o h=>?_⟩
  rw[Ws (Wf.mp h).1];exact h
 have qn:M[M.length]?=none:=by simp
 rw[hK];clear hK K;revert st0 qn;generalize M.length=q;generalize M++[DO.lst ((List.replicate R.length 0).map nD)]=M1;intro st0 qn;refine aH λK hK=>?_
 have en:tQ [nT (List.range R.length)]=some (.fix ((List.range R.length).map λj=>.tup [nD j,nD j])):=by show some (Itn.fix (ig 0 ((List.range R.length).map nD)))=_;rw[YQ,kI]
 simp[en,fF];refine Rn.bind (bN (Uq M R W q) _ 0 _ _ st0 (λx d δ M5 hx hI=>?_)) (λr M5 hI=>?_)
 ·clear hK K;obtain⟨⟨z4,z5,rfl⟩,at5,k5⟩:=hI;have hx':x<R.length:=by have:=(Wf.mp hx).1;simpa using this
  rw[Wn,W3 hx']at hx;have:=Wq hx;subst this;rw[WN]at at5 ⊢
  have tt:=R8 wk hx' h5 hW (Mm wk hx' (al x hx'));rw[(oY wk hx' h5 (al x hx')).2]at tt;simp[tt];refine Rn.run (o7 (i:=x) at5 (by rw[Wh,mD];exact hx')) ?_
  refine Rn.pure ⟨_,rfl,⟨_,_,rfl⟩,?_,λj o h=>?_⟩
  ·rw[WR (Wf.mp at5).1];congr 2;rw[<-Sq hx',List.map_set];rfl
  ·rw[Xh]
   ·exact k5 j o h
   ·rintro rfl;rw[qn]at h;cases h
 ·obtain⟨δ',rfl,⟨z4,z5,rfl⟩,at5,k5⟩:=hI;rw[hK];clear hK K;rw[Wh,WT,WN]at at5;have wt:=xW wk h5 hW al;simp;refine Rn.bindRd (nT (ph R W)) (by show (aR (.ref q) M5).map _=_;simp only[aR,at5];rfl) ?_
  rw[QB wt.1 (aY wt.2 (by decide)),az]
  exact Rn.pure ⟨_,rfl,rfl,k5⟩
noncomputable def For:=aG 1 1 (vL G3 G7 cM)
theorem oJ{R:List (List Nat)}{W:Nat}(wk:WK R W)(h5:R.length<=5)(hW:W<2^610)(al:AL R)(M:Mo):Rn (For [aF R W]) M λd M'=>d=nT (rest R W)/\∀(j:Nat) (o:DO),M[j]?=some o->M'[j]?=some o:=by
 unfold For vL pQ;dsimp only;refine Rn.call rfl ?_;simp;refine Rn.bind (Q4 wk h5 al M) λd M1 ⟨_,k1⟩=>?_
 simp only[cR wk.n25,az,Ec (n:=R.length) (by lia)]
 refine Rn.bind (RG wk h5 hW al M1) λd M2 ⟨e,k2⟩=>?_
 subst e;exact Rn.pure ⟨_,rfl,rfl,λj o h=>k2 j o (k1 j o h)⟩
end K
namespace K
open PySem L2 L3 N10 N60
theorem KH{l:List Nat}(h:0<l.sum):cH (lst l)=1:=by
 have h0:=pJ h;have e:cH l=cH l*cH (lst l):=by
  conv=>lhs;rw[K3 l]
  rw[uW]
 exact XX h0 (by lia)
theorem Dv(l:List Nat):(lst l).length=l.length:=by simp[lst]
theorem Ir{l:List Nat}{i:Nat}(hi:i<l.length):ga l i=cH l*ga (lst l) i:=by
 rw[bC hi,bC (by rw[Dv];exact hi)]
 simp only[lst,List.getElem_map];exact (XS (lL (Yh hi))).symm
structure Rst(R:List (List Nat))(W:Nat)(r:List Nat):Prop where
 len:r.length=R.length
 pos:∀x,x<R.length->0<ga r x
 stat:∀y,y<R.length->S R.length (λx=>ga r x*ga (gr R x) y)=ga r y*W
 gcd:cH r=1
 bd:∀x,ga r x<2^2450
 sum:r.sum<2^2453
theorem eQ{R:List (List Nat)}{W:Nat}(wk:WK R W)(h5:R.length<=5)(hW:W<2^610)(al:AL R):Rst R W (rest R W):=by
 have wt:=xW wk h5 hW al;have g0:=pJ wt.1.2.2;have gx:∀x,x<R.length->rst R W x=cH (ph R W)*ga (rest R W) x:=λx hx=>by rw[<-sW hx];exact Ir (by rw[fD];exact hx)
 have le:∀x,x<R.length->ga (rest R W) x<=rst R W x:=λx hx=>by rw[gx x hx];exact Nat.le_mul_of_pos_left _ g0
 have len:(rest R W).length=R.length:=by unfold rest;rw[Dv,fD]
 refine⟨len,λx hx=>?_,λy hy=>?_,KH wt.1.2.2,λx=>?_,?_⟩
 ·have:=(oY wk hx h5 (al x hx)).1;rw[gx x hx]at this;exact Nat.pos_of_mul_pos_left this
 ·have h:=Lh wk hy h5 al;rw[bB (g:=λx=>cH (ph R W)*(ga (rest R W) x*ga (gr R x) y)) λx hx=>by rw[gx x hx,Xb],cN,gx y hy,Xb]at h
  exact XX g0 h
 ·by_cases hx:x<R.length
  ·exact WD (le x hx) (JF wk hx h5 hW)
  ·rw[oF (by lia)];exact Yg (by decide)
 ·refine WD ?_ wt.2;rw[fu len,fu (fD R W)];exact zL λx hx=>by rw[sW hx];exact le x hx
noncomputable def GF:=aG 1 1 (qw nW)
theorem Qn{a b:Nat}(hb:0<b):GF [pT (a,b)]=pure (.bl true):=by
 have t:(rd (lM [pT (a,b),.ty "tuple"]):DM D)=pure (.bl true):=uf (t := "tuple") (λz=>rfl) (by decide)
 have ln:(rd (gY [pT (a,b)]):DM D)=pure (.int 2):=by simp[pT,nT]
 have x0:(rd (dm (pT (a,b)) (.int 0)):DM D)=pure (nD a):=dB (l:=[a,b]) (i:=0) (by simp)
 have x1:(rd (dm (pT (a,b)) (.int 1)):DM D)=pure (nD b):=dB (l:=[a,b]) (i:=1) (by simp)
 have g:(rd (Dm (nD b) (.int 1)):DM D)=pure (.bl true):=(Br b 1).trans (by rw[WF (show 1<=b by lia)])
 simp[GF,qw,t,ln,x0,x1,rB,g]
noncomputable def zB:=aG 1 1 (gD GF)
theorem By{a b:Nat}(hb:0<b):zB [pT (a,b)]=pure .non:=by simp[zB,gD,Qn hb]
noncomputable def G5:=aG 1 3 (Dc zB zA)
theorem Rb{a b:Nat}(hb:0<b)(h:b<2^8000):G5 [pT (a,b)]=pure (pT (pl a b)):=by have e:pT (a,b)=.tup [nD a,nD b]:=rfl;simp[G5,Dc,By hb];simp[e,Jl hb h]
noncomputable def qN:=aG 2 2 (yj zB)
theorem uX{a b c d:Nat}(hb:0<b)(hd:0<d)(ha':a<2^8000)(hb':b<2^8000)(hc':c<2^8000)(hd':d<2^8000):qN [pT (a,b),pT (c,d)]=pure (.bl (decide (a*d<c*b))):=by
 have x0:∀a b,(rd (dm (pT (a,b)) (.int 0)):DM D)=pure (nD a):=λa b=>dB (l:=[a,b]) (i:=0) (by simp)
 have x1:∀a b,(rd (dm (pT (a,b)) (.int 1)):DM D)=pure (nD b):=λa b=>dB (l:=[a,b]) (i:=1) (by simp)
 simp[qN,yj,By hb,By hd,x0,x1,jB ha' hd',jB hc' hb',Bu]
noncomputable def Ha:=aG 2 4 (vO qN G5)
noncomputable def Vz(M0:Mo)(r l:List Nat)(i:Nat)(δ:ak)(M:Mo):Prop:=(∃v z,δ=[some (nT r),some (nT l),some (pT (ga l z,ga r z)),v]/\z<r.length/\∀y,y<i->ga l z*ga r y<=ga l y*ga r z)/\M=M0
theorem pairs_at:∀ (l m:List Nat) (i:Nat) (d:D),(pairs (l.map nD) (m.map nD))[i]?=some d->i<l.length/\i<m.length/\d=pT (ga l i,ga m i)
 |[],_,i,d,h=>by simp[pairs]at h
 |_::_,[],i,d,h=>by simp[pairs]at h
 |a::l,b::m,0,d,h=>by simp[pairs]at h;exact⟨by simp,by simp,h.symm⟩
 |a::l,b::m,i+1,d,h=>by
   have:=pairs_at l m i d (by simpa[pairs] using h)
   exact⟨by simp;lia,by simp;lia,this.2.2⟩
theorem pairs_len:∀ (l m:List Nat),l.length=m.length->(pairs (l.map nD) (m.map nD)).length=l.length
 |[],_,_=>rfl
 |a::l,b::m,h=>by
   have:=pairs_len l m (by simpa using h)
   simp[pairs,this]
theorem RX{r l:List Nat}(hl:l.length=r.length)(h1:1<=r.length)(hr:∀ x,x<r.length->0<ga r x)(br:∀ x,ga r x<2 ^ 8000)(bl:∀ x,ga l x<2 ^ 8000)(M:Mo):
  Rn (Ha [nT r,nT l]) M λd M'=>∃z,Mn (ga l) (ga r) r.length z/\d=pT (pl (ga l z) (ga r z))/\M'=M:=by
 unfold Ha vO pR;dsimp only;refine Rn.call rfl ?_;have st:bw 4 [nT r,nT l]=[some (nT r),some (nT l),none,none]:=rfl;rw[st];have x0:(rd (dm (nT l) (.int 0)):DM D)=pure (nD (ga l 0)):=dB (i:=0) (by lia)
 have x1:(rd (dm (nT r) (.int 0)):DM D)=pure (nD (ga r 0)):=dB (i:=0) (by lia)
 have m2:∀x y:D,yG [x,y]=pure (.tup [x,y]):=λx y=>uh (by simp)
 refine aH λK hK=>?_
 simp[x0,x1,m2];rw[hK];clear hK K;refine aH λK hK=>?_
 have zp:sY [nT l,nT r]=some (.fix (pairs (l.map nD) (r.map nD))):=rfl;simp[zp,fF];refine Rn.bind (bN (Vz M r l) _ 0 _ _ ⟨⟨none,0,rfl,by lia,λy hy=>by lia⟩,rfl⟩ (λj d δ M1 hj hI=>?_)) (λrr M1 hI=>?_)
 ·clear hK K;obtain⟨⟨v,z,rfl,hz,m⟩,rfl⟩:=hI;obtain⟨j1,j2,rfl⟩:=pairs_at l r j d hj;rw[WN]at m ⊢
  rw[jL,az];simp[uX (hr j j2) (hr z hz) (bl j) (br j) (bl z) (br z)];by_cases q:ga l j*ga r z<ga l z*ga r j
  ·simp[q];refine Rn.pure ⟨_,rfl,⟨_,j,rfl,j2,λy hy=>?_⟩,rfl⟩
   by_cases e:y=j
   ·subst e;exact Wg _
   ·exact uV (hr z hz) (by lia) (m y (by lia))
  ·simp[q];refine Rn.pure ⟨_,rfl,⟨_,z,rfl,hz,λy hy=>?_⟩,rfl⟩
   by_cases e:y=j
   ·subst e;lia
   ·exact m y (by lia)
 ·obtain⟨δ',rfl,⟨v,z,rfl,hz,m⟩,rfl⟩:=hI;rw[hK];clear hK K;rw[WN,pairs_len l r hl,hl]at m;simp[Rb (a:=ga l z) (hr z hz) (br z)];exact Rn.pure ⟨_,rfl,z,⟨hz,m⟩,rfl,rfl⟩
open Classical in
noncomputable def Uu(a r:Nat->Nat)(n:Nat):Nat:=if h:∃z,Mn a r n z then choose h else 0
noncomputable def sep(R:List (List Nat))(W:Nat)(r:List Nat)(s k:Nat):Nat×Nat:=sh (ga (b7 (stp R) k (unit R.length s))) (ga r) R.length (W^k) (Uu (ga (b7 (stp R) k (unit R.length s))) (ga r) R.length)
theorem yX{R:List (List Nat)}{W s k:Nat}(wk:WK R W)(hs:s<R.length):(b7 (stp R) k (unit R.length s)).sum=W^k:=by rw[tR wk (bO _ _),jf hs,ZS]
theorem wX(R:List (List Nat))(s k:Nat):(b7 (stp R) k (unit R.length s)).length=R.length:=eZ (bO _ _) k
theorem BR{R:List (List Nat)}{W s k z:Nat}{r:List Nat}(wk:WK R W)(hr:Rst R W r)(hs:s<R.length)(hz:Mn (ga (b7 (stp R) k (unit R.length s))) (ga r) R.length z):sh (ga (b7 (stp R) k (unit R.length s))) (ga r) R.length (W^k) z=sep R W r s k:=by
 have hT:S R.length (ga (b7 (stp R) k (unit R.length s)))=W^k:=by rw[<-fu (wX R s k),yX wk hs]
 have q:∃z,Mn (ga (b7 (stp R) k (unit R.length s))) (ga r) R.length z:=⟨z,hz⟩;unfold sep Uu;rw[dif_pos q];exact Ox hT (Yg wk.w1) hr.pos hz (Z5 q)
theorem Pr{R:List (List Nat)}{W s k:Nat}(wk:WK R W)(hs:s<R.length)(y:Nat):ga (b7 (stp R) k (unit R.length s)) y<=W^k:=by
 rw[<-yX wk hs (k:=k)];by_cases hy:y<(b7 (stp R) k (unit R.length s)).length
 ·exact kZ (jx hy)
 ·rw[oF (by lia)];exact X3 _
noncomputable def uv:=aG 3 7 (qZ For zG zx Ha zA cM vC)
theorem wR{R:List (List Nat)}{W s k:Nat}(wk:WK R W)(h5:R.length<=5)(hW:W<2^610)(al:AL R)(hs:s<R.length)(hk:k<=100)(hT:W^k<2^2450)(M:Mo):
  Rn (uv [aF R W,nD s,nD k]) M λd M'=>d=pT (sep R W (rest R W) s k)/\∀(j:Nat) (o:DO),M[j]?=some o->M'[j]?=some o:=by
 have n1:=wk.n1;have n25:=wk.n25;have rs:=eQ wk h5 hW al;unfold uv qZ lY;dsimp only;refine Rn.call rfl ?_;have st:bw 7 [aF R W,nD s,nD k]=[some (aF R W),some (nD s),some (nD k),none,none,none,none]:=rfl;rw[st];refine aH λK hK=>?_
 simp;refine Rn.bind (oJ wk h5 hW al M) λd M1 ⟨e,k1⟩=>?_
 subst e;rw[hK];clear hK K;generalize rest R W=r at rs;have P0:0<W^k:=Yg wk.w1;have la:=wX R s k;have sa:=yX wk hs (k:=k);have ba:=Pr wk hs (k:=k);refine aH λK hK=>?_
 simp[JD (W:=W) n25 hs];rw[hK];clear hK K;refine aH λK hK=>?_
 simp[cR (W:=W) n25,Ij (n:=R.length) (x:=s) (by lia),vZ (m := "after") (by decide),vG wk hW (bO _ _) (qm wk hs) hk (by rw[jf hs,Nat.one_mul];exact aY hT (by decide))]
 rw[hK];clear hK K;have se:∀z,Mn (ga (b7 (stp R) k (unit R.length s))) (ga r) R.length z->sh (ga (b7 (stp R) k (unit R.length s))) (ga r) R.length (W^k) z=sep R W r s k:=λz hz=>BR wk rs hs hz
 generalize b7 (stp R) k (unit R.length s)=l at la sa ba se;refine aH λK hK=>?_
 simp;refine Rn.bind (RX (r:=r) (l:=l) (by rw[la,rs.len]) (by rw[rs.len];exact n1) (by rw[rs.len];exact rs.pos) (λx=>aY (rs.bd x) (by decide)) (λx=>aY (WD (ba x) hT) (by decide)) M1) λd M2 ⟨z,hz,e,e2⟩=>?_
 subst e e2;rw[rs.len]at hz;have rz:=rs.pos z hz.1;have g0:0<Nat.gcd (ga l z) (ga r z):=Zy _ rz;have ea:ga l z=Nat.gcd (ga l z) (ga r z)*(ga l z / Nat.gcd (ga l z) (ga r z)):=(XS (Z0 _ _)).symm;have er:ga r z=Nat.gcd (ga l z) (ga r z)*(ga r z / Nat.gcd (ga l z) (ga r z)):=(XS (ZQ _ _)).symm;have ep:pT (pl (ga l z) (ga r z))=.tup [nD (ga l z / Nat.gcd (ga l z) (ga r z)),nD (ga r z / Nat.gcd (ga l z) (ga r z))]:=rfl;have lp:ga l z / Nat.gcd (ga l z) (ga r z)<=ga l z:=YG _ _;have lq:ga r z / Nat.gcd (ga l z) (ga r z)<=ga r z:=YG _ _;have ml:=za hz (by rw[<-fu la,sa])
 have es:=se z hz;rw[<-fu rs.len]at ml;rw[ep];unfold sh at es;rw[<-fu rs.len]at es;revert ea er lp lq;generalize ga l z / Nat.gcd (ga l z) (ga r z)=p;generalize ga r z / Nat.gcd (ga l z) (ga r z)=q;revert g0;generalize Nat.gcd (ga l z) (ga r z)=g;intro g0 ea er lp lq;simp;rw[hK];clear hK K;have bq:q<2^2450:=WD lq (rs.bd z);have bp:p<2^2450:=WD lp (WD (ba z) hT);have q0:0<q:=by
  rcases Yl q with h | h
  ·rw[h]at er;lia
  ·exact h
 rw[ea,er,Xb,Xb]at ml;have ml':=Ym ml g0;have bQ:q*W^k<2^8000:=mul_pow bq hT (by decide)
 have m1:=jB (a:=q) (b:=W^k) (aY bq (by decide)) (aY hT (by decide))
 have m2:=jB (a:=p) (b:=r.sum) (aY bp (by decide)) (aY rs.sum (by decide))
 simp only[cI,aO,cB,RB,sa,m1,m2,Ry ml',Jl (a:=q*W^k-p*r.sum) (Nat.mul_pos q0 P0) bQ];refine Rn.pure ⟨_,rfl,?_,k1⟩;rw[<-es,ea,er,Xb,Xb,<-Nat.mul_sub,wy g0]
theorem Rx{g:List Nat}{i:Nat}(h:i<=g.length):(rd (Ek none (some (i:Int)) (nT g)):DM D)=pure (nT (g.take i)):=cJ λM=>by show some (D.tup (cutD (g.map nD) none (some (i:Int))))=_;unfold cutD;rw[HT.sIx_none,HT.sIx_nat,Wh,Nat.min_eq_left h];simp[nT]
theorem Lg{g:List Nat}{i:Nat}(h:i<=g.length):(rd (Ek (some (i:Int)) none (nT g)):DM D)=pure (nT (g.drop i)):=cJ λM=>by
 show some (D.tup (cutD (g.map nD) (some (i:Int)) none))=_;unfold cutD;rw[HT.sIx_none,HT.sIx_nat,Wh,Nat.min_eq_left h];rw[YD (by simp)]
 simp[nT]
theorem Eb{x y:List Nat}(h:x.length+y.length<=1000000):(rd (dU (nT x) (nT y)):DM D)=pure (nT (x++y)):=cJ λM=>by
 have:fQ (x.map nD++y.map nD)=true:=by unfold fQ;exact WF (by show _<=2^24;rw[Ww,Wh,Wh];lia)
 simp[dU,nT,Sd,this]
noncomputable def rr(r:List Nat)(x:Nat):List Nat:=r.set ((x+1)%r.length) (ga r ((x+1)%r.length)+1)
theorem RK(r:List Nat)(x:Nat):(rr r x).length=r.length:=by simp[rr]
theorem RJ{r:List Nat}{x:Nat}(h:0<r.length):r.take ((x+1)%r.length)++[ga r ((x+1)%r.length)+1]++r.drop ((x+1)%r.length+1)=rr r x:=by have hi:=Ys (x+1) h;unfold rr;rw[List.set_eq_take_append_cons_drop,Wm hi,XH];rfl
noncomputable def uD(R:List (List Nat))(i:Nat):List (List Nat):=(List.range i).map λx=>rr (gr R x) x
theorem gw(R:List (List Nat))(i:Nat):(uD R i).length=i:=by simp[uD]
theorem RP{R:List (List Nat)}{x i:Nat}(h:x<i):gr (uD R i) x=rr (gr R x) x:=by rw[eY (by rw[gw];exact h)];simp[uD]
theorem RQ{R:List (List Nat)}{W:Nat}(wk:WK R W):WK (uD R R.length) (W+1):=by
 have n1:=wk.n1;refine⟨by rw[gw];exact n1,by rw[gw];exact wk.n25,λr hr=>?_,λr hr=>?_,by lia⟩
 ·obtain⟨x,hx,rfl⟩:=Xl.mp hr;rw[RK,gw,wk.row _ (gr_mem (Wt.mp hx))]
 ·obtain⟨x,hx,rfl⟩:=Xl.mp hr;have l:=wk.row _ (gr_mem (Wt.mp hx));have s:=wk.sum _ (gr_mem (Wt.mp hx));have hi:(x+1)%(gr R x).length<(gr R x).length:=Ys _ (by lia)
  have:=Ej (v:=ga (gr R x) ((x+1)%(gr R x).length)+1) hi;unfold rr
  lia
theorem RN{R:List (List Nat)}{W:Nat}(wk:WK R W):AL (uD R R.length):=by
 have n1:=wk.n1;intro x hx a ha;rw[gw]at hx ha;have key:∀ d a,a<R.length->(a + d) % R.length=x->To (uD R R.length) x a:=by
  intro d;induction d with
  |zero=>intro a ha e;rw[Nat.add_zero,Nat.mod_eq_of_lt ha]at e;subst e;exact .here
  | succ d ih=>
    intro a ha e;have hl:=wk.row _ (gr_mem ha);have hi:(a+1)%R.length<R.length:=Ys _ (by lia)
    refine .step (j:=(a+1)%R.length) (by rw[gw];exact hi) ?_ (ih _ hi ?_)
    ·rw[RP ha];unfold rr;rw[hl,bC (by rw[Xz,hl];exact hi),List.getElem_set_self]
     lia
    ·rw[Nat.mod_add_mod,<-e];congr 1;lia
 refine key (x+R.length-a) a ha ?_;rw[show a+(x+R.length-a)=x+R.length by lia,Nat.add_mod_right,Nat.mod_eq_of_lt hx]
noncomputable def G8:=aG 2 6 (jY zH)
structure RrS(M0:Mo)(p q:Nat)(R:List (List Nat))(i:Nat)(M:Mo):Prop where
 pen:fG p M
 sb:Sb p M0 M
 at':M[q]?=some (.lst ((uD R i).map nT))
noncomputable def Vx(M0:Mo)(p tp q:Nat)(R:List (List Nat))(i:Nat)(δ:ak)(M:Mo):Prop:=(∃z3 z4 z5,δ=[some (.ref p),some (nD tp),some (.ref q),z3,z4,z5])/\RrS M0 p q R i M
theorem RM{p tp:Nat}{M:Mo}(hp:fG p M)(h1:1<=tp)(h2:tp<=6):Rn (G8 [.ref p,nD tp]) M λd M'=>∃ (R:List (List Nat)) (W:Nat),d=nM R/\WK R W/\AL R/\R.length<=tp/\W<=9000000001/\fG p M'/\Sb p M M':=by
 have hpl:=hp.lt;unfold G8 jY fJ;dsimp only;refine Rn.call rfl ?_;have st:bw 6 [D.ref p,nD tp]=[some (.ref p),some (nD tp),none,none,none,none]:=rfl;rw[st];refine aH λK hK=>?_
 simp;refine Rn.eG (by simp) ?_
 have pq:p≠M.length:=by lia
 have hp1:fG p (M++[.lst []]):=hp.sb (q:=M.length) Sb.push pq;have sb1:Sb p M (M++[.lst []]):=Sb.new (p:=p) (.inr (Wg _)) (Wg _) Sb.push Sb.refl;have at1:(M++[DO.lst []])[M.length]?=some (.lst []):=by simp
 rw[hK];clear hK K;have ql:M.length<=M.length:=Wg _;revert pq hp1 sb1 at1 ql;generalize hq:M.length=q;generalize M++[DO.lst []]=M1;intro pq hp1 sb1 at1 ql;refine aH λK hK=>?_
 simp;refine Rn.bind (Ow hp1 h1 h2) λd M2 ⟨R,W,e,wk,hR,hW,hp2,s2⟩=>?_
 subst e;have at2:=s2.at (λz=>pq z.symm) at1
 have en:tQ [nM R]=some (.fix ((List.range R.length).map λj=>.tup [nD j,nT (gr R j)])):=by
  have e:R.map nT=(List.range' 0 R.length).map λj=>nT (gr R j):=by
   apply YB
   ·simp
   ·intro i h1 h2;simp at h1;simp[eY h1]
  show some (Itn.fix (ig 0 (R.map nT)))=_;rw[e,kI,YQ]
 simp[en,fF];refine Rn.bind (bN (Vx M p tp q R) _ 0 _ _ ⟨⟨_,_,_,rfl⟩,hp2,sb1.trans s2,by rw[at2];rfl⟩ (λx d δ M5 hx hI=>?_)) (λr M5 hI=>?_)
 ·clear hK K;obtain⟨⟨z3,z4,z5,rfl⟩,hp5,sb5,at5⟩:=hI;have hx':x<R.length:=by have:=(Wf.mp hx).1;simpa using this
  rw[Wn,W3 hx']at hx;have:=Wq hx;subst this;rw[WN]at at5 ⊢
  have hl:=wk.row _ (gr_mem hx');have l0:0<(gr R x).length:=by lia
  have hi:=Ys (x+1) l0;have a1:∀n:Nat,(Hn (nD n):DM (Option Int))=pure (some (n:Int)):=λn=>rfl
  have t1:∀n:Nat,yG [nD n]=pure (nT [n]):=λn=>uh (by simp)
  have md:=kW (a:=x+1) l0;have ix:=dB hi;have s1:=Rx (g:=gr R x) (Yr hi);have s2':=Lg (g:=gr R x) (i:=(x+1)%(gr R x).length+1) hi;have cat1:=Eb (x:=(gr R x).take ((x+1)%(gr R x).length)) (y:=[ga (gr R x) ((x+1)%(gr R x).length)+1]) (by rw[Yi];simp;lia)
  have cat2:=Eb (x:=(gr R x).take ((x+1)%(gr R x).length)++[ga (gr R x) ((x+1)%(gr R x).length)+1]) (y:=(gr R x).drop ((x+1)%(gr R x).length+1)) (by rw[Ww,Yi,YX];simp;lia)
  rw[RJ l0]at cat2;have tg:gT 2 (bY (gN 3) (bY (gN 4) fX)) (.tup [nD x,nT (gr R x)]) [some (D.ref p),some (nD tp),some (.ref q),z3,z4,z5]=pure [some (D.ref p),some (nD tp),some (.ref q),some (nD x),some (nT (gr R x)),z5]:=by simp[gT,bY,fX]
  rw[tg,az];refine aH λK hK=>?_
  simp only[jz,cI,aO,cB,xM,Bt,md];rw[hK];clear hK K;simp only[jz,cI,aO,cB,xM,a1,s1,ix,t1,cat1,s2',cat2];refine Rn.bindRd _ (by simp only[aR,at5];rfl) ?_
  refine Rn.run (tK at5 (by rw[Wh,gw];lia)) ?_
  refine Rn.pure ⟨_,rfl,⟨_,_,_,rfl⟩,hp5.sb (q:=q) Sb.set pq,Sb.new (p:=p) (.inr sb5.le) (by lia) Sb.set sb5,?_⟩
  rw[WR (Wf.mp at5).1];congr 2;unfold uD;rw[Z9,XN,XN];rfl
 ·obtain⟨δ',rfl,⟨z3,z4,z5,rfl⟩,hp5,sb5,at5⟩:=hI;rw[hK];clear hK K;rw[Wh,WT,WN]at at5;simp;refine Rn.bindRd (nM (uD R R.length)) (by show (aR (.ref q) M5).map _=_;simp only[aR,at5];rfl) ?_
  exact Rn.pure ⟨_,rfl,_,rfl,W+1,RQ wk,RN wk,by rw[gw];exact hR,by lia,hp5,sb5⟩
noncomputable def dW(R:List (List Nat))(k:Nat):List (List Nat):=(List.range R.length).map λx=>b7 (stp R) k (unit R.length x)
noncomputable def G6:=aG 2 3 (qY zx vC)
theorem oK{R:List (List Nat)}{k x:Nat}(hx:x<R.length):gr (dW R k) x=b7 (stp R) k (unit R.length x):=by
 rw[eY (by simp[dW];exact hx)]
 simp[dW]
theorem dN(R:List (List Nat))(k:Nat):(dW R k).length=R.length:=by simp[dW]
theorem Rf{R:List (List Nat)}{W:Nat}{k:Nat}(h:WK R W)(hW:W<2^610)(hk:k<=100)(hT:W^k<2^8000):G6 [aF R W,nD k]=pure (nM (dW R k)):=by
 have h2:=h.n25;simp[G6,qY,cO,oU,dD (n:=R.length) (by lia),aP,du]
 rw[cG nD (λx=>nT (b7 (stp R) k (unit R.length x))) (by simp;lia) (λx hx=>by have hx':=Wt.mp hx;simp[vZ (m := "after") (by decide),Ij (n:=R.length) (x:=x) (by lia),vG h hW (bO _ _) (qm h hx') hk (by rw[jf hx',Nat.one_mul];exact hT)])]
 simp[dW,nM,Function.comp_def]
theorem xx{R:List (List Nat)}{l:List Nat}(hl:l.length=R.length):∀ (t:Nat) {y:Nat},y<R.length->ga (b7 (stp R) t l) y=S R.length (λx=>ga l x * ga (gr (dW R t) x) y)
 |0,y,hy=>by
   rw[yW hy (λi hi q=>by rw[oK hi];show ga l i*ga (unit R.length i) y=0;rw[gA hy,Wr (λz=>q z.symm),Nat.mul_zero])]
   rw[oK hy];show ga l y=ga l y*ga (unit R.length y) y;rw[gA hy,Wm rfl,ZV]
 | t + 1,y,hy=>by
   rw[dg,sO hy,vU (eZ hl t)];have e1:S R.length (λz=>ga (b7 (stp R) t l) z*ga (gr R z) y)=S R.length (λz=>S R.length (λx=>ga l x*ga (gr (dW R t) x) z*ga (gr R z) y)):=bB λz hz=>by rw[xx hl t hz,<-qR]
   rw[e1,Hm];refine bB λx hx=>?_
   rw[oK (k:=t+1) hx,dg,sO hy,vU (eZ (bO _ _) t),<-cN];refine bB λz hz=>?_
   rw[oK hx,Xb]
theorem DX{R:List (List Nat)}{W k:Nat}(wk:WK R W):∀l∈dW R k,l.length=R.length/\l.sum=W^k:=λl hl=>by obtain⟨x,hx,rfl⟩:=Xl.mp hl;have hx':=Wt.mp hx;exact⟨eZ (bO _ _) k,by rw[tR wk (bO _ _),jf hx',ZS]⟩
theorem Dr{α:Type}(f:α->α)(s:Nat):∀ (t:Nat) (a:α),b7 f (s + t) a=b7 f t (b7 f s a)
 |0,a=>rfl
 |t+1,a=>by show b7 f (s+t+1) a=_;rw[dg,dg,Dr f s t]
noncomputable def uK:=aG 2 2 (qy nW)
theorem Ed{x low:Nat}(h:low<=x):uK [nD x,nD low]=pure .non:=by
 have e:(rd (Ml (nD x) (nD low)):DM D)=pure (.bl false):=by rw[Bu,Xu (by lia)]
 simp[uK,qy,rB,e]
noncomputable def CV:=aG 2 2 (zN jj G6)
theorem WK.pow{R:List (List Nat)}{W t:Nat}(wk:WK R W):WK (dW R t) (W^t):=
 ⟨by rw[dN];exact wk.n1,by rw[dN];exact wk.n25,λl hl=>by rw[dN];exact (DX wk l hl).1,λl hl=>(DX wk l hl).2,Yg wk.w1⟩
theorem Qg{R:List (List Nat)}{W t:Nat}(wk:WK R W)(hW:W<2^610)(h1:1<=t)(ht:t<=100)(hT:W^t<2^8000):CV [aF R W,nD t]=pure (aF (dW R t) (W^t)):=by
 have e:(rd (iM (nD t) (.int 0)):DM D)=pure (.bl false):=by have:=oR t 0;rw[Xu (by lia)]at this;exact this
 simp[CV,zN,e,vZ (m := "power") (by decide),Rf wk hW ht hT,mC wk.pow]
theorem OJ{R:List (List Nat)}{l:List Nat}{t:Nat}(hl:l.length=R.length):stp (dW R t) l=b7 (stp R) t l:=by
 refine oA (by rw[o8,dN,eZ hl]) λy hy=>?_
 rw[o8,dN]at hy;rw[sO (by rw[dN];exact hy),vU (by rw[dN];exact hl),xx hl t hy,dN]
theorem Ai{R:List (List Nat)}{l:List Nat}{t:Nat}(hl:l.length=R.length):∀ k,b7 (stp (dW R t)) k l=b7 (stp R) (t * k) l
 |0=>rfl
 |k+1=>by rw[dg,Ai hl k,OJ (eZ hl _),Nat.mul_succ,Dr]
theorem rH{c:Nat}{l:List Nat}{i:Nat}:ga (l.map (c * ·)) i=c*ga l i:=by
 by_cases h:i<l.length
 ·rw[bC (by simpa using h),bC h];simp
 ·rw[oF (by simpa using h),oF (by lia),Nat.mul_zero]
noncomputable def gR(R:List (List Nat)):Nat:=R.foldl (λg r=>r.foldl Nat.gcd g) 0
noncomputable def dC(R:List (List Nat)):List (List Nat):=R.map λr=>r.map (·/ gR R)
theorem H9{R:List (List Nat)}:∀ r∈R,∀ n∈r,gR R ∣ n:=by
 have key:∀ (R:List (List Nat)) (g:Nat),R.foldl (λg r=>r.foldl Nat.gcd g) g ∣ g/\∀ r∈R,∀ n∈r,R.foldl (λg r=>r.foldl Nat.gcd g) g ∣ n:=by
  intro R;induction R with
  |nil=>exact λg=>⟨Nat.dvd_refl _,λr h=>absurd h (by simp)⟩
  |cons r R ih=>
    intro g;obtain⟨h1,h2⟩:=ih (r.foldl Nat.gcd g);obtain⟨k1,k2⟩:=q9 r g;refine⟨Zm h1 k1,λr' hr n hn=>?_⟩
    rcases Wy.mp hr with rfl | q
    ·exact Zm h1 (k2 n hn)
    ·exact h2 r' q n hn
 exact (key R 0).2
theorem Cd:∀{l:List Nat},(∀n∈l,n=0)->l.sum=0
 |[],_=>rfl
 |a::l,h=>by rw[Yv,h a (by simp),Cd λn hn=>h n (by simp[hn])]
theorem Ag{R:List (List Nat)}{W:Nat}(wk:WK R W):0<gR R:=by
 rcases Yl (gR R) with z | z
 ·have h:=wk.head;have e:=wk.sum _ h;have:(gr R 0).sum=0:=Cd λn hn=>by have:=H9 _ h n hn;rw[z]at this;exact Nat.eq_zero_of_zero_dvd this
  have:=wk.w1
  lia
 ·exact z
theorem Eg{R:List (List Nat)}{r:List Nat}(hr:r∈R):r=(r.map (·/ gR R)).map (gR R * ·):=by
 rw[Xd]
 conv=>lhs;rw[<-List.map_id r]
 exact Xx λn hn=>(XS (H9 r hr n hn)).symm
theorem WK.plain{R:List (List Nat)}{W:Nat}(wk:WK R W):WK (dC R) (W / gR R):=by
 have g0:=Ag wk;have sm:∀r∈R,(r.map (·/ gR R)).sum*gR R=W:=λr hr=>by rw[Xk,<-N10.lg,<-Eg hr,wk.sum r hr]
 refine⟨by simp[dC];exact wk.n1,by simp[dC];exact wk.n25,λl hl=>?_,λl hl=>?_,?_⟩
 ·obtain⟨r,hr,rfl⟩:=Xl.mp hl;simp[dC,wk.row r hr]
 ·obtain⟨r,hr,rfl⟩:=Xl.mp hl;exact (Nat.div_eq_of_eq_mul_left g0 (sm r hr).symm).symm
 ·have:=sm _ wk.head;rw[<-this,Nat.mul_div_cancel _ g0];rcases Yl ((gr R 0).map (·/ gR R)).sum with z | z
  ·rw[z]at this;have:=wk.w1;lia
  ·exact z
theorem Jk{R:List (List Nat)}{x y:Nat}(hx:x<R.length):ga (gr R x) y=gR R*ga (gr (dC R) x) y:=by
 have e:gr (dC R) x=(gr R x).map (·/ gR R):=by rw[eY (by simp[dC];exact hx),eY hx];simp[dC]
 rw[e,<-rH,<-Eg (gr_mem hx)]
noncomputable def zz:=aG 1 4 (vN jW jj)
theorem Ia{f:ak->DM Fl}{x y:Option D}(h:∀ (g n:Nat),f [x,some (nD g),y,some (nD n)]=pure (.nx [x,some (nD (Nat.gcd g n)),y,some (nD n)])):∀ (l:List Nat) (g:Nat) z,∃ u,forL (gN 3) f (l.map nD) [x,some (nD g),y,z]=pure (.nx [x,some (nD (l.foldl Nat.gcd g)),y,u])
 |[],g,z=>⟨z,rfl⟩
 |n::l,g,z=>by obtain⟨u,hu⟩:=Ia h l (Nat.gcd g n) (some (nD n));refine⟨u,?_⟩;simp[forL,h,hu]
theorem Dl{f:ak->DM Fl}{x:Option D}(h:∀ (g:Nat) (r:List Nat) z,∃ u,f [x,some (nD g),some (nT r),z]=pure (.nx [x,some (nD (r.foldl Nat.gcd g)),some (nT r),u])):∀ (R:List (List Nat)) (g:Nat) y z,∃ u v,forL (gN 2) f (R.map nT) [x,some (nD g),y,z]=pure (.nx [x,some (nD (R.foldl (λg r=>r.foldl Nat.gcd g) g)),u,v])
 |[],g,y,z=>⟨y,z,rfl⟩
 |r::R,g,y,z=>by obtain⟨u1,h1⟩:=h g r z;obtain⟨u,v,hu⟩:=Dl h R (r.foldl Nat.gcd g) (some (nT r)) u1;refine⟨u,v,?_⟩;simp[forL,h1,hu]
theorem Oj{R:List (List Nat)}{W:Nat}(wk:WK R W)(hW:W<2 ^ 8000):zz [aF R W]=pure (aF (dC R) (W / gR R)):=by
 have n2:=wk.n25;have g0:=Ag wk;have gb:gR R<2^8000:=by
  have h:=wk.plain.w1;have:gR R<=W:=by
   rcases Nat.lt_or_ge W (gR R) with z | z
   ·rw[Nat.div_eq_of_lt z]at h;lia
   ·exact z
  exact WD this (Wo hW (X5 (by decide) (by decide)))
 obtain⟨u,v,hu⟩:=Dl (x:=some (aF R W)) (f:=λδ=>opt δ[2]?.join>>=λd=>opt (mJ d)>>=λit=>Ad 0 (gN 3) (λδ=>opt δ[1]?.join>>=λa=>opt δ[3]?.join>>=λb=>jW [a,b]>>=λd=>pure (Fl.nx (δ.set 1 (some d)))) it δ) (λg r z=>by
  obtain⟨u,hu⟩:=Ia (x:=some (aF R W)) (y:=some (nT r)) (f:=λδ=>opt δ[1]?.join>>=λa=>opt δ[3]?.join>>=λb=>jW [a,b]>>=λd=>pure (Fl.nx (δ.set 1 (some d)))) (λg n=>by simp[vY]) r g z
  exact⟨u,by simp[wG,fF,hu]⟩) R 0 none none
 simp[zz,vN,cO,rO,fF];rw[show (D.int 0)=nD 0 from rfl,hu]
 simp[cO,rO,aP,du];rw[cG nT (λr=>nT (r.map (·/ gR R))) (by lia) (λr hr=>by
  simp[wG,aP,du];rw[cG nD (λn=>nD (n / gR R)) (by have:=wk.row r hr;lia) (λn hn=>by show (rd (gU (nD n) (nD (gR R))):DM D)=_;exact oO g0 gb)]
  simp[nT,Function.comp_def])]
 have e:D.tup (R.map λr=>nT (r.map (·/ gR R)))=nM (dC R):=by simp[nM,dC,Function.comp_def]
 simp[e,mC wk.plain]
theorem Fw{l:List Nat}{i v:Nat}(h:l[i]?=some v):ga l i=v:=by unfold ga;rw[WQ,h];rfl
theorem Fx{R:List (List Nat)}{i:Nat}{v:List Nat}(h:R[i]?=some v):gr R i=v:=by unfold gr;rw[WQ,h];rfl
structure LzS(M0 M:Mo)(n:Nat)(A:Nat->List Nat):Prop where
 len:M.length=M0.length+n
 keep:∀q,q<M0.length->M[q]?=M0[q]?
 row:∀x,x<n->M[M0.length+x]?=some (.lst ((A x).map nD))
noncomputable def Vp(M0:Mo)(R:List (List Nat))(go:Nat)(rest:ak)(i:Nat)(δ:ak)(l:List D)(M:Mo):Prop:=(∃z,δ=z::rest)/\l=(List.range i).map (λx=>D.ref (M0.length+x))/\LzS M0 M i (λx=>(gr R x).map (·* go))
theorem Tv{R:List (List Nat)}{j:Nat}{d:D}(h:(R.map nT)[j]?=some d):∃hj:j<R.length,d=nT (gr R j):=by
 have hj:j<R.length:=by have:=(Wf.mp h).1;simpa using this
 refine⟨hj,?_⟩;rw[Wn,Wk hj]at h;rw[eY hj];exact (Wq h).symm
noncomputable def refs(b n:Nat):D:=.lst ((List.range n).map λx=>D.ref (b+x))
theorem NQ{b n x:Nat}(h:x<n):(rd (dm (refs b n) (nD x)):DM D)=pure (.ref (b+x)):=ug (by rw[Wn,W3 h];rfl)
noncomputable def fj(R:List (List Nat))(W stay go i x:Nat):List Nat:=if x<i then ((gr R x).map (·* go)).set x (ga (gr R x) x*go+stay*W) else (gr R x).map (·* go)
noncomputable def cW(R:List (List Nat))(W stay go:Nat):List (List Nat):=(List.range R.length).map (fj R W stay go R.length)
noncomputable def Vq(M0:Mo)(R:List (List Nat))(W stay go:Nat)(i:Nat)(δ:ak)(M:Mo):Prop:=(∃z,δ=[some (aF R W),some (nD stay),some (nD go),some (refs M0.length R.length),z])/\LzS M0 M R.length (fj R W stay go i)
noncomputable def Vo(M0:Mo)(f:Nat->List Nat)(i:Nat)(δ:ak)(l:List D)(M:Mo):Prop:=(∃z,δ=[z])/\l=(List.range i).map (λx=>nT (f x))/\M=M0
noncomputable def GX:=aG 3 5 (Hq uK jj cM)
theorem N7{c:Nat}{l:List Nat}{i:Nat}:ga (l.map (·* c)) i=ga l i*c:=by
 have:(l.map (·* c))=l.map (c * ·):=Xx λx z=>Xk _ _
 rw[this,rH,Xk]
theorem FN{R:List (List Nat)}{W:Nat}(wk:WK R W){stay go x:Nat}(hx:x<R.length)(y:Nat):ga (gr (cW R W stay go) x) y=ga (gr R x) y*go+(if y=x then stay*W else 0):=by
 have e:gr (cW R W stay go) x=fj R W stay go R.length x:=by refine Fx ?_;unfold cW;rw[Wn,W3 hx];rfl
 rw[e];unfold fj;rw[Wm hx];have l:=wk.row _ (gr_mem hx);by_cases q:y=x
 ·subst q;rw[Wm rfl];refine Fw ?_;rw[WR (by simp;lia)]
 ·rw[Wr q,JR (λz=>q z.symm),N7,Nat.add_zero]
theorem WK.lazy{R:List (List Nat)}{W:Nat}(wk:WK R W){stay go:Nat}(hg:1<=go):WK (cW R W stay go) (W * go + stay * W):=by
 have len:(cW R W stay go).length=R.length:=by simp[cW]
 have rl:∀x,x<R.length->(gr (cW R W stay go) x).length=R.length:=λx hx=>by
  have e:gr (cW R W stay go) x=fj R W stay go R.length x:=by refine Fx ?_;unfold cW;rw[Wn,W3 hx];rfl
  rw[e];unfold fj;rw[Wm hx,Xz,Wh,wk.row _ (gr_mem hx)]
 have mem:∀l∈cW R W stay go,∃x,x<R.length/\l=gr (cW R W stay go) x:=λl hl=>by obtain⟨x,hx,e⟩:=aaa.mp hl;rw[len]at hx;exact⟨x,hx,by rw[eY (by rw[len];exact hx),e]⟩
 refine⟨by rw[len];exact wk.n1,by rw[len];exact wk.n25,λl hl=>?_,λl hl=>?_,?_⟩
 ·obtain⟨x,hx,rfl⟩:=mem l hl;rw[len];exact rl x hx
 ·obtain⟨x,hx,rfl⟩:=mem l hl;rw[fu (rl x hx),bB (λy z=>FN wk hx y),tE,qR,<-fu (wk.row _ (gr_mem hx)),wk.sum _ (gr_mem hx),yW hx (λi hi q=>Wr q),Wm rfl]
 ·have:=Ye wk.w1 hg
  lia
theorem Pq(a b:Nat):(rd (cZ (λz z=>true) (λi j=>D.int (i+j)) (nD a) (nD b)):DM D)=pure (nD (a+b)):=cJ λM=>by simp[cZ,nD]
theorem QK{R:List (List Nat)}{W stay go:Nat}(M:Mo)(wk:WK R W)(hW:W<2 ^ 60)(hs:stay<2 ^ 60)(hg:1<=go)(hg2:go<2 ^ 60):Rn (GX [aF R W,nD stay,nD go]) M λd M'=>d=aF (cW R W stay go) (W * go + stay * W)/\∀ (j:Nat) (o:DO),M[j]?=some o->M'[j]?=some o:=by
 have n2:=wk.n25;unfold GX Hq Bo;dsimp only;refine Rn.call rfl ?_;have st:bw 5 [aF R W,nD stay,nD go]=[some (aF R W),some (nD stay),some (nD go),none,none]:=rfl;rw[st];have r0:uK [nD stay,.int 0]=pure .non:=Ed (low:=0) (by lia)
 have r1:uK [nD go,.int 1]=pure .non:=Ed (low:=1) hg;refine aH λK hK=>?_
 simp[r0];rw[hK];clear hK K;refine aH λK hK=>?_
 simp[r1];rw[hK];clear hK K;refine aH λK hK=>?_
 simp[cO,rO,aP,du,lA];refine Rn.bind (qP (mW (Vp M R go [some (nD go)]) (R.map nT) 0 _ _ _ ⟨⟨none,rfl⟩,rfl,rfl,λw w=>rfl,λx h=>by lia⟩ (λj d δ l M1 hj hI=>?_))) λpr M2 hI=>?_
 ·obtain ⟨⟨z,rfl⟩,rfl,L⟩:=hI;rw[WN]at *;obtain⟨hj',rfl⟩:=Tv hj;have rl:=wk.row _ (gr_mem hj');have cp:=cG (x:=none) (rest:=[some (nD go)]) (as:=gr R j) (fe:=λδ=>opt δ[0]?.join>>=λx=>opt δ[1]?.join>>=λy=>rd (lN x y)) nD (λv=>nD (v*go)) (by lia) (λv hv=>by show (rd (lN (nD v) (nD go)):DM D)=_;exact oW (by lia))
  have lt:j<sizeLine:=by show j<2^24;lia
  simp[bH,wG,lA,aP,du,cp];refine Rn.run (show (Out.run Out.sto _) M1=some (.ok (.ref M1.length),M1++[.lst _]) from rfl) ?_
  simp only[lt,if_true];refine Rn.pure ⟨⟨_,rfl⟩,?_,by simp[L.len];lia,λq hq=>by rw[Ws (by have:=L.len;lia)];exact L.keep q hq,λx hx=>?_⟩
  ·show _++[D.ref M1.length]=_;rw[Z9,XN,L.len];simp
  ·by_cases e:x=j
   ·subst e;rw[show M.length+x=M1.length by rw[L.len],List.getElem?_concat_length]
    simp[Function.comp_def]
   ·rw[Ws (by have:=L.len;lia)]
    exact L.row x (by lia)
 obtain⟨_,e1,L⟩:=hI;rw[WN,Wh]at e1 L;have er:D.lst pr.2=refs M.length R.length:=by rw[e1];rfl
 rw[er,hK];clear hK K er e1;refine aH λK hK=>?_
 simp[cR n2,dD (n:=R.length) (by lia),fF]
 refine Rn.bind (bN (Vq M R W stay go) _ 0 _ _ ⟨⟨none,rfl⟩,L.len,L.keep,λx hx=>by rw[L.row x hx];unfold fj;rw[Wr (Nat.not_lt_zero _)]⟩ (λj d δ M3 hj hI=>?_)) (λr M3 hI=>?_)
 ·obtain⟨⟨z,rfl⟩,L⟩:=hI;obtain⟨hj',rfl⟩:=m7 hj;rw[WN]at *;have hr:=L.row j hj';have rl:=wk.row _ (gr_mem hj');have ej:fj R W stay go j j=(gr R j).map (·* go):=by unfold fj;rw[Wr (XQ _)]
  rw[ej]at hr;have at_:(((gr R j).map (·* go)).map nD)[j]?=some (nD (ga (gr R j) j*go)):=by rw[Wn,Wn,Wk (by lia),bC (by lia)];rfl
  have m1:(rd (lN (nD stay) (nD W)):DM D)=pure (nD (stay*W)):=oW (by lia)
  simp[NQ hj',yw,m1];refine Rn.bindRd _ (NK hr at_) ?_;simp only[Pq,az];refine Rn.run (o7 hr (i:=j) (by simp;lia)) ?_
  refine Rn.pure ⟨_,rfl,⟨_,rfl⟩,by rw[Xz];exact L.len,λq hq=>by rw[Xh (by lia)];exact L.keep q hq,λx hx=>?_⟩
  by_cases e:x=j
  ·subst e;rw[WR (Wf.mp hr).1];unfold fj;rw[Wm (Xw _),List.map_set]
  ·rw[Xh (by lia),L.row x hx]
   unfold fj;by_cases q:x<j
   ·rw[Wm q,Wm (by lia)]
   ·rw[Wr q,Wr (by lia)]
 ·obtain ⟨δ',rfl,⟨z,rfl⟩,L⟩:=hI;rw[WN,Wh,WT]at L;rw[hK];clear hK K;have al:(rd (xZ (refs M.length R.length)):DM Itn)=pure (.fix ((List.range R.length).map λx=>D.ref (M.length+x))):=rfl
  simp[al,lA,aP,du];refine Rn.bind (qP (mW (Vo M3 (fj R W stay go R.length)) _ 0 _ _ _ ⟨⟨none,rfl⟩,rfl,rfl⟩ (λj d δ l M4 hj hI=>?_))) λpr M4 hI=>?_
  ·obtain⟨⟨z,rfl⟩,rfl,rfl⟩:=hI;have hj':j<R.length:=by have:=(Wf.mp hj).1;simpa using this
   rw[Wn,W3 hj']at hj;have hd:=(Wq hj).symm;subst hd;have lt:j<sizeLine:=by show j<2^24;lia
   rw[WN];simp[bH];refine Rn.bindRd (nT (fj R W stay go R.length j)) (by have:=L.row j hj';simp[o9,qj,aR,this,nT]) ?_
   simp only[lt,if_true];refine Rn.pure ⟨⟨_,rfl⟩,?_,rfl⟩;rw[Z9,XN];rfl
  ·obtain⟨_,e1,rfl⟩:=hI;have er:D.tup pr.2=nM (cW R W stay go):=by rw[e1];simp[nM,cW,Function.comp_def]
   rw[er,mC (wk.lazy hg)];simp only[az];exact Rn.pure ⟨_,rfl,rfl,λj o e=>by rw[L.keep j (Wf.mp e).1];exact e⟩
noncomputable def pw(R:List (List Nat))(k s y:Nat):Nat:=ga (b7 (stp R) k (unit R.length s)) y
theorem Mu{R:List (List Nat)}{k s y:Nat}(hy:y<R.length):pw R (k+1) s y=S R.length (λz=>pw R k s z*ga (gr R z) y):=by unfold pw;rw[dg,sO hy,vU (eZ (bO _ _) k)]
theorem Ln{R:List (List Nat)}{s y:Nat}(hs:s<R.length)(hy:y<R.length):ga (stp R (unit R.length s)) y=ga (gr R s) y:=by rw[sO hy,vU (bO _ _),yW hs λi hi q=>by rw[gA hi,Wr q,Nat.zero_mul],gA hs,Wm rfl,ZS]
theorem VG{R:List (List Nat)}{k s y:Nat}(hs:s<R.length)(hy:y<R.length):pw R (k+1) s y=S R.length (λz=>ga (gr R s) z*pw R k z y):=by show ga (b7 (stp R) k (stp R (unit R.length s))) y=_;rw[xx (o8 _ _) k hy];exact bB λz hz=>by rw[Ln hs hz,oK hz];rfl
theorem Pj{f g:Nat->Nat}:∀ {n:Nat},(∀ i,i<n->f i<=g i)->S n f=S n g->∀ i,i<n->f i=g i
 |0,_,_,i,hi=>by lia
 |n+1,h,e,i,hi=>by
   have e:S n f+f n=S n g+g n:=e;have h1:=zL (n:=n) λi hi=>h i (by lia)
   have h2:=h n (by lia)
   by_cases q:i=n
   ·subst q;lia
   ·exact Pj (n:=n) (λi hi=>h i (by lia)) (by lia) i (by lia)
set_option tactic.hygienic true in
theorem Rst.uniq{R:List (List Nat)}{W:Nat}{r t:List Nat}(wk:WK R W)(al:AL R)(h:Rst R W r)(h':Rst R W t):r=t:=by
 obtain⟨z,hz,m⟩:=FW (a:=ga t) (r:=ga r) R.length wk.n1 h.pos;have key:∀ x,To R z x->x<R.length->ga t z * ga r x=ga r z * ga t x:=λx tx=>by
  induction tx with
  |here=>exact λy=>Xk _ _
  | step hj hp tt ih=>
    rename_i x j;intro hx;have e1:=h.stat j hj;have e2:=h'.stat j hj;have e:S R.length (λx=>ga t z*(ga r x*ga (gr R x) j))=S R.length (λx=>ga r z*(ga t x*ga (gr R x) j)):=by rw[cN,cN,e1,e2,<-Xb,<-Xb,ih hj]
    have:=Pj (λi hi=>by rw[<-Xb,<-Xb];exact Xy _ (by rw[Xk (ga r z)];exact m i hi)) e x hx
    rw[<-Xb,<-Xb]at this;exact Nat.eq_of_mul_eq_mul_right hp this
 have e:r.map (ga t z * ·)=t.map (ga r z * ·):=oA (by simp[h.len,h'.len]) λx hx=>by
  rw[rH,rH];have hx':x<R.length:=by simpa[h.len] using hx
  exact key x (al z hz x hx') hx'
 have g:=congrArg cH e;rw[uW,uW,h.gcd,h'.gcd,ZV,ZV]at g;have p:=h.pos z hz;refine oA (by rw[h.len,h'.len]) λx hx=>?_
 have hx':x<R.length:=by rw[<-h.len];exact hx
 have:=key x (al z hz x hx') hx';rw[g]at this;exact XX p this
theorem ue{a b:Nat}(hb:0<b):∃g,0<g/\a=g*(pl a b).1/\b=g*(pl a b).2:=
 ⟨Nat.gcd a b,Zy _ hb,(XS (Z0 _ _)).symm,(XS (ZQ _ _)).symm⟩
theorem Td{a b:Nat}(hb:0<b):pl (pl a b).1 (pl a b).2=pl a b:=by obtain⟨g,g0,e1,e2⟩:=ue (a:=a) hb;have:=wy g0 (pl a b).1 (pl a b).2;rw[<-e1,<-e2]at this;exact this.symm
section
variable{R:List (List Nat)}{W s k:Nat}{r:List Nat}
theorem U4(wk:WK R W)(hs:s<R.length):S R.length (pw R k s)=W^k:=by show S R.length (ga _)=_;rw[<-fu (wX R s k),yX wk hs]
theorem sI(wk:WK R W)(rs:Rst R W r)(hs:s<R.length):∃w,w<R.length/\Mn (pw R k s) (ga r) R.length w/\pw R k s w*S R.length (ga r)<=ga r w*W^k/\sep R W r s k=pl (ga r w*W^k-pw R k s w*S R.length (ga r)) (ga r w*W^k):=by obtain⟨w,hw⟩:=FW (a:=pw R k s) (r:=ga r) R.length wk.n1 rs.pos;exact⟨w,hw.1,hw,za hw (U4 wk hs),(BR wk rs hs hw).symm⟩
theorem JP(wk:WK R W)(rs:Rst R W r)(hs:s<R.length){z:Nat}(hz:z<R.length):ga r z*W^k*(sep R W r s k).2<=(sep R W r s k).1*(ga r z*W^k)+pw R k s z*S R.length (ga r)*(sep R W r s k).2:=by
 obtain⟨w,hw,m,le,e⟩:=sI (k:=k) wk rs hs;have P0:0<W^k:=Yg wk.w1;have D0:0<ga r w*W^k:=Ye (rs.pos w hw) P0;obtain⟨g,g0,e1,e2⟩:=ue (a:=ga r w*W^k-pw R k s w*S R.length (ga r)) D0;rw[<-e]at e1 e2;refine Ym ?_ g0;generalize (sep R W r s k).1=x at e1 ⊢
 generalize (sep R W r s k).2=y at e2 ⊢
 have hm:=m.2 z hz;revert hm le e1 e2;generalize pw R k s w=a;generalize pw R k s z=b;generalize S R.length (ga r)=Q;generalize ga r w=u;generalize ga r z=v;generalize W^k=T;intro le e1 e2 hm;have e3:u*T=g*x+a*Q:=by lia
 have i1:g*(v*T*y)=v*T*(u*T):=by rw[e2,ZP]
 have i2:g*(x*(v*T)+b*Q*y)=g*x*(v*T)+b*Q*(u*T):=by rw[Y8,e2,ZP g (b*Q),<-Xb g x]
 rw[i1,i2];have i3:v*T*(u*T)=g*x*(v*T)+a*Q*(v*T):=by conv=>lhs;rw[e3,Y8,Xk (v*T),Xk (v*T)]
 rw[i3];have i4:a*v*(Q*T)<=b*u*(Q*T):=Xy _ hm;have i5:a*Q*(v*T)=a*v*(Q*T):=by simp only[Nat.mul_assoc,Nat.mul_left_comm Q]
 have i6:b*Q*(u*T)=b*u*(Q*T):=by simp only[Nat.mul_assoc,Nat.mul_left_comm Q]
 lia
theorem o6(wk:WK R W)(rs:Rst R W r)(hs:s<R.length):0<(sep R W r s k).2/\pl (sep R W r s k).1 (sep R W r s k).2=sep R W r s k:=by
 obtain⟨w,hw,m,le,e⟩:=sI (k:=k) wk rs hs;have D0:0<ga r w*W^k:=Ye (rs.pos w hw) (Yg wk.w1);obtain⟨g,g0,e1,e2⟩:=ue (a:=ga r w*W^k-pw R k s w*S R.length (ga r)) D0;rw[e]
 exact ⟨by rcases Nat.eq_zero_or_pos (pl (ga r w * W ^ k - pw R k s w * S R.length (ga r)) (ga r w * W ^ k)).2 with z | z
           ·rw[z]at e2;lia
           ·exact z,Td D0⟩
theorem JQ(wk:WK R W)(rs:Rst R W r)(hs:s<R.length){p q:Nat}(h:∀w,w<R.length->ga r w*W^k*q<=p*(ga r w*W^k)+pw R k s w*S R.length (ga r)*q):(sep R W r s k).1*q<=p*(sep R W r s k).2:=by
 obtain⟨w,hw,m,le,e⟩:=sI (k:=k) wk rs hs;have D0:0<ga r w*W^k:=Ye (rs.pos w hw) (Yg wk.w1);obtain⟨g,g0,e1,e2⟩:=ue (a:=ga r w*W^k-pw R k s w*S R.length (ga r)) D0;rw[<-e]at e1 e2;refine Ym ?_ g0;rw[<-Xb,<-e1,ZP,<-e2,Nat.sub_mul];have:=h w hw
 lia
theorem Li(wk:WK R W)(rs:Rst R W r)(hs:s<R.length):(sep R W r s (k+1)).1*(sep R W r s k).2<=(sep R W r s k).1*(sep R W r s (k+1)).2:=by
 refine JQ wk rs hs λy hy=>?_
 have h:=zL (n:=R.length) λz hz=>Xy (ga (gr R z) y) (JP (k:=k) wk rs hs hz)
 generalize (sep R W r s k).1=p at h ⊢
 generalize (sep R W r s k).2=q at h ⊢
 have a1:S R.length (λz=>ga r z*W^k*q*ga (gr R z) y)=ga r y*W^(k+1)*q:=by
  rw[bB (g:=λz=>W^k*q*(ga r z*ga (gr R z) y)) λz hz=>by simp only[Nat.mul_assoc,Nat.mul_left_comm,Nat.mul_comm],cN,rs.stat y hy,Zb]
  simp only[Nat.mul_assoc,Nat.mul_left_comm,Nat.mul_comm]
 have a2:S R.length (λz=>(p*(ga r z*W^k)+pw R k s z*S R.length (ga r)*q)*ga (gr R z) y)=p*(ga r y*W^(k+1))+pw R (k+1) s y*S R.length (ga r)*q:=by
  rw[bB (g:=λz=>p*W^k*(ga r z*ga (gr R z) y)+S R.length (ga r)*q*(pw R k s z*ga (gr R z) y)) λz hz=>by rw[Nat.add_mul];simp only[Nat.mul_assoc,Nat.mul_left_comm,Nat.mul_comm],tE,cN,cN,rs.stat y hy,<-Mu hy,Zb]
  simp only[Nat.mul_assoc,Nat.mul_left_comm,Nat.mul_comm]
 rw[a1,a2]at h;exact h
def Gt(R:List (List Nat))(W:Nat)(r:List Nat)(k i:Nat)(p:Nat×Nat):Prop:=(p=(0,1)\/∃s,s<i/\p=sep R W r s k)/\∀s,s<i->(sep R W r s k).1*p.2<=p.1*(sep R W r s k).2
theorem Gt.pos(wk:WK R W)(rs:Rst R W r){i:Nat}(hi:i<=R.length){p:Nat×Nat}(h:Gt R W r k i p):0<p.2/\pl p.1 p.2=p:=by
 rcases h.1 with rfl | ⟨s,hs,rfl⟩
 ·exact⟨Nat.one_pos,by simp[pl]⟩
 ·exact o6 wk rs (by lia)
theorem Gt.le{B:List (List Nat)}{V:Nat}(wk:WK R W)(rs:Rst R W r)(bk:WK B V)(bs:Rst B V r)(hl:B.length=R.length)(hx:∀s w,s<R.length->w<R.length->pw R k s w*(ga r s*V^k)=pw B k w s*(ga r w*W^k)){p q:Nat×Nat}(h:Gt R W r k R.length p)(h':Gt B V r k R.length q):p.1*q.2<=q.1*p.2:=by
 rcases h.1 with rfl | ⟨s,hs,rfl⟩
 ·show 0*_<=_;rw[Nat.zero_mul];exact X3 _
 refine JQ wk rs hs λw hw=>?_
 have q1:=h'.2 w hw;have g:=JP (k:=k) bk bs (s:=w) (by lia) (z:=s) (by lia)
 obtain⟨b0,_⟩:=o6 (k:=k) bk bs (s:=w) (by lia)
 have e:=hx s w hs hw;rw[hl]at g;have V0:0<ga r s*V^k:=Ye (rs.pos s hs) (Yg bk.w1);generalize (sep B V r w k).1=x at q1 g;generalize (sep B V r w k).2=y at q1 g b0;generalize ga r s*V^k=c at g e V0;generalize ga r w*W^k=d at e ⊢
 generalize S R.length (ga r)=Q at g ⊢
 generalize pw R k s w=a at e ⊢
 generalize pw B k w s=b at e g;refine Ym (c:=c*y) ?_ (Ye V0 b0);have g1:d*q.2*(c*y)<=d*q.2*(x*c+b*Q*y):=Nat.mul_le_mul_left _ g;have g2:x*q.2*(c*d)<=q.1*y*(c*d):=Xy _ q1;have i1:c*y*(d*q.2)=d*q.2*(c*y):=Xk _ _;have i2:d*q.2*(x*c+b*Q*y)=x*q.2*(c*d)+Q*y*q.2*(b*d):=by rw[Y8];simp only[Nat.mul_assoc,Nat.mul_left_comm,Nat.mul_comm]
 have i3:c*y*(q.1*d+a*Q*q.2)=q.1*y*(c*d)+Q*y*q.2*(a*c):=by rw[Y8];simp only[Nat.mul_assoc,Nat.mul_left_comm,Nat.mul_comm]
 rw[i1,i3,e];rw[i2]at g1
 lia
theorem Gt.eq{B:List (List Nat)}{V:Nat}(wk:WK R W)(rs:Rst R W r)(bk:WK B V)(bs:Rst B V r)(hl:B.length=R.length)(hx:∀s w,s<R.length->w<R.length->pw R k s w*(ga r s*V^k)=pw B k w s*(ga r w*W^k)){p q:Nat×Nat}(h:Gt R W r k R.length p)(h':Gt B V r k B.length q):p=q:=by
 rw[hl]at h';have l1:=Gt.le wk rs bk bs hl hx h h';have l2:=Gt.le bk bs wk rs hl.symm (λs w hs hw=>(hx w s (by lia) (by lia)).symm) (by rw[hl];exact h') (by rw[hl];exact h)
 obtain⟨p0,pe⟩:=h.pos wk rs (Wg _);obtain⟨q0,qe⟩:=h'.pos bk bs (by lia)
 rw[<-pe,<-qe];exact Be p0 q0 (Nat.le_antisymm l1 l2)
end
noncomputable def uA(n:Nat)(f:Nat->Nat->Nat):List (List Nat):=(List.range n).map λx=>(List.range n).map (f x)
theorem oE(n:Nat)(f:Nat->Nat->Nat):(uA n f).length=n:=by simp[uA]
theorem Qi{n x:Nat}{f:Nat->Nat->Nat}(hx:x<n):gr (uA n f) x=(List.range n).map (f x):=Fx (by unfold uA;rw[Wn,W3 hx];rfl)
theorem RD{n y:Nat}{f:Nat->Nat}(hy:y<n):ga ((List.range n).map f) y=f y:=Fw (by rw[Wn,W3 hy];rfl)
theorem HX{n x y:Nat}{f:Nat->Nat->Nat}(hx:x<n)(hy:y<n):ga (gr (uA n f) x) y=f x y:=by rw[Qi hx,RD hy]
theorem HY{n V:Nat}{f:Nat->Nat->Nat}(n1:1<=n)(n25:n<=25)(h:∀x,x<n->S n (f x)=V)(v1:1<=V):WK (uA n f) V:=by
 refine⟨by rw[oE];exact n1,by rw[oE];exact n25,λl hl=>?_,λl hl=>?_,v1⟩
 ·obtain⟨x,hx,rfl⟩:=Xl.mp hl;simp[oE]
 ·obtain⟨x,hx,rfl⟩:=Xl.mp hl;rw[jl];exact h x (Wt.mp hx)
theorem To.snoc{B:List (List Nat)}{j x a:Nat}(ha:a<B.length)(h:To B j x)(e:0<ga (gr B j) a):To B a x:=by
 induction h with
 |here=>exact .step ha e .here
 |step hj hp _ ih=>exact .step hj hp ih
def lm(a b:Nat):Nat:=a / Nat.gcd a b*b
def cm(r:List Nat):Nat:=r.foldl lm 1
theorem Ik(a b:Nat):a ∣ lm a b/\b ∣ lm a b:=by
 unfold lm;refine⟨?_,Nat.dvd_mul_left _ _⟩;obtain⟨c,hc⟩:=ZQ a b
 conv=>rhs;rhs;rw[hc]
 rw[<-Xb,Nat.div_mul_cancel (Z0 a b)];exact Nat.dvd_mul_right _ _
theorem SQ(a b:Nat):lm a b<=a*b:=Xy _ (YG _ _)
theorem QG{a b:Nat}(ha:0<a)(hb:0<b):0<lm a b:=Ye (Nat.div_pos (Nat.gcd_le_left _ ha) (Nat.gcd_pos_of_pos_left _ ha)) hb
theorem zT:∀ (l:List Nat) (c u e:Nat),0<c->c<2 ^ u->(∀ x∈l,0<x/\x<2 ^ e)->c ∣ l.foldl lm c/\(∀ x∈l,x ∣ l.foldl lm c)/\0<l.foldl lm c/\l.foldl lm c<2 ^ (u + e * l.length)
 |[],c,u,e,h0,h1,_=>⟨Nat.dvd_refl _,⟨λx h=>absurd h (by simp),h0,by simpa using h1⟩⟩
 | a::l,c,u,e,h0,h1,h=>by
   have ha:=h a (by simp)
   obtain⟨i1,i2,i3,i4⟩:=zT l (lm c a) (u+e) e (QG h0 ha.1) (WD (SQ c a) (mul_pow h1 ha.2 (Wg _))) λx hx=>h x (by simp[hx])
   refine⟨Zm (Ik c a).1 i1,λx hx=>?_,i3,?_⟩
   ·rcases Wy.mp hx with rfl | hx
    ·exact Zm (Ik c x).2 i1
    ·exact i2 x hx
   ·have e1:u+e*(a::l).length=u+e+e*l.length:=by rw[Xv,Nat.mul_succ];lia
    rw[e1];exact i4
noncomputable def Eo(R:List (List Nat))(r:List Nat)(x y:Nat):Nat:=ga r y*ga (gr R y) x*(cm r / ga r x)
noncomputable def cX(R:List (List Nat))(r:List Nat):List (List Nat):=uA R.length (Eo R r)
section
variable{R:List (List Nat)}{W:Nat}{r:List Nat}
theorem Rst.mem(rs:Rst R W r){x:Nat}(hx:x∈r):∃i,i<R.length/\x=ga r i:=by obtain⟨i,hi,rfl⟩:=List.getElem_of_mem hx;exact⟨i,by rw[<-rs.len];exact hi,(bC hi).symm⟩
theorem tL(rs:Rst R W r){e:Nat}(hb:∀x,x<R.length->ga r x<2^e):0<cm r/\cm r<2^(1+e*R.length)/\∀x,x<R.length->ga r x*(cm r / ga r x)=cm r:=by
 obtain⟨_,i2,i3,i4⟩:=zT r 1 1 e Nat.one_pos (by decide) λx hx=>by obtain⟨i,hi,rfl⟩:=rs.mem hx;exact⟨rs.pos i hi,hb i hi⟩
 rw[rs.len]at i4;exact⟨i3,i4,λx hx=>XS (i2 _ (jx (by rw[rs.len];exact hx)))⟩
theorem MK(wk:WK R W)(rs:Rst R W r){e:Nat}(hb:∀x,x<R.length->ga r x<2^e):WK (cX R r) (W*cm r):=by
 obtain⟨c0,_,cd⟩:=tL rs hb;refine HY wk.n1 wk.n25 (λx hx=>?_) (Ye wk.w1 c0)
 show S R.length (λy=>ga r y*ga (gr R y) x*(cm r / ga r x))=_
 rw[qR,rs.stat x hx,Nat.mul_right_comm,cd x hx,Xk]
theorem Ld{B:List (List Nat)}{V:Nat}(bk:WK B V):gR B*(V / gR B)=V:=by
 have h:=bk.plain.sum _ bk.plain.head;have hl:(dC B).length=B.length:=by simp[dC]
 have e:gr B 0=(gr (dC B) 0).map (gR B * ·):=by
  have r1:=bk.row _ bk.head;have r2:=bk.plain.row _ bk.plain.head;refine oA (by rw[Wh,r1,r2,hl]) λy hy=>?_
  rw[rH];exact Jk (by have:=bk.n1;lia)
 have s:=bk.sum _ bk.head;rw[e,N10.lg,h]at s;exact s
structure Tu(R:List (List Nat))(W:Nat)(r:List Nat)(B:List (List Nat))(V:Nat):Prop where
 wk:WK B V
 len:B.length=R.length
 rs:Rst B V r
 al:AL B
 eq:∀k s w,s<R.length->w<R.length->pw R k s w*(ga r s*V^k)=pw B k w s*(ga r w*W^k)
theorem Ui(wk:WK R W)(rs:Rst R W r)(al:AL R){e:Nat}(hb:∀ x,x<R.length->ga r x<2 ^ e):Tu R W r (dC (cX R r)) (W * cm r / gR (cX R r)):=by
 obtain⟨c0,_,cd⟩:=tL rs hb;have tk:=MK wk rs hb;have tl:(cX R r).length=R.length:=oE _ _;have hl:(dC (cX R r)).length=R.length:=by simp[dC,tl]
 have g0:=Ag tk;have gv:=Ld tk;have ent:∀x y,x<R.length->y<R.length->gR (cX R r)*ga (gr (dC (cX R r)) x) y*ga r x=ga r y*ga (gr R y) x*cm r:=λx y hx hy=>by
  rw[<-Jk (by rw[tl];exact hx),show ga (gr (cX R r) x) y=Eo R r x y from HX hx hy]
  unfold Eo;rw[Xb,Xk _ (ga r x),cd x hx]
 have pk:=tk.plain;revert pk gv ent hl g0;generalize dC (cX R r)=B;generalize W*cm r / gR (cX R r)=V;generalize gR (cX R r)=g;intro hl g0 gv ent pk;have pos:∀x y,x<R.length->y<R.length->0<ga (gr R y) x->0<ga (gr B x) y:=λx y hx hy h=>by
  have:=ent x y hx hy;rcases Yl (ga (gr B x) y) with z | z
  ·rw[z,Nat.mul_zero,Nat.zero_mul]at this;have:=Ye (Ye (rs.pos y hy) h) c0
   lia
  ·exact z
 have rev:∀x a,To R x a->a<R.length->To B a x:=λx a h=>by
  induction h with
  |here=>exact λv=>.here
  |step hj hp _ ih=>exact λha=>(ih hj).snoc (by rw[hl];exact ha) (pos _ _ hj ha hp)
 have key:∀ k x y,x<R.length->y<R.length->g ^ k * pw B k x y * ga r x=ga r y * pw R k y x * cm r ^ k:=by
  intro k;induction k with
  |zero=>
    intro x y hx hy;have e1:pw B 0 x y=if y=x then 1 else 0:=by show ga (unit B.length x) y=_;rw[gA (by rw[hl];exact hy)]
    have e2:pw R 0 y x=if x=y then 1 else 0:=by show ga (unit R.length y) x=_;rw[gA hx]
    rw[e1,e2,Nat.pow_zero,Nat.pow_zero,ZS,ZV];by_cases q:y=x
    ·subst q;simp
    ·rw[Wr q,Wr (λz=>q z.symm)];simp
  | succ k ih=>
    intro x y hx hy;rw[Mu (R:=B) (by rw[hl];exact hy),VG hy hx,hl,<-cN,<-qR,<-cN,<-qR]
    refine bB λz hz=>?_
    have i1:=ih x z hx hz;have i2:=ent z y hz hy;have z0:=rs.pos z hz;refine XX z0 ?_
    calc ga r z*(g^(k+1)*(pw B k x z*ga (gr B z) y)*ga r x)=(g^k*pw B k x z*ga r x)*(g*ga (gr B z) y*ga r z):=by rw[Zb];simp only[Nat.mul_assoc,Nat.mul_left_comm,Nat.mul_comm]
     _=(ga r z*pw R k z x*cm r^k)*(ga r y*ga (gr R y) z*cm r):=by rw[i1,i2]
     _=ga r z*(ga r y*(ga (gr R y) z*pw R k z x)*cm r^(k+1)):=by rw[Zb];simp only[Nat.mul_assoc,Nat.mul_left_comm,Nat.mul_comm]
 refine⟨pk,hl,⟨by rw[hl];exact rs.len,by rw[hl];exact rs.pos,λy hy=>?_,rs.gcd,rs.bd,rs.sum⟩,λx hx a ha=>rev a x (al a (by lia) x (by lia)) (by lia),λk s w hs hw=>?_⟩
 ·rw [hl]at hy ⊢
  refine XX g0 ?_;rw[<-cN,bB (g:=λx=>ga r y*cm r*ga (gr R y) x) λx hx=>by
   have:=ent x y hx hy
   calc g*(ga r x*ga (gr B x) y)=g*ga (gr B x) y*ga r x:=by simp only[Nat.mul_assoc,Nat.mul_left_comm,Nat.mul_comm]
    _=_:=this
    _=_:=by simp only[Nat.mul_assoc,Nat.mul_left_comm,Nat.mul_comm],cN,ZP g,gv]
  rw[<-fu (wk.row _ (gr_mem hy)),wk.sum _ (gr_mem hy)];simp only[Nat.mul_assoc,Nat.mul_left_comm,Nat.mul_comm]
 ·refine XX (Yg (n:=k) g0) ?_;have:=key k w s hw hs;have gk:g^k*V^k=W^k*cm r^k:=by rw[<-Nat.mul_pow,gv,Nat.mul_pow]
  calc g^k*(pw R k s w*(ga r s*V^k))=pw R k s w*ga r s*(g^k*V^k):=by simp only[Nat.mul_assoc,Nat.mul_left_comm,Nat.mul_comm]
   _=ga r s*pw R k s w*cm r^k*W^k:=by rw[gk];simp only[Nat.mul_assoc,Nat.mul_left_comm,Nat.mul_comm]
   _=g^k*pw B k w s*ga r w*W^k:=by rw[this]
   _=_:=by simp only[Nat.mul_assoc,Nat.mul_left_comm,Nat.mul_comm]
theorem qT{n:Nat}{o:List Nat}(h:o.Perm (List.range n))(f:Nat->Nat):S n (λi=>f (ga o i))=S n f:=by
 have hl:o.length=n:=by simpa using h.length_eq
 rw[<-jl,<-jl];have e:(List.range n).map (λi=>f (ga o i))=o.map f:=by
  apply YB
  ·simp[hl]
  ·intro i h1 h2;simp at h1;simp[bC (show i<o.length by lia)]
 rw[e];exact (h.map f).sum_nat
theorem Je{n:Nat}{o:List Nat}(h:o.Perm (List.range n)):(∀i,i<n->ga o i<n)/\(∀i j,i<n->j<n->ga o i=ga o j->i=j)/\∀y,y<n->∃i,i<n/\ga o i=y:=by
 have hl:o.length=n:=by simpa using h.length_eq
 have nd:o.Nodup:=h.nodup_iff.mpr List.nodup_range;refine⟨λi hi=>Wt.mp (h.mem_iff.mp (jx (by lia))),λi j hi hj e=>?_,λy hy=>?_⟩
 ·rw[bC (by lia),bC (by lia)]at e
  exact (List.getElem_inj nd).mp e
 ·obtain⟨i,hi,e⟩:=List.getElem_of_mem (h.mem_iff.mpr (Wt.mpr hy));exact⟨i,by lia,by rw[bC hi,e]⟩
noncomputable def j8(R:List (List Nat))(o:List Nat):List (List Nat):=uA R.length λx y=>ga (gr R (ga o x)) (ga o y)
theorem yx{d:Nat}:∀(l:List Nat) (g:Nat),d ∣ g->(∀m∈l,d ∣ m)->d ∣ l.foldl Nat.gcd g
 |[],_,h,_=>h
 |a::l,g,h,k=>yx l (Nat.gcd g a) (Nat.dvd_gcd h (k a (by simp))) λm hm=>k m (by simp[hm])
structure Ex(R:List (List Nat))(W:Nat)(r o:List Nat)(X:List (List Nat)):Prop where
 wk:WK X W
 len:X.length=R.length
 rs:Rst X W (o.map (ga r))
 al:AL X
 eq:∀k i,i<R.length->sep X W (o.map (ga r)) i k=sep R W r (ga o i) k
theorem Mh(wk:WK R W)(rs:Rst R W r)(al:AL R){o:List Nat}(h:o.Perm (List.range R.length)):Ex R W r o (j8 R o):=by
 obtain⟨o1,o2,o3⟩:=Je h;have hl:(j8 R o).length=R.length:=oE _ _;have ol:o.length=R.length:=by simpa using h.length_eq
 have ent:∀x y,x<R.length->y<R.length->ga (gr (j8 R o) x) y=ga (gr R (ga o x)) (ga o y):=λx y hx hy=>HX hx hy
 have xk:WK (j8 R o) W:=HY wk.n1 wk.n25 (λx hx=>by rw[qT h (ga (gr R (ga o x))),<-fu (wk.row _ (gr_mem (o1 x hx))),wk.sum _ (gr_mem (o1 x hx))]) wk.w1
 have ra:∀i,i<R.length->ga (o.map (ga r)) i=ga r (ga o i):=λi hi=>Fw (by rw[Wn,Wk (show i<o.length by lia),bC (show i<o.length by lia)];rfl)
 have rs':Rst (j8 R o) W (o.map (ga r)):=by
  refine⟨by rw[Wh,hl,ol],λx hx=>?_,λy hy=>?_,?_,λx=>?_,?_⟩
  ·rw[hl]at hx;rw[ra x hx];exact rs.pos _ (o1 x hx)
  ·rw[hl]at hy ⊢
   rw[ra y hy,bB (g:=λx=>ga r (ga o x)*ga (gr R (ga o x)) (ga o y)) λx hx=>by rw[ra x hx,ent x y hx hy],qT h λx=>ga r x*ga (gr R x) (ga o y),rs.stat _ (o1 y hy)]
  ·refine Nat.eq_one_of_dvd_one ?_;rw[<-rs.gcd];refine yx r 0 (Nat.dvd_zero _) λm hm=>?_
   obtain⟨i,hi,rfl⟩:=rs.mem hm;obtain⟨j,hj,rfl⟩:=o3 i hi;exact lL (List.mem_map_of_mem (jx (by lia)))
  ·by_cases hx:x<R.length
   ·rw[ra x hx];exact rs.bd _
   ·rw[oF (by rw[Wh];lia)];exact Yg (by decide)
  ·rw[fu (n:=R.length) (by rw[Wh,ol]),bB λi hi=>ra i hi,qT h (ga r),<-fu rs.len];exact rs.sum
 have pe:∀ k i j,i<R.length->j<R.length->pw (j8 R o) k i j=pw R k (ga o i) (ga o j):=by
  intro k;induction k with
  |zero=>
    intro i j hi hj;show ga (unit (j8 R o).length i) j=ga (unit R.length (ga o i)) (ga o j);rw[hl,gA hj,gA (o1 j hj)];by_cases q:j=i
    ·subst q;simp
    ·rw[Wr q,Wr λz=>q (o2 j i hj hi z)]
  |succ k ih=>intro i j hi hj;rw[Mu (by rw[hl];exact hj),Mu (o1 j hj),hl,bB (g:=λz=>pw R k (ga o i) (ga o z)*ga (gr R (ga o z)) (ga o j)) λz hz=>by rw[ih i z hi hz,ent z j hz hj],qT h λz=>pw R k (ga o i) z*ga (gr R z) (ga o j)]
 refine⟨xk,hl,rs',λx hx a ha=>?_,λk i hi=>?_⟩
 ·rw [hl]at hx ha;have key:∀ b,To R (ga o x) b->∀ a,a<R.length->ga o a=b->To (j8 R o) x a:=λb tb=>by
   induction tb with
   |here=>intro a ha e;rw[o2 a x ha hx e];exact .here
   |step hj hp _ ih=>intro a ha e;obtain⟨j,hj',rfl⟩:=o3 _ hj;subst e;exact .step (by rw[hl];exact hj') (by rw[ent a j ha hj'];exact hp) (ih j hj' rfl)
  exact key _ (al _ (o1 x hx) _ (o1 a ha)) a ha rfl
 ·obtain⟨w,hw,m,_,e⟩:=sI (k:=k) xk rs' (s:=i) (by rw[hl];exact hi)
  rw[hl]at hw m e;have m2:Mn (pw R k (ga o i)) (ga r) R.length (ga o w):=⟨o1 w hw,λy hy=>by obtain⟨j,hj,rfl⟩:=o3 y hy;have:=m.2 j hj;rw[ra j hj,ra w hw,pe k i w hi hw,pe k i j hi hj]at this;exact this⟩
  rw[e,ra w hw,pe k i w hi hw,bB λi hi=>ra i hi,qT h (ga r)]
  exact BR wk rs (o1 i hi) m2
theorem SX(wk:WK R W)(rs:Rst R W r)(al:AL R):Rst (cW R W 1 1) (W * 1 + 1 * W) r/\AL (cW R W 1 1):=by
 have hl:(cW R W 1 1).length=R.length:=by simp[cW]
 refine⟨⟨by rw[hl];exact rs.len,by rw[hl];exact rs.pos,λy hy=>?_,rs.gcd,rs.bd,rs.sum⟩,λx hx a ha=>?_⟩
 ·rw[hl]at hy ⊢
  rw[bB (g:=λx=>ga r x*ga (gr R x) y+ga r x*(if y=x then 1*W else 0)) λx hx=>by rw[FN wk hx,ZV,Y8],tE,rs.stat y hy,yW (f:=λx=>ga r x*(if y=x then 1*W else 0)) hy (λi hi q=>by rw[Wr (λz=>q z.symm),Nat.mul_zero]),Wm rfl,<-Y8,ZV]
 ·rw[hl]at hx ha;have key:∀a,To R x a->a<R.length->To (cW R W 1 1) x a:=λa h=>by
   induction h with
   |here=>exact λw=>.here
   |step hj hp _ ih=>exact λha=>.step (by rw[hl];exact hj) (by rw[FN wk ha];lia) (ih hj)
  exact key a (al x hx a ha) ha
end
abbrev Kp(M M':Mo):Prop:=∀(j:Nat) (o:DO),M[j]?=some o->M'[j]?=some o
noncomputable def GR:=aG 2 2 (lC jW)
theorem QF{a b:Nat}(ha:0<a)(ha':a<2^8000)(hb':b<2^8000):GR [nD a,nD b]=pure (nD (lm a b)):=by have g0:0<Nat.gcd a b:=Nat.gcd_pos_of_pos_left _ ha;have g1:Nat.gcd a b<2^8000:=WD (Nat.gcd_le_left _ ha) ha';simp[GR,lC,vY,oO (a:=a) g0 g1,jB (a:=a / Nat.gcd a b) (b:=b) (Nat.lt_of_le_of_lt (Nat.div_le_self _ _) ha') hb',lm]
theorem wK{R:List (List Nat)}{W x e:Nat}(wk:WK R W)(h5:R.length<=5)(he:e<=610)(hW:W<2^e)(al:AL R)(hx:x<R.length):ga (rest R W) x<2^(4*e+6):=by
 refine WD ?_ (JG wk hx h5 hW);rw[<-sW hx,Ir (l:=ph R W) (by rw[fD];exact hx)]
 exact Nat.le_mul_of_pos_left _ (pJ (xW wk h5 (aY hW he) al).1.2.2)
noncomputable def Hd:=aG 1 5 (zQ For GR zz jj cM)
noncomputable def Vh(M0:Mo)(w:D)(r:List Nat)(i:Nat)(δ:ak)(M:Mo):Prop:=(∃z,δ=[some w,some (nT r),some (nD ((r.take i).foldl lm 1)),z,none])/\M=M0
theorem R9{R:List (List Nat)}{W:Nat}(wk:WK R W)(h4:R.length<=4)(hW:W<2 ^ 34)(al:AL R)(M:Mo):
  Rn (Hd [aF R W]) M λd M'=>d=aF (dC (cX R (rest R W))) (W*cm (rest R W) / gR (cX R (rest R W)))/\Kp M M':=by
 have n1:=wk.n1;have n25:=wk.n25;have rs:=eQ wk (by lia) (aY hW (by decide)) al
 have hb:∀x,x<R.length->ga (rest R W) x<2^142:=λx hx=>wK (e:=34) wk (by lia) (by decide) hW al hx
 obtain⟨c0,cb,cd⟩:=tL rs hb;have cb:cm (rest R W)<2^569:=aY cb (by lia)
 have tk:=MK wk rs hb;unfold Hd zQ u9;dsimp only;refine Rn.call rfl ?_;have st:bw 5 [aF R W]=[some (aF R W),none,none,none,none]:=rfl;rw[st];refine aH λK hK=>?_
 simp;refine Rn.bind (oJ wk (by lia) (aY hW (by decide)) al M) λd M1 ⟨e,k1⟩=>?_
 subst e;rw[hK];clear hK K;revert rs hb c0 cb cd tk;generalize rest R W=r;intro rs hb c0 cd cb tk;refine aH λK hK=>?_
 simp;rw[hK];clear hK K;refine aH λK hK=>?_
 simp[wG,fF];refine Rn.bind (bN (Vh M1 (aF R W) r) (r.map nD) 0 _ _ ⟨⟨none,rfl⟩,rfl⟩ (λj d δ M2 hj hI=>?_)) (λrr M2 hI=>?_)
 ·clear hK K;obtain⟨⟨z,rfl⟩,rfl⟩:=hI;rw[Wn]at hj;obtain⟨n,hn,rfl⟩:=Wi.mp hj;have hj':=(Wf.mp hn).1;have en:r[j]=n:=(Wf.mp hn).2;have mm:∀x∈r,0<x/\x<2^142:=λx hx=>by obtain⟨i,hi,rfl⟩:=rs.mem hx;exact⟨rs.pos i hi,hb i hi⟩
  obtain⟨_,_,i3,i4⟩:=zT (r.take j) 1 1 142 Nat.one_pos (by decide) λx hx=>mm x (aaz hx)
  have l4:(r.take j).length<=4:=by have:=rs.len;rw[Yi];lia
  have i5:(r.take j).foldl lm 1<2^8000:=aY i4 (by lia)
  rw[WN];simp[QF i3 i5 (aY (mm n (List.mem_of_getElem? hn)).2 (by decide))]
  refine Rn.pure ⟨_,rfl,⟨some (nD n),?_⟩,rfl⟩;rw[List.take_succ_eq_append_getElem hj',List.foldl_append,en];rfl
 obtain⟨δ',rfl,⟨z,rfl⟩,rfl⟩:=hI;rw[hK];clear hK K;have e1:(r.take (0+(r.map nD).length)).foldl lm 1=cm r:=by rw[WN,Wh,List.take_length];rfl
 rw[e1];refine aH λK hK=>?_
 simp[cR (W:=W) n25];rw[hK];clear hK K;have ce:aP 1 [4,1,0,2] [some (aF R W),some (nT r),some (nD (cm r)),z,some (nD R.length)]=[none,some (nD R.length),some (nT r),some (aF R W),some (nD (cm r))]:=rfl;simp[dD (n:=R.length) (by lia),ce,lA]
 rw [cG (as:=List.range R.length) nD (λx=>nT ((List.range R.length).map (Eo R r x))) (by simp;lia) (λx hx=>by
  have hx':=Wt.mp hx;have ce2:aP 1 [2,3,0,4] [some (nD x),some (nD R.length),some (nT r),some (aF R W),some (nD (cm r))]=[none,some (nT r),some (aF R W),some (nD x),some (nD (cm r))]:=rfl;simp only[cI,dD (n:=R.length) (by lia),ce2,lA]
  rw[cG (as:=List.range R.length) nD (λy=>nD (Eo R r x y)) (by simp;lia) (λy hy=>by
   have hy':=Wt.mp hy;have wl:=wk.at_le (gr_mem hy') x;have b1:=hb y hy';have w1:ga (gr R y) x<2^34:=WD wl hW;have b3:cm r / ga r x<2^8000:=aY (WD (YG _ _) cb) (by decide)
   simp only[List.getElem?_cons_zero,List.getElem?_cons_succ,Option.join_some,fU,az,cO,dB (l:=r) (i:=y) (by rw[rs.len];exact hy'),dB (l:=r) (i:=x) (by rw[rs.len];exact hx'),wH hy',dB (l:=gr R y) (i:=x) (by rw[wk.row _ (gr_mem hy')];exact hx'),
    jB (aY b1 (show 142<=8000 by decide)) (aY w1 (show 34<=8000 by decide)),oO (a:=cm r) (rs.pos x hx') (aY (hb x hx') (show 142<=8000 by decide)),jB (mul_pow b1 w1 (show 142+34<=8000 by decide)) b3]
   rfl)]
  simp[nT,Function.comp_def])]
 have e2:D.tup ((List.range R.length).map λx=>nT ((List.range R.length).map (Eo R r x)))=nM (cX R r):=by simp[nM,cX,uA,Function.comp_def]
 have b4:W*cm r<2^8000:=mul_pow hW cb (by decide)
 simp only[az,rQ,wJ,e2,mC tk,Oj tk b4];exact Rn.pure ⟨_,rfl,rfl,k1⟩
theorem wO{R:List (List Nat)}{W s k:Nat}{r:List Nat}(wk:WK R W)(rs:Rst R W r)(hs:s<R.length)(hT:W^k<2^2450):(sep R W r s k).1<2^8000/\(sep R W r s k).2<2^8000:=by
 obtain⟨w,hw,m,le,e⟩:=sI (k:=k) wk rs hs;have b:ga r w*W^k<2^8000:=mul_pow (rs.bd w) hT (by decide)
 rw[e];exact⟨WD (YG _ _) (WD (Nat.sub_le _ _) b),WD (YG _ _) b⟩
noncomputable def zu:=aG 2 5 (mL qN cM uv)
noncomputable def Vm(M0:Mo)(R:List (List Nat))(W k:Nat)(i:Nat)(δ:ak)(M:Mo):Prop:=(∃p z3 z4,δ=[some (aF R W),some (nD k),some (pT p),z3,z4]/\Gt R W (rest R W) k i p)/\Kp M0 M
noncomputable def CW(R:List (List Nat))(W k:Nat)(M:Mo)(d:D)(M':Mo):Prop:=∃p,d=pT p/\Gt R W (rest R W) k R.length p/\Kp M M'
theorem Ie{R:List (List Nat)}{W k:Nat}(wk:WK R W)(h5:R.length<=5)(hW:W<2 ^ 610)(al:AL R)(hk:k<=100)(hT:W ^ k<2 ^ 2450)(M:Mo):
  Rn (zu [aF R W,nD k]) M (CW R W k M):=by
 have n25:=wk.n25;have rs:=eQ wk h5 hW al;unfold zu mL il;dsimp only;refine Rn.call rfl ?_;have st:bw 5 [aF R W,nD k]=[some (aF R W),some (nD k),none,none,none]:=rfl;rw[st];have m2:∀x y:D,yG [x,y]=pure (.tup [x,y]):=λx y=>uh (by simp)
 refine aH λK hK=>?_
 simp[m2];rw[hK];clear hK K;refine aH λK hK=>?_
 simp[cR (W:=W) n25,dD (n:=R.length) (by lia),fF]
 refine Rn.bind (bN (Vm M R W k) _ 0 _ _ ⟨⟨(0,1),_,_,rfl,.inl rfl,λs hs=>by lia⟩,λz z h=>h⟩ (λj d δ M2 hj hI=>?_)) (λrr M2 hI=>?_)
 ·clear hK K;obtain⟨⟨p,z3,z4,rfl,g⟩,k2⟩:=hI;obtain⟨hs,rfl⟩:=m7 hj;rw[WN]at g ⊢
  rw[jL,az];refine aH λK hK=>?_
  simp;refine Rn.bind (wR wk h5 hW al hs hk hT M2) λd M3 ⟨e,k3⟩=>?_
  subst e;rw[hK];clear hK K;have pp:=g.pos wk rs (by lia)
  have pb:p.1<2^8000/\p.2<2^8000:=by
   rcases g.1 with rfl | ⟨s,hs',rfl⟩
   ·exact⟨Yg (by decide),Nat.one_lt_two_pow (by decide)⟩
   ·exact wO wk rs (by lia) hT
  have qp:=o6 (k:=k) wk rs hs;have qb:=wO wk rs hs hT;generalize eq:sep R W (rest R W) j k=q at qp qb;have ls:=uX (a:=p.1) (b:=p.2) (c:=q.1) (d:=q.2) pp.1 qp.1 pb.1 pb.2 qb.1 qb.2;have ls:qN [pT p,pT q]=pure (.bl (decide (p.1*q.2<q.1*p.2))):=ls;simp[ls];by_cases c:p.1*q.2<q.1*p.2
  ·simp[c];refine Rn.pure ⟨_,rfl,⟨q,_,_,rfl,.inr ⟨j,by lia,eq.symm⟩,λs hs'=>?_⟩,λi o h=>k3 i o (k2 i o h)⟩
   by_cases e:s=j
   ·subst e;rw[eq];exact Wg _
   ·exact uV pp.1 (g.2 s (by lia)) (Yr c)
  ·simp[c];refine Rn.pure ⟨_,rfl,⟨p,_,_,rfl,?_,λs hs'=>?_⟩,λi o h=>k3 i o (k2 i o h)⟩
   ·rcases g.1 with e | ⟨s,h1,h2⟩
    ·exact .inl e
    ·exact .inr ⟨s,by lia,h2⟩
   ·by_cases e:s=j
    ·subst e;rw[eq];lia
    ·exact g.2 s (by lia)
 ·obtain⟨δ',rfl,⟨p,z3,z4,rfl,g⟩,k2⟩:=hI;rw[hK];clear hK K;rw[Wh,WT,WN]at g;simp;exact Rn.pure ⟨_,rfl,p,rfl,g,k2⟩
theorem HS:∀(l:List Nat) (t:Nat),(l.map nD).eraseIdx t=(l.eraseIdx t).map nD
 |[],_=>by simp
 |_::_,0=>rfl
 |a::l,t+1=>by simp[HS l t]
theorem Ol{n t:Nat}{M:Mo}{l:List Nat}(h:M[n]?=some (.lst (l.map nD)))(ht:t<l.length)(hl:l.length<=1000000):Bf (.ref n) [nD t] M=some (.ok (nD l[t]),M.set n (.lst ((l.eraseIdx t).map nD))):=by
 unfold nD;delta Bf;dsimp only;rw[h];dsimp only;rw[Aj (by simpa using ht)]
 dsimp only;rw[Wn,Wk ht];dsimp only[Option.map_some];rw[Wm (WF ⟨by lia,by lia⟩),HS]
 rfl
theorem vX:∀ (L:List Nat) (t:Nat) (ht:t<L.length),(L[t]::L.eraseIdx t).Perm L
 |a::L,0,_=>.refl _
 |a::L,t+1,ht=>by
   have ht':t<L.length:=by simpa using ht
   have ih:=vX L t ht';show (L[t]::a::L.eraseIdx t).Perm (a::L);exact (List.Perm.swap a L[t] _).trans (ih.cons a)
noncomputable def wW:=aG 2 4 (gC 30 qM)
theorem S6:∀ds M r,wW ds M=some r->∃n,aG 2 4 (gC n qM) ds M=some r:=λz z z h=>⟨30,h⟩
noncomputable def Vt(p n a b:Nat)(m:Nat)(δ:ak)(M:Mo):Prop:=δ=[some (.ref p),some (nD n),some (.ref a),some (.ref b)]/\fG p M/\∃L F:List Nat,M[a]?=some (.lst (L.map nD))/\M[b]?=some (.lst (F.map nD))/\(F++L).Perm (List.range n)/\L.length=m
noncomputable def Vv(p n a b:Nat)(δ:ak)(M:Mo):Prop:=δ=[some (.ref p),some (nD n),some (.ref a),some (.ref b)]/\∃F:List Nat,M[b]?=some (.lst (F.map nD))/\F.Perm (List.range n)
noncomputable def Vu(n:Nat)(d:D)(M:Mo):Prop:=∃(q:Nat) (o:List Nat),d=.ref q/\M[q]?=some (.lst (o.map nD))/\o.Perm (List.range n)
theorem QZ{a:Nat}{M:Mo}{L:List Nat}(h:M[a]?=some (.lst (L.map nD))):Iv (.ref a) (.lst []) M=some (.bl (!decide (L=[]))):=by
 have e:=congrFun (Rr L []) M;unfold Iv;dsimp only;rw[h];dsimp only;obtain⟨d,e1,e2⟩:=Wi.mp e;have e2:d=.bl (decide (L=[])):=by injection e2 with e2;injection e2
 subst e2;obtain⟨b,e3,e4⟩:=Wi.mp (show (eqB (.lst (L.map nD)) (.lst [])).map D.bl=_ from e1)
 injection e4 with e4
 show (eqB (.lst (L.map nD)) (.lst [])).map (λb=>D.bl (!b))=_
 rw[e3,e4];rfl
theorem Q6{p n:Nat}{M:Mo}(hp:fG p M)(hn:n<=25):Rn (wW [.ref p,nD n]) M (Vu n):=by
 have hpl:=hp.lt;unfold wW gC lV;dsimp only;refine Rn.call rfl ?_;have st:bw 4 [D.ref p,nD n]=[some (.ref p),some (nD n),none,none]:=rfl;rw[st];have lr:∀M,ie [nD n] M=some ((List.range n).map nD):=λM=>by
  unfold nD;show (if -(2^62)<=(n:Int)/\(n:Int)<=2^20 then some ((List.range (n:Int).toNat).map nD) else none)=_
  rw[Wm ⟨by lia,by lia⟩,Xo]
  rfl
 refine aH λK hK=>?_
 simp[u5];refine Rn.bindRd _ (lr M) ?_;refine Rn.eG (by simp;lia) ?_
 refine Rn.eG (by simp) ?_
 rw[hK];clear hK K;have h1:((M++[DO.lst ((List.range n).map nD)])++[DO.lst []])[M.length]?=some (.lst ((List.range n).map nD)):=by rw[Ws (by simp)];simp
 have h2:((M++[DO.lst ((List.range n).map nD)])++[DO.lst []])[M.length+1]?=some (.lst (([]:List Nat).map nD)):=by rw[Xc (by simp)];simp
 have h3:fG p ((M++[DO.lst ((List.range n).map nD)])++[DO.lst []]):=(hp.sb (q:=M.length) Sb.push (by lia)).sb (q:=M.length+1) Sb.push (by lia)
 have el:(M++[DO.lst ((List.range n).map nD)]).length=M.length+1:=by simp
 rw[el];revert h1 h2 h3;generalize (M++[DO.lst ((List.range n).map nD)])++[DO.lst []]=M1;have pa:p≠M.length:=by lia
 have pb:p≠M.length+1:=by lia
 have ab:M.length≠M.length+1:=by lia
 revert pa pb ab;generalize M.length+1=b;generalize M.length=a;intro pa pb ab h1 h2 h3;refine aH λK hK=>?_
 refine Rn.bind (sV (pB:=Vv p n a b) (Vt p n a b) (λm δ M2 hI=>?_) 30 n _ _ (by lia) ⟨rfl,h3,_,[],h1,h2,by simp,by simp⟩) λr M2 ⟨δ',e,hP⟩=>?_
 ·clear hK K;obtain⟨rfl,hp2,L,F,hL,hF,pm,hm⟩:=hI;have ln:=pm.length_eq;rw[Ww,WT]at ln;refine⟨!decide (L=[]),?_,λhb=>?_,λhb=>?_⟩
  ·simp;have l0:(uB []:DM D)=pure (.lst []):=pU (by simp)
   simp[l0];show DM.bind (rd (Iv (.ref a) (.lst []))) lB M2=_;unfold DM.bind rd;rw[QZ hL];rfl
  ·have l0:0<L.length:=by
    cases L with
    |nil=>simp at hb
    |cons _ _=>simp
   simp;refine Rn.bindRd (F.map nD) (by simp only[aR,hF]) ?_
   refine Rn.bindRd (L.map nD) (by simp only[aR,hL]) ?_
   refine Rn.bindRd (nD L.length) (by simp[gY,aR,qj,hL,nD]) ?_
   refine Rn.bind (jr hp2 l0 (by lia)) λd2 M3 ⟨t,ht,e,hp3,s3⟩=>?_
   subst e;have hL3:=s3.at (λz=>pa z.symm) hL
   have hF3:=s3.at (λz=>pb z.symm) hF
   refine Rn.run (Ol hL3 ht (by lia)) ?_
   have hF4:(M3.set a (.lst ((L.eraseIdx t).map nD)))[b]?=some (.lst (F.map nD)):=by rw[Xh ab];exact hF3
   refine Rn.run (tK hF4 (by rw[Wh];lia)) ?_
   have le:=List.length_eraseIdx_of_lt ht;refine Rn.pure ⟨_,rfl,L.length-1,by lia,rfl,(hp3.sb (q:=a) Sb.set pa).sb (q:=b) Sb.set pb,L.eraseIdx t,F++[L[t]],?_,?_,?_,le⟩
   ·rw[Xh (λz=>ab z.symm),WR (Wf.mp hL3).1]
   ·rw[WR (Wf.mp hF4).1,XN];rfl
   ·refine List.Perm.trans ?_ pm;rw[XH];exact List.Perm.append_left _ (vX L t ht)
  ·have:L=[]:=by simpa using hb
   subst this;exact⟨rfl,F,hF,by simpa using pm⟩
 ·subst e;obtain⟨rfl,F,hF,pm⟩:=hP;rw[hK];clear hK K;simp;exact Rn.pure ⟨_,rfl,b,F,rfl,hF,pm⟩
theorem Ac{tg:D->ak->DM ak}{fb:ak->DM Fl}{n:Nat}{L:List D}(I:Nat->ak->Mo->Prop)(hL:∀ j δ M,I j δ M->M[n]?=some (.lst L))(h:∀ j d δ M,L[j]?=some d->I j δ M->Rn (tg (.tup [nD j,d]) δ >>= fb) M λr M'=>∃ δ',r=.nx δ'/\I (j + 1) δ' M'):
  ∀(k i:Nat) (δ:ak) (M:Mo),i<=L.length->L.length<i+k->I i δ M->Rn (nq tg fb n k i δ) M λr M'=>∃δ',r=.nx δ'/\I L.length δ' M'
 |0,i,δ,M,_,h2,_=>by lia
 | k + 1,i,δ,M,h1,h2,hI=>by
   have hM:=hL i δ M hI;have e:nq tg fb n (k + 1) i δ=rd (gQ n i) >>= λo=>match o with
    |none=>pure (.nx δ)
    |some d=>(tg d δ>>=fb)>>=λr=>match r with
      |.nx δ2=>nq tg fb n k (i+1) δ2
      |.ct δ2=>nq tg fb n k (i+1) δ2
      |.bk δ2=>pure (.nx δ2)
      |.rt d=>pure (.rt d):=by
    show (rd (gQ n i)>>=_)=_;congr 1;funext o;cases o with
    |none=>rfl
    |some d=>exact (aO _ _ _).symm
   rw[e];by_cases c:i<L.length
   ·refine Rn.bindRd (some (.tup [nD i,L[i]])) (by simp only[gQ,hM,List.getElem?_eq_getElem c];rfl) ?_
    refine Rn.bind (h i L[i] δ M (Wk c) hI) λr M' ⟨δ',er,hI'⟩=>?_
    subst er;exact Ac I hL h k (i+1) δ' M' (by lia) (by lia) hI'
   ·refine Rn.bindRd none (by simp only[gQ,hM,List.getElem?_eq_none (Nat.le_of_not_lt c)];rfl) ?_
    have:i=L.length:=by lia
    subst this;exact Rn.pure ⟨δ,rfl,hI⟩
theorem uT{α:Type}{fe:ak->DM D}{rest:ak}{n:Nat}{M:Mo}{L:List α}{x:Option D}(enc e:α->D)(hM:M[n]?=some (.lst (L.map enc)))(hL:L.length<=1000000)(h:∀a∈L,fe (some (enc a)::rest) M=some (.ok (e a),M)){β:Type}{k:ak×List D->DM β}{Q:β->Mo->Prop}(q:∀z,Rn (k (z,L.map e)) M Q):
  Rn (rd (xZ (.ref n))>>=λit=>dq (bU (gN 0) (λy=>Pure.pure true) (bH fe) it (x::rest) [])>>=k) M Q:=by
 refine Rn.bindRd (.dyn n) (by simp only[xZ,hM]) ?_
 obtain⟨z,e2⟩:=rF (rest:=rest) enc e hM hL h (L.length+1) 0 x [] (by lia) (by lia) rfl
 have e1:bU (gN 0) (λy=>Pure.pure true) (bH fe) (.dyn n) (x::rest) [] M=some (.ok (z::rest,L.map e),M):=by
  show DM.bind (rd (λM=>aR (.ref n) M)) _ M=_
  unfold DM.bind rd;simp only[aR,hM,Option.map_some,List.length_map];exact e2
 refine Rn.bind (qP ⟨_,_,e1,rfl,rfl⟩:Rn (dq _) M λp M'=>p=(z::rest,L.map e)/\M'=M) λp M' ⟨e1,e2⟩=>?_
 subst e1 e2;exact q _
theorem Ut(q:Nat×Nat):(rd (mY (pT q) (pT q)):DM D)=pure (.bl false):=by have:=Mw [q.1,q.2] [q.1,q.2];rw[WF rfl]at this;exact this
theorem Mq(l:List Nat):(rd (mY (nT l) (nT l)):DM D)=pure (.bl false):=by have:=Mw l l;rw[WF rfl]at this;exact this
theorem eN{W k e a b:Nat}(h:W<2^e)(hk:k<=a)(hb:e*a<b):W^k<2^b:=by have h1:W^k<=(2^e)^k:=Nat.pow_le_pow_left (Yr h) k;rw[<-Nat.pow_mul]at h1;exact WD h1 (Nat.pow_lt_pow_right (by decide) (WD (Nat.mul_le_mul_left e hk) hb))
noncomputable def GZ:=aG 3 9 (jX Hd For zu qN uv GX)
noncomputable def Vr(q:Nat)(o:List Nat)(w x l b:D)(r:List Nat)(i:Nat)(δ:ak)(M:Mo):Prop:=(∃z6 z7 z8,δ=[some w,some x,some (.ref q),some l,some b,some (nT r),z6,z7,z8])/\M[q]?=some (.lst (o.map nD))
noncomputable def Vs(q:Nat)(o:List Nat)(w x l b:D)(r:List Nat)(c:Nat)(i:Nat)(δ:ak)(M:Mo):Prop:=(∃z7 z8,δ=[some w,some x,some (.ref q),some l,some b,some (nT r),some (nD c),z7,z8])/\M[q]?=some (.lst (o.map nD))
theorem QM{R:List (List Nat)}{W q:Nat}{o:List Nat}{M:Mo}(wk:WK R W)(h4:R.length<=4)(hW:W<2^34)(al:AL R)(ho:o.Perm (List.range R.length))(hq:M[q]?=some (.lst (o.map nD))):
  Rn (GZ [aF R W,aF (j8 R o) W,.ref q]) M λd y=>d=.bl true:=by
 have n1:=wk.n1;have h5:R.length<=5:=by lia
 have hW6:W<2^610:=aY hW (by decide)
 have rs:=eQ wk h5 hW6 al;have hb:∀x,x<R.length->ga (rest R W) x<2^142:=λx hx=>wK (e:=34) wk h5 (by decide) hW al hx
 have hx:=Mh wk rs al ho;have tu:=Ui wk rs al hb;have lz:=SX wk rs al;have lk:WK (cW R W 1 1) (W*1+1*W):=wk.lazy (by decide)
 rw[show W*1+1*W=W+W by lia]at lz lk
 have lW:W+W<2^35:=by lia
 have bW:W*cm (rest R W) / gR (cX R (rest R W))<2^604:=by obtain⟨_,cb,_⟩:=tL rs hb;exact WD (YG _ _) (mul_pow hW cb (by lia))
 have ol:o.length=R.length:=by simpa using ho.length_eq
 obtain⟨o1,_,_⟩:=Je ho;unfold GZ jX fH;dsimp only;refine Rn.call rfl ?_;have st:bw 9 [aF R W,aF (j8 R o) W,D.ref q]=[some (aF R W),some (aF (j8 R o) W),some (.ref q),none,none,none,none,none,none]:=rfl;rw[st];refine aH λK hK=>?_
 simp[u5];refine Rn.bind (QK (stay:=1) (go:=1) M wk (aY hW (by decide)) (by decide) (by decide) (by decide)) λd M1 ⟨e,k1⟩=>?_
 subst e;refine Rn.bind (R9 wk h4 hW al M1) λd M2 ⟨e,k2⟩=>?_
 subst e;rw[hK];clear hK K;refine aH λK hK=>?_
 simp;refine Rn.bind (oJ wk h5 hW6 al M2) λd M3 ⟨e,k3⟩=>?_
 subst e;rw[hK];clear hK K;have hq3:=k3 _ _ (k2 _ _ (k1 _ _ hq));have xr:rest (j8 R o) W=o.map (ga (rest R W)):=Rst.uniq hx.wk hx.al (eQ hx.wk (by rw[hx.len];exact h5) hW6 hx.al) hx.rs
 have ll:(cW R W 1 1).length=R.length:=by simp[cW]
 have lr:rest (cW R W 1 1) (W+W)=rest R W:=Rst.uniq lk lz.2 (eQ lk (by rw[ll];exact h5) (aY lW (by decide)) lz.2) lz.1
 have bl:(dC (cX R (rest R W))).length=R.length:=tu.len;have br:rest (dC (cX R (rest R W))) (W*cm (rest R W) / gR (cX R (rest R W)))=rest R W:=Rst.uniq tu.wk tu.al (eQ tu.wk (by rw[bl];exact h5) (aY bW (by decide)) tu.al) tu.rs
 have oX:=λM=>oJ hx.wk (by rw[hx.len];exact h5) hW6 hx.al M
 have oL:=λM=>oJ lk (by rw[ll];exact h5) (aY lW (by decide)) lz.2 M
 have oB:=λM=>oJ tu.wk (by rw[bl];exact h5) (aY bW (by decide)) tu.al M
 have sX:∀c i,c<5->i<R.length->∀M,Rn (uv [aF (j8 R o) W,nD i,nD c]) M λd M'=>d=pT (sep R W (rest R W) (ga o i) c)/\Kp M M':=λc i hc hi M=>by
  have:=wR hx.wk (by rw[hx.len];exact h5) hW6 hx.al (s:=i) (k:=c) (by rw[hx.len];exact hi) (by lia) (eN hW (show c<=4 by lia) (by decide)) M
  rw[xr,hx.eq c i hi]at this;exact this
 have sL:∀c s,c<6->s<R.length->∀M,Rn (uv [aF (cW R W 1 1) (W+W),nD s,nD c]) M λd M'=>d=pT (sep (cW R W 1 1) (W+W) (rest R W) s c)/\Kp M M':=λc s hc hs M=>by
  have:=wR lk (by rw[ll];exact h5) (aY lW (by decide)) lz.2 (s:=s) (k:=c) (by rw[ll];exact hs) (by lia) (eN lW (show c<=5 by lia) (by decide)) M
  rw[lr]at this;exact this
 have sR:∀c s,c<5->s<R.length->∀M,Rn (uv [aF R W,nD s,nD c]) M λd M'=>d=pT (sep R W (rest R W) s c)/\Kp M M':=λc s hc hs M=>wR wk h5 hW6 al hs (by lia) (eN hW (show c<=4 by lia) (by decide)) M
 have lss:∀c s,c<5->s<R.length->qN [pT (sep (cW R W 1 1) (W+W) (rest R W) s c),pT (sep (cW R W 1 1) (W+W) (rest R W) s (c+1))]=pure (.bl false):=λc s hc hs=>by
  have b1:=wO (k:=c) lk lz.1 (s:=s) (by rw[ll];exact hs) (eN lW (show c<=5 by lia) (by decide))
  have b2:=wO (k:=c+1) lk lz.1 (s:=s) (by rw[ll];exact hs) (eN lW (show c+1<=5 by lia) (by decide))
  have p1:=o6 (k:=c) lk lz.1 (s:=s) (by rw[ll];exact hs)
  have p2:=o6 (k:=c+1) lk lz.1 (s:=s) (by rw[ll];exact hs)
  have mo:=Li (k:=c) lk lz.1 (s:=s) (by rw[ll];exact hs)
  have:=uX p1.1 p2.1 b1.1 b1.2 b2.1 b2.2;rw[Xu (X4.mpr mo)]at this;exact this
 have gg:∀c,c<5->∀M d M' d' M'',CW R W c M d M'->CW (dC (cX R (rest R W))) (W*cm (rest R W) / gR (cX R (rest R W))) c M' d' M''->∃p,d=pT p/\d'=pT p/\Kp M M'':=λc hc M d M' d' M'' h h'=>by
  obtain⟨a,ea,g,k⟩:=h;obtain⟨b,eb,g',k'⟩:=h';rw[br]at g';refine⟨a,ea,?_,λj o h=>k' j o (k j o h)⟩
  rw[eb,Gt.eq wk rs tu.wk tu.rs bl (tu.eq c) g g']
 have gR':∀c,c<5->∀M,Rn (zu [aF R W,nD c]) M (CW R W c M):=λc hc M=>Ie wk h5 hW6 al (by lia) (eN hW (show c<=4 by lia) (by decide)) M
 have gB:∀c,c<5->∀M,Rn (zu [aF (dC (cX R (rest R W))) (W*cm (rest R W) / gR (cX R (rest R W))),nD c]) M (CW (dC (cX R (rest R W))) (W*cm (rest R W) / gR (cX R (rest R W))) c M):=λc hc M=>Ie tu.wk (by rw[bl];exact h5) (aY bW (by decide)) tu.al (by lia) (eN bW (show c<=4 by lia) (by decide)) M
 rw[xr]at oX;rw[lr]at oL;rw[br]at oB;have rl:=rs.len;clear xr lr br tu lz lk hx rs hb;revert oX oL oB sX sL sR lss gg gR' gB rl;generalize rest R W=r;generalize sep (cW R W 1 1) (W+W) r=sl;generalize sep R W r=sr;generalize aF (cW R W 1 1) (W+W)=wl;generalize aF (j8 R o) W=wx;generalize CW (dC (cX R r)) (W*cm r / gR (cX R r))=gb;generalize aF (dC (cX R r)) (W*cm r / gR (cX R r))=wb;intro oX oL oB sX sL sR lss gg gR' gB rl;refine aH λK hK=>?_
 simp only[jz,cI,aO,cB];refine Rn.bind (oX M3) λd M4 ⟨e,k4⟩=>?_
 subst e;have hq4:=k4 _ _ hq3;have ce:aP [Str.ofString "_law_place"].length [5] [some (aF R W),some wx,some (D.ref q),some wl,some wb,some (nT r),none,none,none]=[none,some (nT r)]:=rfl;rw[ce];refine uT (L:=o) nD (λi=>nD (ga r i)) hq4 (by lia) (λa ha=>?_) (λz=>?_)
 ·have ha':a<r.length:=by rw[rl];exact Wt.mp (ho.mem_iff.mp ha)
  simp only[cI,dB ha'];rfl
 have e1:D.tup (o.map λi=>nD (ga r i))=nT (o.map (ga r)):=by unfold nT;rw[Xd];rfl
 simp only[rQ,az,wJ,e1,Mq,jh,Bool.false_eq_true,if_false,aO];refine Rn.bind (oL M4) λd M5 ⟨e,k5⟩=>?_
 subst e;simp only[az,Mq,jh,Bool.false_eq_true,if_false,aO];refine Rn.bind (oB M5) λd M6 ⟨e,k6⟩=>?_
 subst e;simp only[az,Mq,jh,Bool.false_eq_true,if_false,aO];rw[hK];clear hK K;have hq6:=k6 _ _ (k5 _ _ hq4);have rg5:rR [.int 5]=some (.fix ((List.range 5).map nD)):=wI (n:=5) (by lia)
 refine aH λK hK=>?_
 simp only[rg5,fU,az,fF];refine Rn.bind (bN (Vr q o (aF R W) wx wl wb r) _ 0 _ _ ⟨⟨_,_,_,rfl⟩,hq6⟩ (λc d δ M7 hj hI=>?_)) (λrr M7 hI=>?_)
 rotate_left
 ·obtain⟨δ',rfl,_⟩:=hI;rw[hK];exact Rn.pure rfl
 clear hK K;obtain⟨⟨z6,z7,z8,rfl⟩,hq7⟩:=hI;obtain⟨hc,rfl⟩:=m7 hj;generalize 0+c+1=nx;rw[jL,az];refine aH λK hK=>?_
 simp only[jz,cI,aO,cB];refine Rn.bind (gR' c hc M7) λd M8 g8=>?_
 refine Rn.bind (gB c hc M8) λd' M9 g9=>?_
 obtain⟨p,rfl,rfl,k9⟩:=gg c hc _ _ _ _ _ g8 g9;simp only[az,Ut,jh,Bool.false_eq_true,if_false,aO];rw[hK];clear hK K;have hq9:=k9 _ _ hq7;simp only[cI,aO,cB];refine Rn.bindRd q (by simp only[Dk,hq9]) ?_
 refine (Ac (Vs q o (aF R W) wx wl wb r c) (λy y y h=>h.2) (λi d δ M hi hI=>?_) 20 0 _ _ (X3 _) (by rw[Wh];lia) ⟨⟨_,_,rfl⟩,hq9⟩).mono (λr' M hI=>?_)
 rotate_left
 ·obtain⟨δ',rfl,⟨z7,z8,rfl⟩,hq'⟩:=hI;exact⟨_,rfl,⟨_,_,_,rfl⟩,hq'⟩
 obtain⟨⟨z7,z8,rfl⟩,hq10⟩:=hI;rw[Wn]at hi;obtain⟨s,hs,rfl⟩:=Wi.mp hi;have hi':i<R.length:=by rw[<-ol];exact (Wf.mp hs).1
 have hso:ga o i=s:=by rw[bC (by lia)];exact (Wf.mp hs).2
 have hs':s<R.length:=by rw[<-hso];exact o1 i hi'
 have tg:gT 2 (bY (gN 7) (bY (gN 8) fX)) (.tup [nD i,nD s]) [some (aF R W),some wx,some (.ref q),some wl,some wb,some (nT r),some (nD c),z7,z8]=pure [some (aF R W),some wx,some (.ref q),some wl,some wb,some (nT r),some (nD c),some (nD i),some (nD s)]:=by simp[gT,bY,fX]
 rw[tg,az];refine aH λK hK=>?_
 simp only[cI,aO,cB];refine Rn.bind (sX c i hc hi' M) λd M11 ⟨e,k11⟩=>?_
 subst e;refine Rn.bind (sR c s hc hs' M11) λd M12 ⟨e,k12⟩=>?_
 subst e;rw[hso];simp only[az,Ut,jh,Bool.false_eq_true,if_false,aO];rw[hK];clear hK K;simp only[cI,aO,cB];refine Rn.bind (sL c s (by lia) hs' M12) λd M13 ⟨e,k13⟩=>?_
 subst e;have a1:(rd (dU (nD c) (.int 1)):DM D)=pure (nD (c+1)):=xM c;simp only[a1,az];refine Rn.bind (sL (c+1) s (by lia) hs' M13) λd M14 ⟨e,k14⟩=>?_
 subst e;simp only[az,lss c s hc hs',Jz,Bool.false_eq_true,if_false,aO];exact Rn.pure ⟨_,rfl,⟨_,_,rfl⟩,k14 _ _ (k13 _ _ (k12 _ _ (k11 _ _ hq10)))⟩
noncomputable def GD:=aG 1 5 (iI CV cM vC)
noncomputable def Vj(M0:Mo)(R:List (List Nat))(W:Nat)(i:Nat)(δ:ak)(M:Mo):Prop:=(∃z2 z3 z4,δ=[some (aF R W),some (aF (dW R 2) (W^2)),z2,z3,z4])/\M=M0
noncomputable def Vk(M0:Mo)(R:List (List Nat))(W s:Nat)(i:Nat)(δ:ak)(M:Mo):Prop:=(∃z4,δ=[some (aF R W),some (aF (dW R 2) (W^2)),some (nD s),some (nT (unit R.length s)),z4])/\M=M0
theorem PN{R:List (List Nat)}{W:Nat}(wk:WK R W)(hW:W<2^34):GD [aF R W]=pure (.bl true):=xK λM=>by
 have n25:=wk.n25;have hW6:W<2^610:=aY hW (by decide)
 have w2:W^2<2^610:=eN hW (Wg 2) (by decide)
 have fd:CV [aF R W,.int 2]=pure (aF (dW R 2) (W^2)):=Qg (t:=2) wk hW6 (by decide) (by decide) (eN hW (Wg 2) (by decide))
 unfold GD iI dX;dsimp only;refine Rn.call rfl ?_;have st:bw 5 [aF R W]=[some (aF R W),none,none,none,none]:=rfl;rw[st];refine aH λK hK=>?_
 simp[fd];rw[hK];clear hK K;refine aH λK hK=>?_
 simp[cR (W:=W) n25,dD (n:=R.length) (by lia),fF]
 refine Rn.bind (bN (Vj M R W) _ 0 _ _ ⟨⟨_,_,_,rfl⟩,rfl⟩ (λs d δ M2 hj hI=>?_)) (λrr M2 hI=>?_)
 rotate_left
 ·obtain⟨δ',rfl,_,rfl⟩:=hI;rw[hK];clear hK K;simp;exact Rn.pure ⟨_,rfl,rfl,rfl⟩
 clear hK K;obtain⟨⟨z2,z3,z4,rfl⟩,rfl⟩:=hI;obtain⟨hs,rfl⟩:=m7 hj;generalize 0+s+1=nx;rw[jL,az];refine aH λK hK=>?_
 have ce:aP 1 [2] [some (aF R W),some (aF (dW R 2) (W^2)),some (nD s),z3,z4]=[none,some (nD s)]:=rfl;simp[cR (W:=W) n25,dD (n:=R.length) (by lia),ce,lA]
 rw[cG nD (λi=>nD (if i=s then 1 else 0)) (by simp;lia) (λi hi=>by simp[oR,Ig])]
 have e1:D.tup ((List.range R.length).map λi=>nD (if i=s then 1 else 0))=nT (unit R.length s):=by unfold unit nT;rw[Xd];rfl
 simp only[az,e1];rw[hK];clear hK K;have rg4:rR [.int 4]=some (.fix ((List.range 4).map nD)):=wI (n:=4) (by lia)
 simp only[rg4,fU,az,fF];refine (bN (Vk M2 R W s) _ 0 _ _ ⟨⟨_,rfl⟩,rfl⟩ (λc d δ M3 hj2 hI=>?_)).mono (λr' M3 hI=>?_)
 rotate_left
 ·obtain⟨δ',rfl,⟨_,rfl⟩,rfl⟩:=hI;exact⟨_,rfl,⟨_,_,_,rfl⟩,rfl⟩
 obtain⟨⟨z4',rfl⟩,rfl⟩:=hI;obtain⟨hc,rfl⟩:=m7 hj2;rw[jL,az];have u1:=jf hs;have m2:(rd (lN (.int 2) (nD c)):DM D)=pure (nD (2*c)):=oW (a:=2) (by lia)
 have a1:=vG (k:=2*c) wk hW6 (bO R.length s) (qm wk hs) (by lia) (by rw[u1,ZS];exact eN hW (show 2*c<=6 by lia) (by decide))
 have pl:=dN R 2;have a2:=vG (k:=c) (wk.pow (t:=2)) w2 (l:=unit R.length s) (by rw[bO,pl]) (qm wk hs) (by lia) (by rw[u1,ZS];exact eN w2 (show c<=3 by lia) (by decide))
 rw[Ai (bO _ _)]at a2;simp[vZ (m := "after") (by decide),m2,a1,a2,Mq]
 exact Rn.pure ⟨_,rfl,⟨_,rfl⟩,rfl⟩
theorem Pg{α:Type}{m:DM α}{M:Mo}{a:α}(h:Rn m M λd M'=>d=a/\M'=M):m M=some (.ok a,M):=by obtain⟨b,M',e,rfl,rfl⟩:=h;exact e
noncomputable def J6:=aG 1 7 (LR zm zy G8 wW GD GZ jj)
noncomputable def Uv(cs:List Int)(i:Nat)(δ:ak)(M:Mo):Prop:=∃x1 x2 x3 x4 x5 x6,δ=[some (.scr cs),x1,x2,x3,x4,x5,x6]
theorem NZ(cs:List Int)(hcs:cs.length<=100000):Rn (J6 [.scr cs]) [] λd w=>d=.bl true:=by
 unfold J6 LR Gf;dsimp only;refine Rn.call rfl ?_;have st:bw 7 [D.scr cs]=[some (.scr cs),none,none,none,none,none,none]:=rfl;rw[st];obtain⟨c0,ec⟩:=Py cs 0;have ec':zm [.scr cs,.int 0]=pure (.int c0):=ec;have l1:∀x:D,uB [x]=pure (.lst [x]):=λx=>pU (by simp)
 have cl:(cutD (cs.map D.int) (some 1) (some 2)).length<=100000:=by
  unfold cutD;rw[Yi,YX,Wh]
  lia
 have ci:∀d∈[.int c0]++cutD (cs.map D.int) (some 1) (some 2),∃c:Int,d=.int c:=λd hd=>by
  rcases W5.mp hd with h | h
  ·exact⟨c0,W2.mp h⟩
  ·unfold cutD at h;obtain⟨c,_,rfl⟩:=Xl.mp (List.mem_of_mem_drop (aaz h));exact⟨c,rfl⟩
 have ad:=Om (a:=[.int c0]) (b:=cutD (cs.map D.int) (some 1) (some 2)) (by simp;lia)
 have a1:(Hn (.int 1):DM (Option Int))=pure (some 1):=rfl;have a3:(Hn (.int 2):DM (Option Int))=pure (some 2):=rfl;refine aH λK hK=>?_
 simp[ec',l1,Tt];rw[a1,az,a3,az,ad];simp only[az,wF,fF,fU,List.map_cons,List.map_nil];clear ad cl;generalize [.int c0]++cutD (cs.map D.int) (some 1) (some 2)=cl at ci;refine Rn.bind (bN (Uv cs) cl 0 _ _ ⟨_,_,_,_,_,_,rfl⟩ (λj d δ M hj hI=>?_)) (λr M hI=>?_)
 rotate_left
 ·obtain⟨δ',rfl,_⟩:=hI;rw[hK];exact Rn.pure rfl
 clear hK K;obtain⟨c,rfl⟩:=ci d (W6 hj);obtain⟨x1,x2,x3,x4,x5,x6,rfl⟩:=hI;generalize 0+j+1=nx;rw[jL,az];refine aH λK hK=>?_
 simp only[jz,cI,aO];refine Rn.bind (Oi c M) λd M0 ⟨e,hp⟩=>?_
 subst e;revert hp;generalize M.length=p;intro hp
 try simp only[jz,az]
 rw[hK];clear hK K;refine aH λK hK=>?_
 simp only[jz,cI,aO];refine Rn.bind (RM (tp:=4) hp (by decide) (by decide)) λd M1 ⟨R,W,e,wk,al,h4,hW,hp1,_⟩=>?_
 subst e
 try simp only[jz,az]
 rw[hK];clear hK K;have hW34:W<2^34:=by lia
 have n1:=wk.n1;refine aH λK hK=>?_
 simp only[jz,cI,u5,aO,mC wk,oU];refine Rn.bind (Q6 (n:=R.length) hp1 (by lia)) λd M2 ⟨q,o,e,hq,ho⟩=>?_
 subst e;have m2:∀x y:D,yG [x,y]=pure (.tup [x,y]):=λx y=>uh (by simp)
 have tg:gT 2 (bY (gN 4) (bY (gN 5) fX)) (.tup [aF R W,.ref q]) [some (.scr cs),some (.int c),some (.ref p),some (nM R),x4,x5,x6]=pure [some (.scr cs),some (.int c),some (.ref p),some (nM R),some (aF R W),some (.ref q),x6]:=by simp[gT,bY,fX]
 rw[m2,az,tg,az,hK];clear hK K;have ol:o.length=R.length:=by simpa using ho.length_eq
 have ob:∀a∈o,a<R.length:=λa ha=>Wt.mp (ho.mem_iff.mp ha)
 refine aH λK hK=>?_
 simp only[jz,cI,aO,cB];have ce:aP 1 [5,3] [some (.scr cs),some (.int c),some (.ref p),some (nM R),some (aF R W),some (.ref q),x6]=[none,some (.ref q),some (nM R)]:=rfl;rw[ce];refine uT (L:=o) nD (λx=>nT (o.map λy=>ga (gr R x) y)) hq (by lia) (λx hx=>?_) (λz=>?_)
 ·have hx':=ob x hx;have ce2:aP 1 [2,0] [some (nD x),some (.ref q),some (nM R)]=[none,some (nM R),some (nD x)]:=rfl;simp only[cI,aO,cB]
  try rw[ce2]
  refine Pg ?_;refine uT (L:=o) nD (λy=>nD (ga (gr R x) y)) hq (by lia) (λy hy=>?_) (λz=>?_)
  ·simp only[List.getElem?_cons_zero,List.getElem?_cons_succ,Option.join_some,fU,az,wH hx',dB (l:=gr R x) (i:=y) (by rw[wk.row _ (gr_mem hx')];exact ob y hy)]
   rfl
  have e1:D.tup (o.map λy=>nD (ga (gr R x) y))=nT (o.map λy=>ga (gr R x) y):=by unfold nT;rw[Xd];rfl
  exact Rn.pure ⟨e1,rfl⟩
 have om:∀f:Nat->Nat,o.map f=(List.range R.length).map λi=>f (ga o i):=λf=>by
  apply YB
  ·simp[ol]
  ·intro i h1 h2;simp at h1;simp[bC h1]
 have e1:D.tup (o.map λx=>nT (o.map λy=>ga (gr R x) y))=nM (j8 R o):=by
  unfold j8 uA nM;congr 1;rw[Xd];apply YB
  ·simp[ol]
  ·intro i h1 h2;simp at h1;simp[bC h1,om]
 have rs:=eQ wk (by lia) (aY hW34 (by decide)) al
 simp only[rQ,az,wJ,e1,mC (Mh wk rs al ho).wk];rw[hK];clear hK K;simp only[jz,cI,aO,cB];refine Rn.bind (QM wk h4 hW34 al ho hq) λd M3 e=>?_
 subst e;simp only[Jz,az,Bool.not_true,Bool.false_eq_true,if_false,aO,PN wk hW34];exact Rn.pure ⟨_,rfl,_,_,_,_,_,_,rfl⟩
end K
namespace K
open PySem L2 L3 N10
def IW(K:PySem.W.Frag):Bool:=K.all λp=>!(p.2.cls==.type "list")
theorem Q0{K:PySem.W.Frag}(h:IW K=true){a:Addr}{o:Obj}(e:K.lookup a=some o):o.cls≠.type "list":=by
 have:∀ (l:List (Addr×Obj)),(l.all λp=>!(p.2.cls == .type "list"))=true->l.lookup a=some o->o.cls≠.type "list":=by
  intro l;induction l with
  |nil=>intro _ e;cases e
  | cons p l ih=>
    intro h e;rw[List.all_cons,YC]at h;rw[Yk]at e;split at e
    ·cases e;intro z;rw[z]at h;exact absurd h.1 (by decide)
    ·exact ih h.2 e
 exact this K h e
theorem rd_of{K:PySem.W.Frag}{H:Hp}{a:Addr}{xs:List V}(h:IW K=true)(s:SqL K H a xs):Rd H a (.lst xs):=by
 rcases s with s | ⟨o,its,n,e,c,_⟩
 ·exact s
 ·exact absurd c (Q0 h e)
structure Cls(K:PySem.W.Frag)(mg:Str->Option Value)(CC_Walk:Addr)(tg_MOST_PLACES tg_MOST_STEPS:Tok):Prop where
 m_MOST_PLACES:mg "MOST_PLACES"=some (.int 25 tg_MOST_PLACES)
 m_MOST_STEPS:mg "MOST_STEPS"=some (.int 100 tg_MOST_STEPS)
 o_Walk:OCls K mg "Walk" CC_Walk ["rows", "whole"]
 k_Walk:PySem.W.makesIn K CC_Walk=true/\PySem.W.keepIn K (.ref CC_Walk)=true
 nl:IW K=true
theorem Pz{K:PySem.W.Frag}{h:Heap}{mg:Str->Option Value}(X:K.In h)(G:h.Ns mainGlobals mg){CC_Walk:Addr}{tg_MOST_PLACES tg_MOST_STEPS:Tok}
  (g_MOST_PLACES:PySem.W.nsIn K mainGlobals "MOST_PLACES"=some (some (.int 25 tg_MOST_PLACES)))
  (g_MOST_STEPS:PySem.W.nsIn K mainGlobals "MOST_STEPS"=some (some (.int 100 tg_MOST_STEPS)))
  (cm_Walk:PySem.W.nsIn K mainGlobals "Walk"=some (some (.ref CC_Walk)))
  (pg_Walk:PySem.W.plainGet K CC_Walk Str.empty=true)
  (hd_Walk:PySem.W.hasDictIn K CC_Walk=true)
  (po_Walk:PySem.W.plainOver K CC_Walk=true)
  (sa_Walk:PySem.W.findIn K (.ref CC_Walk) "__setattr__"=some (some (.builtin "object.__setattr__")))
  (mk_Walk:PySem.W.makesIn K CC_Walk=true)
  (kc_Walk:PySem.W.keepIn K (.ref CC_Walk)=true)
  (nf_Walk_rows:PySem.W.findIn K (.ref CC_Walk) "rows"=some none)
  (nf_Walk_whole:PySem.W.findIn K (.ref CC_Walk) "whole"=some none)
  (nl:IW K=true)
  : Cls K mg CC_Walk tg_MOST_PLACES tg_MOST_STEPS:=by
 have nof_Walk:∀f∈(["rows", "whole"]:List Str),NoAttr K CC_Walk f:=by
  intro f hf;simp only[List.mem_cons,List.not_mem_nil,or_false]at hf;rcases hf with rfl | rfl
  ·exact nf_Walk_rows
  ·exact nf_Walk_whole
 refine⟨ZX X G g_MOST_PLACES,ZX X G g_MOST_STEPS,⟨ZX X G cm_Walk,⟨pg_Walk,hd_Walk,po_Walk,sa_Walk⟩,nof_Walk⟩,⟨mk_Walk,kc_Walk⟩,nl⟩
def spLaw(K:PySem.W.Frag):Sp:=λvs H Q z=>∃(a:Addr) (ns:List Int),vs=[.ref a]/\SqL K H a (ns.map V.int)/\ns.length<=63/\∀H',Q (.bl true) H'
theorem TF{K:PySem.W.Frag}{mg:Str->Option Value}(nl:IW K=true){vs:List V}{H:Hp}{Q:VK}{E:XK}(h:spLaw K vs H Q E):yM mg J6 vs H Q E:=by
 obtain⟨a,ns,rfl,hS,hl,q⟩:=h;have rd:=rd_of nl hS;obtain⟨d,M',e,ed⟩:=NZ ns (by omega)
 refine⟨⟨[],[]⟩,[],[.scr ns],.cons (.scr (λz=>by rcases z with z | z<;>cases z) rd) .nil,⟨rfl,List.nodup_nil,λn a o h=>by simp at h,λa h=>by cases h⟩,_,e,λρ' H' b x j c=>?_⟩
 subst ed;cases c;exact q H'
theorem VB{P:Program}{w:World}{K:PySem.W.Frag}{mg:Str->Option Value}{base:Heap}{k:Nat}{x:Str}{N ps:List Str}{st:Stmt}{fb:ak->DM Fl}{f:Addr}{fd:FuncData}(F:Fun K x x st f fd)(S:FnScope N ps (defScope st))
  (hbody:∀(cdv:Value) (A:Around) (outer:List Env) (s:Shared) (H:Hp) (E:XK),Room k (A.deeper (PyProof.Rows.envOfC x (defScope st) s.heap.objs.size f cdv))->
    DSs (jm P w K mg base N x (defScope st) f cdv A outer s H E) E (defBody st) fb):FnOk P w K mg base (dG P w) (k+1) f fd ps (yM mg (aG ps.length N.length fb)):=by
 refine Ur F S (λvs H Q E h=>?_) λcdv A outer s H vs Q E hr h=>?_
 ·obtain⟨ρ,M,ds,c,j,g⟩:=h;rw[c.len];exact (bh.aG g).1
 obtain⟨ρ,M,ds,c,j,g⟩:=h;exact⟨_,(hbody cdv A outer s H E hr).h,ρ,_,M,lJ c,j,(bh.aG g).2⟩
theorem all_mk{P:Program}{w:World}{K:PySem.W.Frag}{mg:Mg}{fa:Addr}{CC_Walk:Addr}{tg_MOST_PLACES tg_MOST_STEPS:Tok}(hfa:mg "law"=some (.ref fa)){h:Heap}(X:K.In h)(G:h.Ns mainGlobals mg)(t0:TD K "is_whole" p7)(t1:TD K "greatest_divider" eU)(t2:TD K "least_multiple" gf)(t3:TD K "is_fraction" jP)(t4:TD K "refuse_no_fraction" dR)(t5:TD K "plain_of" qd)(t6:TD K "plain" xO)(t7:TD K "is_less" rT)(t8:TD K "are_weights" jN)(t9:TD K "are_rows" pZ)(t10:TD K "is_place" p6)(t11:TD K "is_lot" vf)(t12:TD K "refuse_no_lot" iB)(t13:TD K "least" xN)(t14:TD K "can_be_walked" iz)(t15:TD K "refuse_no_steps" fO)(t16:MethAt K CC_Walk "__len__" "Walk.__len__" aV)(t17:TD K "refuse_no_place" fM)(t18:TD K "lot_at" vh)(t19:TD K "stepped" rY)(t20:MethAt K CC_Walk "__init__" "Walk.__init__" iu)(t21:MethAt K CC_Walk "after" "Walk.after" dF)(t22:MethAt K CC_Walk "power" "Walk.power" iw)(t23:TD K "next_places" jQ)(t24:TD K "fewest_steps" jc)(t25:TD K "led_to" vg)(t26:TD K "shut_sets" nR)(t27:TD K "determinant" jO)(t28:TD K "trees_toward" je)(t29:TD K "rest_on" rW)(t30:TD K "refuse_no_rest" gj)(t31:TD K "one_rest" p8)(t32:TD K "share_of" qi)(t33:TD K "separation" eV)(t34:TD K "refuse_less" jR)(t35:TD K "plainest" qg)(t37:TD K "folded" vd)(t38:TD K "turned" vm)(t39:TD K "_law_cell_at" iZ)(t40:TD K "_law_next" nP)(t41:TD K "_law_pen_of" jM)(t42:TD K "_law_draw" nJ)(t43:TD K "_law_row" pY)(t44:TD K "_law_rows" nQ)(t45:TD K "_law_round_rows" fL)(t46:TD K "_law_order" lZ)(t47:TD K "_law_greatest" iy)(t48:TD K "_law_made_right" fK)(t49:TD K "_law_double_right" dZ)(t50:TD K "law" Gn)(g36:TG K "lazy" BK ["walk", "stay", "go"] [1,1])(z0:TB K "abs")(z1:TB K "all")(z2:TB K "any")(z3:TB K "bool")(z4:TB K "enumerate")(z5:TB K "int")(z6:TB K "isinstance")(z7:TB K "len")(z8:TB K "list")(z9:TB K "max")(z10:TB K "range")(z11:TB K "sorted")(z12:TB K "sum")(z13:TB K "tuple")(z14:TB K "zip")(Z:Cls K mg CC_Walk tg_MOST_PLACES tg_MOST_STEPS):
  ∃fd:FuncData,(∀(s:Shared) (v:Value),BindsTo s fd ⟨[v],[]⟩ [("_law_script",v)])/\∀base:Heap,K.In base->base.Ns mainGlobals mg->FnOk P w K mg base (dG P w) 16 fa fd ["_law_script"] (spLaw K):=by
 obtain⟨f,fd,F,m⟩:=(t50 X G).ex;have e:=hfa.symm.trans m;cases e;refine⟨fd,?_,λbase z z=>?_⟩
 ·obtain⟨oc,od,kV,doc,pm,an,cdv,ct,osl,rfl,_⟩:=F.ex;exact λs v=>.of_eq rfl
 have yz0:=Xf X G z0;have yz1:=Xf X G z1;have yz2:=Xf X G z2;have yz3:=Xf X G z3;have yz4:=Xf X G z4;have yz5:=Xf X G z5;have yz6:=Xf X G z6;have yz7:=Xf X G z7;have yz8:=Xf X G z8;have yz9:=Xf X G z9;have yz10:=Xf X G z10;have yz11:=Xf X G z11;have yz12:=Xf X G z12;have yz13:=Xf X G z13;have yz14:=Xf X G z14;have D0:DefD P w K mg base _ _ _ nW:=okd (t0 X G) CP ((wB).2 yz3 yz5 yz6);have D1:DefD P w K mg base _ _ _ jW:=okn (λN=>cU N) (t1 X G) iQ Sy λN=>(eO N).2
 have D2:DefD P w K mg base _ _ _ GR:=okd (t2 X G) ur ((lX jW).2 D1);have D3:DefD P w K mg base _ _ _ GF:=okd (t3 X G) xQ ((qD nW).2 D0 yz6 yz7 yz13);have D4:DefD P w K mg base _ _ _ zB:=okd (t4 X G) o5 ((ir GF).2 D3);have D5:DefD P w K mg base _ _ _ zA:=okd (t5 X G) uF ((wC jW).2 D1 yz0);have D6:DefD P w K mg base _ _ _ G5:=okd (t6 X G) BP ((Ea zB zA).2 D4 D5);have D7:DefD P w K mg base _ _ _ qN:=okd (t7 X G) Gp ((yI zB).2 D4);have D8:DefD P w K mg base _ _ _ xX:=okd (t8 X G) xP ((qC nW).2 D0 yz1 yz6 yz7 yz13);have D9:DefD P w K mg base _ _ _ Gz:=okd (t9 X G) CK ((wz xX).2 D8 yz1 yz6 yz7 yz13);have D10:DefD P w K mg base _ _ _ GK:=okd (t10 X G) CN ((wA nW).2 D0);have D11:DefD P w K mg base _ _ _ GJ:=okd (t11 X G) JK ((Bm xX).2 D8 Z.m_MOST_PLACES yz2 yz6 yz7 yz13);have D12:DefD P w K mg base _ _ _ zE:=okd (t12 X G) vq ((m6 GJ).2 D11);have D13:DefD P w K mg base _ _ _ GQ:=okd (t13 X G) BL ((DY zE jW).2 D12 D1 yz13);have D14:DefD P w K mg base _ _ _ GC:=okd (t14 X G) mq ((m5 Gz).2 D9 Z.m_MOST_PLACES yz1 yz6 yz7 yz12 yz13);have D15:DefD P w K mg base _ _ _ Frs:=okd (t15 X G) sG ((kh nW).2 D0 Z.m_MOST_STEPS);have M16:MethD P w K mg base _ "Walk" _ _ _ _ cM:=Mr t16 Z.o_Walk.at_ Z.o_Walk.cls wL ((oM).2 Z.o_Walk yz7);have D17:DefD P w K mg base _ _ _ zG:=okd (t17 X G) sE ((j9 GK cM).2 D10 M16 yz7);have D18:DefD P w K mg base _ _ _ zx:=okd (t18 X G) JM ((Bp).2 yz10 yz13);have D19:DefD P w K mg base _ _ _ G9:=okd (t19 X G) Gq ((yJ).2 yz7 yz10 yz12 yz13 yz14);have M20:MethD P w K mg base _ "Walk" _ _ _ _ Fin:=Mr t20 Z.o_Walk.at_ Z.o_Walk.cls vp ((mZ GC).2 D14 Z.o_Walk yz12);have W_Walk:ClsD P w K mg base _ "Walk" jj:=UL M20 (λz z z z z z us hl=>match us,hl with | [_,_],_=>rfl) (λC hC=>by have q:=hC.symm.trans Z.o_Walk.at_;cases q;exact Z.k_Walk) Sh
 have M21:MethD P w K mg base _ "Walk" _ _ _ _ vC:=Mr t21 Z.o_Walk.at_ Z.o_Walk.cls qH ((lU zE Frs G9).2 D12 D15 D19 Z.o_Walk yz7 yz10);have M22:MethD P w K mg base _ "Walk" _ _ _ _ G6:=Mr t22 Z.o_Walk.at_ Z.o_Walk.cls qI ((rM zx vC).2 D18 M21 Z.o_Walk yz7 yz10 yz13);have D23:DefD P w K mg base _ _ _ xY:=okd (t23 X G) xR ((qF).2 Z.o_Walk yz4 yz13);have D24:DefD P w K mg base _ _ _ zr:=okn (λN=>eX N) (t24 X G) m8 Sx λN=>(iW N).2
 have D25:DefD P w K mg base _ _ _ Lz:=okd (t25 X G) yK ((u6 xY zr cM).2 D23 D24 M16 yz7 yz10 yz11 yz13);have D26:DefD P w K mg base _ _ _ Hb:=okd (t26 X G) sH ((nH Lz).2 D25 yz1 yz11 yz13);have D27:DefD P w K mg base _ _ _ zq:=okn (λN=>fW N) (t27 X G) o4 Sw λN=>(jK N).2 yz7 yz10
 have D28:DefD P w K mg base _ _ _ Hc:=okd (t28 X G) m9 ((iY zG zq cM).2 D17 D27 M16 Z.o_Walk yz7 yz10);have D29:DefD P w K mg base _ _ _ G7:=okd (t29 X G) wN ((rN Hc GQ jj cM).2 D28 D13 W_Walk M16 Z.o_Walk yz4 yz7 yz13);have D30:DefD P w K mg base _ _ _ G3:=okd (t30 X G) ut ((f9 Hb cM).2 D26 M16 yz7 yz10 yz13);have D31:DefD P w K mg base _ _ _ For:=okd (t31 X G) CQ ((pQ G3 G7 cM).2 D30 D29 M16 yz7 yz10 yz13);have D32:DefD P w K mg base _ _ _ Ha:=okd (t32 X G) uH ((pR qN G5).2 D7 D6 yz14);have K33:DefK P w K mg base _ _ _ _ uv:=VF (t33 X G) qK ((lY For zG zx Ha zA cM vC).2 D31 D17 D18 D32 D5 M16 M21 yz7 yz12);have D34:DefD P w K mg base _ _ _ uK:=okd (t34 X G) xT ((qG nW).2 D0);have D35:DefD P w K mg base _ _ _ zz:=okd (t35 X G) uG ((wD jW jj).2 D1 W_Walk Z.o_Walk yz13);have G36:DefF P w K mg base _ _ _ _ GX:=VD (g36.ex X G) Eh ((Bo uK jj cM).2 D34 W_Walk M16 Z.o_Walk yz7 yz10 yz13);have D37:DefD P w K mg base _ _ _ CV:=okd (t37 X G) JH ((Bl jj G6).2 W_Walk M22);have D38:DefD P w K mg base _ _ _ Hd:=okd (t38 X G) yL ((u9 For GR zz jj cM).2 D31 D2 D35 W_Walk M16 Z.o_Walk yz7 yz10 yz13);have D39:DefD P w K mg base _ _ _ zm:=okd (t39 X G) wM ((oN).2 yz7);have D40:DefD P w K mg base _ _ _ G4:=okd (t40 X G) su ((uC).2 );have D41:DefD P w K mg base _ _ _ zy:=okd (t41 X G) oZ ((jJ).2 yz5 yz9);have D42:DefD P w K mg base _ _ _ qM:=okd (t42 X G) rZ ((nF G4).2 D40);have D43:DefD P w K mg base _ _ _ zF:=okd (t43 X G) uE ((pP qM).2 D42 yz7 yz10 yz13);have D44:DefD P w K mg base _ _ _ zH:=okd (t44 X G) sy ((nG qM zF).2 D42 D43 yz8 yz10 yz13);have D45:DefD P w K mg base _ _ _ G8:=okd (t45 X G) jD ((fJ zH).2 D44 yz4 yz7 yz13);have D46:DefD P w K mg base _ _ _ wW:=okn (λN=>gC N qM) (t46 X G) qJ S6 λN=>(lV N qM).2 D42 yz7 yz8 yz10
 have D47:DefD P w K mg base _ _ _ zu:=okd (t47 X G) mj ((il qN cM uv).2 D7 M16 K33 yz7 yz10);have D48:DefD P w K mg base _ _ _ GZ:=okd (t48 X G) jC ((fH Hd For zu qN uv GX).2 D38 D31 D47 D7 K33 G36 yz4 yz10 yz13);have D49:DefD P w K mg base _ _ _ GD:=okd (t49 X G) iC ((dX CV cM vC).2 D37 M16 M21 yz5 yz7 yz10 yz13);exact ((VB (P:=P) (w:=w) (base:=base) F JL λcdv A outer s H E hr=>(Gf zm zy G8 wW GD GZ jj).2 D39 D41 D45 D46 D49 D48 W_Walk yz7 yz13 hr).imp λvs H Q E h=>TF Z.nl h).mono (by decide)
theorem walk{l:PySem.W.OpenLaw}{q:Program}{loose:List Str}{XP:(Str->Option Value)->Heap->Prop}{YP:World->Heap->Prop}{d:DefRec}{K:Params->PySem.W.Frag}(hn:l.most=some 63)(hdf:d.params.defaults=[])
  (hY:∀(w:World) (h:Heap),YP w h->(K w.params).In h)
  (F:∀(w:World) (mg:Str->Option Value) (fa:Addr) (h:Heap),(K w.params).In h->h.Ns mainGlobals mg->mg d.name=some (.ref fa)->
    ∃fd:FuncData,(∀(s:Shared) (u:Value),BindsTo s fd ⟨[u],[]⟩ [("_law_script",u)])/\∀base:Heap,(K w.params).In base->base.Ns mainGlobals mg->FnOk l.prog w (K w.params) mg base (dG l.prog w) 16 fa fd ["_law_script"] (spLaw (K w.params))) :
  PySem.W.WalkO q loose XP YP l.row.toRowW d [] (λf vs=>PySem.call f vs):=
 L2.walk_of (n:=63) (k:=16) (x := "_law_script") (CX:=λw=>dG l.prog w) (sp:=λw=>spLaw (K w.params)) hn (by decide) hdf ⟨rfl,by decide,by decide,rfl⟩ hY F (λy y a ns hl y hS=>⟨a,ns,rfl,hS,hl,λy=>rfl⟩) λy y y y y z=>by obtain⟨_,_,_,_,_,_,_,_,_,_,_,_,_,q⟩:=z;exact q.elim
end K
open PySem PySem.W PyProof.Rows
set_option maxRecDepth 100000 in
set_option maxHeartbeats 0 in
theorem PySem.Challenge.cw_fadewalk_k75_whole_separation_of_made_wa_holds : PySem.Challenge.rw_fadewalk_k75_whole_separation_of_made_wa.Holds := by
 w_on;refine T.cut ?_
 k_fill
 refine K.walk (l:=PySem.Challenge.rw_fadewalk_k75_whole_separation_of_made_wa) rfl rfl (λw h Y=>PySem.W.kIn_of Y) ?F
 case F=>
  intro w mg fa h KX G hmg
  refine' K.all_mk hmg KX G ?t0 ?t1 ?t2 ?t3 ?t4 ?t5 ?t6 ?t7 ?t8 ?t9 ?t10 ?t11 ?t12 ?t13 ?t14 ?t15 ?t16 ?t17 ?t18 ?t19 ?t20 ?t21 ?t22 ?t23 ?t24 ?t25 ?t26 ?t27 ?t28 ?t29 ?t30 ?t31 ?t32 ?t33 ?t34 ?t35 ?t37 ?t38 ?t39 ?t40 ?t41 ?t42 ?t43 ?t44 ?t45 ?t46 ?t47 ?t48 ?t49 ?t50 ?g36 ?z0 ?z1 ?z2 ?z3 ?z4 ?z5 ?z6 ?z7 ?z8 ?z9 ?z10 ?z11 ?z12 ?z13 ?z14 (K.Pz KX G ?g_MOST_PLACES ?g_MOST_STEPS ?cm_Walk ?pg_Walk ?hd_Walk ?po_Walk ?sa_Walk ?mk_Walk ?kc_Walk ?nf_Walk_rows ?nf_Walk_whole ?nl)
  case cm_Walk=>k_is
  case g_MOST_PLACES | g_MOST_STEPS | pg_Walk | hd_Walk | po_Walk | sa_Walk | mk_Walk | kc_Walk | nf_Walk_rows | nf_Walk_whole | nl=>first | k_is | k_exc | kernel_rfl
  case t16 | t20 | t21 | t22=>apply L2.Iu<;>k_is
  case t0 | t1 | t2 | t3 | t4 | t5 | t6 | t7 | t8 | t9 | t10 | t11 | t12 | t13 | t14 | t15 | t17 | t18 | t19 | t23 | t24 | t25 | t26 | t27 | t28 | t29 | t30 | t31 | t32 | t33 | t34 | t35 | t37 | t38 | t39 | t40 | t41 | t42 | t43 | t44 | t45 | t46 | t47 | t48 | t49 | t50=>apply L3.Ug<;>k_is
  case g36=>
   refine' L3.Uh 1 rfl ?qa ?ql ?qc ?qk ?qb
   case qa | ql | qc | qk=>k_is
   case qb=>exact λS us hl=>match us,hl with | [_],_=>rfl
  case z0 | z1 | z2 | z3 | z4 | z5 | z6 | z7 | z8 | z9 | z10 | z11 | z12 | z13 | z14=>delta L3.TB;k_is
