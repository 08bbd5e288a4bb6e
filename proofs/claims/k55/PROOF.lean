import PyProof.Rows.All
import Wide.All
import KE.KNestM
import KE.KLam
import KE.KPar
import KE.KFromBytes
import KE.KIsAll
import KE.KxBytes
import Wide.FinOn
import Lean
import PyProof.EqAt
import PyProof.EqKinds
import PyProof.TupleCall
import PyProof.ReprRoads
import PyProof.P3Eq
import PyProof.NeData
import PyProof.ReprLen
import PyProof.Rows.RegStrFacts
import OpenK.KOwn
import PyProof.StationsW
import PyProof.Rows.Catch
import PyProof.Rows.Own
import PyProof.RulesAs
import PyProof.ExcBaseAll.ValueError
import PyProof.NsDelKeeps
import PyProof.ExcArgsOwn
import PyProof.ExcAttrAll.ValueError
import PyProof.CompFree
import PyProof.CompMap
import PyProof.ConsumeWalk
import PyProof.SumWalk
import PyProof.Rows.TupIter
import PyProof.Rows.SumGenD
import PyProof.FString
import PyProof.Rows.FStr
import PyProof.Rows.RuleIs
import PyProof.FactsAll.tuple_iterator_1
import PyProof.FactsAll.tuple_2
import PyProof.FactsAll.list_3
import PyProof.Cells
import PyProof.ZipIter
import PyProof.EnumMake
import PyProof.EnumFor
import PyProof.ListRange
import PyProof.TupleOfSeq
import PyProof.AttrMissHeap
import KE.KDictOf
import KE.KItemsList
import KE.KDictLaws
import PyProof.DictRoadsH
import PyProof.DictValues
import PyProof.DictItemsLoops
import PyProof.DictWalks
import PyProof.Rows.SetFrom
import PyProof.Rows.SortShell
import PyProof.CollectWalk
import PyProof.FactsAll.set_1
import PyProof.Rows.SortWalk
import PyProof.FactsAll.set_2
import KE.KDictSum
import PyProof.Rows.Range3
import PyProof.Conv_bool
import KE.KRevIter
import PyProof.FactsAll.range_2
import KE.KSortTup
import PyProof.WalkInts
import PyProof.TupleKey
import PyProof.IsRules
import KE.KTupSum
import PyProof.SeqI3
import PyProof.Conv_int_bool
import PyProof.ListOps
import PyProof.CallStr
import PyProof.StrOps
import PySem.Challenge.RW_fadewalk_k55_rules_known
set_option Elab.async false
set_option maxRecDepth 100000
set_option maxHeartbeats 8000000
namespace T
open PySem PySem.W PyProof.Rows
/-- the top's run over a tree -/
noncomputable def runT (p:Program) (w:World) (m:Nat) (a:Option Value):Nat->SharedT->Thread->Option SharedT
 | 0,_,_=>none
 | n + 1,s,t=>match through t with
   | true=>some s
   | false=>match stepOk m a t with
     | false=>none
     | true=>match stepT (denote treeTable) p w s t with
       | some r=>runT p w m a n r.1 r.2
       | none=>none
theorem run_of {p:Program}{w:World}{m:Nat}{a:Option Value}:∀ {n:Nat}{s s':SharedT}{t:Thread},runT p w m a n s t=some s'->topRun treeTable p w m a n s.abs t=some s'.abs
 | 0,_,_,_,h=>by cases h
 | n + 1,s,s',t,h=>by
   unfold runT at h
   unfold topRun
   cases ht:through t with
   | true=>rw [ht] at h;cases h;rfl
   | false=>
     rw [ht] at h
     cases hk:stepOk m a t with
     | false=>rw [hk] at h;cases h
     | true=>
       rw [hk] at h
       cases hs:stepT (denote treeTable) p w s t with
       | none=>rw [hs] at h;cases h
       | some r=>obtain ⟨s2,t2⟩:=r;rw [hs] at h;rw [stepT_spec hs];exact run_of h
noncomputable def grow:List Obj->Nat->BT->BT
 | [],_,t=>t
 | o::l,n,t=>grow l (n + 1) (t.ins n o)
noncomputable def bootT (B:Heap) (os:OsState):SharedT:=⟨grow B.objs.toList 0 .nil,B.objs.size,B.life,#[],boot_drawn,boot_toks,os⟩
noncomputable def bootA (w:World) (os:OsState):Shared:=⟨boot_heap w.params,#[],boot_drawn,boot_toks,os⟩
theorem boot_abs (w:World) (os:OsState):(bootT (boot_heap w.params) os).abs=bootA w os:=by kernel_rfl
theorem boot_ns (w:World):((boot_heap w.params).isNs mainGlobals && (#[]:Array GenState).size == 0)=true:=by kernel_rfl
noncomputable def chk {α:Type} (p q:Program) (loose:List Str) (Xt:Shared->Bool) (Yf:Shared->α) (N:Nat) (B:Heap) (w:World) (os:OsState):=
 (runT p w B.objs.size (B.nsMap mainGlobals "__annotations__") N (bootT B os) (topStub p)).map fun s=>
   (staticsOk (importedModules p.main.body) B s.abs.heap && namesBound p s.abs.heap && gensDone s.abs && laidKept B s.abs.heap,openSeen q loose (importedModules p.main.body) Xt true s.abs,Yf s.abs)
theorem chk_split {α:Type}{p q:Program}{loose:List Str}{Xt:Shared->Bool}{Yf:Shared->α}{N:Nat}{B:Heap}{w:World}{os:OsState}{g}{b:α} (h1:chk p q loose Xt (fun _=>()) N B w os=some (true,g,())) (h2:(runT p w B.objs.size (B.nsMap mainGlobals "__annotations__") N (bootT B os) (topStub p)).map (fun s=>Yf s.abs)=some b):chk p q loose Xt Yf N B w os=some (true,g,b):=by
 unfold chk at *
 cases hr:runT p w B.objs.size (B.nsMap mainGlobals "__annotations__") N (bootT B os) (topStub p) with
 | none=>rw [hr] at h1;cases h1
 | some s=>
   rw [hr] at h1 h2
   simp only [Option.map_some,Option.some.injEq,Prod.mk.injEq] at *
   exact ⟨h1.1,h1.2.1,h2⟩
theorem left {α:Type}{p q:Program}{loose:List Str}{Xt:Shared->Bool}{Yf:Shared->α}{Ya:World->α}{N:Nat} (e:opening p=plainProg p.main.scope.names) (hN:Nat.ble 600 N=true) (f:∀ s,fenceModules? p s=some s)
  (h:∀ (w:World) (os:OsState),chk p q loose Xt Yf N (boot_heap w.params) w os=some (true,openGood q loose,Ya w)):LeftO p q loose Xt Yf Ya N:=fun w=>by
 obtain ⟨⟨hh,gs,d,k,os⟩,e1,e2⟩:=Option.map_eq_some_iff.mp (boot_open (N:=N) e hN f w)
 obtain ⟨rfl,rfl,rfl,rfl⟩:hh=boot_heap w.params∧gs=#[]∧d=boot_drawn∧k=boot_toks:=by simpa using e2
 obtain ⟨s,r1,r2⟩:=Option.map_eq_some_iff.mp (h w os)
 have r:=run_of r1
 rw [boot_abs] at r
 obtain ⟨l1,l2,l3⟩:_∧_∧_:=by simpa only [Prod.mk.injEq] using r2
 unfold openEnds topFrom
 rw [e1]
 show (match (boot_heap w.params).isNs mainGlobals && (#[]:Array GenState).size == 0 with | true=>_ | false=>_:Option Shared).map _=_
 rw [boot_ns]
 show ((topRun treeTable p w (boot_heap w.params).objs.size _ N (bootA w os) (topStub p)).bind _).map _=_
 rw [r]
 show (match staticsOk (importedModules p.main.body) (boot_heap w.params) s.abs.heap && namesBound p s.abs.heap && gensDone s.abs && laidKept (boot_heap w.params) s.abs.heap with | true=>_ | false=>_:Option Shared).map _=_
 rw [l1]
 show some (openSeen q loose (importedModules p.main.body) Xt true s.abs,Yf s.abs)=some _
 rw [l2,l3]
noncomputable def tp (i:Nat):Stmt:=PySem.Challenge.pw_fadewalk_k55_rules_known.main.body.getD i (.Pass ⟨0,0,0,0⟩)
noncomputable def view:Program:={ PySem.Challenge.pw_fadewalk_k55_rules_known with main:={ PySem.Challenge.pw_fadewalk_k55_rules_known.main with body:=[tp 0,tp 2,tp 3,tp 4,tp 5,tp 6,tp 7,tp 8,tp 9,tp 10,tp 11,tp 12,tp 13,tp 14,tp 15,tp 16,tp 17,tp 18,tp 19,tp 20,tp 21,tp 22,tp 24,tp 25,tp 26,tp 28,tp 29,tp 30,tp 31,tp 32,tp 33,tp 35,tp 36,tp 37,tp 38,tp 39,tp 41,tp 42,tp 43,tp 44,tp 45,tp 46,tp 48,tp 49,tp 50,tp 51,tp 52,tp 53,tp 55,tp 56,tp 58,tp 59,tp 60,tp 61,tp 62,tp 63,tp 64,tp 65,tp 66,tp 67,tp 68,tp 69,tp 70,tp 71,tp 72,tp 73,tp 74,tp 75,tp 76] } }
noncomputable def loos:List Str:=["Walk", "unmet"]
noncomputable def lvs:List (Str×WData):=[]
noncomputable def lhsA (B:Heap) (w:World) (os:OsState):=chk PySem.Challenge.pw_fadewalk_k55_rules_known view loos (fun s=>xlAt view lvs s && recOk (RowW.records (OpenRow.toRowW (OpenLaw.row PySem.Challenge.rw_fadewalk_k55_rules_known))) s) (fun _=>()) 12872 B w os
noncomputable def lhsB (B:Heap) (as ts:List Addr) (w:World) (os:OsState):=(runT PySem.Challenge.pw_fadewalk_k55_rules_known w B.objs.size (B.nsMap mainGlobals "__annotations__") 12872 (bootT B os) (topStub PySem.Challenge.pw_fadewalk_k55_rules_known)).map fun s=>(as.map s.abs.heap.get?,ts.map s.abs.heap.get?)
noncomputable def rhsA:=some (true,openGood view loos,())
noncomputable def rhsB (K:Params->Frag) (ts:List Addr) (w:World):=some ((K w.params).map fun p=>some p.2,ts.map fun _=>some (tabObj #[]))
end T
noncomputable def PySem.W.Fast.tw13844658529371478824:PySem.Program:=PySem.Challenge.pw_fadewalk_k55_rules_known
theorem PySem.W.Fast.te13844658529371478824:PySem.Challenge.pw_fadewalk_k55_rules_known=PySem.W.Fast.tw13844658529371478824:=rfl
namespace T
open PySem PySem.W PyProof.Rows
lay_quick T.lhsA T.rhsA T.lhsB T.rhsB
theorem ckA (w:World) (os:OsState):PySem.W.Fast.tw17970667094161443087 (boot_heap w.params) w os=PySem.W.Fast.tw3884460590892669883:=by kernel_rfl
theorem hook {K:Params->Frag}{as:List Addr}{e:∀ P,as=(K P).map (·.1)}{ts:List Addr} (h:∀ (w:World) (os:OsState),PySem.W.Fast.tw311929338941568779 (boot_heap w.params) as ts w os=PySem.W.Fast.tw5839847740725912465 K ts w) :
  LeftO PySem.Challenge.pw_fadewalk_k55_rules_known view loos (fun s=>xlAt view lvs s && recOk (RowW.records (OpenRow.toRowW (OpenLaw.row PySem.Challenge.rw_fadewalk_k55_rules_known))) s) (Hook.obs (kmHook K as e ts)) (Hook.val (kmHook K as e ts)) 12872:=
 left rfl (by decide) (fun _=>rfl) fun w os=>by
  have a:lhsA (boot_heap w.params) w os=rhsA:=by rw [PySem.W.Fast.te17970667094161443087,PySem.W.Fast.te3884460590892669883];exact ckA w os
  have b:lhsB (boot_heap w.params) as ts w os=rhsB K ts w:=by rw [PySem.W.Fast.te311929338941568779,PySem.W.Fast.te5839847740725912465];exact h w os
  exact chk_split a b
local macro_rules
 | `(tactic| o_head $H)=>`(tactic| (
   refine PySem.W.holds_open (q:=T.view) (loose:=T.loos)
    (Xt:=fun s=>PySem.W.xlAt T.view T.lvs s && PySem.W.recOk (PySem.W.RowW.records (PySem.W.OpenRow.toRowW (PySem.W.OpenLaw.row PySem.Challenge.rw_fadewalk_k55_rules_known))) s)
    (XP:=PySem.W.XL T.view T.lvs) (Yf:=PySem.W.Hook.obs $H) (Ya:=PySem.W.Hook.val $H)
    (YP:=PySem.W.Hook.says $H) (N:=12872) ?hl (PySem.W.Hook.of $H) (PySem.W.Hook.keeps $H)
    (fun s e=>PySem.W.xl_of s (Bool.and_eq_true_iff.mp e).1) PySem.W.XL.keeps rfl rfl rfl
    (fun s e=>PySem.W.recFacts_of (Bool.and_eq_true_iff.mp e).2) rfl
    (by first | assumption | decide +kernel) (by decide +kernel)
    ⟨rfl,rfl,rfl,rfl,rfl,by decide +kernel⟩ ?hw ?hc;(case hl=>exact T.hook (fun w os=>by kernel_rfl))))
open_top cut for PySem.Challenge.rw_fadewalk_k55_rules_known
end T
set_option linter.all false
namespace L2
open PySem PySem.Spec PyProof.Rows
abbrev Key:=Sum Int Str
def keyIs:Key->Value->Bool
 |.inl k,v=>Value.isInt k v
 |.inr x,v=>Value.isStrOf x v
def keyH(w:World):Key->Int
 |.inl k=>hashInt k
 |.inr x=>hashStr w x
theorem keyIs_shape:∀ {k:Key}{v:Value},keyIs k v=true->(∃ i t,k=Sum.inl i∧v=Value.int i t)∨(∃ x t,k=Sum.inr x∧v=Value.str x t)
 |.inl i,v,h=>by
   obtain⟨t,e⟩:=Value.isInt_shape (k:=i) (v:=v) h
   exact .inl ⟨i,t,rfl,e⟩
 |.inr x,v,h=>by
   obtain⟨t,e⟩:=Value.isStrOf_shape (x:=x) (v:=v) h
   exact .inr ⟨x,t,rfl,e⟩
theorem keyIs_int(i:Int)(t:Tok):keyIs (.inl i) (.int i t)=true:=by simp[keyIs,Value.isInt]
theorem keyIs_str(x:Str)(t:Tok):keyIs (.inr x) (.str x t)=true:=by simp[keyIs,Value.isStrOf]
theorem key_ll(a b:Int):decide ((Sum.inl a:Key)=Sum.inl b)=(a==b):=by
 by_cases e:a=b
 ·subst e;simp
 ·have h:¬ (Sum.inl a:Key)=Sum.inl b:=fun q=>e (Sum.inl.inj q)
  rw[decide_eq_false h]
  exact (beq_eq_false_iff_ne.mpr e).symm
theorem key_rr(a b:Str):decide ((Sum.inr a:Key)=Sum.inr b)=decide (a=b):=by
 by_cases e:a=b
 ·subst e;simp
 ·have h:¬ (Sum.inr a:Key)=Sum.inr b:=fun q=>e (Sum.inr.inj q)
  rw[decide_eq_false h,decide_eq_false e]
theorem key_lr(a:Int)(b:Str):decide ((Sum.inl a:Key)=Sum.inr b)=false:=decide_eq_false (fun q=>nomatch q)
theorem key_rl(a:Str)(b:Int):decide ((Sum.inr a:Key)=Sum.inl b)=false:=decide_eq_false (fun q=>nomatch q)
def mixKind (prog:Program) (w:World):PySem.KeyKind prog w Key where
 is:=keyIs
 hash:=keyH w
 inj:=fun v a b ha hb=>by
  rcases keyIs_shape ha with ⟨i,t,rfl,rfl⟩ | ⟨x,t,rfl,rfl⟩
  ·rcases keyIs_shape hb with ⟨j,u,rfl,e⟩ | ⟨y,u,rfl,e⟩
   ·injection e with e1 _;rw[e1]
   ·exact nomatch e
  ·rcases keyIs_shape hb with ⟨j,u,rfl,e⟩ | ⟨y,u,rfl,e⟩
   ·exact nomatch e
   ·injection e with e1 _;rw[e1]
 byValue:=fun k v h=>by
  rcases keyIs_shape h with ⟨i,t,rfl,rfl⟩ | ⟨x,t,rfl,rfl⟩<;>rfl
 pyHash:=fun hv h=>by
  rcases keyIs_shape hv with ⟨i,t,rfl,rfl⟩ | ⟨x,t,rfl,rfl⟩
  ·exact wpAny_pyHash_int h
  ·exact wpAny_pyHash_str h
 eqBool:=fun hu hv h=>by
  rcases keyIs_shape hu with ⟨i,t,rfl,rfl⟩ | ⟨x,t,rfl,rfl⟩
  ·rcases keyIs_shape hv with ⟨j,u,rfl,rfl⟩ | ⟨y,u,rfl,rfl⟩
   ·rw[key_ll] at h;exact wpAny_eqBool_int h
   ·rw[key_lr] at h;exact SeqAt.EqAt.int_str i t y u _ _ _ _ h
  ·rcases keyIs_shape hv with ⟨j,u,rfl,rfl⟩ | ⟨y,u,rfl,rfl⟩
   ·rw[key_rl] at h;exact SeqAt.EqAt.str_int x t j u _ _ _ _ h
   ·rw[key_rr] at h;exact wpAny_eqBool_str h
 «strs»:=fun k x t v h=>by
  rcases keyIs_shape h with ⟨i,u,rfl,e⟩ | ⟨y,u,rfl,e⟩
  ·exact nomatch e
  ·injection e with e1 _
   subst e1
   cases v<;>rfl
theorem mixKind_int(prog:Program)(w:World)(i:Int)(t:Tok):(mixKind prog w).is (.inl i) (.int i t)=true:=keyIs_int i t
theorem mixKind_str(prog:Program)(w:World)(x:Str)(t:Tok):(mixKind prog w).is (.inr x) (.str x t)=true:=keyIs_str x t
open PySem PySem.Spec PyProof.Rows
inductive V where
 |non | bl (b:Bool) | int (i:Int) | str (x:Str) | byt (b:Array UInt8) | flt (b:UInt64) | ref (a:Addr) | ty (n:String)
 deriving DecidableEq
def RelV:V->Value->Prop
 |.non,u=>u=Value.none
 |.bl b,u=>u=Value.bool b
 |.int i,u=>∃t,u=Value.int i t
 |.str x,u=>∃t,u=Value.str x t
 |.byt b,u=>∃t,u=Value.bytes b t
 |.flt b,u=>∃t,u=Value.float b t
 |.ref a,u=>u=Value.ref a
 |.ty n,u=>u=Value.type n
abbrev Vals:List V->List Value->Prop:=Paired RelV
theorem Vals.length(r:Vals xs us):xs.length=us.length:=Paired.length r
theorem Vals.get:∀ {xs:List V}{us:List Value}{i:Nat}{x:V},Vals xs us->xs[i]?=some x->∃ u,us[i]?=some u∧RelV x u
 |_,_,_,_,.nil,e=>by simp at e
 |_,_,0,_,.cons r _,e=>by simp at e;subst e;exact⟨_,rfl,r⟩
 |_,_,i+1,x,.cons _ t,e=>by
   obtain⟨u,h1,h2⟩:=Vals.get (i:=i) (x:=x) t (by simpa using e)
   exact⟨u,by simpa using h1,h2⟩
theorem Vals.set(r:RelV x u):∀{xs:List V}{us:List Value} (i:Nat),Vals xs us->Vals (xs.set i x) (us.set i u)
 |_,_,_,.nil=>.nil
 |_,_,0,.cons _ t=>.cons r t
 |_,_,i+1,.cons q t=>.cons q (Vals.set r i t)
theorem Vals.append:∀{xs ys:List V}{us ws:List Value},Vals xs us->Vals ys ws->Vals (xs++ys) (us++ws)
 |_,_,_,_,.nil,s=>s
 |_,_,_,_,.cons r t,s=>.cons r (Vals.append t s)
theorem Vals.take:∀{xs:List V}{us:List Value} (n:Nat),Vals xs us->Vals (xs.take n) (us.take n)
 |_,_,0,_=>.nil
 |_,_,_+1,.nil=>.nil
 |_,_,n+1,.cons r t=>.cons r (Vals.take n t)
theorem Vals.drop:∀{xs:List V}{us:List Value} (n:Nat),Vals xs us->Vals (xs.drop n) (us.drop n)
 |_,_,0,r=>r
 |_,_,_+1,.nil=>.nil
 |_,_,n+1,.cons _ t=>Vals.drop n t
theorem Vals.none_of:∀{xs:List V}{us:List Value}{i:Nat},Vals xs us->xs[i]?=none->us[i]?=none:=fun {xs us i} r e=>by
 have h1:=r.length
 have h2:xs.length≤i:=List.getElem?_eq_none_iff.mp e
 exact List.getElem?_eq_none_iff.mpr (by omega)
def RelO:Option V->Option Value->Prop
 |some v,some u=>RelV v u
 |none,none=>True
 |_,_=>False
def KV{κ:Type}:List (κ×V)->List (κ×Value)->Prop:=Paired fun (p:κ×V) (q:κ×Value)=>p.1=q.1∧RelV p.2 q.2
def kV:Key->V
 |.inl i=>.int i
 |.inr x=>.str x
inductive HO where
 /-- a list -/
 |lst (xs:List V)
 /-- a tuple (never changes) -/
 |tup (xs:List V)
 /-- a dict whose keys are ints and texts;one whose keys are tuples of ints and texts (the empty one is both) -/
 |dK (kvs:List (Key×V)) | dT (kvs:List (List Key×V))
 /-- a set of ints: its members,its size -/
 |set (S:Int->Bool) (n:Nat)
 /-- an instance of the class at C,its dict at dx,its attributes -/
 |ins (C dx:Addr) (fs:List (Str×V))
 /-- the dict of the instance at x -/
 |own (x:Addr)
 /-- the dict of an exception -/
 |xd (fs:List (Str×V))
 /-- a bound method,f of x -/
 |met (f x:Addr)
 /-- a range object lo,lo+1,.. below hi -/
 |rng (lo hi:Int)
 /-- a thing that is known to the object (the script;a dict while a loop walks it): read,never written while it is so -/
 |frz (o:Obj) (u:HO)
 /-- a code object's table -/
 |tbl (ps:Array Value)
 /-- any other thing,by what is true of its one object (a def of one's own: SetO a S n:=HO.ext fun h=>..) -/
 |ext (φ:Heap->Prop)
abbrev Hp:=Addr->Option HO
def upd(H:Hp)(a:Addr)(o:HO):Hp:=fun b=>if b=a then some o else H b
theorem upd_same{H:Hp}{a:Addr}{o:HO}:upd H a o a=some o:=by unfold upd;rw[if_pos rfl]
theorem upd_ne{H:Hp}{a b:Addr}{o:HO}(h:b≠a):upd H a o b=H b:=by unfold upd;rw[if_neg h]
theorem upd_upd:upd (upd H a o) a u=upd H a u:=by
 funext b;unfold upd;split<;>rfl
theorem ne_of_none{H:Hp}{a b:Addr}{o:HO}(h:H a=some o)(h':H b=none):a≠b:=by
 intro e;subst e;rw[h] at h';cases h'
def RecAt(H:Hp)(v:Value):Prop:=∃c o fs q t,v=.ref c∧H c=some (.frz o (.own c))∧o.data=.fields fs∧fs[1]?=some (.str q t)
section
variable(P:Program)(w:World)
def ObjOk (H:Hp) (h:Heap) (a:Addr):HO->Prop
 |.lst xs=>xs.length≤sizeLine∧∃(its:List Value) (n:Nat),Vals xs its∧h.get? a=some { cls:=.type "list",data:=.seq its.toArray n }
 |.tup xs=>xs.length≤sizeLine∧∃its:List Value,Vals xs its∧IsTup h a its.toArray
 |.dK kvs=>kvs.length≤sizeLine∧(a==sysModules)=false∧∃vs,KV kvs vs∧h.DictOf (mixKind P w) a vs
 |.dT kvs=>kvs.length≤sizeLine∧(a==sysModules)=false∧∃xs:List (List Key×Addr×Value),
   Paired (fun (p:List Key×V) (q:List Key×Addr×Value)=>p.1=q.1∧H q.2.1=some (.tup (p.1.map kV))∧RelV p.2 q.2.2) kvs xs ∧
   ∃o es ep,h.get? a=some o∧o.ExactDict∧o.data=.dict es ep∧es.toList=xs.map (entryOfKey (tupleKind (mixKind P w)))∧(xs.map (·.1)).Nodup
 |.set S n=>h.SetOf (intKind P w) a S n
 |.ins C dx fs=>H dx=some (.own a)∧fs.length≤1000∧dx≠a∧h.get? a=some (PySem.W.instObj C dx) ∧
   ∃mA,h.Ns1 dx mA∧(∀f,RelO (fs.lookup f) (mA f))∧PySem.Within mA (fs.map (·.1))
 |.own _=>∃o,h.get? a=some o
 |.xd fs=>∃mA,h.Ns1 a mA∧∀f,RelO (fs.lookup f) (mA f)
 |.rng lo hi=>∃t u v,h.get? a=some { cls:=.type "range",data:=.fields #[.int lo t,.int hi u,.int 1 v] }
 |.frz o u=>h.get? a=some o∧ObjOk H h a u
 |.tbl _=>∃ps:Array Value,h.get? a=some { cls:=.none,data:=.fields ps }∧TriplesOk ps.toList∧∀pos cv,codeAmong pos ps.toList=some cv->RecAt H cv
 |.met f x=>h.get? a=some (PySem.W.methodObj (.ref f) (.ref x))
 |.ext φ=>φ h∧(∃o,h.get? a=some o)∧∀h1 h2:Heap,φ h1->(∀o,h1.get? a=some o->h2.get? a=some o)->φ h2
def HOk(H:Hp)(h:Heap):Prop:=∀a o,H a=some o->ObjOk P w H h a o
end
section
variable{P:Program}{w:World}{H H':Hp}{h h':Heap}{a:Addr}{o:HO}
theorem ObjOk.lt(x:ObjOk P w H h a o):a<h.objs.size:=by
 cases o with
 |lst xs=>obtain⟨_,_,_,_,e⟩:=x;exact Heap.lt_size e
 |tup xs=>obtain⟨_,_,_,p⟩:=x;exact p.lt
 |dK kvs=>obtain⟨_,_,_,_,o,_,_,e,_⟩:=x;exact Heap.lt_size e
 |dT kvs=>obtain⟨_,_,_,_,o,_,_,e,_⟩:=x;exact Heap.lt_size e
 |set S n=>obtain⟨o,_,_,_,e,_⟩:=x;exact Heap.lt_size e
 |ins C dx fs=>obtain⟨_,_,_,e,_⟩:=x;exact Heap.lt_size e
 |own y=>obtain⟨_,e⟩:=x;exact Heap.lt_size e
 |xd fs=>obtain⟨_,⟨_,_,_,e,_⟩,_⟩:=x;exact Heap.lt_size e
 |rng lo hi=>obtain⟨_,_,_,e⟩:=x;exact Heap.lt_size e
 |frz ob u=>obtain⟨e,_⟩:=x;exact Heap.lt_size e
 |tbl ps=>obtain⟨_,e,_⟩:=x;exact Heap.lt_size e
 |met f y=>exact Heap.lt_size (show h.get? a=some _ from x)
 |ext φ=>obtain⟨_,⟨_,e⟩,_⟩:=x;exact Heap.lt_size e
theorem Paired.mapP:∀{l₁:List α}{l₂:List β},Paired F l₁ l₂->(∀a b,F a b->G a b)->Paired G l₁ l₂
 |_,_,.nil,_=>.nil
 |_,_,.cons r t,f=>.cons (f _ _ r) (Paired.mapP t f)
theorem ObjOk.stay (x:ObjOk P w H h a o) (k:∀ b u,(b=a∨H b=some (.own a))->h.get? b=some u->h'.get? b=some u)
  (ho:∀b,H b=some (.own a)->H' b=some (.own a)) (ht:∀b xs,H b=some (.tup xs)->H' b=some (.tup xs)) (hf:∀b o,H b=some (.frz o (.own b))->H' b=some (.frz o (.own b)):=by exact fun _ _ q=>q):ObjOk P w H' h' a o:=by
 induction o with
 |lst xs=>obtain⟨z,its,n,r,e⟩:=x;exact⟨z,its,n,r,k _ _ (.inl rfl) e⟩
 |tup xs=>obtain⟨z,its,r,ob,e,c⟩:=x;exact⟨z,its,r,ob,k _ _ (.inl rfl) e,c⟩
 |dK kvs=>obtain⟨z,y,vs,r,ob,es,ep,e,c⟩:=x;exact⟨z,y,vs,r,ob,es,ep,k _ _ (.inl rfl) e,c⟩
 |dT kvs=>
   obtain⟨z,y,xs,r,ob,es,ep,e,c⟩:=x
   exact⟨z,y,xs,Paired.mapP r fun p q z=>⟨z.1,ht _ _ z.2.1,z.2.2⟩,ob,es,ep,k _ _ (.inl rfl) e,c⟩
 |set S n=>obtain⟨ob,es,ep,t,e,c⟩:=x;exact⟨ob,es,ep,t,k _ _ (.inl rfl) e,c⟩
 |ins C dx fs=>
   obtain⟨d,z,ne,e,mA,⟨od,es,ep,e2,c⟩,r⟩:=x
   exact⟨ho _ d,z,ne,k _ _ (.inl rfl) e,mA,⟨od,es,ep,k _ _ (.inr d) e2,c⟩,r⟩
 |own y=>obtain⟨ob,e⟩:=x;exact⟨ob,k _ _ (.inl rfl) e⟩
 |xd fs=>obtain⟨mA,⟨od,es,ep,e,c⟩,r⟩:=x;exact⟨mA,⟨od,es,ep,k _ _ (.inl rfl) e,c⟩,r⟩
 |rng lo hi=>obtain⟨t,u,v,e⟩:=x;exact⟨t,u,v,k _ _ (.inl rfl) e⟩
 |frz ob u ih=>obtain⟨e,q⟩:=x;exact⟨k _ _ (.inl rfl) e,ih q⟩
 |tbl ps=>
   obtain⟨ps',e,z,r⟩:=x
   exact⟨ps',k a _ (.inl rfl) e,z,fun pos cv q=>let ⟨c,o,fs,q',t,g1,g2,g3⟩:=r pos cv q;⟨c,o,fs,q',t,g1,hf c o g2,g3⟩⟩
 |met f y=>
   have e:h.get? a=some (PySem.W.methodObj (.ref f) (.ref y)):=x
   show h'.get? a=some (PySem.W.methodObj (.ref f) (.ref y))
   exact k a _ (.inl rfl) e
 |ext φ=>obtain⟨p,⟨o,e⟩,st⟩:=x;exact⟨st _ _ p fun o q=>k _ _ (.inl rfl) q,⟨o,k _ _ (.inl rfl) e⟩,st⟩
theorem HOk.lt(x:HOk P w H h)(e:H a=some o):a<h.objs.size:=(x a o e).lt
theorem HOk.fresh(x:HOk P w H h)(e:h.objs.size≤a):H a=none:=by
 cases q:H a with
 |none=>rfl
 |some u=>exact absurd (Nat.lt_of_lt_of_le (x.lt q) e) (Nat.lt_irrefl _)
theorem HOk.kept(x:HOk P w H h)(k:∀b u,h.get? b=some u->h'.get? b=some u):HOk P w H h':=fun a o e=>
 (x a o e).stay (fun b u _ q=>k b u q) (fun _ q=>q) fun _ _ q=>q
theorem HOk.laid(x:HOk P w H h)(k:∀b u,h.get? b=some u->h'.get? b=some u)(hp:h.objs.size≤a)(new:ObjOk P w (upd H a o) h' a o):HOk P w (upd H a o) h':=fun b u e=>by
 have hn:=x.fresh hp
 by_cases hb:b=a
 ·subst hb;rw[upd_same] at e;cases e;exact new
 ·rw[upd_ne hb] at e
  exact (x b u e).stay (fun c v _ q=>k c v q) (fun c q=>by rw[upd_ne (ne_of_none q hn)];exact q) (fun c xs q=>by rw[upd_ne (ne_of_none q hn)];exact q) fun c o q=>by rw[upd_ne (ne_of_none q hn)];exact q
end
def Rd(H:Hp)(a:Addr)(u:HO):Prop:=H a=some u∨∃o,H a=some (.frz o u)
theorem Rd.ok(r:Rd H a u)(x:HOk P w H h):ObjOk P w H h a u:=by
 rcases r with r | ⟨o,r⟩
 ·exact x a u r
 ·obtain⟨_,q⟩:=x a _ r
  exact q
def Mut:Option HO->Prop
 |some (.lst _)=>True
 |some (.dK _)=>True
 |some (.dT _)=>True
 |some (.set _ _)=>True
 |some (.ins _ _ _)=>True
 |some (.ext _)=>True
 |_=>False
section
variable{P:Program}{w:World}{H:Hp}{h h':Heap}{x e:Addr}{o':HO}
theorem HOk.write (ok:HOk P w H h) (mu:Mut (H x)) (he:e=x∨H e=some (.own x)) (k:∀ b u,b≠e->h.get? b=some u->h'.get? b=some u) (heo:∃ u,h'.get? e=some u)
  (new:ObjOk P w (upd H x o') h' x o'):HOk P w (upd H x o') h':=fun b u q=>by
 have nown:∀c y,H c=some (.own y)->c≠x:=fun c y r z=>by subst z;rw[r] at mu;exact mu
 have ntup:∀c xs,H c=some (.tup xs)->c≠x:=fun c xs r z=>by subst z;rw[r] at mu;exact mu
 have nfrz:∀c o u,H c=some (.frz o u)->c≠x:=fun c o u r z=>by subst z;rw[r] at mu;exact mu
 by_cases hb:b=x
 ·subst hb;rw[upd_same] at q;cases q;exact new
 ·rw [upd_ne hb] at q
  by_cases hbe:b=e
  ·have q':H b=some (.own x):=by
    rcases he with z | z
    ·exact absurd (hbe.trans z) hb
    ·rw[hbe];exact z
   rw[q] at q';cases q'
   obtain⟨v,hv⟩:=heo
   exact⟨v,by rw[hbe];exact hv⟩
  ·refine (ok b u q).stay (fun c v hc r=>k c v ?_ r) (fun c r=>by rw[upd_ne (nown c b r)];exact r) (fun c xs r=>by rw[upd_ne (ntup c xs r)];exact r) fun c o r=>by rw[upd_ne (nfrz c o _ r)];exact r
   rcases hc with rfl | hc
   ·exact hbe
   ·rintro rfl
    rcases he with z | z
    ·exact nown c b hc z
    ·rw[hc] at z;cases z;exact hb rfl
end
structure Un(fs ex:List Addr)(H H':Hp)(h h':Heap):Prop where
 keep:∀b o,h.get? b=some o->H b=none->b∉fs->b∉ex->h'.get? b=some o
 slot:∀b o,h.get? b=some o->H b=none->b∈fs->b∉ex->∃sl,h'.get? b=some { o with slots:=sl }
 free:∀b o,h.get? b=some o->H b=none->b∉ex->H' b=none
 there:∀b o,h.get? b=some o->b∉ex->∃o',h'.get? b=some o'
 tups:∀b xs,H b=some (.tup xs)->H' b=some (.tup xs)
 frzs:∀b o u,H b=some (.frz o u)->H' b=some (.frz o u)
 tbls:∀b ps,H b=some (.tbl ps)->∃more,H' b=some (.tbl (ps++more))
section
variable{fs fs' ex ex':List Addr}{H H1 H2:Hp}{h h1 h2 h':Heap}{a x e:Addr}{o:HO}
theorem Un.any(u:Un fs ex H H1 h h1)(q:h.get? b=some ob)(n:H b=none)(hx:b∉ex):∃sl,h1.get? b=some { ob with slots:=sl }:=by
 by_cases hb:b∈fs
 ·exact u.slot b ob q n hb hx
 ·exact⟨ob.slots,u.keep b ob q n hb hx⟩
theorem Un.kept(k:∀b u,h.get? b=some u->h'.get? b=some u):Un fs ex H H h h':=
 ⟨fun b ob q _ _ _=>k b ob q,fun b ob q _ _ _=>⟨ob.slots,k b ob q⟩,fun _ _ _ n _=>n,fun b ob q _=>⟨ob,k b ob q⟩,fun _ _ q=>q,fun _ _ _ q=>q,fun _ ps q=>⟨#[],by rw[q];simp⟩⟩
theorem Un.refl:Un fs ex H H h h:=Un.kept fun _ _ q=>q
theorem Un.laid(k:∀b u,h.get? b=some u->h'.get? b=some u)(hp:h.objs.size≤a)(hn:H a=none):Un fs ex H (upd H a o) h h' where
 keep:=fun b u q _ _ _=>k b u q
 slot:=fun b u q _ _ _=>⟨u.slots,k b u q⟩
 free:=fun b u q n _=>by rw[upd_ne (Nat.ne_of_lt (Nat.lt_of_lt_of_le (Heap.lt_size q) hp))];exact n
 there:=fun b u q _=>⟨u,k b u q⟩
 tups:=fun b xs q=>by rw[upd_ne (ne_of_none q hn)];exact q
 frzs:=fun b u xs q=>by rw[upd_ne (ne_of_none q hn)];exact q
 tbls:=fun b ps q=>⟨#[],by rw[upd_ne (ne_of_none q hn),q];simp⟩
theorem Un.write(mu:Mut (H x))(he:e=x∨H e=some (.own x))(k:∀b u,b≠e->h.get? b=some u->h'.get? b=some u)(heo:∃u,h'.get? e=some u):Un fs ex H (upd H x o) h h':=by
 have hx:∀b,H b=none->b≠x:=fun b n z=>by subst z;rw[n] at mu;exact mu
 have hb:∀b,H b=none->b≠e:=fun b n z=>by
  subst z
  rcases he with r | r
  ·exact hx b n r
  ·rw[n] at r;cases r
 have hm:∀b u,H b=some u->¬ Mut (some u)->b≠x:=fun b u q nm z=>by subst z;rw[q] at mu;exact nm mu
 refine⟨fun b u q n _ _=>k b u (hb b n) q,fun b u q n _ _=>⟨u.slots,k b u (hb b n) q⟩,fun b u q n _=>by rw[upd_ne (hx b n)];exact n,fun b u q _=>?_,
  fun b xs q=>by rw[upd_ne (hm b _ q fun z=>z)];exact q,fun b u xs q=>by rw[upd_ne (hm b _ q fun z=>z)];exact q,fun b ps q=>⟨#[],by rw[upd_ne (hm b _ q fun z=>z),q];simp⟩⟩
 by_cases hbe:b=e
 ·subst hbe;exact heo
 ·exact⟨u,k b u hbe q⟩
end
def trk(h:Heap)(H:Hp):List Addr:=(List.range h.objs.size).filter fun a=>(H a).isSome
def hidT(h:Heap)(H:Hp):Heap:=PySem.W.hideAll h (trk h H)
theorem hidT_size(h:Heap)(H:Hp):(hidT h H).objs.size=h.objs.size:=PySem.W.hideAll_size _ _
theorem hidT_get(e:h.get? b=some o)(n:H b=none):(hidT h H).get? b=some o:=
 PySem.W.hideAll_get _ e fun hm=>by
  have q:(H b).isSome=true:=(List.mem_filter.mp hm).2
  rw[n] at q;simp at q
theorem of_hidT (e:(hidT h H).get? b=some o):h.get? b=some o∧H b=none:=by
 have e':h.get? b=some o:=PySem.W.of_hideAll (trk h H) e
 refine⟨e',?_⟩
 cases q:H b with
 |none=>rfl
 |some x=>
   have hm:b∈trk h H:=List.mem_filter.mpr ⟨List.mem_range.mpr (Heap.lt_size e'),by simp[q]⟩
   have z:(hidT h H).get? b=none:=PySem.W.hideAll_none (trk h H) hm
   rw[z] at e;cases e
def allNews(g h:Heap)(L:Addr):List (Addr×Obj):=(List.range h.objs.size).filterMap fun a=>if a=L∨(g.get? a).isSome=true then none else (h.get? a).map fun o=>(a,o)
def rest(g h:Heap)(L d:Addr):List (Addr×Obj):=(allNews g h L).filter fun p=>decide (p.1≠d)
open PySem PySem.Spec PyProof.Rows
structure Mod(K:PySem.W.Frag)(mg:Str->Option Value)(base:Heap):Prop where
 kin:K.In base
 glob:base.Ns mainGlobals mg
 blt:∃mb,base.Ns builtinsNs mb∧∀x:Str,x≠"__name__"->mb x=bootBuiltins x
 nolimit:base.NoLimit
structure Cx where
 prog:Program
 w:World
 K:PySem.W.Frag
 mg:Str->Option Value
 base:Heap
 A:Around
 N:List Str
 s₀:Shared
 H₀:Hp
 env:Env
 outer:List Env
 stack:List Env
 ex:List Addr
 fn:Str->Bool
 calm:Bool
 pn:List (Addr×Obj)
 xe:Value->Shared->Prop
def frs(l:List Env):List Addr:=l.filterMap (·.frame)
abbrev Cx.fs(X:Cx):List Addr:=frs X.outer
def Vis(sc:Scope)(x:Str):Prop:=sc.names.lookup x=some .local∨sc.names.lookup x=some .cell∨sc.names.lookup x=some .free
def Loc(sc:Scope)(x:Str):Prop:=sc.names.lookup x=some .local∨sc.names.lookup x=some .cell
def Look(env:Env)(h:Heap)(m:Str->Option Value)(x:Str)(u:Value):Prop:=
 (env.kindOf x=some .local∧m x=some u)∨((env.kindOf x=some .cell∨env.kindOf x=some .free)∧∃c,env.cells.lookup x=some c∧h.IsCell c (some u))
structure Cx.Ok(X:Cx):Prop where
 mod:Mod X.K X.mg X.base
 kind:X.env.scope.kind=.function
 glob:X.env.globals=mainGlobals
 blt:X.env.builtins=builtinsNs
 above:X.s₀.heap.objs.size≤X.env.locals
 inj:∀x y c,X.env.cells.lookup x=some c->X.env.cells.lookup y=some c->x=y
 has:∀x,(X.env.kindOf x=some .cell∨X.env.kindOf x=some .free)->∃c,X.env.cells.lookup x=some c
 cab:∀x c,X.fn x=true->X.env.cells.lookup x=some c->X.s₀.heap.objs.size≤c
 hd:X.calm=true->X.A.handled=none
 frames:X.A.frames=some X.stack
 stk:X.stack=X.outer∨(X.stack=X.env::X.outer∧X.env.frame=some X.env.locals)
 exf:∀b∈X.ex,b≠X.env.locals∧∀x c,X.env.cells.lookup x=some c->c≠b
 bs:∀b o,X.base.get? b=some o->X.s₀.heap.get? b=some o∧X.H₀ b=none
 bsz:X.base.objs.size≤X.s₀.heap.objs.size
 noex:∀b o,X.base.get? b=some o->b∉X.ex
 exfs:∀b∈X.ex,b∉X.fs
 funs:X.s₀.heap.FunFrames X.base X.outer
 frf:∀b∈X.fs,X.H₀ b=none
structure Inv(X:Cx)(pins:List (Addr×Obj))(σ:List (Option V))(H:Hp)(s:Shared):Prop where
 ok:X.Ok
 os:s.os=X.s₀.os
 bare:AllBare s.gens
 base:Un X.fs X.ex X.H₀ H X.s₀.heap s.heap
 loc:∃m,s.heap.Ns X.env.locals m∧∀(i:Nat) (x:Str) (v:V),X.N[i]?=some x->σ[i]?=some (some v)->Vis X.env.scope x->∃u,RelV v u∧Look X.env s.heap m x u
 cell:∀x c,X.env.cells.lookup x=some c->∃v,s.heap.IsCell c v
 free:H X.env.locals=none
 freeC:∀x c,X.env.cells.lookup x=some c->H c=none
 pin:∀p∈X.pn++pins,s.heap.get? p.1=some p.2∧H p.1=none∧p.1≠X.env.locals∧p.1∉X.fs∧∀v,p.2.data≠.cell v
 hok:HOk X.prog X.w H s.heap
 len:σ.length=X.N.length
section
variable{X:Cx}{pins:List (Addr×Obj)}{σ:List (Option V)}{H H':Hp}{s:Shared}{h':Heap}
theorem Cx.Ok.nofr(ok:X.Ok)(e:X.base.get? b=some o):b∉X.fs:=fun hb=>by
 have:=(ok.funs.mem hb).1
 rw[e] at this;cases this
theorem Inv.bs(I:Inv X pins σ H s):∀b o,X.base.get? b=some o->s.heap.get? b=some o∧H b=none:=fun b o e=>
 ⟨I.base.keep b o (I.ok.bs b o e).1 (I.ok.bs b o e).2 (I.ok.nofr e) (I.ok.noex b o e),I.base.free b o (I.ok.bs b o e).1 (I.ok.bs b o e).2 (I.ok.noex b o e)⟩
theorem Inv.bk(I:Inv X pins σ H s):∀b o,X.base.get? b=some o->s.heap.get? b=some o:=fun b o e=>(I.bs b o e).1
theorem Inv.mod(I:Inv X pins σ H s):Mod X.K X.mg X.base:=I.ok.mod
theorem Inv.kIn(I:Inv X pins σ H s):X.K.In s.heap:=I.ok.mod.kin.keeps I.bk
theorem Inv.fr(I:Inv X pins σ H s):∃m,Fr X.base X.env.locals s.heap m:=
 let ⟨m,hn,_⟩:=I.loc
 ⟨m,hn,I.bk,Nat.le_trans I.ok.bsz I.ok.above⟩
theorem Inv.lt(I:Inv X pins σ H s):X.env.locals<s.heap.objs.size:=let ⟨_,hn,_⟩:=I.loc;hn.lt
theorem Inv.sz(I:Inv X pins σ H s):X.s₀.heap.objs.size≤s.heap.objs.size:=Nat.le_trans I.ok.above (Nat.le_of_lt I.lt)
theorem Inv.nofs(I:Inv X pins σ H s)(h:s.heap.objs.size≤a):a∉X.fs:=fun hb=>by
 obtain⟨_,o,ho,_⟩:=I.ok.funs.mem hb
 exact absurd (Nat.lt_of_lt_of_le (Heap.lt_size ho) (Nat.le_trans I.sz h)) (Nat.lt_irrefl _)
theorem Inv.cne(I:Inv X pins σ H s):∀x c,X.env.cells.lookup x=some c->c≠X.env.locals:=fun x c e z=>by
 obtain⟨v,o,ho,hd⟩:=I.cell x c e
 obtain⟨m,⟨o',es,ep,ho',hd',_⟩,_⟩:=I.loc
 rw[z,ho'] at ho;cases ho;rw[hd'] at hd;cases hd
theorem Inv.funs (I:Inv X pins σ H s):s.heap.FunFrames X.base X.outer:=by
 have all:∀ (l:List Env),(∀ b∈frs l,b∈X.fs)->X.s₀.heap.FunFrames X.base l->s.heap.FunFrames X.base l:=by
  intro l
  induction l with
  |nil=>intro _ _;trivial
  |cons env r ih=>
    intro hs hl
    obtain⟨hk,⟨L,o,hf,hn,ho,hd⟩,hr⟩:=hl
    have hL:L∈X.fs:=hs L (by unfold frs;rw[List.filterMap_cons,hf];exact List.mem_cons_self)
    obtain⟨sl,e⟩:=I.base.slot L o ho (I.ok.frf L hL) hL fun z=>I.ok.exfs L z hL
    exact⟨hk,⟨L,_,hf,hn,e,hd⟩,ih (fun b hb=>hs b (by unfold frs;rw[List.filterMap_cons,hf];exact List.mem_cons_of_mem _ hb)) hr⟩
 exact all X.outer (fun _ hb=>hb) I.ok.funs
theorem Inv.stack(I:Inv X pins σ H s):s.heap.FunFrames X.base X.stack:=by
 rcases I.ok.stk with e | ⟨e,hf⟩
 ·rw[e];exact I.funs
 ·rw[e]
  obtain⟨m,hn,_⟩:=I.loc
  refine .cons (by rw[I.ok.kind];decide) hf hn ?_ I.funs
  exact Heap.get?_none_of_le (Nat.le_trans I.ok.bsz I.ok.above)
theorem Inv.stkSub(I:Inv X pins σ H s):∀b∈frs X.stack,b∈X.env.locals::X.fs:=fun b hb=>by
 rcases I.ok.stk with e | ⟨e,hf⟩
 ·rw[e] at hb;exact List.mem_cons_of_mem _ hb
 ·rw[e] at hb
  unfold frs at hb
  rw[List.filterMap_cons,hf] at hb
  exact hb
theorem Inv.stkFree(I:Inv X pins σ H s):∀b∈frs X.stack,H b=none:=fun b hb=>by
 rcases List.mem_cons.mp (I.stkSub b hb) with e | hb
 ·rw[e];exact I.free
 ·obtain⟨_,o,ho,_⟩:=I.ok.funs.mem hb
  exact I.base.free b o ho (I.ok.frf b hb) fun z=>I.ok.exfs b z hb
theorem Inv.step {g':Array GenState}{t':Nat}{ch:List Addr} (I:Inv X pins σ H s)
  (hch:∀b∈ch,(b∈X.ex∨X.s₀.heap.objs.size≤b)∧b≠X.env.locals∧(∀x c,X.env.cells.lookup x=some c->c≠b)∧∀p∈X.pn++pins,p.1≠b)
  (keep:∀b o,b≠X.env.locals->b∉X.fs->b∉ch->s.heap.get? b=some o->H b=none->h'.get? b=some o)
  (slot:∀b o,b≠X.env.locals->b∈X.fs->b∉ch->s.heap.get? b=some o->H b=none->∃sl,h'.get? b=some { o with slots:=sl }) (free:∀b o,b∉ch->s.heap.get? b=some o->H b=none->H' b=none)
  (there:∀b o,b∉ch->s.heap.get? b=some o->∃o',h'.get? b=some o')
  (tups:∀b xs,H b=some (.tup xs)->H' b=some (.tup xs)) (frzs:∀b o u,H b=some (.frz o u)->H' b=some (.frz o u)) (tbls:∀b ps,H b=some (.tbl ps)->∃more,H' b=some (.tbl (ps++more)))
  (ns:∀m,s.heap.Ns X.env.locals m->h'.Ns X.env.locals m) (hok:HOk X.prog X.w H' h') (hg:AllBare g') :
  Inv X pins σ H' { s with heap:=h',gens:=g',drawn:=d',toks:=t' }:=by
 have neL:∀b o,X.s₀.heap.get? b=some o->b≠X.env.locals:=fun b o e=>Nat.ne_of_lt (Nat.lt_of_lt_of_le (Heap.lt_size e) I.ok.above)
 have neC:∀b o,X.s₀.heap.get? b=some o->b∉X.ex->b∉ch:=fun b o e hx hb=>by
  rcases (hch b hb).1 with z | z
  ·exact hx z
  ·exact absurd (Nat.lt_of_lt_of_le (Heap.lt_size e) z) (Nat.lt_irrefl _)
 have cellK:∀x c,X.env.cells.lookup x=some c->∀v,s.heap.IsCell c v->h'.IsCell c v:=fun x c e v ⟨o,ho,hd⟩=>by
  have nch:c∉ch:=fun z=>(hch c z).2.2.1 x c e rfl
  by_cases hc:c∈X.fs
  ·obtain⟨sl,q⟩:=slot c o (I.cne x c e) hc nch ho (I.freeC x c e)
   exact⟨_,q,hd⟩
  ·exact⟨o,keep c o (I.cne x c e) hc nch ho (I.freeC x c e),hd⟩
 refine⟨I.ok,I.os,hg,⟨fun b o e n hb hx=>?_,fun b o e n hb hx=>?_,fun b o e n hx=>?_,fun b o e hx=>?_,fun b xs e=>tups b xs (I.base.tups b xs e),fun b o xs e=>frzs b o xs (I.base.frzs b o xs e),fun b ps e=>?_⟩,?_,fun x c e=>?_,?_,fun x c e=>?_,fun p hp=>?_,hok,I.len⟩
 ·exact keep b o (neL b o e) hb (neC b o e hx) (I.base.keep b o e n hb hx) (I.base.free b o e n hx)
 ·obtain⟨sl,e1⟩:=I.base.slot b o e n hb hx
  obtain⟨sl',e2⟩:=slot b _ (neL b o e) hb (neC b o e hx) e1 (I.base.free b o e n hx)
  exact⟨sl',e2⟩
 ·obtain⟨o',e1⟩:=I.base.there b o e hx
  exact free b o' (neC b o e hx) e1 (I.base.free b o e n hx)
 ·obtain⟨o',e1⟩:=I.base.there b o e hx
  exact there b o' (neC b o e hx) e1
 ·obtain⟨m1,e1⟩:=I.base.tbls b ps e
  obtain⟨m2,e2⟩:=tbls b _ e1
  exact⟨m1++m2,by rw[e2,Array.append_assoc]⟩
 ·obtain⟨m,hn,hl⟩:=I.loc
  refine⟨m,ns m hn,fun i x v e1 e2 e3=>?_⟩
  obtain⟨u,r,l⟩:=hl i x v e1 e2 e3
  refine⟨u,r,?_⟩
  rcases l with l | ⟨k,c,e,z⟩
  ·exact .inl l
  ·exact .inr ⟨k,c,e,cellK x c e _ z⟩
 ·obtain⟨v,z⟩:=I.cell x c e
  exact⟨v,cellK x c e v z⟩
 ·obtain⟨m,⟨o,_,_,ho,_⟩,_⟩:=I.loc
  exact free _ o (fun z=>(hch _ z).2.1 rfl) ho I.free
 ·obtain⟨v,o,ho,hd⟩:=I.cell x c e
  exact free c o (fun z=>(hch c z).2.2.1 x c e rfl) ho (I.freeC x c e)
 ·obtain⟨e,n,ne,nf,d⟩:=I.pin p hp
  have nch:p.1∉ch:=fun z=>(hch p.1 z).2.2.2 p hp rfl
  exact⟨keep p.1 p.2 ne nf nch e n,free p.1 p.2 nch e n,ne,nf,d⟩
theorem Inv.un{t':Nat}(I:Inv X pins σ H s)(u:Un X.fs [] H H' s.heap h')(hok:HOk X.prog X.w H' h'):Inv X pins σ H' { s with heap:=h',toks:=t' }:=by
 obtain⟨m,⟨o,es,ep,ho,r⟩,_⟩:=id I.loc
 obtain⟨sl,hL⟩:=u.any ho I.free (by simp)
 exact I.step (g':=s.gens) (d':=s.drawn) (ch:=[]) (fun _ z=>nomatch z) (fun b o _ hb _ e n=>u.keep b o e n hb (by simp)) (fun b o _ hb _ e n=>u.slot b o e n hb (by simp)) (fun b o _ e n=>u.free b o e n (by simp)) (fun b o _ e=>u.there b o e (by simp)) u.tups u.frzs u.tbls (fun m' hm=>by
  obtain⟨o',es',ep',ho',r'⟩:=hm
  rw[ho] at ho';cases ho'
  exact⟨_,es',ep',hL,r'⟩) hok I.bare
theorem Inv.call{g':Array GenState}{t':Nat}{ch:List Addr}(I:Inv X pins σ H s)(u:Un (frs X.stack) ch H H' s.heap h')(hok:HOk X.prog X.w H' h')(hg:AllBare g')
  (hch:∀b∈ch,(b∈X.ex∨X.s₀.heap.objs.size≤b)∧b≠X.env.locals∧(∀x c,X.env.cells.lookup x=some c->c≠b)∧∀p∈X.pn++pins,p.1≠b) :
  Inv X pins σ H' { s with heap:=h',gens:=g',drawn:=d',toks:=t' }:=by
 obtain⟨m,⟨o,es,ep,ho,r⟩,_⟩:=id I.loc
 obtain⟨sl,hL⟩:=u.any ho I.free fun z=>(hch _ z).2.1 rfl
 exact I.step (ch:=ch) hch (fun b o hL hb hc e n=>u.keep b o e n (fun z=>(List.mem_cons.mp (I.stkSub b z)).elim hL hb) hc) (fun b o _ _ hc e n=>u.any e n hc) (fun b o hc e n=>u.free b o e n hc) (fun b o hc e=>u.there b o e hc) u.tups u.frzs u.tbls (fun m' hm=>by
  obtain⟨o',es',ep',ho',r'⟩:=hm
  rw[ho] at ho';cases ho'
  exact⟨_,es',ep',hL,r'⟩) hok hg
theorem Inv.turned{t':Nat}(I:Inv X pins σ H s)(k:∀b o,b≠it->s.heap.get? b=some o->h'.get? b=some o)(hn:H it=none)(hL:it≠X.env.locals)
  (h1:it∈X.ex∨X.s₀.heap.objs.size≤it) (h2:∀x c,X.env.cells.lookup x=some c->c≠it) (h3:∀p∈X.pn++pins,p.1≠it):Inv X pins σ H { s with heap:=h',toks:=t' }:=by
 have nit:∀b u,H b=some u->b≠it:=fun b u e z=>by rw[z,hn] at e;cases e
 refine I.step (g':=s.gens) (d':=s.drawn) (ch:=[it]) (fun b hb=>?_) (fun b o _ _ hc e _=>k b o (fun z=>hc (by simp[z])) e) (fun b o _ _ hc e _=>⟨o.slots,k b o (fun z=>hc (by simp[z])) e⟩) (fun _ _ _ _ n=>n)
  (fun b o hc e=>⟨o,k b o (fun z=>hc (by simp[z])) e⟩) (fun _ _ e=>e) (fun _ _ _ e=>e) (fun b ps e=>⟨#[],by rw[e];simp⟩) (fun m hm=>?_) (fun b u e=>?_) I.bare
 ·have e:b=it:=by simpa using hb
  subst e
  exact⟨h1,hL,h2,h3⟩
 ·obtain⟨o,es,ep,ho,r⟩:=hm
  exact⟨o,es,ep,k _ o (Ne.symm hL) ho,r⟩
 ·refine (I.hok b u e).stay (fun c v hc q=>k c v ?_ q) (fun _ q=>q) fun _ _ q=>q
  rcases hc with z | z
  ·rw[z];exact nit b u e
  ·exact nit c _ z
theorem Inv.tok(I:Inv X pins σ H s)(t:Nat):Inv X pins σ H { s with toks:=t }:=I.un (h':=s.heap) (t':=t) Un.refl I.hok
theorem Inv.kept(I:Inv X pins σ H s)(k:∀b u,s.heap.get? b=some u->h'.get? b=some u):Inv X pins σ H { s with heap:=h',toks:=t' }:=I.un (Un.kept k) (I.hok.kept k)
theorem Inv.laid(I:Inv X pins σ H s)(k:∀b u,s.heap.get? b=some u->h'.get? b=some u)(hp:s.heap.objs.size≤a)(new:ObjOk X.prog X.w (upd H a o) h' a o) :
  Inv X pins σ (upd H a o) { s with heap:=h',toks:=t' }:=I.un (Un.laid k hp (I.hok.fresh hp)) (I.hok.laid k hp new)
theorem Inv.write(I:Inv X pins σ H s)(mu:Mut (H x))(he:e=x∨H e=some (.own x))(k:∀b u,b≠e->s.heap.get? b=some u->h'.get? b=some u)(heo:∃u,h'.get? e=some u)
  (new:ObjOk X.prog X.w (upd H x o) h' x o):Inv X pins σ (upd H x o) { s with heap:=h',toks:=t' }:=I.un (Un.write mu he k heo) (I.hok.write mu he k heo new)
theorem Inv.weak(I:Inv X pins σ H s)(hl:σ'.length=σ.length)(w:∀(i:Nat) v,σ'[i]?=some (some v)->σ[i]?=some (some v)):Inv X pins σ' H s:=
 ⟨I.ok,I.os,I.bare,I.base,let ⟨m,hn,hl'⟩:=I.loc;⟨m,hn,fun i x v e1 e2 e3=>hl' i x v e1 (w i v e2) e3⟩,I.cell,I.free,I.freeC,I.pin,I.hok,hl.trans I.len⟩
theorem Inv.pins_of(I:Inv X pins σ H s)(h:∀p∈pins',s.heap.get? p.1=some p.2∧H p.1=none∧p.1≠X.env.locals∧p.1∉X.fs∧∀v,p.2.data≠.cell v):Inv X pins' σ H s:=
 ⟨I.ok,I.os,I.bare,I.base,I.loc,I.cell,I.free,I.freeC,fun p hp=>(List.mem_append.mp hp).elim (fun z=>I.pin p (List.mem_append_left _ z)) (h p),I.hok,I.len⟩
theorem nodup_ix{N:List Str}(hN:N.Nodup){i j:Nat}(a:N[i]?=some x)(b:N[j]?=some x):i=j:=by
 obtain⟨h1,e1⟩:=List.getElem?_eq_some_iff.mp a
 obtain⟨h2,e2⟩:=List.getElem?_eq_some_iff.mp b
 exact (List.getElem_inj hN).mp (e1.trans e2.symm)
theorem store_ok2 {E:Value->Shared->Prop}{i:Nat}{Q:Unit->Shared->Prop} (I:Inv X pins σ H s) (hN:X.N.Nodup) (hi:X.N[i]?=some x) (hx:Loc X.env.scope x) (r:RelV v u)
  (h:∀s',Inv X pins (σ.set i (some v)) H s'->(∃a,Heap.SameBut a s.heap s'.heap∧(a=X.env.locals∨X.env.cells.lookup x=some a))->Q () s') (hf:X.fn x=true∨X.env.scope.names.lookup x=some .local:=by first | exact .inl rfl | exact .inr rfl | assumption):wpAny M A (storeName X.env x u) Q E s:=by
 obtain⟨m,hn,hl⟩:=id I.loc
 have hcls:(X.env.scope.kind==.class || (X.env.scope.kind==.module&&X.env.locals != X.env.globals))=false:=by rw[I.ok.kind];rfl
 have hiσ:i<σ.length:=by rw[I.len];exact (List.getElem?_eq_some_iff.mp hi).1
 have cne:=I.cne
 have tracked:∀{a:Addr}{h':Heap},(∃o,s.heap.get? a=some o∧H a=none)->Heap.SameBut a s.heap h'->HOk X.prog X.w H h':=fun {a h'} ha hs b ob e=>by
  obtain⟨_,_,hfree⟩:=ha
  refine (I.hok b ob e).stay (fun c w' hc q=>(hs.2 c ?_).trans q) (fun _ q=>q) fun _ _ q=>q
  rintro rfl
  rcases hc with rfl | hc
  ·rw[hfree] at e;cases e
  ·rw[hfree] at hc;cases hc
 rcases hx with hk | hk
 ·refine wpAny_storeName_local hk hn (fun h' hn' hs=>?_) hcls
  obtain⟨oL,_,_,hoL,_⟩:=id hn
  refine h _ ⟨I.ok,I.os,I.bare,⟨fun b o e n hb hx=>?_,fun b o e n hb hx=>?_,I.base.free,fun b o e hx=>?_,I.base.tups,I.base.frzs,I.base.tbls⟩,⟨_,hn',fun j y v' e1 e2 e3=>?_⟩,fun y c e=>?_,I.free,I.freeC,fun p hp=>?_,tracked ⟨oL,hoL,I.free⟩ hs,by simpa using I.len⟩ ⟨_,hs,.inl rfl⟩
  ·exact (hs.2 b (Nat.ne_of_lt (Nat.lt_of_lt_of_le (Heap.lt_size e) I.ok.above))).trans (I.base.keep b o e n hb hx)
  ·obtain⟨sl,e1⟩:=I.base.slot b o e n hb hx
   exact⟨sl,(hs.2 b (Nat.ne_of_lt (Nat.lt_of_lt_of_le (Heap.lt_size e) I.ok.above))).trans e1⟩
  ·obtain⟨o',e1⟩:=I.base.there b o e hx
   exact⟨o',(hs.2 b (Nat.ne_of_lt (Nat.lt_of_lt_of_le (Heap.lt_size e) I.ok.above))).trans e1⟩
  ·by_cases hj:j=i
   ·subst hj
    rw[hi] at e1;cases e1
    rw[List.getElem?_set_self hiσ] at e2
    cases e2
    exact⟨u,r,.inl ⟨hk,by simp⟩⟩
   ·rw[List.getElem?_set_ne (Ne.symm hj)] at e2
    obtain⟨u',r',q⟩:=hl j y v' e1 e2 e3
    refine⟨u',r',?_⟩
    rcases q with ⟨k,e⟩ | ⟨k,c,e,z⟩
    ·refine .inl ⟨k,?_⟩
     have:y≠x:=fun e=>hj (nodup_ix hN e1 (e ▸ hi))
     simp[this,e]
    ·exact .inr ⟨k,c,e,z.sameBut hs (cne y c e)⟩
  ·obtain⟨w',z⟩:=I.cell y c e
   exact⟨w',z.sameBut hs (cne y c e)⟩
  ·obtain⟨e,n,ne,nf,d⟩:=I.pin p hp
   exact⟨(hs.2 p.1 ne).trans e,n,ne,nf,d⟩
 ·have hfn:X.fn x=true:=by
   rcases hf with z | z
   ·exact z
   ·rw[z] at hk;cases hk
  obtain⟨c,hc⟩:=I.ok.has x (.inl hk)
  obtain⟨w',z⟩:=I.cell x c hc
  refine wpAny_storeName_cell I.ok.kind hk hc z (fun h' hc' hs=>?_)
  obtain⟨oc,hoc,hocd⟩:=id z
  refine h { s with heap:=h' } ⟨I.ok,I.os,I.bare,⟨fun b o e n hb hx=>?_,fun b o e n hb hx=>?_,I.base.free,fun b o e hx=>?_,I.base.tups,I.base.frzs,I.base.tbls⟩,⟨m,hn.sameBut hs (Ne.symm (cne x c hc)),fun j y v' e1 e2 e3=>?_⟩,fun y c' e=>?_,I.free,I.freeC,fun p hp=>?_,tracked ⟨oc,hoc,I.freeC x c hc⟩ hs,by simpa using I.len⟩ ⟨c,hs,.inr hc⟩
  ·exact (hs.2 b (Nat.ne_of_lt (Nat.lt_of_lt_of_le (Heap.lt_size e) (I.ok.cab x c hfn hc)))).trans (I.base.keep b o e n hb hx)
  ·obtain⟨sl,e1⟩:=I.base.slot b o e n hb hx
   exact⟨sl,(hs.2 b (Nat.ne_of_lt (Nat.lt_of_lt_of_le (Heap.lt_size e) (I.ok.cab x c hfn hc)))).trans e1⟩
  ·obtain⟨o',e1⟩:=I.base.there b o e hx
   exact⟨o',(hs.2 b (Nat.ne_of_lt (Nat.lt_of_lt_of_le (Heap.lt_size e) (I.ok.cab x c hfn hc)))).trans e1⟩
  ·by_cases hj:j=i
   ·subst hj
    rw[hi] at e1;cases e1
    rw[List.getElem?_set_self hiσ] at e2
    cases e2
    exact⟨u,r,.inr ⟨.inl hk,c,hc,hc'⟩⟩
   ·rw[List.getElem?_set_ne (Ne.symm hj)] at e2
    obtain⟨u',r',q⟩:=hl j y v' e1 e2 e3
    refine⟨u',r',?_⟩
    rcases q with q | ⟨k,c',e,z'⟩
    ·exact .inl q
    ·refine .inr ⟨k,c',e,z'.sameBut hs ?_⟩
     rintro rfl
     exact hj (nodup_ix hN e1 (I.ok.inj _ _ _ e hc ▸ hi))
  ·by_cases hcc:c'=c
   ·subst hcc;exact⟨_,hc'⟩
   ·obtain⟨w2,z2⟩:=I.cell y c' e
    exact⟨w2,z2.sameBut hs hcc⟩
  ·obtain⟨e,n,ne,nf,d⟩:=I.pin p hp
   refine⟨(hs.2 p.1 ?_).trans e,n,ne,nf,d⟩
   intro q
   rw[q,hoc] at e
   have q':oc=p.2:=Option.some.inj e
   exact d w' (by rw[←q'];exact hocd)
theorem store_ok(I:Inv X pins σ H s)(hN:X.N.Nodup)(hi:X.N[i]?=some x)(hx:Loc X.env.scope x)(r:RelV v u)
  (h:∀s',Inv X pins (σ.set i (some v)) H s'->Q () s') (hf:X.fn x=true∨X.env.scope.names.lookup x=some .local:=by first | exact .inl rfl | exact .inr rfl | assumption):wpAny M A (storeName X.env x u) Q E s:=
 store_ok2 I hN hi hx r (fun s' I' _=>h s' I') hf
theorem Inv.call'(I:Inv X pins σ H s)(ho:s'.os=s.os)(u:Un (frs X.stack) ch H H' s.heap s'.heap)(hok:HOk X.prog X.w H' s'.heap)(hg:AllBare s'.gens)
  (hch:∀b∈ch,(b∈X.ex∨X.s₀.heap.objs.size≤b)∧b≠X.env.locals∧(∀x c,X.env.cells.lookup x=some c->c≠b)∧∀p∈X.pn++pins,p.1≠b):Inv X pins σ H' s':=by
 obtain⟨h',g',d',t',o'⟩:=s'
 have e:o'=s.os:=ho
 subst e
 exact I.call (g':=g') (t':=t') (d':=d') u hok hg hch
end
abbrev XK:=Value->Option Addr->Hp->Prop
abbrev St:=List (Option V)
abbrev VK:=V->Hp->Prop
abbrev TE:=St->Hp->VK->Prop
abbrev TT:=St->Hp->(Bool->Hp->Prop)->Prop
abbrev TA:=St->Hp->(List V->Hp->Prop)->Prop
structure Ends where
 nx:St->Hp->Prop
 rt:VK
 bk:St->Hp->Prop:=fun _ _=>False
 ct:St->Hp->Prop:=fun _ _=>False
abbrev TS:=Ends->St->Hp->Prop
def EP(X:Cx)(pins:List (Addr×Obj))(σ:St)(Q:VK)(u:Value)(s':Shared):Prop:=∃v H',Inv X pins σ H' s'∧RelV v u∧Q v H'
def TP(X:Cx)(pins:List (Addr×Obj))(σ:St)(Q:Bool->Hp->Prop)(b:Bool)(s':Shared):Prop:=∃H',Inv X pins σ H' s'∧Q b H'
def AP(X:Cx)(pins:List (Addr×Obj))(σ:St)(Q:List V->Hp->Prop)(us:List Value)(s':Shared):Prop:=∃vs H',Inv X pins σ H' s'∧Vals vs us∧Q vs H'
def SP(X:Cx)(pins:List (Addr×Obj))(D:Ends)(f:Flow)(s':Shared):Prop:=
 match f with
 |.next=>∃σ' H',Inv X pins σ' H' s'∧D.nx σ' H'
 |.brk=>∃σ' H',Inv X pins σ' H' s'∧D.bk σ' H'
 |.cont=>∃σ' H',Inv X pins σ' H' s'∧D.ct σ' H'
 |.ret u=>∃v σ' H',Inv X pins σ' H' s'∧RelV v u∧D.rt v H'
def PE(X:Cx)(e:Expr)(t:TE):Prop:=
 ∀(pins:List (Addr×Obj)) (s:Shared) (σ:St) (H:Hp) (Q:VK),Inv X pins σ H s->t σ H Q->wpAny (model X.prog X.w) X.A (eval e X.env) (EP X pins σ Q) X.xe s
def PT(X:Cx)(e:Expr)(t:TT):Prop:=
 ∀(pins:List (Addr×Obj)) (s:Shared) (σ:St) (H:Hp) (Q:Bool->Hp->Prop),Inv X pins σ H s->t σ H Q->wpAny (model X.prog X.w) X.A (isTrue e X.env (eval e X.env)) (TP X pins σ Q) X.xe s
def PW(X:Cx)(e:Expr)(t:TT):Prop:=
 ∀(whole:Sem Value) (pins:List (Addr×Obj)) (s:Shared) (σ:St) (H:Hp) (Q:Bool->Hp->Prop),Inv X pins σ H s->t σ H Q->wpAny (model X.prog X.w) X.A (isTrue e X.env whole) (TP X pins σ Q) X.xe s
theorem PW.pt(h:PW X e t):PT X e t:=h _
def PA(X:Cx)(es:List Expr)(t:TA):Prop:=
 ∀(pos:Pos) (pins:List (Addr×Obj)) (s:Shared) (σ:St) (H:Hp) (Q:List V->Hp->Prop),Inv X pins σ H s->t σ H Q->wpAny (model X.prog X.w) X.A (spliced (backTo pos (starEach es X.env))) (AP X pins σ Q) X.xe s
def PS(X:Cx)(st:Stmt)(t:TS):Prop:=
 ∀(pins:List (Addr×Obj)) (s:Shared) (σ:St) (H:Hp) (D:Ends),Inv X pins σ H s->t D σ H->wpAny (model X.prog X.w) X.A (exec st X.env) (SP X pins D) X.xe s
def PSs(X:Cx)(st:List Stmt)(t:TS):Prop:=
 ∀(pins:List (Addr×Obj)) (s:Shared) (σ:St) (H:Hp) (D:Ends),Inv X pins σ H s->t D σ H->wpAny (model X.prog X.w) X.A (execs st X.env) (SP X pins D) X.xe s
theorem thn(h:wpAny M A t Q E s)(hQ:∀a s,Q a s->Q' a s):wpAny M A t Q' E s:=wpAny_mono h hQ fun _ _ x=>x
open PySem PySem.Spec PyProof.Rows
section
variable{X:Cx}
theorem bin(ha:PE X a ta)(hb:PE X b tb){pins:List (Addr×Obj)}{R:V->V->Hp->Prop}(I:Inv X pins σ H s)(h:ta σ H fun x H1=>tb σ H1 fun y H2=>R x y H2)
  {α:Type}{Q:α->Shared->Prop}{f:Value->Value->Sem α}
  (hf:∀v u s2 x y H2,Inv X pins σ H2 s2->RelV x v->RelV y u->R x y H2->wpAny (model X.prog X.w) X.A (f v u) Q X.xe s2) :
  wpAny (model X.prog X.w) X.A (eval a X.env) (fun v s₁=>wpAny (model X.prog X.w) X.A (eval b X.env) (fun u s₂=>wpAny (model X.prog X.w) X.A (f v u) Q X.xe s₂) X.xe s₁) X.xe s:=by
 refine thn (ha pins s σ H _ I h) fun v s1 ⟨x,H1,I1,r1,q1⟩=>?_
 refine thn (hb pins s1 σ H1 _ I1 q1) fun u s2 ⟨y,H2,I2,r2,q2⟩=>?_
 exact hf v u s2 x y H2 I2 r1 r2 q2
def tVar(i:Nat):TE:=fun σ H Q=>∃v,σ[i]?=some (some v)∧Q v H
def tC(v:V):TE:=fun _ H Q=>Q v H
theorem pe_var(hN:X.N[i]?=some x)(hv:Vis X.env.scope x)(hd:(x==("__debug__":Str))=false:=by decide)(hcd:(x==("__classdict__":Str))=false:=by decide):PE X (.Name x pos) (tVar i):=by
 intro pins s σ H Q I h
 obtain⟨v,e,h⟩:=h
 obtain⟨m,hn,hl⟩:=I.loc
 obtain⟨u,r,l⟩:=hl i x v hN e hv
 have fin:EP X pins σ Q u s:=⟨v,H,I,r,h⟩
 rcases l with ⟨hk,hm⟩ | ⟨hk,c,hc,hcell⟩
 ·exact wpAny_Name (wpAny_loadName_local I.ok.kind hk hn hm fin) hd
 ·rcases hk with hk | hk
  ·exact wpAny_Name (wpAny_loadName_cell I.ok.kind hk hc hcell fin) hd
  ·exact wpAny_Name (wpAny_loadName_free I.ok.kind hk hc hcell fin hcd) hd
theorem pe_int{i j pos}:PE X (.Constant (.int i) j pos) (tC (.int i)):=fun _ _ _ H _ I h=>wpAny_Constant_int ⟨.int i,H,I.tok _,⟨_,rfl⟩,h⟩
theorem pe_bl{b j pos}:PE X (.Constant (.bool b) j pos) (tC (.bl b)):=fun _ _ _ H _ I h=>Constant_bool ⟨.bl b,H,I,rfl,h⟩
theorem pe_non{j pos}:PE X (.Constant .none j pos) (tC .non):=fun _ _ _ H _ I h=>Constant_none ⟨.non,H,I,rfl,h⟩
theorem pe_str{x j pos}:PE X (.Constant (.str x) j pos) (tC (.str x)):=fun _ _ _ H _ I h=>Calls.Constant_str ⟨.str x,H,I.tok _,⟨_,rfl⟩,h⟩
def Gl(X:Cx)(x:Str):Prop:=X.env.kindOf x=some .globalImplicit
theorem ld_glob(I:Inv X pins σ H s)(hg:Gl X x)(hm:X.mg x=some u)(h:Q u s)
  (hd:(x==("__debug__":Str))=false:=by decide):wpAny (model X.prog X.w) X.A (eval (.Name x pos) X.env) Q E s:=
 Calls.Name_function_global I.ok.kind hg (Calls.loadGlobal_global (by rw[I.ok.glob];exact I.mod.glob.keeps I.bk) hm h) hd
theorem ld_blt(I:Inv X pins σ H s)(hg:Gl X x)(hm:X.mg x=none)(hv:bootBuiltins x=some u)(h:Q u s)
  (hn:x≠"__name__":=by decide) (hd:(x==("__debug__":Str))=false:=by decide):wpAny (model X.prog X.w) X.A (eval (.Name x pos) X.env) Q E s:=by
 obtain⟨mb,h1,h2⟩:=I.mod.blt
 exact Calls.Name_function_global I.ok.kind hg (Calls.loadGlobal_builtin (by rw[I.ok.glob];exact I.mod.glob.keeps I.bk) hm (by rw[I.ok.blt];exact h1.keeps I.bk) ((h2 x hn).trans hv) h) hd
theorem pe_glob(hg:Gl X x)(hm:X.mg x=some u)(r:RelV v u)(hd:(x==("__debug__":Str))=false:=by decide):PE X (.Name x pos) (tC v):=
 fun _ _ _ H _ I h=>ld_glob I hg hm ⟨v,H,I,r,h⟩ hd
theorem pe_bltn(hg:Gl X x)(hm:X.mg x=none)(hv:bootBuiltins x=some u)(r:RelV v u)(hn:x≠"__name__":=by decide)(hd:(x==("__debug__":Str))=false:=by decide):PE X (.Name x pos) (tC v):=
 fun _ _ _ H _ I h=>ld_blt I hg hm hv ⟨v,H,I,r,h⟩ hn hd
variable{a b:Expr}{ta tb:TE}{pos:Pos}
variable{tA tB':TT}{rest:List Expr}
def tAnd(t u:TT):TT:=fun σ H Q=>t σ H fun c H1=>if c=true then u σ H1 Q else Q false H1
def tOr(t u:TT):TT:=fun σ H Q=>t σ H fun c H1=>if c=true then Q true H1 else u σ H1 Q
def tNot(t:TT):TT:=fun σ H Q=>t σ H fun c H1=>Q (!c) H1
theorem pw_and1(ha:PT X a tA):PW X (.BoolOp .And [a] pos) tA:=by
 intro wh pins s σ H Q I h
 refine isTrue_and (thn (ha pins s σ H Q I h) fun c s1 e=>?_)
 cases c with
 |true=>exact isTrue_and_nil e
 |false=>exact e
theorem pw_or1(ha:PT X a tA):PW X (.BoolOp .Or [a] pos) tA:=by
 intro wh pins s σ H Q I h
 refine isTrue_or (thn (ha pins s σ H Q I h) fun c s1 e=>?_)
 cases c with
 |false=>exact isTrue_or_nil e
 |true=>exact e
theorem pw_and(ha:PT X a tA)(hb:PW X (.BoolOp .And (b::rest) pos) tB'):PW X (.BoolOp .And (a::b::rest) pos) (tAnd tA tB'):=by
 intro wh pins s σ H Q I h
 refine isTrue_and (thn (ha pins s σ H _ I h) fun c s1 ⟨H1,I1,q1⟩=>?_)
 cases c with
 |true=>exact hb wh pins s1 σ H1 Q I1 q1
 |false=>exact⟨H1,I1,q1⟩
theorem pw_or(ha:PT X a tA)(hb:PW X (.BoolOp .Or (b::rest) pos) tB'):PW X (.BoolOp .Or (a::b::rest) pos) (tOr tA tB'):=by
 intro wh pins s σ H Q I h
 refine isTrue_or (thn (ha pins s σ H _ I h) fun c s1 ⟨H1,I1,q1⟩=>?_)
 cases c with
 |true=>exact⟨H1,I1,q1⟩
 |false=>exact hb wh pins s1 σ H1 Q I1 q1
theorem pt_not(ha:PT X a tA):PT X (.UnaryOp .Not a pos) (tNot tA):=by
 intro pins s σ H Q I h
 exact isTrue_not (ha pins s σ H (fun c H1=>Q (!c) H1) I h)
def tAndV(ta tb:TE):TE:=fun σ H Q=>ta σ H fun x H1=>∃c,x=.bl c∧if c=true then tb σ H1 Q else Q (.bl false) H1
def tNotV(ta:TE):TE:=fun σ H Q=>ta σ H fun x H1=>∃c,x=.bl c∧Q (.bl (!c)) H1
theorem pe_one{op}(h:PE X a t):PE X (.BoolOp op [a] pos) t:=fun pins s σ H Q I hw=>BoolOp_one (h pins s σ H Q I hw)
theorem pe_and(ha:PE X a ta)(hb:PE X (.BoolOp .And (b::rest) pos) tb):PE X (.BoolOp .And (a::b::rest) pos) (tAndV ta tb):=by
 intro pins s σ H Q I h
 refine BoolOp_and (thn (ha pins s σ H _ I h) fun v s1 ⟨x,H1,I1,r1,q1⟩=>?_)
 obtain⟨c,rfl,q1⟩:=q1
 cases r1
 refine wpAny_truthy_bool ?_
 cases c with
 |true=>exact hb pins s1 σ H1 Q I1 q1
 |false=>exact⟨.bl false,H1,I1,rfl,q1⟩
theorem pe_not(ha:PE X a ta):PE X (.UnaryOp .Not a pos) (tNotV ta):=by
 intro pins s σ H Q I h
 refine UnaryOp_ (thn (ha pins s σ H _ I h) fun v s1 ⟨x,H1,I1,r1,q1⟩=>?_)
 obtain⟨c,rfl,q1⟩:=q1
 cases r1
 exact not_of (wpAny_truthy_bool ⟨.bl (!c),H1,I1,rfl,q1⟩)
def tIf(t:TT)(ta tb:TE):TE:=fun σ H Q=>t σ H fun c H1=>if c=true then ta σ H1 Q else tb σ H1 Q
theorem pe_ifExp(hc:PT X c tA)(ha:PE X a ta)(hb:PE X b tb):PE X (.IfExp c a b pos) (tIf tA ta tb):=by
 intro pins s σ H Q I h
 refine wpAny_IfExp (thn (hc pins s σ H _ I h) fun d s1 ⟨H1,I1,q1⟩=>?_)
 cases d with
 |true=>exact ha pins s1 σ H1 Q I1 q1
 |false=>exact hb pins s1 σ H1 Q I1 q1
end
open PySem PySem.Spec PyProof.Rows
def SqL(K:PySem.W.Frag)(H:Hp)(a:Addr)(xs:List V):Prop:=
 Rd H a (.lst xs) ∨
  ∃(o:Obj) (its:Array Value) (n:Nat),K.lookup a=some o∧o.cls=.type "list"∧o.dict=none∧o.data=.seq its n∧its.size≤sizeLine∧Vals xs its.toList
def SqT(K:PySem.W.Frag)(H:Hp)(a:Addr)(xs:List V):Prop:=
 Rd H a (.tup xs) ∨
  ∃(o:Obj) (its:Array Value) (n:Nat),K.lookup a=some o∧o.cls=.type "tuple"∧o.data=.seq its n∧its.size≤sizeLine∧Vals xs its.toList
def absV:Value->Option V
 |.none=>some .non
 |.bool b=>some (.bl b)
 |.int i _=>some (.int i)
 |.str x _=>some (.str x)
 |.bytes b _=>some (.byt b)
 |.float b _=>some (.flt b)
 |.ref a=>some (.ref a)
 |.type n=>some (.ty n)
 |_=>none
theorem RelV.abs(r:RelV x u):absV u=some x:=by
 cases x with
 |non=>cases r;rfl
 |bl _=>cases r;rfl
 |int _=>obtain⟨t,rfl⟩:=r;rfl
 |str _=>obtain⟨t,rfl⟩:=r;rfl
 |byt _=>obtain⟨t,rfl⟩:=r;rfl
 |flt _=>obtain⟨t,rfl⟩:=r;rfl
 |ref _=>cases r;rfl
 |ty _=>cases r;rfl
theorem RelV.inj(r:RelV x u)(q:RelV y u):x=y:=Option.some.inj (r.abs.symm.trans q.abs)
theorem Vals.inj:∀{xs ys:List V}{us:List Value},Vals xs us->Vals ys us->xs=ys
 |_,_,_,.nil,.nil=>rfl
 |_,_,_,.cons r t,.cons r' t'=>by rw[r.inj r',Vals.inj t t']
section
variable{X:Cx}{pins:List (Addr×Obj)}{σ:St}{H:Hp}{s:Shared}{a:Addr}{xs ys:List V}
theorem SqL.of{K:PySem.W.Frag}(h:H a=some (.lst xs)):SqL K H a xs:=.inl (.inl h)
theorem SqT.of{K:PySem.W.Frag}(h:H a=some (.tup xs)):SqT K H a xs:=.inl (.inl h)
theorem Inv.list(I:Inv X pins σ H s)(h:SqL X.K H a xs):∃its:List Value,Vals xs its∧PlainL s.heap a its.toArray∧xs.length≤sizeLine:=by
 rcases h with h | ⟨o,its,n,hk,hc,hd,hs,hz,r⟩
 ·obtain⟨z,its,n,r,e⟩:=h.ok I.hok
  exact⟨its,r,⟨_,n,e,rfl,rfl,rfl⟩,z⟩
 ·refine⟨its.toList,r,⟨o,n,I.kIn a o hk,hc,hd,by simpa using hs⟩,?_⟩
  have e:=r.length
  simp only[Array.length_toList] at e
  omega
theorem Inv.tuple(I:Inv X pins σ H s)(h:SqT X.K H a xs):∃its:List Value,Vals xs its∧IsTup s.heap a its.toArray∧xs.length≤sizeLine:=by
 rcases h with h | ⟨o,its,n,hk,hc,hs,hz,r⟩
 ·obtain⟨z,its,r,p⟩:=h.ok I.hok
  exact⟨its,r,p,z⟩
 ·refine⟨its.toList,r,⟨o,I.kIn a o hk,hc,n,by simpa using hs⟩,?_⟩
  have e:=r.length
  simp only[Array.length_toList] at e
  omega
theorem Inv.list_inj(I:Inv X pins σ H s)(h:SqL X.K H a xs)(h':SqL X.K H a ys):xs=ys:=by
 obtain⟨its,r,⟨o,n,e,_,_,d⟩,_⟩:=I.list h
 obtain⟨its',r',⟨o',n',e',_,_,d'⟩,_⟩:=I.list h'
 rw[e] at e';cases e'
 rw[d] at d'
 injection d' with d1 _
 have:its=its':=by simpa using congrArg Array.toList d1
 subst this
 exact r.inj r'
theorem Inv.tuple_inj(I:Inv X pins σ H s)(h:SqT X.K H a xs)(h':SqT X.K H a ys):xs=ys:=by
 obtain⟨its,r,⟨o,e,_,n,d⟩,_⟩:=I.tuple h
 obtain⟨its',r',⟨o',e',_,n',d'⟩,_⟩:=I.tuple h'
 rw[e] at e';cases e'
 rw[d] at d'
 injection d' with d1 _
 have:its=its':=by simpa using congrArg Array.toList d1
 subst this
 exact r.inj r'
end
section
variable{X:Cx}{st:Stmt}{rest:List Stmt}{t u:TS}{e:Expr}{te:TE}{pos:Pos}
def tNext:TS:=fun D σ H=>D.nx σ H
def tSeq(t u:TS):TS:=fun D σ H=>t { D with nx:=u D } σ H
theorem pss_nil:PSs X [] tNext:=fun _ _ σ H _ I h=>wpAny_execs_nil ⟨σ,H,I,h⟩
theorem pss_cons (h1:PS X st t) (h2:PSs X rest u):PSs X (st::rest) (tSeq t u):=by
 intro pins s σ H D I h
 refine wpAny_execs_cons (thn (h1 pins s σ H { D with nx:=u D } I h) fun f s1 q=>?_)
 cases f with
 |next=>
   obtain⟨σ',H',I',q⟩:=q
   exact h2 pins s1 σ' H' D I' q
 |ret v=>exact q
 |brk=>exact q
 |cont=>exact q
theorem pss_one(h1:PS X st t):PSs X [st] t:=by
 intro pins s σ H D I h
 refine wpAny_execs_cons (thn (h1 pins s σ H D I h) fun f s1 q=>?_)
 cases f with
 |next=>exact wpAny_execs_nil q
 |ret v=>exact q
 |brk=>exact q
 |cont=>exact q
theorem Inv.quiet(I:Inv X pins σ H s):interactive X.env=false:=by simp[interactive,I.ok.kind]
def tDrop(te:TE):TS:=fun D σ H=>te σ H fun _ H1=>D.nx σ H1
theorem ps_expr(he:PE X e te)(hs:swapsWith e none pos.line X.env=pure false:=by rfl):PS X (.Expr e pos) (tDrop te):=by
 intro pins s σ H D I h
 exact wpAny_Expr_any (thn (he pins s σ H _ I h) fun v s1 ⟨x,H1,I1,r1,q1⟩=>⟨σ,H1,I1,q1⟩) I.quiet hs
def tRet(te:TE):TS:=fun D σ H=>te σ H D.rt
theorem ps_ret(he:PE X e te):PS X (.Return (some e) pos) (tRet te):=by
 intro pins s σ H D I h
 exact wpAny_Return_some (thn (he pins s σ H _ I h) fun v s1 ⟨x,H1,I1,r1,q1⟩=>⟨x,σ,H1,I1,r1,q1⟩)
def tIfS(c:TT)(t u:TS):TS:=fun D σ H=>c σ H fun b H1=>if b=true then t D σ H1 else u D σ H1
theorem ps_if(hc:PT X c tc)(ha:PSs X a t)(hb:PSs X b u):PS X (.If c a b pos) (tIfS tc t u):=by
 intro pins s σ H D I h
 refine wpAny_If (thn (hc pins s σ H _ I h) fun d s1 ⟨H1,I1,q1⟩=>?_)
 cases d with
 |true=>exact ha pins s1 σ H1 D I1 q1
 |false=>exact hb pins s1 σ H1 D I1 q1
end
abbrev TG:=V->St->Hp->(St->Hp->Prop)->Prop
abbrev TGs:=List V->St->Hp->(St->Hp->Prop)->Prop
def PG (X:Cx) (target:Expr) (t:TG):Prop:=
 ∀(pins:List (Addr×Obj)) (s:Shared) (σ:St) (H:Hp) (v:V) (u:Value) (Q:St->Hp->Prop),Inv X pins σ H s->RelV v u->t v σ H Q->
   wpAny (model X.prog X.w) X.A (assign target X.env u) (fun _ s'=>∃σ' H',Inv X pins σ' H' s'∧Q σ' H') X.xe s
def PGs (X:Cx) (ts:List Expr) (t:TGs):Prop:=
 ∀(pins:List (Addr×Obj)) (s:Shared) (σ:St) (H:Hp) (vs:List V) (us:List Value) (Q:St->Hp->Prop),Inv X pins σ H s->Vals vs us->t vs σ H Q->
   wpAny (model X.prog X.w) X.A (assignInOrder ((assignEach ts X.env).map (·.2)) us) (fun _ s'=>∃σ' H',Inv X pins σ' H' s'∧Q σ' H') X.xe s
abbrev TSet:=V->V->V->Hp->(Hp->Prop)->Prop
def PSet (X:Cx) (t:TSet):Prop:=
 ∀(pins:List (Addr×Obj)) (s:Shared) (σ:St) (H:Hp) (o i v:V) (ov iv u:Value) (Q:Hp->Prop),Inv X pins σ H s->RelV o ov->RelV i iv->RelV v u->t o i v H Q->
   wpAny (model X.prog X.w) X.A (setItem ov iv u) (fun _ s'=>∃H',Inv X pins σ H' s'∧Q H') X.xe s
abbrev TIp:=V->V->Hp->VK->Prop
def PIp (X:Cx) (op:Operator) (t:TIp):Prop:=
 ∀(pins:List (Addr×Obj)) (s:Shared) (σ:St) (H:Hp) (x y:V) (v u:Value) (Q:VK),Inv X pins σ H s->RelV x v->RelV y u->t x y H Q->
   wpAny (model X.prog X.w) X.A (inplaceOp op v u) (EP X pins σ Q) X.xe s
section
variable{X:Cx}{pos:Pos}
def gName(i:Nat):TG:=fun v σ H Q=>Q (σ.set i (some v)) H
theorem pg_name(hN:X.N.Nodup)(hi:X.N[i]?=some x)(hx:Loc X.env.scope x)(hf:X.fn x=true∨X.env.scope.names.lookup x=some .local:=by first | exact .inl rfl | exact .inr rfl | assumption):PG X (.Name x pos) (gName i):=by
 intro pins s σ H v u Q I r h
 exact wpAny_assign_Name (store_ok I hN hi hx r (fun s' I'=>⟨_,H,I',h⟩) hf)
def gNil:TGs:=fun vs σ H Q=>vs=[]∧Q σ H
def gCons(t:TG)(u:TGs):TGs:=fun vs σ H Q=>∃v r,vs=v::r∧t v σ H fun σ' H'=>u r σ' H' Q
theorem pgs_nil:PGs X [] gNil:=by
 intro pins s σ H vs us Q I r h
 obtain⟨e,h⟩:=h
 subst e
 cases r
 exact assignInOrder_nil ⟨σ,H,I,h⟩
theorem pgs_cons (h1:PG X e t) (h2:PGs X es u)
  (hs:(assignEach (e::es) X.env).map (·.2)=assign e X.env::(assignEach es X.env).map (·.2):=by rfl):PGs X (e::es) (gCons t u):=by
 intro pins s σ H vs us Q I r h
 obtain⟨v,vr,e1,h⟩:=h
 subst e1
 cases r with
 |cons r rr=>
   rw[hs]
   refine assignInOrder_cons (thn (h1 pins s σ H _ _ _ I r h) fun _ s1 ⟨σ1,H1,I1,q1⟩=>?_)
   exact h2 pins s1 σ1 H1 _ _ Q I1 rr q1
def gTup(K:PySem.W.Frag)(n:Nat)(t:TGs):TG:=fun v σ H Q=>∃a xs,v=.ref a∧SqT K H a xs∧xs.length=n∧t xs σ H Q
theorem pg_tup(hc:X.calm=true)(h:PGs X es t)
  (hn:(assignEach es X.env).length=n:=by rfl) (hst:(assignEach es X.env).findIdx? (·.1)=none:=by rfl):PG X (.Tuple es k pos) (gTup X.K n t):=by
 intro pins s σ H v u Q I r hw
 obtain⟨a,xs,e1,hq,hl,hw⟩:=hw
 subst e1
 cases r
 obtain⟨its,rv,ht,hz⟩:=I.tuple hq
 refine assign_Tuple_tuple (I.ok.hd hc) ht (by simp[hn,←hl,rv.length]) hst fun h' hx=>?_
 have I1:Inv X pins σ H { s with heap:=h' }:=I.kept (t':=s.toks) fun b o e=>hx b o (Nat.ne_of_lt (Heap.lt_size e)) e
 exact h pins _ σ H xs _ Q I1 (by simpa using rv) hw
def gSub(to ti:TE)(t:TSet):TG:=fun v σ H Q=>to σ H fun o H1=>ti σ H1 fun i H2=>t o i v H2 fun H3=>Q σ H3
theorem pg_sub (ho:PE X o to) (hi:PE X i ti) (hs:PSet X t)
  (ha:∀v,assign (.Subscript o i pos) X.env v=(do
    let ov ←holding [v] (eval o X.env)
    let iv ←holding [v,ov] (eval i X.env)
    standAt pos
    holding [v,ov,iv] (setItem ov iv v)
    release [v,ov,iv] []):=by intro _;rfl):PG X (.Subscript o i pos) (gSub to ti t):=by
 intro pins s σ H v u Q I r h
 rw[ha]
 refine wpAny_bind (wpAny_holding (thn (ho pins s σ H _ I h) fun ov s1 ⟨x,H1,I1,r1,q1⟩=>?_))
 refine wpAny_bind (wpAny_holding (thn (hi pins s1 σ H1 _ I1 q1) fun iv s2 ⟨y,H2,I2,r2,q2⟩=>?_))
 refine wpAny_bind (wpAny_standAt (wpAny_bind (wpAny_holding (thn (hs pins s2 σ H2 x y v ov iv u _ I2 r1 r2 r q2) fun _ s3 ⟨H3,I3,q3⟩=>?_))))
 exact wpAny_release ⟨σ,H3,I3,q3⟩
def tAsg(te:TE)(g:TG):TS:=fun D σ H=>te σ H fun x H1=>g x σ H1 D.nx
theorem ps_asg(he:PE X e te)(hg:PG X tg g)(hs:swapsWithSole [tg] e pos.line X.env=pure false:=by rfl)(hw:swappedStores [tg] e X.env=pure none:=by rfl)
  (h1:(assignEach [tg] X.env).map (·.2)=[assign tg X.env]:=by rfl):PS X (.Assign [tg] e pos) (tAsg te g):=by
 intro pins s σ H D I h
 refine wpAny_Assign_stores (thn (he pins s σ H _ I h) fun v s1 ⟨x,H1,I1,r1,q1⟩=>?_) hs hw
 rw[h1]
 exact thn (hg pins s1 σ H1 x v _ I1 r1 q1) fun _ s2 q=>q
theorem ps_set(hN:X.N.Nodup)(hi:X.N[i]?=some x)(hx:Loc X.env.scope x)(he:PE X e te)(hs:swapsWith e (some (.Name x pos')) pos.line X.env=pure false:=by rfl)(hf:X.fn x=true∨X.env.scope.names.lookup x=some .local:=by first | exact .inl rfl | exact .inr rfl | assumption) :
  PS X (.Assign [.Name x pos'] e pos) (tAsg te (gName i)):=by
 intro pins s σ H D I h
 refine wpAny_Assign_Name (thn (he pins s σ H _ I h) fun v s1 ⟨y,H1,I1,r1,q1⟩=>?_) hs
 exact store_ok I1 hN hi hx r1 (fun s2 I2=>⟨_,H1,I2,q1⟩) hf
def tPar(i j:Nat)(ta:TA):TS:=fun D σ H=>ta σ H fun vs H1=>∃v w,vs=[v,w]∧D.nx ((σ.set i (some v)).set j (some w)) H1
theorem ps_par {kt k2 pt2} (hc:X.calm=true) (hN:X.N.Nodup) (hi:X.N[i]?=some x) (hj:X.N[j]?=some y) (hij:i≠j)
  (hx:X.env.scope.names.lookup x=some .local) (hy:X.env.scope.names.lookup y=some .local) (ha:PA X [a,b] ta)
  (hw:swappedStores [.Tuple [.Name x px,.Name y py] kt pt] (.Tuple [a,b] k2 pt2) X.env=pure (some [x,y]))
  (hs:swapsWithSole [.Tuple [.Name x px,.Name y py] kt pt] (.Tuple [a,b] k2 pt2) pos.line X.env=pure false:=by rfl) :
  PS X (.Assign [.Tuple [.Name x px,.Name y py] kt pt] (.Tuple [a,b] k2 pt2) pos) (tPar i j ta):=by
 intro pins s σ H D I h
 rw[exec_Assign_arm]
 refine wpAny_bind (wpAny_standAt ?_)
 rw[hs]
 refine wpAny_bind (wpAny_pure ?_)
 rw[if_neg (by decide)]
 refine wpAny_bind (Tuple_ (thn (ha _ pins s σ H _ I h) fun us s1 ⟨vs,H1,I1,r1,q1⟩=>?_))
 obtain⟨v,w,e1,q1⟩:=q1
 subst e1
 obtain ⟨u1,u2,rfl,rv,rw'⟩:∃ u1 u2,us=[u1,u2]∧RelV v u1∧RelV w u2:=by
  cases r1 with
  | cons p q=>
    cases q with
    |cons p' q'=>
      cases q'
      exact⟨_,_,rfl,p,p'⟩
 refine wpAny_newObj_type ?_ (by show 2≤sizeLine;decide)
 have I2:Inv X pins σ H1 { s1 with heap:=s1.heap.push { cls:=.type "tuple",data:=.seq [u1,u2].toArray } }:=I1.kept (t':=s1.toks) fun b o e=>Heap.get?_push_of_some _ e
 rw[hw]
 refine wpAny_bind (wpAny_pure ?_)
 show wpAny (model X.prog X.w) X.A (do rule "assign.swapped-stores";let items ←unpackItems (.ref s1.heap.objs.size) 2 none;assignInOrder [fun v=>bindName X.env y v,fun v=>bindName X.env x v] items.reverse;pure Flow.next) _ _ _
 refine wpAny_bind (wpAny_rule (wpAny_bind (unpackItems_tuple (items:=#[u1,u2]) (I.ok.hd hc) (IsTup.new s1.heap _) fun h' hx'=>?_)))
 have I3:=I2.kept (h':=h') (t':=s1.toks) fun b o e=>hx' b o (Nat.ne_of_lt (Heap.lt_size e)) e
 show wpAny _ _ (assignInOrder [fun v=>bindName X.env y v,fun v=>bindName X.env x v] [u2,u1]>>=fun _=>pure Flow.next) _ _ _
 refine wpAny_bind (assignInOrder_cons (wpAny_bindName (store_ok I3 hN hj (.inl hy) rw' (fun s2 I4=>?_) (.inr hy))))
 refine assignInOrder_cons (wpAny_bindName (store_ok I4 hN hi (.inl hx) rv (fun s3 I5=>assignInOrder_nil (wpAny_pure ?_)) (.inr hx)))
 rw[List.set_comm _ _ (Ne.symm hij)] at I5
 exact⟨_,H1,I5,q1⟩
def tAugS(to ti te:TE)(tget:V->V->Hp->VK->Prop)(tip:TIp)(tset:TSet):TS:=fun D σ H=>to σ H fun o H1=>ti σ H1 fun i H2=>tget o i H2 fun x H3=>te σ H3 fun y H4=>tip x y H4 fun z H5=>tset o i z H5 fun H6=>D.nx σ H6
def PGet (X:Cx) (t:V->V->Hp->VK->Prop):Prop:=
 ∀(pins:List (Addr×Obj)) (s:Shared) (σ:St) (H:Hp) (o i:V) (ov iv:Value) (Q:VK),Inv X pins σ H s->RelV o ov->RelV i iv->t o i H Q->
   wpAny (model X.prog X.w) X.A (getItem ov iv) (EP X pins σ Q) X.xe s
theorem ps_augS(ho:PE X o to)(hi:PE X i ti)(hg:PGet X tget)(he:PE X e te)(hp:PIp X op tip)(hs:PSet X tset)
  (ha:∀ov iv new,augStore i ov iv new=(do holding [new,ov,iv] (setItem ov iv new);release [new,ov,iv] [];pure .next):=by intros;rfl):PS X (.AugAssign (.Subscript o i tpos) op e pos) (tAugS to ti te tget tip tset):=by
 intro pins s σ H D I h
 refine wpAny_AugAssign_SubscriptAny (thn (ho pins s σ H _ I h) fun ov s1 ⟨x1,H1,I1,r1,q1⟩=>?_) ha
 refine thn (hi pins s1 σ H1 _ I1 q1) fun iv s2 ⟨x2,H2,I2,r2,q2⟩=>?_
 refine thn (hg pins s2 σ H2 x1 x2 ov iv _ I2 r1 r2 q2) fun old s3 ⟨x3,H3,I3,r3,q3⟩=>?_
 refine thn (he pins s3 σ H3 _ I3 q3) fun v s4 ⟨x4,H4,I4,r4,q4⟩=>?_
 refine thn (hp pins s4 σ H4 x3 x4 old v _ I4 r3 r4 q4) fun new s5 ⟨x5,H5,I5,r5,q5⟩=>?_
 exact thn (hs pins s5 σ H5 x1 x2 x5 ov iv new _ I5 r1 r2 r5 q5) fun _ s6 ⟨H6,I6,q6⟩=>⟨σ,H6,I6,q6⟩
end
section
variable{X:Cx}{pos:Pos}
def tWhile(c:TT)(tb:TS):TS:=fun D σ H=>∃W:Nat->St->Hp->Prop,(∃m,W m σ H)∧∀m σ H,W m σ H->
 c σ H fun b H1=>if b=true then ∃N:St->Hp->Prop,(∀σ' H',N σ' H'->∃m',m'<m∧W m' σ' H')∧tb { D with nx:=N,ct:=N,bk:=D.nx } σ H1 else D.nx σ H1
theorem ps_while (hp:PassesOwn (model X.prog X.w) X.A X.env X.xe) (hc:PT X c tc) (hb:PSs X body tb):PS X (.While c body [] pos) (tWhile tc tb):=by
 intro pins s σ H D I h
 obtain⟨W,⟨m0,w0⟩,turn⟩:=h
 refine wpAny_While (codeAny_whileLoop (fun n s'=>∃σ' H',Inv X pins σ' H' s'∧W n σ' H') ?_ m0 ⟨σ,H,I,w0⟩)
 rintro n s1 ⟨σ1,H1,I1,w1⟩
 refine wpAny_passesOwn hp (thn (hc pins s1 σ1 H1 _ I1 (turn n σ1 H1 w1)) fun b s2 ⟨H2,I2,q2⟩=>?_)
 cases b with
 | true=>
   obtain⟨N,hN,q2⟩:=q2
   rw[if_pos rfl]
   refine wpAny_passesOwn hp (thn (hb pins s2 σ1 H2 _ I2 q2) fun f s3 q3=>?_)
   cases f with
   |next=>
     obtain⟨σ3,H3,I3,n3⟩:=q3
     obtain⟨m',hm,w3⟩:=hN σ3 H3 n3
     exact⟨m',hm,σ3,H3,I3,w3⟩
   |cont=>
     obtain⟨σ3,H3,I3,n3⟩:=q3
     obtain⟨m',hm,w3⟩:=hN σ3 H3 n3
     exact⟨m',hm,σ3,H3,I3,w3⟩
   |brk=>exact q3
   |ret v=>exact q3
 |false=>
   rw[if_neg Bool.false_ne_true]
   exact wpAny_execs_nil ⟨σ1,H2,I2,q2⟩
end
structure It where
 go:Nat->Hp->Prop
 yld:Nat->Hp->V->Hp->Prop
 stop:Nat->Hp->Prop
def FpOk(X:Cx)(pins:List (Addr×Obj))(H:Hp)(b:Addr):Prop:=
 H b=none∧b≠X.env.locals∧b∉X.fs∧(b∈X.ex∨X.s₀.heap.objs.size≤b)∧(∀x c,X.env.cells.lookup x=some c->c≠b)∧∀p∈X.pn++pins,p.1≠b
theorem Inv.fpOk(I:Inv X pins σ H s)(hb:s.heap.objs.size≤b)(hn:H' b=none):FpOk X pins H' b:=by
 refine⟨hn,Nat.ne_of_gt (Nat.lt_of_lt_of_le I.lt hb),I.nofs hb,.inr (Nat.le_trans I.sz hb),fun x c e z=>?_,fun p hp z=>?_⟩
 ·obtain⟨v,q⟩:=I.cell x c e
  exact absurd (Nat.lt_of_lt_of_le q.lt (by rw[z];exact hb)) (Nat.lt_irrefl _)
 ·exact absurd (Nat.lt_of_lt_of_le (Heap.lt_size (I.pin p hp).1) (by rw[z];exact hb)) (Nat.lt_irrefl _)
structure Turn (P:Program) (w:World) (K:PySem.W.Frag) (tg:Expr) (J:It) (fp:List Addr) (it:Addr) (tn:Nat->Heap->Prop):Prop where
 mem:it∈fp
 obj:∀i h,tn i h->∀b∈fp,∃o,h.get? b=some o∧∀v,o.data≠.cell v
 keep:∀i h h',tn i h->(∀b∈fp,∀o,h.get? b=some o->h'.get? b=some o)->tn i h'
 item:∀(X:Cx),X.prog=P->X.w=w->X.K=K->X.calm=true->∀(i:Nat) (pins:List (Addr×Obj)) (s:Shared) (σ:St) (H:Hp) (E:Value->Shared->Prop),Inv X pins σ H s->(∀b∈fp,FpOk X pins H b)->tn i s.heap->J.go i H->
  wpAny (model P w) X.A (pyNext (.ref it)) (fun r s1=>∃u,r=some u ∧
   wpAny (model P w) X.A (letOwnedTupleGo tg (.ref it) u) (fun _ s2=>∃x H',Inv X pins σ H' s2∧RelV x u∧J.yld i H x H'∧tn (i+1) s2.heap∧∀b∈fp,H' b=none) E s1) E s
 done:∀(X:Cx),X.prog=P->X.w=w->X.K=K->X.calm=true->∀(i:Nat) (pins:List (Addr×Obj)) (s:Shared) (σ:St) (H:Hp) (E:Value->Shared->Prop),Inv X pins σ H s->(∀b∈fp,FpOk X pins H b)->tn i s.heap->J.stop i H->
  wpAny (model P w) X.A (pyNext (.ref it)) (fun r s1=>r=none∧Inv X pins σ H s1) E s
 self:∀(A:Around) (i:Nat) (s:Shared) (Q:Value->Shared->Prop) (E:Value->Shared->Prop),tn i s.heap->Q (.ref it) s->wpAny (model P w) A (pyIter (.ref it)) Q E s
abbrev TI:=St->Hp->(It->Hp->Prop)->Prop
def PIE(X:Cx)(pins:List (Addr×Obj))(σ:St)(tg:Expr)(R:It->Hp->Prop)(itv:Value)(s2:Shared):Prop:=
 ∃(it:Addr) (fp:List Addr) (tn:Nat->Heap->Prop) (J:It) (H':Hp),itv=.ref it∧Inv X pins σ H' s2∧Turn X.prog X.w X.K tg J fp it tn∧tn 0 s2.heap∧(∀b∈fp,FpOk X pins H' b)∧R J H'
def PI (X:Cx) (tg iter:Expr) (wi:TI):Prop:=
 ∀(pins:List (Addr×Obj)) (s:Shared) (σ:St) (H:Hp) (R:It->Hp->Prop),Inv X pins σ H s->wi σ H R->
   wpAny (model X.prog X.w) X.A (eval iter X.env) (fun v s1=>wpAny (model X.prog X.w) X.A (pyIter v) (PIE X pins σ tg R) X.xe s1) X.xe s
theorem go_of (ho:s.heap.get? it=some o) (hc:o.cls=.type n) (hd:o.data=.fields vs)
  (hn:["enumerate", "zip", "dict_itemiterator", "dict_reverseitemiterator", "odict_iterator", "itertools.zip_longest", "itertools.pairwise"].contains n=false) (hQ:Q () s):wpAny M A (letOwnedTupleGo tg (.ref it) u) Q E s:=by
 unfold letOwnedTupleGo
 cases tg<;>first
  |exact wpAny_pure hQ
  | (cases u<;>first
      |exact wpAny_pure hQ
      | (refine wpAny_bind (wpAny_load ho ?_)
         rw[hc,hd]
         show wpAny M A (if (["enumerate", "zip", "dict_itemiterator", "dict_reverseitemiterator", "odict_iterator", "itertools.zip_longest", "itertools.pairwise"].contains n&&vs[0]?==some (rawInt _))=true then _ else _) Q E s
         rw[if_neg (by intro h;rw[hn,Bool.false_and] at h;cases h)]
         exact wpAny_pure hQ))
def Itl(K:PySem.W.Frag)(a:Addr):It:=
 ⟨fun i H=>∃xs x,SqL K H a xs∧xs[i]?=some x,fun i H x H'=>H'=H∧∀xs,SqL K H a xs->xs[i]?=some x,fun i H=>∃xs,SqL K H a xs∧xs.length≤i⟩
def Itt(K:PySem.W.Frag)(a:Addr):It:=
 ⟨fun i H=>∃xs x,SqT K H a xs∧xs[i]?=some x,fun i H x H'=>H'=H∧∀xs,SqT K H a xs->xs[i]?=some x,fun i H=>∃xs,SqT K H a xs∧xs.length≤i⟩
def Itr(lo:Int)(n:Nat):It:=⟨fun i _=>i<n,fun i H x H'=>H'=H∧x=.int (lo+i),fun i _=>n≤i⟩
theorem turn_list{P:Program}{w:World}{K:PySem.W.Frag}{tg:Expr}(a it:Addr):Turn P w K tg (Itl K a) [it] it (fun i h=>h.IsListIter it a i) where
 mem:=by simp
 obj:=fun i h st b hb=>by
  have e:b=it:=by simpa using hb
  subst e
  obtain⟨o,e,c,d⟩:=st
  exact⟨o,e,fun v z=>by rw[d] at z;cases z⟩
 keep:=fun i h h' st k=>st.at fun o e=>k it (by simp) o e
 item:=by
  intro X hP hw hK hc i pins s σ H E I hf st hg
  subst hP hw hK
  obtain⟨xs,x,hq,hx⟩:=hg
  obtain⟨its,rv,p,hz⟩:=I.list hq
  obtain⟨u,hu,ru⟩:=rv.get hx
  obtain⟨f0,f1,f2,f3,f4,f5⟩:=hf it (by simp)
  refine wpAny_pyNext_list_item st p.isList (x:=u) (by simpa using hu) fun h' st' sb=>?_
  have I1:Inv X pins σ H { s with heap:=h' }:=I.turned (t':=s.toks) (fun b o hb e=>(sb.2 b hb).trans e) f0 f1 f3 f4 f5
  obtain⟨o,e,c,d⟩:=id st'
  exact⟨u,rfl,go_of (s:={ s with heap:=h' }) e c d (by decide) ⟨x,H,I1,ru,⟨rfl,fun ys hy=>by rw[I.list_inj hy hq];exact hx⟩,st',fun b hb=>(hf b hb).1⟩⟩
 done:=by
  intro X hP hw hK hc i pins s σ H E I hf st hg
  subst hP hw hK
  obtain⟨xs,hq,hx⟩:=hg
  obtain⟨its,rv,p,hz⟩:=I.list hq
  obtain⟨f0,f1,f2,f3,f4,f5⟩:=hf it (by simp)
  have hl:=rv.length
  exact wpAny_pyNext_list_end (I.ok.hd hc) st p.isList (by simp;omega) fun h' eb=>⟨rfl,I.turned (t':=s.toks) (fun b o hb e=>eb b o hb e) f0 f1 f3 f4 f5⟩
 self:=fun _ _ _ _ _ st h=>wpAny_pyIter_listiter st h
theorem turn_tuple{P:Program}{w:World}{K:PySem.W.Frag}{tg:Expr}(a it:Addr):Turn P w K tg (Itt K a) [it] it (fun i h=>h.IsTupleIter it a i) where
 mem:=by simp
 obj:=fun i h st b hb=>by
  have e:b=it:=by simpa using hb
  subst e
  obtain⟨o,e,c,d⟩:=st
  exact⟨o,e,fun v z=>by rw[d] at z;cases z⟩
 keep:=fun i h h' st k=>st.at fun o e=>k it (by simp) o e
 item:=by
  intro X hP hw hK hc i pins s σ H E I hf st hg
  subst hP hw hK
  obtain⟨xs,x,hq,hx⟩:=hg
  obtain⟨its,rv,p,hz⟩:=I.tuple hq
  obtain⟨u,hu,ru⟩:=rv.get hx
  obtain⟨f0,f1,f2,f3,f4,f5⟩:=hf it (by simp)
  refine wpAny_pyNext_tuple_item st (show s.heap.IsTuple a its.toArray from p) (x:=u) (by simpa using hu) fun h' st' sb=>?_
  have I1:Inv X pins σ H { s with heap:=h' }:=I.turned (t':=s.toks) (fun b o hb e=>(sb.2 b hb).trans e) f0 f1 f3 f4 f5
  obtain⟨o,e,c,d⟩:=id st'
  exact⟨u,rfl,go_of (s:={ s with heap:=h' }) e c d (by decide) ⟨x,H,I1,ru,⟨rfl,fun ys hy=>by rw[I.tuple_inj hy hq];exact hx⟩,st',fun b hb=>(hf b hb).1⟩⟩
 done:=by
  intro X hP hw hK hc i pins s σ H E I hf st hg
  subst hP hw hK
  obtain⟨xs,hq,hx⟩:=hg
  obtain⟨its,rv,p,hz⟩:=I.tuple hq
  obtain⟨f0,f1,f2,f3,f4,f5⟩:=hf it (by simp)
  have hl:=rv.length
  exact wpAny_pyNext_tuple_end (I.ok.hd hc) st (show s.heap.IsTuple a its.toArray from p) (by simp;omega) fun h' eb=>⟨rfl,I.turned (t':=s.toks) (fun b o hb e=>eb b o hb e) f0 f1 f3 f4 f5⟩
 self:=fun _ _ _ _ _ st h=>wpAny_pyIter_tupleiter st h
theorem turn_range {P:Program}{w:World}{K:PySem.W.Frag}{tg:Expr} (it:Addr) (lo:Int) (n:Nat):Turn P w K tg (Itr lo n) [it] it (fun i h=>IsRangeIter h it (lo + (i:Nat) * 1) ((n:Int) - (i:Nat)) 1) where
 mem:=by simp
 obj:=fun i h st b hb=>by
  have e:b=it:=by simpa using hb
  subst e
  exact⟨_,st,fun v z=>by
   have z':Data.fields _=Data.cell v:=z
   cases z'⟩
 keep:=fun i h h' st k=>k it (by simp) _ st
 item:=by
  intro X hP hw hK hc i pins s σ H E I hf st hg
  subst hP hw hK
  obtain⟨f0,f1,f2,f3,f4,f5⟩:=hf it (by simp)
  have W:=Walks.range (prog:=X.prog) (w:=X.w) (I.ok.hd hc) it lo 1 n
  refine W.item i s _ _ hg st fun v h' tk hv st' kk=>?_
  obtain⟨t,rfl⟩:=hv
  have I1:Inv X pins σ H { s with heap:=h',toks:=tk }:=I.turned (fun b o hb e=>kk b o (by simpa using hb) e) f0 f1 f3 f4 f5
  refine⟨_,rfl,go_of (s:={ s with heap:=h',toks:=tk }) (n := "range_iterator") st' rfl rfl (by decide) ⟨.int (lo+i),H,I1,⟨t,?_⟩,⟨rfl,rfl⟩,st',fun b hb=>(hf b hb).1⟩⟩
  rw[Int.mul_one]
 done:=by
  intro X hP hw hK hc i pins s σ H E I hf st hg
  subst hP hw hK
  obtain⟨f0,f1,f2,f3,f4,f5⟩:=hf it (by simp)
  exact wpAny_pyNext_range_end (I.ok.hd hc) st (by have:n≤i:=hg;omega) fun h' eb=>⟨rfl,I.turned (t':=s.toks) (fun b o hb e=>eb b o hb e) f0 f1 f3 f4 f5⟩
 self:=fun _ _ _ _ _ st h=>wpAny_pyIter_rangeiter st h
open PySem PySem.Spec PyProof.Rows
section
variable{X:Cx}{tg:Expr}
def iList(K:PySem.W.Frag)(tl:TE):TI:=fun σ H R=>tl σ H fun x H1=>∃a,x=.ref a∧(∃xs,SqL K H1 a xs)∧R (Itl K a) H1
def iTup(K:PySem.W.Frag)(tl:TE):TI:=fun σ H R=>tl σ H fun x H1=>∃a,x=.ref a∧(∃xs,SqT K H1 a xs)∧R (Itt K a) H1
theorem pi_list{l:Expr}{tl:TE}(hl:PE X l tl):PI X tg l (iList X.K tl):=by
 intro pins s σ H R I h
 refine thn (hl pins s σ H _ I h) fun v s1 ⟨x,H1,I1,r1,q1⟩=>?_
 obtain⟨a,e,⟨xs,hq⟩,q⟩:=q1
 subst e
 cases r1
 obtain⟨its,rv,p,hz⟩:=I1.list hq
 refine wpAny_pyIter_list p.isList ?_
 refine⟨s1.heap.objs.size,[s1.heap.objs.size],_,_,H1,rfl,I1.kept (t':=s1.toks) fun b o e=>Heap.get?_push_of_some _ e,turn_list a _,⟨_,Heap.get?_push_size _ rfl,rfl,rfl⟩,fun b hb=>?_,q⟩
 have e:b=s1.heap.objs.size:=by simpa using hb
 subst e
 exact I1.fpOk (Nat.le_refl _) (I1.hok.fresh (Nat.le_refl _))
theorem pi_tup{l:Expr}{tl:TE}(hl:PE X l tl):PI X tg l (iTup X.K tl):=by
 intro pins s σ H R I h
 refine thn (hl pins s σ H _ I h) fun v s1 ⟨x,H1,I1,r1,q1⟩=>?_
 obtain⟨a,e,⟨xs,hq⟩,q⟩:=q1
 subst e
 cases r1
 obtain⟨its,rv,p,hz⟩:=I1.tuple hq
 refine wpAny_pyIter_tuple (show s1.heap.IsTuple a its.toArray from p) ?_
 refine⟨s1.heap.objs.size,[s1.heap.objs.size],_,_,H1,rfl,I1.kept (t':=s1.toks) fun b o e=>Heap.get?_push_of_some _ e,turn_tuple a _,⟨_,Heap.get?_push_size _ rfl,rfl,rfl⟩,fun b hb=>?_,q⟩
 have e:b=s1.heap.objs.size:=by simpa using hb
 subst e
 exact I1.fpOk (Nat.le_refl _) (I1.hok.fresh (Nat.le_refl _))
theorem range_it{pins:List (Addr×Obj)}{R:It->Hp->Prop}{E:Value->Shared->Prop}{lo hi:Int}{tk:Nat}(I:Inv X pins σ H s)(h1:-(2^62)≤lo)(h2:lo<2^62)(h3:-(2^62)≤hi)(h4:hi<2^62)
  (q:R (Itr lo (hi-lo).toNat) H):wpAny (model X.prog X.w) X.A (pyIter (.ref s.heap.objs.size)) (PIE X pins σ tg R) E { s with heap:=s.heap.push { cls:=.type "range",data:=.fields #[.int lo t,.int hi u,.int 1 v] },toks:=tk }:=by
 refine wpAny_pyIter_range (IsRange.new ..) (small_one h1 h2 h3 h4) ?_
 have I1:Inv X pins σ H { s with heap:=s.heap.push { cls:=.type "range",data:=.fields #[.int lo t,.int hi u,.int 1 v] },toks:=tk }:=I.kept fun b o e=>Heap.get?_push_of_some _ e
 refine⟨(s.heap.push { cls:=.type "range",data:=.fields #[.int lo t,.int hi u,.int 1 v] }).objs.size,[(s.heap.push { cls:=.type "range",data:=.fields #[.int lo t,.int hi u,.int 1 v] }).objs.size],_,_,H,rfl,
  I1.kept (t':=tk) fun b o e=>Heap.get?_push_of_some _ e,turn_range _ lo (hi-lo).toNat,?_,fun b hb=>?_,q⟩
 ·have e1:lo+((0:Nat):Int)*1=lo:=by simp
  have e2:(((hi-lo).toNat:Nat):Int)-((0:Nat):Int)=Builtin.Range.rangeSize lo hi 1:=by rw[rangeSize_one];split<;>omega
  show IsRangeIter _ _ (lo+((0:Nat):Int)*1) ((((hi-lo).toNat:Nat):Int)-((0:Nat):Int)) 1
  rw[e1,e2]
  exact Heap.get?_push_size _ rfl
 ·have e:b=(s.heap.push { cls:=.type "range",data:=.fields #[.int lo t,.int hi u,.int 1 v] }).objs.size:=by simpa using hb
  subst e
  exact I1.fpOk (Nat.le_refl _) (I1.hok.fresh (Nat.le_refl _))
def iRng1(ta:TA):TI:=fun σ H R=>ta σ H fun vs H1=>∃j:Int,vs=[.int j]∧-(2^62)≤j∧j<2^62∧R (Itr 0 j.toNat) H1
def iRng2(ta:TA):TI:=fun σ H R=>ta σ H fun vs H1=>∃i j:Int,vs=[.int i,.int j]∧(-(2^62)≤i∧i<2^62∧-(2^62)≤j∧j<2^62)∧R (Itr i (j-i).toNat) H1
theorem pi_range1 (hg:Gl X "range") (hm:X.mg "range"=none) (ha:PA X [a] ta) (hs:starEach [a] X.env=[(false,eval a X.env)]:=by rfl):PI X tg (.Call (.Name "range" p) [a] [] pos) (iRng1 ta):=by
 intro pins s σ H R I h
 refine Call_ (ld_blt I hg hm boot_range (PyProof.Rows.callWith_type1 (thn (ha pos pins s σ H _ I h) fun us s1 ⟨vs,H1,I1,r1,q1⟩=>?_) hs rfl))
 obtain⟨j,e,q1,q2,q⟩:=q1
 subst e
 cases r1 with
 |cons r rr=>
   cases rr
   obtain⟨t,rfl⟩:=r
   exact call_range_1 (range_it I1 (by omega) (by omega) q1 q2 (by simpa using q))
theorem pi_range2 (hg:Gl X "range") (hm:X.mg "range"=none) (ha:PA X [a,b] ta) (hs:starEach [a,b] X.env=[(false,eval a X.env),(false,eval b X.env)]:=by rfl) (hs2:starEach [b] X.env=[(false,eval b X.env)]:=by rfl) :
  PI X tg (.Call (.Name "range" p) [a,b] [] pos) (iRng2 ta):=by
 intro pins s σ H R I h
 refine Call_ (ld_blt I hg hm boot_range (PyProof.Rows.callWith_type1 (thn (ha pos pins s σ H _ I h) fun us s1 ⟨vs,H1,I1,r1,q1⟩=>?_) (by rw[hs,hs2]) (by rw[hs2];rfl)))
 obtain⟨i,j,e,⟨q1,q2,q3,q4⟩,q⟩:=q1
 subst e
 cases r1 with
 | cons r rr=>
   cases rr with
   |cons r' rr=>
     cases rr
     obtain⟨t,rfl⟩:=r
     obtain⟨t',rfl⟩:=r'
     exact call_range_2 (range_it I1 q1 q2 q3 q4 q)
def tFor(wi:TI)(g:TG)(tb:TS):TS:=fun D σ H=>wi σ H fun J H1=>∃W:Nat->Nat->St->Hp->Prop,(∃m,W 0 m σ H1)∧∀i m σ H,W i m σ H->
 (J.stop i H∧D.nx σ H)∨(J.go i H∧∃N:St->Hp->Prop,(∀σ' H',N σ' H'->∃m',m'<m∧W (i+1) m' σ' H')∧∀x H',J.yld i H x H'->g x σ H' fun σ2 H2=>tb { D with nx:=N,ct:=N,bk:=D.nx } σ2 H2)
def pinsAt(fp:List Addr)(h:Heap):List (Addr×Obj):=fp.filterMap fun b=>(h.get? b).map fun o=>(b,o)
theorem mem_pinsAt(hb:b∈fp)(e:h.get? b=some o):(b,o)∈pinsAt fp h:=List.mem_filterMap.mpr ⟨b,hb,by rw[e];rfl⟩
theorem of_pinsAt (hp:p∈pinsAt fp h):p.1∈fp∧h.get? p.1=some p.2:=by
 obtain⟨b,hb,e⟩:=List.mem_filterMap.mp hp
 cases q:h.get? b with
 |none=>rw[q] at e;cases e
 |some o=>
   rw[q] at e
   have e':(b,o)=p:=Option.some.inj e
   subst e'
   exact⟨hb,q⟩
theorem Inv.pinned(I:Inv X pins σ H s)(hf:∀b∈fp,FpOk X pins H b)(ho:∀b∈fp,∃o,s.heap.get? b=some o∧∀v,o.data≠.cell v):Inv X (pins++pinsAt fp s.heap) σ H s:=
 I.pins_of fun p hp=>(List.mem_append.mp hp).elim (fun z=>I.pin p (List.mem_append_right _ z)) fun z=>by
  obtain⟨hb,e⟩:=of_pinsAt z
  obtain⟨f0,f1,f2,_⟩:=hf p.1 hb
  obtain⟨o,e',d⟩:=ho p.1 hb
  rw[e] at e';cases e'
  exact⟨e,f0,f1,f2,d⟩
theorem Inv.unpinned(I:Inv X (pins++pl) σ H s):Inv X pins σ H s:=I.pins_of fun p hp=>I.pin p (List.mem_append_right _ (List.mem_append_left _ hp))
theorem ps_for (hp:PassesOwn (model X.prog X.w) X.A X.env X.xe) (hc:X.calm=true) (hi:PI X tg iter wi) (hg:PG X tg g) (hb:PSs X body tb)
  (hs:∀x,foldedSetIterable iter X.env x=pure x:=by intro _;rfl):PS X (.For tg iter body [] pos) (tFor wi g tb):=by
 intro pins s σ H D I h
 refine wpAny_For (thn (hi pins s σ H _ I h) fun v s1 h1=>thn h1 fun itv s2 h2=>?_) hs
 obtain⟨it,fp,tn,J,H2,e,I2,T,st2,f2,W,⟨m0,w0⟩,turn⟩:=h2
 subst e
 -- what stays true of the iterator's objects through the loop
 have stat:∀{H':Hp},(∀b∈fp,H' b=none)->∀b∈fp,FpOk X pins H' b:=fun hn b hb=>⟨hn b hb,(f2 b hb).2⟩
 refine codeAny_forLoop_any (fun n s'=>∃i σ' H',Inv X pins σ' H' s'∧tn i s'.heap∧(∀b∈fp,H' b=none)∧W i n σ' H') ?_ m0 ⟨0,σ,H2,I2,st2,fun b hb=>(f2 b hb).1,w0⟩
 rintro n s3 ⟨i,σ3,H3,I3,st3,fr3,w3⟩
 rcases turn i n σ3 H3 w3 with ⟨stop,qn⟩ | ⟨go,N,hN,step⟩
 ·refine wpAny_passesOwn hp (thn (T.done X rfl rfl rfl hc i pins s3 σ3 H3 X.xe I3 (stat fr3) st3 stop) fun r s4 ⟨hr,I4⟩=>?_)
  subst hr
  exact wpAny_execs_nil ⟨σ3,H3,I4,qn⟩
 ·refine wpAny_passesOwn hp (thn (T.item X rfl rfl rfl hc i pins s3 σ3 H3 X.xe I3 (stat fr3) st3 go) fun r s4 ⟨u,hr,h4⟩=>?_)
  subst hr
  refine wpAny_passesOwn hp (thn h4 fun _ s5 ⟨x,H5,I5,r5,y5,st5,fr5⟩=>?_)
  have I5':=I5.pinned (stat fr5) (T.obj _ _ st5)
  refine wpAny_passesOwn hp (thn (hg _ s5 σ3 H5 x u _ I5' r5 (step x H5 y5)) fun _ s6 ⟨σ6,H6,I6,q6⟩=>?_)
  refine wpAny_passesOwn hp (thn (hb _ s6 σ6 H6 _ I6 q6) fun f s7 q7=>?_)
  have again:∀{σ7:St}{H7:Hp},Inv X (pins++pinsAt fp s5.heap) σ7 H7 s7->N σ7 H7->∃m,m<n∧∃i σ' H',Inv X pins σ' H' s7∧tn i s7.heap∧(∀b∈fp,H' b=none)∧W i m σ' H':=fun {σ7 H7} I7 n7=>by
   obtain⟨m',hm,w7⟩:=hN σ7 H7 n7
   refine⟨m',hm,i+1,σ7,H7,I7.unpinned,T.keep _ _ _ st5 fun b hb o e=>(I7.pin (b,o) (List.mem_append_right _ (List.mem_append_right _ (mem_pinsAt hb e)))).1,fun b hb=>?_,w7⟩
   obtain⟨o,e,d⟩:=T.obj _ _ st5 b hb
   exact (I7.pin (b,o) (List.mem_append_right _ (List.mem_append_right _ (mem_pinsAt hb e)))).2.1
  cases f with
  |next=>obtain⟨σ7,H7,I7,n7⟩:=q7;exact again I7 n7
  |cont=>obtain⟨σ7,H7,I7,n7⟩:=q7;exact again I7 n7
  |brk=>obtain⟨σ7,H7,I7,q7⟩:=q7;exact⟨σ7,H7,I7.unpinned,q7⟩
  |ret v=>obtain⟨x7,σ7,H7,I7,r7,q7⟩:=q7;exact⟨x7,σ7,H7,I7.unpinned,r7,q7⟩
end
open PySem PySem.Spec PyProof.Rows
abbrev R2:=V->V->Hp->VK->Prop
def OpR (X:Cx) (f:Value->Value->Sem Value) (r:R2):Prop:=
 ∀(pins:List (Addr×Obj)) (s:Shared) (σ:St) (H:Hp) (x y:V) (v u:Value) (Q:VK),Inv X pins σ H s->RelV x v->RelV y u->r x y H Q->
   wpAny (model X.prog X.w) X.A (f v u) (EP X pins σ Q) X.xe s
def UnR (X:Cx) (f:Value->Sem Value) (r:V->Hp->VK->Prop):Prop:=
 ∀(pins:List (Addr×Obj)) (s:Shared) (σ:St) (H:Hp) (x:V) (v:Value) (Q:VK),Inv X pins σ H s->RelV x v->r x H Q->
   wpAny (model X.prog X.w) X.A (f v) (EP X pins σ Q) X.xe s
def CallR (X:Cx) (f:Value) (r:List V->Hp->VK->Prop):Prop:=
 ∀(pins:List (Addr×Obj)) (s:Shared) (σ:St) (H:Hp) (xs:List V) (us:List Value) (Q:VK),Inv X pins σ H s->Vals xs us->r xs H Q->
   wpAny (model X.prog X.w) X.A (call f us) (EP X pins σ Q) X.xe s
def TruR (X:Cx) (r:V->Hp->(Bool->Hp->Prop)->Prop):Prop:=
 ∀(pins:List (Addr×Obj)) (s:Shared) (σ:St) (H:Hp) (x:V) (v:Value) (Q:Bool->Hp->Prop),Inv X pins σ H s->RelV x v->r x H Q->
   wpAny (model X.prog X.w) X.A (truthy v) (TP X pins σ Q) X.xe s
def tOp(r:R2)(ta tb:TE):TE:=fun σ H Q=>ta σ H fun x H1=>tb σ H1 fun y H2=>r x y H2 Q
def tUn(r:V->Hp->VK->Prop)(ta:TE):TE:=fun σ H Q=>ta σ H fun x H1=>r x H1 Q
def rI(C:Int->Int->Prop)(g:Int->Int->V):R2:=fun x y H Q=>∃i j,x=.int i∧y=.int j∧C i j∧Q (g i j) H
def rI0(g:Int->Int->V):R2:=fun x y H Q=>∃i j,x=.int i∧y=.int j∧Q (g i j) H
def rU(g:Int->V):V->Hp->VK->Prop:=fun x H Q=>∃i,x=.int i∧Q (g i) H
section
variable{X:Cx}{a b c:Expr}{ta tb tc:TE}{pos:Pos}
theorem binT(ha:PE X a ta)(hb:PE X b tb){pins:List (Addr×Obj)}{R:V->V->Hp->Prop}(I:Inv X pins σ H s)
  (h:ta σ H fun x H1=>tb σ H1 fun y H2=>R x y H2) {Q:Value->Shared->Prop}{f:Value->Value->Sem Value}
  (hf:∀v u s2 x y H2,Inv X pins σ H2 s2->RelV x v->RelV y u->R x y H2->wpAny (model X.prog X.w) X.A (f v u) Q X.xe s2) :
  wpAny (model X.prog X.w) X.A (eval a X.env) (fun v s₁=>wpAny (model X.prog X.w) X.A (eval b X.env) (fun u s₂=>wpAny (model X.prog X.w) X.A (f v u) Q X.xe s₂) X.xe s₁) X.xe s:=by
 refine thn (ha pins s σ H _ I h) fun v s1 ⟨x,H1,I1,r1,q1⟩=>?_
 refine thn (hb pins s1 σ H1 _ I1 q1) fun u s2 ⟨y,H2,I2,r2,q2⟩=>?_
 exact hf v u s2 x y H2 I2 r1 r2 q2
theorem pe_op(ho:OpR X (binaryOp op) r)(ha:PE X a ta)(hb:PE X b tb):PE X (.BinOp a op b pos) (tOp r ta tb):=by
 intro pins s σ H Q I h
 exact wpAny_BinOp (binT ha hb I h fun v u s2 x y H2 I2 rx ry q=>ho pins s2 σ H2 x y v u Q I2 rx ry q)
theorem pe_un(ho:UnR X (unaryOp op) r)(ha:PE X a ta):PE X (.UnaryOp op a pos) (tUn r ta):=by
 intro pins s σ H Q I h
 exact UnaryOp_ (thn (ha pins s σ H _ I h) fun v s1 ⟨x,H1,I1,r1,q1⟩=>ho pins s1 σ H1 x v Q I1 r1 q1)
theorem opI{f:Value->Value->Sem Value}{C:Int->Int->Prop}{g:Int->Int->Int}
  (rule:∀(i j:Int) (t u:Tok) (s:Shared) (Q:Value->Shared->Prop) (E:Value->Shared->Prop),C i j->Q (.int (g i j) s.toks) { s with toks:=s.toks+1 }->wpAny (model X.prog X.w) X.A (f (.int i t) (.int j u)) Q E s) :
  OpR X f (rI C fun i j=>.int (g i j)):=by
 intro pins s σ H x y v u Q I rx ry h
 obtain⟨i,j,rfl,rfl,hc,q⟩:=h
 obtain⟨t,rfl⟩:=rx
 obtain⟨t',rfl⟩:=ry
 exact rule i j t t' s _ _ hc ⟨.int (g i j),H,I.tok _,⟨_,rfl⟩,q⟩
theorem opI0{f:Value->Value->Sem Value}{g:Int->Int->Int}
  (rule:∀(i j:Int) (t u:Tok) (s:Shared) (Q:Value->Shared->Prop) (E:Value->Shared->Prop),Q (.int (g i j) s.toks) { s with toks:=s.toks+1 }->wpAny (model X.prog X.w) X.A (f (.int i t) (.int j u)) Q E s) :
  OpR X f (rI0 fun i j=>.int (g i j)):=by
 intro pins s σ H x y v u Q I rx ry h
 obtain⟨i,j,rfl,rfl,q⟩:=h
 obtain⟨t,rfl⟩:=rx
 obtain⟨t',rfl⟩:=ry
 exact rule i j t t' s _ _ ⟨.int (g i j),H,I.tok _,⟨_,rfl⟩,q⟩
theorem opB0{f:Value->Value->Sem Value}{g:Int->Int->Bool}
  (rule:∀(i j:Int) (t u:Tok) (s:Shared) (Q:Value->Shared->Prop) (E:Value->Shared->Prop),Q (.bool (g i j)) s->wpAny (model X.prog X.w) X.A (f (.int i t) (.int j u)) Q E s) :
  OpR X f (rI0 fun i j=>.bl (g i j)):=by
 intro pins s σ H x y v u Q I rx ry h
 obtain⟨i,j,rfl,rfl,q⟩:=h
 obtain⟨t,rfl⟩:=rx
 obtain⟨t',rfl⟩:=ry
 exact rule i j t t' s _ _ ⟨.bl (g i j),H,I,rfl,q⟩
def CPow(i j:Int):Prop:=0≤j∧j≤1000000∧i.natAbs<2^64
theorem op_add:OpR X (binaryOp .Add) (rI0 fun i j=>.int (i+j)):=opI0 fun _ _ _ _ _ _ _ q=>add_int q
theorem op_sub:OpR X (binaryOp .Sub) (rI0 fun i j=>.int (i-j)):=opI0 fun _ _ _ _ _ _ _ q=>sub_int q
theorem op_mod:OpR X (binaryOp .Mod) (rI (fun _ j=>0<j) fun i j=>.int (i%j)):=opI fun i j _ _ _ _ _ hc q=>by
 have h1:(0:Int)<j:=hc
 exact mod_int' (by omega) (by rw[Int.fmod_eq_emod_of_nonneg i (by omega)];exact q)
theorem op_pow:OpR X (binaryOp .Pow) (rI CPow fun i j=>.int (i^j.toNat)):=opI fun _ _ _ _ _ _ _ hc q=>pow_int_small hc.1 hc.2.1 hc.2.2 q
theorem iop_add:OpR X (inplaceOp .Add) (rI0 fun i j=>.int (i+j)):=opI0 fun _ _ _ _ _ _ _ q=>iadd_int q
theorem iop_sub:OpR X (inplaceOp .Sub) (rI0 fun i j=>.int (i-j)):=opI0 fun _ _ _ _ _ _ _ q=>isub_int q
theorem unI{f:Value->Sem Value}{g:Int->Int}
  (rule:∀(i:Int) (t:Tok) (s:Shared) (Q:Value->Shared->Prop) (E:Value->Shared->Prop),Q (.int (g i) s.toks) { s with toks:=s.toks+1 }->wpAny (model X.prog X.w) X.A (f (.int i t)) Q E s) :
  UnR X f (rU fun i=>.int (g i)):=by
 intro pins s σ H x v Q I rx h
 obtain⟨i,rfl,q⟩:=h
 obtain⟨t,rfl⟩:=rx
 exact rule i t s _ _ ⟨.int (g i),H,I.tok _,⟨_,rfl⟩,q⟩
theorem un_neg:UnR X (unaryOp .USub) (rU fun i=>.int (-i)):=unI fun _ _ _ _ _ q=>neg_int q
end
def scal:V->V->Bool
 |.non,.non=>true | .non,.int _=>true | .int _,.non=>true | .non,.bl _=>true | .bl _,.non=>true | .non,.str _=>true | .str _,.non=>true
 |.int _,.int _=>true | .bl _,.bl _=>true | .str _,.str _=>true | .byt _,.byt _=>true
 |.int _,.str _=>true | .str _,.int _=>true | .bl _,.str _=>true | .str _,.bl _=>true
 |_,_=>false
def rEq:R2:=fun x y H Q=>scal x y=true∧Q (.bl (decide (x=y))) H
def rNe:R2:=fun x y H Q=>scal x y=true∧Q (.bl (!decide (x=y))) H
theorem dec_int:decide (V.int i=V.int j)=(i==j):=by
 rw[Bool.eq_iff_iff]
 simp
theorem dec_bl:decide (V.bl i=V.bl j)=(i==j):=by
 rw[Bool.eq_iff_iff]
 simp
theorem dec_str:decide (V.str i=V.str j)=(i==j):=by
 rw[Bool.eq_iff_iff]
 simp
theorem dec_byt:decide (V.byt i=V.byt j)=(i.toList==j.toList):=by
 rw[Bool.eq_iff_iff]
 cases i
 cases j
 simp
section
variable{X:Cx}{a b c:Expr}{ta tb tc:TE}{pos:Pos}
theorem fin_bl(I:Inv X pins σ H s)(q:Q (.bl k) H)(e:k=k'):EP X pins σ Q (.bool k') s:=by
 subst e
 exact⟨.bl k,H,I,rfl,q⟩
theorem op_eq:OpR X (compareOp .Eq) rEq:=by
 intro pins s σ H x y v u Q I rx ry h
 obtain⟨hs,q⟩:=h
 cases x with
 |non=>
   cases rx
   cases y with
   |non=>cases ry;exact PySem.EqNone.eq_none_none (fin_bl I q (by simp))
   |bl j=>cases ry;exact PySem.EqNone.eq_none_bool (fin_bl I q (by simp))
   |int j=>obtain⟨t',rfl⟩:=ry;exact PySem.EqNone.eq_none_int (fin_bl I q (by simp))
   |str j=>obtain⟨t',rfl⟩:=ry;exact PySem.EqNone.eq_none_str (fin_bl I q (by simp))
   |_=>exact absurd (show false=true from hs) Bool.false_ne_true
 |bl i=>
   cases rx
   cases y with
   |non=>cases ry;exact PySem.EqNone.eq_bool_none (fin_bl I q (by simp))
   |bl j=>cases ry;exact eq_bool (fin_bl I q dec_bl)
   |str j=>obtain⟨t',rfl⟩:=ry;exact PySem.EqMixed.eq_bool_str (fin_bl I q (by simp))
   |_=>exact absurd (show false=true from hs) Bool.false_ne_true
 |int i=>
   obtain⟨t,rfl⟩:=rx
   cases y with
   |non=>cases ry;exact PySem.EqNone.eq_int_none (fin_bl I q (by simp))
   |int j=>obtain⟨t',rfl⟩:=ry;exact eq_int (fin_bl I q dec_int)
   |str j=>obtain⟨t',rfl⟩:=ry;exact PySem.EqMixed.eq_int_str (fin_bl I q (by simp))
   |_=>exact absurd (show false=true from hs) Bool.false_ne_true
 |str i=>
   obtain⟨t,rfl⟩:=rx
   cases y with
   |non=>cases ry;exact PySem.EqNone.eq_str_none (fin_bl I q (by simp))
   |bl j=>cases ry;exact PySem.EqMixed.eq_str_bool (fin_bl I q (by simp))
   |int j=>obtain⟨t',rfl⟩:=ry;exact PySem.EqMixed.eq_str_int (fin_bl I q (by simp))
   |str j=>obtain⟨t',rfl⟩:=ry;exact eq_str (fin_bl I q dec_str)
   |_=>exact absurd (show false=true from hs) Bool.false_ne_true
 |byt i=>
   obtain⟨t,rfl⟩:=rx
   cases y with
   |byt j=>obtain⟨t',rfl⟩:=ry;exact PySem.W.eq_bytes (fin_bl I q dec_byt)
   |_=>exact absurd (show false=true from hs) Bool.false_ne_true
 |_=>cases y<;>exact absurd (show false=true from hs) Bool.false_ne_true
theorem op_ne:OpR X (compareOp .NotEq) rNe:=by
 intro pins s σ H x y v u Q I rx ry h
 obtain⟨hs,q⟩:=h
 cases x with
 |non=>
   cases rx
   cases y with
   |non=>cases ry;exact PySem.EqNone.ne_none_none (fin_bl I q (by simp))
   |bl j=>cases ry;exact PySem.EqNone.ne_none_bool (fin_bl I q (by simp))
   |int j=>obtain⟨t',rfl⟩:=ry;exact PySem.EqNone.ne_none_int (fin_bl I q (by simp))
   |str j=>obtain⟨t',rfl⟩:=ry;exact PySem.EqNone.ne_none_str (fin_bl I q (by simp))
   |_=>exact absurd (show false=true from hs) Bool.false_ne_true
 |bl i=>
   cases rx
   cases y with
   |non=>cases ry;exact PySem.EqNone.ne_bool_none (fin_bl I q (by simp))
   |bl j=>cases ry;exact ne_bool (fin_bl I q (congrArg not dec_bl))
   |str j=>obtain⟨t',rfl⟩:=ry;exact PySem.EqMixed.ne_bool_str (fin_bl I q (by simp))
   |_=>exact absurd (show false=true from hs) Bool.false_ne_true
 |int i=>
   obtain⟨t,rfl⟩:=rx
   cases y with
   |non=>cases ry;exact PySem.EqNone.ne_int_none (fin_bl I q (by simp))
   |int j=>obtain⟨t',rfl⟩:=ry;exact ne_int (fin_bl I q (congrArg not dec_int))
   |str j=>obtain⟨t',rfl⟩:=ry;exact PySem.EqMixed.ne_int_str (fin_bl I q (by simp))
   |_=>exact absurd (show false=true from hs) Bool.false_ne_true
 |str i=>
   obtain⟨t,rfl⟩:=rx
   cases y with
   |non=>cases ry;exact PySem.EqNone.ne_str_none (fin_bl I q (by simp))
   |bl j=>cases ry;exact PySem.EqMixed.ne_str_bool (fin_bl I q (by simp))
   |int j=>obtain⟨t',rfl⟩:=ry;exact PySem.EqMixed.ne_str_int (fin_bl I q (by simp))
   |str j=>obtain⟨t',rfl⟩:=ry;exact ne_str (fin_bl I q (congrArg not dec_str))
   |_=>exact absurd (show false=true from hs) Bool.false_ne_true
 |byt i=>
   obtain⟨t,rfl⟩:=rx
   cases y with
   |byt j=>obtain⟨t',rfl⟩:=ry;exact PySem.W.ne_bytes (fin_bl I q (congrArg not dec_byt))
   |_=>exact absurd (show false=true from hs) Bool.false_ne_true
 |_=>cases y<;>exact absurd (show false=true from hs) Bool.false_ne_true
theorem op_lt:OpR X (compareOp .Lt) (rI0 fun i j=>.bl (decide (i<j))):=opB0 fun _ _ _ _ _ _ _ q=>lt_int q
theorem op_le:OpR X (compareOp .LtE) (rI0 fun i j=>.bl (decide (i≤j))):=opB0 fun _ _ _ _ _ _ _ q=>le_int q
theorem op_gt:OpR X (compareOp .Gt) (rI0 fun i j=>.bl (decide (j<i))):=opB0 fun _ _ _ _ _ _ _ q=>gt_int q
theorem op_ge:OpR X (compareOp .GtE) (rI0 fun i j=>.bl (decide (j≤i))):=opB0 fun _ _ _ _ _ _ _ q=>ge_int q
theorem OpR.or(h:OpR X f r)(h':OpR X f r'):OpR X f (fun x y H Q=>r x y H Q∨r' x y H Q):=by
 intro pins s σ H x y v u Q I rx ry q
 rcases q with q | q
 ·exact h pins s σ H x y v u Q I rx ry q
 ·exact h' pins s σ H x y v u Q I rx ry q
theorem nomark(b:Expr)(h:op≠.In:=by decide)(h2:op≠.NotIn:=by decide):behindInMarks op b=false:=by
 have e1:(op==CmpOp.In)=false:=by cases op<;>first | rfl | exact absurd rfl h
 have e2:(op==CmpOp.NotIn)=false:=by cases op<;>first | rfl | exact absurd rfl h2
 cases b<;>simp[behindInMarks,e1,e2]
theorem pe_cmpR(ho:OpR X (compareOp op) r)(ha:PE X a ta)(hb:PE X b tb)(hm:behindInMarks op b=false):PE X (.Compare a [op] [b] pos) (tOp r ta tb):=by
 intro pins s σ H Q I h
 exact wpAny_Compare1 (binT ha hb I h fun v u s2 x y H2 I2 rx ry q=>ho pins s2 σ H2 x y v u Q I2 rx ry q) hm
def tTest(t:TE):TT:=fun σ H Q=>t σ H fun x H'=>∃k,x=.bl k∧Q k H'
theorem pt_cmpR(ho:OpR X (compareOp op) r)(ha:PE X a ta)(hb:PE X b tb)(hm:behindInMarks op b=false):PT X (.Compare a [op] [b] pos) (tTest (tOp r ta tb)):=by
 intro pins s σ H Q I h
 refine wpAny_isTrue_Compare1 (thn (ha pins s σ H _ I h) fun v s1 ⟨x,H1,I1,r1,q1⟩=>thn (hb pins s1 σ H1 _ I1 q1) fun u s2 ⟨y,H2,I2,r2,q2⟩=>
  thn (ho pins s2 σ H2 x y v u _ I2 r1 r2 q2) fun c s3 ⟨z,H3,I3,r3,k,e,q3⟩=>?_) hm
 subst e
 cases r3
 exact wpAny_truthy_bool ⟨H3,I3,q3⟩
def tChain(r r':R2)(ta tb tc:TE):TE:=fun σ H Q=>ta σ H fun x H1=>tb σ H1 fun y H2=>r x y H2 fun z H3=>∃k,z=.bl k ∧
 (if k=true then tc σ H3 fun w' H4=>r' y w' H4 Q else Q (.bl false) H3)
theorem pt_chain (ho:OpR X (compareOp op) r) (ho':OpR X (compareOp op') r') (ha:PE X a ta) (hb:PE X b tb) (hc:PE X c tc)
  (hm:lastMarks [op,op'] [b,c]=false:=by with_unfolding_all rfl):PT X (.Compare a [op,op'] [b,c] pos) (tTest (tChain r r' ta tb tc)):=by
 intro pins s σ H Q I h
 refine isTrue_chain (thn (ha pins s σ H _ I h) fun v s1 ⟨x,H1,I1,r1,q1⟩=>test_link (thn (hb pins s1 σ H1 _ I1 q1) fun u s2 ⟨y,H2,I2,r2,q2⟩=>
  thn (ho pins s2 σ H2 x y v u _ I2 r1 r2 q2) fun d s3 ⟨z,H3,I3,r3,k,e,q3⟩=>?_)) hm
 subst e
 cases r3
 refine wpAny_truthy_bool ?_
 cases k with
 |false=>
   obtain⟨k',e',q'⟩:=q3
   cases e'
   exact ite_ff ⟨H3,I3,q'⟩
 |true=>
   refine ite_tt (test_last (thn (hc pins s3 σ H3 _ I3 q3) fun w' s4 ⟨z',H4,I4,r4,q4⟩=>thn (ho' pins s4 σ H4 y z' u w' _ I4 r2 r4 q4) fun d' s5 ⟨z2,H5,I5,r5,k2,e2,q5⟩=>?_))
   subst e2
   cases r5
   exact wpAny_truthy_bool ⟨H5,I5,q5⟩
def TruV(K:PySem.W.Frag)(x:V)(H:Hp)(k:Bool):Prop:=
 match x with
 |.non=>k=false
 |.bl b=>k=b
 |.int i=>k=(i != 0)
 |.str y=>y.length≤sizeLine∧k=((y.length:Int) != 0)
 |.byt y=>y.size≤sizeLine∧k=((y.size:Int) != 0)
 |.ref p=>(∃xs,SqL K H p xs∧k=!xs.isEmpty)∨(∃xs,SqT K H p xs∧k=!xs.isEmpty)∨∃kvs,H p=some (.dK kvs)∧k=!kvs.isEmpty
 |_=>False
theorem isEmpty_kv(r:KV kvs vs):(!vs.isEmpty)=!kvs.isEmpty:=by
 cases r<;>rfl
theorem isEmpty_of(r:Vals xs its):(!its.toArray.isEmpty)=!xs.isEmpty:=by
 cases r<;>simp
theorem line63:(sizeLine:Nat)<2^63:=by rw[sizeLine_eq];decide
theorem tru_ok:TruR X (fun x H Q=>∃ k,TruV X.K x H k∧Q k H):=by
 intro pins s σ H x v Q I rx h
 obtain⟨k,e,q⟩:=h
 have hl:=line63
 have hs:sizeLine=16777216:=sizeLine_eq
 cases x with
 |non=>
   cases rx
   have e':k=false:=e
   subst e'
   exact truthy_none ⟨H,I,q⟩
 |bl b=>
   cases rx
   have e':k=b:=e
   subst e'
   exact wpAny_truthy_bool ⟨H,I,q⟩
 |int i=>
   obtain⟨t,rfl⟩:=rx
   have e':k=(i != 0):=e
   subst e'
   exact PySem.P.truthy_int ⟨H,I,q⟩
 |str y=>
   obtain⟨t,rfl⟩:=rx
   obtain⟨hy,e'⟩:y.length≤sizeLine∧k=((y.length:Int) != 0):=e
   subst e'
   exact PySem.P.truthy_str (by omega) ⟨H,I.tok _,q⟩
 |byt y=>
   obtain⟨t,rfl⟩:=rx
   obtain⟨hy,e'⟩:y.size≤sizeLine∧k=((y.size:Int) != 0):=e
   subst e'
   exact PySem.W.truthy_bytes (by omega) ⟨H,I.tok _,q⟩
 | ref p=>
   cases rx
   have e':(∃xs,SqL X.K H p xs∧k=!xs.isEmpty)∨(∃xs,SqT X.K H p xs∧k=!xs.isEmpty)∨∃kvs,H p=some (.dK kvs)∧k=!kvs.isEmpty:=e
   rcases e' with ⟨xs,hx,e'⟩ | ⟨xs,hx,e'⟩ | ⟨kvs,hx,e'⟩
   ·subst e'
    obtain⟨its,r,pl,hz⟩:=I.list hx
    have hlen:=r.length
    exact wpAny_truthy_list pl.isList (by simp only[List.size_toArray];omega) ⟨H,I.tok _,by rw[isEmpty_of r];exact q⟩
   ·subst e'
    obtain⟨its,r,pl,hz⟩:=I.tuple hx
    have hlen:=r.length
    exact truthy_tuple pl (by simp only[List.size_toArray];omega) ⟨H,I.tok _,by rw[isEmpty_of r];exact q⟩
   ·subst e'
    obtain⟨hz,hS,vs,r,m⟩:kvs.length≤sizeLine∧(p==sysModules)=false∧∃vs,KV kvs vs∧s.heap.DictOf (mixKind X.prog X.w) p vs:=I.hok p _ hx
    have hlen:kvs.length=vs.length:=Paired.length r
    exact wpAny_truthy_dict hS m (by omega) ⟨H,I.tok _,by rw[isEmpty_kv r];exact q⟩
 |_=>exact (show False from e).elim
theorem pt_truth(ha:PE X a ta)(he:∀whole,isTrue a X.env whole=(do let v ←whole;standAt a.pos;holding [v] (truthy v))) :
  PT X a (fun σ H Q=>ta σ H fun x H'=>∃k,TruV X.K x H' k∧Q k H'):=by
 intro pins s σ H Q I h
 exact isTrue_plain (thn (ha pins s σ H _ I h) fun v s1 ⟨x,H1,I1,r1,q1⟩=>tru_ok pins s1 σ H1 x v Q I1 r1 q1) (he _)
theorem op_add_str:OpR X (binaryOp .Add) (fun x y H Q=>∃i j,x=.str i∧y=.str j∧i.length+j.length≤sizeLine∧Q (.str (i++j)) H):=by
 intro pins s σ H x y v u Q I rx ry h
 obtain⟨i,j,rfl,rfl,hz,q⟩:=h
 obtain⟨t,rfl⟩:=rx
 obtain⟨t',rfl⟩:=ry
 exact add_str (fun t' tk=>⟨.str (i++j),H,I.tok _,⟨_,rfl⟩,q⟩) hz
theorem vals1(r:Vals [x] us):∃u,us=[u]∧RelV x u:=by
 cases r with
 |cons r1 r2=>cases r2;exact⟨_,rfl,r1⟩
theorem vals2 (r:Vals [x,y] us):∃ u w',us=[u,w']∧RelV x u∧RelV y w':=by
 cases r with
 |cons r1 r2=>
   cases r2 with
   |cons r3 r4=>cases r4;exact⟨_,_,rfl,r1,r3⟩
theorem call_max2(hc:X.calm=true):CallR X (.builtin "max") (fun xs H Q=>∃i j,xs=[.int i,.int j]∧Q (.int (if j > i then j else i)) H):=by
 intro pins s σ H xs us Q I r h
 obtain⟨i,j,rfl,q⟩:=h
 obtain⟨u,w',rfl,⟨t,rfl⟩,⟨t',rfl⟩⟩:=vals2 r
 refine max_two_ints (I.ok.hd hc) fun h' tk k=>⟨_,H,I.kept k,?_,q⟩
 by_cases hj:j > i
 ·rw[if_pos hj,if_pos hj];exact⟨_,rfl⟩
 ·rw[if_neg hj,if_neg hj];exact⟨_,rfl⟩
theorem call_min2(hc:X.calm=true):CallR X (.builtin "min") (fun xs H Q=>∃i j,xs=[.int i,.int j]∧Q (.int (if j<i then j else i)) H):=by
 intro pins s σ H xs us Q I r h
 obtain⟨i,j,rfl,q⟩:=h
 obtain⟨u,w',rfl,⟨t,rfl⟩,⟨t',rfl⟩⟩:=vals2 r
 refine min_two_ints (I.ok.hd hc) fun h' tk k=>⟨_,H,I.kept k,?_,q⟩
 by_cases hj:j<i
 ·rw[if_pos hj,if_pos hj];exact⟨_,rfl⟩
 ·rw[if_neg hj,if_neg hj];exact⟨_,rfl⟩
end
open PySem PySem.Spec PyProof.Rows
structure ObjM(h:Heap)(x dx C:Addr)(mA:Str->Option Value):Prop where
 obj:h.get? x=some (PySem.W.instObj C dx)
 ns:h.Ns1 dx mA
 ne:dx≠x
theorem lookIn_ns {h:Heap}{dx:Addr}{mA:Str->Option Value} (n:h.Ns1 dx mA):∃ od,h.get? dx=some od∧∀ name,PySem.W.lookIn name od=some (mA name):=by
 obtain⟨o,es,ep,ho,hd,hk,_,hm⟩:=n
 refine⟨o,ho,fun name=>?_⟩
 have e:=hm name
 unfold nsFind findBy at e
 rw[←Array.find?_toList] at e
 unfold PySem.W.lookIn
 rw[hd]
 dsimp only
 split
 ·rename_i y q
  rw[q] at e
  exact congrArg some e
 ·rename_i q
  rw[q] at e
  have a:es.toList.any (·.refKey)=false:=by
   rw[List.any_eq_false]
   intro y hy
   obtain⟨z,t,hkey⟩:=hk y (Array.mem_toList_iff.mp hy)
   simp[DictEntry.refKey,hkey]
  have a':¬ es.toList.any (·.refKey)=true:=by rw[a];exact Bool.false_ne_true
  rw[if_neg a']
  exact congrArg some e
theorem ObjM.look(I:ObjM h x dx C mA):∃od,PySem.W.InstAt h x (PySem.W.instObj C dx) C (some od)∧∀name,PySem.W.lookIn name od=some (mA name):=
 let ⟨od,ho,hl⟩:=lookIn_ns I.ns
 ⟨od,⟨I.obj,rfl,rfl,ho⟩,hl⟩
section
variable{prog:Program}{w:World}{A:Around}{E:Value->Shared->Prop}{s:Shared}{K:PySem.W.Frag}{x dx C f:Addr}{mA:Str->Option Value}{name:Str}{v:Value}
theorem get_map(X:K.In s.heap)(I:ObjM s.heap x dx C mA)(hg:PySem.W.plainGet K C name=true)(hh:PySem.W.hasDictIn K C=true)
  (ha:PySem.W.findIn K (.ref C) name=some none) (hv:mA name=some v) (hv':PySem.W.handedIn v=true) (h:Q v { s with toks:=s.toks+1 }) :
  wpAny (model prog w) A (getAttr (.ref x) name expr) Q E s:=by
 obtain⟨od,J,hl⟩:=I.look
 exact PySem.W.get_value X J (PySem.W.plainGet_of hg).1 (PySem.W.findObj_own hh ha rfl (by rw[hl,hv])) hv' h
theorem set_map(X:K.In s.heap)(I:ObjM s.heap x dx C mA)
  (hs:PySem.W.findIn K (.ref C) "__setattr__"=some (some (.builtin "object.__setattr__"))) (hp:PySem.W.plainOver K C=true) (ht:PySem.W.takerIn K C name=some none) (hh:PySem.W.hasDictIn K C=true)
  (hw:PySem.Within mA ns) (hsz:ns.length≤sizeLine)
  (h:∀h',ObjM h' x dx C (fun y=>if y=name then some v else mA y)->Heap.SameBut dx s.heap h'->Q () { s with heap:=h',toks:=s.toks+2 }) :
  wpAny (model prog w) A (setAttr (.ref x) name v) Q E s:=by
 obtain⟨od,J,hl⟩:=I.look
 refine PySem.W.set_plain X J hs (PySem.W.osa_open (s:={ s with toks:=s.toks+1 }) (r:=none) X J hp ht fun b=>?_)
 obtain⟨cd,hc,hd'⟩:=PySem.W.any_some hh
 have hx:s.heap.get? x=some ⟨.ref C,some dx,.plain,#[]⟩:=I.obj
 refine wpAny_bind (wpAny_pure (wpAny_bind (wpAny_bind (wpAny_loadPart hx (wpAny_bind (PySem.W.Looks.here (s:={ s with toks:=s.toks+1 }) (PySem.W.looks_clsIn X hc) ?_))))))
 rw[hd']
 refine wpAny_pure (a:=some dx) (wpAny_bind (wpAny_pure (wpAny_bind ?_)))
 refine wpAny_nsSet1 (s:={ s with toks:=s.toks+1 }) I.ns fun h' hn2 hs2=>?_
 obtain⟨oD,esD,epD,hoD,hdD,hcD⟩:=hn2.count (PySem.Within.cons name v hw)
 refine wpAny_bind (wpAny_lookBehind hoD (by rw[hdD];exact pastItsLine_dict (Nat.le_trans hcD (by rw[List.length_cons];omega))) ?_)
 exact wpAny_pure (h _ ⟨(hs2.2 _ (Ne.symm I.ne)).trans I.obj,hn2,I.ne⟩ hs2)
theorem make_map (X:K.In s.heap) (hm:PySem.W.makesIn K C=true)
  (hi:PySem.W.findIn K (.ref C) "__init__"=some (some (.ref f))) (hf:PySem.W.typeIn K (.ref f)=some (.type "function"))
  (h:codeAny (model prog w) (A.under (.builtin "type.__call__" ⟨.ref C::vs,kw⟩)) (.call (.ref f) ⟨.ref (s.heap.objs.size+1)::vs,kw⟩) (PySem.W.InitBack (s.heap.objs.size+1) R)
    { s with heap:=(s.heap.push PySem.W.emptyDict).push (PySem.W.instObj C s.heap.objs.size) }) :
  codeAny (model prog w) A (.call (.ref C) ⟨vs,kw⟩) R s:=by
 obtain⟨hh,g,d,t,os⟩:=s
 exact PySem.W.make_core (PySem.W.makes_of X hm) (PySem.W.looks_findIn X hi) (fun self=>PySem.W.bind_fn X self hf) (.inl rfl) h
end
def putF(f:Str)(v:V):List (Str×V)->List (Str×V)
 |[]=>[(f,v)]
 |(g,x)::r=>if g=f then (g,v)::r else (g,x)::putF f v r
theorem lookup_putF (f g:Str) (v:V):∀ fs:List (Str×V),(putF f v fs).lookup g=if g=f then some v else fs.lookup g
 | []=>by
   show List.lookup g [(f,v)]=_
   by_cases h:g=f
   ·have hb:(g==f)=true:=beq_iff_eq.mpr h
    simp only[List.lookup,hb,if_pos h]
   ·have hb:(g==f)=false:=beq_eq_false_iff_ne.mpr h
    simp only[List.lookup,hb,if_neg h]
 | (k,x)::r=>by
   have ih:=lookup_putF f g v r
   rw[show putF f v ((k,x)::r)=(if k=f then (k,v)::r else (k,x)::putF f v r) from rfl]
   by_cases hk:k=f
   ·rw[if_pos hk]
    by_cases h:g=k
    ·have hb:(g==k)=true:=beq_iff_eq.mpr h
     simp only[List.lookup,hb,if_pos (h.trans hk)]
    ·have hb:(g==k)=false:=beq_eq_false_iff_ne.mpr h
     simp only[List.lookup,hb,if_neg (fun e:g=f=>h (e.trans hk.symm))]
   ·rw[if_neg hk]
    by_cases h:g=k
    ·have hb:(g==k)=true:=beq_iff_eq.mpr h
     simp only[List.lookup,hb,if_neg (fun e:g=f=>hk (h.symm.trans e))]
    ·have hb:(g==k)=false:=beq_eq_false_iff_ne.mpr h
     simp only[List.lookup,hb]
     exact ih
theorem keys_putF (f:Str) (v:V):∀ fs:List (Str×V),f∈(putF f v fs).map (·.1)∧∀ g,g∈fs.map (·.1)->g∈(putF f v fs).map (·.1)
 |[]=>⟨by simp[putF],fun g h=>by simp at h⟩
 | (k,x)::r=>by
   obtain⟨i1,i2⟩:=keys_putF f v r
   rw[show putF f v ((k,x)::r)=(if k=f then (k,v)::r else (k,x)::putF f v r) from rfl]
   by_cases hk:k=f
   ·rw[if_pos hk]
    subst hk
    exact⟨by simp,fun g h=>by simpa using h⟩
   ·rw[if_neg hk]
    refine⟨?_,fun g h=>?_⟩
    ·rw[List.map_cons]
     exact List.mem_cons_of_mem _ i1
    ·rw[List.map_cons] at h ⊢
     rcases List.mem_cons.mp h with e | e
     ·exact List.mem_cons.mpr (.inl e)
     ·exact List.mem_cons_of_mem _ (i2 g e)
theorem length_putF (f:Str) (v:V):∀ fs:List (Str×V),(putF f v fs).length≤fs.length + 1
 |[]=>by simp[putF]
 |(k,x)::r=>by
   have ih:=length_putF f v r
   rw[show putF f v ((k,x)::r)=(if k=f then (k,v)::r else (k,x)::putF f v r) from rfl]
   by_cases hk:k=f
   ·rw[if_pos hk,List.length_cons,List.length_cons];omega
   ·rw[if_neg hk,List.length_cons,List.length_cons];omega
theorem RelO.some_of(r:RelO (some v) o):∃u,o=some u∧RelV v u:=by
 cases o with
 |none=>exact (show False from r).elim
 |some u=>exact⟨u,rfl,r⟩
theorem handed_of(r:RelV v u):PySem.W.handedIn u=true:=by
 cases v with
 |non=>cases (show u=Value.none from r);rfl
 |bl b=>cases (show u=Value.bool b from r);rfl
 |int i=>obtain⟨t,e⟩:=(show ∃t,u=Value.int i t from r);cases e;rfl
 |str x=>obtain⟨t,e⟩:=(show ∃t,u=Value.str x t from r);cases e;rfl
 |byt b=>obtain⟨t,e⟩:=(show ∃t,u=Value.bytes b t from r);cases e;rfl
 |flt b=>obtain⟨t,e⟩:=(show ∃t,u=Value.float b t from r);cases e;rfl
 |ref a=>cases (show u=Value.ref a from r);rfl
 |ty n=>cases (show u=Value.type n from r);rfl
section
variable{P:Program}{w:World}{H H':Hp}{h h':Heap}{a C dx:Addr}{fs fs':List (Str×V)}
theorem ins_get(hok:HOk P w H h)(e:H a=some (.ins C dx fs)):∃mA,ObjM h a dx C mA∧(∀f,RelO (fs.lookup f) (mA f))∧PySem.Within mA (fs.map (·.1))∧fs.length≤1000∧H dx=some (.own a):=by
 obtain⟨d,z,ne,ob,mA,n,r,q⟩:=(show ObjOk P w H h a (.ins C dx fs) from hok a _ e)
 exact⟨mA,⟨ob,n,ne⟩,r,q,z,d⟩
end
structure Cls(K:PySem.W.Frag)(C:Addr):Prop where
 pg:PySem.W.plainGet K C Str.empty=true
 hd:PySem.W.hasDictIn K C=true
 po:PySem.W.plainOver K C=true
 sa:PySem.W.findIn K (.ref C) "__setattr__"=some (some (.builtin "object.__setattr__"))
theorem Cls.get{K:PySem.W.Frag}{C:Addr}(c:Cls K C)(f:Str):PySem.W.plainGet K C f=true:=c.pg
def NoAttr(K:PySem.W.Frag)(C:Addr)(f:Str):Prop:=PySem.W.findIn K (.ref C) f=some none
theorem NoAttr.taker{K:PySem.W.Frag}{C:Addr}{f:Str}(n:NoAttr K C f):PySem.W.takerIn K C f=some none:=by
 unfold PySem.W.takerIn
 rw[show PySem.W.findIn K (.ref C) f=some none from n]
 rfl
section
variable{X:Cx}{pins:List (Addr×Obj)}{σ:St}{H:Hp}{s:Shared}{a C dx:Addr}{fs:List (Str×V)}{f:Str}{v:V}{A:Around}{E:Value->Shared->Prop}
theorem getattr_ok(I:Inv X pins σ H s)(e:H a=some (.ins C dx fs))(c:Cls X.K C)(n:NoAttr X.K C f)(l:fs.lookup f=some v)
  (h:∀u s',Inv X pins σ H s'->RelV v u->Q u s'):wpAny (model X.prog X.w) A (getAttr (.ref a) f b) Q E s:=by
 obtain⟨mA,O,r,_,_,_⟩:=ins_get I.hok e
 obtain⟨u,hu,ru⟩:=RelO.some_of (v:=v) (o:=mA f) (by rw[←l];exact r f)
 exact get_map I.kIn O (c.get f) c.hd n hu (handed_of ru) (h u _ (I.tok _) ru)
theorem setattr_ok (I:Inv X pins σ H s) (e:H a=some (.ins C dx fs)) (c:Cls X.K C) (n:NoAttr X.K C f) (hl:fs.length<1000) (ry:RelV y u)
  (h:∀s',Inv X pins σ (upd H a (.ins C dx (putF f y fs))) s'->Q () s'):wpAny (model X.prog X.w) A (setAttr (.ref a) f u) Q E s:=by
 obtain⟨mA,O,r,wi,_,ho⟩:=ins_get I.hok e
 have hz:(fs.map (·.1)).length≤sizeLine:=by rw[List.length_map,sizeLine_eq];omega
 refine set_map I.kIn O c.sa c.po n.taker c.hd wi hz fun h' O' sb=>h _ ?_
 have hd:∃o,h'.get? dx=some o:=let ⟨o,_,_,e',_⟩:=O'.ns;⟨o,e'⟩
 refine I.write (x:=a) (e:=dx) (by rw[e];exact True.intro) (.inr ho) (fun b q hb z=>(sb.2 b hb).trans z) hd ?_
 refine⟨by rw[upd_ne O.ne];exact ho,?_,O.ne,O'.obj,_,O'.ns,fun g=>?_,fun g hg=>?_⟩
 ·have:=length_putF f y fs;omega
 ·show RelO ((putF f y fs).lookup g) (if g=f then some u else mA g)
  rw[lookup_putF]
  by_cases q:g=f
  ·rw[if_pos q,if_pos q];exact ry
  ·rw[if_neg q,if_neg q];exact r g
 ·by_cases q:g=f
  ·rw[q];exact (keys_putF f y fs).1
  ·refine (keys_putF f y fs).2 g (wi g fun z=>hg ?_)
   show (if g=f then some u else mA g)=none
   rw[if_neg q];exact z
theorem Inv.made(I:Inv X pins σ H s):Inv X pins σ (upd (upd H s.heap.objs.size (.own (s.heap.objs.size+1))) (s.heap.objs.size+1) (.ins C s.heap.objs.size []))
  { s with heap:=(s.heap.push PySem.W.emptyDict).push (PySem.W.instObj C s.heap.objs.size) }:=by
 have e1:(s.heap.push PySem.W.emptyDict).get? s.heap.objs.size=some PySem.W.emptyDict:=Heap.get?_push_size s.heap rfl
 have e2:((s.heap.push PySem.W.emptyDict).push (PySem.W.instObj C s.heap.objs.size)).get? (s.heap.objs.size+1)=some (PySem.W.instObj C s.heap.objs.size):=by
  have:=Heap.get?_push_size (s.heap.push PySem.W.emptyDict) (o:=PySem.W.instObj C s.heap.objs.size) rfl
  rwa [Heap.size_push] at this
 have e3:(s.heap.push PySem.W.emptyDict).Ns s.heap.objs.size (fun _=>none):=⟨PySem.W.emptyDict,#[],_,e1,rfl,(fun e he=>absurd he (by simp)),fun _=>rfl⟩
 have I1:=I.laid (a:=s.heap.objs.size) (o:=.own (s.heap.objs.size+1)) (h':=s.heap.push PySem.W.emptyDict) (t':=s.toks) (fun b u q=>Heap.get?_push_of_some _ q) (Nat.le_refl _) ⟨_,e1⟩
 refine I1.laid (a:=s.heap.objs.size+1) (o:=.ins C s.heap.objs.size []) (t':=s.toks) (fun b u q=>Heap.get?_push_of_some _ q) (Nat.le_of_eq (Heap.size_push _ _)) ?_
 have ne:s.heap.objs.size≠s.heap.objs.size+1:=Nat.ne_of_lt (Nat.lt_succ_self _)
 refine⟨by rw[upd_ne ne,upd_same],Nat.zero_le _,ne,e2,fun _=>none,(Heap.Ns1.of_empty e3).at fun o q=>Heap.get?_push_of_some _ q,fun _=>True.intro,fun y hy=>absurd rfl hy⟩
theorem attr_of(hb:attributeBase e f env (eval e env)=eval e env)
  (h:wpAny (model prog w) A (eval e env) (fun o s₁=>wpAny (model prog w) A (getAttr o f true) Q E s₁) E s):wpAny (model prog w) A (eval (.Attribute e f pos) env) Q E s:=
 Attribute_any_ h (by rw[arm_eval_Attribute,hb])
end
def tFld(K:PySem.W.Frag)(ta:TE)(f:Str):TE:=fun σ H Q=>ta σ H fun x H1=>∃a C dx fs v,x=.ref a∧H1 a=some (.ins C dx fs)∧Cls K C∧NoAttr K C f∧fs.lookup f=some v∧Q v H1
def sFld(K:PySem.W.Frag)(ta tv:TE)(f:Str):TS:=fun D σ H=>tv σ H fun y H1=>ta σ H1 fun x H2=>∃a C dx fs,x=.ref a∧H2 a=some (.ins C dx fs)∧Cls K C∧NoAttr K C f∧fs.length<1000 ∧
 D.nx σ (upd H2 a (.ins C dx (putF f y fs)))
section
variable{X:Cx}{o e value:Expr}{f:Str}{pos pos' tpos:Pos}{ta tv:TE}
theorem pe_fld(he:PE X e ta)(hb:attributeBase e f X.env (eval e X.env)=eval e X.env):PE X (.Attribute e f pos) (tFld X.K ta f):=by
 intro pins s σ H Q I h
 refine attr_of hb (thn (he pins s σ H _ I h) fun u s1 ⟨x,H1,I1,rx,a,C,dx,fs,v,ex,ea,c,n,l,q⟩=>?_)
 subst ex
 obtain rfl:u=Value.ref a:=rx
 exact getattr_ok I1 ea c n l fun u' s2 I2 ru=>⟨v,H1,I2,ru,q⟩
theorem ps_fld(ha:PE X o ta)(hv:PE X value tv)(hs:swapsWith value (some (.Attribute o f pos')) pos.line X.env=pure false):PS X (.Assign [.Attribute o f pos'] value pos) (sFld X.K ta tv f):=by
 intro pins s σ H D I h
 refine plainObj_wpAny_Assign_Attribute (thn (hv pins s σ H _ I h) fun u s1 ⟨y,H1,I1,ry,q⟩=>thn (ha pins s1 σ H1 _ I1 q) fun ov s2 ⟨x,H2,I2,rx,a,C,dx,fs,ex,ea,c,n,l,q2⟩=>?_) hs
 subst ex
 obtain rfl:ov=Value.ref a:=rx
 exact setattr_ok I2 ea c n l ry fun s3 I3=>⟨σ,_,I3,q2⟩
end
section
variable{X:Cx}{pins:List (Addr×Obj)}{σ:St}{H:Hp}{s:Shared}{A:Around}{E:Value->Shared->Prop}{Q:Value->Shared->Prop}{c:Value}{b:Bool}
inductive TyOf (K:PySem.W.Frag) (H:Hp):V->Value->Prop where
 |non:TyOf K H .non (.type "NoneType")
 |bl (x:Bool):TyOf K H (.bl x) (.type "bool")
 |int (i:Int):TyOf K H (.int i) (.type "int")
 |str (x:Str):TyOf K H (.str x) (.type "str")
 |flt (x:UInt64):TyOf K H (.flt x) (.type "float")
 |lst {a:Addr}{xs:List V} (e:H a=some (.lst xs)):TyOf K H (.ref a) (.type "list")
 |frz {a:Addr}{o:Obj}{xs:List V} (e:H a=some (.frz o (.lst xs))):TyOf K H (.ref a) (.type "list")
 |tup {a:Addr}{xs:List V} (e:H a=some (.tup xs)):TyOf K H (.ref a) (.type "tuple")
 |dK {a:Addr}{kvs:List (Key×V)} (e:H a=some (.dK kvs)):TyOf K H (.ref a) (.type "dict")
 |dT {a:Addr}{kvs:List (List Key×V)} (e:H a=some (.dT kvs)):TyOf K H (.ref a) (.type "dict")
 |ins {a C dx:Addr}{fs:List (Str×V)} (e:H a=some (.ins C dx fs)) (cl:Cls K C) (ha:PySem.W.findIn K (.ref C) "__class__"=some (some (.builtin "object.__class__")))
   (hn:PySem.W.specialIn K (.builtin "object.__class__") "__get__"=some (some (.builtin "getset_descriptor.__get__"))) (htk:PySem.W.takesIn K (.builtin "object.__class__")=some true)
   (hm:PySem.W.mroIn K C (.type "object")=some true):TyOf K H (.ref a) (.ref C)
theorem isinst_ok (I:Inv X pins σ H s) (rx:RelV x u) (ty:TyOf X.K H x t) (e:PySem.W.kitOne X.K t c=some b) (h:∀ tk,Q (.bool b) { s with toks:=tk }) :
  wpAny (model X.prog X.w) A (call (.builtin "isinstance") [u,c]) Q E s:=by
 cases ty with
 |non=>cases (show u=Value.none from rx);exact PySem.W.kia_one PySem.W.kitx_none I.kIn True.intro e (fun z=>nomatch z) h
 |bl y=>cases (show u=Value.bool y from rx);exact PySem.W.kia_one PySem.W.kitx_bool I.kIn True.intro e (fun z=>nomatch z) h
 |int i=>obtain⟨t,q⟩:=(show ∃t,u=Value.int i t from rx);cases q;exact PySem.W.kia_one PySem.W.kitx_int I.kIn True.intro e (fun z=>nomatch z) h
 |str y=>obtain⟨t,q⟩:=(show ∃t,u=Value.str y t from rx);cases q;exact PySem.W.kia_one PySem.W.kitx_str I.kIn True.intro e (fun z=>nomatch z) h
 |flt y=>obtain⟨t,q⟩:=(show ∃t,u=Value.float y t from rx);cases q;exact PySem.W.kia_one PySem.W.kitx_float I.kIn True.intro e (fun z=>nomatch z) h
 | @lst a xs ea=>
   cases (show u=Value.ref a from rx)
   obtain⟨_,_,n,_,h1⟩:=(show ObjOk X.prog X.w H s.heap a (.lst xs) from I.hok a _ ea)
   exact PySem.W.kia_one PySem.W.kitx_list I.kIn ⟨_,h1,rfl⟩ e (fun z=>nomatch z) h
 | @frz a ob xs ea=>
   cases (show u=Value.ref a from rx)
   obtain⟨_,_,_,n,_,h1⟩:=(show ObjOk X.prog X.w H s.heap a (.frz ob (.lst xs)) from I.hok a _ ea)
   exact PySem.W.kia_one PySem.W.kitx_list I.kIn ⟨_,h1,rfl⟩ e (fun z=>nomatch z) h
 | @tup a xs ea=>
   cases (show u=Value.ref a from rx)
   obtain⟨_,_,_,p⟩:=(show ObjOk X.prog X.w H s.heap a (.tup xs) from I.hok a _ ea)
   obtain⟨o,h1,h2,_⟩:=p
   exact PySem.W.kia_one PySem.W.kitx_tuple I.kIn ⟨o,h1,h2⟩ e (fun z=>nomatch z) h
 | @dK a kvs ea=>
   cases (show u=Value.ref a from rx)
   obtain⟨_,_,vs,_,p⟩:=(show ObjOk X.prog X.w H s.heap a (.dK kvs) from I.hok a _ ea)
   obtain⟨o,es,ep,h1,h2,_⟩:=p
   exact PySem.W.kia_one PySem.W.kitx_dict I.kIn ⟨o,h1,h2.1⟩ e (fun z=>nomatch z) h
 | @dT a kvs ea=>
   cases (show u=Value.ref a from rx)
   obtain⟨_,_,xs,_,o,es,ep,h1,h2,_⟩:=(show ObjOk X.prog X.w H s.heap a (.dT kvs) from I.hok a _ ea)
   exact PySem.W.kia_one PySem.W.kitx_dict I.kIn ⟨o,h1,h2.1⟩ e (fun z=>nomatch z) h
 | @ins a C dx fs ea cl ha hn htk hm=>
   cases (show u=Value.ref a from rx)
   obtain⟨mA,O,_⟩:=ins_get I.hok ea
   obtain⟨od,J,_⟩:=O.look
   exact PySem.W.kia_one (PySem.W.kitx_own (cl.get _) cl.hd ha hn htk hm) I.kIn J e (fun z=>nomatch z) h
end
open PySem PySem.Spec PyProof.Rows
structure Room(k:Nat)(A:Around):Prop where
 hd:A.handled=none
 dp:A.depth+3*k+5<recursionLimit
 un:A.units+16*k+200<cLine
 gd:A.guards=some []
theorem Room.mono(r:Room k A)(h:j≤k):Room j A:=⟨r.hd,by have:=r.dp;omega,by have:=r.un;omega,r.gd⟩
theorem Room.deeper(r:Room (k+1) A)(env:Env):Room k (A.deeper env):=
 ⟨r.hd,by have:=r.dp;show A.depth+1+3*k+5<_;omega,by have:=r.un;show A.units+3+16*k+200<_;omega,r.gd⟩
theorem make_depth{A:Around}{C:Addr}{us:List Value}{kw:List (Str×Value)}:(A.under (.builtin "type.__call__" ⟨.ref C::us,kw⟩)).depth=A.depth+1:=by
 first | rfl | simp[Around.under,Code.weight,Code.isCreation,Code.isGuard,Code.isCaller,Code.frames,Code.isFrame,guardIds]
theorem make_units{A:Around}{C:Addr}{us:List Value}{kw:List (Str×Value)}:(A.under (.builtin "type.__call__" ⟨.ref C::us,kw⟩)).units=A.units+1:=by
 first | rfl | simp[Around.under,Code.cUnits,Code.frames,Code.isFrame]
theorem yQ{A:Around}{C:Addr}{us:List Value}{kw:List (Str×Value)}:(A.under (.builtin "type.__call__" ⟨.ref C::us,kw⟩)).guards=A.guards:=by
 simp[Around.under,Code.guards,Code.isGuard,guardIds,pushGuards]
theorem Room.make(r:Room (k+1) A)(C:Addr)(us:List Value)(kw:List (Str×Value)):Room k (A.under (.builtin "type.__call__" ⟨.ref C::us,kw⟩)):=
 ⟨r.hd,by have:=r.dp;rw[make_depth];omega,by have:=r.un;rw[make_units];omega,by first | (rw[yQ];exact r.gd) | exact r.gd⟩
theorem Room.depth(r:Room k A):A.depth<recursionLimit:=by have:=r.dp;omega
theorem Room.units(r:Room k A):A.units+64<cLine:=by have:=r.un;omega
def tNil:TA:=fun _ H Q=>Q [] H
def tCons(ta:TE)(tr:TA):TA:=fun σ H Q=>ta σ H fun x H1=>tr σ H1 fun xs H2=>Q (x::xs) H2
section
variable{X:Cx}{e:Expr}{es:List Expr}{te:TE}{t:TA}{pos:Pos}
theorem pa_nil:PA X [] tNil:=fun _ _ _ _ H Q I h=>Calls.spliced_nil ⟨[],H,I,.nil,h⟩
theorem pa_cons(ha:PE X e te)(hr:PA X es t)(hs:starEach (e::es) X.env=(false,eval e X.env)::starEach es X.env:=by rfl):PA X (e::es) (tCons te t):=by
 intro pos pins s σ H Q I h
 rw[hs]
 show wpAny _ _ (spliced ((false,eval e X.env)::backTo pos (starEach es X.env))) _ _ s
 refine Calls.spliced_cons (thn (ha pins s σ H _ I h) fun u s1 ⟨x,H1,I1,r1,q1⟩=>?_)
 exact thn (hr pos pins s1 σ H1 _ I1 q1) fun us s2 ⟨xs,H2,I2,r2,q2⟩=>⟨x::xs,H2,I2,.cons r1 r2,q2⟩
def tTup(t:TA):TE:=fun σ H Q=>t σ H fun xs H1=>xs.length≤sizeLine∧∀p,H1 p=none->Q (.ref p) (upd H1 p (.tup xs))
def tLst(t:TA):TE:=fun σ H Q=>t σ H fun xs H1=>xs.length≤sizeLine∧∀p,H1 p=none->Q (.ref p) (upd H1 p (.lst xs))
theorem pe_tup{x1}(h:PA X es t):PE X (.Tuple es x1 pos) (tTup t):=by
 intro pins s σ H Q I hq
 refine wpAny_Tuple_spliced (thn (h pos pins s σ H _ I hq) fun us s1 ⟨xs,H1,I1,r,z,q⟩=>⟨by rw[←r.length];exact z,?_⟩)
 have hf:H1 s1.heap.objs.size=none:=I1.hok.fresh (Nat.le_refl _)
 refine⟨.ref s1.heap.objs.size,upd H1 s1.heap.objs.size (.tup xs),I1.laid (t':=s1.toks) (fun b u e=>Heap.get?_push_of_some _ e) (Nat.le_refl _) ?_,rfl,q _ hf⟩
 exact⟨z,us,r,⟨_,Heap.get?_push_size _ rfl,rfl,_,rfl⟩⟩
theorem pe_lst(h:PA X es t):PE X (.List es pos) (tLst t):=by
 intro pins s σ H Q I hq
 refine wpAny_List_spliced (thn (h pos pins s σ H _ I hq) fun us s1 ⟨xs,H1,I1,r,z,q⟩=>⟨by rw[←r.length];exact z,?_⟩)
 have hf:H1 s1.heap.objs.size=none:=I1.hok.fresh (Nat.le_refl _)
 refine⟨.ref s1.heap.objs.size,upd H1 s1.heap.objs.size (.lst xs),I1.laid (t':=s1.toks) (fun b u e=>Heap.get?_push_of_some _ e) (Nat.le_refl _) ?_,rfl,q _ hf⟩
 exact⟨z,us,0,r,Heap.get?_push_size _ rfl⟩
end
abbrev Sp:=List V->Hp->VK->XK->Prop
abbrev CXT:=List Env->Hp->Shared->XK->Value->Shared->Prop
structure Env0(P:Program)(w:World)(K:PySem.W.Frag)(mg:Str->Option Value)(base:Heap)(A:Around)(outer:List Env)(s:Shared)(H:Hp):Prop where
 frames:A.frames=some outer
 mod:Mod K mg base
 bs:∀b o,base.get? b=some o->s.heap.get? b=some o∧H b=none
 bsz:base.objs.size≤s.heap.objs.size
 funs:s.heap.FunFrames base outer
 frf:∀b∈frs outer,H b=none
 hok:HOk P w H s.heap
 bare:AllBare s.gens
def CE(outer:List Env)(P:Program)(w:World)(H:Hp)(s:Shared)(Q:VK)(u:Value)(s':Shared):Prop:=
 ∃v H',s'.os=s.os∧AllBare s'.gens∧Un (frs outer) [] H H' s.heap s'.heap∧HOk P w H' s'.heap∧RelV v u∧Q v H'
def CR(CX:CXT)(outer:List Env)(P:Program)(w:World)(H:Hp)(s:Shared)(Q:VK)(E:XK)(r:Result)(s':Shared):Prop:=
 match r with
 |.ok (.ret u)=>CE outer P w H s Q u s'
 |.ok _=>False
 |.error e=>CX outer H s E e s'
structure FnOk(P:Program)(w:World)(K:PySem.W.Frag)(mg:Str->Option Value)(base:Heap)(CX:CXT)(k:Nat)(f:Addr)(fd:FuncData)(ps:List Str)(sp:Sp):Prop where
 len:∀vs H Q E,sp vs H Q E->vs.length=ps.length
 run:∀(A:Around) (outer:List Env) (s:Shared) (H:Hp) (args:Args) (us:List Value) (vs:List V) (Q:VK) (E:XK),Room k A->Env0 P w K mg base A outer s H->BindsTo s fd args (ps.zip us)->Vals vs us->sp vs H Q E->
  codeAny (model P w) A (.call (.ref f) args) (CR CX outer P w H s Q E) s
theorem FnOk.mono{P:Program}{w:World}{K:PySem.W.Frag}{mg:Str->Option Value}{base:Heap}{CX:CXT}{j k:Nat}{f:Addr}{fd:FuncData}{ps:List Str}{sp:Sp}(F:FnOk P w K mg base CX j f fd ps sp)(h:j≤k) :
  FnOk P w K mg base CX k f fd ps sp:=⟨F.len,fun A outer s H args us vs Q E hr=>F.run A outer s H args us vs Q E (hr.mono h)⟩
theorem FnOk.imp{P:Program}{w:World}{K:PySem.W.Frag}{mg:Str->Option Value}{base:Heap}{CX:CXT}{k:Nat}{f:Addr}{fd:FuncData}{ps:List Str}{sp sp':Sp}(F:FnOk P w K mg base CX k f fd ps sp)
  (h:∀vs H Q E,sp' vs H Q E->sp vs H Q E):FnOk P w K mg base CX k f fd ps sp':=
 ⟨fun vs H Q E q=>F.len vs H Q E (h _ _ _ _ q),fun A outer s H args us vs Q E hr he hb hv hs=>F.run A outer s H args us vs Q E hr he hb hv (h _ _ _ _ hs)⟩
theorem Env0.make{P:Program}{w:World}{K:PySem.W.Frag}{mg:Str->Option Value}{base:Heap}{A:Around}{outer:List Env}{s:Shared}{H:Hp}(e:Env0 P w K mg base A outer s H)(C:Addr)(us:List Value)(kw:List (Str×Value)) :
  Env0 P w K mg base (A.under (.builtin "type.__call__" ⟨.ref C::us,kw⟩)) outer s H:=⟨by first | exact e.frames | (simpa[Around.under,Code.envs,Code.isFrame,pushEnvs] using e.frames),e.mod,e.bs,e.bsz,e.funs,e.frf,e.hok,e.bare⟩
section
variable{X:Cx}{pins:List (Addr×Obj)}{σ:St}{H:Hp}{s s':Shared}
theorem Inv.env0(I:Inv X pins σ H s):Env0 X.prog X.w X.K X.mg X.base X.A X.stack s H:=
 ⟨I.ok.frames,I.ok.mod,I.bs,Nat.le_trans I.ok.bsz I.sz,I.stack,I.stkFree,I.hok,I.bare⟩
theorem Inv.after(I:Inv X pins σ H s)(h:CE X.stack X.prog X.w H s Q u s'):EP X pins σ Q u s':=by
 obtain⟨v,H',os,bare,un,hok,r,q⟩:=h
 obtain⟨hh,g,d,t,os'⟩:=s'
 obtain rfl:os'=s.os:=os
 exact⟨v,H',I.call (h':=hh) (g':=g) (d':=d) (t':=t) (ch:=[]) un hok bare (fun b z=>absurd z (by simp)),r,q⟩
end
def tCall(sp:Sp)(dvs:List V)(E:XK)(t:TA):TE:=fun σ H Q=>t σ H fun vs H1=>sp (vs++dvs) H1 Q E
def tMake(C:Addr)(sp:Sp)(dvs:List V)(E:XK)(t:TA):TE:=fun σ H Q=>t σ H fun vs H1=>∀x dx,H1 x=none->H1 dx=none->dx≠x->
 sp (.ref x::(vs++dvs)) (upd (upd H1 dx (.own x)) x (.ins C dx [])) (fun v H2=>v=.non∧Q (.ref x) H2) E
def Binds(K:PySem.W.Frag)(fd:FuncData)(ps:List Str)(ds:List Value):Prop:=
 ∀(s:Shared) (us:List Value),K.In s.heap->(us++ds).length=ps.length->BindsTo s fd ⟨us,[]⟩ (ps.zip (us++ds))
theorem Binds.all{K:PySem.W.Frag}{fd:FuncData}{ps:List Str}(h:∀us:List Value,us.length=ps.length->bindArgs fd ⟨us,[]⟩=pure (ps.zip us)):Binds K fd ps []:=fun s us _ hl=>by
 rw[List.append_nil] at hl ⊢
 exact .of_eq (h us hl)
def Passes(CX:CXT)(X:Cx)(E:XK):Prop:=∀(pins:List (Addr×Obj)) (σ:St) (H:Hp) (s:Shared) (e:Value) (s':Shared),Inv X pins σ H s->CX X.stack H s E e s'->X.xe e s'
section
variable{X:Cx}{CX:CXT}{k:Nat}{f C:Addr}{fd:FuncData}{ps:List Str}{sp:Sp}{dvs:List V}{ds:List Value}{E:XK}{x m:Str}{p pos apos:Pos}{e o:Expr}{es:List Expr}{ta:TE}{t:TA}
theorem run_fn (F:FnOk X.prog X.w X.K X.mg X.base CX k f fd ps sp) (hr:Room k X.A) (hb:Binds X.K fd ps ds) (hd:Vals dvs ds) (hx:Passes CX X E)
  (I:Inv X pins σ H s) (r:Vals vs us) (h:sp (vs++dvs) H Q E):wpAny (model X.prog X.w) X.A (call (.ref f) us) (EP X pins σ Q) X.xe s:=by
 have r2:Vals (vs++dvs) (us++ds):=r.append hd
 have hl:(us++ds).length=ps.length:=by rw[←r2.length];exact F.len _ _ _ _ h
 refine wpAny_call (codeAny_mono (F.run X.A X.stack s H ⟨us,[]⟩ (us++ds) (vs++dvs) Q E hr I.env0 (hb s us I.kIn hl) r2 h) fun r s' hq=>?_)
 cases r with
 |error e=>exact hx pins σ H s e s' I hq
 |ok fl=>
   cases fl with
   |ret u=>exact I.after hq
   |next=>exact False.elim hq
   |brk=>exact False.elim hq
   |cont=>exact False.elim hq
theorem pe_call(F:FnOk X.prog X.w X.K X.mg X.base CX k f fd ps sp)(hr:Room k X.A)(hg:Gl X x)(hm:X.mg x=some (.ref f))(hk:PySem.W.keepIn X.K (.ref f)=true)(hb:Binds X.K fd ps ds)(hd:Vals dvs ds)(hx:Passes CX X E)
  (ha:PA X (e::es) t) (hdb:(x==("__debug__":Str))=false:=by decide) (he:starEach (e::es) X.env=(false,eval e X.env)::starEach es X.env:=by rfl) (hpl:(backTo pos (starEach es X.env)).any (·.1)=false:=by rfl) :
  PE X (.Call (.Name x p) (e::es) [] pos) (tCall sp dvs E t):=by
 intro pins s σ H Q I h
 refine wpAny_Call_Name_kw (ld_glob I hg hm ?_ hdb)
 refine PySem.W.callWith_K (h₀:=X.base) I.ok.mod.kin hk (thn (ha pos pins s σ H _ I h) fun us s1 ⟨vs,H1,I1,r,q⟩=>⟨I1.kIn,?_⟩) he hpl
 exact run_fn F hr hb hd hx I1 r q
structure Mk(K:PySem.W.Frag)(C f:Addr):Prop where
 makes:PySem.W.makesIn K C=true
 init:PySem.W.findIn K (.ref C) "__init__"=some (some (.ref f))
 fn:PySem.W.isFn K (.ref f)=true
 kp:PySem.W.keepIn K (.ref C)=true
theorem run_make (M:Mk X.K C f) (F:FnOk X.prog X.w X.K X.mg X.base CX k f fd ps sp) (hr:Room (k + 1) X.A) (hb:Binds X.K fd ps ds) (hd:Vals dvs ds)
  (hx:Passes CX X E) (I:Inv X pins σ H s) (r:Vals vs us)
  (h:∀x dx,H x=none->H dx=none->dx≠x->sp (.ref x::(vs++dvs)) (upd (upd H dx (.own x)) x (.ins C dx [])) (fun v H2=>v=.non∧Q (.ref x) H2) E) :
  wpAny (model X.prog X.w) X.A (call (.ref C) us) (EP X pins σ Q) X.xe s:=by
 have hq:=h (s.heap.objs.size+1) s.heap.objs.size (I.hok.fresh (Nat.le_succ _)) (I.hok.fresh (Nat.le_refl _)) (Nat.ne_of_lt (Nat.lt_succ_self _))
 have I2:=Inv.made (C:=C) I
 have r2:Vals (V.ref (s.heap.objs.size+1)::(vs++dvs)) (Value.ref (s.heap.objs.size+1)::(us++ds)):=.cons rfl (r.append hd)
 have hl:(Value.ref (s.heap.objs.size+1)::us++ds).length=ps.length:=by
  have e:=r2.length
  rw[F.len _ _ _ _ hq] at e
  exact e.symm
 refine wpAny_call (make_map (f:=f) I.kIn M.makes M.init (beq_iff_eq.mp M.fn) (codeAny_mono (F.run _ X.stack _ _ ⟨Value.ref (s.heap.objs.size+1)::us,[]⟩ (Value.ref (s.heap.objs.size+1)::(us++ds)) _ _ E (hr.make C us [])
  (I2.env0.make C us []) (hb _ (Value.ref (s.heap.objs.size+1)::us) I2.kIn hl) r2 hq) fun r s' hq'=>?_))
 cases r with
 |error e=>exact hx pins σ _ _ e s' I2 hq'
 | ok fl=>
   cases fl with
   |ret u=>
     obtain⟨v,H',I3,rv,ev,q3⟩:=I2.after hq'
     subst ev
     exact⟨rv,⟨V.ref (s.heap.objs.size+1),H',I3,rfl,q3⟩⟩
   |next=>exact False.elim hq'
   |brk=>exact False.elim hq'
   |cont=>exact False.elim hq'
theorem pe_make(M:Mk X.K C f)(F:FnOk X.prog X.w X.K X.mg X.base CX k f fd ps sp)(hr:Room (k+1) X.A)(hg:Gl X x)(hm:X.mg x=some (.ref C))(hb:Binds X.K fd ps ds)(hd:Vals dvs ds)(hx:Passes CX X E)
  (ha:PA X (e::es) t) (hdb:(x==("__debug__":Str))=false:=by decide) (he:starEach (e::es) X.env=(false,eval e X.env)::starEach es X.env:=by rfl) (hpl:(backTo pos (starEach es X.env)).any (·.1)=false:=by rfl) :
  PE X (.Call (.Name x p) (e::es) [] pos) (tMake C sp dvs E t):=by
 intro pins s σ H Q I h
 refine wpAny_Call_Name_kw (ld_glob I hg hm ?_ hdb)
 refine PySem.W.callWith_K (h₀:=X.base) I.ok.mod.kin M.kp (thn (ha pos pins s σ H _ I h) fun us s1 ⟨vs,H1,I1,r,q⟩=>⟨I1.kIn,?_⟩) he hpl
 exact run_make M F hr hb hd hx I1 r q
end
def PK(X:Cx)(kws:List Keyword)(t:TA):Prop:=
 ∀(pos:Pos) (pins:List (Addr×Obj)) (s:Shared) (σ:St) (H:Hp) (Q:List V->Hp->Prop),Inv X pins σ H s->t σ H Q->wpAny (model X.prog X.w) X.A (evalAll ((backToKw pos (keywordEach kws X.env)).map (·.2))) (AP X pins σ Q) X.xe s
section
variable{X:Cx}{CX:CXT}{k:Nat}{f C:Addr}{fd:FuncData}{ps ks:List Str}{sp:Sp}{E:XK}{x m:Str}{p pos apos kpos:Pos}{e o:Expr}{es:List Expr}{kws:List Keyword}{te ta:TE}{t tk:TA}{nm:Option Str}
theorem pk_nil:PK X [] tNil:=fun _ _ _ _ H Q I h=>wpAny_evalAll_nil ⟨[],H,I,.nil,h⟩
theorem pk_cons(ha:PE X e te)(hr:PK X kws t):PK X (⟨nm,e,kpos⟩::kws) (tCons te t):=by
 intro pos pins s σ H Q I h
 show wpAny _ _ (evalAll ((do let v ←eval e X.env;standAt pos;pure v)::(backToKw pos (keywordEach kws X.env)).map (·.2))) _ _ s
 refine wpAny_evalAll_cons (wpAny_bind (thn (ha pins s σ H _ I h) fun u s1 ⟨x,H1,I1,r1,q1⟩=>wpAny_bind (wpAny_standAt (wpAny_pure ?_))))
 exact thn (hr pos pins s1 σ H1 _ I1 q1) fun us s2 ⟨xs,H2,I2,r2,q2⟩=>⟨x::xs,H2,I2,.cons r1 r2,q2⟩
structure KBinds(K:PySem.W.Frag)(fd:FuncData)(ps ks:List Str)(g:List Value->List Value->List Value)(gV:List V->List V->List V):Prop where
 to:∀(s:Shared) (us ws:List Value),K.In s.heap->(g us ws).length=ps.length->BindsTo s fd ⟨us,ks.zip ws⟩ (ps.zip (g us ws))
 rel:∀{vs:List V}{us:List Value}{zs:List V}{ws:List Value},Vals vs us->Vals zs ws->Vals (gV vs zs) (g us ws)
def tCallK(sp:Sp)(gV:List V->List V->List V)(E:XK)(t tk:TA):TE:=fun σ H Q=>t σ H fun vs H1=>tk σ H1 fun zs H2=>sp (gV vs zs) H2 Q E
variable{g:List Value->List Value->List Value}{gV:List V->List V->List V}
theorem run_fnk (F:FnOk X.prog X.w X.K X.mg X.base CX k f fd ps sp) (hr:Room k X.A) (hb:KBinds X.K fd ps ks g gV) (hx:Passes CX X E)
  (I:Inv X pins σ H s) (r:Vals vs us) (rz:Vals zs ws) (h:sp (gV vs zs) H Q E):wpAny (model X.prog X.w) X.A (call (.ref f) us (ks.zip ws)) (EP X pins σ Q) X.xe s:=by
 have r2:=hb.rel r rz
 have hl:(g us ws).length=ps.length:=by rw[←r2.length];exact F.len _ _ _ _ h
 refine wpAny_call (codeAny_mono (F.run X.A X.stack s H ⟨us,ks.zip ws⟩ (g us ws) (gV vs zs) Q E hr I.env0 (hb.to s us ws I.kIn hl) r2 h) fun r s' hq=>?_)
 cases r with
 |error e=>exact hx pins σ H s e s' I hq
 |ok fl=>
   cases fl with
   |ret u=>exact I.after hq
   |next=>exact False.elim hq
   |brk=>exact False.elim hq
   |cont=>exact False.elim hq
theorem pe_callK(F:FnOk X.prog X.w X.K X.mg X.base CX k f fd ps sp)(hr:Room k X.A)(hg:Gl X x)(hm:X.mg x=some (.ref f))(hk:PySem.W.keepIn X.K (.ref f)=true)(hb:KBinds X.K fd ps ks g gV)(hx:Passes CX X E)
  (ha:PA X (e::es) t) (hkw:PK X kws tk) (hall:(backToKw pos (keywordEach kws X.env)).all (·.1.isSome)=true:=by rfl) (hks:(backToKw pos (keywordEach kws X.env)).filterMap (·.1)=ks:=by rfl)
  (hdb:(x==("__debug__":Str))=false:=by decide) (he:starEach (e::es) X.env=(false,eval e X.env)::starEach es X.env:=by rfl)
  (hpl:((backTo pos (starEach (e::es) X.env)).any (·.1) || (backToKw pos (keywordEach kws X.env)).any (·.1.isNone))=false:=by rfl) :
  PE X (.Call (.Name x p) (e::es) kws pos) (tCallK sp gV E t tk):=by
 intro pins s σ H Q I h
 refine wpAny_Call_Name_kw (ld_glob I hg hm ?_ hdb)
 refine PySem.W.callWith_KW (h₀:=X.base) I.ok.mod.kin hk hall (thn (ha pos pins s σ H _ I h) fun us s1 ⟨vs,H1,I1,r,q⟩=>?_) hpl he
 refine thn (hkw pos pins s1 σ H1 _ I1 q) fun ws s2 ⟨zs,H2,I2,rz,q2⟩=>⟨I2.kIn,?_⟩
 rw[hks]
 exact run_fnk F hr hb hx I2 r rz q2
end
structure FnScope(N P:List Str)(sc:Scope):Prop where
 kind:sc.kind=.function
 co:sc.isCoroutine=false
 gen:sc.isGenerator=false
 nd:N.Nodup
 pre:N.take P.length=P
 par:∀x∈P,sc.names.lookup x=some .local∨sc.names.lookup x=some .cell
 nofree:∀y∈sc.names,y.2≠.free
theorem bindL_out {kindOf:Str->Option NameKind}:∀ {binds:List (Str×Value)}{m:Str->Option Value},(∀ v,(x,v)∉binds)->bindL kindOf binds m x=m x
 |[],_,_=>rfl
 | (n,v)::r,m,h=>by
   unfold bindL
   rw[bindL_out fun w hw=>h w (List.mem_cons_of_mem _ hw)]
   split
   ·have:x≠n:=by rintro rfl;exact h v List.mem_cons_self
    simp[this]
   ·rfl
theorem bindC_out {kindOf:Str->Option NameKind}:∀ {binds:List (Str×Value)}{m:Str->Option Value},(∀ v,(x,v)∉binds)->bindC kindOf binds m x=m x
 |[],_,_=>rfl
 | (n,v)::r,m,h=>by
   unfold bindC
   rw[bindC_out fun w hw=>h w (List.mem_cons_of_mem _ hw)]
   split
   ·rfl
   ·have:x≠n:=by rintro rfl;exact h v List.mem_cons_self
    simp[this]
theorem bindL_get {kindOf:Str->Option NameKind}:∀ {P:List Str}{vs:List Value}{i:Nat}{m:Str->Option Value},P.Nodup->P[i]?=some x->vs[i]?=some v->kindOf x=some .local->
  bindL kindOf (P.zip vs) m x=some v
 |[],_,_,_,_,h,_,_=>by simp at h
 |_::_,[],_,_,_,_,h,_=>by simp at h
 |p::P,w::vs,0,m,nd,h1,h2,hk=>by
   simp at h1 h2;subst h1;subst h2
   show bindL kindOf ((p,w)::P.zip vs) m p=_
   unfold bindL
   rw[bindL_out fun v hv=>(List.nodup_cons.mp nd).1 (List.of_mem_zip hv).1,if_pos hk]
   simp
 |p::P,w::vs,i+1,m,nd,h1,h2,hk=>by
   show bindL kindOf ((p,w)::P.zip vs) m x=_
   unfold bindL
   exact bindL_get (i:=i) (List.nodup_cons.mp nd).2 (by simpa using h1) (by simpa using h2) hk
theorem bindC_get {kindOf:Str->Option NameKind}:∀ {P:List Str}{vs:List Value}{i:Nat}{m:Str->Option Value},P.Nodup->P[i]?=some x->vs[i]?=some v->kindOf x≠some .local->
  bindC kindOf (P.zip vs) m x=some v
 |[],_,_,_,_,h,_,_=>by simp at h
 |_::_,[],_,_,_,_,h,_=>by simp at h
 |p::P,w::vs,0,m,nd,h1,h2,hk=>by
   simp at h1 h2;subst h1;subst h2
   show bindC kindOf ((p,w)::P.zip vs) m p=_
   unfold bindC
   rw[bindC_out fun v hv=>(List.nodup_cons.mp nd).1 (List.of_mem_zip hv).1,if_neg hk]
   simp
 |p::P,w::vs,i+1,m,nd,h1,h2,hk=>by
   show bindC kindOf ((p,w)::P.zip vs) m x=_
   unfold bindC
   exact bindC_get (i:=i) (List.nodup_cons.mp nd).2 (by simpa using h1) (by simpa using h2) hk
def start(N:List Str)(vs:List V):St:=vs.map some++List.replicate (N.length-vs.length) none
def cxOf(CX:CXT)(P:Program)(w:World)(K:PySem.W.Frag)(mg:Str->Option Value)(base:Heap)(N:List Str)(qual:Str)(scope:Scope)(f:Addr)(cd:Value)(A:Around)(outer:List Env)(s:Shared)(H:Hp)(E:XK):Cx where
 prog:=P
 w:=w
 K:=K
 mg:=mg
 base:=base
 A:=A.deeper (envOfC qual scope s.heap.objs.size f cd)
 N:=N
 s₀:=s
 H₀:=H
 env:=envOfC qual scope s.heap.objs.size f cd
 outer:=outer
 stack:=envOfC qual scope s.heap.objs.size f cd::outer
 ex:=[]
 calm:=true
 fn:=fun _=>true
 pn:=[]
 xe:=fun e s'=>wpAny (model P w) (A.deeper (envOfC qual scope s.heap.objs.size f cd)) (leaving (envOfC qual scope s.heap.objs.size f cd) e) (fun _ s''=>CX outer H s E e s'') (fun e' s''=>CX outer H s E e' s'') s'
theorem cell_has{sc:Scope}{n:Nat}{x:Str}(h:sc.names.lookup x=some .cell):∃c,(cellsFrom n sc.names []).lookup x=some c:=by
 have q:=PySem.W.cellsFrom_some sc.names n [] (.inl h)
 exact Option.isSome_iff_exists.mp q
theorem inv_start {CX:CXT}{P:Program}{w:World}{K:PySem.W.Frag}{mg:Str->Option Value}{base:Heap}{N ps:List Str}{qual:Str}{scope:Scope}{f:Addr}{cd:Value}{A:Around}{outer:List Env}{s s1:Shared}{H:Hp}{E:XK}{us:List Value}{vs:List V}
  (S:FnScope N ps scope) (hd:A.handled=none) (e0:Env0 P w K mg base A outer s H) (hl:vs.length=ps.length) (r:Vals vs us)
  (x:InCallC s s.heap.objs.size (bindL (envOfC qual scope s.heap.objs.size f cd).kindOf (ps.zip us) fun _=>none) (cellsFrom (s.heap.objs.size+1) scope.names []) (bindC (envOfC qual scope s.heap.objs.size f cd).kindOf (ps.zip us) fun _=>none) s1) :
  Inv (cxOf CX P w K mg base N qual scope f cd A outer s H E) [] (start N vs) H s1:=by
 have hpl:ps.length≤N.length:=by have:=congrArg List.length S.pre;rw[List.length_take] at this;omega
 obtain⟨h1,tk,rfl,hk⟩:=x.done
 have noA:∀b:Addr,b∉(cxOf CX P w K mg base N qual scope f cd A outer s H E).ex:=fun b z=>absurd (show b∈([]:List Addr) from z) (by simp)
 refine⟨⟨e0.mod,S.kind,rfl,rfl,Nat.le_refl _,fun y z c h1 h2=>?_,fun y hy=>?_,fun y c _ h=>?_,fun _=>hd,Around.frames_deeper e0.frames,.inr ⟨rfl,rfl⟩,fun b z=>absurd z (noA b),e0.bs,e0.bsz,fun b _ _=>noA b,fun b z=>absurd z (noA b),e0.funs,e0.frf⟩,
  rfl,e0.bare,Un.kept hk,⟨_,x.toInCall.ns,fun i y v h1 h2 h3=>?_⟩,fun y c h=>⟨_,x.cell y c h⟩,e0.hok.fresh (Nat.le_refl _),fun y c h=>?_,fun p hp=>absurd (show p∈([]:List (Addr×Obj)) from hp) (by simp),e0.hok.kept hk,?_⟩
 ·exact name_of_addr x.apart (PySem.mem_of_lookup h1) (PySem.mem_of_lookup h2)
 ·have hy:scope.names.lookup y=some .cell∨scope.names.lookup y=some .free:=hy
  rcases hy with hy | hy
  ·exact cell_has hy
  ·exact absurd rfl (S.nofree _ (PySem.mem_of_lookup hy))
 ·exact Nat.le_of_lt (x.above y c (PySem.mem_of_lookup h))
 ·have hi:i<vs.length:=by
   unfold start at h2
   by_cases hi:i<vs.length
   ·exact hi
   ·rw[List.getElem?_append_right (by simpa using hi)] at h2
    rw[List.getElem?_replicate] at h2
    split at h2<;>cases h2
  have ha:vs[i]?=some v:=by
   unfold start at h2
   rw[List.getElem?_append_left (by simpa using hi),List.getElem?_map] at h2
   cases e:vs[i]? with
   |none=>rw[e] at h2;cases h2
   |some a=>rw[e] at h2;cases h2;rfl
  obtain⟨u,hu,rv⟩:=r.get ha
  have hp:ps[i]?=some y:=by
   rw[←S.pre,List.getElem?_take_of_lt (by omega)];exact h1
  have ndP:ps.Nodup:=by rw[←S.pre];exact S.nd.sublist (List.take_sublist _ _)
  refine⟨u,rv,?_⟩
  rcases S.par y (List.mem_of_getElem? hp) with k | k
  ·exact .inl ⟨k,bindL_get ndP hp hu k⟩
  ·obtain⟨c,e⟩:=cell_has (n:=s.heap.objs.size+1) k
   refine .inr ⟨.inl k,c,e,?_⟩
   have q:=x.cell y c e
   rw[bindC_get ndP hp hu (by show scope.names.lookup y≠_;rw[k];decide)] at q
   exact q
 ·exact e0.hok.fresh (Nat.le_of_lt (x.above y c (PySem.mem_of_lookup h)))
 ·unfold start
  show _=N.length
  rw[List.length_append,List.length_map,List.length_replicate]
  omega
theorem fn_of {CX:CXT}{P:Program}{w:World}{K:PySem.W.Frag}{mg:Str->Option Value}{base:Heap}{k:Nat}{f:Addr}{name qual:Str}{params:Arguments}{body:List Stmt}{scope:Scope}{dV kV doc pm cdv ct oc:Value}{an od:Option Addr}
  {osl:Array (Option Value)}{N ps:List Str}{sp:Sp} (lk:K.lookup f=some ⟨oc,od,.func (PySem.W.fnOf name qual params body scope dV kV doc pm an cdv ct),osl⟩) (hcd:PySem.W.codeIn K cdv qual=true) (S:FnScope N ps scope)
  (len:∀vs H Q E,sp vs H Q E->vs.length=ps.length)
  (hbody:∀(A:Around) (outer:List Env) (s:Shared) (H:Hp) (vs:List V) (Q:VK) (E:XK),Room k (A.deeper (envOfC qual scope s.heap.objs.size f cdv))->sp vs H Q E->
    ∃t,PSs (cxOf CX P w K mg base N qual scope f cdv A outer s H E) body t∧t { nx:=fun _ H'=>Q .non H',rt:=Q } (start N vs) H) :
  FnOk P w K mg base CX (k+1) f (PySem.W.fnOf name qual params body scope dV kV doc pm an cdv ct) ps sp:=by
 refine⟨len,fun A outer s H args us vs Q E hr e0 hb r hsp=>?_⟩
 have hl:=len _ _ _ _ hsp
 have KX:K.In s.heap:=e0.mod.kin.keeps fun b o e=>(e0.bs b o e).1
 have lim:s.heap.NoLimit:=e0.mod.nolimit.keeps fun b o e=>(e0.bs b o e).1
 have hkind:∀y∈ps.zip us,scope.names.lookup y.1=some .local∨(scope.names.lookup y.1=some .cell∧((cellsFrom (s.heap.objs.size+1) scope.names []).lookup y.1).isSome=true):=fun⟨n,v⟩ hy=>by
  rcases S.par n (List.of_mem_zip hy).1 with q | q
  ·exact .inl q
  ·exact .inr ⟨q,PySem.W.cellsFrom_some _ _ _ (.inl q)⟩
 refine codeAny_call_function hr.depth (KX _ _ lk) rfl S.co S.gen rfl (PySem.W.codeRec_of KX hcd) (hb _ _ _ _ ?_)
 refine wpAny_newFunctionEnv_cells S.kind hkind fun env he s1 x=>?_
 subst he
 refine⟨lim.keeps x.toInCall.keep,codeAny_func ?_⟩
 obtain⟨t,ht,hq⟩:=hbody A outer s H vs Q E (hr.deeper _) hsp
 have I:Inv (cxOf CX P w K mg base N qual scope f cdv A outer s H E) [] (start N vs) H s1:=inv_start S hr.hd e0 hl r x
 refine wpAny_mono (ht [] s1 (start N vs) H _ I hq) (fun fl s' hs=>?_) fun e s' hs=>hs
 have fin:∀{σ':St}{H':Hp}{v:V}{u:Value},Inv (cxOf CX P w K mg base N qual scope f cdv A outer s H E) [] σ' H' s'->RelV v u->Q v H'->CE outer P w H s Q u s':=
  fun {σ' H' v u} J rv q=>⟨v,H',J.os,J.bare,J.base,J.hok,rv,q⟩
 cases fl with
 |ret u=>
   obtain⟨v,σ',H',J,rv,q⟩:=hs
   exact fin J rv q
 |next=>
   obtain⟨σ',H',J,q⟩:=hs
   exact fin (v:=V.non) (u:=Value.none) J rfl q
 |brk=>
   obtain⟨_,_,_,q⟩:=hs
   exact False.elim q
 |cont=>
   obtain⟨_,_,_,q⟩:=hs
   exact False.elim q
open PySem PySem.Spec PyProof.Rows
section
variable{X:Cx}{x:Str}{p pos:Pos}{e:Expr}{es:List Expr}{t:TA}{id T:String}{r:List V->Hp->VK->Prop}
def tCB(r:List V->Hp->VK->Prop)(t:TA):TE:=fun σ H Q=>t σ H fun vs H1=>r vs H1 Q
theorem pe_callB(hc:CallR X (.builtin id) r)(hg:Gl X x)(hm:X.mg x=none)(hv:bootBuiltins x=some (.builtin id))(ha:PA X (e::es) t)(hn:x≠"__name__":=by decide)(hdb:(x==("__debug__":Str))=false:=by decide)
  (he:starEach (e::es) X.env=(false,eval e X.env)::starEach es X.env:=by rfl) (hpl:(backTo pos (starEach es X.env)).any (·.1)=false:=by rfl):PE X (.Call (.Name x p) (e::es) [] pos) (tCB r t):=by
 intro pins s σ H Q I h
 refine wpAny_Call_Name_kw (ld_blt I hg hm hv ?_ hn hdb)
 exact PyProof.Rows.callWith_builtin1 (thn (ha pos pins s σ H _ I h) fun us s1 ⟨vs,H1,I1,r1,q1⟩=>hc pins s1 σ H1 vs us Q I1 r1 q1) he hpl
theorem pe_callTy(hc:CallR X (.type T) r)(hg:Gl X x)(hm:X.mg x=none)(hv:bootBuiltins x=some (.type T))(ha:PA X (e::es) t)(hn:x≠"__name__":=by decide)(hdb:(x==("__debug__":Str))=false:=by decide)
  (he:starEach (e::es) X.env=(false,eval e X.env)::starEach es X.env:=by rfl) (hpl:(backTo pos (starEach es X.env)).any (·.1)=false:=by rfl):PE X (.Call (.Name x p) (e::es) [] pos) (tCB r t):=by
 intro pins s σ H Q I h
 refine wpAny_Call_Name_kw (ld_blt I hg hm hv ?_ hn hdb)
 exact PyProof.Rows.callWith_type1 (thn (ha pos pins s σ H _ I h) fun us s1 ⟨vs,H1,I1,r1,q1⟩=>hc pins s1 σ H1 vs us Q I1 r1 q1) he hpl
end
end L2
namespace HT
open PySem PyProof.Rows
section
open PySem.SeqAt
open PySem.AutoSeq1 (wpAny_loadPart')
open PySem.MeetsSeq PySem.MeetsSeq2 PySem.MeetsSeq3
end
section
variable{prog:Program}{w:World}{A:Around}{E:Value->Shared->Prop}{s:Shared}
theorem cat_tup (ht:IsTup s.heap t vs.toArray) (hb:IsTup s.heap b ws.toArray) (hv:vs≠[])
  (h1:ws=[]->Q (.ref t) s) (h2:ws≠[]->Q (.ref s.heap.objs.size) { s with heap:=s.heap.push { cls:=.type "tuple",data:=.seq (vs++ws).toArray } })
  (hsz:vs.length+ws.length≤sizeLine):wpAny (model prog w) A (binaryOp .Add (.ref t) (.ref b)) Q E s:=by
 obtain⟨⟨cls,dd,data,sl⟩,ho,hc,n,hd⟩:=id ht
 obtain⟨⟨cls2,dd2,data2,sl2⟩,ho2,hc2,n2,hd2⟩:=id hb
 simp only at hc hd hc2 hd2
 subst hc hd hc2 hd2
 have e:vs.toArray++ws.toArray=(vs++ws).toArray:=by simp
 by_cases hw:ws=[]
 ·exact concat_meets ⟨_,ho,rfl⟩ ⟨_,ho2,rfl⟩ noFill_tuple_add seq_tuple_add PySem.F.slot_tuple_add PySem.F.entry_tuple_add (PySem.F.args_tuple_add_2 _ _)
   (tuple_addW1 t b vs.toArray ws.toArray n n2 dd dd2 sl sl2 (by simpa using hv) (by simp[hw])) ⟨ho,ho2,h1 hw⟩
 ·refine concat_meets ⟨_,ho,rfl⟩ ⟨_,ho2,rfl⟩ noFill_tuple_add seq_tuple_add PySem.F.slot_tuple_add PySem.F.entry_tuple_add (PySem.F.args_tuple_add_2 _ _)
   (tuple_addW2 t b vs.toArray ws.toArray n n2 dd dd2 sl sl2 (by simpa using hv) (by simpa using hw) (by rw[List.size_toArray,List.size_toArray];exact hsz)) ⟨ho,ho2,?_⟩
  rw[e]
  exact h2 hw
def sIx(n d:Nat):Option Int->Nat
 |none=>d
 |some v=>if v<0 then (v+(n:Int)).toNat else min v.toNat n
theorem sIx_none(n d:Nat):sIx n d none=d:=rfl
theorem sIx_nat(n d k:Nat):sIx n d (some (k:Int))=min k n:=by
 show (if (k:Int)<0 then ((k:Int)+(n:Int)).toNat else min (k:Int).toNat n)=min k n
 rw[if_neg (by omega),Int.toNat_natCast]
theorem sIx_le (n d:Nat) (hd:d≤n) (o:Option Int):sIx n d o≤n:=by
 cases o with
 |none=>exact hd
 |some v=>
   show (if v<0 then (v+(n:Int)).toNat else min v.toNat n)≤n
   by_cases hv:v<0
   ·rw[if_pos hv];omega
   ·rw[if_neg hv];exact Nat.min_le_right _ _
theorem clip_eq(v:Int)(n d:Nat):(if v<0 then max (v+(n:Int)) 0 else min v (n:Int))=((sIx n d (some v):Nat):Int):=by
 show (if v<0 then max (v+(n:Int)) 0 else min v (n:Int))=(((if v<0 then (v+(n:Int)).toNat else min v.toNat n):Nat):Int)
 by_cases hv:v<0
 ·simp only[if_pos hv];omega
 ·simp only[if_neg hv];omega
theorem adjust_gen(lo hi:Option Int)(n:Nat):Builtin.Slice.sliceAdjust lo hi 1 (n:Int)=(((sIx n 0 lo:Nat):Int),((sIx n n hi:Nat):Int)):=by
 have h1:¬ ((1:Int)<0):=by omega
 unfold Builtin.Slice.sliceAdjust
 simp only[h1,if_false]
 refine Prod.ext ?_ ?_
 ·cases lo with
  |none=>rfl
  |some v=>exact clip_eq v n 0
 ·cases hi with
  |none=>rfl
  |some v=>exact clip_eq v n n
theorem places_gen(i j:Nat):Builtin.Slice.slicePlaces (i:Int) (j:Int) 1=j-i:=by
 unfold Builtin.Slice.slicePlaces
 have h1:(1:Int) > 0:=by omega
 simp only[h1,if_true,Int.ediv_one]
 split<;>omega
theorem slicePart_(p:IsPart v o)(h:Q o s):wpAny (model prog w) A (Builtin.Slice.slicePartIndex v) Q E s:=by
 cases p with
 |none=>exact slicePart_none h
 |int i t=>exact slicePart_int h
theorem sliceApplied_gen{lo hi:Option Int}{n:Nat}{Q:Int×Int×Nat->Shared->Prop}(hs:s.heap.IsSliceOf sl vl vu .none)(pl:IsPart vl lo)(pu:IsPart vu hi)
  (h:Q (((sIx n 0 lo:Nat):Int),1,sIx n n hi-sIx n 0 lo) s):wpAny (model prog w) A (Builtin.Slice.sliceApplied (.ref sl) (pure (n:Int))) Q E s:=by
 obtain⟨os,hos,hcs,hds⟩:=id hs
 unfold Builtin.Slice.sliceApplied Builtin.Slice.sliceFields
 refine wpAny_bind (wpAny_bind (wpAny_field hos hds (x:=vl) rfl (wpAny_bind (wpAny_field hos hds (x:=vu) rfl (wpAny_bind (wpAny_field hos hds (x:=.none) rfl (wpAny_pure ?_)))))))
 refine wpAny_bind (slicePart_none ?_)
 show wpAny _ _ (if ((1:Int)==0)=true then _ else _) _ _ s
 rw[if_neg (by decide)]
 refine wpAny_bind (slicePart_ pl (wpAny_bind (slicePart_ pu (wpAny_bind (wpAny_pure ?_)))))
 show wpAny _ _ (match Builtin.Slice.sliceAdjust lo hi 1 (n:Int) with | (lo,hi)=>pure (lo,(1:Int),Builtin.Slice.slicePlaces lo hi 1)) _ _ s
 rw[adjust_gen lo hi n]
 show wpAny _ _ (pure (((sIx n 0 lo:Nat):Int),(1:Int),Builtin.Slice.slicePlaces ((sIx n 0 lo:Nat):Int) ((sIx n n hi:Nat):Int) 1)) _ _ s
 rw[places_gen]
 exact wpAny_pure h
theorem pick_gen(xs:Array Value)(i k:Nat):((List.range k).filterMap fun (m:Nat)=>xs[((i:Int)+(m:Int)*1).toNat]?).toArray=((xs.toList.drop i).take k).toArray:=by
 have e:(fun (m:Nat)=>xs[((i:Int)+(m:Int)*1).toNat]?)=fun m=>xs[i+m]?:=by
  funext m
  have:((i:Int)+(m:Int)*1).toNat=i+m:=by omega
  rw[this]
 rw[e]
 have:=pick_run xs i k
 rw[List.filterMap_map] at this
 have e2:((fun x=>xs[x]?) ∘ fun x=>i+x)=fun m=>xs[i+m]?:=rfl
 rw[e2] at this
 rw[this]
theorem getItem_tuple_cut{items:Array Value}{lo hi:Option Int}{Q:Value->Shared->Prop}(ht:IsTup s.heap t items)(hs:s.heap.IsSliceOf sl vl vu .none)(pl:IsPart vl lo)(pu:IsPart vu hi)
  (hw:¬ (sIx items.size 0 lo=0∧sIx items.size items.size hi=items.size))
  (h:Q (.ref s.heap.objs.size) { s with heap:=s.heap.push { cls:=.type "tuple",data:=.seq ((items.toList.drop (sIx items.size 0 lo)).take (sIx items.size items.size hi-sIx items.size 0 lo)).toArray } })
  (hsz:items.size≤sizeLine):wpAny (model prog w) A (getItem (.ref t) (.ref sl)) Q E s:=by
 have htake:sizeOk (.seq ((items.toList.drop (sIx items.size 0 lo)).take (sIx items.size items.size hi-sIx items.size 0 lo)).toArray):=by
  show ((items.toList.drop (sIx items.size 0 lo)).take (sIx items.size items.size hi-sIx items.size 0 lo)).toArray.size≤sizeLine
  rw[List.size_toArray,List.length_take,List.length_drop,Array.length_toList]
  omega
 have hj:sIx items.size items.size hi≤items.size:=sIx_le _ _ (Nat.le_refl _) hi
 obtain⟨os,hos,hcs,hds⟩:=id hs
 have hTs:s.TypeIs (.ref sl) "slice":=⟨os,hos,hcs⟩
 unfold getItem
 try with_reducible refine wpAny_holding ?_
 first | refine wpAny_bind (wpAny_pure ?_) | skip
 refine wpAny_bind (wpAny_sequenceKey ht.typeIs (by decide) ?_)
 refine wpAny_bind (wpAny_callSpecial?_slot (name:=Str.ofString "__getitem__") ht.typeIs PyProof.Rows.slot_tuple_getitem
  (wpAny_call_entry PyProof.Rows.slot_tuple_getitem ht.typeIs entry_tuple_getitem ?_ (args_tuple_getitem _ _)))
 show wpAny _ _ (Builtin.Tuple.tupleItemsOf (.ref t)>>=_) _ _ s
 refine wpAny_bind (tupleItemsOf_ ht ?_)
 refine wpAny_bind (wpAny_typeOf hTs ?_)
 rw[if_pos (by decide)]
 refine wpAny_bind (sliceApplied_gen hs pl pu ?_)
 have hno:¬ ((((sIx items.size 0 lo:Nat):Int)==0&&(1:Int)==1&&(sIx items.size items.size hi-sIx items.size 0 lo)==items.size)=true):=by
  intro q
  rw[Bool.and_eq_true,Bool.and_eq_true] at q
  have q1:((sIx items.size 0 lo:Nat):Int)=0:=eq_of_beq q.1.1
  have q2:sIx items.size items.size hi-sIx items.size 0 lo=items.size:=eq_of_beq q.2
  exact hw ⟨by omega,by omega⟩
 show wpAny _ _ (if (((sIx items.size 0 lo:Nat):Int)==0&&(1:Int)==1&&(sIx items.size items.size hi-sIx items.size 0 lo)==items.size)=true then _ else _) _ _ s
 rw[if_neg hno,pick_gen]
 first
  |exact wpAny_bind (m:=Builtin.Tuple.tupleExact _) (wpAny_newObj_type (wpAny_pure ⟨_,rfl,wpAny_pure h⟩) htake)
  |exact wpAny_bind (m:=Builtin.Tuple.tupleExact _) (wpAny_newObj_type (wpAny_bind (wpAny_pure (wpAny_pure ⟨_,rfl,wpAny_pure h⟩))) htake)
  |exact wpAny_bind (wpAny_bind (m:=Builtin.Tuple.tupleExact _) (wpAny_newObj_type (wpAny_pure (wpAny_pure ⟨_,rfl,wpAny_pure h⟩)) htake))
  |exact wpAny_bind (wpAny_bind (m:=Builtin.Tuple.tupleExact _) (wpAny_newObj_type (wpAny_pure ⟨_,rfl,wpAny_pure h⟩) htake))
end
end HT
namespace L2
open PySem PySem.Spec PyProof.Rows
abbrev TO:=St->Hp->(Option Int->Hp->Prop)->Prop
def PO (X:Cx) (e:Option Expr) (t:TO):Prop:=
 ∀(pins:List (Addr×Obj)) (s:Shared) (σ:St) (H:Hp) (Q:Option Int->Hp->Prop),Inv X pins σ H s->t σ H Q->
   wpAny (model X.prog X.w) X.A (evalPart e X.env) (fun u s'=>∃o H',Inv X pins σ H' s'∧IsPart u o∧Q o H') X.xe s
def tNoPart:TO:=fun _ H Q=>Q none H
def tPart(t:TE):TO:=fun σ H Q=>t σ H fun x H1=>∃i,x=.int i∧Q (some i) H1
theorem intsAre_of:∀ {us:List Value},Vals (ns.map V.int) us->IntsAre us ns:=by
 induction ns with
 |nil=>intro us r;rw[List.map_nil] at r;cases r;exact .nil
 | cons n ns ih=>
   intro us r
   rw[List.map_cons] at r
   cases r with
   |cons r1 r2=>
     obtain⟨t,e⟩:=r1
     subst e
     exact .cons n t (ih r2)
section
variable{X:Cx}{e:Expr}{te:TE}{lo hi:Option Expr}{tl th:TO}{pos p2:Pos}
theorem po_none:PO X none tNoPart:=by
 intro pins s σ H Q I h
 rw[evalPart_none]
 exact wpAny_pure ⟨none,H,I,.none,h⟩
theorem po_some(h:PE X e te):PO X (some e) (tPart te):=by
 intro pins s σ H Q I hw
 rw[evalPart_some]
 refine thn (h pins s σ H _ I hw) fun u s1 ⟨x,H1,I1,r1,q1⟩=>?_
 obtain⟨i,rfl,q⟩:=q1
 obtain⟨t,rfl⟩:=r1
 exact⟨some i,H1,I1,.int i t,q⟩
def SlR (X:Cx) (r:V->Option Int->Option Int->Hp->VK->Prop):Prop:=
 ∀(pins:List (Addr×Obj)) (s:Shared) (σ:St) (H:Hp) (x:V) (v vl vu:Value) (lo hi:Option Int) (sl:Addr) (Q:VK),Inv X pins σ H s->RelV x v->s.heap.IsSliceOf sl vl vu .none->IsPart vl lo->IsPart vu hi->r x lo hi H Q->
   ∃T id,typeLookup (.type T) "__getitem__"=pure (some (.builtin id))∧s.TypeIs v T∧wpAny (model X.prog X.w) X.A (getItem v (.ref sl)) (EP X pins σ Q) X.xe s
def tSl(r:V->Option Int->Option Int->Hp->VK->Prop)(te:TE)(tl th:TO):TE:=fun σ H Q=>te σ H fun x H1=>tl σ H1 fun l H2=>th σ H2 fun u H3=>r x l u H3 Q
theorem pe_slice(hr:SlR X r)(he:PE X e te)(hl:PO X lo tl)(hu:PO X hi th):PE X (.Subscript e (.Slice lo hi none p2) pos) (tSl r te tl th):=by
 intro pins s σ H Q I h
 refine Subscript_ (thn (he pins s σ H _ I h) fun v s1 ⟨x,H1,I1,r1,q1⟩=>?_)
 refine wpAny_Slice (thn (hl pins s1 σ H1 _ I1 q1) fun vl s2 ⟨l,H2,I2,pl,q2⟩=>thn (hu pins s2 σ H2 _ I2 q2) fun vu s3 ⟨u,H3,I3,pu,q3⟩=>?_)
 rw[evalPart_none]
 refine wpAny_pure ?_
 have I4:Inv X pins σ H3 { s3 with heap:=s3.heap.push { cls:=.type "slice",data:=.fields #[vl,vu,.none] } }:=I3.kept (t':=s3.toks) fun b ob q=>Heap.get?_push_of_some _ q
 obtain⟨T,id,hT,ht,hg⟩:=hr pins { s3 with heap:=s3.heap.push { cls:=.type "slice",data:=.fields #[vl,vu,.none] } } σ H3 x v vl vu l u s3.heap.objs.size Q I4 r1 (Heap.IsSliceOf.new ..) pl pu q3
 show wpAny (model X.prog X.w) X.A (subscriptTail e (.Slice lo hi none p2) v (.ref s3.heap.objs.size)) (EP X pins σ Q) X.xe { s3 with heap:=s3.heap.push { cls:=.type "slice",data:=.fields #[vl,vu,.none] } }
 exact tail_any (ops:=[.ref s3.heap.objs.size,v]) ht hT hg (by with_unfolding_all rfl)
def cutV(xs:List V)(lo hi:Option Int):List V:=(xs.drop (HT.sIx xs.length 0 lo)).take (HT.sIx xs.length xs.length hi-HT.sIx xs.length 0 lo)
theorem cutV_length(xs:List V)(lo hi:Option Int):(cutV xs lo hi).length≤xs.length:=by
 unfold cutV
 rw[List.length_take,List.length_drop]
 omega
def rSlT(K:PySem.W.Frag):V->Option Int->Option Int->Hp->VK->Prop:=fun x lo hi H Q=>∃a xs,x=.ref a∧SqT K H a xs ∧
 ¬ (HT.sIx xs.length 0 lo=0∧HT.sIx xs.length xs.length hi=xs.length)∧∀p,H p=none->Q (.ref p) (upd H p (.tup (cutV xs lo hi)))
theorem sl_tup:SlR X (rSlT X.K):=by
 intro pins s σ H x v vl vu lo hi sl Q I rx hs pl pu h
 obtain⟨a,xs,rfl,hx,hw,q⟩:=h
 cases rx
 obtain⟨its,r,ht,hz⟩:=I.tuple hx
 have hlen:its.toArray.size=xs.length:=by rw[List.size_toArray];exact r.length.symm
 refine⟨"tuple",_,PyProof.Rows.slot_tuple_getitem.lookup,ht.typeIs,?_⟩
 refine HT.getItem_tuple_cut ht hs pl pu (by rw[hlen];exact hw) ?_ (by rw[hlen];exact hz)
 rw[hlen]
 refine⟨.ref s.heap.objs.size,_,I.laid (t':=s.toks) (o:=.tup (cutV xs lo hi)) (fun b ob q=>Heap.get?_push_of_some _ q) (Nat.le_refl _) ?_,rfl,q _ (I.hok.fresh (Nat.le_refl _))⟩
 exact⟨Nat.le_trans (cutV_length xs lo hi) hz,_,(r.drop (HT.sIx xs.length 0 lo)).take (HT.sIx xs.length xs.length hi-HT.sIx xs.length 0 lo),IsTup.new _ _⟩
def rCatT(K:PySem.W.Frag):R2:=fun x y H Q=>∃a b xs ys,x=.ref a∧y=.ref b∧SqT K H a xs∧SqT K H b ys∧xs≠[]∧xs.length+ys.length≤sizeLine ∧
 (ys=[]->Q (.ref a) H)∧(ys≠[]->∀p,H p=none->Q (.ref p) (upd H p (.tup (xs++ys))))
theorem Vals.nil_iff(r:Vals xs us):us=[] ↔ xs=[]:=by
 cases r with
 |nil=>simp
 |cons _ _=>simp
theorem op_catT:OpR X (binaryOp .Add) (rCatT X.K):=by
 intro pins s σ H x y v u Q I rx ry h
 obtain⟨a,b,xs,ys,rfl,rfl,ha,hb,hx,hz,q1,q2⟩:=h
 cases rx
 cases ry
 obtain⟨its,r1,p1,_⟩:=I.tuple ha
 obtain⟨its2,r2,p2,_⟩:=I.tuple hb
 refine HT.cat_tup p1 p2 (fun z=>hx (r1.nil_iff.mp z)) (fun z=>⟨.ref a,H,I,rfl,q1 (r2.nil_iff.mp z)⟩) (fun z=>?_) (by rw[←r1.length,←r2.length];exact hz)
 refine⟨.ref s.heap.objs.size,_,I.laid (t':=s.toks) (o:=.tup (xs++ys)) (fun b ob q=>Heap.get?_push_of_some _ q) (Nat.le_refl _) ?_,rfl,q2 (fun w=>z (r2.nil_iff.mpr w)) _ (I.hok.fresh (Nat.le_refl _))⟩
 exact⟨by rw[List.length_append];exact hz,_,r1.append r2,IsTup.new _ _⟩
end
open PySem PySem.Spec PyProof.Rows
def ixN(n:Nat)(i:Int):Option Nat:=if 0≤i then (if i<n then some i.toNat else none) else if -(n:Int)≤i then some (i+n).toNat else none
def atI{α:Type}(xs:List α)(i:Int):Option α:=(ixN xs.length i).bind fun j=>xs[j]?
theorem ixN_seq (h:ixN n i=some j):seqIndex? i n=some j∧j<n∧-(n:Int)≤i∧i<n:=by
 unfold ixN at h
 by_cases h0:0≤i
 ·rw[if_pos h0] at h
  by_cases h1:i<n
  ·rw[if_pos h1] at h
   have e:i.toNat=j:=Option.some.inj h
   exact⟨by rw[seqIndex_of h0 h1,e],by omega,by omega,h1⟩
  ·rw[if_neg h1] at h;cases h
 ·rw[if_neg h0] at h
  by_cases h1:-(n:Int)≤i
  ·rw[if_pos h1] at h
   have e:(i+n).toNat=j:=Option.some.inj h
   exact⟨by rw[seqIndex_neg (by omega) h1,e],by omega,h1,by omega⟩
  ·rw[if_neg h1] at h;cases h
theorem atI_get (h:atI xs i=some v):∃ j,seqIndex? i xs.length=some j∧xs[j]?=some v∧j<xs.length∧-(xs.length:Int)≤i∧i<xs.length:=by
 unfold atI at h
 cases e:ixN xs.length i with
 |none=>rw[e] at h;cases h
 |some j=>
   rw[e] at h
   obtain⟨h1,h2,h3,h4⟩:=ixN_seq e
   exact⟨j,h1,h,h2,h3,h4⟩
def PlainIx(b:Expr):Prop:=∀o i,subscripted b false o i=operate [o,i] (getItem o i)
def IxR (X:Cx) (r:R2):Prop:=
 ∀(value slice:Expr) (pins:List (Addr×Obj)) (s:Shared) (σ:St) (H:Hp) (x y:V) (v u:Value) (Q:VK),Inv X pins σ H s->RelV x v->RelV y u->r x y H Q->
   subscripted slice false v u=operate [v,u] (getItem v u)->wpAny (model X.prog X.w) X.A (subscriptTail value slice v u) (EP X pins σ Q) X.xe s
def MtR (X:Cx) (id:String) (r:V->List V->Hp->VK->Prop):Prop:=
 ∀(pins:List (Addr×Obj)) (s:Shared) (σ:St) (H:Hp) (x:V) (xs:List V) (v:Value) (us:List Value) (Q:VK),Inv X pins σ H s->RelV x v->Vals xs us->r x xs H Q->
   wpAny (model X.prog X.w) X.A (call (.builtin id) (v::us)) (EP X pins σ Q) X.xe s
section
variable{X:Cx}{a b:Expr}{ta tb:TE}{pos:Pos}
theorem pe_ix(hr:IxR X r)(ha:PE X a ta)(hb:PE X b tb)(hs:PlainIx b):PE X (.Subscript a b pos) (tOp r ta tb):=by
 intro pins s σ H Q I h
 exact Subscript_ (binT ha hb I h fun v u s2 x y H2 I2 rx ry q=>hr a b pins s2 σ H2 x y v u Q I2 rx ry q (hs _ _))
def rIxL(K:PySem.W.Frag):R2:=fun x y H Q=>∃p xs i v,x=.ref p∧y=.int i∧SqL K H p xs∧atI xs i=some v∧Q v H
def rIxT(K:PySem.W.Frag):R2:=fun x y H Q=>∃p xs i v,x=.ref p∧y=.int i∧SqT K H p xs∧atI xs i=some v∧Q v H
theorem ix_list:IxR X (rIxL X.K):=by
 intro value slice pins s σ H x y v u Q I rx ry h hs
 obtain⟨p,xs,i,z,rfl,rfl,hq,he,q⟩:=h
 cases rx
 obtain⟨t,rfl⟩:=ry
 obtain⟨its,r,pl,hz⟩:=I.list hq
 obtain⟨j,h1,h2,h3,h4,h5⟩:=atI_get he
 obtain⟨w,ew,rw'⟩:=r.get h2
 have hl:=r.length
 have hn:=line63
 have fin:EP X pins σ Q w s:=⟨z,H,I,rw',q⟩
 by_cases h0:0≤i
 ·have hj:i.toNat=j:=by
   rw[seqIndex_of h0 h5] at h1
   exact Option.some.inj h1
  exact item_listR pl.isList h0 (by omega) (by rw[hj];simpa using ew) fin hs
 ·have hj:(i+(its.toArray.size:Int)).toNat=j:=by
   rw[seqIndex_neg (by omega) h4] at h1
   rw[List.size_toArray,←hl]
   exact Option.some.inj h1
  exact subscriptTail_builtinR (x:=w) pl.isList.typeIs slot_list_getitem.lookup
   (wpAny_getItem_list_neg (Q:=fun r s'=>r=w∧EP X pins σ Q r s') pl.isList (by omega) (by rw[List.size_toArray]<;>omega) (by omega) (by rw[hj];simpa using ew) ⟨rfl,fin⟩) hs
theorem ix_tup:IxR X (rIxT X.K):=by
 intro value slice pins s σ H x y v u Q I rx ry h hs
 obtain⟨p,xs,i,z,rfl,rfl,hq,he,q⟩:=h
 cases rx
 obtain⟨t,rfl⟩:=ry
 obtain⟨its,r,pl,hz⟩:=I.tuple hq
 obtain⟨j,h1,h2,h3,h4,h5⟩:=atI_get he
 obtain⟨w,ew,rw'⟩:=r.get h2
 have hl:=r.length
 have hn:=line63
 have fin:EP X pins σ Q w s:=⟨z,H,I,rw',q⟩
 exact subscriptTail_builtinR (x:=w) pl.typeIs slot_tuple_getitem.lookup
  (getItem_tuple (j:=j) (Q:=fun r s'=>r=w∧EP X pins σ Q r s') pl (by omega) (by omega) (by rw[List.size_toArray,←hl];exact h1) (by simpa using ew) ⟨rfl,fin⟩) hs
theorem mapSeq_set(its:List Value)(n j:Nat)(u:Value):Obj.mapSeq (·.setIfInBounds j u) { cls:=.type "list",data:=.seq its.toArray n }={ cls:=.type "list",data:=.seq (its.set j u).toArray n }:=by
 simp[Obj.mapSeq]
theorem Inv.lst(I:Inv X pins σ H s)(h:H p=some (.lst xs)) :
  ∃(its:List Value) (n:Nat),Vals xs its∧s.heap.get? p=some { cls:=.type "list",data:=.seq its.toArray n }∧xs.length≤sizeLine:=by
 obtain⟨z,its,n,r,e⟩:=I.hok p _ h
 exact⟨its,n,r,e,z⟩
theorem Inv.lstUpd{pins:List (Addr×Obj)}{xs ys:List V}{its its':List Value}{n n':Nat}{f:Obj->Obj}(I:Inv X pins σ H s)(h:H p=some (.lst xs))
  (ho:s.heap.get? p=some { cls:=.type "list",data:=.seq its.toArray n }) (hf:f { cls:=.type "list",data:=.seq its.toArray n }={ cls:=.type "list",data:=.seq its'.toArray n' }) (r:Vals ys its') (hz:ys.length≤sizeLine) (t:Nat) :
  Inv X pins σ (upd H p (.lst ys)) { s with heap:=s.heap.update p f,toks:=t }:=by
 have e:(s.heap.update p f).get? p=some { cls:=.type "list",data:=.seq its'.toArray n' }:=by
  rw[Heap.get?_update_self f ho (by rw[hf]<;>rfl),hf]
 refine I.write (x:=p) (e:=p) (by rw[h];trivial) (.inl rfl) (fun b u hb q=>(Heap.get?_update_other _ _ (Ne.symm hb)).trans q) ⟨_,e⟩ ?_
 exact⟨hz,its',n',r,e⟩
def rSetL:V->V->V->Hp->(Hp->Prop)->Prop:=fun o i v H Q=>∃p xs k j,o=.ref p∧i=.int k∧H p=some (.lst xs)∧ixN xs.length k=some j∧Q (upd H p (.lst (xs.set j v)))
theorem set_list:PSet X rSetL:=by
 intro pins s σ H o i v ov iv u Q I ro ri rv h
 obtain⟨p,xs,k,j,rfl,rfl,hp,hj,q⟩:=h
 cases ro
 obtain⟨t,rfl⟩:=ri
 obtain⟨its,n,r,ho,hz⟩:=I.lst hp
 obtain⟨h1,h2,h3,h4⟩:=ixN_seq hj
 have hl:=r.length
 have hn:=line63
 have I':Inv X pins σ (upd H p (.lst (xs.set j v))) { s with heap:=s.heap.update p (Obj.mapSeq (·.setIfInBounds j u)) }:=
  I.lstUpd hp ho (mapSeq_set its n j u) (r.set rv j) (by rw[List.length_set];exact hz) s.toks
 by_cases h0:0≤k
 ·have hk:k.toNat=j:=by
   rw[seqIndex_of h0 h4] at h1
   exact Option.some.inj h1
  exact PySem.W.ki_setAt ho h0 (by omega) (by rw[List.size_toArray,←hl];exact h4) (by rw[hk];exact⟨_,I',q⟩)
 ·have hk:(k+(its.toArray.size:Int)).toNat=j:=by
   rw[seqIndex_neg (by omega) h3] at h1
   rw[List.size_toArray,←hl]
   exact Option.some.inj h1
  exact PySem.W.ki_setBack ho (by omega) (by rw[List.size_toArray,←hl];exact h3) (by omega) (by rw[hk];exact⟨_,I',q⟩)
theorem slice_bounds (lo hi:Option Int) (n:Nat):(sliceBounds lo hi none n).1=((HT.sIx n 0 lo:Nat):Int)∧(sliceBounds lo hi none n).2.1=((HT.sIx n n hi:Nat):Int)∧(sliceBounds lo hi none n).2.2=1:=by
 refine⟨?_,?_,rfl⟩
 ·cases lo with
  |none=>simp[sliceBounds,HT.sIx]
  |some i=>
    simp only[sliceBounds,HT.sIx,Option.getD_none,show (1:Int) > 0 by decide,if_true]
    by_cases h:i<0
    ·simp only[h,if_true]<;>omega
    ·simp only[h,if_false]<;>omega
 ·cases hi with
  |none=>simp[sliceBounds,HT.sIx]
  |some i=>
    simp only[sliceBounds,HT.sIx,Option.getD_none,show (1:Int) > 0 by decide,if_true]
    by_cases h:i<0
    ·simp only[h,if_true]<;>omega
    ·simp only[h,if_false]<;>omega
theorem slicePick_cut(its:List Value)(lo hi:Option Int):slicePick its.toArray lo hi none=((its.drop (HT.sIx its.length 0 lo)).take (HT.sIx its.length its.length hi-HT.sIx its.length 0 lo)).toArray:=by
 obtain⟨h1,h2,h3⟩:=slice_bounds lo hi its.toArray.size
 unfold slicePick
 rw[h1,h2,h3]
 simp only[sliceRange_one,pick_run,List.size_toArray]<;>rfl
def rSlL(K:PySem.W.Frag):V->Option Int->Option Int->Hp->VK->Prop:=fun x lo hi H Q=>∃a xs,x=.ref a∧SqL K H a xs∧∀p,H p=none->Q (.ref p) (upd H p (.lst (cutV xs lo hi)))
theorem sl_list:SlR X (rSlL X.K):=by
 intro pins s σ H x v vl vu lo hi sl Q I rx hs pl pu h
 obtain⟨a,xs,rfl,hx,q⟩:=h
 cases rx
 obtain⟨its,r,ht,hz⟩:=I.list hx
 have hlen:=r.length
 refine⟨"list",_,slot_list_getitem.lookup,ht.isList.typeIs,?_⟩
 refine wpAny_getItem_list_slice ht.isList hs pl pu .none (by simp) ?_ (by rw[List.size_toArray]<;>omega)
 rw[slicePick_cut,←hlen]
 refine⟨.ref s.heap.objs.size,_,I.laid (t':=s.toks) (o:=.lst (cutV xs lo hi)) (fun b ob q=>Heap.get?_push_of_some _ q) (Nat.le_refl _) ?_,rfl,q _ (I.hok.fresh (Nat.le_refl _))⟩
 exact⟨Nat.le_trans (cutV_length xs lo hi) hz,_,0,(r.drop (HT.sIx xs.length 0 lo)).take (HT.sIx xs.length xs.length hi-HT.sIx xs.length 0 lo),Heap.get?_push_size _ rfl⟩
theorem call_len_seq:CallR X (.builtin "len") (fun xs H Q=>∃p ys,xs=[.ref p]∧(SqL X.K H p ys∨SqT X.K H p ys)∧Q (.int ys.length) H):=by
 intro pins s σ H xs us Q I r h
 obtain⟨p,ys,rfl,hq,q⟩:=h
 obtain⟨u,rfl,rx⟩:=vals1 r
 cases rx
 have hn:=line63
 rcases hq with hq | hq
 ·obtain⟨its,r',pl,hz⟩:=I.list hq
  have hlen:=r'.length
  exact Calls.call_len_list pl.isList (by simp only[List.size_toArray]<;>omega) ⟨.int ys.length,H,I.tok _,⟨s.toks+1,by rw[List.size_toArray,hlen]⟩,q⟩
 ·obtain⟨its,r',pl,hz⟩:=I.tuple hq
  have hlen:=r'.length
  exact len_tuple pl (by simp only[List.size_toArray]<;>omega) ⟨.int ys.length,H,I.tok _,⟨s.toks+1,by rw[List.size_toArray,hlen]⟩,q⟩
theorem call_len_str:CallR X (.builtin "len") (fun xs H Q=>∃z,xs=[.str z]∧z.length≤sizeLine∧Q (.int z.length) H):=by
 intro pins s σ H xs us Q I r h
 obtain⟨z,rfl,hz,q⟩:=h
 obtain⟨u,rfl,t,rfl⟩:=vals1 r
 have hn:=line63
 exact len_str (by omega) ⟨.int z.length,H,I.tok _,⟨_,rfl⟩,q⟩
theorem CallR.or(h:CallR X f r)(h':CallR X f r'):CallR X f (fun xs H Q=>r xs H Q∨r' xs H Q):=by
 intro pins s σ H xs us Q I rs q
 rcases q with q | q
 ·exact h pins s σ H xs us Q I rs q
 ·exact h' pins s σ H xs us Q I rs q
theorem call_list_of:CallR X (.type "list") (fun xs H Q=>∃ p ys,xs=[.ref p]∧(SqL X.K H p ys∨SqT X.K H p ys)∧∀ l,H l=none->Q (.ref l) (upd H l (.lst ys))):=by
 intro pins s σ H xs us Q I r h
 obtain⟨p,ys,rfl,hq,q⟩:=h
 obtain⟨u,rfl,rx⟩:=vals1 r
 cases rx
 have fin:∀(its:List Value),Vals ys its->ys.length≤sizeLine->∀(h':Heap) (c':Nat),(∀b o',s.heap.get? b=some o'->h'.get? b=some o')->
   h'.get? s.heap.objs.size=some { cls:=.type "list",dict:=none,data:=.seq its.toArray c',slots:=#[] }->EP X pins σ Q (.ref s.heap.objs.size) { s with heap:=h' }:=fun its r' hz h' c' kp e=>
  ⟨.ref s.heap.objs.size,_,I.laid (t':=s.toks) kp (Nat.le_refl _) (show ObjOk X.prog X.w _ h' _ (.lst ys) from⟨hz,its,c',r',e⟩),rfl,q _ (I.hok.fresh (Nat.le_refl _))⟩
 rcases hq with hq | hq
 ·obtain⟨its,r',pl,hz⟩:=I.list hq
  have hlen:=r'.length
  obtain⟨o,ho,hc,n,hd⟩:=pl.isList
  exact call_list_seq p (.inl rfl) ho hc hd (fun h' c' kp e=>fin its r' hz h' c' kp e) (by simp only[List.size_toArray]<;>omega)
 ·obtain⟨its,r',pl,hz⟩:=I.tuple hq
  have hlen:=r'.length
  obtain⟨o,ho,hc,n,hd⟩:=pl
  exact call_list_seq p (.inr rfl) ho hc hd (fun h' c' kp e=>fin its r' hz h' c' kp e) (by simp only[List.size_toArray]<;>omega)
theorem call_tuple_of:CallR X (.type "tuple") (fun xs H Q=>∃ p ys,xs=[.ref p]∧((SqL X.K H p ys∧∀ l,H l=none->Q (.ref l) (upd H l (.tup ys)))∨(SqT X.K H p ys∧Q (.ref p) H))):=by
 intro pins s σ H xs us Q I r h
 obtain⟨p,ys,rfl,h⟩:=h
 obtain⟨u,rfl,rx⟩:=vals1 r
 cases rx
 rcases h with ⟨hq,q⟩ | ⟨hq,q⟩
 ·obtain⟨its,r',pl,hz⟩:=I.list hq
  have hlen:=r'.length
  refine call_tuple_list pl.isList (fun h' kp=>?_) (by simp only[List.size_toArray]<;>omega)
  have I1:Inv X pins σ H { s with heap:=h' }:=I.kept (t':=s.toks) kp
  have I2:Inv X pins σ (upd H h'.objs.size (.tup ys)) { s with heap:=h'.push { cls:=.type "tuple",data:=.seq its.toArray } }:=
   I1.laid (t':=s.toks) (fun b o e=>Heap.get?_push_of_some _ e) (Nat.le_refl _) (show ObjOk X.prog X.w _ _ _ (.tup ys) from⟨hz,its,r',IsTup.new _ _⟩)
  exact⟨.ref h'.objs.size,_,I2,rfl,q _ (I1.hok.fresh (Nat.le_refl _))⟩
 ·obtain⟨its,r',pl,hz⟩:=I.tuple hq
  exact call_tuple_same pl ⟨.ref p,H,I,rfl,q⟩
def tyV (K:PySem.W.Frag) (T:String) (x:V) (H:Hp):Prop:=match x with
 |.str _=>T = "str"
 |.int _=>T = "int"
 |.ref p=>(T = "list"∧∃xs,SqL K H p xs)∨(T = "tuple"∧∃o,K.lookup p=some o∧o.cls=.type "tuple"∧o.dict=none) ∨
   (T = "dict"∧((∃kvs,H p=some (.dK kvs))∨∃kvs,H p=some (.dT kvs)))∨(T = "set"∧∃S n,H p=some (.set S n))
 |_=>False
theorem tyV_is (I:Inv X pins σ H s) (r:RelV x v) (ty:tyV X.K T x H) :
  s.TypeIs v T∧∀a,v=.ref a->∃ob,s.heap.get? a=some ob∧ob.dict=none:=by
 cases x with
 |str z=>
   obtain⟨t,rfl⟩:=r
   cases (show T = "str" from ty)
   exact⟨typeIs_str s z t,fun _ e=>nomatch e⟩
 |int i=>
   obtain⟨t,rfl⟩:=r
   cases (show T = "int" from ty)
   exact⟨typeIs_int s i t,fun _ e=>nomatch e⟩
 | ref p=>
   cases r
   rcases ty with ⟨rfl,xs,hq⟩ | ⟨rfl,o,hk,hc,hd⟩ | ⟨rfl,hk⟩ | ⟨rfl,S,n,hk⟩
   ·obtain⟨its,_,pl,_⟩:=I.list hq
    refine⟨pl.isList.typeIs,fun a e=>?_⟩
    cases e
    obtain⟨o,n,e,c,hd,_⟩:=pl
    exact⟨o,e,hd⟩
   ·refine⟨⟨o,I.kIn p o hk,hc⟩,fun a e=>?_⟩
    cases e
    exact⟨o,I.kIn _ o hk,hd⟩
   ·have z:∃ o,s.heap.get? p=some o∧o.ExactDict:=by
     rcases hk with ⟨kvs,hk⟩ | ⟨kvs,hk⟩
     ·obtain⟨_,_,_,_,o,_,_,e,ex,_⟩:=I.hok p _ hk
      exact⟨o,e,ex⟩
     ·obtain⟨_,_,_,_,o,_,_,e,ex,_⟩:=I.hok p _ hk
      exact⟨o,e,ex⟩
    obtain⟨o,e,ex⟩:=z
    refine⟨⟨o,e,ex.1⟩,fun a e2=>?_⟩
    cases e2
    exact⟨o,e,ex.2.1⟩
   ·obtain⟨o,_,_,_,e,ex,_⟩:=I.hok p _ hk
    refine⟨⟨o,e,ex.1⟩,fun a e2=>?_⟩
    cases e2
    exact⟨o,e,ex.2.1⟩
 |_=>exact False.elim ty
def tBM(K:PySem.W.Frag)(T:String)(r:V->List V->Hp->VK->Prop)(to:TE)(t:TA):TE:=fun σ H Q=>to σ H fun x H1=>tyV K T x H1∧t σ H1 fun xs H2=>r x xs H2 Q
variable{o e:Expr}{es:List Expr}{to:TE}{t:TA}{name:Str}{apos cpos:Pos}{T id:String}{r:V->List V->Hp->VK->Prop}
theorem pe_bm (pa:PlainAttrs T) (slot:Slot T name id) (hty:typeOf (.builtin id)=pure (.type "method_descriptor")) (hm:MtR X id r) (ho:PE X o to) (ha:PA X (e::es) t)
  (hbase:attributeBase o name X.env (eval o X.env)=eval o X.env:=by rfl)
  (hfew:((backTo cpos (starEach (e::es) X.env)).all (fun x=>!x.1)&&(backToKw cpos (keywordEach [] X.env)).all (fun x=>x.1.isSome)
   &&decide ((e::es).length+([]:List Keyword).length+(if ([]:List Keyword).isEmpty then 0 else 1)<30))=true:=by rfl)
  (hline:(apos.endLine==cpos.line)=true:=by rfl) (hs:starEach (e::es) X.env=(false,eval e X.env)::starEach es X.env:=by rfl) (hplain:(backTo cpos (starEach es X.env)).any (·.1)=false:=by rfl) :
  PE X (.Call (.Attribute o name apos) (e::es) [] cpos) (tBM X.K T r to t):=by
 intro pins s σ H Q I h
 refine wpAny_Call_method_late hbase hfew hline rfl (thn (ho pins s σ H _ I h) fun v s1 ⟨x,H1,I1,r1,ty,q1⟩=>?_)
 obtain⟨h1,h2⟩:=tyV_is I1 r1 ty
 refine⟨T,id,pa,slot,hty,h1,h2,?_⟩
 have hA:=ha cpos pins s1 σ H1 _ I1 q1
 rw[hs] at hA ⊢
 refine Calls.callWith_builtin (by show (false || (backTo cpos (starEach es X.env)).any (·.1))=false;rw[hplain]<;>rfl) (Calls.evalArgs_plain ?_)
 exact thn hA fun us s2 ⟨vs,H2,I2,r2,q2⟩=>hm pins s2 σ H2 x vs v us Q I2 r1 r2 q2
end
open PySem PySem.Spec PyProof.Rows
def MtM (X:Cx) (id:String) (r:V->List V->Hp->VK->Prop):Prop:=
 ∀(pins:List (Addr×Obj)) (s:Shared) (σ:St) (H:Hp) (x:V) (xs:List V) (v:Value) (us:List Value) (Q:VK),Inv X pins σ H s->RelV x v->Vals xs us->r x xs H Q->
   wpAny (model X.prog X.w) X.A (call (.builtin id) (v::us)) (EP X pins σ Q) X.xe s
theorem Vals.one:∀{x:V}{us:List Value},Vals [x] us->∃u,us=[u]∧RelV x u
 |_,_,.cons r .nil=>⟨_,rfl,r⟩
theorem Vals.reverse(h:Vals xs us):Vals xs.reverse us.reverse:=by
 induction h with
 |nil=>exact .nil
 |cons r t ih=>rw[List.reverse_cons,List.reverse_cons];exact Vals.append ih (.cons r .nil)
theorem Vals.rep (h:Vals xs us):∀ k:Nat,Vals (List.replicate k xs).flatten (List.replicate k us).flatten
 |0=>.nil
 |k+1=>by
   rw[List.replicate_succ,List.replicate_succ,List.flatten_cons,List.flatten_cons]
   exact Vals.append h (Vals.rep h k)
theorem foldl_rep (its:List Value):∀ (k:Nat) (acc:List Value),
  List.foldl (fun x1 x2=>x1++x2) acc.toArray (List.replicate k its.toArray)=(acc++(List.replicate k its).flatten).toArray
 |0,acc=>by simp
 | k + 1,acc=>by
   have e:acc.toArray++its.toArray=(acc++its).toArray:=by simp
   have e2:(acc++its)++(List.replicate k its).flatten=acc++(List.replicate (k+1) its).flatten:=by
    rw[List.replicate_succ,List.flatten_cons,List.append_assoc]
   rw[←e2,←foldl_rep its k (acc++its),←e,List.replicate_succ,List.foldl_cons]
section
variable{X:Cx}{pins:List (Addr×Obj)}{σ:St}{H:Hp}{s:Shared}{l b:Addr}{xs ys zs:List V}
theorem Inv.lset{its its':List Value}{n:Nat}{f:Array Value->Array Value}{t':Nat}(I:Inv X pins σ H s)(hH:H l=some (.lst xs))
  (e:s.heap.get? l=some { cls:=.type "list",data:=.seq its.toArray n }) (hf:f its.toArray=its'.toArray) (hv:Vals ys its') (hz:ys.length≤sizeLine) :
  Inv X pins σ (upd H l (.lst ys)) { s with heap:=s.heap.update l (Obj.mapSeq f),toks:=t' }:=by
 have q:=PySem.IsL.update e f
 rw[hf] at q
 refine I.write (x:=l) (e:=l) (by rw[hH];exact trivial) (.inl rfl) (fun b' u hb hu=>(Heap.get?_update_other s.heap (Obj.mapSeq f) (Ne.symm hb)).trans hu) ⟨_,q⟩ ?_
 exact⟨hz,its',_,hv,q⟩
theorem Inv.lnew(I:Inv X pins σ H s)(hv:Vals ys its)(hz:ys.length≤sizeLine) :
  Inv X pins σ (upd H s.heap.objs.size (.lst ys)) { s with heap:=s.heap.push { cls:=.type "list",data:=.seq its.toArray },toks:=t' }:=
 I.laid (fun _ _ q=>Heap.get?_push_of_some _ q) (Nat.le_refl _) ⟨hz,its,0,hv,Heap.get?_push_size _ rfl⟩
theorem Inv.fresh(I:Inv X pins σ H s):H s.heap.objs.size=none:=I.hok.fresh (Nat.le_refl _)
theorem Inv.lstM(I:Inv X pins σ H s)(hH:H l=some (.lst xs)):xs.length≤sizeLine∧∃(its:List Value) (n:Nat),Vals xs its∧xs.length=its.length∧s.heap.get? l=some { cls:=.type "list",data:=.seq its.toArray n }:=by
 obtain⟨z,its,n,r,e⟩:=I.hok l _ hH
 exact⟨z,its,n,r,r.length,e⟩
theorem notLongL{n:Nat}(h:n≤sizeLine):Builtin.List.listTooLong n=false:=by
 unfold Builtin.List.listTooLong
 exact decide_eq_false (by omega)
end
section
variable{X:Cx}
def rAppend:V->List V->Hp->VK->Prop:=fun x vs H Q=>∃l xs y,x=.ref l∧vs=[y]∧H l=some (.lst xs)∧xs.length<sizeLine∧Q .non (upd H l (.lst (xs++[y])))
theorem mt_append:MtM X "list.append" rAppend:=by
 intro pins s σ H x vs v us Q I rx rv h
 obtain⟨l,xs,y,rfl,rfl,hH,hz,q⟩:=h
 cases rx
 obtain⟨u,rfl,ru⟩:=rv.one
 obtain⟨z,its,n,r,hl,e⟩:=I.lstM hH
 refine call_meets F.slot_list_append ⟨_,e,rfl⟩ F.entry_list_append (F.args_list_append_2 _ _) (PySem.list_append l its.toArray n u (by rw[List.size_toArray];omega)) ⟨e,?_⟩
 refine⟨.non,_,I.lset (its':=its++[u]) hH e (by simp) (r.append (.cons ru .nil)) ?_,rfl,q⟩
 rw[List.length_append,List.length_singleton]
 omega
def rExtend:V->List V->Hp->VK->Prop:=fun x vs H Q=>∃l b xs zs,x=.ref l∧vs=[.ref b]∧H l=some (.lst xs)∧H b=some (.lst zs)∧xs.length+zs.length≤sizeLine∧Q .non (upd H l (.lst (xs++zs)))
theorem mt_extend:MtM X "list.extend" rExtend:=by
 intro pins s σ H x vs v us Q I rx rv h
 obtain⟨l,b,xs,zs,rfl,rfl,hH,hB,hz,q⟩:=h
 cases rx
 obtain⟨u,rfl,ru⟩:=rv.one
 cases ru
 obtain⟨z,its,n,r,hl,e⟩:=I.lstM hH
 obtain⟨z2,its2,n2,r2,hl2,e2⟩:=I.lstM hB
 have hsz:its.toArray.size+its2.toArray.size≤sizeLine:=by rw[List.size_toArray,List.size_toArray];omega
 have hlong:¬ (!its.toArray.isEmpty&&Builtin.List.listTooLong (its.toArray.size+its2.toArray.size))=true:=by
  rw[notLongL hsz,Bool.and_false]
  exact Bool.false_ne_true
 refine call_meets F.slot_list_extend ⟨_,e,rfl⟩ F.entry_list_extend (F.args_list_extend_2 _ _)
  (AutoSeq1.list_extend_list_list_0 l its.toArray n b its2.toArray n2 hlong (by rw[List.size_toArray];omega) (by omega)) ⟨e,e2,?_⟩
 refine⟨.non,_,I.lset (its':=its++its2) hH e (by simp) (r.append r2) ?_,rfl,q⟩
 rw[List.length_append]
 omega
def rCat:R2:=fun x y H Q=>∃l b xs zs,x=.ref l∧y=.ref b∧H l=some (.lst xs)∧H b=some (.lst zs)∧xs.length+zs.length≤sizeLine∧∀p,H p=none->Q (.ref p) (upd H p (.lst (xs++zs)))
theorem op_cat:OpR X (binaryOp .Add) rCat:=by
 intro pins s σ H x y v u Q I rx ry h
 obtain⟨l,b,xs,zs,rfl,rfl,hH,hB,hz,q⟩:=h
 cases rx
 cases ry
 obtain⟨z,its,n,r,hl,e⟩:=I.lstM hH
 obtain⟨z2,its2,n2,r2,hl2,e2⟩:=I.lstM hB
 refine PySem.P.add_list e e2 ?_ (by rw[List.size_toArray,List.size_toArray];omega)
 have ea:its.toArray++its2.toArray=(its++its2).toArray:=by simp
 rw[ea]
 exact⟨.ref _,_,I.lnew (t':=s.toks) (r.append r2) (by rw[List.length_append];omega),rfl,q _ I.fresh⟩
def rRep:R2:=fun x y H Q=>∃l k xs,x=.ref l∧y=.int k∧H l=some (.lst xs)∧-(2^63)≤k∧k<2^63∧xs.length*k.toNat≤sizeLine ∧
 ∀p,H p=none->Q (.ref p) (upd H p (.lst (List.replicate k.toNat xs).flatten))
theorem len_rep(xs:List α)(k:Nat):(List.replicate k xs).flatten.length=k*xs.length:=by
 induction k with
 |zero=>simp
 |succ k ih=>rw[List.replicate_succ,List.flatten_cons,List.length_append,ih,Nat.succ_mul,Nat.add_comm]
theorem op_rep:OpR X (binaryOp .Mult) rRep:=by
 intro pins s σ H x y v u Q I rx ry h
 obtain⟨l,k,xs,rfl,rfl,hH,h1,h2,hz,q⟩:=h
 cases rx
 obtain⟨t,rfl⟩:=ry
 obtain⟨z,its,n,r,hl,e⟩:=I.lstM hH
 have hlen:its.toArray.size*k.toNat≤sizeLine:=by rw[List.size_toArray,←hl];exact hz
 have hcap:¬ its.toArray.size*k.toNat > (2^63-1) / 8:=by
  have:(sizeLine:Nat)≤(2^63-1) / 8:=by decide
  omega
 have hfit:¬ (!Builtin.List.listFitsIndex k)=true:=by
  rw[fitsIndex_both h1 h2]
  exact Bool.false_ne_true
 have hlong:¬ Builtin.List.listTooLong (its.toArray.size*k.toNat)=true:=by
  rw[notLongL hlen]
  exact Bool.false_ne_true
 have hnew:List.foldl (fun x1 x2=>x1++x2) #[] (List.replicate (if its.toArray.isEmpty=true then 0 else k.toNat) its.toArray)=(List.replicate k.toNat its).flatten.toArray:=by
  have f0:∀m:Nat,List.foldl (fun x1 x2=>x1++x2) #[] (List.replicate m its.toArray)=(List.replicate m its).flatten.toArray:=fun m=>by
   have:=foldl_rep its m []
   rw[List.nil_append] at this
   exact this
  rw[f0]
  cases its with
  |nil=>simp
  |cons a r'=>rw[if_neg (by simp)]
 refine wpAny_binaryOp_repeat_ref (T := "list") (U := "int") (by decide) ⟨_,e,rfl⟩ (fun s'=>typeIs_int s' k t) noFill_list_mul F.fills_int_mul F.slot_int_rmul repeat_list F.slot_int_index.lookup
  (call_meets F.slot_int_rmul (typeIs_int s k t) F.entry_int_rmul (F.args_int_rmul_2 _ _) (int___rmul___int_list k t l its.toArray n)
    ⟨e,rfl,⟨_,e,rfl⟩,call_meets F.slot_list_mul ⟨_,e,rfl⟩ F.entry_list_mul (F.args_list_mul_2 _ _) (AutoListH.list___mul___list_int_3 l its.toArray n k t hfit hcap hlong) ⟨e,?_⟩⟩)
 rw[hnew]
 exact⟨.ref _,_,I.lnew (t':=s.toks) (r.rep k.toNat) (by rw[len_rep,Nat.mul_comm];exact hz),rfl,q _ I.fresh⟩
end
end L2
namespace Att
open PySem PySem.W PySem.Calls PyProof.Rows
theorem ints_of_wellAll:∀ (ns:List Int) (vs:List Value),WellAll P h vs (ns.map WData.int)->IntsAre vs ns:=by
 intro ns
 induction ns with
 |nil=>
   intro vs w
   rw[List.map_nil] at w
   cases w
   exact .nil
 | cons n ns ih=>
   intro vs w
   rw[List.map_cons] at w
   cases w with
   |cons a b=>
     cases a
     exact .cons _ _ (ih _ b)
theorem script_of {l:OpenLaw}{n:Nat} (hn:l.most=some n) {P:Params}{h:Heap}{args:List WData}{vals:List Value}
  (hpre:l.row.toRowW.claim.pre args=true) (hwl:WellAll P h vals args) :
  ∃a vs ns,vals=[Value.ref a]∧args=[WData.list (ns.map WData.int)]∧h.get? a=some { cls:=.type "list",data:=.seq vs.toArray }∧IntsAre vs ns∧ns.length≤n:=by
 have hsh:WShape.hasAll [] args [.list .int]=true:=(pre_splitW hpre).1
 have hc:l.pre.holds [] { args:=args }=true:=(pre_splitW hpre).2
 obtain⟨d,r,rfl,h1,h2⟩:=hasAllW_cons hsh
 obtain rfl:=hasAllW_nil h2
 obtain⟨xs,rfl,h3⟩:=hasW_list h1
 obtain⟨ns,rfl⟩:=items_int h3
 have hlen:ns.length≤n:=by
  unfold OpenLaw.pre at hc
  have h4:(WTm.not (.lt (.lit (.int (n:Int))) (.len (.arg 0)))).holds [] { args:=[.list (ns.map .int)] }=true:=by
   have h4:=(holds_andW hc).1
   rw[hn] at h4
   exact h4
  have h5:=condW_of h4 (w_not (w_lt w_lit (w_len_list (w_arg rfl))))
  rw[List.length_map] at h5
  refine Nat.le_of_not_lt fun q=>?_
  have q':(n:Int)<((ns.length:Nat):Int):=by omega
  first
   |(rw[decide_eq_true q'] at h5;exact absurd h5 (by decide))
   |(simp at h5;omega)
 cases hwl with
 |cons w1 w2=>
   cases w2
   cases w1 with
   |list ho hall=>exact⟨_,_,ns,rfl,rfl,ho,ints_of_wellAll ns _ hall,hlen⟩
theorem post_true(l:OpenLaw)(args:List WData):l.row.toRowW.claim.post args (.bool true) args=true:=
 postW_of (r:=l.row.toRowW) (X:=(true==true))
  (show WShape.has [] (.bool true) .bool=true by first | rfl | decide | simp[WShape.has,WShape.arms,WShape.armsAll])
  (show (WTm.eq .res (.lit (.bool true))).value [] { args:=args,res:=some (.bool true),after:=args }=some (.bool (true==true)) from w_eq_bool (w_res rfl) w_lit) rfl
theorem attach_call {l:OpenLaw}{n:Nat}{q:Program}{loose:List Str}{XP:(Str->Option Value)->Heap->Prop}{YP:World->Heap->Prop}{d:DefRec}
  (hn:l.most=some n) (hdf:d.params.defaults=[])
  (call:∀(w:World) (s₀ s₁:Shared) (mg mb:Str->Option Value) (fa:Addr) (o:Obj) (pm cd doc:Value) (a:Addr) (vs:List Value) (ns:List Int),
    Ground q loose [] XP w s₀ mg mb s₁.heap->YP w s₁.heap->
    s₁.heap.get? fa=some o->o.data=.func (docDef d.name d.params d.body d.scope pm cd doc)->s₁.heap.CodeRec cd d.name->mg d.name=some (.ref fa)->
    s₁.heap.get? a=some { cls:=.type "list",data:=.seq vs.toArray }->IntsAre vs ns->ns.length≤n->s₁.gens=#[]->
    codeAny (model l.prog w) callerA (.call (.ref fa) ⟨[.ref a],[]⟩) (fun r s'=>r=.ok (.ret (.bool true))∧OldK s₁.heap s'.heap∧s'.os=s₁.os∧AllBare s'.gens) s₁) :
  WalkO q loose XP YP l.row.toRowW d [] (fun f vs=>PySem.call f vs):=by
 intro w s₀ s₁ mg mb G Y fa o pm cd doc dV kV ho hd hcd hD hmg hg args vals as hpre hlay hrd hwl hlo
 obtain rfl:dV=.none:=Dflts.none hD hdf
 obtain rfl:kV=.none:=Dflts.noKw hD
 obtain⟨a,vs,ns,rfl,rfl,hobj,hints,hlen⟩:=script_of hn hpre hwl
 refine enter_call (codeAny_mono (call w s₀ s₁ mg mb fa o pm cd doc a vs ns G Y ho (fd_plain hd) hcd hmg hobj hints hlen hg) fun r s' hq=>?_)
 obtain⟨rfl,h2,h3,h4⟩:=hq
 exact⟨.inl ⟨.bool true,.bool true,[],rfl,fun _=>rfl,.bool true,post_true l _,fun _=>⟨List.Pairwise.nil,fun _ hm=>(nomatch hm)⟩⟩,h2,h3,h4⟩
end Att
namespace L2
open PySem PySem.Spec PyProof.Rows
theorem vals_ints:∀{vs:List Value}{ns:List Int},IntsAre vs ns->Vals (ns.map V.int) vs
 |_,_,.nil=>.nil
 |_,_,.cons n t h=>.cons ⟨t,rfl⟩ (vals_ints h)
open PySem PySem.Spec PyProof.Rows
open PySem PySem.Spec PyProof.Rows
def inClass(s:Stmt)(j:Nat):Stmt:=match s with
 |.ClassDef _ _ _ body _ _ _ _ _ _ _=>body.getD j (.Pass ⟨0,0,0,0⟩)
 |_=>.Pass ⟨0,0,0,0⟩
def defArgs(s:Stmt):Arguments:=match s with
 |.FunctionDef _ a _ _ _ _ _ _ _ _=>a
 |_=>{ posonlyargs:=[],args:=[],vararg:=none,kwonlyargs:=[],kw_defaults:=[],kwarg:=none,defaults:=[] }
def defBody(s:Stmt):List Stmt:=match s with
 |.FunctionDef _ _ b _ _ _ _ _ _ _=>b
 |_=>[]
def defScope(s:Stmt):Scope:=match s with
 |.FunctionDef _ _ _ _ _ _ sc _ _ _=>sc
 |_=>{ kind:=.function,names:=[],isGenerator:=false,isCoroutine:=false }
abbrev E0:XK:=fun _ _ _=>False
structure Fun(K:PySem.W.Frag)(x qual:Str)(st:Stmt)(f:Addr)(fd:FuncData):Prop where
 ex:∃(oc:Value) (od:Option Addr) (kV doc pm:Value) (an:Option Addr) (cdv ct:Value) (osl:Array (Option Value)),
  fd=PySem.W.fnOf x qual (defArgs st) (defBody st) (defScope st) .none kV doc pm an cdv ct∧K.lookup f=some ⟨oc,od,.func fd,osl⟩∧PySem.W.codeIn K cdv qual=true
 kp:PySem.W.keepIn K (.ref f)=true
section
variable{P:Program}{w:World}{K:PySem.W.Frag}{mg:Str->Option Value}{base:Heap}
theorem Fun.binds{x qual:Str}{st:Stmt}{f:Addr}{fd:FuncData}{ps:List Str}(F:Fun K x qual st f fd)
  (h:∀(kV doc pm:Value) (an:Option Addr) (cdv ct:Value) (us:List Value),us.length=ps.length->bindArgs (PySem.W.fnOf x qual (defArgs st) (defBody st) (defScope st) .none kV doc pm an cdv ct) ⟨us,[]⟩=pure (ps.zip us)):Binds K fd ps []:=by
 obtain⟨oc,od,kV,doc,pm,an,cdv,ct,osl,rfl,lk,hcd⟩:=F.ex
 exact .all (h kV doc pm an cdv ct)
theorem fun_mk{x qual:Str}{st:Stmt}{f:Addr}{oc:Value}{od an:Option Addr}{osl:Array (Option Value)}{kV doc pm cdv ct:Value}(l:K.lookup f=some ⟨oc,od,.func (PySem.W.fnOf x qual (defArgs st) (defBody st) (defScope st) .none kV doc pm an cdv ct),osl⟩)
  (c:PySem.W.codeIn K cdv qual=true) (k:PySem.W.keepIn K (.ref f)=true):Fun K x qual st f (PySem.W.fnOf x qual (defArgs st) (defBody st) (defScope st) .none kV doc pm an cdv ct):=⟨⟨oc,od,kV,doc,pm,an,cdv,ct,osl,rfl,l,c⟩,k⟩
end
theorem iteF{A B:Prop}(h:B):if false=true then A else B:=by
 rw[if_neg Bool.false_ne_true]
 exact h
theorem iteT{A B:Prop}(h:A):if true=true then A else B:=by
 rw[if_pos rfl]
 exact h
def Same(H H':Hp):Prop:=∀b o,H b=some o->H' b=some o
theorem Same.refl(H:Hp):Same H H:=fun _ _ h=>h
mutual
inductive Rep(K:PySem.W.Frag)(H:Hp):V->PyData->Prop
 |non:Rep K H .non .none
 |bl (b:Bool):Rep K H (.bl b) (.bool b)
 |int (i:Int):Rep K H (.int i) (.int i)
 |str (x:Str):Rep K H (.str x) (.str x)
 |lst {a:Addr}{xs:List V}{ds:List PyData}:SqL K H a xs->Reps K H xs ds->Rep K H (.ref a) (.list ds)
 |tup {a:Addr}{xs:List V}{ds:List PyData}:SqT K H a xs->Reps K H xs ds->Rep K H (.ref a) (.tuple ds)
inductive Reps(K:PySem.W.Frag)(H:Hp):List V->List PyData->Prop
 |nil:Reps K H [] []
 |cons {v:V}{d:PyData}{vs:List V}{ds:List PyData}:Rep K H v d->Reps K H vs ds->Reps K H (v::vs) (d::ds)
end
section
variable{X:Cx}{pins:List (Addr×Obj)}{σ:St}{H:Hp}{s:Shared}
theorem Rep.reads (I:Inv X pins σ H s) {v:V}{d:PyData}{u:Value} (h:Rep X.K H v d):RelV v u->∃ as,Reads s.heap u d as:=
 Rep.rec (motive_1:=fun v d _=>∀ u,RelV v u->∃ as,Reads s.heap u d as) (motive_2:=fun vs ds _=>∀ us,Vals vs us->∃ as,ReadsAll s.heap us ds as)
  (fun u r=>by cases r;exact⟨_,.none⟩)
  (fun b u r=>by cases r;exact⟨_,.bool b⟩)
  (fun i u r=>by obtain⟨t,rfl⟩:=r;exact⟨_,.int i t⟩)
  (fun i u r=>by obtain⟨t,rfl⟩:=r;exact⟨_,.str i t⟩)
  (fun h hs ih u r=>by
    cases r
    obtain⟨its,rv,⟨o,n,h1,h2,_,h3⟩,_⟩:=I.list h
    obtain⟨as,ra⟩:=ih _ rv
    exact⟨_,.list h1 h2 h3 ra⟩)
  (fun h hs ih u r=>by
    cases r
    obtain⟨its,rv,⟨o,h1,h2,n,h3⟩,_⟩:=I.tuple h
    obtain⟨as,ra⟩:=ih _ rv
    exact⟨_,.tuple h1 h2 h3 ra⟩)
  (fun u r=>by cases r;exact⟨_,.nil⟩)
  (fun h hs i1 i2 u r=>by
    cases r with
    |cons r1 r2=>
      obtain⟨a1,e1⟩:=i1 _ r1
      obtain⟨a2,e2⟩:=i2 _ r2
      exact⟨_,.cons e1 e2⟩)
  h u
end
theorem same_new{H:Hp}{p:Addr}(h:H p=none)(o:HO):Same H (upd H p o):=fun b u q=>by rw[upd_ne (ne_of_none q h)];exact q
section
variable{X:Cx}
def Gy(K:PySem.W.Frag)(neg:Bool):R2:=fun x y H Q=>∃da db,Rep K H x da∧Rep K H y db∧da.canLay0=true∧db.canLay0=true∧da.depth≤60∧Q (.bl (if neg then !PyData.eqv da db else PyData.eqv da db)) H
theorem Dm(hu:X.A.units+64<cLine):OpR X (compareOp .Eq) (Gy X.K false):=by
 intro pins s σ H x y v u Q I rx ry h
 obtain⟨da,db,ha,hb,la,lb,hd,q⟩:=h
 obtain⟨as,ra⟩:=ha.reads I rx
 obtain⟨bs,rb⟩:=hb.reads I ry
 exact PySem.SeqAt.compareEq_reads ra rb la lb (by lia) ⟨.bl _,H,I,rfl,q⟩
theorem K3(hu:X.A.units+64<cLine):OpR X (compareOp .NotEq) (Gy X.K true):=by
 intro pins s σ H x y v u Q I rx ry h
 obtain⟨da,db,ha,hb,la,lb,hd,q⟩:=h
 obtain⟨as,ra⟩:=ha.reads I rx
 obtain⟨bs,rb⟩:=hb.reads I ry
 exact PySem.SeqAt.compareNe_reads ra rb la lb (by lia) ⟨.bl _,H,I,rfl,q⟩
def Mr(i j:Int):Prop:=IntMulOk i j
theorem Iv:OpR X (binaryOp .Mult) (rI Mr fun i j=>.int (i*j)):=opI fun _ _ _ _ _ _ _ hc q=>mul_int q hc
theorem Eu:CallR X (.builtin "isinstance") (fun xs H Q=>∃x t c b,xs=[x,.ty c]∧TyOf X.K H x t∧PySem.W.kitOne X.K t (.type c)=some b∧Q (.bl b) H):=by
 intro pins s σ H xs us Q I r h
 obtain⟨x,t,c,b,rfl,ty,e,q⟩:=h
 obtain⟨u,w',rfl,r1,r2⟩:=vals2 r
 cases r2
 exact isinst_ok I r1 ty e fun tk=>⟨.bl b,H,I.tok _,rfl,q⟩
end
open PySem PySem.Spec PyProof.Rows
structure DefAt(K:PySem.W.Frag)(mg:Str->Option Value)(x:Str)(st:Stmt):Prop where
 ex:∃f fd,Fun K x x st f fd∧mg x=some (.ref f)
theorem Fx{K:PySem.W.Frag}{h:Heap}{mg:Str->Option Value}{x:Str}{st:Stmt}{f:Addr}{oc:Value}{od an:Option Addr}{osl:Array (Option Value)}{kV doc pm cdv ct:Value}(X:K.In h)(G:h.Ns mainGlobals mg)
  (a:PySem.W.nsIn K mainGlobals x=some (some (.ref f))) (l:K.lookup f=some ⟨oc,od,.func (PySem.W.fnOf x x (defArgs st) (defBody st) (defScope st) .none kV doc pm an cdv ct),osl⟩) (c:PySem.W.codeIn K cdv x=true) (k:PySem.W.keepIn K (.ref f)=true):DefAt K mg x st:=
 ⟨f,_,fun_mk l c k,PySem.W.mg_of X G a⟩
section
variable{X:Cx}{j k:Nat}{ps:List Str}{sp:Sp}{x:Str}{p pos:Pos}{e:Expr}{es:List Expr}{t:TA}
theorem O6{id:String}{r:List V->Hp->VK->Prop}(hc:CallR X (.builtin id) r)(hm:X.mg x=none)(ha:PA X (e::es) t)(hg:Gl X x:=by rfl)(hv:bootBuiltins x=some (.builtin id):=by decide +kernel)(hn:x≠"__name__":=by decide)(hdb:(x==("__debug__":Str))=false:=by decide)
  (he:starEach (e::es) X.env=(false,eval e X.env)::starEach es X.env:=by rfl) (hpl:(backTo pos (starEach es X.env)).any (·.1)=false:=by rfl) :
  PE X (.Call (.Name x p) (e::es) [] pos) (tCB r t):=pe_callB hc hg hm hv ha hn hdb he hpl
theorem Np{T:String}(hm:X.mg x=none)(hg:Gl X x:=by rfl)(hv:bootBuiltins x=some (.type T):=by decide +kernel)(hn:x≠"__name__":=by decide)(hdb:(x==("__debug__":Str))=false:=by decide):PE X (.Name x pos) (tC (.ty T)):=
 pe_bltn hg hm hv rfl hn hdb
end
end L2
namespace L2
open PySem PySem.Spec PyProof.Rows
open PySem PySem.Spec PyProof.Rows
theorem ObjOk.there(x:ObjOk P w H h a o):∃u,h.get? a=some u:=by
 induction o with
 |lst xs=>obtain⟨_,_,_,_,e⟩:=x;exact⟨_,e⟩
 |tup xs=>obtain⟨_,_,_,o,e,_⟩:=x;exact⟨_,e⟩
 |dK kvs=>obtain⟨_,_,_,_,o,_,_,e,_⟩:=x;exact⟨_,e⟩
 |dT kvs=>obtain⟨_,_,_,_,o,_,_,e,_⟩:=x;exact⟨_,e⟩
 |set S n=>obtain⟨o,_,_,_,e,_⟩:=x;exact⟨_,e⟩
 |ins C dx fs=>obtain⟨_,_,_,e,_⟩:=x;exact⟨_,e⟩
 |own y=>exact x
 |xd fs=>obtain⟨_,⟨o,es,ep,e,_⟩,_⟩:=x;first | exact⟨_,e⟩ | exact⟨o,es⟩
 |met g y=>exact⟨_,x⟩
 |rng lo hi=>obtain⟨_,_,_,e⟩:=x;exact⟨_,e⟩
 |frz o u ih=>exact⟨_,x.1⟩
 |tbl ps=>obtain⟨_,e,_⟩:=x;exact⟨_,e⟩
 |ext φ=>exact x.2.1
end L2
namespace L2
open PySem PySem.Spec PyProof.Rows
def cj (P:Program) (w:World):CXT:=fun outer H s E e s'=>
 ∃(x:Addr) (C a0:Value) (H':Hp) (B:Heap),e=.ref x∧s'.os=s.os∧AllBare s'.gens∧Un (frs outer) [] H H' s.heap s'.heap∧HOk P w H' s'.heap∧Heap.FlyingW B outer x C a0 s'.heap ∧
   (∀b,H' b≠none->∃o,B.get? b=some o)∧(∀b o,s.heap.get? b=some o->b∉frs outer->∃o',B.get? b=some o')∧E C none H'
theorem rF{env:Env}{l:List Env}{L:Addr}(h:env.frame=some L):frs (env::l)=L::frs l:=by
 unfold frs;rw[List.filterMap_cons,h]
theorem qu {fs:List Addr}{H H':Hp}{h0 h h' B:Heap} (u:Un fs [] H H' h0 h) (hB:B.StaysIn h) (hB':B.StaysIn h') (up:h.UpToSlots h')
  (fr:∀b∈fs,∃o,h.get? b=some o∧∀vs,o.data≠.fields vs) (cov:∀b o,h0.get? b=some o->b∉fs->∃o',B.get? b=some o'):Un fs [] H H' h0 h' where
 keep b o e n hb hx:=by
  have h1:=u.keep b o e n hb hx
  obtain⟨o',e'⟩:=cov b o e hb
  have h2:=hB b o' e'
  rw[h1] at h2;cases h2
  exact hB' b o e'
 slot b o e n hb hx:=by
  obtain⟨sl,h1⟩:=u.slot b o e n hb hx
  obtain⟨o1,h2,nf⟩:=fr b hb
  rw[h1] at h2;cases h2
  obtain⟨sl2,h3⟩:=up b _ h1 nf
  exact⟨sl2,h3⟩
 free:=u.free
 there b o e hx:=by
  by_cases hb:b∈fs
  ·obtain⟨o1,h2,nf⟩:=fr b hb
   obtain⟨sl2,h3⟩:=up b _ h2 nf
   exact⟨_,h3⟩
  ·obtain⟨o',e'⟩:=cov b o e hb
   exact⟨o',hB' b o' e'⟩
 tups:=u.tups
 frzs:=u.frzs
 tbls:=u.tbls
theorem ni {P:Program}{w:World}{H':Hp}{h h' B:Heap} (ok:HOk P w H' h) (hB:B.StaysIn h) (hB':B.StaysIn h') (cov:∀ b,H' b≠none->∃ o,B.get? b=some o):HOk P w H' h':=fun a o e=>
 (ok a o e).stay (fun b u hb hu=>by
   have hn:H' b≠none:=by
    rcases hb with rfl | hb
    ·rw[e];simp
    ·rw[hb];simp
   obtain⟨o',e'⟩:=cov b hn
   have:=hB b o' e'
   rw[hu] at this;cases this
   exact hB' b u e') (fun _ h=>h) (fun _ _ h=>h)
section
variable{P:Program}{w:World}{K:PySem.W.Frag}{mg:Str->Option Value}{base:Heap}{N:List Str}{qual:Str}{scope:Scope}{f:Addr}{cd:Value}{A:Around}{outer:List Env}{s:Shared}{H:Hp}{E:XK}
abbrev bO(P:Program)(w:World)(K:PySem.W.Frag)(mg:Str->Option Value)(base:Heap)(N:List Str)(qual:Str)(scope:Scope)(f:Addr)(cd:Value)(A:Around)(outer:List Env)(s:Shared)(H:Hp)(E:XK):Cx:=
 cxOf (cj P w) P w K mg base N qual scope f cd A outer s H E
theorem aN:Passes (cj P w) (bO P w K mg base N qual scope f cd A outer s H E) E:=by
 intro pins σ H1 s1 e s' I hf
 obtain⟨x,C,a0,H',B,rfl,os,bare,un,hok,fl,ci,cii,q⟩:=hf
 have J:Inv (bO P w K mg base N qual scope f cd A outer s H E) pins σ H' s':=I.call' (ch:=[]) os un hok bare (fun b z=>absurd z (by simp))
 have hfr:(bO P w K mg base N qual scope f cd A outer s H E).A.frames=some ((bO P w K mg base N qual scope f cd A outer s H E).env::outer):=I.ok.frames
 have hfs:∀b∈frs outer,∃o,s'.heap.get? b=some o∧∀vs,o.data≠.fields vs:=fun b hb=>(fl.2.2.1.2.2.mem hb).2
 have hfrm:(bO P w K mg base N qual scope f cd A outer s H E).env.frame=some (bO P w K mg base N qual scope f cd A outer s H E).env.locals:=rfl
 have cov:∀b o,s.heap.get? b=some o->b∉frs outer->∃o',B.get? b=some o':=fun b o e hb=>by
  obtain⟨o1,h1⟩:=I.base.there b o e (show b∉([]:List Addr) by simp)
  refine cii b o1 h1 ?_
  show b∉frs ((bO P w K mg base N qual scope f cd A outer s H E).env::outer)
  rw[rF hfrm]
  intro hm
  rcases List.mem_cons.mp hm with rfl | hm
  ·exact absurd (Heap.lt_size e) (Nat.not_lt.mpr I.ok.above)
  ·exact hb hm
 show wpAny _ _ (leaving _ (.ref x)) _ _ s'
 refine wpAny_leaves_onW hfr rfl fl fun h' fl' up=>?_
 exact⟨x,C,a0,H',B,rfl,J.os,bare,qu J.base fl.1 fl'.1 up hfs cov,ni hok fl.1 fl'.1 ci,fl',ci,cov,q⟩
theorem Lx {pins:List (Addr×Obj)}{σ:St}{H1:Hp}{s1:Shared}{h1:Heap}{e:Addr}{C:Value}{args:List Value} (I:Inv (bO P w K mg base N qual scope f cd A outer s H E) pins σ H1 s1)
  (hx:Heap.MadeExcOf s1.heap h1 e C args) (q:E C none H1):(bO P w K mg base N qual scope f cd A outer s H E).xe (.ref e) { s1 with heap:=h1 }:=by
 have hfr:(bO P w K mg base N qual scope f cd A outer s H E).A.frames=some ((bO P w K mg base N qual scope f cd A outer s H E).env::outer):=I.ok.frames
 have hfrm:(bO P w K mg base N qual scope f cd A outer s H E).env.frame=some (bO P w K mg base N qual scope f cd A outer s H E).env.locals:=rfl
 have ff:s1.heap.FunFrames base ((bO P w K mg base N qual scope f cd A outer s H E).env::outer):=I.stack
 have hin:∀env∈((bO P w K mg base N qual scope f cd A outer s H E).env::outer),∀b,env.frame=some b->b∈frs ((bO P w K mg base N qual scope f cd A outer s H E).env::outer):=fun env he b hb=>List.mem_filterMap.mpr ⟨env,he,hb⟩
 have hst:(PySem.W.hideAll s1.heap (frs ((bO P w K mg base N qual scope f cd A outer s H E).env::outer))).StaysIn s1.heap:=fun b o q=>PySem.W.of_hideAll _ q
 have cov:∀b o,s.heap.get? b=some o->b∉frs outer->∃o',(PySem.W.hideAll s1.heap (frs ((bO P w K mg base N qual scope f cd A outer s H E).env::outer))).get? b=some o':=fun b o e hb=>by
  obtain⟨o1,h1⟩:=I.base.there b o e (show b∉([]:List Addr) by simp)
  refine⟨o1,PySem.W.hideAll_get _ h1 ?_⟩
  rw[rF hfrm]
  intro hm
  rcases List.mem_cons.mp hm with rfl | hm
  ·exact absurd (Heap.lt_size e) (Nat.not_lt.mpr I.ok.above)
  ·exact hb hm
 have ci:∀ b,H1 b≠none->∃ o,(PySem.W.hideAll s1.heap (frs ((bO P w K mg base N qual scope f cd A outer s H E).env::outer))).get? b=some o:=fun b hb=>by
  cases hb':H1 b with
  |none=>exact absurd hb' hb
  |some o=>
    have lt:=I.hok.lt hb'
    have ex:∃o',s1.heap.get? b=some o':=(I.hok b o hb').there
    obtain⟨o',ho'⟩:=ex
    refine⟨o',PySem.W.hideAll_get _ ho' fun hm=>?_⟩
    have:=I.stkFree b hm
    rw[hb'] at this;cases this
 have hfs:∀b∈frs outer,∃o,h1.get? b=some o∧∀vs,o.data≠.fields vs:=fun b hb=>by
  obtain⟨_,o,ho,nf⟩:=ff.2.2.mem hb
  exact⟨o,hx.keeps _ _ ho,nf⟩
 have I1:Inv (bO P w K mg base N qual scope f cd A outer s H E) pins σ H1 { s1 with heap:=h1 }:=I.kept (t':=s1.toks) hx.keeps
 show wpAny _ _ (leaving _ (.ref e)) _ _ _
 refine wpAny_leaves_madeW hfr rfl hst (PySem.W.funFrames_hide ff hin) hx fun h' t fl' _ _ up=>?_
 exact⟨e,C,.ref t,H1,_,rfl,I1.os,I1.bare,qu I1.base (fun b o e=>hx.keeps _ _ (hst _ _ e)) fl'.1 up hfs cov,ni I1.hok (fun b o e=>hx.keeps _ _ (hst _ _ e)) fl'.1 ci,fl',ci,cov,q⟩
end
abbrev uX:List Value:=[.type "ValueError",.type "Exception",.type "BaseException",.type "object"]
theorem uH {K:PySem.W.Frag}{h:Heap}{mg:Str->Option Value}{x:Str}{C:Addr}{bmB:List Value}{newId:String} (X:K.In h) (m:mg x=some (.ref C)) (q:PySem.W.excIn K C bmB newId=true):OwnCls x C bmB newId mg h:=by
 refine⟨m,?_⟩
 unfold PySem.W.excIn at q
 split at q
 ·rename_i dd cd sl hobj
  split at q
  ·rename_i C' tl a0 a1 a2 a3 n a5 hmro hslot
   (simp only[Bool.not_eq_true',Bool.and_eq_true,beq_iff_eq] at q)
   obtain⟨⟨⟨⟨⟨rfl,rfl⟩,hnd⟩,ht⟩,hns⟩,hin⟩:=q
   obtain⟨c1,c2,c3,c4,c5,c6,c7,c8,c9,c10,c11⟩:=cd
   dsimp only at hmro hnd hns hin
   subst hmro hnd
   have hslv:sl=#[a0,a1,a2,a3,some (.builtin n),a5]:=by
    obtain⟨l⟩:=sl
    simp only at hslot
    rw[hslot]
   subst hslv
   exact⟨tl,c4,c1,c5,c2,c6,c7,c8,c9,c10,dd,a0,a1,a2,a3,a5,_,X _ _ hobj,.of_isNs (PySem.W.isNs_of_in X hns),PySem.W.nsMap_none_of_in X hns hin,PySem.W.tail_of_in X ht⟩
  ·cases q
 ·cases q
structure XCls(K:PySem.W.Frag)(mg:Str->Option Value)(x:Str)(C:Addr):Prop where
 at_:mg x=some (.ref C)
 exc:PySem.W.excIn K C uX "ValueError.__new__"=true
section
variable{P:Program}{w:World}{K:PySem.W.Frag}{mg:Str->Option Value}{base:Heap}{N:List Str}{qual:Str}{scope:Scope}{f:Addr}{cd:Value}{A:Around}{outer:List Env}{s:Shared}{H:Hp}{E:XK}
theorem Gx{x:Str}{C:Addr}{np cpos pos:Pos}{e:Expr}{te:TE}(hc:XCls K mg x C)(he:PE (bO P w K mg base N qual scope f cd A outer s H E) e te)
  (hg:Gl (bO P w K mg base N qual scope f cd A outer s H E) x:=by rfl) (hd:(x==("__debug__":Str))=false:=by decide)
  (hst:starEach [e] (bO P w K mg base N qual scope f cd A outer s H E).env=[(false,eval e (bO P w K mg base N qual scope f cd A outer s H E).env)]:=by rfl) :
  PS (bO P w K mg base N qual scope f cd A outer s H E) (.Raise (some (.Call (.Name x np) [e] [] cpos)) none pos) (fun _ σ H1=>te σ H1 fun v H2=>[v].length=1∧E (.ref C) none H2):=by
 intro pins s1 σ H1 D I h
 have O:=uH (newId := "ValueError.__new__") (bmB:=uX) (mg:=mg) (x:=x) I.ok.mod.kin hc.at_ hc.exc
 obtain⟨tl,Nn,nm,q,bs,hdct,sn,sub,ab,col,dd,k0,k1,k2,k3,k5,mN,hC,hN,hni,T⟩:=O.obj
 refine wpAny_Raise_call_subT (C:=C) (nm:=nm) (q:=q) (N:=Nn) (bs:=bs) (bm:=tl) (hdct:=hdct) (sn:=sn) (sub:=sub) (ab:=ab) (col:=col) (dd:=dd) (k0:=k0) (k1:=k1) (k2:=k2) (k3:=k3) (k5:=k5)
  PySem.F.excBase_ValueError (mN:=mN) (T.hasType PySem.F.excBase_ValueError.hasBase) (I.ok.hd rfl) (by rw[hst];rfl) hni (ld_glob I hg hc.at_ ⟨rfl,?_⟩ hd)
 have hPA:=(pa_cons he pa_nil hst) cpos pins s1 σ H1 (fun vs H2=>vs.length=1∧E (.ref C) none H2) I h
 rw[hst] at hPA ⊢
 refine Calls.evalArgs_plain (wpAny_mono hPA (fun vs s₂ h₂=>?_) fun _ _ y=>y)
 obtain⟨ws,H2,I2,rv,l1,qE⟩:=h₂
 have lv:vs.length=1:=by rw[←rv.length];exact l1
 have kp:∀b o,base.get? b=some o->s₂.heap.get? b=some o:=I2.bk
 exact⟨rfl,by rw[lv];decide,kp _ _ hC,hN.keeps kp,T.keeps kp,fun h' e hm=>Lx I2 hm qE⟩
end
section
variable{X:Cx}{pins:List (Addr×Obj)}{σ:St}{H:Hp}{s:Shared}{h' B:Heap}
theorem Inv.land(I:Inv X pins σ H s)(hc:X.env.cells=[])(hex:X.ex=[])(hB:B.StaysIn s.heap)(hB':B.StaysIn h')(up:s.heap.UpToSlots h')
  (fr:∀b∈X.fs,∃o,s.heap.get? b=some o∧∀vs,o.data≠.fields vs) (ci:∀b,H b≠none->∃o,B.get? b=some o) (cov:∀b o,X.s₀.heap.get? b=some o->b∉X.fs->∃o',B.get? b=some o')
  (cp:∀p∈X.pn++pins,B.get? p.1=some p.2):Inv X pins σ H { s with heap:=h' }:=by
 have nc:∀x c,X.env.cells.lookup x=some c->False:=fun x c e=>by rw[hc] at e;cases e
 obtain⟨m,hn,hl⟩:=I.loc
 have ub:Un X.fs [] X.H₀ H X.s₀.heap s.heap:=by have:=I.base;rw[hex] at this;exact this
 refine⟨I.ok,I.os,I.bare,?_,⟨m,up.ns hn,fun i x v h1 h2 h3=>?_⟩,fun x c e=>(nc x c e).elim,I.free,fun x c e=>(nc x c e).elim,fun p hp=>?_,ni I.hok hB hB' ci,I.len⟩
 ·rw[hex];exact qu ub hB hB' up fr cov
 ·obtain⟨u,r,q⟩:=hl i x v h1 h2 h3
  refine⟨u,r,?_⟩
  rcases q with q | ⟨_,c,e,_⟩
  ·exact .inl q
  ·exact (nc x c e).elim
 ·obtain⟨e,n,ne,nf,d⟩:=I.pin p hp
  exact⟨hB' _ _ (cp p hp),n,ne,nf,d⟩
theorem Inv.gone (I:Inv X pins σ H s) (hN:X.N.Nodup) (hi:X.N[i]?=some n) (hk:X.env.kindOf n=some .local)
  (h:∀s',Inv X pins (σ.set i none) H s'->Q () s'):wpAny M A (do bindName X.env n .none;unbindBehindTheSuite X.env n pos) Q E s:=by
 obtain⟨m,hn,hl⟩:=id I.loc
 have hcls:(X.env.scope.kind==.class || (X.env.scope.kind==.module&&X.env.locals != X.env.globals))=false:=by rw[I.ok.kind];rfl
 have cne:=I.cne
 obtain⟨oL,_,_,hoL,_⟩:=id hn
 refine wpAny_nameGoes_keeps hk hn hcls fun h' v hn' hs=>?_
 refine h _ ⟨I.ok,I.os,I.bare,⟨fun b o e n hb hx=>?_,fun b o e n hb hx=>?_,I.base.free,fun b o e hx=>?_,I.base.tups,I.base.frzs,I.base.tbls⟩,⟨_,hn',fun j y v' e1 e2 e3=>?_⟩,fun y c e=>?_,I.free,I.freeC,fun p hp=>?_,fun b ob e=>?_,by simpa using I.len⟩
 ·exact (hs.2 b (Nat.ne_of_lt (Nat.lt_of_lt_of_le (Heap.lt_size e) I.ok.above))).trans (I.base.keep b o e n hb hx)
 ·obtain⟨sl,e1⟩:=I.base.slot b o e n hb hx
  exact⟨sl,(hs.2 b (Nat.ne_of_lt (Nat.lt_of_lt_of_le (Heap.lt_size e) I.ok.above))).trans e1⟩
 ·obtain⟨o',e1⟩:=I.base.there b o e hx
  exact⟨o',(hs.2 b (Nat.ne_of_lt (Nat.lt_of_lt_of_le (Heap.lt_size e) I.ok.above))).trans e1⟩
 ·have hj:j≠i:=fun z=>by
   subst z
   have hlt:j<σ.length:=by rw[I.len];exact (List.getElem?_eq_some_iff.mp hi).1
   rw[List.getElem?_set_self hlt] at e2
   cases e2
  rw[List.getElem?_set_ne (Ne.symm hj)] at e2
  obtain⟨u',r',q⟩:=hl j y v' e1 e2 e3
  refine⟨u',r',?_⟩
  rcases q with ⟨k,e⟩ | ⟨k,c,e,z⟩
  ·refine .inl ⟨k,?_⟩
   have:y≠n:=fun e=>hj (nodup_ix hN e1 (e ▸ hi))
   simp[this,e]
  ·exact .inr ⟨k,c,e,z.sameBut hs (cne y c e)⟩
 ·obtain⟨w',z⟩:=I.cell y c e
  exact⟨w',z.sameBut hs (cne y c e)⟩
 ·obtain⟨e,n,ne,nf,d⟩:=I.pin p hp
  exact⟨(hs.2 p.1 ne).trans e,n,ne,nf,d⟩
 ·refine (I.hok b ob e).stay (fun c w' hc q=>(hs.2 c ?_).trans q) (fun _ q=>q) fun _ _ q=>q
  rintro rfl
  rcases hc with hc | hc
  ·rw[←hc,I.free] at e;cases e
  ·rw[I.free] at hc;cases hc
end
def Pz (X:Cx) (pins:List (Addr×Obj)) (Eh:XK):Value->Shared->Prop:=fun e s'=>
 ∃(σ':St) (H':Hp) (x:Addr) (C a0:Value) (B:Heap),e=.ref x∧Inv X pins σ' H' s'∧Heap.FlyingW B X.stack x C a0 s'.heap∧(∀b,H' b≠none->∃o,B.get? b=some o) ∧
   (∀b o,X.s₀.heap.get? b=some o->b∉X.fs->∃o',B.get? b=some o')∧(∀p∈X.pn++pins,B.get? p.1=some p.2)∧Eh C none H'
abbrev Cx.tryC(X:Cx)(pins:List (Addr×Obj))(Eh:XK):Cx:={ X with pn:=X.pn++pins,xe:=Pz X pins Eh }
abbrev Cx.sui(X:Cx)(x:Addr)(oe:Obj):Cx:={ X with A:=X.A.mark (some (.ref x)),calm:=false,pn:=X.pn++[(x,oe)],xe:=fun _ _=>False }
section
variable{X:Cx}{pins:List (Addr×Obj)}{σ:St}{H:Hp}{s:Shared}{Eh:XK}{P:Program}{w:World}
theorem Inv.toTry(I:Inv X pins σ H s):Inv (X.tryC pins Eh) [] σ H s:=
 ⟨⟨I.ok.mod,I.ok.kind,I.ok.glob,I.ok.blt,I.ok.above,I.ok.inj,I.ok.has,I.ok.cab,I.ok.hd,I.ok.frames,I.ok.stk,I.ok.exf,I.ok.bs,I.ok.bsz,I.ok.noex,I.ok.exfs,I.ok.funs,I.ok.frf⟩,I.os,I.bare,I.base,I.loc,I.cell,I.free,I.freeC,fun p hp=>I.pin p (by simpa using hp),I.hok,I.len⟩
theorem Inv.ofTry(I:Inv (X.tryC pins Eh) pins2 σ H s):Inv X pins σ H s:=
 ⟨⟨I.ok.mod,I.ok.kind,I.ok.glob,I.ok.blt,I.ok.above,I.ok.inj,I.ok.has,I.ok.cab,I.ok.hd,I.ok.frames,I.ok.stk,I.ok.exf,I.ok.bs,I.ok.bsz,I.ok.noex,I.ok.exfs,I.ok.funs,I.ok.frf⟩,I.os,I.bare,I.base,I.loc,I.cell,I.free,I.freeC,fun p hp=>I.pin p (List.mem_append_left _ hp),I.hok,I.len⟩
theorem Inv.toSui (I:Inv X pins σ H s) (h:s.heap.get? x=some oe∧H x=none∧x≠X.env.locals∧x∉X.fs∧∀ v,oe.data≠.cell v):Inv (X.sui x oe) pins σ H s:=
 ⟨⟨I.ok.mod,I.ok.kind,I.ok.glob,I.ok.blt,I.ok.above,I.ok.inj,I.ok.has,I.ok.cab,fun z=>(by cases z),I.ok.frames,I.ok.stk,I.ok.exf,I.ok.bs,I.ok.bsz,I.ok.noex,I.ok.exfs,I.ok.funs,I.ok.frf⟩,I.os,I.bare,I.base,I.loc,I.cell,I.free,I.freeC,fun p hp=>by
  rcases List.mem_append.mp hp with hp | hp
  ·rcases List.mem_append.mp hp with hp | hp
   ·exact I.pin p (List.mem_append_left _ hp)
   ·cases List.mem_singleton.mp hp;exact h
  ·exact I.pin p (List.mem_append_right _ hp),I.hok,I.len⟩
theorem Inv.ofSui(ok:X.Ok)(I:Inv (X.sui x oe) pins σ H s):Inv X pins σ H s:=
 ⟨ok,I.os,I.bare,I.base,I.loc,I.cell,I.free,I.freeC,fun p hp=>I.pin p (by
  rcases List.mem_append.mp hp with hp | hp
  ·exact List.mem_append_left _ (List.mem_append_left _ hp)
  ·exact List.mem_append_right _ hp),I.hok,I.len⟩
theorem Ni (hex:X.ex=[]) (hP:X.prog=P) (hw:X.w=w):Passes (cj P w) (X.tryC pins Eh) Eh:=by
 subst hP hw
 intro pins2 σ H1 s1 e s' I hf
 obtain⟨x,C,a0,H',B,rfl,os,bare,un,hok,fl,ci,cii,q⟩:=hf
 have J:Inv (X.tryC pins Eh) pins2 σ H' s':=I.call' (ch:=[]) os un hok bare (fun b z=>absurd z (by simp))
 have J':=J.ofTry
 have cp:∀p∈X.pn++pins,B.get? p.1=some p.2:=fun p hp=>by
  obtain⟨e1,n1,ne1,nf1,d1⟩:=I.ofTry.pin p hp
  obtain⟨e2,_⟩:=J'.pin p hp
  obtain⟨o',e3⟩:=cii p.1 p.2 e1 (fun hm=>by
   rcases List.mem_cons.mp (I.ofTry.stkSub _ hm) with z | z
   ·exact ne1 z
   ·exact nf1 z)
  have:=fl.1 _ _ e3
  rw[e2] at this;cases this
  exact e3
 have cov:∀b o,X.s₀.heap.get? b=some o->b∉X.fs->∃o',B.get? b=some o':=fun b o e hb=>by
  obtain⟨o1,h1⟩:=I.base.there b o e (by show b∉X.ex;rw[hex];simp)
  refine cii b o1 h1 fun hm=>?_
  rcases List.mem_cons.mp (I.ofTry.stkSub _ hm) with z | z
  ·exact absurd (Heap.lt_size e) (by rw[z];exact Nat.not_lt.mpr I.ok.above)
  ·exact hb z
 exact⟨σ,H',x,C,a0,B,rfl,J',fl,ci,cov,cp,q⟩
end
section
variable{M:Model}{A:Around}{E:Value->Shared->Prop}
variable{nm q:Str}{C N:Addr}{bs bm:List Value}{hdct:Bool}{sn:List Str}{sub:List Value}{ab:Bool}{col:Option Bool}{dd:Option Addr}{k0 k1 k2 k3 k5:Option Value}{newId:String}
variable{nm' q':Str}{C' N':Addr}{bs' bm':List Value}{hdct':Bool}{sn':List Str}{sub':List Value}{ab':Bool}{col':Option Bool}{dd':Option Addr}{j0 j1 j2 j3 j5:Option Value}{newId':String}
theorem uz{h:Heap}{g:Array GenState}{d:Drawn}{t:Nat}{os:OsState}{e:Addr}{oe:Obj}{Q:Bool->Shared->Prop}
  (hC:h.get? C=some (excClassObj nm q C N bs bm hdct sn sub ab col dd k0 k1 k2 k3 k5 newId)) (hC':h.get? C'=some (excClassObj nm' q' C' N' bs' bm' hdct' sn' sub' ab' col' dd' j0 j1 j2 j3 j5 newId')) (he:h.get? e=some oe) (hcls:oe.cls=.ref C)
  (hbase:bm'.contains (.type "BaseException")=true) (hsub:(Value.ref C::bm).contains (.ref C')=true)
  (hq:Q true ⟨h,g,d,t,os⟩):wpAny M A (excMatches (.ref e) (.ref C')) Q E ⟨h,g,d,t,os⟩:=by
 have hcB:(Value.ref C'::bm').contains (.type "BaseException")=true:=by rw[List.contains_cons,hbase,Bool.or_true]
 have f:=tc_notTuple
 unfold excMatches
 repeat (first | (with_reducible refine wpAny_loadPart_at he ?_;rw[hcls]) | with_reducible refine wpAny_loadPart_at hC' ?_ | (with_reducible refine wpAny_isSubtype_exc hC' ?_;rw[hcB]) | (with_reducible refine wpAny_isSubtype_exc hC ?_;rw[hsub]) | wp_step)
 all_goals exact hq
end
structure Catches(K:PySem.W.Frag)(C F:Addr):Prop where
 exc:PySem.W.excIn K C uX "ValueError.__new__"=true
 excF:PySem.W.excIn K F uX "ValueError.__new__"=true
 sub:PySem.W.mroIn K C (.ref F)=some true
theorem Ay {K:PySem.W.Frag}{M:Model}{A:Around}{E:Value->Shared->Prop}{s:Shared}{C F e:Addr}{oe:Obj}{Q:Bool->Shared->Prop} (X:K.In s.heap) (c:Catches K C F) (he:s.heap.get? e=some oe) (hcls:oe.cls=.ref C) (hq:Q true s) :
  wpAny M A (excMatches (.ref e) (.ref F)) Q E s:=by
 obtain⟨bm,N,nm,q,bs,hdct,sn,sub,ab,col,dd,k0,k1,k2,k3,k5,mN,hC,hN,hni,T⟩:=(uH (mg:=fun _=>some (.ref C)) (x := "x") X rfl c.exc).obj
 obtain⟨bm',N',nm',q',bs',hdct',sn',sub',ab',col',dd',j0,j1,j2,j3,j5,mN',hC',hN',hni',T'⟩:=(uH (mg:=fun _=>some (.ref F)) (x := "x") X rfl c.excF).obj
 have hsub:(Value.ref C::bm).contains (.ref F)=true:=by
  have h1:=c.sub
  unfold PySem.W.mroIn at h1
  obtain⟨cd,a,b⟩:=Option.bind_eq_some_iff.mp h1
  unfold PySem.W.clsIn at a
  split at a
  ·rename_i c' d' cd' sl' ho
   have:=X _ _ ho
   rw[hC] at this
   cases this
   cases a
   split at b
   ·cases b
   ·exact Option.some.inj b
  ·cases a
 obtain⟨hp,g,d,tk,os⟩:=s
 exact uz hC hC' he hcls (T'.hasType PySem.F.excBase_ValueError.hasBase) hsub hq
def Pn(X:Cx)(i:Nat)(F:Addr)(Eh:XK)(tb:TS)(th:Addr->Obj->TS):TS:=fun D σ H=>
 tb D σ H∧∀(x:Addr) (oe:Obj) (C:Value) (H1:Hp),oe.cls=C->(∃vs,oe.data=.fields vs)->Eh C none H1->(∃c,C=.ref c∧Catches X.K c F) ∧
  th x oe { D with nx:=fun σ' H'=>D.nx (σ'.set i none) H',bk:=fun σ' H'=>D.bk (σ'.set i none) H',ct:=fun σ' H'=>D.ct (σ'.set i none) H' } ((List.replicate X.N.length none).set i (some (.ref x))) H1
theorem Le (hcalm:X.calm=true) (hcells:X.env.cells=[]) (hex:X.ex=[])
  (hst:X.stack=X.env::X.outer) (hfr:X.env.frame=some X.env.locals) (hN:X.N.Nodup) (hi:X.N[i]?=some n) (hk:X.env.kindOf n=some .local) (hm:X.mg x=some (.ref F))
  (hb:∀pins,PSs (X.tryC pins Eh) body tb) (hs:∀y oe,PSs (X.sui y oe) (b₀::suite) (th y oe)) (hg:Gl X x:=by rfl) (hd:(x==("__debug__":Str))=false:=by decide) :
  PS X (.Try body [.ExceptHandler (some (.Name x np)) (some n) (b₀::suite) p1] [] [] pos) (Pn X i F Eh tb th):=by
 intro pins s σ H D I h
 obtain⟨h1,h2⟩:=h
 have Om:∀{f:Flow}{s':Shared},SP (X.tryC pins Eh) [] D f s'->SP X pins D f s':=fun {f s'} z=>by
  cases f with
  |next=>obtain⟨σ',H',J,q⟩:=z;exact⟨σ',H',J.ofTry,q⟩
  |brk=>obtain⟨σ',H',J,q⟩:=z;exact⟨σ',H',J.ofTry,q⟩
  |cont=>obtain⟨σ',H',J,q⟩:=z;exact⟨σ',H',J.ofTry,q⟩
  |ret u=>obtain⟨v,σ',H',J,r,q⟩:=z;exact⟨v,σ',H',J.ofTry,r,q⟩
 refine wpAny_Try_except (wpAny_mono ((hb pins) [] s σ H D I.toTry h1) (fun f s₁ hf=>?_) fun e s₁ he=>?_)
 ·have hf':=Om hf
  cases f with
  |next=>exact wpAny_execs_nil hf'
  |brk=>exact hf'
  |cont=>exact hf'
  |ret u=>exact hf'
 obtain⟨σ',H',y,C,a0,B,rfl,J,fl,ci,cov,cp,q⟩:=he
 have hfrs:X.A.frames=some (X.env::X.outer):=by rw[I.ok.frames,hst]
 rw[hst] at fl
 have fr:∀b∈X.fs,∃o,s₁.heap.get? b=some o∧∀vs,o.data≠.fields vs:=fun b hb=>(fl.2.2.1.2.2.mem hb).2
 refine wpAny_looks_onW hfrs hfr fl fun h₄ held up₄=>?_
 refine wpAny_landsW held fun h₅ fl₅ up₅=>?_
 have J₅:Inv X pins σ' H' { s₁ with heap:=h₅ }:=J.land hcells hex fl.1 fl₅.1 (up₄.trans up₅) fr ci cov cp
 obtain⟨ob,wb,hob,hobc,hobd,_⟩:=fl₅.first
 refine wpAny_handleBy_cons (codeAny_handlers_test ?_) (by intro z;cases z)
 have K₅:∀{E:Value->Shared->Prop}{Q:Value->Shared->Prop},Q (.ref F) { s₁ with heap:=h₅ }->wpAny (model X.prog X.w) (X.A.mark (some (.ref y))) (eval (.Name x np) X.env) Q E { s₁ with heap:=h₅ }:=fun hQ=>
  Calls.Name_function_global I.ok.kind hg (by
   have g5:h₅.Ns X.env.globals X.mg:=by rw[I.ok.glob];exact I.ok.mod.glob.keeps J₅.bk
   exact Calls.loadGlobal_global g5 hm hQ) hd
 refine K₅ ?_
 obtain⟨⟨c,hCc,cat⟩,_⟩:=h2 y ob C H' hobc ⟨_,hobd⟩ q
 subst hCc
 refine Ay J₅.kIn cat hob hobc ?_
 refine codeAny_handlers_suite_as ?_
 refine lands_againW fl₅ fun h₆ fl₆ up₆=>?_
 have fr₅:∀b∈X.fs,∃o,h₅.get? b=some o∧∀vs,o.data≠.fields vs:=fun b hb=>(fl₅.2.2.1.2.2.mem hb).2
 have fr₆:∀b∈X.fs,∃o,h₆.get? b=some o∧∀vs,o.data≠.fields vs:=fun b hb=>(fl₆.2.2.1.2.2.mem hb).2
 have J₆:Inv X pins σ' H' { s₁ with heap:=h₆ }:=J₅.land (s:={ s₁ with heap:=h₅ }) hcells hex fl₅.1 fl₆.1 up₆ fr₅ ci cov cp
 have J₇:Inv X pins (List.replicate X.N.length none) H' { s₁ with heap:=h₆ }:=J₆.weak (by rw[J₆.len];simp) fun i v z=>by
  rw[List.getElem?_replicate] at z
  split at z<;>cases z
 obtain⟨oe,ws,hoe,hoec,hoed,hoe0⟩:=fl₆.first
 obtain⟨m,⟨oL,es,ep,hoL,hdL,_⟩,_⟩:=id J₇.loc
 have ynL:y≠X.env.locals:=fun z=>by rw[z] at hoe;rw[hoL] at hoe;cases hoe;rw[hdL] at hoed;cases hoed
 have ynf:y∉X.fs:=fun z=>by
  obtain⟨o,ho,nf⟩:=fr₆ y z
  rw[hoe] at ho;cases ho
  exact nf _ hoed
 have yH:H' y=none:=by
  cases z:H' y with
  |none=>rfl
  |some o=>
    obtain⟨o',e'⟩:=ci y (by rw[z];simp)
    rw[fl.2.1] at e';cases e'
 refine store_ok2 (v:=.ref y) J₇ hN hi (.inl hk) rfl (fun s' I' hsb=>?_) (.inr hk)
 obtain⟨a,hsb,ha⟩:=hsb
 have ha':a=X.env.locals:=by
  rcases ha with ha | ha
  ·exact ha
  ·rw[hcells] at ha;cases ha
 subst ha'
 have hoe':s'.heap.get? y=some oe:=(hsb.2 y ynL).trans hoe
 have IS:=I'.toSui (x:=y) (oe:=oe) ⟨hoe',yH,ynL,ynf,fun v z=>by rw[hoed] at z;cases z⟩
 refine wpAny_mono ((hs y oe) pins s' _ H' _ IS (h2 y oe (.ref c) H' hoec ⟨_,hoed⟩ q).2) (fun f s₃ hf=>?_) fun _ _ z=>z.elim
 cases f with
 |next=>
   obtain⟨σ2,H2,J2,q2⟩:=hf
   exact (J2.ofSui I.ok).gone hN hi hk fun s4 J4=>⟨_,H2,J4,q2⟩
 |brk=>
   obtain⟨σ2,H2,J2,q2⟩:=hf
   exact (J2.ofSui I.ok).gone hN hi hk fun s4 J4=>⟨_,H2,J4,q2⟩
 |cont=>
   obtain⟨σ2,H2,J2,q2⟩:=hf
   exact (J2.ofSui I.ok).gone hN hi hk fun s4 J4=>⟨_,H2,J4,q2⟩
 |ret u=>
   obtain⟨v,σ2,H2,J2,r2,q2⟩:=hf
   exact (J2.ofSui I.ok).gone hN hi hk fun s4 J4=>⟨v,_,H2,J4,r2,q2⟩
structure XAt(K:PySem.W.Frag)(D:Addr):Prop where
 ga:PySem.W.findIn K (.ref D) "__getattribute__"=some (some (.builtin "BaseException.__getattribute__"))
 gn:PySem.W.findIn K (.ref D) "__getattr__"=some none
 gc:PySem.W.findIn K (.ref D) "__class__"=some (some (.builtin "object.__class__"))
 mo:PySem.W.mroIn K D (.type "object")=some true
 mb:PySem.W.mroIn K D (.type "BaseException")=some true
section
variable{prog:Program}{w:World}{A:Around}{E:Value->Shared->Prop}{h:Heap}{g:Array GenState}{d:Drawn}{t:Nat}{os:OsState}{x D:Addr}{oe:Obj}{K:PySem.W.Frag}
theorem CG(hx:h.get? x=some oe)(hc:oe.cls=.ref D):PySem.W.Looks M h (typeOf (.ref x)) (.ref D):=hc ▸ (PySem.W.Looks.ld hx).andThen .now
open PySem.W Builtin.Getset_descriptor Builtin.ObjectAttr Builtin in
theorem Al(X:K.In h)(hx:h.get? x=some oe)(hc:oe.cls=.ref D)(hm:mroIn K D (.type "object")=some true)
  (hR:R (.ok (.ret (.ref D))) ⟨h,g,d,t,os⟩):codeAny (model prog w) A (.call (.builtin "getset_descriptor.__get__") ⟨[.builtin "object.__class__",.ref x,tp],[]⟩) R ⟨h,g,d,t,os⟩:=by
 have Lty:=CG (M:=model prog w) hx hc
 have Lmr:=looks_mroIn (M:=model prog w) X hm
 refine codeAny_call_builtin KF.slot_gs.plain KF.entry_gs (KF.slot_gs.check _ _ _ _ _ _ _ _ KF.type_class (KF.args_gs _ _ _) ?_)
 (unfold Builtin.«getset_descriptor.__get__» descrGet;rw[dga_obj];refine wpAny_bind (wpAny_pure ?_))
 (unfold descrGetter descrCheckInstance descrNameAndClass isInstance;simp only[KF.owner_class];repeat lk)
 refine⟨Code.quiet_builtin _ (by decide +kernel),codeAny_builtin KF.entry_class ?_⟩
 (unfold Builtin.«object.__class__» shownTypeOf;repeat lk)
 all_goals first | exact hR | assumption
theorem yO(X:K.In h)(T:XAt K D)(hx:h.get? x=some oe)(hc:oe.cls=.ref D)(hq:Q (.done (.ret (.ref D))) ⟨h,g,d,t,os⟩) :
  wpAny (model prog w) A (Builtin.«object.__getattribute__» ⟨[.ref x,.str "__class__" tk],[]⟩) Q E ⟨h,g,d,t,os⟩:=by
 have tyc:(⟨h,g,d,t,os⟩:Shared).TypeIs (.builtin "object.__class__") "getset_descriptor":=F.typeOf_object_class
 have u5:=F.typeOf_object_class
 have u6:=F.slot_gs_get.lookup
 have u7:=F.slot_gs_set.lookup
 have Lc:=PySem.W.looks_findIn (M:=model prog w) X T.gc
 repeat (any_goals (first | assumption | (with_reducible refine wpAny_loadPart_at hx ?_;rw[hc]) | with_reducible refine Lc.at ?_ | wp_step))
 refine Al X hx hc T.mo ?_
 repeat (any_goals (first | wp_step | assumption))
theorem Ez(X:K.In h)(T:XAt K D)(hx:h.get? x=some oe)(hc:oe.cls=.ref D)(hq:Q () ⟨h,g,d,t,os⟩) :
  wpAny M A (checkBuiltinCall "BaseException.__getattribute__" ⟨[.ref x,nameV],[]⟩) Q E ⟨h,g,d,t,os⟩:=by
 have bk:builtinKind "BaseException.__getattribute__"=some .slot:=by decide +kernel
 have spl:splitId "BaseException.__getattribute__"=some ("BaseException", "__getattribute__"):=by decide +kernel
 have ha:=F.args_bexc_ga (.ref x) nameV
 have Lb:=PySem.W.looks_mroIn (M:=M) X T.mb
 simp only[checkBuiltinCall,bk,spl]
 refine wpAny_bind ?_
 ·unfold isInstance
  repeat (first | (with_reducible refine wpAny_loadPart_at hx ?_;rw[hc]) | with_reducible refine Lb.at ?_ | wp_step)
  exact hq
theorem Ak(X:K.In h)(T:XAt K D)(hx:h.get? x=some oe)(hc:oe.cls=.ref D)(hq:R (.ok (.ret (.ref D))) ⟨h,g,d,t,os⟩) :
  codeAny (model prog w) A (.call (.builtin "BaseException.__getattribute__") ⟨[.ref x,.str "__class__" tk],[]⟩) R ⟨h,g,d,t,os⟩:=
 codeAny_call_builtin F.attrBase_ValueError.ga.plain F.entry_bexc_ga (Ez X T hx hc (yO X T hx hc hq))
theorem EY{fill expr:Bool}{Q:Value->Shared->Prop}(X:K.In h)(T:XAt K D)(hx:h.get? x=some oe)(hc:oe.cls=.ref D)(hq:Q (.ref D) ⟨h,g,d,t,os⟩) :
  wpAny (model prog w) A (getAttrBy (.ref x) (.str "__class__" tk) fill expr) Q E ⟨h,g,d,t,os⟩:=by
 have u3:=F.attrBase_ValueError.ga.bind (.ref x)
 have ex0:(expr&&onTheHeap (Value.builtin "BaseException.__getattribute__"))=false:=by cases expr<;>rfl
 have ex2:(Value.builtin "BaseException.__getattribute__"==Value.builtin "object.__getattribute__")=false:=by decide +kernel
 have ex1:(onTheHeap (Value.ref D)&&Value.builtin "BaseException.__getattribute__"==Value.builtin "object.__getattribute__")=false:=by rw[ex2];rfl
 have L1:=PySem.W.looks_findIn (M:=model prog w) X T.ga
 have L2:=PySem.W.looks_findIn (M:=model prog w) X T.gn
 repeat (any_goals (first | assumption | (with_reducible refine wpAny_loadPart_at hx ?_;rw[hc]) | with_reducible refine L1.at ?_ | with_reducible refine L2.at ?_ | wp_step))
 refine Ak X T hx hc ?_
 repeat (any_goals (first | wp_step | assumption))
theorem sO{Q:Option Value->Shared->Prop}(X:K.In h)(T:XAt K D)(hx:h.get? x=some oe)(hc:oe.cls=.ref D)(hq:Q (some (.ref D)) ⟨h,g,d,t+1,os⟩) :
  wpAny (model prog w) A (getAttr? (.ref x) "__class__") Q E ⟨h,g,d,t,os⟩:=by
 unfold getAttr? getAttrBy?
 refine wpAny_bind (wpAny_mkText (wpAny_bind (wpAny_attempt (EY X T hx hc ?_))))
 repeat (any_goals (first | wp_step | assumption))
end
theorem Ga {K:PySem.W.Frag}{x D:Addr}{oe:Obj} (T:XAt K D) (hc:oe.cls=.ref D) :
  PySem.W.KitX K (.ref x) (.ref D) (fun h=>h.get? x=some oe) where
 ty:=fun _ _ _ I=>CG I hc
 it:=fun _ _ X _=>by
  have h1:=T.mo
  unfold PySem.W.mroIn at h1
  obtain⟨cd,a,b⟩:=Option.bind_eq_some_iff.mp h1
  unfold PySem.W.clsIn at a
  split at a
  ·rename_i c' d' cd' sl' ho
   intro A' Q' E' s' k q
   unfold isType loadHead
   exact wpAny_bind (wpAny_loadPart (k _ _ (X _ _ ho)) (wpAny_pure q))
  ·cases a
 ne:=fun h tp dd its n sl X htp=>by
  have h1:=T.mo
  unfold PySem.W.mroIn at h1
  obtain⟨cd,a,b⟩:=Option.bind_eq_some_iff.mp h1
  refine Bool.eq_false_iff.mpr fun q=>?_
  cases Value.ref.inj (beq_iff_eq.mp q)
  unfold PySem.W.clsIn at a
  split at a
  ·rename_i c' d' cd' sl' ho
   have z:=(X _ _ ho).symm.trans htp
   cases z
  ·cases a
 ca:=fun {_ _ _ _ _ s} X I k=>by obtain⟨h,g,d,t,os⟩:=s;exact sO X T I hc k
theorem K6(h:X.mg x=some (.ref C))(hg:Gl X x:=by rfl)(hd:(x==("__debug__":Str))=false:=by decide):PE X (.Name x pos) (tC (.ref C)):=pe_glob hg h rfl hd
def pick(js:List Nat)(σ:St):St:=js.map fun j=>(σ[j]?).getD none
theorem Ei(u:Un fs ex H H' h0 h)(hs:Heap.SameBut C h h')(hC:h0.objs.size≤C):Un fs ex H H' h0 h' where
 keep b o e n hb hx:=(hs.2 b (Nat.ne_of_lt (Nat.lt_of_lt_of_le (Heap.lt_size e) hC))).trans (u.keep b o e n hb hx)
 slot b o e n hb hx:=by
  obtain⟨sl,e1⟩:=u.slot b o e n hb hx
  exact⟨sl,(hs.2 b (Nat.ne_of_lt (Nat.lt_of_lt_of_le (Heap.lt_size e) hC))).trans e1⟩
 free:=u.free
 there b o e hx:=by
  obtain⟨o',e1⟩:=u.there b o e hx
  exact⟨o',(hs.2 b (Nat.ne_of_lt (Nat.lt_of_lt_of_le (Heap.lt_size e) hC))).trans e1⟩
 tups:=u.tups
 frzs:=u.frzs
 tbls:=u.tbls
theorem zB (ok:HOk P w H h) (hs:Heap.SameBut C h h') (hC:H C=none):HOk P w H h':=fun b ob e=>
 (ok b ob e).stay (fun c w' hc q=>(hs.2 c (by
   rintro rfl
   rcases hc with hc | hc
   ·rw[←hc,hC] at e;cases e
   ·rw[hC] at hc;cases hc)).trans q) (fun _ q=>q) fun _ _ q=>q
structure DefC(P:Program)(w:World)(K:PySem.W.Frag)(mg:Str->Option Value)(base:Heap)(k:Nat)(x:Str)(ps:List Str)(sp:Sp):Prop where
 ex:∃f fd,FnOk P w K mg base (cj P w) k f fd ps sp∧Binds K fd ps []∧PySem.W.keepIn K (.ref f)=true∧mg x=some (.ref f)
section
variable{P:Program}{w:World}{K:PySem.W.Frag}{mg:Str->Option Value}{base:Heap}{k:Nat}{x:Str}{N ps:List Str}{sp:Sp}{st:Stmt}
theorem P0 (F:Fun K x x st f fd) (S:FnScope N ps (defScope st)) (len:∀ vs H Q E,sp vs H Q E->vs.length=ps.length)
  (hbody:∀(cdv:Value) (A:Around) (outer:List Env) (s:Shared) (H:Hp) (vs:List V) (Q:VK) (E:XK),Room k (A.deeper (envOfC x (defScope st) s.heap.objs.size f cdv))->sp vs H Q E->
    ∃t,PSs (bO P w K mg base N x (defScope st) f cdv A outer s H E) (defBody st) t∧t { nx:=fun _ H'=>Q .non H',rt:=Q } (start N vs) H):FnOk P w K mg base (cj P w) (k+1) f fd ps sp:=by
 obtain⟨oc,od,kV,doc,pm,an,cdv,ct,osl,rfl,l,c⟩:=F.ex
 exact fn_of l c S len (hbody cdv)
theorem DefAt.okE (D:DefAt K mg x st) (S:FnScope N ps (defScope st)) (hb:∀ (kV doc pm:Value) (an:Option Addr) (cdv ct:Value) (us:List Value),us.length=ps.length->bindArgs (PySem.W.fnOf x x (defArgs st) (defBody st) (defScope st) .none kV doc pm an cdv ct) ⟨us,[]⟩=pure (ps.zip us))
  (len:∀vs H Q E,sp vs H Q E->vs.length=ps.length)
  (hbody:∀(f:Addr) (cdv:Value) (A:Around) (outer:List Env) (s:Shared) (H:Hp) (vs:List V) (Q:VK) (E:XK),Room k (A.deeper (envOfC x (defScope st) s.heap.objs.size f cdv))->sp vs H Q E->
    ∃t,PSs (bO P w K mg base N x (defScope st) f cdv A outer s H E) (defBody st) t∧t { nx:=fun _ H'=>Q .non H',rt:=Q } (start N vs) H):DefC P w K mg base (k+1) x ps sp:=by
 obtain⟨f,fd,F,m⟩:=D.ex
 exact⟨f,fd,P0 F S len (hbody f),F.binds hb,F.kp,m⟩
end
theorem jD:Passes (cj P w) X E0:=fun _ _ _ _ _ _ _ h=>by
 obtain⟨_,_,_,_,_,_,_,_,_,_,_,_,_,q⟩:=h
 exact q.elim
section
variable{X:Cx}{j k:Nat}{ps:List Str}{sp:Sp}{x:Str}{p pos:Pos}{e:Expr}{es:List Expr}{t:TA}{E:XK}
theorem Gs(D:DefC X.prog X.w X.K X.mg X.base j x ps sp)(hr:Room k X.A)(hx:Passes (cj X.prog X.w) X E)(ha:PA X (e::es) t)(hjk:j≤k:=by decide)(hg:Gl X x:=by rfl)(hdb:(x==("__debug__":Str))=false:=by decide)
  (he:starEach (e::es) X.env=(false,eval e X.env)::starEach es X.env:=by rfl) (hpl:(backTo pos (starEach es X.env)).any (·.1)=false:=by rfl) :
  PE X (.Call (.Name x p) (e::es) [] pos) (tCall sp [] E t):=by
 obtain⟨f,fd,F,b,kp,m⟩:=D.ex
 exact pe_call F (hr.mono hjk) hg m kp b .nil hx ha hdb he hpl
end
section
variable{κ:Type}[DecidableEq κ]
def putK(kvs:List (κ×V))(k:κ)(v:V):List (κ×V):=
 if (kvs.any fun kv=>decide (kv.1=k))=true then kvs.map (fun kv=>if kv.1=k then (kv.1,v) else kv) else kvs++[(k,v)]
theorem length_putK(kvs:List (κ×V))(k:κ)(v:V):(putK kvs k v).length≤kvs.length+1:=by
 unfold putK
 split
 ·rw[List.length_map];lia
 ·rw[List.length_append,List.length_cons,List.length_nil];lia
theorem KV.any(r:KV kvs vs)(k:κ):(kvs.any fun kv=>decide (kv.1=k))=vs.any fun kv=>decide (kv.1=k):=by
 unfold KV at r
 induction r with
 |nil=>rfl
 |cons h t ih=>rw[List.any_cons,List.any_cons,ih,h.1]
theorem KV.repl (r:KV kvs vs) (k:κ) (ry:RelV y u) :
  KV (kvs.map fun kv=>if kv.1=k then (kv.1,y) else kv) (vs.map fun kv=>if kv.1=k then (kv.1,u) else kv):=by
 unfold KV at r ⊢
 induction r with
 |nil=>exact .nil
 | @cons p q ps qs h t ih=>
   rw[List.map_cons,List.map_cons]
   refine .cons ?_ ih
   obtain⟨h1,h2⟩:=h
   by_cases e:p.1=k
   ·rw[if_pos e,if_pos (h1.symm.trans e)];exact⟨h1,ry⟩
   ·rw[if_neg e,if_neg (fun z=>e (h1.trans z))];exact⟨h1,h2⟩
theorem KV.put(r:KV kvs vs)(k:κ)(ry:RelV y u):KV (putK kvs k y) (stored vs k u):=by
 unfold putK stored
 rw[r.any k]
 by_cases e:(vs.any fun kv=>decide (kv.1=k))=true
 ·rw[if_pos e,if_pos e];exact r.repl k ry
 ·rw[if_neg e,if_neg e];exact Paired.snoc r ⟨rfl,ry⟩
end
theorem kV_is(r:RelV (kV k) u):(mixKind P w).is k u=true:=by
 cases k with
 |inl i=>obtain⟨t,e⟩:=(show ∃t,u=Value.int i t from r);subst e;exact mixKind_int P w i t
 |inr x=>obtain⟨t,e⟩:=(show ∃t,u=Value.str x t from r);subst e;exact mixKind_str P w x t
section
variable{P:Program}{w:World}{H:Hp}{h:Heap}{a:Addr}
theorem rd_of(ok:HOk P w H h)(e:Rd H a u):ObjOk P w H h a u:=e.ok ok
theorem dk_rd(ok:HOk P w H h)(e:Rd H a (.dK kvs)):kvs.length≤sizeLine∧(a==sysModules)=false∧∃vs,KV kvs vs∧h.DictOf (mixKind P w) a vs:=
 show ObjOk P w H h a (.dK kvs) from rd_of ok e
theorem dk_of(ok:HOk P w H h)(e:H a=some (.dK kvs)):kvs.length≤sizeLine∧(a==sysModules)=false∧∃vs,KV kvs vs∧h.DictOf (mixKind P w) a vs:=dk_rd ok (.inl e)
end
section
variable{X:Cx}{pins:List (Addr×Obj)}{σ:St}{H:Hp}{s:Shared}{a:Addr}{y v:V}{u r:Value}{o:Option V}{A:Around}{E:Value->Shared->Prop}
theorem Inv.big(I:Inv X pins σ H s):sysModules<s.heap.objs.size:=by
 have h:mainGlobals<s.heap.objs.size:=(I.mod.glob.keeps I.bk).lt
 exact Nat.lt_trans (by decide) h
theorem d_write(I:Inv X pins σ H s)(mu:Mut (H a))(hs:Heap.SameBut a s.heap h')(he:∃q,h'.get? a=some q)(new:ObjOk X.prog X.w (upd H a ob) h' a ob) :
  Inv X pins σ (upd H a ob) { s with heap:=h',toks:=t' }:=
 I.write (x:=a) (e:=a) mu (.inl rfl) (fun b q hb z=>(hs.2 b hb).trans z) he new
theorem dk_new(z:kvs.length≤sizeLine)(hd:(a==sysModules)=false)(rel:KV kvs vs)(dd:h'.DictOf (mixKind P w) a vs) :
  ObjOk P w H' h' a (.dK kvs):=⟨z,hd,vs,rel,dd⟩
end
theorem dk_empty(h:Heap)(hb:sysModules<h.objs.size):ObjOk P w H (h.push { cls:=.type "dict",data:=.dict #[] }) h.objs.size (.dK []):=
 ⟨Nat.zero_le _,beq_eq_false_iff_ne.mpr (Ne.symm (Nat.ne_of_lt hb)),[],.nil,Heap.DictOf.new h⟩
def tDNewK:TE:=fun _ H Q=>∀p,H p=none->Q (.ref p) (upd H p (.dK []))
section
variable{X:Cx}{pos:Pos}
theorem pe_dnewK:PE X (.Dict [] [] pos) tDNewK:=fun pins s σ H Q I h=>
 wpAny_Dict_empty ⟨.ref s.heap.objs.size,_,I.laid (a:=s.heap.objs.size) (o:=.dK []) (t':=s.toks) (fun _ _ q=>Heap.get?_push_of_some _ q) (Nat.le_refl _) (dk_empty s.heap I.big),rfl,h _ (I.hok.fresh (Nat.le_refl _))⟩
end
def tPairs:List (TE×TE)->St->Hp->(List (V×V)->Hp->Prop)->Prop
 |[],_,H,Q=>Q [] H
 |(tk,tv)::r,σ,H,Q=>tk σ H fun x H1=>tv σ H1 fun y H2=>tPairs r σ H2 fun ps H3=>Q ((x,y)::ps) H3
abbrev VV:List (V×V)->List (Value×Value)->Prop:=Paired fun p q=>RelV p.1 q.1∧RelV p.2 q.2
def PPs (X:Cx) (pos:Pos) (keys:List (Option Expr)) (values:List Expr) (trs:List (TE×TE)):Prop:=
 ∀(pins:List (Addr×Obj)) (s:Shared) (σ:St) (H:Hp) (Q:List (V×V)->Hp->Prop),Inv X pins σ H s->tPairs trs σ H Q->
   wpAny (model X.prog X.w) X.A (evalPairs (pairTrees keys values X.env pos)) (fun vs s'=>∃ps H',Inv X pins σ H' s'∧VV ps vs∧Q ps H') X.xe s
theorem pps_nil:PPs X pos [] [] []:=fun pins s σ H Q I h=>pairTrees_nil_walk ⟨[],H,I,.nil,h⟩
theorem pps_cons(hk:PE X k tk)(hv:PE X v tv)(hr:PPs X pos ks vs trs) :
  PPs X pos (some k::ks) (v::vs) ((tk,tv)::trs):=fun pins s σ H Q I h=>
 pairTrees_cons_walk (thn (hk pins s σ H _ I h) fun u s1 ⟨x,H1,I1,rx,q1⟩=>thn (hv pins s1 σ H1 _ I1 q1) fun w2 s2 ⟨y,H2,I2,ry,q2⟩=>
  thn (hr pins s2 σ H2 _ I2 q2) fun ws s3 ⟨ps,H3,I3,rel,q3⟩=>⟨(x,y)::ps,H3,I3,.cons ⟨rx,ry⟩ rel,q3⟩)
def mergeK(kvs more:List (Key×V)):List (Key×V):=more.foldl (fun acc kv=>putK acc kv.1 kv.2) kvs
theorem KV.merge:∀ {more:List (Key×V)}{rs:List (Key×Value)}{kvs:List (Key×V)}{vs:List (Key×Value)},KV more rs->KV kvs vs->KV (mergeK kvs more) (merged vs rs):=by
 intro more rs kvs vs r
 unfold KV at r
 induction r generalizing kvs vs with
 |nil=>intro q;exact q
 | @cons p q ps qs h t ih=>
   intro r0
   have e:KV (putK kvs p.1 p.2) (stored vs q.1 q.2):=by
    have:=r0.put p.1 h.2
    rw[←h.1];exact this
   exact ih e
theorem length_mergeK:∀ (more kvs:List (Key×V)),(mergeK kvs more).length≤kvs.length + more.length
 |[],kvs=>by show kvs.length≤kvs.length+0;lia
 |p::r,kvs=>by
   have h1:=length_mergeK r (putK kvs p.1 p.2)
   have h2:=length_putK kvs p.1 p.2
   show (mergeK (putK kvs p.1 p.2) r).length≤_
   rw[List.length_cons];lia
theorem carries_of:∀ {kvs:List (Key×V)}{ws:List (Value×Value)},VV (kvs.map fun kv=>(kV kv.1,kv.2)) ws->∃ rs,Carries (mixKind P w) ws rs∧KV kvs rs
 |[],_,r=>by rw[List.map_nil] at r;cases r;exact⟨[],True.intro,.nil⟩
 | p::kvs,_,r=>by
   rw[List.map_cons] at r
   cases r with
   | @cons a b as bs h t=>
     obtain⟨rs,c,q⟩:=carries_of (P:=P) (w:=w) t
     obtain⟨b1,b2⟩:=b
     exact⟨(p.1,b2)::rs,⟨kV_is h.1,rfl,c⟩,.cons ⟨rfl,h.2⟩ q⟩
def tDisp(trs:List (TE×TE)):TE:=fun σ H Q=>∀p,H p=none->tPairs trs σ (upd H p (.dK [])) fun ps H2=>H2 p=some (.dK [])∧∃kvs:List (Key×V),ps=kvs.map (fun kv=>(kV kv.1,kv.2))∧kvs.length≤15∧Q (.ref p) (upd H2 p (.dK (mergeK [] kvs)))
theorem pe_disp(h:PPs X pos keys values trs)(hall:keys.all (·.isSome)=true)(hl:keys.length=values.length)(h0:keys≠[])
  (h15:keys.length≤15):PE X (.Dict keys values pos) (tDisp trs):=by
 intro pins s σ H Q I q
 have hn:=I.hok.fresh (Nat.le_refl s.heap.objs.size)
 have I1:=I.laid (a:=s.heap.objs.size) (o:=.dK []) (h':=s.heap.push { cls:=.type "dict",data:=.dict #[] }) (t':=s.toks) (fun _ _ q=>Heap.get?_push_of_some _ q) (Nat.le_refl _) (dk_empty s.heap I.big)
 refine wpAny_Dict_walk (knd:=mixKind X.prog X.w) hall hl h0 h15 (thn (h pins _ σ _ _ I1 (q _ hn)) fun ws s2 ⟨ps,H2,I2,rel,e,kvs,ep,lk,q2⟩=>?_)
 subst ep
 obtain⟨rs,c,rk⟩:=carries_of (P:=X.prog) (w:=X.w) rel
 obtain⟨z,hd,vs0,r0,dd⟩:=dk_of I2.hok e
 cases r0
 refine⟨rs,c,dd,fun h' dd' hs=>⟨.ref s.heap.objs.size,_,?_,rfl,q2⟩⟩
 have hz:(mergeK [] kvs).length≤sizeLine:=by
  have h1:=length_mergeK kvs []
  rw[List.length_nil] at h1
  rw[sizeLine_eq];lia
 have he:∃q,h'.get? s.heap.objs.size=some q:=let ⟨q,_,_,hq,_⟩:=dd';⟨q,hq⟩
 exact d_write I2 (by rw[e];exact True.intro) hs he (dk_new hz hd (rk.merge .nil) dd')
end L2
namespace HT
open PySem PySem.Spec PyProof.Rows PySem.W
section
variable{prog:Program}{w:World}{A:Around}{E:Value->Shared->Prop}{s:Shared}
theorem Ew {vs ws:List Value}{Q:Value->Shared->Prop} (ht:IsTup s.heap t vs.toArray) (hb:IsTup s.heap b ws.toArray) (hv:vs=[])
  (h1:Q (.ref b) s):wpAny (model prog w) A (binaryOp .Add (.ref t) (.ref b)) Q E s:=by
 obtain⟨⟨cls,dd,data,sl⟩,ho,hc,n,hd⟩:=id ht
 obtain⟨⟨cls2,dd2,data2,sl2⟩,ho2,hc2,n2,hd2⟩:=id hb
 simp only at hc hd hc2 hd2
 subst hc hd hc2 hd2
 exact concat_meets ⟨_,ho,rfl⟩ ⟨_,ho2,rfl⟩ noFill_tuple_add seq_tuple_add PySem.F.slot_tuple_add PySem.F.entry_tuple_add (PySem.F.args_tuple_add_2 _ _)
   (tuple_addW0 t b vs.toArray ws.toArray n n2 dd dd2 sl sl2 (by simp[hv])) ⟨ho,ho2,h1⟩
theorem qx{items:Array Value}{lo hi:Option Int}{Q:Value->Shared->Prop}(ht:IsTup s.heap t items)(hs:s.heap.IsSliceOf sl vl vu .none)(pl:IsPart vl lo)(pu:IsPart vu hi)
  (hw:sIx items.size 0 lo=0∧sIx items.size items.size hi=items.size) (h:Q (.ref t) s):wpAny (model prog w) A (getItem (.ref t) (.ref sl)) Q E s:=by
 obtain⟨os,hos,hcs,hds⟩:=id hs
 obtain⟨ot,hot,hct,nt,hdt⟩:=id ht
 have hTs:s.TypeIs (.ref sl) "slice":=⟨os,hos,hcs⟩
 have hTt:s.TypeIs (.ref t) "tuple":=⟨ot,hot,hct⟩
 unfold getItem
 try with_reducible refine wpAny_holding ?_
 first | refine wpAny_bind (wpAny_pure ?_) | skip
 refine wpAny_bind (wpAny_sequenceKey ht.typeIs (by decide) ?_)
 refine wpAny_bind (wpAny_callSpecial?_slot (name:=Str.ofString "__getitem__") ht.typeIs PyProof.Rows.slot_tuple_getitem
  (wpAny_call_entry PyProof.Rows.slot_tuple_getitem ht.typeIs entry_tuple_getitem ?_ (args_tuple_getitem _ _)))
 show wpAny _ _ (Builtin.Tuple.tupleItemsOf (.ref t)>>=_) _ _ s
 refine wpAny_bind (tupleItemsOf_ ht ?_)
 refine wpAny_bind (wpAny_typeOf hTs ?_)
 rw[if_pos (by decide)]
 refine wpAny_bind (sliceApplied_gen hs pl pu ?_)
 have hno:((((sIx items.size 0 lo:Nat):Int)==0&&(1:Int)==1&&(sIx items.size items.size hi-sIx items.size 0 lo)==items.size)=true):=by
  rw[hw.1,hw.2];simp
 show wpAny _ _ (if (((sIx items.size 0 lo:Nat):Int)==0&&(1:Int)==1&&(sIx items.size items.size hi-sIx items.size 0 lo)==items.size)=true then _ else _) _ _ s
 rw[if_pos hno]
 unfold Builtin.Tuple.tupleIsExact
 refine wpAny_bind ?_
 refine wpAny_bind (wpAny_typeOf hTt (wpAny_pure ?_))
 rw[if_pos (by decide)]
 exact wpAny_bind (wpAny_rule (wpAny_pure ⟨_,rfl,wpAny_pure h⟩))
end
end HT
namespace L2
open PySem PySem.Spec PyProof.Rows
section
variable{X:Cx}
theorem Fq{xs:List V}{lo hi:Option Int}(h:HT.sIx xs.length 0 lo=0∧HT.sIx xs.length xs.length hi=xs.length):cutV xs lo hi=xs:=by
 unfold cutV
 rw[h.1,h.2]
 simp
def O9:V->Option Int->Option Int->Hp->VK->Prop:=fun x lo hi H Q=>∃a xs,x=.ref a∧H a=some (.tup xs)∧∀p H',Same H H'->H' p=some (.tup (cutV xs lo hi))->Q (.ref p) H'
theorem Ji:SlR X O9:=by
 intro pins s σ H x v vl vu lo hi sl Q I rx hs pl pu h
 obtain⟨a,xs,rfl,hx,q⟩:=h
 by_cases hw:HT.sIx xs.length 0 lo=0∧HT.sIx xs.length xs.length hi=xs.length
 ·cases rx
  obtain⟨its,r,ht,hz⟩:=I.tuple (SqT.of hx)
  have hlen:its.toArray.size=xs.length:=by rw[List.size_toArray];exact r.length.symm
  refine⟨"tuple",_,PyProof.Rows.slot_tuple_getitem.lookup,ht.typeIs,?_⟩
  refine HT.qx ht hs pl pu (by rw[hlen];exact hw) ⟨.ref a,H,I,rfl,q a H (Same.refl _) (by rw[Fq hw];exact hx)⟩
 ·exact sl_tup (X:=X) pins s σ H _ v vl vu lo hi sl Q I rx hs pl pu ⟨a,xs,rfl,SqT.of hx,hw,fun p hp=>q p _ (same_new hp _) upd_same⟩
def Nq:R2:=fun x y H Q=>∃a b xs ys,x=.ref a∧y=.ref b∧H a=some (.tup xs)∧H b=some (.tup ys)∧xs.length+ys.length≤sizeLine∧∀p H',Same H H'->H' p=some (.tup (xs++ys))->Q (.ref p) H'
theorem Ip:OpR X (binaryOp .Add) Nq:=by
 intro pins s σ H x y v u Q I rx ry h
 obtain⟨a,b,xs,ys,rfl,rfl,ha,hb,hz,q⟩:=h
 by_cases hx:xs=[]
 ·cases rx
  cases ry
  obtain⟨its,r1,p1,_⟩:=I.tuple (SqT.of ha)
  obtain⟨its2,r2,p2,_⟩:=I.tuple (SqT.of hb)
  exact HT.Ew p1 p2 (r1.nil_iff.mpr hx) ⟨.ref b,H,I,rfl,q b H (Same.refl _) (by rw[hx,List.nil_append];exact hb)⟩
 ·exact op_catT (X:=X) pins s σ H _ _ v u Q I rx ry ⟨a,b,xs,ys,rfl,rfl,SqT.of ha,SqT.of hb,hx,hz,fun e=>q a H (Same.refl _) (by rw[e,List.append_nil];exact ha),fun _ p hp=>q p _ (same_new hp _) upd_same⟩
end
mutual
inductive RepF(H:Hp):Bool->V->PyData->Prop
 |non {f:Bool}:RepF H f .non .none
 |bl {f:Bool} (b:Bool):RepF H f (.bl b) (.bool b)
 |int {f:Bool} (i:Int):RepF H f (.int i) (.int i)
 |str {f:Bool} (x:Str):RepF H f (.str x) (.str x)
 |lst {f:Bool}{a:Addr}{xs:List V}{ds:List PyData}:H a=some (.lst xs)->RepsF H f xs ds->RepF H f (.ref a) (.list ds)
 |tup {f:Bool}{a:Addr}{xs:List V}{ds:List PyData}:H a=some (.tup xs)->RepsF H f xs ds->RepF H f (.ref a) (.tuple ds)
 |d0 {a:Addr}:H a=some (.dK [])->RepF H false (.ref a) (.dict [])
 |d1 {a:Addr}{i j:Int}:H a=some (.dK [(.inl i,.int j)])->RepF H false (.ref a) (.dict [(.int i,.int j)])
inductive RepsF(H:Hp):Bool->List V->List PyData->Prop
 |nil {f:Bool}:RepsF H f [] []
 |cons {f:Bool}{v:V}{d:PyData}{vs:List V}{ds:List PyData}:RepF H f v d->RepsF H f vs ds->RepsF H f (v::vs) (d::ds)
end
section
variable{X:Cx}{pins:List (Addr×Obj)}{σ:St}{H:Hp}{s:Shared}
theorem Ii {P:Program}{w:World}{i:Int}{v:Value} (h:(mixKind P w).is (.inl i) v=true):∃ t,v=.int i t:=by
 cases v with
 | int a t=>
   have e:decide (i=a)=true∨decide (a=i)=true∨(a==i)=true∨(i==a)=true:=by
    first | exact .inl h | exact .inr (.inl h) | exact .inr (.inr (.inl h)) | exact .inr (.inr (.inr h))
   have:a=i:=by rcases e with e | e | e | e<;>simp at e<;>lia
   exact⟨t,by rw[this]⟩
 |_=>first | cases h | (simp[mixKind] at h)
theorem Bk(I:Inv X pins σ H s){a:Addr}(h:H a=some (.dK [])):∃as,Reads s.heap (.ref a) (.dict []) as∧sysModules∉as:=by
 obtain⟨_,hd,vs,r0,⟨o,es,ep,h1,h2,h3,h4,h5,h6⟩⟩:([]:List (Key×V)).length≤sizeLine∧(a==sysModules)=false∧∃vs,KV [] vs∧s.heap.DictOf (mixKind X.prog X.w) a vs:=I.hok a _ h
 cases r0
 have he:es.toList=[]:=by cases hx:es.toList with
  |nil=>rfl
  |cons e es'=>rw[hx] at h5;cases h5
 refine⟨_,.dict (kvs:=[]) h1 h2.1 h3 (by rw[he];exact .nil) (by rw[he];exact .nil),?_⟩
 simp only[List.append_nil,List.mem_singleton]
 exact fun z=>(beq_eq_false_iff_ne.mp hd) z.symm
theorem Bl (I:Inv X pins σ H s) {a:Addr}{i j:Int} (h:H a=some (.dK [(.inl i,.int j)])):∃ as,Reads s.heap (.ref a) (.dict [(.int i,.int j)]) as∧sysModules∉as:=by
 obtain⟨_,hd,vs,r0,⟨o,es,ep,h1,h2,h3,h4,h5,h6⟩⟩:([(Sum.inl i,V.int j)]:List (Key×V)).length≤sizeLine∧(a==sysModules)=false∧∃vs,KV [(Sum.inl i,V.int j)] vs∧s.heap.DictOf (mixKind X.prog X.w) a vs:=I.hok a _ h
 cases r0 with
 | @cons p q ps qs hq t=>
   cases t
   obtain⟨e1,tv,e2⟩:=hq
   obtain⟨q1,q2⟩:=q
   dsimp only at e1 e2
   subst e1 e2
   generalize hx:es.toList=el at h5
   cases h5 with
   |cons g1 g2 g3=>
     cases g3
     rename_i e
     obtain⟨tk,ek⟩:=Ii g1
     dsimp only at g2
     refine⟨_,.dict (kvs:=[(.int i,.int j)]) h1 h2.1 h3 (as:=[]++[]) (bs:=[]++[]) (by rw[hx];exact .cons (by show Reads _ e.key _ _;rw[ek];exact .int i tk) .nil) (by rw[hx];exact .cons (by show Reads _ e.val _ _;rw[g2];exact .int j tv) .nil),?_⟩
     simp only[List.append_nil,List.mem_singleton]
     exact fun z=>(beq_eq_false_iff_ne.mp hd) z.symm
theorem RepsF.reads (I:Inv X pins σ H s) {f:Bool}{vs:List V}{ds:List PyData}{us:List Value} (h:RepsF H f vs ds):Vals vs us->∃ as,ReadsAll s.heap us ds as:=
 RepsF.rec (motive_1:=fun f v d _=>∀ u,RelV v u->∃ as,Reads s.heap u d as) (motive_2:=fun f vs ds _=>∀ us,Vals vs us->∃ as,ReadsAll s.heap us ds as)
  (fun u r=>by cases r;exact⟨_,.none⟩)
  (fun b u r=>by cases r;exact⟨_,.bool b⟩)
  (fun i u r=>by obtain⟨t,rfl⟩:=r;exact⟨_,.int i t⟩)
  (fun i u r=>by obtain⟨t,rfl⟩:=r;exact⟨_,.str i t⟩)
  (fun h hs ih u r=>by
    cases r
    obtain⟨its,rv,⟨o,n,h1,h2,_,h3⟩,_⟩:=I.list (SqL.of h)
    obtain⟨as,ra⟩:=ih _ rv
    exact⟨_,.list h1 h2 h3 ra⟩)
  (fun h hs ih u r=>by
    cases r
    obtain⟨its,rv,⟨o,h1,h2,n,h3⟩,_⟩:=I.tuple (SqT.of h)
    obtain⟨as,ra⟩:=ih _ rv
    exact⟨_,.tuple h1 h2 h3 ra⟩)
  (fun h u r=>by cases r;obtain⟨as,ra,_⟩:=Bk I h;exact⟨as,ra⟩)
  (fun h u r=>by cases r;obtain⟨as,ra,_⟩:=Bl I h;exact⟨as,ra⟩)
  (fun u r=>by cases r;exact⟨_,.nil⟩)
  (fun h hs i1 i2 u r=>by
    cases r with
    |cons r1 r2=>
      obtain⟨a1,e1⟩:=i1 _ r1
      obtain⟨a2,e2⟩:=i2 _ r2
      exact⟨_,.cons e1 e2⟩)
  h us
theorem wB{a:Addr}{d:PyData}{as bs:List Addr}{n:Nat}(r:Reads s.heap (.ref a) d as)(hd:d.depth=n+1)(hb:ReadAtMost s.heap n bs):a∉bs∧ReadAtMost s.heap d.depth (a::bs):=
 ⟨not_mem_of_deeper r (by lia) hb,hd ▸ ReadAtMost.cons r (by lia) hb⟩
theorem RepsF.k (I:Inv X pins σ H s) {f:Bool}{vs:List V}{ds:List PyData}{us:List Value} (h:RepsF H f vs ds):Vals vs us->PyData.showableAll ds=true->(∀ t∈PyData.shownAll ds,t.length≤sizeLine)->∃ bs,ReadAtMost s.heap (PyData.depthAll ds) bs∧ReprAllK X.prog X.w bs s.heap (PyData.depthAll ds) us (PyData.shownAll ds):=
 RepsF.rec (motive_1:=fun f v d _=>∀ u,RelV v u->d.showable=true->d.shown.length≤sizeLine->∃ bs,ReadAtMost s.heap d.depth bs∧ReprK X.prog X.w bs s.heap d.depth u d.shown) (motive_2:=fun f vs ds _=>∀ us,Vals vs us->PyData.showableAll ds=true->(∀ t∈PyData.shownAll ds,t.length≤sizeLine)->∃ bs,ReadAtMost s.heap (PyData.depthAll ds) bs∧ReprAllK X.prog X.w bs s.heap (PyData.depthAll ds) us (PyData.shownAll ds))
  (fun u r hs hz=>by cases r;exact ReprK.of_reads .none hs (fun z=>by simp[PyData.hasDict] at z) hz)
  (fun b u r hs hz=>by cases r;exact ReprK.of_reads (.bool b) hs (fun z=>by simp[PyData.hasDict] at z) hz)
  (fun i u r hs hz=>by obtain⟨t,rfl⟩:=r;exact ReprK.of_reads (.int i t) hs (fun z=>by simp[PyData.hasDict] at z) hz)
  (fun i u r hs hz=>by obtain⟨t,rfl⟩:=r;exact ReprK.of_reads (.str i t) hs (fun z=>by simp[PyData.hasDict] at z) hz)
  (fun {_ _ _ xs} h hs ih u r hs' hz=>by
    cases r
    obtain⟨its,rv,⟨o,n,h1,h2,_,h3⟩,_⟩:=I.list (SqL.of h)
    obtain⟨as,ra⟩:=RepsF.reads I hs rv
    have hz':(listText (PyData.shownAll xs)).length≤sizeLine:=by simpa only[PyData.shown] using hz
    obtain⟨bs,hb,hk⟩:=ih _ rv (by simpa only[PyData.showable] using hs') fun t ht=>Nat.le_trans (listText_mem_le ht) hz'
    obtain⟨hn,hc⟩:=wB (.list h1 h2 h3 ra) (by simp only[PyData.depth]) hb
    refine⟨_,hc,?_⟩
    simp only[PyData.depth,PyData.shown]
    cases its with
    |nil=>
      cases ra
      simp only[PyData.shownAll,listText_nil]
      exact ReprK.listEmpty h1 h2 h3
    |cons x l=>exact ReprK.list h1 h2 h3 hn (by simpa using hk.length_eq) fun i y e=>hk.item i y (by simpa using e))
  (fun {_ _ _ xs} h hs ih u r hs' hz=>by
    cases r
    obtain⟨its,rv,⟨o,h1,h2,n,h3⟩,_⟩:=I.tuple (SqT.of h)
    obtain⟨as,ra⟩:=RepsF.reads I hs rv
    have hz':(tupleText (PyData.shownAll xs)).length≤sizeLine:=by simpa only[PyData.shown] using hz
    obtain⟨bs,hb,hk⟩:=ih _ rv (by simpa only[PyData.showable] using hs') fun t ht=>Nat.le_trans (tupleText_mem_le ht) hz'
    obtain⟨hn,hc⟩:=wB (.tuple h1 h2 h3 ra) (by simp only[PyData.depth]) hb
    refine⟨_,hc,?_⟩
    simp only[PyData.depth,PyData.shown]
    exact ReprK.tuple h1 h2 h3 hn hk)
  (fun h u r hs hz=>by cases r;obtain⟨as,ra,n⟩:=Bk I h;exact ReprK.of_reads ra hs (fun _=>n) hz)
  (fun h u r hs hz=>by cases r;obtain⟨as,ra,n⟩:=Bl I h;exact ReprK.of_reads ra hs (fun _=>n) hz)
  (fun us r _ _=>by cases r;exact⟨[],(fun _ h=>nomatch h),by simp only[PyData.shownAll];exact .nil⟩)
  (fun {_ _ d _ ds} h hs i1 i2 us r hs' hz=>by
    cases r with
    |cons r1 r2=>
      have hh:d.showable=true∧PyData.showableAll ds=true:=by simpa[PyData.showableAll] using hs'
      obtain⟨b1,q1,k1⟩:=i1 _ r1 hh.1 (hz _ (by simp only[PyData.shownAll];exact .head _))
      obtain⟨b2,q2,k2⟩:=i2 _ r2 hh.2 fun t ht=>hz t (by simp only[PyData.shownAll];exact .tail _ ht)
      simp only[PyData.depthAll,PyData.shownAll]
      exact⟨b1++b2,(q1.mono (Nat.le_max_left _ _)).append (q2.mono (Nat.le_max_right _ _)),.cons ((k1.more fun b hb=>List.mem_append_left _ hb).level_le (Nat.le_max_left _ _)) (k2.more_le (fun b hb=>List.mem_append_right _ hb) (Nat.le_max_right _ _))⟩)
  h us
end
theorem RepF.toRep{K:PySem.W.Frag}{H:Hp}{v:V}{d:PyData}(h:RepF H true v d):Rep K H v d:=
 RepF.rec (motive_1:=fun f v d _=>f=true->Rep K H v d) (motive_2:=fun f vs ds _=>f=true->Reps K H vs ds) (fun _=>.non) (fun b _=>.bl b) (fun b _=>.int b) (fun b _=>.str b) (fun h _ i e=>.lst (SqL.of h) (i e)) (fun h _ i e=>.tup (SqT.of h) (i e)) (fun _ e=>nomatch e) (fun _ e=>nomatch e) (fun _=>.nil) (fun _ _ i j e=>.cons (i e) (j e)) h rfl
mutual
def cM:PyData->Nat
 |.none | .bool _=>5
 |.int _=>1921
 |.str x=>(reprText x).length
 |.list xs | .tuple xs=>jY xs+3
 |.dict _=>8000
def jY:List PyData->Nat
 |[]=>0
 |x::xs=>cM x+2+jY xs
end
theorem iQ:∀xs:List PyData,(PyData.shownAll xs).length=xs.length
 |[]=>by simp only[PyData.shownAll,List.length_nil]
 |x::xs=>by simp only[PyData.shownAll,List.length_cons,iQ xs]
theorem Br {H:Hp}{f:Bool}{v:V}{d:PyData} (h:RepF H f v d):d.showable=true->d.shown.length≤cM d:=
 RepF.rec (motive_1:=fun _ _ d _=>d.showable=true->d.shown.length≤cM d) (motive_2:=fun _ _ xs _=>PyData.showableAll xs=true->((PyData.shownAll xs).map (·.length)).sum + 2 * xs.length≤jY xs)
  (fun _=>by simp only[PyData.shown,cM];decide +kernel)
  (fun b _=>by cases b<;>simp only[PyData.shown,cM]<;>decide +kernel)
  (fun i h=>by
    have h':i.natAbs.log2<1920:=by simpa[PyData.showable] using h
    simp only[PyData.shown,cM]
    exact int_text_len_1921 h')
  (fun x _=>by simp only[PyData.shown,cM];exact Nat.le_refl _)
  (fun {_ _ _ xs} _ hs ih h=>by
    have:=ih (by simpa only[PyData.showable] using h)
    have l:=listText_len_le (PyData.shownAll xs)
    rw[iQ] at l
    simp only[PyData.shown,cM]
    lia)
  (fun {_ _ _ xs} _ hs ih h=>by
    have:=ih (by simpa only[PyData.showable] using h)
    have l:=tupleText_len_le (PyData.shownAll xs)
    rw[iQ] at l
    simp only[PyData.shown,cM]
    lia)
  (fun _ _=>by simp only[PyData.shown,PyData.shownKv,cM];decide +kernel)
  (fun {_ i j} _ h=>by
    have h':i.natAbs.log2<1920∧j.natAbs.log2<1920:=by simpa[PyData.showable,PyData.showableKv] using h
    have l1:=int_text_len_1921 h'.1
    have l2:=int_text_len_1921 h'.2
    have l:=dictText_len_le (PyData.shownKv [(.int i,.int j)])
    simp only[PyData.shown,cM]
    refine Nat.le_trans l ?_
    simp only[PyData.shownKv,PyData.shown,List.map_cons,List.map_nil,List.sum_cons,List.sum_nil,List.length_cons,List.length_nil,strLen_append]
    have l3:(Str.ofString ": ").length=2:=by decide +kernel
    have l3':(": ":Str).length=2:=by decide +kernel
    lia)
  (fun _=>by simp only[PyData.shownAll,List.map_nil,List.sum_nil,List.length_nil,jY];lia)
  (fun {_ _ x _ xs} hx hs i1 i2 h=>by
    have h':x.showable=true∧PyData.showableAll xs=true:=by simpa[PyData.showableAll] using h
    have a:=i1 h'.1
    have b:=i2 h'.2
    simp only[PyData.shownAll,List.map_cons,List.sum_cons,List.length_cons,jY]
    lia)
  h
section
variable{X:Cx}
def Lg:List V->Hp->VK->Prop:=fun xs H Q=>∃f v d,xs=[v]∧RepF H f v d∧d.showable=true∧d.depth≤60∧cM d≤sizeLine∧Q (.str d.shown) H
theorem Ai (hg:X.A.guards=some []) (hu:X.A.units + 64<cLine):CallR X (.builtin "repr") Lg:=by
 intro pins s σ H xs us Q I r h
 obtain⟨f,v,d,rfl,rd,ho,hd,hz,q⟩:=h
 have hz':=Nat.le_trans (Br rd ho) hz
 obtain⟨u,rfl,ru⟩:=vals1 r
 cases rd with
 |non=>cases ru;exact P.repr_of_none ⟨.str _,H,I.tok _,⟨_,rfl⟩,(by simpa only[PyData.shown] using q)⟩
 |bl b=>cases ru;exact P.repr_of_bool ⟨.str _,H,I.tok _,⟨_,rfl⟩,(by simpa only[PyData.shown] using q)⟩
 |int i=>
   obtain⟨t,rfl⟩:=ru
   exact P.repr_of_int (by simpa[PyData.showable] using ho) ⟨.str _,H,I.tok _,⟨_,rfl⟩,(by simpa only[PyData.shown] using q)⟩
 |str x=>
   obtain⟨t,rfl⟩:=ru
   exact P.repr_of_str ⟨.str _,H,I.tok _,⟨_,rfl⟩,(by simpa only[PyData.shown] using q)⟩ (by simpa only[PyData.shown] using hz')
 | lst h hs=>
   cases ru
   obtain⟨its,rv,⟨o,n,h1,h2,_,h3⟩,_⟩:=I.list (SqL.of h)
   obtain⟨as,ra⟩:=RepsF.reads I hs rv
   simp only[PyData.shown] at hz' q
   obtain⟨bs,hb,hk⟩:=RepsF.k I hs rv (by simpa only[PyData.showable] using ho) fun t ht=>Nat.le_trans (listText_mem_le ht) hz'
   simp only[PyData.depth] at hd
   refine call_repr_slot (by lia) ⟨_,h1,h2⟩ F.slot_list_repr.toG ?_
   cases its with
   |nil=>
     cases ra
     simp only[PyData.shownAll,listText_nil] at q
     exact call_list_repr_empty ⟨o,h1,h2⟩ h1 h3 ⟨_,_,rfl,.str _,H,I.kept fun _ _ e=>e,⟨_,rfl⟩,q⟩
   |cons x l=>
     exact call_list_reprK h1 h2 h3 (wB (.list h1 h2 h3 ra) (by simp only[PyData.depth]) hb).1 (by simpa using hk.length_eq) (fun i y e=>hk.item i y (by simpa using e)) hg (fun b _=>Clear.nil b) (by show X.A.units+1+_<_;lia) (fun _ _ e=>e) (fun h' u tk hk=>⟨_,_,rfl,.str _,H,I.kept hk,⟨_,rfl⟩,q⟩) hz'
 |tup h hs=>
   cases ru
   obtain⟨its,rv,⟨o,h1,h2,n,h3⟩,_⟩:=I.tuple (SqT.of h)
   obtain⟨as,ra⟩:=RepsF.reads I hs rv
   simp only[PyData.shown] at hz' q
   obtain⟨bs,hb,hk⟩:=RepsF.k I hs rv (by simpa only[PyData.showable] using ho) fun t ht=>Nat.le_trans (tupleText_mem_le ht) hz'
   simp only[PyData.depth] at hd
   refine call_repr_slot (by lia) ⟨_,h1,h2⟩ F.slot_tuple_repr ?_
   exact call_tuple_reprK h1 h2 h3 (wB (.tuple h1 h2 h3 ra) (by simp only[PyData.depth]) hb).1 hk hg (fun b _=>Clear.nil b) (by show X.A.units+1+_<_;lia) (fun _ _ e=>e) (fun h' u tk hk=>⟨_,_,rfl,.str _,H,I.kept hk,⟨_,rfl⟩,q⟩) hz'
 |d0 h=>
   obtain⟨as,ra,nn⟩:=Bk I h
   cases ru
   exact repr_of_reads' ra ho (fun _=>nn) hg (by lia) (fun _ _ e=>e) (fun h' u tk hk=>⟨.str _,H,I.kept hk,⟨_,rfl⟩,q⟩) hz'
 |d1 h=>
   obtain⟨as,ra,nn⟩:=Bl I h
   cases ru
   exact repr_of_reads' ra ho (fun _=>nn) hg (by lia) (fun _ _ e=>e) (fun h' u tk hk=>⟨.str _,H,I.kept hk,⟨_,rfl⟩,q⟩) hz'
end
theorem O7(hc:CallR X (.type T) r)(hm:X.mg x=none)(ha:PA X (e::es) t)(hg:Gl X x:=by rfl)(hv:bootBuiltins x=some (.type T):=by decide +kernel)(hn:x≠"__name__":=by decide)(hdb:(x==("__debug__":Str))=false:=by decide)
  (he:starEach (e::es) X.env=(false,eval e X.env)::starEach es X.env:=by rfl) (hpl:(backTo pos (starEach es X.env)).any (·.1)=false:=by rfl) :
  PE X (.Call (.Name x p) (e::es) [] pos) (tCB r t):=pe_callTy hc hg hm hv ha hn hdb he hpl
def notStar:Expr->Bool
 |.Starred _ _=>false
 |_=>true
theorem bC(h:notStar e=true):starEach (e::es) env=(false,eval e env)::starEach es env:=by
 cases e<;>first | rfl | cases h
theorem Gr(ha:PE X e te)(hr:PA X es t)(hs:notStar e=true:=by rfl):PA X (e::es) (tCons te t):=pa_cons ha hr (bC hs)
structure QI(X:Cx)(tg l:Expr)(wi:TI):Prop where
 h:PI X tg l wi
structure QA(X:Cx)(es:List Expr)(t:TA):Prop where
 h:PA X es t
theorem Lf:QA X [] tNil:=⟨pa_nil⟩
theorem O8(ha:PE X e te)(hr:QA X es t)(hs:notStar e=true:=by rfl):QA X (e::es) (tCons te t):=⟨Gr ha hr.h hs⟩
section
variable{X:Cx}{j k:Nat}{ps:List Str}{sp:Sp}{x:Str}{p pos:Pos}{e:Expr}{es:List Expr}{t:TA}{E:XK}
theorem Iz{x1}(h:QA X es t):PE X (.Tuple es x1 pos) (tTup t):=pe_tup h.h
theorem zO(h:QA X es t):PE X (.List es pos) (tLst t):=pe_lst h.h
theorem vI(D:DefC X.prog X.w X.K X.mg X.base j x ps sp)(hr:Room k X.A)(hx:Passes (cj X.prog X.w) X E)(ha:QA X (e::es) t)(hjk:j≤k:=by decide)(hg:Gl X x:=by rfl)(hdb:(x==("__debug__":Str))=false:=by decide)
  (he:notStar e=true:=by rfl) (hpl:(backTo pos (starEach es X.env)).any (·.1)=false:=by rfl) :
  PE X (.Call (.Name x p) (e::es) [] pos) (tCall sp [] E t):=Gs D hr hx ha.h hjk hg hdb (bC he) hpl
theorem Nj{id:String}{r:List V->Hp->VK->Prop}(hc:CallR X (.builtin id) r)(hm:X.mg x=none)(ha:QA X (e::es) t)(hg:Gl X x:=by rfl)(hv:bootBuiltins x=some (.builtin id):=by decide +kernel)(hn:x≠"__name__":=by decide)(hdb:(x==("__debug__":Str))=false:=by decide)
  (he:notStar e=true:=by rfl) (hpl:(backTo pos (starEach es X.env)).any (·.1)=false:=by rfl) :
  PE X (.Call (.Name x p) (e::es) [] pos) (tCB r t):=O6 hc hm ha.h hg hv hn hdb (bC he) hpl
theorem Nm(hc:CallR X (.type T) r)(hm:X.mg x=none)(ha:QA X (e::es) t)(hg:Gl X x:=by rfl)(hv:bootBuiltins x=some (.type T):=by decide +kernel)(hn:x≠"__name__":=by decide)(hdb:(x==("__debug__":Str))=false:=by decide)
  (he:notStar e=true:=by rfl) (hpl:(backTo pos (starEach es X.env)).any (·.1)=false:=by rfl) :
  PE X (.Call (.Name x p) (e::es) [] pos) (tCB r t):=O7 hc hm ha.h hg hv hn hdb (bC he) hpl
theorem K5 {T name id:String}{r:V->List V->Hp->VK->Prop}{o:Expr}{to:TE}{apos cpos:Pos} (pa:PlainAttrs T) (slot:Slot T name id) (hty:typeOf (.builtin id)=pure (.type "method_descriptor")) (hm:MtR X id r) (ho:PE X o to) (ha:QA X (e::es) t)
  (hbase:attributeBase o name X.env (eval o X.env)=eval o X.env:=by rfl)
  (hfew:((backTo cpos (starEach (e::es) X.env)).all (fun x=>!x.1)&&(backToKw cpos (keywordEach [] X.env)).all (fun x=>x.1.isSome)
   &&decide ((e::es).length+([]:List Keyword).length+(if ([]:List Keyword).isEmpty then 0 else 1)<30))=true:=by rfl)
  (hline:(apos.endLine==cpos.line)=true:=by rfl) (hs:notStar e=true:=by rfl) (hplain:(backTo cpos (starEach es X.env)).any (·.1)=false:=by rfl) :
  PE X (.Call (.Attribute o name apos) (e::es) [] cpos) (tBM X.K T r to t):=pe_bm pa slot hty hm ho ha.h hbase hfew hline (bC hs) hplain
theorem Be(hg:Gl X "range")(hm:X.mg "range"=none)(ha:QA X [a] ta)(hs:notStar a=true:=by rfl):QI X tg (.Call (.Name "range" p) [a] [] pos) (iRng1 ta):=⟨pi_range1 hg hm ha.h (bC hs)⟩
theorem Bf(hg:Gl X "range")(hm:X.mg "range"=none)(ha:QA X [a,b] ta)(hs:notStar a=true:=by rfl)(hs2:notStar b=true:=by rfl):QI X tg (.Call (.Name "range" p) [a,b] [] pos) (iRng2 ta):=
 ⟨pi_range2 hg hm ha.h ((bC hs).trans (by rw[bC hs2];rfl)) (bC hs2)⟩
end
def wQ{α:Type}(P:α->Prop):List α->Prop
 |[]=>True
 |a::l=>P a∧wQ P l
theorem m5:∀ {l:List α},wQ P l->∀ a∈l,P a
 |[],_,_,h=>nomatch h
 |b::l,h,a,hm=>by
   rcases List.mem_cons.mp hm with rfl | hm
   ·exact h.1
   ·exact m5 h.2 a hm
theorem mem_of_lookup:∀ {l:List (Str×β)},l.lookup y=some c->(y,c)∈l
 |[],h=>by cases h
 | (z,d)::l,h=>by
   rw[List.lookup_cons] at h
   split at h
   ·rename_i e
    have e':y=z:=by simpa using e
    cases h
    rw[e'];exact List.mem_cons_self ..
   ·exact List.mem_cons_of_mem _ (mem_of_lookup h)
theorem yL{cl cells:List (Str×Addr)}(h:wQ (fun p=>cells.lookup p.1=some p.2) cl):∀y c,cl.lookup y=some c->cells.lookup y=some c:=fun y c e=>m5 h (y,c) (mem_of_lookup e)
def FZ:NameKind->Bool
 |.cell | .free=>true
 |_=>false
theorem xH{names:List (Str×NameKind)}{cl:List (Str×Addr)}(h:(names.all fun p=>!FZ p.2 || (cl.lookup p.1).isSome)=true):∀y,(names.lookup y=some .cell∨names.lookup y=some .free)->∃c,cl.lookup y=some c:=fun y e=>by
 have hh:=List.all_eq_true.mp h
 rcases e with e | e
 ·have:=hh _ (mem_of_lookup e)
  simp only[FZ,Bool.not_true,Bool.false_or] at this
  exact Option.isSome_iff_exists.mp this
 ·have:=hh _ (mem_of_lookup e)
  simp only[FZ,Bool.not_true,Bool.false_or] at this
  exact Option.isSome_iff_exists.mp this
theorem xF{js:List Nat}{fr:List Str}{P:Nat->Str->Prop}(h:wQ (fun p:Nat×Str=>P p.1 p.2) (js.zip fr)):∀(k j:Nat) (y:Str),js[k]?=some j->fr[k]?=some y->P j y:=fun k j y h1 h2=>by
 refine m5 h (j,y) (List.mem_iff_getElem?.mpr ⟨k,?_⟩)
 rw[List.getElem?_zip_eq_some]
 exact⟨h1,h2⟩
section
variable{X:Cx}
def oh:V->Bool
 |.bl b=>b
 |.int i=>i != 0
 |_=>false
def scS:V->Bool
 |.bl _=>true
 |.int _=>true
 |_=>false
theorem Ef(h:scS v=true)(r:RelV v u)(q:Q (oh v) s):wpAny (model prog w) A (truthy u) Q E s:=by
 cases v with
 |bl b=>cases r;exact wpAny_truthy_bool q
 |int i=>obtain⟨t,rfl⟩:=r;exact PyProof.Rows.truthy_int q
 |_=>cases h
theorem range_all{xs:List V}{tr:Nat->Bool}(h:∀(i:Nat) (x:V),xs[i]?=some x->tr i=oh x):(List.range xs.length).all tr=xs.all oh:=by
 rw[Bool.eq_iff_iff,List.all_eq_true,List.all_eq_true]
 constructor
 ·intro q x hx
  obtain⟨i,hi,e⟩:=List.mem_iff_getElem.mp hx
  have:=q i (List.mem_range.mpr hi)
  rw[h i x (by rw[List.getElem?_eq_getElem hi,e])] at this
  exact this
 ·intro q i hi
  have hi':=List.mem_range.mp hi
  rw[h i xs[i] (List.getElem?_eq_getElem hi')]
  exact q _ (List.getElem_mem hi')
theorem Oe{xs:List V}{its:List Value}(rv:Vals xs its)(hs:∀x∈xs,scS x=true):TruthOf prog w A (fun i v=>its.toArray[i]?=some v) (fun i=>oh (xs[i]?.getD .non)):=by
 intro i v s Q E hP hQ
 have e:its[i]?=some v:=by simpa using hP
 have hl:=rv.length
 have hi:i<xs.length:=by rw[hl];exact (List.getElem?_eq_some_iff.mp e).1
 obtain⟨u,e2,r⟩:=rv.get (List.getElem?_eq_getElem hi)
 rw[e] at e2
 cases e2
 refine Ef (hs _ (List.getElem_mem hi)) r ?_
 have hQ':Q (oh (xs[i]?.getD V.non)) s:=hQ
 rw[List.getElem?_eq_getElem hi] at hQ'
 exact hQ'
theorem Et(hh:X.A.handled=none):CallR X (.builtin "all") (fun vs H Q=>∃l xs,vs=[.ref l]∧H l=some (.lst xs)∧(∀x∈xs,scS x=true)∧Q (.bl (xs.all oh)) H):=by
 intro pins s σ H vs us Q I r h
 obtain⟨l,xs,rfl,hH,hs,q⟩:=h
 obtain⟨u,rfl,ru⟩:=vals1 r
 cases ru
 obtain⟨its,rv,p,hz⟩:=I.list (SqL.of (K:=X.K) hH)
 have hl:l<s.heap.objs.size:=by obtain⟨o,n,e,_⟩:=p;exact Heap.lt_size e
 refine call_all_walk (wpAny_pyIter_list p.isList ?_)
 refine⟨s.heap.objs.size,[s.heap.objs.size,l],[s.heap.objs.size],its.toArray.size,fun i v=>its.toArray[i]?=some v,fun i h=>h.IsListIter s.heap.objs.size l i∧h.IsList l its.toArray,fun i=>oh (xs[i]?.getD .non),rfl,Walks.list (A:=X.A.in1) hh s.heap.objs.size l (Nat.ne_of_lt hl) its.toArray,⟨⟨_,Heap.get?_push_size _ rfl,rfl,rfl⟩,p.isList.at fun o e=>Heap.get?_push_of_some _ e⟩,Oe rv hs,fun h' tk hk=>?_⟩
 refine⟨.bl (xs.all oh),H,I.kept fun b o e=>hk b o (fun z=>?_) (Heap.get?_push_of_some _ e),?_,q⟩
 ·have:b=s.heap.objs.size:=by simpa using z
  exact absurd (Heap.lt_size e) (by rw[this];exact Nat.lt_irrefl _)
 ·rw[show its.toArray.size=xs.length by rw[List.size_toArray];exact rv.length.symm]
  show Value.bool _=Value.bool _
  rw[range_all fun i x e=>by rw[e];rfl]
theorem uW:∀ {bs:List Bool}{its:List Value},Vals (bs.map V.bl) its->its=bs.map Value.bool
 |[],_,r=>by rw[List.map_nil] at r;cases r;rfl
 |b::bs,_,r=>by
   rw[List.map_cons] at r
   cases r with
   |cons r1 r2=>cases r1;rw[uW r2];rfl
def eqB(b:Bool):Value->Bool
 |.bool c=>c==b
 |_=>false
theorem vz(b:Bool):∀bs:List Bool,(bs.map Value.bool).countP (eqB b)=bs.countP (·== b)
 |[]=>rfl
 |c::bs=>by rw[List.map_cons,List.countP_cons,List.countP_cons,vz b bs];rfl
theorem Gk:MtM X "list.count" (fun x vs H Q=>∃(l:Addr) (bs:List Bool) (b:Bool),x=.ref l∧vs=[.bl b]∧H l=some (.lst (bs.map V.bl))∧Q (.int (bs.countP (·== b):Nat)) H):=by
 intro pins s σ H x vs v us Q I rx rv h
 obtain⟨l,bs,b,rfl,rfl,hH,q⟩:=h
 cases rx
 obtain⟨u,rfl,ru⟩:=rv.one
 cases ru
 obtain⟨z,its,n,r,hl,e⟩:=I.lstM hH
 have ei:=uW r
 subst ei
 refine call_meets F.slot_list_count ⟨_,e,rfl⟩ F.entry_list_count (F.args_list_count_2 _ _) (PySem.SeqAt.list_countAt l (bs.map Value.bool).toArray n none #[] (.bool b) (eqB b)) ⟨e,fun y hy=>?_,?_⟩
 ·have hy':y∈bs.map Value.bool:=by simpa using hy
  obtain⟨c,_,rfl⟩:=List.mem_map.mp hy'
  exact PySem.SeqAt.EqAt.bool_bool c b
 ·refine⟨.int _,H,I.tok _,⟨s.toks,?_⟩,q⟩
  show Value.int (((bs.map Value.bool).toArray.toList.countP (eqB b):Nat):Int) _=_
  rw[show (bs.map Value.bool).toArray.toList=bs.map Value.bool from rfl,vz]
theorem Gm:MtM X "list.index" (fun x vs H Q=>∃(l:Addr) (bs:List Bool) (b:Bool) (j:Nat),x=.ref l∧vs=[.bl b]∧H l=some (.lst (bs.map V.bl))∧bs[j]?=some b∧(∀m c,m<j->bs[m]?=some c->(c==b)=false)∧j<1000∧Q (.int (j:Nat)) H):=by
 intro pins s σ H x vs v us Q I rx rv h
 obtain⟨l,bs,b,j,rfl,rfl,hH,hj,hno,h1,q⟩:=h
 cases rx
 obtain⟨u,rfl,ru⟩:=rv.one
 cases ru
 obtain⟨z,its,n,r,hl,e⟩:=I.lstM hH
 have ei:=uW r
 subst ei
 obtain⟨lt,ej⟩:=List.getElem?_eq_some_iff.mp hj
 have lt':j<(bs.map Value.bool).toArray.size:=by simpa using lt
 refine call_meets F.slot_list_index ⟨_,e,rfl⟩ F.entry_list_index (F.args_list_index_2 _ _) (PySem.SeqAt.list_indexAt l (bs.map Value.bool).toArray n none #[] (.bool b) (eqB b) j lt' (by lia) ?_ ?_) ⟨e,fun y hy=>?_,?_⟩
 ·simp[eqB,ej]
 ·intro m hm lm
  have hm':m<bs.length:=by simpa using hm
  have:=hno m bs[m] lm (List.getElem?_eq_getElem hm')
  simpa[eqB] using this
 ·have hy':y∈bs.map Value.bool:=by simpa using hy
  obtain⟨c,_,rfl⟩:=List.mem_map.mp hy'
  exact PySem.SeqAt.EqAt.bool_bool c b
 ·exact⟨.int _,H,I.tok _,⟨_,rfl⟩,q⟩
theorem Nk(h:X.mg x=some (.int i t))(hg:Gl X x:=by rfl)(hd:(x==("__debug__":Str))=false:=by decide):PE X (.Name x pos) (tC (.int i)):=pe_glob hg h ⟨t,rfl⟩ hd
theorem rE:∀{l:List α},(∀x∈l,f x=g x)->l.filterMap f=l.filterMap g
 |[],_=>rfl
 |a::l,h=>by rw[List.filterMap_cons,List.filterMap_cons,h a (List.mem_cons_self ..),rE fun x hx=>h x (List.mem_cons_of_mem _ hx)]
theorem Gv(xs:List Value):((List.range xs.length).filterMap fun (m:Nat)=>xs.toArray[(((xs.length:Int)-1)+(m:Int)*(-1)).toNat]?)=xs.reverse:=by
 have e:(List.range xs.length).filterMap (fun (m:Nat)=>xs.toArray[(((xs.length:Int)-1)+(m:Int)*(-1)).toNat]?)=(List.range xs.length).filterMap (fun (m:Nat)=>xs.reverse[m]?):=by
  refine rE fun m hm=>?_
  have hm':=List.mem_range.mp hm
  rw[List.getElem?_reverse hm']
  have:(((xs.length:Int)-1)+(m:Int)*(-1)).toNat=xs.length-1-m:=by lia
  rw[this];simp
 rw[e]
 have q:=pick_run xs.reverse.toArray 0 xs.length
 rw[List.filterMap_map] at q
 have e2:(List.range xs.length).filterMap (fun (m:Nat)=>xs.reverse[m]?)=(List.range xs.length).filterMap ((fun x=>xs.reverse.toArray[x]?) ∘ fun x=>0+x):=rE fun m _=>by simp
 rw[e2,q]
 show List.take xs.length (List.drop 0 xs.reverse)=xs.reverse
 rw[List.drop_zero]
 exact List.take_of_length_le (by simp)
theorem rY{E:Value->Shared->Prop}{n:Nat}{Q:Int×Int×Nat->Shared->Prop}(hs:s.heap.IsSliceOf sl .none .none (.int (-1) tk))(h:Q (((n:Int)-1),-1,n) s) :
  wpAny (model prog w) A (Builtin.Slice.sliceApplied (.ref sl) (pure (n:Int))) Q E s:=by
 obtain⟨os,hos,hcs,hds⟩:=id hs
 unfold Builtin.Slice.sliceApplied Builtin.Slice.sliceFields
 refine wpAny_bind (wpAny_bind (wpAny_field hos hds (x:=.none) rfl (wpAny_bind (wpAny_field hos hds (x:=.none) rfl (wpAny_bind (wpAny_field hos hds (x:=.int (-1) tk) rfl (wpAny_pure ?_)))))))
 refine wpAny_bind (slicePart_int ?_)
 show wpAny _ _ (if ((-1:Int)==0)=true then _ else _) _ _ s
 rw[if_neg (by decide)]
 refine wpAny_bind (slicePart_none (wpAny_bind (slicePart_none (wpAny_bind (wpAny_pure ?_)))))
 have e:Builtin.Slice.slicePlaces ((n:Int)-1) (-1) (-1)=n:=by
  unfold Builtin.Slice.slicePlaces
  rw[if_neg (by decide),show -(-1:Int)=1 from rfl,Int.ediv_one]
  split<;>lia
 show wpAny _ _ (pure (((n:Int)-1),(-1:Int),Builtin.Slice.slicePlaces ((n:Int)-1) (-1) (-1))) _ _ s
 rw[e]
 exact wpAny_pure h
theorem qy{E:Value->Shared->Prop}{its:List Value}{Q:Value->Shared->Prop}(ht:IsTup s.heap t its.toArray)(hs:s.heap.IsSliceOf sl .none .none (.int (-1) tk))
  (h:Q (.ref s.heap.objs.size) { s with heap:=s.heap.push { cls:=.type "tuple",data:=.seq its.reverse.toArray } }) (hsz:its.length≤sizeLine):wpAny (model prog w) A (getItem (.ref t) (.ref sl)) Q E s:=by
 obtain⟨os,hos,hcs,hds⟩:=id hs
 have hTs:s.TypeIs (.ref sl) "slice":=⟨os,hos,hcs⟩
 unfold getItem
 try with_reducible refine wpAny_holding ?_
 first | refine wpAny_bind (wpAny_pure ?_) | skip
 refine wpAny_bind (wpAny_sequenceKey ht.typeIs (by decide) ?_)
 refine wpAny_bind (wpAny_callSpecial?_slot (name:=Str.ofString "__getitem__") ht.typeIs PyProof.Rows.slot_tuple_getitem
  (wpAny_call_entry PyProof.Rows.slot_tuple_getitem ht.typeIs entry_tuple_getitem ?_ (args_tuple_getitem _ _)))
 show wpAny _ _ (Builtin.Tuple.tupleItemsOf (.ref t)>>=_) _ _ s
 refine wpAny_bind (tupleItemsOf_ ht ?_)
 refine wpAny_bind (wpAny_typeOf hTs ?_)
 rw[if_pos (by decide)]
 rw[show its.toArray.size=its.length from by simp]
 refine wpAny_bind (rY hs ?_)
 have hno:¬ ((((its.length:Int)-1)==0&&(-1:Int)==1&&its.length==its.length)=true):=by simp
 show wpAny _ _ (if ((((its.length:Int)-1)==0&&(-1:Int)==1&&its.length==its.length)=true) then _ else _) _ _ s
 rw[if_neg hno,Gv]
 have htake:sizeOk (.seq its.reverse.toArray):=by
  show its.reverse.toArray.size≤sizeLine
  rw[List.size_toArray,List.length_reverse];exact hsz
 first
  |exact wpAny_bind (m:=Builtin.Tuple.tupleExact _) (wpAny_newObj_type (wpAny_pure ⟨_,rfl,wpAny_pure h⟩) htake)
  |exact wpAny_bind (m:=Builtin.Tuple.tupleExact _) (wpAny_newObj_type (wpAny_bind (wpAny_pure (wpAny_pure ⟨_,rfl,wpAny_pure h⟩))) htake)
  |exact wpAny_bind (wpAny_bind (m:=Builtin.Tuple.tupleExact _) (wpAny_newObj_type (wpAny_pure (wpAny_pure ⟨_,rfl,wpAny_pure h⟩)) htake))
  |exact wpAny_bind (wpAny_bind (m:=Builtin.Tuple.tupleExact _) (wpAny_newObj_type (wpAny_pure ⟨_,rfl,wpAny_pure h⟩) htake))
def Pk(te:TE):TE:=fun σ H Q=>te σ H fun x H1=>∃a xs,x=.ref a∧H1 a=some (.tup xs)∧∀p,H1 p=none->Q (.ref p) (upd H1 p (.tup xs.reverse))
theorem K8(he:PE X e te):PE X (.Subscript e (.Slice none none (some (.UnaryOp .USub (.Constant (.int 1) j p3) p4)) p2) pos) (Pk te):=by
 intro pins s σ H Q I h
 refine Subscript_ (thn (he pins s σ H _ I h) fun v s1 ⟨x,H1,I1,r1,q1⟩=>?_)
 obtain⟨a,xs,rfl,hx,q⟩:=q1
 cases r1
 refine wpAny_Slice ?_
 rw[evalPart_none]
 refine wpAny_pure (wpAny_pure ?_)
 rw[evalPart_some]
 have hu:PE X (.UnaryOp .USub (.Constant (.int 1) j p3) p4) (tUn (rU fun i=>.int (-i)) (tC (.int 1))):=pe_un un_neg pe_int
 refine thn (hu pins s1 σ H1 (fun v H'=>v=.int (-1)∧H'=H1) I1 ⟨1,rfl,rfl,rfl⟩) fun u s2 ⟨y,H2,I2,r2,ey,eh⟩=>?_
 subst ey eh
 obtain⟨tk,rfl⟩:=r2
 have I3:Inv X pins σ H2 { s2 with heap:=s2.heap.push { cls:=.type "slice",data:=.fields #[.none,.none,.int (-1) tk] } }:=I2.kept (t':=s2.toks) fun b ob q=>Heap.get?_push_of_some _ q
 obtain⟨its,r,ht,hz⟩:=I3.tuple (SqT.of (K:=X.K) hx)
 refine tail_any (ops:=[.ref a,.ref s2.heap.objs.size]) ht.typeIs PyProof.Rows.slot_tuple_getitem.lookup (qy ht (Heap.IsSliceOf.new ..) ?_ (by rw[←r.length];exact hz)) (by with_unfolding_all rfl)
 refine⟨.ref _,_,I3.laid (t':=s2.toks) (o:=.tup xs.reverse) (fun b ob q=>Heap.get?_push_of_some _ q) (Nat.le_refl _) ?_,rfl,q _ (I3.hok.fresh (Nat.le_refl _))⟩
 exact⟨by rw[List.length_reverse];exact hz,_,r.reverse,IsTup.new _ _⟩
end
structure MethAt(K:PySem.W.Frag)(C:Addr)(x qual:Str)(st:Stmt):Prop where
 ex:∃f fd,Fun K x qual st f fd∧PySem.W.findIn K (.ref C) x=some (some (.ref f))∧PySem.W.isFn K (.ref f)=true
structure MethC(P:Program)(w:World)(K:PySem.W.Frag)(mg:Str->Option Value)(base:Heap)(k:Nat)(C:Addr)(x:Str)(ps:List Str)(sp:Sp):Prop where
 ex:∃f fd,FnOk P w K mg base (cj P w) k f fd ps sp∧Binds K fd ps []∧PySem.W.keepIn K (.ref f)=true∧PySem.W.findIn K (.ref C) x=some (some (.ref f))∧PySem.W.isFn K (.ref f)=true
theorem Dg{K:PySem.W.Frag}{C:Addr}{x qual:Str}{st:Stmt}{f:Addr}{oc:Value}{od an:Option Addr}{osl:Array (Option Value)}{kV doc pm cdv ct:Value}
  (a:PySem.W.findIn K (.ref C) x=some (some (.ref f))) (n:PySem.W.isFn K (.ref f)=true) (l:K.lookup f=some ⟨oc,od,.func (PySem.W.fnOf x qual (defArgs st) (defBody st) (defScope st) .none kV doc pm an cdv ct),osl⟩) (c:PySem.W.codeIn K cdv qual=true) (k:PySem.W.keepIn K (.ref f)=true):MethAt K C x qual st:=
 ⟨f,_,fun_mk l c k,a,n⟩
section
variable{P:Program}{w:World}{K:PySem.W.Frag}{mg:Str->Option Value}{base:Heap}{k:Nat}{C:Addr}{x qual:Str}{N ps:List Str}{sp:Sp}{st:Stmt}
theorem OJ (F:Fun K x qual st f fd) (S:FnScope N ps (defScope st)) (len:∀ vs H Q E,sp vs H Q E->vs.length=ps.length)
  (hbody:∀(cdv:Value) (A:Around) (outer:List Env) (s:Shared) (H:Hp) (vs:List V) (Q:VK) (E:XK),Room k (A.deeper (envOfC qual (defScope st) s.heap.objs.size f cdv))->sp vs H Q E->
    ∃t,PSs (bO P w K mg base N qual (defScope st) f cdv A outer s H E) (defBody st) t∧t { nx:=fun _ H'=>Q .non H',rt:=Q } (start N vs) H):FnOk P w K mg base (cj P w) (k+1) f fd ps sp:=by
 obtain⟨oc,od,kV,doc,pm,an,cdv,ct,osl,rfl,l,c⟩:=F.ex
 exact fn_of l c S len (hbody cdv)
end
section
variable{X:Cx}{j k:Nat}{C:Addr}{ps:List Str}{sp:Sp}{x:Str}{p pos:Pos}{e:Expr}{es:List Expr}{t:TA}{E:XK}
theorem Gu(D:MethC X.prog X.w X.K X.mg X.base j C "__init__" ps sp)(mk:PySem.W.makesIn X.K C=true)(kc:PySem.W.keepIn X.K (.ref C)=true)(hm:X.mg x=some (.ref C))(hr:Room k X.A)(hx:Passes (cj X.prog X.w) X E)(ha:QA X (e::es) t)(hjk:j+1≤k:=by decide)(hg:Gl X x:=by rfl)(hdb:(x==("__debug__":Str))=false:=by decide)
  (he:notStar e=true:=by rfl) (hpl:(backTo pos (starEach es X.env)).any (·.1)=false:=by rfl) :
  PE X (.Call (.Name x p) (e::es) [] pos) (tMake C sp [] E t):=by
 obtain⟨f,fd,F,b,kp,a,n⟩:=D.ex
 exact pe_make ⟨mk,a,n,kc⟩ F (hr.mono hjk) hg hm b .nil hx ha.h hdb (bC he) hpl
end
open PySem PySem.Spec PyProof.Rows
theorem cF:∀ (names:List (Str×NameKind)) (n:Nat) (acc:List (Str×Addr)),cellsFrom n names acc=cellsFrom n names []++acc
 |[],_,_=>rfl
 |(name,kind)::r,n,acc=>by
   unfold cellsFrom
   split
   ·rw[cF r (n+1) ((name,n)::acc),cF r (n+1) [(name,n)],List.append_assoc];rfl
   ·exact cF r n acc
theorem Dk
  (hQ:Q (newEnv scope s.heap.objs.size globals (cellsFrom (s.heap.objs.size+1) scope.names cl) qual none .none (some env) builtinsNs) { s with heap:=pushCells (s.heap.push { cls:=.type "dict",data:=.dict #[] }) scope.names }) :
  wpAny M A (newFunctionEnv scope globals cl [] qual none .none (some env)) Q E s:=by
 simp only[newFunctionEnv,Option.isSome_some,if_true]
 refine wpAny_bind (wpAny_alloc ?_)
 refine wpAny_bind (wpAny_layCells _ (fun name kind cells=>by cases hkc:kind==NameKind.cell<;>simp[hkc]) _ _ _ _ ?_)
 rw[show ({ s with heap:=s.heap.push { cls:=.type "dict",data:=.dict #[] } }:Shared).heap.objs.size=s.heap.objs.size+1 from Heap.size_push ..]
 refine wpAny_bind ?_
 rw[List.forIn_nil]
 exact wpAny_pure (wpAny_pure hQ)
abbrev Cx.aY(X:Cx)(pins:List (Addr×Obj))(scope:Scope)(cs:List (Str×Addr))(Nc:List Str)(fp:List Addr)(C:Addr)(s₂:Shared)(H₂:Hp):Cx where
 prog:=X.prog
 w:=X.w
 K:=X.K
 mg:=X.mg
 base:=X.base
 A:=X.A
 N:=Nc
 s₀:=s₂
 H₀:=H₂
 env:=compEnvC scope cs C X.env
 outer:=X.stack
 stack:=X.stack
 ex:=fp
 fn:=fun y=>scope.names.lookup y==some .cell
 calm:=X.calm
 pn:=X.pn++pins
 xe:=fun _ _=>False
structure CompG(X:Cx)(scope:Scope)(cl:List (Str×Addr))(own:List Str)(js:List Nat)(fr:List Str):Prop where
 kind:scope.kind=.function
 names:∀y∈scope.names,y.2=.local->scope.names.lookup y.1=some .local
 clos:closureFor scope X.env=pure cl
 sub:∀y c,cl.lookup y=some c->X.env.cells.lookup y=some c
 has:∀(m:Nat) y,((relabel scope X.env).names.lookup y=some .cell∨(relabel scope X.env).names.lookup y=some .free)->∃c,(cellsFrom m scope.names cl).lookup y=some c
 nd:(own++fr).Nodup
 len:js.length=fr.length
 newc:∀(m:Nat) y c,(cellsFrom m scope.names []).lookup y=some c->scope.names.lookup y=some .cell
 oldc:∀y c,cl.lookup y=some c->scope.names.lookup y≠some .cell
 fre:∀(k j:Nat) (y:Str),js[k]?=some j->fr[k]?=some y->X.N[j]?=some y∧(X.env.scope.names.lookup y=some .cell∨X.env.scope.names.lookup y=some .free)∧((relabel scope X.env).names.lookup y=some .cell∨(relabel scope X.env).names.lookup y=some .free)∧∃c,cl.lookup y=some c
theorem nq:∀ {l m:List (Str×α)},(l++m).lookup y=some c->l.lookup y=some c∨(l.lookup y=none∧m.lookup y=some c)
 |[],_,h=>.inr ⟨rfl,h⟩
 |(k,v)::r,m,h=>by
   rw[List.cons_append,List.lookup_cons] at h
   rw[List.lookup_cons]
   split at h
   ·exact .inl h
   ·exact nq h
theorem km:∀ {l m:List (Str×α)},l.lookup y=none->(l++m).lookup y=m.lookup y
 |[],_,_=>rfl
 |(k,v)::r,m,h=>by
   rw[List.lookup_cons] at h
   rw[List.cons_append,List.lookup_cons]
   split at h
   ·cases h
   ·exact km h
section
variable{X:Cx}{pins:List (Addr×Obj)}{σ:St}{H:Hp}{s:Shared}{scope:Scope}{cl:List (Str×Addr)}{own:List Str}{js:List Nat}{fr:List Str}{fp:List Addr}{C m:Addr}
theorem Fe {hh:Heap} (T:CompG X scope cl own js fr) (I:Inv X pins σ H s) (f:∀ b∈fp,FpOk X pins H b) (hlt:∀ b∈fp,b<s.heap.objs.size) (hC:s.heap.objs.size≤C) (hm:m=hh.objs.size) (hms:s.heap.objs.size≤m) :
  (X.aY pins scope (cellsFrom m scope.names cl) (own++fr) fp C s H).Ok:=by
 have ok:CellsOk (pushCells hh scope.names) m (cellsFrom m scope.names []):=by
  have:=cellsFrom_ok scope.names hh m [] ⟨fun _ _ hm=>(nomatch hm),List.Pairwise.nil⟩ (by rw[hm];exact Nat.le_refl _)
  rw[←hm] at this;exact this
 have hold:∀y c,cl.lookup y=some c->c<s.heap.objs.size:=fun y c e=>by
  obtain⟨v,q⟩:=I.cell y c (T.sub _ _ e)
  exact q.lt
 have spl:∀y c,(cellsFrom m scope.names cl).lookup y=some c->(m≤c∧(cellsFrom m scope.names []).lookup y=some c)∨(cl.lookup y=some c∧c<s.heap.objs.size):=fun y c e=>by
  rw[cF] at e
  rcases nq e with z | ⟨_,z⟩
  ·exact .inl ⟨(ok.empty _ _ (PySem.mem_of_lookup z)).2,z⟩
  ·exact .inr ⟨z,hold _ _ z⟩
 refine⟨I.ok.mod,T.kind,I.ok.glob,I.ok.blt,hC,fun y z c h1 h2=>?_,fun y h=>T.has m y h,fun y c h1 h2=>?_,I.ok.hd,I.ok.frames,.inl rfl,fun b hb=>⟨Nat.ne_of_lt (Nat.lt_of_lt_of_le (hlt b hb) hC),fun y c h=>?_⟩,fun b o e=>I.bs b o e,Nat.le_trans I.ok.bsz I.sz,fun b o e hb=>?_,fun b hb hm'=>?_,I.stack,I.stkFree⟩
 ·rcases spl _ _ h1 with ⟨a1,a2⟩ | ⟨a1,a2⟩
  ·rcases spl _ _ h2 with ⟨b1,b2⟩ | ⟨b1,b2⟩
   ·exact name_of_addr ok.apart (PySem.mem_of_lookup a2) (PySem.mem_of_lookup b2)
   ·exact absurd (Nat.lt_of_lt_of_le b2 hms) (Nat.not_lt.mpr a1)
  ·rcases spl _ _ h2 with ⟨b1,b2⟩ | ⟨b1,b2⟩
   ·exact absurd (Nat.lt_of_lt_of_le a2 hms) (Nat.not_lt.mpr b1)
   ·exact I.ok.inj y z c (T.sub _ _ a1) (T.sub _ _ b1)
 ·rcases spl _ _ h2 with ⟨a1,a2⟩ | ⟨a1,a2⟩
  ·exact Nat.le_trans hms a1
  ·exact absurd (by simpa using h1) (T.oldc _ _ a1)
 ·rcases spl _ _ h with ⟨a1,a2⟩ | ⟨a1,a2⟩
  ·exact fun z=>absurd (Nat.lt_of_lt_of_le (hlt b hb) hms) (Nat.not_lt.mpr (z ▸ a1))
  ·exact (f b hb).2.2.2.2.1 y c (T.sub _ _ a1)
 ·rcases (f b hb).2.2.2.1 with z | z
  ·exact I.ok.noex b o e z
  ·exact absurd (Nat.lt_of_lt_of_le (Heap.lt_size e) I.ok.bsz) (Nat.not_lt.mpr z)
 ·rcases List.mem_cons.mp (I.stkSub b hm') with z | z
  ·exact (f b hb).2.1 z
  ·exact (f b hb).2.2.1 z
theorem Am (T:CompG X scope cl own js fr) (I:Inv X pins σ H s) (f:∀ b∈fp,FpOk X pins H b) (hlt:∀ b∈fp,b<s.heap.objs.size)
  (k:∀b o,s.heap.get? b=some o->h'.get? b=some o) (ha:s.heap.objs.size≤acc) (hC:s.heap.objs.size≤C) (hne:C≠acc) (hm:m=hh.objs.size) (hms:s.heap.objs.size≤m) (hCm:C<m) (ham:acc<m) (hh':h'=pushCells hh scope.names) (ob:ObjOk X.prog X.w (upd H acc ho) h' acc ho) (ns:h'.Ns C mm) :
  Inv (X.aY pins scope (cellsFrom m scope.names cl) (own++fr) fp C s H) [] (List.replicate own.length none++pick js σ) (upd H acc ho) { s with heap:=h',toks:=t' }:=by
 have ok:CellsOk (pushCells hh scope.names) m (cellsFrom m scope.names []):=by
  have:=cellsFrom_ok scope.names hh m [] ⟨fun _ _ hm=>(nomatch hm),List.Pairwise.nil⟩ (by rw[hm];exact Nat.le_refl _)
  rw[←hm] at this;exact this
 have hold:∀y c,cl.lookup y=some c->c<s.heap.objs.size:=fun y c e=>by
  obtain⟨v,q⟩:=I.cell y c (T.sub _ _ e)
  exact q.lt
 have spl:∀y c,(cellsFrom m scope.names cl).lookup y=some c->(m≤c∧h'.IsCell c none)∨(cl.lookup y=some c∧c<s.heap.objs.size):=fun y c e=>by
  rw[cF] at e
  rcases nq e with z | ⟨_,z⟩
  ·have:=ok.empty _ _ (PySem.mem_of_lookup z)
   exact .inl ⟨this.2,by rw[hh'];exact this.1⟩
  ·exact .inr ⟨z,hold _ _ z⟩
 have hn:H acc=none:=I.hok.fresh ha
 have fC:H C=none:=I.hok.fresh hC
 refine⟨Fe T I f hlt hC hm hms,rfl,I.bare,Un.laid k ha hn,⟨mm,ns,fun i y v h1 h2 h3=>?_⟩,fun y c e=>?_,by show upd H acc _ C=none;rw[upd_ne hne];exact fC,fun y c e=>?_,fun p hp=>?_,I.hok.laid k ha ob,?_⟩
 ·have h1:(own++fr)[i]?=some y:=h1
  by_cases hi:i<own.length
  ·rw[List.getElem?_append_left (by rw[List.length_replicate];exact hi),List.getElem?_replicate] at h2
   split at h2<;>cases h2
  ·rw [List.getElem?_append_right (by lia)] at h1
   rw[List.getElem?_append_right (by rw[List.length_replicate];lia),List.length_replicate] at h2
   unfold pick at h2
   rw[List.getElem?_map] at h2
   cases hj:js[i-own.length]? with
   |none=>rw[hj] at h2;cases h2
   | some j=>
     rw[hj] at h2
     have h2s:(σ[j]?).getD none=some v:=Option.some.inj h2
     have h2'':σ[j]?=some (some v):=by
      cases z:σ[j]? with
      |none=>rw[z] at h2s;cases h2s
      |some w=>rw[z] at h2s;exact congrArg some h2s
     obtain⟨g1,g2,g3,c,gc⟩:=T.fre _ j y hj h1
     obtain⟨mX,_,hl⟩:=I.loc
     have vis:Vis X.env.scope y:=g2.elim (fun z=>.inr (.inl z)) fun z=>.inr (.inr z)
     obtain⟨u,r,q⟩:=hl j y v g1 h2'' vis
     refine⟨u,r,.inr ⟨g3,c,?_,?_⟩⟩
     ·show (cellsFrom m scope.names cl).lookup y=some c
      rw[cF]
      cases z:(cellsFrom m scope.names []).lookup y with
      |none=>rw[km z];exact gc
      |some c'=>exact absurd (T.newc m y c' z) (T.oldc y c gc)
     ·have hc':=T.sub _ _ gc
      rcases q with ⟨q,_⟩ | ⟨_,c2,e2,z⟩
      ·have q:X.env.scope.names.lookup y=some .local:=q
       rcases g2 with g2 | g2<;>(rw[g2] at q;cases q)
      ·rw[hc'] at e2;cases e2
       exact z.keeps k
 ·rcases spl y c e with ⟨_,z⟩ | ⟨z,_⟩
  ·exact⟨_,z⟩
  ·obtain⟨v,q⟩:=I.cell y c (T.sub _ _ z)
   exact⟨v,q.keeps k⟩
 ·rcases spl y c e with ⟨z,_⟩ | ⟨z,lt⟩
  ·show upd H acc _ c=none
   rw[upd_ne (fun (q:c=acc)=>absurd ham (Nat.not_lt.mpr (q ▸ z)))]
   exact I.hok.fresh (Nat.le_trans hms z)
  ·show upd H acc _ c=none
   rw[upd_ne (fun (q:c=acc)=>absurd lt (Nat.not_lt.mpr (q ▸ ha)))]
   exact I.freeC y c (T.sub _ _ z)
 ·have hp':p∈X.pn++pins:=by simpa using hp
  obtain⟨e,n,ne,nf,d⟩:=I.pin p hp'
  refine⟨k _ _ e,?_,Nat.ne_of_lt (Nat.lt_of_lt_of_le (Heap.lt_size e) hC),fun hm=>?_,d⟩
  ·show upd H acc _ p.1=none
   rw[upd_ne (fun z=>absurd (Heap.lt_size e) (by rw[z];exact Nat.not_lt.mpr ha))]
   exact n
  ·rcases List.mem_cons.mp (I.stkSub _ hm) with z | z
   ·exact ne z
   ·exact nf z
 ·show (List.replicate own.length none++pick js σ).length=(own++fr).length
  unfold pick
  rw[List.length_append,List.length_replicate,List.length_map,List.length_append,T.len]
end
section
variable{prog:Program}{w:World}{A:Around}{R:Result->Shared->Prop}{s:Shared}
def uU(ifs:List Expr)(env:Env):Sem Bool:=forIn ifs true fun c r=>if r=true then do let ok ←isTrue c env (eval c env);pure (ForInStep.yield ok) else pure (ForInStep.yield r)
def turnOf (g:Comprehension) (bodyK:Sem Fin->Sem Fin) (c:Code) (it:Value) (env:Env):Sem Fin:=do
 standAt g.iter.pos
 match ←pyNext it with
 |none=>pure (.done .next)
 |some v=>
   letOwnedTupleGo g.target it v
   assign g.target env v
   let ok ←uU g.ifs env
   if ok then bodyK (again c) else again c
def p6(elt:Expr)(acc:Value)(env:Env)(k:Sem Fin):Sem Fin:=do
 (do let _ ←call (.builtin "list.append") [acc,←eval elt env])
 k
def tH(e:Expr)(i1:Expr)(acc:Value)(env:Env)(k:Sem Fin):Sem Fin:=do
 let x ←eval i1 env
 standAt i1.pos
 let x ←foldedSetIterable i1 env x
 let _ ←runOwn (.compStart e 1 (←holding [x] (pyIter x)) acc env) env
 k
theorem Hz(elt target iter:Expr)(ifs:List Expr)(scope:Scope)(pos:Pos)(it acc:Value)(env:Env) :
  compTurn (.ListComp elt [⟨target,iter,ifs,0⟩] scope pos) 0 it acc env=turnOf ⟨target,iter,ifs,0⟩ (p6 elt acc env) (.compLoop (.ListComp elt [⟨target,iter,ifs,0⟩] scope pos) 0 it acc env) it env:=rfl
theorem Mj(elt t0 i0 t1 i1:Expr)(f0 f1:List Expr)(scope:Scope)(pos:Pos)(it acc:Value)(env:Env) :
  compTurn (.ListComp elt [⟨t0,i0,f0,0⟩,⟨t1,i1,f1,0⟩] scope pos) 1 it acc env=turnOf ⟨t1,i1,f1,0⟩ (p6 elt acc env) (.compLoop (.ListComp elt [⟨t0,i0,f0,0⟩,⟨t1,i1,f1,0⟩] scope pos) 1 it acc env) it env:=rfl
theorem Mi(elt t0 i0 t1 i1:Expr)(f0 f1:List Expr)(scope:Scope)(pos:Pos)(it acc:Value)(env:Env) :
  compTurn (.ListComp elt [⟨t0,i0,f0,0⟩,⟨t1,i1,f1,0⟩] scope pos) 0 it acc env=turnOf ⟨t0,i0,f0,0⟩ (tH (.ListComp elt [⟨t0,i0,f0,0⟩,⟨t1,i1,f1,0⟩] scope pos) i1 acc env) (.compLoop (.ListComp elt [⟨t0,i0,f0,0⟩,⟨t1,i1,f1,0⟩] scope pos) 0 it acc env) it env:=rfl
def jU(prog:Program)(w:World)(A:Around)(bodyK:Sem Fin->Sem Fin)(W:(Shared->Prop)->Shared->Prop):Prop:=
 ∀(k:Sem Fin) (Q:Fin->Shared->Prop) (E:Value->Shared->Prop) (s:Shared),W (fun s'=>wpAny (model prog w) A k Q E s') s->wpAny (model prog w) A (bodyK k) Q E s
theorem xf:jU prog w A (p6 elt acc env) (fun P s=>wpAny (model prog w) A (eval elt env) (fun x s1=>wpAny (model prog w) A (call (.builtin "list.append") [acc,x]) (fun _ s2=>P s2) (fun _ _=>False) s1) (fun _ _=>False) s):=by
 intro k Q E s h
 unfold p6
 exact wpAny_bind (wpAny_bind (wpAny_mono h (fun x s1 h1=>wpAny_bind (wpAny_mono h1 (fun _ s2 h2=>wpAny_pure h2) fun _ _ z=>z.elim)) fun _ _ z=>z.elim))
theorem Ia (hs:∀ x,foldedSetIterable i1 env x=pure x):jU prog w A (tH e i1 acc env) (fun P s=>wpAny (model prog w) A (eval i1 env) (fun x s1=>wpAny (model prog w) A (pyIter x) (fun it s2=>
  codeAny (model prog w) A (.compStart e 1 it acc env) (fun r s3=>match r with
   |.ok _=>P s3
   |.error _=>False) s2) (fun _ _=>False) s1) (fun _ _=>False) s):=by
 intro k Q E s h
 unfold tH
 refine wpAny_bind (wpAny_mono h (fun x s1 h1=>wpAny_bind (wpAny_standAt (wpAny_bind (wpAny_of_eq (hs x) (wpAny_bind (wpAny_holding (wpAny_mono h1 (fun it s2 h2=>?_) fun _ _ z=>z.elim))))))) fun _ _ z=>z.elim)
 refine wpAny_bind (wpAny_runOwn (codeAny_mono h2 fun r s3 h3=>?_))
 cases r with
 |ok f=>exact h3
 |error x=>exact h3.elim
def BV(e:Expr):Prop:=(∃a b c d,e=.ListComp a b c d)∨∃a b c d,e=.SetComp a b c d
theorem Gh (I:Nat->Shared->Prop)
  (hturn:compTurn e depth it acc env=turnOf g bodyK (.compLoop e depth it acc env) it env) (hW:jU prog w A bodyK W)
  (turn:∀ n s,I n s->wpAny (model prog w) A (pyNext it) (fun r s₁=>match r with
    |none=>R (.ok .next) s₁
    |some v=>wpAny (model prog w) A (letOwnedTupleGo g.target it v) (fun _ s₂=>wpAny (model prog w) A (assign g.target env v) (fun _ s₃=>
      wpAny (model prog w) A (uU g.ifs env) (fun ok s₄=>if ok=true then W (fun s₅=>∃m,m<n∧I m s₅) s₄ else ∃m,m<n∧I m s₄) (fun _ _=>False) s₃) (fun _ _=>False) s₂) (fun _ _=>False) s₁) (fun _ _=>False) s)
  (hmono:∀P P' s,(∀s,P s->P' s)->W P s->W P' s)
  (n:Nat) (h:I n s) (he:BV e):codeAny (model prog w) A (.compLoop e depth it acc env) R s:=by
 refine codeAny_loop (by rcases he with ⟨_,_,_,_,rfl⟩ | ⟨_,_,_,_,rfl⟩<;>rfl) I (fun n s hI=>?_) n h
 suffices q:wpAny (model prog w) A ((compTurn e depth it acc env).onRaise (fun x=>do noteFrame x env;theTreesLotGoes x)) (fun fin s'=>match fin with
   |.done f=>R (.ok f) s'
   |.again c'=>c'=Code.compLoop e depth it acc env∧∃m,m<n∧I m s') (fun e s'=>R (.error e) s') s by
  rcases he with ⟨_,_,_,_,rfl⟩ | ⟨_,_,_,_,rfl⟩<;>exact q
 refine wpAny_noted ?_
 rw[hturn]
 unfold turnOf
 refine wpAny_bind (wpAny_standAt (wpAny_bind (wpAny_mono (turn n s hI) (fun r s₁ h₁=>?_) fun _ _ h'=>h'.elim)))
 cases r with
 |none=>exact wpAny_pure h₁
 | some v=>
   refine wpAny_bind (wpAny_mono h₁ (fun _ s₂ h₂=>wpAny_bind (wpAny_mono h₂ (fun _ s₃ h₃=>wpAny_bind (wpAny_mono h₃ (fun ok s₄ h₄=>?_) fun _ _ h'=>h'.elim)) fun _ _ h'=>h'.elim)) fun _ _ h'=>h'.elim)
   cases ok with
   |false=>
     have h₄:∃m,m<n∧I m s₄:=h₄
     exact wpAny_pure ⟨rfl,h₄⟩
   |true=>
     have h₄:W (fun s₅=>∃m,m<n∧I m s₅) s₄:=h₄
     exact hW _ _ _ _ (hmono _ _ _ (fun s₅ h₅=>wpAny_pure ⟨rfl,h₅⟩) h₄)
theorem vM (hg:(clausesOf e)[depth]?=some g) (ha:g.is_async=0)
  (h0:codeAny (model prog w) A (.compLoop e depth it acc env) R s)
  (h:wpAny (model prog w) A (pyIter it) (fun it' s'=>codeAny (model prog w) A (.compLoop e depth it' acc env) R s') (fun _ _=>False) s) (he:BV e) :
  codeAny (model prog w) A (.compStart e depth it acc env) R s:=by
 refine codeAny_of_tree ?_
 suffices q:wpAny (model prog w) A ((compStart e depth it acc env).onRaise (fun x=>do noteFrame x env;standAt theWindowsPlace)) (fun fin s'=>match fin with
   |.done f=>R (.ok f) s'
   |.again c'=>c'.quiet=true∧codeAny (model prog w) A c' R s') (fun e s'=>R (.error e) s') s by
  rcases he with ⟨_,_,_,_,rfl⟩ | ⟨_,_,_,_,rfl⟩<;>exact q
 refine wpAny_notedAt ?_
 unfold compStart
 have e1:(((clausesOf e)[depth]?).elim false (·.is_async != 0))=false:=by
  rw[hg]
  show (g.is_async != 0)=false
  rw[ha];rfl
 rw[e1]
 simp only[Bool.false_eq_true,if_false,pure_bind]
 refine wpAny_bind (wpAny_askSetting (wpAny_ite ?_))
 split
 ·first
   |exact wpAny_bind (wpAny_pure (wpAny_pure (And.intro rfl h0)))
   |exact wpAny_pure (And.intro rfl h0)
 ·refine wpAny_bind (wpAny_rule ?_)
  rw[hg]
  exact wpAny_bind (wpAny_standAt (wpAny_bind (wpAny_mono h (fun it' s' h'=>wpAny_pure (And.intro rfl h')) fun _ _ x=>x.elim)))
end
section
variable{prog:Program}{w:World}{A:Around}{E:Value->Shared->Prop}{s:Shared}
theorem Bb(hi:IsTupIter s.heap ia t k)(ht:IsTup s.heap t its)(hy:its[k]?=some y)
  (hQ:∀h',IsTupIter h' ia t (k+1)->Heap.SameBut ia s.heap h'->Q y { s with heap:=h' }):wpAny (model prog w) A (Builtin.SmallTypes.nextOf (.ref ia)) Q E s:=by
 obtain⟨oi,hoi,hci,hdi⟩:=id hi
 obtain⟨ot,hot,_,nt,hdt⟩:=ht
 unfold Builtin.SmallTypes.nextOf
 refine wpAny_bind (wpAny_callSpecial?_slot (name:=Str.ofString "__next__") hi.typeIs slot_tupleiter_next (wpAny_call_entry slot_tupleiter_next hi.typeIs entry_tupleiter_next ?_ (args_tupleiter_next _)))
 show wpAny _ _ (field (.ref ia) 0>>=_) _ _ s
 refine wpAny_bind (wpAny_field hoi hdi (x:=.ref t) rfl ?_)
 show wpAny _ _ (if (Value.ref t==Value.none)=true then _ else _) _ _ s
 rw[if_neg (fun z:(Value.ref t==Value.none)=true=>Bool.false_ne_true z)]
 show wpAny _ _ (field (.ref ia) 1>>=_) _ _ s
 refine wpAny_bind (wpAny_field hoi hdi (x:=.int k 0) rfl ?_)
 show wpAny _ _ (seqItems? (.ref t)>>=_) _ _ s
 refine wpAny_bind (wpAny_seqItems hot hdt ?_)
 simp only[Int.toNat_natCast,hy]
 refine wpAny_bind (wpAny_setField hoi hdi (by simp) (wpAny_pure ⟨y,rfl,wpAny_pure (hQ _ ⟨_,Heap.get?_update_self _ hoi (Obj.isFreed_of_fields (Obj.data_mapFields hdi _)),(Obj.cls_mapFields ..).trans hci,?_⟩ (Heap.SameBut.update ..))⟩))
 rw[Obj.data_mapFields hdi];simp[rawInt]
theorem yR(hh:A.handled=none)(hi:IsTupIter s.heap ia t k)(ht:IsTup s.heap t its)(hy:its[k]?=none)
  (hE:∀h' e,Heap.ExtBut ia s.heap h'->(∃o,h'.get? e=some o∧o.cls=.type "StopIteration")->E (.ref e) { s with heap:=h' }):wpAny (model prog w) A (Builtin.SmallTypes.nextOf (.ref ia)) Q E s:=by
 obtain⟨oi,hoi,hci,hdi⟩:=id hi
 obtain⟨ot,hot,_,nt,hdt⟩:=ht
 unfold Builtin.SmallTypes.nextOf
 refine wpAny_bind (wpAny_callSpecial?_slot (name:=Str.ofString "__next__") hi.typeIs slot_tupleiter_next (wpAny_call_entry slot_tupleiter_next hi.typeIs entry_tupleiter_next ?_ (args_tupleiter_next _)))
 show wpAny _ _ (field (.ref ia) 0>>=_) _ _ s
 refine wpAny_bind (wpAny_field hoi hdi (x:=.ref t) rfl ?_)
 show wpAny _ _ (if (Value.ref t==Value.none)=true then _ else _) _ _ s
 rw[if_neg (fun z:(Value.ref t==Value.none)=true=>Bool.false_ne_true z)]
 show wpAny _ _ (field (.ref ia) 1>>=_) _ _ s
 refine wpAny_bind (wpAny_field hoi hdi (x:=.int k 0) rfl ?_)
 show wpAny _ _ (seqItems? (.ref t)>>=_) _ _ s
 refine wpAny_bind (wpAny_seqItems hot hdt ?_)
 simp only[Int.toNat_natCast,hy]
 refine wpAny_bind (wpAny_rule (wpAny_bind (wpAny_setField hoi hdi (by simp) ?_)))
 show wpAny _ _ (newExc (.type "StopIteration") ([]:List Value)>>=fun _=>_) _ _ _
 refine wpAny_bind ?_
 simp only[newExc,newTuple]
 refine wpAny_bind (wpAny_newObj_type ?_ (by size_fits:_))
 refine wpAny_bind (m:=firstArgMember _ _) (wpAny_of_eq (a:=Value.none) (by first | rfl | simp only[firstArgMember]) ?_)
 refine wpAny_newObj_type ?_ (by size_fits:_)
 simp only[raiseNew]
 refine wpAny_bind (wpAny_handled ?_)
 first | rw[hh] | rw[show A.in1.handled=none from hh]
 refine wpAny_bind (wpAny_pure (wpAny_throw (hE _ _ (((Heap.SameBut.update ..).extBut.push _).push _) ⟨_,Heap.get?_push_size _ rfl,rfl⟩)))
end
structure SubIt(P:Program)(w:World)(i l:Addr)(its:Array Value)(st:Nat->Heap->Prop):Prop where
 obj:∀k h,st k h->(∃o,h.get? i=some o∧∀v,o.data≠.cell v)∧∃o,h.get? l=some o
 keep:∀k h h',st k h->(∀o,h.get? i=some o->h'.get? i=some o)->(∀o,h.get? l=some o->h'.get? l=some o)->st k h'
 item:∀(A:Around) k (s:Shared) x (Q:Value->Shared->Prop) (E:Value->Shared->Prop),st k s.heap->its[k]?=some x->(∀h',st (k+1) h'->Heap.SameBut i s.heap h'->Q x { s with heap:=h' })->wpAny (model P w) A (Builtin.SmallTypes.nextOf (.ref i)) Q E s
 done:∀(A:Around) k (s:Shared) (Q:Value->Shared->Prop) (E:Value->Shared->Prop),A.handled=none->st k s.heap->its[k]?=none->(∀h' e,Heap.ExtBut i s.heap h'->(∃o,h'.get? e=some o∧o.cls=.type "StopIteration")->E (.ref e) { s with heap:=h' })->wpAny (model P w) A (Builtin.SmallTypes.nextOf (.ref i)) Q E s
theorem Jq(hne:l≠i)(its:Array Value):SubIt P w i l its (fun k h=>IsTupIter h i l k∧IsTup h l its) where
 obj:=fun k h ⟨⟨o,e,_,d⟩,⟨o',e',_⟩⟩=>⟨⟨o,e,fun v z=>by rw[d] at z;cases z⟩,o',e'⟩
 keep:=fun k h h' ⟨⟨o,e,r⟩,⟨o',e',r'⟩⟩ k1 k2=>⟨⟨o,k1 _ e,r⟩,⟨o',k2 _ e',r'⟩⟩
 item:=fun A k s x Q E st hx hQ=>Bb st.1 st.2 hx fun h' h1 h2=>hQ h' ⟨h1,st.2.extBut h2.extBut hne⟩ h2
 done:=fun A k s Q E hh st hx hE=>yR hh st.1 st.2 hx hE
theorem Jp(hne:l≠i)(its:Array Value):SubIt P w i l its (fun k h=>h.IsListIter i l k∧h.IsList l its) where
 obj:=fun k h ⟨⟨o,e,_,d⟩,⟨o',e',_⟩⟩=>⟨⟨o,e,fun v z=>by rw[d] at z;cases z⟩,o',e'⟩
 keep:=fun k h h' ⟨⟨o,e,r⟩,⟨o',e',r'⟩⟩ k1 k2=>⟨⟨o,k1 _ e,r⟩,⟨o',k2 _ e',r'⟩⟩
 item:=fun A k s x Q E st hx hQ=>wpAny_nextOf_list_item st.1 st.2 hx fun h' h1 h2=>hQ h' ⟨h1,st.2.extBut h2.extBut hne⟩ h2
 done:=fun A k s Q E hh st hx hE=>wpAny_nextOf_list_end hh st.1 st.2 hx hE
section
variable{P:Program}{w:World}{A:Around}{E:Value->Shared->Prop}{s:Shared}{z TI TO i1 i2 l1 l2:Addr}{xs ys:Array Value}{st1 st2:Nat->Heap->Prop}
theorem Ek{k:Nat}{Q:Value->Shared->Prop}(D:ZipApart z TI TO i1 i2 l1 l2)(S1:SubIt P w i1 l1 xs st1)(S2:SubIt P w i2 l2 ys st2)
  (hz:IsZip s.heap z TI TO .none) (hTI:IsPair s.heap TI (.ref i1) (.ref i2)) (hTO:IsPair s.heap TO a b) (h1:st1 k s.heap) (h2:st2 k s.heap) (hx:xs[k]?=some x) (hy:ys[k]?=some y)
  (hQ:∀h',IsZip h' z TI TO (rawInt s.heap.objs.size)->IsPair h' TO x y->st1 (k+1) h'->st2 (k+1) h'->IsPair h' s.heap.objs.size x y->h'.objs.size=s.heap.objs.size+1->(∀c o,c≠z->c≠TO->c≠i1->c≠i2->s.heap.get? c=some o->h'.get? c=some o)->Q (.ref s.heap.objs.size) { s with heap:=h' }) :
  wpAny (model P w) A (Builtin.«zip.__next__» ⟨[.ref z],[]⟩) (fun fin s'=>∃v,fin=.done (.ret v)∧Q v s') E s:=by
 show wpAny _ _ (field (.ref z) 2>>=fun _=>_) _ _ _
 refine wpAny_bind (wpAny_field hz rfl (x:=.bool false) rfl (show _ from ?_))
 show wpAny _ _ (field (.ref z) 3>>=fun _=>_) _ _ _
 refine wpAny_bind (wpAny_field hz rfl (x:=.ref TI) rfl (show _ from ?_))
 refine wpAny_bind (wpAny_seqItems hTI rfl (show _ from ?_))
 show wpAny _ _ (Builtin.SmallTypes.ownedTupleIsFree (.ref z)>>=fun _=>_) _ _ _
 refine wpAny_bind ?_
 unfold Builtin.SmallTypes.ownedTupleIsFree
 refine wpAny_bind (wpAny_field hz rfl (x:=.none) rfl (wpAny_pure (show _ from ?_)))
 simp only[if_true]
 refine wpAny_bind (wpAny_rule (show _ from ?_))
 refine wpAny_bind (wpAny_field hz rfl (x:=.ref TO) rfl (show _ from ?_))
 refine wpAny_bind (wpAny_setField_rec hz (by simp) fun g1 hz1 e1=>?_)
 replace hz1:IsZip g1 z TI TO .ellipsis:=hz1
 have n1:=(S1.obj _ _ h1).2
 refine wpAny_bind ?_
 simp only[List.zipIdx_cons,List.zipIdx_nil,List.forIn_cons,List.forIn_nil]
 refine wpAny_bind (wpAny_bind (wpAny_onRaise (show _ from ?_)))
 show wpAny _ _ (Builtin.SmallTypes.nextOf (.ref i1)>>=fun _=>_) _ _ _
 refine wpAny_bind (S1.item _ k _ x _ _ (S1.keep _ _ _ h1 (fun o q=>e1.extBut _ _ D.i1z q) fun o q=>e1.extBut _ _ D.l1z q) hx fun g2 h12 e2=>wpAny_pure ?_)
 have hTO2:IsPair g2 TO a b:=e2.extBut _ _ D.TOi1 (e1.extBut _ _ D.TOz hTO)
 refine wpAny_bind (wpAny_seqItems hTO2 rfl (show _ from ?_))
 refine wpAny_bind (wpAny_updateSeq_pair hTO2 fun g3 hTO3 e3=>?_)
 replace hTO3:IsPair g3 TO x b:=hTO3
 refine wpAny_bind (wpAny_letGo (wpAny_pure (show _ from ?_)))
 refine wpAny_bind (wpAny_bind (wpAny_onRaise (show _ from ?_)))
 show wpAny _ _ (Builtin.SmallTypes.nextOf (.ref i2)>>=fun _=>_) _ _ _
 refine wpAny_bind (S2.item _ k _ y _ _ (S2.keep _ _ _ h2 (fun o q=>e3.extBut _ _ D.TOi2.symm (e2.extBut _ _ D.i12.symm (e1.extBut _ _ D.i2z q))) fun o q=>e3.extBut _ _ D.l2TO (e2.extBut _ _ D.l2i1 (e1.extBut _ _ D.l2z q))) hy fun g4 h24 e4=>wpAny_pure ?_)
 have hTO4:IsPair g4 TO x b:=e4.extBut _ _ D.TOi2 hTO3
 refine wpAny_bind (wpAny_seqItems hTO4 rfl (show _ from ?_))
 refine wpAny_bind (wpAny_updateSeq_pair hTO4 fun g5 hTO5 e5=>?_)
 replace hTO5:IsPair g5 TO x y:=hTO5
 refine wpAny_bind (wpAny_letGo (wpAny_pure (wpAny_pure (show _ from ?_))))
 refine wpAny_bind (wpAny_seqItems hTO5 rfl (show _ from ?_))
 refine wpAny_bind (wpAny_newTuple (show _ from ?_))
 have hsz:g5.objs.size=s.heap.objs.size:=by rw[e5.1,e4.1,e3.1,e2.1,e1.1]
 have hz5:IsZip g5 z TI TO .ellipsis:=e5.extBut _ _ D.TOz.symm (e4.extBut _ _ D.i2z.symm (e3.extBut _ _ D.TOz.symm (e2.extBut _ _ D.i1z.symm hz1)))
 have hk5:∀c o,c≠z->c≠TO->c≠i1->c≠i2->s.heap.get? c=some o->g5.get? c=some o:=fun c o c1 c2 c3 c4 q=>e5.extBut _ _ c2 (e4.extBut _ _ c4 (e3.extBut _ _ c2 (e2.extBut _ _ c3 (e1.extBut _ _ c1 q))))
 have h15:st1 (k+1) g5:=S1.keep _ _ _ h12 (fun o q=>e5.extBut _ _ D.TOi1.symm (e4.extBut _ _ D.i12 (e3.extBut _ _ D.TOi1.symm q))) fun o q=>e5.extBut _ _ D.l1TO (e4.extBut _ _ D.l1i2 (e3.extBut _ _ D.l1TO q))
 have h25:st2 (k+1) g5:=S2.keep _ _ _ h24 (fun o q=>e5.extBut _ _ D.TOi2.symm q) fun o q=>e5.extBut _ _ D.l2TO q
 have hzlt:z<g5.objs.size:=Heap.lt_size hz5
 show wpAny _ _ (Builtin.SmallTypes.ownedTupleHandOut (.ref z) (.ref g5.objs.size)>>=fun _=>_) _ _ _
 refine wpAny_bind ?_
 unfold Builtin.SmallTypes.ownedTupleHandOut
 have hz6:IsZip (g5.push { cls:=.type "tuple",data:=.seq #[x,y] }) z TI TO .ellipsis:=Heap.get?_push_of_some _ hz5
 refine wpAny_bind (wpAny_setField_rec hz6 (by simp) fun g7 hz7 e7=>?_)
 replace hz7:IsZip g7 z TI TO (rawInt g5.objs.size):=hz7
 refine wpAny_setField_rec hz7 (by simp) fun g8 hz8 e8=>?_
 replace hz8:IsZip g8 z TI TO (rawInt g5.objs.size):=hz8
 have up:∀c o,c≠z->g5.get? c=some o->g8.get? c=some o:=fun c o c1 q=>e8.extBut _ _ c1 (e7.extBut _ _ c1 (Heap.get?_push_of_some _ q))
 have hT8:IsPair g8 g5.objs.size x y:=e8.extBut _ _ (Nat.ne_of_gt hzlt) (e7.extBut _ _ (Nat.ne_of_gt hzlt) (Heap.get?_push_size _ rfl))
 have sz8:g8.objs.size=g5.objs.size+1:=by rw[e8.1,e7.1,Heap.size_push]
 rw[hsz] at hz8 hT8 sz8
 refine wpAny_pure ⟨_,rfl,?_⟩
 show Q (.ref g5.objs.size) _
 rw[hsz]
 exact hQ g8 hz8 (up _ _ D.TOz hTO5) (S1.keep _ _ _ h15 (fun o q=>up _ o D.i1z q) fun o q=>up _ o D.l1z q) (S2.keep _ _ _ h25 (fun o q=>up _ o D.i2z q) fun o q=>up _ o D.l2z q) hT8 sz8 fun c o c1 c2 c3 c4 q=>up c o c1 (hk5 c o c1 c2 c3 c4 q)
theorem G3 (hh:A.handled=none) (D:ZipApart z TI TO i1 i2 l1 l2) (S1:SubIt P w i1 l1 xs st1) (S2:SubIt P w i2 l2 ys st2)
  (hz:IsZip s.heap z TI TO .none) (hTI:IsPair s.heap TI (.ref i1) (.ref i2)) (hTO:IsPair s.heap TO a b) (h1:st1 k s.heap) (h2:st2 k s.heap) (hend:xs[k]?=none∨ys[k]?=none)
  (hE:∀h' e,(∀c o,c≠z->c≠TO->c≠i1->c≠i2->s.heap.get? c=some o->h'.get? c=some o)->(∃o,h'.get? e=some o∧o.cls=.type "StopIteration")->E (.ref e) { s with heap:=h' }) :
  wpAny (model P w) A (Builtin.«zip.__next__» ⟨[.ref z],[]⟩) Q E s:=by
 show wpAny _ _ (field (.ref z) 2>>=fun _=>_) _ _ _
 refine wpAny_bind (wpAny_field hz rfl (x:=.bool false) rfl (show _ from ?_))
 show wpAny _ _ (field (.ref z) 3>>=fun _=>_) _ _ _
 refine wpAny_bind (wpAny_field hz rfl (x:=.ref TI) rfl (show _ from ?_))
 refine wpAny_bind (wpAny_seqItems hTI rfl (show _ from ?_))
 show wpAny _ _ (Builtin.SmallTypes.ownedTupleIsFree (.ref z)>>=fun _=>_) _ _ _
 refine wpAny_bind ?_
 unfold Builtin.SmallTypes.ownedTupleIsFree
 refine wpAny_bind (wpAny_field hz rfl (x:=.none) rfl (wpAny_pure (show _ from ?_)))
 simp only[if_true]
 refine wpAny_bind (wpAny_rule (show _ from ?_))
 refine wpAny_bind (wpAny_field hz rfl (x:=.ref TO) rfl (show _ from ?_))
 refine wpAny_bind (wpAny_setField_rec hz (by simp) fun g1 hz1 e1=>?_)
 replace hz1:IsZip g1 z TI TO .ellipsis:=hz1
 refine wpAny_bind ?_
 simp only[List.zipIdx_cons,List.zipIdx_nil,List.forIn_cons,List.forIn_nil]
 refine wpAny_bind (wpAny_bind (wpAny_onRaise (show _ from ?_)))
 show wpAny _ _ (Builtin.SmallTypes.nextOf (.ref i1)>>=fun _=>_) _ _ _
 have h11:st1 k g1:=S1.keep _ _ _ h1 (fun o q=>e1.extBut _ _ D.i1z q) fun o q=>e1.extBut _ _ D.l1z q
 cases hx:xs[k]? with
 |none=>
   refine wpAny_bind (S1.done _ k _ _ _ hh h11 hx fun g2 e e2 he=>?_)
   obtain⟨oe,hoe,hce⟩:=he
   have hz2:IsZip g2 z TI TO .ellipsis:=e2 _ _ D.i1z.symm hz1
   have hez:e≠z:=fun q=>by subst q;rw[hz2] at hoe;cases hoe;simp at hce
   refine wpAny_setField_rec hz2 (by simp) fun g3 _ e3=>hE g3 e (fun c o c1 _ c3 _ q=>e3.extBut _ _ c1 (e2 _ _ c3 (e1.extBut _ _ c1 q))) ⟨oe,e3.extBut _ _ hez hoe,hce⟩
 |some x=>
   have hy:ys[k]?=none:=by rcases hend with q | q;rw[hx] at q;cases q;exact q
   refine wpAny_bind (S1.item _ k _ x _ _ h11 hx fun g2 h12 e2=>wpAny_pure ?_)
   have hTO2:IsPair g2 TO a b:=e2.extBut _ _ D.TOi1 (e1.extBut _ _ D.TOz hTO)
   refine wpAny_bind (wpAny_seqItems hTO2 rfl (show _ from ?_))
   refine wpAny_bind (wpAny_updateSeq_pair hTO2 fun g3 hTO3 e3=>?_)
   refine wpAny_bind (wpAny_letGo (wpAny_pure (show _ from ?_)))
   refine wpAny_bind (wpAny_bind (wpAny_onRaise (show _ from ?_)))
   show wpAny _ _ (Builtin.SmallTypes.nextOf (.ref i2)>>=fun _=>_) _ _ _
   refine wpAny_bind (S2.done _ k _ _ _ hh (S2.keep _ _ _ h2 (fun o q=>e3.extBut _ _ D.TOi2.symm (e2.extBut _ _ D.i12.symm (e1.extBut _ _ D.i2z q))) fun o q=>e3.extBut _ _ D.l2TO (e2.extBut _ _ D.l2i1 (e1.extBut _ _ D.l2z q))) hy fun g4 e e4 he=>?_)
   obtain⟨oe,hoe,hce⟩:=he
   have hz4:IsZip g4 z TI TO .ellipsis:=e4 _ _ D.i2z.symm (e3.extBut _ _ D.TOz.symm (e2.extBut _ _ D.i1z.symm hz1))
   have hez:e≠z:=fun q=>by subst q;rw[hz4] at hoe;cases hoe;simp at hce
   refine wpAny_setField_rec hz4 (by simp) fun g5 _ e5=>hE g5 e (fun c o c1 c2 c3 c4 q=>e5.extBut _ _ c1 (e4 _ _ c4 (e3.extBut _ _ c2 (e2.extBut _ _ c3 (e1.extBut _ _ c1 q))))) ⟨oe,e5.extBut _ _ hez hoe,hce⟩
end
abbrev HD(h:Heap)(T1:String)(l1:Addr):Heap:=h.push { cls:=.type T1,data:=.fields #[.ref l1,.int 0 0] }
abbrev HF(h:Heap)(T1 T2:String)(l1 l2:Addr):Heap:=(HD h T1 l1).push { cls:=.type T2,data:=.fields #[.ref l2,.int 0 0] }
abbrev HH(h:Heap)(T1 T2:String)(l1 l2:Addr):Heap:=(HF h T1 T2 l1 l2).push { cls:=.type "tuple",data:=.seq #[.ref h.objs.size,.ref (HD h T1 l1).objs.size] }
abbrev qY(h:Heap)(T1 T2:String)(l1 l2:Addr):Heap:=(HH h T1 T2 l1 l2).push { cls:=.type "tuple",data:=.seq #[.none,.none] }
abbrev mV(h:Heap)(T1 T2:String)(l1 l2:Addr):Heap:=(qY h T1 T2 l1 l2).push { cls:=.type "zip",data:=.fields #[.none,.bool false,.bool false,.ref (HF h T1 T2 l1 l2).objs.size,.ref (HH h T1 T2 l1 l2).objs.size] }
theorem xU(l1 l2:Addr)(xs ys:Array Value) :
  Meets (Builtin.«zip.__new__» ⟨[.type "zip",.ref l1,.ref l2],[]⟩) (fun _ R s=>IsTup s.heap l1 xs∧IsTup s.heap l2 ys∧R (.ok (.ret (.ref (qY s.heap "tuple_iterator" "tuple_iterator" l1 l2).objs.size))) { s with heap:=mV s.heap "tuple_iterator" "tuple_iterator" l1 l2 }):=
 .of_wp fun prog w A R s h=>by
  obtain⟨hp,gn,dr,tk,os⟩:=s;obtain⟨k1,k2,h⟩:=h
  have hsub:=sub_zip
  have K1:IsTup (Shared.heap ⟨hp,gn,dr,tk,os⟩) l1 xs:=k1
  have K2:IsTup (Shared.heap ⟨hp.push { cls:=.type "tuple_iterator",data:=.fields #[.ref l1,.int 0 0] },gn,dr,tk,os⟩) l2 ys:=k2.push _
  wp_walk using iter_tuple K1,iter_tuple K2
  exact⟨_,rfl,h⟩
theorem xR(l1 l2:Addr)(xs ys:Array Value) :
  Meets (Builtin.«zip.__new__» ⟨[.type "zip",.ref l1,.ref l2],[]⟩) (fun _ R s=>s.heap.IsList l1 xs∧IsTup s.heap l2 ys∧R (.ok (.ret (.ref (qY s.heap "list_iterator" "tuple_iterator" l1 l2).objs.size))) { s with heap:=mV s.heap "list_iterator" "tuple_iterator" l1 l2 }):=
 .of_wp fun prog w A R s h=>by
  obtain⟨hp,gn,dr,tk,os⟩:=s;obtain⟨k1,k2,h⟩:=h
  have hsub:=sub_zip
  have K1:Heap.IsList (Shared.heap ⟨hp,gn,dr,tk,os⟩) l1 xs:=k1
  have K2:IsTup (Shared.heap ⟨hp.push { cls:=.type "list_iterator",data:=.fields #[.ref l1,.int 0 0] },gn,dr,tk,os⟩) l2 ys:=k2.push _
  wp_walk using wpAny_pyIter_list K1,iter_tuple K2
  exact⟨_,rfl,h⟩
theorem xT(l1 l2:Addr)(xs ys:Array Value) :
  Meets (Builtin.«zip.__new__» ⟨[.type "zip",.ref l1,.ref l2],[]⟩) (fun _ R s=>IsTup s.heap l1 xs∧s.heap.IsList l2 ys∧R (.ok (.ret (.ref (qY s.heap "tuple_iterator" "list_iterator" l1 l2).objs.size))) { s with heap:=mV s.heap "tuple_iterator" "list_iterator" l1 l2 }):=
 .of_wp fun prog w A R s h=>by
  obtain⟨hp,gn,dr,tk,os⟩:=s;obtain⟨k1,k2,h⟩:=h
  have hsub:=sub_zip
  have K1:IsTup (Shared.heap ⟨hp,gn,dr,tk,os⟩) l1 xs:=k1
  have K2:Heap.IsList (Shared.heap ⟨hp.push { cls:=.type "tuple_iterator",data:=.fields #[.ref l1,.int 0 0] },gn,dr,tk,os⟩) l2 ys:=Heap.IsList.push k2 _
  wp_walk using iter_tuple K1,wpAny_pyIter_list K2
  exact⟨_,rfl,h⟩
theorem xQ(l1 l2:Addr)(xs ys:Array Value) :
  Meets (Builtin.«zip.__new__» ⟨[.type "zip",.ref l1,.ref l2],[]⟩) (fun _ R s=>s.heap.IsList l1 xs∧s.heap.IsList l2 ys∧R (.ok (.ret (.ref (qY s.heap "list_iterator" "list_iterator" l1 l2).objs.size))) { s with heap:=mV s.heap "list_iterator" "list_iterator" l1 l2 }):=
 .of_wp fun prog w A R s h=>by
  obtain⟨hp,gn,dr,tk,os⟩:=s;obtain⟨k1,k2,h⟩:=h
  have hsub:=sub_zip
  have K1:Heap.IsList (Shared.heap ⟨hp,gn,dr,tk,os⟩) l1 xs:=k1
  have K2:Heap.IsList (Shared.heap ⟨hp.push { cls:=.type "list_iterator",data:=.fields #[.ref l1,.int 0 0] },gn,dr,tk,os⟩) l2 ys:=Heap.IsList.push k2 _
  wp_walk using wpAny_pyIter_list K1,wpAny_pyIter_list K2
  exact⟨_,rfl,h⟩
def fX(b:Bool)(h:Heap)(l:Addr)(xs:Array Value):Prop:=if b then IsTup h l xs else h.IsList l xs
def sy(b:Bool)(i l:Addr)(xs:Array Value)(k:Nat)(h:Heap):Prop:=(if b then IsTupIter h i l k else h.IsListIter i l k)∧fX b h l xs
theorem qt(b:Bool)(hne:l≠i)(its:Array Value):SubIt P w i l its (sy b i l its):=by
 cases b with
 |true=>exact Jq hne its
 |false=>exact Jp hne its
theorem fX.lt(q:fX b h l xs):l<h.objs.size:=by
 cases b with
 |true=>obtain⟨o,e,_⟩:=(show IsTup h l xs from q);exact Heap.lt_size e
 |false=>obtain⟨o,e,_⟩:=(show h.IsList l xs from q);exact Heap.lt_size e
theorem fX.keep(q:fX b h l xs)(k:∀o,h.get? l=some o->h'.get? l=some o):fX b h' l xs:=by
 cases b with
 |true=>obtain⟨o,e,r⟩:=(show IsTup h l xs from q);exact⟨o,k _ e,r⟩
 |false=>obtain⟨o,e,r⟩:=(show h.IsList l xs from q);exact⟨o,k _ e,r⟩
section
variable{P:Program}{w:World}{A:Around}{E:Value->Shared->Prop}{s:Shared}{l1 l2:Addr}{xs ys:Array Value}
theorem Ce (k1:fX b1 s.heap l1 xs) (k2:fX b2 s.heap l2 ys)
  (h:∀h',IsZip h' (s.heap.objs.size+4) (s.heap.objs.size+2) (s.heap.objs.size+3) .none->IsPair h' (s.heap.objs.size+2) (.ref s.heap.objs.size) (.ref (s.heap.objs.size+1))->IsPair h' (s.heap.objs.size+3) .none .none->
    sy b1 s.heap.objs.size l1 xs 0 h'->sy b2 (s.heap.objs.size+1) l2 ys 0 h'->h'.objs.size=s.heap.objs.size+5->(∀c o,s.heap.get? c=some o->h'.get? c=some o)->Q (.ref (s.heap.objs.size+4)) { s with heap:=h' }) :
  wpAny (model P w) A (call (.type "zip") [.ref l1,.ref l2]) Q E s:=by
 have fin:∀T1 T2,(∀h' k,h'.get? s.heap.objs.size=some { cls:=.type T1,data:=.fields #[.ref l1,.int 0 0] }->fX b1 h' l1 xs->k=0->sy b1 s.heap.objs.size l1 xs k h')->
   (∀h' k,h'.get? (s.heap.objs.size+1)=some { cls:=.type T2,data:=.fields #[.ref l2,.int 0 0] }->fX b2 h' l2 ys->k=0->sy b2 (s.heap.objs.size+1) l2 ys k h')->
   s.TypeIs (.ref (qY s.heap T1 T2 l1 l2).objs.size) "zip"∨True->Q (.ref (qY s.heap T1 T2 l1 l2).objs.size) { s with heap:=mV s.heap T1 T2 l1 l2 }∧({ s with heap:=mV s.heap T1 T2 l1 l2 }:Shared).TypeIs (.ref (qY s.heap T1 T2 l1 l2).objs.size) "zip":=by
  intro T1 T2 f1 f2 _
  have z1:(HD s.heap T1 l1).objs.size=s.heap.objs.size+1:=Heap.size_push ..
  have z2:(HF s.heap T1 T2 l1 l2).objs.size=s.heap.objs.size+2:=by rw[Heap.size_push,z1]
  have z3:(HH s.heap T1 T2 l1 l2).objs.size=s.heap.objs.size+3:=by rw[Heap.size_push,z2]
  have z4:(qY s.heap T1 T2 l1 l2).objs.size=s.heap.objs.size+4:=by rw[Heap.size_push,z3]
  have z5:(mV s.heap T1 T2 l1 l2).objs.size=s.heap.objs.size+5:=by rw[Heap.size_push,z4]
  have up:∀c o,s.heap.get? c=some o->(mV s.heap T1 T2 l1 l2).get? c=some o:=fun c o q=>Heap.get?_push_of_some _ (Heap.get?_push_of_some _ (Heap.get?_push_of_some _ (Heap.get?_push_of_some _ (Heap.get?_push_of_some _ q))))
  have q5:(mV s.heap T1 T2 l1 l2).get? (qY s.heap T1 T2 l1 l2).objs.size=some _:=Heap.get?_push_size _ rfl
  have q4:(mV s.heap T1 T2 l1 l2).get? (HH s.heap T1 T2 l1 l2).objs.size=some _:=Heap.get?_push_of_some _ (Heap.get?_push_size _ rfl)
  have q3:(mV s.heap T1 T2 l1 l2).get? (HF s.heap T1 T2 l1 l2).objs.size=some _:=Heap.get?_push_of_some _ (Heap.get?_push_of_some _ (Heap.get?_push_size _ rfl))
  have q2:(mV s.heap T1 T2 l1 l2).get? (HD s.heap T1 l1).objs.size=some _:=Heap.get?_push_of_some _ (Heap.get?_push_of_some _ (Heap.get?_push_of_some _ (Heap.get?_push_size _ rfl)))
  have q1:(mV s.heap T1 T2 l1 l2).get? s.heap.objs.size=some _:=Heap.get?_push_of_some _ (Heap.get?_push_of_some _ (Heap.get?_push_of_some _ (Heap.get?_push_of_some _ (Heap.get?_push_size _ rfl))))
  rw[z2,z3,z4] at q5
  rw[z1,z2] at q3
  rw[z3] at q4
  rw[z1] at q2
  rw[z4]
  exact⟨h _ q5 q3 q4 (f1 _ 0 q1 (k1.keep fun o q=>up _ _ q) rfl) (f2 _ 0 q2 (k2.keep fun o q=>up _ _ q) rfl) z5 up,_,q5,rfl⟩
 cases b1 with
 | true=>cases b2 with
   |true=>
     refine callType_new F.called_zip (by decide) (F.typeCall_zip_2 _ _) (F.newCall_zip_2 _ _) (fun obj=>F.args_object_init_3 obj _ _) F.entry_zip_new (xU l1 l2 xs ys) ⟨k1,k2,?_⟩
     obtain⟨a1,a2⟩:=fin "tuple_iterator" "tuple_iterator" (fun h' k q q' e=>by subst e;exact⟨⟨_,q,rfl,rfl⟩,q'⟩) (fun h' k q q' e=>by subst e;exact⟨⟨_,q,rfl,rfl⟩,q'⟩) (.inr trivial)
     exact⟨a2,a1⟩
   |false=>
     refine callType_new F.called_zip (by decide) (F.typeCall_zip_2 _ _) (F.newCall_zip_2 _ _) (fun obj=>F.args_object_init_3 obj _ _) F.entry_zip_new (xT l1 l2 xs ys) ⟨k1,k2,?_⟩
     obtain⟨a1,a2⟩:=fin "tuple_iterator" "list_iterator" (fun h' k q q' e=>by subst e;exact⟨⟨_,q,rfl,rfl⟩,q'⟩) (fun h' k q q' e=>by subst e;exact⟨⟨_,q,rfl,rfl⟩,q'⟩) (.inr trivial)
     exact⟨a2,a1⟩
 | false=>cases b2 with
   |true=>
     refine callType_new F.called_zip (by decide) (F.typeCall_zip_2 _ _) (F.newCall_zip_2 _ _) (fun obj=>F.args_object_init_3 obj _ _) F.entry_zip_new (xR l1 l2 xs ys) ⟨k1,k2,?_⟩
     obtain⟨a1,a2⟩:=fin "list_iterator" "tuple_iterator" (fun h' k q q' e=>by subst e;exact⟨⟨_,q,rfl,rfl⟩,q'⟩) (fun h' k q q' e=>by subst e;exact⟨⟨_,q,rfl,rfl⟩,q'⟩) (.inr trivial)
     exact⟨a2,a1⟩
   |false=>
     refine callType_new F.called_zip (by decide) (F.typeCall_zip_2 _ _) (F.newCall_zip_2 _ _) (fun obj=>F.args_object_init_3 obj _ _) F.entry_zip_new (xQ l1 l2 xs ys) ⟨k1,k2,?_⟩
     obtain⟨a1,a2⟩:=fin "list_iterator" "list_iterator" (fun h' k q q' e=>by subst e;exact⟨⟨_,q,rfl,rfl⟩,q'⟩) (fun h' k q q' e=>by subst e;exact⟨⟨_,q,rfl,rfl⟩,q'⟩) (.inr trivial)
     exact⟨a2,a1⟩
end
section
variable{X:Cx}{pins:List (Addr×Obj)}{σ:St}{H:Hp}{s:Shared}{h':Heap}
theorem Inv.turnedL{t':Nat}{ch:List Addr}(I:Inv X pins σ H s)(k:∀b o,b∉ch->s.heap.get? b=some o->h'.get? b=some o)(hf:∀b∈ch,FpOk X pins H b)(hL:∀b∈ch,b≠X.env.locals):Inv X pins σ H { s with heap:=h',toks:=t' }:=by
 have nit:∀b u,H b=some u->b∉ch:=fun b u e z=>by have:=(hf b z).1;rw[e] at this;cases this
 refine I.step (g':=s.gens) (d':=s.drawn) (ch:=ch) (fun b hb=>?_) (fun b o _ _ hc e _=>k b o hc e) (fun b o _ _ hc e _=>⟨o.slots,k b o hc e⟩) (fun _ _ _ _ n=>n)
  (fun b o hc e=>⟨o,k b o hc e⟩) (fun _ _ e=>e) (fun _ _ _ e=>e) (fun b ps e=>⟨#[],by rw[e];simp⟩) (fun m hm=>?_) (fun b u e=>?_) I.bare
 ·obtain⟨_,f1,_,f3,f4,f5⟩:=hf b hb
  exact⟨f3,f1,f4,f5⟩
 ·obtain⟨o,es,ep,ho,r⟩:=hm
  exact⟨o,es,ep,k _ o (fun z=>(hL _ z) rfl) ho,r⟩
 ·refine (I.hok b u e).stay (fun c v hc q=>k c v ?_ q) (fun _ q=>q) fun _ _ q=>q
  rcases hc with z | z
  ·rw[z];exact nit b u e
  ·exact nit c _ z
theorem Inv.turnedLay {t':Nat}{ch:List Addr}{p:Addr}{o:HO} (I:Inv X pins σ H s) (k:∀ b o,b∉ch->s.heap.get? b=some o->h'.get? b=some o) (hf:∀ b∈ch,FpOk X pins H b) (hp:s.heap.objs.size≤p) (new:ObjOk X.prog X.w (upd H p o) h' p o):Inv X pins σ (upd H p o) { s with heap:=h',toks:=t' }:=by
 have nit:∀b u,H b=some u->b∉ch:=fun b u e z=>by have:=(hf b z).1;rw[e] at this;cases this
 have hn:H p=none:=I.hok.fresh hp
 have tr:∀b u,H b=some u->upd H p o b=some u:=fun b u e=>by rw[upd_ne (ne_of_none e hn)];exact e
 refine I.step (g':=s.gens) (d':=s.drawn) (ch:=ch) (fun b hb=>?_) (fun b o _ _ hc e _=>k b o hc e) (fun b o _ _ hc e _=>⟨o.slots,k b o hc e⟩) (fun b u _ e n=>by rw[upd_ne (Nat.ne_of_lt (Nat.lt_of_lt_of_le (Heap.lt_size e) hp))];exact n)
  (fun b o hc e=>⟨o,k b o hc e⟩) (fun b xs e=>tr b _ e) (fun b _ _ e=>tr b _ e) (fun b ps e=>⟨#[],by rw[tr b _ e];simp⟩) (fun m hm=>?_) (fun b u e=>?_) I.bare
 ·obtain⟨_,f1,_,f3,f4,f5⟩:=hf b hb
  exact⟨f3,f1,f4,f5⟩
 ·obtain⟨o,es,ep,ho,r⟩:=hm
  exact⟨o,es,ep,k _ o (fun z=>(hf _ z).2.1 rfl) ho,r⟩
 ·by_cases z:b=p
  ·subst z
   rw[upd_same] at e;cases e
   exact new
  ·rw[upd_ne z] at e
   refine (I.hok b u e).stay (fun c v hc q=>k c v ?_ q) (fun c q=>tr c _ q) (fun c xs q=>tr c _ q) fun c o q=>tr c _ q
   rcases hc with y | y
   ·rw[y];exact nit b u e
   ·exact nit c _ y
end
def qG(b:Bool)(K:PySem.W.Frag)(H:Hp)(l:Addr)(xs:List V):Prop:=if b then SqT K H l xs else SqL K H l xs
theorem Inv.seqS{X:Cx}{pins:List (Addr×Obj)}{σ:St}{H:Hp}{s:Shared}{b:Bool}{l:Addr}{xs:List V}(I:Inv X pins σ H s)(h:qG b X.K H l xs):∃its:List Value,Vals xs its∧fX b s.heap l its.toArray∧xs.length≤sizeLine:=by
 cases b with
 |true=>obtain⟨its,r,p,z⟩:=I.tuple (show SqT X.K H l xs from h);exact⟨its,r,p,z⟩
 |false=>obtain⟨its,r,p,z⟩:=I.list (show SqL X.K H l xs from h);exact⟨its,r,p.isList,z⟩
theorem Inv.seqS_inj{X:Cx}{pins:List (Addr×Obj)}{σ:St}{H:Hp}{s:Shared}{b:Bool}{l:Addr}{xs ys:List V}(I:Inv X pins σ H s)(h:qG b X.K H l xs)(q:qG b X.K H l ys):xs=ys:=by
 cases b with
 |true=>exact I.tuple_inj (show SqT X.K H l xs from h) q
 |false=>exact I.list_inj (show SqL X.K H l xs from h) q
def fW(b:Bool)(i l:Addr)(k:Nat)(h:Heap):Prop:=if b then IsTupIter h i l k else h.IsListIter i l k
theorem fW.keep{b:Bool}{i l:Addr}{k:Nat}{h h':Heap}(q:fW b i l k h)(kk:∀o,h.get? i=some o->h'.get? i=some o):fW b i l k h':=by
 cases b with
 |true=>obtain⟨o,e,r⟩:=(show IsTupIter h i l k from q);exact⟨o,kk _ e,r⟩
 |false=>obtain⟨o,e,r⟩:=(show h.IsListIter i l k from q);exact⟨o,kk _ e,r⟩
theorem fW.obj{b:Bool}{i l:Addr}{k:Nat}{h:Heap}(q:fW b i l k h):∃o,h.get? i=some o∧∀v,o.data≠.cell v:=by
 cases b with
 |true=>obtain⟨o,e,_,d⟩:=(show IsTupIter h i l k from q);exact⟨o,e,fun v z=>by rw[d] at z;cases z⟩
 |false=>obtain⟨o,e,_,d⟩:=(show h.IsListIter i l k from q);exact⟨o,e,fun v z=>by rw[d] at z;cases z⟩
def Oj(K:PySem.W.Frag)(b1 b2:Bool)(l1 l2:Addr):It:=
 ⟨fun i H=>∃xs ys x y,qG b1 K H l1 xs∧qG b2 K H l2 ys∧xs[i]?=some x∧ys[i]?=some y,
  fun i H v H'=>∃p,H p=none∧v=.ref p∧∀xs ys,qG b1 K H l1 xs->qG b2 K H l2 ys->∃x y,xs[i]?=some x∧ys[i]?=some y∧H'=upd H p (.tup [x,y]),
  fun i H=>∃xs ys,qG b1 K H l1 xs∧qG b2 K H l2 ys∧(xs[i]?=none∨ys[i]?=none)⟩
theorem qT{P:Program}{w:World}{A:Around}{E:Value->Shared->Prop}{s:Shared}{z TI TO:Addr}{f0:Value}{Q:Option Value->Shared->Prop}(hz:IsZip s.heap z TI TO f0)
  (h:wpAny (model P w) A.in1 (Builtin.«zip.__next__» ⟨[.ref z],[]⟩) (fun fin s'=>∃v,fin=.done (.ret v)∧Q (some v) s') (fun e s'=>∃o ea,e=.ref ea∧s'.heap.get? ea=some o∧o.cls=.type "StopIteration"∧Q none s') s):wpAny (model P w) A (pyNext (.ref z)) Q E s:=by
 have hT:s.TypeIs (.ref z) "zip":=⟨_,hz,rfl⟩
 unfold pyNext
 refine wpAny_bind (wpAny_attempt (wpAny_callSpecial?_slot (name:=Str.ofString "__next__") hT F.slot_zip_next (wpAny_call_entry F.slot_zip_next hT F.entry_zip_next (wpAny_mono h (fun fin s' q=>?_) fun e s' q=>?_) (F.args_zip_next_1 _))))
 ·obtain⟨v,rfl,q⟩:=q
  exact⟨v,rfl,wpAny_pure q⟩
 ·obtain⟨o,ea,rfl,ho,hc,q⟩:=q
  exact wpAny_bind (wpAny_isInstance (T := "StopIteration") (b:=true) ⟨o,ho,hc⟩ isSubtype_stop (wpAny_pure q))
theorem GR {P:Program}{w:World}{K:PySem.W.Frag}{elts:List Expr}{x1}{tp:Pos}{b1 b2:Bool}{z TI TO i1 i2 l1 l2:Addr} (D:ZipApart z TI TO i1 i2 l1 l2) :
  Turn P w K (.Tuple elts x1 tp) (Oj K b1 b2 l1 l2) [z,TI,TO,i1,i2] z (fun i h=>IsZip h z TI TO .none∧IsPair h TI (.ref i1) (.ref i2)∧(∃a b,IsPair h TO a b)∧fW b1 i1 l1 i h∧fW b2 i2 l2 i h) where
 mem:=by simp
 obj:=fun i h st b hb=>by
  obtain⟨hz,hTI,⟨a,c,hTO⟩,h1,h2⟩:=st
  simp only[List.mem_cons,List.mem_nil_iff,or_false] at hb
  rcases hb with rfl | rfl | rfl | rfl | rfl
  ·exact⟨_,hz,fun v q=>by cases q⟩
  ·exact⟨_,hTI,fun v q=>by cases q⟩
  ·exact⟨_,hTO,fun v q=>by cases q⟩
  ·exact h1.obj
  ·exact h2.obj
 keep:=fun i h h' st k=>by
  obtain⟨hz,hTI,⟨a,c,hTO⟩,h1,h2⟩:=st
  exact⟨k z (by simp) _ hz,k TI (by simp) _ hTI,⟨a,c,k TO (by simp) _ hTO⟩,h1.keep fun o q=>k i1 (by simp) o q,h2.keep fun o q=>k i2 (by simp) o q⟩
 item:=by
  intro X hP hw hK hc i pins s σ H E I hf st hg
  subst hP hw hK
  obtain⟨hz,hTI,⟨a,c,hTO⟩,h1,h2⟩:=st
  obtain⟨xs,ys,x,y,s1,s2,hx,hy⟩:=hg
  obtain⟨its1,r1,q1,_⟩:=I.seqS s1
  obtain⟨its2,r2,q2,_⟩:=I.seqS s2
  obtain⟨u1,e1,ru1⟩:=r1.get hx
  obtain⟨u2,e2,ru2⟩:=r2.get hy
  refine qT hz (wpAny_mono (Ek D (qt b1 D.l1i1 its1.toArray) (qt b2 D.l2i2 its2.toArray) hz hTI hTO ⟨h1,q1⟩ ⟨h2,q2⟩ (by simpa using e1) (by simpa using e2) (Q:=fun v s'=>∃h',v=.ref s.heap.objs.size∧s'={ s with heap:=h' }∧IsZip h' z TI TO (rawInt s.heap.objs.size)∧IsPair h' TO u1 u2∧fW b1 i1 l1 (i+1) h'∧fW b2 i2 l2 (i+1) h'∧IsPair h' s.heap.objs.size u1 u2∧(∀c o,c≠z->c≠TO->c≠i1->c≠i2->s.heap.get? c=some o->h'.get? c=some o)) (E:=fun _ _=>False)
   fun h' a1 a2 a3 a4 a5 a6 a7=>⟨h',rfl,rfl,a1,a2,a3.1,a4.1,a5,a7⟩) (fun fin s' q=>?_) fun _ _ q=>q.elim)
  obtain⟨v,rfl,h',rfl,rfl,a1,a2,a3,a4,a5,a7⟩:=q
  refine⟨_,rfl,_,rfl,wpAny_letOwnedTupleGo_zip a1 fun h2' hz' hs'=>?_⟩
  have lt:z<s.heap.objs.size:=Heap.lt_size hz
  have kk:∀b o,b∉[z,TI,TO,i1,i2]->s.heap.get? b=some o->h2'.get? b=some o:=fun b o hb q=>hs'.extBut _ _ (fun e=>hb (by simp[e])) (a7 b o (fun e=>hb (by simp[e])) (fun e=>hb (by simp[e])) (fun e=>hb (by simp[e])) (fun e=>hb (by simp[e])) q)
  have fresh:H s.heap.objs.size=none:=I.hok.fresh (Nat.le_refl _)
  have I1:Inv X pins σ H { s with heap:=h2',toks:=s.toks }:=I.turnedL kk hf (fun b hb=>(hf b hb).2.1)
  have pr:IsPair h2' s.heap.objs.size u1 u2:=hs'.extBut _ _ (Nat.ne_of_gt lt) a5
  have nw:ObjOk X.prog X.w (upd H s.heap.objs.size (.tup [x,y])) h2' s.heap.objs.size (.tup [x,y]):=⟨by show 2≤sizeLine;decide,[u1,u2],.cons ru1 (.cons ru2 .nil),⟨_,pr,rfl,_,rfl⟩⟩
  have nfp:∀b∈[z,TI,TO,i1,i2],b≠s.heap.objs.size:=fun b hb e=>by
   obtain⟨o,ho,_⟩:∃o,s.heap.get? b=some o∧True:=by
    simp only[List.mem_cons,List.mem_nil_iff,or_false] at hb
    rcases hb with rfl | rfl | rfl | rfl | rfl
    ·exact⟨_,hz,trivial⟩
    ·exact⟨_,hTI,trivial⟩
    ·exact⟨_,hTO,trivial⟩
    ·obtain⟨o,q,_⟩:=h1.obj;exact⟨o,q,trivial⟩
    ·obtain⟨o,q,_⟩:=h2.obj;exact⟨o,q,trivial⟩
   exact absurd (Heap.lt_size ho) (by rw[e];exact Nat.lt_irrefl _)
  refine⟨.ref s.heap.objs.size,upd H s.heap.objs.size (.tup [x,y]),?_,rfl,⟨_,fresh,rfl,fun xs' ys' q1' q2'=>⟨x,y,by rw[I.seqS_inj q1' s1];exact hx,by rw[I.seqS_inj q2' s2];exact hy,rfl⟩⟩,⟨hz',?_,⟨u1,u2,hs'.extBut _ _ D.TOz a2⟩,a3.keep fun o q=>hs'.extBut _ _ D.i1z q,a4.keep fun o q=>hs'.extBut _ _ D.i2z q⟩,fun b hb=>by rw[upd_ne (nfp b hb)];exact (hf b hb).1⟩
  ·exact I.turnedLay (t':=s.toks) kk hf (Nat.le_refl _) nw
  ·exact hs'.extBut _ _ D.TIz (a7 _ _ D.TIz D.TITO D.TIi1 D.TIi2 hTI)
 done:=by
  intro X hP hw hK hc i pins s σ H E I hf st hg
  subst hP hw hK
  obtain⟨hz,hTI,⟨a,c,hTO⟩,h1,h2⟩:=st
  obtain⟨xs,ys,s1,s2,hend⟩:=hg
  obtain⟨its1,r1,q1,_⟩:=I.seqS s1
  obtain⟨its2,r2,q2,_⟩:=I.seqS s2
  have hend':its1.toArray[i]?=none∨its2.toArray[i]?=none:=hend.imp (fun q=>by simpa using r1.none_of q) fun q=>by simpa using r2.none_of q
  refine qT hz (G3 (show X.A.in1.handled=none from I.ok.hd hc) D (qt b1 D.l1i1 its1.toArray) (qt b2 D.l2i2 its2.toArray) hz hTI hTO ⟨h1,q1⟩ ⟨h2,q2⟩ hend' fun h' e kk he=>?_)
  obtain⟨o,ho,hco⟩:=he
  exact⟨o,e,rfl,ho,hco,rfl,I.turnedL (t':=s.toks) (fun b o hb q=>kk b o (fun e=>hb (by simp[e])) (fun e=>hb (by simp[e])) (fun e=>hb (by simp[e])) (fun e=>hb (by simp[e])) q) hf (fun b hb=>(hf b hb).2.1)⟩
 self:=fun _ _ _ _ _ st h=>wpAny_pyIter_zip st.1 h
theorem Ae:bootBuiltins "list"=some (.type "list"):=by decide +kernel
theorem vO:∀ (vs:List Value) (k:Nat),(∀ (j:Nat) v,vs[j]?=some v->∃ t,v=.int ((k + j:Nat):Int) t)->Vals ((List.range' k vs.length).map fun i:Nat=>V.int (i:Int)) vs
 |[],k,_=>.nil
 | v::vs,k,h=>by
   have h0:=h 0 v rfl
   have ih:=vO vs (k+1) fun j u e=>by
    have:=h (j+1) u (by simpa using e)
    rw[show k+1+j=k+(j+1) by lia];exact this
   rw[List.length_cons,List.range'_succ,List.map_cons]
   exact .cons h0 ih
section
variable{X:Cx}
def Ob(ta:TA):TE:=fun σ H Q=>ta σ H fun vs H1=>∃j:Int,vs=[.int j]∧j≤2^20∧-(2^62)≤j∧∀l,H1 l=none->Q (.ref l) (upd H1 l (.lst ((List.range j.toNat).map fun i:Nat=>V.int (i:Int))))
theorem Dq (hc:X.calm=true) (hgL:Gl X "list") (hmL:X.mg "list"=none) (hg:Gl X "range") (hm:X.mg "range"=none) (ha:PA X [a] ta) (hs:notStar a=true:=by rfl) :
  PE X (.Call (.Name "list" p1) [.Call (.Name "range" p2) [a] [] pos2] [] pos1) (Ob ta):=by
 intro pins s σ H Q I h
 have hst:starEach [Expr.Call (.Name "range" p2) [a] [] pos2] X.env=(false,eval (.Call (.Name "range" p2) [a] [] pos2) X.env)::starEach [] X.env:=bC rfl
 refine Call_ (ld_blt I hgL hmL Ae (PyProof.Rows.callWith_type1 ?_ hst rfl))
 rw[hst]
 show wpAny _ _ (spliced ((false,eval (.Call (.Name "range" p2) [a] [] pos2) X.env)::[])) _ _ s
 refine Calls.spliced_cons ?_
 refine Call_ (ld_blt I hg hm boot_range (PyProof.Rows.callWith_type1 (thn (ha pos2 pins s σ H _ I h) fun us s1 ⟨vs,H1,I1,r1,q1⟩=>?_) (bC hs) rfl))
 obtain⟨j,e,q1,q2,q⟩:=q1
 subst e
 cases r1 with
 | cons r rr=>
   cases rr
   obtain⟨t,rfl⟩:=r
   refine call_range_1 ?_
   refine Calls.spliced_nil ?_
   have rs:Builtin.Range.rangeSize 0 j 1=((j.toNat:Nat):Int):=by rw[rangeSize_one];split<;>lia
   refine call_list_range (n:=j.toNat) (I1.ok.hd hc) (IsRange.new ..) (small_one (by lia) (by lia) q2 (by lia)) rs (by lia) fun h' tk acc c k1 k2 k3=>?_
   have vl:Vals ((List.range j.toNat).map fun i:Nat=>V.int (i:Int)) acc.toList:=by
    have:=vO acc.toList 0 fun i v e=>by
     obtain⟨t,rfl⟩:=k3.2 i v (by simpa using e)
     exact⟨t,by congr 1;lia⟩
    rw[List.range_eq_range']
    rw[show acc.toList.length=j.toNat by simpa using k3.1] at this
    exact this
   refine⟨.ref _,upd H1 _ (.lst ((List.range j.toNat).map fun i:Nat=>V.int (i:Int))),?_,rfl,q _ (I1.hok.fresh ?_)⟩
   ·refine I1.turnedLay (ch:=[]) (t':=tk) (fun b o _ e=>k1 b o (Heap.get?_push_of_some _ e)) (fun b hb=>nomatch hb) ?_ ⟨?_,acc.toList,c,vl,k2⟩
    ·rw[Heap.size_push];lia
    ·rw[List.length_map,List.length_range];show _≤2^24;lia
   ·rw[Heap.size_push];lia
end
end L2
namespace L2
open PySem PySem.Spec PyProof.Rows
open PySem.AutoSeq1 (wpAny_loadPart')
open PySem PySem.Spec PyProof.Rows
end L2
namespace L2
open PySem PySem.Spec PyProof.Rows
end L2
namespace L2
open PySem PySem.Spec
end L2
namespace L2
open PySem PySem.Spec PyProof.Rows
abbrev NT:=Int×List Int
def Nh(k:NT):Int:=reduceHash (Builtin.Tuple.tupleHashOf [hashInt k.1,reduceHash (Builtin.Tuple.tupleHashOf (k.2.map hashInt))])
def O5(x:NT×Addr×Addr):DictEntry:=⟨Nh x.1,.ref x.2.1,.ref x.2.2⟩
def Qi(d:Addr)(xs:List (NT×Addr×Addr)):HO:=.ext fun h=>(∃o es ep,h.get? d=some o∧o.ExactDict∧o.data=.dict es ep∧es.toList=xs.map O5)∧(d==sysModules)=false∧xs.length≤sizeLine
end L2
namespace LS
open PySem
end LS
namespace LS
open PySem PySem.Spec PyProof.Rows
end LS
namespace L2
open PySem PySem.Spec PyProof.Rows LS
end L2
namespace LS
open PySem PySem.Spec PyProof.Rows
end LS
namespace L2
open PySem PySem.Spec PyProof.Rows LS
end L2
namespace L2
open PySem PySem.Spec PyProof.Rows
end L2
namespace L2
open PySem PySem.Spec PyProof.Rows LS
end L2
namespace L2
open PySem PySem.Spec PyProof.Rows
theorem Ad (l:List Value) (h:TriplesOk l) (q:codeAmong pos (l++[rawInt a,rawInt b,c])=some cv):codeAmong pos l=some cv∨cv=c:=by
 fun_induction TriplesOk l with
 |case1=>
   simp only[List.nil_append,codeAmong,rawInt] at q
   split at q
   ·exact .inr (Option.some.inj q).symm
   ·cases q
 |case2 a' t b' u x rest ih=>
   simp only[List.cons_append,codeAmong] at q ⊢
   split at q
   ·rename_i hc;rw[if_pos hc];exact .inl q
   ·rename_i hc;rw[if_neg hc];exact ih h q
 |case3 l h1 h2=>exact h.elim
theorem RecAt.mono(r:RecAt H v)(f:∀b o,H b=some (.frz o (.own b))->H' b=some (.frz o (.own b))):RecAt H' v:=
 let ⟨c,o,fs,q,t,g1,g2,g3⟩:=r;⟨c,o,fs,q,t,g1,f c o g2,g3⟩
theorem RecAt.rec_(r:RecAt H v)(ok:HOk P w H h):∃q,h.CodeRec v q:=by
 obtain⟨c,o,fs,q,t,g1,g2,g3,g4⟩:=r
 exact⟨q,c,o,fs,t,g1,(ok c _ g2).1,g3,g4⟩
abbrev tL(qual:Str)(params:Arguments)(body:Expr)(scope:Scope)(cl:List (Str×Addr))(pm cv ctv:Value):Obj:=
 { cls:=.type "function",data:=.func (PySem.W.kla_fn "<lambda>" qual params body scope cl pm cv ctv) }
def pP(H:Hp)(g:Addr)(params:Arguments)(body:Expr)(scope:Scope)(cl:List (Str×Addr)):Prop:=
 ∃qual pm cv ctv,H g=some (.frz (tL qual params body scope cl pm cv ctv) (.own g))∧RecAt H cv
theorem pP.mono(r:pP H g params body scope cl)(f:∀b o,H b=some (.frz o (.own b))->H' b=some (.frz o (.own b))):pP H' g params body scope cl:=
 let ⟨qual,pm,cv,ctv,g1,g2⟩:=r;⟨qual,pm,cv,ctv,f g _ g1,g2.mono f⟩
def LR(P:Addr)(params:Arguments)(body:Expr)(scope:Scope)(cl:List (Str×Addr)):TE:=fun _ H Q=>
 (∃ps,H P=some (.tbl ps))∧∀g H1,H g=none->Same H H1->pP H1 g params body scope cl->Q (.ref g) H1
theorem K7 (hcd:X.env.code=.ref c) (C:PySem.W.CodeHd X.base c P) (hP:mainGlobals≠P) (B:X.base.BuiltinsAt X.mg P)
  (hcl:closureFor scope X.env=pure cl) (hdef:defaultsOf params X.env=([],[]):=by rfl):PE X (.Lambda params body scope pos) (LR P params body scope cl):=by
 intro pins s σ H Q I h
 obtain⟨⟨ps0,hT⟩,q⟩:=h
 obtain⟨ps,hP',tr,rc⟩:=I.hok P _ hT
 refine PySem.W.kla_eval hdef ?_
 have hg:s.heap.Ns mainGlobals X.mg:=I.ok.mod.glob.keeps I.bk
 have hb:s.heap.BuiltinsAt X.mg P:=let ⟨bm,o,a1,a2,a3,a4,a5,r⟩:=B;⟨bm,o,a1,a2,a3,a4,I.bk _ _ a5,r⟩
 cases hq:codeAmong pos ps.toList with
 | none=>
   refine PySem.W.kla_makeFunction hcl I.ok.glob hg hcd (C.keeps I.bk) hP' tr hq hP hb fun c' ctv h' tk hx hge hlt hrec htb=>?_
   obtain⟨c2,oc,vs,t,e2,hoc,hd,hv⟩:=hrec
   cases e2
   have fc:H c'=none:=I.hok.fresh hge
   have fg:H h'.objs.size=none:=I.hok.fresh (Nat.le_trans hge (Nat.le_of_lt hlt))
   have ncg:c'≠h'.objs.size:=Nat.ne_of_lt hlt
   let fo:Obj:=tL (X.env.qual++"<lambda>") params body scope cl ((X.mg "__name__").getD .none) (.ref c') ctv
   let H1:Hp:=upd (upd H c' (.frz oc (.own c'))) h'.objs.size (.frz fo (.own h'.objs.size))
   have S:Same H H1:=fun b o e=>by
    show upd (upd H c' _) h'.objs.size _ b=_
    rw[upd_ne (ne_of_none e fg),upd_ne (ne_of_none e fc)];exact e
   have kp:∀b o,b≠P->s.heap.get? b=some o->(h'.push fo).get? b=some o:=fun b o hb e=>Heap.get?_push_of_some _ (hx b o hb e)
   have nP:∀b,H b=none->b≠P:=fun b n z=>by rw[z,hT] at n;cases n
   have g1:H1 h'.objs.size=some (.frz fo (.own h'.objs.size)):=upd_same
   have c1:H1 c'=some (.frz oc (.own c')):=by
    show upd (upd H c' _) h'.objs.size _ c'=_
    rw[upd_ne ncg];exact upd_same
   have r1:RecAt H1 (.ref c'):=⟨c',oc,vs,_,t,rfl,c1,hd,hv⟩
   have un:Un X.fs [] H H1 s.heap (h'.push fo):=by
    refine⟨fun b o e n _ _=>kp b o (nP b n) e,fun b o e n _ _=>⟨o.slots,kp b o (nP b n) e⟩,fun b o e n _=>?_,fun b o e _=>?_,fun b xs e=>S _ _ e,fun b o u e=>S _ _ e,fun b ps e=>⟨#[],by rw[S _ _ e];simp⟩⟩
    ·have l:=Heap.lt_size e
     show upd (upd H c' _) h'.objs.size _ b=_
     rw[upd_ne (Nat.ne_of_lt (Nat.lt_trans (Nat.lt_of_lt_of_le l hge) hlt)),upd_ne (Nat.ne_of_lt (Nat.lt_of_lt_of_le l hge))];exact n
    ·by_cases hb':b=P
     ·subst hb';exact⟨_,Heap.get?_push_of_some _ htb⟩
     ·exact⟨o,kp b o hb' e⟩
   have hok:HOk X.prog X.w H1 (h'.push fo):=fun b u e=>by
    by_cases bg:b=h'.objs.size
    ·subst bg
     rw[g1] at e;cases e
     exact⟨Heap.get?_push_size _ rfl,_,Heap.get?_push_size _ rfl⟩
    by_cases bc:b=c'
    ·subst bc
     rw[c1] at e;cases e
     exact⟨Heap.get?_push_of_some _ hoc,_,Heap.get?_push_of_some _ hoc⟩
    have e':H b=some u:=by
     have e:upd (upd H c' _) h'.objs.size _ b=some u:=e
     rw[upd_ne bg,upd_ne bc] at e;exact e
    by_cases bP:b=P
    ·subst bP
     rw[hT] at e';cases e'
     refine⟨_,Heap.get?_push_of_some _ htb,?_,fun pos' cv' z=>?_⟩
     ·rw[Array.toList_append];exact TriplesOk_snoc _ _ _ _ tr
     ·rw[Array.toList_append] at z
      rcases Ad _ tr z with z | z
      ·exact (rc _ _ z).mono fun b o e=>S _ _ e
      ·rw[z];exact r1
    ·refine (I.hok b u e').stay (fun d v hd' q'=>kp d v ?_ q') (fun d z=>S _ _ z) (fun d xs z=>S _ _ z) fun d o z=>S _ _ z
     rcases hd' with z | z
     ·rw[z];exact bP
     ·intro y;rw[y,hT] at z;cases z
   exact⟨.ref h'.objs.size,H1,I.un (t':=tk) un hok,rfl,q _ H1 fg S ⟨_,_,_,_,g1,r1⟩⟩
 |some cv=>
   have rcv:=rc _ _ hq
   refine PySem.W.kla_makeFunctionHit hcl I.ok.glob hg hcd (C.keeps I.bk) hP' tr hq hb fun ctv h' tk hk hsz=>?_
   have fg:H h'.objs.size=none:=I.hok.fresh hsz
   have S:Same H (upd H h'.objs.size (.frz (tL (X.env.qual++"<lambda>") params body scope cl ((X.mg "__name__").getD .none) cv ctv) (.own h'.objs.size))):=same_new fg _
   refine⟨.ref h'.objs.size,_,I.laid (t':=tk) (o:=.frz (tL (X.env.qual++"<lambda>") params body scope cl ((X.mg "__name__").getD .none) cv ctv) (.own h'.objs.size)) (fun b u e=>Heap.get?_push_of_some _ (hk b u e)) hsz ⟨Heap.get?_push_size _ rfl,_,Heap.get?_push_size _ rfl⟩,rfl,q _ _ fg S ⟨_,_,_,_,upd_same,rcv.mono fun b o e=>S _ _ e⟩⟩
def oF(P:Program)(w:World)(K:PySem.W.Frag)(mg:Str->Option Value)(base:Heap)(N:List Str)(qual:Str)(scope:Scope)(g:Addr)(cd:Value)(cl:List (Str×Addr))(A:Around)(outer:List Env)(s:Shared)(H:Hp)(E:XK):Cx where
 prog:=P
 w:=w
 K:=K
 mg:=mg
 base:=base
 A:=A.deeper (PySem.W.envX qual scope s.heap.objs.size g cd cl)
 N:=N
 s₀:=s
 H₀:=H
 env:=PySem.W.envX qual scope s.heap.objs.size g cd cl
 outer:=outer
 stack:=PySem.W.envX qual scope s.heap.objs.size g cd cl::outer
 ex:=[]
 calm:=true
 fn:=fun _=>false
 pn:=[]
 xe:=fun e s'=>wpAny (model P w) (A.deeper (PySem.W.envX qual scope s.heap.objs.size g cd cl)) (leaving (PySem.W.envX qual scope s.heap.objs.size g cd cl) e) (fun _ s''=>cj P w outer H s E e s'') (fun e' s''=>cj P w outer H s E e' s'') s'
structure LamOk(scope:Scope)(cl:List (Str×Addr))(fr:List Str):Prop where
 kind:scope.kind=.function
 co:scope.isCoroutine=false
 gen:scope.isGenerator=false
 cell:∀y∈scope.names,y.2≠.cell
 nd:fr.Nodup
 has:∀y,(scope.names.lookup y=some .cell∨scope.names.lookup y=some .free)->∃c,cl.lookup y=some c
 fre:∀y∈fr,scope.names.lookup y=some .free
structure CellsAt(cl:List (Str×Addr))(fr:List Str)(σ:St)(H:Hp)(h:Heap):Prop where
 inj:∀x y c,cl.lookup x=some c->cl.lookup y=some c->x=y
 cell:∀x c,cl.lookup x=some c->∃v,h.IsCell c v
 free:∀x c,cl.lookup x=some c->H c=none
 val:∀(i:Nat) x v,fr[i]?=some x->σ[i]?=some (some v)->∃u c,RelV v u∧cl.lookup x=some c∧h.IsCell c (some u)
 len:σ.length=fr.length
section
variable{P:Program}{w:World}{K:PySem.W.Frag}{mg:Str->Option Value}{base:Heap}{A:Around}{outer:List Env}{s:Shared}{H:Hp}{E:XK}{Q:VK}{k:Nat}{g:Addr}{params:Arguments}{body:Expr}{scope:Scope}{cl:List (Str×Addr)}{fr:List Str}{σ:St}
theorem Ib(T:LamOk scope cl fr)(e0:Env0 P w K mg base A outer s H)(hd:A.handled=none)(C:CellsAt cl fr σ H s.heap)(hns:h1.Ns s.heap.objs.size m)(hk:∀b o,s.heap.get? b=some o->h1.get? b=some o) :
  Inv (oF P w K mg base fr qual scope g cd cl A outer s H E) [] σ H { s with heap:=h1,toks:=tk }:=by
 have noA:∀b:Addr,b∉(oF P w K mg base fr qual scope g cd cl A outer s H E).ex:=fun b z=>absurd (show b∈([]:List Addr) from z) (by simp)
 refine⟨⟨e0.mod,T.kind,rfl,rfl,Nat.le_refl _,C.inj,T.has,fun y c z _=>absurd (show false=true from z) Bool.false_ne_true,fun _=>hd,Around.frames_deeper e0.frames,.inr ⟨rfl,rfl⟩,fun b z=>absurd z (noA b),e0.bs,e0.bsz,fun b _ _=>noA b,fun b z=>absurd z (noA b),e0.funs,e0.frf⟩,
  rfl,e0.bare,Un.kept hk,⟨m,hns,fun i y v h1 h2 h3=>?_⟩,fun y c h=>?_,e0.hok.fresh (Nat.le_refl _),fun y c h=>C.free y c h,fun p hp=>absurd (show p∈([]:List (Addr×Obj)) from hp) (by simp),e0.hok.kept hk,C.len⟩
 ·obtain⟨u,c,r,e,z⟩:=C.val i y v h1 h2
  exact⟨u,r,.inr ⟨.inr (T.fre y (List.mem_of_getElem? h1)),c,e,z.keeps hk⟩⟩
 ·obtain⟨v,z⟩:=C.cell y c h
  exact⟨v,z.keeps hk⟩
theorem Jf(T:LamOk scope cl fr)(e0:Env0 P w K mg base A outer s H)(hr:Room (k+1) A)(L:pP H g params body scope cl)(C:CellsAt cl fr σ H s.heap)
  (hbind:∀qual pm cv ctv,bindArgs (PySem.W.kla_fn "<lambda>" qual params body scope cl pm cv ctv) ⟨[],[]⟩=pure [])
  (hbody:∀qual cd,Room k (A.deeper (PySem.W.envX qual scope s.heap.objs.size g cd cl))->∃t,PE (oF P w K mg base fr qual scope g cd cl A outer s H E) body t∧t σ H Q) :
  codeAny (model P w) A (.call (.ref g) ⟨[],[]⟩) (CR (cj P w) outer P w H s Q E) s:=by
 obtain⟨qual,pm,cv,ctv,hg,rc⟩:=L
 obtain⟨q,hcd⟩:=rc.rec_ e0.hok
 obtain⟨ho,_⟩:=e0.hok g _ hg
 have lim:s.heap.NoLimit:=e0.mod.nolimit.keeps fun b o e=>(e0.bs b o e).1
 obtain⟨c,oc,vs,tq,hc,hoc,hdc,hq⟩:=hcd
 subst hc
 refine codeAny_of_tree ?_
 show wpAny _ A.in1 (callAny (.ref g) ⟨[],[]⟩) _ _ s
 simp only[callAny]
 refine wpAny_bind (wpAny_load ho ?_)
 simp only[callFunction,T.co,T.gen]
 refine wpAny_bind (m:=field (.ref c) 1) (wpAny_field hoc hdc hq (wpAny_bind (wpAny_pure ?_)))
 rw[hbind]
 refine wpAny_bind (wpAny_pure (wpAny_bind (wpAny_newFunctionEnv T.cell (fun x hx=>by cases hx) (fun h1 hns hsb=>?_) T.kind)))
 have hk:∀b o,s.heap.get? b=some o->h1.get? b=some o:=fun b o e=>hsb.extBut b o (Nat.ne_of_lt (Heap.lt_size e)) (Heap.get?_push_of_some _ e)
 refine wpAny_bind (wpAny_enterFrame (lim.keeps hk) hr.depth (wpAny_pure (And.intro rfl ?_)))
 show codeAny _ _ (.expr body (PySem.W.envX q scope s.heap.objs.size g (.ref c) cl)) _ _
 obtain⟨t,ht,hq⟩:=hbody q (.ref c) (hr.deeper _)
 have I:Inv (oF P w K mg base fr q scope g (.ref c) cl A outer s H E) [] σ H { s with heap:=h1,toks:=s.toks+([]:List (Str×Value)).length }:=Ib T e0 hr.hd C hns hk
 refine PySem.W.kla_codeExpr (wpAny_mono (ht [] _ σ H _ I hq) (fun u s' hs=>?_) fun e s' hs=>hs)
 obtain⟨v,H',J,rv,q⟩:=hs
 exact⟨v,H',J.os,J.bare,J.base,J.hok,rv,q⟩
theorem Hr:Passes (cj P w) (oF P w K mg base N qual scope g cd cl A outer s H E) E:=by
 intro pins σ H1 s1 e s' I hf
 obtain⟨x,C,a0,H',B,rfl,os,bare,un,hok,fl,ci,cii,q⟩:=hf
 have J:Inv (oF P w K mg base N qual scope g cd cl A outer s H E) pins σ H' s':=I.call' (ch:=[]) os un hok bare (fun b z=>absurd z (by simp))
 have hfr:(oF P w K mg base N qual scope g cd cl A outer s H E).A.frames=some ((oF P w K mg base N qual scope g cd cl A outer s H E).env::outer):=I.ok.frames
 have hfs:∀b∈frs outer,∃o,s'.heap.get? b=some o∧∀vs,o.data≠.fields vs:=fun b hb=>(fl.2.2.1.2.2.mem hb).2
 have hfrm:(oF P w K mg base N qual scope g cd cl A outer s H E).env.frame=some (oF P w K mg base N qual scope g cd cl A outer s H E).env.locals:=rfl
 have cov:∀b o,s.heap.get? b=some o->b∉frs outer->∃o',B.get? b=some o':=fun b o e hb=>by
  obtain⟨o1,h1⟩:=I.base.there b o e (show b∉([]:List Addr) by simp)
  refine cii b o1 h1 ?_
  show b∉frs ((oF P w K mg base N qual scope g cd cl A outer s H E).env::outer)
  rw[rF hfrm]
  intro hm
  rcases List.mem_cons.mp hm with rfl | hm
  ·exact absurd (Heap.lt_size e) (Nat.not_lt.mpr I.ok.above)
  ·exact hb hm
 show wpAny _ _ (leaving _ (.ref x)) _ _ s'
 refine wpAny_leaves_onW hfr rfl fl fun h' fl' up=>?_
 exact⟨x,C,a0,H',B,rfl,J.os,bare,qu J.base fl.1 fl'.1 up hfs cov,ni hok fl.1 fl'.1 ci,fl',ci,cov,q⟩
theorem Je {x:Str}{st:Stmt}{f:Addr}{fd:FuncData}{N ps:List Str}{us:List Value}{vs:List V} (F:Fun K x x st f fd) (S:FnScope N ps (defScope st)) (e0:Env0 P w K mg base A outer s H) (hr:Room (k + 1) A)
  (hb:∀(kV doc pm:Value) (an:Option Addr) (cdv ct:Value),bindArgs (PySem.W.fnOf x x (defArgs st) (defBody st) (defScope st) .none kV doc pm an cdv ct) ⟨us,[]⟩=pure (ps.zip us)) (hl:vs.length=ps.length) (r:Vals vs us)
  (hbody:∀cdv,Room k (A.deeper (envOfC x (defScope st) s.heap.objs.size f cdv))->∃t,PSs (bO P w K mg base N x (defScope st) f cdv A outer s H E) (defBody st) t∧t { nx:=fun _ H'=>Q .non H',rt:=Q } (start N vs) H) :
  codeAny (model P w) A (.call (.ref f) ⟨us,[]⟩) (CR (cj P w) outer P w H s Q E) s:=by
 obtain⟨oc,od,kV,doc,pm,an,cdv,ct,osl,rfl,lk,hcd⟩:=F.ex
 have KX:K.In s.heap:=e0.mod.kin.keeps fun b o e=>(e0.bs b o e).1
 have lim:s.heap.NoLimit:=e0.mod.nolimit.keeps fun b o e=>(e0.bs b o e).1
 have hkind:∀y∈ps.zip us,(defScope st).names.lookup y.1=some .local∨((defScope st).names.lookup y.1=some .cell∧((cellsFrom (s.heap.objs.size+1) (defScope st).names []).lookup y.1).isSome=true):=fun⟨n,v⟩ hy=>by
  rcases S.par n (List.of_mem_zip hy).1 with q | q
  ·exact .inl q
  ·exact .inr ⟨q,PySem.W.cellsFrom_some _ _ _ (.inl q)⟩
 refine codeAny_call_function hr.depth (KX _ _ lk) rfl S.co S.gen rfl (PySem.W.codeRec_of KX hcd) ?_
 rw[hb]
 refine wpAny_pure (wpAny_newFunctionEnv_cells S.kind hkind fun env he s1 x=>?_)
 subst he
 refine⟨lim.keeps x.toInCall.keep,codeAny_func ?_⟩
 obtain⟨t,ht,hq⟩:=hbody cdv (hr.deeper _)
 have I:=inv_start (CX:=cj P w) (E:=E) S hr.hd e0 hl r x
 refine wpAny_mono (ht [] s1 (start N vs) H _ I hq) (fun fl s' hs=>?_) fun e s' hs=>hs
 cases fl with
 |ret u=>
   obtain⟨v,σ',H',J,rv,q⟩:=hs
   exact⟨v,H',J.os,J.bare,J.base,J.hok,rv,q⟩
 |next=>
   obtain⟨σ',H',J,q⟩:=hs
   exact⟨V.non,H',J.os,J.bare,J.base,J.hok,(rfl:RelV .non Value.none),q⟩
 |brk=>
   obtain⟨_,_,_,q⟩:=hs
   exact False.elim q
 |cont=>
   obtain⟨_,_,_,q⟩:=hs
   exact False.elim q
end
structure TabD(mg:Str->Option Value)(base:Heap)(c P:Addr):Prop where
 hd:PySem.W.CodeHd base c P
 ne:mainGlobals≠P
 bl:base.BuiltinsAt mg P
theorem CW {P:Program}{w:World}{K:PySem.W.Frag}{mg mb:Str->Option Value}{CX:CXT}{k:Nat}{fa a:Addr}{fd:FuncData}{x:Str}{sp:Sp}{s₁:Shared}{vs:List Value}{ns:List Int}{tabs:List (Addr×Addr)}
  (KX:K.In s₁.heap) (hns:s₁.heap.Ns mainGlobals mg) (hb:s₁.heap.Ns builtinsNs mb) (hbb:∀x:Str,x≠"__name__"->mb x=bootBuiltins x) (hlim:s₁.heap.NoLimit) (hg:s₁.gens=#[])
  (ha:s₁.heap.get? a=some { cls:=.type "list",data:=.seq vs.toArray }) (hi:IntsAre vs ns) (hl:ns.length≤sizeLine) (hr:Room k callerA) (hT:PySem.W.TabsAt tabs s₁.heap) (hKT:∀q∈tabs,K.lookup q.2=none) (hKA:K.lookup a=none)
  (hB:∃bm ob,mg "__builtins__"=some (.ref bm)∧bm≠builtinsNs∧s₁.heap.get? bm=some ob∧ob.cls=.type "module"∧ob.dict=some builtinsNs∧ob.data=.plain)
  (F:∀base:Heap,K.In base->base.Ns mainGlobals mg->(∀q∈tabs,TabD mg base q.1 q.2)->FnOk P w K mg base CX k fa fd [x] sp) (hbind:∀(s:Shared) (u:Value),BindsTo s fd ⟨[u],[]⟩ [(x,u)])
  (hsp:∀H:Hp,Rd H a (.lst (ns.map V.int))->(∀q∈tabs,H q.2=some (.tbl #[]))->sp [.ref a] H (fun v _=>v=.bl true) fun _ _ _=>False)
  (hCX:∀H e s',CX [] H s₁ (fun _ _ _=>False) e s'->False) :
  codeAny (model P w) callerA (.call (.ref fa) ⟨[.ref a],[]⟩) (fun r s'=>r=.ok (.ret (.bool true))∧OldK s₁.heap s'.heap∧s'.os=s₁.os∧AllBare s'.gens) s₁:=by
 have rv:=vals_ints hi
 have lenV:=hi.length
 let lo:Obj:={ cls:=.type "list",data:=.seq vs.toArray }
 let H:Hp:=fun b=>if b∈tabs.map (·.2) then some (.tbl #[]) else if b=a then some (.frz lo (.lst (ns.map V.int))) else none
 have tabO:∀b,b∈tabs.map (·.2)->s₁.heap.get? b=some (PySem.W.tabObj #[]):=fun b hb'=>by
  obtain⟨q,hq,rfl⟩:=List.mem_map.mp hb'
  exact (hT q hq).2
 have naT:a∉tabs.map (·.2):=fun z=>by
  have:=tabO a z
  rw[ha] at this;cases this
 have H1:∀b,b∈tabs.map (·.2)->H b=some (.tbl #[]):=fun b z=>if_pos z
 have H2:H a=some (.frz lo (.lst (ns.map V.int))):=(if_neg naT).trans (if_pos rfl)
 have H3:∀b,b∉tabs.map (·.2)->b≠a->H b=none:=fun b h1 h2=>(if_neg h1).trans (if_neg h2)
 have free:∀{b:Addr}{o:Obj},s₁.heap.get? b=some o->o≠PySem.W.tabObj #[]->o≠lo->H b=none:=fun {b o} e h1 h2=>H3 b (fun z=>h1 (by have:=tabO b z;rw[e] at this;exact Option.some.inj this)) (fun z=>h2 (by subst z;rw[ha] at e;exact (Option.some.inj e).symm))
 have hok:HOk P w H s₁.heap:=fun b u e=>by
  by_cases z:b∈tabs.map (·.2)
  ·rw[H1 b z] at e;cases e
   exact⟨#[],tabO b z,trivial,fun pos cv q=>by cases q⟩
  by_cases y:b=a
  ·subst y
   rw[H2] at e;cases e
   exact⟨ha,by rw[List.length_map];exact hl,vs,_,rv,ha⟩
  ·rw[H3 b z y] at e;cases e
 have base_of:∀{b:Addr}{o:Obj},s₁.heap.get? b=some o->o≠PySem.W.tabObj #[]->o≠lo->(hidT s₁.heap H).get? b=some o:=fun e h1 h2=>hidT_get e (free e h1 h2)
 have nsK:∀{b:Addr}{m:Str->Option Value},s₁.heap.Ns b m->(hidT s₁.heap H).Ns b m:=fun {b m} ⟨o,es,ep,e,d,r⟩=>⟨o,es,ep,base_of e (fun z=>by rw[z] at d;cases d) (fun z=>by rw[z] at d;cases d),d,r⟩
 have hKb:K.In (hidT s₁.heap H):=fun b o e=>hidT_get (KX b o e) (H3 b (fun z=>by
  obtain⟨q,hq,rfl⟩:=List.mem_map.mp z
  rw[hKT q hq] at e;cases e) fun z=>by rw[z,hKA] at e;cases e)
 have hM:Mod K mg (hidT s₁.heap H):=⟨hKb,nsK hns,⟨mb,nsK hb,hbb⟩,let ⟨mc,h1,h2⟩:=hlim;⟨mc,nsK h1,h2⟩⟩
 have e0:Env0 P w K mg (hidT s₁.heap H) callerA [] s₁ H:=⟨rfl,hM,fun b o e=>of_hidT e,Nat.le_of_eq (hidT_size _ _),trivial,fun b hb=>absurd (show b∈([]:List Addr) from hb) (by simp),hok,.of_eq hg⟩
 have hTD:∀ q∈tabs,TabD mg (hidT s₁.heap H) q.1 q.2:=fun q hq=>by
  obtain⟨o,vs',file,tf,flags,tg,inF,text,tt,e1,r1,r⟩:=(hT q hq).1
  have eP:=(hT q hq).2
  refine⟨⟨o,vs',file,tf,flags,tg,inF,text,tt,base_of e1 (fun z=>by rw[z] at r1;cases r1) (fun z=>by rw[z] at r1;simp[lo] at r1),r1,r⟩,fun z=>?_,?_⟩
  ·obtain⟨o',es,ep,e,d,_⟩:=hns
   rw[z,eP] at e;cases e;cases d
  ·obtain⟨bm,ob,b1,b2,b3,b4,b5,b6⟩:=hB
   refine⟨bm,ob,b1,b2,fun z=>?_,fun z=>?_,base_of b3 (fun z=>by rw[z] at b4;cases b4) (fun z=>by rw[z] at b4;simp[lo] at b4),b4,b5,b6⟩
   ·obtain⟨o',es,ep,e,d,_⟩:=hns
    rw[z,e] at b3;cases b3;rw[d] at b6;cases b6
   ·rw[z,eP] at b3;cases b3;cases b4
 refine codeAny_mono ((F _ hKb (nsK hns) hTD).run callerA [] s₁ H ⟨[.ref a],[]⟩ [.ref a] [.ref a] _ _ hr e0 (hbind s₁ (.ref a)) (.cons rfl .nil) (hsp H (.inr ⟨_,H2⟩) fun q hq=>H1 _ (List.mem_map_of_mem hq))) fun r s' h=>?_
 cases r with
 |error e=>exact (hCX H e s' h).elim
 | ok fl=>
   cases fl with
   |next=>exact False.elim h
   |brk=>exact False.elim h
   |cont=>exact False.elim h
   | ret u=>
     obtain⟨v,H',os,bare,un,hok',r',q⟩:=h
     have q':v=.bl true:=q
     subst q'
     obtain rfl:u=Value.bool true:=r'
     have kept:∀b o,s₁.heap.get? b=some o->b∉tabs.map (·.2)->s'.heap.get? b=some o:=fun b o e z=>by
      by_cases y:b=a
      ·subst y
       have z2:=un.frzs b lo _ H2
       obtain⟨e2,_⟩:=hok' b _ z2
       rw[ha] at e;cases e
       exact e2
      ·exact un.keep b o e (H3 b z y) (by intro z;exact absurd (show b∈([]:List Addr) from z) (by simp)) (by simp)
     have grown:∀b,b∈tabs.map (·.2)->∃ps,s'.heap.get? b=some (PySem.W.tabObj ps):=fun b z=>by
      obtain⟨m,e⟩:=un.tbls b _ (H1 b z)
      obtain⟨ps,e2,_⟩:=hok' b _ e
      exact⟨ps,e2⟩
     refine⟨rfl,⟨fun b o e=>?_,fun b o e=>?_⟩,os,bare⟩
     ·by_cases z:b∈tabs.map (·.2)
      ·obtain⟨ps,e2⟩:=grown b z
       obtain⟨q,hq,rfl⟩:=List.mem_map.mp z
       have e3:=(hT q hq).2
       rw[e] at e3
       cases Option.some.inj e3
       exact .inr (.inl ⟨((hT q hq).1.tab (hT q hq).2).isCodeTable,rfl,#[],ps,rfl,by rw[Array.empty_append];exact e2⟩)
      ·exact .inl (kept b o e z)
     ·by_cases z:b∈tabs.map (·.2)
      ·obtain⟨ps,e2⟩:=grown b z
       exact⟨_,e2⟩
      ·exact⟨o,kept b o e z⟩
theorem Fun.codeC{K:PySem.W.Frag}{mg:Str->Option Value}{x:Str}{st:Stmt}{f:Addr}{fd:FuncData}{c P:Addr}{h:Heap}(F:Fun K x x st f fd)(X:K.In h)(G:h.Ns mainGlobals mg)(m:mg x=some (.ref f))(ht:PySem.W.tabIn K x=some (c,P)):fd.code=.ref c:=by
 obtain⟨oc,od,kV,doc,pm,an,cdv,ct,osl,e,lk,_⟩:=F.ex
 exact PySem.W.law_code X G ht m (X _ _ lk) rfl
theorem GZ {l:PySem.W.OpenLaw}{n k:Nat}{q:Program}{loose:List Str}{XP:(Str->Option Value)->Heap->Prop}{YP:World->Heap->Prop}{d:DefRec}{K:Params->PySem.W.Frag}{CX:World->CXT}{sp:List (Addr×Addr)->Sp}{x:Str}{tn:List (Str×Addr×Addr)}
  (hn:l.most=some n) (hn2:n≤sizeLine) (hdf:d.params.defaults=[]) (hr:Room k callerA)
  (hY:∀(w:World) (h:Heap),YP w h->(K w.params).In h) (hnl:∀(w:World) (a:Addr) (o:Obj),(K w.params).lookup a=some o->o.cls≠.type "list")
  (h1:∀t∈tn,((recsOf q).find? (fun e=>e.name==t.1)).isSome=true) (h2:∀(w:World),∀t∈tn,PySem.W.tabIn (K w.params) t.1=some t.2) (h3:∀(w:World),∀t∈tn,(K w.params).lookup t.2.2=none)
  (F:∀ (w:World) (mg:Str->Option Value) (fa:Addr) (h:Heap),(K w.params).In h->h.Ns mainGlobals mg->mg d.name=some (.ref fa)->
    ∃fd:FuncData,(∀(s:Shared) (u:Value),BindsTo s fd ⟨[u],[]⟩ [(x,u)]) ∧
      ∀base:Heap,(K w.params).In base->base.Ns mainGlobals mg->(∀q∈tn.map (·.2),TabD mg base q.1 q.2)->FnOk l.prog w (K w.params) mg base (CX w) k fa fd [x] (sp (tn.map (·.2))))
  (hsp:∀(H:Hp) (a:Addr) (ns:List Int),ns.length≤n->Rd H a (.lst (ns.map V.int))->(∀q∈tn.map (·.2),H q.2=some (.tbl #[]))->sp (tn.map (·.2)) [.ref a] H (fun v _=>v=.bl true) fun _ _ _=>False)
  (hCX:∀(w:World) (H:Hp) (s:Shared) (e:Value) (s':Shared),CX w [] H s (fun _ _ _=>False) e s'->False) :
  PySem.W.WalkO q loose XP YP l.row.toRowW d [] (fun f vs=>PySem.call f vs):=by
 refine Att.attach_call hn hdf fun w s₀ s₁ mg mb fa o pm cd doc a vs ns G Y ho hd hcd hmg hobj hints hlen hg=>?_
 have KX:=hY w _ Y
 obtain⟨fd,hb,hF⟩:=F w mg fa _ KX G.T.g hmg
 have hKA:(K w.params).lookup a=none:=by
  cases z:(K w.params).lookup a with
  |none=>rfl
  |some oa=>
    have e:=KX a oa z
    rw[hobj] at e
    cases e
    exact absurd rfl (hnl w a _ z)
 have hT:PySem.W.TabsAt (tn.map (·.2)) s₁.heap:=fun q hq=>by
  obtain⟨t,ht,rfl⟩:=List.mem_map.mp hq
  obtain⟨d',hd'⟩:=Option.isSome_iff_exists.mp (h1 t ht)
  exact PySem.W.tab_of G.T KX hd' (h2 w t ht)
 exact CW KX G.T.g G.T.b G.T.builtins G.T.nolimit hg hobj hints (Nat.le_trans hlen hn2) hr hT (fun q hq=>by
  obtain⟨t,ht,rfl⟩:=List.mem_map.mp hq
  exact h3 w t ht) hKA G.T.bmain hF hb (fun H hS hH=>hsp H a ns hlen hS hH) fun H e s'=>hCX w H s₁ e s'
open PySem PySem.Spec PyProof.Rows
theorem Ea{K:PySem.W.Frag}{x:Str}{f c P:Addr}{oc occ:Value}{od ocd:Option Addr}{osl ocs:Array (Option Value)}{fd:FuncData}{vs:Array Value}(a:PySem.W.nsIn K mainGlobals x=some (some (.ref f)))(l:K.lookup f=some ⟨oc,od,.func fd,osl⟩)(hc:fd.code=.ref c)
  (l2:K.lookup c=some ⟨occ,ocd,.fields vs,ocs⟩) (h11:vs[11]?=some (.ref P)):PySem.W.tabIn K x=some (c,P):=by
 unfold PySem.W.tabIn
 rw[a]
 simp only[l,hc,l2,h11]
end L2
namespace L2
open PySem PySem.Spec PyProof.Rows
open PySem PySem.Spec PyProof.Rows
open PySem PySem.Spec PyProof.Rows
end L2
namespace L2
open PySem PySem.Spec PyProof.Rows LS
end L2
namespace L2
open PySem PySem.Spec PyProof.Rows
end L2
namespace LB
open PySem PySem.W PyProof.Rows
def aR{α:Type}(o:Nat->Nat->Bool):KasT α->α
 |.ret a=>a
 |.ask i j k=>aR o (k (o i j))
theorem fV:∀(t:KasT α),aR o (t.bind f)=aR o (f (aR o t))
 |.ret _=>rfl
 |.ask i j k=>fV (k (o i j))
structure Ord(K:Type) where
 le:K->K->Prop
 dec:∀a b,Decidable (le a b)
 rfl:∀a,le a a
 trans:∀{a b c},le a b->le b c->le a c
 tot:∀a b,le a b∨le b a
section
variable{K:Type}(R:Ord K)(v:Nat->K)
def ans(i j:Nat):Bool:=!(R.dec (v j) (v i)).decide
def V(p:Array Nat)(i:Nat):K:=v (p.getD i 0)
def SU(p:Array Nat)(n:Nat):Prop:=∀i j,i≤j->j<n->R.le (V v p i) (V v p j)
def DU(p:Array Nat)(n:Nat):Prop:=∀i j,i≤j->j<n->R.le (V v p j) (V v p i)
variable{R v}{p:Array Nat}
theorem vW(h:ans R v i j=true):R.le (v i) (v j):=by
 have n:¬ R.le (v j) (v i):=by simpa[ans] using h
 exact (R.tot _ _).resolve_right n
theorem sE(h:¬ ans R v i j=true):R.le (v j) (v i):=by simpa[ans] using h
theorem lW{p q:Array Nat}{i j:Nat}(h:p[i]?=q[j]?):p.getD i 0=q.getD j 0:=by
 rw[Array.getD_eq_getD_getElem?,Array.getD_eq_getD_getElem?,h]
theorem iU{i j:Nat}(hj:j≤p.size)(k:Nat):V v (kas_rev p i j) k=if i≤k∧k<j then V v p (i+j-1-k) else V v p k:=by
 have h:=getElem?_mirror_all (i:=i) hj k
 unfold V kas_rev
 split
 ·rename_i c;rw[if_pos c] at h;rw[lW h]
 ·rename_i c;rw[if_neg c] at h;rw[lW h]
theorem G9{s d:Nat}(hs:s<p.size)(hd:d≤s)(k:Nat):V v (bubble p s d) k=if k=s-d then V v p s else if s-d<k∧k≤s then V v p (k-1) else V v p k:=by
 have h:=getElem?_bubble hs d hd k
 by_cases c:k=s-d
 ·rw[if_pos c] at h ⊢;exact congrArg v (lW h)
 ·rw[if_neg c] at h ⊢
  by_cases c2:s-d<k∧k≤s
  ·rw[if_pos c2] at h ⊢;exact congrArg v (lW h)
  ·rw[if_neg c2] at h ⊢;exact congrArg v (lW h)
theorem rT(i j:Nat):(kas_rev p i j).Perm p:=mirror_perm _ _ _ _
theorem SU.up(h:SU R v p n)(h1:1≤n)(q:R.le (V v p (n-1)) (V v p n)):SU R v p (n+1):=fun i j hij hj=>by
 by_cases c:j<n
 ·exact h i j hij c
 ·obtain rfl:j=n:=by lia
  by_cases d:i=j
  ·subst d;exact R.rfl _
  ·exact R.trans (h i (j-1) (by lia) (by lia)) q
theorem DU.up(h:DU R v p n)(h1:1≤n)(q:R.le (V v p n) (V v p (n-1))):DU R v p (n+1):=fun i j hij hj=>by
 by_cases c:j<n
 ·exact h i j hij c
 ·obtain rfl:j=n:=by lia
  by_cases d:i=j
  ·subst d;exact R.rfl _
  ·exact R.trans q (h i (j-1) (by lia) (by lia))
theorem wV:∀ (f n:Nat),1≤n->SU R v p n->SU R v p (aR (ans R v) (kas_asc p f n))∧n≤aR (ans R v) (kas_asc p f n)∧aR (ans R v) (kas_asc p f n)≤n + f∧(aR (ans R v) (kas_asc p f n)<n + f->R.le (V v p (aR (ans R v) (kas_asc p f n))) (V v p (aR (ans R v) (kas_asc p f n) - 1)))
 |0,n,_,h=>⟨h,Nat.le_refl _,Nat.le_refl _,fun z=>absurd z (Nat.lt_irrefl _)⟩
 | f + 1,n,h1,h=>by
   by_cases c:ans R v (p.getD n 0) (p.getD (n-1) 0)=true
   ·have e:aR (ans R v) (kas_asc p (f+1) n)=n:=by
     show aR (ans R v) (if ans R v (p.getD n 0) (p.getD (n-1) 0)=true then .ret n else _)=n
     rw[if_pos c];rfl
    rw[e]
    exact⟨h,Nat.le_refl _,by lia,fun _=>vW c⟩
   ·have e:aR (ans R v) (kas_asc p (f+1) n)=aR (ans R v) (kas_asc p f (n+1)):=by
     show aR (ans R v) (if ans R v (p.getD n 0) (p.getD (n-1) 0)=true then .ret n else _)=_
     rw[if_neg c]
    rw[e]
    obtain⟨a,b,d,g⟩:=wV f (n+1) (by lia) (h.up h1 (sE c))
    exact⟨a,by lia,by lia,fun z=>g (by lia)⟩
structure De(R:Ord K)(v:Nat->K)(p₀ p:Array Nat)(n q:Nat):Prop where
 du:DU R v p n
 pm:p.Perm p₀
 le:q+1≤n
 eq:∀k,n-(q+1)≤k->k<n->R.le (V v p k) (V v p (n-1))∧R.le (V v p (n-1)) (V v p k)
theorem De.rev(h:De R v p₀ p n q)(hn:n≤p₀.size):DU R v (kas_rev p (n-(q+1)) n) n∧(kas_rev p (n-(q+1)) n).Perm p₀:=by
 refine⟨fun i j hij hj=>?_,(rT _ _).trans h.pm⟩
 have hn':n≤p.size:=by rw[h.pm.size_eq];exact hn
 have:=h.le
 rw[iU hn',iU hn']
 by_cases a:n-(q+1)≤i∧i<n
 ·rw[if_pos a,if_pos (by lia)]
  exact R.trans (h.eq _ (by lia) (by lia)).1 (h.eq _ (by lia) (by lia)).2
 ·rw[if_neg a]
  by_cases b:n-(q+1)≤j∧j<n
  ·rw[if_pos b];exact h.du _ _ (by lia) (by lia)
  ·rw[if_neg b];exact h.du _ _ hij hj
theorem De.zero(a:DU R v p n)(b:p.Perm p₀)(c:1≤n):De R v p₀ p n 0:=⟨a,b,c,fun k h1 h2=>by
 obtain rfl:k=n-1:=by lia
 exact⟨R.rfl _,R.rfl _⟩⟩
theorem Gb(h:De R v p₀ p n q)(hn:n≤p₀.size):R.le (V v p (n-1)) (V v (kas_rev p (n-(q+1)) n) (n-1)):=by
 have hn':n≤p.size:=by rw[h.pm.size_eq];exact hn
 have:=h.le
 rw[iU hn',if_pos (by lia)]
 exact (h.eq _ (by lia) (by lia)).2
theorem vh(hj:j≤p.size)(hk:j≤k):V v (kas_rev p i j) k=V v p k:=by rw[iU hj,if_neg (by lia)]
theorem pY:∀ (f:Nat) (p:Array Nat) (n q:Nat),n + f≤p₀.size->De R v p₀ p n q->∃ p' n' q',aR (ans R v) (kas_desc f p n q)=(p',n',q')∧n≤n'∧n'≤n + f∧De R v p₀ p' n' q'
 |0,p,n,q,_,h=>⟨p,n,q,rfl,Nat.le_refl _,Nat.le_refl _,h⟩
 | f + 1,p,n,q,hs,h=>by
   have h1:=h.le
   by_cases c:ans R v (p.getD n 0) (p.getD (n-1) 0)=true
   ·by_cases hq:q > 0
    ·have e:aR (ans R v) (kas_desc (f+1) p n q)=aR (ans R v) (kas_desc f (kas_rev p (n-(q+1)) n) (n+1) 0):=by
      show aR (ans R v) (if ans R v (p.getD n 0) (p.getD (n-1) 0)=true then (if q > 0 then _ else _) else _)=_
      rw[if_pos c,if_pos hq]
     rw[e]
     obtain⟨d1,d2⟩:=h.rev (by lia)
     have hn':n≤p.size:=by rw[h.pm.size_eq];lia
     have d3:DU R v (kas_rev p (n-(q+1)) n) (n+1):=d1.up (by lia) (by
      rw[vh hn' (Nat.le_refl _)]
      exact R.trans (vW c) (Gb h (by lia)))
     obtain⟨p',n',q',e1,e2,e3,e4⟩:=pY f _ (n+1) 0 (by lia) (De.zero d3 d2 (by lia))
     exact⟨p',n',q',e1,by lia,by lia,e4⟩
    ·have e:aR (ans R v) (kas_desc (f+1) p n q)=aR (ans R v) (kas_desc f p (n+1) 0):=by
      show aR (ans R v) (if ans R v (p.getD n 0) (p.getD (n-1) 0)=true then (if q > 0 then _ else _) else _)=_
      rw[if_pos c,if_neg hq]
     rw[e]
     obtain⟨p',n',q',e1,e2,e3,e4⟩:=pY f p (n+1) 0 (by lia) (De.zero (h.du.up (by lia) (vW c)) h.pm (by lia))
     exact⟨p',n',q',e1,by lia,by lia,e4⟩
   ·by_cases d:ans R v (p.getD (n - 1) 0) (p.getD n 0)=true
    ·refine⟨p,n,q,?_,Nat.le_refl _,by lia,h⟩
     show aR (ans R v) (if ans R v (p.getD n 0) (p.getD (n-1) 0)=true then _ else _)=_
     rw[if_neg c]
     show aR (ans R v) (if ans R v (p.getD (n-1) 0) (p.getD n 0)=true then _ else _)=_
     rw[if_pos d];rfl
    ·have e:aR (ans R v) (kas_desc (f + 1) p n q)=aR (ans R v) (kas_desc f p (n + 1) (q + 1)):=by
      show aR (ans R v) (if ans R v (p.getD n 0) (p.getD (n-1) 0)=true then _ else _)=_
      rw[if_neg c]
      show aR (ans R v) (if ans R v (p.getD (n-1) 0) (p.getD n 0)=true then _ else _)=_
      rw[if_neg d]
     rw[e]
     have x1:R.le (V v p (n-1)) (V v p n):=sE c
     have x2:R.le (V v p n) (V v p (n-1)):=sE d
     have hh:De R v p₀ p (n+1) (q+1):=⟨h.du.up (by lia) x2,h.pm,by lia,fun k hk1 hk2=>by
      show R.le (V v p k) (V v p n)∧R.le (V v p n) (V v p k)
      by_cases z:k=n
      ·subst z;exact⟨R.rfl _,R.rfl _⟩
      ·obtain⟨y1,y2⟩:=h.eq k (by lia) (by lia)
       exact⟨R.trans y1 x1,R.trans x2 y2⟩⟩
     obtain⟨p',n',q',e1,e2,e3,e4⟩:=pY f p (n+1) (q+1) (by lia) hh
     exact⟨p',n',q',e1,by lia,by lia,e4⟩
def Cn(R:Ord K)(v:Nat->K)(p₀:Array Nat)(r:Nat×Array Nat):Prop:=SU R v r.2 r.1∧r.2.Perm p₀∧r.1≤p₀.size
theorem zW(h1:1≤n)(hn:n≤p₀.size)(d:DU R v p n)(pm:p.Perm p₀):Cn R v p₀ (aR (ans R v) (kas_tail3 n p₀.size p)):=by
 have hn':n≤p.size:=by rw[pm.size_eq];exact hn
 have s:SU R v (kas_rev p 0 n) n:=fun i j hij hj=>by
  rw[iU hn',iU hn',if_pos (by lia),if_pos (by lia)]
  exact d _ _ (by lia) (by lia)
 obtain⟨a,b,c,_⟩:=wV (p:=kas_rev p 0 n) (p₀.size-n) n h1 s
 unfold kas_tail3
 rw[fV]
 exact⟨a,(rT _ _).trans pm,by show aR _ _≤_;lia⟩
theorem zN(h1:1≤n)(hn:n+1≤p₀.size)(d:DU R v p (n+1))(pm:p.Perm p₀):Cn R v p₀ (aR (ans R v) (kas_descPart n p₀.size p)):=by
 obtain⟨p',n',q',e1,e2,e3,e4⟩:=pY (p₀:=p₀) (p₀.size-(n+1)) p (n+1) 0 (by lia) (De.zero d pm (by lia))
 unfold kas_descPart
 rw[fV,e1]
 show Cn R v p₀ (aR _ (if q' > 0 then _ else _))
 split
 ·obtain⟨d1,d2⟩:=e4.rev (by lia)
  exact zW (n:=n') (by lia) (by lia) d1 d2
 ·exact zW (n:=n') (by lia) (by lia) e4.du e4.pm
theorem Fp (h1:1≤p₀.size):Cn R v p₀ (aR (ans R v) (kas_count p₀.size p₀)):=by
 have s1:SU R v p₀ 1:=fun i j hij hj=>by
  obtain rfl:i=j:=by lia
  exact R.rfl _
 obtain⟨a,b,c,g⟩:=wV (p:=p₀) (p₀.size-1) 1 (Nat.le_refl _) s1
 unfold kas_count
 rw[fV]
 generalize aR (ans R v) (kas_asc p₀ (p₀.size-1) 1)=n at a b c g
 by_cases e:(n==p₀.size)=true
 ·rw[if_pos e]
  exact⟨a,.refl _,by show n≤_;lia⟩
 ·rw [if_neg e]
  have ne:n≠p₀.size:=by simpa using e
  have g':=g (by lia)
  by_cases h:n > 1
  ·rw [if_pos h]
   show Cn R v p₀ (aR _ (if ans R v (p₀.getD 0 0) (p₀.getD (n-1) 0)=true then _ else _))
   by_cases x:ans R v (p₀.getD 0 0) (p₀.getD (n-1) 0)=true
   ·rw[if_pos x]
    exact⟨a,.refl _,by show n≤_;lia⟩
   ·rw[if_neg x]
    have al:R.le (V v p₀ (n-1)) (V v p₀ 0):=sE x
    have d:DU R v (kas_rev p₀ 0 n) n:=fun i j hij hj=>by
     rw[iU (by lia),iU (by lia),if_pos (by lia),if_pos (by lia)]
     exact a _ _ (by lia) (by lia)
    refine zN (by lia) (by lia) (d.up (by lia) ?_) (rT _ _)
    rw[vh (by lia) (Nat.le_refl _),iU (by lia),if_pos (by lia)]
    exact R.trans g' (R.trans al (a 0 _ (by lia) (by lia)))
  ·rw[if_neg h]
   obtain rfl:n=1:=by lia
   refine zN (Nat.le_refl _) (by lia) ?_ (.refl _)
   have d1:DU R v p₀ 1:=fun i j hij hj=>by
    obtain rfl:i=j:=by lia
    exact R.rfl _
   exact d1.up (Nat.le_refl _) g'
theorem rR (s:SU R v p k):∀ (f l r:Nat),l≤r->r≤k->r - l≤f->(∀ i,i<l->R.le (V v p i) (V v p k))->(∀ i,r≤i->i<k->R.le (V v p k) (V v p i))->
  aR (ans R v) (kas_place p k f l r)≤k∧(∀i,i<aR (ans R v) (kas_place p k f l r)->R.le (V v p i) (V v p k))∧∀i,aR (ans R v) (kas_place p k f l r)≤i->i<k->R.le (V v p k) (V v p i)
 |0,l,r,h1,h2,h3,a,b=>by
   obtain rfl:l=r:=by lia
   exact⟨h2,a,b⟩
 | f + 1,l,r,h1,h2,h3,a,b=>by
   by_cases c:l ≥ r
   ·have e:aR (ans R v) (kas_place p k (f+1) l r)=l:=by
     show aR (ans R v) (if l ≥ r then .ret l else _)=l
     rw[if_pos c];rfl
    rw[e]
    exact⟨by lia,a,fun i hi=>b i (by lia)⟩
   ·by_cases d:ans R v (p.getD k 0) (p.getD ((l + r) / 2) 0)=true
    ·have e:aR (ans R v) (kas_place p k (f+1) l r)=aR (ans R v) (kas_place p k f l ((l+r) / 2)):=by
      show aR (ans R v) (if l ≥ r then .ret l else _)=_
      rw[if_neg c]
      show aR (ans R v) (if ans R v (p.getD k 0) (p.getD ((l+r) / 2) 0)=true then _ else _)=_
      rw[if_pos d]
     rw[e]
     have x:R.le (V v p k) (V v p ((l+r) / 2)):=vW d
     exact rR s f l _ (by lia) (by lia) (by lia) a fun i hi hk=>R.trans x (s _ _ hi hk)
    ·have e:aR (ans R v) (kas_place p k (f+1) l r)=aR (ans R v) (kas_place p k f ((l+r) / 2+1) r):=by
      show aR (ans R v) (if l ≥ r then .ret l else _)=_
      rw[if_neg c]
      show aR (ans R v) (if ans R v (p.getD k 0) (p.getD ((l+r) / 2) 0)=true then _ else _)=_
      rw[if_neg d]
     rw[e]
     have x:R.le (V v p ((l+r) / 2)) (V v p k):=sE d
     exact rR s f _ r (by lia) (by lia) (by lia) (fun i hi=>R.trans (s i _ (by lia) (by lia)) x) b
theorem BZ:∀ (f:Nat) (p:Array Nat) (k:Nat),k + f=p₀.size->p.Perm p₀->SU R v p k->SU R v (aR (ans R v) (kas_bin f p k)) p₀.size∧(aR (ans R v) (kas_bin f p k)).Perm p₀
 |0,p,k,h,pm,s=>by
   obtain rfl:k=p₀.size:=by lia
   exact⟨s,pm⟩
 | f + 1,p,k,h,pm,s=>by
   obtain⟨a,b,c⟩:=rR s k 0 k (by lia) (Nat.le_refl _) (by lia) (fun i hi=>by lia) (fun i h1 h2=>by lia)
   show SU R v (aR (ans R v) ((kas_place p k k 0 k).bind fun l=>kas_bin f (bubble p k (k-l)) (k+1))) _∧(aR (ans R v) ((kas_place p k k 0 k).bind fun l=>kas_bin f (bubble p k (k-l)) (k+1))).Perm p₀
   rw[fV]
   generalize aR (ans R v) (kas_place p k k 0 k)=l at a b c
   have ks:k<p.size:=by rw[pm.size_eq];lia
   refine BZ f _ (k+1) (by lia) ((bubble_perm _ _ _).trans pm) fun i j hij hj=>?_
   rw[G9 ks (by lia),G9 ks (by lia)]
   have el:k-(k-l)=l:=by lia
   rw[el]
   by_cases c1:i=l
   ·rw[if_pos c1]
    by_cases c2:j=l
    ·rw[if_pos c2];exact R.rfl _
    ·rw[if_neg c2,if_pos (by lia)]
     exact c _ (by lia) (by lia)
   ·rw [if_neg c1]
    by_cases c3:l<i∧i≤k
    ·rw[if_pos c3,if_neg (by lia),if_pos (by lia)]
     exact s _ _ (by lia) (by lia)
    ·rw[if_neg c3]
     by_cases c2:j=l
     ·rw[if_pos c2];exact b _ (by lia)
     ·rw[if_neg c2]
      by_cases c4:l<j∧j≤k
      ·rw[if_pos c4];exact s _ _ (by lia) (by lia)
      ·rw[if_neg c4];exact s _ _ (by lia) (by lia)
theorem Jk (h2:1≤n):SU R v (aR (ans R v) (kas_sort n)) n∧(aR (ans R v) (kas_sort n)).Perm (List.range n).toArray:=by
 have z:(List.range n).toArray.size=n:=by simp
 have c:=Fp (R:=R) (v:=v) (p₀:=(List.range n).toArray) (by lia)
 rw[z] at c
 unfold kas_sort
 rw[fV]
 revert c
 generalize aR (ans R v) (kas_count n (List.range n).toArray)=r
 obtain⟨m,p⟩:=r
 rintro⟨a,b,d⟩
 dsimp only at a b d ⊢
 rw[z] at d
 by_cases e:m<n
 ·rw [if_pos e]
  have q:=BZ (R:=R) (v:=v) (p₀:=(List.range n).toArray) (n-max m 1) p (max m 1) (by rw[z];lia) b (by
   by_cases x:1≤m
   ·rw[Nat.max_eq_left x];exact a
   ·have:max m 1=1:=by lia
    rw[this]
    intro i j hij hj
    obtain rfl:i=j:=by lia
    exact R.rfl _)
  rw[z] at q
  exact q
 ·rw[if_neg e]
  obtain rfl:m=n:=by lia
  exact⟨a,b⟩
end
def eY{α:Type}(n:Nat)(P:α->Prop):KasT α->Prop
 |.ret a=>P a
 |.ask i j k=>i<n∧j<n∧∀b,eY n P (k b)
theorem eY.bind{α β:Type}{n:Nat}{P:α->Prop}{P':β->Prop}{f:α->KasT β}(hf:∀a,P a->eY n P' (f a)):∀{t:KasT α},eY n P t->eY n P' (t.bind f)
 |.ret a,h=>hf a h
 |.ask _ _ k,h=>⟨h.1,h.2.1,fun b=>eY.bind hf (h.2.2 b)⟩
theorem Aa(h:∀i j C,i<n->j<n->C (o i j) s->cmp i j C s):∀(t:KasT α),eY n P t->Q (aR o t) s->t.kasWp cmp Q s
 |.ret _,_,q=>q
 |.ask i j k,b,q=>h i j _ b.1 b.2.1 (Aa h (k (o i j)) (b.2.2 _) q)
def Bd(n:Nat)(p:Array Nat):Prop:=0<n∧∀x∈p.toList,x<n
theorem Bd.at(h:Bd n p)(i:Nat):p.getD i 0<n:=by
 rw[Array.getD_eq_getD_getElem?]
 cases e:p[i]? with
 |none=>exact h.1
 |some x=>exact h.2 x (by rw[Array.getElem?_eq_some_iff] at e;obtain⟨h1,rfl⟩:=e;simp)
theorem Bd.perm(h:Bd n p)(pm:q.Perm p):Bd n q:=⟨h.1,fun x hx=>h.2 x ((Array.perm_iff_toList_perm.mp pm).mem_iff.mp hx)⟩
theorem Bd.rev(h:Bd n p)(i j:Nat):Bd n (kas_rev p i j):=h.perm (mirror_perm _ _ _ _)
theorem wU (h:Bd n p):∀ (f m:Nat),eY n (fun _=>True) (kas_asc p f m)
 |0,_=>trivial
 |f+1,m=>⟨h.at _,h.at _,fun b=>by
   cases b
   ·exact wU h f (m+1)
   ·exact trivial⟩
theorem pX:∀ (f:Nat) (p:Array Nat) (m q:Nat),Bd n p->eY n (fun r=>Bd n r.1) (kas_desc f p m q)
 |0,p,_,_,h=>h
 | f + 1,p,m,q,h=>⟨h.at _,h.at _,fun b=>by
   cases b
   ·exact⟨h.at _,h.at _,fun b=>by
     cases b
     ·exact pX f _ _ _ h
     ·exact h⟩
   ·show eY n _ (if q > 0 then _ else _)
    split
    ·exact pX f _ _ _ (h.rev _ _)
    ·exact pX f _ _ _ h⟩
theorem zV{n m k:Nat}{p:Array Nat}(h:Bd n p):eY n (fun r=>Bd n r.2) (kas_tail3 m k p):=by
 unfold kas_tail3
 refine eY.bind (P:=fun _=>True) (fun a _=>?_) (wU (h.rev _ _) _ _)
 show Bd n (kas_rev p 0 m)
 exact h.rev 0 m
theorem zM{n m k:Nat}{p:Array Nat}(h:Bd n p):eY n (fun r=>Bd n r.2) (kas_descPart m k p):=eY.bind (P:=fun r=>Bd n r.1) (fun r hr=>by
 split
 ·exact zV (hr.rev _ _)
 ·exact zV hr) (pX _ _ _ _ h)
theorem Fo {n k:Nat}{p:Array Nat} (h:Bd n p):eY n (fun r=>Bd n r.2) (kas_count k p):=eY.bind (P:=fun _=>True) (fun m _=>by
 split
 ·exact h
 ·split
  ·exact⟨h.at _,h.at _,fun b=>by
    cases b
    ·exact zM (h.rev _ _)
    ·exact h⟩
  ·exact zM h) (wU h _ _)
theorem rQ (h:Bd n p) (k:Nat):∀ (f l r:Nat),eY n (fun _=>True) (kas_place p k f l r)
 |0,_,_=>trivial
 | f + 1,l,r=>by
   unfold kas_place
   split
   ·exact trivial
   ·exact⟨h.at _,h.at _,fun b=>by
     cases b
     ·exact rQ h k f _ _
     ·exact rQ h k f _ _⟩
theorem BX{n:Nat}:∀(f:Nat) (p:Array Nat) (k:Nat),Bd n p->eY n (fun _=>True) (kas_bin f p k)
 |0,_,_,_=>trivial
 |f+1,p,k,h=>eY.bind (P:=fun _=>True) (fun l _=>BX f _ _ (h.perm (bubble_perm _ _ _))) (rQ h _ _ _ _)
theorem Jj{n:Nat}(h:0<n):eY n (fun _=>True) (kas_sort n):=by
 have b:Bd n (List.range n).toArray:=⟨h,fun x hx=>by simpa using hx⟩
 refine eY.bind (P:=fun r=>Bd n r.2) (fun r hr=>?_) (Fo b)
 split
 ·exact BX _ _ _ hr
 ·exact trivial
end LB
namespace LB
open PySem PySem.W PySem.Calls PyProof.Rows
def cT:List Int->List Int->Bool
 |[],[]=>false
 |[],_::_=>true
 |_::_,[]=>false
 |a::x,b::y=>if a=b then cT x y else decide (a<b)
theorem zG:∀x,cT x x=false
 |[]=>rfl
 |a::x=>by simp[cT,zG x]
theorem zH:∀ {x y:List Int},cT x y=false->cT y x=false->x=y
 |[],[],_,_=>rfl
 |[],_::_,h,_=>by cases h
 |_::_,[],_,h=>by cases h
 | a::x,b::y,h1,h2=>by
   simp only[cT] at h1 h2
   by_cases c:a=b
   ·subst c
    rw[if_pos rfl] at h1 h2
    rw[zH h1 h2]
   ·rw[if_neg c] at h1
    rw[if_neg (Ne.symm c)] at h2
    simp at h1 h2
    lia
theorem rJ:∀ {x y:List Int},cT x y=true->cT y x=false
 |[],[],h=>by cases h
 |[],_::_,_=>rfl
 |_::_,[],h=>by cases h
 | a::x,b::y,h=>by
   simp only[cT] at h ⊢
   by_cases c:a=b
   ·subst c
    rw[if_pos rfl] at h ⊢
    exact rJ h
   ·rw[if_neg c] at h
    rw[if_neg (Ne.symm c)]
    simp at h ⊢
    lia
theorem oZ:∀ {x y z:List Int},cT y x=false->cT z y=false->cT z x=false
 |[],[],[],_,_=>rfl
 |[],[],_::_,_,_=>rfl
 |[],_::_,[],_,h=>by cases h
 |[],_::_,_::_,_,_=>rfl
 |_::_,[],_,h,_=>by cases h
 |_::_,_::_,[],_,h=>by cases h
 | a::x,b::y,c::z,h1,h2=>by
   simp only[cT] at h1 h2 ⊢
   by_cases e1:b=a
   ·subst e1
    rw[if_pos rfl] at h1
    by_cases e2:c=b
    ·subst e2
     rw[if_pos rfl] at h2 ⊢
     exact oZ h1 h2
    ·rw[if_neg e2] at h2 ⊢
     exact h2
   ·rw[if_neg e1] at h1
    by_cases e2:c=b
    ·subst e2
     rw[if_neg e1]
     exact h1
    ·rw[if_neg e2] at h2
     simp at h1 h2
     rw[if_neg (by lia)]
     simp
     lia
def gF:Ord (List Int) where
 le x y:=cT y x=false
 dec x y:=inferInstance
 rfl:=zG
 trans:=oZ
 tot x y:=by
  cases h:cT y x
  ·exact .inl rfl
  ·exact .inr (rJ h)
def rG(x:List Int):List (List Int)->List (List Int)
 |[]=>[x]
 |y::r=>if cT y x=false then x::y::r else y::rG x r
def uP(l:List (List Int)):List (List Int):=l.foldr rG []
theorem o6 (x:List Int):∀ l,(rG x l).Perm (x::l)
 |[]=>.refl _
 |y::r=>by
   unfold rG
   split
   ·exact .refl _
   ·exact ((o6 x r).cons y).trans (.swap x y r)
abbrev mW(l:List (List Int)):Prop:=l.Pairwise fun x y=>cT y x=false
theorem vB (x:List Int):∀ {l:List (List Int)},mW l->mW (rG x l)
 |[],_=>by simp[rG,mW]
 | y::r,h=>by
   have h':=List.pairwise_cons.mp h
   unfold rG
   split
   ·rename_i c
    exact List.pairwise_cons.mpr ⟨fun z hz=>by
     rcases List.mem_cons.mp hz with rfl | hz
     ·exact c
     ·exact oZ c (h'.1 z hz),h⟩
   ·rename_i c
    refine List.pairwise_cons.mpr ⟨fun z hz=>?_,vB x h'.2⟩
    rcases List.mem_cons.mp ((o6 x r).mem_iff.mp hz) with rfl | hz
    ·exact rJ (by simpa using c)
    ·exact h'.1 z hz
theorem uQ:∀ l:List (List Int),(uP l).Perm l∧mW (uP l)
 |[]=>⟨.refl _,List.Pairwise.nil⟩
 |x::l=>by
   obtain⟨a,b⟩:=uQ l
   exact⟨(o6 x _).trans (a.cons x),vB x b⟩
theorem vK:∀ {a b:List (List Int)},a.Perm b->mW a->mW b->a=b
 |[],b,p,_,_=>(List.nil_perm.mp p).symm
 |x::a,[],p,_,_=>absurd p.length_eq (by simp)
 | x::a,y::b,p,ha,hb=>by
   have ha':=List.pairwise_cons.mp ha
   have hb':=List.pairwise_cons.mp hb
   have e:x=y:=by
    have m1:y∈x::a:=p.mem_iff.mpr (List.mem_cons_self)
    have m2:x∈y::b:=p.mem_iff.mp (List.mem_cons_self)
    rcases List.mem_cons.mp m1 with e | m1
    ·exact e.symm
    ·rcases List.mem_cons.mp m2 with e | m2
     ·exact e
     ·exact zH (hb'.1 x m2) (ha'.1 y m1)
   subst e
   rw[vK (List.Perm.cons_inv p) ha'.2 hb'.2]
section
variable{prog:Program}{w:World}{A:Around}{E:Value->Shared->Prop}{s:Shared}{b fin:Bool}{Q:Bool->Shared->Prop}
theorem xN:∀ {xs ys:List Value}{x y:List Int} (i:Nat),IntsAre xs x->IntsAre ys y->fin=decide (x.length<y.length)->Q (cT x y) s->KatLex prog w A b fin Q (xs.zip ys) i s
 |[],[],_,_,i,.nil,.nil,hf,q=>by
   have e:fin=false:=hf
   subst e
   exact kat_nil q
 |[],_::_,_,_,i,.nil,.cons m u r,hf,q=>by
   have e:fin=true:=by rw[hf];simp
   subst e
   exact kat_nil q
 |_::_,[],_,_,i,.cons m u r,.nil,hf,q=>by
   have e:fin=false:=by rw[hf];simp
   subst e
   exact kat_nil q
 | _::xs,_::ys,_,_,i,.cons m t (ns:=x) r,.cons n u (ns:=y) r',hf,q=>by
   rw[List.zip_cons_cons]
   refine kat_cons ((intKind prog w).eqBool (a:=m) (b:=n) (intKind_is _ _ _ _) (intKind_is _ _ _ _) ?_)
   by_cases c:m=n
   ·rw[decide_eq_true c]
    have q':Q (cT x y) s:=by
     rw[cT,if_pos c] at q
     exact q
    exact kat_yes (xN (i+1) r r' (by rw[hf];simp) q')
   ·rw[decide_eq_false c]
    have q':Q (decide (m<n)) s:=by
     rw[cT,if_neg c] at q
     exact q
    refine kat_no ?_
    cases (b&&i==0) with
    |true=>exact oneLt_int q'
    |false=>exact kat_one _ _ (PySem.P.lt_int q')
end
def TupAt(h:Heap)(v:Value)(t:List Int):Prop:=t≠[]∧∃a its,v=.ref a∧IsTup h a its∧IntsAre its.toList t
abbrev eZ(h:Heap):List Value->List (List Int)->Prop:=Paired (TupAt h)
theorem jc:∀{xs:List α}{ys:List β}{i:Nat}{x:α}{y:β},Paired R xs ys->xs[i]?=some x->ys[i]?=some y->R x y
 |_,_,0,_,_,.cons r _,e1,e2=>by cases e1;cases e2;exact r
 |_,_,i+1,_,_,.cons _ t,e1,e2=>jc (i:=i) t e1 e2
theorem eZ.keep(k:∀a its,IsTup h a its->IsTup h' a its):∀{vs:List Value}{ts:List (List Int)},eZ h vs ts->eZ h' vs ts
 |_,_,.nil=>.nil
 |_,_,.cons ⟨n,a,its,e,i,q⟩ t=>.cons ⟨n,a,its,e,k _ _ i,q⟩ (eZ.keep k t)
section
variable{prog:Program}{w:World}{A:Around}{E:Value->Shared->Prop}{s:Shared}
theorem vA:∀ {vs:List Value}{ts:List (List Int)},eZ h vs ts->∃ fs,KatTups h vs fs∧fs.length=vs.length∧∀ v∈fs,∃ i t,v=.int i t
 |_,_,.nil=>⟨[],.nil,rfl,fun v hv=>by cases hv⟩
 | _,_,.cons r tl=>by
   obtain⟨fs,k,l,q⟩:=vA tl
   obtain⟨ne,a,its,rfl,⟨o,ho,hc,n,hd⟩,hi⟩:=r
   obtain⟨l'⟩:=its
   cases hi with
   |nil=>exact absurd rfl ne
   |cons i t r2=>
     refine⟨_::fs,KatTups.cons ho hc hd rfl k,by simp[l],fun v hv=>?_⟩
     rcases List.mem_cons.mp hv with rfl | hv
     ·exact⟨i,t,rfl⟩
     ·exact q v hv
theorem CV(h:eZ s.heap vs ts)(h1:0<vs.length)(q:Q (tuples' true) s):wpAny (model prog w) A (keyKind' vs.toArray) Q E s:=by
 obtain⟨fs,k,l,f⟩:=vA h
 exact kat_kind (T:=.type "int") k (by lia) (fun v hv=>by
  obtain⟨i,t,rfl⟩:=f v hv
  exact Looks.of_pure rfl) (by decide) q
theorem Es(h:eZ s.heap vs ts)(hi:i<vs.length)(hj:j<vs.length)(q:C (cT (ts.getD i []) (ts.getD j [])) s):kas_ask prog w A (tuples' true) vs i j C s:=by
 have hl:=Paired.length h
 unfold kas_ask
 have e1:vs.getD i Value.none=vs[i]:=by simp[hi]
 have e2:vs.getD j Value.none=vs[j]:=by simp[hj]
 have t1:ts.getD i []=ts[i]'(by lia):=by simp[show i<ts.length by lia]
 have t2:ts.getD j []=ts[j]'(by lia):=by simp[show j<ts.length by lia]
 rw[e1,e2]
 rw[t1,t2] at q
 obtain⟨_,a,its,ea,⟨oa,hoa,_,na,hda⟩,ia⟩:=jc (i:=i) h (List.getElem?_eq_getElem hi) (List.getElem?_eq_getElem (by lia))
 obtain⟨_,b,jts,eb,⟨ob,hob,_,nb,hdb⟩,ib⟩:=jc (i:=j) h (List.getElem?_eq_getElem hj) (List.getElem?_eq_getElem (by lia))
 rw[ea,eb]
 refine kat_lt hoa hda hob hdb (xN 0 ia ib ?_ q)
 have:=IntsAre.length ia
 have:=IntsAre.length ib
 simp at *
 congr 1
 lia
end
theorem qR (a:α) (b:β) (h:Paired R xs ys):∀ (is:List Nat),(∀ i∈is,i<xs.length)->Paired R (is.map fun i=>xs.getD i a) (is.map fun i=>ys.getD i b)
 |[],_=>.nil
 | i::is,hi=>by
   have h1:=hi i (List.mem_cons_self)
   have h2:i<ys.length:=by rw[←Paired.length h];exact h1
   refine .cons ?_ (qR a b h is fun j hj=>hi j (.tail _ hj))
   refine jc (i:=i) h ?_ ?_
   ·show xs[i]?=some (xs.getD i a)
    simp[h1]
   ·show ys[i]?=some (ys.getD i b)
    simp[h2]
theorem JC {ts:List (List Int)} (i j:Nat):ans gF (fun i=>ts.getD i []) i j=cT (ts.getD i []) (ts.getD j []):=by
 by_cases h:cT (ts.getD i []) (ts.getD j [])=true
 ·rw[h]
  have:¬ gF.le (ts.getD j []) (ts.getD i []):=fun z=>by
   have z:cT (ts.getD i []) (ts.getD j [])=false:=z
   rw[h] at z;cases z
  unfold ans
  rw[@decide_eq_false _ (gF.dec _ _) this];rfl
 ·have h:cT (ts.getD i []) (ts.getD j [])=false:=by simpa using h
  have:gF.le (ts.getD j []) (ts.getD i []):=h
  unfold ans
  rw[h,@decide_eq_true _ (gF.dec _ _) this];rfl
theorem Lz{p:Array Nat}{ts:List (List Int)}{n:Nat}(h:SU gF (fun i=>ts.getD i []) p n)(hs:p.size=n):mW (p.toList.map fun i=>ts.getD i []):=by
 rw[mW,List.pairwise_map,List.pairwise_iff_getElem]
 intro i j h1 h2 hij
 have h1':i<p.size:=by simpa using h1
 have h2':j<p.size:=by simpa using h2
 have z:cT (ts.getD (p.getD j 0) []) (ts.getD (p.getD i 0) [])=false:=h i j (Nat.le_of_lt hij) (by lia)
 have e1:p.getD i 0=p.toList[i]:=by simp[Array.getD,h1']
 have e2:p.getD j 0=p.toList[j]:=by simp[Array.getD,h2']
 rw[e1,e2] at z
 exact z
section
variable{prog:Program}{w:World}{A:Around}{E:Value->Shared->Prop}{s:Shared}
structure Srt(vs:List Value)(ts:List (List Int))(is:List Nat):Prop where
 lt:∀i∈is,i<vs.length
 pm:is.Perm (List.range vs.length)
 ris:mW (is.map fun i=>ts.getD i [])
theorem uD (ho:s.heap.get? a=some (seqObj "list" vs.toArray n))
  (hT:eZ s.heap vs ts) (h64:vs.length<64)
  (h:∀is,Srt vs ts is->P (.done (.ret .none)) { s with heap:=sortedHeap s.heap a vs (is.map fun i=>vs.getD i Value.none).toArray }) :
  wpAny (model prog w) A (Builtin.«list.sort» ⟨[.ref a],[]⟩) P E s:=by
 have hl:=Paired.length hT
 rw[list_sort_plain]
 have ha:a<s.heap.objs.size:=Heap.lt_size ho
 refine wpAny_bind (listItems_at ho rfl ?_)
 refine wpAny_bind (listUpdate_at ho rfl ?_)
 obtain⟨e1,ho1⟩:∃e1,(s.heap.update a (Obj.mapSeq fun _=>#[])).get? a=some (seqObj "list" #[] e1):=⟨_,get?_update_seq ho (fun _=>#[])⟩
 refine wpAny_bind (seqEpoch_at ho1 rfl ?_)
 refine wpAny_bind (wpAny_newTuple ?_)
 refine wpAny_bind (wpAny_newList ?_)
 refine wpAny_holding ?_
 have ho6:(((s.heap.update a (Obj.mapSeq fun _=>#[])).push (seqObj "tuple" vs.toArray 0)).push (seqObj "list" #[] 0)).get? a=some (seqObj "list" #[] e1):=by
  rw[Heap.get?_push_ne _ _ _ (by rw[size_push',Heap.size_update];exact Nat.ne_of_lt (Nat.lt_succ_of_lt ha)),Heap.get?_push_ne _ _ _ (by rw[Heap.size_update];exact Nat.ne_of_lt ha)]
  exact ho1
 have kp:∀b its,IsTup s.heap b its->IsTup (((s.heap.update a (Obj.mapSeq fun _=>#[])).push (seqObj "tuple" vs.toArray 0)).push (seqObj "list" #[] 0)) b its:=fun b its hb=>by
  obtain⟨o,hb,hc,r⟩:=hb
  have ne:b≠a:=fun z=>by
   subst z
   rw[ho] at hb;cases hb
   have hc:Value.type "list"=Value.type "tuple":=hc
   exact absurd hc (by decide)
  have lt:=Heap.lt_size hb
  refine⟨o,?_,hc,r⟩
  rw[Heap.get?_push_ne _ _ _ (by rw[size_push',Heap.size_update];exact Nat.ne_of_lt (Nat.lt_succ_of_lt lt)),Heap.get?_push_ne _ _ _ (by rw[Heap.size_update];exact Nat.ne_of_lt lt),Heap.get?_update_ne _ _ _ _ ne]
  exact hb
 have hT':=hT.keep kp
 show wpAny (model prog w) A _ P E { s with heap:=((s.heap.update a (Obj.mapSeq fun _=>#[])).push (seqObj "tuple" vs.toArray 0)).push (seqObj "list" #[] 0) }
 dsimp only
 have hsz:vs.toArray.size=vs.length:=by simp
 by_cases h2:vs.toArray.size<2
 ·rw[if_pos h2,if_pos h2]
  refine wpAny_bind (wpAny_pure ?_)
  rw[StateT.run_pure]
  refine wpAny_bind (wpAny_pure ?_)
  dsimp only
  refine wpAny_bind (seqEpoch_at ho6 rfl ?_)
  refine wpAny_bind (listUpdate_at ho6 rfl ?_ (hsz2:=by rw[Array.size_map];show (pairsOf vs).size≤_;rw[pairsOf_size,sizeLine_eq];lia))
  simp only[bne_self_eq_false,Bool.false_eq_true,if_false]
  have fin:=h (List.range vs.length) ⟨fun i hi=>List.mem_range.mp hi,.refl _,by
   rw[hsz] at h2
   match vs,h2 with
   |[],_=>exact List.Pairwise.nil
   |[_],_=>exact List.pairwise_singleton _ _
   |_::_::_,z=>simp at z;lia⟩
  have e:((List.range vs.length).map fun i=>vs.getD i Value.none).toArray=(arrOf (SortSt.mk' general' (vs.toArray.zip vs.toArray) #[] 7 none)).map (·.2):=by
   show _=(vs.toArray.zip vs.toArray).map (·.2)
   rw[hsz] at h2
   match vs,h2 with
   |[],_=>simp
   |[_],_=>simp
   |_::_::_,z=>simp at z;lia
  rw[e] at fin
  exact wpAny_pure fin
 ·rw [if_neg h2,if_neg h2]
  rw[hsz] at h2
  refine wpAny_bind (CV hT' (by lia) ?_)
  obtain⟨su,pm⟩:=Jk (R:=gF) (v:=fun i=>ts.getD i []) (n:=vs.length) (by lia)
  have pl:(aR (ans gF fun i=>ts.getD i []) (kas_sort vs.length)).toList.Perm (List.range vs.length):=by simpa using Array.perm_iff_toList_perm.mp pm
  have fin:=h (aR (ans gF fun i=>ts.getD i []) (kas_sort vs.length)).toList ⟨fun i hi=>List.mem_range.mp (pl.mem_iff.mp hi),pl,by
   exact Lz su (by have:=pl.length_eq;simp only[Array.length_toList,List.length_range] at this;exact this)⟩
  have ask:(kas_sort vs.length).kasWp (kas_ask prog w A (tuples' true) vs) (fun p s'=>p=aR (ans gF fun i=>ts.getD i []) (kas_sort vs.length)∧s'={ s with heap:=((s.heap.update a (Obj.mapSeq fun _=>#[])).push (seqObj "tuple" vs.toArray 0)).push (seqObj "list" #[] 0) }) { s with heap:=((s.heap.update a (Obj.mapSeq fun _=>#[])).push (seqObj "tuple" vs.toArray 0)).push (seqObj "list" #[] 0) }:=
   Aa (o:=ans gF fun i=>ts.getD i []) (fun i j C hi hj q=>Es hT' hi hj (by
    have e:ans gF (fun i=>ts.getD i []) i j=cT (ts.getD i []) (ts.getD j []):=by
     exact JC _ _
    rw[e] at q
    exact q)) _ (Jj (by lia)) ⟨rfl,rfl⟩
  refine wpAny_bind (wpAny_mono (kat_run (Q:=fun st' s'=>arrOf st'=(aR (ans gF fun i=>ts.getD i []) (kas_sort vs.length)).map (kas_item (vs.toArray.zip vs.toArray))∧failedOf st'=none∧s'={ s with heap:=((s.heap.update a (Obj.mapSeq fun _=>#[])).push (seqObj "tuple" vs.toArray 0)).push (seqObj "list" #[] 0) })
   rfl (by lia) h64 (fun p' st' s' a1 a2 a3 a4=>by obtain⟨rfl,rfl⟩:=a4;exact⟨a2,a3,rfl⟩) ask) ?_ fun _ _ e=>e)
  rintro⟨⟨⟩,st'⟩ s' ⟨har,hf,rfl⟩
  dsimp only
  have hout:=kat_snds (vs:=vs) rfl har
  refine wpAny_bind (seqEpoch_at ho6 rfl ?_)
  rw[hout]
  refine wpAny_bind (listUpdate_at ho6 rfl ?_ (hsz2:=by rw[List.size_toArray,List.length_map,sizeLine_eq];have:=pl.length_eq;simp at this ⊢;lia))
  rw[hf]
  simp only[bne_self_eq_false,Bool.false_eq_true,if_false]
  exact wpAny_pure fin
theorem yP {l:Addr}{vs:List Value}{Q:List Value->Shared->Prop} (hl:IsTup s.heap l vs.toArray) (hsz:vs.length≤sizeLine)
  (h:Q vs { s with heap:=(s.heap.push (seqObj "list" #[] 0)).update s.heap.objs.size (Obj.mapSeq (·++ vs.toArray)) }):wpAny (model prog w) A (collect (.ref l)) Q E s:=by
 obtain⟨o,ho,hc,n,hd⟩:=id hl
 unfold collect
 refine wpAny_bind (wpAny_runValue (codeAny_builtin entry_proto_collect' ?_))
 show wpAny _ _ (do again (.builtin "list.__iadd__" ⟨[←newList [],.ref l],[]⟩)) _ _ s
 refine wpAny_bind (wpAny_newList (wpAny_pure ⟨Code.quiet_builtin _ (by decide +kernel),codeAny_builtin entry_list_iadd' ?_⟩))
 show wpAny _ _ (Builtin.List.listExtendWith (.ref s.heap.objs.size) (.ref l) (.ref s.heap.objs.size)) _ _ { s with heap:=s.heap.push (seqObj "list" #[] 0) }
 unfold Builtin.List.listExtendWith
 have ho':(s.heap.push (seqObj "list" #[] 0)).get? l=some o:=Heap.get?_push_of_some _ ho
 refine wpAny_bind (wpAny_typeOf (T := "tuple") ⟨o,ho',hc⟩ ?_)
 have ht:(Value.type "tuple"==Value.type "tuple")=true:=by rfl
 rw[if_pos (by rw[ht];simp)]
 refine wpAny_bind (listItems_at ho' hd ?_)
 refine wpAny_bind (listItems_at (xs:=#[]) (n:=0) (Heap.get?_push_size _ rfl) rfl ?_)
 rw[if_neg (by simp)]
 refine wpAny_bind (listUpdate_at (xs:=#[]) (n:=0) (Heap.get?_push_size _ rfl) rfl ?_ (Nat.zero_le _) (by show (#[]++vs.toArray).size≤sizeLine+1;simp only[Array.size_append,List.size_toArray,List.length_nil];lia))
 refine wpAny_pure ?_
 show wpAny (model prog w) A (do
   let o ←load s.heap.objs.size
   match o.data with
   |.seq xs _=>pure xs.toList
   |_=>unsupported "internal:collect") Q E { s with heap:=(s.heap.push (seqObj "list" #[] 0)).update s.heap.objs.size (Obj.mapSeq (·++ vs.toArray)) }
 refine wpAny_bind (wpAny_load (get?_update_seq (Heap.get?_push_size _ rfl) _) ?_)
 show wpAny _ _ (pure ((#[]:Array Value)++vs.toArray).toList) Q E _
 rw[show ((#[]:Array Value)++vs.toArray).toList=vs by simp]
 exact wpAny_pure h
def El(prog:Program)(w:World)(A:Around)(s:Shared)(l:Addr)(vs:List Value):Prop:=∀{E:Value->Shared->Prop}{Q:List Value->Shared->Prop},
 Q vs { s with heap:=(s.heap.push (seqObj "list" #[] 0)).update s.heap.objs.size (Obj.mapSeq (·++ vs.toArray)) }->wpAny (model prog w) A (collect (.ref l)) Q E s
theorem Mq{l:Addr}{vs:List Value}{ns:List Int}{Q:Value->Shared->Prop}(hl:El prog w A.in1 s l vs)(hI:IntsAre vs ns)(h64:vs.length<64)
  (h:∀(out:Array Value) (ns':List Int),IntsAre out.toList ns'->ns'.Perm ns->ns'.Pairwise (·≤ ·)->Q (.ref (s.heap.objs.size+1)) { s with heap:=sortedAll s.heap vs out }) :
  wpAny (model prog w) A (call (.builtin "sorted") [.ref l]) Q E s:=by
 refine Calls.call_function_entry kind_sorted plain_sorted entry_sorted (args_sorted1 _) ?_
 unfold Builtin.«sorted»
 refine wpAny_bind (m:=checkCount "sorted" 1 1 _) (wpAny_pure ?_)
 refine wpAny_bind (hl ?_)
 refine wpAny_bind (wpAny_newList ?_ (by rw[sizeLine_eq];lia))
 have hsz:((s.heap.push (seqObj "list" #[] 0)).update s.heap.objs.size (Obj.mapSeq (·++ vs.toArray))).objs.size=s.heap.objs.size+1:=by
  rw[Heap.size_update,size_push']
 have hoL:(((s.heap.push (seqObj "list" #[] 0)).update s.heap.objs.size (Obj.mapSeq (·++ vs.toArray))).push (seqObj "list" vs.toArray 0)).get? (s.heap.objs.size+1)=some (seqObj "list" vs.toArray 0):=by
  rw[←hsz];exact Heap.get?_push_size _ rfl
 show wpAny _ _ _ _ _ { s with heap:=((s.heap.push (seqObj "list" #[] 0)).update s.heap.objs.size (Obj.mapSeq (·++ vs.toArray))).push (seqObj "list" vs.toArray 0) }
 rw[hsz]
 refine wpAny_bind (wpAny_holding (wpAny_call_entry slot_list_sort ⟨_,hoL,rfl⟩ entry_list_sort (list_sort_tree hoL hI h64 fun out ns' a1 a2 a3=>⟨_,rfl,?_⟩) (args_list_sort _)))
 exact wpAny_pure ⟨_,rfl,h out ns' a1 a2 a3⟩
theorem yW{l:Addr}{vs:List Value}{ts:List (List Int)}{Q:Value->Shared->Prop}(hl:El prog w A.in1 s l vs)(hT:eZ s.heap vs ts)(h64:vs.length<64)
  (h:∀is,Srt vs ts is->Q (.ref (s.heap.objs.size+1)) { s with heap:=sortedAll s.heap vs (is.map fun i=>vs.getD i Value.none).toArray }) :
  wpAny (model prog w) A (call (.builtin "sorted") [.ref l]) Q E s:=by
 refine Calls.call_function_entry kind_sorted plain_sorted entry_sorted (args_sorted1 _) ?_
 unfold Builtin.«sorted»
 refine wpAny_bind (m:=checkCount "sorted" 1 1 _) (wpAny_pure ?_)
 refine wpAny_bind (hl ?_)
 refine wpAny_bind (wpAny_newList ?_ (by rw[sizeLine_eq];lia))
 have hsz:((s.heap.push (seqObj "list" #[] 0)).update s.heap.objs.size (Obj.mapSeq (·++ vs.toArray))).objs.size=s.heap.objs.size+1:=by
  rw[Heap.size_update,size_push']
 have hoL:(((s.heap.push (seqObj "list" #[] 0)).update s.heap.objs.size (Obj.mapSeq (·++ vs.toArray))).push (seqObj "list" vs.toArray 0)).get? (s.heap.objs.size+1)=some (seqObj "list" vs.toArray 0):=by
  rw[←hsz];exact Heap.get?_push_size _ rfl
 have keep:∀b o,s.heap.get? b=some o->(((s.heap.push (seqObj "list" #[] 0)).update s.heap.objs.size (Obj.mapSeq (·++ vs.toArray))).push (seqObj "list" vs.toArray 0)).get? b=some o:=fun b o q=>by
  have hlt:b<s.heap.objs.size:=Heap.lt_size q
  rw[Heap.get?_push_ne _ _ _ (by rw[hsz];exact Nat.ne_of_lt (Nat.lt_succ_of_lt hlt)),Heap.get?_update_ne _ _ _ _ (Nat.ne_of_lt hlt),Heap.get?_push_ne _ _ _ (Nat.ne_of_lt hlt)]
  exact q
 show wpAny _ _ _ _ _ { s with heap:=((s.heap.push (seqObj "list" #[] 0)).update s.heap.objs.size (Obj.mapSeq (·++ vs.toArray))).push (seqObj "list" vs.toArray 0) }
 rw[hsz]
 refine wpAny_bind (wpAny_holding (wpAny_call_entry slot_list_sort ⟨_,hoL,rfl⟩ entry_list_sort (uD hoL (hT.keep fun b its x=>x.keeps keep) h64 fun is si=>⟨_,rfl,?_⟩) (args_list_sort _)))
 exact wpAny_pure ⟨_,rfl,h is si⟩
end
end LB
namespace L2
open PySem PySem.Spec PyProof.Rows LS LB
theorem pO:∀ {ns:List Int}{us:List Value},Vals (ns.map V.int) us->IntsAre us ns
 |[],_,.nil=>.nil
 |n::ns,_,.cons r t=>by
   obtain⟨k,rfl⟩:=r
   exact .cons _ _ (pO t)
def En(H:Hp)(x:V)(t:List Int):Prop:=t≠[]∧∃a,x=.ref a∧H a=some (.tup (t.map V.int))
theorem zZ (ok:HOk P w H h):∀ {xs:List V}{us:List Value}{ts:List (List Int)},Paired (En H) xs ts->Vals xs us->eZ h us ts
 |_,_,_,.nil,.nil=>.nil
 |_,_,_,.cons ⟨ne,a,e,ha⟩ p,.cons r v=>by
   subst e
   obtain rfl:_=Value.ref a:=r
   obtain⟨_,its,hv,it⟩:=ok _ _ ha
   exact .cons ⟨ne,a,_,rfl,it,by simpa using pO hv⟩ (zZ ok p v)
theorem Ej(h:Vals xs us)(is:List Nat)(hi:∀i∈is,i<us.length):Vals (is.map fun i=>xs.getD i V.non) (is.map fun i=>us.getD i Value.none):=qR _ _ h is fun i m=>by rw[Paired.length h];exact hi i m
def Jy(H:Hp)(p:Addr)(ys:List V):Prop:=H p=some (.lst ys)∨H p=some (.tup ys)
theorem Jl{X:Cx}{pins:List (Addr×Obj)}{σ:St}{H:Hp}{s:Shared}{p:Addr}{ys:List V}{A:Around}(I:Inv X pins σ H s)(h:Jy H p ys):∃its,ys.length≤sizeLine∧Vals ys its∧El X.prog X.w A s p its:=by
 rcases h with h | h
 ·obtain⟨zl,its,n,hv,ho⟩:=I.hok _ _ h
  exact⟨its,zl,hv,fun {E Q} q=>collect_list ⟨_,ho,rfl,_,rfl⟩ q (by rw[←Paired.length hv];exact zl)⟩
 ·obtain⟨zl,its,hv,ho⟩:=I.hok _ _ h
  exact⟨its,zl,hv,fun {E Q} q=>yP ho (by rw[←Paired.length hv];exact zl) q⟩
theorem wW {X:Cx}:CallR X (.builtin "sorted") (fun xs H Q=>∃ (p:Addr) (ys:List V) (ts:List (List Int)),xs=[.ref p]∧Jy H p ys∧Paired (En H) ys ts∧ys.length≤60∧∀ (l:Addr) (is:List Nat),H l=none->(∀ i∈is,i<ys.length)->is.Perm (List.range ys.length)->(is.map fun i=>ts.getD i [])=uP ts->Q (.ref l) (upd H l (.lst (is.map fun i=>ys.getD i V.non)))):=by
 intro pins s σ H xs us Q I r1 h
 obtain⟨p,ys,ts,rfl,hp,hT,hl,q⟩:=h
 cases r1 with
 | cons r rr=>
   cases rr
   cases r
   obtain⟨its,zl,hv,hc⟩:=Jl I hp
   have le:=Paired.length hv
   have lt:=Paired.length hT
   refine yW (l:=p) (vs:=its) hc (zZ I.hok hT hv) (by lia) fun is si=>?_
   obtain⟨e,he⟩:=sortedAll_at s.heap its (is.map fun i=>its.getD i Value.none).toArray
   have hge:s.heap.objs.size≤s.heap.objs.size+1:=Nat.le_succ _
   have lis:is.length=ys.length:=by rw[si.pm.length_eq,List.length_range,le]
   have I2:=I.call (h':=sortedAll s.heap its (is.map fun i=>its.getD i Value.none).toArray) (t':=s.toks) (d':=s.drawn) (g':=s.gens) (ch:=[]) (Un.laid (fun _ _=>sortedAll_old) hge (I.hok.fresh hge)) (I.hok.laid (o:=.lst (is.map fun i=>ys.getD i V.non)) (fun _ _=>sortedAll_old) hge ⟨by rw[List.length_map,lis];exact zl,_,e,Ej hv is si.lt,he⟩) I.bare (fun _ z=>nomatch z)
   refine⟨.ref (s.heap.objs.size+1),upd H (s.heap.objs.size+1) (.lst (is.map fun i=>ys.getD i V.non)),I2,rfl,q _ is (I.hok.fresh hge) (fun i m=>by rw[le];exact si.lt i m) (by rw[le];exact si.pm) ?_⟩
   refine vK ?_ si.ris (uQ ts).2
   refine List.Perm.trans ?_ (uQ ts).1.symm
   refine (si.pm.map _).trans ?_
   have e2:its.length=ts.length:=by lia
   rw[e2]
   have e3:(List.range ts.length).map (fun i=>ts.getD i [])=ts:=by
    apply List.ext_getElem
    ·simp
    ·intro i h1 h2
     simp at h1 ⊢
     rw[List.getElem?_eq_getElem h1];rfl
   rw[e3]
end L2
namespace LB
open PySem PySem.W PySem.Calls PyProof.Rows
end LB
namespace L2
open PySem PySem.Spec PyProof.Rows LS LB
end L2
namespace LB
open PySem PySem.Spec L2
open PyProof.Rows hiding St
open Sem (wp)
end LB
namespace LA
open PySem LS
end LA
namespace LA
open PySem LS PyProof.Rows
end LA
namespace L2
open PySem PySem.Spec PyProof.Rows LS LA LB
end L2
namespace LA
open PySem PySem.Spec PyProof.Rows LS LB
end LA
namespace L2
open PySem PySem.Spec PyProof.Rows LS LA LB
end L2
namespace LA
open PySem PySem.Spec PyProof.Rows LS
end LA
namespace L2
open PySem PySem.Spec PyProof.Rows LS
end L2
namespace L3
open PySem PySem.Spec L2
open PyProof.Rows hiding St
inductive D where
 |non | bl (b:Bool) | int (i:Int) | str (x:Str)
 |tup (l:List D) | lst (l:List D)
 |dic (ks:List Key) (vs:List D)
 |obj (c:Str) (ns:List Str) (vs:List D)
 |scr (ns:List Int)
 |ref (n:Nat)
 |cls (c:Str) | ty (t:String)
 |exn (a:Addr)
instance:Inhabited D:=⟨.non⟩
inductive DO where
 |lst (l:List D)
 |dic (ks:List Key) (vs:List D)
 |ins (c:Str) (ns:List Str) (vs:List D)
 |pdc (ks:List NT) (vs:List D)
abbrev Mo:=List DO
inductive R(α:Type) where
 |ok (a:α) | exc (c:Str)
def DM(α:Type):=Mo->Option (R α×Mo)
@[reducible] def DM.pure{α:Type}(a:α):DM α:=fun M=>some (.ok a,M)
def DM.bind{α β:Type}(m:DM α)(f:α->DM β):DM β:=fun M=>match m M with
 |none=>none
 |some (.exc c,M')=>some (.exc c,M')
 |some (.ok a,M')=>f a M'
instance:Monad DM where
 pure:=DM.pure
 bind:=DM.bind
def rd{α:Type}(f:Mo->Option α):DM α:=fun M=>(f M).map fun a=>(.ok a,M)
def opt{α:Type}(o:Option α):DM α:=fun M=>o.map fun a=>(.ok a,M)
def stuck{α:Type}:DM α:=fun _=>none
def raise{α:Type}(c:Str):DM α:=fun M=>some (.exc c,M)
abbrev ao:=List (Option D)
structure Rh where
 st:List Addr
 vo:List Addr
instance:Membership Addr Rh:=⟨fun ρ a=>a∈ρ.st∨a∈ρ.vo⟩
def Rh.put(ρ:Rh)(p:Addr):Rh:=⟨ρ.st++[p],ρ.vo⟩
def Rh.hold(ρ:Rh)(p:Addr):Rh:=⟨ρ.st,p::ρ.vo⟩
mutual
inductive Cv(mg:Str->Option Value)(ρ:Rh)(H:Hp):V->D->Prop
 |non:Cv mg ρ H .non .non
 |bl (b:Bool):Cv mg ρ H (.bl b) (.bl b)
 |int (i:Int):Cv mg ρ H (.int i) (.int i)
 |str (x:Str):Cv mg ρ H (.str x) (.str x)
 |tup {a:Addr}{xs:List V}{ds:List D}:a∉ρ->H a=some (.tup xs)->Cvs mg ρ H xs ds->Cv mg ρ H (.ref a) (.tup ds)
 |lst {a:Addr}{xs:List V}{ds:List D}:a∉ρ->H a=some (.lst xs)->Cvs mg ρ H xs ds->Cv mg ρ H (.ref a) (.lst ds)
 |dic {a:Addr}{ks:List Key}{xs:List V}{ds:List D}:a∉ρ->H a=some (.dK (ks.zip xs))->ks.length=xs.length->Cvs mg ρ H xs ds->Cv mg ρ H (.ref a) (.dic ks ds)
 |obj {a C dx:Addr}{c:Str}{ns:List Str}{xs:List V}{ds:List D}:a∉ρ->mg c=some (.ref C)->H a=some (.ins C dx (ns.zip xs))->ns.length=xs.length->Cvs mg ρ H xs ds->Cv mg ρ H (.ref a) (.obj c ns ds)
 |scr {a:Addr}{ns:List Int}:a∉ρ->Rd H a (.lst (ns.map V.int))->Cv mg ρ H (.ref a) (.scr ns)
 |ref {n:Nat}{a:Addr}:ρ.st[n]?=some a->Cv mg ρ H (.ref a) (.ref n)
 |cls {c:Str}{C:Addr}:mg c=some (.ref C)->Cv mg ρ H (.ref C) (.cls c)
 |ty (t:String):Cv mg ρ H (.ty t) (.ty t)
 |exn (a:Addr):Cv mg ρ H (.ref a) (.exn a)
inductive Cvs(mg:Str->Option Value)(ρ:Rh)(H:Hp):List V->List D->Prop
 |nil:Cvs mg ρ H [] []
 |cons {v:V}{d:D}{vs:List V}{ds:List D}:Cv mg ρ H v d->Cvs mg ρ H vs ds->Cvs mg ρ H (v::vs) (d::ds)
end
structure Ext(ρ:Rh)(H:Hp)(ρ':Rh)(H':Hp):Prop where
 pre:∃τ,ρ'.st=ρ.st++τ
 vo:ρ'.vo=ρ.vo
 new:∀a,a∈ρ'.st->a∉ρ.st->H a=none
 keep:∀a o,H a=some o->a∉ρ.st->H' a=some o
theorem Ext.refl:Ext ρ H ρ H:=⟨⟨[],by simp⟩,rfl,fun a h n=>absurd h n,fun _ _ h _=>h⟩
theorem Ext.keeps(e:Ext ρ H ρ' H')(h:H a=some o)(n:a∉ρ):H' a=some o:=e.keep a o h fun z=>n (.inl z)
theorem Ext.out1(e:Ext ρ H ρ' H')(h:H a=some o)(n:a∉ρ.st):a∉ρ'.st:=fun z=>by
 have:=e.new a z n
 rw[h] at this;cases this
theorem Ext.out(e:Ext ρ H ρ' H')(h:H a=some o)(n:a∉ρ):a∉ρ':=fun z=>by
 rcases z with z | z
 ·exact e.out1 h (fun y=>n (.inl y)) z
 ·rw[e.vo] at z;exact n (.inr z)
theorem Ext.trans (e:Ext ρ H ρ1 H1) (f:Ext ρ1 H1 ρ2 H2):Ext ρ H ρ2 H2:=by
 refine⟨?_,f.vo.trans e.vo,fun a h n=>?_,fun a o h n=>f.keep a o (e.keep a o h n) (e.out1 h n)⟩
 ·obtain⟨τ,h1⟩:=e.pre
  obtain⟨υ,h2⟩:=f.pre
  exact⟨τ++υ,by rw[h2,h1,List.append_assoc]⟩
 ·by_cases z:a∈ρ1.st
  ·exact e.new a z n
  ·cases q:H a with
   |none=>rfl
   |some o=>
     have:=f.new a h z
     rw[e.keep a o q n] at this;cases this
theorem Ext.at(e:Ext ρ H ρ' H'){n:Nat}(h:ρ.st[n]?=some a):ρ'.st[n]?=some a:=by
 obtain⟨τ,h1⟩:=e.pre
 rw[h1,List.getElem?_append_left (List.getElem?_eq_some_iff.mp h).1];exact h
theorem Rh.nhold{ρ:Rh}{a p:Addr}(h:a∉ρ)(n:a≠p):a∉ρ.hold p:=fun z=>by
 rcases z with z | z
 ·exact h (.inl z)
 ·rcases List.mem_cons.mp z with z | z
  ·exact n z
  ·exact h (.inr z)
section
variable{mg:Str->Option Value}{ρ ρ':Rh}{H H':Hp}
theorem Cvs.ind{P:List V->List D->Prop}{vs:List V}{ds:List D}(h:Cvs mg ρ H vs ds)(n:P [] [])(c:∀{v d vs ds},Cv mg ρ H v d->Cvs mg ρ H vs ds->P vs ds->P (v::vs) (d::ds)):P vs ds:=
 Cvs.rec (motive_1:=fun _ _ _=>True) (motive_2:=fun vs ds _=>P vs ds) ⟨⟩ (fun _=>⟨⟩) (fun _=>⟨⟩) (fun _=>⟨⟩) (fun _ _ _ _=>⟨⟩) (fun _ _ _ _=>⟨⟩) (fun _ _ _ _ _=>⟨⟩) (fun _ _ _ _ _ _=>⟨⟩) (fun _ _=>⟨⟩) (fun _=>⟨⟩) (fun _=>⟨⟩) (fun _=>⟨⟩) (fun _=>⟨⟩) n (fun a t _ i=>c a t i) h
theorem Cvs.gen(at_:∀(n:Nat) a,ρ.st[n]?=some a->ρ'.st[n]?=some a)(kp:∀a o,H a=some o->a∉ρ->(∀φ,o≠.ext φ)->a∉ρ'∧H' a=some o){vs:List V}{ds:List D}(h:Cvs mg ρ H vs ds):Cvs mg ρ' H' vs ds:=
 Cvs.rec (motive_1:=fun v d _=>Cv mg ρ' H' v d) (motive_2:=fun vs ds _=>Cvs mg ρ' H' vs ds) .non .bl .int .str (fun n h _ c=>.tup (kp _ _ h n nofun).1 (kp _ _ h n nofun).2 c) (fun n h _ c=>.lst (kp _ _ h n nofun).1 (kp _ _ h n nofun).2 c) (fun n h l _ c=>.dic (kp _ _ h n nofun).1 (kp _ _ h n nofun).2 l c) (fun n m h l _ c=>.obj (kp _ _ h n nofun).1 m (kp _ _ h n nofun).2 l c)
  (fun n h=>h.elim (fun h=>.scr (kp _ _ h n nofun).1 (.inl (kp _ _ h n nofun).2)) fun⟨_,h⟩=>.scr (kp _ _ h n nofun).1 (.inr ⟨_,(kp _ _ h n nofun).2⟩)) (fun h=>.ref (at_ _ _ h)) .cls .ty .exn .nil (fun _ _=>.cons) h
theorem Cvs.hd{v:V}{d:D}{vs:List V}{ds:List D}(h:Cvs mg ρ H (v::vs) (d::ds)):Cv mg ρ H v d:=by cases h;assumption
theorem Cv.gen(at_:∀(n:Nat) a,ρ.st[n]?=some a->ρ'.st[n]?=some a)(kp:∀a o,H a=some o->a∉ρ->(∀φ,o≠.ext φ)->a∉ρ'∧H' a=some o){v:V}{d:D}(h:Cv mg ρ H v d):Cv mg ρ' H' v d:=(Cvs.gen at_ kp (.cons h .nil)).hd
theorem Cv.mono(e:Ext ρ H ρ' H'){v:V}{d:D}(h:Cv mg ρ H v d):Cv mg ρ' H' v d:=h.gen (fun _ _=>e.at) fun _ _ h n _=>⟨e.out h n,e.keeps h n⟩
theorem Cvs.mono(e:Ext ρ H ρ' H'){v:List V}{d:List D}(h:Cvs mg ρ H v d):Cvs mg ρ' H' v d:=h.gen (fun _ _=>e.at) fun _ _ h n _=>⟨e.out h n,e.keeps h n⟩
theorem Cvs.len{vs:List V}{ds:List D}(h:Cvs mg ρ H vs ds):vs.length=ds.length:=h.ind (P:=fun vs ds=>vs.length=ds.length) rfl fun _ _=>congrArg (·+ 1)
theorem Cvs.append{vs us:List V}{ds es:List D}(h:Cvs mg ρ H vs ds)(h2:Cvs mg ρ H us es):Cvs mg ρ H (vs++us) (ds++es):=h.ind (P:=fun vs ds=>Cvs mg ρ H (vs++us) (ds++es)) h2 fun a _=>.cons a
theorem Cvs.take{vs:List V}{ds:List D}(n:Nat)(h:Cvs mg ρ H vs ds):Cvs mg ρ H (vs.take n) (ds.take n):=h.ind (P:=fun vs ds=>∀n,Cvs mg ρ H (vs.take n) (ds.take n)) (fun n=>by rw[List.take_nil,List.take_nil];exact .nil) (fun a _ i n=>by cases n with | zero=>exact .nil | succ n=>exact .cons a (i n)) n
theorem Cvs.drop{vs:List V}{ds:List D}(n:Nat)(h:Cvs mg ρ H vs ds):Cvs mg ρ H (vs.drop n) (ds.drop n):=h.ind (P:=fun vs ds=>∀n,Cvs mg ρ H (vs.drop n) (ds.drop n)) (fun n=>by rw[List.drop_nil,List.drop_nil];exact .nil) (fun a t i n=>by cases n with | zero=>exact .cons a t | succ n=>exact i n) n
theorem Cvs.get{vs:List V}{ds:List D}{i:Nat}{d:D}(h:Cvs mg ρ H vs ds):ds[i]?=some d->∃v,vs[i]?=some v∧Cv mg ρ H v d:=h.ind (P:=fun vs ds=>∀i,ds[i]?=some d->∃v,vs[i]?=some v∧Cv mg ρ H v d) (fun _ e=>by cases e) (fun {v _ _ _} a _ r i=>by cases i with | zero=>exact fun e=>⟨v,rfl,Option.some.inj e ▸ a⟩ | succ n=>exact r n) i
theorem Cvs.set{v:V}{d:D}(h:Cv mg ρ H v d){vs:List V}{ds:List D}(i:Nat)(c:Cvs mg ρ H vs ds):Cvs mg ρ H (vs.set i v) (ds.set i d):=c.ind (P:=fun vs ds=>∀i,Cvs mg ρ H (vs.set i v) (ds.set i d)) (fun _=>.nil) (fun a t r i=>by cases i with | zero=>exact .cons h t | succ n=>exact .cons a (r n)) i
theorem Cvs.reverse{vs:List V}{ds:List D}(h:Cvs mg ρ H vs ds):Cvs mg ρ H vs.reverse ds.reverse:=h.ind (P:=fun vs ds=>Cvs mg ρ H vs.reverse ds.reverse) .nil fun a _ i=>by rw[List.reverse_cons,List.reverse_cons];exact i.append (.cons a .nil)
def K9(k:NT):D:=.tup [.int k.1,.tup (k.2.map D.int)]
def ou(mg:Str->Option Value)(ρ:Rh)(H:Hp)(a:Addr):DO->Prop
 |.lst l=>∃xs,H a=some (.lst xs)∧Cvs mg ρ H xs l
 |.dic ks l=>∃xs,H a=some (.dK (ks.zip xs))∧ks.length=xs.length∧Cvs mg ρ H xs l
 |.ins c ns l=>∃C dx xs,mg c=some (.ref C)∧H a=some (.ins C dx (ns.zip xs))∧ns.length=xs.length∧Cvs mg ρ H xs l
 |.pdc ks l=>∃xs,H a=some (Qi a xs)∧xs.map (·.1)=ks∧ks.Nodup∧Cvs mg ρ H (xs.map fun x=>.ref x.2.1) (ks.map K9)∧Cvs mg ρ H (xs.map fun x=>.ref x.2.2) l
theorem ou.some{a:Addr}{o:DO}(h:ou mg ρ H a o):∃u,H a=some u:=by
 cases o with
 |lst l=>obtain⟨xs,h,_⟩:=h;exact⟨_,h⟩
 |dic ks l=>obtain⟨xs,h,_⟩:=h;exact⟨_,h⟩
 |ins c ns l=>obtain⟨C,dx,xs,_,h,_⟩:=h;exact⟨_,h⟩
 |pdc ks l=>obtain⟨xs,h,_⟩:=h;exact⟨_,h⟩
theorem ou.mono{a:Addr}{o:DO}(e:Ext ρ H ρ' H')(k:H' a=H a)(h:ou mg ρ H a o):ou mg ρ' H' a o:=by
 cases o with
 |lst l=>obtain⟨xs,h,c⟩:=h;exact⟨xs,k.trans h,c.mono e⟩
 |dic ks l=>obtain⟨xs,h,q,c⟩:=h;exact⟨xs,k.trans h,q,c.mono e⟩
 |ins c ns l=>obtain⟨C,dx,xs,m,h,q,c⟩:=h;exact⟨C,dx,xs,m,k.trans h,q,c.mono e⟩
 |pdc ks l=>obtain⟨xs,h,q,n,c,d⟩:=h;exact⟨xs,k.trans h,q,n,c.mono e,d.mono e⟩
structure J(mg:Str->Option Value)(ρ:Rh)(M:Mo)(H:Hp):Prop where
 len:ρ.st.length=M.length
 nd:ρ.st.Nodup
 obj:∀(n:Nat) a o,ρ.st[n]?=some a->M[n]?=some o->ou mg ρ H a o
 vol:∀a,a∈ρ.vo->a∉ρ.st∧∃xs,H a=some (.lst xs)
theorem J.some{M:Mo}(j:J mg ρ M H){a:Addr}(h:a∈ρ):∃u,H a=some u:=by
 rcases h with h | h
 ·obtain⟨n,hn⟩:=List.mem_iff_getElem?.mp h
  have lt:n<M.length:=by rw[←j.len];exact (List.getElem?_eq_some_iff.mp hn).1
  exact (j.obj n a M[n] hn (List.getElem?_eq_getElem lt)).some
 ·obtain⟨_,xs,e⟩:=j.vol a h
  exact⟨_,e⟩
theorem J.fresh{M:Mo}(j:J mg ρ M H){p:Addr}(h:H p=none):p∉ρ:=fun z=>by
 obtain⟨u,e⟩:=j.some z
 rw[h] at e;cases e
theorem J.inj{M:Mo}(j:J mg ρ M H){n m:Nat}{a:Addr}(h:ρ.st[n]?=Option.some a)(k:ρ.st[m]?=Option.some a):n=m:=by
 obtain⟨h1,e1⟩:=List.getElem?_eq_some_iff.mp h
 obtain⟨h2,e2⟩:=List.getElem?_eq_some_iff.mp k
 have q:∀i k (hi:i<ρ.st.length) (hk:k<ρ.st.length),i<k->ρ.st[i]≠ρ.st[k]:=fun i k hi hk lt=>List.pairwise_iff_getElem.mp j.nd i k hi hk lt
 rcases Nat.lt_trichotomy n m with z | z | z
 ·exact absurd (e1.trans e2.symm) (q n m h1 h2 z)
 ·exact z
 ·exact absurd (e2.trans e1.symm) (q m n h2 h1 z)
theorem Ext.lay{p:Addr}{o:HO}(h:H p=none):Ext ρ H ρ (upd H p o):=⟨⟨[],by simp⟩,rfl,fun a h n=>absurd h n,fun a o e _=>by rw[upd_ne (ne_of_none e h)];exact e⟩
theorem Ext.same(S:Same H H'):Ext ρ H ρ H':=⟨⟨[],by simp⟩,rfl,fun a h n=>absurd h n,fun a o e _=>S _ _ e⟩
theorem J.same{M:Mo}(j:J mg ρ M H)(S:Same H H'):J mg ρ M H':=⟨j.len,j.nd,fun n a o h k=>by
 have c:=j.obj n a o h k
 obtain⟨u,e⟩:=c.some
 exact c.mono (Ext.same S) (by rw[e,S _ _ e]),fun a h=>let ⟨x,xs,e⟩:=j.vol a h;⟨x,xs,S _ _ e⟩⟩
theorem J.lay{M:Mo}(j:J mg ρ M H){p:Addr}(o:HO)(h:H p=none):J mg ρ M (upd H p o):=j.same (same_new h o)
theorem Ext.put{p:Addr}{o:HO}(h:H p=none):Ext ρ H (ρ.put p) (upd H p o):=⟨⟨[p],rfl⟩,rfl,fun a ha n=>by
 rcases List.mem_append.mp ha with z | z
 ·exact absurd z n
 ·rw[List.mem_singleton.mp z];exact h,fun a o e _=>by rw[upd_ne (ne_of_none e h)];exact e⟩
theorem J.put {M:Mo} (j:J mg ρ M H) {p:Addr}{o:HO}{u:DO} (h:H p=none) (c:ou mg (ρ.put p) (upd H p o) p u):J mg (ρ.put p) (M++[u]) (upd H p o):=by
 have np:p∉ρ.st:=fun z=>j.fresh h (.inl z)
 refine⟨?_,?_,fun n a w h1 h2=>?_,fun a ha=>?_⟩
 ·show (ρ.st++[p]).length=_
  rw[List.length_append,List.length_append,j.len];rfl
 ·show (ρ.st++[p]).Nodup
  rw[List.nodup_append]
  exact⟨j.nd,by simp,fun x hx y hy e=>by rw[List.mem_singleton.mp hy] at e;exact np (e ▸ hx)⟩
 ·have h1:(ρ.st++[p])[n]?=Option.some a:=h1
  by_cases hn:n<ρ.st.length
  ·rw[List.getElem?_append_left hn] at h1
   rw[List.getElem?_append_left (by rw[←j.len];exact hn)] at h2
   have c:=j.obj n a w h1 h2
   exact c.mono (Ext.put h) (upd_ne fun (z:a=p)=>np (z ▸ List.mem_of_getElem? h1))
  ·have hl:n<(ρ.st++[p]).length:=(List.getElem?_eq_some_iff.mp h1).1
   rw[List.length_append] at hl
   have e:n=ρ.st.length:=by have:[p].length=1:=rfl;lia
   subst e
   rw[List.getElem?_append_right (Nat.le_refl _)] at h1
   rw[j.len,List.getElem?_append_right (Nat.le_refl _)] at h2
   simp at h1 h2
   subst h1 h2
   exact c
 ·obtain⟨x,xs,e⟩:=j.vol a ha
  have ne:a≠p:=ne_of_none e h
  refine⟨fun z=>?_,xs,by rw[upd_ne ne];exact e⟩
  rcases List.mem_append.mp z with z | z
  ·exact x z
  ·exact ne (List.mem_singleton.mp z)
theorem Ext.upd{p:Addr}{o:HO}(h:p∈ρ.st):Ext ρ H ρ (L2.upd H p o):=⟨⟨[],by simp⟩,rfl,fun a h n=>absurd h n,fun a u e n=>by rw[upd_ne (fun (z:a=p)=>n (z ▸ h))];exact e⟩
theorem J.upd {M:Mo} (j:J mg ρ M H) {n:Nat}{p:Addr}{o:HO}{u:DO} (h:ρ.st[n]?=Option.some p) (c:ou mg ρ (L2.upd H p o) p u):J mg ρ (M.set n u) (L2.upd H p o):=by
 refine⟨by rw[List.length_set];exact j.len,j.nd,fun m a w h1 h2=>?_,fun a ha=>?_⟩
 ·by_cases e:m=n
  ·subst e
   rw[h] at h1;cases h1
   have lt:m<M.length:=by rw[←j.len];exact (List.getElem?_eq_some_iff.mp h).1
   rw[List.getElem?_set_self lt] at h2
   cases h2
   exact c
  ·rw[List.getElem?_set_ne (fun z=>e z.symm)] at h2
   have ne:a≠p:=fun z=>by subst z;exact e (j.inj h1 h)
   exact (j.obj m a w h1 h2).mono (Ext.upd (List.mem_of_getElem? h)) (by rw[upd_ne ne])
 ·obtain⟨x,xs,e⟩:=j.vol a ha
  exact⟨x,xs,by rw[upd_ne (fun (z:a=p)=>x (z ▸ List.mem_of_getElem? h))];exact e⟩
theorem Ju{p a:Addr}{o:HO}(hp:p∈ρ.vo)(n:a∉ρ):L2.upd H p o a=H a:=upd_ne fun z=>n (by rw[z];exact .inr hp)
theorem Cvs.hold{p:Addr}{o:HO}(hp:p∈ρ.vo){v:List V}{d:List D}(h:Cvs mg ρ H v d):Cvs mg ρ (L2.upd H p o) v d:=h.gen (fun _ _ h=>h) fun _ _ h n _=>⟨n,(Ju hp n).trans h⟩
theorem Cvs.less{ρ1:Rh}(hs:ρ1.st=ρ.st)(hv:∀a,a∈ρ1.vo->a∈ρ.vo){v:List V}{d:List D}(h:Cvs mg ρ H v d):Cvs mg ρ1 H v d:=h.gen (fun _ _ h=>hs ▸ h) fun _ _ h n _=>⟨fun z=>n (z.elim (fun y=>.inl (hs ▸ y)) fun y=>.inr (hv _ y)),h⟩
theorem Cvs.more{p:Addr}(hp:H p=none){v:List V}{d:List D}(h:Cvs mg ρ H v d):Cvs mg (ρ.hold p) H v d:=h.gen (ρ:=ρ) (ρ':=ρ.hold p) (fun _ _ h=>h) fun _ _ h n _=>⟨Rh.nhold n (ne_of_none h hp),h⟩
theorem ou.map{ρ1:Rh}{H1:Hp}{a:Addr}{o:DO}(k:H1 a=H a)(f:∀vs ds,Cvs mg ρ H vs ds->Cvs mg ρ1 H1 vs ds)(h:ou mg ρ H a o):ou mg ρ1 H1 a o:=by
 cases o with
 |lst l=>obtain⟨xs,h,c⟩:=h;exact⟨xs,k.trans h,f _ _ c⟩
 |dic ks l=>obtain⟨xs,h,q,c⟩:=h;exact⟨xs,k.trans h,q,f _ _ c⟩
 |ins c ns l=>obtain⟨C,dx,xs,m,h,q,c⟩:=h;exact⟨C,dx,xs,m,k.trans h,q,f _ _ c⟩
 |pdc ks l=>obtain⟨xs,h,q,n,c,d⟩:=h;exact⟨xs,k.trans h,q,n,f _ _ c,f _ _ d⟩
theorem J.begin {M:Mo} (j:J mg ρ M H) {p:Addr} (hp:H p=none):J mg (ρ.hold p) M (L2.upd H p (.lst [])):=by
 have np:p∉ρ.st:=fun z=>j.fresh hp (.inl z)
 refine⟨j.len,j.nd,fun n a o h1 h2=>?_,fun a ha=>?_⟩
 ·exact (j.obj n a o h1 h2).map (upd_ne fun (z:a=p)=>np (z ▸ List.mem_of_getElem? h1)) fun vs ds c=>(c.more hp).hold (.head _)
 ·rcases List.mem_cons.mp ha with rfl | ha
  ·exact⟨np,[],upd_same⟩
  ·obtain⟨x,xs,e⟩:=j.vol a ha
   exact⟨x,xs,by rw[upd_ne (ne_of_none e hp)];exact e⟩
theorem J.grow {M:Mo} (j:J mg ρ M H) {p:Addr}{ys:List V} (hp:p∈ρ.vo):J mg ρ M (L2.upd H p (.lst ys)):=by
 refine⟨j.len,j.nd,fun n a o h1 h2=>?_,fun a ha=>?_⟩
 ·exact (j.obj n a o h1 h2).map (upd_ne fun (z:a=p)=>(j.vol p hp).1 (z ▸ List.mem_of_getElem? h1)) fun vs ds c=>c.hold hp
 ·by_cases z:a=p
  ·subst z;exact⟨(j.vol a ha).1,ys,upd_same⟩
  ·obtain⟨x,xs,e⟩:=j.vol a ha
   exact⟨x,xs,by rw[upd_ne z];exact e⟩
theorem J.done{M:Mo}{p:Addr}{ρ1:Rh}(j:J mg ρ1 M H)(hv:ρ1.vo=p::ρ.vo):J mg ⟨ρ1.st,ρ.vo⟩ M H:=by
 refine⟨j.len,j.nd,fun n a o h1 h2=>?_,fun a ha=>?_⟩
 ·exact ou.map (ρ:=ρ1) rfl (fun vs ds c=>Cvs.less (ρ:=ρ1) (ρ1:=⟨ρ1.st,ρ.vo⟩) rfl (fun a ha=>by rw[hv];exact .tail _ ha) c) (j.obj n a o h1 h2)
 ·obtain⟨x,y⟩:=j.vol a (by rw[hv];exact .tail _ ha)
  exact⟨x,y⟩
end
structure Kp(ρ:Rh)(H:Hp)(ρ':Rh)(H':Hp):Prop where
 pre:∃τ,ρ'.st=ρ.st++τ
 keep:∀a o,H a=some o->a∉ρ->(∀φ,o≠.ext φ)->a∉ρ'∧H' a=some o
theorem Ext.kp{ρ ρ':Rh}{H H':Hp}(e:Ext ρ H ρ' H'):Kp ρ H ρ' H':=⟨e.pre,fun a o h n _=>⟨e.out h n,e.keeps h n⟩⟩
theorem Kp.trans{ρ ρ1 ρ2:Rh}{H H1 H2:Hp}(a:Kp ρ H ρ1 H1)(b:Kp ρ1 H1 ρ2 H2):Kp ρ H ρ2 H2:=by
 refine⟨?_,fun c o h n ne=>let ⟨x,y⟩:=a.keep c o h n ne;b.keep c o y x ne⟩
 obtain⟨τ,h1⟩:=a.pre
 obtain⟨υ,h2⟩:=b.pre
 exact⟨τ++υ,by rw[h2,h1,List.append_assoc]⟩
theorem Kp.at{ρ ρ':Rh}{H H':Hp}(e:Kp ρ H ρ' H'){n:Nat}{a:Addr}(h:ρ.st[n]?=some a):ρ'.st[n]?=some a:=by
 obtain⟨τ,h1⟩:=e.pre
 rw[h1,List.getElem?_append_left (List.getElem?_eq_some_iff.mp h).1];exact h
section
variable{mg:Str->Option Value}{ρ ρ':Rh}{H H':Hp}
theorem Cv.kp(e:Kp ρ H ρ' H'){v:V}{d:D}(h:Cv mg ρ H v d):Cv mg ρ' H' v d:=h.gen (fun _ _=>e.at) e.keep
theorem Cvs.kp(e:Kp ρ H ρ' H'){v:List V}{d:List D}(h:Cvs mg ρ H v d):Cvs mg ρ' H' v d:=h.gen (fun _ _=>e.at) e.keep
end
def oM(mg:Str->Option Value)(ρ:Rh)(H:Hp){α β:Type}(rel:Rh->Hp->β->α->Prop)(Q:β->Hp->Prop)(E:XK):R α×Mo->Prop
 |(.ok a,M')=>∀ρ' H' b,Ext ρ H ρ' H'->J mg ρ' M' H'->rel ρ' H' b a->Q b H'
 |(.exc c,M')=>∀ρ' H' C,Ext ρ H ρ' H'->J mg ρ' M' H'->mg c=some (.ref C)->E (.ref C) none H'
def Go(mg:Str->Option Value)(E:XK){α β:Type}(rel:Rh->Hp->β->α->Prop)(Q:β->Hp->Prop)(ρ:Rh)(H:Hp)(m:DM α)(M:Mo):Prop:=∃r,m M=some r∧oM mg ρ H rel Q E r
section
variable{mg:Str->Option Value}{ρ ρ':Rh}{H H':Hp}{E:XK}{α β γ δ':Type}{rel:Rh->Hp->β->α->Prop}{rel':Rh->Hp->δ'->γ->Prop}{Q:δ'->Hp->Prop}{Q':β->Hp->Prop}
theorem oM.mono{r:R α×Mo}(e:Ext ρ H ρ' H')(h:oM mg ρ H rel Q' E r):oM mg ρ' H' rel Q' E r:=by
 obtain⟨r,M'⟩:=r
 cases r with
 |ok a=>exact fun ρ2 H2 b e2 j c=>h ρ2 H2 b (e.trans e2) j c
 |exc c=>exact fun ρ2 H2 C e2 j m=>h ρ2 H2 C (e.trans e2) j m
theorem Go.bind{m:DM α}{k:α->DM γ}{M:Mo}(g:Go mg E rel' Q ρ H (m>>=k) M)
  (f:∀ρ1 H1 M1 b a,Ext ρ H ρ1 H1->J mg ρ1 M1 H1->rel ρ1 H1 b a->Go mg E rel' Q ρ1 H1 (k a) M1->Q' b H1):Go mg E rel Q' ρ H m M:=by
 obtain⟨r,e,p⟩:=g
 have e:DM.bind m k M=some r:=e
 unfold DM.bind at e
 split at e
 ·cases e
 ·rename_i c M' em
  cases e
  exact⟨_,em,p⟩
 ·rename_i a M' em
  exact⟨_,em,fun ρ1 H1 b x j c=>f ρ1 H1 M' b a x j c ⟨r,e,p.mono x⟩⟩
theorem Go.rd{f:Mo->Option α}{M:Mo}(g:Go mg E rel Q' ρ H (rd f) M):∃a,f M=some a∧∀ρ' H' b,Ext ρ H ρ' H'->J mg ρ' M H'->rel ρ' H' b a->Q' b H':=by
 obtain⟨r,e,p⟩:=g
 obtain⟨a,e1,rfl⟩:=Option.map_eq_some_iff.mp e
 exact⟨a,e1,p⟩
theorem Go.opt{o:Option α}{M:Mo}(g:Go mg E rel Q' ρ H (opt o) M):∃a,o=some a∧∀ρ' H' b,Ext ρ H ρ' H'->J mg ρ' M H'->rel ρ' H' b a->Q' b H':=by
 obtain⟨r,e,p⟩:=g
 obtain⟨a,e1,rfl⟩:=Option.map_eq_some_iff.mp e
 exact⟨a,e1,p⟩
theorem Go.pure{a:α}{M:Mo}(g:Go mg E rel Q' ρ H (pure a) M):∀ρ' H' b,Ext ρ H ρ' H'->J mg ρ' M H'->rel ρ' H' b a->Q' b H':=by
 obtain⟨r,e,p⟩:=g
 have e:some (R.ok a,M)=some r:=e
 cases e
 exact p
end
structure Ev(mg:Str->Option Value)(ρ:Rh)(H:Hp)(σ:St)(δ:ao):Prop where
 len:σ.length=δ.length
 val:∀(i:Nat) d,δ[i]?=some (some d)->∃v,σ[i]?=some (some v)∧Cv mg ρ H v d
theorem Ev.mono{mg:Str->Option Value}{ρ ρ':Rh}{H H':Hp}{σ:St}{δ:ao}(e:Ext ρ H ρ' H')(h:Ev mg ρ H σ δ):Ev mg ρ' H' σ δ:=
 ⟨h.len,fun i d q=>let ⟨v,a,b⟩:=h.val i d q;⟨v,a,b.mono e⟩⟩
theorem Ev.kp{mg:Str->Option Value}{ρ ρ':Rh}{H H':Hp}{σ:St}{δ:ao}(e:Kp ρ H ρ' H')(h:Ev mg ρ H σ δ):Ev mg ρ' H' σ δ:=
 ⟨h.len,fun i d q=>let ⟨v,a,b⟩:=h.val i d q;⟨v,a,b.kp e⟩⟩
theorem Ev.set{mg:Str->Option Value}{ρ:Rh}{H:Hp}{σ:St}{δ:ao}{i:Nat}{v:V}{d:D}(h:Ev mg ρ H σ δ)(c:Cv mg ρ H v d):Ev mg ρ H (σ.set i (some v)) (δ.set i (some d)):=by
 refine⟨by rw[List.length_set,List.length_set,h.len],fun j x q=>?_⟩
 by_cases e:j=i
 ·subst e
  have hj:j<(δ.set j (some d)).length:=(List.getElem?_eq_some_iff.mp q).1
  rw[List.length_set] at hj
  rw[List.getElem?_set_self hj] at q
  cases q
  exact⟨v,List.getElem?_set_self (by rw[h.len];exact hj),c⟩
 ·rw[List.getElem?_set_ne (fun z=>e z.symm)] at q ⊢
  exact h.val j x q
def tD(mg:Str->Option Value)(E:XK){α β:Type}(rel:Rh->Hp->β->α->Prop)(f:ao->DM α):St->Hp->(β->Hp->Prop)->Prop:=fun σ H Q=>
 ∃ρ δ M,Ev mg ρ H σ δ∧J mg ρ M H∧Go mg E rel Q ρ H (f δ) M
def Bv(_:Rh)(_:Hp)(b a:Bool):Prop:=b=a
structure DE(X:Cx)(E:XK)(e:Expr)(f:ao->DM D):Prop where
 h:PE X e (tD X.mg E (Cv X.mg) f)
structure DA(X:Cx)(E:XK)(es:List Expr)(f:ao->DM (List D)):Prop where
 h:QA X es (tD X.mg E (Cvs X.mg) f)
structure DT(X:Cx)(E:XK)(e:Expr)(f:ao->DM Bool):Prop where
 h:PT X e (tD X.mg E Bv f)
theorem PE.mono{X:Cx}{e:Expr}{t t':TE}(h:PE X e t)(f:∀σ H Q,t' σ H Q->t σ H Q):PE X e t':=fun pins s σ H Q I q=>h pins s σ H Q I (f σ H Q q)
theorem PT.mono{X:Cx}{e:Expr}{t t':TT}(h:PT X e t)(f:∀σ H Q,t' σ H Q->t σ H Q):PT X e t':=fun pins s σ H Q I q=>h pins s σ H Q I (f σ H Q q)
theorem PA.mono{X:Cx}{e:List Expr}{t t':TA}(h:PA X e t)(f:∀σ H Q,t' σ H Q->t σ H Q):PA X e t':=fun p pins s σ H Q I q=>h p pins s σ H Q I (f σ H Q q)
mutual
def toPy:D->Option PyData
 |.non=>some .none
 |.bl b=>some (.bool b)
 |.int i=>some (.int i)
 |.str x=>some (.str x)
 |.tup l=>(dN l).map .tuple
 |.lst l=>(dN l).map .list
 |_=>none
def dN:List D->Option (List PyData)
 |[]=>some []
 |d::l=>match toPy d,dN l with
   |some p,some ps=>some (p::ps)
   |_,_=>none
end
mutual
def dq:D->Option PyData
 |.non=>some .none
 |.bl b=>some (.bool b)
 |.int i=>some (.int i)
 |.str x=>some (.str x)
 |.tup l=>(cY l).map .tuple
 |.lst l=>(cY l).map .list
 |.dic [] []=>some (.dict [])
 |.dic [.inl i] [.int j]=>some (.dict [(.int i,.int j)])
 |_=>none
def cY:List D->Option (List PyData)
 |[]=>some []
 |d::l=>match dq d,cY l with
   |some p,some ps=>some (p::ps)
   |_,_=>none
end
section
variable{mg:Str->Option Value}{ρ:Rh}{H:Hp}
theorem nO{α:Type}{p:α}{P:Prop}(e:none=some p):P:=nomatch e
theorem Eb{ks:List Key}{ds:List D}{p:PyData}(e:dq (.dic ks ds)=some p):(ks=[]∧ds=[]∧.dict []=p)∨∃i j,ks=[.inl i]∧ds=[.int j]∧.dict [(.int i,.int j)]=p:=by
 match ks,ds,e with
 |[],[],e=>exact .inl ⟨rfl,rfl,Option.some.inj e⟩
 |[.inl i],[.int j],e=>exact .inr ⟨i,j,rfl,rfl,Option.some.inj e⟩
theorem Cvs.repF {vs:List V}{ds:List D}{ps:List PyData} (h:Cvs mg ρ H vs ds):dN ds=some ps->RepsF H true vs ps:=
 Cvs.rec (motive_1:=fun v d _=>∀ p,toPy d=some p->RepF H true v p) (motive_2:=fun vs ds _=>∀ ps,dN ds=some ps->RepsF H true vs ps)
  (fun _ e=>Option.some.inj e ▸ .non) (fun b _ e=>Option.some.inj e ▸ .bl b) (fun b _ e=>Option.some.inj e ▸ .int b) (fun b _ e=>Option.some.inj e ▸ .str b)
  (fun _ h _ c _ e=>by obtain⟨ps,e1,e2⟩:=Option.map_eq_some_iff.mp e;exact e2 ▸ .tup h (c _ e1)) (fun _ h _ c _ e=>by obtain⟨ps,e1,e2⟩:=Option.map_eq_some_iff.mp e;exact e2 ▸ .lst h (c _ e1))
  (fun _ _ _ _ _ _ e=>nO e) (fun _ _ _ _ _ _ _ e=>nO e) (fun _ _ _ e=>nO e) (fun _ _ e=>nO e) (fun _ _ e=>nO e) (fun _ _ e=>nO e) (fun _ _ e=>nO e)
  (fun _ e=>Option.some.inj e ▸ .nil) (fun {_ d _ l} _ _ i j _ e=>by
    revert e
    show (match toPy d,dN l with | some p,some ps=>some (p::ps) | _,_=>none)=_->_
    cases h1:toPy d with
    |none=>exact fun e=>nO e
    |some p=>cases h2:dN l with
      |none=>exact fun e=>nO e
      |some q=>exact fun e=>Option.some.inj e ▸ .cons (i _ h1) (j _ h2)) h ps
theorem Cv.repF{v:V}{d:D}{p:PyData}(h:Cv mg ρ H v d)(e:toPy d=some p):RepF H true v p:=by
 have z:dN [d]=some [p]:=by
  show (match toPy d,some [] with | some p,some ps=>some (p::ps) | _,_=>none)=_
  rw[e]
 cases Cvs.repF (.cons h .nil) z;assumption
theorem Cvs.repD {vs:List V}{ds:List D}{ps:List PyData} (h:Cvs mg ρ H vs ds):cY ds=some ps->RepsF H false vs ps:=
 Cvs.rec (motive_1:=fun v d _=>∀ p,dq d=some p->RepF H false v p) (motive_2:=fun vs ds _=>∀ ps,cY ds=some ps->RepsF H false vs ps)
  (fun _ e=>Option.some.inj e ▸ .non) (fun b _ e=>Option.some.inj e ▸ .bl b) (fun b _ e=>Option.some.inj e ▸ .int b) (fun b _ e=>Option.some.inj e ▸ .str b)
  (fun _ h _ c _ e=>by obtain⟨ps,e1,e2⟩:=Option.map_eq_some_iff.mp e;exact e2 ▸ .tup h (c _ e1)) (fun _ h _ c _ e=>by obtain⟨ps,e1,e2⟩:=Option.map_eq_some_iff.mp e;exact e2 ▸ .lst h (c _ e1))
  (fun _ h _ c _ _ e=>by
    rcases Eb e with ⟨rfl,rfl,z⟩ | ⟨i,j,rfl,rfl,z⟩
    ·cases c;exact z ▸ .d0 h
    ·cases c with
     |cons c1 c2=>
       cases c2
       cases c1
       exact z ▸ .d1 h) (fun _ _ _ _ _ _ _ e=>nO e) (fun _ _ _ e=>nO e) (fun _ _ e=>nO e) (fun _ _ e=>nO e) (fun _ _ e=>nO e) (fun _ _ e=>nO e)
  (fun _ e=>Option.some.inj e ▸ .nil) (fun {_ d _ l} _ _ i j _ e=>by
    revert e
    show (match dq d,cY l with | some p,some ps=>some (p::ps) | _,_=>none)=_->_
    cases h1:dq d with
    |none=>exact fun e=>nO e
    |some p=>cases h2:cY l with
      |none=>exact fun e=>nO e
      |some q=>exact fun e=>Option.some.inj e ▸ .cons (i _ h1) (j _ h2)) h ps
theorem Cv.repD{v:V}{d:D}{p:PyData}(h:Cv mg ρ H v d)(e:dq d=some p):RepF H false v p:=by
 have z:cY [d]=some [p]:=by
  show (match dq d,some [] with | some p,some ps=>some (p::ps) | _,_=>none)=_
  rw[e]
 cases Cvs.repD (.cons h .nil) z;assumption
end
section
variable{X:Cx}{E:XK}{a b c:Expr}{fa fb fc:ao->DM D}{pos:Pos}
def uA(i:Nat)(δ:ao):DM D:=opt ((δ[i]?).join)
theorem aj(i:Nat){x:Str}(hN:X.N[i]?=some x:=by rfl)(hv:Vis X.env.scope x:=by first | exact Or.inl rfl | exact Or.inr (Or.inl rfl) | exact Or.inr (Or.inr rfl))(hd:(x==("__debug__":Str))=false:=by decide)
  (hcd:(x==("__classdict__":Str))=false:=by decide):DE X E (.Name x pos) (uA i):=⟨PE.mono (pe_var (i:=i) hN hv hd hcd) fun σ H Q h=>by
 obtain⟨ρ,δ,M,ev,j,g⟩:=h
 obtain⟨d,e,q⟩:=g.opt
 have e':δ[i]?=some (some d):=by
  cases z:δ[i]? with
  |none=>rw[z] at e;cases e
  |some o=>rw[z] at e;exact congrArg some e
 obtain⟨v,h1,h2⟩:=ev.val i d e'
 exact⟨v,h1,q ρ H v .refl j h2⟩⟩
theorem fH{e:Expr}{v:V}{d:D}(h:PE X e (tC v))(hc:∀ρ H,Cv X.mg ρ H v d):DE X E e (fun _=>pure d):=⟨PE.mono h fun σ H Q h=>by
 obtain⟨ρ,δ,M,ev,j,g⟩:=h
 exact g.pure ρ H v .refl j (hc _ _)⟩
theorem az{i j}:DE X E (.Constant (.int i) j pos) (fun _=>pure (.int i)):=fH pe_int fun _ _=>.int i
theorem cN{i j}:DE X E (.Constant (.bool i) j pos) (fun _=>pure (.bl i)):=fH pe_bl fun _ _=>.bl i
theorem oW{j}:DE X E (.Constant .none j pos) (fun _=>pure .non):=fH pe_non fun _ _=>.non
theorem bw{x j}:DE X E (.Constant (.str x) j pos) (fun _=>pure (.str x)):=fH pe_str fun _ _=>.str x
theorem Mz{x:Str}{i:Int}{t:Tok}(h:X.mg x=some (.int i t))(hg:Gl X x:=by rfl)(hd:(x==("__debug__":Str))=false:=by decide):DE X E (.Name x pos) (fun _=>pure (.int i)):=fH (Nk h hg hd) fun _ _=>.int i
theorem JZ{x:Str}{C:Addr}(h:X.mg x=some (.ref C))(hg:Gl X x:=by rfl)(hd:(x==("__debug__":Str))=false:=by decide):DE X E (.Name x pos) (fun _=>pure (.cls x)):=fH (K6 h hg hd) fun _ _=>.cls h
theorem dI{x:Str}{T:String}(hm:X.mg x=none)(hg:Gl X x:=by rfl)(hv:bootBuiltins x=some (.type T):=by decide +kernel)(hn:x≠"__name__":=by decide)(hdb:(x==("__debug__":Str))=false:=by decide):DE X E (.Name x pos) (fun _=>pure (.ty T)):=
 fH (Np hm hg hv hn hdb) fun _ _=>.ty T
def rD(mg:Str->Option Value)(E:XK)(g:D->D->DM D):R2:=fun x y H Q=>∃ρ M dx dy,J mg ρ M H∧Cv mg ρ H x dx∧Cv mg ρ H y dy∧Go mg E (Cv mg) Q ρ H (g dx dy) M
def bZ(X:Cx)(E:XK)(f:Value->Value->Sem Value)(g:D->D->DM D):Prop:=OpR X f (rD X.mg E g)
theorem zA{g:D->D->DM D}{r:R2}(hr:∀x y H Q,rD X.mg E g x y H Q->r x y H Q){σ:L2.St}{H:Hp}{Q:VK}(h:tD X.mg E (Cv X.mg) (fun δ=>fa δ>>=fun x=>fb δ>>=fun y=>g x y) σ H Q) :
  tOp r (tD X.mg E (Cv X.mg) fa) (tD X.mg E (Cv X.mg) fb) σ H Q:=by
 obtain⟨ρ,δ,M,ev,j,g1⟩:=h
 exact⟨ρ,δ,M,ev,j,g1.bind fun ρ1 H1 M1 x dx e1 j1 c1 g2=>⟨ρ1,δ,M1,ev.mono e1,j1,g2.bind fun ρ2 H2 M2 y dy e2 j2 c2 g3=>hr _ _ _ _ ⟨ρ2,M2,dx,dy,j2,c1.mono e2,c2,g3⟩⟩⟩
theorem aH{op:Operator}{g:D->D->DM D}(ho:bZ X E (binaryOp op) g)(ha:DE X E a fa)(hb:DE X E b fb):DE X E (.BinOp a op b pos) (fun δ=>fa δ>>=fun x=>fb δ>>=fun y=>g x y):=
 ⟨PE.mono (pe_op ho ha.h hb.h) fun σ H Q h=>zA (fun _ _ _ _ z=>z) h⟩
theorem ig{op:CmpOp}{g:D->D->DM D}(ho:bZ X E (compareOp op) g)(ha:DE X E a fa)(hb:DE X E b fb)(hm:behindInMarks op b=false:=by first | exact nomark _ | rfl):DE X E (.Compare a [op] [b] pos) (fun δ=>fa δ>>=fun x=>fb δ>>=fun y=>g x y):=
 ⟨PE.mono (pe_cmpR ho ha.h hb.h hm) fun σ H Q h=>zA (fun _ _ _ _ z=>z) h⟩
def fY:D->DM Bool
 |.bl b=>pure b
 |_=>stuck
theorem Go.fY{mg:Str->Option Value}{ρ:Rh}{H:Hp}{d:D}{M:Mo}{Q:Bool->Hp->Prop}(g:Go mg E Bv Q ρ H (fY d) M):∃k,d=.bl k∧∀ρ' H',Ext ρ H ρ' H'->J mg ρ' M H'->Q k H':=by
 cases d with
 |bl k=>exact⟨k,rfl,fun ρ' H' e j=>(show Go mg E Bv Q ρ H (Pure.pure k) M from g).pure ρ' H' k e j rfl⟩
 |_=>obtain⟨r,e,_⟩:=g;cases e
theorem dt_of{e:Expr}{f:ao->DM D}{t:TE}(h:PT X e (tTest t))(ht:∀σ H Q,tD X.mg E (Cv X.mg) f σ H Q->t σ H Q):DT X E e (fun δ=>f δ>>=fY):=⟨PT.mono h fun σ H Q h=>by
 obtain⟨ρ,δ,M,ev,j,g1⟩:=h
 refine ht _ _ _ ⟨ρ,δ,M,ev,j,g1.bind fun ρ1 H1 M1 x dx e1 j1 c1 g2=>?_⟩
 obtain⟨k,rfl,q⟩:=Go.fY g2
 cases c1
 exact⟨k,rfl,q ρ1 H1 .refl j1⟩⟩
theorem bD{op:CmpOp}{g:D->D->DM D}(ho:bZ X E (compareOp op) g)(ha:DE X E a fa)(hb:DE X E b fb)(hm:behindInMarks op b=false:=by first | exact nomark _ | rfl):DT X E (.Compare a [op] [b] pos) (fun δ=>(fa δ>>=fun x=>fb δ>>=fun y=>g x y)>>=fY):=
 dt_of (pt_cmpR ho ha.h hb.h hm) fun σ H Q h=>zA (fun _ _ _ _ z=>z) h
theorem Qa {g g':D->D->DM D}{σ:L2.St}{H:Hp}{Q:VK} (h:tD X.mg E (Cv X.mg) (fun δ=>fa δ >>= fun x=>fb δ >>= fun y=>g x y >>= fun z=>fY z >>= fun k=>if k then fc δ >>= fun w=>g' y w else pure (.bl false)) σ H Q) :
  tChain (rD X.mg E g) (rD X.mg E g') (tD X.mg E (Cv X.mg) fa) (tD X.mg E (Cv X.mg) fb) (tD X.mg E (Cv X.mg) fc) σ H Q:=by
 obtain⟨ρ,δ,M,ev,j,g1⟩:=h
 refine⟨ρ,δ,M,ev,j,g1.bind fun ρ1 H1 M1 x dx e1 j1 c1 g2=>⟨ρ1,δ,M1,ev.mono e1,j1,g2.bind fun ρ2 H2 M2 y dy e2 j2 c2 g3=>⟨ρ2,M2,dx,dy,j2,c1.mono e2,c2,g3.bind fun ρ3 H3 M3 z dz e3 j3 c3 g4=>?_⟩⟩⟩
 have g5:=g4.bind (rel:=Bv) (Q':=fun k H4=>dz=.bl k∧∃ρ4 M4,Ext ρ3 H3 ρ4 H4∧J X.mg ρ4 M4 H4∧Go X.mg E (Cv X.mg) Q ρ4 H4 (if k then fc δ>>=fun w=>g' dy w else pure (.bl false)) M4)
 have key:∃k,dz=.bl k∧Go X.mg E (Cv X.mg) Q ρ3 H3 (if k then fc δ>>=fun w=>g' dy w else pure (.bl false)) M3:=by
  cases dz with
  |bl k=>exact⟨k,rfl,g4⟩
  |_=>obtain⟨r,e,_⟩:=g4;cases e
 obtain⟨k,rfl,g6⟩:=key
 cases c3
 refine⟨k,rfl,?_⟩
 cases k with
 |false=>exact iteF (g6.pure ρ3 H3 _ .refl j3 (.bl false))
 |true=>
   have g6:Go X.mg E (Cv X.mg) Q ρ3 H3 (fc δ>>=fun w=>g' dy w) M3:=g6
   exact iteT ⟨ρ3,δ,M3,((ev.mono e1).mono e2).mono e3,j3,g6.bind fun ρ4 H4 M4 w dw e4 j4 c4 g7=>⟨ρ4,M4,dy,dw,j4,(c2.mono e3).mono e4,c4,g7⟩⟩
theorem FQ{op op':CmpOp}{g g':D->D->DM D}(ho:bZ X E (compareOp op) g)(ho':bZ X E (compareOp op') g')(ha:DE X E a fa)(hb:DE X E b fb)(hc:DE X E c fc)(hm:lastMarks [op,op'] [b,c]=false:=by with_unfolding_all rfl) :
  DT X E (.Compare a [op,op'] [b,c] pos) (fun δ=>(fa δ>>=fun x=>fb δ>>=fun y=>g x y>>=fun z=>fY z>>=fun k=>if k then fc δ>>=fun w=>g' y w else pure (.bl false))>>=fY):=
 dt_of (pt_chain ho ho' ha.h hb.h hc.h hm) fun σ H Q h=>Qa h
def iR:D->Mo->Option Bool
 |.non,_=>some false
 |.bl b,_=>some b
 |.int i,_=>some (i != 0)
 |.str y,_=>if y.length≤sizeLine then some ((y.length:Int) != 0) else none
 |.tup l,_=>some (!l.isEmpty)
 |.lst l,_=>some (!l.isEmpty)
 |.scr l,_=>some (!l.isEmpty)
 |.dic ks _,_=>some (!ks.isEmpty)
 |.ref n,M=>match M[n]? with
   |some (.lst l)=>some (!l.isEmpty)
   |some (.dic ks _)=>some (!ks.isEmpty)
   |_=>none
 |_,_=>none
theorem vQ {α β:Type}{ks:List α}{xs:List β} (h:ks.length=xs.length):(ks.zip xs).isEmpty=ks.isEmpty:=by
 cases ks with
 |nil=>simp
 |cons k ks=>cases xs with
   |nil=>simp at h
   |cons x xs=>rfl
theorem Cvs.empty{mg:Str->Option Value}{ρ:Rh}{H:Hp}{vs:List V}{ds:List D}(c:Cvs mg ρ H vs ds):vs.isEmpty=ds.isEmpty:=by cases c<;>rfl
theorem Ma {K:PySem.W.Frag}{mg:Str->Option Value}{ρ:Rh}{H:Hp}{M:Mo}{x:V}{d:D}{k:Bool} (j:J mg ρ M H) (h:Cv mg ρ H x d) (e:iR d M=some k):TruV K x H k:=by
 cases h with
 |non=>cases e;rfl
 |bl b=>cases e;rfl
 |int i=>cases e;rfl
 |str y=>
   unfold iR at e
   dsimp only at e
   split at e
   ·cases e;exact⟨‹_›,rfl⟩
   ·cases e
 |tup n h c=>cases e;exact .inr (.inl ⟨_,SqT.of h,by rw[c.empty]⟩)
 |lst n h c=>cases e;exact .inl ⟨_,SqL.of h,by rw[c.empty]⟩
 |scr n h=>cases e;exact .inl ⟨_,.inl h,by simp⟩
 |dic n h l c=>cases e;exact .inr (.inr ⟨_,h,by rw[vQ l]⟩)
 | ref q=>
   rename_i n a
   unfold iR at e
   dsimp only at e
   split at e
   ·rename_i l hl
    cases e
    obtain⟨xs,h,c⟩:=j.obj n a _ q hl
    exact .inl ⟨_,SqL.of h,by rw[c.empty]⟩
   ·rename_i ks l hl
    cases e
    obtain⟨xs,h,z,c⟩:=j.obj n a _ q hl
    exact .inr (.inr ⟨_,h,by rw[vQ z]⟩)
   ·cases e
 |obj=>cases e
 |cls=>cases e
 |ty=>cases e
 |exn=>cases e
theorem bJ(ha:DE X E a fa)(he:∀whole,isTrue a X.env whole=(do let v ←whole;standAt a.pos;holding [v] (truthy v))):DT X E a (fun δ=>fa δ>>=fun x=>rd (iR x)):=⟨PT.mono (pt_truth ha.h he) fun σ H Q h=>by
 obtain⟨ρ,δ,M,ev,j,g1⟩:=h
 refine⟨ρ,δ,M,ev,j,g1.bind fun ρ1 H1 M1 x dx e1 j1 c1 g2=>?_⟩
 obtain⟨k,e,q⟩:=g2.rd
 exact⟨k,Ma j1 c1 e,q ρ1 H1 k .refl j1 rfl⟩⟩
variable{ta tb:ao->DM Bool}
theorem cu(ha:DT X E a ta):DT X E (.UnaryOp .Not a pos) (fun δ=>ta δ>>=fun k=>pure (!k)):=⟨PT.mono (pt_not ha.h) fun σ H Q h=>by
 obtain⟨ρ,δ,M,ev,j,g1⟩:=h
 refine⟨ρ,δ,M,ev,j,g1.bind fun ρ1 H1 M1 x dx e1 j1 c1 g2=>?_⟩
 have c1:x=dx:=c1
 subst c1
 exact g2.pure ρ1 H1 _ .refl j1 rfl⟩
structure DW(X:Cx)(E:XK)(e:Expr)(f:ao->DM Bool):Prop where
 h:PW X e (tD X.mg E Bv f)
theorem PW.mono{e:Expr}{t t':TT}(h:PW X e t)(f:∀σ H Q,t' σ H Q->t σ H Q):PW X e t':=fun w pins s σ H Q I q=>h w pins s σ H Q I (f σ H Q q)
theorem DW.dt{e:Expr}(h:DW X E e ta):DT X E e ta:=⟨PW.pt h.h⟩
theorem ux(ha:DT X E a ta):DW X E (.BoolOp .And [a] pos) ta:=⟨pw_and1 ha.h⟩
theorem dX(ha:DT X E a ta):DW X E (.BoolOp .Or [a] pos) ta:=⟨pw_or1 ha.h⟩
variable{rest:List Expr}
theorem w6(ha:DT X E a ta)(hb:DW X E (.BoolOp .And (b::rest) pos) tb):DW X E (.BoolOp .And (a::b::rest) pos) (fun δ=>ta δ>>=fun k=>if k then tb δ else pure false):=⟨PW.mono (pw_and ha.h hb.h) fun σ H Q h=>by
 obtain⟨ρ,δ,M,ev,j,g1⟩:=h
 refine⟨ρ,δ,M,ev,j,g1.bind fun ρ1 H1 M1 x dx e1 j1 c1 g2=>?_⟩
 have c1:x=dx:=c1
 subst c1
 cases x with
 |true=>exact iteT ⟨ρ1,δ,M1,ev.mono e1,j1,g2⟩
 |false=>exact iteF (Go.pure (a:=false) g2 ρ1 H1 _ .refl j1 rfl)⟩
theorem dJ(ha:DT X E a ta)(hb:DW X E (.BoolOp .Or (b::rest) pos) tb):DW X E (.BoolOp .Or (a::b::rest) pos) (fun δ=>ta δ>>=fun k=>if k then pure true else tb δ):=⟨PW.mono (pw_or ha.h hb.h) fun σ H Q h=>by
 obtain⟨ρ,δ,M,ev,j,g1⟩:=h
 refine⟨ρ,δ,M,ev,j,g1.bind fun ρ1 H1 M1 x dx e1 j1 c1 g2=>?_⟩
 have c1:x=dx:=c1
 subst c1
 cases x with
 |false=>exact iteF ⟨ρ1,δ,M1,ev.mono e1,j1,g2⟩
 |true=>exact iteT (Go.pure (a:=true) g2 ρ1 H1 _ .refl j1 rfl)⟩
theorem oX{op:BoolOp}(ha:DE X E a fa):DE X E (.BoolOp op [a] pos) fa:=⟨pe_one ha.h⟩
theorem Go.isB{mg:Str->Option Value}{ρ:Rh}{H:Hp}{α β:Type}{rel:Rh->Hp->β->α->Prop}{Q:β->Hp->Prop}{d:D}{M:Mo}{f:Bool->DM α}(g:Go mg E rel Q ρ H (L3.fY d>>=f) M):∃k,d=.bl k∧Go mg E rel Q ρ H (f k) M:=by
 cases d with
 |bl k=>exact⟨k,rfl,g⟩
 |_=>obtain⟨r,e,_⟩:=g;cases e
theorem oV(ha:DE X E a fa)(hb:DE X E (.BoolOp .And (b::rest) pos) fb):DE X E (.BoolOp .And (a::b::rest) pos) (fun δ=>fa δ>>=fun x=>fY x>>=fun k=>if k then fb δ else pure (.bl false)):=⟨PE.mono (pe_and ha.h hb.h) fun σ H Q h=>by
 obtain⟨ρ,δ,M,ev,j,g1⟩:=h
 refine⟨ρ,δ,M,ev,j,g1.bind fun ρ1 H1 M1 x dx e1 j1 c1 g2=>?_⟩
 obtain⟨k,rfl,g3⟩:=Go.isB g2
 cases c1
 refine⟨k,rfl,?_⟩
 cases k with
 |true=>exact iteT ⟨ρ1,δ,M1,ev.mono e1,j1,g3⟩
 |false=>exact iteF (Go.pure (a:=D.bl false) g3 ρ1 H1 _ .refl j1 (.bl false))⟩
theorem Cm(ha:DE X E a fa):DE X E (.UnaryOp .Not a pos) (fun δ=>fa δ>>=fun x=>fY x>>=fun k=>pure (.bl (!k))):=⟨PE.mono (pe_not ha.h) fun σ H Q h=>by
 obtain⟨ρ,δ,M,ev,j,g1⟩:=h
 refine⟨ρ,δ,M,ev,j,g1.bind fun ρ1 H1 M1 x dx e1 j1 c1 g2=>?_⟩
 obtain⟨k,rfl,g3⟩:=Go.isB g2
 cases c1
 exact⟨k,rfl,g3.pure ρ1 H1 _ .refl j1 (.bl _)⟩⟩
theorem Hf(hc:DT X E c ta)(ha:DE X E a fa)(hb:DE X E b fb):DE X E (.IfExp c a b pos) (fun δ=>ta δ>>=fun k=>if k then fa δ else fb δ):=⟨PE.mono (pe_ifExp hc.h ha.h hb.h) fun σ H Q h=>by
 obtain⟨ρ,δ,M,ev,j,g1⟩:=h
 refine⟨ρ,δ,M,ev,j,g1.bind fun ρ1 H1 M1 x dx e1 j1 c1 g2=>?_⟩
 have c1:x=dx:=c1
 subst c1
 cases x with
 |true=>exact iteT ⟨ρ1,δ,M1,ev.mono e1,j1,g2⟩
 |false=>exact iteF ⟨ρ1,δ,M1,ev.mono e1,j1,g2⟩⟩
theorem ak:DA X E [] (fun _=>pure []):=⟨⟨PA.mono Lf.h fun σ H Q h=>by
 obtain⟨ρ,δ,M,ev,j,g⟩:=h
 exact g.pure ρ H [] .refl j .nil⟩⟩
theorem aa{es:List Expr}{fs:ao->DM (List D)}(ha:DE X E a fa)(hr:DA X E es fs)(hs:notStar a=true:=by rfl):DA X E (a::es) (fun δ=>fa δ>>=fun x=>fs δ>>=fun xs=>pure (x::xs)):=⟨⟨PA.mono (O8 ha.h hr.h hs).h fun σ H Q h=>by
 obtain⟨ρ,δ,M,ev,j,g1⟩:=h
 exact⟨ρ,δ,M,ev,j,g1.bind fun ρ1 H1 M1 x dx e1 j1 c1 g2=>⟨ρ1,δ,M1,ev.mono e1,j1,g2.bind fun ρ2 H2 M2 xs dxs e2 j2 c2 g3=>g3.pure ρ2 H2 _ .refl j2 (.cons (c1.mono e2) c2)⟩⟩⟩⟩
def dH{α:Type}(l:List α):Bool:=decide (l.length≤sizeLine)
def qP(l:List D):DM D:=opt (if dH l then some (.tup l) else none)
def kI(l:List D):DM D:=opt (if dH l then some (.lst l) else none)
def dM(l:List D):DM D:=fun M=>if dH l then some (.ok (.ref M.length),M++[.lst l]) else none
theorem tR{l:List D}{d e:D}(h:(if dH l then some d else none)=some e):l.length≤sizeLine∧d=e:=by
 split at h
 ·cases h;exact⟨of_decide_eq_true ‹_›,rfl⟩
 ·cases h
variable{es:List Expr}{fs:ao->DM (List D)}
theorem bB{x1}(h:DA X E es fs):DE X E (.Tuple es x1 pos) (fun δ=>fs δ>>=qP):=⟨PE.mono (Iz h.h) fun σ H Q h=>by
 obtain⟨ρ,δ,M,ev,j,g1⟩:=h
 refine⟨ρ,δ,M,ev,j,g1.bind fun ρ1 H1 M1 xs dxs e1 j1 c1 g2=>?_⟩
 obtain⟨d,e,q⟩:=Go.opt g2
 obtain⟨hz,rfl⟩:=tR e
 exact⟨by rw[c1.len];exact hz,fun p hp=>q ρ1 _ _ (.lay hp) (j1.lay _ hp) (.tup (j1.fresh hp) upd_same (c1.mono (.lay hp)))⟩⟩
theorem bj(h:DA X E es fs):DE X E (.List es pos) (fun δ=>fs δ>>=kI):=⟨PE.mono (zO h.h) fun σ H Q h=>by
 obtain⟨ρ,δ,M,ev,j,g1⟩:=h
 refine⟨ρ,δ,M,ev,j,g1.bind fun ρ1 H1 M1 xs dxs e1 j1 c1 g2=>?_⟩
 obtain⟨d,e,q⟩:=Go.opt g2
 obtain⟨hz,rfl⟩:=tR e
 exact⟨by rw[c1.len];exact hz,fun p hp=>q ρ1 _ _ (.lay hp) (j1.lay _ hp) (.lst (j1.fresh hp) upd_same (c1.mono (.lay hp)))⟩⟩
theorem Go.dM{mg:Str->Option Value}{ρ:Rh}{H:Hp}{M:Mo}{Q:VK}{l:List D}{xs:List V}{p:Addr}(g:Go mg E (Cv mg) Q ρ H (dM l) M)(j:J mg ρ M H)(c:Cvs mg ρ H xs l)(hp:H p=none):l.length≤sizeLine∧Q (.ref p) (upd H p (.lst xs)):=by
 obtain⟨r,e,q⟩:=g
 unfold L3.dM at e
 split at e
 ·cases e
  refine⟨of_decide_eq_true ‹_›,?_⟩
  have x:Ext ρ H (ρ.put p) (upd H p (.lst xs)):=.put hp
  refine q _ _ _ x (j.put hp ⟨xs,upd_same,c.mono x⟩) (.ref ?_)
  show (ρ.st++[p])[_]?=_
  rw[←j.len];simp
 ·cases e
theorem Go.mkR_len{mg:Str->Option Value}{ρ:Rh}{H:Hp}{M:Mo}{Q:VK}{l:List D}(g:Go mg E (Cv mg) Q ρ H (L3.dM l) M):l.length≤sizeLine:=by
 obtain⟨r,e,q⟩:=g
 unfold L3.dM at e
 split at e
 ·exact of_decide_eq_true ‹_›
 ·cases e
theorem ut(h:DA X E es fs):DE X E (.List es pos) (fun δ=>fs δ>>=dM):=⟨PE.mono (zO h.h) fun σ H Q h=>by
 obtain⟨ρ,δ,M,ev,j,g1⟩:=h
 refine⟨ρ,δ,M,ev,j,g1.bind fun ρ1 H1 M1 xs dxs e1 j1 c1 g2=>?_⟩
 exact⟨by rw[c1.len];exact g2.mkR_len,fun p hp=>(g2.dM j1 c1 hp).2⟩⟩
end
section
variable{X:Cx}{E:XK}{mg:Str->Option Value}{ρ:Rh}{H:Hp}{M:Mo}
theorem Go.rdb(g:Go mg E rel Q ρ H (L3.rd f>>=k) M):∃a,f M=some a∧Go mg E rel Q ρ H (k a) M:=by
 obtain⟨r,e,p⟩:=g
 have e:DM.bind _ _ M=some r:=e
 unfold DM.bind L3.rd at e
 cases h:f M with
 |none=>rw[h] at e;cases e
 |some a=>rw[h] at e;exact⟨a,rfl,r,e,p⟩
theorem bZ.of{f:Value->Value->Sem Value}{g:D->D->Mo->Option D}(hr:OpR X f r)
  (h:∀x y H Q ρ M dx dy d,J X.mg ρ M H->Cv X.mg ρ H x dx->Cv X.mg ρ H y dy->g dx dy M=some d->(∀ρ' H' v,Ext ρ H ρ' H'->J X.mg ρ' M H'->Cv X.mg ρ' H' v d->Q v H')->r x y H Q):bZ X E f (fun x y=>rd (g x y)):=by
 intro pins s σ H x y v u Q I rx ry q
 obtain⟨ρ,M,dx,dy,j,cx,cy,go⟩:=q
 obtain⟨d,e,p⟩:=go.rd
 exact hr pins s σ H x y v u Q I rx ry (h x y H Q ρ M dx dy d j cx cy e p)
def aO:D->Mo->Option (List D)
 |.lst l,_=>some l
 |.ref n,M=>match M[n]? with
   |some (.lst l)=>some l
   |_=>none
 |_,_=>none
theorem cA (j:J mg ρ M H) {l:List D} (c:Cv mg ρ H x d) (e:aO d M=some l):∃ a xs,x=.ref a∧H a=some (.lst xs)∧Cvs mg ρ H xs l:=by
 cases c with
 |lst n h c=>cases e;exact⟨_,_,rfl,h,c⟩
 | ref q=>
   unfold aO at e
   dsimp only at e
   split at e
   ·rename_i l' hl
    cases e
    obtain⟨xs,h,c⟩:=j.obj _ _ _ q hl
    exact⟨_,_,rfl,h,c⟩
   ·cases e
 |_=>cases e
theorem J.notup(j:J mg ρ M H)(h:H p=Option.some (HO.tup xs)):p∉ρ:=fun z=>by
 rcases z with z | z
 rotate_left
 ·obtain⟨_,ys,e⟩:=j.vol p z
  rw[h] at e;cases e
 obtain⟨n,hn⟩:=List.mem_iff_getElem?.mp z
 have lt:n<M.length:=by rw[←j.len];exact (List.getElem?_eq_some_iff.mp hn).1
 have c:=j.obj n p M[n] hn (List.getElem?_eq_getElem lt)
 cases hm:M[n] with
 |lst l=>rw[hm] at c;obtain⟨xs,e,_⟩:=c;rw[h] at e;cases e
 |dic ks l=>rw[hm] at c;obtain⟨xs,e,_⟩:=c;rw[h] at e;cases e
 |ins c' ns l=>rw[hm] at c;obtain⟨_,_,_,_,e,_⟩:=c;rw[h] at e;cases e
 |pdc ks l=>rw[hm] at c;obtain⟨xs,e,_⟩:=c;rw[h] at e;cases e
def Mh(l:List D):Option D:=if dH l then some (.tup l) else none
def Gj(l:List D):Option D:=if dH l then some (.lst l) else none
def bQ:D->D->Mo->Option D
 |.int i,.int j,_=>some (.int (i+j))
 |.str a,.str b,_=>if a.length+b.length≤sizeLine then some (.str (a++b)) else none
 |.tup l,.tup m,_=>Mh (l++m)
 |x,y,M=>match aO x M,aO y M with
   |some l,some m=>Gj (l++m)
   |_,_=>none
theorem Eo (h:bQ x y M=some d):(∃ i j,x=.int i∧y=.int j∧d=.int (i + j))∨(∃ a b,x=.str a∧y=.str b∧a.length + b.length≤sizeLine∧d=.str (a++b))∨(∃ l m,x=.tup l∧y=.tup m∧l.length + m.length≤sizeLine∧d=.tup (l++m)) ∨
  ∃l m,aO x M=some l∧aO y M=some m∧l.length+m.length≤sizeLine∧d=.lst (l++m):=by
 unfold bQ at h
 split at h
 ·cases h;exact .inl ⟨_,_,rfl,rfl,rfl⟩
 ·split at h
  ·cases h;exact .inr (.inl ⟨_,_,rfl,rfl,‹_›,rfl⟩)
  ·cases h
 ·obtain⟨hz,rfl⟩:=tR h
  rw[List.length_append] at hz
  exact .inr (.inr (.inl ⟨_,_,rfl,rfl,hz,rfl⟩))
 ·split at h
  ·rename_i l m h1 h2
   obtain⟨hz,rfl⟩:=tR h
   rw[List.length_append] at hz
   exact .inr (.inr (.inr ⟨l,m,h1,h2,hz,rfl⟩))
  ·cases h
theorem aM:bZ X E (binaryOp .Add) (fun x y=>rd (bQ x y)):=by
 refine bZ.of (op_add.or (op_add_str.or (Ip.or op_cat))) fun x y H Q ρ M dx dy d j cx cy e q=>?_
 rcases Eo e with ⟨i,k,rfl,rfl,rfl⟩ | ⟨i,k,rfl,rfl,hz,rfl⟩ | ⟨l,m,rfl,rfl,hz,rfl⟩ | ⟨l,m,h1,h2,hz,rfl⟩
 ·cases cx;cases cy
  exact .inl ⟨_,_,rfl,rfl,q ρ H _ .refl j (.int _)⟩
 ·cases cx;cases cy
  exact .inr (.inl ⟨_,_,rfl,rfl,hz,q ρ H _ .refl j (.str _)⟩)
 ·cases cx with | tup n1 a1 c1=>cases cy with | tup n2 a2 c2=>
  refine .inr (.inr (.inl ⟨_,_,_,_,rfl,rfl,a1,a2,by rw[c1.len,c2.len];exact hz,fun p H' S hp=>?_⟩))
  exact q ρ H' _ (.same S) (j.same S) (.tup ((j.same S).notup hp) hp ((c1.append c2).mono (.same S)))
 ·obtain⟨a1,x1,rfl,a2,c1⟩:=cA j cx h1
  obtain⟨b1,y1,rfl,b2,c2⟩:=cA j cy h2
  refine .inr (.inr (.inr ⟨_,_,_,_,rfl,rfl,a2,b2,by rw[c1.len,c2.len];exact hz,fun p hp=>?_⟩))
  exact q ρ _ _ (.lay hp) (j.lay _ hp) (.lst (j.fresh hp) upd_same ((c1.append c2).mono (.lay hp)))
def Ow (x y:D):DM D:=rd (fun M=>match aO x M,aO y M with
    |some l,some m=>some (l++m)
    |_,_=>none)>>=dM
theorem zL:bZ X E (binaryOp .Add) Ow:=by
 intro pins s σ H x y v u Q I rx ry q
 obtain⟨ρ,M,dx,dy,j,cx,cy,go⟩:=q
 obtain⟨z,e,g⟩:=Go.rdb go
 split at e
 ·rename_i l m h1 h2
  cases e
  obtain⟨a1,x1,rfl,a2,c1⟩:=cA j cx h1
  obtain⟨b1,y1,rfl,b2,c2⟩:=cA j cy h2
  have hz:=g.mkR_len
  rw[List.length_append] at hz
  exact op_cat (X:=X) pins s σ H _ _ v u Q I rx ry ⟨_,_,_,_,rfl,rfl,a2,b2,by rw[c1.len,c2.len];exact hz,fun p hp=>(g.dM j (c1.append c2) hp).2⟩
 ·cases e
def cW(C:Int->Int->Bool)(g:Int->Int->D):D->D->Mo->Option D
 |.int i,.int j,_=>if C i j then some (g i j) else none
 |_,_,_=>none
theorem uB(h:cW C g x y M=some d):∃i j,x=.int i∧y=.int j∧C i j=true∧d=g i j:=by
 unfold cW at h
 split at h
 ·split at h
  ·cases h;exact⟨_,_,rfl,rfl,‹_›,rfl⟩
  ·cases h
 ·cases h
theorem qi{f:Value->Value->Sem Value}{C:Int->Int->Bool}{g:Int->Int->Int}{P:Int->Int->Prop}(hr:OpR X f (rI P fun i j=>.int (g i j)))(hc:∀i j,C i j=true->P i j):bZ X E f (fun x y=>rd (cW C (fun i j=>.int (g i j)) x y)):=
 bZ.of hr fun x y H Q ρ M dx dy d j cx cy e q=>by
  obtain⟨i,k,rfl,rfl,hh,rfl⟩:=uB e
  cases cx;cases cy
  exact⟨_,_,rfl,rfl,hc _ _ hh,q ρ H _ .refl j (.int _)⟩
theorem rO{f:Value->Value->Sem Value}{g:Int->Int->Int}(hr:OpR X f (rI0 fun i j=>.int (g i j))):bZ X E f (fun x y=>rd (cW (fun _ _=>true) (fun i j=>.int (g i j)) x y)):=
 bZ.of hr fun x y H Q ρ M dx dy d j cx cy e q=>by
  obtain⟨i,k,rfl,rfl,hh,rfl⟩:=uB e
  cases cx;cases cy
  exact⟨_,_,rfl,rfl,q ρ H _ .refl j (.int _)⟩
theorem qg{f:Value->Value->Sem Value}{g:Int->Int->Bool}(hr:OpR X f (rI0 fun i j=>.bl (g i j))):bZ X E f (fun x y=>rd (cW (fun _ _=>true) (fun i j=>.bl (g i j)) x y)):=
 bZ.of hr fun x y H Q ρ M dx dy d j cx cy e q=>by
  obtain⟨i,k,rfl,rfl,hh,rfl⟩:=uB e
  cases cx;cases cy
  exact⟨_,_,rfl,rfl,q ρ H _ .refl j (.bl _)⟩
abbrev uR:D->D->Mo->Option D:=cW (fun _ _=>true) fun i j=>.int (i-j)
theorem jm:bZ X E (binaryOp .Sub) (fun x y=>rd (uR x y)):=rO op_sub
def gR(i j:Int):Bool:=!(decide (Builtin.Int.intBits i > shortFactorBits)&&decide (Builtin.Int.intBits j > shortFactorBits)&&Builtin.Int.intTooBig (Builtin.Int.intBits i+Builtin.Int.intBits j))
theorem gR.ok(h:gR i j=true):IntMulOk i j:=fun z=>by
 unfold gR at h
 rw[z] at h;cases h
abbrev xV:D->D->Mo->Option D:=cW gR fun i j=>.int (i*j)
theorem uE:bZ X E (binaryOp .Mult) (fun x y=>rd (xV x y)):=qi Iv fun i j h=>gR.ok h
def pZ(i j:Int):Bool:=decide (0<j)&&!Builtin.divisionGoesByPylong i j
theorem Gn:OpR X (binaryOp .FloorDiv) (rI (fun i j=>pZ i j=true) fun i j=>.int (i / j)):=opI fun i j _ _ _ _ _ hc q=>by
 unfold pZ at hc
 have h0:0<j:=by
  have:=(Bool.and_eq_true _ _).mp hc
  exact of_decide_eq_true this.1
 have h1:Builtin.divisionGoesByPylong i j=false:=by
  have:=(Bool.and_eq_true _ _).mp hc
  simpa using this.2
 have e:i.fdiv j=i / j:=Int.fdiv_eq_ediv_of_nonneg i (Int.le_of_lt h0)
 exact floordiv_int (Int.ne_of_gt h0) (by rw[e];exact q) (.inl h1)
abbrev sY:D->D->Mo->Option D:=cW pZ fun i j=>.int (i / j)
theorem rP:bZ X E (binaryOp .FloorDiv) (fun x y=>rd (sY x y)):=qi Gn fun i j h=>h
abbrev rK:D->D->Mo->Option D:=cW (fun _ j=>decide (0<j)) fun i j=>.int (i%j)
theorem lY:bZ X E (binaryOp .Mod) (fun x y=>rd (rK x y)):=qi op_mod fun i j h=>of_decide_eq_true h
def Hs(i j:Int):Bool:=decide (0≤j∧j≤1000000∧i.natAbs<2^64)
abbrev yj:D->D->Mo->Option D:=cW Hs fun i j=>.int (i^j.toNat)
theorem uG:bZ X E (binaryOp .Pow) (fun x y=>rd (yj x y)):=qi op_pow fun i j h=>of_decide_eq_true (p:=0≤j∧j≤1000000∧i.natAbs<2^64) h
abbrev Hn:D->D->Mo->Option D:=cW (fun _ _=>true) fun i j=>.bl (decide (i<j))
abbrev CZ:D->D->Mo->Option D:=cW (fun _ _=>true) fun i j=>.bl (decide (i≤j))
abbrev tE:D->D->Mo->Option D:=cW (fun _ _=>true) fun i j=>.bl (decide (j<i))
abbrev xG:D->D->Mo->Option D:=cW (fun _ _=>true) fun i j=>.bl (decide (j≤i))
theorem Do:bZ X E (compareOp .Lt) (fun x y=>rd (Hn x y)):=qg op_lt
theorem Dn:bZ X E (compareOp .LtE) (fun x y=>rd (CZ x y)):=qg op_le
theorem o8:bZ X E (compareOp .Gt) (fun x y=>rd (tE x y)):=qg op_gt
theorem xY:bZ X E (compareOp .GtE) (fun x y=>rd (xG x y)):=qg op_ge
def eqP(x y:D):Option Bool:=match toPy x,toPy y with
 |some p,some q=>if p.canLay0&&q.canLay0&&decide (p.depth≤60) then some (PyData.eqv p q) else none
 |_,_=>none
def eqB:D->D->Option Bool
 |.str a,.str b=>some (decide (a=b))
 |x,y=>eqP x y
def fO(x y:D)(_:Mo):Option D:=(eqB x y).map .bl
def fU(x y:D)(_:Mo):Option D:=(eqB x y).map fun b=>.bl (!b)
theorem Cz (h:eqP x y=some b):∃ p q,toPy x=some p∧toPy y=some q∧p.canLay0=true∧q.canLay0=true∧p.depth≤60∧b=PyData.eqv p q:=by
 unfold eqP at h
 split at h
 ·rename_i p q h1 h2
  split at h
  ·rename_i hc
   cases h
   simp only[Bool.and_eq_true,decide_eq_true_eq] at hc
   exact⟨p,q,h1,h2,hc.1.1,hc.1.2,hc.2,rfl⟩
  ·cases h
 ·cases h
theorem Cy(h:eqB x y=some b):(∃a c,x=.str a∧y=.str c∧b=decide (a=c))∨eqP x y=some b:=by
 unfold eqB at h
 split at h
 ·cases h;exact .inl ⟨_,_,rfl,rfl,rfl⟩
 ·exact .inr h
theorem Jo:decide (V.str a=V.str c)=decide (a=c):=by
 rw[Bool.eq_iff_iff];simp
theorem zK(h1:OpR X f (fun x y H Q=>scal x y=true∧Q (.bl (n ^^ decide (x=y))) H))(h2:OpR X f (Gy X.K n)):bZ X E f (fun x y=>rd fun _=>(eqB x y).map fun b=>.bl (n ^^ b)):=by
 intro pins s σ H x y v u Q I rx ry q
 obtain⟨ρ,M,dx,dy,j,cx,cy,g⟩:=q
 obtain⟨d,e,q⟩:=Go.rd g
 obtain⟨b,hb,rfl⟩:=Option.map_eq_some_iff.mp e
 rcases Cy hb with ⟨a,c,rfl,rfl,rfl⟩ | hb
 ·cases cx;cases cy
  refine h1 pins s σ H _ _ v u Q I rx ry ⟨rfl,?_⟩
  rw[Jo]
  exact q ρ H _ .refl j (.bl _)
 ·obtain⟨p,p',k1,k2,h3,h4,h5,rfl⟩:=Cz hb
  refine h2 pins s σ H x y v u Q I rx ry ⟨p,p',(cx.repF k1).toRep,(cy.repF k2).toRep,h3,h4,h5,?_⟩
  have:=q ρ H _ .refl j (.bl _)
  cases n
  ·simpa using this
  ·simpa using this
theorem dF(hu:X.A.units+64<cLine):bZ X E (compareOp .Eq) (fun x y=>rd (fO x y)):=by
 have h:=zK (X:=X) (E:=E) (n:=false) (f:=compareOp .Eq) (fun pins s σ H x y v u Q I rx ry q=>op_eq (X:=X) pins s σ H x y v u Q I rx ry ⟨q.1,by simpa using q.2⟩) (Dm hu)
 have e:(fun x y=>(rd (fO x y):DM D))=fun x y=>rd fun _=>(eqB x y).map fun b=>.bl (false ^^ b):=by
  funext x y
  show rd _=rd _
  congr 1
  funext M
  simp only[fO,Bool.false_xor,Bool.true_xor]
 rw[e];exact h
theorem cX(hu:X.A.units+64<cLine):bZ X E (compareOp .NotEq) (fun x y=>rd (fU x y)):=by
 have h:=zK (X:=X) (E:=E) (n:=true) (f:=compareOp .NotEq) (fun pins s σ H x y v u Q I rx ry q=>op_ne (X:=X) pins s σ H x y v u Q I rx ry ⟨q.1,by simpa using q.2⟩) (K3 hu)
 have e:(fun x y=>(rd (fU x y):DM D))=fun x y=>rd fun _=>(eqB x y).map fun b=>.bl (true ^^ b):=by
  funext x y
  show rd _=rd _
  congr 1
  funext M
  simp only[fU,Bool.false_xor,Bool.true_xor]
 rw[e];exact h
theorem Cvs.rep(c:Cv mg ρ H v d):∀n,Cvs mg ρ H (List.replicate n v) (List.replicate n d)
 |0=>.nil
 |n+1=>.cons c (Cvs.rep c n)
def Bm(l:List D)(k:Int):Option (List D):=if decide (-(2^63)≤k∧k<2^63∧l.length*k.toNat≤sizeLine) then some (List.replicate k.toNat l).flatten else none
theorem Cvs.reps{vs:List V}{ds:List D}(c:Cvs mg ρ H vs ds):∀n,Cvs mg ρ H (List.replicate n vs).flatten (List.replicate n ds).flatten
 |0=>.nil
 |n+1=>by rw[List.replicate_succ,List.replicate_succ,List.flatten_cons,List.flatten_cons];exact c.append (Cvs.reps c n)
def rM(x y:D)(M:Mo):Option (List D):=match aO x M,y with
 |some l,.int k=>Bm l k
 |_,_=>none
theorem zJ {l:List D} (h:rM x y M=some l):∃ m k,aO x M=some m∧y=.int k∧(-(2 ^ 63)≤k∧k<2 ^ 63∧m.length * k.toNat≤sizeLine)∧l=(List.replicate k.toNat m).flatten:=by
 unfold rM at h
 split at h
 ·rename_i m k h1
  unfold Bm at h
  split at h
  ·rename_i hk
   cases h
   exact⟨m,k,h1,rfl,of_decide_eq_true hk,rfl⟩
  ·cases h
 ·cases h
theorem Iw:bZ X E (binaryOp .Mult) (fun x y=>rd (fun M=>(rM x y M).map .lst)):=bZ.of op_rep fun x y H Q ρ M dx dy d j cx cy e q=>by
 obtain⟨l,e1,rfl⟩:=Option.map_eq_some_iff.mp e
 obtain⟨m,k,h1,rfl,⟨h2,h3,h4⟩,rfl⟩:=zJ e1
 obtain⟨a,xs,rfl,ha,c⟩:=cA j cx h1
 cases cy
 refine⟨_,_,_,rfl,rfl,ha,h2,h3,by rw[c.len];exact h4,fun p hp=>?_⟩
 exact q ρ _ _ (.lay hp) (j.lay _ hp) (.lst (j.fresh hp) upd_same ((Cvs.reps c _).mono (.lay hp)))
def Ba(x y:D):DM D:=rd (rM x y)>>=dM
theorem uF:bZ X E (binaryOp .Mult) Ba:=by
 intro pins s σ H x y v u Q I rx ry q
 obtain⟨ρ,M,dx,dy,j,cx,cy,go⟩:=q
 obtain⟨l,e1,g⟩:=Go.rdb go
 obtain⟨m,k,h1,rfl,⟨h2,h3,h4⟩,rfl⟩:=zJ e1
 obtain⟨a,xs,rfl,ha,c⟩:=cA j cx h1
 cases cy
 exact op_rep (X:=X) pins s σ H _ _ v u Q I rx ry ⟨_,_,_,rfl,rfl,ha,h2,h3,by rw[c.len];exact h4,fun p hp=>(g.dM j (Cvs.reps c _) hp).2⟩
def xW:D->Mo->Option D
 |.int i,_=>some (.int (-i))
 |_,_=>none
theorem sV(ha:DE X E a fa):DE X E (.UnaryOp .USub a pos) (fun δ=>fa δ>>=fun x=>rd (xW x)):=⟨PE.mono (pe_un un_neg ha.h) fun σ H Q h=>by
 obtain⟨ρ,δ,M,ev,j,g1⟩:=h
 refine⟨ρ,δ,M,ev,j,g1.bind fun ρ1 H1 M1 x dx e1 j1 c1 g2=>?_⟩
 obtain⟨d,e,q⟩:=g2.rd
 unfold xW at e
 split at e
 ·cases e;cases c1
  exact⟨_,rfl,q ρ1 H1 _ .refl j1 (.int _)⟩
 ·cases e⟩
theorem Cvs.at(c:Cvs mg ρ H vs ds)(h:atI ds i=some d):∃v,atI vs i=some v∧Cv mg ρ H v d:=by
 unfold atI at h ⊢
 rw[c.len]
 obtain⟨n,hn,e⟩:=Option.bind_eq_some_iff.mp h
 obtain⟨v,e2,cv⟩:=c.get e
 exact⟨v,by rw[hn];exact e2,cv⟩
def dg:D->D->Mo->Option D
 |.tup l,.int i,_=>atI l i
 |.scr l,.int i,_=>(atI l i).map .int
 |x,.int i,M=>(aO x M).bind fun l=>atI l i
 |_,_,_=>none
def Ol(X:Cx)(E:XK)(g:D->D->DM D):Prop:=IxR X (rD X.mg E g)
theorem aZ:Ol X E (fun x y=>rd (dg x y)):=by
 intro value slice pins s σ H x y v u Q I rx ry q hs
 obtain⟨ρ,M,dx,dy,j,cx,cy,go⟩:=q
 obtain⟨d,e,p⟩:=go.rd
 unfold dg at e
 split at e
 ·cases cy
  cases cx with | tup n a c=>
  obtain⟨w,e2,cw⟩:=c.at e
  exact ix_tup (X:=X) value slice pins s σ H _ _ v u Q I rx ry ⟨_,_,_,_,rfl,rfl,SqT.of a,e2,p ρ H _ .refl j cw⟩ hs
 ·rename_i l i
  cases cy
  cases cx with | scr n a=>
  obtain⟨z,e1,rfl⟩:=Option.map_eq_some_iff.mp e
  have e2:atI (l.map V.int) i=some (V.int z):=by
   unfold atI at e1 ⊢
   rw[List.length_map]
   obtain⟨n,hn,e⟩:=Option.bind_eq_some_iff.mp e1
   rw[hn]
   show (List.map V.int _)[n]?=_
   rw[List.getElem?_map,e];rfl
  exact ix_list (X:=X) value slice pins s σ H _ _ v u Q I rx ry ⟨_,_,_,_,rfl,rfl,.inl a,e2,p ρ H _ .refl j (.int z)⟩ hs
 ·cases cy
  obtain⟨l,h1,e1⟩:=Option.bind_eq_some_iff.mp e
  obtain⟨a,xs,rfl,ha,c⟩:=cA j cx h1
  obtain⟨w,e2,cw⟩:=c.at e1
  exact ix_list (X:=X) value slice pins s σ H _ _ v u Q I rx ry ⟨_,_,_,_,rfl,rfl,SqL.of ha,e2,p ρ H _ .refl j cw⟩ hs
 ·cases e
theorem aP(hi:Ol X E g)(ha:DE X E a fa)(hb:DE X E b fb)(hs:PlainIx b:=by exact fun _ _=>rfl):DE X E (.Subscript a b pos) (fun δ=>fa δ>>=fun x=>fb δ>>=fun y=>g x y):=
 ⟨PE.mono (pe_ix hi ha.h hb.h hs) fun σ H Q h=>zA (fun _ _ _ _ z=>z) h⟩
def zb:D->DM (Option Int)
 |.int i=>pure (some i)
 |_=>stuck
def cutD(xs:List D)(lo hi:Option Int):List D:=(xs.drop (HT.sIx xs.length 0 lo)).take (HT.sIx xs.length xs.length hi-HT.sIx xs.length 0 lo)
theorem Cvs.cut(c:Cvs mg ρ H vs ds)(lo hi:Option Int):Cvs mg ρ H (cutV vs lo hi) (cutD ds lo hi):=by
 unfold cutV cutD
 rw[c.len]
 exact (c.drop _).take _
structure DP(X:Cx)(E:XK)(e:Option Expr)(f:ao->DM (Option Int)):Prop where
 h:PO X e (tD X.mg E (fun _ _ (b a:Option Int)=>b=a) f)
theorem PO.mono(h:PO X e t)(f:∀σ H Q,t' σ H Q->t σ H Q):PO X e t':=fun pins s σ H Q I q=>h pins s σ H Q I (f σ H Q q)
theorem cQ:DP X E none (fun _=>pure none):=⟨PO.mono po_none fun σ H Q h=>by
 obtain⟨ρ,δ,M,ev,j,g⟩:=h
 exact g.pure ρ H none .refl j rfl⟩
theorem bW(ha:DE X E a fa):DP X E (some a) (fun δ=>fa δ>>=zb):=⟨PO.mono (po_some ha.h) fun σ H Q h=>by
 obtain⟨ρ,δ,M,ev,j,g1⟩:=h
 refine⟨ρ,δ,M,ev,j,g1.bind fun ρ1 H1 M1 x dx e1 j1 c1 g2=>?_⟩
 cases dx with
 |int i=>cases c1;exact⟨i,rfl,Go.pure (a:=some i) g2 ρ1 H1 _ .refl j1 rfl⟩
 |_=>obtain⟨r,e,_⟩:=g2;cases e⟩
def jQ(lo hi:Option Int):D->Mo->Option D
 |.tup l,_=>some (.tup (cutD l lo hi))
 |x,M=>(aO x M).map fun l=>.lst (cutD l lo hi)
theorem Ph:SlR X (fun x lo hi H Q=>∃ρ M dx d,J X.mg ρ M H∧Cv X.mg ρ H x dx∧jQ lo hi dx M=some d∧∀ρ' H' v,Ext ρ H ρ' H'->J X.mg ρ' M H'->Cv X.mg ρ' H' v d->Q v H'):=by
 intro pins s σ H x v vl vu lo hi sl Q I rx hs pl pu h
 obtain⟨ρ,M,dx,d,j,c,e,q⟩:=h
 unfold jQ at e
 split at e
 ·cases e
  cases c with | tup n a c=>
  refine Ji (X:=X) pins s σ H _ v vl vu lo hi sl Q I rx hs pl pu ⟨_,_,rfl,a,fun p H' S hp=>?_⟩
  exact q ρ H' _ (.same S) (j.same S) (.tup ((j.same S).notup hp) hp ((c.cut lo hi).mono (.same S)))
 ·obtain⟨l,h1,rfl⟩:=Option.map_eq_some_iff.mp e
  obtain⟨a,xs,rfl,ha,c⟩:=cA j c h1
  refine sl_list (X:=X) pins s σ H _ v vl vu lo hi sl Q I rx hs pl pu ⟨_,_,rfl,SqL.of ha,fun p hp=>?_⟩
  exact q ρ _ _ (.lay hp) (j.lay _ hp) (.lst (j.fresh hp) upd_same ((c.cut lo hi).mono (.lay hp)))
theorem b8{fa:ao->DM D}{lo hi:Option Expr}{fl fh:ao->DM (Option Int)}(ha:DE X E a fa)(hl:DP X E lo fl)(hh:DP X E hi fh) :
  DE X E (.Subscript a (.Slice lo hi none p2) pos) (fun δ=>fa δ>>=fun x=>fl δ>>=fun l=>fh δ>>=fun h=>rd (jQ l h x)):=⟨PE.mono (pe_slice Ph ha.h hl.h hh.h) fun σ H Q h=>by
 obtain⟨ρ,δ,M,ev,j,g1⟩:=h
 refine⟨ρ,δ,M,ev,j,g1.bind fun ρ1 H1 M1 x dx e1 j1 c1 g2=>⟨ρ1,δ,M1,ev.mono e1,j1,g2.bind fun ρ2 H2 M2 l dl e2 j2 c2 g3=>⟨ρ2,δ,M2,(ev.mono e1).mono e2,j2,g3.bind fun ρ3 H3 M3 h dh e3 j3 c3 g4=>?_⟩⟩⟩
 have c2:l=dl:=c2
 have c3:h=dh:=c3
 subst c2 c3
 obtain⟨d,e,q⟩:=g4.rd
 exact⟨ρ3,M3,dx,d,j3,(c1.mono e2).mono e3,e,q⟩⟩
end
inductive Fl where
 |nx (δ:ao) | rt (d:D) | bk (δ:ao) | ct (δ:ao)
def pQ(mg:Str->Option Value)(ρ:Rh)(H:Hp)(D:Ends)(E:XK):R Fl×Mo->Prop
 |(.ok (.nx δ'),M')=>∀ρ' H' σ',Ext ρ H ρ' H'->J mg ρ' M' H'->Ev mg ρ' H' σ' δ'->D.nx σ' H'
 |(.ok (.bk δ'),M')=>∀ρ' H' σ',Ext ρ H ρ' H'->J mg ρ' M' H'->Ev mg ρ' H' σ' δ'->D.bk σ' H'
 |(.ok (.ct δ'),M')=>∀ρ' H' σ',Ext ρ H ρ' H'->J mg ρ' M' H'->Ev mg ρ' H' σ' δ'->D.ct σ' H'
 |(.ok (.rt d),M')=>∀ρ' H' v,Ext ρ H ρ' H'->J mg ρ' M' H'->Cv mg ρ' H' v d->D.rt v H'
 |(.exc c,M')=>∀ρ' H' C,Ext ρ H ρ' H'->J mg ρ' M' H'->mg c=some (.ref C)->E (.ref C) none H'
def bA(mg:Str->Option Value)(E:XK)(D:Ends)(ρ:Rh)(H:Hp)(m:DM Fl)(M:Mo):Prop:=∃r,m M=some r∧pQ mg ρ H D E r
section
variable{mg:Str->Option Value}{ρ ρ':Rh}{H H':Hp}{E:XK}{α β:Type}{rel:Rh->Hp->β->α->Prop}{D D':Ends}{Q':β->Hp->Prop}{M:Mo}
theorem pQ.mono(e:Ext ρ H ρ' H')(h:pQ mg ρ H D E r):pQ mg ρ' H' D E r:=by
 obtain⟨r,M'⟩:=r
 cases r with
 |ok a=>cases a<;>exact fun ρ2 H2 b e2 j c=>h ρ2 H2 b (e.trans e2) j c
 |exc c=>exact fun ρ2 H2 C e2 j m=>h ρ2 H2 C (e.trans e2) j m
theorem bA.bind(g:bA mg E D ρ H (m>>=k) M)
  (f:∀ρ1 H1 M1 b a,Ext ρ H ρ1 H1->J mg ρ1 M1 H1->rel ρ1 H1 b a->bA mg E D ρ1 H1 (k a) M1->Q' b H1):Go mg E rel Q' ρ H m M:=by
 obtain⟨r,e,p⟩:=g
 have e:DM.bind m k M=some r:=e
 unfold DM.bind at e
 split at e
 ·cases e
 ·rename_i c M' em
  cases e
  exact⟨_,em,p⟩
 ·rename_i a M' em
  exact⟨_,em,fun ρ1 H1 b x j c=>f ρ1 H1 M' b a x j c ⟨r,e,p.mono x⟩⟩
theorem bA.pure(g:bA mg E D ρ H (pure a) M):pQ mg ρ H D E (.ok a,M):=by
 obtain⟨r,e,p⟩:=g
 have e:some (R.ok a,M)=some r:=e
 cases e
 exact p
def pM(f g:ao->DM Fl):ao->DM Fl:=fun δ=>f δ>>=fun r=>match r with
 |.nx δ'=>g δ'
 |r=>Pure.pure r
theorem bA.seq(g:bA mg E D ρ H (f>>=k) M)
  (hn:∀δ' ρ1 H1 M1 σ1,Ext ρ H ρ1 H1->J mg ρ1 M1 H1->Ev mg ρ1 H1 σ1 δ'->bA mg E D ρ1 H1 (k (.nx δ')) M1->D'.nx σ1 H1)
  (hb:∀δ' ρ1 H1 M1 σ1,Ext ρ H ρ1 H1->J mg ρ1 M1 H1->Ev mg ρ1 H1 σ1 δ'->bA mg E D ρ1 H1 (k (.bk δ')) M1->D'.bk σ1 H1)
  (hc:∀δ' ρ1 H1 M1 σ1,Ext ρ H ρ1 H1->J mg ρ1 M1 H1->Ev mg ρ1 H1 σ1 δ'->bA mg E D ρ1 H1 (k (.ct δ')) M1->D'.ct σ1 H1)
  (hr:∀d ρ1 H1 M1 v,Ext ρ H ρ1 H1->J mg ρ1 M1 H1->Cv mg ρ1 H1 v d->bA mg E D ρ1 H1 (k (.rt d)) M1->D'.rt v H1):bA mg E D' ρ H f M:=by
 obtain⟨r,e,p⟩:=g
 have e:DM.bind f k M=some r:=e
 unfold DM.bind at e
 split at e
 ·cases e
 ·rename_i c M' em
  cases e
  exact⟨_,em,p⟩
 ·rename_i a M' em
  refine⟨_,em,?_⟩
  cases a with
  |nx δ'=>exact fun ρ1 H1 b x j c=>hn δ' ρ1 H1 M' b x j c ⟨r,e,p.mono x⟩
  |bk δ'=>exact fun ρ1 H1 b x j c=>hb δ' ρ1 H1 M' b x j c ⟨r,e,p.mono x⟩
  |ct δ'=>exact fun ρ1 H1 b x j c=>hc δ' ρ1 H1 M' b x j c ⟨r,e,p.mono x⟩
  |rt d=>exact fun ρ1 H1 b x j c=>hr d ρ1 H1 M' b x j c ⟨r,e,p.mono x⟩
end
def tS(mg:Str->Option Value)(E:XK)(f:ao->DM Fl):TS:=fun D σ H=>∃ρ δ M,Ev mg ρ H σ δ∧J mg ρ M H∧bA mg E D ρ H (f δ) M
structure DS(X:Cx)(E:XK)(st:Stmt)(f:ao->DM Fl):Prop where
 h:PS X st (tS X.mg E f)
structure DSs(X:Cx)(E:XK)(st:List Stmt)(f:ao->DM Fl):Prop where
 h:PSs X st (tS X.mg E f)
theorem PS.mono(h:PS X e t)(f:∀D σ H,t' D σ H->t D σ H):PS X e t':=fun pins s σ H D I q=>h pins s σ H D I (f D σ H q)
theorem PSs.mono(h:PSs X e t)(f:∀D σ H,t' D σ H->t D σ H):PSs X e t':=fun pins s σ H D I q=>h pins s σ H D I (f D σ H q)
section
variable{X:Cx}{E:XK}{st:Stmt}{rest:List Stmt}{f g:ao->DM Fl}{e:Expr}{fe:ao->DM D}{pos:Pos}
theorem bF:DSs X E [] (fun δ=>pure (.nx δ)):=⟨PSs.mono pss_nil fun D σ H h=>by
 obtain⟨ρ,δ,M,ev,j,g⟩:=h
 exact g.pure ρ H σ .refl j ev⟩
theorem aA(h:DS X E st f):DSs X E [st] f:=⟨pss_one h.h⟩
theorem au(h1:DS X E st f)(h2:DSs X E rest g):DSs X E (st::rest) (pM f g):=⟨PSs.mono (pss_cons h1.h h2.h) fun D σ H h=>by
 obtain⟨ρ,δ,M,ev,j,g1⟩:=h
 refine⟨ρ,δ,M,ev,j,g1.seq (fun δ' ρ1 H1 M1 σ1 e1 j1 ev1 g2=>⟨ρ1,δ',M1,ev1,j1,g2⟩) (fun δ' ρ1 H1 M1 σ1 e1 j1 ev1 g2=>?_) (fun δ' ρ1 H1 M1 σ1 e1 j1 ev1 g2=>?_) (fun d ρ1 H1 M1 v e1 j1 c1 g2=>?_)⟩
 ·exact bA.pure g2 ρ1 H1 σ1 .refl j1 ev1
 ·exact bA.pure g2 ρ1 H1 σ1 .refl j1 ev1
 ·exact bA.pure g2 ρ1 H1 v .refl j1 c1⟩
theorem aK(he:DE X E e fe):DS X E (.Return (some e) pos) (fun δ=>fe δ>>=fun d=>pure (.rt d)):=⟨PS.mono (L2.ps_ret he.h) fun D σ H h=>by
 obtain⟨ρ,δ,M,ev,j,g1⟩:=h
 exact⟨ρ,δ,M,ev,j,g1.bind fun ρ1 H1 M1 v d e1 j1 c1 g2=>g2.pure ρ1 H1 v .refl j1 c1⟩⟩
theorem jk(he:DE X E e fe)(hs:swapsWith e none pos.line X.env=pure false:=by rfl):DS X E (.Expr e pos) (fun δ=>fe δ>>=fun _=>pure (.nx δ)):=⟨PS.mono (ps_expr he.h hs) fun D σ H h=>by
 obtain⟨ρ,δ,M,ev,j,g1⟩:=h
 exact⟨ρ,δ,M,ev,j,g1.bind fun ρ1 H1 M1 v d e1 j1 c1 g2=>g2.pure ρ1 H1 σ .refl j1 (ev.mono e1)⟩⟩
theorem aU(hN:X.N.Nodup)(hi:X.N[i]?=some x)(hx:Loc X.env.scope x)(he:DE X E e fe)(hs:swapsWith e (some (.Name x pos')) pos.line X.env=pure false:=by rfl)(hf:X.fn x=true∨X.env.scope.names.lookup x=some .local:=by first | exact .inl rfl | exact .inr rfl | assumption) :
  DS X E (.Assign [.Name x pos'] e pos) (fun δ=>fe δ>>=fun d=>pure (.nx (δ.set i (some d)))):=⟨PS.mono (ps_set hN hi hx he.h hs hf) fun D σ H h=>by
 obtain⟨ρ,δ,M,ev,j,g1⟩:=h
 exact⟨ρ,δ,M,ev,j,g1.bind fun ρ1 H1 M1 v d e1 j1 c1 g2=>g2.pure ρ1 H1 _ .refl j1 ((ev.mono e1).set c1)⟩⟩
theorem cg(hc:DT X E c tc)(ha:DSs X E a f)(hb:DSs X E b g):DS X E (.If c a b pos) (fun δ=>tc δ>>=fun k=>if k then f δ else g δ):=⟨PS.mono (L2.ps_if hc.h ha.h hb.h) fun D σ H h=>by
 obtain⟨ρ,δ,M,ev,j,g1⟩:=h
 refine⟨ρ,δ,M,ev,j,g1.bind fun ρ1 H1 M1 x dx e1 j1 c1 g2=>?_⟩
 have c1:x=dx:=c1
 subst c1
 cases x with
 |true=>exact iteT ⟨ρ1,δ,M1,ev.mono e1,j1,g2⟩
 |false=>exact iteF ⟨ρ1,δ,M1,ev.mono e1,j1,g2⟩⟩
def tG(mg:Str->Option Value)(E:XK)(fg:D->ao->DM ao):TG:=fun v σ H Q=>∃ρ δ M d,Ev mg ρ H σ δ∧J mg ρ M H∧Cv mg ρ H v d∧Go mg E (Ev mg) Q ρ H (fg d δ) M
def Qt(mg:Str->Option Value)(E:XK)(fg:List D->ao->DM ao):TGs:=fun vs σ H Q=>∃ρ δ M ds,Ev mg ρ H σ δ∧J mg ρ M H∧Cvs mg ρ H vs ds∧Go mg E (Ev mg) Q ρ H (fg ds δ) M
structure DG(X:Cx)(E:XK)(tg:Expr)(fg:D->ao->DM ao):Prop where
 h:PG X tg (tG X.mg E fg)
structure DGs(X:Cx)(E:XK)(tg:List Expr)(fg:List D->ao->DM ao):Prop where
 h:PGs X tg (Qt X.mg E fg)
theorem PG.mono(h:PG X tg t)(f:∀v σ H Q,t' v σ H Q->t v σ H Q):PG X tg t':=fun pins s σ H v u Q I r q=>h pins s σ H v u Q I r (f v σ H Q q)
theorem PGs.mono(h:PGs X tg t)(f:∀v σ H Q,t' v σ H Q->t v σ H Q):PGs X tg t':=fun pins s σ H v u Q I r q=>h pins s σ H v u Q I r (f v σ H Q q)
def gN(i:Nat):D->ao->DM ao:=fun d δ=>pure (δ.set i (some d))
theorem aV(hN:X.N.Nodup)(hi:X.N[i]?=some x)(hx:Loc X.env.scope x)(hf:X.fn x=true∨X.env.scope.names.lookup x=some .local:=by first | exact .inl rfl | exact .inr rfl | assumption):DG X E (.Name x pos) (gN i):=
 ⟨PG.mono (pg_name hN hi hx hf) fun v σ H Q h=>by
  obtain⟨ρ,δ,M,d,ev,j,c,g1⟩:=h
  exact Go.pure g1 ρ H _ .refl j (ev.set c)⟩
def m9:List D->ao->DM ao
 |[],δ=>pure δ
 |_,_=>stuck
def dC(f:D->ao->DM ao)(fs:List D->ao->DM ao):List D->ao->DM ao
 |d::l,δ=>f d δ>>=fun δ'=>fs l δ'
 |_,_=>stuck
theorem fM:DGs X E [] m9:=⟨PGs.mono pgs_nil fun vs σ H Q h=>by
 obtain⟨ρ,δ,M,ds,ev,j,c,g1⟩:=h
 cases c with
 |nil=>exact⟨rfl,Go.pure (a:=δ) g1 ρ H σ .refl j ev⟩
 |cons _ _=>obtain⟨r,e,_⟩:=g1;cases e⟩
theorem bM (h1:DG X E e fg) (h2:DGs X E es fgs) (hs:(assignEach (e::es) X.env).map (·.2)=assign e X.env::(assignEach es X.env).map (·.2):=by rfl):DGs X E (e::es) (dC fg fgs):=
 ⟨PGs.mono (pgs_cons h1.h h2.h hs) fun vs σ H Q h=>by
  obtain⟨ρ,δ,M,ds,ev,j,c,g1⟩:=h
  cases c with
  |nil=>obtain⟨r,e,_⟩:=g1;cases e
  |cons c1 c2=>
    have g1:Go X.mg E (Ev X.mg) Q ρ H (fg _ δ>>=fun δ'=>fgs _ δ') M:=g1
    exact⟨_,_,rfl,ρ,δ,M,_,ev,j,c1,g1.bind fun ρ1 H1 M1 σ1 δ1 e1 j1 ev1 g2=>⟨ρ1,δ1,M1,_,ev1,j1,c2.mono e1,g2⟩⟩⟩
def gT(n:Nat)(fs:List D->ao->DM ao):D->ao->DM ao
 |.tup l,δ=>if l.length=n then fs l δ else stuck
 |_,_=>stuck
theorem ik (hc:X.calm=true) (h:DGs X E es fgs) (hn:(assignEach es X.env).length=n:=by rfl) (hst:(assignEach es X.env).findIdx? (·.1)=none:=by rfl):DG X E (.Tuple es k pos) (gT n fgs):=
 ⟨PG.mono (pg_tup hc h.h hn hst) fun v σ H Q h=>by
  obtain⟨ρ,δ,M,d,ev,j,c,g1⟩:=h
  cases c with
  | tup nx a c=>
    have g1:Go X.mg E (Ev X.mg) Q ρ H (if _ then _ else _) M:=g1
    split at g1
    ·rename_i hl
     exact⟨_,_,rfl,SqT.of a,by rw[c.len];exact hl,ρ,δ,M,_,ev,j,c,g1⟩
    ·obtain⟨r,e,_⟩:=g1;cases e
  |_=>obtain⟨r,e,_⟩:=g1;cases e⟩
def jP:D->D->D->DM Unit
 | .ref n,.int k,v=>fun M=>match M[n]? with
   |some (.lst l)=>match ixN l.length k with
     |some j=>some (.ok (),M.set n (.lst (l.set j v)))
     |none=>none
   |_=>none
 |_,_,_=>stuck
def Ht(mg:Str->Option Value)(E:XK)(gs:D->D->D->DM Unit):TSet:=fun o i v H Q=>∃ρ M dO di dv,J mg ρ M H∧Cv mg ρ H o dO∧Cv mg ρ H i di∧Cv mg ρ H v dv∧Go mg E (fun _ _ (_:Unit) (_:Unit)=>True) (fun _ H'=>Q H') ρ H (gs dO di dv) M
theorem lq:PSet X (Ht X.mg E jP):=by
 intro pins s σ H o i v ov iv u Q I ro ri rv h
 obtain⟨ρ,M,dO,di,dv,j,co,ci,cv,r,e,p⟩:=h
 cases co with
 | ref hn=>
   cases ci with
   | int k=>
     rename_i n a
     have e:(match M[n]? with
      |some (.lst l)=>match ixN l.length k with
        |some j=>some (R.ok (),M.set n (.lst (l.set j dv)))
        |none=>none
      |_=>none)=some r:=e
     split at e
     ·rename_i l hl
      split at e
      ·rename_i q hq
       cases e
       obtain⟨xs,hx,c⟩:=j.obj _ _ _ hn hl
       have x:Ext ρ H ρ (upd H a (.lst (xs.set q v))):=.upd (List.mem_of_getElem? hn)
       exact set_list (X:=X) pins s σ H _ _ v ov iv u Q I ro ri rv ⟨_,_,_,q,rfl,rfl,hx,by rw[c.len];exact hq,p ρ _ () x (j.upd hn ⟨_,upd_same,(c.set cv q).mono x⟩) trivial⟩
      ·cases e
     ·cases e
   |_=>cases e
 |_=>cases e
theorem jx (ho:DE X E o fo) (hi:DE X E i fi) (hs:PSet X (Ht X.mg E gs))
  (ha:∀v,assign (.Subscript o i pos) X.env v=(do
    let ov ←holding [v] (eval o X.env)
    let iv ←holding [v,ov] (eval i X.env)
    standAt pos
    holding [v,ov,iv] (setItem ov iv v)
    release [v,ov,iv] []):=by intro _;rfl):DG X E (.Subscript o i pos) (fun d δ=>fo δ>>=fun o=>fi δ>>=fun i=>gs o i d>>=fun _=>pure δ):=
 ⟨PG.mono (pg_sub ho.h hi.h hs ha) fun v σ H Q h=>by
  obtain⟨ρ,δ,M,d,ev,j,c,g1⟩:=h
  exact⟨ρ,δ,M,ev,j,g1.bind fun ρ1 H1 M1 x dx e1 j1 c1 g2=>⟨ρ1,δ,M1,ev.mono e1,j1,g2.bind fun ρ2 H2 M2 y dy e2 j2 c2 g3=>⟨ρ2,M2,dx,dy,d,j2,c1.mono e2,c2,(c.mono e1).mono e2,g3.bind fun ρ3 H3 M3 _ _ e3 j3 _ g4=>g4.pure ρ3 H3 σ .refl j3 (((ev.mono e1).mono e2).mono e3)⟩⟩⟩⟩
theorem jy(he:DE X E e fe)(hg:DG X E tg fg)(hs:swapsWithSole [tg] e pos.line X.env=pure false:=by rfl)(hw:swappedStores [tg] e X.env=pure none:=by rfl)
  (h1:(assignEach [tg] X.env).map (·.2)=[assign tg X.env]:=by rfl):DS X E (.Assign [tg] e pos) (fun δ=>fe δ>>=fun d=>fg d δ>>=fun δ'=>pure (.nx δ')):=⟨PS.mono (ps_asg he.h hg.h hs hw h1) fun D σ H h=>by
 obtain⟨ρ,δ,M,ev,j,g1⟩:=h
 exact⟨ρ,δ,M,ev,j,g1.bind fun ρ1 H1 M1 v d e1 j1 c1 g2=>⟨ρ1,δ,M1,d,ev.mono e1,j1,c1,g2.bind fun ρ2 H2 M2 σ2 δ2 e2 j2 ev2 g3=>g3.pure ρ2 H2 σ2 .refl j2 ev2⟩⟩⟩
def K4(i j:Nat)(fa:ao->DM (List D)):ao->DM Fl:=fun δ=>fa δ>>=fun l=>match l with
 |[v,w]=>pure (.nx ((δ.set i (some v)).set j (some w)))
 |_=>stuck
theorem sX {kt k2 pt2} (hc:X.calm=true) (hN:X.N.Nodup) (hi:X.N[i]?=some x) (hj:X.N[j]?=some y) (hij:i≠j)
  (hx:X.env.scope.names.lookup x=some .local) (hy:X.env.scope.names.lookup y=some .local) (ha:DA X E [a,b] fa)
  (hw:swappedStores [.Tuple [.Name x px,.Name y py] kt pt] (.Tuple [a,b] k2 pt2) X.env=pure (some [x,y]))
  (hs:swapsWithSole [.Tuple [.Name x px,.Name y py] kt pt] (.Tuple [a,b] k2 pt2) pos.line X.env=pure false:=by rfl) :
  DS X E (.Assign [.Tuple [.Name x px,.Name y py] kt pt] (.Tuple [a,b] k2 pt2) pos) (K4 i j fa):=⟨PS.mono (ps_par hc hN hi hj hij hx hy ha.h.h hw hs) fun D σ H h=>by
 obtain⟨ρ,δ,M,ev,j,g1⟩:=h
 refine⟨ρ,δ,M,ev,j,bA.bind g1 fun ρ1 H1 M1 v d e1 j1 c1 g2=>?_⟩
 cases c1 with
 |nil=>obtain⟨r,e,_⟩:=g2;cases e
 | cons c1 c2=>cases c2 with
   |nil=>obtain⟨r,e,_⟩:=g2;cases e
   |cons c2 c3=>cases c3 with
     |nil=>exact⟨_,_,rfl,bA.pure (a:=.nx _) g2 ρ1 H1 _ .refl j1 (((ev.mono e1).set c1).set c2)⟩
     |cons _ _=>obtain⟨r,e,_⟩:=g2;cases e⟩
theorem Gp:bZ X E (inplaceOp .Add) (fun x y=>rd (cW (fun _ _=>true) (fun i j=>.int (i+j)) x y)):=rO iop_add
theorem xZ:bZ X E (inplaceOp .Sub) (fun x y=>rd (uR x y)):=rO iop_sub
end
inductive Itn where
 |fix (l:List D) | dyn (n:Nat)
def Itn.next:Itn->Nat->Mo->Option (Option D)
 |.fix l,i,_=>some l[i]?
 |.dyn n,i,M=>match M[n]? with
   |some (.lst l)=>some l[i]?
   |_=>none
structure ItOk(mg:Str->Option Value)(ρ:Rh)(H:Hp)(Jt:It)(it:Itn):Prop where
 item:∀(i:Nat) ρ' H' M' d,Kp ρ H ρ' H'->J mg ρ' M' H'->it.next i M'=some (some d)->Jt.go i H'∧∀x H2,Jt.yld i H' x H2->Ext ρ' H' ρ' H2∧J mg ρ' M' H2∧Cv mg ρ' H2 x d
 stop:∀(i:Nat) ρ' H' M',Kp ρ H ρ' H'->J mg ρ' M' H'->it.next i M'=some none->Jt.stop i H'
def tI(mg:Str->Option Value)(E:XK)(fi:ao->DM Itn):TI:=fun σ H R=>tD mg E (ItOk mg) fi σ H R
structure DI(X:Cx)(E:XK)(tg it:Expr)(fi:ao->DM Itn):Prop where
 h:PI X tg it (tI X.mg E fi)
theorem PI.mono(h:PI X tg e t)(f:∀σ H Q,t' σ H Q->t σ H Q):PI X tg e t':=fun pins s σ H Q I q=>h pins s σ H Q I (f σ H Q q)
theorem Ko{K:PySem.W.Frag}{mg:Str->Option Value}{ρ:Rh}{H:Hp}{a:Addr}{xs:List V}{ds:List D}(n:a∉ρ)(h:H a=some (.lst xs))(c:Cvs mg ρ H xs ds):ItOk mg ρ H (Itl K a) (.fix ds) where
 item:=fun i ρ' H' M' d e j q=>by
  have hq:ds[i]?=some d:=Option.some.inj q
  obtain⟨v,hv,cv⟩:=c.get hq
  have h':=(e.keep _ _ h n nofun).2
  refine⟨⟨xs,v,SqL.of h',hv⟩,fun x H2 y=>?_⟩
  obtain⟨rfl,y⟩:=y
  have:=y xs (SqL.of h')
  rw[hv] at this;cases this
  exact⟨.refl,j,cv.kp e⟩
 stop:=fun i ρ' H' M' e j q=>by
  have hq:ds[i]?=none:=Option.some.inj q
  exact⟨xs,SqL.of (e.keep _ _ h n nofun).2,by rw[c.len];exact List.getElem?_eq_none_iff.mp hq⟩
theorem Kq{K:PySem.W.Frag}{mg:Str->Option Value}{ρ:Rh}{H:Hp}{a:Addr}{xs:List V}{ds:List D}(n:a∉ρ)(h:H a=some (.tup xs))(c:Cvs mg ρ H xs ds):ItOk mg ρ H (Itt K a) (.fix ds) where
 item:=fun i ρ' H' M' d e j q=>by
  have hq:ds[i]?=some d:=Option.some.inj q
  obtain⟨v,hv,cv⟩:=c.get hq
  have h':=(e.keep _ _ h n nofun).2
  refine⟨⟨xs,v,SqT.of h',hv⟩,fun x H2 y=>?_⟩
  obtain⟨rfl,y⟩:=y
  have:=y xs (SqT.of h')
  rw[hv] at this;cases this
  exact⟨.refl,j,cv.kp e⟩
 stop:=fun i ρ' H' M' e j q=>by
  have hq:ds[i]?=none:=Option.some.inj q
  exact⟨xs,SqT.of (e.keep _ _ h n nofun).2,by rw[c.len];exact List.getElem?_eq_none_iff.mp hq⟩
theorem Km {K:PySem.W.Frag}{mg:Str->Option Value}{ρ:Rh}{H:Hp}{a:Addr}{n:Nat} (h:ρ.st[n]?=some a):ItOk mg ρ H (Itl K a) (.dyn n) where
 item:=fun i ρ' H' M' d e j q=>by
  have h':=e.at h
  unfold Itn.next at q
  dsimp only at q
  split at q
  ·rename_i l hl
   obtain⟨xs,hx,c⟩:=j.obj n a _ h' hl
   have hq:l[i]?=some d:=Option.some.inj q
   obtain⟨v,hv,cv⟩:=c.get hq
   refine⟨⟨xs,v,SqL.of hx,hv⟩,fun x H2 y=>?_⟩
   obtain⟨rfl,y⟩:=y
   have:=y xs (SqL.of hx)
   rw[hv] at this;cases this
   exact⟨.refl,j,cv⟩
  ·cases q
 stop:=fun i ρ' H' M' e j q=>by
  have h':=e.at h
  unfold Itn.next at q
  dsimp only at q
  split at q
  ·rename_i l hl
   obtain⟨xs,hx,c⟩:=j.obj n a _ h' hl
   have hq:l[i]?=none:=Option.some.inj q
   exact⟨xs,SqL.of hx,by rw[c.len];exact List.getElem?_eq_none_iff.mp hq⟩
  ·cases q
def nJ(lo:Int)(n:Nat):List D:=(List.range n).map fun i=>.int (lo+(i:Nat))
theorem zR{lo:Int}{n i:Nat}:(nJ lo n)[i]?=if i<n then some (.int (lo+(i:Nat))) else none:=by
 unfold nJ
 rw[List.getElem?_map]
 by_cases h:i<n
 ·rw[if_pos h,List.getElem?_range h];rfl
 ·rw[if_neg h,List.getElem?_eq_none_iff.mpr (by simp;lia)];rfl
theorem CT {mg:Str->Option Value}{lo:Int}{n:Nat}:ItOk mg ρ H (Itr lo n) (.fix (nJ lo n)) where
 item:=fun i ρ' H' M' d e j q=>by
  have hq:(nJ lo n)[i]?=some d:=Option.some.inj q
  rw[zR] at hq
  split at hq
  ·rename_i h
   cases hq
   refine⟨h,fun x H2 y=>?_⟩
   obtain⟨rfl,rfl⟩:=y
   exact⟨.refl,j,.int _⟩
  ·cases hq
 stop:=fun i ρ' H' M' e j q=>by
  have hq:(nJ lo n)[i]?=none:=Option.some.inj q
  rw[zR] at hq
  split at hq
  ·cases hq
  ·rename_i h;exact Nat.not_lt.mp h
section
variable{X:Cx}{E:XK}{tg:Expr}
def nQ(i:Int):Bool:=decide (-(2^62)≤i∧i<2^62)
def pD:List D->Option Itn
 |[.int j]=>if nQ j then some (.fix (nJ 0 j.toNat)) else none
 |_=>none
def Bp:List D->Option Itn
 |[.int i,.int j]=>if nQ i&&nQ j then some (.fix (nJ i (j-i).toNat)) else none
 |_=>none
theorem bH (hg:Gl X "range") (hm:X.mg "range"=none) (ha:DA X E [a] fa) (hs:notStar a=true:=by rfl):DI X E tg (.Call (.Name "range" p) [a] [] pos) (fun δ=>fa δ >>= fun l=>opt (pD l)):=
 ⟨PI.mono (Be hg hm ha.h hs).h fun σ H R h=>by
  obtain⟨ρ,δ,M,ev,j,g1⟩:=h
  refine⟨ρ,δ,M,ev,j,g1.bind fun ρ1 H1 M1 x dx e1 j1 c1 g2=>?_⟩
  obtain⟨it,e,q⟩:=g2.opt
  unfold pD at e
  split at e
  ·split at e
   ·rename_i hk
    cases e
    cases c1 with | cons c1 c2=>
    cases c2;cases c1
    have hk:=of_decide_eq_true hk
    exact⟨_,rfl,hk.1,hk.2,q ρ1 H1 _ .refl j1 CT⟩
   ·cases e
  ·cases e⟩
theorem Cr (hg:Gl X "range") (hm:X.mg "range"=none) (ha:DA X E [a,b] fa) (hs:notStar a=true:=by rfl) (hs2:notStar b=true:=by rfl):DI X E tg (.Call (.Name "range" p) [a,b] [] pos) (fun δ=>fa δ >>= fun l=>opt (Bp l)):=
 ⟨PI.mono (Bf hg hm ha.h hs hs2).h fun σ H R h=>by
  obtain⟨ρ,δ,M,ev,j,g1⟩:=h
  refine⟨ρ,δ,M,ev,j,g1.bind fun ρ1 H1 M1 x dx e1 j1 c1 g2=>?_⟩
  obtain⟨it,e,q⟩:=g2.opt
  unfold Bp at e
  split at e
  ·split at e
   ·rename_i hk
    cases e
    cases c1 with | cons c1 c2=>cases c2 with | cons c2 c3=>
    cases c3;cases c1;cases c2
    have hk:=(Bool.and_eq_true _ _).mp hk
    have h1:=of_decide_eq_true hk.1
    have h2:=of_decide_eq_true hk.2
    exact⟨_,_,rfl,⟨h1.1,h1.2,h2.1,h2.2⟩,q ρ1 H1 _ .refl j1 CT⟩
   ·cases e
  ·cases e⟩
def oO:D->Option Itn
 |.tup l=>some (.fix l)
 |_=>none
def oN:D->Mo->Option Itn
 |.lst l,_=>some (.fix l)
 |.ref n,M=>match M[n]? with
   |some (.lst _)=>some (.dyn n)
   |_=>none
 |_,_=>none
theorem dW(hl:DE X E l fl):DI X E tg l (fun δ=>fl δ>>=fun d=>opt (oO d)):=⟨PI.mono (pi_tup hl.h) fun σ H R h=>by
 obtain⟨ρ,δ,M,ev,j,g1⟩:=h
 refine⟨ρ,δ,M,ev,j,g1.bind fun ρ1 H1 M1 x dx e1 j1 c1 g2=>?_⟩
 obtain⟨it,e,q⟩:=g2.opt
 unfold oO at e
 split at e
 ·cases e
  cases c1 with | tup n a c=>
  exact⟨_,rfl,⟨_,SqT.of a⟩,q ρ1 H1 _ .refl j1 (Kq n a c)⟩
 ·cases e⟩
theorem il (hl:DE X E l fl):DI X E tg l (fun δ=>fl δ >>= fun d=>rd (oN d)):=⟨PI.mono (pi_list hl.h) fun σ H R h=>by
 obtain⟨ρ,δ,M,ev,j,g1⟩:=h
 refine⟨ρ,δ,M,ev,j,g1.bind fun ρ1 H1 M1 x dx e1 j1 c1 g2=>?_⟩
 obtain⟨it,e,q⟩:=g2.rd
 unfold oN at e
 split at e
 ·cases e
  cases c1 with | lst n a c=>
  exact⟨_,rfl,⟨_,SqL.of a⟩,q ρ1 H1 _ .refl j1 (Ko n a c)⟩
 ·split at e
  ·rename_i l' hl'
   cases e
   cases c1 with | ref hn=>
   obtain⟨xs,hx,_⟩:=j1.obj _ _ _ hn hl'
   exact⟨_,rfl,⟨xs,SqL.of hx⟩,q ρ1 H1 _ .refl j1 (Km hn)⟩
  ·cases e
 ·cases e⟩
end
def forL (tg:D->ao->DM ao) (fb:ao->DM Fl):List D->ao->DM Fl
 |[],δ=>pure (.nx δ)
 |d::l,δ=>tg d δ>>=fun δ1=>fb δ1>>=fun r=>match r with
   |.nx δ2=>forL tg fb l δ2
   |.ct δ2=>forL tg fb l δ2
   |.bk δ2=>pure (.nx δ2)
   |.rt d=>pure (.rt d)
def m8 (tg:D->ao->DM ao) (fb:ao->DM Fl) (n:Nat):Nat->Nat->ao->DM Fl
 |0,_,_=>stuck
 | k + 1,i,δ=>rd (Itn.next (.dyn n) i) >>= fun o=>match o with
   |none=>pure (.nx δ)
   |some d=>tg d δ>>=fun δ1=>fb δ1>>=fun r=>match r with
     |.nx δ2=>m8 tg fb n k (i+1) δ2
     |.ct δ2=>m8 tg fb n k (i+1) δ2
     |.bk δ2=>pure (.nx δ2)
     |.rt d=>pure (.rt d)
def Aq(N:Nat)(tg:D->ao->DM ao)(fb:ao->DM Fl):Itn->ao->DM Fl
 |.fix l=>forL tg fb l
 |.dyn n=>m8 tg fb n N 0
theorem bA.rdb{mg:Str->Option Value}{E:XK}{D:Ends}{ρ:Rh}{H:Hp}{M:Mo}{γ:Type}{f:Mo->Option γ}{k:γ->DM Fl}(g:bA mg E D ρ H (L3.rd f>>=k) M):∃a,f M=some a∧bA mg E D ρ H (k a) M:=by
 obtain⟨r,e,p⟩:=g
 have e:DM.bind _ _ M=some r:=e
 unfold DM.bind L3.rd at e
 cases h:f M with
 |none=>rw[h] at e;cases e
 |some a=>rw[h] at e;exact⟨a,rfl,r,e,p⟩
theorem xx {X:Cx}{E:XK}{fg:D->ao->DM ao}{fb:ao->DM Fl}{D:Ends}{σ:L2.St}{H H':Hp}{ρ:Rh}{δ:ao}{M:Mo}{x:V}{d:L3.D}{N:L2.St->Hp->Prop}{again:ao->DM Fl}
  (ev:Ev X.mg ρ H σ δ) (e1:Ext ρ H ρ H') (j1:J X.mg ρ M H') (c1:Cv X.mg ρ H' x d) (ht:bA X.mg E D ρ H (fg d δ>>=fun δ1=>fb δ1>>=fun r=>match r with
    |.nx δ2=>again δ2
    |.ct δ2=>again δ2
    |.bk δ2=>pure (.nx δ2)
    |.rt d=>pure (.rt d)) M) (hN:∀ρ2 δ2 M2 σ2 H2,Ext ρ H ρ2 H2->Ev X.mg ρ2 H2 σ2 δ2->J X.mg ρ2 M2 H2->bA X.mg E D ρ2 H2 (again δ2) M2->N σ2 H2) :
  tG X.mg E fg x σ H' fun σ2 H2=>tS X.mg E fb { D with nx:=N,ct:=N,bk:=D.nx } σ2 H2:=by
 obtain⟨r,er,p⟩:=ht
 have ht':bA X.mg E D ρ H' _ M:=⟨r,er,p.mono e1⟩
 refine⟨ρ,δ,M,d,ev.mono e1,j1,c1,bA.bind ht' fun ρ2 H2 M2 σ2 δ2 e2 j2 ev2 g2=>⟨ρ2,δ2,M2,ev2,j2,g2.seq (fun δ' ρ3 H3 M3 σ3 e3 j3 ev3 g3=>?_) (fun δ' ρ3 H3 M3 σ3 e3 j3 ev3 g3=>?_) (fun δ' ρ3 H3 M3 σ3 e3 j3 ev3 g3=>?_) (fun d' ρ3 H3 M3 v e3 j3 c3 g3=>?_)⟩⟩
 ·exact hN ρ3 δ' M3 σ3 H3 ((e1.trans e2).trans e3) ev3 j3 g3
 ·exact bA.pure (a:=.nx δ') g3 ρ3 H3 σ3 .refl j3 ev3
 ·exact hN ρ3 δ' M3 σ3 H3 ((e1.trans e2).trans e3) ev3 j3 g3
 ·exact bA.pure (a:=.rt d') g3 ρ3 H3 v .refl j3 c3
theorem fj {body:List Stmt}{fi:ao->DM Itn}{fg:D->ao->DM ao}{fb:ao->DM Fl} (N:Nat) (hp:PassesOwn (model X.prog X.w) X.A X.env X.xe) (hc:X.calm=true) (hi:DI X E tg iter fi) (hg:DG X E tg fg) (hb:DSs X E body fb)
  (hs:∀x,foldedSetIterable iter X.env x=pure x:=by intro _;rfl):DS X E (.For tg iter body [] pos) (fun δ=>fi δ>>=fun it=>Aq N fg fb it δ):=⟨PS.mono (ps_for hp hc hi.h hg.h hb.h hs) fun D σ H h=>by
 obtain⟨ρ,δ,M,ev,j,g1⟩:=h
 refine⟨ρ,δ,M,ev,j,g1.bind fun ρ1 H1 M1 Jt it e1 j1 iok g2=>?_⟩
 cases it with
 | fix l=>
   refine⟨fun i m σ H=>∃ρ' δ' M',Ext ρ1 H1 ρ' H∧Ev X.mg ρ' H σ δ'∧J X.mg ρ' M' H∧m=(l.drop i).length∧bA X.mg E D ρ' H (forL fg fb (l.drop i) δ') M',⟨_,ρ1,δ,M1,.refl,ev.mono e1,j1,rfl,g2⟩,?_⟩
   rintro i m σ2 H2 ⟨ρ2,δ2,M2,e2,ev2,j2,rfl,g3⟩
   cases hd:l[i]? with
   |none=>
     have hl:l.drop i=[]:=List.drop_eq_nil_of_le (List.getElem?_eq_none_iff.mp hd)
     rw[hl] at g3
     exact .inl ⟨iok.stop i ρ2 H2 M2 e2.kp j2 (congrArg some hd),bA.pure (a:=.nx δ2) g3 ρ2 H2 σ2 .refl j2 ev2⟩
   |some d=>
     obtain⟨hi',hd'⟩:=List.getElem?_eq_some_iff.mp hd
     have hl:l.drop i=d::l.drop (i+1):=by rw[←hd'];exact List.drop_eq_getElem_cons hi'
     obtain⟨go,yl⟩:=iok.item i ρ2 H2 M2 d e2.kp j2 (congrArg some hd)
     rw[hl] at g3
     refine .inr ⟨go,fun σ' H'=>∃ρ' δ' M',Ext ρ1 H1 ρ' H'∧Ev X.mg ρ' H' σ' δ'∧J X.mg ρ' M' H'∧bA X.mg E D ρ' H' (forL fg fb (l.drop (i+1)) δ') M',fun σ' H' ⟨ρ',δ',M',a1,a2,a3,a4⟩=>⟨_,by rw[List.length_drop,List.length_drop];lia,ρ',δ',M',a1,a2,a3,rfl,a4⟩,fun x H' y=>?_⟩
     obtain⟨x1,x2,x3⟩:=yl x H' y
     exact xx ev2 x1 x2 x3 g3 fun ρ3 δ3 M3 σ3 H3 f1 f2 f3 f4=>⟨ρ3,δ3,M3,e2.trans f1,f2,f3,f4⟩
 | dyn n=>
   refine⟨fun i m σ H=>∃ρ' δ' M',Ext ρ1 H1 ρ' H∧Ev X.mg ρ' H σ δ'∧J X.mg ρ' M' H∧bA X.mg E D ρ' H (m8 fg fb n m i δ') M',⟨N,ρ1,δ,M1,.refl,ev.mono e1,j1,g2⟩,?_⟩
   rintro i m σ2 H2 ⟨ρ2,δ2,M2,e2,ev2,j2,g3⟩
   cases m with
   |zero=>obtain⟨r,e,_⟩:=g3;cases e
   | succ m=>
     obtain⟨o,eo,g4⟩:=bA.rdb g3
     cases o with
     |none=>exact .inl ⟨iok.stop i ρ2 H2 M2 e2.kp j2 eo,bA.pure (a:=.nx δ2) g4 ρ2 H2 σ2 .refl j2 ev2⟩
     |some d=>
       obtain⟨go,yl⟩:=iok.item i ρ2 H2 M2 d e2.kp j2 eo
       refine .inr ⟨go,fun σ' H'=>∃ρ' δ' M',Ext ρ1 H1 ρ' H'∧Ev X.mg ρ' H' σ' δ'∧J X.mg ρ' M' H'∧bA X.mg E D ρ' H' (m8 fg fb n m (i+1) δ') M',fun σ' H' z=>⟨m,Nat.lt_succ_self _,z⟩,fun x H' y=>?_⟩
       obtain⟨x1,x2,x3⟩:=yl x H' y
       exact xx ev2 x1 x2 x3 g4 fun ρ3 δ3 M3 σ3 H3 f1 f2 f3 f4=>⟨ρ3,δ3,M3,e2.trans f1,f2,f3,f4⟩⟩
def jR (c:ao->DM Bool) (fb:ao->DM Fl):Nat->ao->DM Fl
 |0,_=>stuck
 | k + 1,δ=>c δ >>= fun b=>if b then (fb δ >>= fun r=>match r with
     |.nx δ2=>jR c fb k δ2
     |.ct δ2=>jR c fb k δ2
     |.bk δ2=>pure (.nx δ2)
     |.rt d=>pure (.rt d)) else pure (.nx δ)
theorem FN (N:Nat) (hp:PassesOwn (model X.prog X.w) X.A X.env X.xe) (hc:DT X E c fc) (hb:DSs X E body fb):DS X E (.While c body [] pos) (jR fc fb N):=⟨PS.mono (L2.ps_while hp hc.h hb.h) fun D σ H h=>by
 obtain⟨ρ,δ,M,ev,j,g1⟩:=h
 refine⟨fun m σ H=>∃ρ' δ' M',Ev X.mg ρ' H σ δ'∧J X.mg ρ' M' H∧bA X.mg E D ρ' H (jR fc fb m δ') M',⟨N,ρ,δ,M,ev,j,g1⟩,?_⟩
 rintro m σ2 H2 ⟨ρ2,δ2,M2,ev2,j2,g3⟩
 cases m with
 |zero=>obtain⟨r,e,_⟩:=g3;cases e
 | succ m=>
   refine⟨ρ2,δ2,M2,ev2,j2,bA.bind g3 fun ρ3 H3 M3 b b' e3 j3 cb g4=>?_⟩
   have cb:b=b':=cb
   subst cb
   cases b with
   |true=>
     refine iteT ⟨fun σ' H'=>∃ρ' δ' M',Ev X.mg ρ' H' σ' δ'∧J X.mg ρ' M' H'∧bA X.mg E D ρ' H' (jR fc fb m δ') M',fun σ' H' z=>⟨m,Nat.lt_succ_self _,z⟩,ρ3,δ2,M3,ev2.mono e3,j3,?_⟩
     refine bA.seq g4 (fun δ' ρ4 H4 M4 σ4 e4 j4 ev4 g5=>⟨ρ4,δ',M4,ev4,j4,g5⟩) (fun δ' ρ4 H4 M4 σ4 e4 j4 ev4 g5=>?_) (fun δ' ρ4 H4 M4 σ4 e4 j4 ev4 g5=>⟨ρ4,δ',M4,ev4,j4,g5⟩) (fun d' ρ4 H4 M4 v e4 j4 c4 g5=>?_)
     ·exact bA.pure (a:=.nx δ') g5 ρ4 H4 σ4 .refl j4 ev4
     ·exact bA.pure (a:=.rt d') g5 ρ4 H4 v .refl j4 c4
   |false=>exact iteF (bA.pure (a:=.nx δ2) g4 ρ3 H3 σ2 .refl j3 (ev2.mono e3))⟩
def yK(mg:Str->Option Value)(F:List D->DM D):Sp:=fun vs H Q E=>∃ρ M ds,Cvs mg ρ H vs ds∧J mg ρ M H∧Go mg E (Cv mg) Q ρ H (F ds) M
structure DefD(P:Program)(w:World)(K:PySem.W.Frag)(mg:Str->Option Value)(base:Heap)(k:Nat)(x:Str)(ps:List Str)(F:List D->DM D):Prop where
 h:DefC P w K mg base k x ps (yK mg F)
def bz(n:Nat)(ds:List D):ao:=ds.map some++List.replicate (n-ds.length) none
def aJ(p n:Nat)(fb:ao->DM Fl)(ds:List D):DM D:=if ds.length=p then fb (bz n ds)>>=fun r=>match r with
 |.nx _=>pure .non
 |.rt d=>pure d
 |_=>stuck else stuck
theorem gD(c:Cvs mg ρ H vs ds):Ev mg ρ H (L2.start N vs) (bz N.length ds):=by
 unfold L2.start bz
 refine⟨by simp[c.len],fun i d q=>?_⟩
 by_cases hi:i<ds.length
 ·rw[List.getElem?_append_left (by rw[List.length_map];exact hi),List.getElem?_map] at q
  obtain⟨d',h1,h2⟩:=Option.map_eq_some_iff.mp q
  cases h2
  obtain⟨v,hv,cv⟩:=c.get h1
  exact⟨v,by rw[List.getElem?_append_left (by rw[List.length_map,c.len];exact hi),List.getElem?_map,hv];rfl,cv⟩
 ·rw[List.getElem?_append_right (by rw[List.length_map];lia),List.getElem?_replicate] at q
  split at q<;>cases q
section
variable{P:Program}{w:World}{K:PySem.W.Frag}{mg:Str->Option Value}{base:Heap}{k:Nat}{x:Str}{N ps:List Str}{st:Stmt}
theorem bA.aJ(g:Go mg E (Cv mg) Q ρ H (L3.aJ p n fb ds) M):ds.length=p∧bA mg E { nx:=fun _ H'=>Q .non H',rt:=Q } ρ H (fb (bz n ds)) M:=by
 obtain⟨r,e,p⟩:=g
 unfold L3.aJ at e
 split at e
 rotate_left
 ·cases e
 rename_i hl
 refine⟨hl,?_⟩
 have e:DM.bind _ _ M=some r:=e
 unfold DM.bind at e
 split at e
 ·cases e
 ·rename_i c M' em
  cases e
  exact⟨_,em,p⟩
 ·rename_i a M' em
  refine⟨_,em,?_⟩
  cases a with
  |nx δ'=>cases e;exact fun ρ1 H1 b x j c=>p ρ1 H1 .non x j .non
  |rt d=>cases e;exact fun ρ1 H1 b x j c=>p ρ1 H1 b x j c
  |bk δ'=>cases e
  |ct δ'=>cases e
theorem DefAt.okD (D:DefAt K mg x st) (S:FnScope N ps (defScope st)) (hb:∀ (kV doc pm:Value) (an:Option Addr) (cdv ct:Value) (us:List Value),us.length=ps.length->bindArgs (PySem.W.fnOf x x (defArgs st) (defBody st) (defScope st) .none kV doc pm an cdv ct) ⟨us,[]⟩=pure (ps.zip us))
  (hbody:∀(f:Addr) (cdv:Value) (A:Around) (outer:List Env) (s:Shared) (H:Hp) (E:XK),Room k (A.deeper (envOfC x (defScope st) s.heap.objs.size f cdv))->
    DSs (bO P w K mg base N x (defScope st) f cdv A outer s H E) E (defBody st) fb):DefD P w K mg base (k+1) x ps (aJ ps.length N.length fb):=⟨by
 refine D.okE S hb (fun vs H Q E h=>?_) fun f cdv A outer s H vs Q E hr h=>?_
 ·obtain⟨ρ,M,ds,c,j,g⟩:=h
  rw[c.len];exact (bA.aJ g).1
 obtain⟨ρ,M,ds,c,j,g⟩:=h
 exact⟨_,(hbody f cdv A outer s H E hr).h,ρ,_,M,gD c,j,(bA.aJ g).2⟩⟩
theorem DefAt.okN {F:List D->DM D}{fb:Nat->ao->DM Fl} (D:DefAt K mg x st) (S:FnScope N ps (defScope st)) (hb:∀ (kV doc pm:Value) (an:Option Addr) (cdv ct:Value) (us:List Value),us.length=ps.length->bindArgs (PySem.W.fnOf x x (defArgs st) (defBody st) (defScope st) .none kV doc pm an cdv ct) ⟨us,[]⟩=pure (ps.zip us))
  (hf:∀ds M r,F ds M=some r->∃n,aJ ps.length N.length (fb n) ds M=some r)
  (hbody:∀(n:Nat) (f:Addr) (cdv:Value) (A:Around) (outer:List Env) (s:Shared) (H:Hp) (E:XK),Room k (A.deeper (envOfC x (defScope st) s.heap.objs.size f cdv))->
    DSs (bO P w K mg base N x (defScope st) f cdv A outer s H E) E (defBody st) (fb n)):DefD P w K mg base (k+1) x ps F:=⟨by
 refine D.okE S hb (fun vs H Q E h=>?_) fun f cdv A outer s H vs Q E hr h=>?_
 ·obtain⟨ρ,M,ds,c,j,r,e,p⟩:=h
  obtain⟨n,e2⟩:=hf ds M r e
  rw[c.len];exact (bA.aJ ⟨r,e2,p⟩).1
 obtain⟨ρ,M,ds,c,j,r,e,p⟩:=h
 obtain⟨n,e2⟩:=hf ds M r e
 exact⟨_,(hbody n f cdv A outer s H E hr).h,ρ,_,M,gD c,j,(bA.aJ ⟨r,e2,p⟩).2⟩⟩
end
mutual
inductive Fz(M:Mo)(k:Nat):D->D->Prop
 |non:Fz M k .non .non
 |bl (b:Bool):Fz M k (.bl b) (.bl b)
 |int (i:Int):Fz M k (.int i) (.int i)
 |str (x:Str):Fz M k (.str x) (.str x)
 |tup {l l':List D}:Fzs M k l l'->Fz M k (.tup l) (.tup l')
 |lst {l l':List D}:Fzs M k l l'->Fz M k (.lst l) (.lst l')
 |dic {ks:List Key}{l l':List D}:Fzs M k l l'->Fz M k (.dic ks l) (.dic ks l')
 |obj {c:Str}{ns:List Str}{l l':List D}:Fzs M k l l'->Fz M k (.obj c ns l) (.obj c ns l')
 |scr (ns:List Int):Fz M k (.scr ns) (.scr ns)
 |old {n:Nat}:n<k->Fz M k (.ref n) (.ref n)
 |new {n:Nat}{l l':List D}:k≤n->M[n]?=some (.lst l)->Fzs M k l l'->Fz M k (.ref n) (.lst l')
 |cls (c:Str):Fz M k (.cls c) (.cls c)
 |ty (c:String):Fz M k (.ty c) (.ty c)
 |exn (a:Addr):Fz M k (.exn a) (.exn a)
inductive Fzs(M:Mo)(k:Nat):List D->List D->Prop
 |nil:Fzs M k [] []
 |cons {d d':D}{l l':List D}:Fz M k d d'->Fzs M k l l'->Fzs M k (d::l) (d'::l')
end
def PB(M:Mo)(k:Nat):DO->DO->Prop
 |.lst l,.lst l'=>Fzs M k l l'
 |.dic ks l,.dic ks' l'=>ks=ks'∧Fzs M k l l'
 |.ins c ns l,.ins c' ns' l'=>c=c'∧ns=ns'∧Fzs M k l l'
 |.pdc ks l,.pdc ks' l'=>ks=ks'∧Fzs M k l l'
 |_,_=>False
theorem zx{M:Mo}{k:Nat}:∀l:List Int,Fzs M k (l.map D.int) (l.map D.int)
 |[]=>.nil
 |i::l=>.cons (.int i) (zx l)
theorem Hj{M:Mo}{k:Nat}:∀ks:List NT,Fzs M k (ks.map K9) (ks.map K9)
 |[]=>.nil
 |p::l=>.cons (.tup (.cons (.int _) (.cons (.tup (zx _)) .nil))) (Hj l)
def Jw(M':Mo)(k:Nat)(M1:Mo):Prop:=M1.length=k∧∀(n:Nat) o,M1[n]?=some o->∃o',M'[n]?=some o'∧PB M' k o' o
section
variable{mg:Str->Option Value}{ρ ρ':Rh}{H:Hp}{M:Mo}{k:Nat}
structure Sub(ρ ρ':Rh)(k:Nat):Prop where
 st:∃τ,ρ'.st=ρ.st++τ
 vo:ρ'.vo=ρ.vo
 len:ρ.st.length=k
theorem Sub.out(s:Sub ρ ρ' k){a:Addr}(h:a∉ρ'):a∉ρ:=fun z=>by
 obtain⟨τ,e⟩:=s.st
 rcases z with z | z
 ·exact h (.inl (by rw[e];exact List.mem_append_left _ z))
 ·exact h (.inr (by rw[s.vo];exact z))
def Py(mg:Str->Option Value)(ρ:Rh)(H:Hp)(v:V)(d:D):Prop:=D.casesOn (motive_1:=fun _=>Prop) d (v=.non) (fun b=>v=.bl b) (fun i=>v=.int i) (fun x=>v=.str x) (fun ds=>∃a xs,v=.ref a∧a∉ρ∧H a=some (.tup xs)∧Cvs mg ρ H xs ds) (fun ds=>∃a xs,v=.ref a∧a∉ρ∧H a=some (.lst xs)∧Cvs mg ρ H xs ds)
 (fun ks ds=>∃a xs,v=.ref a∧a∉ρ∧H a=some (.dK (ks.zip xs))∧ks.length=xs.length∧Cvs mg ρ H xs ds) (fun c ns ds=>∃a C dx xs,v=.ref a∧a∉ρ∧mg c=some (.ref C)∧H a=some (.ins C dx (ns.zip xs))∧ns.length=xs.length∧Cvs mg ρ H xs ds)
 (fun ns=>∃a,v=.ref a∧a∉ρ∧Rd H a (.lst (ns.map V.int))) (fun n=>∃a,v=.ref a∧ρ.st[n]?=some a) (fun c=>∃C,v=.ref C∧mg c=some (.ref C)) (fun t=>v=.ty t) (fun a=>v=.ref a)
theorem Cv.inv{v:V}{d:D}(h:Cv mg ρ H v d):Py mg ρ H v d:=by
 cases h
 case non=>exact rfl
 case bl=>exact rfl
 case int=>exact rfl
 case str=>exact rfl
 case tup n h c=>exact⟨_,_,rfl,n,h,c⟩
 case lst n h c=>exact⟨_,_,rfl,n,h,c⟩
 case dic n h l c=>exact⟨_,_,rfl,n,h,l,c⟩
 case obj n m h l c=>exact⟨_,_,_,_,rfl,n,m,h,l,c⟩
 case scr n h=>exact⟨_,rfl,n,h⟩
 case ref h=>exact⟨_,rfl,h⟩
 case cls h=>exact⟨_,rfl,h⟩
 case ty=>exact rfl
 case exn=>exact rfl
theorem Cvs.inv{v:V}{d:D}{vs:List V}{l:List D}(h:Cvs mg ρ H vs (d::l)):∃v vs',vs=v::vs'∧Cv mg ρ H v d∧Cvs mg ρ H vs' l:=by cases h with | cons a b=>exact⟨_,_,rfl,a,b⟩
theorem Cvs.inv0{vs:List V}(h:Cvs mg ρ H vs []):vs=[]:=by cases h;rfl
theorem Cvs.freeze (s:Sub ρ ρ' k) (j:J mg ρ' M H) {d d':List D}{v:List V} (f:Fzs M k d d'):Cvs mg ρ' H v d->Cvs mg ρ H v d':=
 Fzs.rec (motive_1:=fun d d' _=>∀ v,Cv mg ρ' H v d->Cv mg ρ H v d') (motive_2:=fun d d' _=>∀ v,Cvs mg ρ' H v d->Cvs mg ρ H v d')
  (fun _ c=>Eq.symm (a:=_) (Cv.inv c) ▸ .non) (fun b _ c=>Eq.symm (a:=_) (Cv.inv c) ▸ .bl b) (fun b _ c=>Eq.symm (a:=_) (Cv.inv c) ▸ .int b) (fun b _ c=>Eq.symm (a:=_) (Cv.inv c) ▸ .str b)
  (fun _ f v c=>let ⟨_,_,e,n,h,c⟩:=Cv.inv c;e ▸ .tup (s.out n) h (f _ c))
  (fun _ f v c=>let ⟨_,_,e,n,h,c⟩:=Cv.inv c;e ▸ .lst (s.out n) h (f _ c))
  (fun _ f v c=>let ⟨_,_,e,n,h,l,c⟩:=Cv.inv c;e ▸ .dic (s.out n) h l (f _ c))
  (fun _ f v c=>let ⟨_,_,_,_,e,n,m,h,l,c⟩:=Cv.inv c;e ▸ .obj (s.out n) m h l (f _ c))
  (fun _ v c=>let ⟨_,e,n,h⟩:=Cv.inv c;e ▸ .scr (s.out n) h)
  (fun hn v c=>by
    obtain⟨a,rfl,h⟩:=Cv.inv c
    obtain⟨τ,e⟩:=s.st
    rw[e,List.getElem?_append_left (by rw[s.len];exact hn)] at h
    exact .ref h)
  (fun hn hm _ f v c=>by
    obtain⟨a,rfl,h⟩:=Cv.inv c
    obtain⟨xs,hx,c⟩:=j.obj _ _ _ h hm
    refine .lst (fun z=>?_) hx (f _ c)
    rcases z with z | z
    ·obtain⟨m,hm'⟩:=List.mem_iff_getElem?.mp z
     obtain⟨τ,e⟩:=s.st
     have hl:=(List.getElem?_eq_some_iff.mp hm').1
     have h2:ρ'.st[m]?=some a:=by rw[e,List.getElem?_append_left hl];exact hm'
     exact Nat.not_lt.mpr hn (j.inj h h2 ▸ s.len ▸ hl)
    ·exact (j.vol a (by rw[s.vo];exact z)).1 (List.mem_of_getElem? h))
  (fun _ v c=>let ⟨_,e,h⟩:=Cv.inv c;e ▸ .cls h) (fun b _ c=>Eq.symm (a:=_) (Cv.inv c) ▸ .ty b) (fun b _ c=>Eq.symm (a:=_) (Cv.inv c) ▸ .exn b)
  (fun v c=>Cvs.inv0 c ▸ .nil) (fun _ _ f g v c=>let ⟨_,_,e,a,b⟩:=Cvs.inv (v:=.non) c;e ▸ .cons (f _ a) (g _ b)) f v
theorem Cv.freeze(s:Sub ρ ρ' k)(j:J mg ρ' M H){d d':D}{v:V}(f:Fz M k d d')(c:Cv mg ρ' H v d):Cv mg ρ H v d':=(Cvs.freeze s j (.cons f .nil) (.cons c .nil)).hd
theorem J.freeze {M1:Mo} (s:Sub ρ ρ' k) (j:J mg ρ' M H) (hk:ρ.st.length=M1.length) (f:Jw M k M1):J mg ρ M1 H:=by
 obtain⟨τ,e⟩:=s.st
 refine⟨hk,?_,fun n a o h1 h2=>?_,fun a ha=>?_⟩
 ·have:=j.nd
  rw[e] at this
  exact (List.nodup_append.mp this).1
 ·obtain ⟨o',h3,fo⟩:=f.2 n o h2
  have hl:=(List.getElem?_eq_some_iff.mp h1).1
  have c:=j.obj n a o' (by rw[e,List.getElem?_append_left hl];exact h1) h3
  cases o' with
  |lst l=>cases o with
    |lst l'=>obtain⟨xs,hx,c⟩:=c;exact⟨xs,hx,Cvs.freeze s j fo c⟩
    |dic _ _=>exact (show False from fo).elim
    |ins _ _ _=>exact (show False from fo).elim
    |pdc _ _=>exact (show False from fo).elim
  |dic ks l=>cases o with
    |lst l'=>exact (show False from fo).elim
    |dic ks' l'=>obtain⟨xs,hx,q,c⟩:=c;obtain⟨rfl,fo⟩:=fo;exact⟨xs,hx,q,Cvs.freeze s j fo c⟩
    |ins _ _ _=>exact (show False from fo).elim
    |pdc _ _=>exact (show False from fo).elim
  |ins c' ns l=>cases o with
    |lst l'=>exact (show False from fo).elim
    |dic _ _=>exact (show False from fo).elim
    |ins c'' ns' l'=>obtain⟨C,dx,xs,m,hx,q,c⟩:=c;obtain⟨rfl,rfl,fo⟩:=fo;exact⟨C,dx,xs,m,hx,q,Cvs.freeze s j fo c⟩
    |pdc _ _=>exact (show False from fo).elim
  |pdc ks l=>cases o with
    |lst l'=>exact (show False from fo).elim
    |dic _ _=>exact (show False from fo).elim
    |ins _ _ _=>exact (show False from fo).elim
    |pdc ks' l'=>obtain⟨xs,hx,q,n,c,d⟩:=c;obtain⟨rfl,fo⟩:=fo;exact⟨xs,hx,q,n,Cvs.freeze s j (Hj ks) c,Cvs.freeze s j fo d⟩
 ·obtain⟨x,xs,h⟩:=j.vol a (by rw[s.vo];exact ha)
  exact⟨fun z=>x (by rw[e];exact List.mem_append_left _ z),xs,h⟩
end
section
variable{X:Cx}{E:XK}{j k:Nat}{ps:List Str}{F:List D->DM D}{x:Str}{p pos:Pos}{e:Expr}{es:List Expr}{fs:ao->DM (List D)}
theorem aD(D:DefD X.prog X.w X.K X.mg X.base j x ps F)(hr:Room k X.A)(hx:Passes (cj X.prog X.w) X E)(ha:DA X E (e::es) fs)(hjk:j≤k:=by decide)(hg:Gl X x:=by rfl)(hdb:(x==("__debug__":Str))=false:=by decide)
  (he:notStar e=true:=by rfl) (hpl:(backTo pos (starEach es X.env)).any (·.1)=false:=by rfl) :
  DE X E (.Call (.Name x p) (e::es) [] pos) (fun δ=>fs δ>>=F):=⟨PE.mono (vI D.h hr hx ha.h hjk hg hdb he hpl) fun σ H Q h=>by
 obtain⟨ρ,δ,M,ev,j,g1⟩:=h
 refine⟨ρ,δ,M,ev,j,g1.bind fun ρ1 H1 M1 xs dxs e1 j1 c1 g2=>?_⟩
 rw[List.append_nil]
 exact⟨ρ1,M1,dxs,c1,j1,g2⟩⟩
def rC(mg:Str->Option Value)(E:XK)(g:List D->DM D):List V->Hp->VK->Prop:=fun vs H Q=>∃ρ M ds,J mg ρ M H∧Cvs mg ρ H vs ds∧Go mg E (Cv mg) Q ρ H (g ds) M
def CallD(X:Cx)(E:XK)(f:Value)(g:List D->DM D):Prop:=CallR X f (rC X.mg E g)
theorem aG{id:String}{g:List D->DM D}(hc:CallD X E (.builtin id) g)(hm:X.mg x=none)(ha:DA X E (e::es) fs)(hg:Gl X x:=by rfl)(hv:bootBuiltins x=some (.builtin id):=by decide +kernel)(hn:x≠"__name__":=by decide)(hdb:(x==("__debug__":Str))=false:=by decide)
  (he:notStar e=true:=by rfl) (hpl:(backTo pos (starEach es X.env)).any (·.1)=false:=by rfl) :
  DE X E (.Call (.Name x p) (e::es) [] pos) (fun δ=>fs δ>>=g):=⟨PE.mono (Nj hc hm ha.h hg hv hn hdb he hpl) fun σ H Q h=>by
 obtain⟨ρ,δ,M,ev,j,g1⟩:=h
 exact⟨ρ,δ,M,ev,j,g1.bind fun ρ1 H1 M1 xs dxs e1 j1 c1 g2=>⟨ρ1,M1,dxs,j1,c1,g2⟩⟩⟩
theorem dj{T:String}{g:List D->DM D}(hc:CallD X E (.type T) g)(hm:X.mg x=none)(ha:DA X E (e::es) fs)(hg:Gl X x:=by rfl)(hv:bootBuiltins x=some (.type T):=by decide +kernel)(hn:x≠"__name__":=by decide)(hdb:(x==("__debug__":Str))=false:=by decide)
  (he:notStar e=true:=by rfl) (hpl:(backTo pos (starEach es X.env)).any (·.1)=false:=by rfl) :
  DE X E (.Call (.Name x p) (e::es) [] pos) (fun δ=>fs δ>>=g):=⟨PE.mono (Nm hc hm ha.h hg hv hn hdb he hpl) fun σ H Q h=>by
 obtain⟨ρ,δ,M,ev,j,g1⟩:=h
 exact⟨ρ,δ,M,ev,j,g1.bind fun ρ1 H1 M1 xs dxs e1 j1 c1 g2=>⟨ρ1,M1,dxs,j1,c1,g2⟩⟩⟩
theorem CallD.of{f:Value}{r:List V->Hp->VK->Prop}{g:List D->Mo->Option D}(hr:CallR X f r)
  (h:∀vs H Q ρ M ds d,J X.mg ρ M H->Cvs X.mg ρ H vs ds->g ds M=some d->(∀ρ' H' v,Ext ρ H ρ' H'->J X.mg ρ' M H'->Cv X.mg ρ' H' v d->Q v H')->r vs H Q):CallD X E f (fun l=>rd (g l)):=by
 intro pins s σ H vs us Q I rs q
 obtain⟨ρ,M,ds,j,c,go⟩:=q
 obtain⟨d,e,p⟩:=go.rd
 exact hr pins s σ H vs us Q I rs (h vs H Q ρ M ds d j c e p)
end
section
variable{X:Cx}{E:XK}{mg:Str->Option Value}{ρ:Rh}{H:Hp}{M:Mo}
theorem Cvs.one(c:Cvs mg ρ H vs [d]):∃v,vs=[v]∧Cv mg ρ H v d:=by
 cases c with
 |cons c c2=>cases c2;exact⟨_,rfl,c⟩
theorem Cvs.two (c:Cvs mg ρ H vs [d,e]):∃ v w,vs=[v,w]∧Cv mg ρ H v d∧Cv mg ρ H w e:=by
 cases c with
 |cons c c2=>
   obtain⟨w,rfl,k⟩:=c2.one
   exact⟨_,_,rfl,c,k⟩
def cz:List D->Mo->Option D
 |[.tup l],_=>some (.int l.length)
 |[.scr l],_=>some (.int l.length)
 |[.str x],_=>if x.length≤sizeLine then some (.int x.length) else none
 |[d],M=>(aO d M).map fun l=>.int l.length
 |_,_=>none
theorem call_lenD:CallD X E (.builtin "len") (fun l=>rd (cz l)):=CallD.of (call_len_seq.or call_len_str) fun vs H Q ρ M ds d j c e q=>by
 unfold cz at e
 split at e
 ·cases e
  obtain⟨v,rfl,k⟩:=c.one
  replace c:=k
  cases c with | tup n a c=>
  exact .inl ⟨_,_,rfl,.inr (SqT.of a),by rw[c.len];exact q ρ H _ .refl j (.int _)⟩
 ·cases e
  obtain⟨v,rfl,k⟩:=c.one
  replace c:=k
  cases c with | scr n a=>
  exact .inl ⟨_,_,rfl,.inl (.inl a),by rw[List.length_map];exact q ρ H _ .refl j (.int _)⟩
 ·split at e
  ·cases e
   obtain⟨v,rfl,k⟩:=c.one
   replace c:=k
   cases c
   exact .inr ⟨_,rfl,‹_›,q ρ H _ .refl j (.int _)⟩
  ·cases e
 ·obtain⟨l,h1,rfl⟩:=Option.map_eq_some_iff.mp e
  obtain⟨v,rfl,k⟩:=c.one
  replace c:=k
  obtain⟨a,xs,rfl,ha,c⟩:=cA j c h1
  exact .inl ⟨_,_,rfl,.inl (SqL.of ha),by rw[c.len];exact q ρ H _ .refl j (.int _)⟩
 ·cases e
def Ov:List D->Mo->Option D
 |[.int i],_=>some (.int (if i<0 then -i else i))
 |_,_=>none
def Az:List D->Mo->Option D
 |[.int i,.int j],_=>some (.int (if j > i then j else i))
 |_,_=>none
def wj:List D->Mo->Option D
 |[.int i,.int j],_=>some (.int (if j<i then j else i))
 |_,_=>none
theorem Ah(hc:X.calm=true):CallD X E (.builtin "max") (fun l=>rd (Az l)):=CallD.of (call_max2 hc) fun vs H Q ρ M ds d j c e q=>by
 unfold Az at e
 split at e
 ·cases e
  obtain⟨v,w,rfl,k,c2⟩:=c.two
  replace c:=k
  cases c;cases c2
  exact⟨_,_,rfl,q ρ H _ .refl j (.int _)⟩
 ·cases e
theorem m6(hc:X.calm=true):CallD X E (.builtin "min") (fun l=>rd (wj l)):=CallD.of (call_min2 hc) fun vs H Q ρ M ds d j c e q=>by
 unfold wj at e
 split at e
 ·cases e
  obtain⟨v,w,rfl,k,c2⟩:=c.two
  replace c:=k
  cases c;cases c2
  exact⟨_,_,rfl,q ρ H _ .refl j (.int _)⟩
 ·cases e
def jf:D->Mo->Option (List D)
 |.tup l,_=>some l
 |d,M=>aO d M
theorem yJ(j:J mg ρ M H)(c:Cv mg ρ H x d)(e:jf d M=some l):∃a xs,x=.ref a∧(H a=some (.lst xs)∨H a=some (.tup xs))∧Cvs mg ρ H xs l:=by
 unfold jf at e
 split at e
 ·cases e
  cases c with | tup n a c=>exact⟨_,_,rfl,.inr a,c⟩
 ·obtain⟨a,xs,rfl,ha,c⟩:=cA j c e
  exact⟨a,xs,rfl,.inl ha,c⟩
def intsOf:List D->Option (List Int)
 |[]=>some []
 |.int i::l=>(intsOf l).map (i::·)
 |_=>none
theorem ints_of:∀ {xs:List V}{l:List D}{ns:List Int},Cvs mg ρ H xs l->intsOf l=some ns->xs=ns.map V.int
 |_,_,_,.nil,e=>by cases e;rfl
 | _,_,_,.cons (d:=d) c cs,e=>by
   cases d with
   |int i=>
     obtain⟨ms,h1,rfl⟩:=Option.map_eq_some_iff.mp e
     cases c
     rw[ints_of cs h1];rfl
   |_=>cases e
theorem Cd (hh:X.A.handled=none):CallR X (.builtin "sum") (fun vs H Q=>∃ (l:Addr) (ns:List Int),vs=[.ref l]∧(H l=some (.lst (ns.map V.int))∨H l=some (.tup (ns.map V.int)))∧Q (.int ns.sum) H):=by
 intro pins s σ H vs us Q I r h
 obtain⟨l,ns,rfl,hH,q⟩:=h
 obtain⟨u,rfl,ru⟩:=vals1 r
 cases ru
 have fin:∀(its:List Value),IntsAre its ns->∃xs,its.toArray=intItems xs∧preSum (numAt xs) xs.size=ns.sum:=fun its hi=>by
  obtain⟨xs,hx⟩:=hi.allInts.items
  have hn:numsOf its.toArray.toList=ns:=by rw[show its.toArray.toList=its from rfl,hi.numsOf]
  rw[hx] at hn
  rw[PySem.nums_intItems] at hn
  exact⟨xs,hx,by rw[PySem.preSum_eq,List.take_of_length_le (by simp),hn]⟩
 rcases hH with hH | hH
 ·obtain ⟨its,rv,p,hz⟩:=I.list (SqL.of (K:=X.K) hH)
  obtain⟨xs,hx,hs⟩:=fin its (intsAre_of rv)
  have hl:=p.isList
  rw[hx] at hl
  obtain⟨o,ho,hc,n,hd⟩:=id hl
  have hne:l≠s.heap.objs.size:=Nat.ne_of_lt (Heap.lt_size ho)
  have hsz:(intItems xs).size=xs.size:=by simp[intItems]
  have W:=(Walks.list (prog:=X.prog) (w:=X.w) (A:=X.A.in1) hh s.heap.objs.size l hne (intItems xs)).toS
  rw[hsz] at W
  refine call_sum_walkAnyS (wpAny_pyIter_list hl ?_)
  refine⟨s.heap.objs.size,_,_,_,_,_,_,numAt xs,rfl,W,⟨⟨_,Heap.get?_push_size _ rfl,rfl,rfl⟩,hl.at fun o e=>Heap.get?_push_of_some _ e⟩,fun b hb=>?_,fun i v hP=>intItems_at hP,fun s' t' hm=>?_⟩
  ·rcases List.mem_cons.mp hb with rfl | hb
   ·exact Heap.lt_size (Heap.get?_push_size _ rfl)
   ·obtain rfl:=List.mem_singleton.mp hb
    exact Heap.lt_size (Heap.get?_push_of_some _ ho)
  ·obtain⟨h',g',d',tk',os'⟩:=s'
   have e1:g'=s.gens:=hm.gens
   have e2:d'=s.drawn:=hm.drawn
   have e3:os'=s.os:=hm.os
   subst e1 e2 e3
   refine⟨.int ns.sum,H,I.kept (h':=h') (t':=tk') fun b o e=>hm.heap b o (fun hb=>absurd (Heap.lt_size e) ((List.mem_singleton.mp hb) ▸ Nat.lt_irrefl _)) (Heap.get?_push_of_some _ e),⟨t',?_⟩,q⟩
   rw[←hs]
 ·obtain⟨its,rv,p,hz⟩:=I.tuple (SqT.of (K:=X.K) hH)
  obtain⟨xs,hx,hs⟩:=fin its (intsAre_of rv)
  rw[hx] at p
  exact PySem.W.ktm_sumG hh (show s.heap.IsTuple l _ from p) fun h' tk t' hk=>⟨.int ns.sum,H,I.kept hk,⟨t',by rw[←hs]⟩,q⟩
def lQ:List D->Mo->Option D
 |[d],M=>(jf d M).bind fun l=>(intsOf l).map fun ns=>.int ns.sum
 |_,_=>none
theorem cZ(hh:X.A.handled=none):CallD X E (.builtin "sum") (fun l=>rd (lQ l)):=CallD.of (Cd hh) fun vs H Q ρ M ds d j c e q=>by
 unfold lQ at e
 split at e
 ·obtain⟨l,h1,e1⟩:=Option.bind_eq_some_iff.mp e
  obtain⟨ns,h2,rfl⟩:=Option.map_eq_some_iff.mp e1
  obtain⟨v,rfl,k⟩:=c.one
  replace c:=k
  obtain⟨a,xs,rfl,ha,c⟩:=yJ j c h1
  have:=ints_of c h2
  subst this
  exact⟨_,ns,rfl,ha,q ρ H _ .refl j (.int _)⟩
 ·cases e
def GQ:D->Option Bool
 |.bl b=>some b
 |.int i=>some (i != 0)
 |_=>none
def gA:List D->Option (List Bool)
 |[]=>some []
 |d::l=>match GQ d,gA l with
   |some b,some bs=>some (b::bs)
   |_,_=>none
theorem zY:∀ {xs:List V}{l:List D}{bs:List Bool},Cvs mg ρ H xs l->gA l=some bs->(∀ x∈xs,scS x=true)∧xs.map oh=bs
 |_,_,_,.nil,e=>by cases e;exact⟨(fun x hx=>nomatch hx),rfl⟩
 | _,_,_,.cons (d:=d) (ds:=ds) (vs:=vs) c cs,e=>by
   unfold gA at e
   split at e
   ·rename_i b bs h1 h2
    cases e
    obtain⟨a1,a2⟩:=zY cs h2
    cases c with
    |bl b'=>cases h1;exact⟨fun x hx=>by rcases List.mem_cons.mp hx with rfl | hx;rfl;exact a1 x hx,by rw[List.map_cons,a2];rfl⟩
    |int b'=>cases h1;exact⟨fun x hx=>by rcases List.mem_cons.mp hx with rfl | hx;rfl;exact a1 x hx,by rw[List.map_cons,a2];rfl⟩
    |_=>cases h1
   ·cases e
def mZ:List D->Mo->Option D
 |[d],M=>(aO d M).bind fun l=>(gA l).map fun bs=>.bl (bs.all id)
 |_,_=>none
def JD:List D->Mo->Option D
 |[.tup l],_=>(gA l).map fun bs=>.bl (bs.any id)
 |_,_=>none
theorem ie(hh:X.A.handled=none):CallD X E (.builtin "all") (fun l=>rd (mZ l)):=CallD.of (Et hh) fun vs H Q ρ M ds d j c e q=>by
 unfold mZ at e
 split at e
 ·obtain⟨l,h1,e1⟩:=Option.bind_eq_some_iff.mp e
  obtain⟨ns,h2,rfl⟩:=Option.map_eq_some_iff.mp e1
  obtain⟨v,rfl,k⟩:=c.one
  replace c:=k
  obtain⟨a,xs,rfl,ha,c⟩:=cA j c h1
  obtain⟨t1,t2⟩:=zY c h2
  subst t2
  exact⟨_,xs,rfl,ha,t1,by have z:=q ρ H _ .refl j (.bl _);rw[List.all_map] at z;exact z⟩
 ·cases e
def um:List D->Mo->Option D
 |[d],M=>(jf d M).map .tup
 |_,_=>none
theorem bU:CallD X E (.type "tuple") (fun l=>rd (um l)):=CallD.of call_tuple_of fun vs H Q ρ M ds d j c e q=>by
 unfold um at e
 split at e
 ·obtain⟨l,h1,rfl⟩:=Option.map_eq_some_iff.mp e
  obtain⟨v,rfl,k⟩:=c.one
  replace c:=k
  unfold jf at h1
  split at h1
  ·cases h1
   cases c with | tup n a c=>
   exact⟨_,_,rfl,.inr ⟨SqT.of a,q ρ H _ .refl j (.tup n a c)⟩⟩
  ·obtain⟨a,xs,rfl,ha,c⟩:=cA j c h1
   exact⟨_,_,rfl,.inl ⟨SqL.of ha,fun p hp=>q ρ _ _ (.lay hp) (j.lay _ hp) (.tup (j.fresh hp) upd_same (c.mono (.lay hp)))⟩⟩
 ·cases e
def jb:List D->Mo->Option (List D)
 |[d],M=>jf d M
 |_,_=>none
theorem eG:CallD X E (.type "list") (fun l=>rd (fun M=>(jb l M).map .lst)):=CallD.of call_list_of fun vs H Q ρ M ds d j c e q=>by
 obtain⟨l,e1,rfl⟩:=Option.map_eq_some_iff.mp e
 unfold jb at e1
 split at e1
 ·obtain⟨v,rfl,k⟩:=c.one
  replace c:=k
  obtain⟨a,xs,rfl,ha,c⟩:=yJ j c e1
  exact⟨_,_,rfl,ha.imp SqL.of SqT.of,fun p hp=>q ρ _ _ (.lay hp) (j.lay _ hp) (.lst (j.fresh hp) upd_same (c.mono (.lay hp)))⟩
 ·cases e1
theorem sJ:CallD X E (.type "list") (fun l=>rd (jb l)>>=dM):=by
 intro pins s σ H vs us Q I rs q
 obtain⟨ρ,M,ds,j,c,go⟩:=q
 obtain⟨l,e1,g⟩:=Go.rdb go
 unfold jb at e1
 split at e1
 ·obtain⟨v,rfl,k⟩:=c.one
  replace c:=k
  obtain⟨a,xs,rfl,ha,c⟩:=yJ j c e1
  exact call_list_of (X:=X) pins s σ H _ us Q I rs ⟨_,_,rfl,ha.imp SqL.of SqT.of,fun p hp=>(g.dM j c hp).2⟩
 ·cases e1
def Bg(d:D):Option PyData:=match toPy d with
 |some p=>some p
 |none=>dq d
def wu:List D->Mo->Option D
 |[d],_=>(Bg d).bind fun p=>if p.showable&&decide (p.depth≤60)&&decide (cM p≤sizeLine) then some (.str p.shown) else none
 |_,_=>none
theorem iW (hg:X.A.guards=some []) (hu:X.A.units + 64<cLine):CallD X E (.builtin "repr") (fun l=>rd (wu l)):=CallD.of (Ai hg hu) fun vs H Q ρ M ds d j c e q=>by
 unfold wu at e
 split at e
 ·obtain ⟨p,h1,e1⟩:=Option.bind_eq_some_iff.mp e
  split at e1
  ·rename_i hk
   cases e1
   simp only[Bool.and_eq_true,decide_eq_true_eq] at hk
   obtain⟨v,rfl,k⟩:=c.one
   replace c:=k
   have key:∃f,RepF H f v p:=by
    unfold Bg at h1
    split at h1
    ·rename_i h2
     cases h1;exact⟨true,c.repF h2⟩
    ·exact⟨false,c.repD h1⟩
   obtain⟨f,rp⟩:=key
   exact⟨f,_,p,rfl,rp,hk.1.1,hk.1.2,hk.2,q ρ H _ .refl j (.str _)⟩
  ·cases e1
 ·cases e
def tyOf:D->Mo->Option String
 |.non,_=>some "NoneType"
 |.bl _,_=>some "bool"
 |.int _,_=>some "int"
 |.str _,_=>some "str"
 |.tup _,_=>some "tuple"
 |.lst _,_=>some "list"
 |.scr _,_=>some "list"
 |.dic _ _,_=>some "dict"
 |.ref n,M=>match M[n]? with
   |some (.lst _)=>some "list"
   |some (.dic _ _)=>some "dict"
   |_=>none
 |_,_=>none
theorem Og {K:PySem.W.Frag} (j:J mg ρ M H) {x:V}{d:D}{t:String} (c:Cv mg ρ H x d) (e:tyOf d M=some t):TyOf K H x (.type t):=by
 cases c with
 |non=>cases e;exact .non
 |bl b=>cases e;exact .bl b
 |int b=>cases e;exact .int b
 |str b=>cases e;exact .str b
 |tup n h c=>cases e;exact .tup h
 |lst n h c=>cases e;exact .lst h
 |dic n h l c=>cases e;exact .dK h
 |scr n h=>
   cases e
   rcases h with h | ⟨o,h⟩
   ·exact .lst h
   ·exact .frz h
 | ref q=>
   unfold tyOf at e
   dsimp only at e
   split at e
   ·rename_i l hl
    cases e
    obtain⟨xs,h,_⟩:=j.obj _ _ _ q hl
    exact .lst h
   ·rename_i ks l hl
    cases e
    obtain⟨xs,h,_⟩:=j.obj _ _ _ q hl
    exact .dK h
   ·cases e
 |_=>cases e
def Bt(t c:String):Bool:=t==c || (t=="bool"&&c=="int")
def tys:List String:=["NoneType", "bool", "int", "str", "tuple", "list", "dict"]
def f9:List D->Mo->Option D
 |[d,.ty c],M=>(tyOf d M).bind fun t=>if tys.contains c then some (.bl (Bt t c)) else none
 |_,_=>none
theorem GX(e:tyOf d M=some t):t∈tys:=by
 unfold tyOf at e
 split at e<;>first | (cases e;decide) | (split at e<;>first | (cases e;decide) | cases e) | cases e
theorem Kz{K:PySem.W.Frag}:∀t∈tys,∀c∈tys,PySem.W.kitOne K (.type t) (.type c)=some (Bt t c):=by
 intro t ht c hc
 simp only[tys,List.mem_cons,List.mem_nil_iff,or_false] at ht hc
 rcases ht with rfl | rfl | rfl | rfl | rfl | rfl | rfl<;>rcases hc with rfl | rfl | rfl | rfl | rfl | rfl | rfl<;>rfl
theorem bR:CallD X E (.builtin "isinstance") (fun l=>rd (f9 l)):=CallD.of Eu fun vs H Q ρ M ds d j c e q=>by
 unfold f9 at e
 split at e
 ·obtain⟨t,h1,e1⟩:=Option.bind_eq_some_iff.mp e
  split at e1
  ·rename_i hk
   cases e1
   obtain⟨v,w,rfl,k,c2⟩:=c.two
   replace c:=k
   cases c2
   exact⟨_,_,_,_,rfl,Og j c h1,Kz _ (GX h1) _ (List.contains_iff_mem.mp hk),q ρ H _ .refl j (.bl _)⟩
  ·cases e1
 ·cases e
def G6(X:Cx)(E:XK)(id:String)(g:D->List D->DM D):Prop:=MtR X id (fun x vs H Q=>∃ρ M d ds,J X.mg ρ M H∧Cv X.mg ρ H x d∧Cvs X.mg ρ H vs ds∧Go X.mg E (Cv X.mg) Q ρ H (g d ds) M)
def Er:D->List D->DM D
 |.ref n,[v]=>fun M=>match M[n]? with
   |some (.lst l)=>if l.length<sizeLine then some (.ok .non,M.set n (.lst (l++[v]))) else none
   |_=>none
 |_,_=>stuck
theorem p8:G6 X E "list.append" Er:=by
 intro pins s σ H x xs v us Q I rx rs q
 obtain⟨ρ,M,d,ds,j,cx,cs,r,e,p⟩:=q
 cases cx with
 | ref hn=>
   cases cs with
   |nil=>cases e
   | cons c cs=>cases cs with
     |cons _ _=>cases e
     | nil=>
       rename_i n a w dw
       have e:(match M[n]? with
        |some (.lst l)=>if l.length<sizeLine then some (R.ok .non,M.set n (.lst (l++[dw]))) else none
        |_=>none)=some r:=e
       split at e
       ·rename_i l hl
        split at e
        ·cases e
         obtain⟨xs,hx,cl⟩:=j.obj _ _ _ hn hl
         have x:Ext ρ H ρ (upd H a (.lst (xs++[w]))):=.upd (List.mem_of_getElem? hn)
         exact mt_append (X:=X) pins s σ H _ _ v us Q I rx rs ⟨_,_,_,rfl,rfl,hx,by rw[cl.len];assumption,p ρ _ .non x (j.upd hn ⟨_,upd_same,(cl.append (.cons c .nil)).mono x⟩) .non⟩
        ·cases e
       ·cases e
 |_=>cases e
theorem pW {name id:String}{g:D->List D->DM D}{o e:Expr}{es:List Expr}{fo:ao->DM D}{fs:ao->DM (List D)}{apos cpos:Pos} (pa:PlainAttrs "list") (slot:Slot "list" name id) (hty:typeOf (.builtin id)=pure (.type "method_descriptor")) (hm:G6 X E id g) (ho:DE X E o fo) (ha:DA X E (e::es) fs)
  (hbase:attributeBase o name X.env (eval o X.env)=eval o X.env:=by rfl)
  (hfew:((backTo cpos (starEach (e::es) X.env)).all (fun x=>!x.1)&&(backToKw cpos (keywordEach [] X.env)).all (fun x=>x.1.isSome)
   &&decide ((e::es).length+([]:List Keyword).length+(if ([]:List Keyword).isEmpty then 0 else 1)<30))=true:=by rfl)
  (hline:(apos.endLine==cpos.line)=true:=by rfl) (hs:notStar e=true:=by rfl) (hplain:(backTo cpos (starEach es X.env)).any (·.1)=false:=by rfl) :
  DE X E (.Call (.Attribute o name apos) (e::es) [] cpos) (fun δ=>fo δ>>=fun x=>rd (fun M=>aO x M)>>=fun _=>fs δ>>=fun xs=>g x xs):=⟨PE.mono (K5 pa slot hty hm ho.h ha.h hbase hfew hline hs hplain) fun σ H Q h=>by
 obtain⟨ρ,δ,M,ev,j,g1⟩:=h
 refine⟨ρ,δ,M,ev,j,g1.bind fun ρ1 H1 M1 x dx e1 j1 c1 g2=>?_⟩
 obtain⟨l,hl,g3⟩:=Go.rdb g2
 obtain⟨a,xs,rfl,hx,cl⟩:=cA j1 c1 hl
 exact⟨.inl ⟨rfl,_,SqL.of hx⟩,ρ1,δ,M1,ev.mono e1,j1,g3.bind fun ρ2 H2 M2 ys dys e2 j2 c2 g4=>⟨ρ2,M2,dx,dys,j2,c1.mono e2,c2,g4⟩⟩⟩
end
structure ExtB(acc:Addr)(ρ:Rh)(H:Hp)(ρ':Rh)(H':Hp):Prop where
 pre:∃τ,ρ'.st=ρ.st++τ
 vo:ρ'.vo=ρ.vo
 new:∀a,a∈ρ'.st->a∉ρ.st->H a=none
 keep:∀a o,H a=some o->a∉ρ.st->a≠acc->H' a=some o
 na:acc∉ρ'.st
section
variable{acc:Addr}{ρ ρ1 ρ2:Rh}{H H1 H2:Hp}
theorem ExtB.trans (e:ExtB acc ρ H ρ1 H1) (f:ExtB acc ρ1 H1 ρ2 H2):ExtB acc ρ H ρ2 H2:=by
 have out:∀a o,H a=some o->a∉ρ.st->a∉ρ1.st:=fun a o h n z=>by have:=e.new a z n;rw[h] at this;cases this
 refine⟨?_,f.vo.trans e.vo,fun a h n=>?_,fun a o h n na=>f.keep a o (e.keep a o h n na) (out a o h n) na,f.na⟩
 ·obtain⟨τ,h1⟩:=e.pre
  obtain⟨υ,h2⟩:=f.pre
  exact⟨τ++υ,by rw[h2,h1,List.append_assoc]⟩
 ·by_cases z:a∈ρ1.st
  ·exact e.new a z n
  ·cases q:H a with
   |none=>rfl
   |some o=>
     have:=f.new a h z
     rw[e.keep a o q n (fun y=>f.na (y ▸ h))] at this;cases this
theorem Ext.b(e:Ext ρ H ρ1 H1)(na:acc∉ρ1.st):ExtB acc ρ H ρ1 H1:=⟨e.pre,e.vo,e.new,fun a o h n _=>e.keep a o h n,na⟩
theorem ExtB.kp(e:ExtB acc ρ H ρ1 H1)(h:acc∈ρ.vo):Kp ρ H ρ1 H1:=⟨e.pre,fun a o q n _=>by
 have ne:a≠acc:=fun z=>n (z ▸ .inr h)
 have ns:a∉ρ.st:=fun z=>n (.inl z)
 refine⟨fun z=>?_,e.keep a o q ns ne⟩
 rcases z with z | z
 ·have:=e.new a z ns
  rw[q] at this;cases this
 ·rw[e.vo] at z;exact n (.inr z)⟩
theorem ExtB.refl(na:acc∉ρ.st):ExtB acc ρ H ρ H:=(Ext.refl).b na
theorem ExtB.grow(na:acc∉ρ.st):ExtB acc ρ H ρ (upd H acc (.lst ys)):=⟨⟨[],by simp⟩,rfl,fun a h n=>absurd h n,fun a o h _ ne=>by rw[upd_ne ne];exact h,na⟩
end
abbrev ZK:=Addr->Rh->Hp->HO->List D->Prop
structure CstG(Z:ZK)(X:Cx)(pins:List (Addr×Obj))(acc:Addr)(ρ0:Rh)(H0:Hp)(δ:ao)(l:List D)(M:Mo)(fp:List Addr)(s:Shared):Prop where
 ex:∃σ H ρ o,Inv X pins σ H s∧ExtB acc ρ0 H0 ρ H∧J X.mg ρ M H∧Ev X.mg ρ H σ δ∧H acc=some o∧Z acc ρ H o l∧∀b∈fp,H b=none
def ZK.Ok(Z:ZK):Prop:=∀a ρ H ρ' H' o l,Z a ρ H o l->Ext ρ H ρ' H'->Z a ρ' H' o l
def ZL(mg:Str->Option Value):ZK:=fun _ ρ H o l=>∃ys,o=.lst ys∧Cvs mg ρ H ys l
theorem ZL.ok:(ZL mg).Ok:=fun _ _ _ _ _ _ _ ⟨ys,e,c⟩ x=>⟨ys,e,c.mono x⟩
abbrev Oi(X:Cx):=CstG (ZL X.mg) X
def bh(fg:D->ao->DM ao)(ft:ao->DM Bool)(fb:ao->List D->DM (ao×List D)):List D->ao->List D->DM (ao×List D)
 |[],δ,l=>pure (δ,l)
 |d::ds,δ,l=>fg d δ>>=fun δ1=>ft δ1>>=fun b=>(if b then fb δ1 l else pure (δ1,l))>>=fun p=>bh fg ft fb ds p.1 p.2
def p7 (fg:D->ao->DM ao) (ft:ao->DM Bool) (fb:ao->List D->DM (ao×List D)) (n:Nat):Nat->Nat->ao->List D->DM (ao×List D)
 |0,_,_,_=>stuck
 |k+1,i,δ,l=>rd (Itn.next (.dyn n) i)>>=fun o=>match o with
   |none=>pure (δ,l)
   |some d=>fg d δ>>=fun δ1=>ft δ1>>=fun b=>(if b then fb δ1 l else pure (δ1,l))>>=fun p=>p7 fg ft fb n k (i+1) p.1 p.2
def cB(fg:D->ao->DM ao)(ft:ao->DM Bool)(fb:ao->List D->DM (ao×List D)):Itn->ao->List D->DM (ao×List D)
 |.fix ds,δ,l=>bh fg ft fb ds δ l
 |.dyn n,δ,l=>rd (fun M=>aO (.ref n) M)>>=fun m=>p7 fg ft fb n (m.length+1) 0 δ l
def aW(fe:ao->DM D)(δ:ao)(l:List D):DM (ao×List D):=fe δ>>=fun d=>if l.length<sizeLine then pure (δ,l++[d]) else stuck
def PP(X:Cx)(ifs:List Expr)(t:TT):Prop:=∀(pins:List (Addr×Obj)) (s:Shared) (σ:L2.St) (H:Hp) (Q:Bool->Hp->Prop),Inv X pins σ H s->t σ H Q->wpAny (model X.prog X.w) X.A (uU ifs X.env) (TP X pins σ Q) X.xe s
structure DTs(X:Cx)(E:XK)(ifs:List Expr)(f:ao->DM Bool):Prop where
 h:PP X ifs (tD X.mg E Bv f)
theorem cR:DTs X E [] (fun _=>pure true):=⟨fun pins s σ H Q I h=>by
 obtain⟨ρ,δ,M,ev,j,g⟩:=h
 exact wpAny_pure ⟨H,I,g.pure ρ H true .refl j rfl⟩⟩
theorem uw(hc:DT X E c f):DTs X E [c] f:=⟨fun pins s σ H Q I h=>wpAny_tests_one (hc.h pins s σ H Q I h)⟩
theorem DM.bind_ok{α β:Type}{m:DM α}{k:α->DM β}{M M':Mo}{b:β}(h:(m>>=k) M=some (.ok b,M')):∃a M1,m M=some (.ok a,M1)∧k a M1=some (.ok b,M'):=by
 have h:DM.bind m k M=some (.ok b,M'):=h
 unfold DM.bind at h
 split at h
 ·cases h
 ·cases h
 ·rename_i a M1 e
  exact⟨a,M1,e,h⟩
def vU(Z:ZK)(X:Cx)(acc:Addr)(W:(Shared->Prop)->Shared->Prop)(fb:ao->List D->DM (ao×List D))(ρ0:Rh)(H0:Hp):Prop:=
 ∀pins δ l M s δ' l' M',CstG Z X pins acc ρ0 H0 δ l M [] s->fb δ l M=some (.ok (δ',l'),M')->W (fun s'=>CstG Z X pins acc ρ0 H0 δ' l' M' [] s') s
def BodyOk(X:Cx)(acc:Addr)(W:(Shared->Prop)->Shared->Prop)(fb:ao->List D->DM (ao×List D)):Prop:=
 ∀ρ0 H0,acc∈ρ0.vo->vU (ZL X.mg) X acc W fb ρ0 H0
theorem CstG.unpin(c:CstG Z X (pins++pl) acc ρ0 H0 δ l M [] s)(h:∀b∈fp,∃o,(b,o)∈pl) :
  CstG Z X pins acc ρ0 H0 δ l M fp s∧∀p∈pl,s.heap.get? p.1=some p.2:=by
 obtain⟨σ,H,ρ,o,I,x,j,ev,ha,cl,_⟩:=c.ex
 refine⟨⟨σ,H,ρ,o,I.unpinned,x,j,ev,ha,cl,fun b hb=>?_⟩,fun p hp=>(I.pin p (List.mem_append_right _ (List.mem_append_right _ hp))).1⟩
 obtain⟨o',ho⟩:=h b hb
 exact (I.pin (b,o') (List.mem_append_right _ (List.mem_append_right _ ho))).2.1
def vg(fg:D->ao->DM ao)(ft:ao->DM Bool)(fb:ao->List D->DM (ao×List D))(δf:ao)(lf:List D)(Mf:Mo):Itn->Nat->Nat->ao->List D->Mo->Prop
 |.fix ds,n,i,δ,l,M=>n=ds.length-i∧bh fg ft fb (ds.drop i) δ l M=some (.ok (δf,lf),Mf)
 |.dyn a,n,i,δ,l,M=>p7 fg ft fb a n i δ l M=some (.ok (δf,lf),Mf)
theorem vg.step {fg:D->ao->DM ao}{ft:ao->DM Bool}{fb:ao->List D->DM (ao×List D)}{δf δ:ao}{lf l:List D}{Mf M:Mo}{it:Itn}{n i:Nat} (h:vg fg ft fb δf lf Mf it n i δ l M) :
  (it.next i M=some none∧δ=δf∧l=lf∧M=Mf)∨∃d δ1 M1 b M2 δ3 l3 M3 m,it.next i M=some (some d)∧fg d δ M=some (.ok δ1,M1)∧ft δ1 M1=some (.ok b,M2)∧(if b then fb δ1 l else pure (δ1,l)) M2=some (.ok (δ3,l3),M3)∧m<n∧vg fg ft fb δf lf Mf it m (i+1) δ3 l3 M3:=by
 cases it with
 | fix ds=>
   obtain⟨rfl,h⟩:=h
   cases hd:ds[i]? with
   |none=>
     rw[List.drop_eq_nil_of_le (List.getElem?_eq_none_iff.mp hd)] at h
     cases h
     exact .inl ⟨congrArg some hd,rfl,rfl,rfl⟩
   |some d=>
     obtain⟨hi',hd'⟩:=List.getElem?_eq_some_iff.mp hd
     have hl:ds.drop i=d::ds.drop (i+1):=by rw[←hd'];exact List.drop_eq_getElem_cons hi'
     rw[hl] at h
     obtain⟨δ1,M1,e1,h1⟩:=DM.bind_ok h
     obtain⟨b,M2,e2,h2⟩:=DM.bind_ok h1
     obtain⟨⟨δ3,l3⟩,M3,e3,h3⟩:=DM.bind_ok h2
     exact .inr ⟨d,δ1,M1,b,M2,δ3,l3,M3,ds.length-(i+1),congrArg some hd,e1,e2,e3,by lia,rfl,h3⟩
 | dyn a=>
   cases n with
   |zero=>cases h
   | succ n=>
     obtain⟨o,M0,e0,h⟩:=DM.bind_ok h
     obtain⟨o',q,z⟩:=Option.map_eq_some_iff.mp e0
     cases z
     cases o with
     |none=>cases h;exact .inl ⟨q,rfl,rfl,rfl⟩
     |some d=>
       obtain⟨δ1,M1,e1,h1⟩:=DM.bind_ok h
       obtain⟨b,M2,e2,h2⟩:=DM.bind_ok h1
       obtain⟨⟨δ3,l3⟩,M3,e3,h3⟩:=DM.bind_ok h2
       exact .inr ⟨d,δ1,M1,b,M2,δ3,l3,M3,n,q,e1,e2,e3,Nat.lt_succ_self _,h3⟩
theorem vg.start {fg:D->ao->DM ao}{ft:ao->DM Bool}{fb:ao->List D->DM (ao×List D)}{δf δ:ao}{lf l:List D}{Mf M:Mo}{it:Itn} (h:cB fg ft fb it δ l M=some (.ok (δf,lf),Mf)):∃ n,vg fg ft fb δf lf Mf it n 0 δ l M:=by
 cases it with
 |fix ds=>exact⟨_,rfl,h⟩
 |dyn a=>
   obtain⟨m,M0,e0,h⟩:=DM.bind_ok h
   obtain⟨m',q,z⟩:=Option.map_eq_some_iff.mp e0
   cases z
   exact⟨_,h⟩
theorem Df (hZ:Z.Ok) (hc:X.calm=true) (hxe:X.xe=fun _ _=>False) {depth:Nat}{bodyK:Sem Fin->Sem Fin}{W:(Shared->Prop)->Shared->Prop}
  (hturn:compTurn e depth (.ref it) (.ref acc) X.env=turnOf g bodyK (.compLoop e depth (.ref it) (.ref acc) X.env) (.ref it) X.env) (hW:jU X.prog X.w X.A bodyK W) (hmono:∀P P' s,(∀s,P s->P' s)->W P s->W P' s)
  {fg:D->ao->DM ao}{ft:ao->DM Bool}{fb:ao->List D->DM (ao×List D)} (hg:DG X E0 g.target fg) (ht:DTs X E0 g.ifs ft) {fp:List Addr}{tn:Nat->Heap->Prop} (T:Turn X.prog X.w X.K g.target Jt fp it tn) (iok:ItOk X.mg ρi Hi Jt itn) (hb:vU Z X acc W fb ρ0 H0) (kp0:∀ρ H,ExtB acc ρ0 H0 ρ H->Kp ρi Hi ρ H) {pins:List (Addr×Obj)}
  (fok:∀H',(∀b∈fp,H' b=none)->∀b∈fp,FpOk X pins H' b) {l:List D} (st:CstG Z X pins acc ρ0 H0 δ l M fp s) (htn:tn 0 s.heap) {lf:List D} (hrun:cB fg ft fb itn δ l M=some (.ok (δf,lf),Mf))
  {R:Result->Shared->Prop} (he:BV e) (hR:∀s',CstG Z X pins acc ρ0 H0 δf lf Mf fp s'->R (.ok .next) s') :
  codeAny (model X.prog X.w) X.A (.compLoop e depth (.ref it) (.ref acc) X.env) R s:=by
 obtain⟨n0,rem0⟩:=vg.start hrun
 refine Gh (fun n s=>∃i δ l M,vg fg ft fb δf lf Mf itn n i δ l M∧CstG Z X pins acc ρ0 H0 δ l M fp s∧tn i s.heap) hturn hW ?_ hmono n0 ⟨0,δ,l,M,rem0,st,htn⟩ he
 rintro n s ⟨i,δ,l,M,rem,st,htn⟩
 obtain⟨σ,H,ρ,o,I,x,j,ev,ha,cl,fr⟩:=st.ex
 have kp:=kp0 _ _ x
 rcases rem.step with ⟨hd,rfl,rfl,rfl⟩ | ⟨d,δ1,M1,b,M2,δ3,l3,M3,m,hd,e1,e2,e3,hm,rem3⟩
 ·refine wpAny_mono (T.done X rfl rfl rfl hc i pins s σ H _ I (fok H fr) htn (iok.stop i ρ H _ kp j hd)) (fun r s1 h1=>?_) fun _ _ z=>z
  obtain⟨rfl,I1⟩:=h1
  exact hR s1 ⟨σ,H,ρ,o,I1,x,j,ev,ha,cl,fr⟩
 ·obtain ⟨go,yl⟩:=iok.item i ρ H M d kp j hd
  refine wpAny_mono (T.item X rfl rfl rfl hc i pins s σ H (fun _ _=>False) I (fok H fr) htn go) (fun r s1 h1=>?_) fun _ _ z=>z
  obtain⟨u,rfl,h1⟩:=h1
  refine wpAny_mono h1 (fun _ s2 h2=>?_) fun _ _ z=>z
  obtain⟨xv,H5,I5,r5,y5,tn5,fr5⟩:=h2
  obtain⟨x5,j5,c5⟩:=yl xv H5 y5
  have I5':=I5.pinned (fok H5 fr5) (T.obj _ _ tn5)
  refine wpAny_mono (hg.h _ s2 σ H5 xv u (fun σ6 H6=>∃ρ6,Ext ρ H5 ρ6 H6∧J X.mg ρ6 M1 H6∧Ev X.mg ρ6 H6 σ6 δ1) I5' r5 ⟨ρ,δ,M,d,ev.mono x5,j5,c5,_,e1,fun ρ6 H6 σ6 a1 a2 a3=>⟨ρ6,a1,a2,a3⟩⟩) (fun _ s3 h3=>?_) fun _ _ z=>by rw[hxe] at z;exact z
  obtain⟨σ6,H6,I6,ρ6,x6,j6,ev6⟩:=h3
  refine wpAny_mono (ht.h _ s3 σ6 H6 (fun b' H7=>b'=b∧∃ρ7,Ext ρ6 H6 ρ7 H7∧J X.mg ρ7 M2 H7) I6 ⟨ρ6,δ1,M1,ev6,j6,_,e2,fun ρ7 H7 b' a1 a2 a3=>⟨a3,ρ7,a1,a2⟩⟩) (fun ok s4 h4=>?_) fun _ _ z=>by rw[hxe] at z;exact z
  obtain⟨H7,I7,rfl,ρ7,x7,j7⟩:=h4
  have nacc:acc∉ρ.st:=x.na
  have na6:acc∉ρ6.st:=fun z=>by
   have h5:=x5.keep acc _ ha nacc
   have:=x6.new acc z nacc
   rw[h5] at this;cases this
  have ha5:=x5.keep acc _ ha nacc
  have ha6:=x6.keep acc _ ha5 nacc
  have na7:acc∉ρ7.st:=fun z=>by
   have:=x7.new acc z na6
   rw[ha6] at this;cases this
  have ha7:=x7.keep acc _ ha6 na6
  have xb:ExtB acc ρ0 H0 ρ7 H7:=((x.trans (x5.b nacc)).trans (x6.b na6)).trans (x7.b na7)
  have ct:CstG Z X (pins++pinsAt fp s2.heap) acc ρ0 H0 δ1 l M2 [] s4:=⟨σ6,H7,ρ7,o,I7,xb,j7,ev6.mono x7,ha7,hZ _ _ _ _ _ _ _ (hZ _ _ _ _ _ _ _ (hZ _ _ _ _ _ _ _ cl x5) x6) x7,fun b hb=>nomatch hb⟩
  have fin:∀s5,CstG Z X (pins++pinsAt fp s2.heap) acc ρ0 H0 δ3 l3 M3 [] s5->∃m,m<n∧∃i δ l M,vg fg ft fb δf lf Mf itn m i δ l M∧CstG Z X pins acc ρ0 H0 δ l M fp s5∧tn i s5.heap:=fun s5 c5=>by
   obtain⟨c6,pp⟩:=c5.unpin (fp:=fp) fun b hb=>by
    obtain⟨o,eo,_⟩:=T.obj _ _ tn5 b hb
    exact⟨o,mem_pinsAt hb eo⟩
   exact⟨m,hm,i+1,δ3,l3,M3,rem3,c6,T.keep _ _ _ tn5 fun b hb o eo=>pp (b,o) (mem_pinsAt hb eo)⟩
  cases ok with
  |true=>exact iteT (hmono _ _ _ fin (hb _ δ1 l M2 s4 δ3 l3 M3 ct e3))
  |false=>
    cases e3
    exact iteF (fin s4 ct)
theorem uy{X:Cx}(hxe:X.xe=fun _ _=>False){elt:Expr}{fe:ao->DM D}{acc:Addr}(he:DE X E0 elt fe) :
  BodyOk X acc (fun P s=>wpAny (model X.prog X.w) X.A (eval elt X.env) (fun x s1=>wpAny (model X.prog X.w) X.A (call (.builtin "list.append") [.ref acc,x]) (fun _ s2=>P s2) (fun _ _=>False) s1) (fun _ _=>False) s) (aW fe):=by
 intro ρ0 H0 hacc pins δ l M s δ' l' M' ct e
 obtain⟨d,M1,e1,e2⟩:=DM.bind_ok e
 obtain⟨σ,H,ρ,o,I,x,j,ev,ha,⟨ys,rfl,cl⟩,_⟩:=ct.ex
 split at e2
 rotate_left
 ·cases e2
 rename_i hz
 cases e2
 refine wpAny_mono (he.h pins s σ H (fun v H1=>∃ρ1,Ext ρ H ρ1 H1∧J X.mg ρ1 M' H1∧Cv X.mg ρ1 H1 v d) I ⟨ρ,δ,M,ev,j,_,e1,fun ρ1 H1 v a1 a2 a3=>⟨ρ1,a1,a2,a3⟩⟩) (fun u s1 h1=>?_) fun _ _ z=>by rw[hxe] at z;exact z
 obtain⟨v,H1,I1,rv,ρ1,x1,j1,c1⟩:=h1
 have nacc:acc∉ρ.st:=x.na
 have ha1:=x1.keep acc _ ha nacc
 have na1:acc∉ρ1.st:=fun z=>by
  have:=x1.new acc z nacc
  rw[ha] at this;cases this
 have hv1:acc∈ρ1.vo:=by rw[x1.vo,x.vo];exact hacc
 refine wpAny_mono (mt_append (X:=X) pins s1 σ H1 (.ref acc) [v] (.ref acc) [u] (fun _ H'=>H'=upd H1 acc (.lst (ys++[v]))) I1 rfl (.cons rv .nil) ⟨_,ys,v,rfl,rfl,ha1,by rw[cl.len];exact hz,rfl⟩) (fun _ s2 h2=>?_) fun _ _ z=>by rw[hxe] at z;exact z
 obtain⟨_,H2,I2,_,rfl⟩:=h2
 exact⟨σ,_,ρ1,_,I2,(x.trans (x1.b na1)).trans (.grow na1),j1.grow hv1,(ev.mono x1).kp ((ExtB.grow na1).kp hv1),upd_same,⟨ys++[v],rfl,((cl.mono x1).append (.cons c1 .nil)).hold hv1⟩,fun b hb=>nomatch hb⟩
def cJ{α:Type}(m:DM α):DM α:=fun M=>match m M with
 |some (.ok a,M')=>some (.ok a,M')
 |_=>none
theorem tM(h:cJ m M=some r):∃a M',m M=some (.ok a,M')∧r=(.ok a,M'):=by
 unfold cJ at h
 split at h
 ·rename_i a M' e
  cases h
  exact⟨a,M',e,rfl⟩
 ·cases h
def cO(js:List Nat)(δ:ao):ao:=js.map fun j=>(δ[j]?).getD none
def aX(k:Nat)(js:List Nat)(δ:ao):ao:=List.replicate k none++cO js δ
theorem zr (ev:Ev mg ρ H σ δ) (k:Nat) (js:List Nat):Ev mg ρ H (List.replicate k none++pick js σ) (aX k js δ):=by
 unfold aX pick cO
 refine⟨by simp,fun i d q=>?_⟩
 by_cases hi:i<k
 ·rw[List.getElem?_append_left (by rw[List.length_replicate];exact hi),List.getElem?_replicate] at q
  split at q<;>cases q
 ·rw [List.getElem?_append_right (by rw [List.length_replicate];lia),List.length_replicate,List.getElem?_map] at q ⊢
  cases hj:js[i-k]? with
  |none=>rw[hj] at q;cases q
  | some j=>
    rw[hj] at q
    have q:(δ[j]?).getD none=some d:=Option.some.inj q
    have q':δ[j]?=some (some d):=by
     cases z:δ[j]? with
     |none=>rw[z] at q;cases q
     |some o=>rw[z] at q;exact congrArg some q
    obtain⟨v,h1,h2⟩:=ev.val j d q'
    exact⟨v,by show some ((σ[j]?).getD none)=_;rw[h1];rfl,h2⟩
theorem xM(hp:H p=none):Kp ρ H (ρ.hold p) (upd H p o):=⟨⟨[],by show ρ.st=_;simp⟩,fun a u h n _=>⟨Rh.nhold n (ne_of_none h hp),by rw[upd_ne (ne_of_none h hp)];exact h⟩⟩
inductive Out where
 |val | sto
def Out.run:Out->List D->DM D
 |.val,l=>pure (.lst l)
 |.sto,l=>fun M=>some (.ok (.ref M.length),M++[.lst l])
theorem Out.fin (o:Out) (hf:H2 acc=none) (hn:acc∉ρ1) (x:ExtB acc (ρ1.hold acc) (upd H2 acc (.lst [])) ρ4 H4) (j:J mg ρ4 M H4) (ha:H4 acc=some (.lst ys)) (c:Cvs mg ρ4 H4 ys l)
  (g:Go mg E (Cv mg) Q ρ1 H2 (o.run l) M):Q (.ref acc) H4:=by
 have hv:ρ4.vo=acc::ρ1.vo:=x.vo
 have na:acc∉ρ1.vo:=fun z=>hn (.inr z)
 have nw:∀a,a∈ρ4.st->a∉ρ1.st->H2 a=none:=fun a h n=>by
  have:=x.new a h n
  by_cases z:a=acc
  ·rw[z,upd_same] at this;cases this
  ·rw[upd_ne z] at this;exact this
 have kp:∀a o,H2 a=some o->a∉ρ1.st->H4 a=some o:=fun a o h n=>x.keep a o (by rw[upd_ne (ne_of_none h hf)];exact h) n (ne_of_none h hf)
 cases o with
 | val=>
   have e:Ext ρ1 H2 ⟨ρ4.st,ρ1.vo⟩ H4:=⟨x.pre,rfl,nw,kp⟩
   have jd:J mg ⟨ρ4.st,ρ1.vo⟩ M H4:=J.done (ρ:=ρ1) j hv
   have cd:Cvs mg ⟨ρ4.st,ρ1.vo⟩ H4 ys l:=Cvs.less (ρ:=ρ4) (ρ1:=⟨ρ4.st,ρ1.vo⟩) rfl (fun a h=>by rw[hv];exact .tail _ h) c
   exact Go.pure (a:=D.lst l) g ⟨ρ4.st,ρ1.vo⟩ H4 (.ref acc) e jd (.lst (fun z=>by
    rcases z with z | z
    ·exact x.na z
    ·exact na z) ha cd)
 | sto=>
   obtain⟨r,er,p⟩:=g
   cases er
   have k4:Kp ρ4 H4 ⟨ρ4.st++[acc],ρ1.vo⟩ H4:=⟨⟨[acc],rfl⟩,fun a o h n _=>⟨fun z=>by
    rcases z with z | z
    ·rcases List.mem_append.mp z with z | z
     ·exact n (.inl z)
     ·exact n (.inr (by rw[hv,List.mem_singleton.mp z];exact .head _))
    ·exact n (.inr (by rw[hv];exact .tail _ z)),h⟩⟩
   have e:Ext ρ1 H2 ⟨ρ4.st++[acc],ρ1.vo⟩ H4:=by
    refine⟨?_,rfl,fun a h n=>?_,kp⟩
    ·obtain⟨τ,h1⟩:=x.pre
     exact⟨τ++[acc],by show ρ4.st++[acc]=_;rw[h1,List.append_assoc];rfl⟩
    ·rcases List.mem_append.mp h with z | z
     ·exact nw a z n
     ·rw[List.mem_singleton.mp z];exact hf
   have jd:J mg ⟨ρ4.st++[acc],ρ1.vo⟩ (M++[.lst l]) H4:=by
    refine⟨by show (ρ4.st++[acc]).length=_;rw[List.length_append,List.length_append,j.len];rfl,?_,fun n a w h1 h2=>?_,fun a h=>?_⟩
    ·show (ρ4.st++[acc]).Nodup
     rw[List.nodup_append]
     exact⟨j.nd,by simp,fun x' hx y hy e=>by rw[List.mem_singleton.mp hy] at e;exact x.na (e ▸ hx)⟩
    ·have h1:(ρ4.st++[acc])[n]?=some a:=h1
     by_cases hl:n<ρ4.st.length
     ·rw[List.getElem?_append_left hl] at h1
      rw[List.getElem?_append_left (by rw[←j.len];exact hl)] at h2
      exact (j.obj n a w h1 h2).map rfl fun vs ds c=>c.kp k4
     ·have hl':n<(ρ4.st++[acc]).length:=(List.getElem?_eq_some_iff.mp h1).1
      rw[List.length_append] at hl'
      have e:n=ρ4.st.length:=by have:[acc].length=1:=rfl;lia
      subst e
      rw[List.getElem?_append_right (Nat.le_refl _)] at h1
      rw[j.len,List.getElem?_append_right (Nat.le_refl _)] at h2
      simp at h1 h2
      subst h1 h2
      exact⟨ys,ha,c.kp k4⟩
    ·have h:a∈ρ1.vo:=h
     obtain⟨y1,y2⟩:=j.vol a (by rw[hv];exact .tail _ h)
     refine⟨fun z=>?_,y2⟩
     rcases List.mem_append.mp z with z | z
     ·exact y1 z
     ·exact na (List.mem_singleton.mp z ▸ h)
   refine p _ H4 (.ref acc) e jd (.ref ?_)
   show (ρ4.st++[acc])[_]?=_
   rw[←j.len];simp
structure Beg(X:Cx)(Z:ZK)(ob:Obj)(o0:Addr->HO)(g:Rh->Addr->Rh)(mk:Sem Value):Prop where
 ok:Z.Ok
 nw:∀(A:Around) (E:Value->Shared->Prop) (s:Shared) (Q:Value->Shared->Prop),Q (.ref s.heap.objs.size) { s with heap:=s.heap.push ob }->wpAny (model X.prog X.w) A mk Q E s
 hob:∀(H:Hp) (h:Heap) (a:Addr),h.get? a=some ob->ObjOk X.prog X.w H h a (o0 a)
 fr:ob.isFreed=false
 j:∀{ρ M H a},H a=none->J X.mg ρ M H->J X.mg (g ρ a) M (upd H a (o0 a))
 ev:∀{ρ H a σ δ},H a=none->Ev X.mg ρ H σ δ->Ev X.mg (g ρ a) (upd H a (o0 a)) σ δ
 kp:∀{ρ H a ρ' H'},H a=none->ExtB a (g ρ a) (upd H a (o0 a)) ρ' H'->Kp ρ H ρ' H'
 st:∀ρ a,(g ρ a).st=ρ.st
 z:∀ρ H a,Z a ρ H (o0 a) []
section
variable{X:Cx}{E:XK}{Z:ZK}{ob:Obj}{o0:Addr->HO}{gr:Rh->Addr->Rh}{mk:Sem Value}{scope:Scope}{cl:List (Str×Addr)}{own:List Str}{js:List Nat}{fr:List Str}{e t0 i0:Expr}{f0:List Expr}{gs:List Comprehension}{pos:Pos}{fi:ao->DM Itn}{fg:D->ao->DM ao}{ft:ao->DM Bool}{fb:ao->List D->DM (ao×List D)}
  {bodyK:Cx->Addr->Sem Fin->Sem Fin}{W:Cx->Addr->(Shared->Prop)->Shared->Prop}{α:Type}{Rv:Rh->Hp->V->α->Prop}{Q:VK}{fin:List D->DM α}{use:Option (Value->Sem Unit)}{Qs:Value->Shared->Prop}{pins:List (Addr×Obj)}{σ:L2.St}{H:Hp}{s:Shared}{ρ:Rh}{δ:ao}{M:Mo}
theorem vq (B:Beg X Z ob o0 gr mk) (he:BV e) (hcl:clausesOf e=⟨t0,i0,f0,0⟩::gs) (hc:X.calm=true) (T:CompG X scope cl own js fr) (hi:DI X E t0 i0 fi)
  (hturn:∀(Y:Cx) it acc,compTurn e 0 (.ref it) (.ref acc) Y.env=turnOf ⟨t0,i0,f0,0⟩ (bodyK Y acc) (.compLoop e 0 (.ref it) (.ref acc) Y.env) (.ref it) Y.env)
  (hW:∀Y acc,jU Y.prog Y.w Y.A (bodyK Y acc) (W Y acc)) (hmono:∀Y acc P P' s,(∀s,P s->P' s)->W Y acc P s->W Y acc P' s)
  (hg:∀pins m fp C s₂ H₂,DG (X.aY pins scope (cellsFrom m scope.names cl) (own++fr) fp C s₂ H₂) E0 t0 fg) (ht:∀pins m fp C s₂ H₂,DTs (X.aY pins scope (cellsFrom m scope.names cl) (own++fr) fp C s₂ H₂) E0 f0 ft)
  (hb:∀pins m fp C s₂ H₂ acc ρ H0,vU Z (X.aY pins scope (cellsFrom m scope.names cl) (own++fr) fp C s₂ H₂) acc (W (X.aY pins scope (cellsFrom m scope.names cl) (own++fr) fp C s₂ H₂) acc) fb (gr ρ acc) H0)
  (hs:∀y,foldedSetIterable i0 X.env y=pure y) (I:Inv X pins σ H s) (ev:Ev X.mg ρ H σ δ) (j:J X.mg ρ M H) (g1:Go X.mg E Rv Q ρ H (fi δ>>=fun it=>cJ (cB fg ft fb it (aX own.length js δ) [])>>=fun p=>fin p.2) M)
  (hfin:∀s2 H2 fp C m acc ρ1 lf Mf s',Inv X pins σ H2 s2->(∀b∈fp,FpOk X pins H2 b)->s2.heap.objs.size≤acc->s2.heap.objs.size≤C->H2 acc=none->acc∉ρ1->(∃δf,CstG Z (X.aY pins scope (cellsFrom m scope.names cl) (own++fr) fp C s2 H2) [] acc (gr ρ1 acc) (upd H2 acc (o0 acc)) δf lf Mf fp s')->Go X.mg E Rv Q ρ1 H2 (fin lf) Mf->
    compPost (model X.prog X.w) X.A X.xe use Qs (.ref acc) C (.ok .next) s') :
  wpAny (model X.prog X.w) X.A (comprehension e scope X.env pos mk false (eval i0 X.env) use) Qs X.xe s:=by
 refine wpAny_comprehension_free (cl:=cl) (use:=use) hcl hs T.clos T.kind T.names ?_
 refine thn (hi.h pins s σ H (fun Jt H1=>∃ρ1 M1 it,Ext ρ H ρ1 H1∧J X.mg ρ1 M1 H1∧ItOk X.mg ρ1 H1 Jt it∧Go X.mg E Rv Q ρ1 H1 (cJ (cB fg ft fb it (aX own.length js δ) [])>>=fun p=>fin p.2) M1) I
  ⟨ρ,δ,M,ev,j,g1.bind fun ρ1 H1 M1 Jt it e1 j1 iok g2=>⟨ρ1,M1,it,e1,j1,iok,g2⟩⟩) fun v s1 h1=>thn h1 fun itv s2 h2=>?_
 obtain⟨it,fp,tn,Jt,H2,rfl,I2,Tn,st2,f2,ρ1,M1,itn,x1,j1,iok,g2⟩:=h2
 have hrun:∃δf lf Mf,cB fg ft fb itn (aX own.length js δ) [] M1=some (.ok (δf,lf),Mf)∧Go X.mg E Rv Q ρ1 H2 (fin lf) Mf:=by
  obtain⟨r,e,p⟩:=g2
  have e:DM.bind _ _ M1=some r:=e
  unfold DM.bind at e
  split at e
  ·cases e
  ·rename_i c M' em
   obtain⟨a,M'',_,z⟩:=tM em
   cases z
  ·rename_i a M' em
   obtain⟨a',M'',e1,z⟩:=tM em
   cases z
   exact⟨a.1,a.2,M',e1,r,e,p⟩
 obtain⟨δf,lf,Mf,hrun,g3⟩:=hrun
 refine B.nw _ _ _ _ (Dk ?_)
 have hlt:∀b∈fp,b<s2.heap.objs.size:=fun b hb=>by
  obtain⟨o,e,_⟩:=Tn.obj _ _ st2 b hb
  exact Heap.lt_size e
 dsimp only
 generalize hP:s2.heap.push ob=hp1
 have hCs:hp1.objs.size=s2.heap.objs.size+1:=by rw[←hP,Heap.size_push]
 have hCe:hp1.objs.size+1=(hp1.push { cls:=.type "dict",data:=.dict #[] }).objs.size:=by rw[Heap.size_push]
 have hC:s2.heap.objs.size≤hp1.objs.size:=by lia
 have hne:hp1.objs.size≠s2.heap.objs.size:=by lia
 have old1:∀b o,s2.heap.get? b=some o->hp1.get? b=some o:=fun b o e=>by rw[←hP];exact Heap.get?_push_of_some _ e
 have old:∀b o,s2.heap.get? b=some o->(pushCells (hp1.push { cls:=.type "dict",data:=.dict #[] }) scope.names).get? b=some o:=fun b o e=>pushCells_keeps _ _ _ _ (Heap.get?_push_of_some _ (old1 b o e))
 have new:=pushCells_keeps scope.names _ _ _ (Heap.get?_push_of_some { cls:=.type "dict",data:=.dict #[] } (show hp1.get? s2.heap.objs.size=some ob by rw[←hP];exact Heap.get?_push_size _ B.fr))
 have ns:(pushCells (hp1.push { cls:=.type "dict",data:=.dict #[] }) scope.names).Ns hp1.objs.size fun _=>none:=(Heap.Ns.new hp1 (.type "dict")).keeps (pushCells_keeps _ _)
 have hfree:H2 s2.heap.objs.size=none:=I2.hok.fresh (Nat.le_refl _)
 have IC:=Am (t':=s2.toks) T I2 f2 hlt old (Nat.le_refl _) hC hne hCe (Nat.le_trans hC (Nat.le_succ _)) (Nat.lt_succ_self _) (Nat.lt_succ_of_le hC) rfl (B.hob _ _ _ new) ns
 have OK:=IC.ok
 have fok:∀H',(∀b∈fp,H' b=none)->∀b∈fp,FpOk (X.aY pins scope (cellsFrom (hp1.objs.size+1) scope.names cl) (own++fr) fp hp1.objs.size s2 H2) [] H' b:=fun H' hn b hb=>by
  obtain⟨_,g2,g3,g4,g5,g6⟩:=f2 b hb
  refine⟨hn b hb,Nat.ne_of_lt (Nat.lt_of_lt_of_le (hlt b hb) hC),fun hm=>?_,.inl hb,(OK.exf b hb).2,fun p hp=>g6 p (by simpa using hp)⟩
  rcases List.mem_cons.mp (I2.stkSub _ hm) with z | z
  ·exact g2 z
  ·exact g3 z
 have fp1:∀b∈fp,upd H2 s2.heap.objs.size (o0 s2.heap.objs.size) b=none:=fun b hb=>by rw[upd_ne (Nat.ne_of_lt (hlt b hb))];exact (f2 b hb).1
 have nf:=j1.fresh hfree
 have st:CstG Z (X.aY pins scope (cellsFrom (hp1.objs.size+1) scope.names cl) (own++fr) fp hp1.objs.size s2 H2) [] s2.heap.objs.size (gr ρ1 s2.heap.objs.size) (upd H2 s2.heap.objs.size (o0 s2.heap.objs.size)) (aX own.length js δ) [] M1 fp
   { s2 with heap:=pushCells (hp1.push { cls:=.type "dict",data:=.dict #[] }) scope.names,toks:=s2.toks }:=
  ⟨_,_,_,_,IC,.refl (fun z=>nf (.inl (by rw[←B.st ρ1];exact z))),B.j hfree j1,B.ev hfree (zr (ev.mono x1) _ _),upd_same,B.z _ _ _,fp1⟩
 have tn0:tn 0 (pushCells (hp1.push { cls:=.type "dict",data:=.dict #[] }) scope.names):=Tn.keep _ _ _ st2 (fun b _ o e=>old b o e)
 have loop:codeAny (model X.prog X.w) X.A (.compLoop e 0 (.ref it) (.ref s2.heap.objs.size) (compEnvC scope (cellsFrom (hp1.objs.size+1) scope.names cl) hp1.objs.size X.env))
   (compPost (model X.prog X.w) X.A X.xe use Qs (.ref s2.heap.objs.size) hp1.objs.size) { s2 with heap:=pushCells (hp1.push { cls:=.type "dict",data:=.dict #[] }) scope.names,toks:=s2.toks }:=
  Df (X:=X.aY pins scope (cellsFrom (hp1.objs.size+1) scope.names cl) (own++fr) fp hp1.objs.size s2 H2) B.ok hc rfl (hturn _ _ _) (hW _ _) (hmono _ _) (hg ..) (ht ..) Tn iok (hb pins (hp1.objs.size+1) fp hp1.objs.size s2 H2 s2.heap.objs.size ρ1 _) (fun _ _ x=>B.kp hfree x) fok st tn0 hrun he fun s' c'=>hfin s2 H2 fp _ _ _ ρ1 lf Mf s' I2 f2 (Nat.le_refl _) hC hfree nf ⟨_,c'⟩ g3
 show codeAny _ _ (.compStart _ 0 (.ref it) (.ref s2.heap.objs.size) (compEnvC scope (cellsFrom (hp1.objs.size+1) scope.names cl) hp1.objs.size X.env)) _ _
 exact vM (by rw[hcl];rfl) rfl loop (Tn.self X.A 0 _ _ _ tn0 loop) he
theorem Fj(B:Beg X Z ob o0 gr mk)(he:BV e)(hcl:clausesOf e=⟨t0,i0,f0,0⟩::gs)(hc:X.calm=true)(T:CompG X scope cl own js fr)(hi:DI X E t0 i0 fi)
  (hturn:∀(Y:Cx) it acc,compTurn e 0 (.ref it) (.ref acc) Y.env=turnOf ⟨t0,i0,f0,0⟩ (bodyK Y acc) (.compLoop e 0 (.ref it) (.ref acc) Y.env) (.ref it) Y.env)
  (hW:∀Y acc,jU Y.prog Y.w Y.A (bodyK Y acc) (W Y acc)) (hmono:∀Y acc P P' s,(∀s,P s->P' s)->W Y acc P s->W Y acc P' s)
  (hg:∀pins m fp C s₂ H₂,DG (X.aY pins scope (cellsFrom m scope.names cl) (own++fr) fp C s₂ H₂) E0 t0 fg) (ht:∀pins m fp C s₂ H₂,DTs (X.aY pins scope (cellsFrom m scope.names cl) (own++fr) fp C s₂ H₂) E0 f0 ft)
  (hb:∀pins m fp C s₂ H₂ acc ρ H0,vU Z (X.aY pins scope (cellsFrom m scope.names cl) (own++fr) fp C s₂ H₂) acc (W (X.aY pins scope (cellsFrom m scope.names cl) (own++fr) fp C s₂ H₂) acc) fb (gr ρ acc) H0)
  (hs:∀y,foldedSetIterable i0 X.env y=pure y)
  (hq:∀(Q:VK) acc H2 ρ1 lf Mf H4 ρ4 o,H2 acc=none->acc∉ρ1->ExtB acc (gr ρ1 acc) (upd H2 acc (o0 acc)) ρ4 H4->J X.mg ρ4 Mf H4->H4 acc=some o->Z acc ρ4 H4 o lf->Go X.mg E Rv Q ρ1 H2 (fin lf) Mf->Q (.ref acc) H4)
  (ee:eval e X.env=comprehension e scope X.env pos mk false (eval i0 X.env) none) :
  PE X e (tD X.mg E Rv fun δ=>fi δ>>=fun it=>cJ (cB fg ft fb it (aX own.length js δ) [])>>=fun p=>fin p.2):=by
 intro pins s σ H Q I h
 obtain⟨ρ,δ,M,ev,j,g1⟩:=h
 rw[ee]
 refine vq B he hcl hc T hi hturn hW hmono hg ht hb hs I ev j g1 fun s2 H2 fp C m acc ρ1 lf Mf s' I2 f2 hA hC hfree nf c' g3=>?_
 obtain⟨δf,c'⟩:=c'
 obtain⟨σ4,H4,ρ4,o,I4,x4,j4,ev4,ha4,z4,fr4⟩:=c'.ex
 obtain⟨m4,hn4,_⟩:=I4.loc
 refine⟨m4,hn4,fun h' hsb'=>?_⟩
 have un:=Ei I4.base hsb' hC
 have ok4:=zB I4.hok hsb' I4.free
 exact⟨.ref acc,H4,I2.call' (s':={ s' with heap:=h' }) (ch:=fp) (I4.os) un ok4 I4.bare (fun b hb=>by
  obtain⟨_,g2,g3,g4,g5,g6⟩:=f2 b hb
  exact⟨g4,g2,g5,g6⟩),rfl,hq Q acc H2 ρ1 lf Mf H4 ρ4 o hfree nf x4 j4 ha4 z4 g3⟩
end
theorem Beg.list:Beg X (ZL X.mg) { cls:=.type "list",dict:=none,data:=.seq ([]:List Value).toArray } (fun _=>.lst []) Rh.hold (newList []) where
 ok:=ZL.ok
 nw:=fun A E s Q q=>by unfold newList;exact wpAny_newObj_type q
 hob:=fun H h a e=>⟨Nat.zero_le _,[],_,.nil,e⟩
 fr:=rfl
 j:=fun h j=>j.begin h
 ev:=fun h e=>e.kp (xM h)
 kp:=fun h x=>(xM h).trans (x.kp (.head _))
 st:=fun _ _=>rfl
 z:=fun _ _ _=>⟨[],rfl,.nil⟩
theorem wX{cl:List (Str×Addr)}{own:List Str}{js:List Nat}{fr:List Str}{f0:List Expr}{gs:List Comprehension}{fi:ao->DM Itn}{fg:D->ao->DM ao}{ft:ao->DM Bool}{fb:ao->List D->DM (ao×List D)}
  {bodyK:Cx->Addr->Sem Fin->Sem Fin}{W:Cx->Addr->(Shared->Prop)->Shared->Prop} (o:Out) (hc:X.calm=true) (T:CompG X scope cl own js fr) (hi:DI X E t0 i0 fi)
  (hturn:∀(Y:Cx) it acc,compTurn (.ListComp elt (⟨t0,i0,f0,0⟩::gs) scope pos) 0 (.ref it) (.ref acc) Y.env=turnOf ⟨t0,i0,f0,0⟩ (bodyK Y acc) (.compLoop (.ListComp elt (⟨t0,i0,f0,0⟩::gs) scope pos) 0 (.ref it) (.ref acc) Y.env) (.ref it) Y.env)
  (hW:∀Y acc,jU Y.prog Y.w Y.A (bodyK Y acc) (W Y acc)) (hmono:∀Y acc P P' s,(∀s,P s->P' s)->W Y acc P s->W Y acc P' s)
  (hg:∀pins m fp C s₂ H₂,DG (X.aY pins scope (cellsFrom m scope.names cl) (own++fr) fp C s₂ H₂) E0 t0 fg) (ht:∀pins m fp C s₂ H₂,DTs (X.aY pins scope (cellsFrom m scope.names cl) (own++fr) fp C s₂ H₂) E0 f0 ft)
  (hb:∀pins m fp C s₂ H₂ acc,BodyOk (X.aY pins scope (cellsFrom m scope.names cl) (own++fr) fp C s₂ H₂) acc (W (X.aY pins scope (cellsFrom m scope.names cl) (own++fr) fp C s₂ H₂) acc) fb)
  (hs:∀y,foldedSetIterable i0 X.env y=pure y:=by intro _;rfl) :
  DE X E (.ListComp elt (⟨t0,i0,f0,0⟩::gs) scope pos) (fun δ=>fi δ>>=fun it=>cJ (cB fg ft fb it (aX own.length js δ) [])>>=fun p=>o.run p.2):=
 ⟨Fj Beg.list (.inl ⟨_,_,_,_,rfl⟩) rfl hc T hi hturn hW hmono hg ht (fun _ _ _ _ _ _ _ _ _=>hb _ _ _ _ _ _ _ _ _ (.head _)) hs (fun Q acc H2 ρ1 lf Mf H4 ρ4 o' hf nf x4 j4 ha4 ⟨ys,e,c⟩ g=>o.fin hf nf x4 j4 (e ▸ ha4) c g) (eval_ListComp ..)⟩
theorem dU{cl:List (Str×Addr)}{own:List Str}{js:List Nat}{fr:List Str}{f0:List Expr}{fi:ao->DM Itn}{fg:D->ao->DM ao}{ft:ao->DM Bool}{fe:ao->DM D}
  (o:Out) (hc:X.calm=true) (T:CompG X scope cl own js fr) (hi:DI X E t0 i0 fi)
  (hg:∀pins m fp C s₂ H₂,DG (X.aY pins scope (cellsFrom m scope.names cl) (own++fr) fp C s₂ H₂) E0 t0 fg) (ht:∀pins m fp C s₂ H₂,DTs (X.aY pins scope (cellsFrom m scope.names cl) (own++fr) fp C s₂ H₂) E0 f0 ft)
  (he:∀pins m fp C s₂ H₂,DE (X.aY pins scope (cellsFrom m scope.names cl) (own++fr) fp C s₂ H₂) E0 elt fe)
  (hs:∀y,foldedSetIterable i0 X.env y=pure y:=by intro _;rfl) :
  DE X E (.ListComp elt [⟨t0,i0,f0,0⟩] scope pos) (fun δ=>fi δ>>=fun it=>cJ (cB fg ft (aW fe) it (aX own.length js δ) [])>>=fun p=>o.run p.2):=
 wX (bodyK:=fun Y acc=>p6 elt (.ref acc) Y.env) (W:=fun Y acc P s=>wpAny (model Y.prog Y.w) Y.A (eval elt Y.env) (fun x s1=>wpAny (model Y.prog Y.w) Y.A (call (.builtin "list.append") [.ref acc,x]) (fun _ s2=>P s2) (fun _ _=>False) s1) (fun _ _=>False) s) o hc T hi
  (fun Y it acc=>Hz ..) (fun Y acc=>xf) (fun Y acc P P' s hp h=>wpAny_mono h (fun x s1 h1=>wpAny_mono h1 (fun _ s2 h2=>hp _ h2) fun _ _ z=>z) fun _ _ z=>z) hg ht (fun pins m fp C s₂ H₂ acc=>uy rfl (he ..)) hs
def o5(fi:ao->DM Itn)(fg:D->ao->DM ao)(ft:ao->DM Bool)(fb:ao->List D->DM (ao×List D))(δ:ao)(l:List D):DM (ao×List D):=fi δ>>=fun it=>cB fg ft fb it δ l
theorem FW (hc:X.calm=true) (hxe:X.xe=fun _ _=>False)
  (hi:DI X E0 t1 i1 fi) (hg:DG X E0 t1 fg) (ht:DTs X E0 f1 ft) (he:DE X E0 elt fe) :
  BodyOk X acc (fun P s=>wpAny (model X.prog X.w) X.A (eval i1 X.env) (fun x s1=>wpAny (model X.prog X.w) X.A (pyIter x) (fun it s2=>
   codeAny (model X.prog X.w) X.A (.compStart (.ListComp elt [⟨t0,i0,f0,0⟩,⟨t1,i1,f1,0⟩] scope pos) 1 it (.ref acc) X.env) (fun r s3=>match r with
    |.ok _=>P s3
    |.error _=>False) s2) (fun _ _=>False) s1) (fun _ _=>False) s) (o5 fi fg ft (aW fe)):=by
 intro ρ0 H0 hacc pins δ l M s δ' l' M' ct e
 obtain⟨itn,M2,e1,e3⟩:=DM.bind_ok e
 obtain⟨σ,H,ρ,_,I,x,j,ev,ha,⟨ys,rfl,cl⟩,_⟩:=ct.ex
 refine wpAny_mono (hi.h pins s σ H (fun Jt H1=>∃ρ1,Ext ρ H ρ1 H1∧J X.mg ρ1 M2 H1∧ItOk X.mg ρ1 H1 Jt itn) I ⟨ρ,δ,M,ev,j,_,e1,fun ρ1 H1 Jt a1 a2 a3=>⟨ρ1,a1,a2,a3⟩⟩) (fun v s1 h1=>?_) fun _ _ z=>by rw[hxe] at z;exact z
 refine wpAny_mono h1 (fun itv s2 h2=>?_) fun _ _ z=>by rw[hxe] at z;exact z
 obtain⟨it,fp,tn,Jt,H2,rfl,I2,Tn,st2,f2,ρ1,x1,j1,iok⟩:=h2
 have nacc:acc∉ρ.st:=x.na
 have ha2:=x1.keep acc _ ha nacc
 have na1:acc∉ρ1.st:=fun z=>by
  have:=x1.new acc z nacc
  rw[ha] at this;cases this
 have hv1:acc∈ρ1.vo:=by rw[x1.vo,x.vo];exact hacc
 have st:Oi X pins acc ρ1 H2 δ l M2 fp s2:=⟨σ,H2,ρ1,_,I2,.refl na1,j1,ev.mono x1,ha2,⟨ys,rfl,cl.mono x1⟩,fun b hb=>(f2 b hb).1⟩
 have fok:∀H',(∀b∈fp,H' b=none)->∀b∈fp,FpOk X pins H' b:=fun H' hn b hb=>⟨hn b hb,(f2 b hb).2⟩
 have loop:=Df ZL.ok hc hxe (Mj elt t0 i0 t1 i1 f0 f1 scope pos (.ref it) (.ref acc) X.env) xf (fun P P' s hp h=>wpAny_mono h (fun x s1 h1=>wpAny_mono h1 (fun _ s2 h2=>hp _ h2) fun _ _ z=>z) fun _ _ z=>z) hg ht Tn iok (uy hxe he _ _ hv1) (fun _ _ x=>x.kp hv1) fok st st2 e3
  (R:=fun r s3=>match r with
    |.ok _=>Oi X pins acc ρ0 H0 δ' l' M' [] s3
    |.error _=>False) (.inl ⟨_,_,_,_,rfl⟩) fun s' c'=>by
    obtain⟨σ4,H4,ρ4,o,I4,x4,j4,ev4,ha4,cl4,fr4⟩:=c'.ex
    exact⟨σ4,H4,ρ4,o,I4,(x.trans (x1.b na1)).trans x4,j4,ev4,ha4,cl4,fun b hb=>nomatch hb⟩
 exact vM rfl rfl loop (Tn.self X.A 0 _ _ _ st2 loop) (.inl ⟨_,_,_,_,rfl⟩)
theorem Fw {cl:List (Str×Addr)}{own:List Str}{js:List Nat}{fr:List Str}{f0 f1:List Expr}{fi fi1:ao->DM Itn}{fg fg1:D->ao->DM ao}{ft ft1:ao->DM Bool}{fe:ao->DM D}
  (o:Out) (hc:X.calm=true) (T:CompG X scope cl own js fr) (hi:DI X E t0 i0 fi)
  (hg:∀pins m fp C s₂ H₂,DG (X.aY pins scope (cellsFrom m scope.names cl) (own++fr) fp C s₂ H₂) E0 t0 fg) (ht:∀pins m fp C s₂ H₂,DTs (X.aY pins scope (cellsFrom m scope.names cl) (own++fr) fp C s₂ H₂) E0 f0 ft)
  (hi1:∀pins m fp C s₂ H₂,DI (X.aY pins scope (cellsFrom m scope.names cl) (own++fr) fp C s₂ H₂) E0 t1 i1 fi1) (hg1:∀pins m fp C s₂ H₂,DG (X.aY pins scope (cellsFrom m scope.names cl) (own++fr) fp C s₂ H₂) E0 t1 fg1)
  (ht1:∀pins m fp C s₂ H₂,DTs (X.aY pins scope (cellsFrom m scope.names cl) (own++fr) fp C s₂ H₂) E0 f1 ft1) (he:∀pins m fp C s₂ H₂,DE (X.aY pins scope (cellsFrom m scope.names cl) (own++fr) fp C s₂ H₂) E0 elt fe)
  (hs:∀y,foldedSetIterable i0 X.env y=pure y:=by intro _;rfl) (hs1:∀(env:Env) y,foldedSetIterable i1 env y=pure y:=by intro _ _;rfl) :
  DE X E (.ListComp elt [⟨t0,i0,f0,0⟩,⟨t1,i1,f1,0⟩] scope pos) (fun δ=>fi δ>>=fun it=>cJ (cB fg ft (o5 fi1 fg1 ft1 (aW fe)) it (aX own.length js δ) [])>>=fun p=>o.run p.2):=
 wX (bodyK:=fun Y acc=>tH (.ListComp elt [⟨t0,i0,f0,0⟩,⟨t1,i1,f1,0⟩] scope pos) i1 (.ref acc) Y.env) (W:=fun Y acc P s=>wpAny (model Y.prog Y.w) Y.A (eval i1 Y.env) (fun x s1=>wpAny (model Y.prog Y.w) Y.A (pyIter x) (fun it s2=>
   codeAny (model Y.prog Y.w) Y.A (.compStart (.ListComp elt [⟨t0,i0,f0,0⟩,⟨t1,i1,f1,0⟩] scope pos) 1 it (.ref acc) Y.env) (fun r s3=>match r with
    |.ok _=>P s3
    |.error _=>False) s2) (fun _ _=>False) s1) (fun _ _=>False) s) o hc T hi
  (fun Y it acc=>Mi ..) (fun Y acc=>Ia (hs1 _)) (fun Y acc P P' s hp h=>wpAny_mono h (fun x s1 h1=>wpAny_mono h1 (fun _ s2 h2=>codeAny_mono h2 fun r s3 h3=>by cases r with | ok f=>exact hp _ h3 | error x=>exact h3) fun _ _ z=>z) fun _ _ z=>z) hg ht (fun pins m fp C s₂ H₂ acc=>FW (X:=X.aY pins scope (cellsFrom m scope.names cl) (own++fr) fp C s₂ H₂) hc rfl (hi1 ..) (hg1 ..) (ht1 ..) (he ..)) hs
theorem boot_zip:bootBuiltins "zip"=some (.type "zip"):=by decide +kernel
def frz:D->Option (Bool×List D)
 |.tup l=>some (true,l)
 |.lst l=>some (false,l)
 |_=>none
def pairs:List D->List D->List D
 |x::xs,y::ys=>.tup [x,y]::pairs xs ys
 |_,_=>[]
def uY:List D->Option Itn
 |[x,y]=>match frz x,frz y with
   |some (_,l),some (_,m)=>some (.fix (pairs l m))
   |_,_=>none
 |_=>none
theorem pairs_at:∀ (l m:List D) (i:Nat),(pairs l m)[i]?=match l[i]?,m[i]? with
  |some x,some y=>some (.tup [x,y])
  |_,_=>none
 |[],m,i=>by simp[pairs]
 |x::xs,[],i=>by
   cases i with
   |zero=>simp[pairs]
   |succ i=>simp only[pairs,List.getElem?_nil,List.getElem?_cons_succ];cases xs[i]?<;>rfl
 |x::xs,y::ys,0=>by simp[pairs]
 |x::xs,y::ys,i+1=>by simp only[pairs,List.getElem?_cons_succ];exact pairs_at xs ys i
section
variable{mg:Str->Option Value}{ρ:Rh}{H:Hp}
theorem CJ{K:PySem.W.Frag}{x:V}{d:D}{b:Bool}{l:List D}(c:Cv mg ρ H x d)(e:frz d=some (b,l)):∃a xs,x=.ref a∧a∉ρ∧H a=some (if b then .tup xs else .lst xs)∧Cvs mg ρ H xs l:=by
 cases c with
 |tup n h c=>cases e;exact⟨_,_,rfl,n,h,c⟩
 |lst n h c=>cases e;exact⟨_,_,rfl,n,h,c⟩
 |_=>cases e
theorem vL{K:PySem.W.Frag}{b:Bool}{a:Addr}{xs:List V}(h:H a=some (if b then .tup xs else .lst xs)):qG b K H a xs:=by
 cases b with
 |true=>exact SqT.of h
 |false=>exact SqL.of h
theorem ne_if:∀φ,(if b=true then HO.tup xs else HO.lst ys)≠HO.ext φ:=by cases b<;>nofun
theorem Kr {K:PySem.W.Frag}{b1 b2:Bool}{l1 l2:Addr}{xs ys:List V}{ds es:List D} (n1:l1∉ρ) (n2:l2∉ρ) (h1:H l1=some (if b1 then .tup xs else .lst xs)) (h2:H l2=some (if b2 then .tup ys else .lst ys)) (c1:Cvs mg ρ H xs ds) (c2:Cvs mg ρ H ys es):ItOk mg ρ H (Oj K b1 b2 l1 l2) (.fix (pairs ds es)) where
 item:=fun i ρ' H' M' d e j q=>by
  have hq:(pairs ds es)[i]?=some d:=Option.some.inj q
  rw[pairs_at] at hq
  split at hq
  ·rename_i dx dy e1 e2
   cases hq
   obtain⟨x,hx,cx⟩:=c1.get e1
   obtain⟨y,hy,cy⟩:=c2.get e2
   have k1:=(e.keep _ _ h1 n1 ne_if).2
   have k2:=(e.keep _ _ h2 n2 ne_if).2
   refine⟨⟨xs,ys,x,y,vL k1,vL k2,hx,hy⟩,fun v H2 z=>?_⟩
   obtain⟨p,hp,rfl,z⟩:=z
   obtain⟨x',y',hx',hy',rfl⟩:=z xs ys (vL k1) (vL k2)
   rw[hx] at hx';cases hx'
   rw[hy] at hy';cases hy'
   exact⟨.lay hp,j.lay _ hp,.tup (j.fresh hp) upd_same (.cons ((cx.kp e).mono (.lay hp)) (.cons ((cy.kp e).mono (.lay hp)) .nil))⟩
  ·cases hq
 stop:=fun i ρ' H' M' e j q=>by
  have hq:(pairs ds es)[i]?=none:=Option.some.inj q
  rw[pairs_at] at hq
  refine⟨xs,ys,vL (e.keep _ _ h1 n1 ne_if).2,vL (e.keep _ _ h2 n2 ne_if).2,?_⟩
  cases e1:ds[i]? with
  |none=>exact .inl (List.getElem?_eq_none_iff.mpr (by rw[c1.len];exact List.getElem?_eq_none_iff.mp e1))
  |some dx=>cases e2:es[i]? with
    |none=>exact .inr (List.getElem?_eq_none_iff.mpr (by rw[c2.len];exact List.getElem?_eq_none_iff.mp e2))
    |some dy=>rw[e1,e2] at hq;cases hq
end
theorem Cu{X:Cx}{E:XK}{elts:List Expr}{kt:Nat}{tp:Pos}{a b:Expr}{fa:ao->DM (List D)}{p pos:Pos}(hg:Gl X "zip")(hm:X.mg "zip"=none)(ha:DA X E [a,b] fa)(hs:notStar a=true:=by rfl)(hs2:notStar b=true:=by rfl) :
  DI X E (.Tuple elts kt tp) (.Call (.Name "zip" p) [a,b] [] pos) (fun δ=>fa δ>>=fun l=>opt (uY l)):=⟨by
 intro pins s σ H R I h
 obtain⟨ρ,δ,M,ev,j,g1⟩:=h
 refine Call_ (ld_blt I hg hm boot_zip (PyProof.Rows.callWith_type1 (thn (ha.h.h pos pins s σ H (fun vs H1=>∃ρ1 M1 ds,Ext ρ H ρ1 H1∧J X.mg ρ1 M1 H1∧Cvs X.mg ρ1 H1 vs ds∧Go X.mg E (ItOk X.mg) R ρ1 H1 (opt (uY ds)) M1) I ⟨ρ,δ,M,ev,j,g1.bind fun ρ1 H1 M1 vs ds e1 j1 c1 g2=>⟨ρ1,M1,ds,e1,j1,c1,g2⟩⟩) fun us s1 h1=>?_) (bC hs) (by rw[bC hs2];rfl)))
 obtain⟨vs,H1,I1,rv,ρ1,M1,ds,e1,j1,c1,g2⟩:=h1
 obtain⟨itn,ei,q⟩:=g2.opt
 unfold uY at ei
 split at ei
 rotate_left
 ·cases ei
 rename_i dx dy
 split at ei
 rotate_left
 ·cases ei
 rename_i b1 l b2 m f1 f2
 cases ei
 obtain⟨v1,v2,rfl,k1,k2⟩:=c1.two
 obtain⟨a1,xs,rfl,n1,h1,cx⟩:=CJ (K:=X.K) k1 f1
 obtain⟨a2,ys,rfl,n2,h2,cy⟩:=CJ (K:=X.K) k2 f2
 obtain⟨u1,u2,rfl,r1,r2⟩:=vals2 rv
 cases r1
 cases r2
 obtain⟨its1,w1,p1,_⟩:=I1.seqS (vL (K:=X.K) h1)
 obtain⟨its2,w2,p2,_⟩:=I1.seqS (vL (K:=X.K) h2)
 refine Ce p1 p2 fun h' a1' a2' a3 a4 a5 a6 a7=>wpAny_pyIter_zip a1' ?_
 have lt1:@LT.lt Nat _ a1 s1.heap.objs.size:=p1.lt
 have lt2:@LT.lt Nat _ a2 s1.heap.objs.size:=p2.lt
 have D:ZipApart (s1.heap.objs.size+4) (s1.heap.objs.size+2) (s1.heap.objs.size+3) s1.heap.objs.size (s1.heap.objs.size+1) a1 a2:=by
  constructor<;>exact fun (h:@Eq Nat _ _)=>by have:=lt1;have:=lt2;lia
 have I2:Inv X pins σ H1 { s1 with heap:=h' }:=I1.kept (t':=s1.toks) a7
 refine⟨_,_,_,_,H1,rfl,I2,GR D,⟨a1',a2',⟨_,_,a3⟩,a4.1,a5.1⟩,fun b hb=>?_,q ρ1 H1 _ .refl j1 (Kr n1 n2 h1 h2 cx cy)⟩
 refine I1.fpOk ?_ (I1.hok.fresh ?_)<;>(simp only[List.mem_cons,List.mem_nil_iff,or_false] at hb;rcases hb with rfl | rfl | rfl | rfl | rfl<;>lia)⟩
structure XTab(K:PySem.W.Frag)(mg:Str->Option Value)(ns:List Str)(F:Addr):Prop where
 cls:∀a∈ns,∃C,XCls K mg a C∧XAt K C∧Catches K C F
 kit:∀a∈ns,∀b∈ns,∀C D,mg a=some (.ref C)->mg b=some (.ref D)->PySem.W.kitOne K (.ref C) (.ref D)=some (a==b)
theorem Fy{P:Program}{w:World}{K:PySem.W.Frag}{mg:Str->Option Value}{base:Heap}{N:List Str}{qual:Str}{scope:Scope}{f:Addr}{cd:Value}{A:Around}{outer:List Env}{s:Shared}{H:Hp}{E:XK}{ns:List Str}{F:Addr}{x:Str}{np cpos pos:Pos}{e:Expr}{fe:ao->DM D}
  (T:XTab K mg ns F) (hx:x∈ns) (he:DE (bO P w K mg base N qual scope f cd A outer s H E) E e fe)
  (hg:Gl (bO P w K mg base N qual scope f cd A outer s H E) x:=by rfl) (hd:(x==("__debug__":Str))=false:=by decide)
  (hst:starEach [e] (bO P w K mg base N qual scope f cd A outer s H E).env=[(false,eval e (bO P w K mg base N qual scope f cd A outer s H E).env)]:=by rfl) :
  DS (bO P w K mg base N qual scope f cd A outer s H E) E (.Raise (some (.Call (.Name x np) [e] [] cpos)) none pos) (fun δ=>fe δ>>=fun _=>raise x):=by
 obtain⟨C,xc,_,_⟩:=T.cls x hx
 refine⟨PS.mono (L2.Gx xc he.h hg hd hst) fun D σ H h=>?_⟩
 obtain⟨ρ,δ,M,ev,j,g1⟩:=h
 refine⟨ρ,δ,M,ev,j,g1.bind fun ρ1 H1 M1 v d e1 j1 c1 g2=>⟨rfl,?_⟩⟩
 obtain⟨r,er,p⟩:=g2
 cases er
 exact p ρ1 H1 C .refl j1 xc.at_
theorem Ev.forget(h:Ev mg ρ H σ δ):Ev mg ρ H (σ.set i none) (δ.set i none):=by
 refine⟨by rw[List.length_set,List.length_set,h.len],fun j x q=>?_⟩
 by_cases e:j=i
 ·subst e
  have hj:j<(δ.set j none).length:=(List.getElem?_eq_some_iff.mp q).1
  rw[List.length_set] at hj
  rw[List.getElem?_set_self hj] at q
  cases q
 ·rw[List.getElem?_set_ne (fun z=>e z.symm)] at q ⊢
  exact h.val j x q
def Gq(i:Nat):Fl->DM Fl
 |.nx δ=>pure (.nx (δ.set i none))
 |.bk δ=>pure (.bk (δ.set i none))
 |.ct δ=>pure (.ct (δ.set i none))
 |.rt d=>pure (.rt d)
def yM(ns:List Str)(n i:Nat)(fb:ao->DM Fl)(fh:Str->ao->DM Fl)(δ:ao):DM Fl:=fun M=>match fb δ M with
 |some (.exc c,M')=>if ns.contains c then (cJ (fh c ((List.replicate n none).set i (some (.exn 0))))>>=Gq i) M' else none
 |r=>r
def QG(ns:List Str)(c:Str):List D->Mo->Option D
 |[.exn _,.cls k],_=>if ns.contains k then some (.bl (c==k)) else none
 |_,_=>none
theorem Mw(a:α)(f:α->DM β):((Pure.pure a:DM α)>>=f)=f a:=rfl
theorem O4(a:α):(opt (some a):DM α)=Pure.pure a:=rfl
theorem Mv(m:DM α)(f:α->DM β)(g:β->DM γ):(m>>=f)>>=g=m>>=fun a=>f a>>=g:=by
 funext M
 show DM.bind (DM.bind m f) g M=DM.bind m (fun a=>DM.bind (f a) g) M
 unfold DM.bind
 cases m M with
 |none=>rfl
 |some r=>obtain⟨r,M'⟩:=r;cases r<;>rfl
section
variable{X:Cx}{E:XK}{a b c:Expr}{fa fb fc:ao->DM D}{pos:Pos}
def strOf:D->Option Str
 |.str x=>some x
 |_=>none
def boolsOf:List D->Option (List Bool)
 |[]=>some []
 |.bl b::l=>(boolsOf l).map (b::·)
 |_=>none
theorem rA:∀ {xs:List V}{l:List D}{bs:List Bool},Cvs mg ρ H xs l->boolsOf l=some bs->xs=bs.map V.bl
 |_,_,_,.nil,e=>by cases e;rfl
 | _,_,_,.cons (d:=d) c cs,e=>by
   cases d with
   |bl i=>
     obtain⟨ms,h1,rfl⟩:=Option.map_eq_some_iff.mp e
     cases c
     rw[rA cs h1];rfl
   |_=>cases e
def JW:D->List D->DM D
 |x,[.bl b]=>rd fun M=>(aO x M).bind fun l=>(boolsOf l).map fun bs=>.int (bs.countP (·== b):Nat)
 |_,_=>stuck
theorem Dh:G6 X E "list.count" JW:=by
 intro pins s σ H x xs v us Q I rx rs q
 obtain⟨ρ,M,d,ds,j,cx,cs,g⟩:=q
 cases cs with
 |nil=>obtain⟨r,e,_⟩:=g;cases e
 | cons c cs=>cases cs with
   |cons _ _=>obtain⟨r,e,_⟩:=g;cases c<;>cases e
   | nil=>cases c with
     |bl b=>
       obtain⟨d',e,p⟩:=Go.rd g
       obtain⟨l,h1,e1⟩:=Option.bind_eq_some_iff.mp e
       obtain⟨bs,h2,rfl⟩:=Option.map_eq_some_iff.mp e1
       obtain⟨a,ys,rfl,ha,cl⟩:=cA j cx h1
       have:=rA cl h2
       subst this
       exact Gk (X:=X) pins s σ H _ _ v us Q I rx rs ⟨a,bs,b,rfl,rfl,ha,p ρ H _ .refl j (.int _)⟩
     |_=>obtain⟨r,e,_⟩:=g;cases e
def findB(b:Bool):List Bool->Option Nat
 |[]=>none
 |c::l=>if c==b then some 0 else (findB b l).map (·+ 1)
theorem sZ {b:Bool}:∀ {l:List Bool}{n:Nat},findB b l=some n->l[n]?=some b∧∀ m c,m<n->l[m]?=some c->(c == b)=false
 |[],n,h=>by cases h
 | c::l,n,h=>by
   unfold findB at h
   split at h
   ·rename_i hc
    cases h
    exact⟨by rw[beq_iff_eq.mp hc];rfl,fun m c hm=>absurd hm (Nat.not_lt_zero _)⟩
   ·rename_i hc
    obtain⟨k,h1,rfl⟩:=Option.map_eq_some_iff.mp h
    obtain⟨a1,a2⟩:=sZ h1
    refine⟨by simpa using a1,fun m c' hm e=>?_⟩
    cases m with
    |zero=>simp at e;subst e;simpa using hc
    |succ m=>exact a2 m c' (by lia) (by simpa using e)
def Kf:D->List D->DM D
 |x,[.bl b]=>rd fun M=>(aO x M).bind fun l=>(boolsOf l).bind fun bs=>(findB b bs).bind fun n=>if n<1000 then some (.int (n:Nat)) else none
 |_,_=>stuck
theorem Di:G6 X E "list.index" Kf:=by
 intro pins s σ H x xs v us Q I rx rs q
 obtain⟨ρ,M,d,ds,j,cx,cs,g⟩:=q
 cases cs with
 |nil=>obtain⟨r,e,_⟩:=g;cases e
 | cons c cs=>cases cs with
   |cons _ _=>obtain⟨r,e,_⟩:=g;cases c<;>cases e
   | nil=>cases c with
     | bl b=>
       obtain⟨d',e,p⟩:=Go.rd g
       obtain⟨l,h1,e1⟩:=Option.bind_eq_some_iff.mp e
       obtain⟨bs,h2,e2⟩:=Option.bind_eq_some_iff.mp e1
       obtain⟨n,h3,e3⟩:=Option.bind_eq_some_iff.mp e2
       split at e3
       ·rename_i hn
        cases e3
        obtain⟨a,ys,rfl,ha,cl⟩:=cA j cx h1
        have:=rA cl h2
        subst this
        obtain⟨f1,f2⟩:=sZ h3
        exact Gm (X:=X) pins s σ H _ _ v us Q I rx rs ⟨a,bs,b,n,rfl,rfl,ha,f1,f2,hn,p ρ H _ .refl j (.int _)⟩
       ·cases e3
     |_=>obtain⟨r,e,_⟩:=g;cases e
end
theorem HQ:DE X E (.Dict [] [] pos) (fun _=>pure (.dic [] [])):=⟨PE.mono pe_dnewK fun σ H Q h=>by
 obtain⟨ρ,δ,M,ev,j,g⟩:=h
 exact fun p hp=>g.pure ρ _ _ (.lay hp) (j.lay _ hp) (.dic (j.fresh hp) upd_same rfl .nil)⟩
theorem HR:DE X E (.Dict [some (.Constant (.int i) k1 p1)] [.Constant (.int j) k2 p2] pos) (fun _=>pure (.dic [.inl i] [.int j])):=⟨PE.mono (pe_disp (pps_cons pe_int pe_int pps_nil) rfl rfl (by simp) (by show 1≤15;decide)) fun σ H Q h=>by
 obtain⟨ρ,δ,M,ev,jj,g⟩:=h
 refine fun p hp=>⟨upd_same,[(.inl i,.int j)],rfl,(by show 1≤15;decide),?_⟩
 have e:upd (upd H p (HO.dK [])) p (HO.dK (mergeK [] [(.inl i,.int j)]))=upd H p (.dK [(.inl i,.int j)]):=upd_upd
 rw[e]
 exact g.pure ρ _ _ (.lay hp) (jj.lay _ hp) (.dic (ks:=[.inl i]) (xs:=[.int j]) (jj.fresh hp) upd_same rfl (.cons (.int j) .nil))⟩
theorem iD:∀ {names:List (Str×NameKind)}{m:Nat}{y:Str}{c:Addr},(y,c)∈cellsFrom m names []->(y,NameKind.cell)∈names
 |[],_,_,_,h=>nomatch h
 | (n,k)::r,m,y,c,h=>by
   unfold cellsFrom at h
   split at h
   ·rename_i hk
    rw[cF] at h
    rcases List.mem_append.mp h with z | z
    ·exact .tail _ (iD z)
    ·cases List.mem_singleton.mp z
     have hk':k=.cell:=by cases k<;>first | rfl | cases hk
     rw[hk'];exact .head _
   ·exact .tail _ (iD h)
def isC:NameKind->Bool
 |.cell=>true
 |_=>false
theorem Kh(h:isC k=true):k=.cell:=by cases k<;>first | rfl | cases h
theorem Im(h:(names.all fun p=>!isC p.2 || (match names.lookup p.1 with | some k=>isC k | none=>false))=true):∀(m:Nat) y c,(cellsFrom m names []).lookup y=some c->names.lookup y=some .cell:=fun m y c e=>by
 have hm:=iD (PySem.mem_of_lookup e)
 have q:=List.all_eq_true.mp h _ hm
 simp only[isC,Bool.not_true,Bool.false_or] at q
 split at q
 ·rename_i k hk
  rw[hk,Kh q]
 ·cases q
theorem Io{cl:List (Str×Addr)}{names:List (Str×NameKind)}(h:wQ (fun p=>(match names.lookup p.1 with | some k=>isC k | none=>false)=false) cl):∀y c,cl.lookup y=some c->names.lookup y≠some .cell:=fun y c e z=>by
 have:=m5 h (y,c) (L2.mem_of_lookup e)
 simp only[z,isC] at this
 cases this
end L3
namespace L3
open PySem PySem.Spec L2
@[simp] theorem aq(a:α)(f:α->DM β):((Pure.pure a:DM α)>>=f)=f a:=id rfl
@[simp] theorem aB(m:DM α)(f:α->DM β)(g:β->DM γ):(m>>=f)>>=g=m>>=fun a=>f a>>=g:=Mv m f g
@[simp] theorem dD(a:α):(opt (some a):DM α)=Pure.pure a:=id rfl
@[simp] theorem QD(a:α):cJ (Pure.pure a:DM α)=Pure.pure a:=id rfl
@[simp] theorem Pu(c:Str)(f:α->DM β):((raise c:DM α)>>=f)=raise c:=id rfl
theorem bY{α:Type}{f:Mo->Option α}{a:α}(h:∀M,f M=some a):(rd f:DM α)=Pure.pure a:=by
 funext M
 show (f M).map _=_
 rw[h M];rfl
@[simp] theorem QF(f g:ao->DM Fl)(δ:ao):pM f g δ=f δ>>=fun r=>match r with
 |.nx δ'=>g δ'
 |r=>Pure.pure r:=id rfl
@[simp] theorem aQ(i:Nat)(δ:ao):uA i δ=opt ((δ[i]?).join):=id rfl
@[simp] theorem gU(b:Bool):fY (.bl b)=Pure.pure b:=id rfl
@[simp] theorem Qk(p n:Nat)(fb:ao->DM Fl)(ds:List D):aJ p n fb ds=if ds.length=p then fb (bz n ds)>>=fun r=>match r with
 |.nx _=>Pure.pure .non
 |.rt d=>Pure.pure d
 |_=>stuck else stuck:=id rfl
@[simp] theorem Px(n:Nat)(ds:List D):bz n ds=ds.map some++List.replicate (n-ds.length) none:=id rfl
@[simp] theorem iJ(i:Nat)(d:D)(δ:ao):gN i d δ=Pure.pure (δ.set i (some d)):=id rfl
@[simp] theorem QJ(n:Nat)(fs:List D->ao->DM ao)(l:List D)(δ:ao):gT n fs (.tup l) δ=if l.length=n then fs l δ else stuck:=id rfl
@[simp] theorem Qy(f:D->ao->DM ao)(fs:List D->ao->DM ao)(d:D)(l:List D)(δ:ao):dC f fs (d::l) δ=f d δ>>=fun δ'=>fs l δ':=id rfl
@[simp] theorem Qz(δ:ao):m9 [] δ=Pure.pure δ:=id rfl
@[simp] theorem Hu(i j:Nat)(fa:ao->DM (List D))(δ:ao):K4 i j fa δ=fa δ>>=fun l=>match l with
 |[v,w]=>Pure.pure (.nx ((δ.set i (some v)).set j (some w)))
 |_=>stuck:=id rfl
@[simp] theorem Nr(i j:Int):(rd (bQ (.int i) (.int j)):DM D)=Pure.pure (.int (i+j)):=id rfl
@[simp] theorem Hv(i j:Int):(rd (uR (.int i) (.int j)):DM D)=Pure.pure (.int (i-j)):=id rfl
@[simp] theorem QK(i j:Int):(rd (Hn (.int i) (.int j)):DM D)=Pure.pure (.bl (decide (i<j))):=id rfl
@[simp] theorem Pb(i j:Int):(rd (CZ (.int i) (.int j)):DM D)=Pure.pure (.bl (decide (i≤j))):=id rfl
@[simp] theorem Pa(i j:Int):(rd (tE (.int i) (.int j)):DM D)=Pure.pure (.bl (decide (j<i))):=id rfl
@[simp] theorem Lj(i j:Int):(rd (xG (.int i) (.int j)):DM D)=Pure.pure (.bl (decide (j≤i))):=id rfl
@[simp] theorem QC(i:Int):(rd (xW (.int i)):DM D)=Pure.pure (.int (-i)):=id rfl
@[simp] theorem Qu(i:Int):(rd (Ov [.int i]):DM D)=Pure.pure (.int (if i<0 then -i else i)):=id rfl
@[simp] theorem Qn(i j:Int):(rd (Az [.int i,.int j]):DM D)=Pure.pure (.int (if j > i then j else i)):=id rfl
@[simp] theorem Lk(i j:Int):(rd (wj [.int i,.int j]):DM D)=Pure.pure (.int (if j<i then j else i)):=id rfl
theorem Nz{i j:Int}(h:0<j):(rd (rK (.int i) (.int j)):DM D)=Pure.pure (.int (i%j)):=bY fun M=>by simp[cW,h]
theorem NB{i j:Int}(h:gR i j=true):(rd (xV (.int i) (.int j)):DM D)=Pure.pure (.int (i*j)):=bY fun M=>by simp[cW,h]
theorem Li{i j:Int}(h:pZ i j=true):(rd (sY (.int i) (.int j)):DM D)=Pure.pure (.int (i / j)):=bY fun M=>by simp[cW,h]
theorem Bj{i j:Int}(h:Hs i j=true):(rd (yj (.int i) (.int j)):DM D)=Pure.pure (.int (i^j.toNat)):=bY fun M=>by simp[cW,h]
theorem bits_le(h:i.natAbs<2^n):Builtin.Int.intBits i≤n:=by
 unfold Builtin.Int.intBits
 split
 ·exact Nat.zero_le _
 ·rename_i h0
  have:i.natAbs≠0:=by intro z;apply h0;simp;lia
  exact (Nat.log2_lt this).mpr h
theorem Pq(h:i.natAbs<2^64):gR i j=true:=by
 unfold gR
 have:¬ (Builtin.Int.intBits i > shortFactorBits):=by have:=bits_le h;unfold shortFactorBits;lia
 simp[this]
theorem Ik(h:j.natAbs<2^64):gR i j=true:=by
 unfold gR
 have:¬ (Builtin.Int.intBits j > shortFactorBits):=by have:=bits_le h;unfold shortFactorBits;lia
 simp[this]
theorem HX(h0:0<j)(h:j.natAbs<2^1000):pZ i j=true:=by
 unfold pZ
 have a:Builtin.divisionGoesByPylong i j=false:=by
  unfold Builtin.divisionGoesByPylong
  have hj:j.natAbs≠0:=by lia
  have hl:j.natAbs.log2<1000:=(Nat.log2_lt hj).mpr h
  have h0':(j==0)=false:=by simp;lia
  simp only[h0']
  have:¬ (j.natAbs.log2 / 30+1 > 300):=by lia
  simp[this]
 simp[a,h0]
theorem Ln{a b:Nat}(h0:0<b):(rd (rK (.int (a:Int)) (.int (b:Int))):DM D)=Pure.pure (.int ((a%b:Nat):Int)):=by
 rw[Nz (by lia),Int.natCast_emod]
def nD(n:Nat):D:=.int (n:Int)
def nT(l:List Nat):D:=.tup (l.map nD)
theorem oR{α:Type}{l:List α}{i:Nat}{a:α}(h:l[i]?=some a):atI l (i:Int)=some a:=by
 have hi:=(List.getElem?_eq_some_iff.mp h).1
 unfold atI ixN
 rw[if_pos (by lia),if_pos (by lia)]
 simpa using h
theorem ue{l:List D}{i:Nat}{a:D}(h:l[i]?=some a):(rd (dg (.tup l) (.int (i:Int))):DM D)=Pure.pure a:=bY fun M=>oR h
theorem uc{l:List D}{i:Nat}{a:D}(h:l[i]?=some a):(rd (dg (.lst l) (.int (i:Int))):DM D)=Pure.pure a:=bY fun M=>oR h
theorem Nx{l:List Nat}{i:Nat}{a:Nat}(h:l[i]?=some a):(rd (dg (nT l) (.int (i:Int))):DM D)=Pure.pure (nD a):=ue (by simp[h])
@[simp] theorem uf(l:List D):(rd (cz [.tup l]):DM D)=Pure.pure (.int (l.length:Int)):=id rfl
@[simp] theorem Ql(l:List D):(rd (cz [.lst l]):DM D)=Pure.pure (.int (l.length:Int)):=id rfl
@[simp] theorem Qm(l:List Int):(rd (cz [.scr l]):DM D)=Pure.pure (.int (l.length:Int)):=id rfl
@[simp] theorem Lw(l:List D):(rd (um [.lst l]):DM D)=Pure.pure (.tup l):=id rfl
@[simp] theorem Qp(l:List D):(rd (um [.tup l]):DM D)=Pure.pure (.tup l):=id rfl
theorem tK:∀l:List Int,intsOf (l.map D.int)=some l
 |[]=>rfl
 |i::l=>by simp[intsOf,tK l]
theorem kj:∀l:List Nat,intsOf (l.map nD)=some (l.map fun n:Nat=>(n:Int))
 |[]=>rfl
 |i::l=>by simp[intsOf,nD];exact kj l
theorem n8:∀l:List Nat,(l.map fun n:Nat=>(n:Int)).sum=((l.sum:Nat):Int)
 |[]=>rfl
 |i::l=>by simp[n8 l]
@[simp] theorem Ls(l:List Nat):(rd (lQ [nT l]):DM D)=Pure.pure (nD l.sum):=bY fun M=>by
 show (intsOf (l.map nD)).map _=_
 rw[kj];simp[nD,n8]
@[simp] theorem Lr(l:List Nat):(rd (lQ [.lst (l.map nD)]):DM D)=Pure.pure (nD l.sum):=bY fun M=>by
 show (intsOf (l.map nD)).map _=_
 rw[kj];simp[nD,n8]
@[simp] theorem yC{n:Nat}(h:n<2^62):pD [.int (n:Int)]=some (.fix ((List.range n).map nD)):=by
 have:nQ (n:Int)=true:=by unfold nQ;exact decide_eq_true ⟨by lia,by lia⟩
 simp[pD,this,nJ,nD]
@[simp] theorem Qv(l:List D):oO (.tup l)=some (.fix l):=id rfl
theorem gh(h:l.length≤1000000):qP l=Pure.pure (.tup l):=by
 have:dH l=true:=by unfold dH;exact decide_eq_true (by show l.length≤2^24;lia)
 simp[qP,this]
theorem cH(h:l.length≤1000000):kI l=Pure.pure (.lst l):=by
 have:dH l=true:=by unfold dH;exact decide_eq_true (by show l.length≤2^24;lia)
 simp[kI,this]
@[simp] theorem I8(fg:D->ao->DM ao)(ft:ao->DM Bool)(fb:ao->List D->DM (ao×List D))(ds:List D)(δ:ao)(l:List D):cB fg ft fb (.fix ds) δ l=bh fg ft fb ds δ l:=id rfl
theorem xP (S:ao->Prop) (en:D->ao) (p:D->Bool) (e:D->D):∀ (ds:List D) (δ:ao) (l:List D),S δ->l.length + ds.length≤1000000->
  (∀d∈ds,∀δ,S δ->fg d δ=Pure.pure (en d)∧S (en d))->(∀d∈ds,ft (en d)=Pure.pure (p d))->(∀d∈ds,p d=true->fe (en d)=Pure.pure (e d))->∃δ',bh fg ft (aW fe) ds δ l=Pure.pure (δ',l++(ds.filter p).map e)
 |[],δ,l,_,_,_,_,_=>⟨δ,by simp[bh]⟩
 | d::ds,δ,l,s,hl,h0,h1,h2=>by
   have a:=h0 d (List.mem_cons_self ..) δ s
   have b:=h1 d (List.mem_cons_self ..)
   have hl':l.length+(ds.length+1)≤1000000:=by simpa using hl
   have lt:l.length<sizeLine:=by show l.length<2^24;lia
   have ih:=fun l' hl'=>xP S en p e ds (en d) l' a.2 hl' (fun x hx=>h0 x (List.mem_cons_of_mem _ hx)) (fun x hx=>h1 x (List.mem_cons_of_mem _ hx)) (fun x hx=>h2 x (List.mem_cons_of_mem _ hx))
   by_cases hp:p d=true
   ·have c:=h2 d (List.mem_cons_self ..) hp
    obtain⟨δ',q⟩:=ih (l++[e d]) (by simp;lia)
    refine⟨δ',?_⟩
    simp[bh,a.1,b,hp,aW,c,lt,q]
   ·obtain⟨δ',q⟩:=ih l (by lia)
    refine⟨δ',?_⟩
    simp[bh,a.1,b,hp,q]
@[simp] theorem mJ(l:List D):Out.run .val l=Pure.pure (.lst l):=id rfl
theorem Mx{ft:ao->DM Bool}{fe:ao->DM D}{x:Option D}{rest:ao}{ds:List D}(p:D->Bool)(e:D->D)(hl:ds.length≤1000000)(h1:∀d∈ds,ft (some d::rest)=Pure.pure (p d))(h2:∀d∈ds,p d=true->fe (some d::rest)=Pure.pure (e d)){β:Type}{k:ao×List D->DM β}{k':List D->DM β}(hk:∀q,k q=k' q.2) :
  (cJ (bh (gN 0) ft (aW fe) ds (x::rest) [])>>=k)=k' ((ds.filter p).map e):=by
 obtain⟨δ',q⟩:=xP (fg:=gN 0) (ft:=ft) (fe:=fe) (fun δ=>∃x,δ=x::rest) (fun d=>some d::rest) p e ds (x::rest) [] ⟨x,rfl⟩ (by simpa using hl) (fun d _ δ ⟨x,h⟩=>⟨by subst h;rfl,_,rfl⟩) h1 h2
 rw[q];simp[hk]
@[simp] theorem Pr(m:DM α):(m>>=fun a=>(Pure.pure a:DM α))=m:=by
 funext M
 show DM.bind m _ M=m M
 unfold DM.bind
 cases m M with
 |none=>rfl
 |some r=>obtain⟨r,M'⟩:=r;cases r<;>rfl
def fG:Option D->List D->Option D
 |x,[]=>x
 |_,d::ds=>fG (some d) ds
theorem kh:∀ (as bs:List Int),PyData.eqvAll (as.map .int) (bs.map .int)=decide (as=bs)
 |[],[]=>by simp[PyData.eqvAll]
 |[],b::bs=>by simp[PyData.eqvAll]
 |a::as,[]=>by simp[PyData.eqvAll]
 |a::as,b::bs=>by
   rw[List.map_cons,List.map_cons]
   simp only[PyData.eqvAll,PyData.eqv,kh as bs]
   by_cases h:a=b<;>by_cases h2:as=bs<;>simp[h,h2]
theorem ji:∀l:List Int,dN (l.map D.int)=some (l.map PyData.int)
 |[]=>rfl
 |i::l=>by simp[dN,toPy,ji l]
theorem lay_ints:∀l:List Int,PyData.canLayAll0 (l.map PyData.int)=true
 |[]=>rfl
 |i::l=>by simp[PyData.canLayAll0,PyData.canLay0,lay_ints l]
theorem iZ:∀ l:List Int,PyData.depthAll (l.map PyData.int)≤1
 |[]=>by simp[PyData.depthAll]
 |i::l=>by
   have:=iZ l
   simp only[List.map_cons,PyData.depthAll,PyData.depth]
   lia
@[simp] theorem Nt(i j:Int):(rd (fO (.int i) (.int j)):DM D)=Pure.pure (.bl (decide (i=j))):=bY fun M=>by
 simp[fO,eqB,eqP,toPy,PyData.canLay0,PyData.depth,PyData.eqv]
 rw[Bool.eq_iff_iff];simp
@[simp] theorem NK(i j:Int):(rd (fU (.int i) (.int j)):DM D)=Pure.pure (.bl (!decide (i=j))):=bY fun M=>by
 simp[fU,eqB,eqP,toPy,PyData.canLay0,PyData.depth,PyData.eqv]
 rw[Bool.eq_iff_iff];simp
@[simp] theorem Qx(i j:Str):(rd (fO (.str i) (.str j)):DM D)=Pure.pure (.bl (decide (i=j))):=id rfl
@[simp] theorem NP(i j:Str):(rd (fU (.str i) (.str j)):DM D)=Pure.pure (.bl (!decide (i=j))):=id rfl
theorem xg(a b:List Int):eqB (.tup (a.map D.int)) (.tup (b.map D.int))=some (decide (a=b)):=by
 have:=iZ a
 have h:∀n,n≤1->1+n≤60:=fun n h=>by lia
 simp only[eqB,eqP,toPy,ji,Option.map_some,PyData.canLay0,lay_ints,PyData.depth,PyData.eqv,kh]
 simp
 lia
theorem qb(l:List Nat):nT l=.tup ((l.map fun n:Nat=>(n:Int)).map D.int):=by simp[nT,nD,Function.comp_def]
theorem m7{a b:List Nat}:(a.map fun n:Nat=>(n:Int))=(b.map fun n:Nat=>(n:Int)) ↔ a=b:=List.map_inj_right fun x y (h:(x:Int)=(y:Int))=>by lia
@[simp] theorem Qw(a b:List Nat):(rd (fO (nT a) (nT b)):DM D)=Pure.pure (.bl (decide (a=b))):=bY fun M=>by
 rw[qb,qb,fO,xg];simp[m7]
@[simp] theorem QB(a b:List Nat):(rd (fU (nT a) (nT b)):DM D)=Pure.pure (.bl (!decide (a=b))):=bY fun M=>by
 rw[qb,qb,fU,xg];simp[m7]
theorem zX:∀l:List Bool,gA (l.map D.bl)=some l
 |[]=>rfl
 |b::l=>by simp[gA,GQ,zX l]
@[simp] theorem pA(l:List Bool):(rd (mZ [.lst (l.map D.bl)]):DM D)=Pure.pure (.bl (l.all id)):=bY fun M=>by
 simp[mZ,aO,zX]
theorem Ed:∀ l:List Nat,gA (l.map nD)=some (l.map fun n=>n != 0)
 |[]=>rfl
 |b::l=>by
   simp only[List.map_cons,gA,Ed l,nD,GQ]
   congr 2
   rw[Bool.eq_iff_iff];simp
@[simp] theorem Qj(l:List Nat):(rd (JD [nT l]):DM D)=Pure.pure (.bl (l.any (·!= 0))):=bY fun M=>by
 simp[JD,nT,Ed,List.any_map]
theorem cC(h:∀M,tyOf d M=some t)(hc:tys.contains c=true):(rd (f9 [d,.ty c]):DM D)=Pure.pure (.bl (Bt t c)):=bY fun M=>by
 simp only[f9,h M,Option.bind_some,hc,if_true]
@[simp] theorem Qo(b:Bool):(rd (iR (.bl b)):DM Bool)=Pure.pure b:=id rfl
def Pg(d:D):Prop:=∃s,(rd (wu [d]):DM D)=Pure.pure (.str s)
theorem DY {l:List Int} (h:∀ i∈l,i.natAbs<2 ^ 1000):PyData.showableAll (l.map PyData.int)=true:=by
 induction l with
 |nil=>rfl
 | cons i l ih=>
   have h0:=h i (by simp)
   have:i.natAbs.log2<1920:=by
    rcases Nat.eq_zero_or_pos i.natAbs with z | z
    ·rw[z];decide
    ·exact Nat.lt_of_lt_of_le ((Nat.log2_lt (by lia)).mpr h0) (by decide)
   simp[PyData.showableAll,PyData.showable,this,ih fun i hi=>h i (by simp[hi])]
@[simp] theorem Qq(l m:List D):uY [.tup l,.tup m]=some (.fix (pairs l m)):=id rfl
def Rn{α:Type}(m:DM α)(M:Mo)(Q:α->Mo->Prop):Prop:=∃a M',m M=some (.ok a,M')∧Q a M'
theorem Rn.bind(h:Rn m M Q1)(k:∀a M',Q1 a M'->Rn (f a) M' Q):Rn (m>>=f) M Q:=by
 obtain⟨a,M',e,q⟩:=h
 obtain⟨b,M2,e2,q2⟩:=k a M' q
 refine⟨b,M2,?_,q2⟩
 show DM.bind m f M=_
 unfold DM.bind
 rw[e];exact e2
theorem Rn.pure(q:Q a M):Rn (Pure.pure a) M Q:=⟨a,M,rfl,q⟩
theorem Rn.mono{α:Type}{m:DM α}{Q R:α->Mo->Prop}(h:Rn m M Q)(k:∀a M',Q a M'->R a M'):Rn m M R:=by
 obtain⟨a,M',e,q⟩:=h
 exact⟨a,M',e,k a M' q⟩
theorem Rn.rd(h:f M=some a)(q:Q a M):Rn (L3.rd f) M Q:=⟨a,M,by unfold L3.rd;rw[h];rfl,q⟩
theorem Rn.bindRd(a:α)(h:f M=some a)(q:Rn (k a) M Q):Rn (L3.rd f>>=k) M Q:=Rn.bind (Rn.rd h (Q:=fun b M'=>b=a∧M'=M) ⟨rfl,rfl⟩) (fun b M' ⟨e1,e2⟩=>by rw[e1,e2];exact q)
theorem Rn.call(hp:ds.length=p)(h:Rn (fb (bz n ds)) M fun r M'=>∃d,r=.rt d∧Q d M'):Rn (aJ p n fb ds) M Q:=by
 unfold aJ
 rw[if_pos hp]
 refine Rn.bind h fun r M' ⟨d,e,q⟩=>?_
 subst e
 exact Rn.pure q
structure Sb(p:Nat)(M M':Mo):Prop where
 le:M.length≤M'.length
 keep:∀q,q≠p->q<M.length->M'[q]?=M[q]?
theorem Sb.refl:Sb p M M:=⟨Nat.le_refl _,fun _ _ _=>rfl⟩
theorem Sb.trans(h:Sb p M M1)(k:Sb p M1 M2):Sb p M M2:=⟨Nat.le_trans h.le k.le,fun q hq hl=>(k.keep q hq (Nat.lt_of_lt_of_le hl h.le)).trans (h.keep q hq hl)⟩
theorem Sb.set:Sb p M (M.set p o):=⟨by simp,fun q hq hl=>List.getElem?_set_ne (fun z=>hq z.symm)⟩
theorem Sb.push:Sb p M (M++[o]):=⟨by simp,fun q hq hl=>List.getElem?_append_left hl⟩
theorem Sb.at(h:Sb p M M')(hq:q≠p)(e:M[q]?=some o):M'[q]?=some o:=(h.keep q hq (List.getElem?_eq_some_iff.mp e).1).trans e
theorem Sb.new(h:M'.length=M.length∨M.length≤M'.length)(hq:M.length≤q)(k:Sb q M' M2)(h1:Sb p M M'):Sb p M M2:=⟨Nat.le_trans h1.le k.le,fun r hr hl=>(k.keep r (by lia) (Nat.lt_of_lt_of_le hl h1.le)).trans (h1.keep r hr hl)⟩
theorem Ij(h:l.length≤1000000):dM l M=some (.ok (.ref M.length),M++[.lst l]):=by
 have:dH l=true:=by unfold dH;exact decide_eq_true (by show l.length≤2^24;lia)
 unfold dM
 rw[if_pos this]
theorem Rn.dM(h:l.length≤1000000)(q:Rn (k (.ref M.length)) (M++[.lst l]) Q):Rn (L3.dM l>>=k) M Q:=Rn.bind ⟨_,_,Ij h,(⟨rfl,rfl⟩:D.ref M.length=.ref M.length∧M++[.lst l]=M++[.lst l])⟩ (Q1:=fun a M'=>a=.ref M.length∧M'=M++[.lst l]) (fun a M' ⟨e1,e2⟩=>by rw[e1,e2];exact q)
theorem gb{n:Nat}{l:List D}{i:Nat}(h:M[n]?=some (.lst l))(hi:l[i]?=some a):dg (.ref n) (.int (i:Int)) M=some a:=by
 show (aO (.ref n) M).bind _=_
 simp only[aO,h,Option.bind_some]
 exact oR hi
theorem Ku(h:i<n):ixN n (i:Int)=some i:=by
 unfold ixN
 rw[if_pos (by lia),if_pos (by lia)];simp
theorem eO{n:Nat}{l:List D}{i:Nat}(h:M[n]?=some (.lst l))(hi:i<l.length):jP (.ref n) (.int (i:Int)) v M=some (.ok (),M.set n (.lst (l.set i v))):=by
 delta jP
 dsimp only
 rw[h]
 dsimp only
 rw[Ku hi]
theorem pU(h:M[n]?=some (.lst l))(hl:l.length<1000000):Er (.ref n) [v] M=some (.ok .non,M.set n (.lst (l++[v]))):=by
 have:l.length<sizeLine:=by show l.length<2^24;lia
 delta Er
 dsimp only
 rw[h]
 dsimp only
 rw[if_pos this]
theorem Rn.run(h:m M=some (.ok a,M'))(q:Rn (k a) M' Q):Rn (m>>=k) M Q:=Rn.bind (Q1:=fun b M2=>b=a∧M2=M') ⟨a,M',h,rfl,rfl⟩ (fun b M2 ⟨e1,e2⟩=>by rw[e1,e2];exact q)
theorem dm (I:Nat->ao->Mo->Prop):∀ (ds:List D) (i:Nat) (δ:ao) (M:Mo),I i δ M->(∀ j d δ M,ds[j]?=some d->I (i + j) δ M->Rn (tg d δ >>= fb) M fun r M'=>∃ δ',r=.nx δ'∧I (i + j + 1) δ' M')->Rn (forL tg fb ds δ) M fun r M'=>∃ δ',r=.nx δ'∧I (i + ds.length) δ' M'
 |[],i,δ,M,h,_=>Rn.pure ⟨δ,rfl,h⟩
 | d::ds,i,δ,M,h,st=>by
   have s:=st 0 d δ M rfl h
   have e:forL tg fb (d::ds) δ=(tg d δ>>=fb)>>=fun r=>match r with
    |.nx δ2=>forL tg fb ds δ2
    |.ct δ2=>forL tg fb ds δ2
    |.bk δ2=>Pure.pure (.nx δ2)
    |.rt d=>Pure.pure (.rt d):=by rw[aB];rfl
   rw[e]
   refine Rn.bind s fun r M' ⟨δ',e,h'⟩=>?_
   subst e
   have ih:=dm I ds (i+1) δ' M' h' (fun j d δ M hj hI=>by
    have:=st (j+1) d δ M (by simpa using hj) (by rw[show i+(j+1)=i+1+j by lia];exact hI)
    rw[show i+1+j+1=i+(j+1)+1 by lia];exact this)
   rw[show i+(d::ds).length=i+1+ds.length by simp;lia]
   exact ih
section
variable{X:Cx}{E:XK}
theorem CN:PGet X (fun x y H Q=>∃p xs i v,x=.ref p∧y=.int i∧0≤i∧SqL X.K H p xs∧atI xs i=some v∧Q v H):=by
 intro pins s σ H x y ov iv Q I rx ry h
 obtain⟨p,xs,i,z,rfl,rfl,h0,hq,he,q⟩:=h
 cases rx
 obtain⟨t,rfl⟩:=ry
 obtain⟨its,r,pl,hz⟩:=I.list hq
 obtain⟨j,h1,h2,h3,h4,h5⟩:=atI_get he
 obtain⟨w,ew,rw'⟩:=r.get h2
 have hl:=r.length
 have hn:=line63
 have fin:EP X pins σ Q w s:=⟨z,H,I,rw',q⟩
 have hj:i.toNat=j:=by
  rw[seqIndex_of h0 h5] at h1
  exact Option.some.inj h1
 exact wpAny_getItem_list pl.isList h0 (by lia) (by rw[hj];simpa using ew) fin
def Hk:D->D->Mo->Option D
 |x,.int i,M=>if 0≤i then (aO x M).bind fun l=>atI l i else none
 |_,_,_=>none
theorem MJ:PGet X (rD X.mg E (fun x y=>rd (Hk x y))):=by
 intro pins s σ H x y ov iv Q I rx ry h
 obtain⟨ρ,M,dx,dy,j,cx,cy,go⟩:=h
 obtain⟨d,e,p⟩:=go.rd
 unfold Hk at e
 split at e
 ·cases cy
  split at e
  ·rename_i h0
   obtain⟨l,h1,e1⟩:=Option.bind_eq_some_iff.mp e
   obtain⟨a,xs,rfl,ha,c⟩:=cA j cx h1
   obtain⟨w,e2,cw⟩:=c.at e1
   exact CN (X:=X) pins s σ H _ _ ov iv Q I rx ry ⟨_,_,_,_,rfl,rfl,h0,SqL.of ha,e2,p ρ H _ .refl j cw⟩
  ·cases e
 ·cases e
theorem uv(ho:DE X E o fo)(hi:DE X E i fi)(hop:bZ X E (inplaceOp op) gop)(he:DE X E e fe)
  (ha:∀ov iv new,augStore i ov iv new=(do holding [new,ov,iv] (setItem ov iv new);release [new,ov,iv] [];pure .next):=by intros;rfl) :
  DS X E (.AugAssign (.Subscript o i tpos) op e pos) (fun δ=>fo δ>>=fun a=>fi δ>>=fun k=>rd (Hk a k)>>=fun x=>fe δ>>=fun y=>gop x y>>=fun z=>jP a k z>>=fun _=>pure (.nx δ)):=
 ⟨PS.mono (ps_augS (tip:=rD X.mg E gop) ho.h hi.h (MJ (E:=E)) he.h hop (lq (E:=E)) ha) fun D σ H h=>by
  obtain⟨ρ,δ,M,ev,j,g1⟩:=h
  refine⟨ρ,δ,M,ev,j,g1.bind fun ρ1 H1 M1 a da e1 j1 c1 g2=>⟨ρ1,δ,M1,ev.mono e1,j1,g2.bind fun ρ2 H2 M2 k dk e2 j2 c2 g3=>⟨ρ2,M2,da,dk,j2,c1.mono e2,c2,g3.bind fun ρ3 H3 M3 x dx e3 j3 c3 g4=>?_⟩⟩⟩
  have ev3:=((ev.mono e1).mono e2).mono e3
  refine⟨ρ3,δ,M3,ev3,j3,g4.bind fun ρ4 H4 M4 y dy e4 j4 c4 g5=>⟨ρ4,M4,dx,dy,j4,c3.mono e4,c4,g5.bind fun ρ5 H5 M5 z dz e5 j5 c5 g6=>?_⟩⟩
  refine⟨ρ5,M5,da,dk,dz,j5,(((c1.mono e2).mono e3).mono e4).mono e5,((c2.mono e3).mono e4).mono e5,c5,g6.bind fun ρ6 H6 M6 _ _ e6 j6 _ g7=>?_⟩
  exact g7.pure ρ6 H6 σ .refl j6 (((ev3.mono e4).mono e5).mono e6)⟩
end
end L3
namespace L3
open PySem PySem.Spec L2
open PyProof.Rows hiding St
theorem Ff{i:Nat}{cl:List (Str×Addr)}{own:List Str}{js:List Nat}{fr:List Str}{f0:List Expr}{gs:List Comprehension}{fi:ao->DM Itn}{fg:D->ao->DM ao}{ft:ao->DM Bool}{fb:ao->List D->DM (ao×List D)}
  {bodyK:Cx->Addr->Sem Fin->Sem Fin}{W:Cx->Addr->(Shared->Prop)->Shared->Prop} (o:Out) (hN:X.N.Nodup) (hi0:X.N[i]?=some x) (hx:Loc X.env.scope x) (hc:X.calm=true) (T:CompG X scope cl own js fr) (hi:DI X E t0 i0 fi)
  (hturn:∀(Y:Cx) it acc,compTurn (.ListComp elt (⟨t0,i0,f0,0⟩::gs) scope pos) 0 (.ref it) (.ref acc) Y.env=turnOf ⟨t0,i0,f0,0⟩ (bodyK Y acc) (.compLoop (.ListComp elt (⟨t0,i0,f0,0⟩::gs) scope pos) 0 (.ref it) (.ref acc) Y.env) (.ref it) Y.env)
  (hW:∀Y acc,jU Y.prog Y.w Y.A (bodyK Y acc) (W Y acc)) (hmono:∀Y acc P P' s,(∀s,P s->P' s)->W Y acc P s->W Y acc P' s)
  (hg:∀pins m fp C s₂ H₂,DG (X.aY pins scope (cellsFrom m scope.names cl) (own++fr) fp C s₂ H₂) E0 t0 fg) (ht:∀pins m fp C s₂ H₂,DTs (X.aY pins scope (cellsFrom m scope.names cl) (own++fr) fp C s₂ H₂) E0 f0 ft)
  (hb:∀pins m fp C s₂ H₂ acc,BodyOk (X.aY pins scope (cellsFrom m scope.names cl) (own++fr) fp C s₂ H₂) acc (W (X.aY pins scope (cellsFrom m scope.names cl) (own++fr) fp C s₂ H₂) acc) fb)
  (hsw:swapsWith (.ListComp elt (⟨t0,i0,f0,0⟩::gs) scope pos) (some (.Name x px)) spos.line X.env=pure true:=by rfl)
  (hs:∀y,foldedSetIterable i0 X.env y=pure y:=by intro _;rfl) (hf:X.fn x=true∨X.env.scope.names.lookup x=some .local:=by first | exact .inl rfl | exact .inr rfl | assumption) :
  DS X E (.Assign [.Name x px] (.ListComp elt (⟨t0,i0,f0,0⟩::gs) scope pos) spos) (fun δ=>(fi δ>>=fun it=>cJ (cB fg ft fb it (aX own.length js δ) [])>>=fun p=>o.run p.2)>>=fun d=>pure (.nx (δ.set i (some d)))):=⟨by
 intro pins s σ H D I h
 obtain⟨ρ,δ,M,ev,j,g0⟩:=h
 let Q:VK:=fun v H'=>D.nx (σ.set i (some v)) H'
 have g1:Go X.mg E (Cv X.mg) Q ρ H (fi δ>>=fun it=>cJ (cB fg ft fb it (aX own.length js δ) [])>>=fun p=>o.run p.2) M:=g0.bind fun ρ1 H1 M1 v d e1 j1 c1 g2=>g2.pure ρ1 H1 _ .refl j1 ((ev.mono e1).set c1)
 rw[exec_Assign_Name_used _ _ _ _ hsw]
 refine wpAny_bind (wpAny_standAt (wpAny_bind ?_))
 show wpAny _ _ (do let _ ←comprehension (.ListComp elt (⟨t0,i0,f0,0⟩::gs) scope pos) scope X.env _ (newList []) false (eval i0 X.env) (some (assign (.Name x px) X.env))) _ _ s
 refine wpAny_bind (wpAny_mono (vq Beg.list (use:=some (assign (.Name x px) X.env)) (Qs:=fun _ s'=>∃v H',Inv X pins (σ.set i (some v)) H' s'∧Q v H') (.inl ⟨_,_,_,_,rfl⟩) rfl hc T hi hturn hW hmono hg ht (fun _ _ _ _ _ _ _ _ _=>hb _ _ _ _ _ _ _ _ _ (.head _)) hs I ev j g1 fun s2 H2 fp C m acc ρ1 lf Mf s' I2 f2 hA hC hfree nf c' g3=>?_) (fun _ s' ⟨v,H',I',q'⟩=>wpAny_pure (wpAny_pure ⟨_,H',I',q'⟩)) fun _ _ e=>e)
 obtain⟨δf,c'⟩:=c'
 obtain⟨σ4,H4,ρ4,_,I4,x4,j4,ev4,ha4,⟨ys,rfl,cl4⟩,fr4⟩:=c'.ex
 obtain⟨m4,hn4,_⟩:=I4.loc
 have hsb0:Heap.SameBut C s'.heap s'.heap:=⟨rfl,fun _ _=>rfl⟩
 have IO:Inv X pins σ H4 s':=I2.call' (s':=s') (ch:=fp) (I4.os) (Ei I4.base hsb0 hC) (zB I4.hok hsb0 I4.free) I4.bare (fun b hb=>by
  obtain⟨_,g2,g3,g4,g5,g6⟩:=f2 b hb
  exact⟨g4,g2,g5,g6⟩)
 obtain⟨fC1,fC2,fC3,fC4,fC5,fC6⟩:=I2.fpOk hC I4.free
 show wpAny _ _ (assign (.Name x px) X.env (.ref acc)) _ _ s'
 refine wpAny_assign_Name (store_ok2 IO hN hi0 hx (v:=.ref acc) rfl (fun s'' I'' hsb=>?_) hf)
 obtain⟨a,sb,ha⟩:=hsb
 have nC:C≠a:=by
  rcases ha with z | z
  ·rw[z];exact fC2
  ·exact fun e=>fC5 x a z e.symm
 exact⟨m4,hn4.sameBut sb nC,fun h' hsb'=>⟨.ref acc,H4,I''.turned (it:=C) (t':=s''.toks) (fun b o hb e=>hsb'.extBut b o hb e) fC1 fC2 fC4 (fun y c e=>fC5 y c e) fC6,o.fin hfree nf x4 j4 ha4 cl4 g3⟩⟩⟩
theorem jz{i:Nat}{cl:List (Str×Addr)}{own:List Str}{js:List Nat}{fr:List Str}{f0:List Expr}{fi:ao->DM Itn}{fg:D->ao->DM ao}{ft:ao->DM Bool}{fe:ao->DM D}
  (o:Out) (hN:X.N.Nodup) (hi0:X.N[i]?=some x) (hx:Loc X.env.scope x) (hc:X.calm=true) (T:CompG X scope cl own js fr) (hi:DI X E t0 i0 fi)
  (hg:∀pins m fp C s₂ H₂,DG (X.aY pins scope (cellsFrom m scope.names cl) (own++fr) fp C s₂ H₂) E0 t0 fg) (ht:∀pins m fp C s₂ H₂,DTs (X.aY pins scope (cellsFrom m scope.names cl) (own++fr) fp C s₂ H₂) E0 f0 ft)
  (he:∀pins m fp C s₂ H₂,DE (X.aY pins scope (cellsFrom m scope.names cl) (own++fr) fp C s₂ H₂) E0 elt fe)
  (hsw:swapsWith (.ListComp elt [⟨t0,i0,f0,0⟩] scope pos) (some (.Name x px)) spos.line X.env=pure true:=by rfl)
  (hs:∀y,foldedSetIterable i0 X.env y=pure y:=by intro _;rfl) (hf:X.fn x=true∨X.env.scope.names.lookup x=some .local:=by first | exact .inl rfl | exact .inr rfl | assumption) :
  DS X E (.Assign [.Name x px] (.ListComp elt [⟨t0,i0,f0,0⟩] scope pos) spos) (fun δ=>(fi δ>>=fun it=>cJ (cB fg ft (aW fe) it (aX own.length js δ) [])>>=fun p=>o.run p.2)>>=fun d=>pure (.nx (δ.set i (some d)))):=
 Ff (bodyK:=fun Y acc=>p6 elt (.ref acc) Y.env) (W:=fun Y acc P s=>wpAny (model Y.prog Y.w) Y.A (eval elt Y.env) (fun x s1=>wpAny (model Y.prog Y.w) Y.A (call (.builtin "list.append") [.ref acc,x]) (fun _ s2=>P s2) (fun _ _=>False) s1) (fun _ _=>False) s) o hN hi0 hx hc T hi
  (fun Y it acc=>Hz ..) (fun Y acc=>xf) (fun Y acc P P' s hp h=>wpAny_mono h (fun x s1 h1=>wpAny_mono h1 (fun _ s2 h2=>hp _ h2) fun _ _ z=>z) fun _ _ z=>z) hg ht (fun pins m fp C s₂ H₂ acc=>uy rfl (he ..)) hsw hs hf
end L3
namespace L3
open PySem PySem.Spec L2
structure OCls(K:PySem.W.Frag)(mg:Str->Option Value)(c:Str)(C:Addr)(fs:List Str):Prop where
 at_:mg c=some (.ref C)
 cls:L2.Cls K C
 no:∀f∈fs,NoAttr K C f
theorem rH:∀ {ns:List Str}{xs:List V}{ds:List D}{d:D},Cvs mg ρ H xs ds->(ns.zip ds).lookup f=some d->∃ v,(ns.zip xs).lookup f=some v∧Cv mg ρ H v d
 |[],_,_,_,_,e=>by simp at e
 |n::ns,_,_,_,.nil,e=>by simp at e
 |n::ns,_,_,d,.cons (v:=v) c cs,e=>by
   rw[List.zip_cons_cons,List.lookup_cons] at e ⊢
   split at e
   ·cases e;exact⟨v,rfl,c⟩
   ·exact rH cs e
def Ao (c f:Str):D->Mo->Option D
 |.obj k ns vs,_=>if k=c then (ns.zip vs).lookup f else none
 |.ref n,M=>match M[n]? with
   |some (.ins k ns vs)=>if k=c then (ns.zip vs).lookup f else none
   |_=>none
 |_,_=>none
theorem Ci (O:OCls K mg c C fs) (hf:f∈fs) (he:DE X E e fe)
  (hb:attributeBase e f X.env (eval e X.env)=eval e X.env:=by rfl) (hK:X.K=K:=by rfl) (hM:X.mg=mg:=by rfl):DE X E (.Attribute e f pos) (fun δ=>fe δ>>=fun x=>rd (Ao c f x)):=by
 subst hK hM
 refine⟨PE.mono (pe_fld he.h hb) fun σ H Q h=>?_⟩
 obtain⟨ρ,δ,M,ev,j,g1⟩:=h
 refine⟨ρ,δ,M,ev,j,g1.bind fun ρ1 H1 M1 x dx e1 j1 c1 g2=>?_⟩
 obtain⟨d,ed,q⟩:=g2.rd
 unfold Ao at ed
 split at ed
 ·split at ed
  ·rename_i hk
   subst hk
   cases c1 with
   |obj n m h l cs=>
     obtain⟨v,hv,cv⟩:=rH cs ed
     rw[O.at_] at m;cases m
     exact⟨_,_,_,_,v,rfl,h,O.cls,O.no f hf,hv,q ρ1 H1 _ .refl j1 cv⟩
  ·cases ed
 ·split at ed
  ·split at ed
   ·rename_i hm hk
    subst hk
    cases c1 with
    |ref hn=>
      obtain⟨C',dx',xs,m,h,l,cs⟩:=j1.obj _ _ _ hn hm
      obtain⟨v,hv,cv⟩:=rH cs ed
      rw[O.at_] at m;cases m
      exact⟨_,_,_,_,v,rfl,h,O.cls,O.no f hf,hv,q ρ1 H1 _ .refl j1 cv⟩
   ·cases ed
  ·cases ed
 ·cases ed
def vZ:List D->Mo->Option (List D)
 |[.int j],_=>if -(2^62)≤j∧j≤2^20 then some ((List.range j.toNat).map nD) else none
 |_,_=>none
theorem zm:∀l:List Nat,Cvs mg ρ H (l.map fun i:Nat=>V.int (i:Int)) (l.map nD)
 |[]=>.nil
 |n::l=>.cons (.int _) (zm l)
section
variable{X:Cx}{E:XK}{a:Expr}{fa:ao->DM (List D)}{p1 p2 pos1 pos2:Pos}
theorem Ck (hc:X.calm=true) (hmL:X.mg "list"=none) (hm:X.mg "range"=none) (ha:DA X E [a] fa) (hgL:Gl X "list":=by rfl) (hg:Gl X "range":=by rfl) (hs:notStar a=true:=by rfl) :
  DE X E (.Call (.Name "list" p1) [.Call (.Name "range" p2) [a] [] pos2] [] pos1) (fun δ=>fa δ>>=fun l=>rd (fun M=>(vZ l M).map D.lst)):=⟨PE.mono (Dq hc hgL hmL hg hm ha.h.h hs) fun σ H Q h=>by
 obtain⟨ρ,δ,M,ev,j,g1⟩:=h
 refine⟨ρ,δ,M,ev,j,g1.bind fun ρ1 H1 M1 xs ds e1 j1 c1 g2=>?_⟩
 obtain⟨d,ed,q⟩:=g2.rd
 obtain⟨l,el,rfl⟩:=Option.map_eq_some_iff.mp ed
 unfold vZ at el
 split at el
 ·split at el
  ·rename_i hb
   cases el
   obtain⟨v,rfl,k⟩:=c1.one
   cases k
   exact⟨_,rfl,hb.2,hb.1,fun p hp=>q ρ1 _ _ (.lay hp) (j1.lay _ hp) (.lst (j1.fresh hp) upd_same (zm _))⟩
  ·cases el
 ·cases el⟩
end
section
variable{X:Cx}{E:XK}
def Av:List D->Mo->Option D
 |[.bl b],_=>some (.int (if b then 1 else 0))
 |_,_=>none
theorem Ca:CallR X (.type "int") (fun xs H Q=>∃ b,xs=[.bl b]∧Q (.int (if b then 1 else 0)) H):=by
 intro pins s σ H xs us Q I rs h
 obtain⟨b,rfl,q⟩:=h
 cases rs with
 |cons r rr=>
   cases rr
   cases r
   exact call_int_bool ⟨.int (if b then 1 else 0),H,I.tok _,⟨_,rfl⟩,q⟩
theorem Ag:CallD X E (.type "int") (fun l=>rd (Av l)):=CallD.of Ca fun vs H Q ρ M ds d j c e q=>by
 unfold Av at e
 split at e
 ·cases e
  obtain⟨v,rfl,k⟩:=c.one
  cases k
  exact⟨_,rfl,q ρ H _ .refl j (.int _)⟩
 ·cases e
end
theorem cI (I:Nat->ao->List D->Mo->Prop):∀ (ds:List D) (i:Nat) (δ:ao) (l:List D) (M:Mo),I i δ l M->
  (∀j d δ l M,ds[j]?=some d->I (i+j) δ l M->Rn (fg d δ>>=fun δ1=>ft δ1>>=fun b=>if b then fb δ1 l else Pure.pure (δ1,l)) M fun p M'=>I (i+j+1) p.1 p.2 M')->Rn (bh fg ft fb ds δ l) M fun p M'=>I (i+ds.length) p.1 p.2 M'
 |[],i,δ,l,M,h,_=>Rn.pure h
 | d::ds,i,δ,l,M,h,st=>by
   have s:=st 0 d δ l M rfl h
   have e:bh fg ft fb (d::ds) δ l=(fg d δ>>=fun δ1=>ft δ1>>=fun b=>if b then fb δ1 l else Pure.pure (δ1,l))>>=fun p=>bh fg ft fb ds p.1 p.2:=by
    rw[aB]
    show (fg d δ>>=fun δ1=>ft δ1>>=fun b=>(if b then fb δ1 l else Pure.pure (δ1,l))>>=fun p=>bh fg ft fb ds p.1 p.2)=_
    congr 1
    funext δ1
    rw[aB]
   rw[e]
   refine Rn.bind s fun p M' h'=>?_
   have ih:=cI I ds (i+1) p.1 p.2 M' h' (fun j d δ l M hj hI=>by
    have:=st (j+1) d δ l M (by simpa using hj) (by rw[show i+(j+1)=i+1+j by lia];exact hI)
    rw[show i+1+j+1=i+(j+1)+1 by lia];exact this)
   rw[show i+(d::ds).length=i+1+ds.length by simp;lia]
   exact ih
theorem cU(h:Rn m M Q):Rn (cJ m) M Q:=by
 obtain⟨a,M',e,q⟩:=h
 exact⟨a,M',by unfold cJ;rw[e],q⟩
theorem uC{n:Nat}{l:List D}{i:Nat}(h:M[n]?=some (.lst l))(hi:l[i]?=some a):Hk (.ref n) (.int (i:Int)) M=some a:=by
 show (if (0:Int)≤(i:Int) then (aO (.ref n) M).bind _ else none)=_
 rw[if_pos (by lia)]
 simp only[aO,h,Option.bind_some]
 exact oR hi
theorem rN(hn:n≤1000)(q:Rn (k (.ref M.length)) (M++[.lst ((List.replicate n 0).map nD)]) Q):Rn (Ba (.lst [.int 0]) (nD n)>>=k) M Q:=by
 have e:rM (.lst [.int 0]) (nD n) M=some ((List.replicate n 0).map nD):=by
  show Bm [.int 0] (n:Int)=_
  unfold Bm
  rw[if_pos (decide_eq_true ⟨by lia,by lia,by show _≤2^24;simp;lia⟩)]
  congr 1
  simp[List.flatten_replicate_singleton,nD]
 show Rn ((rd (rM (.lst [.int 0]) (nD n))>>=dM)>>=k) M Q
 rw[aB]
 refine Rn.bindRd _ e ?_
 exact Rn.dM (by simp;lia) q
end L3
namespace L3
open PySem PySem.Spec L2
open PyProof.Rows hiding St
def putN(f:Str):List Str->List Str
 |[]=>[f]
 |g::r=>if g=f then g::r else g::putN f r
def jE{α:Type}(f:Str)(v:α):List Str->List α->List α
 |[],_=>[v]
 |g::r,x::xs=>if g=f then v::xs else x::jE f v r xs
 |_::_,[]=>[]
theorem yo (f:Str) (v:V):∀ (ns:List Str) (xs:List V),ns.length=xs.length->putF f v (ns.zip xs)=(putN f ns).zip (jE f v ns xs)
 |[],[],_=>rfl
 |g::r,x::xs,h=>by
   show putF f v ((g,x)::r.zip xs)=_
   unfold putF putN jE
   by_cases e:g=f
   ·rw[if_pos e,if_pos e,if_pos e];rfl
   ·rw[if_neg e,if_neg e,if_neg e,yo f v r xs (by simpa using h)];rfl
theorem yq (f:Str) (v:α):∀ (ns:List Str) (xs:List α),ns.length=xs.length->(putN f ns).length=(jE f v ns xs).length
 |[],[],_=>rfl
 |g::r,x::xs,h=>by
   unfold putN jE
   by_cases e:g=f
   ·rw[if_pos e,if_pos e];simpa using h
   ·rw[if_neg e,if_neg e,List.length_cons,List.length_cons,yq f v r xs (by simpa using h)]
theorem Cvs.put (c:Cv mg ρ H v d):∀ (ns:List Str) {xs:List V}{ds:List D},Cvs mg ρ H xs ds->Cvs mg ρ H (jE f v ns xs) (jE f d ns ds)
 |[],_,_,_=>.cons c .nil
 |g::r,_,_,.nil=>.nil
 |g::r,_,_,.cons h t=>by
   unfold jE
   by_cases e:g=f
   ·rw[if_pos e,if_pos e];exact .cons c t
   ·rw[if_neg e,if_neg e];exact .cons h (Cvs.put c r t)
def wz (c f:Str) (o d:D):DM Unit:=fun M=>match o with
 |.ref n=>match M[n]? with
   |some (.ins k ns vs)=>if k=c∧ns.length=vs.length∧ns.length<1000 then some (.ok (),M.set n (.ins k (putN f ns) (jE f d ns vs))) else none
   |_=>none
 |_=>none
section
variable{X:Cx}{E:XK}
theorem Cw {K:PySem.W.Frag}{mg:Str->Option Value}{c f:Str}{C:Addr}{fs:List Str}{o value:Expr}{fo fv:ao->DM D}{pos pos':Pos} (O:OCls K mg c C fs) (hf:f∈fs) (ho:DE X E o fo) (hv:DE X E value fv)
  (hs:swapsWith value (some (.Attribute o f pos')) pos.line X.env=pure false:=by rfl) (hK:X.K=K:=by rfl) (hM:X.mg=mg:=by rfl) :
  DS X E (.Assign [.Attribute o f pos'] value pos) (fun δ=>fv δ>>=fun d=>fo δ>>=fun o=>wz c f o d>>=fun _=>pure (.nx δ)):=by
 subst hK hM
 refine⟨PS.mono (ps_fld ho.h hv.h hs) fun D σ H h=>?_⟩
 obtain⟨ρ,δ,M,ev,j,g1⟩:=h
 refine⟨ρ,δ,M,ev,j,g1.bind fun ρ1 H1 M1 y dy e1 j1 c1 g2=>⟨ρ1,δ,M1,ev.mono e1,j1,g2.bind fun ρ2 H2 M2 x dx e2 j2 c2 g3=>?_⟩⟩
 obtain⟨r,e,p⟩:=g3
 have e:DM.bind _ _ M2=some r:=e
 unfold DM.bind wz at e
 cases dx with
 | ref n=>
   dsimp only at e
   cases c2 with | ref hn=>
   rename_i a
   cases hm:M2[n]? with
   |none=>rw[hm] at e;cases e
   | some u=>
     rw[hm] at e
     cases u with
     |lst l=>cases e
     |dic ks l=>cases e
     |pdc ks l=>cases e
     | ins k ns vs=>
       dsimp only at e
       split at e
       ·cases e
       ·rename_i he;split at he<;>cases he
       ·rename_i he
        split at he
        ·rename_i hk
         obtain⟨rfl,hl,hz⟩:=hk
         cases he
         cases e
         obtain⟨C',dx',xs,m,hx,l,cs⟩:=j2.obj _ _ _ hn hm
         rw[O.at_] at m;cases m
         have c1':=c1.mono e2
         have x:Ext ρ2 H2 ρ2 (upd H2 a (.ins C dx' (putF f y (ns.zip xs)))):=.upd (List.mem_of_getElem? hn)
         refine⟨a,C,dx',_,rfl,hx,O.cls,O.no f hf,?_,?_⟩
         ·rw[List.length_zip];lia
         refine p ρ2 _ σ x (j2.upd hn ?_) (((ev.mono e1).mono e2).mono x)
         refine⟨C,dx',jE f y ns xs,O.at_,by rw[upd_same,yo f y ns xs l],yq f y ns xs l,?_⟩
         exact (Cvs.put c1' ns cs).mono x
        ·cases he
 |_=>cases e
end
structure MethD(P:Program)(w:World)(K:PySem.W.Frag)(mg:Str->Option Value)(base:Heap)(k:Nat)(c x qual:Str)(st:Stmt)(ps:List Str)(F:List D->DM D):Prop where
 ex:∃C f fd,mg c=some (.ref C)∧FnOk P w K mg base (cj P w) k f fd ps (yK mg F)∧Fun K x qual st f fd∧PySem.W.findIn K (.ref C) x=some (some (.ref f))∧PySem.W.isFn K (.ref f)=true∧L2.Cls K C
structure DefK(P:Program)(w:World)(K:PySem.W.Frag)(mg:Str->Option Value)(base:Heap)(k:Nat)(x:Str)(st:Stmt)(ps:List Str)(F:List D->DM D):Prop where
 ex:∃f fd,FnOk P w K mg base (cj P w) k f fd ps (yK mg F)∧Fun K x x st f fd∧mg x=some (.ref f)
section
variable{P:Program}{w:World}{K:PySem.W.Frag}{mg:Str->Option Value}{base:Heap}{k:Nat}{C:Addr}{c x qual:Str}{N ps:List Str}{st:Stmt}{fb:ao->DM Fl}{f:Addr}{fd:FuncData}{is:List Int}
theorem J9 (F:Fun K x qual st f fd) (S:FnScope N ps (defScope st))
  (hbody:∀(f:Addr) (cdv:Value) (A:Around) (outer:List Env) (s:Shared) (H:Hp) (E:XK),Room k (A.deeper (envOfC qual (defScope st) s.heap.objs.size f cdv))->
    DSs (bO P w K mg base N qual (defScope st) f cdv A outer s H E) E (defBody st) fb):FnOk P w K mg base (cj P w) (k+1) f fd ps (yK mg (aJ ps.length N.length fb)):=by
 refine OJ F S (fun vs H Q E h=>?_) fun cdv A outer s H vs Q E hr h=>?_
 ·obtain⟨ρ,M,ds,c,j,g⟩:=h
  rw[c.len];exact (bA.aJ g).1
 obtain⟨ρ,M,ds,c,j,g⟩:=h
 exact⟨_,(hbody f cdv A outer s H E hr).h,ρ,_,M,gD c,j,(bA.aJ g).2⟩
theorem MethAt.okD (T:MethAt K C x qual st) (m:mg c=some (.ref C)) (cl:L2.Cls K C) (S:FnScope N ps (defScope st))
  (hbody:∀(f:Addr) (cdv:Value) (A:Around) (outer:List Env) (s:Shared) (H:Hp) (E:XK),Room k (A.deeper (envOfC qual (defScope st) s.heap.objs.size f cdv))->
    DSs (bO P w K mg base N qual (defScope st) f cdv A outer s H E) E (defBody st) fb):MethD P w K mg base (k+1) c x qual st ps (aJ ps.length N.length fb):=by
 obtain⟨f,fd,F,a,n⟩:=T.ex
 exact⟨C,f,fd,m,J9 F S hbody,F,a,n,cl⟩
theorem DefAt.KY (T:DefAt K mg x st) (S:FnScope N ps (defScope st))
  (hbody:∀(f:Addr) (cdv:Value) (A:Around) (outer:List Env) (s:Shared) (H:Hp) (E:XK),Room k (A.deeper (envOfC x (defScope st) s.heap.objs.size f cdv))->
    DSs (bO P w K mg base N x (defScope st) f cdv A outer s H E) E (defBody st) fb):DefK P w K mg base (k+1) x st ps (aJ ps.length N.length fb):=by
 obtain⟨f,fd,F,m⟩:=T.ex
 exact⟨f,fd,J9 F S hbody,F,m⟩
end
structure DKw(X:Cx)(E:XK)(kws:List Keyword)(f:ao->DM (List D)):Prop where
 h:PK X kws (tD X.mg E (Cvs X.mg) f)
theorem PK.mono(h:PK X e t)(f:∀σ H Q,t' σ H Q->t σ H Q):PK X e t':=fun p pins s σ H Q I q=>h p pins s σ H Q I (f σ H Q q)
section
variable{X:Cx}{E:XK}{j k:Nat}{ps:List Str}{F:List D->DM D}{c m x qual:Str}{st:Stmt}{p pos apos kpos:Pos}{a e o:Expr}{es:List Expr}{fa fo:ao->DM D}{fs fk:ao->DM (List D)}{kws:List Keyword}{nm:Option Str}{ks:List Str}
theorem J1:DKw X E [] (fun _=>pure []):=⟨PK.mono pk_nil fun σ H Q h=>by
 obtain⟨ρ,δ,M,ev,j,g⟩:=h
 exact g.pure ρ H [] .refl j .nil⟩
theorem Oz(ha:DE X E a fa)(hr:DKw X E kws fs):DKw X E (⟨nm,a,kpos⟩::kws) (fun δ=>fa δ>>=fun x=>fs δ>>=fun xs=>pure (x::xs)):=⟨PK.mono (pk_cons ha.h hr.h) fun σ H Q h=>by
 obtain⟨ρ,δ,M,ev,j,g1⟩:=h
 exact⟨ρ,δ,M,ev,j,g1.bind fun ρ1 H1 M1 x dx e1 j1 c1 g2=>⟨ρ1,δ,M1,ev.mono e1,j1,g2.bind fun ρ2 H2 M2 xs dxs e2 j2 c2 g3=>g3.pure ρ2 H2 _ .refl j2 (.cons (c1.mono e2) c2)⟩⟩⟩
def gK{α:Type}(n:Nat)(us ws:List α):List α:=if ws.length=n then us++ws else []
theorem Ky {K:PySem.W.Frag}{f:Addr}{fd:FuncData} (B:Fun K x qual st f fd) (h0:0<ps.length)
  (hb:∀(kV doc pm:Value) (an:Option Addr) (cdv ct:Value) (us ws:List Value),ws.length=ks.length->us.length+ks.length=ps.length->bindArgs (PySem.W.fnOf x qual (defArgs st) (defBody st) (defScope st) .none kV doc pm an cdv ct) ⟨us,ks.zip ws⟩=pure (ps.zip (us++ws))):KBinds K fd ps ks (gK ks.length) (gK ks.length):=by
 obtain⟨oc,od,kV,doc,pm,an,cdv,ct,osl,rfl,lk,hcd⟩:=B.ex
 refine⟨fun s us ws _ hl=>?_,fun r r'=>?_⟩
 ·unfold gK at hl ⊢
  split at hl
  ·rename_i hw
   rw[if_pos hw]
   rw[List.length_append] at hl
   exact .of_eq (hb kV doc pm an cdv ct us ws hw (by lia))
  ·simp at hl;lia
 ·unfold gK
  rw[r'.length]
  split
  ·exact r.append r'
  ·exact .nil
theorem Ft(T:DefK X.prog X.w X.K X.mg X.base j x st ps F)(hr:Room k X.A)(hx:Passes (cj X.prog X.w) X E)(ha:DA X E (e::es) fs)(hkw:DKw X E kws fk)
  (hb:∀(kV doc pm:Value) (an:Option Addr) (cdv ct:Value) (us ws:List Value),ws.length=ks.length->us.length+ks.length=ps.length->bindArgs (PySem.W.fnOf x x (defArgs st) (defBody st) (defScope st) .none kV doc pm an cdv ct) ⟨us,ks.zip ws⟩=pure (ps.zip (us++ws)))
  (hjk:j≤k:=by decide) (h0:0<ps.length:=by decide) (hg:Gl X x:=by rfl) (hall:(backToKw pos (keywordEach kws X.env)).all (·.1.isSome)=true:=by rfl) (hks:(backToKw pos (keywordEach kws X.env)).filterMap (·.1)=ks:=by rfl)
  (hdb:(x==("__debug__":Str))=false:=by decide) (he:notStar e=true:=by rfl)
  (hpl:((backTo pos (starEach (e::es) X.env)).any (·.1) || (backToKw pos (keywordEach kws X.env)).any (·.1.isNone))=false:=by rfl) :
  DE X E (.Call (.Name x p) (e::es) kws pos) (fun δ=>fs δ>>=fun ds=>fk δ>>=fun dk=>if dk.length=ks.length then F (ds++dk) else stuck):=by
 obtain⟨f,fd,G,B,m⟩:=T.ex
 refine⟨PE.mono (pe_callK G (hr.mono hjk) hg m B.kp (Ky B h0 hb) hx ha.h.h hkw.h hall hks hdb (bC he) hpl) fun σ H Q h=>?_⟩
 obtain⟨ρ,δ,M,ev,j,g1⟩:=h
 refine⟨ρ,δ,M,ev,j,g1.bind fun ρ1 H1 M1 xs dxs e1 j1 c1 g2=>⟨ρ1,δ,M1,ev.mono e1,j1,g2.bind fun ρ2 H2 M2 zs dzs e2 j2 c2 g3=>?_⟩⟩
 split at g3
 ·rename_i hl
  unfold gK
  rw[if_pos (by rw[c2.len];exact hl)]
  exact⟨ρ2,M2,dxs++dzs,(c1.mono e2).append c2,j2,g3⟩
 ·obtain⟨r,e,_⟩:=g3;cases e
end
structure ClsD(P:Program)(w:World)(K:PySem.W.Frag)(mg:Str->Option Value)(base:Heap)(k:Nat)(c:Str)(F:List D->DM D):Prop where
 ex:∃C ps sp,MethC P w K mg base k C "__init__" ps sp∧PySem.W.makesIn K C=true∧PySem.W.keepIn K (.ref C)=true∧mg c=some (.ref C) ∧
  ∀ρ M H vs ds Q E,Cvs mg ρ H vs ds->J mg ρ M H->Go mg E (Cv mg) Q ρ H (F ds) M->∀x dx,H x=none->H dx=none->dx≠x->sp (.ref x::vs) (upd (upd H dx (.own x)) x (.ins C dx [])) (fun v H2=>v=.non∧Q (.ref x) H2) E
theorem HS(T:ClsD X.prog X.w X.K X.mg X.base j c F)(hr:Room k X.A)(hx:Passes (cj X.prog X.w) X E)(ha:DA X E (e::es) fs)(hjk:j+1≤k:=by decide)(hg:Gl X c:=by rfl)(hdb:(c==("__debug__":Str))=false:=by decide)
  (he:notStar e=true:=by rfl) (hpl:(backTo pos (starEach es X.env)).any (·.1)=false:=by rfl) :
  DE X E (.Call (.Name c p) (e::es) [] pos) (fun δ=>fs δ>>=F):=by
 obtain⟨C,ps,sp,G,mk,kc,m,h⟩:=T.ex
 refine⟨PE.mono (Gu G mk kc m hr hx ha.h hjk hg hdb he hpl) fun σ H Q z=>?_⟩
 obtain⟨ρ,δ,M,ev,j,g1⟩:=z
 refine⟨ρ,δ,M,ev,j,g1.bind fun ρ1 H1 M1 xs dxs e1 j1 c1 g2=>fun x dx h1 h2 h3=>?_⟩
 rw[List.append_nil]
 exact h ρ1 M1 H1 xs dxs Q E c1 j1 g2 x dx h1 h2 h3
def Om(c:Str):DM D:=fun M=>some (.ok (.ref M.length),M++[.ins c [] []])
section
variable{mg:Str->Option Value}{ρ:Rh}{H:Hp}{k:Nat}{M':Mo}
theorem Cvs.fz(hk:ρ.st.length=k){vs:List V}{ds:List D}(h:Cvs mg ρ H vs ds):Fzs M' k ds ds:=
 Cvs.rec (motive_1:=fun _ d _=>Fz M' k d d) (motive_2:=fun _ ds _=>Fzs M' k ds ds) .non .bl .int .str (fun _ _ _=>.tup) (fun _ _ _=>.lst) (fun _ _ _ _=>.dic) (fun _ _ _ _ _=>.obj) (fun _ _=>.scr _) (fun h=>.old (hk ▸ (List.getElem?_eq_some_iff.mp h).1)) (fun _=>.cls _) .ty .exn .nil (fun _ _=>.cons) h
theorem Cv.fz(hk:ρ.st.length=k){v:V}{d:D}(h:Cv mg ρ H v d):Fz M' k d d:=by cases Cvs.fz hk (.cons h .nil);assumption
theorem Cvs.fz_mem(hk:ρ.st.length=k){vs:List V}{ds:List D}(h:Cvs mg ρ H vs ds):∀d∈ds,Fz M' k d d:=h.ind (P:=fun _ ds=>∀d∈ds,Fz M' k d d) nofun fun a _ i d h=>(List.mem_cons.mp h).elim (fun e=>e ▸ a.fz hk) (i d)
theorem CK:∀{ds:List D},(∀d∈ds,Fz M' k d d)->Fzs M' k ds ds
 |[],_=>.nil
 |d::ds,h=>.cons (h d (by simp)) (CK fun e he=>h e (by simp[he]))
theorem J.fz(j:J mg ρ M H):Jw (M++[o]) M.length M:=by
 refine⟨rfl,fun n u h=>?_⟩
 have hn:=(List.getElem?_eq_some_iff.mp h).1
 refine⟨u,by rw[List.getElem?_append_left hn];exact h,?_⟩
 have hl:n<ρ.st.length:=by rw[j.len];exact hn
 have c:=j.obj n ρ.st[n] u (List.getElem?_eq_getElem hl) h
 cases u with
 |lst l=>obtain⟨xs,_,c⟩:=c;exact c.fz j.len
 |dic ks l=>obtain⟨xs,_,_,c⟩:=c;exact⟨rfl,c.fz j.len⟩
 |ins cc ns l=>obtain⟨C,dx,xs,_,_,_,c⟩:=c;exact⟨rfl,rfl,c.fz j.len⟩
 |pdc ks l=>obtain⟨xs,_,_,_,_,c⟩:=c;exact⟨rfl,c.fz j.len⟩
end
def Jz(c:Str)(Fi:List D->DM D)(ds:List D)(M:Mo)(r':R D×Mo):Prop:=
 (∃ns vs,Fi (.ref M.length::ds) (M++[.ins c [] []])=some (.ok .non,M++[.ins c ns vs])∧(∀d∈vs,d∈ds∨∃i,d=.int i)∧r'=(.ok (.obj c ns vs),M)) ∨
 (∃e o,Fi (.ref M.length::ds) (M++[.ins c [] []])=some (.exc e,M++[o])∧r'=(.exc e,M))
theorem Ox{P:Program}{w:World}{K:PySem.W.Frag}{mg:Str->Option Value}{base:Heap}{k:Nat}{c qual:Str}{st:Stmt}{ps:List Str}{Fi F':List D->DM D}(T:MethD P w K mg base k c "__init__" qual st ps Fi)
  (hb:∀(kV doc pm:Value) (an:Option Addr) (cdv ct:Value) (us:List Value),us.length=ps.length->bindArgs (PySem.W.fnOf "__init__" qual (defArgs st) (defBody st) (defScope st) .none kV doc pm an cdv ct) ⟨us,[]⟩=pure (ps.zip us))
  (hm:∀C,mg c=some (.ref C)->PySem.W.makesIn K C=true∧PySem.W.keepIn K (.ref C)=true) (hf:∀ds M r',F' ds M=some r'->Jz c Fi ds M r'):ClsD P w K mg base k c F':=by
 obtain⟨C,f,fd,mc,G,B,a,n,cl⟩:=T.ex
 refine⟨C,ps,_,⟨f,fd,G,B.binds hb,B.kp,a,n⟩,(hm C mc).1,(hm C mc).2,mc,fun ρ M H vs ds Q E cv j g x dx hx hdx hne=>?_⟩
 obtain⟨r',e,p⟩:=g
 have hx':upd H dx (.own x) x=none:=by rw[upd_ne (fun z=>hne z.symm)];exact hx
 have x1:Ext ρ H ρ (upd H dx (.own x)):=.lay hdx
 have j1:=j.lay (.own x) hdx
 have x2:Ext ρ (upd H dx (.own x)) (ρ.put x) (upd (upd H dx (.own x)) x (.ins C dx [])):=.put hx'
 have j2:J mg (ρ.put x) (M++[.ins c [] []]) (upd (upd H dx (.own x)) x (.ins C dx [])):=j1.put hx' ⟨C,dx,[],mc,upd_same,rfl,.nil⟩
 have hput:(ρ.put x).st[M.length]?=some x:=by
  show (ρ.st++[x])[M.length]?=some x
  rw[←j.len,List.getElem?_append_right (Nat.le_refl _)];simp
 refine⟨ρ.put x,M++[.ins c [] []],.ref M.length::ds,.cons (.ref hput) (cv.mono (x1.trans x2)),j2,?_⟩
 have sb:∀{ρ2 H2},Ext (ρ.put x) (upd (upd H dx (.own x)) x (.ins C dx [])) ρ2 H2->Sub ρ ρ2 M.length:=fun {ρ2 H2} y=>by
  obtain⟨τ,ht⟩:=y.pre
  exact⟨⟨[x]++τ,by rw[ht];show (ρ.st++[x])++τ=_;simp⟩,y.vo,j.len⟩
 have ex:∀{ρ2 H2},Ext (ρ.put x) (upd (upd H dx (.own x)) x (.ins C dx [])) ρ2 H2->Ext ρ H ρ H2:=fun {ρ2 H2} y=>⟨⟨[],by simp⟩,rfl,fun a h n=>absurd h n,fun b o hb hn=>y.keep b o (by
  have nx:b≠x:=ne_of_none hb hx
  have ndx:b≠dx:=ne_of_none hb hdx
  rw[upd_ne nx,upd_ne ndx];exact hb) (fun z=>by
  rcases List.mem_append.mp z with z | z
  ·exact hn z
  ·exact ne_of_none hb hx (List.mem_singleton.mp z))⟩
 rcases hf ds M r' e with ⟨ns,vs',e2,hv,rfl⟩ | ⟨er,o,e2,rfl⟩
 ·refine⟨_,e2,fun ρ2 H2 b y j3 cb=>?_⟩
  cases cb
  refine⟨rfl,p ρ H2 (.ref x) (ex y) (j3.freeze (sb y) j.len j.fz) ?_⟩
  have h3:ρ2.st[M.length]?=some x:=y.at hput
  obtain⟨C',dx',xs,m',hx3,l,cs⟩:=j3.obj M.length x (.ins c ns vs') h3 (by simp)
  refine .obj (j.fresh hx) m' hx3 l (Cvs.freeze (sb y) j3 (CK fun d hd=>?_) cs)
  rcases hv d hd with h | ⟨i,rfl⟩
  ·exact cv.fz_mem j.len d h
  ·exact .int i
 ·refine⟨_,e2,fun ρ2 H2 C2 y j3 m2=>?_⟩
  exact p ρ H2 C2 (ex y) (j3.freeze (sb y) j.len j.fz) m2
end L3
namespace L3
open PySem PySem.Spec L2 LS
theorem vC:∀ {l:List D}{ns:List Int},intsOf l=some ns->l=ns.map D.int
 |[],ns,e=>by cases e;rfl
 | d::l,ns,e=>by
   cases d with
   |int i=>
     simp only[intsOf,Option.map_eq_some_iff] at e
     obtain⟨ms,h,rfl⟩:=e
     rw[vC h];rfl
   |_=>simp[intsOf] at e
theorem wZ:∀ {ns:List Int}{xs:List V},Cvs mg ρ H xs (ns.map D.int)->xs=ns.map V.int
 |[],_,.nil=>rfl
 |n::ns,_,.cons a t=>by
   cases a
   rw[wZ t];rfl
end L3
namespace L3
open PySem PySem.Spec L2
theorem Aw(h:l.length=1):∃a,l=[a]:=match l,h with | [a],_=>⟨a,rfl⟩
theorem Ge(h:l.length=2):∃a b,l=[a,b]:=match l,h with | [a,b],_=>⟨a,b,rfl⟩
theorem Gf(h:l.length=3):∃a b c,l=[a,b,c]:=match l,h with | [a,b,c],_=>⟨a,b,c,rfl⟩
theorem Ax(h:l.length=4):∃a b c d,l=[a,b,c,d]:=match l,h with | [a,b,c,d],_=>⟨a,b,c,d,rfl⟩
end L3
namespace L2
open PySem PySem.Spec PyProof.Rows
end L2
namespace L3
open PySem PySem.Spec L2
end L3
namespace L2
open PySem PySem.Spec PyProof.Rows
def Oc(i j k:Nat)(ta:TA):TS:=fun D σ H=>ta σ H fun vs H1=>∃v w z,vs=[v,w,z]∧D.nx (((σ.set i (some v)).set j (some w)).set k (some z)) H1
theorem IV {kt k2 pt2} (hc:X.calm=true) (hN:X.N.Nodup) (hi:X.N[i]?=some x) (hj:X.N[j]?=some y) (hk:X.N[k]?=some z) (hij:i≠j) (hik:i≠k) (hjk:j≠k)
  (hx:X.env.scope.names.lookup x=some .local) (hy:X.env.scope.names.lookup y=some .local) (hz:X.env.scope.names.lookup z=some .local) (ha:PA X [a,b,c] ta)
  (hw:swappedStores [.Tuple [.Name x px,.Name y py,.Name z pz] kt pt] (.Tuple [a,b,c] k2 pt2) X.env=pure (some [x,y,z]))
  (hs:swapsWithSole [.Tuple [.Name x px,.Name y py,.Name z pz] kt pt] (.Tuple [a,b,c] k2 pt2) pos.line X.env=pure false:=by rfl) :
  PS X (.Assign [.Tuple [.Name x px,.Name y py,.Name z pz] kt pt] (.Tuple [a,b,c] k2 pt2) pos) (Oc i j k ta):=by
 intro pins s σ H D I h
 rw[exec_Assign_arm]
 refine wpAny_bind (wpAny_standAt ?_)
 rw[hs]
 refine wpAny_bind (wpAny_pure ?_)
 rw[if_neg (by decide)]
 refine wpAny_bind (Tuple_ (thn (ha _ pins s σ H _ I h) fun us s1 ⟨vs,H1,I1,r1,q1⟩=>?_))
 obtain⟨v,w,w3,e1,q1⟩:=q1
 subst e1
 obtain ⟨u1,u2,u3,rfl,rv,rw',rz⟩:∃ u1 u2 u3,us=[u1,u2,u3]∧RelV v u1∧RelV w u2∧RelV w3 u3:=by
  cases r1 with
  | cons p q=>
    cases q with
    | cons p' q'=>
      cases q' with
      |cons p2 q2=>
        cases q2
        exact⟨_,_,_,rfl,p,p',p2⟩
 refine wpAny_newObj_type ?_ (by show 3≤sizeLine;decide)
 have I2:Inv X pins σ H1 { s1 with heap:=s1.heap.push { cls:=.type "tuple",data:=.seq [u1,u2,u3].toArray } }:=I1.kept (t':=s1.toks) fun b o e=>Heap.get?_push_of_some _ e
 rw[hw]
 refine wpAny_bind (wpAny_pure ?_)
 show wpAny (model X.prog X.w) X.A (do rule "assign.swapped-stores";let items ←unpackItems (.ref s1.heap.objs.size) 3 none;assignInOrder [fun v=>bindName X.env z v,fun v=>bindName X.env y v,fun v=>bindName X.env x v] items.reverse;pure Flow.next) _ _ _
 refine wpAny_bind (wpAny_rule (wpAny_bind (unpackItems_tuple (items:=#[u1,u2,u3]) (I.ok.hd hc) (IsTup.new s1.heap _) fun h' hx'=>?_)))
 have I3:=I2.kept (h':=h') (t':=s1.toks) fun b o e=>hx' b o (Nat.ne_of_lt (Heap.lt_size e)) e
 show wpAny _ _ (assignInOrder [fun v=>bindName X.env z v,fun v=>bindName X.env y v,fun v=>bindName X.env x v] [u3,u2,u1]>>=fun _=>pure Flow.next) _ _ _
 refine wpAny_bind (assignInOrder_cons (wpAny_bindName (store_ok I3 hN hk (.inl hz) rz (fun s2 I4=>?_) (.inr hz))))
 refine assignInOrder_cons (wpAny_bindName (store_ok I4 hN hj (.inl hy) rw' (fun s3 I5=>?_) (.inr hy)))
 refine assignInOrder_cons (wpAny_bindName (store_ok I5 hN hi (.inl hx) rv (fun s4 I6=>assignInOrder_nil (wpAny_pure ?_)) (.inr hx)))
 have e:((σ.set k (some w3)).set j (some w)).set i (some v)=((σ.set i (some v)).set j (some w)).set k (some w3):=by
  rw[List.set_comm _ _ (Ne.symm hjk),List.set_comm _ _ (Ne.symm hik),List.set_comm _ _ (Ne.symm hij)]
 rw[e] at I6
 exact⟨_,H1,I6,q1⟩
end L2
namespace L3
open PySem PySem.Spec L2
def Hq(i j k:Nat)(fa:ao->DM (List D)):ao->DM Fl:=fun δ=>fa δ>>=fun l=>match l with
 |[v,w,z]=>pure (.nx (((δ.set i (some v)).set j (some w)).set k (some z)))
 |_=>stuck
@[simp] theorem Lp(i j k:Nat)(fa:ao->DM (List D))(δ:ao):Hq i j k fa δ=fa δ>>=fun l=>match l with
 |[v,w,z]=>Pure.pure (.nx (((δ.set i (some v)).set j (some w)).set k (some z)))
 |_=>stuck:=id rfl
theorem HY {kt k2 pt2} (hc:X.calm=true) (hN:X.N.Nodup) (hi:X.N[i]?=some x) (hj:X.N[j]?=some y) (hk:X.N[k]?=some z) (hij:i≠j) (hik:i≠k) (hjk:j≠k)
  (hx:X.env.scope.names.lookup x=some .local) (hy:X.env.scope.names.lookup y=some .local) (hz:X.env.scope.names.lookup z=some .local) (ha:DA X E [a,b,c] fa)
  (hw:swappedStores [.Tuple [.Name x px,.Name y py,.Name z pz] kt pt] (.Tuple [a,b,c] k2 pt2) X.env=pure (some [x,y,z]))
  (hs:swapsWithSole [.Tuple [.Name x px,.Name y py,.Name z pz] kt pt] (.Tuple [a,b,c] k2 pt2) pos.line X.env=pure false:=by rfl) :
  DS X E (.Assign [.Tuple [.Name x px,.Name y py,.Name z pz] kt pt] (.Tuple [a,b,c] k2 pt2) pos) (Hq i j k fa):=⟨PS.mono (IV hc hN hi hj hk hij hik hjk hx hy hz ha.h.h hw hs) fun D σ H h=>by
 obtain⟨ρ,δ,M,ev,j,g1⟩:=h
 refine⟨ρ,δ,M,ev,j,bA.bind g1 fun ρ1 H1 M1 v d e1 j1 c1 g2=>?_⟩
 cases c1 with
 |nil=>obtain⟨r,e,_⟩:=g2;cases e
 | cons c1 c2=>cases c2 with
   |nil=>obtain⟨r,e,_⟩:=g2;cases e
   | cons c2 c3=>cases c3 with
     |nil=>obtain⟨r,e,_⟩:=g2;cases e
     |cons c3 c4=>cases c4 with
       |nil=>exact⟨_,_,_,rfl,bA.pure (a:=.nx _) g2 ρ1 H1 _ .refl j1 ((((ev.mono e1).set c1).set c2).set c3)⟩
       |cons _ _=>obtain⟨r,e,_⟩:=g2;cases e⟩
end L3
namespace N10
def pl(a b:Nat):Nat×Nat:=(a / Nat.gcd a b,b / Nat.gcd a b)
def O1(l:List Nat):Nat:=l.foldl Nat.gcd 0
def lst(l:List Nat):List Nat:=l.map (·/ O1 l)
def S:Nat->(Nat->Nat)->Nat
 |0,_=>0
 |n+1,f=>S n f+f n
def up(f:Nat->Nat)(x v:Nat):Nat->Nat:=fun i=>if i=x then v else f i
theorem cL(f:Nat->Nat)(x v:Nat):up f x v x=v:=by simp[up]
theorem dR(h:i≠x):up f x v i=f i:=by simp[up,h]
theorem cV:∀ {n:Nat},(∀ i,i<n->f i=g i)->S n f=S n g
 |0,_=>rfl
 |n+1,h=>by
   show S n f+f n=S n g+g n
   rw[cV fun i hi=>h i (by lia),h n (by lia)]
theorem mY:∀ {n:Nat},x<n->S n (up f x v) + f x=S n f + v
 | n + 1,h=>by
   show S n (up f x v)+up f x v n+f x=S n f+f n+v
   by_cases e:x=n
   ·subst e
    rw[cL,cV (g:=f) fun i hi=>dR (by lia)];lia
   ·have:=mY (f:=f) (v:=v) (n:=n) (x:=x) (by lia)
    rw[dR (Ne.symm e)];lia
theorem pR:∀ {n:Nat},x<n->f x≤S n f
 |n+1,h=>by
   show f x≤S n f+f n
   by_cases e:x=n
   ·subst e;lia
   ·have:=pR (f:=f) (n:=n) (x:=x) (by lia);lia
theorem gZ:∀ {n:Nat},(∀ i,i<n->f i=0)->S n f=0
 |0,_=>rfl
 |n+1,h=>by
   show S n f+f n=0
   rw[gZ fun i hi=>h i (by lia),h n (by lia)]
theorem vV (f g:Nat->Nat):∀ n:Nat,S n (fun i=>f i + g i)=S n f + S n g
 |0=>rfl
 |n+1=>by
   show S n _+(f n+g n)=(S n f+f n)+(S n g+g n)
   rw[vV f g n];lia
theorem BW (A:Nat->Nat->Nat) (m:Nat):∀ n:Nat,S n (fun x=>S m (A x))=S m (fun y=>S n (fun x=>A x y))
 |0=>(gZ fun i _=>rfl).symm
 |n+1=>by
   show S n (fun x=>S m (A x))+S m (A n)=S m (fun y=>S n (fun x=>A x y)+A n y)
   rw[BW A m n,vV]
structure G where
 A:Nat->Nat->Nat
 L:Nat->Nat
 W:Nat->Nat
def cG(A:Nat->Nat->Nat)(x y v:Nat):Nat->Nat->Nat:=fun i=>if i=x then up (A x) y v else A i
def G.step(g:G)(x y:Nat):G:=⟨cG g.A x y (g.A x y+min (g.L x) (g.W y)),up g.L x (g.L x-min (g.L x) (g.W y)),up g.W y (g.W y-min (g.L x) (g.W y))⟩
structure G.Ok(g:G)(n:Nat)(f s:Nat->Nat):Prop where
 row:∀x,x<n->S n (g.A x)+g.L x=f x
 col:∀y,y<n->S n (fun x=>g.A x y)+g.W y=s y
theorem G.Ok.step {g:G}{n:Nat}{f s:Nat->Nat} (h:g.Ok n f s) {x y:Nat} (hx:x<n) (hy:y<n):(g.step x y).Ok n f s where
 row:=fun i hi=>by
  have r:=h.row i hi
  show S n (cG g.A x y _ i)+up g.L x _ i=f i
  by_cases e:i=x
  ·subst e
   have:=mY (f:=g.A i) (v:=g.A i y+min (g.L i) (g.W y)) hy
   rw[cL]
   simp only[cG,if_true]
   lia
  ·rw[dR e]
   simp only[cG,if_neg e]
   exact r
 col:=fun j hj=>by
  have r:=h.col j hj
  show S n (fun i=>cG g.A x y _ i j)+up g.W y _ j=s j
  by_cases e:j=y
  ·subst e
   have q:S n (fun i=>cG g.A x j (g.A x j+min (g.L x) (g.W j)) i j)=S n (up (fun i=>g.A i j) x (g.A x j+min (g.L x) (g.W j))):=cV fun i _=>by
    by_cases k:i=x
    ·subst k;simp[cG,cL]
    ·rw[dR k];simp[cG,k]
   have:=mY (f:=fun i=>g.A i j) (v:=g.A x j+min (g.L x) (g.W j)) hx
   rw[q,cL]
   lia
  ·have q:S n (fun i=>cG g.A x y (g.A x y+min (g.L x) (g.W y)) i j)=S n (fun i=>g.A i j):=cV fun i _=>by
    by_cases k:i=x
    ·subst k;simp[cG,dR e]
    ·simp[cG,k]
   rw[q,dR e];exact r
theorem G.step_le (g:G) (x y:Nat):(∀ i,(g.step x y).L i≤g.L i)∧(∀ j,(g.step x y).W j≤g.W j)∧((g.step x y).L x=0∨(g.step x y).W y=0)∧∀ i j,g.A i j≤(g.step x y).A i j:=by
 refine⟨fun i=>?_,fun j=>?_,?_,fun i j=>?_⟩
 ·show up g.L x _ i≤_
  by_cases e:i=x
  ·subst e;rw[cL];lia
  ·rw[dR e];exact Nat.le_refl _
 ·show up g.W y _ j≤_
  by_cases e:j=y
  ·subst e;rw[cL];lia
  ·rw[dR e];exact Nat.le_refl _
 ·show up g.L x _ x=0∨up g.W y _ y=0
  rw[cL,cL];lia
 ·show _≤cG g.A x y _ i j
  unfold cG
  split
  ·rename_i e
   subst e
   by_cases k:j=y
   ·subst k;rw[cL];lia
   ·rw[dR k];exact Nat.le_refl _
  ·exact Nat.le_refl _
def G.run(g:G)(sp:List (Nat×Nat)):G:=sp.foldl (fun g p=>g.step p.1 p.2) g
theorem G.run_ok{n:Nat}{f s:Nat->Nat}:∀{sp:List (Nat×Nat)}{g:G},g.Ok n f s->(∀p∈sp,p.1<n∧p.2<n)->(g.run sp).Ok n f s
 |[],g,h,_=>h
 |p::sp,g,h,hp=>G.run_ok (sp:=sp) (h.step (hp p (by simp)).1 (hp p (by simp)).2) fun q hq=>hp q (by simp[hq])
theorem G.run_le:∀ (sp:List (Nat×Nat)) (g:G),(∀ i,(g.run sp).L i≤g.L i)∧(∀ j,(g.run sp).W j≤g.W j)∧(∀ p∈sp,(g.run sp).L p.1=0∨(g.run sp).W p.2=0)∧∀ i j,g.A i j≤(g.run sp).A i j
 |[],g=>⟨fun _=>Nat.le_refl _,fun _=>Nat.le_refl _,by simp,fun _ _=>Nat.le_refl _⟩
 | p::sp,g=>by
   obtain⟨a1,a2,a3,a4⟩:=G.run_le sp (g.step p.1 p.2)
   obtain⟨b1,b2,b3,b4⟩:=g.step_le p.1 p.2
   refine⟨fun i=>Nat.le_trans (a1 i) (b1 i),fun j=>Nat.le_trans (a2 j) (b2 j),fun q hq=>?_,fun i j=>Nat.le_trans (b4 i j) (a4 i j)⟩
   rcases List.mem_cons.mp hq with rfl | hq
   ·rcases b3 with z | z
    ·exact .inl (Nat.le_zero.mp (z ▸ a1 _))
    ·exact .inr (Nat.le_zero.mp (z ▸ a2 _))
   ·exact a3 q hq
theorem G.done{n:Nat}{f s:Nat->Nat}{g:G}(h:g.Ok n f s)(e:S n f=S n s)(hp:∀x y,x<n->y<n->g.L x=0∨g.W y=0):(∀x,x<n->g.L x=0)∧∀y,y<n->g.W y=0:=by
 have r:S n (fun x=>S n (g.A x))+S n g.L=S n f:=by rw[←vV];exact cV fun i hi=>h.row i hi
 have c:S n (fun y=>S n (fun x=>g.A x y))+S n g.W=S n s:=by rw[←vV];exact cV fun i hi=>h.col i hi
 rw[BW] at r
 have eq:S n g.L=S n g.W:=by lia
 refine⟨fun x hx=>?_,fun y hy=>?_⟩
 ·refine Classical.byContradiction fun z=>?_
  have w0:S n g.W=0:=gZ fun y hy=>(hp x y hx hy).resolve_left z
  have:=pR (f:=g.L) hx
  lia
 ·refine Classical.byContradiction fun z=>?_
  have l0:S n g.L=0:=gZ fun x hx=>(hp x y hx hy).resolve_right z
  have:=pR (f:=g.W) hy
  lia
end N10
namespace L3
open PySem PySem.Spec L2
def nM(R:List (List Nat)):D:=.tup (R.map nT)
def ga(l:List Nat)(i:Nat):Nat:=l.getD i 0
def gr(R:List (List Nat))(i:Nat):List Nat:=R.getD i []
theorem tu(h:i<l.length):ga l i∈l:=by
 unfold ga
 rw[List.getD_eq_getElem?_getD,List.getElem?_eq_getElem h]
 exact List.getElem_mem _
theorem gr_mem{R:List (List Nat)}{i:Nat}(h:i<R.length):gr R i∈R:=by
 unfold gr
 rw[List.getD_eq_getElem?_getD,List.getElem?_eq_getElem h]
 exact List.getElem_mem _
theorem Ar(h:i<l.length):ga l i=l[i]:=by
 unfold ga
 rw[List.getD_eq_getElem?_getD,List.getElem?_eq_getElem h];rfl
theorem MK{R:List (List Nat)}{i:Nat}(h:i<R.length):gr R i=R[i]:=by
 unfold gr
 rw[List.getD_eq_getElem?_getD,List.getElem?_eq_getElem h];rfl
theorem KH(h:nD a=nD b):a=b:=by
 have:=D.int.inj h
 lia
theorem KN(h:nT a=nT b):a=b:=(List.map_inj_right fun _ _=>KH).mp (D.tup.inj h)
theorem KJ(h:nM a=nM b):a=b:=(List.map_inj_right fun _ _=>KN).mp (D.tup.inj h)
theorem Dd {α:Type}{ft:ao->DM Bool}{fe:ao->DM D}{rest:ao} (enc:α->D) (p:α->Bool) (e:α->D):∀ (as:List α) (x:Option D) (l:List D),l.length + as.length≤1000000->(∀ a∈as,ft (some (enc a)::rest)=Pure.pure (p a))->(∀ a∈as,p a=true->fe (some (enc a)::rest)=Pure.pure (e a))->
  bh (gN 0) ft (aW fe) (as.map enc) (x::rest) l=Pure.pure (fG x (as.map enc)::rest,l++(as.filter p).map e)
 |[],x,l,_,_,_=>by simp[bh,fG]
 | d::ds,x,l,hl,h1,h2=>by
   have b:=h1 d (List.mem_cons_self ..)
   have hl':l.length+(ds.length+1)≤1000000:=by simpa using hl
   have lt:l.length<sizeLine:=by show l.length<2^24;lia
   have ih:=fun l' hl'=>Dd (rest:=rest) enc p e ds (some (enc d)) l' hl' (fun x hx=>h1 x (List.mem_cons_of_mem _ hx)) (fun x hx=>h2 x (List.mem_cons_of_mem _ hx))
   by_cases hp:p d=true
   ·have c:=h2 d (List.mem_cons_self ..) hp
    have q:=ih (l++[e d]) (by simp;lia)
    simp[bh,b,hp,aW,c,lt,q,fG]
   ·have q:=ih l (by lia)
    simp[bh,b,hp,q,fG]
theorem aY{α:Type}{ft:ao->DM Bool}{fe:ao->DM D}{x:Option D}{rest:ao}{as:List α}(enc:α->D)(p:α->Bool)(e:α->D)(hl:as.length≤1000000)(h1:∀a∈as,ft (some (enc a)::rest)=Pure.pure (p a))(h2:∀a∈as,p a=true->fe (some (enc a)::rest)=Pure.pure (e a)) :
  cJ (bh (gN 0) ft (aW fe) (as.map enc) (x::rest) [])=Pure.pure (fG x (as.map enc)::rest,(as.filter p).map e):=by
 rw[Dd enc p e as x [] (by simpa using hl) h1 h2];simp
theorem iY{α:Type}{fe:ao->DM D}{x:Option D}{rest:ao}{as:List α}(enc:α->D)(e:α->D)(hl:as.length≤1000000)(h2:∀a∈as,fe (some (enc a)::rest)=Pure.pure (e a)) :
  cJ (bh (gN 0) (fun _=>Pure.pure true) (aW fe) (as.map enc) (x::rest) [])=Pure.pure (fG x (as.map enc)::rest,as.map e):=by
 rw[aY enc (fun _=>true) e hl (fun _ _=>rfl) fun a ha _=>h2 a ha,List.filter_eq_self.mpr (fun _ _=>rfl)]
theorem yu(h0:0<b)(h:b<2^1000):(rd (sY (nD a) (nD b)):DM D)=Pure.pure (nD (a / b)):=by
 unfold nD
 rw[Li (HX (by lia) (by simpa using h)),Int.natCast_ediv]
theorem yz(h:b<2^64):(rd (xV (nD a) (nD b)):DM D)=Pure.pure (nD (a*b)):=by
 unfold nD
 rw[NB (Ik (by simpa using h)),Int.natCast_mul]
theorem iz(a b:Nat):(rd (bQ (nD a) (nD b)):DM D)=Pure.pure (nD (a+b)):=by
 unfold nD
 rw[Nr,Int.natCast_add]
theorem mC(a:Nat):(rd (bQ (nD a) (.int 1)):DM D)=Pure.pure (nD (a+1)):=iz a 1
theorem yt(a:Nat):(rd (bQ (.int 1) (nD a)):DM D)=Pure.pure (nD (a+1)):=by
 rw[Nat.add_comm];exact iz 1 a
theorem Lq(h:b≤a):(rd (uR (nD a) (nD b)):DM D)=Pure.pure (nD (a-b)):=by
 unfold nD
 rw[Hv]
 have:(a:Int)-(b:Int)=((a-b:Nat):Int):=by lia
 rw[this]
theorem pB(a b:Nat):(rd (fO (nD a) (nD b)):DM D)=Pure.pure (.bl (decide (a=b))):=by
 unfold nD
 rw[Nt]
 have:decide ((a:Int)=(b:Int))=decide (a=b):=by rw[Bool.eq_iff_iff,decide_eq_true_eq,decide_eq_true_eq];lia
 rw[this]
theorem fu(a b:Nat):(rd (fU (nD a) (nD b)):DM D)=Pure.pure (.bl (!decide (a=b))):=by
 unfold nD
 rw[NK]
 have:decide ((a:Int)=(b:Int))=decide (a=b):=by rw[Bool.eq_iff_iff,decide_eq_true_eq,decide_eq_true_eq];lia
 rw[this]
theorem Dy(a b:Nat):(rd (CZ (nD a) (nD b)):DM D)=Pure.pure (.bl (decide (a≤b))):=by
 unfold nD
 rw[Pb]
 have:decide ((a:Int)≤(b:Int))=decide (a≤b):=by rw[Bool.eq_iff_iff];simp
 rw[this]
theorem tZ(a b:Nat):(rd (tE (nD a) (nD b)):DM D)=Pure.pure (.bl (decide (b<a))):=by
 unfold nD
 rw[Pa]
 have:decide ((b:Int)<(a:Int))=decide (b<a):=by rw[Bool.eq_iff_iff];simp
 rw[this]
theorem Du(a b:Nat):(rd (xG (nD a) (nD b)):DM D)=Pure.pure (.bl (decide (b≤a))):=by
 unfold nD
 rw[Lj]
 have:decide ((b:Int)≤(a:Int))=decide (b≤a):=by rw[Bool.eq_iff_iff];simp
 rw[this]
theorem mH(h:0<b):(rd (rK (nD a) (nD b)):DM D)=Pure.pure (nD (a%b)):=Ln h
theorem pC(l:List Nat):(rd (cz [nT l]):DM D)=Pure.pure (nD l.length):=by simp[nT,nD]
theorem Dz(R:List (List Nat)):(rd (cz [nM R]):DM D)=Pure.pure (nD R.length):=by simp[nM,nD]
theorem Nu(l:List D):(rd (f9 [.tup l,.ty "tuple"]):DM D)=Pure.pure (.bl true):=cC (t := "tuple") (fun _=>rfl) (by decide)
theorem Dv(R:List (List Nat)):(rd (f9 [nM R,.ty "tuple"]):DM D)=Pure.pure (.bl true):=Nu _
theorem gj(h:n<2^62):pD [nD n]=some (.fix ((List.range n).map nD)):=yC h
theorem Dt(R:List (List Nat)):oO (nM R)=some (.fix (R.map nT)):=rfl
theorem Lh(l:List D):(rd (oN (.lst l)):DM Itn)=Pure.pure (.fix l):=rfl
theorem Ny(h:i<l.length):(rd (dg (nT l) (nD i)):DM D)=Pure.pure (nD (ga l i)):=Nx (by unfold ga;rw[List.getD_eq_getElem?_getD,List.getElem?_eq_getElem h];rfl)
theorem Nv{R:List (List Nat)}{i:Nat}(h:i<R.length):(rd (dg (nM R) (nD i)):DM D)=Pure.pure (nT (gr R i)):=ue (by unfold gr;rw[List.getElem?_map,List.getD_eq_getElem?_getD,List.getElem?_eq_getElem h];rfl)
theorem Dw{R:List (List Nat)}(h:0<R.length):(rd (dg (nM R) (.int 0)):DM D)=Pure.pure (nT (gr R 0)):=Nv h
end L3
namespace LS
open PySem PySem.Spec PyProof.Rows PyProof
end LS
namespace L2
open PySem PySem.Spec PyProof.Rows
variable{X:Cx}{pos:Pos}
end L2
namespace L3
open PySem PySem.Spec PyProof.Rows L2
variable{X:Cx}{E:XK}{pos:Pos}
def gL(n:Nat)(fs:List D->ao->DM ao):D->ao->DM ao
 |.lst l,δ=>if l.length=n then fs l δ else stuck
 |_,_=>stuck
@[simp] theorem QH(n:Nat)(fs:List D->ao->DM ao)(l:List D)(δ:ao):gL n fs (.lst l) δ=if l.length=n then fs l δ else stuck:=id rfl
theorem FJ{X:Cx}{E:XK}{st:Stmt}:DS X E st (fun _=>stuck):=⟨by
 intro pins s σ H D I h
 obtain⟨ρ,δ,M,ev,j,g1⟩:=h
 obtain⟨r,e,_⟩:=g1
 cases e⟩
end L3
namespace L3
open PySem PySem.Spec L2
abbrev Mg:=Str->Option Value
abbrev Fn:=List D->DM D
abbrev Nn(mg:Mg)(x:Str):Prop:=mg x=none
abbrev Gi(mg:Mg)(x:Str)(i:Int)(t:Tok):Prop:=mg x=some (.int i t)
abbrev Gc(mg:Mg)(x:Str)(C:Addr):Prop:=mg x=some (.ref C)
abbrev Rm(k:Nat)(A:Around)(q:Str)(st:Stmt)(s:Shared)(f:Addr)(cdv:Value):Prop:=Room k (A.deeper (PyProof.Rows.envOfC q (defScope st) s.heap.objs.size f cdv))
abbrev Ds(P:Program)(w:World)(K:PySem.W.Frag)(mg:Mg)(base:Heap)(N:List Str)(q:Str)(st:Stmt)(f:Addr)(cdv:Value)(A:Around)(outer:List Env)(s:Shared)(H:Hp)(E:XK)(b:ao->DM Fl):Prop:=
 DSs (bO P w K mg base N q (defScope st) f cdv A outer s H E) E (defBody st) b
theorem uh(a:sc.kind=.function)(b:sc.isCoroutine=false)(c:sc.isGenerator=false)(p:N.take P.length=P)(d:(decide N.Nodup&&(decide (∀x∈P,sc.names.lookup x=some .local∨sc.names.lookup x=some .cell)&&decide (∀y∈sc.names,y.2≠.free)))=true):FnScope N P sc:=by
 simp only[Bool.and_eq_true,decide_eq_true_eq] at d
 exact⟨a,b,c,d.1,p,d.2.1,d.2.2⟩
def Hx(lo hi:Option Int):D->Mo->Option D
 |.scr ns,_=>some (.lst (cutD (ns.map D.int) lo hi))
 |_,_=>none
theorem zp:∀l:List Int,Cvs mg ρ H (l.map V.int) (l.map D.int)
 |[]=>.nil
 |n::l=>.cons (.int _) (zp l)
section
variable{X:Cx}{E:XK}
theorem Pj:SlR X (fun x lo hi H Q=>∃ρ M dx d,J X.mg ρ M H∧Cv X.mg ρ H x dx∧Hx lo hi dx M=some d∧∀ρ' H' v,Ext ρ H ρ' H'->J X.mg ρ' M H'->Cv X.mg ρ' H' v d->Q v H'):=by
 intro pins s σ H x v vl vu lo hi sl Q I rx hs pl pu h
 obtain⟨ρ,M,dx,d,j,c,e,q⟩:=h
 unfold Hx at e
 split at e
 ·cases e
  cases c with | scr n rd=>
  refine sl_list (X:=X) pins s σ H _ v vl vu lo hi sl Q I rx hs pl pu ⟨_,_,rfl,.inl rd,fun p hp=>?_⟩
  exact q ρ _ _ (.lay hp) (j.lay _ hp) (.lst (j.fresh hp) upd_same (((zp _).cut lo hi).mono (.lay hp)))
 ·cases e
theorem Cq(ha:DE X E a fa)(hl:DP X E lo fl)(hh:DP X E hi fh) :
  DE X E (.Subscript a (.Slice lo hi none p2) pos) (fun δ=>fa δ>>=fun x=>fl δ>>=fun l=>fh δ>>=fun h=>rd (Hx l h x)):=⟨PE.mono (pe_slice Pj ha.h hl.h hh.h) fun σ H Q h=>by
 obtain⟨ρ,δ,M,ev,j,g1⟩:=h
 refine⟨ρ,δ,M,ev,j,g1.bind fun ρ1 H1 M1 x dx e1 j1 c1 g2=>⟨ρ1,δ,M1,ev.mono e1,j1,g2.bind fun ρ2 H2 M2 l dl e2 j2 c2 g3=>⟨ρ2,δ,M2,(ev.mono e1).mono e2,j2,g3.bind fun ρ3 H3 M3 h dh e3 j3 c3 g4=>?_⟩⟩⟩
 have c2:l=dl:=c2
 have c3:h=dh:=c3
 subst c2 c3
 obtain⟨d,e,q⟩:=g4.rd
 exact⟨ρ3,M3,dx,d,j3,(c1.mono e2).mono e3,e,q⟩⟩
end
theorem NQ(ns:List Int)(lo hi:Option Int):(rd (Hx lo hi (.scr ns)):DM D)=Pure.pure (.lst (cutD (ns.map D.int) lo hi)):=rfl
theorem u1(h:n+64<cLine):n+1<cLine:=by lia
def O2:D->Option Key
 |.int i=>some (.inl i)
 |.str x=>some (.inr x)
 |_=>none
end L3
namespace L3
open PySem L2
theorem vP {c:ao->DM Bool}{fb:ao->DM Fl}{oM:ao->Mo->Prop} (I:Nat->ao->Mo->Prop)
  (step:∀m δ M,I m δ M->∃b,c δ M=some (.ok b,M)∧(b=true->Rn (fb δ) M fun r M'=>∃δ' m',r=.nx δ'∧m'<m∧I m' δ' M')∧(b=false->oM δ M)) :
  ∀(N m:Nat) (δ:ao) (M:Mo),m<N->I m δ M->Rn (jR c fb N δ) M fun r M'=>∃δ',r=.nx δ'∧oM δ' M'
 |0,m,δ,M,h,_=>by lia
 | N + 1,m,δ,M,h,i=>by
   obtain⟨b,e,h1,h2⟩:=step m δ M i
   unfold jR
   refine Rn.bind (Q1:=fun b' M'=>b'=b∧M'=M) ⟨b,M,e,rfl,rfl⟩ fun b' M' ⟨eb,eM⟩=>?_
   subst eb eM
   cases b' with
   |false=>exact Rn.pure ⟨δ,rfl,h2 rfl⟩
   |true=>
     refine Rn.bind (h1 rfl) fun r M1 ⟨δ',m',er,hm,i'⟩=>?_
     subst er
     exact vP I step N m' δ' M1 (by lia) i'
end L3
namespace L3
open PySem PySem.Spec L2 LB
def tupI(t:List Int):D:=.tup (t.map D.int)
def mQ:List D->Option (List (List Int))
 |[]=>some []
 |.tup l::r=>(intsOf l).bind fun t=>if t=[] then none else (mQ r).map (t::·)
 |_::_=>none
theorem vN:∀ {l:List D}{ts:List (List Int)},mQ l=some ts->l=ts.map tupI∧∀ t∈ts,t≠[]
 |[],ts,e=>by cases e;exact⟨rfl,fun t h=>by cases h⟩
 | d::l,ts,e=>by
   cases d with
   | tup l0=>
     obtain⟨t,h1,e⟩:=Option.bind_eq_some_iff.mp e
     split at e
     ·cases e
     ·rename_i hne
      obtain⟨ms,h,rfl⟩:=Option.map_eq_some_iff.mp e
      obtain⟨h2,h3⟩:=vN h
      refine⟨by rw[h2,vC h1];rfl,fun x hx=>?_⟩
      rcases List.mem_cons.mp hx with rfl | hx
      ·exact hne
      ·exact h3 x hx
   |_=>simp[mQ] at e
theorem uo:∀ {ts:List (List Int)},(∀ t∈ts,t≠[])->mQ (ts.map tupI)=some ts
 |[],_=>rfl
 |t::ts,h=>by
   have ih:=uo (ts:=ts) fun x hx=>h x (.tail _ hx)
   have h1:=h t (List.mem_cons_self)
   show (intsOf (t.map D.int)).bind _=_
   rw[tK]
   show (if t=[] then none else _)=_
   rw[if_neg h1,ih];rfl
theorem w5:∀ {ts:List (List Int)}{xs:List V},(∀ t∈ts,t≠[])->Cvs mg ρ H xs (ts.map tupI)->Paired (En H) xs ts
 |[],_,_,.nil=>.nil
 |t::ts,_,h,.cons a c=>by
   refine .cons ⟨h t (List.mem_cons_self),?_⟩ (w5 (fun x hx=>h x (.tail _ hx)) c)
   cases a with
   |tup n ha k=>exact⟨_,rfl,by rw[ha,wZ k]⟩
theorem wY:∀{xs:List V}{ds:List D} (i:Nat),Cvs mg ρ H xs ds->i<xs.length->Cv mg ρ H (xs.getD i V.non) (ds.getD i D.non)
 |_,_,_,.nil,h=>by cases h
 |_,_,0,.cons a _,_=>a
 |_,_,i+1,.cons _ t,h=>wY i t (by simpa using h)
theorem Cvs.pick(c:Cvs mg ρ H xs ds):∀(is:List Nat),(∀i∈is,i<xs.length)->Cvs mg ρ H (is.map fun i=>xs.getD i V.non) (is.map fun i=>ds.getD i D.non)
 |[],_=>.nil
 |i::is,h=>.cons (wY i c (h i (List.mem_cons_self))) (Cvs.pick c is fun j hj=>h j (.tail _ hj))
def Bs:D->Mo->Option (List D)
 |.tup l,_=>some l
 |d,M=>aO d M
theorem Oa{mg:Str->Option Value}{ρ:Rh}{M:Mo}{H:Hp}(j:J mg ρ M H){x:V}{d:D}{l:List D}(c:Cv mg ρ H x d)(e:Bs d M=some l):∃a xs,x=.ref a∧Jy H a xs∧Cvs mg ρ H xs l:=by
 unfold Bs at e
 split at e
 ·cases e
  cases c with | tup _ h c=>exact⟨_,_,rfl,.inr h,c⟩
 ·obtain⟨a,xs,e1,e2,e3⟩:=cA j c e
  exact⟨a,xs,e1,.inl e2,e3⟩
def wA:List D->Mo->Option D
 |[d],M=>(Bs d M).bind fun l=>(mQ l).bind fun ts=>if ts.length≤60 then some (.lst ((uP ts).map tupI)) else none
 |_,_=>none
section
variable{X:Cx}{E:XK}
theorem Aj:CallD X E (.builtin "sorted") (fun l=>rd (wA l)):=CallD.of wW fun vs H Q ρ M ds d j c e q=>by
 unfold wA at e
 split at e
 ·obtain ⟨l,h1,e⟩:=Option.bind_eq_some_iff.mp e
  obtain⟨ts,h2,e⟩:=Option.bind_eq_some_iff.mp e
  split at e
  ·rename_i hn
   cases e
   obtain⟨v,rfl,k⟩:=c.one
   obtain⟨p,xs,rfl,hx,c'⟩:=Oa j k h1
   obtain⟨rfl,ne⟩:=vN h2
   have pr:=w5 ne c'
   have le:=Paired.length pr
   refine⟨p,xs,ts,rfl,hx,pr,by lia,fun l is hl hi pm es=>q ρ _ _ (.lay hl) (j.lay _ hl) (.lst (j.fresh hl) upd_same ?_)⟩
   have cp:=Cvs.pick c' is hi
   have e3:(is.map fun i=>(ts.map tupI).getD i D.non)=(uP ts).map tupI:=by
    rw[←es,List.map_map]
    refine List.map_congr_left fun i m=>?_
    have h:=hi i m
    have h':i<ts.length:=by lia
    simp[h']
   rw[e3] at cp
   exact cp.mono (.lay hl)
  ·cases e
 ·cases e
end
end L3
namespace L3
open PySem L2
theorem vG {α:Type}{fe:ao->DM D}{rest:ao}{n:Nat}{M:Mo}{L:List α} (enc e:α->D) (hM:M[n]?=some (.lst (L.map enc))) (hL:L.length≤1000000) (h:∀ a∈L,fe (some (enc a)::rest) M=some (.ok (e a),M)) :
  ∀(k i:Nat) (x:Option D) (l:List D),i+k=L.length+1->1≤k->l=(L.take i).map e->∃z,p7 (gN 0) (fun _=>Pure.pure true) (aW fe) n k i (x::rest) l M=some (.ok (z::rest,L.map e),M)
 |0,i,x,l,_,h1,_=>by lia
 | k + 1,i,x,l,hk,_,hl=>by
   have rn:rd (Itn.next (.dyn n) i) M=some (.ok ((L.map enc)[i]?),M):=by
    have:Itn.next (.dyn n) i M=some ((L.map enc)[i]?):=by
     simp only[Itn.next,hM]
    unfold rd
    rw[this];rfl
   by_cases c:i<L.length
   ·have e1:(L.map enc)[i]?=some (enc L[i]):=by rw[List.getElem?_map,List.getElem?_eq_getElem c];rfl
    rw[e1] at rn
    have ih:=vG enc e hM hL h k (i+1) (some (enc L[i])) (l++[e L[i]]) (by lia) (by lia) (by rw[hl,List.take_succ_eq_append_getElem c,List.map_append];rfl)
    obtain⟨z,ih⟩:=ih
    refine⟨z,?_⟩
    have hf:=h L[i] (List.getElem_mem c)
    have lt:l.length<sizeLine:=by show _<2^24;rw[hl];simp;lia
    show DM.bind (rd (Itn.next (.dyn n) i)) _ M=_
    unfold DM.bind
    rw[rn]
    show ((gN 0 (enc L[i]) (x::rest))>>=fun δ1=>(Pure.pure true:DM Bool)>>=fun b=>(if b then aW fe δ1 l else Pure.pure (δ1,l))>>=fun p=>p7 _ _ _ n k (i+1) p.1 p.2) M=_
    rw[iJ,aq,aq]
    show ((aW fe (some (enc L[i])::rest) l)>>=fun p=>p7 _ _ _ n k (i+1) p.1 p.2) M=_
    unfold aW
    rw[aB]
    show DM.bind (fe _) _ M=_
    unfold DM.bind
    rw[hf]
    dsimp only
    rw[if_pos lt]
    exact ih
   ·have e1:(L.map enc)[i]?=none:=List.getElem?_eq_none (by rw[List.length_map];lia)
    rw[e1] at rn
    refine⟨x,?_⟩
    show DM.bind (rd (Itn.next (.dyn n) i)) _ M=_
    unfold DM.bind
    rw[rn]
    have:L.take i=L:=List.take_of_length_le (by lia)
    rw[hl,this];rfl
theorem H9{α:Type}{fe:ao->DM D}{rest:ao}{n:Nat}{M:Mo}{L:List α}{x:Option D}(enc e:α->D)(hM:M[n]?=some (.lst (L.map enc)))(hL:L.length≤1000000)(h:∀a∈L,fe (some (enc a)::rest) M=some (.ok (e a),M)){β:Type}{k:ao×List D->DM β}{Q:β->Mo->Prop}(k':List D->DM β)(hk:∀q,k q=k' q.2)(q:Rn (k' (L.map e)) M Q) :
  Rn (rd (oN (.ref n))>>=fun it=>cJ (cB (gN 0) (fun _=>Pure.pure true) (aW fe) it (x::rest) [])>>=k) M Q:=by
 refine Rn.bindRd (.dyn n) (by simp only[oN,hM]) ?_
 obtain⟨z,e2⟩:=vG (rest:=rest) enc e hM hL h (L.length+1) 0 x [] (by lia) (by lia) rfl
 have e1:cB (gN 0) (fun _=>Pure.pure true) (aW fe) (.dyn n) (x::rest) [] M=some (.ok (z::rest,L.map e),M):=by
  show DM.bind (rd (fun M=>aO (.ref n) M)) _ M=_
  unfold DM.bind rd
  simp only[aO,hM,Option.map_some,List.length_map]
  exact e2
 refine Rn.bind (cU ⟨_,_,e1,rfl,rfl⟩:Rn (cJ _) M fun p M'=>p=(z::rest,L.map e)∧M'=M) fun p M' ⟨e1,e2⟩=>?_
 subst e1 e2
 rw[hk]
 exact q
end L3
namespace L3
open PySem PySem.Spec L2 LA LB
open PyProof.Rows hiding St
end L3
namespace L3
open PySem PySem.Spec L2 LA LB LS
open PyProof.Rows hiding St
end L3
namespace L2
open PySem PySem.Spec PyProof.Rows LS LA LB
end L2
namespace L3
open PySem PySem.Spec L2 LA LB
end L3
namespace L3
open PySem PySem.Spec L2
open PyProof.Rows hiding St
end L3
namespace L3
open PySem PySem.Spec PyProof.Rows L2
abbrev TB(K:PySem.W.Frag)(x:Str):Prop:=PySem.W.nsIn K mainGlobals x=some none
def TD(K:PySem.W.Frag)(x:Str)(st:Stmt):Prop:=∀{h:Heap}{mg:Mg},K.In h->h.Ns mainGlobals mg->DefAt K mg x st
section
variable{K:PySem.W.Frag}{x:Str}{st:Stmt}{f:Addr}{oc:Value}{od an:Option Addr}{osl:Array (Option Value)}{kV doc pm cdv ct:Value}
theorem Od(a:PySem.W.nsIn K mainGlobals x=some (some (.ref f)))(l:K.lookup f=some ⟨oc,od,.func (PySem.W.fnOf x x (defArgs st) (defBody st) (defScope st) .none kV doc pm an cdv ct),osl⟩)(c:PySem.W.codeIn K cdv x=true)(k:PySem.W.keepIn K (.ref f)=true):TD K x st:=
 fun X G=>Fx X G a l c k
end
section
variable{P:Program}{w:World}{K:PySem.W.Frag}{mg:Mg}{base:Heap}{k:Nat}{C:Addr}{c x qual:Str}{N ps:List Str}{st:Stmt}{fb:ao->DM Fl}{is:List Int}
theorem okd(T:DefAt K mg x st)(S:FnScope N ps (defScope st))(hbody:∀{f cdv A outer s H E},Rm k A x st s f cdv->Ds P w K mg base N x st f cdv A outer s H E fb)
  (hb:∀(kV doc pm:Value) (an:Option Addr) (cdv ct:Value) (us:List Value),us.length=ps.length->bindArgs (PySem.W.fnOf x x (defArgs st) (defBody st) (defScope st) .none kV doc pm an cdv ct) ⟨us,[]⟩=pure (ps.zip us):=by intro _ _ _ _ _ _ us hl;first | (obtain⟨_,rfl⟩:=Aw hl;rfl) | (obtain⟨_,_,rfl⟩:=Ge hl;rfl) | (obtain⟨_,_,_,rfl⟩:=Gf hl;rfl) | (obtain⟨_,_,_,_,rfl⟩:=Ax hl;rfl)) :
  DefD P w K mg base (k+1) x ps (aJ ps.length N.length fb):=L3.DefAt.okD T S hb fun _ _ _ _ _ _ _=>hbody
theorem okn(fb:Nat->ao->DM Fl)(T:DefAt K mg x st)(S:FnScope N ps (defScope st))(hf:∀ds M r,F ds M=some r->∃n,aJ ps.length N.length (fb n) ds M=some r)(hbody:∀n {f cdv A outer s H E},Rm k A x st s f cdv->Ds P w K mg base N x st f cdv A outer s H E (fb n))
  (hb:∀(kV doc pm:Value) (an:Option Addr) (cdv ct:Value) (us:List Value),us.length=ps.length->bindArgs (PySem.W.fnOf x x (defArgs st) (defBody st) (defScope st) .none kV doc pm an cdv ct) ⟨us,[]⟩=pure (ps.zip us):=by intro _ _ _ _ _ _ us hl;first | (obtain⟨_,rfl⟩:=Aw hl;rfl) | (obtain⟨_,_,rfl⟩:=Ge hl;rfl) | (obtain⟨_,_,_,rfl⟩:=Gf hl;rfl) | (obtain⟨_,_,_,_,rfl⟩:=Ax hl;rfl)) :
  DefD P w K mg base (k+1) x ps F:=L3.DefAt.okN T S hb hf fun n _ _ _ _ _ _ _=>hbody n
theorem Qg(T:DefAt K mg x st)(S:FnScope N ps (defScope st))(hbody:∀{f cdv A outer s H E},Rm k A x st s f cdv->Ds P w K mg base N x st f cdv A outer s H E fb):DefK P w K mg base (k+1) x st ps (aJ ps.length N.length fb):=L3.DefAt.KY T S fun _ _ _ _ _ _ _=>hbody
theorem Qh(T:MethAt K C x qual st)(m:mg c=some (.ref C))(cl:L2.Cls K C)(S:FnScope N ps (defScope st))(hbody:∀{f cdv A outer s H E},Rm k A qual st s f cdv->Ds P w K mg base N qual st f cdv A outer s H E fb):MethD P w K mg base (k+1) c x qual st ps (aJ ps.length N.length fb):=L3.MethAt.okD T m cl S fun _ _ _ _ _ _ _=>hbody
end
end L3
namespace LA
open PySem PySem.W PySem.Calls LS PyProof.Rows LB
end LA
namespace L2
open PySem PySem.Spec PyProof.Rows LS LA LB
end L2
namespace L3
open PySem PySem.Spec L2 LA LB LS
open PyProof.Rows hiding St
end L3
namespace L3
open PySem PySem.Spec L2
open PyProof.Rows hiding St
end L3
namespace L3
open PySem PySem.Spec L2 LB
end L3
namespace L3
open PySem PySem.Spec L2
open PyProof.Rows hiding St
section
variable{X:Cx}{E:XK}{a:Expr}{fa:ao->DM D}{fs:ao->DM (List D)}{pos p1 p2 p3 p4:Pos}
def J5:D->D->Mo->Option D
 |.tup l,.tup [],_=>some (.bl l.isEmpty)
 |_,_,_=>none
theorem Iu(hu:X.A.units+64<cLine):OpR X (compareOp .Eq) (fun x y H Q=>∃a b xs,x=.ref a∧y=.ref b∧H a=some (.tup xs)∧H b=some (.tup [])∧Q (.bl xs.isEmpty) H):=by
 intro pins s σ H x y v u Q I rx ry h
 obtain⟨a,b,xs,rfl,rfl,ha,hb,q⟩:=h
 cases rx
 cases ry
 obtain⟨i1,r1,h1,_⟩:=I.tuple (SqT.of (K:=X.K) ha)
 obtain⟨i2,r2,h2,_⟩:=I.tuple (SqT.of (K:=X.K) hb)
 cases r2
 refine PySem.SeqAt.RcAt.tuples (e:=fun _=>true) h1 h2 (by lia) (fun j _ j2=>absurd j2 (Nat.not_lt_zero _)) _ _ _ _ ?_
 refine⟨.bl xs.isEmpty,H,I,?_,q⟩
 cases r1<;>rfl
theorem Ir (hu:X.A.units + 64<cLine):bZ X E (compareOp .Eq) (fun x y=>rd (J5 x y)):=bZ.of (Iu hu) fun x y H Q ρ M dx dy d j cx cy e q=>by
 unfold J5 at e
 split at e
 ·cases e
  cases cx with
  | tup n1 h1 c1=>
    cases cy with
    |tup n2 h2 c2=>
      cases c2
      refine⟨_,_,_,rfl,rfl,h1,h2,?_⟩
      rw[c1.empty]
      exact q ρ H _ .refl j (.bl _)
 ·cases e
def Bo:D->Option D
 |.tup l=>some (.tup l.reverse)
 |_=>none
theorem Cp(ha:DE X E a fa):DE X E (.Subscript a (.Slice none none (some (.UnaryOp .USub (.Constant (.int 1) i p3) p4)) p2) pos) (fun δ=>fa δ>>=fun x=>opt (Bo x)):=⟨PE.mono (K8 ha.h) fun σ H Q h=>by
 obtain⟨ρ,δ,M,ev,j,g1⟩:=h
 refine⟨ρ,δ,M,ev,j,g1.bind fun ρ1 H1 M1 x dx e1 j1 c1 g2=>?_⟩
 obtain⟨d,ed,q⟩:=g2.opt
 unfold Bo at ed
 split at ed
 ·cases ed
  cases c1 with
  |tup n h c=>exact⟨_,_,rfl,h,fun p hp=>q ρ1 _ _ (.lay hp) (j1.lay _ hp) (.tup (j1.fresh hp) upd_same (c.reverse.mono (.lay hp)))⟩
 ·cases ed⟩
def nb(b:Bool):Int:=if b=true then 1 else 0
theorem oY{st:List Stmt}:DSs X E st (fun _=>stuck):=⟨by
 intro pins s σ H D I h
 obtain⟨ρ,δ,M,ev,j,g1⟩:=h
 obtain⟨r,e,_⟩:=g1
 cases e⟩
end
end L3
namespace L2
open PySem PySem.Spec PyProof.Rows LS
end L2
namespace L3
open PySem PySem.Spec L2
end L3
namespace L3
open PySem PySem.Spec L2 PyProof.Rows
end L3
namespace L3
open PySem PySem.Spec L2
open PyProof.Rows hiding St
structure ThD(P:Program)(w:World)(K:PySem.W.Frag)(mg:Str->Option Value)(base:Heap)(k:Nat)(outer:List Env)(s:Shared)(H:Hp)(ρ:Rh)(g:Addr)(th:DM D):Prop where
 fn:∀(s2:Shared) (H2:Hp),Un (frs outer) [] H H2 s.heap s2.heap->HOk P w H2 s2.heap->PySem.W.FnAt g s2.heap
 run:∀(A2:Around) (outer2:List Env) (s2:Shared) (H2:Hp) (ρ2:Rh) (M2:Mo) (Q:VK) (E:XK),Room k A2->Env0 P w K mg base A2 outer2 s2 H2->Un (frs outer) [] H H2 s.heap s2.heap->Ext ρ H ρ2 H2->J mg ρ2 M2 H2->
  Go mg E (Cv mg) Q ρ2 H2 th M2->codeAny (model P w) A2 (.call (.ref g) ⟨[],[]⟩) (CR (cj P w) outer2 P w H2 s2 Q E) s2
def Jv(i:Nat)(g:Addr)(ρ₀:Rh)(H₀:Hp):L2.St->Rh->Hp->Prop:=fun σ ρ H=>σ[i]?=some (some (.ref g))∧Ext ρ₀ H₀ ρ H
abbrev AT:=L2.St->Rh->Hp->Prop
def tA(An:AT)(mg:Str->Option Value)(E:XK)(f:ao->DM D):TE:=fun σ H Q=>∃ρ δ M,An σ ρ H∧Ev mg ρ H σ δ∧J mg ρ M H∧Go mg E (Cv mg) Q ρ H (f δ) M
def Hy(An:AT)(mg:Str->Option Value)(E:XK)(f:ao->DM Fl):TS:=fun D σ H=>∃ρ δ M,An σ ρ H∧Ev mg ρ H σ δ∧J mg ρ M H∧bA mg E D ρ H (f δ) M
structure AE(X:Cx)(E:XK)(An:AT)(e:Expr)(f:ao->DM D):Prop where
 h:PE X e (tA An X.mg E f)
structure AS(X:Cx)(E:XK)(An:AT)(st:Stmt)(f:ao->DM Fl):Prop where
 h:PS X st (Hy An X.mg E f)
structure ASs(X:Cx)(E:XK)(An:AT)(st:List Stmt)(f:ao->DM Fl):Prop where
 h:PSs X st (Hy An X.mg E f)
section
variable{X:Cx}{E:XK}{An:AT}{e:Expr}{fe:ao->DM D}{pos:Pos}{st:Stmt}{rest:List Stmt}{f g:ao->DM Fl}
theorem Ep {k i:Nat}{y:Str}{p:Pos}{g:Addr}{th:DM D}{ρ₀:Rh} (hr:Room k X.A) (hx:Passes (cj X.prog X.w) X E) (hT:ThD X.prog X.w X.K X.mg X.base k X.outer X.s₀ X.H₀ ρ₀ g th) (hex:X.ex=[]:=by rfl) (hN:X.N[i]?=some y:=by rfl)
  (hv:Vis X.env.scope y:=by exact Or.inl rfl) (hd:(y==("__debug__":Str))=false:=by decide) (hcd:(y==("__classdict__":Str))=false:=by decide) :
  AE X E (Jv i g ρ₀ X.H₀) (.Call (.Name y p) [] [] pos) (fun _=>th):=⟨by
 intro pins s σ H Q I h
 obtain⟨ρ,δ,M,⟨hσ,ex⟩,ev,j,go⟩:=h
 refine wpAny_Call_Name_kw ?_
 refine thn (pe_var hN hv hd hcd pins s σ H (fun v H1=>v=.ref g∧H1=H) I ⟨.ref g,hσ,rfl,rfl⟩) fun u s1 h1=>?_
 obtain⟨v,H1,I1,r,rfl,rfl⟩:=h1
 obtain rfl:u=Value.ref g:=r
 have un:Un (frs X.outer) [] X.H₀ H1 X.s₀.heap s1.heap:=by have:=I1.base;rw[hex] at this;exact this
 refine PySem.W.callWith_F0 (hT.fn s1 H1 un I1.hok) ?_
 refine wpAny_call (codeAny_mono (hT.run X.A X.stack s1 H1 ρ M Q E hr I1.env0 un ex j go) fun r s' hq=>?_)
 cases r with
 |error e=>exact hx pins σ H1 s1 e s' I1 hq
 |ok fl=>
   cases fl with
   |ret u=>exact I1.after hq
   |next=>exact False.elim hq
   |brk=>exact False.elim hq
   |cont=>exact False.elim hq⟩
theorem JK(he:AE X E An e fe):AS X E An (.Return (some e) pos) (fun δ=>fe δ>>=fun d=>pure (.rt d)):=⟨PS.mono (L2.ps_ret he.h) fun D σ H h=>by
 obtain⟨ρ,δ,M,an,ev,j,g1⟩:=h
 exact⟨ρ,δ,M,an,ev,j,g1.bind fun ρ1 H1 M1 v d e1 j1 c1 g2=>g2.pure ρ1 H1 v .refl j1 c1⟩⟩
theorem zc(h:AS X E An st f):ASs X E An [st] f:=⟨pss_one h.h⟩
end
theorem JL (nl:Nat) {ns:List Str}{fb:ao->DM Fl}{fh:Str->ao->DM Fl}{fy:Addr->Str->ao->DM Fl}{i:Nat}{body suite:List Stmt} (T:XTab X.K X.mg ns F) (hcalm:X.calm=true) (hcells:X.env.cells=[]) (hex:X.ex=[])
  (hst:X.stack=X.env::X.outer) (hfr:X.env.frame=some X.env.locals) (hN:X.N.Nodup) (hi:X.N[i]?=some n) (hk:X.env.kindOf n=some .local) (hm:X.mg x=some (.ref F))
  (hb:∀pins Eh,ASs (X.tryC pins Eh) Eh An body fb) (hs:∀c C y oe,c∈ns->X.mg c=some (.ref C)->oe.cls=.ref C->XAt X.K C->DSs (X.sui y oe) E0 (b₀::suite) (fy y c))
  (hy:∀y c M r,fh c ((List.replicate nl none).set i (some (.exn 0))) M=some r->fy y c ((List.replicate nl none).set i (some (.exn y))) M=some r)
  (hnl:X.N.length=nl:=by rfl) (hg:Gl X x:=by rfl) (hd:(x==("__debug__":Str))=false:=by decide) :
  AS X E An (.Try body [.ExceptHandler (some (.Name x np)) (some n) (b₀::suite) p1] [] [] pos) (yM ns nl i fb fh):=⟨by
 subst hnl
 intro pins s σ H D I h
 obtain⟨ρ,δ,M,an,ev,j,g1⟩:=h
 let Eh:XK:=fun C' o H'=>∃c C ρ' M' r,c∈ns∧C'=.ref C∧o=none∧X.mg c=some (.ref C)∧J X.mg ρ' M' H'∧(cJ (fh c ((List.replicate X.N.length none).set i (some (.exn 0))))>>=Gq i) M'=some r∧pQ X.mg ρ' H' D E r
 have key:Hy An X.mg Eh fb D σ H:=by
  obtain⟨r,e,p⟩:=g1
  unfold yM at e
  split at e
  ·rename_i c M' em
   split at e
   rotate_left
   ·cases e
   rename_i hc
   refine⟨ρ,δ,M,an,ev,j,_,em,fun ρ' H' C x' j' m=>⟨c,C,ρ',M',r,List.contains_iff_mem.mp hc,rfl,rfl,m,j',e,p.mono x'⟩⟩
  ·rename_i em
   refine⟨ρ,δ,M,an,ev,j,r,e,?_⟩
   obtain⟨r,M'⟩:=r
   cases r with
   |ok a=>cases a<;>exact p
   |exc c=>exact absurd e (em c M')
 refine L2.Le (Eh:=Eh) (tb:=Hy An X.mg Eh fb) (th:=fun y oe D σ H=>∃c C,c∈ns∧X.mg c=some (.ref C)∧oe.cls=.ref C∧XAt X.K C∧tS X.mg E0 (fy y c) D σ H) hcalm hcells hex hst hfr hN hi hk hm (fun pins=>(hb pins Eh).h) (fun y oe pins' s' σ' H' D' I' q=>?_) hg hd pins s σ H D I ⟨key,?_⟩
 ·obtain⟨c,C,hc,m,ho,xa,q⟩:=q
  exact (hs c C y oe hc m ho xa).h pins' s' σ' H' D' I' q
 ·rintro y oe C' H1 hcl _ ⟨c,C,ρ',M',r,hc,rfl,_,m,j',e,p⟩
  obtain⟨C2,xc,xa,ca⟩:=T.cls c hc
  have:C2=C:=by have:=xc.at_;rw[m] at this;cases this;rfl
  subst this
  refine⟨⟨C2,rfl,ca⟩,c,C2,hc,m,hcl,xa,ρ',(List.replicate X.N.length none).set i (some (.exn y)),M',?_,j',?_⟩
  ·refine ⟨by simp,fun k d q=>?_⟩
   by_cases hk':k=i
   ·subst hk'
    have hl:k<(List.replicate X.N.length (none:Option L3.D)).length:=by
     have:=(List.getElem?_eq_some_iff.mp q).1
     rw[List.length_set] at this;exact this
    rw[List.getElem?_set_self hl] at q
    cases q
    refine⟨.ref y,List.getElem?_set_self ?_,.exn y⟩
    rw[List.length_replicate] at hl ⊢;exact hl
   ·rw[List.getElem?_set_ne (fun z=>hk' z.symm),List.getElem?_replicate] at q
    split at q<;>cases q
  ·have e:DM.bind _ _ M'=some r:=e
   unfold DM.bind at e
   split at e
   ·cases e
   ·rename_i em
    obtain⟨_,_,_,z⟩:=tM em
    cases z
   ·rename_i a M'' em0
    obtain⟨a',M3,em,z⟩:=tM em0
    cases z
    refine⟨_,hy y c _ _ em,?_⟩
    cases a with
    |nx δ2=>cases e;exact fun ρ2 H2 σ2 a1 a2 a3=>p ρ2 H2 (σ2.set i none) a1 a2 a3.forget
    |bk δ2=>cases e;exact fun ρ2 H2 σ2 a1 a2 a3=>p ρ2 H2 (σ2.set i none) a1 a2 a3.forget
    |ct δ2=>cases e;exact fun ρ2 H2 σ2 a1 a2 a3=>p ρ2 H2 (σ2.set i none) a1 a2 a3.forget
    |rt d=>cases e;exact fun ρ2 H2 v a1 a2 a3=>p ρ2 H2 v a1 a2 a3⟩
structure HrdD(P:Program)(w:World)(K:PySem.W.Frag)(mg:Str->Option Value)(base:Heap)(k:Nat)(x:Str)(Fh:DM D->DM D):Prop where
 ex:∃f,mg x=some (.ref f)∧PySem.W.keepIn K (.ref f)=true∧∀(A:Around) (outer:List Env) (s:Shared) (H:Hp) (ρ:Rh) (M:Mo) (g:Addr) (th:DM D) (Q:VK) (E:XK),Room (k+1) A->Env0 P w K mg base A outer s H->
  ThD P w K mg base k outer s H ρ g th->J mg ρ M H->Go mg E (Cv mg) Q ρ H (Fh th) M->codeAny (model P w) A (.call (.ref f) ⟨[.ref g],[]⟩) (CR (cj P w) outer P w H s Q E) s
def Af(n:Nat)(fb:DM D->ao->DM Fl)(th:DM D):DM D:=fb th (List.replicate n none)>>=fun r=>match r with
 |.nx _=>pure .non
 |.rt d=>pure d
 |_=>stuck
section
variable{P:Program}{w:World}{K:PySem.W.Frag}{mg:Str->Option Value}{base:Heap}{k:Nat}{x y:Str}{N:List Str}{st:Stmt}
theorem Qc (T:DefAt K mg x st) (S:FnScope N [y] (defScope st))
  (hbody:∀{f cdv A outer s H E ρ g th},Room k (A.deeper (envOfC x (defScope st) s.heap.objs.size f cdv))->ThD P w K mg base k outer s H ρ g th->
    ASs (bO P w K mg base N x (defScope st) f cdv A outer s H E) E (Jv 0 g ρ H) (defBody st) (fb th))
  (hb:∀(kV doc pm:Value) (an:Option Addr) (cdv ct u:Value),bindArgs (PySem.W.fnOf x x (defArgs st) (defBody st) (defScope st) .none kV doc pm an cdv ct) ⟨[u],[]⟩=pure ([y].zip [u]):=by intros;rfl):HrdD P w K mg base k x (Af N.length fb):=by
 obtain⟨f,fd,F,m⟩:=T.ex
 refine⟨f,m,F.kp,fun A outer s H ρ M g th Q E hr e0 hth j go=>?_⟩
 have hN:1≤N.length:=by have:=congrArg List.length S.pre;rw[List.length_take] at this;simp at this;lia
 refine Je (us:=[.ref g]) (vs:=[.ref g]) F S e0 hr (fun _ _ _ _ _ _=>hb _ _ _ _ _ _ _) rfl (.cons rfl .nil) fun cdv hr'=>⟨_,(hbody hr' hth).h,ρ,List.replicate N.length none,M,⟨rfl,.refl⟩,⟨?_,fun i d q=>?_⟩,j,?_⟩
 ·unfold L2.start;simp;lia
 ·rw[List.getElem?_replicate] at q
  split at q<;>cases q
 ·obtain⟨r,e,p⟩:=go
  have e:DM.bind _ _ M=some r:=e
  unfold DM.bind at e
  split at e
  ·cases e
  ·rename_i c M' em
   cases e
   exact⟨_,em,p⟩
  ·rename_i a M' em
   refine⟨_,em,?_⟩
   cases a with
   |nx δ'=>cases e;exact fun ρ1 H1 b x j c=>p ρ1 H1 .non x j .non
   |rt d=>cases e;exact fun ρ1 H1 b x j c=>p ρ1 H1 b x j c
   |bk δ'=>cases e
   |ct δ'=>cases e
end
structure LamC(X:Cx)(scope:Scope)(cl:List (Str×Addr))(js:List Nat)(fr:List Str):Prop where
 ok:LamOk scope cl fr
 clos:closureFor scope X.env=pure cl
 sub:∀y c,cl.lookup y=some c->X.env.cells.lookup y=some c
 len:js.length=fr.length
 fre:∀(k j:Nat) (y:Str),js[k]?=some j->fr[k]?=some y->X.N[j]?=some y∧X.env.scope.names.lookup y=some .cell∧∃c,cl.lookup y=some c
theorem Ey {X:Cx}{scope:Scope}{cl:List (Str×Addr)}{js:List Nat}{fr:List Str}{pins:List (Addr×Obj)}{σ:L2.St}{H H2:Hp}{s s2:Shared} (T:LamC X scope cl js fr) (hfn:∀ x,X.fn x=true) (I:Inv X pins σ H s) (un:Un (frs X.stack) [] H H2 s.heap s2.heap):CellsAt cl fr (pick js σ) H2 s2.heap:=by
 have out:∀y c,cl.lookup y=some c->c∉frs X.stack:=fun y c e hm=>by
  rcases List.mem_cons.mp (I.stkSub c hm) with z | z
  ·exact I.cne y c (T.sub _ _ e) z
  ·obtain⟨_,o,ho,_⟩:=I.ok.funs.mem z
   exact absurd (Heap.lt_size ho) (Nat.not_lt.mpr (I.ok.cab y c (hfn y) (T.sub _ _ e)))
 have kp:∀y c v,cl.lookup y=some c->s.heap.IsCell c v->s2.heap.IsCell c v:=fun y c v e ⟨o,ho,hd⟩=>⟨o,un.keep c o ho (I.freeC y c (T.sub _ _ e)) (out y c e) (by simp),hd⟩
 refine⟨fun x y c h1 h2=>I.ok.inj x y c (T.sub _ _ h1) (T.sub _ _ h2),fun x c e=>?_,fun x c e=>?_,fun i x v h1 h2=>?_,?_⟩
 ·obtain⟨v,z⟩:=I.cell x c (T.sub _ _ e)
  exact⟨v,kp x c v e z⟩
 ·obtain⟨v,o,ho,_⟩:=I.cell x c (T.sub _ _ e)
  exact un.free c o ho (I.freeC x c (T.sub _ _ e)) (by simp)
 ·unfold pick at h2
  rw[List.getElem?_map] at h2
  cases hj:js[i]? with
  |none=>rw[hj] at h2;cases h2
  | some j=>
    rw[hj] at h2
    have h2s:(σ[j]?).getD none=some v:=Option.some.inj h2
    have h2':σ[j]?=some (some v):=by
     cases z:σ[j]? with
     |none=>rw[z] at h2s;cases h2s
     |some w=>rw[z] at h2s;exact congrArg some h2s
    obtain⟨g1,g2,c,g3⟩:=T.fre i j x hj h1
    obtain⟨mX,_,hl⟩:=I.loc
    obtain⟨u,r,q⟩:=hl j x v g1 h2' (.inr (.inl g2))
    refine⟨u,c,r,g3,kp x c _ g3 ?_⟩
    rcases q with ⟨q,_⟩ | ⟨_,c2,e2,z⟩
    ·have:X.env.scope.names.lookup x=some .local:=q
     rw[g2] at this;cases this
    ·rw[T.sub _ _ g3] at e2;cases e2
     exact z
 ·unfold pick;rw[List.length_map];exact T.len
theorem Cj (js:List Nat) (fr:List Str) (Hd:HrdD X.prog X.w X.K X.mg X.base (k + 1) fx Fh) (hr:Room j X.A) (hx:Passes (cj X.prog X.w) X E)
  (T:TabD X.mg X.base c P) (hcd:X.env.code=.ref c) (hP:∃ps,X.H₀ P=some (.tbl ps))
  (hbody:∀{qual g cd A outer s H E},Room k (A.deeper (PySem.W.envX qual scope s.heap.objs.size g cd cl))->DE (oF X.prog X.w X.K X.mg X.base fr qual scope g cd cl A outer s H E) E body tb) (L:LamC X scope cl js fr) (hjk:k+2≤j:=by decide) (hfn:∀x,X.fn x=true:=by intros;rfl)
  (hdef:defaultsOf params X.env=([],[]):=by rfl) (hbind:∀qual pm cv ctv,bindArgs (PySem.W.kla_fn "<lambda>" qual params body scope cl pm cv ctv) ⟨[],[]⟩=pure []:=by intros;rfl) (hg:Gl X fx:=by rfl) (hdb:(fx==("__debug__":Str))=false:=by decide) :
  DE X E (.Call (.Name fx p) [.Lambda params body scope lpos] [] pos) (fun δ=>Fh (tb (cO js δ))):=⟨by
 obtain⟨f,hm,hkp,run⟩:=Hd.ex
 intro pins s σ H Q I h
 obtain⟨ρ,δ,M,ev,jj,go⟩:=h
 refine wpAny_Call_Name_kw (ld_glob I hg hm ?_ hdb)
 obtain⟨ps0,hP0⟩:=hP
 obtain⟨more,hPt⟩:=I.base.tbls P ps0 hP0
 have pl:PE X (.Lambda params body scope lpos) (LR P params body scope cl):=K7 hcd T.hd T.ne T.bl L.clos hdef
 refine PySem.W.callWith_K (h₀:=X.base) I.ok.mod.kin hkp (thn (Gr pl pa_nil rfl pos pins s σ H (fun vs H1=>∃g,vs=[.ref g]∧H g=none∧Same H H1∧pP H1 g params body scope cl) I ⟨⟨_,hPt⟩,fun g H1 a b c=>⟨g,rfl,a,b,c⟩⟩) fun us s1 h1=>?_) (bC rfl) rfl
 obtain⟨vs,H1,I1,r,g,rfl,hgn,S,La⟩:=h1
 refine⟨I1.kIn,?_⟩
 obtain⟨u,rfl,ru⟩:∃u,us=[u]∧RelV (.ref g) u:=by
  cases r with
  |cons r1 r2=>cases r2;exact⟨_,rfl,r1⟩
 obtain rfl:u=Value.ref g:=ru
 have x1:Ext ρ H ρ H1:=.same S
 have go1:Go X.mg E (Cv X.mg) Q ρ H1 (Fh (tb (cO js δ))) M:=let ⟨r,e,p⟩:=go;⟨r,e,p.mono x1⟩
 have th:ThD X.prog X.w X.K X.mg X.base (k+1) X.stack s1 H1 ρ g (tb (cO js δ)):=by
  refine⟨fun s2 H2 un ok=>?_,fun A2 outer2 s2 H2 ρ2 M2 Q2 E2 hr2 e2 un ex2 j2 zA=>?_⟩
  ·obtain⟨qual,pm,cv,ctv,hgl,_⟩:=La
   exact⟨_,_,_,_,(ok g _ (un.frzs g _ _ hgl)).1⟩
  ·refine Jf L.ok e2 hr2 (La.mono fun b o e=>un.frzs b o _ e) (Ey L hfn I1 un) hbind fun qual cd hr3=>⟨_,(hbody hr3).h,ρ2,cO js δ,M2,?_,j2,zA⟩
   have:=zr ((ev.mono x1).mono ex2) 0 js
   show Ev X.mg ρ2 H2 (pick js σ) (cO js δ)
   simpa[aX] using this
 refine wpAny_call (codeAny_mono (run X.A X.stack s1 H1 ρ M g _ Q E (hr.mono hjk) I1.env0 th (jj.same S) go1) fun r s' hq=>?_)
 cases r with
 |error e=>exact hx pins σ H1 s1 e s' I1 hq
 |ok fl=>
   cases fl with
   |ret u=>exact I1.after hq
   |next=>exact False.elim hq
   |brk=>exact False.elim hq
   |cont=>exact False.elim hq⟩
open PySem PySem.Spec L2
open PyProof.Rows hiding St
end L3
namespace L2
open PySem PySem.Spec PyProof.Rows LS
end L2
namespace L3
open PySem PySem.Spec L2
open PyProof.Rows hiding St
open PySem PySem.Spec L2
open PyProof.Rows hiding St
end L3
namespace L3
open PySem PySem.Spec L2
open PyProof.Rows hiding St
end L3
namespace L3
open PySem PySem.Spec PyProof.Rows L2
end L3
namespace L3
open PySem PySem.Spec L2 LA LB LS
open PyProof.Rows hiding St
end L3
namespace L3
open PySem PySem.Spec L2
open PyProof.Rows hiding St
variable{X:Cx}{E:XK}
end L3
namespace L3
open PySem PySem.Spec PyProof.Rows L2
end L3
namespace L3
open PySem PySem.Spec L2
open PyProof.Rows hiding St
end L3
namespace L3
open PySem PySem.Spec L2
end L3
namespace L2
open PySem PySem.Spec PyProof.Rows
end L2
namespace L3
open PySem PySem.Spec L2
end L3
namespace L3
open PySem PySem.Spec L2
open PyProof.Rows hiding St
theorem Ka(j:J mg ρ M H)(e:∀(j:Nat) (o:DO),M[j]?=some o->M'[j]?=some o):Jw M' M.length M:=by
 refine⟨rfl,fun n u h=>?_⟩
 have hn:=(List.getElem?_eq_some_iff.mp h).1
 refine⟨u,e n u h,?_⟩
 have hl:n<ρ.st.length:=by rw[j.len];exact hn
 have c:=j.obj n ρ.st[n] u (List.getElem?_eq_getElem hl) h
 cases u with
 |lst l=>obtain⟨xs,_,c⟩:=c;exact c.fz j.len
 |dic ks l=>obtain⟨xs,_,_,c⟩:=c;exact⟨rfl,c.fz j.len⟩
 |ins cc ns l=>obtain⟨C,dx,xs,_,_,_,c⟩:=c;exact⟨rfl,rfl,c.fz j.len⟩
 |pdc ks l=>obtain⟨xs,_,_,_,_,c⟩:=c;exact⟨rfl,c.fz j.len⟩
theorem rB:DE X E e (fun _=>stuck):=⟨by
 intro pins s σ H D I h
 obtain⟨ρ,δ,M,ev,j,g1⟩:=h
 obtain⟨r,e,_⟩:=g1
 cases e⟩
abbrev Hc(P:Program)(w:World)(K:PySem.W.Frag)(mg:Str->Option Value)(base:Heap)(N:List Str)(qual:Str)(scope:Scope)(f:Addr)(cd:Value)(A:Around)(outer:List Env)(s:Shared)(H:Hp):Cx:=
 { bO P w K mg base N qual scope f cd A outer s H E0 with calm:=false,xe:=fun _ _=>False }
section
variable{P:Program}{w:World}{K:PySem.W.Frag}{mg:Str->Option Value}{base:Heap}{A:Around}{outer:List Env}{s:Shared}{H:Hp}{k:Nat}
theorem Inv.toN(I:Inv (bO P w K mg base N qual scope f cd A outer s H E) pins σ H1 s1):Inv (Hc P w K mg base N qual scope f cd (A.mark y) outer s H) pins σ H1 s1:=
 ⟨⟨I.ok.mod,I.ok.kind,I.ok.glob,I.ok.blt,I.ok.above,I.ok.inj,I.ok.has,I.ok.cab,fun z=>(by cases z),I.ok.frames,I.ok.stk,I.ok.exf,I.ok.bs,I.ok.bsz,I.ok.noex,I.ok.exfs,I.ok.funs,I.ok.frf⟩,I.os,I.bare,I.base,I.loc,I.cell,I.free,I.freeC,I.pin,I.hok,I.len⟩
theorem Jd {x:Str}{st:Stmt}{f:Addr}{fd:FuncData}{N ps:List Str}{us:List Value}{vs:List V}{y:Option Value}{Q:VK}{E:XK} (F:Fun K x x st f fd) (S:FnScope N ps (defScope st)) (e0:Env0 P w K mg base (A.mark y) outer s H) (hr:Room (k + 1) A)
  (hb:∀(kV doc pm:Value) (an:Option Addr) (cdv ct:Value),bindArgs (PySem.W.fnOf x x (defArgs st) (defBody st) (defScope st) .none kV doc pm an cdv ct) ⟨us,[]⟩=pure (ps.zip us)) (hl:vs.length=ps.length) (r:Vals vs us)
  (hbody:∀cdv,Room k (A.deeper (envOfC x (defScope st) s.heap.objs.size f cdv))->∃t,PSs (Hc P w K mg base N x (defScope st) f cdv (A.mark y) outer s H) (defBody st) t∧t { nx:=fun _ H'=>Q .non H',rt:=Q } (L2.start N vs) H) :
  codeAny (model P w) (A.mark y) (.call (.ref f) ⟨us,[]⟩) (CR (cj P w) outer P w H s Q E) s:=by
 obtain⟨oc,od,kV,doc,pm,an,cdv,ct,osl,rfl,lk,hcd⟩:=F.ex
 have KX:K.In s.heap:=e0.mod.kin.keeps fun b o e=>(e0.bs b o e).1
 have lim:s.heap.NoLimit:=e0.mod.nolimit.keeps fun b o e=>(e0.bs b o e).1
 have hkind:∀y∈ps.zip us,(defScope st).names.lookup y.1=some .local∨((defScope st).names.lookup y.1=some .cell∧((cellsFrom (s.heap.objs.size+1) (defScope st).names []).lookup y.1).isSome=true):=fun⟨n,v⟩ hy=>by
  rcases S.par n (List.of_mem_zip hy).1 with q | q
  ·exact .inl q
  ·exact .inr ⟨q,PySem.W.cellsFrom_some _ _ _ (.inl q)⟩
 refine codeAny_call_function hr.depth (KX _ _ lk) rfl S.co S.gen rfl (PySem.W.codeRec_of KX hcd) ?_
 rw[hb]
 refine wpAny_pure (wpAny_newFunctionEnv_cells S.kind hkind fun env he s1 x=>?_)
 subst he
 refine⟨lim.keeps x.toInCall.keep,codeAny_func ?_⟩
 obtain⟨t,ht,hq⟩:=hbody cdv (hr.deeper _)
 have e1:Env0 P w K mg base A outer s H:=⟨e0.frames,e0.mod,e0.bs,e0.bsz,e0.funs,e0.frf,e0.hok,e0.bare⟩
 have I:=inv_start (CX:=cj P w) (E:=E) S hr.hd e1 hl r x
 refine wpAny_mono (ht [] s1 (L2.start N vs) H _ (Inv.toN I) hq) (fun fl s' hs=>?_) fun e s' hs=>hs.elim
 cases fl with
 |ret u=>
   obtain⟨v,σ',H',J,rv,q⟩:=hs
   exact⟨v,H',J.os,J.bare,J.base,J.hok,rv,q⟩
 |next=>
   obtain⟨σ',H',J,q⟩:=hs
   exact⟨V.non,H',J.os,J.bare,J.base,J.hok,(rfl:RelV .non Value.none),q⟩
 |brk=>
   obtain⟨_,_,_,q⟩:=hs
   exact False.elim q
 |cont=>
   obtain⟨_,_,_,q⟩:=hs
   exact False.elim q
end
abbrev Bc:List String:=["LookupError", "TypeError", "ArithmeticError", "RuntimeError"]
structure FlK(K:PySem.W.Frag)(mg:Str->Option Value)(ns:List Str)(c:Str)(C:Addr):Prop where
 xa:XAt K C
 kit:∀k∈ns,∀D,mg k=some (.ref D)->PySem.W.kitOne K (.ref C) (.ref D)=some (c==k)
 val:PySem.W.kitOne K (.ref C) (.type "ValueError")=some true
 oth:PySem.W.kitAny K (.ref C) (Bc.map Value.type)=some false
def Hh:D->Option Addr
 |.exn a=>some a
 |_=>none
theorem J6(h:Hh d=some y):d=.exn y:=by
 unfold Hh at h
 split at h
 ·cases h;rfl
 ·cases h
def HB:D->Option String
 |.ty t=>some t
 |_=>none
theorem Ml(h:HB d=some t):d=.ty t:=by
 unfold HB at h
 split at h
 ·cases h;rfl
 ·cases h
def Kl(ns:List Str)(c:Str):D->Option D
 |.cls k=>if ns.contains k then some (.bl (c==k)) else none
 |.ty t=>if t = "ValueError" then some (.bl true) else none
 |.tup l=>if l.map HB=Bc.map some then some (.bl false) else none
 |_=>none
def jC(ns:List Str)(y:Addr)(c:Str):List D->Mo->Option D
 |[d,k],_=>if Hh d=some y then Kl ns c k else none
 |_,_=>none
theorem Eg:∀ {l:List D}{ts:List String},l.map HB=ts.map some->l=ts.map D.ty
 |[],[],_=>rfl
 |[],_::_,h=>by cases h
 |_::_,[],h=>by cases h
 |d::l,t::ts,h=>by
   rw[List.map_cons,List.map_cons] at h
   rw[Ml (List.cons.inj h).1,Eg (List.cons.inj h).2];rfl
theorem zq:∀{ts:List String}{xs:List V},Cvs mg ρ H xs (ts.map D.ty)->xs=ts.map V.ty
 |[],_,.nil=>rfl
 |_::_,_,.cons a t=>by cases a;rw[zq t];rfl
theorem yN:∀{ts:List String}{us:List Value},Vals (ts.map V.ty) us->us=ts.map Value.type
 |[],_,.nil=>rfl
 |_::_,_,.cons a t=>by cases a;rw[yN t];rfl
theorem bf (T:FlK X.K X.mg ns c C) (ho:oe.cls=.ref C) (h0:X.s₀.heap.get? y=some oe) (hn:X.H₀ y=none) (hf:y∉X.fs) (hex:X.ex=[]:=by rfl):CallD X E (.builtin "isinstance") (fun l=>rd (jC ns y c l)):=by
 intro pins s σ H vs us Q I rs q
 obtain⟨ρ,M,ds,j,cs,go⟩:=q
 obtain⟨d,e,p⟩:=go.rd
 have hh:s.heap.get? y=some oe:=I.base.keep y oe h0 hn hf (by rw[hex];simp)
 unfold jC at e
 split at e
 rotate_left
 ·cases e
 split at e
 rotate_left
 ·cases e
 rename_i hk
 obtain rfl:=J6 hk
 obtain⟨v,w,rfl,k1,k2⟩:=cs.two
 obtain⟨u,w',rfl,r1,r2⟩:=vals2 rs
 cases k1
 cases r1
 have Z:=Ga (x:=y) T.xa ho
 have fin:∀b,d=.bl b->∀tk,EP X pins σ Q (.bool b) { s with toks:=tk }:=fun b e tk=>⟨.bl b,H,I.tok _,rfl,p ρ H _ .refl j (e ▸ .bl b)⟩
 unfold Kl at e
 split at e
 ·split at e
  ·rename_i hm
   cases k2 with | cls h=>
   cases r2
   exact PySem.W.kia_one Z I.kIn hh (T.kit _ (List.contains_iff_mem.mp hm) _ h) (fun z=>nomatch z) (fin _ (Option.some.inj e).symm)
  ·cases e
 ·split at e
  ·rename_i hm
   subst hm
   cases k2
   cases r2
   exact PySem.W.kia_one Z I.kIn hh T.val (fun z=>nomatch z) (fin _ (Option.some.inj e).symm)
  ·cases e
 ·split at e
  ·rename_i hm
   obtain rfl:=Eg hm
   cases k2 with | tup hna ha cc=>
   cases r2
   rw[zq cc] at ha
   obtain⟨_,its,rv,o,ho',hc',n,hd'⟩:=I.hok _ _ ha
   rw[yN rv] at hd'
   obtain⟨o1,o2,o3,o4⟩:=o
   cases hc';cases hd'
   exact PySem.W.kia_tup Z I.kIn hh ho' T.oth (fun z=>nomatch z) (fin _ (Option.some.inj e).symm)
  ·cases e
 ·cases e
structure FlgD(P:Program)(w:World)(K:PySem.W.Frag)(mg:Str->Option Value)(base:Heap)(k:Nat)(x:Str)(rs:List Str)(W:Str->D):Prop where
 ex:∃f,mg x=some (.ref f)∧PySem.W.keepIn K (.ref f)=true∧∀(A:Around) (outer:List Env) (s:Shared) (H:Hp) (ρ:Rh) (M:Mo) (y:Addr) (oe:Obj) (c:Str) (C:Addr) (Q:VK) (E:XK),Room (k+1) A->Env0 P w K mg base (A.mark (some (.ref y))) outer s H->
  s.heap.get? y=some oe->H y=none->y∉frs outer->c∈rs->mg c=some (.ref C)->oe.cls=.ref C->J mg ρ M H->Go mg E (Cv mg) Q ρ H (pure (W c)) M->
  codeAny (model P w) (A.mark (some (.ref y))) (.call (.ref f) ⟨[.ref y],[]⟩) (CR (cj P w) outer P w H s Q E) s
theorem H8 (hr:Room k X.A) (Fg:FlgD X.prog X.w X.K X.mg X.base j x rs W) (hc:c∈rs) (hm:X.mg c=some (.ref C)) (ho:oe.cls=.ref C) (hjk:j + 1≤k:=by decide) (hN:X.N[i]?=some n:=by rfl)
  (hv:Vis X.env.scope n:=by exact Or.inl rfl) (hd:(n==("__debug__":Str))=false:=by decide) (hcd:(n==("__classdict__":Str))=false:=by decide) (hg:Gl X x:=by rfl) (hdb:(x==("__debug__":Str))=false:=by decide) :
  DSs (X.sui y oe) E0 [.Return (some (.Call (.Name x p) [.Name n p2] [] pos)) pos2] (fun δ=>uA i δ>>=fun d=>match d with
   |.exn a=>if a==y then pure (.rt (W c)) else stuck
   |_=>stuck):=by
 refine aA ⟨PS.mono (L2.ps_ret (te:=fun σ H Q=>∃ρ M,σ[i]?=some (some (.ref y))∧J X.mg ρ M H∧Go X.mg E0 (Cv X.mg) Q ρ H (pure (W c)) M) ?_) fun D σ H h=>?_⟩
 ·obtain ⟨f,hf,hkp,run⟩:=Fg.ex
  intro pins s σ H Q I h
  obtain⟨ρ,M,hσ,j,go⟩:=h
  refine wpAny_Call_Name_kw (ld_glob I hg hf ?_ hdb)
  refine PySem.W.callWith_K (h₀:=X.base) I.ok.mod.kin hkp (thn (Gr (X:=X.sui y oe) (pe_var hN hv hd hcd) pa_nil rfl pos pins s σ H (fun vs H1=>vs=[.ref y]∧H1=H) I ⟨.ref y,hσ,rfl,rfl⟩) fun us s1 h1=>?_) (bC rfl) rfl
  obtain⟨vs,H1,I1,r,rfl,rfl⟩:=h1
  refine⟨I1.kIn,?_⟩
  obtain⟨u,rfl,ru⟩:∃u,us=[u]∧RelV (.ref y) u:=by
   cases r with
   |cons r1 r2=>cases r2;exact⟨_,rfl,r1⟩
  obtain rfl:u=Value.ref y:=ru
  obtain⟨e1,e2,e3,e4,_⟩:=I1.pin (y,oe) (List.mem_append_left _ (List.mem_append_right _ List.mem_cons_self))
  have hns:y∉frs X.stack:=fun hm=>by
   rcases List.mem_cons.mp (I1.stkSub y hm) with z | z
   ·exact e3 z
   ·exact e4 z
  refine wpAny_call (codeAny_mono (run X.A X.stack s1 H1 ρ M y oe c C Q E0 (hr.mono hjk) I1.env0 e1 e2 hns hc hm ho j go) fun r s' hq=>?_)
  cases r with
  |error e=>
    obtain⟨_,_,_,_,_,_,_,_,_,_,_,_,_,q⟩:=hq
    exact q.elim
  |ok fl=>
    cases fl with
    |ret u=>exact I1.after hq
    |next=>exact False.elim hq
    |brk=>exact False.elim hq
    |cont=>exact False.elim hq
 ·obtain ⟨ρ,δ,M,ev,j,g1⟩:=h
  obtain⟨r,e,q⟩:=g1
  have e:DM.bind (uA i δ) _ M=some r:=e
  rename_i e0;clear e0
  unfold DM.bind at e
  split at e
  ·cases e
  ·rename_i c' M' em
   unfold uA at em
   obtain⟨_,_,z⟩:=Option.map_eq_some_iff.mp em
   cases z
  ·rename_i a M' em
   obtain⟨d,hd',z⟩:=Option.map_eq_some_iff.mp em
   cases z
   have hδ:δ[i]?=some (some a):=by
    cases z:δ[i]? with
    |none=>rw[z] at hd';cases hd'
    |some o=>rw[z] at hd';cases o with
      |none=>cases hd'
      |some b=>cases hd';rfl
   obtain⟨v,hv',cv⟩:=ev.val i a hδ
   dsimp only at e
   split at e
   ·split at e
    ·rename_i a hay
     obtain rfl:=beq_iff_eq.mp hay
     have e':=Option.some.inj e
     subst e'
     cases cv
     exact⟨ρ,M,hv',j,_,rfl,fun ρ1 H1 v x j c=>q ρ1 H1 v x j c⟩
    ·cases e
   ·cases e
structure DefT(P:Program)(w:World)(K:PySem.W.Frag)(mg:Str->Option Value)(base:Heap)(k:Nat)(x:Str)(ps:List Str)(Pt:Addr)(F:List D->DM D):Prop where
 h:DefC P w K mg base k x ps (fun vs H Q E=>yK mg F vs H Q E∧∃qs,H Pt=some (.tbl qs))
theorem Qf{P:Program}{w:World}{K:PySem.W.Frag}{mg:Str->Option Value}{base:Heap}{k:Nat}{x:Str}{N ps:List Str}{st:Stmt}{fb:ao->DM Fl}{Pt c:Addr}{h:Heap}(T:DefAt K mg x st)(S:FnScope N ps (defScope st))(X:K.In h)(G:h.Ns mainGlobals mg)(ht:PySem.W.tabIn K x=some (c,Pt))
  (hbody:∀{f cdv A outer s H E},(∃qs,H Pt=some (.tbl qs))->cdv=.ref c->Rm k A x st s f cdv->Ds P w K mg base N x st f cdv A outer s H E fb)
  (hb:∀(kV doc pm:Value) (an:Option Addr) (cdv ct:Value) (us:List Value),us.length=ps.length->bindArgs (PySem.W.fnOf x x (defArgs st) (defBody st) (defScope st) .none kV doc pm an cdv ct) ⟨us,[]⟩=pure (ps.zip us):=by intro _ _ _ _ _ _ us hl;first | (obtain⟨_,rfl⟩:=Aw hl;rfl) | (obtain⟨_,_,rfl⟩:=Ge hl;rfl) | (obtain⟨_,_,_,rfl⟩:=Gf hl;rfl) | (obtain⟨_,_,_,_,rfl⟩:=Ax hl;rfl)) :
  DefT P w K mg base (k+1) x ps Pt (aJ ps.length N.length fb):=by
 obtain⟨f,fd,F,m⟩:=T.ex
 have hc:=F.codeC X G m ht
 have Fb:=F.binds hb
 have Fk:=F.kp
 obtain⟨oc,od,kV,doc,pm,an,cdv,ct,osl,rfl,lk,cd⟩:=F.ex
 obtain rfl:cdv=.ref c:=hc
 refine⟨f,_,fn_of lk cd S (fun vs H Q E h=>?_) fun A outer s H vs Q E hr h=>?_,Fb,Fk,m⟩
 ·obtain⟨⟨ρ,M,ds,c,j,g⟩,_⟩:=h
  rw[c.len];exact (bA.aJ g).1
 obtain⟨⟨ρ,M,ds,c,j,g⟩,ht⟩:=h
 exact⟨_,(hbody ht rfl hr).h,ρ,_,M,gD c,j,(bA.aJ g).2⟩
theorem Ng(j:J mg ρ M H)(h:H a=some (HO.tbl qs)):a∉ρ.st:=fun z=>by
 obtain⟨n,hn,e⟩:=List.mem_iff_getElem.mp z
 have hm:n<M.length:=by rw[←j.len];exact hn
 have c:=j.obj n a M[n] (by rw[List.getElem?_eq_getElem hn,e]) (List.getElem?_eq_getElem hm)
 cases hM:M[n] with
 |lst l=>rw[hM] at c;obtain⟨_,c,_⟩:=c;rw[h] at c;cases c
 |dic ks l=>rw[hM] at c;obtain⟨_,c,_⟩:=c;rw[h] at c;cases c
 |ins cc ns l=>rw[hM] at c;obtain⟨_,_,_,_,c,_⟩:=c;rw[h] at c;cases c
 |pdc ks l=>rw[hM] at c;obtain⟨_,c,_⟩:=c;rw[h] at c;cases c
theorem Fv(D:DefT X.prog X.w X.K X.mg X.base j x ps Pt F)(hP:∃qs,X.H₀ Pt=some (.tbl qs))(hr:Room k X.A)(hx:Passes (cj X.prog X.w) X E)(ha:DA X E (e::es) fs)(hjk:j≤k:=by decide)(hg:Gl X x:=by rfl)(hdb:(x==("__debug__":Str))=false:=by decide)
  (he:notStar e=true:=by rfl) (hpl:(backTo pos (starEach es X.env)).any (·.1)=false:=by rfl) :
  DE X E (.Call (.Name x p) (e::es) [] pos) (fun δ=>fs δ>>=F):=⟨fun pins s σ H Q I h=>by
 obtain⟨qs,hq⟩:=hP
 obtain⟨more,hq⟩:=I.base.tbls Pt qs hq
 refine vI D.h hr hx ha.h hjk hg hdb he hpl pins s σ H Q I ?_
 obtain⟨ρ,δ,M,ev,j,g1⟩:=h
 refine⟨ρ,δ,M,ev,j,g1.bind fun ρ1 H1 M1 xs dxs e1 j1 c1 g2=>?_⟩
 rw[List.append_nil]
 exact And.intro ⟨ρ1,M1,dxs,c1,j1,g2⟩ ⟨_,e1.keep Pt _ hq (Ng j hq)⟩⟩
def vf(K:PySem.W.Frag)(C:Addr)(c:Str):List Str->Prop
 |[]=>True
 |x::xs=>(∃d,PySem.W.nsIn K mainGlobals x=some (some (.ref d))∧PySem.W.kitOne K (.ref C) (.ref d)=some (c==x))∧vf K C c xs
theorem bL{K:PySem.W.Frag}{C d:Addr}{c x:Str}{xs:List Str}(q:Bool)(a:PySem.W.nsIn K mainGlobals x=some (some (.ref d)))(b:PySem.W.kitOne K (.ref C) (.ref d)=some q)(e:(c==x)=q)(t:vf K C c xs):vf K C c (x::xs):=⟨⟨d,a,b.trans (congrArg some e.symm)⟩,t⟩
theorem vf.at{K:PySem.W.Frag}{C:Addr}{c x:Str}:∀{ns:List Str},vf K C c ns->x∈ns->∃d,PySem.W.nsIn K mainGlobals x=some (some (.ref d))∧PySem.W.kitOne K (.ref C) (.ref d)=some (c==x)
 |_::_,h,.head _=>h.1
 |_::_,h,.tail _ m=>vf.at h.2 m
theorem J8{K:PySem.W.Frag}{mg:Str->Option Value}{h:Heap}{ns:List Str}{c:Str}{C:Addr}(X:K.In h)(G:h.Ns mainGlobals mg)(n:vf K C c ns)(xa:XAt K C)(v:PySem.W.kitOne K (.ref C) (.type "ValueError")=some true)(o:PySem.W.kitAny K (.ref C) (Bc.map Value.type)=some false):FlK K mg ns c C:=
 ⟨xa,fun k hk D hD=>by
  obtain⟨d,e1,e2⟩:=n.at hk
  have:=(PySem.W.mg_of X G e1).symm.trans hD
  cases this
  exact e2,v,o⟩
theorem bK{ns:List Str}(h:∀x∈ns,∃C,X.mg x=some (.ref C))(hx:ns.contains x=true:=by decide +kernel)(hg:Gl X x:=by rfl)(hd:(x==("__debug__":Str))=false:=by decide):DE X E (.Name x pos) (fun _=>pure (.cls x)):=by
 obtain⟨C,e⟩:=h x (List.contains_iff_mem.mp hx)
 exact JZ e hg hd
theorem OD {P:Program}{w:World}{K:PySem.W.Frag}{mg:Str->Option Value}{base:Heap}{k:Nat}{x:Str}{N ps:List Str}{st:Stmt}{fb:ao->DM Fl}{f:Addr}{fd:FuncData}{ts:List (Addr×Addr)} (F:Fun K x x st f fd) (S:FnScope N ps (defScope st))
  (hbody:∀(cdv:Value) (A:Around) (outer:List Env) (s:Shared) (H:Hp) (E:XK),(∀q∈ts,H q.2=some (.tbl #[]))->Room k (A.deeper (envOfC x (defScope st) s.heap.objs.size f cdv))->
    DSs (bO P w K mg base N x (defScope st) f cdv A outer s H E) E (defBody st) fb):FnOk P w K mg base (cj P w) (k+1) f fd ps (fun vs H Q E=>yK mg (aJ ps.length N.length fb) vs H Q E∧∀q∈ts,H q.2=some (.tbl #[])):=by
 obtain⟨oc,od,kV,doc,pm,an,cdv,ct,osl,rfl,lk,cd⟩:=F.ex
 refine fn_of lk cd S (fun vs H Q E h=>?_) fun A outer s H vs Q E hr h=>?_
 ·obtain⟨⟨ρ,M,ds,c,j,g⟩,_⟩:=h
  rw[c.len];exact (bA.aJ g).1
 obtain⟨⟨ρ,M,ds,c,j,g⟩,ht⟩:=h
 exact⟨_,(hbody cdv A outer s H E ht hr).h,ρ,_,M,gD c,j,(bA.aJ g).2⟩
end L3
namespace L2
open PySem PySem.Spec PyProof.Rows
end L2
namespace L3
open PySem PySem.Spec L2
end L3
namespace L2
open PySem PySem.Spec PyProof.Rows
end L2
namespace L3
open PySem PySem.Spec L2
section
variable{X:Cx}{E:XK}
def pairsOf:List D->Option (List Key×List D)
 |[]=>some ([],[])
 |.tup [k,d]::r=>match O2 k,pairsOf r with
   |some k,some p=>some (k::p.1,d::p.2)
   |_,_=>none
 |_=>none
end
end L3
namespace L3
open PySem PySem.Spec L2 LB
open PyProof.Rows hiding St
end L3
namespace L2
open PySem PySem.Spec PyProof.Rows
end L2
namespace L3
open PySem PySem.Spec L2
end L3
namespace L2
open PySem PySem.Spec PyProof.Rows
end L2
namespace L3
open PySem PySem.Spec L2
open PyProof.Rows hiding St
end L3
namespace L3
open PySem PySem.Spec L2
theorem u3{n:Nat}(h:n+64<cLine):n+3<cLine:=by lia
end L3
namespace L3
open PySem PySem.Spec L2
open PyProof.Rows hiding St
section
variable{P:Program}{w:World}{K:PySem.W.Frag}{mg:Str->Option Value}{base:Heap}{k:Nat}{x p:Str}{N:List Str}{st:Stmt}{rs ns:List Str}{W:Str->D}
theorem O3 {fb:Addr->Str->ao->DM Fl} (T:DefAt K mg x st) (S:FnScope N [p] (defScope st)) (hk:∀ c∈rs,∀ C,mg c=some (.ref C)->FlK K mg ns c C)
  (hF:∀y c (M:Mo),c∈rs->∃M2,fb y c (bz N.length [.exn y]) M=some (.ok (.rt (W c)),M2)∧(∀(j:Nat) (o:DO),M[j]?=some o->M2[j]?=some o)∧Fz M2 M.length (W c) (W c))
  (hbody:∀{f:Addr}{cdv:Value}{A:Around}{outer:List Env}{s:Shared}{H:Hp}{y:Addr}{oe:Obj}{c:Str}{C:Addr},Room k (A.deeper (envOfC x (defScope st) s.heap.objs.size f cdv))->FlK K mg ns c C->oe.cls=.ref C->s.heap.get? y=some oe->H y=none->y∉frs outer->
    DSs (Hc P w K mg base N x (defScope st) f cdv (A.mark (some (.ref y))) outer s H) E0 (defBody st) (fb y c))
  (hb:∀(kV doc pm:Value) (an:Option Addr) (cdv ct u:Value),bindArgs (PySem.W.fnOf x x (defArgs st) (defBody st) (defScope st) .none kV doc pm an cdv ct) ⟨[u],[]⟩=pure ([p].zip [u]):=by intros;rfl):FlgD P w K mg base k x rs W:=by
 obtain⟨f,fd,F,m⟩:=T.ex
 refine⟨f,m,F.kp,fun A outer s H ρ M y oe c C Q E hr e0 hy hn hf hc hm ho j go=>?_⟩
 refine Jd (us:=[.ref y]) (vs:=[.ref y]) F S e0 hr (fun _ _ _ _ _ _=>hb _ _ _ _ _ _ _) rfl (.cons rfl .nil) fun cdv hr'=>⟨_,(hbody (c:=c) hr' (hk c hc C hm) ho hy hn hf).h,ρ,bz N.length [.exn y],M,gD (.cons (.exn y) .nil),j,?_⟩
 obtain⟨r,e,q⟩:=go
 cases e
 obtain⟨M2,e2,old,fz⟩:=hF y c M hc
 have fm:=Ka j old
 exact⟨(.ok (.rt (W c)),M2),e2,fun ρ1 H1 v x1 j1 c1=>q ρ H1 v ⟨⟨[],by simp⟩,rfl,fun a h n=>absurd h n,x1.keep⟩ (j1.freeze ⟨x1.pre,x1.vo,j.len⟩ j.len fm) (c1.freeze ⟨x1.pre,x1.vo,j.len⟩ j1 fz)⟩
end
def Hg (x y:D) (M:Mo):Option D:=match x with
 |.ref n=>match M[n]? with
   |some (.lst l)=>fO (.lst l) y M
   |_=>none
 |_=>none
theorem KZ {X:Cx}{E:XK} (hu:X.A.units + 64<cLine):bZ X E (compareOp .Eq) (fun x y=>rd (Hg x y)):=by
 intro pins s σ H x y v u Q I rx ry q
 obtain⟨ρ,M,dx,dy,j,cx,cy,g⟩:=q
 obtain⟨d,e,q⟩:=Go.rd g
 unfold Hg at e
 split at e
 ·split at e
  ·rename_i n _ l hl
   cases cx with | ref hn=>
   obtain⟨xs,hx,c⟩:=j.obj _ _ _ hn hl
   obtain⟨b,hb,rfl⟩:=Option.map_eq_some_iff.mp e
   rcases Cy hb with ⟨_,_,z,_⟩ | hb
   ·cases z
   ·obtain⟨p,p',k1,k2,h3,h4,h5,rfl⟩:=Cz hb
    obtain⟨ps,e1,e2⟩:=Option.map_eq_some_iff.mp (show (dN l).map PyData.list=some p from k1)
    have rp:RepF H true _ (PyData.list ps):=.lst hx (c.repF e1)
    rw[e2] at rp
    refine Dm hu pins s σ H _ y v u Q I rx ry ⟨p,p',rp.toRep,(cy.repF k2).toRep,h3,h4,h5,?_⟩
    simpa using q ρ H _ .refl j (.bl _)
  ·cases e
 ·cases e
end L3
namespace N10
end N10
namespace K
open PySem L2 L3
theorem fQ(l:List Str)(h:l.Nodup:=by decide):l.Nodup:=h
local macro_rules | `(tactic| trivial)=>`(tactic| refine⟨rfl,by decide +kernel,rfl,yL ?_,fun m_=>xH rfl,by decide,rfl,Im rfl,Io ?_,xF ?_⟩<;>((repeat' apply And.intro)<;>first | exact True.intro | rfl | exact Or.inl rfl | exact Or.inr rfl | exact⟨_,rfl⟩))
def top(i:Nat):Stmt:=PySem.Challenge.pw_fadewalk_k55_rules_known.main.body.getD i (.Pass ⟨0,0,0,0⟩)
abbrev uq:List Str:=["NoRule"]
abbrev Qd(k:Nat)(N:List Str)(x:Str)(st:Stmt)(Y:Program->World->PySem.W.Frag->Mg->Heap->Prop->Prop):={b:ao->DM Fl // ∀{P w K mg base f cdv A outer s H E},Y P w K mg base (Rm k A x st s f cdv->Ds P w K mg base N x st f cdv A outer s H E b)}
abbrev Qe(k:Nat)(N:List Str)(x:Str)(st:Stmt)(Y:(Nat->Str->List Str->Fn->Prop)->(Str->Prop)->Prop->Prop):=Qd k N x st fun P w K m o=>Y (DefD P w K m o) (Nn m)
abbrev Sc(N ps:List Str)(st:Stmt):=FnScope N ps (defScope st)
theorem cP{N P:List Str}{sc:Scope}(a:sc.kind=.function:=by exact rfl)(b:sc.isCoroutine=false:=by exact rfl)(c:sc.isGenerator=false:=by exact rfl)(p:N.take P.length=P:=by exact rfl)(d:(decide N.Nodup&&(decide (∀x∈P,sc.names.lookup x=some .local∨sc.names.lookup x=some .cell)&&decide (∀y∈sc.names,y.2≠.free)))=true:=by decide +kernel):FnScope N P sc:=uh a b c p d
theorem jZ{X:Cx}{E:XK}{scope:Scope}{cl:List (Str×Addr)}{elt i0:Expr}{p0 pos:Pos}{fi:ao->DM Itn}{fe:ao->DM D}(x:Str)(js:List Nat)(fr:List Str)(hi:DI X E (.Name x p0) i0 fi)
  (he:∀{pins m fp C s₂ H₂},DE (X.aY pins scope (cellsFrom m scope.names cl) ([x]++fr) fp C s₂ H₂) E0 elt fe) (T:CompG X scope cl [x] js fr:=by trivial) (hc:X.calm=true:=by exact rfl)
  (nd:([x]++fr).Nodup:=by decide) (hl:∀m C Z,(compEnvC scope (cellsFrom m scope.names cl) C Z).scope.names.lookup x=some .local:=by intros;exact rfl)
  (hs:∀y,foldedSetIterable i0 X.env y=pure y:=by intro _;rfl) :
  DE X E (.ListComp elt [⟨.Name x p0,i0,[],0⟩] scope pos) (fun δ=>fi δ>>=fun it=>cJ (cB (gN 0) (fun _=>pure true) (aW fe) it (aX [x].length js δ) [])>>=fun p=>Out.val.run p.2):=
 dU (own:=[x]) .val hc T hi (fun _ _ _ _ _ _=>aV (i:=0) nd rfl (Or.inl (hl ..)) (Or.inr (hl ..))) (fun _ _ _ _ _ _=>cR) (fun _ _ _ _ _ _=>he) hs
section
variable(N:Nat)(v0 v1 v2 v3 v4 v5 v6 v7 v8 v9 v10 v11 v12 v13 v14 v15 v16 v17 v18 v19:Fn)
abbrev nY:Stmt:=top 24
theorem yU:Sc ["thing"] ["thing"] nY:=cP
@[simp] noncomputable def tX:Qe 0 ["thing"] "is_whole" nY fun D n Z=>n "bool"->n "int"->n "isinstance"->Z:=
 ⟨_,fun ya yb yc hr=>(aA (aK (oV (aG bR yc (aa (aj 0) (aa (dI (T := "int") yb) ak))) (oX (Cm (aG bR yc (aa (aj 0) (aa (dI (T := "bool") ya) ak))))))))⟩
noncomputable def iV:=(tX).1
abbrev iM:Stmt:=top 29
theorem uO:Sc ["thing", "many"] ["thing", "many"] iM:=cP
@[simp] noncomputable def oG:Qe 1 ["thing", "many"] "are_weights" iM fun D n Z=>D 1 "is_whole" ["thing"] v0->n "all"->n "isinstance"->n "len"->n "tuple"->Z:=
 ⟨_,fun ya yb yc yd ye hr=>(au (cg (DW.dt (dJ (cu (bJ (aG bR yc (aa (aj 0) (aa (dI (T := "tuple") ye) ak))) (fun _=>rfl))) (dX (bD (cX hr.units) (aG call_lenD yd (aa (aj 0) ak)) (aj 1)))))
  (aA (aK cN))
  bF)
  (aA (aK (aG (ie hr.hd) yb (aa (jZ "weight" [] [] (dW (aj 0)) (oV (aD ya hr jD (aa (aj 0) ak)) (oX (ig xY (aj 0) az)))) ak)))))⟩
noncomputable def dB:=(oG v0).1
abbrev nW:Stmt:=top 30
theorem yS:Sc ["thing", "many"] ["thing", "many"] nW:=cP
@[simp] noncomputable def tW:Qe 2 ["thing", "many"] "are_rows" nW fun D n Z=>D 2 "are_weights" ["thing", "many"] v0->n "all"->n "isinstance"->n "len"->n "tuple"->Z:=
 ⟨_,fun ya yb yc yd ye hr=>(au (cg (DW.dt (dJ (cu (bJ (aG bR yc (aa (aj 0) (aa (dI (T := "tuple") ye) ak))) (fun _=>rfl))) (dX (bD (cX hr.units) (aG call_lenD yd (aa (aj 0) ak)) (aj 1)))))
  (aA (aK cN))
  bF)
  (aA (aK (aG (ie hr.hd) yb (aa (jZ "row" [1] ["many"] (dW (aj 0)) (aD ya hr jD (aa (aj 0) (aa (aj 1) ak)))) ak)))))⟩
noncomputable def fZ:=(tW v0).1
abbrev uM:Stmt:=top 35
theorem yI:Sc ["first", "second", "thing", "many", "columns"] ["first", "second", "thing"] uM:=cP
@[simp] noncomputable def zP:Qe 3 ["first", "second", "thing", "many", "columns"] "joins" uM fun D n Z=>D 3 "are_rows" ["thing", "many"] v0->n "len"->n "list"->n "range"->n "sum"->n "tuple"->Z:=
 ⟨_,fun ya yb yc yd ye yf hr=>have nd:=yI.nd;(au (aU (i:=3) nd rfl (Or.inl rfl) (aG call_lenD yb (aa (aj 0) ak)))
  (au (cg (cu (bJ (aD ya hr aN (aa (aj 2) (aa (aj 3) ak))) (fun _=>rfl)))
  (aA (aK cN))
  bF)
  (au (jz (i:=4) (own:=["place"]) (js:=[2]) (fr:=["thing"]) .val nd rfl (Or.inl rfl) rfl (by trivial) (bH rfl yd (aa (aj 3) ak)) (fun _ _ _ _ _ _=>(aV (i:=0) (fQ ["place", "thing"]) rfl (Or.inr rfl))) (fun _ _ _ _ _ _=>cR) (fun _ _ _ _ _ _=>(dj (T := "tuple") bU yf (aa (jZ "row" [0] ["place"] (dW (aj 1)) (aP aZ (aj 0) (aj 1))) ak))))
  (aA (aK (oV (ig (dF hr.units) (jZ "row" [] [] (dW (aj 2)) (aG (cZ hr.hd) ye (aa (aj 0) ak))) (dj (T := "list") eG yc (aa (aj 0) ak))) (oX (ig (dF hr.units) (jZ "column" [] [] (il (aj 4)) (aG (cZ hr.hd) ye (aa (aj 0) ak))) (dj (T := "list") eG yc (aa (aj 1) ak))))))))))⟩
noncomputable def ur:=(zP v0).1
abbrev gq:Stmt:=top 36
theorem jO:Sc ["first", "second", "many", "joining", "place", "left", "wanted", "x", "y", "moved"] ["first", "second"] gq:=cP
@[simp] noncomputable def gf:Qe 0 ["first", "second", "many", "joining", "place", "left", "wanted", "x", "y", "moved"] "least_joining" gq fun D n Z=>n "len"->n "min"->n "range"->n "tuple"->Z:=
 ⟨_,fun ya yb yc yd hr=>have nd:=jO.nd;(au (aU (i:=2) nd rfl (Or.inr rfl) (aG call_lenD ya (aa (aj 0) ak)))
  (au (aU (i:=3) nd rfl (Or.inr rfl) (jZ "place" [2] ["many"] (bH rfl yc (aa (aj 2) ak)) (aH uF (bj (aa az ak)) (aj 1))))
  (au (fj 0 PassesOwn.leaving rfl (bH rfl yc (aa (aj 2) ak)) (aV (i:=4) nd rfl (Or.inl rfl))
  (aA (jy (aG (m6 rfl) yb (aa (aP aZ (aj 0) (aj 4)) (aa (aP aZ (aj 1) (aj 4)) ak))) (jx (aP aZ (aj 3) (aj 4)) (aj 4) lq))))
  (au (jz (i:=5) (own:=["place"]) (js:=[0,3]) (fr:=["first", "joining"]) .sto nd rfl (Or.inl rfl) rfl (by trivial) (bH rfl yc (aa (aj 2) ak)) (fun _ _ _ _ _ _=>(aV (i:=0) (fQ ["place", "first", "joining"]) rfl (Or.inl rfl))) (fun _ _ _ _ _ _=>cR) (fun _ _ _ _ _ _=>(aH jm (aP aZ (aj 1) (aj 0)) (aP aZ (aP aZ (aj 2) (aj 0)) (aj 0)))))
  (au (jz (i:=6) (own:=["place"]) (js:=[1,3]) (fr:=["second", "joining"]) .sto nd rfl (Or.inl rfl) rfl (by trivial) (bH rfl yc (aa (aj 2) ak)) (fun _ _ _ _ _ _=>(aV (i:=0) (fQ ["place", "second", "joining"]) rfl (Or.inl rfl))) (fun _ _ _ _ _ _=>cR) (fun _ _ _ _ _ _=>(aH jm (aP aZ (aj 1) (aj 0)) (aP aZ (aP aZ (aj 2) (aj 0)) (aj 0)))))
  (au (fj 0 PassesOwn.leaving rfl (bH rfl yc (aa (aj 2) ak)) (aV (i:=7) nd rfl (Or.inl rfl))
  (aA (fj 0 PassesOwn.leaving rfl (bH rfl yc (aa (aj 2) ak)) (aV (i:=8) nd rfl (Or.inl rfl))
  (au (aU (i:=9) nd rfl (Or.inl rfl) (aG (m6 rfl) yb (aa (aP aZ (aj 5) (aj 7)) (aa (aP aZ (aj 6) (aj 8)) ak))))
  (au (uv (aP aZ (aj 3) (aj 7)) (aj 8) Gp (aj 9))
  (au (uv (aj 5) (aj 7) xZ (aj 9))
  (aA (uv (aj 6) (aj 8) xZ (aj 9)))))))))
  (aA (aK (dj (T := "tuple") bU yd (aa (jZ "row" [] [] (il (aj 3)) (dj (T := "tuple") bU yd (aa (aj 0) ak))) ak))))))))))⟩
noncomputable def jX:=(gf).1
abbrev nZ:Stmt:=top 37
theorem yV:Sc ["things"] ["things"] nZ:=cP
@[simp] noncomputable def tY:Qe 0 ["things"] "pairs_of" nZ fun D n Z=>n "len"->n "range"->Z:=
 ⟨_,fun ya yb hr=>(aA (aK (Fw (own:=["x", "y"]) (js:=[0]) (fr:=["things"]) .val rfl (by trivial) (bH rfl yb (aa (aG call_lenD ya (aa (aj 0) ak)) ak)) (fun _ _ _ _ _ _=>(aV (i:=0) (fQ ["x", "y", "things"]) rfl (Or.inl rfl))) (fun _ _ _ _ _ _=>cR) (fun _ _ _ _ _ _=>(Cr rfl yb (aa (aH aM (aj 0) az) (aa (aG call_lenD ya (aa (aj 2) ak)) ak)))) (fun _ _ _ _ _ _=>(aV (i:=1) (fQ ["x", "y", "things"]) rfl (Or.inl rfl))) (fun _ _ _ _ _ _=>cR) (fun _ _ _ _ _ _=>(bB (aa (aP aZ (aj 2) (aj 0)) (aa (aP aZ (aj 2) (aj 1)) ak)))))))⟩
noncomputable def sI:=(tY).1
abbrev gP:Stmt:=top 38
theorem lg:Sc ["lots", "thing", "pairs"] ["lots", "thing"] gP:=cP
@[simp] noncomputable def my:Qe 4 ["lots", "thing", "pairs"] "are_joinings" gP fun D n Z=>D 1 "pairs_of" ["things"] v0->D 4 "joins" ["first", "second", "thing"] v1->n "all"->n "isinstance"->n "len"->n "tuple"->n "zip"->Z:=
 ⟨_,fun ya yb yc yd ye yf yg hr=>have nd:=lg.nd;(au (aU (i:=2) nd rfl (Or.inl rfl) (aD ya hr aN (aa (aj 0) ak)))
  (au (cg (DW.dt (dJ (cu (bJ (aG bR yd (aa (aj 1) (aa (dI (T := "tuple") yf) ak))) (fun _=>rfl))) (dX (bD (cX hr.units) (aG call_lenD ye (aa (aj 1) ak)) (aG call_lenD ye (aa (aj 2) ak))))))
  (aA (aK cN))
  bF)
  (aA (aK (aG (ie hr.hd) yc (aa (dU (own:=["joining", "first", "second"]) (js:=[]) (fr:=[]) .val rfl (by trivial) (Cu rfl yg (aa (aj 2) (aa (aj 1) ak))) (fun _ _ _ _ _ _=>(ik (n:=2) rfl (bM (ik (n:=2) rfl (bM (aV (i:=1) (fQ ["joining", "first", "second"]) rfl (Or.inl rfl)) (bM (aV (i:=2) (fQ ["joining", "first", "second"]) rfl (Or.inl rfl)) fM))) (bM (aV (i:=0) (fQ ["joining", "first", "second"]) rfl (Or.inl rfl)) fM)))) (fun _ _ _ _ _ _=>cR) (fun _ _ _ _ _ _=>(aD yb hr jD (aa (aj 1) (aa (aj 2) (aa (aj 0) ak)))))) ak))))))⟩
noncomputable def eF:=(my v0 v1).1
abbrev fK:Stmt:=top 39
theorem qz:Sc ["lots"] ["lots"] fK:=cP
@[simp] noncomputable def fJ:Qe 1 ["lots"] "least_joinings" fK fun D n Z=>D 1 "pairs_of" ["things"] v0->D 1 "least_joining" ["first", "second"] v1->n "tuple"->Z:=
 ⟨_,fun ya yb yc hr=>(aA (aK (dj (T := "tuple") bU yc (aa (dU (own:=["first", "second"]) (js:=[]) (fr:=[]) .val rfl (by trivial) (il (aD ya hr aN (aa (aj 0) ak))) (fun _ _ _ _ _ _=>(ik (n:=2) rfl (bM (aV (i:=0) (fQ ["first", "second"]) rfl (Or.inl rfl)) (bM (aV (i:=1) (fQ ["first", "second"]) rfl (Or.inl rfl)) fM)))) (fun _ _ _ _ _ _=>cR) (fun _ _ _ _ _ _=>(aD yb hr jD (aa (aj 0) (aa (aj 1) ak))))) ak))))⟩
noncomputable def ju:=(fJ v0 v1).1
abbrev gm:Stmt:=top 42
theorem jN:Sc ["thing", "whole"] ["thing"] gm:=cP
@[simp] noncomputable def kO:Qd 3 ["thing", "whole"] "can_be_walked" gm fun P w K m o Z=>∀{t_MOST_PLACES},DefD P w K m o 3 "are_rows" ["thing", "many"] v0->Gi m "MOST_PLACES" 25 t_MOST_PLACES->Nn m "all"->Nn m "isinstance"->Nn m "len"->Nn m "sum"->Nn m "tuple"->Z:=
 ⟨_,fun ya yb yc yd ye yf yg hr=>have nd:=jN.nd;(au (cg (DW.dt (dJ (cu (bJ (aG bR yd (aa (aj 0) (aa (dI (T := "tuple") yg) ak))) (fun _=>rfl))) (dJ (cu (FQ Dn Dn az (aG call_lenD ye (aa (aj 0) ak)) (Mz yb))) (dX (cu (bJ (aD ya hr aN (aa (aj 0) (aa (aG call_lenD ye (aa (aj 0) ak)) ak))) (fun _=>rfl)))))))
  (aA (aK cN))
  bF)
  (au (aU (i:=1) nd rfl (Or.inr rfl) (aG (cZ hr.hd) yf (aa (aP aZ (aj 0) az) ak)))
  (aA (aK (oV (ig xY (aj 1) az) (oX (aG (ie hr.hd) yc (aa (jZ "row" [1] ["whole"] (dW (aj 0)) (ig (dF hr.units) (aG (cZ hr.hd) yf (aa (aj 0) ak)) (aj 1))) ak))))))))⟩
noncomputable def jW:=(kO v0).1
abbrev gk:Stmt:=inClass (top 46) 0
theorem rW:Sc ["self", "rows"] ["self", "rows"] gk:=cP
@[simp] noncomputable def kJ:Qd 4 ["self", "rows"] "Walk.__init__" gk fun P w K m o Z=>∀{C_Walk},DefD P w K m o 4 "can_be_walked" ["thing"] v0->OCls K m "Walk" C_Walk ["rows", "whole"]->Nn m "sum"->Z:=
 ⟨_,fun ya yb yc hr=>(au (cg (cu (bJ (aD ya hr aN (aa (aj 1) ak)) (fun _=>rfl)))
  (aA FJ)
  bF)
  (au (Cw yb (by decide) (aj 0) (aj 1))
  (aA (Cw yb (by decide) (aj 0) (aG (cZ hr.hd) yc (aa (aP aZ (aj 1) az) ak))))))⟩
noncomputable def jV:=(kJ v0).1
abbrev pG:Stmt:=top 48
theorem Bq:Sc ["walk", "thing"] ["walk", "thing"] pG:=cP
@[simp] noncomputable def vJ:Qd 5 ["walk", "thing"] "is_rule" pG fun P w K m o Z=>∀{C_Walk},DefD P w K m o 5 "are_joinings" ["lots", "thing"] v0->OCls K m "Walk" C_Walk ["rows", "whole"]->Z:=
 ⟨_,fun ya yb hr=>(aA (aK (aD ya hr aN (aa (Ci yb (by decide) (aj 0)) (aa (aj 1) ak)))))⟩
noncomputable def vm:=(vJ v0).1
abbrev fL:Stmt:=top 49
theorem qC:Sc ["walk", "thing"] ["walk", "thing"] fL:=cP
@[simp] noncomputable def jH:Qd 6 ["walk", "thing"] "refuse_no_rule" fL fun P w K m o Z=>∀{F0},DefD P w K m o 6 "is_rule" ["walk", "thing"] v0->XTab K m uq F0->Z:=
 ⟨_,fun ya yb hr=>(aA (cg (cu (bJ (aD ya hr aN (aa (aj 0) (aa (aj 1) ak))) (fun _=>rfl)))
  (aA (Fy yb (by decide) bw))
  bF))⟩
noncomputable def jw:=(jH v0).1
abbrev lO:Stmt:=top 50
theorem yG:Sc ["walk"] ["walk"] lO:=cP
@[simp] noncomputable def lG:Qd 2 ["walk"] "best_rule" lO fun P w K m o Z=>∀{C_Walk},DefD P w K m o 2 "least_joinings" ["lots"] v0->OCls K m "Walk" C_Walk ["rows", "whole"]->Z:=
 ⟨_,fun ya yb hr=>(aA (aK (aD ya hr aN (aa (Ci yb (by decide) (aj 0)) ak))))⟩
noncomputable def qO:=(lG v0).1
abbrev qp:Stmt:=top 54
theorem GK:Sc ["walk", "rule", "one", "other", "steps", "nexts", "weights", "whole", "step"] ["walk", "rule", "one", "other", "steps"] qp:=cP
@[simp] noncomputable def uK:Qe 7 ["walk", "rule", "one", "other", "steps", "nexts", "weights", "whole", "step"] "unmet" qp fun D n Z=>D 7 "refuse_no_rule" ["walk", "thing"] v0->Z:=
 ⟨_,fun ya hr=>(au (jk (aD ya hr aN (aa (aj 0) (aa (aj 1) ak)))) oY)⟩
noncomputable def zg:=(uK v0).1
abbrev uN:Stmt:=top 56
theorem GJ:Sc ["walk", "rule", "nexts", "steps", "left", "still"] ["walk", "rule"] uN:=cP
@[simp] noncomputable def uJ:Qe 7 ["walk", "rule", "nexts", "steps", "left", "still"] "meets" uN fun D n Z=>D 7 "refuse_no_rule" ["walk", "thing"] v0->Z:=
 ⟨_,fun ya hr=>(au (jk (aD ya hr aN (aa (aj 0) (aa (aj 1) ak)))) oY)⟩
noncomputable def zf:=(uJ v0).1
abbrev gJ:Stmt:=top 58
theorem ug:Sc ["_law_script", "_law_k"] ["_law_script", "_law_k"] gJ:=cP
@[simp] noncomputable def mj:Qe 0 ["_law_script", "_law_k"] "_law_cell_at" gJ fun D n Z=>n "len"->Z:=
 ⟨_,fun ya hr=>(au (cg (bD Do (aj 1) (aG call_lenD ya (aa (aj 0) ak)))
  (aA (aK (aP aZ (aj 0) (aj 1))))
  bF)
  (aA (aK az)))⟩
noncomputable def gC:=(mj).1
abbrev lK:Stmt:=top 59
theorem pJ:Sc ["_law_seed"] ["_law_seed"] lK:=cP
@[simp] noncomputable def qU:Qe 0 ["_law_seed"] "_law_next" lK fun _ _ Z=>Z:=
 ⟨_,fun  hr=>have nd:=pJ.nd;(au (aU (i:=0) nd rfl (Or.inl rfl) (aH lY (aH aM (aj 0) az) az))
  (aA (aK (aH lY (aH aM (aH aM (aH uE (aj 0) (aj 0)) (aH uE az (aj 0))) az) az))))⟩
noncomputable def qK:=(qU).1
abbrev iK:Stmt:=top 60
theorem mO:Sc ["_law_cell", "_law_left"] ["_law_cell"] iK:=cP
@[simp] noncomputable def iI:Qe 0 ["_law_cell", "_law_left"] "_law_pen_of" iK fun D n Z=>n "int"->n "max"->Z:=
 ⟨_,fun ya yb hr=>have nd:=mO.nd;(au (aU (i:=1) nd rfl (Or.inl rfl) (aG (Ah rfl) yb (aa (aj 0) (aa (aH jm az (aj 0)) ak))))
  (aA (aK (ut (aa (aj 1) (aa (dj (T := "int") Ag ya (aa (ig xY (aj 1) (aH uG az az)) ak)) (aa (aH lY (aj 1) az) ak)))))))⟩
noncomputable def oE:=(iI).1
abbrev lJ:Stmt:=top 61
theorem pI:Sc ["_law_pen", "_law_many", "_law_found"] ["_law_pen", "_law_many"] lJ:=cP
@[simp] noncomputable def lC:Qe 1 ["_law_pen", "_law_many", "_law_found"] "_law_draw" lJ fun D n Z=>D 1 "_law_next" ["_law_seed"] v0->Z:=
 ⟨_,fun ya hr=>have nd:=pI.nd;(au (cg (DW.dt (w6 (bD (dF hr.units) (aP aZ (aj 0) az) az) (ux (bD o8 (aP aZ (aj 0) az) az))))
  (au (aU (i:=2) nd rfl (Or.inl rfl) (aH lY (aP aZ (aj 0) az) (aj 1)))
  (au (jy (aH rP (aP aZ (aj 0) az) (aj 1)) (jx (aj 0) az lq))
  (aA (aK (aj 2)))))
  bF)
  (au (jy (aD ya hr aN (aa (aH aM (aD ya hr aN (aa (aP aZ (aj 0) az) ak)) az) ak)) (jx (aj 0) az lq))
  (aA (aK (aH lY (aH rP (aP aZ (aj 0) az) az) (aj 1))))))⟩
noncomputable def qJ:=(lC v0).1
abbrev jL:Stmt:=top 62
theorem vR:Sc ["_law_thing"] ["_law_thing"] jL:=cP
@[simp] noncomputable def ph:Qe 0 ["_law_thing"] "_law_whole" jL fun D n Z=>n "bool"->n "int"->n "isinstance"->Z:=
 ⟨_,fun ya yb yc hr=>(aA (aK (oV (aG bR yc (aa (aj 0) (aa (dI (T := "int") yb) ak))) (oX (Cm (aG bR yc (aa (aj 0) (aa (dI (T := "bool") ya) ak))))))))⟩
noncomputable def jt:=(ph).1
abbrev nR:Stmt:=top 63
theorem qW:Sc ["_law_pen", "_law_some"] ["_law_pen"] nR:=cP
@[simp] noncomputable def nG:Qe 2 ["_law_pen", "_law_some"] "_law_odd" nR fun D n Z=>D 2 "_law_draw" ["_law_pen", "_law_many"] v0->Z:=
 ⟨_,fun ya hr=>have nd:=qW.nd;(au (aU (i:=1) nd rfl (Or.inl rfl) (bj (aa oW (aa cN (aa cN (aa (sV az) (aa az (aa az (aa az (aa (aH uG az az) (aa bw (aa bw ak))))))))))))
  (au (aU (i:=1) nd rfl (Or.inl rfl) (aH aM (aj 1) (bj (aa (bB ak) (aa (bj ak) (aa HQ (aa (bB (aa az ak)) (aa (bB (aa az (aa az ak))) (aa (bj (aa az ak)) (aa bw (aa (bB (aa (bB (aa az ak)) ak)) (aa (bB (aa (bB (aa az ak)) ak)) ak))))))))))))
  (aA (aK (aP aZ (aH aM (aj 1) (bj (aa (bB (aa az (aa az ak))) (aa (bB (aa az (aa az ak))) (aa (bB (aa (bB (aa az (aa az ak))) (aa (bB (aa az (aa az ak))) ak))) (aa bw (aa HR (aa (bB (aa cN ak)) ak)))))))) (aD ya hr aN (aa (aj 0) (aa az ak))))))))⟩
noncomputable def sG:=(nG v0).1
abbrev lH:Stmt:=top 64
theorem pH:Sc ["_law_pen", "_law_row_here", "_law_at", "_law_to", "_law_odd_here", "_law_some"] ["_law_pen", "_law_row_here"] lH:=cP
@[simp] noncomputable def lz:Qe 3 ["_law_pen", "_law_row_here", "_law_at", "_law_to", "_law_odd_here", "_law_some"] "_law_bent" lH fun D n Z=>D 3 "_law_odd" ["_law_pen"] v0->D 2 "_law_draw" ["_law_pen", "_law_many"] v1->n "len"->n "list"->Z:=
 ⟨_,fun ya yb yc yd hr=>have nd:=pH.nd;(au (HY (i:=2) (j:=3) (k:=4) rfl nd rfl rfl rfl (by decide) (by decide) (by decide) rfl rfl rfl (aa (aD yb hr aN (aa (aj 0) (aa (aH aM (aG call_lenD yc (aa (aj 1) ak)) az) ak))) (aa (aD yb hr aN (aa (aj 0) (aa (aH aM (aG call_lenD yc (aa (aj 1) ak)) az) ak))) (aa (aD ya hr aN (aa (aj 0) ak)) ak))) rfl)
  (au (aU (i:=5) nd rfl (Or.inl rfl) (bj (aa (aH aM (aH aM (b8 (aj 1) cQ (bW (aj 2))) (bB (aa (aj 4) ak))) (b8 (aj 1) (bW (aH aM (aj 2) az)) cQ)) (aa (aH aM (b8 (aj 1) cQ (bW (aj 2))) (b8 (aj 1) (bW (aH aM (aj 2) az)) cQ)) (aa (aH aM (aH aM (b8 (aj 1) cQ (bW (aj 2))) (b8 (aj 1) (bW (aj 2)) (bW (aH aM (aj 2) az)))) (b8 (aj 1) (bW (aj 2)) cQ)) ak)))))
  (au (aU (i:=5) nd rfl (Or.inl rfl) (aH aM (aj 5) (bj (aa (aH aM (b8 (aj 1) (bW (aj 3)) cQ) (b8 (aj 1) cQ (bW (aj 3)))) (aa (dj (T := "list") eG yd (aa (aj 1) ak)) (aa (aH aM (aj 1) (bB (aa (aj 4) ak))) (aa (Cp (aj 1)) (aa (aj 4) ak))))))))
  (aA (aK (aP aZ (aj 5) (aD yb hr aN (aa (aj 0) (aa az ak)))))))))⟩
noncomputable def qH:=(lz v0 v1).1
abbrev gW:Stmt:=top 65
theorem jM:Sc ["_law_pen", "_law_thing", "_law_deep_here", "_law_at"] ["_law_pen", "_law_thing", "_law_deep_here"] gW:=cP
@[simp] noncomputable def lB(v0 v1 v2 v3 v4:Fn):{b // ∀{P w K mg base f cdv A outer s H E k_} (hk_:4≤k_) (ya:DefD P w K mg base 2 "_law_draw" ["_law_pen", "_law_many"] v0) (yb:DefD P w K mg base 1 "_law_whole" ["_law_thing"] v1) (yc:DefD P w K mg base 4 "_law_bent" ["_law_pen", "_law_row_here"] v2) (yd:DefD P w K mg base 3 "_law_odd" ["_law_pen"] v3) (ye:DefD P w K mg base k_ "_law_deep" ["_law_pen", "_law_thing", "_law_deep_here"] v4) (yf:Nn mg "isinstance") (yg:Nn mg "len") (yh:Nn mg "tuple") (hq_:Rm k_ A "_law_deep" gW s f cdv),Ds P w K mg base ["_law_pen", "_law_thing", "_law_deep_here", "_law_at"] "_law_deep" gW f cdv A outer s H E b}:=
 ⟨_,fun hk_ ya yb yc yd ye yf yg yh hq_=>have hr:=hq_.mono hk_;have nd:=jM.nd;(au (cg (DW.dt (dJ (cu (bJ (aG bR yf (aa (aj 1) (aa (dI (T := "tuple") yh) ak))) (fun _=>rfl))) (dJ (bD (Ir hr.units) (aj 1) (bB ak)) (dJ (bD (dF hr.units) (aj 2) az) (dX (bD (dF hr.units) (aD ya hr aN (aa (aj 0) (aa az ak))) az))))))
  (au (cg (DW.dt (w6 (bJ (aD yb hr aN (aa (aj 1) ak)) (fun _=>rfl)) (ux (bD o8 (aD ya hr aN (aa (aj 0) (aa az ak))) az))))
  (aA (aK (aH aM (aj 1) (aP aZ (bj (aa az (aa (sV az) ak))) (aD ya hr aN (aa (aj 0) (aa az ak)))))))
  bF)
  (aA (aK (Hf (bJ (aG bR yf (aa (aj 1) (aa (dI (T := "tuple") yh) ak))) (fun _=>rfl)) (aD yc hr aN (aa (aj 0) (aa (aj 1) ak))) (aD yd hr aN (aa (aj 0) ak))))))
  bF)
  (au (aU (i:=3) nd rfl (Or.inl rfl) (aD ya hr aN (aa (aj 0) (aa (aG call_lenD yg (aa (aj 1) ak)) ak))))
  (aA (aK (aH aM (aH aM (b8 (aj 1) cQ (bW (aj 3))) (bB (aa (aD ye hq_ aN (aa (aj 0) (aa (aP aZ (aj 1) (aj 3)) (aa (aH jm (aj 2) az) ak))) (Nat.le_refl _)) ak))) (b8 (aj 1) (bW (aH aM (aj 3) az)) cQ))))))⟩
noncomputable def qI:=(lB v0 v1 v2 v3 v4).1
abbrev nU:Stmt:=top 66
theorem qX:Sc ["_law_pen", "_law_many", "_law_whole_here", "_law_some", "_law_row_here", "_law_turn", "_law_at"] ["_law_pen", "_law_many", "_law_whole_here", "_law_some"] nU:=cP
@[simp] noncomputable def nH:Qe 2 ["_law_pen", "_law_many", "_law_whole_here", "_law_some", "_law_row_here", "_law_turn", "_law_at"] "_law_row" nU fun D n Z=>D 2 "_law_draw" ["_law_pen", "_law_many"] v0->n "len"->n "range"->n "tuple"->Z:=
 ⟨_,fun ya yb yc yd hr=>have nd:=qX.nd;(au (aU (i:=4) nd rfl (Or.inl rfl) (aH uF (bj (aa az ak)) (aj 1)))
  (au (fj 0 PassesOwn.leaving rfl (bH rfl yc (aa (aj 2) ak)) (aV (i:=5) nd rfl (Or.inl rfl))
  (au (aU (i:=6) nd rfl (Or.inl rfl) (aP aZ (aj 3) (aD ya hr aN (aa (aj 0) (aa (aG call_lenD yb (aa (aj 3) ak)) ak)))))
  (aA (jy (aH aM (aP aZ (aj 4) (aj 6)) az) (jx (aj 4) (aj 6) lq)))))
  (aA (aK (dj (T := "tuple") bU yd (aa (aj 4) ak))))))⟩
noncomputable def sH:=(nH v0).1
abbrev lM:Stmt:=top 67
theorem pK:Sc ["_law_pen", "_law_top", "_law_many", "_law_whole_here", "_law_rows_here", "_law_x", "_law_some", "_law_by"] ["_law_pen", "_law_top"] lM:=cP
@[simp] noncomputable def lD:Qe 3 ["_law_pen", "_law_top", "_law_many", "_law_whole_here", "_law_rows_here", "_law_x", "_law_some", "_law_by"] "_law_rows" lM fun D n Z=>D 2 "_law_draw" ["_law_pen", "_law_many"] v0->D 3 "_law_row" ["_law_pen", "_law_many", "_law_whole_here", "_law_some"] v1->n "list"->n "range"->n "tuple"->Z:=
 ⟨_,fun ya yb yc yd ye hr=>have nd:=pK.nd;(au (sX (i:=2) (j:=3) rfl nd rfl rfl (by decide) rfl rfl (aa (aH aM az (aD ya hr aN (aa (aj 0) (aa (aj 1) ak)))) (aa (aH aM az (aD ya hr aN (aa (aj 0) (aa az ak)))) ak)) rfl)
  (au (aU (i:=4) nd rfl (Or.inl rfl) (ut ak))
  (au (fj 0 PassesOwn.leaving rfl (bH rfl yd (aa (aj 2) ak)) (aV (i:=5) nd rfl (Or.inl rfl))
  (au (aU (i:=6) nd rfl (Or.inl rfl) (aP aZ (bj (aa (Ck rfl yc yd (aa (aj 2) ak)) (aa (bj (aa (aD ya hr aN (aa (aj 0) (aa (aj 2) ak))) (aa (aD ya hr aN (aa (aj 0) (aa (aj 2) ak))) ak))) ak))) (aD ya hr aN (aa (aj 0) (aa az ak)))))
  (aA (jk (pW PySem.F.plainAttrs_list PySem.F.slot_list_append PySem.F.type_list_append p8 (aj 4) (aa (aD yb hr aN (aa (aj 0) (aa (aj 2) (aa (aj 3) (aa (aj 6) ak))))) ak))))))
  (au (aU (i:=7) nd rfl (Or.inr rfl) (aP aZ (bj (aa az (aa az (aa az (aa (aH uG az az) ak))))) (aD ya hr aN (aa (aj 0) (aa az ak)))))
  (aA (aK (dj (T := "tuple") bU ye (aa (dU (own:=["_law_row_here"]) (js:=[7]) (fr:=["_law_by"]) .val rfl (by trivial) (il (aj 4)) (fun _ _ _ _ _ _=>(aV (i:=0) (fQ ["_law_row_here", "_law_by"]) rfl (Or.inl rfl))) (fun _ _ _ _ _ _=>cR) (fun _ _ _ _ _ _=>(dj (T := "tuple") bU ye (aa (jZ "_law_weight" [1] ["_law_by"] (dW (aj 0)) (aH uE (aj 0) (aj 1))) ak)))) ak))))))))⟩
noncomputable def qL:=(lD v0 v1).1
abbrev jK:Stmt:=top 68
theorem oJ:Sc ["_law_many", "_law_found", "_law_y"] ["_law_many"] jK:=cP
@[simp] noncomputable def jG:Qe 0 ["_law_many", "_law_found", "_law_y"] "_law_pairs" jK fun D n Z=>n "range"->n "sorted"->Z:=
 ⟨_,fun ya yb hr=>have nd:=oJ.nd;(au (aU (i:=1) nd rfl (Or.inl rfl) (bj ak))
  (au (fj 0 PassesOwn.leaving rfl (bH rfl ya (aa (aj 0) ak)) (aV (i:=2) nd rfl (Or.inr rfl))
  (aA (aU (i:=1) nd rfl (Or.inl rfl) (aH aM (aj 1) (jZ "_law_x" [2] ["_law_y"] (bH rfl ya (aa (aj 2) ak)) (bB (aa (aj 0) (aa (aj 1) ak))))))))
  (aA (aK (aG Aj yb (aa (aj 1) ak))))))⟩
noncomputable def oU:=(jG).1
abbrev gO:Stmt:=top 69
theorem kY:Sc ["_law_pen", "_law_one", "_law_other", "_law_mine", "_law_yours", "_law_table", "_law_some", "_law_more", "_law_x", "_law_y", "_law_gone"] ["_law_pen", "_law_one", "_law_other"] gO:=cP
@[simp] noncomputable def gG:Qe 2 ["_law_pen", "_law_one", "_law_other", "_law_mine", "_law_yours", "_law_table", "_law_some", "_law_more", "_law_x", "_law_y", "_law_gone"] "_law_joining" gO fun D n Z=>D 2 "_law_draw" ["_law_pen", "_law_many"] v0->n "len"->n "list"->n "min"->n "range"->n "sum"->n "tuple"->Z:=
 ⟨_,fun ya yb yc yd ye yf yg hr=>have nd:=kY.nd;(au (jy (bB (aa (dj (T := "list") sJ yc (aa (aj 1) ak)) (aa (dj (T := "list") sJ yc (aa (aj 2) ak)) (aa (jZ "_law_weight" [1] ["_law_one"] (dW (aj 1)) (aH uF (bj (aa az ak)) (aG call_lenD yb (aa (aj 1) ak)))) ak)))) (ik (n:=3) rfl (bM (aV (i:=3) nd rfl (Or.inr rfl)) (bM (aV (i:=4) nd rfl (Or.inr rfl)) (bM (aV (i:=5) nd rfl (Or.inl rfl)) fM)))))
  (au (FN N PassesOwn.leaving (bD o8 (aG (cZ hr.hd) yf (aa (aj 3) ak)) az) (au (jz (i:=6) (own:=["_law_x"]) (js:=[3]) (fr:=["_law_mine"]) .val nd rfl (Or.inl rfl) rfl (by trivial) (bH rfl ye (aa (aG call_lenD yb (aa (aj 3) ak)) ak)) (fun _ _ _ _ _ _=>(aV (i:=0) (fQ ["_law_x", "_law_mine"]) rfl (Or.inl rfl))) (fun _ _ _ _ _ _=>(uw (bD o8 (aP aZ (aj 1) (aj 0)) az))) (fun _ _ _ _ _ _=>(aj 0)))
  (au (jz (i:=7) (own:=["_law_y"]) (js:=[4]) (fr:=["_law_yours"]) .val nd rfl (Or.inl rfl) rfl (by trivial) (bH rfl ye (aa (aG call_lenD yb (aa (aj 4) ak)) ak)) (fun _ _ _ _ _ _=>(aV (i:=0) (fQ ["_law_y", "_law_yours"]) rfl (Or.inl rfl))) (fun _ _ _ _ _ _=>(uw (bD o8 (aP aZ (aj 1) (aj 0)) az))) (fun _ _ _ _ _ _=>(aj 0)))
  (au (sX (i:=8) (j:=9) rfl nd rfl rfl (by decide) rfl rfl (aa (aP aZ (aj 6) (aD ya hr aN (aa (aj 0) (aa (aG call_lenD yb (aa (aj 6) ak)) ak)))) (aa (aP aZ (aj 7) (aD ya hr aN (aa (aj 0) (aa (aG call_lenD yb (aa (aj 7) ak)) ak)))) ak)) rfl)
  (au (aU (i:=10) nd rfl (Or.inl rfl) (aG (m6 rfl) yd (aa (aP aZ (aj 3) (aj 8)) (aa (aP aZ (aj 4) (aj 9)) ak))))
  (au (cg (bD (dF hr.units) (aD ya hr aN (aa (aj 0) (aa az ak))) az)
  (aA (aU (i:=10) nd rfl (Or.inl rfl) (aH aM az (aH rP (aj 10) az))))
  bF)
  (au (jy (bB (aa (aH jm (aP aZ (aj 3) (aj 8)) (aj 10)) (aa (aH jm (aP aZ (aj 4) (aj 9)) (aj 10)) ak))) (ik (n:=2) rfl (bM (jx (aj 3) (aj 8) lq) (bM (jx (aj 4) (aj 9) lq) fM))))
  (aA (jy (aH aM (aP aZ (aP aZ (aj 5) (aj 8)) (aj 9)) (aj 10)) (jx (aP aZ (aj 5) (aj 8)) (aj 9) lq))))))))))
  (aA (aK (dj (T := "tuple") bU yg (aa (jZ "_law_row_here" [] [] (il (aj 5)) (dj (T := "tuple") bU yg (aa (aj 0) ak))) ak))))))⟩
noncomputable def eE:=(gG N v0).1
abbrev lN:Stmt:=top 70
theorem yF:Sc ["_law_pen", "_law_rows_here"] ["_law_pen", "_law_rows_here"] lN:=cP
@[simp] noncomputable def lE:Qe 3 ["_law_pen", "_law_rows_here"] "_law_rule" lN fun D n Z=>D 1 "_law_pairs" ["_law_many"] v0->D 3 "_law_joining" ["_law_pen", "_law_one", "_law_other"] v1->n "len"->n "tuple"->Z:=
 ⟨_,fun ya yb yc yd hr=>(aA (aK (dj (T := "tuple") bU yd (aa (dU (own:=["_law_x", "_law_y"]) (js:=[0,1]) (fr:=["_law_pen", "_law_rows_here"]) .val rfl (by trivial) (il (aD ya hr aN (aa (aG call_lenD yc (aa (aj 1) ak)) ak))) (fun _ _ _ _ _ _=>(ik (n:=2) rfl (bM (aV (i:=0) (fQ ["_law_x", "_law_y", "_law_pen", "_law_rows_here"]) rfl (Or.inl rfl)) (bM (aV (i:=1) (fQ ["_law_x", "_law_y", "_law_pen", "_law_rows_here"]) rfl (Or.inl rfl)) fM)))) (fun _ _ _ _ _ _=>cR) (fun _ _ _ _ _ _=>(aD yb hr jD (aa (aj 2) (aa (aP aZ (aj 3) (aj 0)) (aa (aP aZ (aj 3) (aj 1)) ak)))))) ak))))⟩
noncomputable def qM:=(lE v0 v1).1
abbrev eX:Stmt:=top 71
theorem iC:Sc ["_law_one", "_law_other", "_law_thing", "_law_row_here"] ["_law_one", "_law_other", "_law_thing"] eX:=cP
@[simp] noncomputable def eV:Qe 1 ["_law_one", "_law_other", "_law_thing", "_law_row_here"] "_law_is_joining" eX fun D n Z=>D 1 "_law_whole" ["_law_thing"] v0->n "isinstance"->n "len"->n "list"->n "range"->n "sum"->n "tuple"->Z:=
 ⟨_,fun ya yb yc yd ye yf yg hr=>have nd:=iC.nd;(au (cg (DW.dt (dJ (cu (bJ (aG bR yb (aa (aj 2) (aa (dI (T := "tuple") yg) ak))) (fun _=>rfl))) (dX (bD (cX hr.units) (aG call_lenD yc (aa (aj 2) ak)) (aG call_lenD yc (aa (aj 0) ak))))))
  (aA (aK cN))
  bF)
  (au (fj 0 PassesOwn.leaving rfl (dW (aj 2)) (aV (i:=3) nd rfl (Or.inl rfl))
  (au (cg (DW.dt (dJ (cu (bJ (aG bR yb (aa (aj 3) (aa (dI (T := "tuple") yg) ak))) (fun _=>rfl))) (dX (bD (cX hr.units) (aG call_lenD yc (aa (aj 3) ak)) (aG call_lenD yc (aa (aj 0) ak))))))
  (aA (aK cN))
  bF)
  (aA (cg (bD (cX hr.units) (dU (own:=["_law_many"]) (js:=[]) (fr:=[]) .val rfl (by trivial) (dW (aj 3)) (fun _ _ _ _ _ _=>(aV (i:=0) (fQ ["_law_many"]) rfl (Or.inl rfl))) (fun _ _ _ _ _ _=>(uw (DW.dt (dJ (cu (bJ (aD ya hr jD (aa (aj 0) ak)) (fun _=>rfl))) (dX (bD Do (aj 0) az)))))) (fun _ _ _ _ _ _=>az)) (bj ak))
  (aA (aK cN))
  bF))))
  (au (cg (bD (cX hr.units) (jZ "_law_row_here" [] [] (dW (aj 2)) (aG (cZ hr.hd) yf (aa (aj 0) ak))) (dj (T := "list") eG yd (aa (aj 0) ak)))
  (aA (aK cN))
  bF)
  (aA (aK (ig (dF hr.units) (dU (own:=["_law_y"]) (js:=[2]) (fr:=["_law_thing"]) .val rfl (by trivial) (bH rfl ye (aa (aG call_lenD yc (aa (aj 0) ak)) ak)) (fun _ _ _ _ _ _=>(aV (i:=0) (fQ ["_law_y", "_law_thing"]) rfl (Or.inr rfl))) (fun _ _ _ _ _ _=>cR) (fun _ _ _ _ _ _=>(aG (cZ hr.hd) yf (aa (jZ "_law_row_here" [0] ["_law_y"] (dW (aj 1)) (aP aZ (aj 0) (aj 1))) ak)))) (dj (T := "list") eG yd (aa (aj 1) ak))))))))⟩
noncomputable def iT:=(eV v0).1
abbrev gM:Stmt:=top 72
theorem kW:Sc ["_law_rows_here", "_law_thing", "_law_pairs_here"] ["_law_rows_here", "_law_thing"] gM:=cP
@[simp] noncomputable def mq:Qe 2 ["_law_rows_here", "_law_thing", "_law_pairs_here"] "_law_is_rule" gM fun D n Z=>D 1 "_law_pairs" ["_law_many"] v0->D 2 "_law_is_joining" ["_law_one", "_law_other", "_law_thing"] v1->n "all"->n "isinstance"->n "len"->n "tuple"->n "zip"->Z:=
 ⟨_,fun ya yb yc yd ye yf yg hr=>have nd:=kW.nd;(au (aU (i:=2) nd rfl (Or.inl rfl) (aD ya hr aN (aa (aG call_lenD ye (aa (aj 0) ak)) ak)))
  (au (cg (DW.dt (dJ (cu (bJ (aG bR yd (aa (aj 1) (aa (dI (T := "tuple") yf) ak))) (fun _=>rfl))) (dX (bD (cX hr.units) (aG call_lenD ye (aa (aj 1) ak)) (aG call_lenD ye (aa (aj 2) ak))))))
  (aA (aK cN))
  bF)
  (aA (aK (aG (ie hr.hd) yc (aa (dU (own:=["_law_one", "_law_x", "_law_y"]) (js:=[0]) (fr:=["_law_rows_here"]) .val rfl (by trivial) (Cu rfl yg (aa (aj 2) (aa (aj 1) ak))) (fun _ _ _ _ _ _=>(ik (n:=2) rfl (bM (ik (n:=2) rfl (bM (aV (i:=1) (fQ ["_law_one", "_law_x", "_law_y", "_law_rows_here"]) rfl (Or.inl rfl)) (bM (aV (i:=2) (fQ ["_law_one", "_law_x", "_law_y", "_law_rows_here"]) rfl (Or.inl rfl)) fM))) (bM (aV (i:=0) (fQ ["_law_one", "_law_x", "_law_y", "_law_rows_here"]) rfl (Or.inl rfl)) fM)))) (fun _ _ _ _ _ _=>cR) (fun _ _ _ _ _ _=>(aD yb hr jD (aa (aP aZ (aj 3) (aj 1)) (aa (aP aZ (aj 3) (aj 2)) (aa (aj 0) ak)))))) ak))))))⟩
noncomputable def dZ:=(mq v0 v1).1
end
abbrev mU:List Str:=["BadWalk", "NoBound", "NoDeed", "NoFraction", "NoLine", "NoLot", "NoMark", "NoMove", "NoNumber", "NoParts", "NoPlace", "NoPlan", "NoRest", "NoRule", "NoSet", "NoSteps", "NoText", "NoWalk", "TooMany", "Unlike"]
abbrev dY:Stmt:=top 73
theorem oH:FnScope ["_law_e", "_law_marks", "_law_words", "_law_word"] ["_law_e"] (defScope dY):=uh rfl rfl rfl rfl (by decide +kernel)
@[simp] noncomputable def jF:{b:Addr->Str->ao->DM Fl // ∀{P w K mg base f cdv A outer s H}{y:Addr}{oe:Obj}{c:Str}{C:Addr} (mL:∀x∈mU,∃C,mg x=some (.ref C)) (z_ValueError:Nn mg "ValueError") (z_isinstance:Nn mg "isinstance") (hr:Rm 0 A "_law_flags" dY s f cdv) (FK:FlK K mg mU c C) (ho_:oe.cls=.ref C) (h0_:s.heap.get? y=some oe) (hn_:H y=none) (hf_:y∉frs outer),DSs (Hc P w K mg base ["_law_e", "_law_marks", "_law_words", "_law_word"] "_law_flags" (defScope dY) f cdv (A.mark (some (.ref y))) outer s H) E0 (defBody dY) (b y c)}:=
 ⟨fun y c=>_,fun {P w K mg base f cdv A outer s H y oe c C} mL z_ValueError z_isinstance hr FK ho_ h0_ hn_ hf_=>have nd:=oH.nd;(au (aU (i:=1) nd rfl (Or.inl rfl) (bj (aa (aG (bf FK ho_ h0_ hn_ hf_) z_isinstance (aa (aj 0) (aa (bK mL) ak))) (aa (aG (bf FK ho_ h0_ hn_ hf_) z_isinstance (aa (aj 0) (aa (bK mL) ak))) (aa (aG (bf FK ho_ h0_ hn_ hf_) z_isinstance (aa (aj 0) (aa (bK mL) ak))) (aa (aG (bf FK ho_ h0_ hn_ hf_) z_isinstance (aa (aj 0) (aa (bK mL) ak))) ak))))))
  (au (aU (i:=1) nd rfl (Or.inl rfl) (aH aM (aj 1) (bj (aa (aG (bf FK ho_ h0_ hn_ hf_) z_isinstance (aa (aj 0) (aa (bK mL) ak))) (aa (aG (bf FK ho_ h0_ hn_ hf_) z_isinstance (aa (aj 0) (aa (bK mL) ak))) ak)))))
  (au (aU (i:=1) nd rfl (Or.inl rfl) (aH aM (aj 1) (bj (aa (aG (bf FK ho_ h0_ hn_ hf_) z_isinstance (aa (aj 0) (aa (bK mL) ak))) ak))))
  (au (aU (i:=1) nd rfl (Or.inl rfl) (aH aM (aj 1) (bj (aa (aG (bf FK ho_ h0_ hn_ hf_) z_isinstance (aa (aj 0) (aa (bK mL) ak))) (aa (aG (bf FK ho_ h0_ hn_ hf_) z_isinstance (aa (aj 0) (aa (bK mL) ak))) ak)))))
  (au (aU (i:=1) nd rfl (Or.inl rfl) (aH aM (aj 1) (bj (aa (aG (bf FK ho_ h0_ hn_ hf_) z_isinstance (aa (aj 0) (aa (bK mL) ak))) (aa (aG (bf FK ho_ h0_ hn_ hf_) z_isinstance (aa (aj 0) (aa (bK mL) ak))) ak)))))
  (au (aU (i:=1) nd rfl (Or.inl rfl) (aH aM (aj 1) (bj (aa (aG (bf FK ho_ h0_ hn_ hf_) z_isinstance (aa (aj 0) (aa (bK mL) ak))) (aa (aG (bf FK ho_ h0_ hn_ hf_) z_isinstance (aa (aj 0) (aa (bK mL) ak))) (aa (aG (bf FK ho_ h0_ hn_ hf_) z_isinstance (aa (aj 0) (aa (bK mL) ak))) (aa (aG (bf FK ho_ h0_ hn_ hf_) z_isinstance (aa (aj 0) (aa (bK mL) ak))) ak)))))))
  (au (aU (i:=1) nd rfl (Or.inl rfl) (aH zL (aj 1) (bj (aa (aG (bf FK ho_ h0_ hn_ hf_) z_isinstance (aa (aj 0) (aa (bK mL) ak))) (aa (aG (bf FK ho_ h0_ hn_ hf_) z_isinstance (aa (aj 0) (aa (bK mL) ak))) (aa (aG (bf FK ho_ h0_ hn_ hf_) z_isinstance (aa (aj 0) (aa (bK mL) ak))) (aa (aG (bf FK ho_ h0_ hn_ hf_) z_isinstance (aa (aj 0) (aa (bK mL) ak))) ak)))))))
  (au (jk (pW PySem.F.plainAttrs_list PySem.F.slot_list_append PySem.F.type_list_append p8 (aj 1) (aa (aG (bf FK ho_ h0_ hn_ hf_) z_isinstance (aa (aj 0) (aa (bK mL) ak))) ak)))
  (au (aU (i:=2) nd rfl (Or.inl rfl) (bj (aa bw (aa bw (aa bw (aa bw (aa bw (aa bw ak))))))))
  (au (aU (i:=2) nd rfl (Or.inl rfl) (aH aM (aj 2) (bj (aa bw (aa bw (aa bw (aa bw (aa bw ak))))))))
  (au (aU (i:=2) nd rfl (Or.inl rfl) (aH aM (aj 2) (bj (aa bw (aa bw (aa bw (aa bw (aa bw (aa bw (aa bw (aa bw (aa bw ak))))))))))))
  (au (cg (DW.dt (dJ (cu (bJ (aG (bf FK ho_ h0_ hn_ hf_) z_isinstance (aa (aj 0) (aa (dI (T := "ValueError") z_ValueError) ak))) (fun _=>rfl))) (dX (bD (cX hr.units) (pW PySem.F.plainAttrs_list PySem.F.slot_list_count PySem.F.type_list_count Dh (aj 1) (aa cN ak)) az))))
  (aA (aK (bB (aa bw ak))))
  bF)
  (au (aU (i:=3) nd rfl (Or.inl rfl) (aP aZ (aj 2) (pW PySem.F.plainAttrs_list PySem.F.slot_list_index PySem.F.type_list_index Di (aj 1) (aa cN ak))))
  (au (cg (bD (dF hr.units) (aj 3) bw)
  (aA (aK (bB (aa (aj 3) (aa rB (aa rB ak))))))
  bF)
  (aA (aK (Hf (bD (dF hr.units) (aj 3) bw) (bB (aa (aj 3) (aa rB ak))) (bB (aa (aj 3) ak)))))))))))))))))))⟩
noncomputable def jr:Addr->Str->ao->DM Fl:=(jF).1
abbrev fD:Stmt:=top 74
theorem pL:FnScope ["_law_call", "_law_e"] ["_law_call"] (defScope fD):=uh rfl rfl rfl rfl (by decide +kernel)
@[simp] noncomputable def lF(W:Str->D):{b:DM D->ao->DM Fl // ∀{P w K mg base f cdv A outer s H E ρ g th k F0} (XT:XTab K mg uq F0) (m_FadeError:Gc mg "FadeError" F0) (FG:FlgD P w K mg base 0 "_law_flags" uq W) (hk:1≤k) (ht:ThD P w K mg base k outer s H ρ g th) (hq:Rm k A "_law_said" fD s f cdv),ASs (bO P w K mg base ["_law_call", "_law_e"] "_law_said" (defScope fD) f cdv A outer s H E) E (Jv 0 g ρ H) (defBody fD) (b th)}:=
 ⟨_,fun XT m_FadeError FG hk ht hq=>have hr:=Room.mono hq hk;have nd:=pL.nd;(zc (JL 2 (fh:=fun c=>fun _=>pure (Fl.rt (W c))) (i:=1) XT rfl rfl rfl rfl rfl nd rfl rfl m_FadeError (fun pins_ Eh_=>(zc (JK (Ep hq (Ni rfl rfl rfl) ht))))
  (fun c C y oe hc_ hm_ ho_ xa_=>(H8 (i:=1) hr FG hc_ hm_ ho_)) (fun y c M r h=>by rw[←h];simp[uA,O4,Mw])))⟩
noncomputable def qN(W:Str->D):DM D->ao->DM Fl:=(lF W).1
abbrev eN:Stmt:=top 75
theorem kZ:FnScope ["_law_walk", "_law_thing", "_law_words"] ["_law_walk", "_law_thing"] (defScope eN):=uh rfl rfl rfl rfl (by decide +kernel)
local macro_rules | `(tactic| trivial)=>`(tactic| (repeat' apply And.intro)<;>first | exact True.intro | rfl | exact⟨_,rfl⟩ | exact Or.inl rfl)
@[simp] noncomputable def gH(F_meets F_unmet:Fn)(F__law_said:DM D->DM D):{b // ∀{P w K mg base f cdv A outer s H E c_ P_} (D_meets:DefD P w K mg base 8 "meets" ["walk", "rule"] F_meets) (K_unmet:DefK P w K mg base 8 "unmet" qp ["walk", "rule", "one", "other", "steps"] F_unmet) (H__law_said:HrdD P w K mg base (8+1) "_law_said" F__law_said) (TB:TabD mg base c_ P_) (hC:cdv=.ref c_) (hP:∃ps,H P_=some (.tbl ps)) (hr:Rm 10 A "_law_refused" eN s f cdv),Ds P w K mg base ["_law_walk", "_law_thing", "_law_words"] "_law_refused" eN f cdv A outer s H E b}:=
 ⟨_,fun D_meets K_unmet H__law_said TB hC hP hr=>have nd:=kZ.nd;(au (aU (i:=2) nd rfl (Or.inl rfl) (ut (aa (Cj [0,1] ["_law_walk", "_law_thing"] H__law_said hr aN TB hC hP (fun hr=>(Ft (ks:=["steps"]) K_unmet hr Hr (aa (aj 0) (aa (aj 1) (aa oW (aa oW ak)))) (Oz oW J1) (fun _ _ _ _ _ _ us ws h1 h2=>by obtain⟨_,rfl⟩:=Aw h1;obtain⟨_,_,_,_,rfl⟩:=Ax (show us.length=4 by simpa using h2);rfl))) ⟨⟨rfl,rfl,rfl,by decide +kernel,by decide,xH rfl,by decide +kernel⟩,rfl,yL (by trivial),rfl,xF (by trivial)⟩) ak)))
  (au (jk (pW PySem.F.plainAttrs_list PySem.F.slot_list_append PySem.F.type_list_append p8 (aj 2) (aa (Cj [0,1] ["_law_walk", "_law_thing"] H__law_said hr aN TB hC hP (fun hr=>(aD D_meets hr Hr (aa (aj 0) (aa (aj 1) ak)))) ⟨⟨rfl,rfl,rfl,by decide +kernel,by decide,xH rfl,by decide +kernel⟩,rfl,yL (by trivial),rfl,xF (by trivial)⟩) ak)))
  (aA (aK (ig (KZ hr.units) (aj 2) (aH Iw (bj (aa (bB (aa bw ak)) ak)) az))))))⟩
noncomputable def lV(F_meets F_unmet:Fn)(F__law_said:DM D->DM D):ao->DM Fl:=(gH F_meets F_unmet F__law_said).1
abbrev wy:Stmt:=top 76
theorem DR:FnScope ["_law_script", "_law_cell", "_law_pen", "_law_rows_here", "_law_walk", "_law_drawn", "_law_things", "_law_turn", "_law_thing", "_law_kept", "_law_good"] ["_law_script"] (defScope wy):=uh rfl rfl rfl rfl (by decide +kernel)
@[simp] noncomputable def Bh(F__law_cell_at F__law_pen_of F__law_rows F__law_rule F_best_rule F__law_odd F__law_deep F__law_is_rule F_is_rule F_Walk:Fn)(F__law_refused:Fn):{b // ∀{P w K mg base f cdv A outer s H E P__law_refused} (D__law_cell_at:DefD P w K mg base 1 "_law_cell_at" ["_law_script", "_law_k"] F__law_cell_at) (D__law_pen_of:DefD P w K mg base 1 "_law_pen_of" ["_law_cell"] F__law_pen_of) (D__law_rows:DefD P w K mg base 4 "_law_rows" ["_law_pen", "_law_top"] F__law_rows) (D__law_rule:DefD P w K mg base 4 "_law_rule" ["_law_pen", "_law_rows_here"] F__law_rule) (D_best_rule:DefD P w K mg base 3 "best_rule" ["walk"] F_best_rule) (D__law_odd:DefD P w K mg base 3 "_law_odd" ["_law_pen"] F__law_odd) (D__law_deep:DefD P w K mg base 8 "_law_deep" ["_law_pen", "_law_thing", "_law_deep_here"] F__law_deep) (D__law_is_rule:DefD P w K mg base 3 "_law_is_rule" ["_law_rows_here", "_law_thing"] F__law_is_rule) (D_is_rule:DefD P w K mg base 6 "is_rule" ["walk", "thing"] F_is_rule) (W_Walk:ClsD P w K mg base 5 "Walk" F_Walk) (z_list:Nn mg "list") (z_range:Nn mg "range") (z_repr:Nn mg "repr")  (T__law_refused:DefT P w K mg base 11 "_law_refused" ["_law_walk", "_law_thing"] P__law_refused F__law_refused) (hP__law_refused:∃qs,H P__law_refused=some (.tbl qs)) (hr:Rm 11 A "law" wy s f cdv),Ds P w K mg base ["_law_script", "_law_cell", "_law_pen", "_law_rows_here", "_law_walk", "_law_drawn", "_law_things", "_law_turn", "_law_thing", "_law_kept", "_law_good"] "law" wy f cdv A outer s H E b}:=
 ⟨_,fun D__law_cell_at D__law_pen_of D__law_rows D__law_rule D_best_rule D__law_odd D__law_deep D__law_is_rule D_is_rule W_Walk z_list z_range z_repr T__law_refused hP__law_refused hr=>have nd:=DR.nd;(au (fj 0 PassesOwn.leaving rfl (il (aH aM (bj (aa (aD D__law_cell_at hr aN (aa (aj 0) (aa az ak))) ak)) (Cq (aj 0) (bW az) (bW az)))) (aV (i:=1) nd rfl (Or.inl rfl))
  (au (aU (i:=2) nd rfl (Or.inl rfl) (aD D__law_pen_of hr aN (aa (aj 1) ak)))
  (au (aU (i:=3) nd rfl (Or.inl rfl) (aD D__law_rows hr aN (aa (aj 2) (aa az ak))))
  (au (sX (i:=4) (j:=5) rfl nd rfl rfl (by decide) rfl rfl (aa (HS W_Walk hr aN (aa (aj 3) ak)) (aa (aD D__law_rule hr aN (aa (aj 2) (aa (aj 3) ak))) ak)) rfl)
  (au (aU (i:=6) nd rfl (Or.inl rfl) (bj (aa (aj 5) (aa (aD D__law_rule hr aN (aa (aj 2) (aa (aj 3) ak))) (aa (aD D_best_rule hr aN (aa (aj 4) ak)) (aa (bB ak) (aa (b8 (aj 5) cQ (bW (sV az))) (aa (aH aM (aj 5) (b8 (aj 5) (bW (sV az)) cQ)) (aa (Cp (aj 5)) ak)))))))))
  (au (aU (i:=6) nd rfl (Or.inl rfl) (aH zL (aj 6) (bj (aa (dj (T := "list") eG z_list (aa (aj 5) ak)) (aa oW (aa (aj 3) (aa (aD D__law_odd hr aN (aa (aj 2) ak)) ak)))))))
  (au (fj 0 PassesOwn.leaving rfl (bH rfl z_range (aa az ak)) (aV (i:=7) nd rfl (Or.inl rfl))
  (aA (jk (pW PySem.F.plainAttrs_list PySem.F.slot_list_append PySem.F.type_list_append p8 (aj 6) (aa (aD D__law_deep hr aN (aa (aj 2) (aa (aj 5) (aa az ak)))) ak)))))
  (aA (fj 60 PassesOwn.leaving rfl (il (aj 6)) (aV (i:=8) nd rfl (Or.inl rfl))
  (au (sX (i:=9) (j:=10) rfl nd rfl rfl (by decide) rfl rfl (aa (aG (iW hr.gd hr.units) z_repr (aa (aj 8) ak)) (aa (aD D__law_is_rule hr aN (aa (aj 3) (aa (aj 8) ak))) ak)) rfl)
  (au (cg (DW.dt (dJ (bD (cX hr.units) (aG (iW hr.gd hr.units) z_repr (aa (aD D_is_rule hr aN (aa (aj 4) (aa (aj 8) ak))) ak)) (aG (iW hr.gd hr.units) z_repr (aa (aj 10) ak))) (dX (bD (cX hr.units) (aG (iW hr.gd hr.units) z_repr (aa (aj 8) ak)) (aj 9)))))
  (aA (aK cN))
  bF)
  (aA (cg (DW.dt (w6 (cu (bJ (aj 10) (fun _=>rfl))) (ux (cu (bJ (Fv T__law_refused hP__law_refused hr aN (aa (aj 4) (aa (aj 8) ak))) (fun _=>rfl))))))
  (aA (aK cN))
  bF)))))))))))))
  (aA (aK cN)))⟩
noncomputable def Ha(F__law_cell_at F__law_pen_of F__law_rows F__law_rule F_best_rule F__law_odd F__law_deep F__law_is_rule F_is_rule F_Walk:Fn)(F__law_refused:Fn):ao->DM Fl:=(Bh F__law_cell_at F__law_pen_of F__law_rows F__law_rule F_best_rule F__law_odd F__law_deep F__law_is_rule F_is_rule F_Walk F__law_refused).1
end K
set_option exponentiation.threshold 20000
namespace K
open PySem L2 L3 N10
theorem bx:(∀(α:Type) (a:α) (l:List α),(a::l)[0]?=some a)∧(∀(α:Type) (a:α) (l:List α) (i:Nat),(a::l)[i+1]?=l[i]?)∧(∀(α:Type) (x:Option α),(some x).join=x)∧(∀(α:Type) (a:α),(opt (some a):DM α)=pure a)∧∀(α β:Type) (a:α) (f:α->DM β),((pure a:DM α)>>=f)=f a:=⟨fun _ _ _=>rfl,fun _ _ _ _=>rfl,fun _ _=>rfl,fun _ _=>dD _,fun _ _ _ _=>aq _ _⟩
theorem bN:(∀(α:Type) (a b:α) (l:List α) (i:Nat),(a::l).set (i+1) b=a::l.set i b)∧∀(α:Type) (a b:α) (l:List α),(a::l).set 0 b=b::l:=⟨fun _ _ _ _ _=>rfl,fun _ _ _ _=>rfl⟩
noncomputable def qD:=aJ 1 1 iV
noncomputable def oK:=aJ 2 2 (dB qD)
theorem Ks(n:Nat):qD [nD n]=pure (.bl true):=by
 have a:(rd (f9 [nD n,.ty "int"]):DM D)=pure (.bl true):=cC (t := "int") (fun _=>rfl) (by decide)
 have b:(rd (f9 [nD n,.ty "bool"]):DM D)=pure (.bl false):=cC (t := "int") (fun _=>rfl) (by decide)
 simp[qD,iV,a,b]
theorem JM {l:List Nat} (hl:l.length≤1000):oK [nT l,.int (l.length:Int)]=pure (.bl true):=by
 have a:(rd (f9 [nT l,.ty "tuple"]):DM D)=pure (.bl true):=cC (t := "tuple") (fun _=>rfl) (by decide)
 have ln:(rd (cz [nT l]):DM D)=pure (.int (l.length:Int)):=by simp[nT]
 simp[oK,dB,a,ln,aX,cO]
 show (cJ (bh _ _ _ (l.map nD) _ _)>>=_)=_
 rw[Mx (fun _=>true) (fun _=>.bl true) (by simpa using Nat.le_trans hl (by decide)) (fun _ _=>rfl) (fun d hd _=>?_) (k':=fun l=>rd (mZ [.lst l])) (fun _=>rfl)]
 ·have:((l.map nD).filter (fun _=>true)).map (fun _=>D.bl true)=(l.map fun _=>true).map D.bl:=by
   rw[List.filter_eq_self.mpr (fun _ _=>rfl),List.map_map,List.map_map];rfl
  have q:(l.map fun _=>true).all id=true:=by rw[List.all_eq_true];intro x hx;obtain⟨_,_,rfl⟩:=List.mem_map.mp hx;rfl
  rw[this,pA,q]
 ·obtain⟨n,_,rfl⟩:=List.mem_map.mp hd
  have:=Ks n
  unfold nD at this ⊢
  simp[this]
theorem uT:∀ {l:List Nat}{n:Nat},n∈l->n≤l.sum
 |a::l,n,h=>by
   rw[List.sum_cons]
   rcases List.mem_cons.mp h with rfl | h
   ·omega
   ·have:=uT h;omega
noncomputable def wF:=aJ 2 2 gC
theorem JQ (cs:List Int) (k:Nat):∃ c:Int,wF [.scr cs,nD k]=pure (.int c):=by
 by_cases h:k<cs.length
 ·have e:decide ((k:Int)<(cs.length:Int))=true:=decide_eq_true (by omega)
  have ix:(rd (dg (.scr cs) (.int (k:Int))):DM D)=pure (.int cs[k]):=bY fun M=>by
   show (atI cs (k:Int)).map _=_
   rw[oR (List.getElem?_eq_getElem h)];rfl
  refine⟨cs[k],?_⟩
  simp[wF,gC,nD,e,ix,h]
 ·have e:decide ((k:Int)<(cs.length:Int))=false:=decide_eq_false (by omega)
  refine⟨0,?_⟩
  simp[wF,gC,nD,e,h]
theorem aF{f g:ao->DM Fl}{δ:ao}{M:Mo}{Q:Fl->Mo->Prop}(h:∀K:Fl->DM Fl,(∀δ',K (.nx δ')=g δ')->Rn (f δ>>=K) M Q):Rn (pM f g δ) M Q:=by
 have:=h (fun r=>match r with | .nx δ'=>g δ' | r=>Pure.pure r) (fun _=>rfl)
 exact this
structure WK(R:List (List Nat))(W:Nat):Prop where
 n1:1≤R.length
 n25:R.length≤25
 row:∀r∈R,r.length=R.length
 sum:∀r∈R,r.sum=W
 w1:1≤W
theorem WK.head{R:List (List Nat)}{W:Nat}(h:WK R W):gr R 0∈R:=gr_mem (by have:=h.n1;omega)
noncomputable def oA:=aJ 2 2 (fZ oK)
noncomputable def Bw:=aJ 1 2 (jW oA)
theorem HN{l:List Nat}{n:Nat}(h:l.length=n)(hl:n≤1000):oK [nT l,nD n]=pure (.bl true):=by
 subst h
 exact JM hl
theorem wR(n:Nat):(rd (mZ [.lst (List.replicate n (.bl true))]):DM D)=pure (.bl true):=by
 have:=pA (List.replicate n true)
 rw[List.map_replicate] at this
 rw[this];simp
theorem vH{α:Type}(l:List α)(d:D):(l.map fun _=>d)=List.replicate l.length d:=List.map_const' ..
theorem JF{R:List (List Nat)}{W:Nat}(h:WK R W):oA [nM R,nD R.length]=pure (.bl true):=by
 have:=h.n25
 simp[oA,fZ,Dv,Dz,fu,Dt,aX,cO]
 rw[iY nT (fun _=>.bl true) (by omega) (fun r hr=>by simp[HN (h.row r hr) (by omega)])]
 rw[aq,vH,wR]
theorem JX{R:List (List Nat)}{W:Nat}(h:WK R W):Bw [nM R]=pure (.bl true):=by
 have h1:=h.n1
 have h2:=h.n25
 have e1:(rd (CZ (.int 1) (nD R.length)):DM D)=pure (.bl true):=by rw[show D.int 1=nD 1 from rfl,Dy,decide_eq_true h1]
 have e2:(rd (CZ (nD R.length) (.int 25)):DM D)=pure (.bl true):=by rw[show D.int 25=nD 25 from rfl,Dy,decide_eq_true h2]
 have e3:(rd (xG (nD W) (.int 1)):DM D)=pure (.bl true):=by rw[show D.int 1=nD 1 from rfl,Du,decide_eq_true h.w1]
 have e4:∀r∈R,(rd (fO (nD r.sum) (nD W)):DM D)=pure (.bl true):=fun r hr=>by rw[pB,h.sum r hr];simp
 simp[Bw,jW,Dv,Dz,e1,e2,JF h,Dw (R:=R) (by omega),h.sum _ h.head]
 simp[e3,Dt,aX,cO]
 rw[iY nT (fun _=>.bl true) (by omega) (fun r hr=>by simp[e4 r hr])]
 rw[aq,vH,wR]
noncomputable def cD(R:List (List Nat))(W:Nat):D:=.obj "Walk" ["rows", "whole"] [nM R,nD W]
noncomputable def Fin:=aJ 2 2 (jV Bw)
theorem zT{M:Mo}{ns:List Str}{vs:List D}{f:Str}{d:D}(hl:ns.length=vs.length)(hz:ns.length<1000):wz "Walk" f (.ref M.length) d (M++[.ins "Walk" ns vs])=some (.ok (),M++[.ins "Walk" (putN f ns) (jE f d ns vs)]):=by
 unfold wz
 simp[hl]
 omega
theorem Ke{R:List (List Nat)}{W:Nat}(h:WK R W)(M:Mo):Fin (.ref M.length::[nM R]) (M++[.ins "Walk" [] []])=some (.ok .non,M++[.ins "Walk" ["rows", "whole"] [nM R,nD W]]):=by
 have h1:=h.n1
 have go:Rn (Fin (.ref M.length::[nM R])) (M++[.ins "Walk" [] []]) fun d M'=>d=.non∧M'=M++[.ins "Walk" ["rows", "whole"] [nM R,nD W]]:=by
  simp[Fin,jV,JX h,Dw (R:=R) (by omega)]
  refine Rn.run (zT rfl (by decide)) ?_
  rw[h.sum _ h.head]
  refine Rn.run (zT rfl (by decide)) ?_
  exact Rn.pure ⟨rfl,rfl⟩
 obtain⟨d,M',e,rfl,rfl⟩:=go
 exact e
open Classical in
noncomputable def wC(ds:List D):DM D:=if h:∃p:List (List Nat)×Nat,WK p.1 p.2∧ds=[nM p.1] then pure (cD (choose h).1 (choose h).2) else stuck
theorem Mm{R:List (List Nat)}{W:Nat}(h:WK R W):wC [nM R]=pure (cD R W):=by
 have q:∃p:List (List Nat)×Nat,WK p.1 p.2∧[nM R]=[nM p.1]:=⟨(R,W),h,rfl⟩
 unfold wC
 rw[dif_pos q]
 obtain⟨a,b⟩:=Classical.choose_spec q
 generalize Classical.choose q=p at a b
 have e:R=p.1:=KJ (by simpa using b)
 have w:W=p.2:=by
  have:=h.sum _ h.head
  rw[←this,e]
  exact a.sum _ a.head
 rw[←e,←w]
theorem Mp:∀ds M r',wC ds M=some r'->Jz "Walk" Fin ds M r':=by
 intro ds M r' e
 unfold wC at e
 split at e
 ·rename_i q
  obtain⟨a,b⟩:=Classical.choose_spec q
  generalize Classical.choose q=p at a b e
  subst b
  cases e
  refine .inl ⟨["rows", "whole"],[nM p.1,nD p.2],Ke a M,fun d hd=>?_,rfl⟩
  rcases List.mem_cons.mp hd with rfl | hd
  ·exact .inl (by simp)
  ·exact .inr ⟨p.2,by simpa[nD] using hd⟩
 ·cases e
theorem xm(R:List (List Nat))(W:Nat):(rd (Ao "Walk" "rows" (cD R W)):DM D)=pure (nM R):=bY fun M=>by simp[Ao,cD]
theorem qj{m:DM D}{v:D}(h:∀M,Rn m M fun d M'=>d=v∧M'=M):m=pure v:=by
 funext M
 obtain⟨d,M',e,rfl,rfl⟩:=h M
 exact e
theorem Kg(b:Bool):(rd (Av [.bl b]):DM D)=pure (nD (if b then 1 else 0)):=by cases b<;>rfl
theorem Jh {l:List Nat}{i v:Nat} (h:i<l.length):(l.set i v).sum + ga l i=l.sum + v:=by
 induction l generalizing i with
 |nil=>simp at h
 | cons a l ih=>
   cases i with
   |zero=>simp[ga];omega
   |succ i=>
     have:=ih (i:=i) (by simpa using h)
     rw[List.set_cons_succ,List.sum_cons,List.sum_cons]
     have e:ga (a::l) (i+1)=ga l i:=rfl
     rw[e];omega
theorem ww{n j:Nat}{d:D}(h:((List.range n).map nD)[j]?=some d):j<n∧d=nD j:=by
 have hj:j<n:=by
  have:=(List.getElem?_eq_some_iff.mp h).1
  simpa using this
 rw[List.getElem?_map,List.getElem?_range hj] at h
 exact⟨hj,(Option.some.inj h).symm⟩
theorem ud{l:List Nat}{i:Nat}(h:i<l.length):(rd (dg (.lst (l.map nD)) (nD i)):DM D)=pure (nD (ga l i)):=uc (i:=i) (by rw[List.getElem?_map,List.getElem?_eq_getElem h,Ar h];rfl)
theorem fF{k:Nat}{tg:D->ao->DM ao}{fb:ao->DM Fl}{l:List D}{δ:ao}:Aq k tg fb (.fix l) δ=forL tg fb l δ:=rfl
theorem lA{fg:D->ao->DM ao}{ft:ao->DM Bool}{fb:ao->List D->DM (ao×List D)}{ds:List D}{δ:ao}{l:List D}:cB fg ft fb (.fix ds) δ l=bh fg ft fb ds δ l:=rfl
theorem Ja{a b:Nat}(ha:a<2^62)(hb:b<2^62):Bp [nD a,nD b]=some (.fix ((List.range (b-a)).map fun k=>nD (a+k))):=by
 have e:∀x:Nat,x<2^62->nQ (x:Int)=true:=fun x h=>by unfold nQ;simp;omega
 have e2:((b:Int)-(a:Int)).toNat=b-a:=by omega
 simp[Bp,nD,e a ha,e b hb,e2,nJ]
theorem gB{f g:ao->DM Fl}{δ:ao}{M:Mo}{Q:Fl->Mo->Prop}(h:∀K:Fl->DM Fl,(∀δ',K (.nx δ')=g δ')->(∀d,K (.rt d)=Pure.pure (.rt d))->Rn (f δ>>=K) M Q):Rn (pM f g δ) M Q:=by
 have:=h (fun r=>match r with | .nx δ'=>g δ' | r=>Pure.pure r) (fun _=>rfl) (fun _=>rfl)
 exact this
noncomputable def BK:=aJ 1 1 qK
theorem Dl{s:Nat}(h:s<2^40):∃t:Nat,t<2147483629∧BK [nD s]=pure (nD t):=by
 refine⟨(((s+7919)%2147483647)*((s+7919)%2147483647)+48271*((s+7919)%2147483647)+12345)%2147483629,Nat.mod_lt _ (by decide),?_⟩
 have a1:(rd (bQ (nD s) (.int 7919)):DM D)=pure (nD (s+7919)):=iz s 7919
 have a2:(rd (rK (nD (s+7919)) (.int 2147483647)):DM D)=pure (nD ((s+7919)%2147483647)):=mH (b:=2147483647) (by decide)
 have lt:=Nat.mod_lt (s+7919) (show 2147483647 > 0 by decide)
 generalize (s+7919)%2147483647=x at a2 lt
 have a3:(rd (xV (nD x) (nD x)):DM D)=pure (nD (x*x)):=yz (by omega)
 have a4:(rd (xV (.int 48271) (nD x)):DM D)=pure (nD (48271*x)):=yz (a:=48271) (by omega)
 have a5:∀a b:Nat,(rd (bQ (nD a) (nD b)):DM D)=pure (nD (a+b)):=fun a b=>iz a b
 have a6:(rd (bQ (nD (x*x+48271*x)) (.int 12345)):DM D)=pure (nD (x*x+48271*x+12345)):=iz _ 12345
 have a7:(rd (rK (nD (x*x+48271*x+12345)) (.int 2147483629)):DM D)=pure (nD ((x*x+48271*x+12345)%2147483629)):=mH (b:=2147483629) (by decide)
 simp[BK,qK,a1,a2,a3,a4,a5,a6,a7]
noncomputable def bV(p:Nat)(M:Mo):Prop:=∃a b c:Nat,c<2^40∧M[p]?=some (.lst [nD a,nD b,nD c])
theorem bV.lt{p:Nat}{M:Mo}(h:bV p M):p<M.length:=by obtain⟨a,b,c,_,e⟩:=h;exact (List.getElem?_eq_some_iff.mp e).1
theorem bV.sb{p q:Nat}{M M':Mo}(h:bV p M)(s:Sb q M M')(hq:p≠q):bV p M':=by obtain⟨a,b,c,hc,e⟩:=h;exact⟨a,b,c,hc,s.at hq e⟩
noncomputable def wJ:=aJ 1 2 oE
theorem IK(c:Int)(M:Mo):Rn (wJ [.int c]) M fun d M'=>d=.ref M.length∧bV M.length M':=by
 unfold wJ oE iI;dsimp only
 refine Rn.call rfl ?_
 refine aF fun K hK=>?_
 have p18:(rd (yj (.int 10) (.int 18)):DM D)=pure (.int 1000000000000000000):=by rw[Bj (by decide)];rfl
 have st:bz 2 [D.int c]=[some (.int c),none]:=rfl
 rw[st]
 simp
 have en:D.int (if c < -c then -c else c)=nD (if c < -c then -c else c).toNat:=by
  unfold nD
  congr 1
  split<;>omega
 rw[en]
 generalize (if c < -c then -c else c).toNat=n
 rw[hK];clear hK K
 have ge:(rd (xG (nD n) (.int 1000000000000000000)):DM D)=pure (.bl (decide (1000000000000000000≤n))):=Du n 1000000000000000000
 have md:(rd (rK (nD n) (.int 1000003)):DM D)=pure (nD (n%1000003)):=mH (b:=1000003) (by decide)
 simp[p18,ge,Kg,md]
 refine Rn.dM (by simp) ?_
 have lt:=Nat.mod_lt n (show 1000003 > 0 by decide)
 exact Rn.pure ⟨_,rfl,rfl,n,(if 1000000000000000000≤n then 1 else 0),n%1000003,by omega,by simp⟩
noncomputable def gY:=aJ 2 3 (qJ BK)
theorem b7 {p:Nat}{M:Mo}{m:Nat} (h:bV p M) (h0:0<m) (h1:m<2 ^ 60):Rn (gY [.ref p,nD m]) M fun d M'=>∃ t:Nat,t<m∧d=nD t∧bV p M'∧Sb p M M':=by
 obtain⟨a,b,c,hc,e⟩:=h
 have hp:=(List.getElem?_eq_some_iff.mp e).1
 unfold gY qJ lC;dsimp only
 refine Rn.call rfl ?_
 have st:bz 3 [D.ref p,nD m]=[some (.ref p),some (nD m),none]:=rfl
 rw[st]
 have i0:dg (.ref p) (.int 0) M=some (nD a):=gb (i:=0) e rfl
 have i1:dg (.ref p) (.int 1) M=some (nD b):=gb (i:=1) e rfl
 have i2:dg (.ref p) (.int 2) M=some (nD c):=gb (i:=2) e rfl
 have eb:(rd (fO (nD b) (.int 1)):DM D)=pure (.bl (decide (b=1))):=pB b 1
 have ga:(rd (tE (nD a) (.int 0)):DM D)=pure (.bl (decide (0<a))):=tZ a 0
 refine gB fun K hK hR=>?_
 have rest:Rn (K (.nx [some (.ref p),some (nD m),none])) M fun r M'=>∃d,r=.rt d∧∃t:Nat,t<m∧d=nD t∧bV p M'∧Sb p M M':=by
  rw[hK];clear hK hR K
  refine aF fun K hK=>?_
  simp
  refine Rn.bindRd _ i2 ?_
  obtain⟨t1,l1,e1⟩:=Dl hc
  have a7:(rd (bQ (nD t1) (.int 7)):DM D)=pure (nD (t1+7)):=iz t1 7
  obtain⟨t2,l2,e2⟩:=Dl (s:=t1+7) (by omega)
  simp only[e1,aq,a7,e2]
  refine Rn.run (eO (i:=2) e (by simp)) ?_
  rw[hK];clear hK K
  simp
  have at2:(M.set p (.lst [nD a,nD b,nD t2]))[p]?=some (.lst [nD a,nD b,nD t2]):=List.getElem?_set_self hp
  refine Rn.bindRd (nD t2) (gb (i:=2) at2 rfl) ?_
  have dv:(rd (sY (nD t2) (.int 64)):DM D)=pure (nD (t2 / 64)):=yu (b:=64) (by decide) (by decide)
  simp[dv,mH (a:=t2 / 64) (b:=m) h0]
  exact Rn.pure ⟨_,rfl,_,Nat.mod_lt _ h0,rfl,⟨a,b,t2,by omega,at2⟩,Sb.set⟩
 simp
 refine Rn.bindRd _ i1 ?_
 simp only[eb,aq,gU]
 by_cases hb:b=1
 ·simp[hb]
  refine Rn.bindRd _ i0 ?_
  simp only[ga,aq,gU]
  by_cases ha:0<a
  ·simp[ha]
   refine Rn.bindRd _ i0 ?_
   simp[mH (a:=a) (b:=m) h0]
   refine Rn.bindRd _ i0 ?_
   simp[yu (a:=a) (b:=m) h0 (Nat.lt_trans h1 (by decide))]
   refine Rn.run (eO (i:=0) e (by simp)) ?_
   have at2:(M.set p (.lst [nD (a / m),nD b,nD c]))[p]?=some (.lst [nD (a / m),nD b,nD c]):=List.getElem?_set_self hp
   simp
   rw[hR]
   exact Rn.pure ⟨_,rfl,_,Nat.mod_lt _ h0,rfl,⟨_,b,c,hc,at2⟩,Sb.set⟩
  ·simp[ha]
   exact rest
 ·simp[hb]
  exact rest
theorem yw(a b:List Nat):(rd (fO (.lst (a.map nD)) (.lst (b.map nD))):DM D)=pure (.bl (decide (a=b))):=bY fun M=>by
 have e:∀l:List Nat,l.map nD=(l.map fun n:Nat=>(n:Int)).map D.int:=fun l=>by rw[List.map_map];rfl
 have d:=iZ (a.map fun n:Nat=>(n:Int))
 have q:=kh (a.map fun n:Nat=>(n:Int)) (b.map fun n:Nat=>(n:Int))
 have c:decide ((a.map fun n:Nat=>(n:Int))=(b.map fun n:Nat=>(n:Int)))=decide (a=b):=by
  rw[Bool.eq_iff_iff,decide_eq_true_eq,decide_eq_true_eq]
  exact m7
 rw[e a,e b]
 simp only[fO,L3.eqB,eqP,toPy,ji,Option.map_some,PyData.canLay0,lay_ints,PyData.depth,PyData.eqv]
 rw[q,c,if_pos (by rw[Bool.and_self,Bool.true_and];exact decide_eq_true (by omega))]
 rfl
theorem zQ{a b:List D}(h:a.length+b.length≤1000000):(rd (bQ (.lst a) (.lst b)):DM D)=pure (.lst (a++b)):=bY fun M=>by
 have:dH (a++b)=true:=by unfold dH;exact decide_eq_true (by show (a++b).length≤2^24;rw[List.length_append];omega)
 simp[bQ,aO,Gj,this]
structure Smn(n:Nat)(l:List Nat):Prop where
 ne:l≠[]
 lt:∀i∈l,i<n
 len:l.length≤100
theorem I9{n:Nat}(h:n≤1000):(rd (fun M=>(vZ [nD n] M).map D.lst):DM D)=pure (.lst ((List.range n).map nD)):=bY fun M=>by
 have:vZ [nD n] M=some ((List.range n).map nD):=by
  unfold nD
  show (if -(2^62)≤(n:Int)∧(n:Int)≤2^20 then some ((List.range (n:Int).toNat).map nD) else none)=_
  rw[if_pos ⟨by omega,by omega⟩,Int.toNat_natCast]
  rfl
 rw[this];rfl
noncomputable def wM:=aJ 4 7 (sH gY)
structure RwS(M0:Mo)(p t n i:Nat)(M:Mo):Prop where
 pen:bV p M
 sb:Sb p M0 M
 ex:∃r:List Nat,M[t]?=some (.lst (r.map nD))∧r.length=n∧r.sum=i
noncomputable def PX(M0:Mo)(p t n:Nat)(pre:ao)(i:Nat)(δ:ao)(M:Mo):Prop:=(∃z5 z6,δ=pre++[z5,z6])∧RwS M0 p t n i M
theorem Jb {p n W:Nat}{s:List Nat}{M:Mo} (hp:bV p M) (hs:Smn n s) (hn:n≤25) (hW:W≤1000):Rn (wM [.ref p,nD n,nD W,.lst (s.map nD)]) M fun d M'=>∃ r:List Nat,d=nT r∧r.length=n∧r.sum=W∧bV p M'∧Sb p M M':=by
 unfold wM sH nH;dsimp only
 refine Rn.call rfl ?_
 have st:bz 7 [D.ref p,nD n,nD W,.lst (s.map nD)]=[some (.ref p),some (nD n),some (nD W),some (.lst (s.map nD)),none,none,none]:=rfl
 rw[st]
 have m0:kI [.int 0]=pure (.lst [.int 0]):=cH (by simp)
 refine aF fun K hK=>?_
 simp[m0]
 refine rN (by omega) ?_
 have pt:p≠M.length:=by have:=hp.lt;omega
 have st0:RwS M p M.length n 0 (M++[.lst ((List.replicate n 0).map nD)]):=⟨hp.sb (q:=M.length) Sb.push pt,Sb.new (p:=p) (.inr (Nat.le_refl _)) (Nat.le_refl _) Sb.push Sb.refl,List.replicate n 0,by simp,by simp,by simp⟩
 rw[hK];clear hK K
 revert st0 pt
 generalize ht:M.length=t
 generalize M++[DO.lst ((List.replicate n 0).map nD)]=M1
 intro pt st0
 have tl:M.length≤t:=by omega
 refine aF fun K hK=>?_
 simp[gj (n:=W) (by omega),fF]
 refine Rn.bind (dm (PX M p t n [some (.ref p),some (nD n),some (nD W),some (.lst (s.map nD)),some (.ref t)]) _ 0 _ _ ⟨⟨none,none,rfl⟩,st0⟩ (fun j d δ M8 hj hI=>?_)) (fun r M8 hI=>?_)
 ·obtain⟨⟨z5,z6,rfl⟩,hp8,sb8,r,at8,lr,sr⟩:=hI
  obtain⟨hj',rfl⟩:=ww hj
  rw[Nat.zero_add] at sr ⊢
  simp only[bN,List.cons_append,List.nil_append,iJ,aq]
  refine aF fun K hK=>?_
  have ln:(rd (cz [.lst (s.map nD)]):DM D)=pure (nD s.length):=by simp[nD]
  have l0:0<s.length:=List.length_pos_iff.mpr hs.ne
  simp[ln]
  refine Rn.bind (b7 hp8 l0 (by have:=hs.len;omega)) fun d9 M9 ⟨u,g9,e9,hp9,s9⟩=>?_
  subst e9
  simp only[ud g9,aq]
  have ul:ga s u<r.length:=by rw[lr];exact hs.lt _ (tu g9)
  have at9:=s9.at (fun z=>pt z.symm) at8
  have t9:=(List.getElem?_eq_some_iff.mp at9).1
  generalize ga s u=v at ul
  rw[hK];clear hK K
  simp
  refine Rn.bindRd (nD (ga r v)) (gb (i:=v) at9 (by rw[List.getElem?_map,List.getElem?_eq_getElem ul,Ar ul];rfl)) ?_
  have ad:(rd (bQ (nD (ga r v)) (.int 1)):DM D)=pure (nD (ga r v+1)):=iz _ 1
  simp[ad]
  refine Rn.run (eO (i:=v) at9 (by rw[List.length_map];exact ul)) ?_
  refine Rn.pure ⟨_,rfl,⟨_,_,rfl⟩,hp9.sb (q:=t) Sb.set pt,Sb.new (p:=p) (.inr (sb8.trans s9).le) tl Sb.set (sb8.trans s9),r.set v (ga r v+1),?_,by rw[List.length_set];exact lr,?_⟩
  ·rw[List.getElem?_set_self t9,List.map_set]
  ·have:=Jh (l:=r) (i:=v) (v:=ga r v+1) ul
   omega
 obtain⟨δ',rfl,⟨z5,z6,rfl⟩,hp8,sb8,r,at8,lr,sr⟩:=hI
 rw[List.length_map,List.length_range,Nat.zero_add] at sr
 rw[hK];clear hK K
 simp
 refine Rn.bindRd (nT r) (by show (aO (.ref t) M8).map _=_;simp only[aO,at8];rfl) ?_
 exact Rn.pure ⟨_,rfl,r,rfl,lr,sr,hp8,sb8⟩
noncomputable def wN:=aJ 2 8 (qL gY wM)
structure RwsS(M0:Mo)(p q n W:Nat)(i:Nat)(M:Mo):Prop where
 pen:bV p M
 sb:Sb p M0 M
 ex:∃R:List (List Nat),R.length=i∧M[q]?=some (.lst (R.map nT))∧∀r∈R,r.length=n∧r.sum=W
noncomputable def Ou(M0:Mo)(p tp q n W:Nat)(i:Nat)(δ:ao)(M:Mo):Prop:=(∃z5 z6 z7,δ=[some (.ref p),some (nD tp),some (nD n),some (nD W),some (.ref q),z5,z6,z7])∧RwsS M0 p q n W i M
theorem zU(c:Nat):∀l:List Nat,(l.map (·* c)).sum=l.sum*c
 |[]=>by simp
 |a::l=>by simp[zU c l,Nat.add_mul]
theorem Jg {p tp:Nat}{M:Mo} (hp:bV p M) (h1:1≤tp) (h2:tp≤6):Rn (wN [.ref p,nD tp]) M fun d M'=>∃ (R:List (List Nat)) (W:Nat),d=nM R∧WK R W∧R.length≤tp∧W≤9000000000∧bV p M'∧Sb p M M':=by
 have hpl:=hp.lt
 unfold wN qL lD;dsimp only
 refine Rn.call rfl ?_
 have st:bz 8 [D.ref p,nD tp]=[some (.ref p),some (nD tp),none,none,none,none,none,none]:=rfl
 rw[st]
 refine aF fun K hK=>?_
 simp
 refine Rn.bind (b7 hp (by omega:0<tp) (by omega)) fun d1 M1 ⟨t1,g1,e1,hp1,s1⟩=>?_
 subst e1
 simp only[yt,aq]
 have d9:=b7 (m:=9) hp1 (by decide) (by decide)
 refine Rn.bind d9 fun d2 M2 ⟨t2,g2,e2,hp2,s2⟩=>?_
 subst e2
 simp only[yt,aq]
 have sb2:Sb p M M2:=s1.trans s2
 have hn1:1≤t1+1:=by omega
 have hn2:t1+1≤tp:=by omega
 have hW:1≤t2+1∧t2+1≤9:=by omega
 revert hn1 hn2 hW
 generalize t1+1=n
 generalize t2+1=W
 intro n1 n2 hW
 rw[hK];clear hK K d9
 refine aF fun K hK=>?_
 simp
 refine Rn.dM (by simp) ?_
 have pq:p≠M2.length:=by have:=hp2.lt;omega
 have ql:M.length≤M2.length:=sb2.le
 have st0:RwsS M p M2.length n W 0 (M2++[.lst []]):=⟨hp2.sb (q:=M2.length) Sb.push pq,Sb.new (p:=p) (.inr sb2.le) ql Sb.push sb2,[],rfl,by simp,by simp⟩
 rw[hK];clear hK K hp1 hp2 s1 s2
 revert st0 pq ql
 generalize M2.length=q
 generalize M2++[DO.lst []]=M4
 intro pq ql st0
 refine aF fun K hK=>?_
 simp[gj (n:=n) (by omega),fF]
 refine Rn.bind (dm (Ou M p tp q n W) _ 0 _ _ ⟨⟨_,_,_,rfl⟩,st0⟩ (fun x d δ M5 hx hI=>?_)) (fun r M5 hI=>?_)
 ·clear hK K
  obtain⟨⟨z5,z6,z7,rfl⟩,hp5,sb5,R,lR,at5,hR⟩:=hI
  obtain⟨hx',rfl⟩:=ww hx
  rw[Nat.zero_add] at lR ⊢
  rw[iJ,aq]
  refine aF fun K hK=>?_
  simp[I9 (n:=n) (by omega)]
  refine Rn.bind (b7 hp5 (by omega:0<n) (by omega)) fun d1 M7 ⟨u1,g1,e1,hp7,s7⟩=>?_
  refine Rn.bind (b7 hp7 (by omega:0<n) (by omega)) fun d2 M8 ⟨u2,g2,e2,hp8,s8⟩=>?_
  subst e1 e2
  have ml:kI [nD u1,nD u2]=pure (.lst ([u1,u2].map nD)):=cH (by simp)
  have ml2:kI [.lst ((List.range n).map nD),.lst ([u1,u2].map nD)]=pure (.lst [.lst ((List.range n).map nD),.lst ([u1,u2].map nD)]):=cH (by simp)
  simp only[ml,aq,ml2]
  have d2:=b7 (m:=2) hp8 (by decide) (by decide)
  refine Rn.bind d2 fun d3 M9 ⟨u3,g3,e3,hp9,s9⟩=>?_
  subst e3
  have sb9:Sb p M M9:=sb5.trans (s7.trans (s8.trans s9))
  have at9:=(s7.trans (s8.trans s9)).at (fun z=>pq z.symm) at5
  obtain⟨l,el,som⟩:∃l:List Nat,(rd (dg (.lst [.lst ((List.range n).map nD),.lst ([u1,u2].map nD)]) (nD u3)):DM D)=pure (.lst (l.map nD))∧Smn n l:=by
   rcases (show u3=0∨u3=1 by omega) with rfl | rfl
   ·exact⟨List.range n,uc (i:=0) rfl,by simp;omega,fun i hi=>List.mem_range.mp hi,by simp;omega⟩
   ·exact⟨[u1,u2],uc (i:=1) rfl,by simp,fun i hi=>by simp at hi;omega,by simp⟩
  simp only[el,aq]
  rw[hK];clear hK K
  simp
  refine Rn.bindRd _ (by simp only[aO,at9];rfl) ?_
  refine Rn.bind (Jb hp9 som (by omega) (by omega)) fun d10 M10 ⟨r,e10,lr,sr,hp10,s10⟩=>?_
  subst e10
  have at10:=s10.at (fun z=>pq z.symm) at9
  have q10:=(List.getElem?_eq_some_iff.mp at10).1
  have sb10:=sb9.trans s10
  refine Rn.run (pU at10 (by rw[List.length_map];omega)) ?_
  refine Rn.pure ⟨_,rfl,⟨_,_,_,rfl⟩,hp10.sb (q:=q) Sb.set pq,Sb.new (p:=p) (.inr sb10.le) ql Sb.set sb10,R++[r],by simp[lR],by rw[List.getElem?_set_self q10];simp,fun r' hr'=>?_⟩
  rcases List.mem_append.mp hr' with z | z
  ·exact hR r' z
  ·rw[List.mem_singleton.mp z];exact⟨lr,sr⟩
 ·obtain ⟨δ',rfl,⟨z5,z6,z7,rfl⟩,hp5,sb5,R,lR,at5,hR⟩:=hI
  rw[hK];clear hK K
  rw[List.length_map,List.length_range,Nat.zero_add] at lR
  refine aF fun K hK=>?_
  have p9:(rd (yj (.int 10) (.int 9)):DM D)=pure (.int 1000000000):=by rw[Bj (by decide)];rfl
  have ml:kI [.int 1,.int 1,.int 1,.int 1000000000]=pure (.lst ([1,1,1,1000000000].map nD)):=cH (by simp)
  simp[p9,ml]
  have d4:=b7 (m:=4) hp5 (by decide) (by decide)
  refine Rn.bind d4 fun d6 M6 ⟨u,g6,e6,hp6,s6⟩=>?_
  subst e6
  have gu:u<[1,1,1,1000000000].length:=by simpa using g6
  rw[show D.lst [nD 1,nD 1,nD 1,nD 1000000000]=D.lst ([1,1,1,1000000000].map nD) from rfl,ud gu]
  have hc:1≤ga [1,1,1,1000000000] u∧ga [1,1,1,1000000000] u≤1000000000:=by
   have:=tu gu
   generalize ga [1,1,1,1000000000] u=x at this
   simp at this
   omega
  revert hc
  generalize ga [1,1,1,1000000000] u=c
  intro hc
  simp only[aq]
  rw[hK];clear hK K
  have at6:=s6.at (fun z=>pq z.symm) at5
  simp
  have hR6:∀r∈R,r.length≤1000:=fun r hr=>by have:=(hR r hr).1;omega
  have ce:aX 1 [7] [some (D.ref p),some (nD tp),some (nD n),some (nD W),some (D.ref q),z5,z6,some (nD c)]=[none,some (nD c)]:=rfl
  rw[ce]
  refine H9 nT (fun r=>nT (r.map (·* c))) at6 (by omega) (fun r hr=>?_) (fun l=>pure (Fl.rt (D.tup l))) (fun q=>rfl) ?_
  ·have e1:aX 1 [1] [some (nT r),some (nD c)]=[none,some (nD c)]:=rfl
   have e2:oO (nT r)=some (.fix (r.map nD)):=rfl
   simp[e1,e2,lA]
   rw[iY nD (fun w=>nD (w*c)) (by have:=hR6 r hr;omega) fun a _=>by simp[yz (a:=a) (b:=c) (by omega)]]
   simp[nT]
   rfl
  ·refine Rn.pure ⟨_,rfl,R.map (·.map (·* c)),?_,W*c,⟨?_,?_,?_,?_,?_⟩,?_,?_,hp6,sb5.trans s6⟩
   ·simp[nM]
   ·simp;omega
   ·simp;omega
   ·intro r hr
    obtain⟨r',h',rfl⟩:=List.mem_map.mp hr
    rw[List.length_map,List.length_map,(hR r' h').1,lR]
   ·intro r hr
    obtain⟨r',h',rfl⟩:=List.mem_map.mp hr
    rw[zU,(hR r' h').2]
   ·have:=Nat.mul_le_mul hW.1 hc.1;omega
   ·simp;omega
   ·have:=Nat.mul_le_mul hW.2 hc.2;omega
noncomputable def By:=aJ 2 10 jX
structure Ex(M M':Mo):Prop where
 le:M.length≤M'.length
 keep:∀q,q<M.length->M'[q]?=M[q]?
noncomputable def uZ(n:Nat):List D:=(List.replicate n 0).map nD
noncomputable def G7(M0:Mo)(n:Nat)(rest:ao)(i:Nat)(δ:ao)(l:List D)(M:Mo):Prop:=(∃z,δ=z::rest)∧l=(List.range i).map (fun x=>D.ref (M0.length+x))∧M.length=M0.length+i∧Ex M0 M∧∀x,x<i->M[M0.length+x]?=some (.lst (uZ n))
theorem GC {n:Nat}{M:Mo} (hn:n≤25) {x:Option D}:Rn (bh (gN 0) (fun _=>pure true) (aW fun δ=>opt δ[1]?.join >>= fun y=>Ba (.lst [.int 0]) y) ((List.range n).map nD) (x::[some (nD n)]) []) M fun p M'=>G7 M n [some (nD n)] n p.1 p.2 M':=by
 have:=cI (fg:=gN 0) (ft:=fun _=>pure true) (fb:=aW fun δ=>opt δ[1]?.join>>=fun y=>Ba (.lst [.int 0]) y) (G7 M n [some (nD n)]) ((List.range n).map nD) 0 (x::[some (nD n)]) [] M ⟨⟨x,rfl⟩,rfl,rfl,⟨Nat.le_refl _,fun _ _=>rfl⟩,fun x h=>by omega⟩ (fun j d δ l M1 hj hI=>?_)
 ·simpa using this
 ·obtain ⟨⟨z,rfl⟩,rfl,hl,he,hr⟩:=hI
  have hj':j<n:=by
   have:=(List.getElem?_eq_some_iff.mp hj).1
   simpa using this
  have lt:j<sizeLine:=by show j<2^24;omega
  simp[aW]
  refine rN (by omega) ?_
  simp[lt]
  refine Rn.pure ⟨⟨_,rfl⟩,?_,by simp[hl];omega,⟨by simp;have:=he.le;omega,fun q hq=>by rw[List.getElem?_append_left (by omega)];exact he.keep q hq⟩,fun x hx=>?_⟩
  ·rw[List.range_succ,List.map_append,hl];simp
  ·by_cases e:x=j
   ·subst e
    rw[show M.length+x=M1.length by omega,List.getElem?_concat_length];simp[uZ]
   ·rw[List.getElem?_append_left (by omega)]
    exact hr x (by omega)
noncomputable def row(n:Nat)(g:Nat->Nat):List D:=((List.range n).map g).map nD
theorem iB{n:Nat}{g:Nat->Nat}{i:Nat}(h:i<n):(row n g)[i]?=some (nD (g i)):=by
 unfold row
 rw[List.getElem?_map,List.getElem?_map,List.getElem?_range h];rfl
theorem jq{n:Nat}{g:Nat->Nat}{i v:Nat}(h:i<n):(row n g).set i (nD v)=row n (up g i v):=by
 unfold row
 apply List.ext_getElem?
 intro k
 by_cases e:k=i
 ·subst e
  rw[List.getElem?_set_self (by simpa using h)]
  simp[List.getElem?_range h,up]
 ·rw[List.getElem?_set_ne (Ne.symm e)]
  simp only[List.getElem?_map]
  by_cases hk:k<n
  ·simp[List.getElem?_range hk,up,e]
  ·rw[List.getElem?_eq_none (by simp;omega)];rfl
theorem yD(n:Nat):uZ n=row n fun _=>0:=by
 unfold uZ row
 congr 1
 apply List.ext_getElem?
 intro k
 by_cases hk:k<n
 ·simp[List.getElem?_range hk,hk]
 ·rw[List.getElem?_eq_none (by simp;omega),List.getElem?_eq_none (by simp;omega)]
structure JS(M0:Mo)(n e:Nat)(A:Nat->Nat->Nat)(M:Mo):Prop where
 ex:Ex M0 M
 len:M.length=M0.length+n+e
 row:∀x,x<n->M[M0.length+x]?=some (.lst (row n (A x)))
theorem JS.set {M0:Mo}{n e:Nat}{A:Nat->Nat->Nat}{M:Mo} (h:JS M0 n e A M) {x y v:Nat} (hx:x<n) (hy:y<n):jP (.ref (M0.length + x)) (nD y) (nD v) M=some (.ok (),M.set (M0.length + x) (.lst (K.row n (up (A x) y v))))∧JS M0 n e (cG A x y v) (M.set (M0.length + x) (.lst (K.row n (up (A x) y v)))):=by
 have hr:=h.row x hx
 refine⟨?_,⟨⟨by simp;exact h.ex.le,fun q hq=>by rw[List.getElem?_set_ne (by omega)];exact h.ex.keep q hq⟩,by rw[List.length_set];exact h.len,fun i hi=>?_⟩⟩
 ·have:=eO (v:=nD v) hr (i:=y) (by simpa[K.row] using hy)
  rw[jq hy] at this
  exact this
 ·by_cases e':i=x
  ·subst e'
   rw[List.getElem?_set_self (List.getElem?_eq_some_iff.mp hr).1]
   simp[cG]
  ·rw[List.getElem?_set_ne (by omega),h.row i hi]
   simp[cG,e']
theorem yx(a b:Nat):(rd (wj [nD a,nD b]):DM D)=pure (nD (min a b)):=by
 unfold nD
 rw[Lk]
 have:(if (b:Int)<(a:Int) then (b:Int) else (a:Int))=((min a b:Nat):Int):=by split<;>omega
 rw[this]
theorem JS.push{M0:Mo}{n e:Nat}{A:Nat->Nat->Nat}{M:Mo}(h:JS M0 n e A M){o:DO}:JS M0 n (e+1) A (M++[o]):=
 ⟨⟨by have:=h.ex.le;simp;omega,fun q hq=>by have:=h.ex.le;rw[List.getElem?_append_left (by omega)];exact h.ex.keep q hq⟩,by have:=h.len;simp;omega,fun x hx=>by have:=h.len;rw[List.getElem?_append_left (by omega)];exact h.row x hx⟩
noncomputable def refs(b n:Nat):D:=.lst ((List.range n).map fun x=>D.ref (b+x))
theorem lX{b n x:Nat}(h:x<n):(rd (dg (refs b n) (nD x)):DM D)=pure (.ref (b+x)):=uc (by rw[List.getElem?_map,List.getElem?_range h];rfl)
noncomputable def G4(M0:Mo)(n:Nat)(F T:Nat->Nat)(i:Nat)(δ:ao)(M:Mo):Prop:=(∃z,δ=[some (.tup (row n F)),some (.tup (row n T)),some (nD n),some (refs M0.length n),z,none,none,none,none,none])∧JS M0 n 0 (fun x y=>if x=y∧x<i then min (F x) (T x) else 0) M
theorem HW{F T:Nat->Nat}{j:Nat}:cG (fun x y=>if x=y∧x<j then min (F x) (T x) else 0) j j (min (F j) (T j))=fun x y=>if x=y∧x<j+1 then min (F x) (T x) else 0:=by
 funext x y
 unfold cG
 by_cases e:x=j
 ·subst e
  rw[if_pos rfl]
  by_cases k:y=x
  ·subst k;rw[cL,if_pos ⟨rfl,by omega⟩]
  ·rw[dR k];dsimp only;rw[if_neg (by omega),if_neg (by omega)]
 ·rw[if_neg e]
  dsimp only
  by_cases k:x=y∧x<j
  ·rw[if_pos k,if_pos ⟨k.1,by omega⟩]
  ·rw[if_neg k,if_neg (by omega)]
theorem xJ{n:Nat}{F:Nat->Nat}{j:Nat}(h:j<n):(rd (dg (.tup (row n F)) (nD j)):DM D)=pure (nD (F j)):=ue (iB h)
noncomputable def Mu(M0:Mo)(rest:ao)(G:Nat->Nat)(i:Nat)(δ:ao)(l:List D)(M:Mo):Prop:=(∃z,δ=z::rest)∧l=row i G∧M=M0
theorem vy {fe:ao->DM D}{rest:ao}{n:Nat}{G:Nat->Nat}{M:Mo}{x:Option D} (hn:n≤1000) (h:∀ j,j<n->Rn (fe (some (nD j)::rest)) M fun d M'=>M'=M∧d=nD (G j)) :
  Rn (bh (gN 0) (fun _=>pure true) (aW fe) ((List.range n).map nD) (x::rest) []) M fun p M'=>M'=M∧p.2=row n G:=by
 refine (cI (Mu M rest G) ((List.range n).map nD) 0 (x::rest) [] M ⟨⟨x,rfl⟩,rfl,rfl⟩ (fun j d δ l M1 hj hI=>?_)).mono fun p M' hI=>?_
 ·obtain⟨⟨z,rfl⟩,rfl,rfl⟩:=hI
  have hj':j<n:=by
   have:=(List.getElem?_eq_some_iff.mp hj).1
   simpa using this
  have ed:d=nD j:=by
   rw[List.getElem?_map,List.getElem?_range hj'] at hj
   exact (Option.some.inj hj).symm
  subst ed
  have lt:(row (0+j) G).length<sizeLine:=by show _<2^24;simp[row];omega
  rw[iJ,aq,aq]
  show Rn (aW fe (some (nD j)::rest) (row (0+j) G)) M1 _
  unfold aW
  refine Rn.bind (h j hj') fun d M' ⟨e1,e2⟩=>?_
  subst e1 e2
  rw[if_pos lt]
  refine Rn.pure ⟨⟨_,rfl⟩,?_,rfl⟩
  simp[row,List.range_succ]
 ·obtain⟨_,e1,e2⟩:=hI
  exact⟨e2,by rw[e1];simp⟩
theorem xK{n e x:Nat}{A:Nat->Nat->Nat}{M0 M:Mo}(js:JS M0 n e A M){y:Nat}(hx:x<n)(hy:y<n):dg (.ref (M0.length+x)) (nD y) M=some (nD (A x y)):=gb (js.row x hx) (iB hy)
theorem mK{a b:Nat}(h:b≤a):(rd (uR (nD a) (nD b)):DM D)=pure (nD (a-b)):=by
 unfold nD
 rw[Hv]
 have:(a:Int)-(b:Int)=((a-b:Nat):Int):=by omega
 rw[this]
structure JG(M0:Mo)(n:Nat)(g:G)(M:Mo):Prop where
 js:JS M0 n 2 g.A M
 left:M[M0.length+n]?=some (.lst (row n g.L))
 want:M[M0.length+n+1]?=some (.lst (row n g.W))
theorem JS.other{M0:Mo}{n e q:Nat}{A:Nat->Nat->Nat}{M:Mo}(h:JS M0 n e A M)(hq:M0.length+n≤q){o:DO}:JS M0 n e A (M.set q o):=
 ⟨⟨by have:=h.ex.le;simp;omega,fun k hk=>by rw[List.getElem?_set_ne (by omega)];exact h.ex.keep k hk⟩,by rw[List.length_set];exact h.len,fun x hx=>by rw[List.getElem?_set_ne (by omega)];exact h.row x hx⟩
theorem JG.setA(h:JG M0 n g M)(hx:x<n)(hy:y<n):∃M',jP (.ref (M0.length+x)) (nD y) (nD v) M=some (.ok (),M')∧JG M0 n ⟨cG g.A x y v,g.L,g.W⟩ M':=by
 obtain⟨e,j⟩:=h.js.set (v:=v) hx hy
 refine⟨_,e,j,?_,?_⟩
 ·rw[List.getElem?_set_ne (by omega)];exact h.left
 ·rw[List.getElem?_set_ne (by omega)];exact h.want
theorem JG.setL(h:JG M0 n g M)(hx:x<n):∃M',jP (.ref (M0.length+n)) (nD x) (nD v) M=some (.ok (),M')∧JG M0 n ⟨g.A,up g.L x v,g.W⟩ M':=by
 have e:=eO (v:=nD v) h.left (i:=x) (by simpa[row] using hx)
 rw[jq hx] at e
 refine⟨_,e,h.js.other (Nat.le_refl _),?_,?_⟩
 ·rw[List.getElem?_set_self (List.getElem?_eq_some_iff.mp h.left).1]
 ·rw[List.getElem?_set_ne (by omega)];exact h.want
theorem JG.setW(h:JG M0 n g M)(hy:y<n):∃M',jP (.ref (M0.length+n+1)) (nD y) (nD v) M=some (.ok (),M')∧JG M0 n ⟨g.A,g.L,up g.W y v⟩ M':=by
 have e:=eO (v:=nD v) h.want (i:=y) (by simpa[row] using hy)
 rw[jq hy] at e
 refine⟨_,e,h.js.other (by omega),?_,?_⟩
 ·rw[List.getElem?_set_ne (by omega)];exact h.left
 ·rw[List.getElem?_set_self (List.getElem?_eq_some_iff.mp h.want).1]
theorem IW(a b:Nat):(rd (cW (fun _ _=>true) (fun i j=>.int (i+j)) (nD a) (nD b)):DM D)=pure (nD (a+b)):=bY fun M=>by
 show some (D.int ((a:Int)+(b:Int)))=_
 unfold nD
 rw[Int.natCast_add]
noncomputable def sp(n i:Nat):List (Nat×Nat):=(List.range i).flatMap fun x=>(List.range n).map fun y=>(x,y)
noncomputable abbrev Hm(M0:Mo)(n:Nat)(F T:Nat->Nat)(z z7 z8 z9:Option D):ao:=[some (.tup (row n F)),some (.tup (row n T)),some (nD n),some (refs M0.length n),z,some (.ref (M0.length+n)),some (.ref (M0.length+n+1)),z7,z8,z9]
noncomputable def Oq(M0:Mo)(n:Nat)(F T:Nat->Nat)(z:Option D)(g:G)(i:Nat)(δ:ao)(M:Mo):Prop:=(∃z7 z8 z9,δ=Hm M0 n F T z z7 z8 z9)∧JG M0 n (g.run (sp n i)) M
noncomputable def PJ(M0:Mo)(n:Nat)(F T:Nat->Nat)(z:Option D)(g:G)(x j:Nat)(δ:ao)(M:Mo):Prop:=(∃z8 z9,δ=Hm M0 n F T z (some (nD x)) z8 z9)∧JG M0 n (g.run (sp n x++(List.range j).map fun y=>(x,y))) M
theorem GD(g:G)(l:List (Nat×Nat))(x y:Nat):g.run (l++[(x,y)])=(g.run l).step x y:=by
 unfold G.run
 rw[List.foldl_append];rfl
noncomputable def Mt(M0:Mo)(rest:ao)(R:Nat->D)(i:Nat)(δ:ao)(l:List D)(M:Mo):Prop:=(∃z,δ=z::rest)∧l=(List.range i).map R∧M=M0
theorem sU {fe:ao->DM D}{rest:ao}{n:Nat}{hd R:Nat->D}{M:Mo}{x:Option D} (hn:n≤1000) (h:∀ j,j<n->Rn (fe (some (hd j)::rest)) M fun d M'=>M'=M∧d=R j) :
  Rn (bh (gN 0) (fun _=>pure true) (aW fe) ((List.range n).map hd) (x::rest) []) M fun p M'=>M'=M∧p.2=(List.range n).map R:=by
 refine (cI (Mt M rest R) ((List.range n).map hd) 0 (x::rest) [] M ⟨⟨x,rfl⟩,rfl,rfl⟩ (fun j d δ l M1 hj hI=>?_)).mono fun p M' hI=>?_
 ·obtain⟨⟨z,rfl⟩,rfl,rfl⟩:=hI
  have hj':j<n:=by
   have:=(List.getElem?_eq_some_iff.mp hj).1
   simpa using this
  have ed:d=hd j:=by
   rw[List.getElem?_map,List.getElem?_range hj'] at hj
   exact (Option.some.inj hj).symm
  subst ed
  have lt:((List.range (0+j)).map R).length<sizeLine:=by show _<2^24;simp;omega
  rw[iJ,aq,aq]
  show Rn (aW fe (some (hd j)::rest) ((List.range (0+j)).map R)) M1 _
  unfold aW
  refine Rn.bind (h j hj') fun d M' ⟨e1,e2⟩=>?_
  subst e1 e2
  rw[if_pos lt]
  refine Rn.pure ⟨⟨_,rfl⟩,?_,rfl⟩
  simp[List.range_succ]
 ·obtain⟨_,e1,e2⟩:=hI
  exact⟨e2,by rw[e1];simp⟩
noncomputable def nu(n:Nat)(A:Nat->Nat->Nat):D:=.tup ((List.range n).map fun x=>.tup (row n (A x)))
noncomputable def vD(n:Nat)(F T:Nat->Nat):G:=G.run ⟨fun x y=>if x=y∧x<n then min (F x) (T x) else 0,fun x=>F x-min (F x) (T x),fun x=>T x-min (F x) (T x)⟩ (sp n n)
theorem KD {F T:Nat->Nat}{n:Nat}{M:Mo} (hn:n≤25):Rn (By [.tup (row n F),.tup (row n T)]) M fun d M'=>d=nu n (vD n F T).A∧Ex M M':=by
 have rg:pD [nD n]=some (.fix ((List.range n).map nD)):=yC (by omega)
 have m0:kI [.int 0]=pure (.lst [.int 0]):=cH (by simp)
 have ln:(rd (cz [.tup (row n F)]):DM D)=pure (nD n):=by simp[row,nD]
 unfold By jX gf;dsimp only
 refine Rn.call rfl ?_
 refine aF fun K hK=>?_
 simp[ln]
 rw[hK];clear hK K
 refine aF fun K hK=>?_
 simp[rg,m0,aX,cO]
 refine Rn.bind (cU (GC hn)) fun p M1 ⟨_,e1,l1,x1,r1⟩=>?_
 rw[e1,hK];clear hK K
 refine aF fun K hK=>?_
 simp[rg,Aq]
 have js0:JS M n 0 (fun x y=>if x=y∧x<0 then min (F x) (T x) else 0) M1  :=⟨x1,l1,fun x hx=>by
  have z:(fun _:Nat=>0)=fun y=>if x=y∧x<0 then min (F x) (T x) else 0:=by
   funext y
   rw[if_neg (by omega)]
  rw[r1 x hx,yD,z]⟩
 have st0:G4 M n F T 0 [some (.tup (row n F)),some (.tup (row n T)),some (nD n),some (refs M.length n),none,none,none,none,none,none] M1:=⟨⟨none,rfl⟩,js0⟩
 show Rn (forL _ _ _ [some (.tup (row n F)),some (.tup (row n T)),some (nD n),some (refs M.length n),none,none,none,none,none,none]>>=K) M1 _
 refine Rn.bind (dm (G4 M n F T) _ 0 _ _ st0 (fun j d δ M2 hj hI=>?_)) (fun r M2 hI=>?_)
 ·obtain⟨⟨z,rfl⟩,js⟩:=hI
  have hj':j<n:=by
   have:=(List.getElem?_eq_some_iff.mp hj).1
   simpa using this
  have ed:d=nD j:=by
   rw[List.getElem?_map,List.getElem?_range hj'] at hj
   exact (Option.some.inj hj).symm
  subst ed
  simp[xJ hj',yx,lX hj']
  rw[Nat.zero_add] at js
  obtain⟨se,js'⟩:=js.set (v:=min (F j) (T j)) hj' hj'
  refine Rn.run se (Rn.pure ⟨_,rfl,⟨_,rfl⟩,?_⟩)
  rw[HW] at js'
  exact js'
 obtain⟨δ',rfl,⟨z,rfl⟩,js⟩:=hI
 rw[hK];clear hK K
 rw[List.length_map,List.length_range,Nat.zero_add] at js
 -- what is left
 refine aF fun K hK=>?_
 simp[rg,aX,cO]
 refine Rn.bind (cU (vy (G:=fun x=>F x-min (F x) (T x)) (by omega) (fun j hj=>?_))) fun p3 M3 ⟨e3,q3⟩=>?_
 ·simp[xJ hj,lX hj]
  refine Rn.bindRd _ (xK js hj hj) ?_
  rw[if_pos ⟨rfl,hj⟩,mK (by omega)]
  exact Rn.pure ⟨rfl,rfl⟩
 subst e3
 rw[q3]
 refine Rn.run (a:=.ref M3.length) (M':=M3++[.lst (row n fun x=>F x-min (F x) (T x))]) rfl ?_
 rw[hK];clear hK K
 have js3:JS M n 1 (fun x y=>if x=y∧x<n then min (F x) (T x) else 0) (M3++[.lst (row n fun x=>F x-min (F x) (T x))]):=js.push
 have lf3:(M3++[.lst (row n fun x=>F x-min (F x) (T x))])[M.length+n]?=some (.lst (row n fun x=>F x-min (F x) (T x))):=by
  rw[show M.length+n=M3.length by have:=js.len;omega,List.getElem?_concat_length]
 rw[show M3.length=M.length+n by have:=js.len;omega]
 revert js3 lf3
 generalize M3++[.lst (row n fun x=>F x-min (F x) (T x))]=M4
 intro js3 lf3
 -- what is wanted
 refine aF fun K hK=>?_
 simp[rg,aX,cO]
 refine Rn.bind (cU (vy (G:=fun x=>T x-min (F x) (T x)) (by omega) (fun j hj=>?_))) fun p5 M5 ⟨e5,q5⟩=>?_
 ·simp[xJ hj,lX hj]
  refine Rn.bindRd _ (xK js3 hj hj) ?_
  rw[if_pos ⟨rfl,hj⟩,mK (by omega)]
  exact Rn.pure ⟨rfl,rfl⟩
 subst e5
 rw[q5]
 refine Rn.run (a:=.ref M5.length) (M':=M5++[.lst (row n fun x=>T x-min (F x) (T x))]) rfl ?_
 rw[hK];clear hK K
 have jg:JG M n ⟨fun x y=>if x=y∧x<n then min (F x) (T x) else 0,fun x=>F x-min (F x) (T x),fun x=>T x-min (F x) (T x)⟩ (M5++[.lst (row n fun x=>T x-min (F x) (T x))]):=by
  refine⟨js3.push,?_,?_⟩
  ·rw[List.getElem?_append_left (by have:=js3.len;omega)];exact lf3
  ·rw[show M.length+n+1=M5.length by have:=js3.len;omega,List.getElem?_concat_length]
 rw[show M5.length=M.length+n+1 by have:=js3.len;omega]
 revert jg
 generalize (M5++[DO.lst (row n fun x=>T x-min (F x) (T x))])=M6
 generalize hg0:(⟨fun x y=>if x=y∧x<n then min (F x) (T x) else 0,fun x=>F x-min (F x) (T x),fun x=>T x-min (F x) (T x)⟩:G)=g0
 intro jg
 refine aF fun K hK=>?_
 simp only[bx,aQ,aB,rg,Aq]
 show Rn (forL _ _ _ (Hm M n F T z none none none)>>=K) M6 _
 refine Rn.bind (dm (Oq M n F T z g0) _ 0 _ _ ⟨⟨none,none,none,rfl⟩,jg⟩ (fun i d δ M7 hi hI=>?_)) (fun r M7 hI=>?_)
 ·obtain ⟨⟨z7,z8,z9,rfl⟩,j7⟩:=hI
  have hi':i<n:=by
   have:=(List.getElem?_eq_some_iff.mp hi).1
   simpa using this
  have ed:d=nD i:=by
   rw[List.getElem?_map,List.getElem?_range hi'] at hi
   exact (Option.some.inj hi).symm
  subst ed
  rw[Nat.zero_add] at j7
  rw[iJ,aq]
  simp only[bN,bx,rg]
  show Rn (forL _ _ _ (Hm M n F T z (some (nD i)) z8 z9)) M7 _
  refine (dm (PJ M n F T z g0 i) _ 0 _ _ ⟨⟨z8,z9,rfl⟩,by simpa using j7⟩ (fun j d δ M8 hj hI=>?_)).mono (fun r M8 hI=>?_)
  ·obtain⟨⟨z8,z9,rfl⟩,j8⟩:=hI
   have hj':j<n:=by
    have:=(List.getElem?_eq_some_iff.mp hj).1
    simpa using this
   have ed:d=nD j:=by
    rw[List.getElem?_map,List.getElem?_range hj'] at hj
    exact (Option.some.inj hj).symm
   subst ed
   rw[Nat.zero_add] at j8
   generalize hg:g0.run (sp n i++(List.range j).map fun y=>(i,y))=g at j8
   rw[iJ,aq]
   refine aF fun K hK=>?_
   simp
   refine Rn.bindRd _ (gb j8.left (iB hi')) ?_
   refine Rn.bindRd _ (gb j8.want (iB hj')) ?_
   rw[yx,aq,hK];clear hK K
   obtain⟨N1,s1,k1⟩:=j8.setA (v:=g.A i j+min (g.L i) (g.W j)) hi' hj'
   obtain⟨N2,s2,k2⟩:=k1.setL (v:=g.L i-min (g.L i) (g.W j)) hi'
   obtain⟨N3,s3,k3⟩:=k2.setW (v:=g.W j-min (g.L i) (g.W j)) hj'
   refine aF fun K hK=>?_
   simp[lX hi']
   refine Rn.bindRd _ (uC (j8.js.row i hi') (iB hj')) ?_
   rw[IW,aq]
   refine Rn.run s1 ?_
   rw[hK];clear hK K
   refine aF fun K hK=>?_
   simp
   refine Rn.bindRd _ (uC k1.left (iB hi')) ?_
   rw[mK (Nat.min_le_left _ _),aq]
   refine Rn.run s2 ?_
   rw[hK];clear hK K
   simp
   refine Rn.bindRd _ (uC k2.want (iB hj')) ?_
   rw[mK (Nat.min_le_right _ _),aq]
   refine Rn.run s3 (Rn.pure ⟨_,rfl,⟨_,_,rfl⟩,?_⟩)
   rw[List.range_succ,List.map_append,←List.append_assoc]
   show JG M n (g0.run (_++[(i,j)])) N3
   rw[GD,hg]
   exact k3
  ·obtain⟨δ',rfl,⟨z8,z9,rfl⟩,j9⟩:=hI
   refine⟨_,rfl,⟨_,_,_,rfl⟩,?_⟩
   rw[List.length_map,List.length_range,Nat.zero_add] at j9
   rw[Nat.zero_add,show sp n (i+1)=sp n i++(List.range n).map fun y=>(i,y) by simp[sp,List.range_succ]]
   exact j9
 ·obtain⟨δ',rfl,⟨z7,z8,z9,rfl⟩,j9⟩:=hI
  rw[List.length_map,List.length_range,Nat.zero_add] at j9
  rw[hK];clear hK K
  have al:∀l:List D,(rd (oN (.lst l)):DM Itn)=pure (.fix l):=fun l=>rfl
  have al':(rd (oN (refs M.length n)):DM Itn)=pure (.fix ((List.range n).map fun x=>D.ref (M.length+x))):=rfl
  simp only[bx,aQ,aB,al',aX,cO,List.map_nil,I8]
  refine Rn.bind (cU (sU (rest:=[]) (R:=fun x=>.tup (row n ((g0.run (sp n n)).A x))) (by omega) (fun j hj=>?_))) fun p M8 ⟨e8,q8⟩=>?_
  ·simp
   exact Rn.rd (by show (aO (.ref (M.length+j)) M7).map _=_;simp only[aO,j9.js.row j hj];rfl) ⟨rfl,rfl⟩
  subst e8
  rw[q8]
  simp only[mJ,aq,Lw]
  refine Rn.pure ⟨_,rfl,?_,j9.js.ex⟩
  unfold nu vD
  rw[hg0]
theorem N7{n:Nat}:∀p∈sp n n,p.1<n∧p.2<n:=by
 intro p hp
 unfold sp at hp
 obtain⟨x,hx,hp⟩:=List.mem_flatMap.mp hp
 obtain⟨y,hy,rfl⟩:=List.mem_map.mp hp
 exact⟨List.mem_range.mp hx,List.mem_range.mp hy⟩
theorem LQ{n x y:Nat}(hx:x<n)(hy:y<n):(x,y)∈sp n n:=
 List.mem_flatMap.mpr ⟨x,List.mem_range.mpr hx,List.mem_map.mpr ⟨y,List.mem_range.mpr hy,rfl⟩⟩
theorem Jx{n x:Nat}(c:Nat)(hx:x<n):S n (fun y=>if x=y∧x<n then c else 0)=c:=by
 have:S n (up (fun _=>0) x c)+0=S n (fun _=>0)+c:=mY (f:=fun _=>0) hx
 rw[gZ (f:=fun _=>0) fun _ _=>rfl] at this
 have e:S n (fun y=>if x=y∧x<n then c else 0)=S n (up (fun _=>0) x c):=cV fun i _=>by
  unfold up
  by_cases k:i=x
  ·subst k;rw[if_pos ⟨rfl,hx⟩,if_pos rfl]
  ·rw[if_neg (fun z=>k z.1.symm),if_neg k]
 omega
theorem HJ{n y:Nat}(c:Nat->Nat)(hy:y<n):S n (fun x=>if x=y∧x<n then c x else 0)=c y:=by
 have e:S n (fun x=>if x=y∧x<n then c x else 0)=S n (up (fun _=>0) y (c y)):=cV fun i hi=>by
  unfold up
  by_cases k:i=y
  ·subst k;rw[if_pos ⟨rfl,hi⟩,if_pos rfl]
  ·rw[if_neg (fun z=>k z.1),if_neg k]
 have:S n (up (fun _=>0) y (c y))+0=S n (fun _=>0)+c y:=mY (f:=fun _=>0) hy
 rw[gZ (f:=fun _=>0) fun _ _=>rfl] at this
 omega
structure Joins(n:Nat)(F T:Nat->Nat)(A:Nat->Nat->Nat):Prop where
 row:∀x,x<n->S n (A x)=F x
 col:∀y,y<n->S n (fun x=>A x y)=T y
theorem Joins.diag{n:Nat}{F T:Nat->Nat}{A:Nat->Nat->Nat}(h:Joins n F T A){x:Nat}(hx:x<n):A x x≤min (F x) (T x):=by
 have a:=pR (f:=A x) hx
 have b:=pR (f:=fun i=>A i x) hx
 rw[h.row x hx] at a
 rw[h.col x hx] at b
 have b:A x x≤T x:=b
 omega
noncomputable def parts(n:Nat)(A:Nat->Nat->Nat):Nat:=S n fun x=>S n (A x)-A x x
noncomputable def J0(n:Nat)(F T:Nat->Nat):Nat:=S n fun x=>F x-T x
theorem xO{n:Nat}{F T:Nat->Nat}(e:S n F=S n T):Joins n F T (vD n F T).A∧∀x,x<n->(vD n F T).A x x=min (F x) (T x):=by
 have ok0:G.Ok ⟨fun x y=>if x=y∧x<n then min (F x) (T x) else 0,fun x=>F x-min (F x) (T x),fun x=>T x-min (F x) (T x)⟩ n F T:=⟨fun x hx=>by
  show S n (fun y=>if x=y∧x<n then min (F x) (T x) else 0)+(F x-min (F x) (T x))=F x
  rw[Jx _ hx];omega,fun y hy=>by
  show S n (fun x=>if x=y∧x<n then min (F x) (T x) else 0)+(T y-min (F y) (T y))=T y
  rw[HJ (fun x=>min (F x) (T x)) hy];omega⟩
 have ok:=G.run_ok ok0 N7
 obtain⟨_,_,h3,h4⟩:=G.run_le (sp n n) ⟨fun x y=>if x=y∧x<n then min (F x) (T x) else 0,fun x=>F x-min (F x) (T x),fun x=>T x-min (F x) (T x)⟩
 obtain⟨l0,w0⟩:=G.done ok e fun x y hx hy=>h3 (x,y) (LQ hx hy)
 have J:Joins n F T (vD n F T).A:=⟨fun x hx=>by have:=ok.row x hx;rw[l0 x hx] at this;exact this,fun y hy=>by have:=ok.col y hy;rw[w0 y hy] at this;exact this⟩
 refine⟨J,fun x hx=>?_⟩
 have a:=J.diag hx
 have b:(if x=x∧x<n then min (F x) (T x) else 0)≤(vD n F T).A x x:=h4 x x
 rw[if_pos ⟨rfl,hx⟩] at b
 omega
theorem Gg{n:Nat}{F T:Nat->Nat}(e:S n F=S n T):parts n (vD n F T).A=J0 n F T:=by
 obtain⟨J,d⟩:=xO e
 exact cV fun x hx=>by rw[J.row x hx,d x hx];omega
noncomputable def fn(l:List Nat):Nat->Nat:=fun i=>l.getD i 0
theorem Dj{l:List Nat}{n:Nat}(h:l.length=n):nT l=.tup (row n (fn l)):=by
 unfold nT row
 congr 2
 apply List.ext_getElem?
 intro k
 by_cases hk:k<n
 ·rw[List.getElem?_map,List.getElem?_range hk,List.getElem?_eq_getElem (by omega)]
  show _=some (l.getD k 0)
  rw[List.getD_eq_getElem?_getD,List.getElem?_eq_getElem (by omega)];rfl
 ·rw[List.getElem?_eq_none (by omega),List.getElem?_eq_none (by simp;omega)]
theorem CP {β:Type}{fe:ao->DM D}{A:Option D}{rest:ao} (enc:β->D) (e:β->D):∀ (bs:List β) (y:Option D) (l:List D),l.length + bs.length≤1000000->(∀ b∈bs,fe (A::some (enc b)::rest)=pure (e b))->
  ∃y',bh (gN 1) (fun _=>pure true) (aW fe) (bs.map enc) (A::y::rest) l=pure (A::y'::rest,l++bs.map e)
 |[],y,l,_,_=>⟨y,by simp[bh]⟩
 |b::bs,y,l,hl,h=>by
   have c:=h b (by simp)
   have hl':l.length+(bs.length+1)≤1000000:=by simpa using hl
   have lt:l.length<sizeLine:=by show l.length<2^24;omega
   obtain⟨y',q⟩:=CP (rest:=rest) enc e bs (some (enc b)) (l++[e b]) (by simp;omega) (fun b hb=>h b (by simp[hb]))
   exact⟨y',by simp[bh,aW,c,lt,q]⟩
theorem Cg {α β:Type}{fi:ao->DM Itn}{fe:ao->DM D}{rest:ao} (enc:α->D) (enc':β->D) (e:α->β->D) (bs:α->List β) (m:Nat) (hb:∀ a,(bs a).length≤m):∀ (as:List α) (x y:Option D) (l:List D),l.length + as.length * m≤1000000->
  (∀a∈as,∀y,fi (some (enc a)::y::rest)=pure (.fix ((bs a).map enc')))->(∀a∈as,∀b∈bs a,fe (some (enc a)::some (enc' b)::rest)=pure (e a b))->
  ∃δ',bh (gN 0) (fun _=>pure true) (o5 fi (gN 1) (fun _=>pure true) (aW fe)) (as.map enc) (x::y::rest) l=pure (δ',l++as.flatMap fun a=>(bs a).map (e a))
 |[],x,y,l,_,_,_=>⟨x::y::rest,by simp[bh]⟩
 |a::as,x,y,l,hl,h1,h2=>by
   have hl':l.length+(as.length*m+m)≤1000000:=by rw[←Nat.succ_mul];simpa using hl
   have ha:=hb a
   obtain⟨y',q⟩:=CP (A:=some (enc a)) (rest:=rest) enc' (e a) (bs a) y l (by omega) (fun b hb=>h2 a (by simp) b hb)
   obtain⟨δ',q'⟩:=Cg (rest:=rest) enc enc' e bs m hb as (some (enc a)) y' (l++(bs a).map (e a)) (by simp;omega) (fun a ha=>h1 a (by simp[ha])) (fun a ha=>h2 a (by simp[ha]))
   exact⟨δ',by simp[bh,o5,h1 a (by simp),cB,q,q']⟩
theorem JT{α β γ:Type}{fi:ao->DM Itn}{fe:ao->DM D}{x y:Option D}{rest:ao}{as:List α}{k:ao×List D->DM γ}{r:DM γ}(enc:α->D)(enc':β->D)(e:α->β->D)(bs:α->List β)(m:Nat)(hb:∀a,(bs a).length≤m)(hl:as.length*m≤1000000)
  (h1:∀a∈as,∀y,fi (some (enc a)::y::rest)=pure (.fix ((bs a).map enc'))) (h2:∀a∈as,∀b∈bs a,fe (some (enc a)::some (enc' b)::rest)=pure (e a b)) (hk:∀δ',k (δ',as.flatMap fun a=>(bs a).map (e a))=r) :
  (cJ (bh (gN 0) (fun _=>pure true) (o5 fi (gN 1) (fun _=>pure true) (aW fe)) (as.map enc) (x::y::rest) [])>>=k)=r:=by
 obtain⟨δ',q⟩:=Cg (x:=x) (y:=y) (l:=[]) (rest:=rest) enc enc' e bs m hb as (by simpa using hl) h1 h2
 rw[q]
 simp[hk]
def prs(n:Nat):List (Nat×Nat):=(List.range n).flatMap fun x=>(List.range (n-(x+1))).map fun k=>(x,x+1+k)
theorem lZ{n:Nat}{q:Nat×Nat}(h:q∈prs n):q.1<q.2∧q.2<n:=by
 unfold prs at h
 simp only[List.mem_flatMap,List.mem_map,List.mem_range] at h
 obtain⟨x,hx,k,hk,rfl⟩:=h
 dsimp only
 omega
theorem zu {α β:Type}{f:α->List β}{m:Nat}:∀ {l:List α},(∀ x∈l,(f x).length≤m)->(l.flatMap f).length≤l.length * m
 |[],_=>by simp
 |x::l,h=>by
   have:=zu (f:=f) (m:=m) (l:=l) fun y hy=>h y (by simp[hy])
   have:=h x (by simp)
   rw[List.flatMap_cons,List.length_append,List.length_cons,Nat.succ_mul]
   omega
theorem uI{n:Nat}(hn:n≤6):(prs n).length≤36:=by
 have:=zu (f:=fun x=>(List.range (n-(x+1))).map fun k=>(x,x+1+k)) (m:=n) (l:=List.range n) fun x _=>by simp
 rw[List.length_range] at this
 have:=Nat.mul_le_mul hn hn
 unfold prs
 omega
noncomputable def lu(R:List (List Nat))(q:Nat×Nat):D:=.tup [nT (gr R q.1),nT (gr R q.2)]
theorem mF{R:List (List Nat)}{i:Nat}(h:i<R.length):(rd (dg (nM R) (nD i)):DM D)=pure (nT (gr R i)):=ue (i:=i) (by rw[List.getElem?_map,List.getElem?_eq_getElem h,MK h];rfl)
noncomputable def wK:=aJ 1 1 sI
theorem tU{R:List (List Nat)}(h:R.length≤6):wK [nM R]=pure (.lst ((prs R.length).map (lu R))):=by
 have ln:(rd (cz [nM R]):DM D)=pure (nD R.length):=by simp[nM,nD]
 have hl:(rd (cz [nM R]):DM D)=pure (nD R.length):=ln
 simp[wK,sI,ln,gj (n:=R.length) (by omega),lA]
 refine JT (rest:=[some (nM R)]) nD nD (fun x y=>.tup [nT (gr R x),nT (gr R y)]) (fun x=>(List.range (R.length-(x+1))).map fun k=>x+1+k) 6 (fun a=>by simp;omega) (by simp;omega) (fun a ha y=>?_) (fun a ha b hb=>?_) (fun δ'=>?_)
 ·simp[ln,mC,Ja (a:=a+1) (b:=R.length) (by have:=List.mem_range.mp ha;omega) (by omega)]
  rfl
 ·have h1:=List.mem_range.mp ha
  obtain⟨k,hk,rfl⟩:=List.mem_map.mp hb
  have h2:=List.mem_range.mp hk
  simp[mF h1,mF (R:=R) (i:=a+1+k) (by omega)]
  exact gh (by simp)
 ·simp[prs,lu,List.map_flatMap,Function.comp_def]
theorem Ex.refl{M:Mo}:Ex M M:=⟨Nat.le_refl _,fun _ _=>rfl⟩
theorem Ex.trans{M M1 M2:Mo}(h:Ex M M1)(k:Ex M1 M2):Ex M M2:=⟨Nat.le_trans h.le k.le,fun q hq=>(k.keep q (Nat.lt_of_lt_of_le hq h.le)).trans (h.keep q hq)⟩
theorem Ex.sb{p:Nat}{M M':Mo}(h:Ex M M'):Sb p M M':=⟨h.le,fun q _ hl=>h.keep q hl⟩
theorem bV.ex{p:Nat}{M M':Mo}(h:bV p M)(k:Ex M M'):bV p M':=by obtain⟨a,b,c,hc,e⟩:=h;exact⟨a,b,c,hc,(k.keep p (List.getElem?_eq_some_iff.mp e).1).trans e⟩
noncomputable def Dc(R:List (List Nat))(q:Nat×Nat):Nat->Nat->Nat:=(vD R.length (fn (gr R q.1)) (fn (gr R q.2))).A
noncomputable def rule(R:List (List Nat)):D:=.tup ((prs R.length).map fun q=>nu R.length (Dc R q))
noncomputable def wH:=aJ 1 1 (ju wK By)
noncomputable def PN(R:List (List Nat))(M0:Mo)(i:Nat)(δ:ao)(l:List D)(M:Mo):Prop:=(∃z y,δ=[z,y])∧l=((prs R.length).take i).map (fun q=>nu R.length (Dc R q))∧Ex M0 M
theorem Ih{R:List (List Nat)}{W:Nat}{M:Mo}(h:WK R W)(hn:R.length≤6):Rn (wH [nM R]) M fun d M'=>d=rule R∧Ex M M':=by
 have pl:=uI hn
 unfold wH ju fJ;dsimp only
 refine Rn.call rfl ?_
 simp[tU hn,lA]
 have al:(rd (oN (.lst ((prs R.length).map (lu R)))):DM Itn)=pure (.fix ((prs R.length).map (lu R))):=rfl
 simp[al,lA]
 have ce:aX 2 [] [some (nM R)]=[none,none]:=rfl
 rw[ce]
 refine Rn.bind (cU (cI (PN R M) _ 0 _ [] M ⟨⟨_,_,rfl⟩,rfl,Ex.refl⟩ fun j d δ l M1 hj hI=>?_)) fun p M1 hI=>?_
 ·obtain⟨⟨z,y,rfl⟩,rfl,ex⟩:=hI
  rw[Nat.zero_add]
  rw[List.getElem?_map] at hj
  obtain⟨q,hq,rfl⟩:=Option.map_eq_some_iff.mp hj
  have hm:=lZ (List.mem_of_getElem? hq)
  have l1:(gr R q.1).length=R.length:=h.row _ (gr_mem (by omega))
  have l2:(gr R q.2).length=R.length:=h.row _ (gr_mem (by omega))
  have run:=KD (F:=fn (gr R q.1)) (T:=fn (gr R q.2)) (n:=R.length) (M:=M1) (by omega)
  rw[←Dj l1,←Dj l2] at run
  simp[lu,aW]
  refine Rn.bind run fun d M2 ⟨e2,x2⟩=>?_
  subst e2
  have lt:(List.take j (prs R.length)).length<sizeLine:=by show _<2^24;simp;omega
  rw[List.length_take] at lt
  simp[lt]
  refine Rn.pure ⟨⟨_,_,rfl⟩,?_,ex.trans x2⟩
  have hj':=(List.getElem?_eq_some_iff.mp hq).1
  rw[List.take_succ,hq]
  simp[Dc]
 ·obtain⟨_,e1,ex⟩:=hI
  refine Rn.pure ⟨_,rfl,?_,ex⟩
  rw[e1,Nat.zero_add,List.length_map,List.take_of_length_le (Nat.le_refl _)]
  rfl
noncomputable def Bu:=aJ 1 1 (qO wH)
theorem JP{R:List (List Nat)}{W:Nat}{M:Mo}(h:WK R W)(hn:R.length≤6):Rn (Bu [cD R W]) M fun d M'=>d=rule R∧Ex M M':=by
 unfold Bu qO lG;dsimp only
 refine Rn.call rfl ?_
 simp[xm]
 refine Rn.bind (Ih h hn) fun d M2 ⟨e2,x2⟩=>?_
 subst e2
 exact Rn.pure ⟨_,rfl,rfl,x2⟩
theorem lU(f:Nat->Nat):∀n:Nat,((List.range n).map f).sum=S n f
 |0=>rfl
 |n+1=>by rw[List.range_succ,List.map_append,List.sum_append,lU f n];simp[S]
theorem pF{a:List Nat}{n:Nat}(h:a.length=n):(List.range n).map (fn a)=a:=by
 subst h
 apply List.ext_getElem
 ·simp
 ·intro i h1 h2
  simp[fn,h2]
noncomputable def vd:=aJ 3 5 (ur oA)
noncomputable def wD:=aJ 2 3 (eF wK vd)
theorem Nb{R:List (List Nat)}{W:Nat}(h:WK R W){q:Nat×Nat}(hq:q∈prs R.length):Joins R.length (fn (gr R q.1)) (fn (gr R q.2)) (Dc R q)∧parts R.length (Dc R q)=J0 R.length (fn (gr R q.1)) (fn (gr R q.2)):=by
 have hm:=lZ hq
 have l1:(gr R q.1).length=R.length:=h.row _ (gr_mem (by omega))
 have l2:(gr R q.2).length=R.length:=h.row _ (gr_mem (by omega))
 have e:S R.length (fn (gr R q.1))=S R.length (fn (gr R q.2)):=by
  have s1:=lU (fn (gr R q.1)) R.length
  have s2:=lU (fn (gr R q.2)) R.length
  rw[pF l1,h.sum _ (gr_mem (by omega))] at s1
  rw[pF l2,h.sum _ (gr_mem (by omega))] at s2
  omega
 exact⟨(xO e).1,Gg e⟩
noncomputable def wG:=aJ 2 2 (vm wD)
end K
namespace K
open PySem L2 L3 N10 LB
def iG(n:Nat):List (Nat×Nat):=(List.range n).flatMap fun y=>(List.range y).map fun x=>(x,y)
def ym(q:Nat×Nat):List Int:=[(q.1:Int),(q.2:Int)]
noncomputable def iy(q:Nat×Nat):D:=.tup [nD q.1,nD q.2]
theorem Jm:∀n,n≤6->uP ((iG n).map ym)=(prs n).map ym:=by
 intro n hn
 match n,hn with
 |0,_=>decide
 |1,_=>decide
 |2,_=>decide
 |3,_=>decide
 |4,_=>decide
 |5,_=>decide
 |6,_=>decide
 |n+7,h=>omega
theorem zj:∀n,n≤6->(iG n).length≤15:=by
 intro n hn
 match n,hn with
 |0,_=>decide
 |1,_=>decide
 |2,_=>decide
 |3,_=>decide
 |4,_=>decide
 |5,_=>decide
 |6,_=>decide
 |n+7,h=>omega
theorem Fd(i:Nat):iG (i+1)=iG i++(List.range i).map fun x=>(x,i):=by simp[iG,List.range_succ]
noncomputable def wL:=aJ 1 3 oU
noncomputable def PQ(n:Nat)(M0:Mo)(i:Nat)(δ:ao)(M:Mo):Prop:=(∃z,δ=[some (nD n),some (.lst ((iG i).map iy)),z])∧M=M0
theorem tV {n:Nat} (hn:n≤6):wL [nD n]=pure (.lst ((prs n).map iy)):=by
 refine qj fun M=>?_
 unfold wL oU jG;dsimp only
 refine Rn.call rfl ?_
 have st:bz 3 [nD n]=[some (nD n),none,none]:=rfl
 rw[st]
 have m0:kI []=pure (.lst []):=cH (by simp)
 refine aF fun K hK=>?_
 simp[m0]
 rw[hK];clear hK K
 refine aF fun K hK=>?_
 simp[gj (n:=n) (by omega),fF]
 refine Rn.bind (dm (PQ n M) _ 0 _ _ ⟨⟨none,rfl⟩,rfl⟩ (fun j d δ M1 hj hI=>?_)) (fun r M1 hI=>?_)
 ·obtain⟨⟨z,rfl⟩,rfl⟩:=hI
  obtain⟨hj',rfl⟩:=ww hj
  rw[Nat.zero_add]
  have ce:∀L:D,aX 1 [2] [some (nD n),some L,some (nD j)]=[none,some (nD j)]:=fun _=>rfl
  simp[gj (n:=j) (by omega),lA,ce]
  rw[iY nD (fun x=>iy (x,j)) (by simp;omega) fun x hx=>by simp[iy];exact gh (by simp)]
  have cl:=zj j (by omega)
  simp[zQ (a:=(iG j).map iy) (b:=(List.range j).map fun x=>iy (x,j)) (by simp;omega)]
  refine Rn.pure ⟨_,rfl,⟨some (nD j),?_⟩,rfl⟩
  rw[Fd,List.map_append,List.map_map]
  rfl
 ·obtain⟨δ',rfl,⟨z,rfl⟩,rfl⟩:=hI
  rw[hK];clear hK K
  rw[List.length_map,List.length_range,Nat.zero_add]
  have cl:=zj n (by omega)
  have so:wA [.lst ((iG n).map iy)] M1=some (.lst ((prs n).map iy)):=by
   have e:(iG n).map iy=((iG n).map ym).map tupI:=by rw[List.map_map];rfl
   have e2:(prs n).map iy=((prs n).map ym).map tupI:=by rw[List.map_map];rfl
   have tm:mQ (((iG n).map ym).map tupI)=some ((iG n).map ym):=uo fun t ht=>by obtain⟨q,_,rfl⟩:=List.mem_map.mp ht;simp[ym]
   rw[e,e2]
   simp only[wA,Bs,aO,Option.bind_some,tm]
   rw[if_pos (by simp;omega),Jm n hn]
  simp
  refine Rn.bindRd _ so ?_
  exact Rn.pure ⟨_,rfl,rfl,rfl⟩
end K
namespace K
open PySem L2 L3 N10
structure JH(M0:Mo)(n p:Nat)(g:G)(M:Mo):Prop where
 sb:Sb p M0 M
 pot:bV p M
 left:M[M0.length]?=some (.lst (row n g.L))
 want:M[M0.length+1]?=some (.lst (row n g.W))
 row:∀x,x<n->M[M0.length+2+x]?=some (.lst (row n (g.A x)))
theorem JH.setA (h:JH M0 n p g M) (hp:p<M0.length) (hx:x<n) (hy:y<n):∃ M',jP (.ref (M0.length + 2 + x)) (nD y) (nD v) M=some (.ok (),M')∧JH M0 n p ⟨cG g.A x y v,g.L,g.W⟩ M':=by
 have hr:=h.row x hx
 have e:=eO (v:=nD v) hr (i:=y) (by simpa[K.row] using hy)
 rw[jq hy] at e
 refine⟨_,e,Sb.new (p:=p) (.inr h.sb.le) (by omega) Sb.set h.sb,h.pot.sb (q:=M0.length+2+x) Sb.set (by omega),?_,?_,fun i hi=>?_⟩
 ·rw[List.getElem?_set_ne (by omega)];exact h.left
 ·rw[List.getElem?_set_ne (by omega)];exact h.want
 ·by_cases e':i=x
  ·subst e'
   rw[List.getElem?_set_self (List.getElem?_eq_some_iff.mp hr).1]
   simp[cG]
  ·rw[List.getElem?_set_ne (by omega),h.row i hi]
   simp[cG,e']
theorem JH.setL(h:JH M0 n p g M)(hp:p<M0.length)(hx:x<n):∃M',jP (.ref M0.length) (nD x) (nD v) M=some (.ok (),M')∧JH M0 n p ⟨g.A,up g.L x v,g.W⟩ M':=by
 have e:=eO (v:=nD v) h.left (i:=x) (by simpa[K.row] using hx)
 rw[jq hx] at e
 refine⟨_,e,Sb.new (p:=p) (.inr h.sb.le) (Nat.le_refl _) Sb.set h.sb,h.pot.sb (q:=M0.length) Sb.set (by omega),?_,?_,fun i hi=>?_⟩
 ·rw[List.getElem?_set_self (List.getElem?_eq_some_iff.mp h.left).1]
 ·rw[List.getElem?_set_ne (by omega)];exact h.want
 ·rw[List.getElem?_set_ne (by omega)];exact h.row i hi
theorem JH.setW(h:JH M0 n p g M)(hp:p<M0.length)(hy:y<n):∃M',jP (.ref (M0.length+1)) (nD y) (nD v) M=some (.ok (),M')∧JH M0 n p ⟨g.A,g.L,up g.W y v⟩ M':=by
 have e:=eO (v:=nD v) h.want (i:=y) (by simpa[K.row] using hy)
 rw[jq hy] at e
 refine⟨_,e,Sb.new (p:=p) (.inr h.sb.le) (by omega) Sb.set h.sb,h.pot.sb (q:=M0.length+1) Sb.set (by omega),?_,?_,fun i hi=>?_⟩
 ·rw[List.getElem?_set_ne (by omega)];exact h.left
 ·rw[List.getElem?_set_self (List.getElem?_eq_some_iff.mp h.want).1]
 ·rw[List.getElem?_set_ne (by omega)];exact h.row i hi
end K
namespace K
open PySem L2 L3 N10 LB
def stepK(g:G)(x y k:Nat):G:=⟨cG g.A x y (g.A x y+k),up g.L x (g.L x-k),up g.W y (g.W y-k)⟩
theorem KY {g:G}{n:Nat}{f s:Nat->Nat} (h:g.Ok n f s) {x y k:Nat} (hx:x<n) (hy:y<n) (k1:k≤g.L x) (k2:k≤g.W y):(stepK g x y k).Ok n f s where
 row:=fun i hi=>by
  have r:=h.row i hi
  show S n (cG g.A x y _ i)+up g.L x _ i=f i
  by_cases e:i=x
  ·subst e
   have:=mY (f:=g.A i) (v:=g.A i y+k) hy
   rw[cL]
   simp only[cG,if_true]
   omega
  ·rw[dR e]
   simp only[cG,if_neg e]
   exact r
 col:=fun j hj=>by
  have r:=h.col j hj
  show S n (fun i=>cG g.A x y _ i j)+up g.W y _ j=s j
  by_cases e:j=y
  ·subst e
   have q:S n (fun i=>cG g.A x j (g.A x j+k) i j)=S n (up (fun i=>g.A i j) x (g.A x j+k)):=cV fun i _=>by
    by_cases k:i=x
    ·subst k;simp[cG,cL]
    ·rw[dR k];simp[cG,k]
   have:=mY (f:=fun i=>g.A i j) (v:=g.A x j+k) hx
   rw[q,cL]
   omega
  ·have q:S n (fun i=>cG g.A x y (g.A x y+k) i j)=S n (fun i=>g.A i j):=cV fun i _=>by
    by_cases k:i=x
    ·subst k;simp[cG,dR e]
    ·simp[cG,k]
   rw[q,dR e];exact r
noncomputable def yZ:=aJ 3 11 (eE 10000000000 gY)
noncomputable def Ot(M0:Mo)(n:Nat)(rest:ao)(i:Nat)(δ:ao)(l:List D)(M:Mo):Prop:=(∃z,δ=z::rest)∧l=(List.range i).map (fun x=>D.ref (M0.length+x))∧M.length=M0.length+i∧Ex M0 M∧∀x,x<i->M[M0.length+x]?=some (.lst (uZ n))
noncomputable def Ms(M0:Mo)(rest:ao)(p:Nat->Bool)(i:Nat)(δ:ao)(l:List D)(M:Mo):Prop:=(∃z,δ=z::rest)∧l=((List.range i).filter p).map nD∧M=M0
theorem sS {ft:ao->DM Bool}{fe:ao->DM D}{rest:ao}{n:Nat}{p:Nat->Bool}{M:Mo}{x:Option D} (hn:n≤1000) (h:∀ j,j<n->Rn (ft (some (nD j)::rest)) M fun b M'=>b=p j∧M'=M) (h2:∀ j,j<n->fe (some (nD j)::rest)=pure (nD j)) :
  Rn (bh (gN 0) ft (aW fe) ((List.range n).map nD) (x::rest) []) M fun q M'=>M'=M∧q.2=((List.range n).filter p).map nD:=by
 refine (cI (Ms M rest p) ((List.range n).map nD) 0 (x::rest) [] M ⟨⟨x,rfl⟩,rfl,rfl⟩ (fun j d δ l M1 hj hI=>?_)).mono fun q M' hI=>?_
 ·obtain ⟨⟨z,rfl⟩,rfl,rfl⟩:=hI
  obtain⟨hj',rfl⟩:=ww hj
  have le:=List.length_filter_le p (List.range j)
  rw[List.length_range] at le
  have lt:(((List.range (0+j)).filter p).map nD).length<sizeLine:=by
   show _<2^24
   rw[List.length_map,Nat.zero_add]
   omega
  rw[iJ,aq]
  refine Rn.bind (h j hj') fun b M' ⟨e1,e2⟩=>?_
  subst e1 e2
  rw[Nat.zero_add] at lt ⊢
  cases hp:p j with
  |true=>
    rw[if_pos rfl]
    unfold aW
    show Rn (fe (some (nD j)::rest)>>=_) _ _
    rw[h2 j hj',aq,if_pos lt]
    exact Rn.pure ⟨⟨_,rfl⟩,by simp[List.range_succ,List.filter_append,hp],rfl⟩
  |false=>
    rw[if_neg (by decide)]
    exact Rn.pure ⟨⟨_,rfl⟩,by simp[List.range_succ,List.filter_append,hp],rfl⟩
 ·obtain⟨_,e1,e2⟩:=hI
  exact⟨e2,by rw[e1];simp⟩
theorem Jr{q n:Nat}{L:Nat->Nat}{M:Mo}(h:M[q]?=some (.lst (row n L))):lQ [.ref q] M=some (nD (S n L)):=by
 have e:jf (.ref q) M=some (((List.range n).map L).map nD):=by simp only[jf,aO,h];rfl
 show (jf (.ref q) M).bind _=_
 have gen:∀l:List Nat,(Option.map (fun ns:List Int=>D.int ns.sum) (intsOf (l.map nD)))=some (nD l.sum):=fun l=>by rw[kj];simp[nD,n8]
 rw[e,Option.bind_some,gen,lU]
theorem zE{q n:Nat}{L:Nat->Nat}{M:Mo}(h:M[q]?=some (.lst (row n L))):cz [.ref q] M=some (nD n):=by
 show (aO (.ref q) M).map _=_
 simp only[aO,h]
 simp[row,nD]
theorem jl{q n x:Nat}{L:Nat->Nat}{M:Mo}(h:M[q]?=some (.lst (row n L)))(hx:x<n):dg (.ref q) (nD x) M=some (nD (L x)):=gb (i:=x) h (iB hx)
theorem G8 {n:Nat}{f:Nat->Nat} (h:0<S n f):∃ x,x<n∧0<f x:=by
 induction n with
 |zero=>simp[S] at h
 | succ n ih=>
   by_cases c:0<f n
   ·exact⟨n,by omega,c⟩
   ·obtain⟨x,h1,h2⟩:=ih (by simp[S] at h;omega)
    exact⟨x,by omega,h2⟩
theorem za{n:Nat}{f:Nat->Nat}(h:S n f=0){x:Nat}(hx:x<n):f x=0:=by
 have:=pR (f:=f) hx
 omega
structure Jn(M0:Mo)(n p:Nat)(a b:List Nat)(g:G)(M:Mo):Prop where
 jh:JH M0 n p g M
 ok:g.Ok n (fn a) (fn b)
 eq:S n g.L=S n g.W
noncomputable def G5(M0:Mo)(n p q:Nat)(a b:List Nat)(m:Nat)(δ:ao)(M:Mo):Prop:=∃z6 z7 z8 z9 z10 g,δ=[some (.ref p),some (nT a),some (nT b),some (.ref q),some (.ref (q+1)),some (refs (q+2) n),z6,z7,z8,z9,z10]∧Jn M0 n p a b g M∧m=S n g.L
noncomputable def PL(M0:Mo)(n p q:Nat)(a b:List Nat)(δ:ao)(M:Mo):Prop:=∃z6 z7 z8 z9 z10 g,δ=[some (.ref p),some (nT a),some (nT b),some (.ref q),some (.ref (q+1)),some (refs (q+2) n),z6,z7,z8,z9,z10]∧Jn M0 n p a b g M∧S n g.L=0
theorem xq{a:List Nat}{n:Nat}(h:a.length=n):S n (fn a)=a.sum:=by
 rw[←lU,pF h]
theorem Kv {a b:List Nat}{n p:Nat}{M:Mo} (ha:a.length=n) (hb:b.length=n) (hn:n≤25) (se:a.sum=b.sum) (sl:a.sum≤9000000000) (hp:bV p M) :
  Rn (yZ [.ref p,nT a,nT b]) M fun d M'=>∃A,d=nu n A∧Joins n (fn a) (fn b) A∧bV p M'∧Sb p M M':=by
 unfold yZ eE gG;dsimp only
 refine Rn.call rfl ?_
 have st:bz 11 [D.ref p,nT a,nT b]=[some (.ref p),some (nT a),some (nT b),none,none,none,none,none,none,none,none]:=rfl
 rw[st]
 refine aF fun K hK=>?_
 have ls:∀c:List Nat,(rd (jb [nT c]):DM (List D))=pure (c.map nD):=fun c=>bY fun M=>rfl
 have at':oO (nT a)=some (.fix (a.map nD)):=rfl
 have m0:kI [.int 0]=pure (.lst [.int 0]):=cH (by simp)
 have la:(rd (cz [nT a]):DM D)=pure (nD n):=by simp[nT,nD,ha]
 simp[ls,at',lA]
 refine Rn.dM (by simp;omega) ?_
 refine Rn.dM (by simp;omega) ?_
 have ce:aX 1 [1] [some (D.ref p),some (nT a),some (nT b),none,none,none,none,none,none,none,none]=[none,some (nT a)]:=rfl
 rw[ce]
 have ra:a.map nD=row n (fn a):=by unfold row;rw[pF ha]
 have rb:b.map nD=row n (fn b):=by unfold row;rw[pF hb]
 have hM1:(M++[DO.lst (a.map nD)]++[DO.lst (b.map nD)]).length=M.length+2:=by simp
 have sA:(M++[DO.lst (a.map nD)]++[DO.lst (b.map nD)])[M.length]?=some (.lst (row n (fn a))):=by rw[←ra];simp
 have sB:(M++[DO.lst (a.map nD)]++[DO.lst (b.map nD)])[M.length+1]?=some (.lst (row n (fn b))):=by rw[←rb];simp
 have eM1:Ex M (M++[DO.lst (a.map nD)]++[DO.lst (b.map nD)]):=⟨by simp,fun q hq=>by rw[List.append_assoc,List.getElem?_append_left hq]⟩
 have e1:(M++[DO.lst (a.map nD)]).length=M.length+1:=by simp
 rw[e1]
 revert hM1 sA sB eM1
 generalize M++[DO.lst (a.map nD)]++[DO.lst (b.map nD)]=M1
 intro hM1 sA sB eM1
 refine Rn.bind (cU (cI (Ot M1 n [some (nT a)]) (a.map nD) 0 _ [] M1 ⟨⟨none,rfl⟩,rfl,rfl,Ex.refl,fun x h=>by omega⟩ (fun j d δ l M2 hj hI=>?_))) fun pp M2 hI=>?_
 ·obtain ⟨⟨z,rfl⟩,rfl,hl,he,hr⟩:=hI
  have hj':j<n:=by
   have:=(List.getElem?_eq_some_iff.mp hj).1
   rw[List.length_map] at this
   omega
  have lt:j<sizeLine:=by show j<2^24;omega
  rw[Nat.zero_add] at hl hr ⊢
  simp[aW,m0,la]
  refine rN (by omega) ?_
  simp[lt]
  refine Rn.pure ⟨⟨_,rfl⟩,?_,by simp[hl];omega,⟨by simp;have:=he.le;omega,fun q hq=>by rw[List.getElem?_append_left (by omega)];exact he.keep q hq⟩,fun x hx=>?_⟩
  ·rw[List.range_succ,List.map_append,hl];simp
  ·by_cases e:x=j
   ·subst e
    rw[show M1.length+x=M2.length by omega,List.getElem?_concat_length];simp[uZ]
   ·rw[List.getElem?_append_left (by omega)]
    exact hr x (by omega)
 obtain⟨_,e2,l2,x2,r2⟩:=hI
 rw[List.length_map,Nat.zero_add,ha] at e2 l2 r2
 rw[hM1] at e2 l2 r2
 have jn0:Jn M n p a b ⟨fun _ _=>0,fn a,fn b⟩ M2:=by
  refine⟨⟨(eM1.trans x2).sb,hp.ex (eM1.trans x2),?_,?_,fun x hx=>?_⟩,⟨fun x hx=>?_,fun y hy=>?_⟩,?_⟩
  ·exact (x2.keep _ (by omega)).trans sA
  ·exact (x2.keep _ (by omega)).trans sB
  ·show _=some (DO.lst (_root_.K.row n fun _=>0))
   rw[r2 x hx,yD]
  ·show S n (fun _=>0)+fn a x=fn a x
   rw[gZ fun _ _=>rfl];omega
  ·show S n (fun _=>0)+fn b y=fn b y
   rw[gZ fun _ _=>rfl];omega
  ·show S n (fn a)=S n (fn b)
   rw[xq ha,xq hb,se]
 have mt:qP [.ref M.length,.ref (M.length+1),.lst pp.2]=pure (.tup [.ref M.length,.ref (M.length+1),.lst pp.2]):=gh (by simp)
 simp[mt]
 rw[e2]
 have er:D.lst ((List.range n).map fun x=>D.ref (M.length+2+x))=refs (M.length+2) n:=rfl
 rw[er,hK];clear hK K
 have hpl:=hp.lt
 refine aF fun K hK=>?_
 refine Rn.bind (vP (oM:=PL M n p M.length a b) (G5 M n p M.length a b) (fun m δ M3 hI=>?_) 10000000000 (S n (fn a)) _ M2 (by rw[xq ha];omega) ⟨_,_,_,_,_,_,rfl,jn0,rfl⟩) fun r M3 hI=>?_
 ·obtain ⟨z6,z7,z8,z9,z10,g,rfl,jn,rfl⟩:=hI
  refine⟨decide (0<S n g.L),?_,fun hb=>?_,fun hb=>⟨_,_,_,_,_,g,rfl,jn,by simpa using hb⟩⟩
  ·have s1:=Jr jn.jh.left
   have gt:(rd (tE (nD (S n g.L)) (.int 0)):DM D)=pure (.bl (decide (0<S n g.L))):=tZ (S n g.L) 0
   simp
   show DM.bind (rd (lQ [D.ref M.length])) _ M3=_
   unfold DM.bind
   have:rd (lQ [D.ref M.length]) M3=some (.ok (nD (S n g.L)),M3):=by unfold rd;rw[s1];rfl
   rw[this]
   show ((rd (tE (nD (S n g.L)) (.int 0)):DM D)>>=fY) M3=_
   rw[gt];rfl
  ·have hpos:0<S n g.L:=by simpa using hb
   obtain⟨x0,x0n,x0p⟩:=G8 hpos
   obtain⟨y0,y0n,y0p⟩:=G8 (n:=n) (f:=g.W) (by rw[←jn.eq];exact hpos)
   have hQ:∀δ' M' m',m'<S n g.L->G5 M n p M.length a b m' δ' M'->(fun (r:Fl) (M':Mo)=>∃δ' m',r=.nx δ'∧m'<S n g.L∧G5 M n p M.length a b m' δ' M') (.nx δ') M':=fun δ' M' m' h1 h2=>⟨δ',m',rfl,h1,h2⟩
   revert hQ
   generalize (fun (r:Fl) (M':Mo)=>∃δ' m',r=.nx δ'∧m'<S n g.L∧G5 M n p M.length a b m' δ' M')=Q
   intro hQ
   clear hK K
   have rd1:∀(q:Nat) (L:Nat->Nat) (M4:Mo),M4[q]?=some (.lst (_root_.K.row n L))->∀j,j<n->Rn (rd (dg (.ref q) (nD j))>>=fun a=>rd (tE a (.int 0))>>=fY) M4 fun b M'=>b=decide (0<L j)∧M'=M4:=fun q L M4 h j hj=>by
    refine Rn.bindRd _ (jl h hj) ?_
    have gt:(rd (tE (nD (L j)) (.int 0)):DM D)=pure (.bl (decide (0<L j))):=tZ (L j) 0
    simp[gt]
    exact Rn.pure ⟨rfl,rfl⟩
   refine aF fun K hK=>?_
   simp
   refine Rn.bindRd _ (zE jn.jh.left) ?_
   have c1:aX 1 [3] [some (D.ref p),some (nT a),some (nT b),some (D.ref M.length),some (D.ref (M.length+1)),some (refs (M.length+2) n),z6,z7,z8,z9,z10]=[none,some (.ref M.length)]:=rfl
   simp[gj (n:=n) (by omega),lA,c1]
   refine Rn.bind (cU (sS (rest:=[some (.ref M.length)]) (p:=fun x=>decide (0<g.L x)) (by omega) (fun j hj=>by simpa using rd1 _ _ _ jn.jh.left j hj) (fun j hj=>by simp))) fun p1 M4 ⟨eM,ep⟩=>?_
   subst eM
   rw[ep,hK];clear hK K
   refine aF fun K hK=>?_
   simp
   refine Rn.bindRd _ (zE jn.jh.want) ?_
   have c2:∀d,aX 1 [4] [some (D.ref p),some (nT a),some (nT b),some (D.ref M.length),some (D.ref (M.length+1)),some (refs (M.length+2) n),some d,z7,z8,z9,z10]=[none,some (.ref (M.length+1))]:=fun _=>rfl
   simp[gj (n:=n) (by omega),lA,c2]
   refine Rn.bind (cU (sS (rest:=[some (.ref (M.length+1))]) (p:=fun x=>decide (0<g.W x)) (by omega) (fun j hj=>by simpa using rd1 _ _ _ jn.jh.want j hj) (fun j hj=>by simp))) fun p2 M5 ⟨eM,ep2⟩=>?_
   subst eM
   rw[ep2,hK];clear hK K
   have fl1:=List.length_filter_le (fun x=>decide (0<g.L x)) (List.range n)
   have fl2:=List.length_filter_le (fun x=>decide (0<g.W x)) (List.range n)
   rw[List.length_range] at fl1 fl2
   have ml1:x0∈(List.range n).filter fun x=>decide (0<g.L x):=List.mem_filter.mpr ⟨List.mem_range.mpr x0n,by simpa using x0p⟩
   have ml2:y0∈(List.range n).filter fun x=>decide (0<g.W x):=List.mem_filter.mpr ⟨List.mem_range.mpr y0n,by simpa using y0p⟩
   have mm1:∀i,i∈(List.range n).filter (fun x=>decide (0<g.L x))->i<n∧0<g.L i:=fun i hi=>by
    obtain⟨h1,h2⟩:=List.mem_filter.mp hi
    exact⟨List.mem_range.mp h1,by simpa using h2⟩
   have mm2:∀i,i∈(List.range n).filter (fun x=>decide (0<g.W x))->i<n∧0<g.W i:=fun i hi=>by
    obtain⟨h1,h2⟩:=List.mem_filter.mp hi
    exact⟨List.mem_range.mp h1,by simpa using h2⟩
   revert fl1 fl2 ml1 ml2 mm1 mm2
   generalize (List.range n).filter (fun x=>decide (0<g.L x))=l1
   generalize (List.range n).filter (fun x=>decide (0<g.W x))=l2
   intro fl1 fl2 ml1 ml2 mm1 mm2
   have ln1:(rd (cz [.lst (l1.map nD)]):DM D)=pure (nD l1.length):=by simp[nD]
   have ln2:(rd (cz [.lst (l2.map nD)]):DM D)=pure (nD l2.length):=by simp[nD]
   refine aF fun K hK=>?_
   simp[ln1,ln2]
   refine Rn.bind (b7 jn.jh.pot (List.length_pos_of_mem ml1) (by omega)) fun d6 M6 ⟨u,g6,e6,hp6,s6⟩=>?_
   subst e6
   simp only[ud g6,aq]
   refine Rn.bind (b7 hp6 (List.length_pos_of_mem ml2) (by omega)) fun d7 M7 ⟨v,g7,e7,hp7,s7⟩=>?_
   subst e7
   simp only[ud g7,aq]
   obtain⟨xn,xp⟩:=mm1 _ (tu g6)
   obtain⟨yn,yp⟩:=mm2 _ (tu g7)
   generalize ga l1 u=x at xn xp
   generalize ga l2 v=y at yn yp
   have jn7:JH M n p g M7:=⟨jn.jh.sb.trans (s6.trans s7),hp7,(s6.trans s7).at (by omega) jn.jh.left,(s6.trans s7).at (by omega) jn.jh.want,fun i hi=>(s6.trans s7).at (by omega) (jn.jh.row i hi)⟩
   rw[hK];clear hK K
   refine aF fun K hK=>?_
   simp
   refine Rn.bindRd _ (jl jn7.left xn) ?_
   refine Rn.bindRd _ (jl jn7.want yn) ?_
   simp only[yx,aq]
   rw[hK];clear hK K
   refine aF fun K hK=>?_
   suffices H:∀(k:Nat) (M8:Mo),0<k->k≤g.L x->k≤g.W y->JH M n p g M8->Rn (K (.nx [some (.ref p),some (nT a),some (nT b),some (.ref M.length),some (.ref (M.length+1)),some (refs (M.length+2) n),some (.lst (l1.map nD)),some (.lst (l2.map nD)),some (nD x),some (nD y),some (nD k)])) M8 Q by
    have d3:=b7 (m:=3) jn7.pot (by decide) (by decide)
    simp
    refine Rn.bind d3 fun d8 M8 ⟨t,g8,e8,hp8,s8⟩=>?_
    subst e8
    have jn8:JH M n p g M8:=⟨jn7.sb.trans s8,hp8,s8.at (by omega) jn7.left,s8.at (by omega) jn7.want,fun i hi=>s8.at (by omega) (jn7.row i hi)⟩
    have e0:(rd (fO (nD t) (.int 0)):DM D)=pure (.bl (decide (t=0))):=pB t 0
    simp only[e0,aq,gU]
    by_cases ht:t=0
    ·have dv:(rd (sY (nD (min (g.L x) (g.W y))) (.int 2)):DM D)=pure (nD (min (g.L x) (g.W y) / 2)):=yu (b:=2) (by decide) (by decide)
     have ad:∀z:Nat,(rd (bQ (.int 1) (nD z)):DM D)=pure (nD (z+1)):=fun z=>yt z
     simp[ht,dv,ad]
     exact H _ _ (by omega) (by omega) (by omega) jn8
    ·simp[ht]
     exact H _ _ (by omega) (by omega) (by omega) jn8
   intro k M8 k0 k1 k2 jn8
   rw[hK];clear hK K
   refine aF fun K hK=>?_
   have ms:∀u w:Nat,qP [nD u,nD w]=pure (.tup [nD u,nD w]):=fun u w=>gh (by simp)
   simp
   refine Rn.bindRd _ (jl jn8.left xn) ?_
   simp only[mK k1,aq]
   refine Rn.bindRd _ (jl jn8.want yn) ?_
   simp only[mK k2,aq,ms]
   simp
   obtain⟨M9,e9,jn9⟩:=jn8.setL (v:=g.L x-k) hpl xn
   refine Rn.run e9 ?_
   obtain⟨M10,e10,jn10⟩:=jn9.setW (v:=g.W y-k) hpl yn
   refine Rn.run e10 ?_
   rw[hK];clear hK K
   simp
   have ir:=lX (b:=M.length+2) (n:=n) (x:=x) xn
   simp only[ir,aq]
   refine Rn.bindRd _ (jl (jn10.row x xn) yn) ?_
   simp only[iz,aq]
   obtain⟨M11,e11,jn11⟩:=jn10.setA (v:=g.A x y+k) hpl xn yn
   refine Rn.run e11 ?_
   have sL:S n (up g.L x (g.L x-k))+k=S n g.L:=by
    have:=mY (f:=g.L) (v:=g.L x-k) xn
    omega
   have sW:S n (up g.W y (g.W y-k))+k=S n g.W:=by
    have:=mY (f:=g.W) (v:=g.W y-k) yn
    omega
   have je:=jn.eq
   exact Rn.pure (hQ _ _ (S n (up g.L x (g.L x-k))) (by omega) ⟨_,_,_,_,_,stepK g x y k,rfl,⟨jn11,KY jn.ok xn yn k1 k2,by show S n (up g.L x (g.L x-k))=S n (up g.W y (g.W y-k));omega⟩,rfl⟩)
 ·obtain ⟨δ',rfl,z6,z7,z8,z9,z10,g,rfl,jn,z⟩:=hI
  rw[hK];clear hK K
  have al:(rd (oN (refs (M.length+2) n)):DM Itn)=pure (.fix ((List.range n).map fun x=>D.ref (M.length+2+x))):=rfl
  have c1:aX 1 [] [some (D.ref p),some (nT a),some (nT b),some (D.ref M.length),some (D.ref (M.length+1)),some (refs (M.length+2) n),z6,z7,z8,z9,z10]=[none]:=rfl
  simp[al,lA,c1]
  refine Rn.bind (cU (sU (rest:=[]) (hd:=fun x=>D.ref (M.length+2+x)) (R:=fun x=>.tup (_root_.K.row n (g.A x))) (by omega) (fun j hj=>?_))) fun q M4 ⟨e4,q4⟩=>?_
  ·simp
   exact Rn.rd (by show (aO (.ref (M.length+2+j)) M3).map _=_;simp only[aO,jn.jh.row j hj];rfl) ⟨rfl,rfl⟩
  ·subst e4
   refine Rn.pure ⟨_,rfl,g.A,by rw[q4];rfl,⟨fun x hx=>?_,fun y hy=>?_⟩,jn.jh.pot,jn.jh.sb⟩
   ·have:=jn.ok.row x hx
    have:=za z hx
    omega
   ·have:=jn.ok.col y hy
    have:=za (n:=n) (f:=g.W) (by rw[←jn.eq];exact z) hy
    omega
theorem MN:∀ds M r,yZ ds M=some r->∃n,aJ 3 11 (eE n gY) ds M=some r:=fun ds M r h=>⟨_,h⟩
end K
set_option exponentiation.threshold 2000
namespace K
open PySem L2 L3 N10
mutual
noncomputable def wt:D->Nat
 |.int _=>1921
 |.str x=>(reprText x).length
 |.tup l=>bu l+3
 |.lst l=>bu l+3
 |.dic _ _=>8000
 |_=>5
noncomputable def bu:List D->Nat
 |[]=>0
 |d::l=>wt d+2+bu l
end
inductive Gd(B:Nat):Nat->D->Prop
 |non {n:Nat}:Gd B n .non
 |bl {n:Nat} (b:Bool):Gd B n (.bl b)
 |int {n:Nat}{i:Int}:i.natAbs≤B->Gd B n (.int i)
 |str {n:Nat}{x:Str}:Gd B n (.str x)
 |d0 {n:Nat}:Gd B n (.dic [] [])
 |d1 {n:Nat}:Gd B n (.dic [.inl 0] [.int 1])
 |tup {n:Nat}{l:List D}:(∀x∈l,Gd B n x)->Gd B (n+1) (.tup l)
 |lst {n:Nat}{l:List D}:(∀x∈l,Gd B n x)->Gd B (n+1) (.lst l)
theorem Gd.mono {B B':Nat} (hB:B≤B'):∀ {n n':Nat}{d:D},Gd B n d->n≤n'->Gd B' n' d
 |_,_,_,.non,_=>.non
 |_,_,_,.bl b,_=>.bl b
 |_,_,_,.int h,_=>.int (Nat.le_trans h hB)
 |_,_,_,.str,_=>.str
 |_,_,_,.d0,_=>.d0
 |_,_,_,.d1,_=>.d1
 |_,n',_,.tup h,hn=>by
   obtain⟨m,rfl⟩:∃m,n'=m+1:=⟨n' - 1,by omega⟩
   exact .tup fun x hx=>(h x hx).mono hB (by omega)
 |_,n',_,.lst h,hn=>by
   obtain⟨m,rfl⟩:∃m,n'=m+1:=⟨n' - 1,by omega⟩
   exact .lst fun x hx=>(h x hx).mono hB (by omega)
theorem yr {k:Nat}:∀ {l:List D},(∀ x∈l,∃ p,dq x=some p∧p.showable=true∧p.depth≤k∧cM p=wt x)->∃ ps,cY l=some ps∧PyData.showableAll ps=true∧PyData.depthAll ps≤k∧jY ps=bu l
 |[],_=>⟨[],by simp only[cY],by simp only[PyData.showableAll],by simp only[PyData.depthAll];omega,by simp only[jY,bu]⟩
 |d::l,h=>by
   obtain⟨p,a,b,c,e⟩:=h d (.head _)
   obtain⟨ps,a',b',c',e'⟩:=yr fun x hx=>h x (.tail _ hx)
   exact⟨p::ps,by simp only[cY,a,a'],by simp only[PyData.showableAll,b,b',Bool.and_self],by simp only[PyData.depthAll];omega,by simp only[jY,bu,e,e']⟩
theorem Gd.py {B:Nat} (hB:B<2 ^ 1000):∀ {n:Nat}{d:D},Gd B n d->∃ p,dq d=some p∧p.showable=true∧p.depth≤n + 3∧cM p=wt d
 |_,_,.non=>⟨_,rfl,rfl,by simp only[PyData.depth];omega,by simp only[cM,wt]⟩
 |_,_,.bl b=>⟨_,rfl,rfl,by simp only[PyData.depth];omega,by simp only[cM,wt]⟩
 |_,_,.int h=>⟨_,rfl,by simpa[PyData.showableAll] using DY (l:=[_]) (fun i hi=>by rw[List.mem_singleton.mp hi];exact Nat.lt_of_le_of_lt h hB),by simp only[PyData.depth];omega,by simp only[cM,wt]⟩
 |_,_,.str=>⟨_,rfl,by simp only[PyData.showable],by simp only[PyData.depth];omega,by simp only[cM,wt]⟩
 |_,_,.d0=>⟨_,rfl,by simp[PyData.showable,PyData.showableKv],by simp[PyData.depth,PyData.depthKv],by simp only[cM,wt]⟩
 |_,_,.d1=>⟨_,rfl,by simp only[PyData.showable,PyData.showableKv];decide +kernel,by simp[PyData.depth,PyData.depthKv],by simp only[cM,wt]⟩
 |_,_,.tup h=>by
   obtain⟨ps,a,b,c,e⟩:=yr fun x hx=>(h x hx).py hB
   exact⟨.tuple ps,by simp only[dq,a,Option.map_some],by simpa only[PyData.showable] using b,by simp only[PyData.depth];omega,by simp only[cM,wt,e]⟩
 |_,_,.lst h=>by
   obtain⟨ps,a,b,c,e⟩:=yr fun x hx=>(h x hx).py hB
   exact⟨.list ps,by simp only[dq,a,Option.map_some],by simpa only[PyData.showable] using b,by simp only[PyData.depth];omega,by simp only[cM,wt,e]⟩
mutual
theorem Ec:∀ {d:D}{p:PyData},toPy d=some p->dq d=some p
 |.non,_,h=>h
 |.bl _,_,h=>h
 |.int _,_,h=>h
 |.str _,_,h=>h
 |.tup l,_,h=>by
   simp only[toPy,Option.map_eq_some_iff] at h
   obtain⟨ps,a,rfl⟩:=h
   simp only[dq,uV a,Option.map_some]
 |.lst l,_,h=>by
   simp only[toPy,Option.map_eq_some_iff] at h
   obtain⟨ps,a,rfl⟩:=h
   simp only[dq,uV a,Option.map_some]
 |.dic _ _,_,h=>by simp[toPy] at h
 |.obj _ _ _,_,h=>by simp[toPy] at h
 |.scr _,_,h=>by simp[toPy] at h
 |.ref _,_,h=>by simp[toPy] at h
 |.cls _,_,h=>by simp[toPy] at h
 |.ty _,_,h=>by simp[toPy] at h
 |.exn _,_,h=>by simp[toPy] at h
theorem uV:∀ {l:List D}{ps:List PyData},dN l=some ps->cY l=some ps
 |[],_,h=>h
 | d::l,_,h=>by
   simp only[dN] at h
   split at h
   ·rename_i a b
    cases h
    simp only[cY,Ec a,uV b]
   ·cases h
end
theorem Gd.sh {B n:Nat}{d:D} (h:Gd B n d) (hB:B<2 ^ 1000) (hn:n≤50) (hw:wt d≤10000000):Pg d:=by
 obtain⟨p,a,b,c,e⟩:=h.py hB
 refine⟨p.shown,bY fun M=>?_⟩
 have h0:Bg d=some p:=by
  unfold Bg
  split
  ·rename_i q hq
   rw[←a,Ec hq]
  ·exact a
 simp only[wu,h0,Option.bind_some,b,Bool.true_and]
 rw[if_pos]
 rw[Bool.and_eq_true,decide_eq_true_eq,decide_eq_true_eq]
 exact⟨by omega,by show _≤2^24;omega⟩
theorem eQ:∀a b:List D,bu (a++b)=bu a+bu b
 |[],b=>by simp[bu]
 |x::a,b=>by simp only[List.cons_append,bu,eQ a b];omega
theorem Ab:∀a:List D,bu a.reverse=bu a
 |[]=>rfl
 |x::a=>by simp only[List.reverse_cons,eQ,Ab a,bu];omega
theorem qw(a:List D)(i:Nat):bu (a.take i)+bu (a.drop i)=bu a:=by rw[←eQ,List.take_append_drop]
theorem eU:∀a:List D,2*a.length≤bu a
 |[]=>by simp[bu]
 |x::a=>by have:=eU a;simp only[List.length_cons,bu];omega
theorem gQ:∀{a:List D}{x:D},x∈a->wt x+2≤bu a
 |x::a,_,.head _=>by simp only[bu];omega
 |x::a,_,.tail _ h=>by have:=gQ h;simp only[bu];omega
theorem uL{L:List D}{t:Nat}(h:t<L.length):∃x,x∈L∧(rd (dg (.lst L) (nD t)):DM D)=pure x:=⟨L[t],List.getElem_mem h,uc (List.getElem?_eq_getElem h)⟩
noncomputable def iH:D->Bool
 |.tup _=>true
 |_=>false
noncomputable def isNm:D->Bool
 |.int _=>true
 |.bl _=>true
 |_=>false
theorem Gd.isT{B n:Nat}{d:D}(h:Gd B n d):(rd (f9 [d,.ty "tuple"]):DM D)=pure (.bl (iH d)):=by
 cases h<;>first | exact cC (t := "NoneType") (fun _=>rfl) (by decide) | exact cC (t := "bool") (fun _=>rfl) (by decide) | exact cC (t := "int") (fun _=>rfl) (by decide) | exact cC (t := "str") (fun _=>rfl) (by decide) | exact cC (t := "dict") (fun _=>rfl) (by decide) | exact cC (t := "tuple") (fun _=>rfl) (by decide) | exact cC (t := "list") (fun _=>rfl) (by decide)
theorem Gd.isN{B n:Nat}{d:D}(h:Gd B n d):(rd (f9 [d,.ty "int"]):DM D)=pure (.bl (isNm d)):=by
 cases h<;>first | exact cC (t := "NoneType") (fun _=>rfl) (by decide) | exact cC (t := "bool") (fun _=>rfl) (by decide) | exact cC (t := "int") (fun _=>rfl) (by decide) | exact cC (t := "str") (fun _=>rfl) (by decide) | exact cC (t := "dict") (fun _=>rfl) (by decide) | exact cC (t := "tuple") (fun _=>rfl) (by decide) | exact cC (t := "list") (fun _=>rfl) (by decide)
theorem GF(l:List D)(i:Nat):(rd (jQ none (some (i:Int)) (.tup l)):DM D)=pure (.tup (l.take i)):=bY fun M=>by
 simp only[jQ,cutD,HT.sIx_none,HT.sIx_nat,List.drop_zero,Nat.sub_zero]
 exact congrArg (fun z=>some (D.tup z)) (List.take_eq_take_iff.mpr (by omega))
theorem yE(l:List D)(i:Nat):(rd (jQ (some (i:Int)) none (.tup l)):DM D)=pure (.tup (l.drop i)):=bY fun M=>by
 simp only[jQ,cutD,HT.sIx_none,HT.sIx_nat]
 by_cases h:i≤l.length
 ·rw[Nat.min_eq_left h,List.take_of_length_le (by simp)]
 ·rw[Nat.min_eq_right (by omega),List.drop_of_length_le (Nat.le_refl _),List.drop_of_length_le (by omega),List.take_nil]
theorem N6{l:List D}{i:Nat}(h:i<l.length):(rd (jQ (some (i:Int)) (some ((i+1:Nat):Int)) (.tup l)):DM D)=pure (.tup [l[i]]):=bY fun M=>by
 simp only[jQ,cutD,HT.sIx_nat]
 rw[Nat.min_eq_left (by omega),Nat.min_eq_left (by omega),List.drop_eq_getElem_cons h,Nat.add_sub_cancel_left];rfl
theorem dG{x y:List D}(h:x.length+y.length≤10000000):(rd (bQ (.tup x) (.tup y)):DM D)=pure (.tup (x++y)):=bY fun M=>by
 have:dH (x++y)=true:=by unfold dH;exact decide_eq_true (by show _≤2^24;rw[List.length_append];omega)
 simp[bQ,Mh,this]
noncomputable def nj:D->Bool
 |.int _=>true
 |_=>false
theorem Gd.isB{B n:Nat}{d:D}(h:Gd B n d)(hN:isNm d=true):(rd (f9 [d,.ty "bool"]):DM D)=pure (.bl (!nj d)):=by
 cases h with
 |bl b=>exact cC (t := "bool") (fun _=>rfl) (by decide)
 |int _=>exact cC (t := "int") (fun _=>rfl) (by decide)
 |_=>cases hN
theorem Gd.iw{B n:Nat}{d:D}(h:Gd B n d):qD [d]=pure (.bl (nj d)):=by
 by_cases hN:isNm d=true
 ·simp[qD,iV,h.isN,hN,h.isB hN]
 ·have:nj d=false:=by cases d<;>first | rfl | (exact absurd rfl hN)
  rw[Bool.not_eq_true] at hN
  simp[qD,iV,h.isN,hN,this]
noncomputable def rZ:=aJ 1 1 jt
theorem Gd.lw{B n:Nat}{d:D}(h:Gd B n d):rZ [d]=pure (.bl (nj d)):=by
 by_cases hN:isNm d=true
 ·simp[rZ,jt,h.isN,hN,h.isB hN]
 ·have:nj d=false:=by cases d<;>first | rfl | (exact absurd rfl hN)
  rw[Bool.not_eq_true] at hN
  simp[rZ,jt,h.isN,hN,this]
theorem Hb{fe:ao->DM D}{x:Option D}{rest:ao}{l:List D}(e:D->D)(hl:l.length≤1000000)(h:∀d∈l,fe (some d::rest)=pure (e d)) :
  cJ (bh (gN 0) (fun _=>pure true) (aW fe) l (x::rest) [])=pure (fG x l::rest,l.map e):=by
 have:=iY (x:=x) (rest:=rest) (as:=l) (fe:=fe) id e hl h
 simpa using this
theorem Dr(l:List D)(p:D->Bool):(rd (mZ [.lst (l.map fun d=>.bl (p d))]):DM D)=pure (.bl (l.all p)):=by
 have:=pA (l.map p)
 rw[List.map_map] at this
 simpa[Function.comp_def] using this
noncomputable def mR:D->Bool
 |.int i=>decide (0≤i)
 |_=>false
noncomputable def fB(n:Nat):D->Bool
 |.tup l=>decide (l.length=n)&&l.all mR
 |_=>false
noncomputable def jJ(n:Nat):D->Bool
 |.tup l=>decide (l.length=n)&&l.all (fB n)
 |_=>false
theorem qQ:∀ {l:List D},l.all mR=true->∃ ns:List Nat,l=ns.map nD
 |[],_=>⟨[],rfl⟩
 | d::l,h=>by
   rw[List.all_cons,Bool.and_eq_true] at h
   obtain⟨ns,rfl⟩:=qQ h.2
   have h1:=h.1
   cases d with
   |int i=>
     simp only[mR,decide_eq_true_eq] at h1
     refine⟨i.toNat::ns,?_⟩
     have:nD i.toNat=.int i:=by unfold nD;congr 1;omega
     simp[this]
   |_=>cases h1
theorem N5 {n:Nat}{d:D} (h:fB n d=true):∃ ns:List Nat,d=nT ns∧ns.length=n:=by
 cases d with
 |tup l=>
   simp only[fB,Bool.and_eq_true,decide_eq_true_eq] at h
   obtain⟨ns,rfl⟩:=qQ h.2
   exact⟨ns,rfl,by rw[←h.1,List.length_map]⟩
 |_=>cases h
theorem rows_of {n:Nat}:∀ {l:List D},l.all (fB n)=true->∃ R:List (List Nat),l=R.map nT∧∀ r∈R,r.length=n
 |[],_=>⟨[],rfl,fun _ h=>by cases h⟩
 |d::l,h=>by
   rw[List.all_cons,Bool.and_eq_true] at h
   obtain⟨R,rfl,hR⟩:=rows_of h.2
   obtain⟨ns,rfl,hn⟩:=N5 h.1
   refine⟨ns::R,rfl,fun r hr=>?_⟩
   rcases List.mem_cons.mp hr with rfl | hr
   ·exact hn
   ·exact hR r hr
theorem NZ {n:Nat}{d:D} (h:jJ n d=true):∃ R:List (List Nat),d=nM R∧R.length=n∧∀ r∈R,r.length=n:=by
 cases d with
 |tup l=>
   simp only[jJ,Bool.and_eq_true,decide_eq_true_eq] at h
   obtain⟨R,rfl,hR⟩:=rows_of h.2
   exact⟨R,rfl,by rw[←h.1,List.length_map],hR⟩
 |_=>cases h
theorem Gd.wg{B n:Nat}{d:D}(h:Gd B n d):((qD [d]>>=fun x=>fY x>>=fun k=>if k=true then rd (xG d (.int 0)) else pure (.bl false)):DM D)=pure (.bl (mR d)):=by
 rw[h.iw,aq,gU,aq]
 cases d with
 |int i=>exact Lj i 0
 |_=>rfl
theorem Gd.aw {B n:Nat}{d:D} (h:Gd B n d) (hw:wt d≤1000000) (m:Nat):oK [d,nD m]=pure (.bl (fB m d)):=by
 have isT:=h.isT
 by_cases hT:iH d=false
 ·have:fB m d=false:=by cases d<;>first | rfl | cases hT
  rw[this]
  simp[oK,dB,isT,hT]
 cases h with
 | @tup n l hl=>
   have hlen:=eU l
   have hwl:bu l+3≤1000000:=by simpa only[wt] using hw
   have ln:(rd (fU (.int (l.length:Int)) (nD m)):DM D)=pure (.bl (!decide (l.length=m))):=fu l.length m
   by_cases hm:¬ l.length=m
   ·have lf:(rd (fU (.int (l.length:Int)) (nD m)):DM D)=pure (.bl true):=by rw[ln,decide_eq_false hm];rfl
    simp[oK,dB,isT,hT,lf,fB,hm]
   have hm:l.length=m:=by omega
   have lt:(rd (fU (.int (l.length:Int)) (nD m)):DM D)=pure (.bl false):=by rw[ln,decide_eq_true hm];rfl
   have c1:=Hb (x:=none) (rest:=[]) (l:=l) (fe:=fun δ=>opt δ[0]?.join>>=fun a=>qD [a]>>=fun a_1=>fY a_1>>=fun k=>if k=true then opt δ[0]?.join>>=fun a=>rd (xG a (.int 0)) else pure (.bl false)) (fun d=>.bl (mR d)) (by omega) (fun d hd=>by
    have:=(hl d hd).wg
    simp only[List.getElem?_cons_zero,Option.join_some,dD,aq]
    exact this)
   have e:fB m (.tup l)=l.all mR:=by simp only[fB,decide_eq_true hm,Bool.true_and]
   rw[e]
   simp[oK,dB,isT,hT,lt,aX,cO]
   rw[c1,aq,Dr]
 |_=>exact absurd rfl hT
theorem Gd.ar {B n:Nat}{d:D} (h:Gd B n d) (hw:wt d≤1000000) (m:Nat):oA [d,nD m]=pure (.bl (jJ m d)):=by
 have isT:=h.isT
 by_cases hT:iH d=false
 ·have:jJ m d=false:=by cases d<;>first | rfl | cases hT
  rw[this]
  simp[oA,fZ,isT,hT]
 cases h with
 | @tup n l hl=>
   have hlen:=eU l
   have hwl:bu l+3≤1000000:=by simpa only[wt] using hw
   have ln:(rd (fU (.int (l.length:Int)) (nD m)):DM D)=pure (.bl (!decide (l.length=m))):=fu l.length m
   by_cases hm:¬ l.length=m
   ·have lf:(rd (fU (.int (l.length:Int)) (nD m)):DM D)=pure (.bl true):=by rw[ln,decide_eq_false hm];rfl
    simp[oA,fZ,isT,hT,lf,jJ,hm]
   have hm:l.length=m:=by omega
   have lt:(rd (fU (.int (l.length:Int)) (nD m)):DM D)=pure (.bl false):=by rw[ln,decide_eq_true hm];rfl
   have c1:=Hb (x:=none) (rest:=[some (nD m)]) (l:=l) (fe:=fun δ=>opt δ[0]?.join>>=fun a=>opt δ[1]?.join>>=fun b=>oK [a,b]) (fun d=>.bl (fB m d)) (by omega) (fun d hd=>by
    simp only[bx]
    exact (hl d hd).aw (by have:=gQ hd;omega) m)
   have e:jJ m (.tup l)=l.all (fB m):=by simp only[jJ,decide_eq_true hm,Bool.true_and]
   rw[e]
   simp[oA,fZ,isT,hT,lt,aX,cO]
   rw[c1,aq,Dr]
 |_=>exact absurd rfl hT
noncomputable def cols(n:Nat)(R:List (List Nat)):List Nat:=(List.range n).map fun y=>(R.map fun r=>ga r y).sum
noncomputable def jB(f s:List Nat)(R:List (List Nat)):Bool:=decide (R.map List.sum=f)&&decide (cols f.length R=s)
theorem vp{R:List (List Nat)}{n y:Nat}(hR:∀r∈R,r.length=n)(hl:R.length≤1000000)(hy:y<n):cJ (bh (gN 0) (fun _=>pure true) (aW fun δ=>opt δ[0]?.join>>=fun a=>opt δ[1]?.join>>=fun b=>rd (dg a b)) (R.map nT) [none,some (nD y)] [])=pure ([fG none (R.map nT),some (nD y)],(R.map fun r=>ga r y).map nD):=by
 have:=iY (x:=none) (rest:=[some (nD y)]) (as:=R) (fe:=fun δ=>opt δ[0]?.join>>=fun a=>opt δ[1]?.join>>=fun b=>rd (dg a b)) nT (fun r=>nD (ga r y)) hl (fun r hr=>by
  simp only[bx]
  exact Ny (by rw[hR r hr];exact hy))
 rw[this,List.map_map];rfl
theorem pN{R:List (List Nat)}(hl:R.length≤1000000):cJ (bh (gN 0) (fun _=>pure true) (aW fun δ=>opt δ[0]?.join>>=fun a=>rd (lQ [a])) (R.map nT) [none] [])=pure ([fG none (R.map nT)],(R.map List.sum).map nD):=by
 have:=iY (x:=none) (rest:=[]) (as:=R) (fe:=fun δ=>opt δ[0]?.join>>=fun a=>rd (lQ [a])) nT (fun r=>nD r.sum) hl (fun r hr=>by
  simp only[List.getElem?_cons_zero,Option.join_some,dD,aq]
  exact Ls r)
 rw[this,List.map_map];rfl
theorem MP{f s:List Nat}{B n:Nat}{d:D}(h:Gd B n d)(hw:wt d≤1000000)(hf:f.length≤1000)(hr:jJ f.length d=false):vd [nT f,nT s,d]=pure (.bl false):=by
 have ar:=h.ar hw f.length
 rw[hr] at ar
 simp[vd,ur,pC,ar]
theorem MT{f s:List Nat}{R:List (List Nat)}(hf:f.length≤1000)(hl:R.length=f.length)(hR:∀r∈R,r.length=f.length)(ha:oA [nM R,nD f.length]=pure (.bl true)):vd [nT f,nT s,nM R]=pure (.bl (jB f s R)):=by
 have rg:pD [nD f.length]=some (.fix ((List.range f.length).map nD)):=gj (n:=f.length) (by omega)
 have at':oO (nM R)=some (.fix (R.map nT)):=rfl
 have cc:=iY (x:=none) (rest:=[some (nM R)]) (as:=List.range f.length) (fe:=fun δ=>opt δ[1]?.join>>=fun a=>opt (oO a)>>=fun a=>cJ (cB (gN 0) (fun _=>pure true) (aW fun δ=>opt δ[0]?.join>>=fun a=>opt δ[1]?.join>>=fun b=>rd (dg a b)) a [none,δ[0]?.getD none] [])>>=fun a=>pure (.tup a.snd)) nD (fun y=>nT (R.map fun r=>ga r y)) (by simp;omega) (fun y hy=>by
  simp only[bx,at',Option.getD_some]
  show (cJ (bh _ _ _ _ _ _)>>=_)=_
  rw[vp hR (by omega) (List.mem_range.mp hy),aq];rfl)
 have ls:∀l:List Nat,(rd (fun M=>(jb [nT l] M).map D.lst):DM D)=pure (.lst (l.map nD)):=fun l=>bY fun M=>rfl
 have e1:=yw (R.map List.sum) f
 have al:(rd (oN (.lst ((List.range f.length).map fun y=>nT (R.map fun r=>ga r y)))):DM Itn)=pure (.fix ((List.range f.length).map fun y=>nT (R.map fun r=>ga r y))):=rfl
 simp[vd,ur,pC,ha,rg,aX,cO]
 rw[cc,aq]
 have s1:=pN (R:=R) (by omega)
 have e2:=yw (cols f.length R) s
 have s2':cJ (bh (gN 0) (fun _=>pure true) (aW fun δ=>opt δ[0]?.join>>=fun a=>rd (lQ [a])) ((List.range f.length).map fun y=>nT (R.map fun r=>ga r y)) [none] [])=pure ([fG none ((List.range f.length).map fun y=>nT (R.map fun r=>ga r y))],(cols f.length R).map nD):=by
  have q1:((List.range f.length).map fun y=>nT (R.map fun r=>ga r y))=((List.range f.length).map fun y=>R.map fun r=>ga r y).map nT:=by rw[List.map_map];rfl
  have q2:((List.range f.length).map fun y=>R.map fun r=>ga r y).map List.sum=cols f.length R:=by rw[List.map_map];rfl
  rw[q1,pN (by simp;omega),q2]
 simp only[at',dD,aq,lA,s1,ls,e1,gU,al,s2',e2]
 unfold jB
 by_cases hc:decide (R.map List.sum=f)=true
 ·rw[hc,if_pos rfl,Bool.true_and]
 ·rw[Bool.not_eq_true] at hc
  rw[hc,if_neg (by decide),Bool.false_and]
theorem DK(a b:List Nat):(rd (fU (.lst (a.map nD)) (.lst (b.map nD))):DM D)=pure (.bl (!decide (a=b))):=bY fun M=>by
 have e:∀l:List Nat,l.map nD=(l.map fun n:Nat=>(n:Int)).map D.int:=fun l=>by rw[List.map_map];rfl
 have d:=iZ (a.map fun n:Nat=>(n:Int))
 have q:=kh (a.map fun n:Nat=>(n:Int)) (b.map fun n:Nat=>(n:Int))
 have c:decide ((a.map fun n:Nat=>(n:Int))=(b.map fun n:Nat=>(n:Int)))=decide (a=b):=by
  rw[Bool.eq_iff_iff,decide_eq_true_eq,decide_eq_true_eq]
  exact m7
 rw[e a,e b]
 simp only[fU,L3.eqB,eqP,toPy,ji,Option.map_some,PyData.canLay0,lay_ints,PyData.depth,PyData.eqv]
 rw[q,c,if_pos (by rw[Bool.and_self,Bool.true_and];exact decide_eq_true (by omega))]
 rfl
theorem Il(k:Nat):(rd (fU (.lst (List.replicate k (.int 1))) (.lst [])):DM D)=pure (.bl (decide (k≠0))):=by
 have:=DK (List.replicate k 1) []
 rw[List.map_replicate] at this
 rw[show (D.int 1)=nD 1 from rfl]
 refine this.trans ?_
 congr 2
 rw[Bool.eq_iff_iff]
 simp
theorem xu {tg:D->ao->DM ao}{fb:ao->DM Fl} (I:Nat->ao->Mo->Prop) (P:D->Mo->Prop):∀ (ds:List D) (i:Nat) (δ:ao) (M:Mo),I i δ M->(∀ j d δ M,ds[j]?=some d->I (i + j) δ M->Rn (tg d δ >>= fb) M fun r M'=>(∃ δ',r=.nx δ'∧I (i + j + 1) δ' M')∨∃ d,r=.rt d∧P d M')->Rn (forL tg fb ds δ) M fun r M'=>(∃ δ',r=.nx δ'∧I (i + ds.length) δ' M')∨∃ d,r=.rt d∧P d M'
 |[],i,δ,M,h,_=>Rn.pure (.inl ⟨δ,rfl,h⟩)
 | d::ds,i,δ,M,h,st=>by
   have s:=st 0 d δ M rfl h
   have e:forL tg fb (d::ds) δ=(tg d δ>>=fb)>>=fun r=>match r with
    |.nx δ2=>forL tg fb ds δ2
    |.ct δ2=>forL tg fb ds δ2
    |.bk δ2=>Pure.pure (.nx δ2)
    |.rt d=>Pure.pure (.rt d):=by rw[aB];rfl
   rw[e]
   refine Rn.bind s fun r M' h=>?_
   rcases h with ⟨δ',e,h'⟩ | ⟨d',e,h'⟩
   ·subst e
    have ih:=xu I P ds (i+1) δ' M' h' (fun j d δ M hj hI=>by
     have:=st (j+1) d δ M (by simpa using hj) (by rw[show i+(j+1)=i+1+j by omega];exact hI)
     rw[show i+1+j+1=i+(j+1)+1 by omega];exact this)
    rw[show i+(d::ds).length=i+1+ds.length by simp;omega]
    exact ih
   ·subst e
    exact Rn.pure (.inr ⟨_,rfl,h'⟩)
noncomputable def Hw:D->List (List Nat)
 | .tup l=>l.map fun r=>match r with
   |.tup ws=>ws.map fun w=>match w with
     |.int i=>i.toNat
     |_=>0
   |_=>[]
 |_=>[]
theorem Gz(R:List (List Nat)):Hw (nM R)=R:=by
 show (R.map nT).map _=R
 rw[List.map_map]
 conv=>rhs;rw[←List.map_id R]
 refine List.map_congr_left fun r _=>?_
 show (r.map nD).map _=r
 rw[List.map_map]
 conv=>rhs;rw[←List.map_id r]
 exact List.map_congr_left fun n _=>by simp[nD]
noncomputable def jA(f s:List Nat)(d:D):Bool:=jJ f.length d&&jB f s (Hw d)
theorem vX{f s:List Nat}{d:D}(h:jJ f.length d=false):jA f s d=false:=by unfold jA;rw[h];rfl
theorem Hl{f s:List Nat}{R:List (List Nat)}(h:jJ f.length (nM R)=true):jA f s (nM R)=jB f s R:=by unfold jA;rw[h,Gz];rfl
theorem Kw {f s:List Nat}{B n:Nat}{d:D} (h:Gd B n d) (hw:wt d≤1000000) (hf:f.length≤1000):vd [nT f,nT s,d]=pure (.bl (jA f s d)):=by
 cases hr:jJ f.length d with
 |false=>rw[vX hr];exact MP h hw hf hr
 |true=>
   have ar:=h.ar hw f.length
   rw[hr] at ar
   obtain⟨R,rfl,h1,h2⟩:=NZ hr
   rw[Hl hr]
   exact MT hf h1 h2 ar
theorem JV{ft:ao->DM Bool}{fe:ao->DM D}{x:Option D}{rest:ao}{l:List D}(p:D->Bool)(e:D->D)(hl:l.length≤1000000)(h1:∀d∈l,ft (some d::rest)=pure (p d))(h2:∀d∈l,p d=true->fe (some d::rest)=pure (e d)) :
  cJ (bh (gN 0) ft (aW fe) l (x::rest) [])=pure (fG x l::rest,(l.filter p).map e):=by
 have:=aY (x:=x) (rest:=rest) (as:=l) (ft:=ft) (fe:=fe) id p e hl h1 h2
 simpa using this
theorem Gd.nwl {B n:Nat}{d:D} (h:Gd B n d):((rZ [d] >>= fun x=>rd (iR x) >>= fun k=>if (!k)=true then pure true else rd (Hn d (.int 0)) >>= fY):DM Bool)=pure (!mR d):=by
 rw[h.lw,aq,show (rd (iR (.bl (nj d))):DM Bool)=pure (nj d) from rfl,aq]
 cases d with
 |int i=>
   have e:(rd (Hn (.int i) (.int 0)):DM D)=pure (.bl (decide (i<0))):=rfl
   simp only[nj,Bool.not_true,Bool.false_eq_true,if_false,e,aq,gU,mR]
   congr 1
   rw[Bool.eq_iff_iff];simp
 |_=>rfl
noncomputable def Bx:=aJ 3 4 (iT rZ)
theorem Kd {a b:List Nat}{B k:Nat}{d:D} (l25:a.length≤25) (h:Gd B k d) (hw:wt d≤1000000):Bx [nT a,nT b,d]=pure (.bl (jA a b d)):=by
 have isT:=h.isT
 have t1:∀b:Bool,(rd (iR (.bl b)):DM Bool)=pure b:=fun _=>rfl
 have ab:∀b:Bool,(fY (.bl b):DM Bool)=pure b:=fun _=>rfl
 refine qj fun M=>?_
 unfold Bx iT eV;dsimp only
 refine Rn.call rfl ?_
 have st:bz 4 [nT a,nT b,d]=[some (nT a),some (nT b),some d,none]:=rfl
 rw[st]
 refine gB fun K hK hR=>?_
 simp only[bN,bx,aQ,aB,isT,t1]
 cases h with
 | @tup k l hg=>
   have hlen:=eU l
   have hwl:bu l+3≤1000000:=by simpa only[wt] using hw
   have ll:(rd (cz [.tup l]):DM D)=pure (nD l.length):=rfl
   simp only[iH,Bool.not_true,Bool.false_eq_true,if_false,ll,pC,aq,fu,ab]
   by_cases hm:l.length=a.length
   ·simp only [decide_eq_true hm,Bool.not_true,Bool.false_eq_true,if_false,aq]
    rw[hK];clear hK hR K
    have l0:kI []=pure (.lst []):=cH (by simp)
    refine gB fun K hK hR=>?_
    simp only[bN,bx,aQ,aB,show oO (.tup l)=some (.fix l) from rfl,fF]
    refine Rn.bind (xu (fun i δ M1=>(∃z,δ=[some (nT a),some (nT b),some (.tup l),z])∧M1=M∧(l.take i).all (fB a.length)=true) (fun r M'=>r=.bl false∧M'=M∧l.all (fB a.length)=false) l 0 _ _ ⟨⟨none,rfl⟩,rfl,by simp⟩ (fun j r δ M5 hj hI=>?_)) (fun rr M5 hI=>?_)
    ·obtain ⟨⟨z,rfl⟩,rfl,hall⟩:=hI
     obtain⟨hj',ej⟩:=List.getElem?_eq_some_iff.mp hj
     have hm':r∈l:=List.mem_of_getElem? hj
     have gr':=hg r hm'
     have wr:=gQ hm'
     have iu:=gr'.isT
     rw[Nat.zero_add] at hall ⊢
     clear hK hR K
     rw[iJ,aq]
     refine gB fun K hK hR=>?_
     have bad:fB a.length r=false->l.all (fB a.length)=false:=fun hb=>by
      rw[List.all_eq_false];exact⟨r,hm',by rw[hb];decide⟩
     have good:fB a.length r=true->(l.take (j+1)).all (fB a.length)=true:=fun hb=>by
      rw[List.take_succ_eq_append_getElem hj',List.all_append,hall,ej]
      simp[hb]
     simp only[bN,bx,aQ,aB,iu,t1]
     cases gr' with
     | @tup k' ws hgw=>
       have wl:=eU ws
       have wr:bu ws+3+2≤bu l:=by simpa only[wt] using wr
       have lw:(rd (cz [.tup ws]):DM D)=pure (nD ws.length):=rfl
       simp only[iH,Bool.not_true,Bool.false_eq_true,if_false,lw,pC,aq,fu,ab]
       by_cases hrl:ws.length=a.length
       ·simp only [decide_eq_true hrl,Bool.not_true,Bool.false_eq_true,if_false,aq]
        rw[hK];clear hK hR K
        have rb:fB a.length (.tup ws)=ws.all mR:=by simp only[fB];rw[decide_eq_true hrl,Bool.true_and]
        have ce:∀δ:ao,aX [Str.ofString "_law_many"].length [] δ=[none]:=fun _=>rfl
        simp only[bN,bx,aQ,aB,show oO (.tup ws)=some (.fix ws) from rfl,lA,ce,l0]
        rw[JV (fun d=>!mR d) (fun _=>.int 1) (by omega) (fun d hd=>by
         have:=(hgw d hd).nwl
         simp only[aQ,List.getElem?_cons_zero,Option.join_some,dD,aq,aB]
         exact this) (fun d hd _=>rfl)]
        simp only[aq,mJ,List.map_const',Il,ab]
        by_cases hA:ws.all mR=true
        ·have n0:(ws.filter fun d=>!mR d).length=0:=by
          rw[List.length_eq_zero_iff,List.filter_eq_nil_iff]
          intro x hx z
          rw[List.all_eq_true.mp hA x hx] at z;cases z
         simp only[n0,ne_eq,not_true_eq_false,decide_false,Bool.false_eq_true,if_false]
         exact Rn.pure (.inl ⟨_,rfl,⟨_,rfl⟩,rfl,good (by rw[rb,hA])⟩)
        ·have n0:¬ (ws.filter fun d=>!mR d).length=0:=fun z=>by
          rw[List.length_eq_zero_iff,List.filter_eq_nil_iff] at z
          exact hA (List.all_eq_true.mpr fun x hx=>by have:=z x hx;simpa using this)
         simp only[ne_eq,n0,not_false_eq_true,decide_true,if_true]
         exact Rn.pure (.inr ⟨_,rfl,rfl,rfl,bad (by rw[rb];simpa using hA)⟩)
       ·simp only[decide_eq_false hrl,Bool.not_false,if_true,aq]
        rw[hR]
        exact Rn.pure (.inr ⟨_,rfl,rfl,rfl,bad (by simp[fB,hrl])⟩)
     |_=>
       simp only[iH,Bool.not_false,if_true,aq]
       rw[hR]
       exact Rn.pure (.inr ⟨_,rfl,rfl,rfl,bad rfl⟩)
    ·have hrs:jJ a.length (.tup l)=l.all (fB a.length):=by simp only [jJ];rw [decide_eq_true hm,Bool.true_and]
     rcases hI with ⟨δ',rfl,⟨z,rfl⟩,rfl,hall⟩ | ⟨r,rfl,rfl,rfl,hbad⟩
     ·rw [Nat.zero_add,List.take_length] at hall
      obtain⟨R,hRl,hRn⟩:=rows_of hall
      rw[hK];clear hK hR K
      have hl1:R.length=a.length:=by rw[←hm,hRl,List.length_map]
      have et:D.tup l=nM R:=by rw[hRl];rfl
      rw[et] at hrs ⊢
      rw[hall] at hrs
      rw[Hl hrs]
      have at':oO (nM R)=some (.fix (R.map nT)):=rfl
      have ls:∀l:List Nat,(rd (fun M=>(jb [nT l] M).map D.lst):DM D)=pure (.lst (l.map nD)):=fun l=>bY fun M=>rfl
      have ce:∀δ:ao,aX [Str.ofString "_law_row_here"].length [] δ=[none]:=fun _=>rfl
      refine gB fun K hK hR=>?_
      simp only[bN,bx,aQ,aB,at',lA,ce]
      rw[pN (R:=R) (by omega)]
      simp only[aq,mJ,ls,DK,ab]
      by_cases hc:R.map List.sum=a
      ·simp only[decide_eq_true hc,Bool.not_true,Bool.false_eq_true,if_false,aq]
       rw[hK];clear hK hR K
       have cy:∀δ:ao,∀x,δ[2]?=some x->aX [Str.ofString "_law_y"].length [2] δ=[none,x]:=fun δ x hx=>by
        show [none]++[(δ[2]?).getD none]=_
        rw[hx];rfl
       simp only[bN,bx,aQ,aB,pC,gj (n:=a.length) (by omega),lA]
       rw[cy _ (some (nM R)) rfl]
       rw[iY nD (fun y=>nD (R.map fun r=>ga r y).sum) (by simp;omega) (fun y hy=>by
        have hy:=List.mem_range.mp hy
        have ce3:aX [Str.ofString "_law_row_here"].length [0] [some (nD y),some (nM R)]=[none,some (nD y)]:=rfl
        simp only[bx,at',lA,ce3]
        rw[vp hRn (by omega) hy]
        simp only[aq,mJ]
        exact Lr _)]
       have ec:(List.range a.length).map (fun y=>nD ((R.map fun r=>ga r y).sum))=(cols a.length R).map nD:=by unfold cols;rw[List.map_map];rfl
       simp only[aq,mJ,ec,ls,yw]
       refine Rn.pure ⟨_,rfl,?_,rfl⟩
       unfold jB
       rw[decide_eq_true hc,Bool.true_and]
      ·simp only[decide_eq_false hc,Bool.not_false,if_true,aq]
       rw[hR]
       have:jB a b R=false:=by unfold jB;rw[decide_eq_false hc];rfl
       rw[this]
       exact Rn.pure ⟨_,rfl,rfl,rfl⟩
     ·rw[hR,vX (by rw[hrs];exact hbad)]
      exact Rn.pure ⟨_,rfl,rfl,rfl⟩
   ·simp only[decide_eq_false hm,Bool.not_false,if_true,aq]
    rw[hR,vX (by simp[jJ,hm])]
    exact Rn.pure ⟨_,rfl,rfl,rfl⟩
 |_=>
   simp only[iH,Bool.not_false,if_true,aq]
   rw[hR,vX rfl]
   exact Rn.pure ⟨_,rfl,rfl,rfl⟩
noncomputable def iu(R:List (List Nat)):D->Bool
 |.tup l=>decide (l.length=(prs R.length).length)&&((prs R.length).zip l).all fun z=>jA (gr R z.1.1) (gr R z.1.2) z.2
 |_=>false
theorem o9{α:Type}(f:α->D):∀(l:List α) (m:List D),pairs (l.map f) m=(l.zip m).map fun z=>.tup [f z.1,z.2]
 |[],_=>by simp[pairs]
 |_::_,[]=>by simp[pairs]
 |a::l,b::m=>by simp[pairs,o9 f l m]
theorem JB {R:List (List Nat)}{W B k:Nat}{d:D} (h:WK R W) (hn:R.length≤6) (g:Gd B k d) (hw:wt d≤1000000):wD [nM R,d]=pure (.bl (iu R d)):=by
 have pl:=uI hn
 have isT:=g.isT
 have l2:(rd (cz [.lst ((prs R.length).map (lu R))]):DM D)=pure (nD (prs R.length).length):=by simp[nD]
 cases g with
 | @tup k l hg=>
   have hlen:=eU l
   have hwl:bu l+3≤1000000:=by simpa only[wt] using hw
   have ll:(rd (cz [.tup l]):DM D)=pure (nD l.length):=rfl
   have isT:(rd (f9 [.tup l,.ty "tuple"]):DM D)=pure (.bl true):=isT
   by_cases hm:l.length=(prs R.length).length
   ·simp[wD,eF,tU hn,isT,-uf,ll,l2,fu,hm,lA]
    have zz:uY [D.lst ((prs R.length).map (lu R)),.tup l]=some (.fix (((prs R.length).zip l).map fun z=>.tup [lu R z.1,z.2])):=by
     show some (Itn.fix (pairs _ _))=_
     rw[o9]
    have ce:aX 3 [] [some (nM R),some (.tup l),some (D.lst ((prs R.length).map (lu R)))]=[none,none,none]:=rfl
    simp only[zz,ce,dD,aq,lA]
    have zl:((prs R.length).zip l).length≤36:=by rw[List.length_zip];omega
    refine qj fun M=>?_
    refine Rn.bind (cU (cI (fun i δ (o:List D) M'=>(∃z y x,δ=[z,y,x])∧o=(((prs R.length).zip l).take i).map (fun z=>.bl (jA (gr R z.1.1) (gr R z.1.2) z.2))∧M'=M) _ 0 _ [] M ⟨⟨_,_,_,rfl⟩,rfl,rfl⟩ fun j d δ o M1 hj hI=>?_)) fun p M1 hI=>?_
    ·obtain⟨⟨z,y,x,rfl⟩,rfl,rfl⟩:=hI
     rw[Nat.zero_add]
     rw[List.getElem?_map] at hj
     obtain⟨q,hq,rfl⟩:=Option.map_eq_some_iff.mp hj
     have qm:=List.of_mem_zip (List.mem_of_getElem? hq)
     have hm1:=lZ qm.1
     have l1:(gr R q.1.1).length=R.length:=h.row _ (gr_mem (by omega))
     have wx:=gQ qm.2
     have jo:=Kw (f:=gr R q.1.1) (s:=gr R q.1.2) (hg _ qm.2) (by omega) (by omega)
     have hj':=(List.getElem?_eq_some_iff.mp hq).1
     have lt:(((prs R.length).zip l).take j).length<sizeLine:=by show _<2^24;rw[List.length_take];omega
     have tg:gT 2 (dC (gT 2 (dC (gN 1) (dC (gN 2) m9))) (dC (gN 0) m9)) (D.tup [lu R q.1,q.2]) [z,y,x]=pure [some q.2,some (nT (gr R q.1.1)),some (nT (gr R q.1.2))]:=rfl
     rw[tg,aq,aq,if_pos rfl]
     simp only[bx,aW,jo]
     rw[if_pos (by rw[List.length_map];exact lt)]
     exact Rn.pure ⟨⟨_,_,_,rfl⟩,by rw[List.take_add_one,hq];simp,rfl⟩
    ·obtain⟨_,e1,rfl⟩:=hI
     rw[e1,Nat.zero_add,List.length_map,List.take_length]
     have e:=pA (((prs R.length).zip l).map fun z=>jA (gr R z.1.1) (gr R z.1.2) z.2)
     rw[List.map_map] at e
     rw[show (rd (mZ [.lst (((prs R.length).zip l).map fun z=>D.bl (jA (gr R z.1.1) (gr R z.1.2) z.2))]):DM D)=_ from e]
     exact Rn.pure ⟨by simp[iu,hm,List.all_map,Function.comp_def],rfl⟩
   ·simp[wD,eF,tU hn,isT,-uf,ll,l2,fu,hm,iu]
 |_=>simp[wD,eF,tU hn,isT,iH,iu]
theorem CQ{R:List (List Nat)}{W B k:Nat}{d:D}(h:WK R W)(hn:R.length≤6)(g:Gd B k d)(hw:wt d≤1000000):wG [cD R W,d]=pure (.bl (iu R d)):=by
 simp[wG,vm,xm,JB h hn g hw]
noncomputable def q9:=aJ 2 3 (dZ wL Bx)
theorem Ie {R:List (List Nat)}{W B k:Nat}{d:D} (h:WK R W) (hn:R.length≤6) (g:Gd B k d) (hw:wt d≤1000000):q9 [nM R,d]=pure (.bl (iu R d)):=by
 have pl:=uI hn
 have isT:=g.isT
 have l0:(rd (cz [nM R]):DM D)=pure (nD R.length):=by simp[nM,nD]
 have l2:(rd (cz [.lst ((prs R.length).map iy)]):DM D)=pure (nD (prs R.length).length):=by simp[nD]
 cases g with
 | @tup k l hg=>
   have hlen:=eU l
   have hwl:bu l+3≤1000000:=by simpa only[wt] using hw
   have ll:(rd (cz [.tup l]):DM D)=pure (nD l.length):=rfl
   have isT:(rd (f9 [.tup l,.ty "tuple"]):DM D)=pure (.bl true):=isT
   by_cases hm:l.length=(prs R.length).length
   ·simp[q9,dZ,l0,tV hn,isT,-uf,ll,l2,fu,hm,lA]
    have zz:uY [D.lst ((prs R.length).map iy),.tup l]=some (.fix (((prs R.length).zip l).map fun z=>.tup [iy z.1,z.2])):=by
     show some (Itn.fix (pairs _ _))=_
     rw[o9]
    have ce:aX 3 [0] [some (nM R),some (.tup l),some (D.lst ((prs R.length).map iy))]=[none,none,none,some (nM R)]:=rfl
    simp only[zz,ce,dD,aq,lA]
    have zl:((prs R.length).zip l).length≤36:=by rw[List.length_zip];omega
    refine qj fun M=>?_
    refine Rn.bind (cU (cI (fun i δ (o:List D) M'=>(∃z y x,δ=[z,y,x,some (nM R)])∧o=(((prs R.length).zip l).take i).map (fun z=>.bl (jA (gr R z.1.1) (gr R z.1.2) z.2))∧M'=M) _ 0 _ [] M ⟨⟨_,_,_,rfl⟩,rfl,rfl⟩ fun j d δ o M1 hj hI=>?_)) fun p M1 hI=>?_
    ·obtain⟨⟨z,y,x,rfl⟩,rfl,rfl⟩:=hI
     rw[Nat.zero_add]
     rw[List.getElem?_map] at hj
     obtain⟨q,hq,rfl⟩:=Option.map_eq_some_iff.mp hj
     have qm:=List.of_mem_zip (List.mem_of_getElem? hq)
     have hm1:=lZ qm.1
     have l1:(gr R q.1.1).length=R.length:=h.row _ (gr_mem (by omega))
     have wx:=gQ qm.2
     have jo:=Kd (a:=gr R q.1.1) (b:=gr R q.1.2) (by omega) (hg _ qm.2) (by omega)
     have lt:(((prs R.length).zip l).take j).length<sizeLine:=by show _<2^24;rw[List.length_take];omega
     have tg:gT 2 (dC (gT 2 (dC (gN 1) (dC (gN 2) m9))) (dC (gN 0) m9)) (D.tup [iy q.1,q.2]) [z,y,x,some (nM R)]=pure [some q.2,some (nD q.1.1),some (nD q.1.2),some (nM R)]:=rfl
     rw[tg,aq,aq,if_pos rfl]
     simp only[bx,aW,mF (R:=R) (i:=q.1.1) (by omega),mF (R:=R) (i:=q.1.2) (by omega),jo]
     rw[if_pos (by rw[List.length_map];exact lt)]
     exact Rn.pure ⟨⟨_,_,_,rfl⟩,by rw[List.take_add_one,hq];simp,rfl⟩
    ·obtain⟨_,e1,rfl⟩:=hI
     rw[e1,Nat.zero_add,List.length_map,List.take_length]
     have e:=pA (((prs R.length).zip l).map fun z=>jA (gr R z.1.1) (gr R z.1.2) z.2)
     rw[List.map_map] at e
     rw[show (rd (mZ [.lst (((prs R.length).zip l).map fun z=>D.bl (jA (gr R z.1.1) (gr R z.1.2) z.2))]):DM D)=_ from e]
     exact Rn.pure ⟨by simp[iu,hm,List.all_map,Function.comp_def],rfl⟩
   ·simp[q9,dZ,l0,tV hn,isT,-uf,ll,l2,fu,hm,iu]
 |_=>simp[q9,dZ,l0,tV hn,isT,iH,iu]
theorem mD{x y:List D}(h:x.length+y.length≤10000000):(rd (bQ (.lst x) (.lst y)):DM D)=pure (.lst (x++y)):=bY fun M=>by
 have:dH (x++y)=true:=by unfold dH;exact decide_eq_true (by show _≤2^24;rw[List.length_append];omega)
 simp[bQ,Gj,aO,this]
def Ac(d:D):Prop:=Gd (10^11) 2 d∧wt d≤9000
theorem tO{x:Str}(h:(reprText x).length≤100):Ac (.str x):=⟨.str,by simp only[wt];omega⟩
theorem o7{i:Int}(h:i.natAbs≤10^11):Ac (.int i):=⟨.int h,by simp only[wt];omega⟩
noncomputable def nA:List D:=[.non,.bl true,.bl false,.int (-1),.int 0,.int 1,.int 2,.int 100000000000,.str "",.str "0"]
noncomputable def nF:List D:=[.tup [],.lst [],.dic [] [],.tup [.int 0],.tup [.int 0,.int 0],.lst [.int 0],.str "x",.tup [.tup [.int 0]],.tup [.tup [.int 1]]]
noncomputable def tQ:List D:=[.tup [.int 1,.int 0],.tup [.int 0,.int 1],.tup [.tup [.int 1,.int 0],.tup [.int 0,.int 1]],.str "walk",.dic [.inl 0] [.int 1],.tup [.bl true]]
theorem KR:∀ d∈nA++nF++tQ,Ac d:=by
 have i0:∀i:Int,i.natAbs≤10^11->∀n,Gd (10^11) n (.int i):=fun i h n=>.int h
 have t1:∀i:Int,i.natAbs≤10^11->Gd (10^11) 1 (.tup [.int i]):=fun i h=>.tup fun x hx=>by rw[List.mem_singleton.mp hx];exact .int h
 have t2:∀i j:Int,i.natAbs≤10^11->j.natAbs≤10^11->∀n,Gd (10^11) (n+1) (.tup [.int i,.int j]):=fun i j h h' n=>.tup fun x hx=>by
  simp only[List.mem_cons,List.not_mem_nil,or_false] at hx
  rcases hx with rfl | rfl
  ·exact .int h
  ·exact .int h'
 intro d hd
 simp only[nA,nF,tQ,List.cons_append,List.nil_append,List.mem_cons,List.not_mem_nil,or_false] at hd
 rcases hd with rfl | rfl | rfl | rfl | rfl | rfl | rfl | rfl | rfl | rfl | rfl | rfl | rfl | rfl | rfl | rfl | rfl | rfl | rfl | rfl | rfl | rfl | rfl | rfl | rfl
 ·exact⟨.non,by simp[wt]⟩
 ·exact⟨.bl _,by simp[wt]⟩
 ·exact⟨.bl _,by simp[wt]⟩
 ·exact o7 (by decide)
 ·exact o7 (by decide)
 ·exact o7 (by decide)
 ·exact o7 (by decide)
 ·exact o7 (by decide)
 ·exact tO (by decide +kernel)
 ·exact tO (by decide +kernel)
 ·exact⟨.tup fun _ h=>(by cases h),by simp[wt,bu]⟩
 ·exact⟨.lst fun _ h=>(by cases h),by simp[wt,bu]⟩
 ·exact⟨.d0,by simp[wt]⟩
 ·exact⟨(t1 0 (by decide)).mono (Nat.le_refl _) (by omega),by simp[wt,bu]⟩
 ·exact⟨t2 0 0 (by decide) (by decide) 1,by simp[wt,bu]⟩
 ·exact⟨.lst fun x h=>by rw[List.mem_singleton.mp h];exact .int (by decide),by simp[wt,bu]⟩
 ·exact tO (by decide +kernel)
 ·exact⟨.tup fun x h=>by rw[List.mem_singleton.mp h];exact t1 0 (by decide),by simp[wt,bu]⟩
 ·exact⟨.tup fun x h=>by rw[List.mem_singleton.mp h];exact t1 1 (by decide),by simp[wt,bu]⟩
 ·exact⟨t2 1 0 (by decide) (by decide) 1,by simp[wt,bu]⟩
 ·exact⟨t2 0 1 (by decide) (by decide) 1,by simp[wt,bu]⟩
 ·exact⟨.tup fun x h=>by
   simp only[List.mem_cons,List.not_mem_nil,or_false] at h
   rcases h with rfl | rfl
   ·exact t2 1 0 (by decide) (by decide) 0
   ·exact t2 0 1 (by decide) (by decide) 0,by simp[wt,bu]⟩
 ·exact tO (by decide +kernel)
 ·exact⟨.d1,by simp[wt]⟩
 ·exact⟨.tup fun x h=>by rw[List.mem_singleton.mp h];exact .bl _,by simp[wt,bu]⟩
noncomputable def qF:=aJ 1 2 (sG gY)
theorem xX{p:Nat}{M:Mo}(h:bV p M):Rn (qF [.ref p]) M fun d M'=>Ac d∧bV p M'∧Sb p M M':=by
 unfold qF sG nG;dsimp only
 refine Rn.call rfl ?_
 have st:bz 2 [D.ref p]=[some (.ref p),none]:=rfl
 rw[st]
 have p11:(rd (yj (.int 10) (.int 11)):DM D)=pure (.int 100000000000):=by rw[Bj (by decide)];rfl
 have mt:∀l:List D,l.length≤100->qP l=pure (.tup l):=fun l h=>gh (by omega)
 have ml:∀l:List D,l.length≤100->kI l=pure (.lst l):=fun l h=>cH (by omega)
 refine aF fun K hK=>?_
 simp[p11,ml]
 rw[hK];clear hK K
 refine aF fun K hK=>?_
 simp[mt,ml]
 change Rn (rd (bQ (.lst nA) (.lst nF))>>=_) M _
 rw[mD (by simp[nA,nF]),aq,hK];clear hK K
 simp[mt,ml]
 change Rn (rd (bQ (.lst (nA++nF)) (.lst tQ))>>=_) M _
 rw[mD (by simp[nA,nF,tQ]),aq]
 refine Rn.bind (b7 (m:=(nA++nF++tQ).length) h (by decide) (by decide)) fun d1 M1 hd=>?_
 obtain⟨t,ht,rfl,hp1,s1⟩:=hd
 obtain⟨x,hx,ex⟩:=uL ht
 rw[ex]
 exact Rn.pure ⟨_,rfl,KR _ hx,hp1,s1⟩
noncomputable def yX:=aJ 2 6 (qH qF gY)
def qZ(B n:Nat)(d r:D):Prop:=Gd (B+10^12) (n+2) r∧wt r≤2*wt d+20000
theorem JN {B n p:Nat}{l:List D}{M:Mo} (hd:Gd B n (.tup l)) (hp:bV p M) (hw:wt (.tup l)≤300000):Rn (yX [.ref p,.tup l]) M fun r M'=>qZ B n (.tup l) r∧bV p M'∧Sb p M M':=by
 have hwl:bu l+3≤300000:=by simpa only[wt] using hw
 have hlen:=eU l
 unfold yX qH lz;dsimp only
 refine Rn.call rfl ?_
 have st:bz 6 [D.ref p,.tup l]=[some (.ref p),some (.tup l),none,none,none,none]:=rfl
 rw[st]
 have ll:(rd (cz [.tup l]):DM D)=pure (nD l.length):=rfl
 have mt:∀l:List D,l.length≤100->qP l=pure (.tup l):=fun l h=>gh (by omega)
 have ml:∀l:List D,l.length≤100->kI l=pure (.lst l):=fun l h=>cH (by omega)
 refine aF fun K hK=>?_
 simp only[bN,bx,aQ,Lp,aB,ll,mC l.length]
 refine Rn.bind (b7 (m:=l.length+1) hp (by omega) (by omega)) fun d1 M1 hd1=>?_
 obtain⟨a,ha,rfl,hp1,s1⟩:=hd1
 try simp only[aq,ll,mC l.length]
 refine Rn.bind (b7 (m:=l.length+1) hp1 (by omega) (by omega)) fun d2 M2 hd2=>?_
 obtain⟨t,ht,rfl,hp2,s2⟩:=hd2
 refine Rn.bind (xX hp2) fun o M3 ho=>?_
 obtain⟨ho,hp3,s3⟩:=ho
 rw[hK];clear hK K
 have an:∀n:Nat,(zb (nD n):DM (Option Int))=pure (some (n:Int)):=fun _=>rfl
 have ca:(l.take a).length+(l.drop a).length=l.length:=by rw[←List.length_append,List.take_append_drop]
 have tl:(l.take a).length≤l.length:=by rw[List.length_take];omega
 have dl:∀i,(l.drop i).length≤l.length:=fun i=>by rw[List.length_drop];omega
 have tl2:(l.take t).length≤l.length:=by rw[List.length_take];omega
 have so:∃m:List D,(m=[]∨∃x∈l,m=[x])∧(rd (jQ (some (a:Int)) (some ((a+1:Nat):Int)) (.tup l)):DM D)=pure (.tup m):=by
  by_cases h:a<l.length
  ·exact⟨[l[a]],.inr ⟨l[a],List.getElem_mem h,rfl⟩,N6 h⟩
  ·refine⟨[],.inl rfl,bY fun M=>?_⟩
   have:a=l.length:=by omega
   subst this
   simp only[jQ,cutD,HT.sIx_nat]
   rw[Nat.min_eq_left (Nat.le_refl _),List.drop_length,List.take_nil]
 obtain⟨m,hm,em⟩:=so
 have ml1:m.length≤1:=by rcases hm with rfl | ⟨x,_,rfl⟩<;>simp
 have e1:(rd (bQ (.tup (l.take a)) (.tup [o])):DM D)=pure (.tup (l.take a++[o])):=dG (by simp;omega)
 have e2:(rd (bQ (.tup (l.take a++[o])) (.tup (l.drop (a+1)))):DM D)=pure (.tup (l.take a++[o]++l.drop (a+1))):=dG (by have:=dl (a+1);simp only[List.length_append,List.length_singleton];omega)
 have e3:(rd (bQ (.tup (l.take a)) (.tup (l.drop (a+1)))):DM D)=pure (.tup (l.take a++l.drop (a+1))):=dG (by have:=dl (a+1);omega)
 have e4:(rd (bQ (.tup (l.take a)) (.tup m)):DM D)=pure (.tup (l.take a++m)):=dG (by omega)
 have e5:(rd (bQ (.tup (l.take a++m)) (.tup (l.drop a))):DM D)=pure (.tup (l.take a++m++l.drop a)):=dG (by simp only[List.length_append];omega)
 have e6:(rd (bQ (.tup (l.drop t)) (.tup (l.take t))):DM D)=pure (.tup (l.drop t++l.take t)):=dG (by have:=dl t;omega)
 have e7:(rd (bQ (.tup l) (.tup [o])):DM D)=pure (.tup (l++[o])):=dG (by simp;omega)
 have e8:(rd (fun M=>(jb [.tup l] M).map D.lst):DM D)=pure (.lst l):=bY fun M=>rfl
 refine aF fun K hK=>?_
 simp only[aQ,List.set_cons_succ,List.set_cons_zero,List.getElem?_cons_zero,List.getElem?_cons_succ,Option.join_some,dD,aq,aB,an,GF,mC a,yE,em,mt [o] (by simp),e1,e2,e3,e4,e5]
 rw[ml _ (by simp),aq,hK];clear hK K
 refine aF fun K hK=>?_
 simp only[aQ,List.set_cons_succ,List.set_cons_zero,List.getElem?_cons_zero,List.getElem?_cons_succ,Option.join_some,dD,aq,aB,an,GF,yE,mt [o] (by simp),e6,e7,e8]
 have rv:Bo (.tup l)=some (.tup l.reverse):=rfl
 rw[rv,dD,aq,ml _ (by simp),aq,mD (by simp),aq,hK];clear hK K
 simp only[bN,bx,aQ,aB,List.cons_append,List.nil_append]
 refine Rn.bind (b7 (m:=8) hp3 (by decide) (by decide)) fun d4 M4 hd4=>?_
 obtain⟨u,hu,rfl,hp4,s4⟩:=hd4
 obtain⟨n',rfl,hl⟩:∃n',n=n' + 1∧∀x∈l,Gd B n' x:=by cases hd with | tup h=>exact⟨_,rfl,h⟩
 have mg:∀x∈l,Gd (B+10^12) (n' + 2) x:=fun x hx=>(hl x hx).mono (by omega) (by omega)
 have og:Gd (B+10^12) (n' + 2) o:=ho.1.mono (by omega) (by omega)
 have ow:=ho.2
 have c0:=qw l a
 have c1:=qw l t
 have c2:bu (l.drop (a+1))≤bu (l.drop a):=by
  have:=qw (l.drop a) 1
  rw[List.drop_drop] at this
  omega
 have c3:bu m≤bu l:=by
  rcases hm with rfl | ⟨x,hx,rfl⟩
  ·simp[bu]
  ·have:=gQ hx
   simp only[bu];omega
 have mm:∀x∈m,x∈l:=fun x hx=>by
  rcases hm with rfl | ⟨y,hy,rfl⟩
  ·cases hx
  ·rw[List.mem_singleton.mp hx];exact hy
 have mk:∀k:List D,(∀x∈k,x∈l∨x=o)->bu k≤2*bu l+9002->qZ B (n' + 1) (.tup l) (.tup k):=fun k h hk=>⟨.tup fun x hx=>by
  rcases h x hx with h | rfl
  ·exact mg x h
  ·exact og,by simp only[wt];omega⟩
 have all:∀r∈([.tup (l.take a++[o]++l.drop (a+1)),.tup (l.take a++l.drop (a+1)),.tup (l.take a++m++l.drop a),.tup (l.drop t++l.take t),.lst l,.tup (l++[o]),.tup l.reverse,o]:List D),qZ B (n' + 1) (.tup l) r:=by
  intro r hr
  simp only[List.mem_cons,List.not_mem_nil,or_false] at hr
  rcases hr with rfl | rfl | rfl | rfl | rfl | rfl | rfl | rfl
  ·refine mk _ (fun x hx=>?_) (by simp only[eQ,bu];omega)
   simp only[List.mem_append,List.mem_singleton] at hx
   rcases hx with (hx | hx) | hx
   ·exact .inl (List.mem_of_mem_take hx)
   ·exact .inr hx
   ·exact .inl (List.mem_of_mem_drop hx)
  ·refine mk _ (fun x hx=>?_) (by simp only[eQ];omega)
   rcases List.mem_append.mp hx with hx | hx
   ·exact .inl (List.mem_of_mem_take hx)
   ·exact .inl (List.mem_of_mem_drop hx)
  ·refine mk _ (fun x hx=>?_) (by simp only[eQ];omega)
   simp only[List.mem_append] at hx
   rcases hx with (hx | hx) | hx
   ·exact .inl (List.mem_of_mem_take hx)
   ·exact .inl (mm x hx)
   ·exact .inl (List.mem_of_mem_drop hx)
  ·refine mk _ (fun x hx=>?_) (by simp only[eQ];omega)
   rcases List.mem_append.mp hx with hx | hx
   ·exact .inl (List.mem_of_mem_drop hx)
   ·exact .inl (List.mem_of_mem_take hx)
  ·exact⟨.lst mg,by simp only[wt];omega⟩
  ·refine mk _ (fun x hx=>?_) (by simp only[eQ,bu];omega)
   rcases List.mem_append.mp hx with hx | hx
   ·exact .inl hx
   ·exact .inr (List.mem_singleton.mp hx)
  ·exact mk _ (fun x hx=>.inl (List.mem_reverse.mp hx)) (by rw[Ab];omega)
  ·exact⟨og.mono (Nat.le_refl _) (by omega),by simp only[wt];omega⟩
 obtain⟨x,hx,ex⟩:=uL (L:=[.tup (l.take a++[o]++l.drop (a+1)),.tup (l.take a++l.drop (a+1)),.tup (l.take a++m++l.drop a),.tup (l.drop t++l.take t),.lst l,.tup (l++[o]),.tup l.reverse,o]) (t:=u) hu
 rw[ex]
 exact Rn.pure ⟨_,rfl,all x hx,hp4,s1.trans (s2.trans (s3.trans s4))⟩
noncomputable def u9:Nat->List D->DM D
 |0=>aJ 3 4 fun _=>stuck
 |n+1=>aJ 3 4 (qI gY rZ yX qF (u9 n))
theorem J3:∀ (m:Nat) {k n B p:Nat}{d:D}{M:Mo},k<m->Gd B n d->bV p M->wt d≤300000->Rn (u9 m [.ref p,d,nD k]) M fun r M'=>qZ B n d r∧bV p M'∧Sb p M M':=by
 intro m
 induction m with
 |zero=>intro k n B p d M h;omega
 | succ m ih=>
   intro k n B p d M hk hd hp hw
   unfold u9 qI lB;dsimp only
   refine Rn.call rfl ?_
   have st:bz 4 [D.ref p,d,nD k]=[some (.ref p),some d,some (nD k),none]:=rfl
   rw[st]
   have t1:∀b:Bool,(rd (iR (.bl b)):DM Bool)=pure b:=fun _=>rfl
   have ab:∀b:Bool,(fY (.bl b):DM Bool)=pure b:=fun _=>rfl
   refine gB fun K hK hR=>?_
   simp only[bN,bx,aQ,aB,hd.isT,t1]
   refine Rn.bind (Q1:=fun c M1=>(c=false->0<k∧∃l,d=.tup l∧l≠[])∧bV p M1∧Sb p M M1) ?_ fun c M1 hc=>?_
   ·by_cases hT:iH d=true
    ·obtain ⟨l,rfl⟩:∃ l,d=.tup l:=by cases d<;>first | exact ⟨_,rfl⟩ | cases hT
     have m0:qP []=pure (.tup []):=gh (by simp)
     have eqz:(rd (J5 (.tup l) (.tup [])):DM D)=pure (.bl l.isEmpty):=bY fun M=>rfl
     have ek:(rd (fO (nD k) (.int 0)):DM D)=pure (.bl (decide (k=0))):=pB k 0
     simp only[hT,Bool.not_true,Bool.false_eq_true,if_false,m0,eqz,ab,aq,ek]
     by_cases hl:l.isEmpty=true
     ·simp only[hl,if_true]
      exact Rn.pure ⟨nofun,hp,Sb.refl⟩
     ·rw[Bool.not_eq_true] at hl
      simp only[hl,Bool.false_eq_true,if_false]
      by_cases h0:k=0
      ·simp only[decide_eq_true h0,if_true]
       exact Rn.pure ⟨nofun,hp,Sb.refl⟩
      ·simp only[decide_eq_false h0,Bool.false_eq_true,if_false]
       refine Rn.bind (b7 (m:=4) hp (by decide) (by decide)) fun d1 M1 hd1=>?_
       obtain⟨t,ht,rfl,hp1,s1⟩:=hd1
       have et:(rd (fO (nD t) (.int 0)):DM D)=pure (.bl (decide (t=0))):=pB t 0
       rw[et,aq,ab]
       exact Rn.pure ⟨fun _=>⟨by omega,l,rfl,fun z=>by rw[z] at hl;cases hl⟩,hp1,s1⟩
    ·rw[Bool.not_eq_true] at hT
     simp only[hT,Bool.not_false,if_true]
     exact Rn.pure ⟨nofun,hp,Sb.refl⟩
   obtain⟨hc,hp1,s1⟩:=hc
   cases c with
   | true=>
     rw[if_pos rfl]
     clear hc hK
     refine Rn.bind (Q1:=fun r M'=>∃d1,r=Fl.rt d1∧qZ B n d d1∧bV p M'∧Sb p M M') ?_ fun r M' hr=>?_
     rotate_left
     ·obtain⟨d1,rfl,h⟩:=hr
      rw[hR]
      exact Rn.pure ⟨_,rfl,h⟩
     clear hR K
     have fin:∀M2,bV p M2->Sb p M M2->Rn ((if iH d=true then yX [.ref p,d] else qF [.ref p])>>=fun d=>pure (Fl.rt d)) M2 fun r M'=>∃d1,r=Fl.rt d1∧qZ B n d d1∧bV p M'∧Sb p M M':=fun M2 hp2 s2=>by
      by_cases hT:iH d=true
      ·obtain⟨l,rfl⟩:∃l,d=.tup l:=by cases d<;>first | exact⟨_,rfl⟩ | cases hT
       rw[if_pos hT]
       refine Rn.bind (JN hd hp2 hw) fun r M3 h=>?_
       exact Rn.pure ⟨_,rfl,h.1,h.2.1,s2.trans h.2.2⟩
      ·rw[if_neg hT]
       refine Rn.bind (xX hp2) fun r M3 h=>?_
       exact Rn.pure ⟨_,rfl,⟨h.1.1.mono (by omega) (by omega),by have:=h.1.2;omega⟩,h.2.1,s2.trans h.2.2⟩
     refine gB fun K hK hR=>?_
     simp only[bN,bx,aQ,aB,hd.lw,t1]
     have nxt:∀M2,bV p M2->Sb p M M2->Rn (K (Fl.nx [some (.ref p),some d,some (nD k),none])) M2 fun r M'=>∃d1,r=Fl.rt d1∧qZ B n d d1∧bV p M'∧Sb p M M':=fun M2 hp2 s2=>by
      rw[hK]
      simp only[bN,bx,aQ,aB,hd.isT,t1]
      exact fin M2 hp2 s2
     by_cases hW:nj d=true
     ·obtain ⟨i,rfl⟩:∃ i,d=.int i:=by cases d<;>first | exact ⟨_,rfl⟩ | cases hW
      rw[if_pos hW]
      simp only[aB]
      refine Rn.bind (b7 (m:=3) hp1 (by decide) (by decide)) fun d1 M2 hd2=>?_
      obtain⟨t,ht,rfl,hp2,s2⟩:=hd2
      have et:(rd (tE (nD t) (.int 0)):DM D)=pure (.bl (decide (t > 0))):=tZ t 0
      rw[et,aq,ab,aq]
      by_cases h0:t > 0
      ·rw[if_pos (decide_eq_true h0)]
       have ng:(rd (xW (.int 1)):DM D)=pure (.int (-1)):=rfl
       simp only[aB,ng,aq]
       rw[cH (by simp),aq]
       refine Rn.bind (b7 (m:=2) hp2 (by decide) (by decide)) fun d1 M3 hd3=>?_
       obtain⟨u,hu,rfl,hp3,s3⟩:=hd3
       obtain⟨x,hx,ex⟩:=uL (L:=[.int 1,.int (-1)]) (t:=u) hu
       rw[ex,aq]
       have gi:i.natAbs≤B:=by cases hd with | int h=>exact h
       simp only[List.mem_cons,List.not_mem_nil,or_false] at hx
       obtain⟨j,rfl,hj⟩:∃j:Int,x=.int j∧j.natAbs≤1:=by
        rcases hx with rfl | rfl
        ·exact⟨1,rfl,by decide⟩
        ·exact⟨-1,rfl,by decide⟩
       have ad:(rd (bQ (.int i) (.int j)):DM D)=pure (.int (i+j)):=rfl
       rw[ad,aq,hR]
       exact Rn.pure ⟨_,rfl,⟨.int (by omega),by simp only[wt];omega⟩,hp3,s1.trans (s2.trans s3)⟩
      ·rw[if_neg (by simpa using h0),aq]
       exact nxt M2 hp2 (s1.trans s2)
     ·rw[if_neg hW,aq,if_neg (by decide),aq]
      exact nxt M1 hp1 s1
   | false=>
     obtain⟨k0,l,rfl,lne⟩:=hc rfl
     rw[if_neg (by decide),aq,hK];clear hK hR K hc
     have ll:(rd (cz [.tup l]):DM D)=pure (nD l.length):=rfl
     have l0:0<l.length:=List.length_pos_iff.mpr lne
     have hwl:bu l+3≤300000:=by simpa only[wt] using hw
     have hlen:=eU l
     obtain⟨n',rfl,hl⟩:∃n',n=n' + 1∧∀x∈l,Gd B n' x:=by cases hd with | tup h=>exact⟨_,rfl,h⟩
     refine aF fun K hK=>?_
     simp only[bN,bx,aQ,aB,ll]
     refine Rn.bind (b7 (m:=l.length) hp1 (by omega) (by omega)) fun d1 M2 hd2=>?_
     obtain⟨a,ha,rfl,hp2,s2⟩:=hd2
     try simp only[aq]
     rw[hK];clear hK K
     have an:∀n:Nat,(zb (nD n):DM (Option Int))=pure (some (n:Int)):=fun _=>rfl
     have ix:(rd (dg (.tup l) (nD a)):DM D)=pure l[a]:=ue (List.getElem?_eq_getElem ha)
     have sb:(rd (uR (nD k) (.int 1)):DM D)=pure (nD (k-1)):=Lq (a:=k) (b:=1) (by omega)
     simp only[bN,bx,aQ,aB,an,GF,ix,sb]
     have wx:=gQ (List.getElem_mem ha)
     refine Rn.bind (ih (k:=k-1) (by omega) (hl _ (List.getElem_mem ha)) hp2 (by omega)) fun r M3 hr=>?_
     obtain⟨hr,hp3,s3⟩:=hr
     have tl:(l.take a).length≤l.length:=by rw[List.length_take];omega
     have dl:∀i,(l.drop i).length≤l.length:=fun i=>by rw[List.length_drop];omega
     have e1:(rd (bQ (.tup (l.take a)) (.tup [r])):DM D)=pure (.tup (l.take a++[r])):=dG (by simp;omega)
     have e2:(rd (bQ (.tup (l.take a++[r])) (.tup (l.drop (a+1)))):DM D)=pure (.tup (l.take a++[r]++l.drop (a+1))):=dG (by have:=dl (a+1);simp only[List.length_append,List.length_singleton];omega)
     have mt1:qP [r]=pure (.tup [r]):=gh (by simp)
     simp only[aq,mt1,e1,mC a,an,yE,e2]
     have c0:=qw l a
     rw[List.drop_eq_getElem_cons ha] at c0
     simp only[bu] at c0
     refine Rn.pure ⟨_,rfl,⟨.tup fun x hx=>?_,?_⟩,hp3,s1.trans (s2.trans s3)⟩
     ·simp only[List.mem_append,List.mem_singleton] at hx
      rcases hx with (hx | hx) | hx
      ·exact (hl x (List.mem_of_mem_take hx)).mono (by omega) (by omega)
      ·rw[hx];exact hr.1
      ·exact (hl x (List.mem_of_mem_drop hx)).mono (by omega) (by omega)
     ·have:=hr.2
      simp only[wt,eQ,bu];omega
def Rx{α:Type}(m:DM α)(M:Mo)(c:Str)(Q:Mo->Prop):Prop:=∃M',m M=some (.exc c,M')∧Q M'
section
variable{α β:Type}{m:DM α}{f:α->DM β}{M:Mo}{c:Str}{Q:Mo->Prop}
theorem Rx.bind(h:Rx m M c Q):Rx (m>>=f) M c Q:=by
 obtain⟨M',e,q⟩:=h
 refine⟨M',?_,q⟩
 show DM.bind m f M=_
 unfold DM.bind
 rw[e]
theorem Rx.seq{f g:ao->DM Fl}{δ:ao}(h:Rx (f δ) M c Q):Rx (pM f g δ) M c Q:=h.bind
theorem Rx.call{p n:Nat}{fb:ao->DM Fl}{ds:List D}(hp:ds.length=p)(h:Rx (fb (bz n ds)) M c Q):Rx (aJ p n fb ds) M c Q:=by
 unfold aJ
 rw[if_pos hp]
 exact h.bind
end
theorem DX{f g:ao->DM Fl}{δ δ':ao}(h:f δ=pure (.nx δ')):pM f g δ=g δ':=by unfold pM;rw[h];rfl
noncomputable def xj:Str->D:=fun _=>.tup [.str "rule"]
theorem J7(y:Addr)(M:Mo):Rn (jr y "NoRule" (bz 4 [.exn y])) M fun r M'=>r=.rt (xj "NoRule")∧∃o,M'=M++[o]:=by
 have st:bz 4 [.exn y]=[some (.exn y),none,none,none]:=rfl
 rw[st]
 have hi:∀k:D,(rd (jC mU y "NoRule" [.exn y,k]):DM D)=rd (jC mU 0 "NoRule" [.exn 0,k]):=fun k=>by
  funext M;simp only[rd,jC,Hh,if_true]
 have ms:∀(m:List D) (w z:Option D) (f g:ao->DM Fl) (m':List D),f [some (.exn y),some (.lst m),w,z]=pure (.nx [some (.exn y),some (.lst m'),w,z])->pM f g [some (.exn y),some (.lst m),w,z]=g [some (.exn y),some (.lst m'),w,z]:=fun _ _ _ _ _ _ h=>DX h
 let F:Nat->List D:=fun n=>List.replicate n (.bl false)
 let G:List D:=.bl true::List.replicate 3 (.bl false)
 unfold jr jF;dsimp only
 rw[(DX (δ':=[some (.exn y),some (.lst (F 4)),none,none]) ?_),ms _ _ _ _ _ (F 4++F 2) ?_,ms _ _ _ _ _ (F 4++F 2++F 1) ?_,ms _ _ _ _ _ (F 4++F 2++F 1++F 2) ?_,ms _ _ _ _ _ (F 4++F 2++F 1++F 2++F 2) ?_,ms _ _ _ _ _ (F 4++F 2++F 1++F 2++F 2++G) ?_]
 rotate_left
 ·simp only[bN,bx,aQ,aB,hi]
  funext M;rfl
 ·simp only[bN,bx,aQ,aB,hi]
  funext M;rfl
 ·simp only[bN,bx,aQ,aB,hi]
  funext M;rfl
 ·simp only[bN,bx,aQ,aB,hi]
  funext M;rfl
 ·simp only[bN,bx,aQ,aB,hi]
  funext M;rfl
 ·simp only[bN,bx,aQ,aB,hi]
  funext M;rfl
 refine aF fun K hK=>?_
 simp only[bN,bx,aQ,aB,hi]
 have n1:(rd (jC mU 0 "NoRule" [.exn 0,.cls "NoMark"]):DM D)=pure (.bl false):=by funext M;rfl
 have n2:(rd (jC mU 0 "NoRule" [.exn 0,.cls "NoDeed"]):DM D)=pure (.bl false):=by funext M;rfl
 have n3:(rd (jC mU 0 "NoRule" [.exn 0,.cls "NoLine"]):DM D)=pure (.bl false):=by funext M;rfl
 have n4:(rd (jC mU 0 "NoRule" [.exn 0,.cls "NoText"]):DM D)=pure (.bl false):=by funext M;rfl
 have n5:(rd (jC mU 0 "NoRule" [.exn 0,.cls "TooMany"]):DM D)=pure (.bl false):=by funext M;rfl
 have n6:(rd (jC mU 0 "NoRule" [.exn 0,.ty "ValueError"]):DM D)=pure (.bl true):=by funext M;rfl
 simp only[n1,n2,n3,n4,aq]
 rw[cH (by simp),aq]
 refine Rn.bind (Q1:=fun a M'=>a=.ref M.length∧M'=M++[.lst (F 4++F 2++F 1++F 2++F 2++G++F 4)]) ⟨_,_,rfl,rfl,rfl⟩ fun a M1 ha=>?_
 obtain⟨rfl,rfl⟩:=ha
 rw[hK];clear hK K
 have a1:(M++[DO.lst (F 4++F 2++F 1++F 2++F 2++G++F 4)])[M.length]?=some (.lst (F 4++F 2++F 1++F 2++F 2++G++F 4)):=by simp
 refine aF fun K hK=>?_
 simp only[bN,bx,aQ,aB,hi,n5]
 refine Rn.bindRd (F 4++F 2++F 1++F 2++F 2++G++F 4) (by simp only[aO,a1]) ?_
 refine Rn.run (pU a1 (by decide)) ?_
 have e1:(M++[DO.lst (F 4++F 2++F 1++F 2++F 2++G++F 4)]).set M.length (.lst (F 4++F 2++F 1++F 2++F 2++G++F 4++[.bl false]))=M++[.lst (F 4++F 2++F 1++F 2++F 2++G++F 4++[.bl false])]:=by simp
 rw[e1]
 have a2:(M++[DO.lst (F 4++F 2++F 1++F 2++F 2++G++F 4++[.bl false])])[M.length]?=some (.lst (F 4++F 2++F 1++F 2++F 2++G++F 4++[.bl false])):=by simp
 rw[hK];clear hK K
 refine aF fun K hK=>?_
 simp only[bN,bx,aQ,aB]
 rw[cH (by simp),aq,hK];clear hK K
 refine aF fun K hK=>?_
 simp only[bN,bx,aQ,aB]
 rw[cH (by simp),aq,mD (by simp),aq,hK];clear hK K
 refine aF fun K hK=>?_
 simp only[bN,bx,aQ,aB]
 rw[cH (by simp),aq,mD (by simp),aq,hK];clear hK K
 refine aF fun K hK=>?_
 simp only[bN,bx,aQ,aB,hi,n6,show ∀b:Bool,(rd (iR (.bl b)):DM Bool)=pure b from fun _=>rfl,Bool.not_true,Bool.false_eq_true,if_false]
 refine Rn.bindRd (F 4++F 2++F 1++F 2++F 2++G++F 4++[.bl false]) (by simp only[aO,a2]) ?_
 refine Rn.bind (Q1:=fun a M'=>a=.int 1∧M'=M++[.lst (F 4++F 2++F 1++F 2++F 2++G++F 4++[.bl false])]) ⟨_,_,by
  show (rd fun M=>(aO (.ref _) M).bind fun l=>(boolsOf l).map fun bs=>D.int (bs.countP (·== true):Nat)) (M++[.lst (F 4++F 2++F 1++F 2++F 2++G++F 4++[.bl false])])=_
  simp only[rd,aO,a2]
  rfl,rfl,rfl⟩ fun a M1 ha=>?_
 obtain⟨rfl,rfl⟩:=ha
 have ne1:(rd (fU (.int 1) (.int 1)):DM D)=pure (.bl false):=fu 1 1
 rw[ne1,aq,gU,aq,if_neg (by decide),aq,hK];clear hK K
 refine aF fun K hK=>?_
 simp only[bN,bx,aQ,aB]
 refine Rn.bindRd (F 4++F 2++F 1++F 2++F 2++G++F 4++[.bl false]) (by simp only[aO,a2]) ?_
 refine Rn.bind (Q1:=fun a M'=>a=.int 11∧M'=M++[.lst (F 4++F 2++F 1++F 2++F 2++G++F 4++[.bl false])]) ⟨_,_,by
  show (rd fun M=>(aO (.ref _) M).bind fun l=>(boolsOf l).bind fun bs=>(findB true bs).bind fun n=>if n<1000 then some (D.int (n:Nat)) else none) (M++[.lst (F 4++F 2++F 1++F 2++F 2++G++F 4++[.bl false])])=_
  simp only[rd,aO,a2]
  rfl,rfl,rfl⟩ fun a M1 ha=>?_
 obtain⟨rfl,rfl⟩:=ha
 refine Rn.bindRd (.str "rule") rfl ?_
 rw[hK];clear hK K
 have q1:(rd (fO (.str "rule") (.str "many")):DM D)=pure (.bl false):=by funext M;rfl
 have q2:(rd (fO (.str "rule") (.str "text")):DM D)=pure (.bl false):=by funext M;rfl
 refine aF fun K hK=>?_
 simp only[bN,bx,aQ,aB,q1,gU,Bool.false_eq_true,if_false]
 rw[hK];clear hK K
 simp only[bN,bx,aQ,aB,q2,gU,Bool.false_eq_true,if_false]
 rw[gh (by simp),aq]
 exact Rn.pure ⟨rfl,_,rfl⟩
theorem MF(y:Addr)(c:Str)(M:Mo)(hc:c∈uq):∃M2,jr y c (bz 4 [.exn y]) M=some (.ok (.rt (xj c)),M2)∧(∀(j:Nat) (o:DO),M[j]?=some o->M2[j]?=some o)∧Fz M2 M.length (xj c) (xj c):=by
 have:c = "NoRule":=by simpa[uq] using hc
 subst this
 obtain⟨r,M2,e,rfl,o,rfl⟩:=J7 y M
 exact⟨_,e,fun j o h=>by rw[List.getElem?_append_left (List.getElem?_eq_some_iff.mp h).1];exact h,.tup (.cons (.str _) .nil)⟩
noncomputable def BP:=Af 2 (qN xj)
theorem DQ{th:DM D}{M:Mo}{Q:Mo->Prop}(h:Rx th M "NoRule" Q):Rn (BP th) M fun d M'=>d=.tup [.str "rule"]∧Q M':=by
 obtain⟨M',e,q⟩:=h
 refine⟨_,M',?_,rfl,q⟩
 have hb:∀f:D->DM D,(th>>=f) M=some (.exc "NoRule",M'):=fun f=>by
  show DM.bind th f M=_
  unfold DM.bind;rw[e]
 have hb2:∀(f:D->DM D) (g:D->DM Fl),((th>>=f)>>=g) M=some (.exc "NoRule",M'):=fun f g=>by
  show DM.bind (th>>=f) g M=_
  unfold DM.bind;rw[hb f]
 have hb3:∀g:D->DM Fl,(th>>=g) M=some (.exc "NoRule",M'):=fun g=>by
  show DM.bind th g M=_
  unfold DM.bind;rw[e]
 unfold BP Af qN lF;dsimp only
 have hT:∀(fb:ao->DM Fl) (fh:Str->ao->DM Fl) (δ:ao),fb δ M=some (.exc "NoRule",M')->yM uq 2 1 fb fh δ M=(cJ (fh "NoRule" ((List.replicate 2 none).set 1 (some (.exn 0))))>>=Gq 1) M':=fun fb fh δ h=>by
  unfold yM;rw[h];rfl
 show DM.bind (yM _ _ _ _ _ _) _ M=_
 unfold DM.bind
 rw[hT _ _ _ (hb3 _)]
 rfl
noncomputable def rm:=aJ 2 2 (jw wG)
noncomputable def BR:=aJ 5 9 (zg rm)
noncomputable def BJ:=aJ 2 6 (zf rm)
section
variable{R:List (List Nat)}{W B k:Nat}{d:D}
theorem DN(h:WK R W)(hn:R.length≤6)(g:Gd B k d)(hw:wt d≤1000000)(no:iu R d=false)(M:Mo):Rx (rm [cD R W,d]) M "NoRule" (fun M'=>M'=M):=by
 refine⟨M,?_,rfl⟩
 simp[rm,jw,CQ h hn g hw,no]
 rfl
theorem Oh(h:WK R W)(hn:R.length≤6)(g:Gd B k d)(hw:wt d≤1000000)(no:iu R d=false)(M:Mo):Rx (BR [cD R W,d,.non,.non,.non]) M "NoRule" (fun M'=>M'=M):=by
 unfold BR zg uK;dsimp only
 refine Rx.call rfl ?_
 refine Rx.seq ?_
 have st:bz 9 [cD R W,d,.non,.non,.non]=[some (cD R W),some d,some .non,some .non,some .non,none,none,none,none]:=rfl
 rw[st]
 simp only[bx,aQ,aB]
 exact (DN h hn g hw no M).bind
theorem Nf(h:WK R W)(hn:R.length≤6)(g:Gd B k d)(hw:wt d≤1000000)(no:iu R d=false)(M:Mo):Rx (BJ [cD R W,d]) M "NoRule" (fun M'=>M'=M):=by
 unfold BJ zf uJ;dsimp only
 refine Rx.call rfl ?_
 refine Rx.seq ?_
 have st:bz 6 [cD R W,d]=[some (cD R W),some d,none,none,none,none]:=rfl
 rw[st]
 simp only[bx,aQ,aB]
 exact (DN h hn g hw no M).bind
noncomputable def BL:=aJ 2 3 (lV BJ BR BP)
def Gw(M M':Mo):Prop:=M.length≤M'.length∧∀a,a<M.length->M'[a]?=M[a]?
theorem Gw.sb{M M':Mo}(h:Gw M M')(p:Nat):Sb p M M':=⟨h.1,fun a _ ha=>h.2 a ha⟩
theorem Ly(h:WK R W)(hn:R.length≤6)(g:Gd B k d)(hw:wt d≤1000000)(no:iu R d=false)(M:Mo):Rn (BL [cD R W,d]) M fun r M'=>r=.bl true∧Gw M M':=by
 unfold BL lV gH;dsimp only
 refine Rn.call rfl ?_
 have st:bz 3 [cD R W,d]=[some (cD R W),some d,none]:=rfl
 rw[st]
 refine aF fun K hK=>?_
 simp only[bN,bx,aQ,List.map_cons,List.map_nil,Option.getD_some,aB]
 have pk:∀z,cO [0,1] [some (cD R W),some d,z]=[some (cD R W),some d]:=fun _=>rfl
 simp only[bx,pk,List.length_cons,List.length_nil,if_true,List.cons_append,List.nil_append]
 refine Rn.bind (DQ (Oh h hn g hw no M)) fun e M1 he=>?_
 obtain⟨rfl,rfl⟩:=he
 refine Rn.dM (by simp) ?_
 rw[hK];clear hK K
 have a1:(M1++[DO.lst [.tup [.str "rule"]]])[M1.length]?=some (.lst [.tup [.str "rule"]]):=by simp
 refine aF fun K hK=>?_
 simp only[bN,bx,aQ,List.map_cons,List.map_nil,Option.getD_some,aB]
 refine Rn.bindRd [.tup [.str "rule"]] (by simp only[aO,a1]) ?_
 simp only[bx,pk]
 refine Rn.bind (DQ (Nf h hn g hw no (M1++[DO.lst [.tup [.str "rule"]]]))) fun e M2 he=>?_
 obtain⟨rfl,rfl⟩:=he
 refine Rn.run (pU a1 (by decide)) ?_
 try simp only[aq]
 rw[hK];clear hK K
 have e1:(M1++[DO.lst [.tup [.str "rule"]]]).set M1.length (.lst ([.tup [.str "rule"]]++[.tup [.str "rule"]]))=M1++[.lst [.tup [.str "rule"],.tup [.str "rule"]]]:=by simp
 rw[e1]
 have a2:(M1++[DO.lst [.tup [.str "rule"],.tup [.str "rule"]]])[M1.length]?=some (.lst [.tup [.str "rule"],.tup [.str "rule"]]):=by simp
 have mu:(rd (fun M=>(rM (.lst [.tup [.str "rule"]]) (.int 2) M).map D.lst):DM D)=pure (.lst [.tup [.str "rule"],.tup [.str "rule"]]):=bY fun M=>rfl
 have eq:Hg (.ref M1.length) (.lst [.tup [.str "rule"],.tup [.str "rule"]]) (M1++[DO.lst [.tup [.str "rule"],.tup [.str "rule"]]])=some (.bl true):=by
  unfold Hg
  simp only[a2]
  simp[fO,L3.eqB,eqP,toPy,dN,PyData.canLay0,PyData.canLayAll0,PyData.depth,PyData.depthAll,PyData.eqv,PyData.eqvAll]
  decide +kernel
 simp only[bN,bx,aQ,List.map_cons,List.map_nil,Option.getD_some,aB]
 rw[gh (by simp),aq,cH (by simp),aq,mu,aq]
 refine Rn.bindRd _ eq ?_
 exact Rn.pure ⟨_,rfl,rfl,by simp,fun a ha=>List.getElem?_append_left ha⟩
end
theorem jT {c:Nat}:∀ {l:List D},(∀ x∈l,wt x≤c)->bu l≤l.length * (c + 2)
 |[],_=>by simp[bu]
 |d::l,h=>by
   have a:=h d (.head _)
   have b:=jT (l:=l) fun x hx=>h x (.tail _ hx)
   simp only[bu,List.length_cons,Nat.succ_mul];omega
theorem KC:∀ {n y:Nat}{f:Nat->Nat},y<n->f y≤S n f
 |0,_,_,h=>by omega
 | n + 1,y,f,h=>by
   by_cases e:y=n
   ·subst e;simp[S]
   ·have:=KC (f:=f) (show y<n by omega)
    simp[S];omega
theorem Kc {n:Nat}{A:Nat->Nat->Nat} (hn:n≤4) (h:∀ x y,x<n->y<n->A x y≤10 ^ 10):Gd (10 ^ 10) 2 (nu n A)∧wt (nu n A)≤31000:=by
 have rw1:∀ x,x<n->Gd (10 ^ 10) 1 (.tup (row n (A x)))∧wt (.tup (row n (A x)))≤7695:=fun x hx=>by
  refine⟨.tup fun d hd=>?_,?_⟩
  ·unfold row at hd
   rw[List.map_map] at hd
   obtain⟨y,hy,rfl⟩:=List.mem_map.mp hd
   exact .int (by have:=h x y hx (List.mem_range.mp hy);simpa using this)
  ·have:=jT (c:=1921) (l:=row n (A x)) fun d hd=>by
    unfold row at hd
    obtain⟨y,hy,rfl⟩:=List.mem_map.mp hd
    simp[nD,wt]
   rw[show (row n (A x)).length=n by simp[row]] at this
   simp only[wt];omega
 show Gd _ _ (D.tup _)∧wt (D.tup _)≤_
 refine⟨.tup fun d hd=>?_,?_⟩
 ·obtain⟨x,hx,rfl⟩:=List.mem_map.mp hd
  exact (rw1 x (List.mem_range.mp hx)).1
 ·have:=jT (c:=7695) (l:=(List.range n).map fun x=>D.tup (row n (A x))) fun d hd=>by
   obtain⟨x,hx,rfl⟩:=List.mem_map.mp hd
   exact (rw1 x (List.mem_range.mp hx)).2
  rw[List.length_map,List.length_range] at this
  simp only[wt];omega
theorem zy {n W:Nat}{a b:List Nat}{A:Nat->Nat->Nat} (hn:n≤4) (ha:a.length=n) (hs:a.sum≤9000000000) (J:Joins n (fn a) (fn b) A):Gd (10 ^ 10) 2 (nu n A)∧wt (nu n A)≤31000:=
 Kc hn fun x y hx hy=>by
  have h1:=KC (f:=A x) hy
  rw[J.row x hx] at h1
  have h2:fn a x≤a.sum:=uT (by
   show ga a x∈a
   rw[Ar (by omega)];exact List.getElem_mem _)
  omega
theorem Ld:∀n,n≤4->(prs n).length≤6:=by decide
noncomputable def wI:=aJ 2 2 (qM wL yZ)
def wO(d:D):Prop:=∃l:List D,d=.tup l∧l.length≤6∧∀x∈l,Gd (10^10) 2 x∧wt x≤31000
theorem wO.gd{d:D}(h:wO d):Gd (10^10) 3 d∧wt d≤190000:=by
 obtain⟨l,rfl,hl,h⟩:=h
 refine⟨.tup fun x hx=>(h x hx).1,?_⟩
 have:=jT fun x hx=>(h x hx).2
 have:l.length*(31000+2)≤6*(31000+2):=Nat.mul_le_mul_right _ hl
 simp only[wt];omega
theorem Jc{R:List (List Nat)}{W:Nat}(h:WK R W)(hn:R.length≤4)(hW:W≤9000000000):wO (rule R):=by
 refine⟨_,rfl,by rw[List.length_map];exact Ld _ hn,fun x hx=>?_⟩
 obtain⟨q,hq,rfl⟩:=List.mem_map.mp hx
 have hm:=lZ hq
 have m1:=gr_mem (R:=R) (i:=q.1) (by omega)
 exact zy (W:=W) hn (h.row _ m1) (by rw[h.sum _ m1];exact hW) (Nb h hq).1
theorem zF {R:List (List Nat)}{W p:Nat}{M:Mo} (h:WK R W) (hn:R.length≤4) (hW:W≤9000000000) (hp:bV p M):Rn (wI [.ref p,nM R]) M fun d M'=>wO d∧bV p M'∧Sb p M M':=by
 have pl:=Ld _ hn
 have l0:(rd (cz [nM R]):DM D)=pure (nD R.length):=by simp[nM,nD]
 unfold wI qM lE;dsimp only
 refine Rn.call rfl ?_
 have st:bz 2 [D.ref p,nM R]=[some (.ref p),some (nM R)]:=rfl
 rw[st]
 simp only[bN,bx,aQ,aB,l0,tV (n:=R.length) (by omega)]
 refine Rn.bindRd (.fix ((prs R.length).map iy)) rfl ?_
 have ce:aX [Str.ofString "_law_x",Str.ofString "_law_y"].length [0,1] [some (.ref p),some (nM R)]=[none,none,some (.ref p),some (nM R)]:=rfl
 simp only[ce,lA]
 refine Rn.bind (cU (cI (fun i δ (o:List D) M'=>(∃z y,δ=[z,y,some (.ref p),some (nM R)])∧o.length=i∧(∀x∈o,Gd (10^10) 2 x∧wt x≤31000)∧bV p M'∧Sb p M M') _ 0 _ [] M ⟨⟨_,_,rfl⟩,rfl,nofun,hp,Sb.refl⟩ fun j d δ o M1 hj hI=>?_)) fun q M1 hI=>?_
 ·obtain⟨⟨z,y,rfl⟩,ol,ho,hp1,s1⟩:=hI
  rw[List.getElem?_map] at hj
  obtain⟨q,hq,rfl⟩:=Option.map_eq_some_iff.mp hj
  have hm:=lZ (List.mem_of_getElem? hq)
  have hj':=(List.getElem?_eq_some_iff.mp hq).1
  have m1:=gr_mem (R:=R) (i:=q.1) (by omega)
  have m2:=gr_mem (R:=R) (i:=q.2) (by omega)
  have lt:o.length<sizeLine:=by show _<2^24;omega
  have tg:gT 2 (dC (gN 0) (dC (gN 1) m9)) (iy q) [z,y,some (.ref p),some (nM R)]=pure [some (nD q.1),some (nD q.2),some (.ref p),some (nM R)]:=rfl
  rw[tg,aq,aq,if_pos rfl]
  simp only[bx,aW,aB,mF (R:=R) (i:=q.1) (by omega),mF (R:=R) (i:=q.2) (by omega)]
  refine Rn.bind (Kv (n:=R.length) (h.row _ m1) (h.row _ m2) (by omega) (by rw[h.sum _ m1,h.sum _ m2]) (by rw[h.sum _ m1];exact hW) hp1) fun d M2 hd=>?_
  obtain⟨A,rfl,J,hp2,s2⟩:=hd
  rw[if_pos lt]
  have g:=zy (W:=W) hn (h.row _ m1) (by rw[h.sum _ m1];exact hW) J
  exact Rn.pure ⟨⟨_,_,rfl⟩,by simp[ol],fun x hx=>by
   rcases List.mem_append.mp hx with hx | hx
   ·exact ho x hx
   ·rw[List.mem_singleton.mp hx];exact g,hp2,s1.trans s2⟩
 ·obtain⟨_,ol,ho,hp1,s1⟩:=hI
  simp only[mJ,aq]
  refine Rn.bindRd (.tup q.2) rfl ?_
  exact Rn.pure ⟨_,rfl,⟨q.2,rfl,by rw[ol];simpa using pl,ho⟩,hp1,s1⟩
theorem xr {tg:D->ao->DM ao}{fb:ao->DM Fl}{n:Nat}{L:List D} (I:Nat->ao->Mo->Prop) (hL:∀ j δ M,I j δ M->M[n]?=some (.lst L)) (h:∀ j d δ M,L[j]?=some d->I j δ M->Rn (tg d δ >>= fb) M fun r M'=>∃ δ',r=.nx δ'∧I (j + 1) δ' M') :
  ∀(k i:Nat) (δ:ao) (M:Mo),i≤L.length->L.length<i+k->I i δ M->Rn (m8 tg fb n k i δ) M fun r M'=>∃δ',r=.nx δ'∧I L.length δ' M'
 |0,i,δ,M,_,h2,_=>by omega
 | k + 1,i,δ,M,h1,h2,hI=>by
   have hM:=hL i δ M hI
   have e:m8 tg fb n (k + 1) i δ=rd (Itn.next (.dyn n) i) >>= fun o=>match o with
    |none=>pure (.nx δ)
    |some d=>(tg d δ>>=fb)>>=fun r=>match r with
      |.nx δ2=>m8 tg fb n k (i+1) δ2
      |.ct δ2=>m8 tg fb n k (i+1) δ2
      |.bk δ2=>pure (.nx δ2)
      |.rt d=>pure (.rt d):=by
    show (rd (Itn.next (.dyn n) i)>>=_)=_
    congr 1
    funext o
    cases o with
    |none=>rfl
    |some d=>exact (aB _ _ _).symm
   rw[e]
   by_cases c:i<L.length
   ·refine Rn.bindRd (some L[i]) (by simp only[Itn.next,hM,List.getElem?_eq_getElem c]) ?_
    refine Rn.bind (h i L[i] δ M (List.getElem?_eq_getElem c) hI) fun r M' ⟨δ',er,hI'⟩=>?_
    subst er
    exact xr I hL h k (i+1) δ' M' (by omega) (by omega) hI'
   ·refine Rn.bindRd none (by simp only[Itn.next,hM,List.getElem?_eq_none (Nat.le_of_not_lt c)]) ?_
    have:i=L.length:=by omega
    subst this
    exact Rn.pure ⟨δ,rfl,hI⟩
theorem LK(l:List D):(rd (jQ (some (-1)) none (.tup l)):DM D)=pure (.tup (l.drop (l.length-1))):=bY fun M=>by
 simp only[jQ,cutD,HT.sIx_none]
 have e:HT.sIx l.length 0 (some (-1))=l.length-1:=by
  show (if (-1:Int)<0 then (-1+(l.length:Int)).toNat else min (-1:Int).toNat l.length)=_
  rw[if_pos (by decide)];omega
 rw[e,List.take_of_length_le (by simp)]
theorem LC(l:List D):(rd (jQ none (some (-1)) (.tup l)):DM D)=pure (.tup (l.take (l.length-1))):=bY fun M=>by
 simp only[jQ,cutD,HT.sIx_none,List.drop_zero,Nat.sub_zero]
 have e:HT.sIx l.length l.length (some (-1))=l.length-1:=by
  show (if (-1:Int)<0 then (-1+(l.length:Int)).toNat else min (-1:Int).toNat l.length)=_
  rw[if_pos (by decide)];omega
 rw[e]
def Th(d:D):Prop:=Gd (2*10^12) 8 d∧wt d≤900000
theorem Th.of{B n:Nat}{d:D}(g:Gd B n d)(hB:B≤2*10^12)(hn:n≤8)(hw:wt d≤900000):Th d:=⟨g.mono hB hn,hw⟩
theorem Th.sub{l m:List D}(h:wO (.tup l))(hm:∀x∈m,x∈l)(ml:m.length≤20):Th (.tup m)∧Th (.lst m):=by
 obtain⟨l',e,hl,h⟩:=h
 cases e
 have g:∀x∈m,Gd (2*10^12) 7 x:=fun x hx=>(h x (hm x hx)).1.mono (by decide) (by decide)
 have w:=jT (c:=31000) (l:=m) fun x hx=>(h x (hm x hx)).2
 have:m.length*(31000+2)≤20*(31000+2):=Nat.mul_le_mul_right _ ml
 exact⟨⟨.tup g,by simp only[wt];omega⟩,.lst g,by simp only[wt];omega⟩
theorem Js {R:List (List Nat)}{W:Nat} (h:WK R W) (hn:R.length≤4) (hW:W≤9000000000):Th (nM R):=by
 have row:∀ r∈R,Gd (10 ^ 10) 1 (nT r)∧wt (nT r)≤7695:=fun r hr=>by
  refine⟨.tup fun d hd=>?_,?_⟩
  ·obtain⟨y,hy,rfl⟩:=List.mem_map.mp hd
   have:=uT hy
   rw[h.sum r hr] at this
   exact .int (by show (y:Int).natAbs≤_;omega)
  ·have:=jT (c:=1921) (l:=r.map nD) fun d hd=>by
    obtain⟨y,hy,rfl⟩:=List.mem_map.mp hd
    simp[nD,wt]
   rw[List.length_map,h.row r hr] at this
   show bu (r.map nD)+3≤_
   omega
 refine⟨.tup fun d hd=>?_,?_⟩
 ·obtain⟨r,hr,rfl⟩:=List.mem_map.mp hd
  exact (row r hr).1.mono (by decide) (by decide)
 ·have:=jT (c:=7695) (l:=R.map nT) fun d hd=>by
   obtain⟨r,hr,rfl⟩:=List.mem_map.mp hd
   exact (row r hr).2
  rw[List.length_map] at this
  show bu (R.map nT)+3≤_
  omega
noncomputable def Em:=aJ 1 11 (Ha wF wJ wN wI Bu qF (u9 4) q9 wG wC BL)
def Oo(cs:List Int)(i:Nat)(δ:ao)(M:Mo):Prop:=∃x1 x2 x3 x4 x5 x6 x7 x8 x9 x10,δ=[some (.scr cs),x1,x2,x3,x4,x5,x6,x7,x8,x9,x10]
theorem Ig (cs:List Int) (hcs:cs.length≤100000):Rn (Em [.scr cs]) [] fun d _=>d=.bl true:=by
 unfold Em Ha Bh;dsimp only
 refine Rn.call rfl ?_
 have st:bz 11 [D.scr cs]=[some (.scr cs),none,none,none,none,none,none,none,none,none,none]:=rfl
 rw[st]
 obtain⟨c0,ec⟩:=JQ cs 0
 have ec':wF [.scr cs,.int 0]=pure (.int c0):=ec
 have l1:∀x:D,kI [x]=pure (.lst [x]):=fun x=>cH (by simp)
 have cl:(cutD (cs.map D.int) (some 1) (some 3)).length≤100000:=by
  unfold cutD
  rw[List.length_take,List.length_drop,List.length_map]
  omega
 have ci:∀d∈[.int c0]++cutD (cs.map D.int) (some 1) (some 3),∃c:Int,d=.int c:=fun d hd=>by
  rcases List.mem_append.mp hd with h | h
  ·exact⟨c0,List.mem_singleton.mp h⟩
  ·unfold cutD at h
   obtain⟨c,_,rfl⟩:=List.mem_map.mp (List.mem_of_mem_drop (List.mem_of_mem_take h))
   exact⟨c,rfl⟩
 have ad:=zQ (a:=[.int c0]) (b:=cutD (cs.map D.int) (some 1) (some 3)) (by simp;omega)
 have a1:(zb (.int 1):DM (Option Int))=pure (some 1):=rfl
 have a3:(zb (.int 3):DM (Option Int))=pure (some 3):=rfl
 refine aF fun K hK=>?_
 simp[ec',l1,NQ]
 rw[a1,aq,a3,aq,ad]
 simp only[aq,Lh,fF,dD,List.map_cons,List.map_nil]
 clear ad cl
 generalize [.int c0]++cutD (cs.map D.int) (some 1) (some 3)=cl at ci
 refine Rn.bind (dm (Oo cs) cl 0 _ _ ⟨_,_,_,_,_,_,_,_,_,_,rfl⟩ (fun j d δ M hj hI=>?_)) (fun r M hI=>?_)
 rotate_left
 ·obtain⟨δ',rfl,_⟩:=hI
  rw[hK]
  exact Rn.pure rfl
 clear hK K
 obtain⟨c,rfl⟩:=ci d (List.mem_of_getElem? hj)
 obtain⟨x1,x2,x3,x4,x5,x6,x7,x8,x9,x10,rfl⟩:=hI
 generalize 0+j+1=nx
 rw[iJ,aq]
 refine aF fun K hK=>?_
 simp only[bN,bx,aB]
 refine Rn.bind (IK c M) fun d M0 ⟨e,hp⟩=>?_
 subst e
 revert hp;generalize M.length=p;intro hp
 try simp only[bN,aq]
 rw[hK];clear hK K
 refine aF fun K hK=>?_
 simp only[bN,bx,aQ,aB]
 refine Rn.bind (Jg (tp:=4) hp (by decide) (by decide)) fun d M1 ⟨R,W,e,wk,hR,hW,hp1,_⟩=>?_
 subst e
 try simp only[aq]
 rw[hK];clear hK K
 refine aF fun K hK=>?_
 simp only[bN,bx,aQ,Hu,aB,Mm wk]
 refine Rn.bind (zF wk hR hW hp1) fun d M2 hd=>?_
 obtain⟨ru,hp2,_⟩:=hd
 try simp only[bN,aq]
 rw[hK];clear hK K
 obtain⟨l,rfl,ll6,lx⟩:=id ru
 refine aF fun K hK=>?_
 simp only[bN,bx,aQ,aB]
 refine Rn.bind (zF wk hR hW hp2) fun d2 M3 hd=>?_
 obtain⟨ru2,hp3,_⟩:=hd
 try simp only[aq,aB]
 refine Rn.bind (JP wk (by omega)) fun d3 M4 hd=>?_
 obtain⟨rfl,ex4⟩:=hd
 have ng:(rd (xW (.int 1)):DM D)=pure (.int (-1)):=rfl
 have an:(zb (.int (-1)):DM (Option Int))=pure (some (-1)):=rfl
 have mt0:qP []=pure (.tup []):=gh (by simp)
 have rv:Bo (.tup l)=some (.tup l.reverse):=rfl
 have dl:(l.drop (l.length-1)).length≤6:=by rw[List.length_drop];omega
 have e7:(rd (bQ (.tup l) (.tup (l.drop (l.length-1)))):DM D)=pure (.tup (l++l.drop (l.length-1))):=dG (by omega)
 try simp only[aq,aB,mt0,ng,an,LC,LK,e7,rv,dD]
 rw[cH (by simp),aq,hK];clear hK K
 have hp4:=hp3.ex ex4
 refine aF fun K hK=>?_
 have ls:(rd (fun M=>(jb [.tup l] M).map D.lst):DM D)=pure (.lst l):=bY fun M=>rfl
 simp only[bN,bx,aQ,aB,ls]
 refine Rn.bind (xX hp4) fun o M5 ho=>?_
 obtain⟨ho,hp5,s5⟩:=ho
 try simp only[aq]
 rw[cH (by simp),aq]
 have g1:=ru.gd
 have all:∀d∈([.tup l,d2,rule R,.tup [],.tup (l.take (l.length-1)),.tup (l++l.drop (l.length-1)),.tup l.reverse]++[.lst l,.non,nM R,o]:List D),Th d:=by
  intro d hd
  have g2:=ru2.gd
  have g3:=(Jc wk hR hW).gd
  simp only[List.cons_append,List.nil_append,List.mem_cons,List.not_mem_nil,or_false] at hd
  rcases hd with rfl | rfl | rfl | rfl | rfl | rfl | rfl | rfl | rfl | rfl | rfl
  ·exact (Th.sub ru (fun x hx=>hx) (by omega)).1
  ·exact .of g2.1 (by decide) (by decide) (by omega)
  ·exact .of g3.1 (by decide) (by decide) (by omega)
  ·exact (Th.sub ru (fun x hx=>absurd hx (by simp)) (by simp)).1
  ·exact (Th.sub ru (fun x hx=>List.mem_of_mem_take hx) (by rw[List.length_take];omega)).1
  ·exact (Th.sub ru (fun x hx=>(List.mem_append.mp hx).elim id List.mem_of_mem_drop) (by rw[List.length_append];omega)).1
  ·exact (Th.sub ru (fun x hx=>List.mem_reverse.mp hx) (by rw[List.length_reverse];omega)).1
  ·exact (Th.sub ru (fun x hx=>hx) (by omega)).2
  ·exact⟨.non,by simp[wt]⟩
  ·exact Js wk hR hW
  ·exact .of ho.1 (by decide) (by decide) (by have:=ho.2;omega)
 refine Rn.bind (Q1:=fun a M'=>a=.ref M5.length∧M'=M5++[.lst ([.tup l,d2,rule R,.tup [],.tup (l.take (l.length-1)),.tup (l++l.drop (l.length-1)),.tup l.reverse]++[.lst l,.non,nM R,o])]) ⟨_,_,rfl,rfl,rfl⟩ fun a M6 ha=>?_
 obtain⟨rfl,rfl⟩:=ha
 have l11:([.tup l,d2,rule R,.tup [],.tup (l.take (l.length-1)),.tup (l++l.drop (l.length-1)),.tup l.reverse]++[.lst l,.non,nM R,o]:List D).length=11:=rfl
 revert all l11
 generalize ([.tup l,d2,rule R,.tup [],.tup (l.take (l.length-1)),.tup (l++l.drop (l.length-1)),.tup l.reverse]++[.lst l,.non,nM R,o]:List D)=L0
 intro all l11
 have hp6:bV p (M5++[DO.lst L0]):=hp5.sb (q:=M5.length) ⟨by simp,fun q _ hq=>List.getElem?_append_left hq⟩ (Nat.ne_of_lt hp5.lt)
 have pq:=hp5.lt
 have a6:(M5++[DO.lst L0])[M5.length]?=some (.lst L0):=by simp
 revert hp6 pq a6
 generalize M5++[DO.lst L0]=M6
 generalize M5.length=q
 intro hp6 pq a6
 rw[hK];clear hK K
 refine aF fun K hK=>?_
 have r14:pD [.int 14]=some (.fix ((List.range 14).map nD)):=yC (n:=14) (by omega)
 simp only[bN,bx,aQ,aB,r14,fF]
 refine Rn.bind (dm (fun i δ M'=>(∃y7,δ=[some (.scr cs),some (.int c),some (.ref p),some (nM R),some (cD R W),some (.tup l),some (.ref q),y7,x8,x9,x10])∧bV p M'∧∃L,M'[q]?=some (.lst L)∧L.length=11+i∧∀d∈L,Th d) _ 0 _ _ ⟨⟨_,rfl⟩,hp6,L0,a6,l11,all⟩ (fun i d δ M7 hi hI=>?_)) (fun rr M7 hI=>?_)
 ·clear hK K
  obtain⟨⟨y7,rfl⟩,hp7,L,aL,lL,hL⟩:=hI
  rw[Nat.zero_add] at lL ⊢
  have hi':i<14:=by
   have:=(List.getElem?_eq_some_iff.mp hi).1
   simpa using this
  rw[iJ,aq]
  simp only[bN,bx,aQ,aB]
  refine Rn.bindRd L (by simp only[aO,aL]) ?_
  refine Rn.bind (J3 4 (k:=3) (by decide) g1.1 hp7 (by omega)) fun r M8 hr=>?_
  obtain⟨hr,hp8,s8⟩:=hr
  have aL8:=s8.at (q:=q) (by omega) aL
  refine Rn.run (pU aL8 (by omega)) ?_
  try simp only[aq]
  have lt8:=(List.getElem?_eq_some_iff.mp aL8).1
  exact Rn.pure ⟨_,rfl,⟨_,rfl⟩,hp8.sb (q:=q) Sb.set (by omega),L++[r],by rw[List.getElem?_set_self lt8],by simp[lL];omega,fun x hx=>by
   rcases List.mem_append.mp hx with hx | hx
   ·exact hL x hx
   ·rw[List.mem_singleton.mp hx]
    exact .of hr.1 (by decide) (by decide) (by have:=hr.2;omega)⟩
 obtain⟨δ',rfl,⟨y7,rfl⟩,hp7,L,aL,lL,hL⟩:=hI
 rw[hK];clear hK K
 simp only[bN,bx,aQ,aB]
 refine Rn.bindRd (.dyn q) (by simp only[oN,aL]) ?_
 refine Rn.mono (xr (L:=L) (fun i δ M'=>(∃y8 y9 y10,δ=[some (.scr cs),some (.int c),some (.ref p),some (nM R),some (cD R W),some (.tup l),some (.ref q),y7,y8,y9,y10])∧bV p M'∧M'[q]?=some (.lst L)) (fun j δ M' h=>h.2.2) (fun i d δ M8 hi hI=>?_) 60 0 _ _ (Nat.zero_le _) (by rw[lL];decide) ⟨⟨_,_,_,rfl⟩,hp7,aL⟩) (fun rr M8 hI=>?_)
 rotate_left
 ·obtain⟨δ',rfl,⟨_,_,_,rfl⟩,_,_⟩:=hI
  exact⟨_,rfl,_,_,_,_,_,_,_,_,_,_,rfl⟩
 obtain⟨⟨y8,y9,y10,rfl⟩,hp8,aL8⟩:=hI
 have th:=hL d (List.mem_of_getElem? hi)
 have nB:(2*10^12:Nat)<2^1000:=by decide
 obtain⟨sx,es⟩:=th.1.sh nB (by omega) (by have:=th.2;omega)
 have i1:=Ie wk (by omega) th.1 (by have:=th.2;omega)
 have i2:=CQ wk (by omega) th.1 (by have:=th.2;omega)
 obtain⟨sb,eb⟩:=(Gd.bl (B:=0) (n:=0) (iu R d)).sh (by decide) (by decide) (by simp[wt])
 have ns:∀s:Str,(rd (fU (.str s) (.str s)):DM D)=pure (.bl false):=fun s=>by rw[NP,decide_eq_true rfl];rfl
 rw[iJ,aq]
 refine aF fun K hK=>?_
 simp only[bN,bx,aQ,Hu,aB,es,i1]
 rw[hK];clear hK K
 refine aF fun K hK=>?_
 simp only[bN,bx,aQ,aB,i2,eb,ns,gU,Bool.false_eq_true,if_false,es]
 rw[hK];clear hK K
 simp only[bN,bx,aQ,aB,show ∀b:Bool,(rd (iR (.bl b)):DM Bool)=pure b from fun _=>rfl]
 cases hr:iu R d with
 |true=>
   rw[if_neg (by decide),aq,if_neg (by decide)]
   exact Rn.pure ⟨_,rfl,⟨_,_,_,rfl⟩,hp8,aL8⟩
 |false=>
   rw[if_pos rfl]
   simp only[aB]
   refine Rn.bind (Ly wk (by omega) th.1 (by have:=th.2;omega) hr M8) fun e M9 he=>?_
   obtain⟨rfl,gw⟩:=he
   rw[show (rd (iR (.bl true)):DM Bool)=pure true from rfl,aq,aq,if_neg (by decide)]
   have sw:=gw.sb M8.length
   exact Rn.pure ⟨_,rfl,⟨_,_,_,rfl⟩,hp8.sb (q:=M8.length) sw (Nat.ne_of_lt hp8.lt),sw.at (Nat.ne_of_lt (List.getElem?_eq_some_iff.mp aL8).1) aL8⟩
def Ho(K:PySem.W.Frag):Bool:=K.all fun p=>!(p.2.cls==.type "list")
theorem KQ {K:PySem.W.Frag} (h:Ho K=true) {a:Addr}{o:Obj} (e:K.lookup a=some o):o.cls≠.type "list":=by
 have:∀ (l:List (Addr×Obj)),(l.all fun p=>!(p.2.cls == .type "list"))=true->l.lookup a=some o->o.cls≠.type "list":=by
  intro l
  induction l with
  |nil=>intro _ e;cases e
  | cons p l ih=>
    intro h e
    rw[List.all_cons,Bool.and_eq_true] at h
    rw[List.lookup_cons] at e
    split at e
    ·cases e
     intro z
     rw[z] at h
     exact absurd h.1 (by decide)
    ·exact ih h.2 e
 exact this K h e
structure Cls(K:PySem.W.Frag)(mg:Str->Option Value)(CE_NoRule CE0 CC_Walk:Addr)(tg_MOST_PLACES:Tok):Prop where
 t:XTab K mg uq CE0
 m_FadeError:mg "FadeError"=some (.ref CE0)
 fk:∀c∈uq,∀C,mg c=some (.ref C)->FlK K mg mU c C
 mL:∀x∈mU,∃C,mg x=some (.ref C)
 m_MOST_PLACES:mg "MOST_PLACES"=some (.int 25 tg_MOST_PLACES)
 o_Walk:OCls K mg "Walk" CC_Walk ["rows", "whole"]
 k_Walk:PySem.W.makesIn K CC_Walk=true∧PySem.W.keepIn K (.ref CC_Walk)=true
 nl:Ho K=true
theorem JR {K:PySem.W.Frag}{h:Heap}{mg:Str->Option Value} (X:K.In h) (G:h.Ns mainGlobals mg) {CE_NoRule CE0 CC_Walk:Addr}{tg_MOST_PLACES:Tok}
  (cE0:PySem.W.nsIn K mainGlobals "FadeError"=some (some (.ref CE0)))
  (c_NoRule:PySem.W.nsIn K mainGlobals "NoRule"=some (some (.ref CE_NoRule)))
  (eE0:PySem.W.excIn K CE0 uX "ValueError.__new__"=true)
  (e_NoRule:PySem.W.excIn K CE_NoRule uX "ValueError.__new__"=true)
  (s_NoRule:PySem.W.mroIn K CE_NoRule (.ref CE0)=some true)
  (x1_NoRule:PySem.W.findIn K (.ref CE_NoRule) "__getattribute__"=some (some (.builtin "BaseException.__getattribute__")))
  (x2_NoRule:PySem.W.findIn K (.ref CE_NoRule) "__getattr__"=some none)
  (x3_NoRule:PySem.W.findIn K (.ref CE_NoRule) "__class__"=some (some (.builtin "object.__class__")))
  (x4_NoRule:PySem.W.mroIn K CE_NoRule (.type "object")=some true)
  (x5_NoRule:PySem.W.mroIn K CE_NoRule (.type "BaseException")=some true)
  (v_NoRule_NoRule:PySem.W.kitOne K (.ref CE_NoRule) (.ref CE_NoRule)=some true)
  (fv_NoRule:PySem.W.kitOne K (.ref CE_NoRule) (.type "ValueError")=some true)
  (fo_NoRule:PySem.W.kitAny K (.ref CE_NoRule) (Bc.map Value.type)=some false)
  (nk_NoRule:vf K CE_NoRule "NoRule" mU)
  (g_MOST_PLACES:PySem.W.nsIn K mainGlobals "MOST_PLACES"=some (some (.int 25 tg_MOST_PLACES)))
  (cm_Walk:PySem.W.nsIn K mainGlobals "Walk"=some (some (.ref CC_Walk)))
  (pg_Walk:PySem.W.plainGet K CC_Walk Str.empty=true)
  (hd_Walk:PySem.W.hasDictIn K CC_Walk=true)
  (po_Walk:PySem.W.plainOver K CC_Walk=true)
  (sa_Walk:PySem.W.findIn K (.ref CC_Walk) "__setattr__"=some (some (.builtin "object.__setattr__")))
  (mk_Walk:PySem.W.makesIn K CC_Walk=true)
  (kc_Walk:PySem.W.keepIn K (.ref CC_Walk)=true)
  (nf_Walk_rows:PySem.W.findIn K (.ref CC_Walk) "rows"=some none)
  (nf_Walk_whole:PySem.W.findIn K (.ref CC_Walk) "whole"=some none)
  (nl:Ho K=true)
  : Cls K mg CE_NoRule CE0 CC_Walk tg_MOST_PLACES:=by
 have m_NoRule:=PySem.W.mg_of X G c_NoRule
 have nof_Walk:∀f∈(["rows", "whole"]:List Str),NoAttr K CC_Walk f:=by
  intro f hf
  simp only[List.mem_cons,List.not_mem_nil,or_false] at hf
  rcases hf with rfl | rfl
  ·exact nf_Walk_rows
  ·exact nf_Walk_whole
 refine⟨⟨fun a ha=>?_,fun a ha b hb C D hC hD=>?_⟩,PySem.W.mg_of X G cE0,fun c hc C hC=>?_,fun x hx=>let ⟨d,e,_⟩:=nk_NoRule.at hx;⟨d,PySem.W.mg_of X G e⟩,PySem.W.mg_of X G g_MOST_PLACES,⟨PySem.W.mg_of X G cm_Walk,⟨pg_Walk,hd_Walk,po_Walk,sa_Walk⟩,nof_Walk⟩,⟨mk_Walk,kc_Walk⟩,nl⟩
 ·simp only[List.mem_cons,List.not_mem_nil,or_false] at ha
  rcases ha with rfl
  ·exact⟨CE_NoRule,⟨m_NoRule,e_NoRule⟩,⟨x1_NoRule,x2_NoRule,x3_NoRule,x4_NoRule,x5_NoRule⟩,⟨e_NoRule,eE0,s_NoRule⟩⟩
 ·simp only[List.mem_cons,List.not_mem_nil,or_false] at ha hb
  rcases ha with rfl<;>rcases hb with rfl
  ·rw[m_NoRule] at hC;rw[m_NoRule] at hD;cases hC;cases hD;exact v_NoRule_NoRule
 ·simp only[List.mem_cons,List.not_mem_nil,or_false] at hc
  rcases hc with rfl
  ·rw[m_NoRule] at hC;cases hC
   exact J8 X G nk_NoRule ⟨x1_NoRule,x2_NoRule,x3_NoRule,x4_NoRule,x5_NoRule⟩ fv_NoRule fo_NoRule
def spLaw(ts:List (Addr×Addr)):Sp:=fun vs H Q _=>∃(a:Addr) (ns:List Int),vs=[.ref a]∧Rd H a (.lst (ns.map V.int))∧ns.length≤63∧(∀q∈ts,H q.2=some (.tbl #[]))∧∀H',Q (.bl true) H'
theorem N8{mg:Str->Option Value}{ts:List (Addr×Addr)}{vs:List V}{H:Hp}{Q:VK}{E:XK}(h:spLaw ts vs H Q E):yK mg Em vs H Q E∧∀q∈ts,H q.2=some (.tbl #[]):=by
 obtain⟨a,ns,rfl,rd,hl,ht,q⟩:=h
 obtain⟨d,M',e,ed⟩:=Ig ns (by omega)
 refine⟨⟨⟨[],[]⟩,[],[.scr ns],.cons (.scr (fun z=>by rcases z with z | z<;>cases z) rd) .nil,⟨rfl,List.nodup_nil,fun n a o h=>by simp at h,fun a h=>by cases h⟩,_,e,fun ρ' H' b x j c=>?_⟩,ht⟩
 subst ed
 cases c
 exact q H'
theorem all_mk{P:Program}{w:World}{K:PySem.W.Frag}{mg:Mg}{fa c_ P_:Addr}{CE_NoRule CE0 CC_Walk:Addr}{tg_MOST_PLACES:Tok}(hfa:mg "law"=some (.ref fa)){h:Heap}(X:K.In h)(G:h.Ns mainGlobals mg)(ht_:PySem.W.tabIn K "_law_refused"=some (c_,P_))(t0:TD K "is_whole" nY)(t1:TD K "are_weights" iM)(t2:TD K "are_rows" nW)(t3:TD K "joins" uM)(t4:TD K "least_joining" gq)(t5:TD K "pairs_of" nZ)(t6:TD K "are_joinings" gP)(t7:TD K "least_joinings" fK)(t8:TD K "can_be_walked" gm)(t9:MethAt K CC_Walk "__init__" "Walk.__init__" gk)(t10:TD K "is_rule" pG)(t11:TD K "refuse_no_rule" fL)(t12:TD K "best_rule" lO)(t13:TD K "unmet" qp)(t14:TD K "meets" uN)(t15:TD K "_law_cell_at" gJ)(t16:TD K "_law_next" lK)(t17:TD K "_law_pen_of" iK)(t18:TD K "_law_draw" lJ)(t19:TD K "_law_whole" jL)(t20:TD K "_law_odd" nR)(t21:TD K "_law_bent" lH)(t22:TD K "_law_deep" gW)(t23:TD K "_law_row" nU)(t24:TD K "_law_rows" lM)(t25:TD K "_law_pairs" jK)(t26:TD K "_law_joining" gO)(t27:TD K "_law_rule" lN)(t28:TD K "_law_is_joining" eX)(t29:TD K "_law_is_rule" gM)(t30:TD K "_law_flags" dY)(t31:TD K "_law_said" fD)(t32:TD K "_law_refused" eN)(t33:TD K "law" wy)(z0:TB K "ValueError")(z1:TB K "all")(z2:TB K "bool")(z3:TB K "int")(z4:TB K "isinstance")(z5:TB K "len")(z6:TB K "list")(z7:TB K "max")(z8:TB K "min")(z9:TB K "range")(z10:TB K "repr")(z11:TB K "sorted")(z12:TB K "sum")(z13:TB K "tuple")(z14:TB K "zip")(Z:Cls K mg CE_NoRule CE0 CC_Walk tg_MOST_PLACES) :
  ∃fd:FuncData,(∀(s:Shared) (v:Value),BindsTo s fd ⟨[v],[]⟩ [("_law_script",v)])∧∀base:Heap,K.In base->base.Ns mainGlobals mg->(∀q∈[(c_,P_)],TabD mg base q.1 q.2)->FnOk P w K mg base (cj P w) 16 fa fd ["_law_script"] (spLaw [(c_,P_)]):=by
 obtain⟨f,fd,F,m⟩:=(t33 X G).ex
 have e:=hfa.symm.trans m
 cases e
 refine⟨fd,?_,fun base _ _ TD_=>?_⟩
 ·obtain⟨oc,od,kV,doc,pm,an,cdv,ct,osl,rfl,_⟩:=F.ex
  exact fun s v=>.of_eq rfl
 have yz0:=PySem.W.mg_none_of X G z0
 have yz1:=PySem.W.mg_none_of X G z1
 have yz2:=PySem.W.mg_none_of X G z2
 have yz3:=PySem.W.mg_none_of X G z3
 have yz4:=PySem.W.mg_none_of X G z4
 have yz5:=PySem.W.mg_none_of X G z5
 have yz6:=PySem.W.mg_none_of X G z6
 have yz7:=PySem.W.mg_none_of X G z7
 have yz8:=PySem.W.mg_none_of X G z8
 have yz9:=PySem.W.mg_none_of X G z9
 have yz10:=PySem.W.mg_none_of X G z10
 have yz11:=PySem.W.mg_none_of X G z11
 have yz12:=PySem.W.mg_none_of X G z12
 have yz13:=PySem.W.mg_none_of X G z13
 have yz14:=PySem.W.mg_none_of X G z14
 have D0:DefD P w K mg base _ _ _ qD:=okd (t0 X G) yU ((tX).2 yz2 yz3 yz4)
 have D1:DefD P w K mg base _ _ _ oK:=okd (t1 X G) uO ((oG qD).2 D0 yz1 yz4 yz5 yz13)
 have D2:DefD P w K mg base _ _ _ oA:=okd (t2 X G) yS ((tW oK).2 D1 yz1 yz4 yz5 yz13)
 have D3:DefD P w K mg base _ _ _ vd:=okd (t3 X G) yI ((zP oA).2 D2 yz5 yz6 yz9 yz12 yz13)
 have D4:DefD P w K mg base _ _ _ By:=okd (t4 X G) jO ((gf).2 yz5 yz8 yz9 yz13)
 have D5:DefD P w K mg base _ _ _ wK:=okd (t5 X G) yV ((tY).2 yz5 yz9)
 have D6:DefD P w K mg base _ _ _ wD:=okd (t6 X G) lg ((my wK vd).2 D5 D3 yz1 yz4 yz5 yz13 yz14)
 have D7:DefD P w K mg base _ _ _ wH:=okd (t7 X G) qz ((fJ wK By).2 D5 D4 yz13)
 have D8:DefD P w K mg base _ _ _ Bw:=okd (t8 X G) jN ((kO oA).2 D2 Z.m_MOST_PLACES yz1 yz4 yz5 yz12 yz13)
 have M9:MethD P w K mg base _ "Walk" _ _ _ _ Fin:=Qh t9 Z.o_Walk.at_ Z.o_Walk.cls rW ((kJ Bw).2 D8 Z.o_Walk yz12)
 have W_Walk:ClsD P w K mg base _ "Walk" wC:=Ox M9 (fun _ _ _ _ _ _ us hl=>match us,hl with | [_,_],_=>rfl) (fun C hC=>by
  have q:=hC.symm.trans Z.o_Walk.at_
  cases q
  exact Z.k_Walk) Mp
 have D10:DefD P w K mg base _ _ _ wG:=okd (t10 X G) Bq ((vJ wD).2 D6 Z.o_Walk)
 have D11:DefD P w K mg base _ _ _ rm:=okd (t11 X G) qC ((jH wG).2 D10 Z.t)
 have D12:DefD P w K mg base _ _ _ Bu:=okd (t12 X G) yG ((lG wH).2 D7 Z.o_Walk)
 have K13:DefK P w K mg base _ _ _ _ BR:=Qg (t13 X G) GK ((uK rm).2 D11)
 have D14:DefD P w K mg base _ _ _ BJ:=okd (t14 X G) GJ ((uJ rm).2 D11)
 have D15:DefD P w K mg base _ _ _ wF:=okd (t15 X G) ug ((mj).2 yz5)
 have D16:DefD P w K mg base _ _ _ BK:=okd (t16 X G) pJ ((qU).2 )
 have D17:DefD P w K mg base _ _ _ wJ:=okd (t17 X G) mO ((iI).2 yz3 yz7)
 have D18:DefD P w K mg base _ _ _ gY:=okd (t18 X G) pI ((lC BK).2 D16)
 have D19:DefD P w K mg base _ _ _ rZ:=okd (t19 X G) vR ((ph).2 yz2 yz3 yz4)
 have D20:DefD P w K mg base _ _ _ qF:=okd (t20 X G) qW ((nG gY).2 D18)
 have D21:DefD P w K mg base _ _ _ yX:=okd (t21 X G) pH ((lz qF gY).2 D20 D18 yz5 yz6)
 have R22:∀n,DefD P w K mg base (4+n) _ _ (u9 n):=fun n=>by
  induction n with
  |zero=>exact (okd (k:=3) (t22 X G) jM fun _=>oY)
  |succ n ih=>exact okd (t22 X G) jM ((lB gY rZ yX qF (u9 n)).2 (Nat.le_add_right _ _) D18 D19 D21 D20 ih yz4 yz5 yz13)
 have D22:DefD P w K mg base _ _ _ (u9 4):=R22 _
 have D23:DefD P w K mg base _ _ _ wM:=okd (t23 X G) qX ((nH gY).2 D18 yz5 yz9 yz13)
 have D24:DefD P w K mg base _ _ _ wN:=okd (t24 X G) pK ((lD gY wM).2 D18 D23 yz6 yz9 yz13)
 have D25:DefD P w K mg base _ _ _ wL:=okd (t25 X G) oJ ((jG).2 yz9 yz11)
 have D26:DefD P w K mg base _ _ _ yZ:=okn (fun N=>eE N gY) (t26 X G) kY MN fun N=>(gG N gY).2 D18 yz5 yz6 yz8 yz9 yz12 yz13
 have D27:DefD P w K mg base _ _ _ wI:=okd (t27 X G) yF ((lE wL yZ).2 D25 D26 yz5 yz13)
 have D28:DefD P w K mg base _ _ _ Bx:=okd (t28 X G) iC ((eV rZ).2 D19 yz4 yz5 yz6 yz9 yz12 yz13)
 have D29:DefD P w K mg base _ _ _ q9:=okd (t29 X G) kW ((mq wL Bx).2 D25 D28 yz1 yz4 yz5 yz13 yz14)
 have FG:FlgD P w K mg base 0 _ uq xj:=O3 (t30 X G) oH Z.fk MF fun hr FK ho h0 hn hf=>(jF).2 Z.mL yz0 yz4 hr FK ho h0 hn hf
 have H31:HrdD P w K mg base _ _ BP:=Qc (k:=9) (t31 X G) pL fun hr ht=>(lF xj).2 Z.t Z.m_FadeError FG (by decide) ht hr
 have T32:DefT P w K mg base _ _ _ P_ BL:=Qf (t32 X G) kZ X G ht_ fun hP hc hr=>(gH BJ BR BP).2 D14 K13 H31 (TD_ _ (.head _)) hc hP hr
 exact ((OD (P:=P) (w:=w) (base:=base) (ts:=[(c_,P_)]) F DR fun cdv A outer s H E ht hr=>(Bh wF wJ wN wI Bu qF (u9 4) q9 wG wC BL).2 D15 D17 D24 D27 D12 D20 D22 D29 D10 W_Walk yz6 yz9 yz10 T32 ⟨_,ht _ (.head _)⟩ hr).imp fun vs H Q E h=>N8 h).mono (by decide)
theorem walk {l:PySem.W.OpenLaw}{q:Program}{loose:List Str}{XP:(Str->Option Value)->Heap->Prop}{YP:World->Heap->Prop}{d:DefRec}{K:Params->PySem.W.Frag}{c_ P_:Addr} (hn:l.most=some 63) (hdf:d.params.defaults=[])
  (hY:∀(w:World) (h:Heap),YP w h->(K w.params).In h) (hnl:∀w:World,Ho (K w.params)=true) (h1:((PyProof.Rows.recsOf q).find? (fun e=>e.name==("_law_refused":Str))).isSome=true) (h2:∀w:World,PySem.W.tabIn (K w.params) "_law_refused"=some (c_,P_)) (h3:∀w:World,(K w.params).lookup P_=none)
  (F:∀(w:World) (mg:Str->Option Value) (fa:Addr) (h:Heap),(K w.params).In h->h.Ns mainGlobals mg->mg d.name=some (.ref fa)->
    ∃fd:FuncData,(∀(s:Shared) (u:Value),BindsTo s fd ⟨[u],[]⟩ [("_law_script",u)])∧∀base:Heap,(K w.params).In base->base.Ns mainGlobals mg->(∀q∈[(c_,P_)],TabD mg base q.1 q.2)->FnOk l.prog w (K w.params) mg base (cj l.prog w) 16 fa fd ["_law_script"] (spLaw [(c_,P_)])) :
  PySem.W.WalkO q loose XP YP l.row.toRowW d [] (fun f vs=>PySem.call f vs):=
 L2.GZ (n:=63) (k:=16) (x := "_law_script") (CX:=fun w=>cj l.prog w) (sp:=spLaw) (tn:=[("_law_refused",c_,P_)]) hn (by decide) hdf ⟨rfl,by decide,by decide,rfl⟩ hY (fun w a o e=>KQ (hnl w) e) (fun t ht=>by rw[List.mem_singleton.mp ht];exact h1) (fun w t ht=>by rw[List.mem_singleton.mp ht];exact h2 w) (fun w t ht=>by rw[List.mem_singleton.mp ht];exact h3 w) F (fun _ a ns hl hS hH=>⟨a,ns,rfl,hS,hl,hH,fun _=>rfl⟩) fun _ _ _ _ _ z=>by
  obtain⟨_,_,_,_,_,_,_,_,_,_,_,_,_,q⟩:=z
  exact q.elim
end K
open PySem PySem.W PyProof.Rows
set_option maxRecDepth 100000 in
set_option maxHeartbeats 0 in
theorem PySem.Challenge.cw_fadewalk_k55_rules_known_holds : PySem.Challenge.rw_fadewalk_k55_rules_known.Holds := by
 w_on;refine T.cut ?_
 k_fill
 refine' K.walk (l:=PySem.Challenge.rw_fadewalk_k55_rules_known) rfl rfl (fun w h Y=>PySem.W.km_in_of Y) ?nl9 ?h1 ?h2 ?h3 ?F
 case h2=>
  intro w
  refine' L2.Ea ?qa ?ql ?qc ?qd ?qe
  case qa=>k_is
  case ql=>k_is
  case qc=>exact rfl
  case qd=>k_is
  case qe=>exact rfl
 case nl9=>intro w;first | k_is | kernel_rfl
 case h1=>decide +kernel
 case h3=>intro w;first | k_is | kernel_rfl
 case F=>
  intro w mg fa h KX G hmg
  refine' K.all_mk hmg KX G ?ht ?t0 ?t1 ?t2 ?t3 ?t4 ?t5 ?t6 ?t7 ?t8 ?t9 ?t10 ?t11 ?t12 ?t13 ?t14 ?t15 ?t16 ?t17 ?t18 ?t19 ?t20 ?t21 ?t22 ?t23 ?t24 ?t25 ?t26 ?t27 ?t28 ?t29 ?t30 ?t31 ?t32 ?t33 ?z0 ?z1 ?z2 ?z3 ?z4 ?z5 ?z6 ?z7 ?z8 ?z9 ?z10 ?z11 ?z12 ?z13 ?z14 (K.JR KX G ?cE0 ?c_NoRule ?eE0 ?e_NoRule ?s_NoRule ?x1_NoRule ?x2_NoRule ?x3_NoRule ?x4_NoRule ?x5_NoRule ?v_NoRule_NoRule ?fv_NoRule ?fo_NoRule ?nk_NoRule ?g_MOST_PLACES ?cm_Walk ?pg_Walk ?hd_Walk ?po_Walk ?sa_Walk ?mk_Walk ?kc_Walk ?nf_Walk_rows ?nf_Walk_whole ?nl)
  case ht=>
   refine' L2.Ea ?qa ?ql ?qc ?qd ?qe
   case qa=>k_is
   case ql=>k_is
   case qc=>exact rfl
   case qd=>k_is
   case qe=>exact rfl
  case cm_Walk=>k_is
  case cE0 | c_NoRule | eE0 | e_NoRule | s_NoRule | x1_NoRule | x2_NoRule | x3_NoRule | x4_NoRule | x5_NoRule | v_NoRule_NoRule | fv_NoRule | fo_NoRule | g_MOST_PLACES | pg_Walk | hd_Walk | po_Walk | sa_Walk | mk_Walk | kc_Walk | nf_Walk_rows | nf_Walk_whole | nl=>first | k_is | k_exc | kernel_rfl
  case nk_NoRule=>
   refine' (L3.bL false ?_ ?_ rfl (L3.bL false ?_ ?_ rfl (L3.bL false ?_ ?_ rfl (L3.bL false ?_ ?_ rfl (L3.bL false ?_ ?_ rfl (L3.bL false ?_ ?_ rfl (L3.bL false ?_ ?_ rfl (L3.bL false ?_ ?_ rfl (L3.bL false ?_ ?_ rfl (L3.bL false ?_ ?_ rfl (L3.bL false ?_ ?_ rfl (L3.bL false ?_ ?_ rfl (L3.bL false ?_ ?_ rfl (L3.bL true ?_ ?_ rfl (L3.bL false ?_ ?_ rfl (L3.bL false ?_ ?_ rfl (L3.bL false ?_ ?_ rfl (L3.bL false ?_ ?_ rfl (L3.bL false ?_ ?_ rfl (L3.bL false ?_ ?_ rfl True.intro))))))))))))))))))))
   all_goals try (first | k_is | k_exc | kernel_rfl)
  case t9=>apply L2.Dg<;>k_is
  case t0 | t1 | t2 | t3 | t4 | t5 | t6 | t7 | t8 | t10 | t11 | t12 | t13 | t14 | t15 | t16 | t17 | t18 | t19 | t20 | t21 | t22 | t23 | t24 | t25 | t26 | t27 | t28 | t29 | t30 | t31 | t32 | t33=>apply L3.Od<;>k_is
  case z0 | z1 | z2 | z3 | z4 | z5 | z6 | z7 | z8 | z9 | z10 | z11 | z12 | z13 | z14=>delta L3.TB;k_is
